import PyProof.Rows.All
import Wide.All
import OpenK.AllK
import Wide.FinOn
import Lean
import PyProof.EqAt
import PyProof.EqKinds
import PyProof.TupleCall
import PySem.Challenge.RW_offerhouse_k68_whole_gains_of_sellers
set_option Elab.async false
set_option linter.all false
set_option synthInstance.maxSize 10000
set_option synthInstance.maxHeartbeats 60000
namespace QA
inductive E | v (i:Nat) | k (n:Nat) | i (z:Int) | u (b:Bool) (x y:E) | a (x y:E) | s (x y:E) | n (x:E) | m (s:Bool) (n:Nat) (z:Int) (x:E) | c (x:E)
inductive F | le (d t:Bool) (x y:E) | eq (t:Bool) (x y:E) | ff | no (f:F) | an (f g:F) | or (f g:F) | im (f g:F) | io (f g:F)
structure C where
  i:List Int
  n:List Nat
noncomputable def gi:List Int->Nat->Int
  | [],_=>0
  | x::_,0=>x
  | _::l,i+1=>gi l i
noncomputable def gn:List Nat->Nat->Nat
  | [],_=>0
  | x::_,0=>x
  | _::l,i+1=>gn l i
noncomputable def den (c:C):E->Nat × Int
  | .v i=>(gn c.n i,gi c.i i)
  | .k n=>(n,0)
  | .i z=>(0,z)
  | .u b x y=>(cond b (max (den c x).1 (den c y).1) (min (den c x).1 (den c y).1),cond b (max (den c x).2 (den c y).2) (min (den c x).2 (den c y).2))
  | .a x y=>((den c x).1+(den c y).1,(den c x).2+(den c y).2)
  | .s x y=>((den c x).1 - (den c y).1,(den c x).2 - (den c y).2)
  | .n x=>(0,- (den c x).2)
  | .m s n z x=>(cond s (n * (den c x).1) ((den c x).1 * n),cond s (z * (den c x).2) ((den c x).2 * z))
  | .c x=>((den c x).2.toNat,((den c x).1:Int))
noncomputable def dF (c:C):F->Prop
  | .le d t x y=>cond d (cond t ((den c x).1 < (den c y).1) ((den c x).2 < (den c y).2)) (cond t ((den c x).1<=(den c y).1) ((den c x).2<=(den c y).2))
  | .eq t x y=>cond t ((den c x).1=(den c y).1) ((den c x).2=(den c y).2)
  | .ff=>False
  | .no f=>¬ dF c f
  | .an f g=>dF c f/\dF c g
  | .or f g=>dF c f ∨ dF c g
  | .im f g=>dF c f->dF c g
  | .io f g=>(dF c f ↔ dF c g)
noncomputable def ev (r:Nat->Int):List Int->Int
  | []=>0
  | c::l=>c * r 0+ev (λi=>r (i+1)) l
noncomputable def ad:List Int->List Int->List Int
  | [],m=>m
  | x::l,[]=>x::l
  | x::l,y::m=>Int.add x y::ad l m
noncomputable def sc (k:Int):List Int->List Int
  | []=>[]
  | x::l=>Int.mul k x::sc k l
theorem ev_ad:∀ (l m:List Int) (r:Nat->Int),ev r (ad l m)=ev r l+ev r m
  | [],m,r=>(Int.zero_add _).symm
  | x::l,[],r=>(Int.add_zero _).symm
  | x::l,y::m,r=>by
    show (x+y) * r 0+ev _ (ad l m)=(x * r 0+ev _ l)+(y * r 0+ev _ m)
    rw [ev_ad l m,Int.add_mul];omega
theorem ev_sc (k:Int):∀ (l:List Int) (r:Nat->Int),ev r (sc k l)=k * ev r l
  | [],r=>(Int.mul_zero k).symm
  | x::l,r=>by
    show k * x * r 0+ev _ (sc k l)=k * (x * r 0+ev _ l)
    rw [ev_sc k l,Int.mul_add,Int.mul_assoc]
noncomputable def zz:List Int->List Int
  | []=>[]
  | k::l=>k::0::0::l
noncomputable def ui:Nat->List Int
  | 0=>[0,1]
  | i+1=>zz (ui i)
noncomputable def un:Nat->List Int
  | 0=>[0,0,1]
  | i+1=>zz (un i)
noncomputable def rr (c:C):Nat->Nat->Int
  | j,0=>gi c.i j
  | j,1=>(gn c.n j:Int)
  | j,i+2=>rr c (j+1) i
noncomputable def rho (c:C) (j:Nat):Nat->Int
  | 0=>1
  | i+1=>rr c j i
theorem ev_zz {c:C} {j:Nat}:∀ l,ev (rho c j) (zz l)=ev (rho c (j+1)) l
  | []=>rfl
  | k::l=>by
    show k * 1+(0 * _+(0 * _+ev _ l))=k * 1+ev _ l
    rw [Int.zero_mul,Int.zero_mul,Int.zero_add,Int.zero_add];rfl
theorem ev_ui {c:C}:∀ (i j:Nat),ev (rho c j) (ui i)=gi c.i (j+i)
  | 0,j=>by show 0 * _+(1 * gi c.i j+0)=gi c.i j;omega
  | i+1,j=>by show ev _ (zz _)=_;rw [ev_zz,ev_ui i];congr 1;omega
theorem ev_un {c:C}:∀ (i j:Nat),ev (rho c j) (un i)=(gn c.n (j+i):Int)
  | 0,j=>by show 0 * _+(0 * _+(1 * (gn c.n j:Int)+0))=(gn c.n j:Int);omega
  | i+1,j=>by show ev _ (zz _)=_;rw [ev_zz,ev_un i];congr 2;omega
noncomputable def ge (k:Int) (x y:List Int):List Int:=ad [k] (ad y (sc (-1) x))
theorem ev_ge {c:C} {k:Int} {x y:List Int}:ev (rho c 0) (ge k x y)=k+ev (rho c 0) y - ev (rho c 0) x:=by
  unfold ge;rw [ev_ad,ev_ad,ev_sc];show k * 1+0+_=_;omega
noncomputable def Al (r:Nat->Int) (l:List (List Int)):Prop:=∀ x∈l,0<=ev r x
theorem al_c {r:Nat->Int} {x:List Int} {l:List (List Int)} (h:0<=ev r x) (hl:Al r l):Al r (x::l):=List.forall_mem_cons.mpr ⟨h,hl⟩
theorem al_n {r:Nat->Int}:Al r []:=λ_ h=>nomatch h
theorem al_a {r:Nat->Int} {l m:List (List Int)} (h:Al r l) (hl:Al r m):Al r (l++m):=λx hx=>(List.mem_append.mp hx).elim (h x) (hl x)
noncomputable abbrev A:=List Int × List (List Int)
noncomputable def G (c:C) (P:List A) (v:Int):Prop:=∃ q∈P,ev (rho c 0) q.1=v/\Al (rho c 0) q.2
noncomputable def cp (P Q:List A) (f:List Int->List Int->List A):List A:=P.flatMap λp=>Q.flatMap λq=>(f p.1 q.1).map λr=>(r.1,r.2++(p.2++q.2))
theorem cp_ok {c:C} {P Q:List A} {f:List Int->List Int->List A} {x y v:Int} (hx:G c P x) (hy:G c Q y) (hf:∀ l m,ev (rho c 0) l=x->ev (rho c 0) m=y->G c (f l m) v):G c (cp P Q f) v:=by
  obtain ⟨p,p1,p2,p3⟩:=hx;obtain ⟨q,q1,q2,q3⟩:=hy;obtain ⟨r,r1,r2,r3⟩:=hf _ _ p2 q2
  exact ⟨_,List.mem_flatMap.mpr ⟨p,p1,List.mem_flatMap.mpr ⟨q,q1,List.mem_map.mpr ⟨r,r1,rfl⟩⟩⟩,r2,al_a r3 (al_a p3 q3)⟩
noncomputable def e0:List A:=[([],[])]
noncomputable def li:E->Bool->List A
  | .v i,t=>[(cond t (un i) (ui i),[])]
  | .k n,t=>[(cond t [(n:Int)] [],[])]
  | .i z,t=>[(cond t [] [z],[])]
  | .u b x y,t=>cp (li x t) (li y t) λl m=>[(cond b l m,[ge 0 m l]),(cond b m l,[ge 0 l m])]
  | .a x y,t=>cp (li x t) (li y t) λl m=>[(ad l m,[])]
  | .s x y,t=>cp (li x t) (li y t) λl m=>(ge 0 m l,cond t [ge 0 m l] [])::cond t [([],[ge 0 l m])] []
  | .n x,t=>cp (li x t) e0 λl _=>[(cond t [] (sc (-1) l),[])]
  | .m _ n z x,t=>cp (li x t) e0 λl _=>[(sc (cond t (n:Int) z) l,[])]
  | .c x,t=>cp (li x (!t)) e0 λl _=>(l,cond t [l] [])::cond t [([],[ge 0 l []])] []
noncomputable def va (c:C) (t:Bool) (e:E):Int:=cond t ((den c e).1:Int) (den c e).2
theorem g1 {c:C} {l:List Int} {v:Int} {L:List A} {k:List (List Int)} (h:ev (rho c 0) l=v) (hk:Al (rho c 0) k):G c ((l,k)::L) v:=⟨_,List.mem_cons_self ..,h,hk⟩
theorem g2 {c:C} {q:A} {v:Int} {L:List A} (h:G c L v):G c (q::L) v:=h.elim λx hx=>⟨x,List.mem_cons_of_mem _ hx.1,hx.2⟩
theorem ge_1 {c:C} {l m:List Int} {x y:Int} (hx:ev (rho c 0) l=x) (hy:ev (rho c 0) m=y) (h:y<=x):Al (rho c 0) [ge 0 m l]:=al_c (by rw [ev_ge];omega) al_n
theorem li_ok {c:C} (e:E):∀ (t:Bool),G c (li e t) (va c t e):=by
  have z0:G c e0 0:=g1 rfl al_n
  have k1:∀ k,ev (rho c 0) [k]=k:=λk=>by show k * 1+0=k;omega
  induction e with
  | v i=>intro t;cases t <;> exact g1 ((by first | exact ev_ui i 0 | exact ev_un i 0:ev _ _=_).trans (by rw [Nat.zero_add];rfl)) al_n
  | k n=>intro t;cases t;exact g1 rfl al_n;exact g1 (k1 _) al_n
  | i z=>intro t;cases t;exact g1 (k1 _) al_n;exact g1 rfl al_n
  | u b x y hx hy =>
    intro t;refine cp_ok (hx t) (hy t) λl m e1 e2=>?_
    rcases Int.le_total (va c t y) (va c t x) with h | h
    · refine g1 ?_ (ge_1 e1 e2 h)
      cases t <;> cases b <;> (show ev _ _=_;simp only [cond_true,cond_false];first | rw [e1] | rw [e2]) <;> (simp only [va,den,cond_true,cond_false] at *;omega)
    · refine g2 (g1 ?_ (ge_1 e2 e1 h))
      cases t <;> cases b <;> (show ev _ _=_;simp only [cond_true,cond_false];first | rw [e1] | rw [e2]) <;> (simp only [va,den,cond_true,cond_false] at *;omega)
  | a x y hx hy =>
    intro t;refine cp_ok (hx t) (hy t) λl m e1 e2=>g1 ?_ al_n
    rw [ev_ad,e1,e2];cases t <;> simp only [va,den,cond_true,cond_false];omega
  | s x y hx hy =>
    intro t;refine cp_ok (hx t) (hy t) λl m e1 e2=>?_
    cases t with
    | false=>exact g1 (by rw [ev_ge,e1,e2];simp only [va,den,cond_false];omega) al_n
    | true =>
      rcases Int.le_total (va c true y) (va c true x) with h | h
      · exact g1 (by rw [ev_ge,e1,e2];simp only [va,den,cond_true] at *;omega) (ge_1 e1 e2 h)
      · exact g2 (g1 (by show (0:Int)=_;simp only [va,den,cond_true] at *;omega) (ge_1 e2 e1 h))
  | n x hx =>
    intro t;refine cp_ok (hx t) z0 λl m e1 e2=>g1 ?_ al_n
    cases t with
    | false=>show ev _ (sc _ _)=_;rw [ev_sc,e1];simp only [va,den,cond_false];omega
    | true=>rfl
  | m s n z x hx =>
    intro t;refine cp_ok (hx t) z0 λl m e1 e2=>g1 ?_ al_n
    rw [ev_sc,e1];cases t <;> cases s <;> simp only [va,den,cond_true,cond_false,Int.natCast_mul,Int.mul_comm]
  | c x hx =>
    intro t;refine cp_ok (hx (!t)) z0 λl m e1 e2=>?_
    cases t with
    | false=>exact g1 e1 al_n
    | true =>
      rcases Int.le_total 0 (va c false x) with h | h
      · exact g1 (by rw [e1];simp only [va,den,cond_true,cond_false,Bool.not_true] at *;omega) (al_c (by rw [e1];exact h) al_n)
      · exact g2 (g1 (by show (0:Int)=_;simp only [va,den,cond_true,cond_false] at *;omega) (ge_1 rfl e1 h))
noncomputable def sg:Int->Ordering
  | .ofNat 0=>.eq
  | .ofNat _=>.gt
  | .negSucc _=>.lt
noncomputable abbrev B:=Int × Int × List Int
structure P3 where
  p:List B
  n:List B
  z:List (List Int)
noncomputable def p1 (k a:Int) (r:List Int) (q:P3):Ordering->P3
  | .eq=>⟨q.p,q.n,(k::r)::q.z⟩
  | .gt=>⟨(a,k,r)::q.p,q.n,q.z⟩
  | .lt=>⟨q.p,(Int.neg a,k,r)::q.n,q.z⟩
noncomputable def ex:Nat->List Int->Int × List Int
  | _,[]=>(0,[])
  | 0,a::l=>(a,l)
  | j+1,a::l=>((ex j l).1,a::(ex j l).2)
noncomputable def p2 (j:Nat) (q:P3):List Int->P3
  | []=>q
  | k::l=>p1 k (ex j l).1 (ex j l).2 q (sg (ex j l).1)
noncomputable def pt (j:Nat):List (List Int)->P3
  | []=>⟨[],[],[]⟩
  | x::l=>p2 j (pt j l) x
noncomputable def ct (q:P3):Bool:=Nat.ble (Nat.mul q.p.length q.n.length) (Nat.succ (Nat.add q.p.length q.n.length))
noncomputable def bs (l:List (List Int)):Nat->Nat->Nat
  | 0,_=>0
  | n+1,j=>cond (ct (pt j l)) j (bs l n (j+1))
noncomputable def gc:List Int->Nat
  | []=>0
  | x::l=>Nat.gcd x.natAbs (gc l)
noncomputable def dv (g:Int):List Int->List Int
  | []=>[]
  | x::l=>x / g::dv g l
noncomputable def t1 (k:Int) (l:List Int):Nat->List Int
  | 0=>[k]
  | 1=>k::l
  | g+2=>k / ((g+2:Nat):Int)::dv ((g+2:Nat):Int) l
noncomputable def tg:List Int->List Int
  | []=>[]
  | k::l=>t1 k l (gc l)
noncomputable def co (a b:B):List Int:=tg (ad (sc b.1 (a.2.1::a.2.2)) (sc a.1 (b.2.1::b.2.2)))
noncomputable def cr (n:List B) (z:List (List Int)) (p:List B):List (List Int):=(p.flatMap λa=>n.map λb=>co a b)++z
noncomputable def f1:List Int->Bool
  | [.negSucc _]=>true
  | _=>false
noncomputable def f0 (l:List (List Int)) (j:Nat) (f:List (List Int)->Bool):Bool:=f (cr (pt j l).n (pt j l).z (pt j l).p)
noncomputable def fm:Nat->List (List Int)->Bool
  | 0,l=>l.any f1
  | n+1,l=>l.any f1 || (Nat.ble l.length 300 && f0 l (bs l (n+1) 0) (fm n))
noncomputable def dr:Nat->(Nat->Int)->Nat->Int
  | 0,r,i=>r (i+1)
  | _+1,r,0=>r 0
  | j+1,r,i+1=>dr j (λi=>r (i+1)) i
theorem ex_ok:∀ (j:Nat) (l:List Int) (r:Nat->Int),ev r l=(ex j l).1 * r j+ev (dr j r) (ex j l).2
  | 0,[],r=>by show 0=0 * _+0;rw [Int.zero_mul];rfl
  | j+1,[],r=>by show 0=0 * _+0;rw [Int.zero_mul];rfl
  | 0,a::l,r=>rfl
  | j+1,a::l,r=>by
    show a * r 0+ev _ l=(ex j l).1 * r (j+1)+(a * r 0+ev (dr j λi=>r (i+1)) (ex j l).2)
    rw [ex_ok j l];exact Int.add_left_comm ..
noncomputable def sh (j:Nat) (r:Nat->Int):Nat->Int
  | 0=>r 0
  | i+1=>dr j (λi=>r (i+1)) i
theorem ev_cut {r:Nat->Int} {j:Nat} {k:Int} {l:List Int}:ev r (k::l)=(ex j l).1 * r (j+1)+ev (sh j r) (k::(ex j l).2):=by
  show k * r 0+ev _ l=(ex j l).1 * r (j+1)+(k * r 0+ev (dr j λi=>r (i+1)) (ex j l).2)
  rw [ex_ok j l];exact Int.add_left_comm ..
noncomputable def Bp (r:Nat->Int) (y:Int) (a:B):Prop:=0 < a.1/\0<=a.1 * y+ev r (a.2.1::a.2.2)
noncomputable def P0 (r:Nat->Int) (j:Nat) (q:P3):Prop:=(∀ a∈q.p,Bp (sh j r) (r (j+1)) a)/\(∀ a∈q.n,Bp (sh j r) (-r (j+1)) a)/\Al (sh j r) q.z
theorem sg_ok (a:Int):(sg a=.eq/\a=0) ∨ (sg a=.gt/\0 < a) ∨ (sg a=.lt/\a < 0):=by
  match a with
  | .ofNat 0=>exact .inl ⟨rfl,rfl⟩
  | .ofNat (n+1)=>exact .inr (.inl ⟨rfl,Int.natCast_pos.mpr (Nat.succ_pos n)⟩)
  | .negSucc _=>exact .inr (.inr ⟨rfl,by omega⟩)
theorem p2_ok {r:Nat->Int} {j:Nat} {q:P3} (h:P0 r j q):∀ {x:List Int},0<=ev r x->P0 r j (p2 j q x)
  | [],_=>h
  | k::l,hx=>by
    rw [ev_cut (j:=j)] at hx
    show P0 r j (p1 k (ex j l).1 (ex j l).2 q (sg (ex j l).1))
    rcases sg_ok (ex j l).1 with ⟨e,g⟩ | ⟨e,g⟩ | ⟨e,g⟩ <;> rw [e]
    · exact ⟨h.1,h.2.1,al_c (by rw [g,Int.zero_mul,Int.zero_add] at hx;exact hx) h.2.2⟩
    · exact ⟨List.forall_mem_cons.mpr ⟨⟨g,hx⟩,h.1⟩,h.2⟩
    · exact ⟨h.1,List.forall_mem_cons.mpr ⟨⟨Int.neg_pos_of_neg g,by show 0<=-(ex j l).1 * -r (j+1)+_;rw [Int.neg_mul_neg];exact hx⟩,h.2.1⟩,h.2.2⟩
theorem pt_ok {r:Nat->Int} (j:Nat):∀ {l:List (List Int)},Al r l->P0 r j (pt j l)
  | [],_=>⟨λ_ h=>(nomatch h),λ_ h=>(nomatch h),al_n⟩
  | x::l,h=>p2_ok (pt_ok j λy hy=>h y (List.mem_cons_of_mem _ hy)) (h x (List.mem_cons_self ..))
theorem gc_dv:∀ (l:List Int) (g:Nat) (r:Nat->Int),g ∣ gc l->ev r l=g * ev r (dv g l)
  | [],g,r,_=>(Int.mul_zero _).symm
  | x::l,g,r,h=>by
    have h3:(g:Int) * (x / g)=x:=Int.mul_ediv_cancel' (Int.ofNat_dvd_left.mpr (Nat.dvd_trans h (Nat.gcd_dvd_left ..)))
    show x * _+ev _ l=g * (x / g * _+ev _ (dv g l))
    rw [gc_dv l g _ (Nat.dvd_trans h (Nat.gcd_dvd_right ..)),Int.mul_add,← Int.mul_assoc,h3]
theorem t1_ok {r:Nat->Int} (hr:r 0=1) {k:Int} {l:List Int} (h:0<=ev r (k::l)):∀ {g},g=gc l->0<=ev r (t1 k l g)
  | 0,e=>by
    have h:0<=k * r 0+ev _ l:=h
    rw [gc_dv l 0 _ (by rw [e];exact Nat.dvd_refl _),Int.natCast_zero,Int.zero_mul] at h;exact h
  | 1,e=>h
  | g+2,e=>by
    have h:0<=k * r 0+ev _ l:=h
    show 0<=k / ((g+2:Nat):Int) * r 0+ev _ (dv ((g+2:Nat):Int) l)
    rw [gc_dv l (g+2) _ (by rw [e];exact Nat.dvd_refl _),hr,Int.mul_one] at h
    rw [hr,Int.mul_one]
    have hg:0 < ((g+2:Nat):Int):=by omega
    generalize ((g+2:Nat):Int)=d at *
    generalize ev _ (dv d l)=y at *
    have:-y<=k / d:=(Int.le_ediv_iff_mul_le hg).mpr (by rw [Int.neg_mul,Int.mul_comm];omega)
    omega
theorem co_ok {r:Nat->Int} (hr:r 0=1) {y:Int} {a b:B} (h1:Bp r y a) (h2:Bp r (-y) b):0<=ev r (co a b):=by
  refine t1_ok hr ?_ rfl
  show 0<=ev r (ad (sc b.1 (a.2.1::a.2.2)) (sc a.1 (b.2.1::b.2.2)))
  rw [ev_ad,ev_sc,ev_sc]
  have e1:=Int.mul_nonneg (Int.le_of_lt h2.1) h1.2
  have e2:=Int.mul_nonneg (Int.le_of_lt h1.1) h2.2
  rw [Int.mul_add] at e1 e2
  have:a.1 * (b.1 * -y)=- (b.1 * (a.1 * y)):=by rw [Int.mul_neg,Int.mul_neg,Int.mul_left_comm]
  omega
theorem f1_ok {r:Nat->Int} (hr:r 0=1) {l:List (List Int)} (h:Al r l):¬ l.any f1=true:=λk=>by
  obtain ⟨x,h1,h2⟩:=List.any_eq_true.mp k
  have:=h x h1
  unfold f1 at h2;split at h2
  · have t:0<=_ * r 0+0:=this
    rw [hr] at t;omega
  · cases h2
theorem fm_ok:∀ (n:Nat) {r:Nat->Int} {l:List (List Int)},r 0=1->Al r l->¬ fm n l=true
  | 0,r,l,hr,h=>f1_ok hr h
  | n+1,r,l,hr,h=>λk=>by
    rcases Bool.or_eq_true_iff.mp k with k | k
    · exact f1_ok hr h k
    · obtain ⟨i,j,m⟩:=pt_ok (bs l (n+1) 0) h
      refine fm_ok n (r:=sh _ r) hr (al_a (λx hx=>?_) m) (Bool.and_eq_true_iff.mp k).2
      obtain ⟨a,a1,a2⟩:=List.mem_flatMap.mp hx
      obtain ⟨b,b1,rfl⟩:=List.mem_map.mp a2
      exact co_ok (r:=sh _ r) hr (i a a1) (j b b1)
noncomputable abbrev T:=List (Bool × F)
noncomputable def al (t:Bool) (x y:E) (cs:List (List Int)) (k:List Int->List Int->List (List Int)->Bool):Bool:=(li x t).all λp=>(li y t).all λq=>k p.1 q.1 (p.2++(q.2++cs))
noncomputable def tb (w:Nat):Nat->T->List (List Int)->Bool
  | 0,_,_=>false
  | n+1,[],cs=>fm w cs
  | n+1,(b,f)::r,cs=>match f with
    | .le d t x y=>al t x y cs λl m cs=>tb w n r (cond b (ge (cond d (-1) 0) l m) (ge (cond d 0 (-1)) m l)::cs)
    | .eq t x y=>al t x y cs λl m cs=>cond b (tb w n r (ge 0 l m::ge 0 m l::cs)) (tb w n r (ge (-1) l m::cs) && tb w n r (ge (-1) m l::cs))
    | .ff=>cond b true (tb w n r cs)
    | .no f=>tb w n ((!b,f)::r) cs
    | .an f g=>cond b (tb w n ((true,f)::(true,g)::r) cs) (tb w n ((false,f)::r) cs && tb w n ((false,g)::r) cs)
    | .or f g=>cond b (tb w n ((true,f)::r) cs && tb w n ((true,g)::r) cs) (tb w n ((false,f)::(false,g)::r) cs)
    | .im f g=>cond b (tb w n ((false,f)::r) cs && tb w n ((true,g)::r) cs) (tb w n ((true,f)::(false,g)::r) cs)
    | .io f g=>tb w n ((b,g)::(true,f)::r) cs && tb w n ((!b,g)::(false,f)::r) cs
noncomputable def hd (c:C) (q:Bool × F):Prop:=cond q.1 (dF c q.2) (¬ dF c q.2)
theorem al_ok {c:C} {t:Bool} {x y:E} {cs:List (List Int)} {k:List Int->List Int->List (List Int)->Bool} (h:al t x y cs k=true) (hc:Al (rho c 0) cs):∃ l m d,ev (rho c 0) l=va c t x/\ev (rho c 0) m=va c t y/\Al (rho c 0) d/\k l m d=true:=by
  obtain ⟨p,p1,p2,p3⟩:=li_ok (c:=c) x t;obtain ⟨q,q1,q2,q3⟩:=li_ok (c:=c) y t
  exact ⟨_,_,_,p2,q2,al_a p3 (al_a q3 hc),List.all_eq_true.mp (List.all_eq_true.mp h p p1) q q1⟩
theorem tb_ok {c:C} {w:Nat}:∀ (n:Nat) {r:T} {cs:List (List Int)},Al (rho c 0) cs->(∀ q∈r,hd c q)->¬ tb w n r cs=true
  | 0,_,_,_,_=>nofun
  | n+1,[],cs,hc,hr=>fm_ok w rfl hc
  | n+1,(b,f)::r,cs,hc,hr=>λh=>by
    obtain ⟨hq,hr'⟩:=List.forall_mem_cons.mp hr
    have I:∀ {p q},hd c p->hd c q->tb w n (p::q::r) cs=true->False:=λh1 h2 h3=>tb_ok n hc (List.forall_mem_cons.mpr ⟨h1,List.forall_mem_cons.mpr ⟨h2,hr'⟩⟩) h3
    have J:∀ {p},hd c p->tb w n (p::r) cs=true->False:=λh1 h3=>tb_ok n hc (List.forall_mem_cons.mpr ⟨h1,hr'⟩) h3
    cases f with
    | le d t x y =>
      have h:al t x y cs (λl m cs=>tb w n r (cond b (ge (cond d (-1) 0) l m) (ge (cond d 0 (-1)) m l)::cs))=true:=h
      obtain ⟨l,m,e,h1,h2,he,h3⟩:=al_ok h hc
      refine tb_ok n (al_c ?_ he) hr' h3
      cases b <;> cases t <;> cases d <;> (show 0<=ev _ (ge _ _ _);rw [ev_ge,h1,h2];simp only [hd,dF,va,cond_true,cond_false] at *;omega)
    | eq t x y =>
      have h:al t x y cs (λl m cs=>cond b (tb w n r (ge 0 l m::ge 0 m l::cs)) (tb w n r (ge (-1) l m::cs) && tb w n r (ge (-1) m l::cs)))=true:=h
      obtain ⟨l,m,e,h1,h2,he,h3⟩:=al_ok h hc
      cases b with
      | true =>
        refine tb_ok n (al_c ?_ (al_c ?_ he)) hr' h3 <;>
        cases t <;> (rw [ev_ge,h1,h2];simp only [hd,dF,va,cond_true,cond_false] at *;omega)
      | false =>
        obtain ⟨h4,h5⟩:=Bool.and_eq_true_iff.mp h3
        rcases Int.lt_or_lt_of_ne (a:=ev (rho c 0) l) (b:=ev (rho c 0) m) (by rw [h1,h2];cases t <;> (simp only [hd,dF,va,cond_true,cond_false] at *;omega)) with g | g
        · exact tb_ok n (al_c (by rw [ev_ge];omega) he) hr' h4
        · exact tb_ok n (al_c (by rw [ev_ge];omega) he) hr' h5
    | ff =>
      cases b with
      | true=>exact hq
      | false=>exact tb_ok n hc hr' h
    | no f =>
      cases b with
      | true=>exact J (p:=(false,f)) hq h
      | false=>exact J (p:=(true,f)) (Classical.not_not.mp hq) h
    | an f g =>
      cases b with
      | true=>exact I (p:=(true,f)) (q:=(true,g)) hq.1 hq.2 h
      | false =>
        obtain ⟨h4,h5⟩:=Bool.and_eq_true_iff.mp h
        by_cases k:dF c f
        · exact J (p:=(false,g)) (λz=>hq ⟨k,z⟩) h5
        · exact J (p:=(false,f)) k h4
    | or f g =>
      cases b with
      | false=>exact I (p:=(false,f)) (q:=(false,g)) (λz=>hq (.inl z)) (λz=>hq (.inr z)) h
      | true =>
        obtain ⟨h4,h5⟩:=Bool.and_eq_true_iff.mp h
        rcases (hq:dF c f ∨ dF c g) with k | k
        · exact J (p:=(true,f)) k h4
        · exact J (p:=(true,g)) k h5
    | im f g =>
      cases b with
      | false=>exact I (p:=(true,f)) (q:=(false,g)) (Classical.byContradiction λz=>hq λy=>(z y).elim) (λz=>hq λ_=>z) h
      | true =>
        obtain ⟨h4,h5⟩:=Bool.and_eq_true_iff.mp h
        by_cases k:dF c f
        · exact J (p:=(true,g)) (hq k) h5
        · exact J (p:=(false,f)) k h4
    | io f g =>
      obtain ⟨h4,h5⟩:=Bool.and_eq_true_iff.mp h
      by_cases k:dF c f
      · refine I (p:=(b,g)) (q:=(true,f)) ?_ k h4
        cases b with
        | true=>exact hq.mp k
        | false=>exact λz=>hq ⟨λ_=>z,λ_=>k⟩
      · refine I (p:=(!b,g)) (q:=(false,f)) ?_ k h5
        cases b with
        | true=>exact λz=>k (hq.mpr z)
        | false=>exact Classical.byContradiction λz=>hq ⟨λy=>(k y).elim,λy=>(z y).elim⟩
noncomputable def mx:E->Nat
  | .v i=>i+1
  | .a x y=>(mx x).max (mx y)
  | .s x y=>(mx x).max (mx y)
  | .u _ x y=>(mx x).max (mx y)
  | .m _ _ _ x=>mx x
  | .n x=>mx x
  | .c x=>mx x
  | _=>0
noncomputable def mF:F->Nat
  | .le _ _ x y=>(mx x).max (mx y)
  | .eq _ x y=>(mx x).max (mx y)
  | .ff=>0
  | .no f=>mF f
  | .an f g=>(mF f).max (mF g)
  | .or f g=>(mF f).max (mF g)
  | .im f g=>(mF f).max (mF g)
  | .io f g=>(mF f).max (mF g)
noncomputable def nz:Nat->List (List Int)
  | 0=>[]
  | i+1=>un i::nz i
theorem nz_ok {c:C}:∀ n,Al (rho c 0) (nz n)
  | 0=>al_n
  | n+1=>al_c (by rw [ev_un];exact Int.natCast_nonneg _) (nz_ok n)
noncomputable def ok (f:F):Bool:=tb (mF f+mF f) 400 [(false,f)] (nz (mF f))
noncomputable abbrev Wit (c:C) (f:F):Prop:=ok f=true->dF c f
theorem R {c:C} {f:F}:Wit c f:=λh=>Classical.byContradiction λk=>tb_ok 400 (nz_ok _) (r:=[(false,f)]) (List.forall_mem_cons.mpr ⟨k,λ_ h=>absurd h List.not_mem_nil⟩) h
class AI (e:Int) (l:List Int) (l':outParam (List Int)) (n:outParam Nat):Prop
instance:AI e [] [e] 0:=⟨⟩
instance (priority:=low) [AI e l l' n]:AI e (d::l) (d::l') (.succ n):=⟨⟩
instance:AI e (e::l) (e::l) 0:=⟨⟩
class AN (e:Nat) (l:List Nat) (l':outParam (List Nat)) (n:outParam Nat):Prop
instance:AN e [] [e] 0:=⟨⟩
instance (priority:=low) [AN e l l' n]:AN e (d::l) (d::l') (.succ n):=⟨⟩
instance:AN e (e::l) (e::l) 0:=⟨⟩
class RI (e:Int) (c:C) (c':outParam C) (x:outParam E):Prop
class RN (e:Nat) (c:C) (c':outParam C) (x:outParam E):Prop
instance (priority:=low) [AI e i i' k]:RI e ⟨i,n⟩ ⟨i',n⟩ (.v k):=⟨⟩
instance (priority:=low) [AN e n n' k]:RN e ⟨i,n⟩ ⟨i,n'⟩ (.v k):=⟨⟩
class LN (e:Nat):Prop
instance:LN 0:=⟨⟩
instance:LN 1:=⟨⟩
instance:LN 100:=⟨⟩
instance:LN 1000:=⟨⟩
instance:LN 10000:=⟨⟩
instance:LN 1000000:=⟨⟩
instance:LN 129:=⟨⟩
instance:LN 130:=⟨⟩
instance:LN 132:=⟨⟩
instance:LN 140:=⟨⟩
instance:LN 16:=⟨⟩
instance:LN 1600000:=⟨⟩
instance:LN 16777216:=⟨⟩
instance:LN 2:=⟨⟩
instance:LN 200:=⟨⟩
instance:LN 250:=⟨⟩
instance:LN 3:=⟨⟩
instance:LN 30:=⟨⟩
instance:LN 4:=⟨⟩
instance:LN 40:=⟨⟩
instance:LN 400000:=⟨⟩
instance:LN 45:=⟨⟩
instance:LN 46:=⟨⟩
instance:LN 47:=⟨⟩
instance:LN 5:=⟨⟩
instance:LN 6:=⟨⟩
instance:LN 60:=⟨⟩
instance:LN 61:=⟨⟩
instance:LN 62:=⟨⟩
instance:LN 63:=⟨⟩
instance:LN 64:=⟨⟩
instance:LN 79:=⟨⟩
instance:LN 8:=⟨⟩
instance:LN 80:=⟨⟩
instance:LN 800000:=⟨⟩
instance:LN 8000000:=⟨⟩
instance:LN 82:=⟨⟩
instance:LN 83:=⟨⟩
instance:LN 900000:=⟨⟩
class LI (e:Int):Prop
instance:LI 0:=⟨⟩
instance:LI 1:=⟨⟩
instance:LI 10:=⟨⟩
instance:LI 100:=⟨⟩
instance:LI 1000:=⟨⟩
instance:LI 2:=⟨⟩
instance:LI 3:=⟨⟩
instance:LI 31:=⟨⟩
instance:LI 37:=⟨⟩
instance:LI 4:=⟨⟩
instance:LI 6:=⟨⟩
instance:LI 70:=⟨⟩
instance [LI a]:LI (-a):=⟨⟩
instance (priority:=500) [LN e]:RN e c c (.k e):=⟨⟩
instance (priority:=500) [LI e]:RI e c c (.i e):=⟨⟩
instance [LI a] [LN b]:RI (a ^ b) c c (.i (a ^ b)):=⟨⟩
instance [LN a] [LN b]:RN (a ^ b) c c (.k (a ^ b)):=⟨⟩
instance [RI a c d x] [RI b d e y]:RI (max a b) c e (.u true x y):=⟨⟩
instance [RI a c d x] [RI b d e y]:RI (min a b) c e (.u false x y):=⟨⟩
instance [RN a c d x] [RN b d e y]:RN (max a b) c e (.u true x y):=⟨⟩
instance [RN a c d x] [RN b d e y]:RN (min a b) c e (.u false x y):=⟨⟩
instance [RI a c d x] [RI b d e y]:RI (a+b) c e (.a x y):=⟨⟩
instance [RN a c d x] [RN b d e y]:RN (a+b) c e (.a x y):=⟨⟩
instance [RI a c d x] [RI b d e y]:RI (a - b) c e (.s x y):=⟨⟩
instance [RN a c d x] [RN b d e y]:RN (a - b) c e (.s x y):=⟨⟩
instance [RI a c d x]:RI (-a) c d (.n x):=⟨⟩
instance [LI a] [RI b c d y]:RI (a * b) c d (.m true 0 a y):=⟨⟩
instance [LI a] [RI b c d y]:RI (b * a) c d (.m false 0 a y):=⟨⟩
instance [LN a] [RN b c d y]:RN (a * b) c d (.m true a 0 y):=⟨⟩
instance [LN a] [RN b c d y]:RN (b * a) c d (.m false a 0 y):=⟨⟩
instance [RN a c d x]:RI (Nat.cast a) c d (.c x):=⟨⟩
instance [RI a c d x]:RN (Int.toNat a) c d (.c x):=⟨⟩

class RF (p:Prop) (c:C) (c':outParam C) (f:outParam F):Prop
instance {a b:Int} [RI a c d x] [RI b d e y]:RF (a<=b) c e (.le false false x y):=⟨⟩
instance {a b:Int} [RI a c d x] [RI b d e y]:RF (a < b) c e (.le true false x y):=⟨⟩
instance {a b:Int} [RI a c d x] [RI b d e y]:RF (b ≥ a) c e (.le false false x y):=⟨⟩
instance {a b:Int} [RI a c d x] [RI b d e y]:RF (b > a) c e (.le true false x y):=⟨⟩
instance {a b:Int} [RI a c d x] [RI b d e y]:RF (a=b) c e (.eq false x y):=⟨⟩
instance {a b:Int} [RI a c d x] [RI b d e y]:RF (a ≠ b) c e (.no (.eq false x y)):=⟨⟩
instance {a b:Nat} [RN a c d x] [RN b d e y]:RF (a<=b) c e (.le false true x y):=⟨⟩
instance {a b:Nat} [RN a c d x] [RN b d e y]:RF (a < b) c e (.le true true x y):=⟨⟩
instance {a b:Nat} [RN a c d x] [RN b d e y]:RF (b ≥ a) c e (.le false true x y):=⟨⟩
instance {a b:Nat} [RN a c d x] [RN b d e y]:RF (b > a) c e (.le true true x y):=⟨⟩
instance {a b:Nat} [RN a c d x] [RN b d e y]:RF (a=b) c e (.eq true x y):=⟨⟩
instance {a b:Nat} [RN a c d x] [RN b d e y]:RF (a ≠ b) c e (.no (.eq true x y)):=⟨⟩
instance:RF False c c .ff:=⟨⟩
instance [RF p c d f]:RF (¬p) c d (.no f):=⟨⟩
instance [RF p c d f] [RF q d e g]:RF (p/\q) c e (.an f g):=⟨⟩
instance [RF p c d f] [RF q d e g]:RF (p ∨ q) c e (.or f g):=⟨⟩
instance [RF p c d f] [RF q d e g]:RF (p->q) c e (.im f g):=⟨⟩
instance [RF p c d f] [RF q d e g]:RF (p ↔ q) c e (.io f g):=⟨⟩
theorem Rw (p:Prop) [RF p ⟨[],[]⟩ c f]:Wit c f:=R
end QA
local macro_rules
  | `(tactic| ext $ps:rintroPat*:$_:num)=>`(tactic| (refine id ?_;ext $ps*))
  | `(tactic| ext $ps:rintroPat*)=>do
    let mut ty ← `(_)
    let mut f:=false
    let mut hs:=#[]
    for p in ps do
      match p with
      | `(rintroPat| $h:ident)=>hs:=hs.push (← `($h:ident))
      | _=>f:=true
    for h in hs.reverse do ty ← `(type_of% $h->$ty)
    let t ← `(tactic| (refine (?g:$ty) $hs*;refine (QA.R:type_of% (QA.Rw (type_of% ?g))) ?_;decide +kernel))
    if f then `(tactic| (exfalso;$t)) else return t
set_option Elab.async false
set_option linter.all false
set_option maxRecDepth 100000
open And renaming intro->c47
open Array renaming length_toList->gQ,toList_append->px,getElem?_toList->sx,perm_iff_toList_perm->wx,toList_push->wg,toList_extract->DS,toList_reverse->DR,getD_eq_getD_getElem?->Ol,getElem_toList->N9,toList_modify->N3,append_assoc->Oi,getD->Dc
open Array.Perm renaming refl->sG
open Bool renaming false_ne_true->mv,false_eq_true->qM,and_eq_true->AS,false_and->IJ
open Classical renaming axiomOfChoice->DH,byContradiction->Ov
open False renaming elim->iJ
open ForInStep renaming yield->pU,done->DA
open Iff renaming rfl->eI
open Int renaming le_refl->bF,emod_lt_of_pos->nI,mul_le_mul_of_nonneg_left->uQ,mul_nonneg->mw,emod_nonneg->ny,fdiv_eq_ediv_of_nonneg->Jp,le_trans->v9,sub_self->v8,mul_zero->v7,mul_le_mul_of_nonpos_left->Oq,mul_one->v5,le_of_lt->AE,add_zero->AB,toNat_natCast->Jc,mul_sub->Ay,mul_add->Ax,le_ediv_of_mul_le->Od,not_le->Df,zero_add->Io,lt_or_le->Im,mul_comm->Il,neg_mul->Ij,neg_neg->Ii
open List renaming mem_cons_of_mem->br,mem_cons_self->aZ,length_map->aX,mem_singleton->bP,mem_cons->bq,length_append->cM,mem_append->bT,mem_append_right->fQ,size_toArray->dU,getElem?_set_ne->fE,mem_map->cH,pairwise_cons->fC,mem_append_left->gp,pairwise_append->gP,map_append->eJ,append_assoc->fP,getElem?_eq_some_iff->j0,getElem?_set_self->jo,map_cons->eM,not_mem_nil->gz,length_take->iA,length_cons->iy,mem_flatMap->iw,drop_eq_getElem_cons->nG,getElem?_eq_getElem->ot,map_map->fT,ne_nil_of_length_pos->pq,take_append_drop->nF,length_drop->kG,replicate->jm,length_pos_iff->nE,getElem?_append_right->qV,pairwise_singleton->pV,mem_iff_getElem->pW,lookup_cons->nH,foldl_cons->nC,getElem?_append_left->uK,pairwise_map->pf,mem_of_mem_take->qP,mem_of_mem_drop->qO,drop_eq_nil_of_le->sC,flatten_singleton->sA,append_nil->oh,length_singleton->sy,range->jH,take_of_length_le->uJ,flatten_append->sF,getElem?_map->qU,flatMap_cons->qS,getElem_mem->qR,pairwise_iff_getElem->AX,zipWith->oi,sum_cons->pS,suffix_refl->uM,map->jZ,perm_append_comm->AN,mem_range->sk,length->pd,extract_eq_take_drop->DN,nodup_cons->uE,sum_append->uC,foldl_append->wj,reverse_perm->we,getElem?_replicate->DJ,length_eq_zero_iff->DI,mem_reverse->wc,map_singleton->AL,length_replicate->DU,cons_append->AR,flatMap_append->DQ,of_mem_zip->AQ,length_nil->AO,flatten_cons->DV,getElem?_zipWith->Jr,eq_nil_or_concat->Ja,zipIdx_cons->Dw,take_append_of_le_length->Ot,filterMap_cons->IY,forIn_cons->Du,take_succ_cons->IX,length_zipWith->IW,getD_eq_getElem?_getD->Ox,zip_cons_cons->Jf,map_nil->AH,sum_singleton->Je,getElem?_eq_none_iff->Ow,foldl_nil->DC,drop_zero->Dz,getElem?_set->Jj,take_add_one->Ji,nodup_append->Jh,getElem_take->Jg,length_erase_of_mem->OC,pairwise_mergeSort->N1,all_eq_true->IE,zipWith_cons_cons->NY,length_pos_of_mem->NX,dropLast_eq_take->NT,zipIdx_nil->Iz,nil_append->IM,mem_of_getElem?->Oc,getElem?_append->Ob,reverse_reverse->Oa,mem_of_getLast?->N8,dropLast_concat->N7,mem_erase_of_ne->N6,drop_take->IH,map_congr_left->N2,mergeSort_perm->Oj,mem_filterMap->Oh,getElem?_take->NR,append_of_mem->NQ,toArray->Ip
open List.Pairwise renaming nil->Jb
open List.Perm renaming append_left->Jq,refl->DB
open Nat renaming le_refl->bw,ne_of_lt->dW,lt_of_lt_of_le->jI,le_trans->fq,eq_zero_of_not_pos->uI,lt_irrefl->om,le_add_right->sD,zero_le->nD,lt_of_succ_lt->uL,lt_succ_self->uO,lt_of_le_of_ne->AM,zero_add->su,ne_of_gt->uG,add_sub_cancel_left->Jt,add_le_add_right->I0,le_antisymm->Ds,le_of_lt->AJ,sub_self->AF,le_succ->AK,le_of_not_lt->IF,min_eq_left->Iy,le_of_sub_eq_zero->Oe,add_assoc->IP,mul_assoc->Iu
open Ne renaming symm->gy
open Option renaming bind_some->qQ,map_eq_some_iff->wy,map_some->wq,getD_none->NM,map->Iv
open Option.some renaming inj->cT,injEq->d9
open Or renaming inr->bH,inl->cD
open Prod renaming ext->Dg
open PyProof renaming noPylong_of_log2->Ou
open PyProof.Rows renaming wpS_bind->aQ,wpS_pure->a9,wpS_forRange->kF,callWith_type1->AY,slot_tuple_getitem->DW,wpS_mono->kE,mirror_perm->qK,wpS_modify->pR,listUpdate_at->wu,listItems_at->wa,wpS_get->nr,getElem?_mirror_all->IU,get?_update_seq->Dr,pairsOf_toList->Dy,pairsOf_size->Dq,mirror_size->Dl,seqEpoch_at->Dk,size_push'->Dd
open PyProof.Rows.SortSt renaming mk'->Az
open PySem renaming wpAny_bind->aA,wpAny_pure->bC,sizeLine_eq->iV,wpAny_pyIter_tuple->qN,wpAny_field->lD,wpAny_mono->jY,wpAny_seqItems->pj,wpAny_callSpecial?_slot->wz,wpAny_newObj_type->sE,wpAny_holding->pT,mem_of_lookup->wC,wpAny_call_entry->uP,wpAny_setField_rec->wA,Builtin->c2b,wpAny_passesOwn->uF,wpAny_pyIter_list->wm,call_isinstance->uD,wpAny_truthy_bool->AU,wpAny_letGo->sr,wpAny_Call_Name_kw->DP,wpAny_updateSeq_pair->I9,wpAny_attempt->AA,wpAny_execs_nil->Dv,wpAny_tryCatch->Dx,wpAny_rule->wb,intBits_le_64->DF,wpAny_onRaise->DE,wpAny_newList->Dj,plainId_quiet->Di,noFill_tuple_add->IG,codeAny_mono->Dh,wpAny_loadPart'->NW,codeAny_builtin->IL,wpAny_updateSeq->IK,wpAny_newTuple->II,wpAny_standAt->IT,seq_tuple_add->IS,call->Iw
open PySem.Around renaming under_plainId->IZ,under->Ir
open PySem.AutoSeq1 renaming wpAny_loadPart'->DK
open PySem.Builtin.Int renaming intBits->N5
open PySem.Builtin.List renaming listItems->DG,listTooLong->Jl
open PySem.Builtin.Range renaming rangeSize->OB
open PySem.Builtin.Slice renaming slicePlaces->DO,sliceAdjust->Jo,sliceApplied->Oy
open PySem.Builtin.SmallTypes renaming nextOf->sH,ownedTupleIsFree->DX,ownedTupleHandOut->OD
open PySem.Builtin.Tuple renaming tupleExact->DM
open PySem.Calls renaming Name_function_global->OA,callWith_builtin->NZ,spliced_cons->Og,spliced_nil->NO
open PySem.Code renaming isFrame->Iq
open PySem.Data renaming cell->vZ,fields->Dp
open PySem.Env renaming kindOf->De
open PySem.F renaming slot_tuple_iterator_next->DY,plain_min_loop->uN,args_tuple_add_2->Jm,entry_tuple_add->Jk,plainAttrs_list->Ju,slot_tuple_add->Js,args_tuple_iterator_next_1->Oo,entry_tuple_iterator_next->Om,slot_zip_next->Dt,entry_min_loop->IC,slot_list_append->NV,slot_list_extend->NU,slot_enumerate_next->NS,slot_list_pop->Of
open PySem.Heap renaming get?_push_of_some->bR,lt_size->bX,get?_push_size->fD,get?_update_other->oq,size_push->nv,get?_update_ne->wB,get?_update_self->DT,SameBut->AI,IsTuple->AG,size_update->ID,IsList->Dm
open PySem.Heap.IsList renaming push->NK
open PySem.Heap.SameBut renaming update->N4
open PySem.IsRange renaming new->Ik
open PySem.NameKind renaming free->nu,cell->uH
open PySem.Obj renaming mapSeq->fS
open PySem.PassesOwn renaming never->IA
open PySem.Shared renaming heap->qL
open PySem.Str renaming ofString->qJ
open PySem.Value renaming ref->eL,none->gi,bool->lH,int->lG,type->sv
open PySem.W renaming Frag->aI,mg_none_of->ou,fnOf->jX,nsIn->lE,tabIn->oj,keepIn->uB,tabObj->wo,kas_rev->mR,findIn->AW,kas_descPart->AD,codeIn->DD,methodObj->Jd,kas_desc->sj,cellsFrom_some->N0,OpenLaw->IB,kas_place->v3,mg_of->IQ,specialIn->NP,plainGet->NN,codeHdIn->NL,kas_sort->Aw,instObj->NJ
open Sum renaming inl->uA,inr->uz
theorem SY{a b c:Nat}(h:a+c<=b):a<=b:=fq (sD _ _) h
theorem SX{a b c:Nat}(h:a<=b):a-c<=b:=fq (Nat.sub_le _ _) h
namespace L2
open PySem PySem.Spec PyProof.Rows
abbrev Key:=Sum Int Str
def O1:Key->Value->Bool
 | .inl k,v=>Value.isInt k v
 | .inr x,v=>Value.isStrOf x v
def Gz(w:World):Key->Int
 | .inl k=>hashInt k
 | .inr x=>hashStr w x
theorem rj:∀{k:Key} {v:Value},O1 k v=true->(∃i t,k=uA i/\v=lG i t)\/(∃x t,k=uz x/\v=Value.str x t)
 | .inl i,v,h=>by
  obtain ⟨t,e⟩:=Value.isInt_shape (k:=i) (v:=v) h
  exact .inl ⟨i,t,rfl,e⟩
 | .inr x,v,h=>by
  obtain ⟨t,e⟩:=Value.isStrOf_shape (x:=x) (v:=v) h
  exact .inr ⟨x,t,rfl,e⟩
theorem b81(a b:Int):decide ((uA a:Key)=uA b)=(a==b):=by
 by_cases e:a=b
 .subst e;simp
 .have h:¬(uA a:Key)=uA b:=λq=>e (Sum.inl.inj q)
  rw [decide_eq_false h]
  exact (beq_eq_false_iff_ne.mpr e).symm
theorem b8Y(a b:Str):decide ((uz a:Key)=uz b)=decide (a=b):=by
 by_cases e:a=b
 .subst e;simp
 .have h:¬(uz a:Key)=uz b:=λq=>e (Sum.inr.inj q)
  rw [decide_eq_false h,decide_eq_false e]
theorem b80(a:Int)(b:Str):decide ((uA a:Key)=uz b)=false:=decide_eq_false (λq=>nomatch q)
theorem b8Z(a:Str)(b:Int):decide ((uz a:Key)=uA b)=false:=decide_eq_false (λq=>nomatch q)
def Kg(prog:Program)(w:World):PySem.KeyKind prog w Key where
 is:=O1
 hash:=Gz w
 inj:=λv a b ha hb=>by
  rcases rj ha with ⟨i,t,rfl,rfl⟩ | ⟨x,t,rfl,rfl⟩
  .rcases rj hb with ⟨j,u,rfl,e⟩ | ⟨y,u,rfl,e⟩
   .injection e with e1 _;rw [e1]
   .exact nomatch e
  .rcases rj hb with ⟨j,u,rfl,e⟩ | ⟨y,u,rfl,e⟩
   .exact nomatch e
   .injection e with e1 _;rw [e1]
 byValue:=λk v h=>by
  rcases rj h with ⟨i,t,rfl,rfl⟩ | ⟨x,t,rfl,rfl⟩<;>rfl
 pyHash:=λhv h=>by
  rcases rj hv with ⟨i,t,rfl,rfl⟩ | ⟨x,t,rfl,rfl⟩
  .exact wpAny_pyHash_int h
  .exact wpAny_pyHash_str h
 eqBool:=λhu hv h=>by
  rcases rj hu with ⟨i,t,rfl,rfl⟩ | ⟨x,t,rfl,rfl⟩
  .rcases rj hv with ⟨j,u,rfl,rfl⟩ | ⟨y,u,rfl,rfl⟩
   .rw [b81] at h;exact wpAny_eqBool_int h
   .rw [b80] at h;exact SeqAt.EqAt.int_str i t y u _ _ _ _ h
  .rcases rj hv with ⟨j,u,rfl,rfl⟩ | ⟨y,u,rfl,rfl⟩
   .rw [b8Z] at h;exact SeqAt.EqAt.str_int x t j u _ _ _ _ h
   .rw [b8Y] at h;exact wpAny_eqBool_str h
 «strs»:=λk x t v h=>by
  rcases rj h with ⟨i,u,rfl,e⟩ | ⟨y,u,rfl,e⟩
  .exact nomatch e
  .injection e with e1 _
   subst e1
   cases v<;>rfl
end L2
namespace L2
open PySem PySem.Spec PyProof.Rows
inductive V where
 | aU | bl (b:Bool) | int (i:Int) | str (x:Str) | AZ (b:Array UInt8) | Af (b:UInt64) | ref (a:Addr) | ty (n:String)
 deriving DecidableEq
def RelV:V->Value->Prop
 | .aU,u=>u=gi
 | .bl b,u=>u=lH b
 | .int i,u=>∃t,u=lG i t
 | .str x,u=>∃t,u=Value.str x t
 | .AZ b,u=>∃t,u=Value.bytes b t
 | .Af b,u=>∃t,u=Value.float b t
 | .ref a,u=>u=eL a
 | .ty n,u=>u=sv n
abbrev aw:List V->List Value->Prop:=Paired RelV
theorem aw.length(r:aw xs us):xs.length=us.length:=Paired.length r
theorem aw.get:∀{xs:List V} {us:List Value} {i:Nat} {x:V},aw xs us->xs[i]?=some x->∃u,us[i]?=some u/\RelV x u
 | _,_,_,_,.nil,e=>by simp at e
 | _,_,0,_,.cons r _,e=>by simp at e;subst e;exact ⟨_,rfl,r⟩
 | _,_,i+1,x,.cons _ t,e=>by
  obtain ⟨u,h1,h2⟩:=aw.get (i:=i) (x:=x) t (by simpa using e)
  exact ⟨u,by simpa using h1,h2⟩
theorem aw.set(r:RelV x u):∀{xs:List V} {us:List Value} (i:Nat),aw xs us->aw (xs.set i x) (us.set i u)
 | _,_,_,.nil=>.nil
 | _,_,0,.cons _ t=>.cons r t
 | _,_,i+1,.cons q t=>.cons q (aw.set r i t)
theorem aw.append:∀{xs ys:List V} {us ws:List Value},aw xs us->aw ys ws->aw (xs++ys) (us++ws)
 | _,_,_,_,.nil,s=>s
 | _,_,_,_,.cons r t,s=>.cons r (aw.append t s)
theorem aw.take:∀{xs:List V} {us:List Value} (n:Nat),aw xs us->aw (xs.take n) (us.take n)
 | _,_,0,_=>.nil
 | _,_,_+1,.nil=>.nil
 | _,_,n+1,.cons r t=>.cons r (aw.take n t)
theorem aw.drop:∀{xs:List V} {us:List Value} (n:Nat),aw xs us->aw (xs.drop n) (us.drop n)
 | _,_,0,r=>r
 | _,_,_+1,.nil=>.nil
 | _,_,n+1,.cons _ t=>aw.drop n t
theorem aw.none_of:∀{xs:List V} {us:List Value} {i:Nat},aw xs us->xs[i]?=none->us[i]?=none:=λ{xs us i} r e=>by
 have h1:=r.length
 have h2:xs.length<=i:=Ow.mp e
 exact Ow.mpr (by ext h1 h2)
def rD:Option V->Option Value->Prop
 | some v,some u=>RelV v u
 | none,none=>True
 | _,_=>False
def KV{κ:Type}:List (κ×V)->List (κ×Value)->Prop:=Paired λ(p:κ×V) (q:κ×Value)=>p.1=q.1/\RelV p.2 q.2
def kV:Key->V
 | .inl i=>.int i
 | .inr x=>.str x
inductive HO where
 /-- a list -/
 | lst (xs:List V)
 /-- a tuple (never changes) -/
 | tup (xs:List V)
 /-- a dict rH keys are ints and texts;one rH keys are tuples of ints and texts (rJ empty one is both) -/
 | dK (bB:List (Key×V)) | dT (bB:List (List Key×V))
 /-- a set of ints: aq members,aq size -/
 | set (S:Int->Bool) (n:Nat)
 /-- an instance of rJ class at C,aq dict at dx,aq attributes -/
 | ins (C dx:Addr) (fs:List (Str×V))
 /-- rJ dict of rJ instance at x -/
 | own (x:Addr)
 /-- rJ dict of an exception -/
 | xd (fs:List (Str×V))
 /-- a bound method,f of x -/
 | met (f x:Addr)
 /-- a range object lo,lo+1,.. below hi -/
 | F8 (lo hi:Int)
 /-- a xP S7 is known to rJ object (rJ script;a dict while a loop walks it): read,never written while it is so -/
 | jW (o:Obj) (u:HO)
 /-- a code oP table -/
 | tH (ps:Array Value)
 /-- a code oP table rH codes are all called q,and are aq own -/
 | tab (q:Str)
 /-- any other xP,by S1 is true of aq one object (a def of MR own: SetO a S n:=HO.ext λh=>..) -/
 | ext (φ:Heap->Prop)
def ownOf:HO->Option Addr
 | .own x=>some x
 | .jW _ (.own x)=>some x
 | _=>none
def b87(q:Str)(o:Obj):Prop:=∃vs t,o.data=.fields vs/\vs[1]?=some (.str q t)
abbrev Hp:=Addr->Option HO
def upd(H:Hp)(a:Addr)(o:HO):Hp:=λb=>if b=a then some o else H b
theorem pH:upd H a o a=some o:=by unfold upd;rw [if_pos rfl]
theorem dk(h:b≠a):upd H a o b=H b:=by unfold upd;rw [if_neg h]
theorem pF{H:Hp}{a b:Addr}{o:HO}(h:H a=some o)(h':H b=none):a≠b:=by
 intro e;subst e;rw [h] at h';cases h'
section
variable (P:Program)(w:World)
def cV(H:Hp)(h:Heap)(a:Addr):HO->Prop
 | .lst xs=>xs.length<=sizeLine/\∃(aq:List Value) (n:Nat),aw xs aq/\h.get? a=some { cls:=.type "list",data:=.seq aq.toArray n }
 | .tup xs=>xs.length<=sizeLine/\∃aq:List Value,aw xs aq/\IsTup h a aq.toArray
 | .dK bB=>bB.length<=sizeLine/\(a==sysModules)=false/\∃vs,KV bB vs/\h.DictOf (Kg P w) a vs
 | .dT bB=>bB.length<=sizeLine/\(a==sysModules)=false/\∃xs:List (List Key×Addr×Value),
   Paired (λ(p:List Key×V) (q:List Key×Addr×Value)=>p.1=q.1/\H q.2.1=some (.tup (p.1.map kV))/\RelV p.2 q.2.2) bB xs /\
   ∃o es ep,h.get? a=some o/\o.ExactDict/\o.data=.dict es ep/\es.toList=xs.map (entryOfKey (tupleKind (Kg P w)))/\(xs.map (·.1)).Nodup
 | .set S n=>h.SetOf (intKind P w) a S n
 | .ins C dx fs=>H dx=some (.own a)/\fs.length<=1000/\dx≠a/\h.get? a=some (NJ C dx) /\
   ∃mA,h.Ns1 dx mA/\(∀f,rD (fs.lookup f) (mA f))/\PySem.Within mA (fs.map (·.1))
 | .own _=>∃o,h.get? a=some o
 | .xd fs=>∃mA,h.Ns1 a mA/\∀f,rD (fs.lookup f) (mA f)
 | .F8 lo hi=>∃t u v,h.get? a=some { cls:=.type "range",data:=.fields #[.int lo t,.int hi u,.int 1 v] }
 | .jW o u=>h.get? a=some o/\cV H h a u
 | .tH ps=>h.get? a=some { cls:=.none,data:=.fields ps }
 | .tab q=>∃ps,h.get? a=some (wo ps)/\TriplesOk ps.toList/\∀pos cv,codeAmong pos ps.toList=some cv->∃c oc,cv=.ref c/\H c=some (.jW oc (.own a))/\b87 q oc
 | .met f x=>h.get? a=some (Jd (.ref f) (.ref x))
 | .ext φ=>φ h/\(∃o,h.get? a=some o)/\∀h1 h2:Heap,φ h1->(∀o,h1.get? a=some o->h2.get? a=some o)->φ h2
def iF(H:Hp)(h:Heap):Prop:=∀a o,H a=some o->cV P w H h a o
end
section
variable {P:Program}{w:World}{H H':Hp}{h h':Heap}{a:Addr}{o:HO}
theorem cV.lt(x:cV P w H h a o):a<h.objs.size:=by
 cases o with
 | lst xs=>obtain ⟨_,_,_,_,e⟩:=x;exact bX e
 | tup xs=>obtain ⟨_,_,_,p⟩:=x;exact p.lt
 | dK bB=>obtain ⟨_,_,_,_,o,_,_,e,_⟩:=x;exact bX e
 | dT bB=>obtain ⟨_,_,_,_,o,_,_,e,_⟩:=x;exact bX e
 | set S n=>obtain ⟨o,_,_,_,e,_⟩:=x;exact bX e
 | ins C dx fs=>obtain ⟨_,_,_,e,_⟩:=x;exact bX e
 | own y=>obtain ⟨_,e⟩:=x;exact bX e
 | xd fs=>obtain ⟨_,⟨_,_,_,e,_⟩,_⟩:=x;exact bX e
 | F8 lo hi=>obtain ⟨_,_,_,e⟩:=x;exact bX e
 | jW ob u=>obtain ⟨e,_⟩:=x;exact bX e
 | tH ps=>exact bX (show h.get? a=some _ from x)
 | tab q=>obtain ⟨_,e,_⟩:=x;exact bX e
 | met f y=>exact bX (show h.get? a=some _ from x)
 | ext φ=>obtain ⟨_,⟨_,e⟩,_⟩:=x;exact bX e
theorem Paired.yR{α β:Type}{F G:α->β->Prop}:∀{yS:List α} {l₂:List β},Paired F yS l₂->(∀a b,F a b->G a b)->Paired G yS l₂
 | _,_,.nil,_=>.nil
 | _,_,.cons r t,f=>.cons (f _ _ r) (Paired.yR t f)
theorem cV.j9(x:cV P w H h a o)(k:∀b u,(b=a\/H b=some (.own a))->h.get? b=some u->h'.get? b=some u)
  (ho:∀b u,ownOf u=some a->H b=some u->H' b=some u)(ht:∀b xs,H b=some (.tup xs)->H' b=some (.tup xs)):cV P w H' h' a o:=by
 induction o with
 | lst xs=>obtain ⟨z,aq,n,r,e⟩:=x;exact ⟨z,aq,n,r,k _ _ (.inl rfl) e⟩
 | tup xs=>obtain ⟨z,aq,r,ob,e,c⟩:=x;exact ⟨z,aq,r,ob,k _ _ (.inl rfl) e,c⟩
 | dK bB=>obtain ⟨z,y,vs,r,ob,es,ep,e,c⟩:=x;exact ⟨z,y,vs,r,ob,es,ep,k _ _ (.inl rfl) e,c⟩
 | dT bB =>
  obtain ⟨z,y,xs,r,ob,es,ep,e,c⟩:=x
  exact ⟨z,y,xs,Paired.yR r λp q z=>⟨z.1,ht _ _ z.2.1,z.2.2⟩,ob,es,ep,k _ _ (.inl rfl) e,c⟩
 | set S n=>obtain ⟨ob,es,ep,t,e,c⟩:=x;exact ⟨ob,es,ep,t,k _ _ (.inl rfl) e,c⟩
 | ins C dx fs =>
  obtain ⟨d,z,ne,e,mA,⟨od,es,ep,e2,c⟩,r⟩:=x
  exact ⟨ho _ _ rfl d,z,ne,k _ _ (.inl rfl) e,mA,⟨od,es,ep,k _ _ (.inr d) e2,c⟩,r⟩
 | own y=>obtain ⟨ob,e⟩:=x;exact ⟨ob,k _ _ (.inl rfl) e⟩
 | xd fs=>obtain ⟨mA,⟨od,es,ep,e,c⟩,r⟩:=x;exact ⟨mA,⟨od,es,ep,k _ _ (.inl rfl) e,c⟩,r⟩
 | F8 lo hi=>obtain ⟨t,u,v,e⟩:=x;exact ⟨t,u,v,k _ _ (.inl rfl) e⟩
 | jW ob u ih=>obtain ⟨e,q⟩:=x;exact ⟨k _ _ (.inl rfl) e,ih q⟩
 | tH ps =>
  have e:h.get? a=some { cls:=.none,data:=.fields ps }:=x
  show h'.get? a=some { cls:=.none,data:=.fields ps }
  exact k a _ (.inl rfl) e
 | tab q =>
  obtain ⟨ps,e,ht,z⟩:=x
  exact ⟨ps,k _ _ (.inl rfl) e,ht,λpos cv hc=>let ⟨c,oc,e1,e2,e3⟩:=z pos cv hc;⟨c,oc,e1,ho _ _ rfl e2,e3⟩⟩
 | met f y =>
  have e:h.get? a=some (Jd (.ref f) (.ref y)):=x
  show h'.get? a=some (Jd (.ref f) (.ref y))
  exact k a _ (.inl rfl) e
 | ext φ=>obtain ⟨p,⟨o,e⟩,st⟩:=x;exact ⟨st _ _ p λo q=>k _ _ (.inl rfl) q,⟨o,k _ _ (.inl rfl) e⟩,st⟩
theorem iF.lt(x:iF P w H h)(e:H a=some o):a<h.objs.size:=(x a o e).lt
theorem iF.fresh(x:iF P w H h)(e:h.objs.size<=a):H a=none:=by
 cases q:H a with
 | none=>rfl
 | some u=>exact absurd (jI (x.lt q) e) (om _)
theorem iF.kept(x:iF P w H h)(k:∀b u,h.get? b=some u->h'.get? b=some u):iF P w H h':=λa o e =>
 (x a o e).j9 (λb u _ q=>k b u q) (λ_ _ _ q=>q) λ_ _ q=>q
theorem iF.laid(x:iF P w H h)(k:∀b u,h.get? b=some u->h'.get? b=some u)(hp:h.objs.size<=a)(new:cV P w (upd H a o) h' a o):iF P w (upd H a o) h':=λb u e=>by
 have hn:=x.fresh hp
 by_cases hb:b=a
 .subst hb;rw [pH] at e;cases e;exact new
 .rw [dk hb] at e
  exact (x b u e).j9 (λc v _ q=>k c v q) (λc _ _ q=>by rw [dk (pF q hn)];exact q) λc xs q=>by rw [dk (pF q hn)];exact q
end
def Rd(H:Hp)(a:Addr)(u:HO):Prop:=H a=some u\/∃o,H a=some (.jW o u)
theorem Rd.of(h:H a=some u):Rd H a u:=.inl h
theorem Rd.ok(r:Rd H a u)(x:iF P w H h):cV P w H h a u:=by
 rcases r with r | ⟨o,r⟩
 .exact x a u r
 .obtain ⟨_,q⟩:=x a _ r
  exact q
def Fw:Option HO->Prop
 | some (.lst _)=>True
 | some (.dK _)=>True
 | some (.dT _)=>True
 | some (.set _ _)=>True
 | some (.ins _ _ _)=>True
 | some (.ext _)=>True
 | some (.tab _)=>True
 | _=>False
section
variable {P:Program}{w:World}{H:Hp}{h h':Heap}{x e:Addr}{o':HO}
theorem iF.write(ok:iF P w H h)(mu:Fw (H x))(he:e=x\/H e=some (.own x))(k:∀b u,b≠e->h.get? b=some u->h'.get? b=some u)(rY:∃u,h'.get? e=some u)
  (new:cV P w (upd H x o') h' x o'):iF P w (upd H x o') h':=λb u q=>by
 have Gk:∀c y,H c=some (.own y)->c≠x:=λc y r z=>by subst z;rw [r] at mu;exact mu
 have Gj:∀c xs,H c=some (.tup xs)->c≠x:=λc xs r z=>by subst z;rw [r] at mu;exact mu
 have Gm:∀c y u,ownOf u=some y->H c=some u->c≠x:=λc y u hu r z=>by
  subst z;rw [r] at mu
  cases u with
  | own y=>exact mu
  | jW o v=>exact mu
  | _=>cases hu
 by_cases hb:b=x
 .subst hb;rw [pH] at q;cases q;exact new
 .rw [dk hb] at q
  by_cases uj:b=e
  .have q':H b=some (.own x):=by
    rcases he with z | z
    .exact absurd (uj.trans z) hb
    .rw [uj];exact z
   rw [q] at q';cases q'
   obtain ⟨v,hv⟩:=rY
   exact ⟨v,by rw [uj];exact hv⟩
  .refine (ok b u q).j9 (λc v hc r=>k c v ?_ r) (λc u hu r=>by rw [dk (Gm c b u hu r)];exact r) λc xs r=>by rw [dk (Gj c xs r)];exact r
   rcases hc with rfl | hc
   .exact uj
   .rintro rfl
    rcases he with z | z
    .exact Gk c b hc z
    .rw [hc] at z;cases z;exact hb rfl
end
structure Un(fs ex:List Addr)(H H':Hp)(h h':Heap):Prop where
 keep:∀b o,h.get? b=some o->H b=none->b∉fs->b∉ex->h'.get? b=some o
 slot:∀b o,h.get? b=some o->H b=none->b∈fs->b∉ex->∃sl,h'.get? b=some { o with slots:=sl }
 free:∀b o,h.get? b=some o->H b=none->b∉ex->H' b=none
 there:∀b o,h.get? b=some o->b∉ex->∃o',h'.get? b=some o'
 eR:∀b xs,H b=some (.tup xs)->H' b=some (.tup xs)
 fO:∀b o u,H b=some (.jW o u)->H' b=some (.jW o u)
 fX:∀b ps,H b=some (.tH ps)->∃more,H' b=some (.tH (ps++more))
section
variable {fs HP ex C9:List Addr}{H H1 H2:Hp}{h h1 h2 h':Heap}{a x e:Addr}{o:HO}
theorem Un.any(u:Un fs ex H H1 h h1)(q:h.get? b=some ob)(n:H b=none)(hx:b∉ex):∃sl,h1.get? b=some { ob with slots:=sl }:=by
 by_cases hb:b∈fs
 .exact u.slot b ob q n hb hx
 .exact ⟨ob.slots,u.keep b ob q n hb hx⟩
theorem Un.trans(a:Un fs ex H H1 h h1)(b:Un fs ex H1 H2 h1 h2):Un fs ex H H2 h h2 where
 keep:=λc ob q n hc hx=>b.keep c ob (a.keep c ob q n hc hx) (a.free c ob q n hx) hc hx
 slot:=λc ob q n hc hx=>by
  obtain ⟨sl,e1⟩:=a.slot c ob q n hc hx
  obtain ⟨F0,e2⟩:=b.slot c _ e1 (a.free c ob q n hx) hc hx
  exact ⟨F0,e2⟩
 free:=λc ob q n hx=>by
  obtain ⟨o',e1⟩:=a.there c ob q hx
  exact b.free c o' e1 (a.free c ob q n hx) hx
 there:=λc ob q hx=>by
  obtain ⟨o',e1⟩:=a.there c ob q hx
  exact b.there c o' e1 hx
 eR:=λc xs q=>b.eR c xs (a.eR c xs q)
 fO:=λc ob xs q=>b.fO c ob xs (a.fO c ob xs q)
 fX:=λc ps q=>by
  obtain ⟨m1,e1⟩:=a.fX c ps q
  obtain ⟨m2,e2⟩:=b.fX c _ e1
  exact ⟨m1++m2,by rw [e2,Oi]⟩
theorem Un.kept(k:∀b u,h.get? b=some u->h'.get? b=some u):Un fs ex H H h h':=
 ⟨λb ob q _ _ _=>k b ob q,λb ob q _ _ _=>⟨ob.slots,k b ob q⟩,λ_ _ _ n _=>n,λb ob q _=>⟨ob,k b ob q⟩,λ_ _ q=>q,λ_ _ _ q=>q,λ_ ps q=>⟨#[],by rw [q];simp⟩⟩
theorem Un.refl:Un fs ex H H h h:=Un.kept λ_ _ q=>q
theorem Un.laid(k:∀b u,h.get? b=some u->h'.get? b=some u)(hp:h.objs.size<=a)(hn:H a=none):Un fs ex H (upd H a o) h h' where
 keep:=λb u q _ _ _=>k b u q
 slot:=λb u q _ _ _=>⟨u.slots,k b u q⟩
 free:=λb u q n _=>by rw [dk (dW (jI (bX q) hp))];exact n
 there:=λb u q _=>⟨u,k b u q⟩
 eR:=λb xs q=>by rw [dk (pF q hn)];exact q
 fO:=λb u xs q=>by rw [dk (pF q hn)];exact q
 fX:=λb ps q=>⟨#[],by rw [dk (pF q hn),q];simp⟩
theorem Un.write(mu:Fw (H x))(he:e=x\/H e=some (.own x))(k:∀b u,b≠e->h.get? b=some u->h'.get? b=some u)(rY:∃u,h'.get? e=some u):Un fs ex H (upd H x o) h h':=by
 have hx:∀b,H b=none->b≠x:=λb n z=>by subst z;rw [n] at mu;exact mu
 have hb:∀b,H b=none->b≠e:=λb n z=>by
  subst z
  rcases he with r | r
  .exact hx b n r
  .rw [n] at r;cases r
 have hm:∀b u,H b=some u->¬Fw (some u)->b≠x:=λb u q nm z=>by subst z;rw [q] at mu;exact nm mu
 refine ⟨λb u q n _ _=>k b u (hb b n) q,λb u q n _ _=>⟨u.slots,k b u (hb b n) q⟩,λb u q n _=>by rw [dk (hx b n)];exact n,λb u q _=>?_,
  λb xs q=>by rw [dk (hm b _ q λz=>z)];exact q,λb u xs q=>by rw [dk (hm b _ q λz=>z)];exact q,λb ps q=>⟨#[],by rw [dk (hm b _ q λz=>z),q];simp⟩⟩
 by_cases uj:b=e
 .subst uj;exact rY
 .exact ⟨u,k b u uj q⟩
theorem Un.mono(u:Un fs ex H H1 h h1)(hs:∀b∈fs,b∈HP)(hx:∀b∈ex,b∈C9):Un HP C9 H H1 h h1:=
 ⟨λb ob q n hb he=>u.keep b ob q n (λz=>hb (hs b z)) λz=>he (hx b z),λ_ _ q n _ he=>u.any q n λz=>he (hx _ z),λb ob q n he=>u.free b ob q n λz=>he (hx b z),λb ob q he=>u.there b ob q λz=>he (hx b z),u.eR,u.fO,u.fX⟩
end
def Cv(h:Heap)(H:Hp):List Addr:=(jH h.objs.size).filter λa=>(H a).isSome
def jD(h:Heap)(H:Hp):Heap:=PySem.W.hideAll h (Cv h H)
theorem b2z(h:Heap)(H:Hp):(jD h H).objs.size=h.objs.size:=PySem.W.hideAll_size _ _
theorem b4o(e:h.get? b=some o)(n:H b=none):(jD h H).get? b=some o:=
 PySem.W.hideAll_get _ e λhm=>by
  have q:(H b).isSome=true:=(List.mem_filter.mp hm).2
  rw [n] at q;simp at q
theorem b6B(e:(jD h H).get? b=some o):h.get? b=some o/\H b=none:=by
 have e':h.get? b=some o:=PySem.W.of_hideAll (Cv h H) e
 refine ⟨e',?_⟩
 cases q:H b with
 | none=>rfl
 | some x =>
  have hm:b∈Cv h H:=List.mem_filter.mpr ⟨sk.mpr (bX e'),by simp [q]⟩
  have z:(jD h H).get? b=none:=PySem.W.hideAll_none (Cv h H) hm
  rw [z] at e;cases e
def b7i(g h:Heap)(L:Addr):List (Addr×Obj):=(jH h.objs.size).filterMap λa=>if a=L\/(g.get? a).isSome=true then none else (h.get? a).map λo=>(a,o)
def rest(g h:Heap)(L d:Addr):List (Addr×Obj):=(b7i g h L).filter λp=>decide (p.1≠d)
end L2
namespace L2
open PySem PySem.Spec PyProof.Rows
structure Mod(K:aI)(mg:Str->Option Value)(base:Heap):Prop where
 Gx:K.In base
 glob:base.Ns mainGlobals mg
 blt:∃mb,base.Ns builtinsNs mb/\∀x:Str,x ≠ "__name__" -> mb x=bootBuiltins x
 nolimit:base.NoLimit
 bmod:∃bm ob,mg "__builtins__" = some (.ref bm)/\bm≠builtinsNs/\base.get? bm=some ob/\ob.cls=.type "module" /\ ob.dict=some builtinsNs/\ob.data=.plain
structure Cx where
 prog:Program
 w:World
 K:aI
 mg:Str->Option Value
 base:Heap
 A:Around
 N:List Str
 cQ:Shared
 pM:Hp
 env:Env
 outer:List Env
 stack:List Env
 ex:List Addr
 fn:Str->Bool
 calm:Bool
 pn:List (Addr×Obj)
 xe:Value->Shared->Prop
def nk(l:List Env):List Addr:=l.filterMap (·.frame)
abbrev Cx.fs(X:Cx):List Addr:=nk X.outer
def iN(sc:Scope)(x:Str):Prop:=sc.names.lookup x=some .local\/sc.names.lookup x=some .cell\/sc.names.lookup x=some .free
def Loc(sc:Scope)(x:Str):Prop:=sc.names.lookup x=some .local\/sc.names.lookup x=some .cell
def Look(env:Env)(h:Heap)(m:Str->Option Value)(x:Str)(u:Value):Prop:=
 (env.kindOf x=some .local/\m x=some u)\/((env.kindOf x=some .cell\/env.kindOf x=some .free)/\∃c,env.cells.lookup x=some c/\h.IsCell c (some u))
structure Cx.Ok(X:Cx):Prop where
 mod:Mod X.K X.mg X.base
 kind:X.env.scope.kind=.function
 glob:X.env.globals=mainGlobals
 blt:X.env.builtins=builtinsNs
 above:X.cQ.heap.objs.size<=X.env.locals
 inj:∀x y c,X.env.cells.lookup x=some c->X.env.cells.lookup y=some c->x=y
 has:∀x,(X.env.kindOf x=some .cell\/X.env.kindOf x=some .free)->∃c,X.env.cells.lookup x=some c
 Av:∀x c,X.fn x=true->X.env.cells.lookup x=some c->X.cQ.heap.objs.size<=c
 hd:X.calm=true->X.A.handled=none
 frames:X.A.frames=some X.stack
 Cy:X.stack=X.outer\/(X.stack=X.env::X.outer/\X.env.frame=some X.env.locals)
 NG:∀b∈X.ex,b≠X.env.locals/\∀x c,X.env.cells.lookup x=some c->c≠b
 bs:∀b o,X.base.get? b=some o->X.cQ.heap.get? b=some o/\X.pM b=none
 oz:X.base.objs.size<=X.cQ.heap.objs.size
 oQ:∀b o,X.base.get? b=some o->b∉X.ex
 qE:∀b∈X.ex,b∉X.fs
 fN:X.cQ.heap.FunFrames X.base X.outer
 qD:∀b∈X.fs,X.pM b=none
structure Inv(X:Cx)(pins:List (Addr×Obj))(σ:List (Option V))(H:Hp)(s:Shared):Prop where
 ok:X.Ok
 os:s.os=X.cQ.os
 bare:AllBare s.gens
 base:Un X.fs X.ex X.pM H X.cQ.heap s.heap
 loc:∃m,s.heap.Ns X.env.locals m/\∀(i:Nat) (x:Str) (v:V),X.N[i]?=some x->σ[i]?=some (some v)->iN X.env.scope x->∃u,RelV v u/\Look X.env s.heap m x u
 cell:∀x c,X.env.cells.lookup x=some c->∃v,s.heap.IsCell c v
 free:H X.env.locals=none
 e7:∀x c,X.env.cells.lookup x=some c->H c=none
 pin:∀p∈X.pn++pins,s.heap.get? p.1=some p.2/\H p.1=none/\p.1≠X.env.locals/\p.1∉X.fs/\∀v,p.2.data≠.cell v
 bu:iF X.prog X.w H s.heap
 len:σ.length=X.N.length
section
variable {X:Cx}{pins:List (Addr×Obj)}{σ:List (Option V)}{H H':Hp}{s:Shared}{h':Heap}
theorem Cx.Ok.Gp(ok:X.Ok)(e:X.base.get? b=some o):b∉X.fs:=λhb=>by
 have:=(ok.fN.mem hb).1
 rw [e] at this;cases this
theorem Inv.bs(I:Inv X pins σ H s):∀b o,X.base.get? b=some o->s.heap.get? b=some o/\H b=none:=λb o e =>
 ⟨I.base.keep b o (I.ok.bs b o e).1 (I.ok.bs b o e).2 (I.ok.Gp e) (I.ok.oQ b o e),I.base.free b o (I.ok.bs b o e).1 (I.ok.bs b o e).2 (I.ok.oQ b o e)⟩
theorem Inv.bk(I:Inv X pins σ H s):∀b o,X.base.get? b=some o->s.heap.get? b=some o:=λb o e=>(I.bs b o e).1
theorem Inv.mod(I:Inv X pins σ H s):Mod X.K X.mg X.base:=I.ok.mod
theorem Inv.tX(I:Inv X pins σ H s):X.K.In s.heap:=I.ok.mod.Gx.keeps I.bk
theorem Inv.nolimit(I:Inv X pins σ H s):s.heap.NoLimit:=I.ok.mod.nolimit.keeps I.bk
theorem Inv.fr(I:Inv X pins σ H s):∃m,Fr X.base X.env.locals s.heap m:=
 let ⟨m,hn,_⟩:=I.loc
 ⟨m,hn,I.bk,fq I.ok.oz I.ok.above⟩
theorem Inv.lt(I:Inv X pins σ H s):X.env.locals<s.heap.objs.size:=let ⟨_,hn,_⟩:=I.loc;hn.lt
theorem Inv.sz(I:Inv X pins σ H s):X.cQ.heap.objs.size<=s.heap.objs.size:=fq I.ok.above (AJ I.lt)
theorem Inv.Gn(I:Inv X pins σ H s){a:Addr}(h:s.heap.objs.size<=a):a∉X.fs:=λhb=>by
 obtain ⟨_,o,ho,_⟩:=I.ok.fN.mem hb
 exact absurd (jI (bX ho) (fq I.sz h)) (om _)
theorem Inv.uy(I:Inv X pins σ H s):∀x c,X.env.cells.lookup x=some c->c≠X.env.locals:=λx c e z=>by
 obtain ⟨v,o,ho,hd⟩:=I.cell x c e
 obtain ⟨m,⟨o',es,ep,mi,oZ,_⟩,_⟩:=I.loc
 rw [z,mi] at ho;cases ho;rw [oZ] at hd;cases hd
theorem Inv.fN(I:Inv X pins σ H s):s.heap.FunFrames X.base X.outer:=by
 have all:∀(l:List Env),(∀b∈nk l,b∈X.fs)->X.cQ.heap.FunFrames X.base l->s.heap.FunFrames X.base l:=by
  intro l
  induction l with
  | nil=>intro _ _;trivial
  | cons env r ih =>
   intro hs hl
   obtain ⟨hk,⟨L,o,hf,hn,ho,hd⟩,hr⟩:=hl
   have hL:L∈X.fs:=hs L (by unfold nk;rw [IY,hf];exact aZ)
   obtain ⟨sl,e⟩:=I.base.slot L o ho (I.ok.qD L hL) hL λz=>I.ok.qE L z hL
   exact ⟨hk,⟨L,_,hf,hn,e,hd⟩,ih (λb hb=>hs b (by unfold nk;rw [IY,hf];exact br _ hb)) hr⟩
 exact all X.outer (λ_ hb=>hb) I.ok.fN
theorem Inv.stack(I:Inv X pins σ H s):s.heap.FunFrames X.base X.stack:=by
 rcases I.ok.Cy with e | ⟨e,hf⟩
 .rw [e];exact I.fN
 .rw [e]
  obtain ⟨m,hn,_⟩:=I.loc
  refine .cons (by rw [I.ok.kind];decide) hf hn ?_ I.fN
  exact Heap.get?_none_of_le (fq I.ok.oz I.ok.above)
theorem Inv.g9(I:Inv X pins σ H s):∀b∈nk X.stack,b∈X.env.locals::X.fs:=λb hb=>by
 rcases I.ok.Cy with e | ⟨e,hf⟩
 .rw [e] at hb;exact br _ hb
 .rw [e] at hb
  unfold nk at hb
  rw [IY,hf] at hb
  exact hb
theorem Inv.mG(I:Inv X pins σ H s):∀b∈nk X.stack,H b=none:=λb hb=>by
 rcases bq.mp (I.g9 b hb) with e | hb
 .rw [e];exact I.free
 .obtain ⟨_,o,ho,_⟩:=I.ok.fN.mem hb
  exact I.base.free b o ho (I.ok.qD b hb) λz=>I.ok.qE b z hb
theorem Inv.step{g':Array GenState}{t':Nat}{d':Drawn}{ch:List Addr}(I:Inv X pins σ H s)
  (pP:∀b∈ch,(b∈X.ex\/X.cQ.heap.objs.size<=b)/\b≠X.env.locals/\(∀x c,X.env.cells.lookup x=some c->c≠b)/\∀p∈X.pn++pins,p.1≠b)
  (keep:∀b o,b≠X.env.locals->b∉X.fs->b∉ch->s.heap.get? b=some o->H b=none->h'.get? b=some o)
  (slot:∀b o,b≠X.env.locals->b∈X.fs->b∉ch->s.heap.get? b=some o->H b=none->∃sl,h'.get? b=some { o with slots:=sl })(free:∀b o,b∉ch->s.heap.get? b=some o->H b=none->H' b=none)
  (there:∀b o,b∉ch->s.heap.get? b=some o->∃o',h'.get? b=some o')
  (eR:∀b xs,H b=some (.tup xs)->H' b=some (.tup xs))(fO:∀b o u,H b=some (.jW o u)->H' b=some (.jW o u))(fX:∀b ps,H b=some (.tH ps)->∃more,H' b=some (.tH (ps++more)))
  (ns:∀m,s.heap.Ns X.env.locals m->h'.Ns X.env.locals m)(bu:iF X.prog X.w H' h')(hg:AllBare g'):
  Inv X pins σ H' { s with heap:=h',gens:=g',drawn:=d',toks:=t' }:=by
 have MV:∀b o,X.cQ.heap.get? b=some o->b≠X.env.locals:=λb o e=>dW (jI (bX e) I.ok.above)
 have CG:∀b o,X.cQ.heap.get? b=some o->b∉X.ex->b∉ch:=λb o e hx hb=>by
  rcases (pP b hb).1 with z | z
  .exact hx z
  .exact absurd (jI (bX e) z) (om _)
 have cellK:∀x c,X.env.cells.lookup x=some c->∀v,s.heap.IsCell c v->h'.IsCell c v:=λx c e v ⟨o,ho,hd⟩=>by
  have yP:c∉ch:=λz=>(pP c z).2.2.1 x c e rfl
  by_cases hc:c∈X.fs
  .obtain ⟨sl,q⟩:=slot c o (I.uy x c e) hc yP ho (I.e7 x c e)
   exact ⟨_,q,hd⟩
  .exact ⟨o,keep c o (I.uy x c e) hc yP ho (I.e7 x c e),hd⟩
 refine ⟨I.ok,I.os,hg,⟨λb o e n hb hx=>?_,λb o e n hb hx=>?_,λb o e n hx=>?_,λb o e hx=>?_,λb xs e=>eR b xs (I.base.eR b xs e),λb o xs e=>fO b o xs (I.base.fO b o xs e),λb ps e=>?_⟩,?_,λx c e=>?_,?_,λx c e=>?_,λp hp=>?_,bu,I.len⟩
 .exact keep b o (MV b o e) hb (CG b o e hx) (I.base.keep b o e n hb hx) (I.base.free b o e n hx)
 .obtain ⟨sl,e1⟩:=I.base.slot b o e n hb hx
  obtain ⟨F0,e2⟩:=slot b _ (MV b o e) hb (CG b o e hx) e1 (I.base.free b o e n hx)
  exact ⟨F0,e2⟩
 .obtain ⟨o',e1⟩:=I.base.there b o e hx
  exact free b o' (CG b o e hx) e1 (I.base.free b o e n hx)
 .obtain ⟨o',e1⟩:=I.base.there b o e hx
  exact there b o' (CG b o e hx) e1
 .obtain ⟨m1,e1⟩:=I.base.fX b ps e
  obtain ⟨m2,e2⟩:=fX b _ e1
  exact ⟨m1++m2,by rw [e2,Oi]⟩
 .obtain ⟨m,hn,hl⟩:=I.loc
  refine ⟨m,ns m hn,λi x v e1 e2 e3=>?_⟩
  obtain ⟨u,r,l⟩:=hl i x v e1 e2 e3
  refine ⟨u,r,?_⟩
  rcases l with l | ⟨k,c,e,z⟩
  .exact .inl l
  .exact .inr ⟨k,c,e,cellK x c e _ z⟩
 .obtain ⟨v,z⟩:=I.cell x c e
  exact ⟨v,cellK x c e v z⟩
 .obtain ⟨m,⟨o,_,_,ho,_⟩,_⟩:=I.loc
  exact free _ o (λz=>(pP _ z).2.1 rfl) ho I.free
 .obtain ⟨v,o,ho,hd⟩:=I.cell x c e
  exact free c o (λz=>(pP c z).2.2.1 x c e rfl) ho (I.e7 x c e)
 .obtain ⟨e,n,ne,nf,d⟩:=I.pin p hp
  have yP:p.1∉ch:=λz=>(pP p.1 z).2.2.2 p hp rfl
  exact ⟨keep p.1 p.2 ne nf yP e n,free p.1 p.2 yP e n,ne,nf,d⟩
theorem Inv.un(I:Inv X pins σ H s)(u:Un X.fs [] H H' s.heap h')(bu:iF X.prog X.w H' h'):Inv X pins σ H' { s with heap:=h',toks:=t' }:=by
 obtain ⟨m,⟨o,es,ep,ho,r⟩,_⟩:=id I.loc
 obtain ⟨sl,hL⟩:=u.any ho I.free (by simp)
 exact I.step (g':=s.gens) (d':=s.drawn) (ch:=[]) (λ_ z=>nomatch z) (λb o _ hb _ e n=>u.keep b o e n hb (by simp)) (λb o _ hb _ e n=>u.slot b o e n hb (by simp)) (λb o _ e n=>u.free b o e n (by simp)) (λb o _ e=>u.there b o e (by simp)) u.eR u.fO u.fX (λm' hm=>by
  obtain ⟨o',HV,HW,mi,r'⟩:=hm
  rw [ho] at mi;cases mi
  exact ⟨_,HV,HW,hL,r'⟩) bu I.bare
theorem Inv.call(I:Inv X pins σ H s)(u:Un (nk X.stack) ch H H' s.heap h')(bu:iF X.prog X.w H' h')(hg:AllBare g')
  (pP:∀b∈ch,(b∈X.ex\/X.cQ.heap.objs.size<=b)/\b≠X.env.locals/\(∀x c,X.env.cells.lookup x=some c->c≠b)/\∀p∈X.pn++pins,p.1≠b):
  Inv X pins σ H' { s with heap:=h',gens:=g',drawn:=d',toks:=t' }:=by
 obtain ⟨m,⟨o,es,ep,ho,r⟩,_⟩:=id I.loc
 obtain ⟨sl,hL⟩:=u.any ho I.free λz=>(pP _ z).2.1 rfl
 exact I.step (ch:=ch) pP (λb o hL hb hc e n=>u.keep b o e n (λz=>(bq.mp (I.g9 b z)).elim hL hb) hc) (λb o _ _ hc e n=>u.any e n hc) (λb o hc e n=>u.free b o e n hc) (λb o hc e=>u.there b o e hc) u.eR u.fO u.fX (λm' hm=>by
  obtain ⟨o',HV,HW,mi,r'⟩:=hm
  rw [ho] at mi;cases mi
  exact ⟨_,HV,HW,hL,r'⟩) bu hg
theorem Inv.turned(I:Inv X pins σ H s)(k:∀b o,b≠it->s.heap.get? b=some o->h'.get? b=some o)(hn:H it=none)(hL:it≠X.env.locals)
  (h1:it∈X.ex\/X.cQ.heap.objs.size<=it)(h2:∀x c,X.env.cells.lookup x=some c->c≠it)(h3:∀p∈X.pn++pins,p.1≠it):Inv X pins σ H { s with heap:=h',toks:=t' }:=by
 have yO:∀b u,H b=some u->b≠it:=λb u e z=>by rw [z,hn] at e;cases e
 refine I.step (g':=s.gens) (d':=s.drawn) (ch:=[it]) (λb hb=>?_) (λb o _ _ hc e _=>k b o (λz=>hc (by simp [z])) e) (λb o _ _ hc e _=>⟨o.slots,k b o (λz=>hc (by simp [z])) e⟩) (λ_ _ _ _ n=>n)
  (λb o hc e=>⟨o,k b o (λz=>hc (by simp [z])) e⟩) (λ_ _ e=>e) (λ_ _ _ e=>e) (λb ps e=>⟨#[],by rw [e];simp⟩) (λm hm=>?_) (λb u e=>?_) I.bare
 .have e:b=it:=by simpa using hb
  subst e
  exact ⟨h1,hL,h2,h3⟩
 .obtain ⟨o,es,ep,ho,r⟩:=hm
  exact ⟨o,es,ep,k _ o (gy hL) ho,r⟩
 .refine (I.bu b u e).j9 (λc v hc q=>k c v ?_ q) (λ_ _ _ q=>q) λ_ _ q=>q
  rcases hc with z | z
  .rw [z];exact yO b u e
  .exact yO c _ z
theorem Inv.tok(I:Inv X pins σ H s)(t:Nat):Inv X pins σ H { s with toks:=t }:=I.un (h':=s.heap) (t':=t) Un.refl I.bu
theorem Inv.kept(I:Inv X pins σ H s)(k:∀b u,s.heap.get? b=some u->h'.get? b=some u):Inv X pins σ H { s with heap:=h',toks:=t' }:=I.un (Un.kept k) (I.bu.kept k)
theorem Inv.laid{a:Addr}{o:HO}{t':Nat}(I:Inv X pins σ H s)(k:∀b u,s.heap.get? b=some u->h'.get? b=some u)(hp:s.heap.objs.size<=a)(new:cV X.prog X.w (upd H a o) h' a o):
  Inv X pins σ (upd H a o) { s with heap:=h',toks:=t' }:=I.un (Un.laid k hp (I.bu.fresh hp)) (I.bu.laid k hp new)
theorem Inv.write(I:Inv X pins σ H s)(mu:Fw (H x))(he:e=x\/H e=some (.own x))(k:∀b u,b≠e->s.heap.get? b=some u->h'.get? b=some u)(rY:∃u,h'.get? e=some u)
  (new:cV X.prog X.w (upd H x o) h' x o):Inv X pins σ (upd H x o) { s with heap:=h',toks:=t' }:=I.un (Un.write mu he k rY) (I.bu.write mu he k rY new)
theorem Inv.fI(I:Inv X pins σ H s)(h:∀p∈yy,s.heap.get? p.1=some p.2/\H p.1=none/\p.1≠X.env.locals/\p.1∉X.fs/\∀v,p.2.data≠.cell v):Inv X yy σ H s:=
 ⟨I.ok,I.os,I.bare,I.base,I.loc,I.cell,I.free,I.e7,λp hp=>(bT.mp hp).elim (λz=>I.pin p (gp _ z)) (h p),I.bu,I.len⟩
theorem Qv{N:List Str}(hN:N.Nodup){i j:Nat}{x:Str}(a:N[i]?=some x)(b:N[j]?=some x):i=j:=by
 obtain ⟨h1,e1⟩:=j0.mp a
 obtain ⟨h2,e2⟩:=j0.mp b
 exact (List.getElem_inj hN).mp (e1.trans e2.symm)
theorem Rb(I:Inv X pins σ H s)(hN:X.N.Nodup)(hi:X.N[i]?=some x)(hx:Loc X.env.scope x)(r:RelV v u)
  (h:∀s',Inv X pins (σ.set i (some v)) H s'->(∃a,AI a s.heap s'.heap/\(a=X.env.locals\/X.env.cells.lookup x=some a))->Q () s')(hf:X.fn x=true\/X.env.scope.names.lookup x=some .local:=by first | exact .inl rfl | exact .inr rfl | assumption):wpAny M A (storeName X.env x u) Q E s:=by
 obtain ⟨m,hn,hl⟩:=id I.loc
 have HC:(X.env.scope.kind==.class||(X.env.scope.kind==.module&&X.env.locals != X.env.globals))=false:=by rw [I.ok.kind];rfl
 have zF:i<σ.length:=by rw [I.len];exact (j0.mp hi).1
 have uy:=I.uy
 have tracked:∀{a:Addr} {h':Heap},(∃o,s.heap.get? a=some o/\H a=none)->AI a s.heap h'->iF X.prog X.w H h':=λ{a h'} ha hs b ob e=>by
  obtain ⟨_,_,rW⟩:=ha
  refine (I.bu b ob e).j9 (λc w' hc q=>(hs.2 c ?_).trans q) (λ_ _ _ q=>q) λ_ _ q=>q
  rintro rfl
  rcases hc with rfl | hc
  .rw [rW] at e;cases e
  .rw [rW] at hc;cases hc
 rcases hx with hk | hk
 .refine wpAny_storeName_local hk hn (λh' XB hs=>?_) HC
  obtain ⟨oL,_,_,Xy,_⟩:=id hn
  refine h _ ⟨I.ok,I.os,I.bare,⟨λb o e n hb hx=>?_,λb o e n hb hx=>?_,I.base.free,λb o e hx=>?_,I.base.eR,I.base.fO,I.base.fX⟩,⟨_,XB,λj y v' e1 e2 e3=>?_⟩,λy c e=>?_,I.free,I.e7,λp hp=>?_,tracked ⟨oL,Xy,I.free⟩ hs,by simpa using I.len⟩ ⟨_,hs,.inl rfl⟩
  .exact (hs.2 b (dW (jI (bX e) I.ok.above))).trans (I.base.keep b o e n hb hx)
  .obtain ⟨sl,e1⟩:=I.base.slot b o e n hb hx
   exact ⟨sl,(hs.2 b (dW (jI (bX e) I.ok.above))).trans e1⟩
  .obtain ⟨o',e1⟩:=I.base.there b o e hx
   exact ⟨o',(hs.2 b (dW (jI (bX e) I.ok.above))).trans e1⟩
  .by_cases hj:j=i
   .subst hj
    rw [hi] at e1;cases e1
    rw [jo zF] at e2
    cases e2
    exact ⟨u,r,.inl ⟨hk,by simp⟩⟩
   .rw [fE (gy hj)] at e2
    obtain ⟨u',r',q⟩:=hl j y v' e1 e2 e3
    refine ⟨u',r',?_⟩
    rcases q with ⟨k,e⟩ | ⟨k,c,e,z⟩
    .refine .inl ⟨k,?_⟩
     have:y≠x:=λe=>hj (Qv hN e1 (e▸hi))
     simp [this,e]
    .exact .inr ⟨k,c,e,z.sameBut hs (uy y c e)⟩
  .obtain ⟨w',z⟩:=I.cell y c e
   exact ⟨w',z.sameBut hs (uy y c e)⟩
  .obtain ⟨e,n,ne,nf,d⟩:=I.pin p hp
   exact ⟨(hs.2 p.1 ne).trans e,n,ne,nf,d⟩
 .have Ht:X.fn x=true:=by
   rcases hf with z | z
   .exact z
   .rw [z] at hk;cases hk
  obtain ⟨c,hc⟩:=I.ok.has x (.inl hk)
  obtain ⟨w',z⟩:=I.cell x c hc
  refine wpAny_storeName_cell I.ok.kind hk hc z (λh' r8 hs=>?_)
  obtain ⟨oc,Nf,Hc⟩:=id z
  refine h { s with heap:=h' } ⟨I.ok,I.os,I.bare,⟨λb o e n hb hx=>?_,λb o e n hb hx=>?_,I.base.free,λb o e hx=>?_,I.base.eR,I.base.fO,I.base.fX⟩,⟨m,hn.sameBut hs (gy (uy x c hc)),λj y v' e1 e2 e3=>?_⟩,λy c' e=>?_,I.free,I.e7,λp hp=>?_,tracked ⟨oc,Nf,I.e7 x c hc⟩ hs,by simpa using I.len⟩ ⟨c,hs,.inr hc⟩
  .exact (hs.2 b (dW (jI (bX e) (I.ok.Av x c Ht hc)))).trans (I.base.keep b o e n hb hx)
  .obtain ⟨sl,e1⟩:=I.base.slot b o e n hb hx
   exact ⟨sl,(hs.2 b (dW (jI (bX e) (I.ok.Av x c Ht hc)))).trans e1⟩
  .obtain ⟨o',e1⟩:=I.base.there b o e hx
   exact ⟨o',(hs.2 b (dW (jI (bX e) (I.ok.Av x c Ht hc)))).trans e1⟩
  .by_cases hj:j=i
   .subst hj
    rw [hi] at e1;cases e1
    rw [jo zF] at e2
    cases e2
    exact ⟨u,r,.inr ⟨.inl hk,c,hc,r8⟩⟩
   .rw [fE (gy hj)] at e2
    obtain ⟨u',r',q⟩:=hl j y v' e1 e2 e3
    refine ⟨u',r',?_⟩
    rcases q with q | ⟨k,c',e,z'⟩
    .exact .inl q
    .refine .inr ⟨k,c',e,z'.sameBut hs ?_⟩
     rintro rfl
     exact hj (Qv hN e1 (I.ok.inj _ _ _ e hc▸hi))
  .by_cases Nm:c'=c
   .subst Nm;exact ⟨_,r8⟩
   .obtain ⟨w2,z2⟩:=I.cell y c' e
    exact ⟨w2,z2.sameBut hs Nm⟩
  .obtain ⟨e,n,ne,nf,d⟩:=I.pin p hp
   refine ⟨(hs.2 p.1 ?_).trans e,n,ne,nf,d⟩
   intro q
   rw [q,Nf] at e
   have q':oc=p.2:=cT e
   exact d w' (by rw [<-q'];exact Hc)
theorem KR(I:Inv X pins σ H s)(hN:X.N.Nodup)(hi:X.N[i]?=some x)(hx:Loc X.env.scope x)(r:RelV v u)
  (h:∀s',Inv X pins (σ.set i (some v)) H s'->Q () s')(hf:X.fn x=true\/X.env.scope.names.lookup x=some .local:=by first | exact .inl rfl | exact .inr rfl | assumption):wpAny M A (storeName X.env x u) Q E s:=
 Rb I hN hi hx r (λs' I' _=>h s' I') hf
theorem Inv.Au(I:Inv X pins σ H s)(ho:s'.os=s.os)(u:Un (nk X.stack) ch H H' s.heap s'.heap)(bu:iF X.prog X.w H' s'.heap)(hg:AllBare s'.gens)
  (pP:∀b∈ch,(b∈X.ex\/X.cQ.heap.objs.size<=b)/\b≠X.env.locals/\(∀x c,X.env.cells.lookup x=some c->c≠b)/\∀p∈X.pn++pins,p.1≠b):Inv X pins σ H' s':=by
 obtain ⟨h',g',d',t',o'⟩:=s'
 have e:o'=s.os:=ho
 subst e
 exact I.call (g':=g') (t':=t') (d':=d') u bu hg pP
end
abbrev XK:=Value->Option Addr->Hp->Prop
abbrev St:=List (Option V)
abbrev VK:=V->Hp->Prop
abbrev TE:=St->Hp->VK->Prop
abbrev TT:=St->Hp->(Bool->Hp->Prop)->Prop
abbrev TA:=St->Hp->(List V->Hp->Prop)->Prop
structure Ends where
 nx:St->Hp->Prop
 rt:VK
 bk:St->Hp->Prop:=λ_ _=>False
 ct:St->Hp->Prop:=λ_ _=>False
abbrev TS:=Ends->St->Hp->Prop
def EP(X:Cx)(pins:List (Addr×Obj))(σ:St)(Q:VK)(u:Value)(s':Shared):Prop:=∃v H',Inv X pins σ H' s'/\RelV v u/\Q v H'
def TP(X:Cx)(pins:List (Addr×Obj))(σ:St)(Q:Bool->Hp->Prop)(b:Bool)(s':Shared):Prop:=∃H',Inv X pins σ H' s'/\Q b H'
def AP(X:Cx)(pins:List (Addr×Obj))(σ:St)(Q:List V->Hp->Prop)(us:List Value)(s':Shared):Prop:=∃vs H',Inv X pins σ H' s'/\aw vs us/\Q vs H'
def SP(X:Cx)(pins:List (Addr×Obj))(D:Ends)(f:Flow)(s':Shared):Prop:=
 match f with
 | .next=>∃aJ H',Inv X pins aJ H' s'/\D.nx aJ H'
 | .brk=>∃aJ H',Inv X pins aJ H' s'/\D.bk aJ H'
 | .cont=>∃aJ H',Inv X pins aJ H' s'/\D.ct aJ H'
 | .ret u=>∃v aJ H',Inv X pins aJ H' s'/\RelV v u/\D.rt v H'
def PE(X:Cx)(e:Expr)(t:TE):Prop:=
 ∀(pins:List (Addr×Obj)) (s:Shared) (σ:St) (H:Hp) (Q:VK),Inv X pins σ H s->t σ H Q->wpAny (model X.prog X.w) X.A (eval e X.env) (EP X pins σ Q) X.xe s
def PT(X:Cx)(e:Expr)(t:TT):Prop:=
 ∀(pins:List (Addr×Obj)) (s:Shared) (σ:St) (H:Hp) (Q:Bool->Hp->Prop),Inv X pins σ H s->t σ H Q->wpAny (model X.prog X.w) X.A (isTrue e X.env (eval e X.env)) (TP X pins σ Q) X.xe s
def PW(X:Cx)(e:Expr)(t:TT):Prop:=
 ∀(whole:Sem Value) (pins:List (Addr×Obj)) (s:Shared) (σ:St) (H:Hp) (Q:Bool->Hp->Prop),Inv X pins σ H s->t σ H Q->wpAny (model X.prog X.w) X.A (isTrue e X.env whole) (TP X pins σ Q) X.xe s
theorem PW.pt(h:PW X e t):PT X e t:=h _
def PA(X:Cx)(es:List Expr)(t:TA):Prop:=
 ∀(pos:Pos) (pins:List (Addr×Obj)) (s:Shared) (σ:St) (H:Hp) (Q:List V->Hp->Prop),Inv X pins σ H s->t σ H Q->wpAny (model X.prog X.w) X.A (spliced (backTo pos (starEach es X.env))) (AP X pins σ Q) X.xe s
def PS(X:Cx)(st:Stmt)(t:TS):Prop:=
 ∀(pins:List (Addr×Obj)) (s:Shared) (σ:St) (H:Hp) (D:Ends),Inv X pins σ H s->t D σ H->wpAny (model X.prog X.w) X.A (exec st X.env) (SP X pins D) X.xe s
def mW(X:Cx)(st:List Stmt)(t:TS):Prop:=
 ∀(pins:List (Addr×Obj)) (s:Shared) (σ:St) (H:Hp) (D:Ends),Inv X pins σ H s->t D σ H->wpAny (model X.prog X.w) X.A (execs st X.env) (SP X pins D) X.xe s
theorem bG{α:Type}{t:Sem α}{Q Q':α->Shared->Prop}{M:Model}{A:Around}{E:Value->Shared->Prop}{s:Shared}(h:wpAny M A t Q E s)(hQ:∀a s,Q a s->Q' a s):wpAny M A t Q' E s:=jY h hQ λ_ _ x=>x
end L2
namespace L2
open PySem PySem.Spec PyProof.Rows
section
variable {X:Cx}
theorem bin{a b:Expr}{ta tb:TE}(ha:PE X a ta)(hb:PE X b tb){pins:List (Addr×Obj)}{s:Shared}{σ:St}{H:Hp}{R:V->V->Hp->Prop}(I:Inv X pins σ H s)(h:ta σ H λx H1=>tb σ H1 λy H2=>R x y H2)
  {α:Type}{Q:α->Shared->Prop}{f:Value->Value->Sem α}
  (hf:∀v u s2 x y H2,Inv X pins σ H2 s2->RelV x v->RelV y u->R x y H2->wpAny (model X.prog X.w) X.A (f v u) Q X.xe s2):
  wpAny (model X.prog X.w) X.A (eval a X.env) (λv aO=>wpAny (model X.prog X.w) X.A (eval b X.env) (λu j8=>wpAny (model X.prog X.w) X.A (f v u) Q X.xe j8) X.xe aO) X.xe s:=by
 refine bG (ha pins s σ H _ I h) λv s1 ⟨x,H1,I1,r1,q1⟩=>?_
 refine bG (hb pins s1 σ H1 _ I1 q1) λu s2 ⟨y,H2,I2,r2,q2⟩=>?_
 exact hf v u s2 x y H2 I2 r1 r2 q2
def xR(i:Nat):TE:=λσ H Q=>∃v,σ[i]?=some (some v)/\Q v H
def tC(v:V):TE:=λ_ H Q=>Q v H
theorem sO{i:Nat}{x:Str}{pos:Pos}(hN:X.N[i]?=some x)(hv:iN X.env.scope x)(hd:(x==("__debug__":Str))=false:=by decide)(c7:(x==("__classdict__":Str))=false:=by decide):PE X (.Name x pos) (xR i):=by
 intro pins s σ H Q I h
 obtain ⟨v,e,h⟩:=h
 obtain ⟨m,hn,hl⟩:=I.loc
 obtain ⟨u,r,l⟩:=hl i x v hN e hv
 have fin:EP X pins σ Q u s:=⟨v,H,I,r,h⟩
 rcases l with ⟨hk,hm⟩ | ⟨hk,c,hc,fL⟩
 .exact wpAny_Name (wpAny_loadName_local I.ok.kind hk hn hm fin) hd
 .rcases hk with hk | hk
  .exact wpAny_Name (wpAny_loadName_cell I.ok.kind hk hc fL fin) hd
  .exact wpAny_Name (wpAny_loadName_free I.ok.kind hk hc fL fin c7) hd
theorem b8G{i j pos}:PE X (.Constant (.int i) j pos) (tC (.int i)):=λ_ _ _ H _ I h=>wpAny_Constant_int ⟨.int i,H,I.tok _,⟨_,rfl⟩,h⟩
theorem yD{b j pos}:PE X (.Constant (.bool b) j pos) (tC (.bl b)):=λ_ _ _ H _ I h=>Constant_bool ⟨.bl b,H,I,rfl,h⟩
theorem b8E{j pos}:PE X (.Constant .none j pos) (tC .aU):=λ_ _ _ H _ I h=>Constant_none ⟨.aU,H,I,rfl,h⟩
def Gl(X:Cx)(x:Str):Prop:=X.env.kindOf x=some .globalImplicit
theorem Kb{E:Value->Shared->Prop}{pins:List (Addr×Obj)}{s:Shared}{σ:St}{H:Hp}{x:Str}{u:Value}{pos:Pos}{Q:Value->Shared->Prop}(I:Inv X pins σ H s)(hg:Gl X x)(hm:X.mg x=some u)(h:Q u s)
  (hd:(x==("__debug__":Str))=false:=by decide):wpAny (model X.prog X.w) X.A (eval (.Name x pos) X.env) Q E s:=
 OA I.ok.kind hg (Calls.loadGlobal_global (by rw [I.ok.glob];exact I.mod.glob.keeps I.bk) hm h) hd
theorem sN{E:Value->Shared->Prop}{pins:List (Addr×Obj)}{s:Shared}{σ:St}{H:Hp}{x:Str}{u:Value}{pos:Pos}{Q:Value->Shared->Prop}(I:Inv X pins σ H s)(hg:Gl X x)(hm:X.mg x=none)(hv:bootBuiltins x=some u)(h:Q u s)
  (hn:x ≠ "__name__":=by decide)(hd:(x==("__debug__":Str))=false:=by decide):wpAny (model X.prog X.w) X.A (eval (.Name x pos) X.env) Q E s:=by
 obtain ⟨mb,h1,h2⟩:=I.mod.blt
 exact OA I.ok.kind hg (Calls.loadGlobal_builtin (by rw [I.ok.glob];exact I.mod.glob.keeps I.bk) hm (by rw [I.ok.blt];exact h1.keeps I.bk) ((h2 x hn).trans hv) h) hd
theorem b6p(hg:Gl X x)(hm:X.mg x=some u)(r:RelV v u)(hd:(x==("__debug__":Str))=false:=by decide):PE X (.Name x pos) (tC v):=
 λ_ _ _ H _ I h=>Kb I hg hm ⟨v,H,I,r,h⟩ hd
theorem b6s{x:Str}{v:V}{u:Value}{pos:Pos}(hg:Gl X x)(hm:X.mg x=none)(hv:bootBuiltins x=some u)(r:RelV v u)(hn:x ≠ "__name__":=by decide)(hd:(x==("__debug__":Str))=false:=by decide):PE X (.Name x pos) (tC v):=
 λ_ _ _ H _ I h=>sN I hg hm hv ⟨v,H,I,r,h⟩ hn hd
variable {a b:Expr}{ta tb:TE}{pos:Pos}
variable {tA Cw:TT}{rest:List Expr}
def FW(t u:TT):TT:=λσ H Q=>t σ H λc H1=>if c=true then u σ H1 Q else Q false H1
def S'(t u:TT):TT:=λσ H Q=>t σ H λc H1=>if c=true then Q true H1 else u σ H1 Q
def FN(t:TT):TT:=λσ H Q=>t σ H λc H1=>Q (!c) H1
theorem b6f(ha:PT X a tA):PW X (.BoolOp .And [a] pos) tA:=by
 intro wh pins s σ H Q I h
 refine isTrue_and (bG (ha pins s σ H Q I h) λc s1 e=>?_)
 cases c with
 | true=>exact isTrue_and_nil e
 | false=>exact e
theorem b8u(ha:PT X a tA):PW X (.BoolOp .Or [a] pos) tA:=by
 intro wh pins s σ H Q I h
 refine isTrue_or (bG (ha pins s σ H Q I h) λc s1 e=>?_)
 cases c with
 | false=>exact isTrue_or_nil e
 | true=>exact e
theorem b8v(ha:PT X a tA)(hb:PW X (.BoolOp .And (b::rest) pos) Cw):PW X (.BoolOp .And (a::b::rest) pos) (FW tA Cw):=by
 intro wh pins s σ H Q I h
 refine isTrue_and (bG (ha pins s σ H _ I h) λc s1 ⟨H1,I1,q1⟩=>?_)
 cases c with
 | true=>exact hb wh pins s1 σ H1 Q I1 q1
 | false=>exact ⟨H1,I1,q1⟩
theorem pw_or(ha:PT X a tA)(hb:PW X (.BoolOp .Or (b::rest) pos) Cw):PW X (.BoolOp .Or (a::b::rest) pos) (S' tA Cw):=by
 intro wh pins s σ H Q I h
 refine isTrue_or (bG (ha pins s σ H _ I h) λc s1 ⟨H1,I1,q1⟩=>?_)
 cases c with
 | true=>exact ⟨H1,I1,q1⟩
 | false=>exact hb wh pins s1 σ H1 Q I1 q1
theorem b8w(ha:PT X a tA):PT X (.UnaryOp .Not a pos) (FN tA):=by
 intro pins s σ H Q I h
 exact isTrue_not (ha pins s σ H (λc H1=>Q (!c) H1) I h)
def x9(ta tb:TE):TE:=λσ H Q=>ta σ H λx H1=>∃c,x=.bl c/\if c=true then tb σ H1 Q else Q (.bl false) H1
def xV(ta:TE):TE:=λσ H Q=>ta σ H λx H1=>∃c,x=.bl c/\Q (.bl (!c)) H1
theorem b8C{op}(h:PE X a t):PE X (.BoolOp op [a] pos) t:=λpins s σ H Q I hw=>BoolOp_one (h pins s σ H Q I hw)
theorem b8J(ha:PE X a ta)(hb:PE X (.BoolOp .And (b::rest) pos) tb):PE X (.BoolOp .And (a::b::rest) pos) (x9 ta tb):=by
 intro pins s σ H Q I h
 refine BoolOp_and (bG (ha pins s σ H _ I h) λv s1 ⟨x,H1,I1,r1,q1⟩=>?_)
 obtain ⟨c,rfl,q1⟩:=q1
 cases r1
 refine AU ?_
 cases c with
 | true=>exact hb pins s1 σ H1 Q I1 q1
 | false=>exact ⟨.bl false,H1,I1,rfl,q1⟩
theorem b8D(ha:PE X a ta):PE X (.UnaryOp .Not a pos) (xV ta):=by
 intro pins s σ H Q I h
 refine UnaryOp_ (bG (ha pins s σ H _ I h) λv s1 ⟨x,H1,I1,r1,q1⟩=>?_)
 obtain ⟨c,rfl,q1⟩:=q1
 cases r1
 exact not_of (AU ⟨.bl (!c),H1,I1,rfl,q1⟩)
def Ta(t:TT)(ta tb:TE):TE:=λσ H Q=>t σ H λc H1=>if c=true then ta σ H1 Q else tb σ H1 Q
theorem b3V(hc:PT X c tA)(ha:PE X a ta)(hb:PE X b tb):PE X (.IfExp c a b pos) (Ta tA ta tb):=by
 intro pins s σ H Q I h
 refine wpAny_IfExp (bG (hc pins s σ H _ I h) λd s1 ⟨H1,I1,q1⟩=>?_)
 cases d with
 | true=>exact ha pins s1 σ H1 Q I1 q1
 | false=>exact hb pins s1 σ H1 Q I1 q1
end
end L2
namespace L2
open PySem PySem.Spec PyProof.Rows
def eQ(K:aI)(H:Hp)(a:Addr)(xs:List V):Prop:=
 Rd H a (.lst xs) \/
  ∃(o:Obj) (aq:Array Value) (n:Nat),K.lookup a=some o/\o.cls=.type "list" /\ o.dict=none/\o.data=.seq aq n/\aq.size<=sizeLine/\aw xs aq.toList
def eO(K:aI)(H:Hp)(a:Addr)(xs:List V):Prop:=
 Rd H a (.tup xs) \/
  ∃(o:Obj) (aq:Array Value) (n:Nat),K.lookup a=some o/\o.cls=.type "tuple" /\ o.data=.seq aq n/\aq.size<=sizeLine/\aw xs aq.toList
def Ka:Value->Option V
 | .none=>some .aU
 | .bool b=>some (.bl b)
 | .int i _=>some (.int i)
 | .str x _=>some (.str x)
 | .bytes b _=>some (.AZ b)
 | .float b _=>some (.Af b)
 | .ref a=>some (.ref a)
 | .type n=>some (.ty n)
 | _=>none
theorem RelV.abs(r:RelV x u):Ka u=some x:=by
 cases x with
 | aU=>cases r;rfl
 | bl _=>cases r;rfl
 | int _=>obtain ⟨t,rfl⟩:=r;rfl
 | str _=>obtain ⟨t,rfl⟩:=r;rfl
 | AZ _=>obtain ⟨t,rfl⟩:=r;rfl
 | Af _=>obtain ⟨t,rfl⟩:=r;rfl
 | ref _=>cases r;rfl
 | ty _=>cases r;rfl
theorem RelV.inj(r:RelV x u)(q:RelV y u):x=y:=cT (r.abs.symm.trans q.abs)
theorem aw.inj:∀{xs ys:List V} {us:List Value},aw xs us->aw ys us->xs=ys
 | _,_,_,.nil,.nil=>rfl
 | _,_,_,.cons r t,.cons r' t'=>by rw [r.inj r',aw.inj t t']
section
variable {X:Cx}{pins:List (Addr×Obj)}{σ:St}{H:Hp}{s:Shared}{a:Addr}{xs ys:List V}
theorem eQ.of{K:aI}(h:H a=some (.lst xs)):eQ K H a xs:=.inl (.inl h)
theorem eO.of{K:aI}(h:H a=some (.tup xs)):eO K H a xs:=.inl (.inl h)
theorem Inv.list(I:Inv X pins σ H s)(h:eQ X.K H a xs):∃aq:List Value,aw xs aq/\PlainL s.heap a aq.toArray/\xs.length<=sizeLine:=by
 rcases h with h | ⟨o,aq,n,hk,hc,hd,hs,hz,r⟩
 .obtain ⟨z,aq,n,r,e⟩:=h.ok I.bu
  exact ⟨aq,r,⟨_,n,e,rfl,rfl,rfl⟩,z⟩
 .refine ⟨aq.toList,r,⟨o,n,I.tX a o hk,hc,hd,by simpa using hs⟩,?_⟩
  have e:=r.length
  simp only [gQ] at e
  ext hz e
theorem Inv.tuple(I:Inv X pins σ H s)(h:eO X.K H a xs):∃aq:List Value,aw xs aq/\IsTup s.heap a aq.toArray/\xs.length<=sizeLine:=by
 rcases h with h | ⟨o,aq,n,hk,hc,hs,hz,r⟩
 .obtain ⟨z,aq,r,p⟩:=h.ok I.bu
  exact ⟨aq,r,p,z⟩
 .refine ⟨aq.toList,r,⟨o,I.tX a o hk,hc,n,by simpa using hs⟩,?_⟩
  have e:=r.length
  simp only [gQ] at e
  ext hz e
theorem Inv.ic(I:Inv X pins σ H s)(h:eQ X.K H a xs)(h':eQ X.K H a ys):xs=ys:=by
 obtain ⟨aq,r,⟨o,n,e,_,_,d⟩,_⟩:=I.list h
 obtain ⟨its',r',⟨o',n',e',_,_,d'⟩,_⟩:=I.list h'
 rw [e] at e';cases e'
 rw [d] at d'
 injection d' with d1 _
 have:aq=its':=by simpa using congrArg Array.toList d1
 subst this
 exact r.inj r'
theorem Inv.fW(I:Inv X pins σ H s)(h:eO X.K H a xs)(h':eO X.K H a ys):xs=ys:=by
 obtain ⟨aq,r,⟨o,e,_,n,d⟩,_⟩:=I.tuple h
 obtain ⟨its',r',⟨o',e',_,n',d'⟩,_⟩:=I.tuple h'
 rw [e] at e';cases e'
 rw [d] at d'
 injection d' with d1 _
 have:aq=its':=by simpa using congrArg Array.toList d1
 subst this
 exact r.inj r'
end
abbrev Cx.fG(X:Cx)(E:Value->Shared->Prop):Cx:={ X with xe:=E }
abbrev Cx.gJ(X:Cx):Cx:=X.fG λ_ _=>False
theorem Cx.Ok.fG{X:Cx}(ok:X.Ok)(E:Value->Shared->Prop):(X.fG E).Ok:=
 ⟨ok.mod,ok.kind,ok.glob,ok.blt,ok.above,ok.inj,ok.has,ok.Av,ok.hd,ok.frames,ok.Cy,ok.NG,ok.bs,ok.oz,ok.oQ,ok.qE,ok.fN,ok.qD⟩
theorem Cx.Ok.cE{X:Cx}(ok:(X.fG E).Ok):X.Ok:=
 ⟨ok.mod,ok.kind,ok.glob,ok.blt,ok.above,ok.inj,ok.has,ok.Av,ok.hd,ok.frames,ok.Cy,ok.NG,ok.bs,ok.oz,ok.oQ,ok.qE,ok.fN,ok.qD⟩
section
variable {X:Cx}{pins:List (Addr×Obj)}{σ:St}{H:Hp}{s:Shared}{E:Value->Shared->Prop}
theorem Inv.fG(I:Inv X pins σ H s)(E:Value->Shared->Prop):Inv (X.fG E) pins σ H s:=⟨I.ok.fG E,I.os,I.bare,I.base,I.loc,I.cell,I.free,I.e7,I.pin,I.bu,I.len⟩
theorem Inv.cE(I:Inv (X.fG E) pins σ H s):Inv X pins σ H s:=⟨I.ok.cE,I.os,I.bare,I.base,I.loc,I.cell,I.free,I.e7,I.pin,I.bu,I.len⟩
theorem SP.cE(h:SP (X.fG E) pins D f s'):SP X pins D f s':=by
 cases f with
 | next=>obtain ⟨aJ,H',I,q⟩:=h;exact ⟨aJ,H',I.cE,q⟩
 | brk=>obtain ⟨aJ,H',I,q⟩:=h;exact ⟨aJ,H',I.cE,q⟩
 | cont=>obtain ⟨aJ,H',I,q⟩:=h;exact ⟨aJ,H',I.cE,q⟩
 | ret u=>obtain ⟨v,aJ,H',I,r,q⟩:=h;exact ⟨v,aJ,H',I.cE,r,q⟩
theorem PE.gJ(h:PE X.gJ e t):PE X e t:=λpins s σ H Q I hw =>
 jY (h pins s σ H Q (I.fG _) hw) (λ_ _ ⟨v,H',I',r,q⟩=>⟨v,H',I'.cE,r,q⟩) λ_ _ z=>iJ z
theorem PT.gJ(h:PT X.gJ e t):PT X e t:=λpins s σ H Q I hw =>
 jY (h pins s σ H Q (I.fG _) hw) (λ_ _ ⟨H',I',q⟩=>⟨H',I'.cE,q⟩) λ_ _ z=>iJ z
theorem mW.gJ{st:List Stmt}{t:TS}(h:mW X.gJ st t):mW X st t:=λpins s σ H D I hw =>
 jY (h pins s σ H D (I.fG _) hw) (λ_ _ q=>q.cE) λ_ _ z=>iJ z
end
section
variable {X:Cx}{st:Stmt}{rest:List Stmt}{t u:TS}{e:Expr}{te:TE}{pos:Pos}
def xW:TS:=λD σ H=>D.nx σ H
def FK(t u:TS):TS:=λD σ H=>t { D with nx:=u D } σ H
theorem b6j:mW X [] xW:=λ_ _ σ H _ I h=>Dv ⟨σ,H,I,h⟩
theorem b3M(h1:PS X st t)(h2:mW X rest u):mW X (st::rest) (FK t u):=by
 intro pins s σ H D I h
 refine wpAny_execs_cons (bG (h1 pins s σ H { D with nx:=u D } I h) λf s1 q=>?_)
 cases f with
 | next =>
  obtain ⟨aJ,H',I',q⟩:=q
  exact h2 pins s1 aJ H' D I' q
 | ret v=>exact q
 | brk=>exact q
 | cont=>exact q
theorem b6i(h1:PS X st t):mW X [st] t:=by
 intro pins s σ H D I h
 refine wpAny_execs_cons (bG (h1 pins s σ H D I h) λf s1 q=>?_)
 cases f with
 | next=>exact Dv q
 | ret v=>exact q
 | brk=>exact q
 | cont=>exact q
def b8j:TS:=λD σ H=>D.bk σ H
theorem b3O:PS X (.Break pos) b8j:=λ_ _ σ H _ I h=>wpAny_Break ⟨σ,H,I,h⟩
theorem Inv.quiet{pins:List (Addr×Obj)}{σ:St}{H:Hp}{s:Shared}(I:Inv X pins σ H s):interactive X.env=false:=by simp [interactive,I.ok.kind]
def xX(te:TE):TS:=λD σ H=>te σ H λ_ H1=>D.nx σ H1
theorem Qg(he:PE X e te)(hs:swapsWith e none pos.line X.env=pure false:=by rfl):PS X (.Expr e pos) (xX te):=by
 intro pins s σ H D I h
 exact wpAny_Expr_any (bG (he pins s σ H _ I h) λv s1 ⟨x,H1,I1,r1,q1⟩=>⟨σ,H1,I1,q1⟩) I.quiet hs
def FL(te:TE):TS:=λD σ H=>te σ H D.rt
theorem O5(he:PE X e te):PS X (.Return (some e) pos) (FL te):=by
 intro pins s σ H D I h
 exact wpAny_Return_some (bG (he pins s σ H _ I h) λv s1 ⟨x,H1,I1,r1,q1⟩=>⟨x,σ,H1,I1,r1,q1⟩)
def FQ(c:TT)(t u:TS):TS:=λD σ H=>c σ H λb H1=>if b=true then t D σ H1 else u D σ H1
theorem yx(hc:PT X c tc)(ha:mW X a t)(hb:mW X b u):PS X (.If c a b pos) (FQ tc t u):=by
 intro pins s σ H D I h
 refine wpAny_If (bG (hc pins s σ H _ I h) λd s1 ⟨H1,I1,q1⟩=>?_)
 cases d with
 | true=>exact ha pins s1 σ H1 D I1 q1
 | false=>exact hb pins s1 σ H1 D I1 q1
end
abbrev TG:=V->St->Hp->(St->Hp->Prop)->Prop
abbrev tz:=List V->St->Hp->(St->Hp->Prop)->Prop
def PG(X:Cx)(target:Expr)(t:TG):Prop:=
 ∀(pins:List (Addr×Obj)) (s:Shared) (σ:St) (H:Hp) (v:V) (u:Value) (Q:St->Hp->Prop),Inv X pins σ H s->RelV v u->t v σ H Q ->
  wpAny (model X.prog X.w) X.A (assign target X.env u) (λ_ s'=>∃aJ H',Inv X pins aJ H' s'/\Q aJ H') X.xe s
def Cg(X:Cx)(ts:List Expr)(t:tz):Prop:=
 ∀(pins:List (Addr×Obj)) (s:Shared) (σ:St) (H:Hp) (vs:List V) (us:List Value) (Q:St->Hp->Prop),Inv X pins σ H s->aw vs us->t vs σ H Q ->
  wpAny (model X.prog X.w) X.A (assignInOrder ((assignEach ts X.env).map (·.2)) us) (λ_ s'=>∃aJ H',Inv X pins aJ H' s'/\Q aJ H') X.xe s
abbrev vF:=V->V->V->Hp->(Hp->Prop)->Prop
def Cf(X:Cx)(t:vF):Prop:=
 ∀(pins:List (Addr×Obj)) (s:Shared) (σ:St) (H:Hp) (o i v:V) (ov iv u:Value) (Q:Hp->Prop),Inv X pins σ H s->RelV o ov->RelV i iv->RelV v u->t o i v H Q ->
  wpAny (model X.prog X.w) X.A (setItem ov iv u) (λ_ s'=>∃H',Inv X pins σ H' s'/\Q H') X.xe s
abbrev Mu:=V->V->Hp->VK->Prop
def Mv(X:Cx)(op:Operator)(t:Mu):Prop:=
 ∀(pins:List (Addr×Obj)) (s:Shared) (σ:St) (H:Hp) (x y:V) (v u:Value) (Q:VK),Inv X pins σ H s->RelV x v->RelV y u->t x y H Q ->
  wpAny (model X.prog X.w) X.A (inplaceOp op v u) (EP X pins σ Q) X.xe s
section
variable {X:Cx}{pos:Pos}
def OM(i:Nat):TG:=λv σ H Q=>Q (σ.set i (some v)) H
theorem b6o(hN:X.N.Nodup)(hi:X.N[i]?=some x)(hx:Loc X.env.scope x)(hf:X.fn x=true\/X.env.scope.names.lookup x=some .local:=by first | exact .inl rfl | exact .inr rfl | assumption):PG X (.Name x pos) (OM i):=by
 intro pins s σ H v u Q I r h
 exact wpAny_assign_Name (KR I hN hi hx r (λs' I'=>⟨_,H,I',h⟩) hf)
def HN:tz:=λvs σ H Q=>vs=[]/\Q σ H
def Aa(t:TG)(u:tz):tz:=λvs σ H Q=>∃v r,vs=v::r/\t v σ H λaJ H'=>u r aJ H' Q
theorem b6n:Cg X [] HN:=by
 intro pins s σ H vs us Q I r h
 obtain ⟨e,h⟩:=h
 subst e
 cases r
 exact assignInOrder_nil ⟨σ,H,I,h⟩
theorem b3S{e:Expr}{es:List Expr}{t:TG}{u:tz}(h1:PG X e t)(h2:Cg X es u)
  (hs:(assignEach (e::es) X.env).map (·.2)=assign e X.env::(assignEach es X.env).map (·.2):=by rfl):Cg X (e::es) (Aa t u):=by
 intro pins s σ H vs us Q I r h
 obtain ⟨v,vr,e1,h⟩:=h
 subst e1
 cases r with
 | cons r rr =>
  rw [hs]
  refine assignInOrder_cons (bG (h1 pins s σ H _ _ _ I r h) λ_ s1 ⟨iI,H1,I1,q1⟩=>?_)
  exact h2 pins s1 iI H1 _ _ Q I1 rr q1
def HM(K:aI)(n:Nat)(t:tz):TG:=λv σ H Q=>∃a xs,v=.ref a/\eO K H a xs/\xs.length=n/\t xs σ H Q
theorem b8z{es:List Expr}{k:Nat}{t:tz}{n:Nat}(hc:X.calm=true)(h:Cg X es t)
  (hn:(assignEach es X.env).length=n:=by rfl)(CS:(assignEach es X.env).findIdx? (·.1)=none:=by rfl):PG X (.Tuple es k pos) (HM X.K n t):=by
 intro pins s σ H v u Q I r hw
 obtain ⟨a,xs,e1,hq,hl,hw⟩:=hw
 subst e1
 cases r
 obtain ⟨aq,rv,ht,hz⟩:=I.tuple hq
 refine assign_Tuple_tuple (I.ok.hd hc) ht (by simp [hn,<-hl,rv.length]) CS λh' hx=>?_
 have I1:Inv X pins σ H { s with heap:=h' }:=I.kept (t':=s.toks) λb o e=>hx b o (dW (bX e)) e
 exact h pins _ σ H xs _ Q I1 (by simpa using rv) hw
def bM(to ti:TE)(t:vF):TG:=λv σ H Q=>to σ H λo H1=>ti σ H1 λi H2=>t o i v H2 λH3=>Q σ H3
theorem b8A{o i:Expr}{to ti:TE}{t:vF}(ho:PE X o to)(hi:PE X i ti)(hs:Cf X t)
  (ha:∀v,assign (.Subscript o i pos) X.env v=(do
   let ov <-holding [v] (eval o X.env)
   let iv <-holding [v,ov] (eval i X.env)
   standAt pos
   holding [v,ov,iv] (setItem ov iv v)
   release [v,ov,iv] []):=by intro _;rfl):PG X (.Subscript o i pos) (bM to ti t):=by
 intro pins s σ H v u Q I r h
 rw [ha]
 refine aA (pT (bG (ho pins s σ H _ I h) λov s1 ⟨x,H1,I1,r1,q1⟩=>?_))
 refine aA (pT (bG (hi pins s1 σ H1 _ I1 q1) λiv s2 ⟨y,H2,I2,r2,q2⟩=>?_))
 refine aA (IT (aA (pT (bG (hs pins s2 σ H2 x y v ov iv u _ I2 r1 r2 r q2) λ_ s3 ⟨H3,I3,q3⟩=>?_))))
 exact wpAny_release ⟨σ,H3,I3,q3⟩
def xZ(te:TE)(g:TG):TS:=λD σ H=>te σ H λx H1=>g x σ H1 D.nx
theorem b8x{tg e:Expr}{te:TE}{g:TG}(he:PE X e te)(hg:PG X tg g)(hs:swapsWithSole [tg] e pos.line X.env=pure false:=by rfl)(hw:swappedStores [tg] e X.env=pure none:=by rfl)
  (h1:(assignEach [tg] X.env).map (·.2)=[assign tg X.env]:=by rfl):PS X (.Assign [tg] e pos) (xZ te g):=by
 intro pins s σ H D I h
 refine wpAny_Assign_stores (bG (he pins s σ H _ I h) λv s1 ⟨x,H1,I1,r1,q1⟩=>?_) hs hw
 rw [h1]
 exact bG (hg pins s1 σ H1 x v _ I1 r1 q1) λ_ s2 q=>q
theorem J1(hN:X.N.Nodup)(hi:X.N[i]?=some x)(hx:Loc X.env.scope x)(he:PE X e te)(hs:swapsWith e (some (.Name x pos')) pos.line X.env=pure false:=by rfl)(hf:X.fn x=true\/X.env.scope.names.lookup x=some .local:=by first | exact .inl rfl | exact .inr rfl | assumption):
  PS X (.Assign [.Name x pos'] e pos) (xZ te (OM i)):=by
 intro pins s σ H D I h
 refine wpAny_Assign_Name (bG (he pins s σ H _ I h) λv s1 ⟨y,H1,I1,r1,q1⟩=>?_) hs
 exact KR I1 hN hi hx r1 (λs2 I2=>⟨_,H1,I2,q1⟩) hf
def FU(i:Nat)(te:TE)(ti:Mu):TS:=λD σ H=>∃x,σ[i]?=some (some x)/\te σ H λy H1=>ti x y H1 λz H2=>D.nx (σ.set i (some z)) H2
theorem O4(hN:X.N.Nodup)(hi:X.N[i]?=some x)(hx:Loc X.env.scope x)(he:PE X e te)(ho:Mv X op ti)(hf:X.fn x=true\/X.env.scope.names.lookup x=some .local:=by first | exact .inl rfl | exact .inr rfl | assumption):
  PS X (.AugAssign (.Name x pos') op e pos) (FU i te ti):=by
 intro pins s σ H D I h
 obtain ⟨v,e1,h⟩:=h
 obtain ⟨m,hn,hl⟩:=I.loc
 have qf:iN X.env.scope x:=by rcases hx with k | k;exact .inl k;exact .inr (.inl k)
 obtain ⟨u,r,l⟩:=hl i x v hi e1 qf
 refine wpAny_AugAssign_Name ?_
 have go:wpAny (model X.prog X.w) X.A (eval e X.env) (λw j8=>wpAny (model X.prog X.w) X.A (inplaceOp op u w) (λr oG=>wpAny (model X.prog X.w) X.A (storeName X.env x r) (λ_=>SP X pins D .next) X.xe oG) X.xe j8) X.xe s:=by
  refine bG (he pins s σ H _ I h) λw s1 ⟨y,H1,I1,r1,q1⟩=>?_
  refine bG (ho pins s1 σ H1 v y u w _ I1 r r1 q1) λz s2 ⟨zv,H2,I2,r2,q2⟩=>?_
  exact KR I2 hN hi hx r2 (λs3 I3=>⟨_,H2,I3,q2⟩) hf
 rcases l with ⟨hk,hm⟩ | ⟨hk,c,hc,fL⟩
 .exact wpAny_loadName_local I.ok.kind hk hn hm go
 .rcases hk with hk | hk
  .exact wpAny_loadName_cell I.ok.kind hk hc fL go
  .rcases hx with k | k
   .have:X.env.scope.names.lookup x=some .free:=hk
    rw [k] at this;cases this
   .have:X.env.scope.names.lookup x=some .free:=hk
    rw [k] at this;cases this
def Xd(f:Int->Int->Int):Mu:=λx y H Q=>∃i j,x=.int i/\y=.int j/\Q (.int (f i j)) H
theorem b88:Mv X .Add (Xd λi j=>i+j):=by
 intro pins s σ H x y v u Q I r1 r2 h
 obtain ⟨i,j,e1,e2,q⟩:=h
 subst e1;subst e2
 obtain ⟨t,rfl⟩:=r1
 obtain ⟨t',rfl⟩:=r2
 exact iadd_int ⟨.int _,H,I.tok _,⟨_,rfl⟩,q⟩
end
section
variable {X:Cx}{pos:Pos}
def b8g(c:TT)(tb:TS):TS:=λD σ H=>∃W:Nat->St->Hp->Prop,(∃m,W m σ H)/\∀m σ H,W m σ H ->
 c σ H λb H1=>if b=true then ∃N:St->Hp->Prop,(∀aJ H',N aJ H'->∃m',m'<m/\W m' aJ H')/\tb { D with nx:=N,ct:=N,bk:=D.nx } σ H1 else D.nx σ H1
theorem b3N(hp:PassesOwn (model X.prog X.w) X.A X.env X.xe)(hc:PT X c tc)(hb:mW X body tb):PS X (.While c body [] pos) (b8g tc tb):=by
 intro pins s σ H D I h
 obtain ⟨W,⟨m0,w0⟩,turn⟩:=h
 refine wpAny_While (codeAny_whileLoop (λn s'=>∃aJ H',Inv X pins aJ H' s'/\W n aJ H') ?_ m0 ⟨σ,H,I,w0⟩)
 rintro n s1 ⟨iI,H1,I1,w1⟩
 refine uF hp (bG (hc pins s1 iI H1 _ I1 (turn n iI H1 w1)) λb s2 ⟨H2,I2,q2⟩=>?_)
 cases b with
 | true =>
  obtain ⟨N,hN,q2⟩:=q2
  rw [if_pos rfl]
  refine uF hp (bG (hb pins s2 iI H2 _ I2 q2) λf s3 q3=>?_)
  cases f with
  | next =>
   obtain ⟨ju,H3,I3,n3⟩:=q3
   obtain ⟨m',hm,w3⟩:=hN ju H3 n3
   exact ⟨m',hm,ju,H3,I3,w3⟩
  | cont =>
   obtain ⟨ju,H3,I3,n3⟩:=q3
   obtain ⟨m',hm,w3⟩:=hN ju H3 n3
   exact ⟨m',hm,ju,H3,I3,w3⟩
  | brk=>exact q3
  | ret v=>exact q3
 | false =>
  rw [if_neg mv]
  exact Dv ⟨iI,H2,I2,q2⟩
end
structure It where
 go:Nat->Hp->Prop
 tF:Nat->Hp->V->Hp->Prop
 stop:Nat->Hp->Prop
def cZ(X:Cx)(pins:List (Addr×Obj))(H:Hp)(b:Addr):Prop:=
 H b=none/\b≠X.env.locals/\b∉X.fs/\(b∈X.ex\/X.cQ.heap.objs.size<=b)/\(∀x c,X.env.cells.lookup x=some c->c≠b)/\∀p∈X.pn++pins,p.1≠b
theorem Inv.jG{X:Cx}{pins:List (Addr×Obj)}{σ:St}{H H':Hp}{s:Shared}{b:Addr}(I:Inv X pins σ H s)(hb:s.heap.objs.size<=b)(hn:H' b=none):cZ X pins H' b:=by
 refine ⟨hn,uG (jI I.lt hb),I.Gn hb,.inr (fq I.sz hb),λx c e z=>?_,λp hp z=>?_⟩
 .obtain ⟨v,q⟩:=I.cell x c e
  exact absurd (jI q.lt (by rw [z];exact hb)) (om _)
 .exact absurd (jI (bX (I.pin p hp).1) (by rw [z];exact hb)) (om _)
structure Turn(P:Program)(w:World)(K:aI)(tg:Expr)(J:It)(fp:List Addr)(it:Addr)(tn:Nat->Heap->Prop):Prop where
 mem:it∈fp
 obj:∀i h,tn i h->∀b∈fp,∃o,h.get? b=some o/\∀v,o.data≠.cell v
 keep:∀i h h',tn i h->(∀b∈fp,∀o,h.get? b=some o->h'.get? b=some o)->tn i h'
 item:∀(X:Cx),X.prog=P->X.w=w->X.K=K->X.calm=true->∀(i:Nat) (pins:List (Addr×Obj)) (s:Shared) (σ:St) (H:Hp) (E:Value->Shared->Prop),Inv X pins σ H s->(∀b∈fp,cZ X pins H b)->tn i s.heap->J.go i H ->
  wpAny (model P w) X.A (pyNext (.ref it)) (λr s1=>∃u,r=some u /\
   wpAny (model P w) X.A (letOwnedTupleGo tg (.ref it) u) (λ_ s2=>∃x H',Inv X pins σ H' s2/\RelV x u/\J.tF i H x H'/\tn (i+1) s2.heap/\∀b∈fp,H' b=none) E s1) E s
 done:∀(X:Cx),X.prog=P->X.w=w->X.K=K->X.calm=true->∀(i:Nat) (pins:List (Addr×Obj)) (s:Shared) (σ:St) (H:Hp) (E:Value->Shared->Prop),Inv X pins σ H s->(∀b∈fp,cZ X pins H b)->tn i s.heap->J.stop i H ->
  wpAny (model P w) X.A (pyNext (.ref it)) (λr s1=>r=none/\Inv X pins σ H s1) E s
 self:∀(A:Around) (i:Nat) (s:Shared) (Q:Value->Shared->Prop) (E:Value->Shared->Prop),tn i s.heap->Q (.ref it) s->wpAny (model P w) A (pyIter (.ref it)) Q E s
abbrev TI:=St->Hp->(It->Hp->Prop)->Prop
def Mw(X:Cx)(pins:List (Addr×Obj))(σ:St)(tg:Expr)(R:It->Hp->Prop)(GH:Value)(s2:Shared):Prop:=
 ∃(it:Addr) (fp:List Addr) (tn:Nat->Heap->Prop) (J:It) (H':Hp),GH=.ref it/\Inv X pins σ H' s2/\Turn X.prog X.w X.K tg J fp it tn/\tn 0 s2.heap/\(∀b∈fp,cZ X pins H' b)/\R J H'
def PI(X:Cx)(tg iter:Expr)(wi:TI):Prop:=
 ∀(pins:List (Addr×Obj)) (s:Shared) (σ:St) (H:Hp) (R:It->Hp->Prop),Inv X pins σ H s->wi σ H R ->
  wpAny (model X.prog X.w) X.A (eval iter X.env) (λv s1=>wpAny (model X.prog X.w) X.A (pyIter v) (Mw X pins σ tg R) X.xe s1) X.xe s
theorem D2(ho:s.heap.get? it=some o)(hc:o.cls=.type n)(hd:o.data=.fields vs)
  (hn:["enumerate","zip","dict_itemiterator","dict_reverseitemiterator","odict_iterator","itertools.zip_longest","itertools.pairwise"].contains n=false)(hQ:Q () s):wpAny M A (letOwnedTupleGo tg (.ref it) u) Q E s:=by
 unfold letOwnedTupleGo
 cases tg<;>first
  | exact bC hQ
  | (cases u<;>first
    | exact bC hQ
    | (refine aA (wpAny_load ho ?_)
       rw [hc,hd]
       show wpAny M A (if (["enumerate","zip","dict_itemiterator","dict_reverseitemiterator","odict_iterator","itertools.zip_longest","itertools.pairwise"].contains n&&vs[0]?==some (rawInt _))=true then _ else _) Q E s
       rw [if_neg (by intro h;rw [hn,IJ] at h;cases h)]
       exact bC hQ))
def xD(K:aI)(a:Addr):It:=
 ⟨λi H=>∃xs x,eQ K H a xs/\xs[i]?=some x,λi H x H'=>H'=H/\∀xs,eQ K H a xs->xs[i]?=some x,λi H=>∃xs,eQ K H a xs/\xs.length<=i⟩
def Ck(K:aI)(a:Addr):It:=
 ⟨λi H=>∃xs x,eO K H a xs/\xs[i]?=some x,λi H x H'=>H'=H/\∀xs,eO K H a xs->xs[i]?=some x,λi H=>∃xs,eO K H a xs/\xs.length<=i⟩
def nX(lo:Int)(n:Nat):It:=⟨λi _=>i<n,λi H x H'=>H'=H/\x=.int (lo+i),λi _=>n<=i⟩
theorem b1u{P:Program}{w:World}{K:aI}{tg:Expr}(a it:Addr):Turn P w K tg (xD K a) [it] it (λi h=>h.IsListIter it a i) where
 mem:=by simp
 obj:=λi h st b hb=>by
  have e:b=it:=by simpa using hb
  subst e
  obtain ⟨o,e,c,d⟩:=st
  exact ⟨o,e,λv z=>by rw [d] at z;cases z⟩
 keep:=λi h h' st k=>st.at λo e=>k it (by simp) o e
 item:=by
  intro X hP hw hK hc i pins s σ H E I hf st hg
  subst hP hw hK
  obtain ⟨xs,x,hq,hx⟩:=hg
  obtain ⟨aq,rv,p,hz⟩:=I.list hq
  obtain ⟨u,hu,ru⟩:=rv.get hx
  obtain ⟨f0,f1,f2,f3,f4,f5⟩:=hf it (by simp)
  refine wpAny_pyNext_list_item st p.isList (x:=u) (by simpa using hu) λh' ak sb=>?_
  have I1:Inv X pins σ H { s with heap:=h' }:=I.turned (t':=s.toks) (λb o hb e=>(sb.2 b hb).trans e) f0 f1 f3 f4 f5
  obtain ⟨o,e,c,d⟩:=id ak
  exact ⟨u,rfl,D2 (s:={ s with heap:=h' }) e c d (by decide) ⟨x,H,I1,ru,⟨rfl,λys hy=>by rw [I.ic hy hq];exact hx⟩,ak,λb hb=>(hf b hb).1⟩⟩
 done:=by
  intro X hP hw hK hc i pins s σ H E I hf st hg
  subst hP hw hK
  obtain ⟨xs,hq,hx⟩:=hg
  obtain ⟨aq,rv,p,hz⟩:=I.list hq
  obtain ⟨f0,f1,f2,f3,f4,f5⟩:=hf it (by simp)
  have hl:=rv.length
  exact wpAny_pyNext_list_end (I.ok.hd hc) st p.isList (by simp;ext hx hl) λh' eb=>⟨rfl,I.turned (t':=s.toks) (λb o hb e=>eb b o hb e) f0 f1 f3 f4 f5⟩
 self:=λ_ _ _ _ _ st h=>wpAny_pyIter_listiter st h
theorem b0R{P:Program}{w:World}{K:aI}{tg:Expr}(a it:Addr):Turn P w K tg (Ck K a) [it] it (λi h=>h.IsTupleIter it a i) where
 mem:=by simp
 obj:=λi h st b hb=>by
  have e:b=it:=by simpa using hb
  subst e
  obtain ⟨o,e,c,d⟩:=st
  exact ⟨o,e,λv z=>by rw [d] at z;cases z⟩
 keep:=λi h h' st k=>st.at λo e=>k it (by simp) o e
 item:=by
  intro X hP hw hK hc i pins s σ H E I hf st hg
  subst hP hw hK
  obtain ⟨xs,x,hq,hx⟩:=hg
  obtain ⟨aq,rv,p,hz⟩:=I.tuple hq
  obtain ⟨u,hu,ru⟩:=rv.get hx
  obtain ⟨f0,f1,f2,f3,f4,f5⟩:=hf it (by simp)
  refine wpAny_pyNext_tuple_item st (show s.heap.IsTuple a aq.toArray from p) (x:=u) (by simpa using hu) λh' ak sb=>?_
  have I1:Inv X pins σ H { s with heap:=h' }:=I.turned (t':=s.toks) (λb o hb e=>(sb.2 b hb).trans e) f0 f1 f3 f4 f5
  obtain ⟨o,e,c,d⟩:=id ak
  exact ⟨u,rfl,D2 (s:={ s with heap:=h' }) e c d (by decide) ⟨x,H,I1,ru,⟨rfl,λys hy=>by rw [I.fW hy hq];exact hx⟩,ak,λb hb=>(hf b hb).1⟩⟩
 done:=by
  intro X hP hw hK hc i pins s σ H E I hf st hg
  subst hP hw hK
  obtain ⟨xs,hq,hx⟩:=hg
  obtain ⟨aq,rv,p,hz⟩:=I.tuple hq
  obtain ⟨f0,f1,f2,f3,f4,f5⟩:=hf it (by simp)
  have hl:=rv.length
  exact wpAny_pyNext_tuple_end (I.ok.hd hc) st (show s.heap.IsTuple a aq.toArray from p) (by simp;ext hx hl) λh' eb=>⟨rfl,I.turned (t':=s.toks) (λb o hb e=>eb b o hb e) f0 f1 f3 f4 f5⟩
 self:=λ_ _ _ _ _ st h=>wpAny_pyIter_tupleiter st h
theorem RI{P:Program}{w:World}{K:aI}{tg:Expr}(it:Addr)(lo:Int)(n:Nat):Turn P w K tg (nX lo n) [it] it (λi h=>IsRangeIter h it (lo+(i:Nat)*1) ((n:Int)-(i:Nat)) 1) where
 mem:=by simp
 obj:=λi h st b hb=>by
  have e:b=it:=by simpa using hb
  subst e
  exact ⟨_,st,λv z=>by
   have z':Dp _=vZ v:=z
   cases z'⟩
 keep:=λi h h' st k=>k it (by simp) _ st
 item:=by
  intro X hP hw hK hc i pins s σ H E I hf st hg
  subst hP hw hK
  obtain ⟨f0,f1,f2,f3,f4,f5⟩:=hf it (by simp)
  have W:=Walks.range (prog:=X.prog) (w:=X.w) (I.ok.hd hc) it lo 1 n
  refine W.item i s _ _ hg st λv h' tk hv ak kk=>?_
  obtain ⟨t,rfl⟩:=hv
  have I1:Inv X pins σ H { s with heap:=h',toks:=tk }:=I.turned (λb o hb e=>kk b o (by simpa using hb) e) f0 f1 f3 f4 f5
  refine ⟨_,rfl,D2 (s:={ s with heap:=h',toks:=tk }) (n:="range_iterator") ak rfl rfl (by decide) ⟨.int (lo+i),H,I1,⟨t,?_⟩,⟨rfl,rfl⟩,ak,λb hb=>(hf b hb).1⟩⟩
  rw [v5]
 done:=by
  intro X hP hw hK hc i pins s σ H E I hf st hg
  subst hP hw hK
  obtain ⟨f0,f1,f2,f3,f4,f5⟩:=hf it (by simp)
  exact wpAny_pyNext_range_end (I.ok.hd hc) st (by have:n<=i:=hg;ext this) λh' eb=>⟨rfl,I.turned (t':=s.toks) (λb o hb e=>eb b o hb e) f0 f1 f3 f4 f5⟩
 self:=λ_ _ _ _ _ st h=>wpAny_pyIter_rangeiter st h
end L2
namespace L2
open PySem PySem.Spec PyProof.Rows
section
variable {X:Cx}{tg:Expr}
theorem b3J{pins:List (Addr×Obj)}{σ:St}{H:Hp}{s:Shared}{R:It->Hp->Prop}{E:Value->Shared->Prop}{lo hi:Int}{t u v:Tok}{tk:Nat}(I:Inv X pins σ H s)(h1:-(2^62)<=lo)(h2:lo<2^62)(h3:-(2^62)<=hi)(h4:hi<2^62)
  (q:R (nX lo (hi-lo).toNat) H):wpAny (model X.prog X.w) X.A (pyIter (.ref s.heap.objs.size)) (Mw X pins σ tg R) E { s with heap:=s.heap.push { cls:=.type "range",data:=.fields #[.int lo t,.int hi u,.int 1 v] },toks:=tk }:=by
 refine wpAny_pyIter_range (Ik ..) (small_one h1 h2 h3 h4) ?_
 have I1:Inv X pins σ H { s with heap:=s.heap.push { cls:=.type "range",data:=.fields #[.int lo t,.int hi u,.int 1 v] },toks:=tk }:=I.kept λb o e=>bR _ e
 refine ⟨(s.heap.push { cls:=.type "range",data:=.fields #[.int lo t,.int hi u,.int 1 v] }).objs.size,[(s.heap.push { cls:=.type "range",data:=.fields #[.int lo t,.int hi u,.int 1 v] }).objs.size],_,_,H,rfl,
  I1.kept (t':=tk) λb o e=>bR _ e,RI _ lo (hi-lo).toNat,?_,λb hb=>?_,q⟩
 .have e1:lo+((0:Nat):Int)*1=lo:=by simp
  have e2:(((hi-lo).toNat:Nat):Int)-((0:Nat):Int)=OB lo hi 1:=by rw [rangeSize_one];split<;>lia
  show IsRangeIter _ _ (lo+((0:Nat):Int)*1) ((((hi-lo).toNat:Nat):Int)-((0:Nat):Int)) 1
  rw [e1,e2]
  exact fD _ rfl
 .have e:b=(s.heap.push { cls:=.type "range",data:=.fields #[.int lo t,.int hi u,.int 1 v] }).objs.size:=by simpa using hb
  subst e
  exact I1.jG (bw _) (I1.bu.fresh (bw _))
def ze(ta:TA):TI:=λσ H R=>ta σ H λvs H1=>∃j:Int,vs=[.int j] /\ -(2^62)<=j/\j<2^62/\R (nX 0 j.toNat) H1
theorem b12(hg:Gl X "range")(hm:X.mg "range" = none)(ha:PA X [a] ta)(hs:starEach [a] X.env=[(false,eval a X.env)]:=by rfl):PI X tg (.Call (.Name "range" p) [a] [] pos) (ze ta):=by
 intro pins s σ H R I h
 refine Call_ (sN I hg hm boot_range (AY (bG (ha pos pins s σ H _ I h) λus s1 ⟨vs,H1,I1,r1,q1⟩=>?_) hs rfl))
 obtain ⟨j,e,q1,q2,q⟩:=q1
 subst e
 cases r1 with
 | cons r rr =>
  cases rr
  obtain ⟨t,rfl⟩:=r
  exact call_range_1 (b3J I1 (by decide) (by decide) q1 q2 (by simpa using q))
def FR(wi:TI)(g:TG)(tb:TS):TS:=λD σ H=>wi σ H λJ H1=>∃W:Nat->Nat->St->Hp->Prop,(∃m,W 0 m σ H1)/\∀i m σ H,W i m σ H ->
 (J.stop i H/\D.nx σ H)\/(J.go i H/\∃N:St->Hp->Prop,(∀aJ H',N aJ H'->∃m',m'<m/\W (i+1) m' aJ H')/\∀x H',J.tF i H x H'->g x σ H' λcO H2=>tb { D with nx:=N,ct:=N,bk:=D.nx } cO H2)
def q9(fp:List Addr)(h:Heap):List (Addr×Obj):=fp.filterMap λb=>(h.get? b).map λo=>(b,o)
theorem BA(hb:b∈fp)(e:h.get? b=some o):(b,o)∈q9 fp h:=Oh.mpr ⟨b,hb,by rw [e];rfl⟩
theorem Lf(hp:p∈q9 fp h):p.1∈fp/\h.get? p.1=some p.2:=by
 obtain ⟨b,hb,e⟩:=Oh.mp hp
 cases q:h.get? b with
 | none=>rw [q] at e;cases e
 | some o =>
  rw [q] at e
  have e':(b,o)=p:=cT e
  subst e'
  exact ⟨hb,q⟩
theorem Inv.pinned{pins:List (Addr×Obj)}{σ:St}{H:Hp}{s:Shared}{fp:List Addr}(I:Inv X pins σ H s)(hf:∀b∈fp,cZ X pins H b)(ho:∀b∈fp,∃o,s.heap.get? b=some o/\∀v,o.data≠.cell v):Inv X (pins++q9 fp s.heap) σ H s:=
 I.fI λp hp=>(bT.mp hp).elim (λz=>I.pin p (fQ _ z)) λz=>by
  obtain ⟨hb,e⟩:=Lf z
  obtain ⟨f0,f1,f2,_⟩:=hf p.1 hb
  obtain ⟨o,e',d⟩:=ho p.1 hb
  rw [e] at e';cases e'
  exact ⟨e,f0,f1,f2,d⟩
theorem Inv.gZ{pins pl:List (Addr×Obj)}{σ:St}{H:Hp}{s:Shared}(I:Inv X (pins++pl) σ H s):Inv X pins σ H s:=I.fI λp hp=>I.pin p (fQ _ (gp _ hp))
theorem J0(hp:PassesOwn (model X.prog X.w) X.A X.env X.xe)(hc:X.calm=true)(hi:PI X tg iter wi)(hg:PG X tg g)(hb:mW X body tb)
  (hs:∀x,foldedSetIterable iter X.env x=pure x:=by intro _;rfl):PS X (.For tg iter body [] pos) (FR wi g tb):=by
 intro pins s σ H D I h
 refine wpAny_For (bG (hi pins s σ H _ I h) λv s1 h1=>bG h1 λGH s2 h2=>?_) hs
 obtain ⟨it,fp,tn,J,H2,e,I2,T,gu,f2,W,⟨m0,w0⟩,turn⟩:=h2
 subst e
 have tK:∀{H':Hp},(∀b∈fp,H' b=none)->∀b∈fp,cZ X pins H' b:=λhn b hb=>⟨hn b hb,(f2 b hb).2⟩
 refine codeAny_forLoop_any (λn s'=>∃i aJ H',Inv X pins aJ H' s'/\tn i s'.heap/\(∀b∈fp,H' b=none)/\W i n aJ H') ?_ m0 ⟨0,σ,H2,I2,gu,λb hb=>(f2 b hb).1,w0⟩
 rintro n s3 ⟨i,ju,H3,I3,iQ,Ac,w3⟩
 rcases turn i n ju H3 w3 with ⟨stop,qn⟩ | ⟨go,N,hN,step⟩
 .refine uF hp (bG (T.done X rfl rfl rfl hc i pins s3 ju H3 X.xe I3 (tK Ac) iQ stop) λr s4 ⟨hr,I4⟩=>?_)
  subst hr
  exact Dv ⟨ju,H3,I4,qn⟩
 .refine uF hp (bG (T.item X rfl rfl rfl hc i pins s3 ju H3 X.xe I3 (tK Ac) iQ go) λr s4 ⟨u,hr,h4⟩=>?_)
  subst hr
  refine uF hp (bG h4 λ_ s5 ⟨x,H5,I5,r5,y5,tL,HQ⟩=>?_)
  have MC:=I5.pinned (tK HQ) (T.obj _ _ tL)
  refine uF hp (bG (hg _ s5 ju H5 x u _ MC r5 (step x H5 y5)) λ_ s6 ⟨lu,H6,I6,q6⟩=>?_)
  refine uF hp (bG (hb _ s6 lu H6 _ I6 q6) λf s7 q7=>?_)
  have again:∀{oE:St} {H7:Hp},Inv X (pins++q9 fp s5.heap) oE H7 s7->N oE H7->∃m,m<n/\∃i aJ H',Inv X pins aJ H' s7/\tn i s7.heap/\(∀b∈fp,H' b=none)/\W i m aJ H':=λ{oE H7} I7 n7=>by
   obtain ⟨m',hm,w7⟩:=hN oE H7 n7
   refine ⟨m',hm,i+1,oE,H7,I7.gZ,T.keep _ _ _ tL λb hb o e=>(I7.pin (b,o) (fQ _ (fQ _ (BA hb e)))).1,λb hb=>?_,w7⟩
   obtain ⟨o,e,d⟩:=T.obj _ _ tL b hb
   exact (I7.pin (b,o) (fQ _ (fQ _ (BA hb e)))).2.1
  cases f with
  | next=>obtain ⟨oE,H7,I7,n7⟩:=q7;exact again I7 n7
  | cont=>obtain ⟨oE,H7,I7,n7⟩:=q7;exact again I7 n7
  | brk=>obtain ⟨oE,H7,I7,q7⟩:=q7;exact ⟨oE,H7,I7.gZ,q7⟩
  | ret v=>obtain ⟨x7,oE,H7,I7,r7,q7⟩:=q7;exact ⟨x7,oE,H7,I7.gZ,r7,q7⟩
end
theorem b4s{K:aI}{a:Addr}{xs:List V}{g:TG}{tb:TS}{D:Ends}{σ:St}{H:Hp}(Pv:Nat->St->Hp->Prop)(h0:Pv 0 σ H)(hl:∀i σ H,i<=xs.length->Pv i σ H->eQ K H a xs)
  (hs:∀i x σ H,xs[i]?=some x->Pv i σ H->g x σ H λcO H2=>tb { D with nx:=Pv (i+1),ct:=Pv (i+1),bk:=D.nx } cO H2)(hd:∀σ H,Pv xs.length σ H->D.nx σ H):
  ∃W:Nat->Nat->St->Hp->Prop,(∃m,W 0 m σ H)/\∀i m σ H,W i m σ H ->
   ((xD K a).stop i H/\D.nx σ H)\/((xD K a).go i H/\∃N:St->Hp->Prop,(∀aJ H',N aJ H'->∃m',m'<m/\W (i+1) m' aJ H')/\∀x H',(xD K a).tF i H x H'->g x σ H' λcO H2=>tb { D with nx:=N,ct:=N,bk:=D.nx } cO H2):=by
 refine ⟨λi m σ H=>m=xs.length-i/\i<=xs.length/\Pv i σ H,⟨xs.length,by simp,nD _,h0⟩,?_⟩
 rintro i m σ H ⟨rfl,hi,p⟩
 have q:=hl i σ H hi p
 by_cases bE:i<xs.length
 .refine .inr ⟨⟨xs,xs[i],q,by simp [bE]⟩,Pv (i+1),λaJ H' p'=>⟨xs.length-(i+1),by ext bE,rfl,bE,p'⟩,λx H' y=>?_⟩
  obtain ⟨e,y⟩:=y
  subst e
  exact hs i x σ _ (y xs q) p
 .have e:i=xs.length:=by ext hi bE
  subst e
  exact .inl ⟨⟨xs,q,bw _⟩,hd σ H p⟩
theorem b6V{K:aI}{a:Addr}{xs:List V}{g:TG}{tb:TS}{D:Ends}{σ:St}{H:Hp}(Pv:Nat->St->Hp->Prop)(h0:Pv 0 σ H)(hl:∀i σ H,i<=xs.length->Pv i σ H->eO K H a xs)
  (hs:∀i x σ H,xs[i]?=some x->Pv i σ H->g x σ H λcO H2=>tb { D with nx:=Pv (i+1),ct:=Pv (i+1),bk:=D.nx } cO H2)(hd:∀σ H,Pv xs.length σ H->D.nx σ H):
  ∃W:Nat->Nat->St->Hp->Prop,(∃m,W 0 m σ H)/\∀i m σ H,W i m σ H ->
   ((Ck K a).stop i H/\D.nx σ H)\/((Ck K a).go i H/\∃N:St->Hp->Prop,(∀aJ H',N aJ H'->∃m',m'<m/\W (i+1) m' aJ H')/\∀x H',(Ck K a).tF i H x H'->g x σ H' λcO H2=>tb { D with nx:=N,ct:=N,bk:=D.nx } cO H2):=by
 refine ⟨λi m σ H=>m=xs.length-i/\i<=xs.length/\Pv i σ H,⟨xs.length,by simp,nD _,h0⟩,?_⟩
 rintro i m σ H ⟨rfl,hi,p⟩
 have q:=hl i σ H hi p
 by_cases bE:i<xs.length
 .refine .inr ⟨⟨xs,xs[i],q,by simp [bE]⟩,Pv (i+1),λaJ H' p'=>⟨xs.length-(i+1),by ext bE,rfl,bE,p'⟩,λx H' y=>?_⟩
  obtain ⟨e,y⟩:=y
  subst e
  exact hs i x σ _ (y xs q) p
 .have e:i=xs.length:=by ext hi bE
  subst e
  exact .inl ⟨⟨xs,q,bw _⟩,hd σ H p⟩
theorem b2C{lo:Int}{n:Nat}{g:TG}{tb:TS}{D:Ends}{σ:St}{H:Hp}(Pv:Nat->St->Hp->Prop)(h0:Pv 0 σ H)
  (hs:∀i σ H,i<n->Pv i σ H->g (.int (lo+i)) σ H λcO H2=>tb { D with nx:=Pv (i+1),ct:=Pv (i+1),bk:=D.nx } cO H2)(hd:∀σ H,Pv n σ H->D.nx σ H):
  ∃W:Nat->Nat->St->Hp->Prop,(∃m,W 0 m σ H)/\∀i m σ H,W i m σ H ->
   ((nX lo n).stop i H/\D.nx σ H)\/((nX lo n).go i H/\∃N:St->Hp->Prop,(∀aJ H',N aJ H'->∃m',m'<m/\W (i+1) m' aJ H')/\∀x H',(nX lo n).tF i H x H'->g x σ H' λcO H2=>tb { D with nx:=N,ct:=N,bk:=D.nx } cO H2):=by
 refine ⟨λi m σ H=>m=n-i/\i<=n/\Pv i σ H,⟨n,by simp,nD _,h0⟩,?_⟩
 rintro i m σ H ⟨rfl,hi,p⟩
 by_cases bE:i<n
 .refine .inr ⟨bE,Pv (i+1),λaJ H' p'=>⟨n-(i+1),by ext bE,rfl,bE,p'⟩,λx H' y=>?_⟩
  obtain ⟨e,y⟩:=y
  subst e y
  exact hs i σ _ bE p
 .have e:i=n:=by ext hi bE
  subst e
  exact .inl ⟨bw _,hd σ H p⟩
end L2
namespace L2
open PySem PySem.Spec PyProof.Rows
abbrev R2:=V->V->Hp->VK->Prop
def gW(X:Cx)(f:Value->Value->Sem Value)(r:R2):Prop:=
 ∀(pins:List (Addr×Obj)) (s:Shared) (σ:St) (H:Hp) (x y:V) (v u:Value) (Q:VK),Inv X pins σ H s->RelV x v->RelV y u->r x y H Q ->
  wpAny (model X.prog X.w) X.A (f v u) (EP X pins σ Q) X.xe s
def Mr(X:Cx)(f:Value->Sem Value)(r:V->Hp->VK->Prop):Prop:=
 ∀(pins:List (Addr×Obj)) (s:Shared) (σ:St) (H:Hp) (x:V) (v:Value) (Q:VK),Inv X pins σ H s->RelV x v->r x H Q ->
  wpAny (model X.prog X.w) X.A (f v) (EP X pins σ Q) X.xe s
def cw(X:Cx)(f:Value)(r:List V->Hp->VK->Prop):Prop:=
 ∀(pins:List (Addr×Obj)) (s:Shared) (σ:St) (H:Hp) (xs:List V) (us:List Value) (Q:VK),Inv X pins σ H s->aw xs us->r xs H Q ->
  wpAny (model X.prog X.w) X.A (call f us) (EP X pins σ Q) X.xe s
def Mt(X:Cx)(r:V->Hp->(Bool->Hp->Prop)->Prop):Prop:=
 ∀(pins:List (Addr×Obj)) (s:Shared) (σ:St) (H:Hp) (x:V) (v:Value) (Q:Bool->Hp->Prop),Inv X pins σ H s->RelV x v->r x H Q ->
  wpAny (model X.prog X.w) X.A (truthy v) (TP X pins σ Q) X.xe s
def xU(r:R2)(ta tb:TE):TE:=λσ H Q=>ta σ H λx H1=>tb σ H1 λy H2=>r x y H2 Q
def S8(r:V->Hp->VK->Prop)(ta:TE):TE:=λσ H Q=>ta σ H λx H1=>r x H1 Q
def rI(C:Int->Int->Prop)(g:Int->Int->V):R2:=λx y H Q=>∃i j,x=.int i/\y=.int j/\C i j/\Q (g i j) H
def tN(g:Int->Int->V):R2:=λx y H Q=>∃i j,x=.int i/\y=.int j/\Q (g i j) H
def rU(g:Int->V):V->Hp->VK->Prop:=λx H Q=>∃i,x=.int i/\Q (g i) H
section
variable {X:Cx}{a b c:Expr}{ta tb tc:TE}{pos:Pos}
theorem uR(ha:PE X a ta)(hb:PE X b tb){pins:List (Addr×Obj)}{s:Shared}{σ:St}{H:Hp}{R:V->V->Hp->Prop}(I:Inv X pins σ H s)
  (h:ta σ H λx H1=>tb σ H1 λy H2=>R x y H2){Q:Value->Shared->Prop}{f:Value->Value->Sem Value}
  (hf:∀v u s2 x y H2,Inv X pins σ H2 s2->RelV x v->RelV y u->R x y H2->wpAny (model X.prog X.w) X.A (f v u) Q X.xe s2):
  wpAny (model X.prog X.w) X.A (eval a X.env) (λv aO=>wpAny (model X.prog X.w) X.A (eval b X.env) (λu j8=>wpAny (model X.prog X.w) X.A (f v u) Q X.xe j8) X.xe aO) X.xe s:=by
 refine bG (ha pins s σ H _ I h) λv s1 ⟨x,H1,I1,r1,q1⟩=>?_
 refine bG (hb pins s1 σ H1 _ I1 q1) λu s2 ⟨y,H2,I2,r2,q2⟩=>?_
 exact hf v u s2 x y H2 I2 r1 r2 q2
theorem yB(ho:gW X (binaryOp op) r)(ha:PE X a ta)(hb:PE X b tb):PE X (.BinOp a op b pos) (xU r ta tb):=by
 intro pins s σ H Q I h
 exact wpAny_BinOp (uR ha hb I h λv u s2 x y H2 I2 rx ry q=>ho pins s2 σ H2 x y v u Q I2 rx ry q)
theorem yA(ho:Mr X (unaryOp op) r)(ha:PE X a ta):PE X (.UnaryOp op a pos) (S8 r ta):=by
 intro pins s σ H Q I h
 exact UnaryOp_ (bG (ha pins s σ H _ I h) λv s1 ⟨x,H1,I1,r1,q1⟩=>ho pins s1 σ H1 x v Q I1 r1 q1)
theorem tQ{f:Value->Value->Sem Value}{C:Int->Int->Prop}{g:Int->Int->Int}
  (rule:∀(i j:Int) (t u:Tok) (s:Shared) (Q:Value->Shared->Prop) (E:Value->Shared->Prop),C i j->Q (.int (g i j) s.toks) { s with toks:=s.toks+1 }->wpAny (model X.prog X.w) X.A (f (.int i t) (.int j u)) Q E s):
  gW X f (rI C λi j=>.int (g i j)):=by
 intro pins s σ H x y v u Q I rx ry h
 obtain ⟨i,j,rfl,rfl,hc,q⟩:=h
 obtain ⟨t,rfl⟩:=rx
 obtain ⟨t',rfl⟩:=ry
 exact rule i j t t' s _ _ hc ⟨.int (g i j),H,I.tok _,⟨_,rfl⟩,q⟩
theorem Gh{f:Value->Value->Sem Value}{g:Int->Int->Int}
  (rule:∀(i j:Int) (t u:Tok) (s:Shared) (Q:Value->Shared->Prop) (E:Value->Shared->Prop),Q (.int (g i j) s.toks) { s with toks:=s.toks+1 }->wpAny (model X.prog X.w) X.A (f (.int i t) (.int j u)) Q E s):
  gW X f (tN λi j=>.int (g i j)):=by
 intro pins s σ H x y v u Q I rx ry h
 obtain ⟨i,j,rfl,rfl,q⟩:=h
 obtain ⟨t,rfl⟩:=rx
 obtain ⟨t',rfl⟩:=ry
 exact rule i j t t' s _ _ ⟨.int (g i j),H,I.tok _,⟨_,rfl⟩,q⟩
theorem tR{f:Value->Value->Sem Value}{g:Int->Int->Bool}
  (rule:∀(i j:Int) (t u:Tok) (s:Shared) (Q:Value->Shared->Prop) (E:Value->Shared->Prop),Q (.bool (g i j)) s->wpAny (model X.prog X.w) X.A (f (.int i t) (.int j u)) Q E s):
  gW X f (tN λi j=>.bl (g i j)):=by
 intro pins s σ H x y v u Q I rx ry h
 obtain ⟨i,j,rfl,rfl,q⟩:=h
 obtain ⟨t,rfl⟩:=rx
 obtain ⟨t',rfl⟩:=ry
 exact rule i j t t' s _ _ ⟨.bl (g i j),H,I,rfl,q⟩
def lr(i j:Int):Prop:=(-(2^64)<i/\i<2^64)\/(-(2^64)<j/\j<2^64)
theorem lr.ok(h:lr i j):IntMulOk i j:=by
 rcases h with ⟨h1,h2⟩ | ⟨h1,h2⟩
 .exact .of_left (DF h1 h2)
 .exact .of_right (DF h1 h2)
theorem tP:gW X (binaryOp .Add) (tN λi j=>.int (i+j)):=Gh λ_ _ _ _ _ _ _ q=>add_int q
theorem b6P:gW X (inplaceOp .Mult) (rI lr λi j=>.int (i*j)):=tQ λ_ _ _ _ _ _ _ hc q=>imul_int q hc.ok
theorem S5{f:Value->Sem Value}{g:Int->Int}
  (rule:∀(i:Int) (t:Tok) (s:Shared) (Q:Value->Shared->Prop) (E:Value->Shared->Prop),Q (.int (g i) s.toks) { s with toks:=s.toks+1 }->wpAny (model X.prog X.w) X.A (f (.int i t)) Q E s):
  Mr X f (rU λi=>.int (g i)):=by
 intro pins s σ H x v Q I rx h
 obtain ⟨i,rfl,q⟩:=h
 obtain ⟨t,rfl⟩:=rx
 exact rule i t s _ _ ⟨.int (g i),H,I.tok _,⟨_,rfl⟩,q⟩
theorem b8c:Mr X (unaryOp .USub) (rU λi=>.int (-i)):=S5 λ_ _ _ _ _ q=>neg_int q
end
section
variable {X:Cx}{a b c:Expr}{ta tb tc:TE}{pos:Pos}
theorem Pt{pins:List (Addr×Obj)}{σ:St}{H:Hp}{s:Shared}{Q:VK}{k k':Bool}(I:Inv X pins σ H s)(q:Q (.bl k) H)(e:k=k'):EP X pins σ Q (.bool k') s:=by
 subst e
 exact ⟨.bl k,H,I,rfl,q⟩
theorem yI:gW X (compareOp .Lt) (tN λi j=>.bl (decide (i<j))):=tR λ_ _ _ _ _ _ _ q=>lt_int q
theorem yJ:gW X (compareOp .LtE) (tN λi j=>.bl (decide (i<=j))):=tR λ_ _ _ _ _ _ _ q=>le_int q
theorem yK:gW X (compareOp .Gt) (tN λi j=>.bl (decide (j<i))):=tR λ_ _ _ _ _ _ _ q=>gt_int q
theorem b8L:gW X (compareOp .Is) (λx y H Q=>y=.aU/\Q (.bl (decide (x=.aU))) H):=by
 intro pins s σ H x y v u Q I rx ry h
 obtain ⟨rfl,q⟩:=h
 cases ry
 refine is_none_gen (Pt I q ?_)
 cases x<;>first
  | (cases rx;rfl)
  | (obtain ⟨t,rfl⟩:=rx;rfl)
theorem b6w:gW X (compareOp .IsNot) (λx y H Q=>y=.aU/\Q (.bl (!decide (x=.aU))) H):=by
 intro pins s σ H x y v u Q I rx ry h
 obtain ⟨rfl,q⟩:=h
 cases ry
 refine isnot_none_gen (Pt I q ?_)
 cases x<;>first
  | (cases rx;rfl)
  | (obtain ⟨t,rfl⟩:=rx;rfl)
theorem gW.or(h:gW X f r)(h':gW X f r'):gW X f (λx y H Q=>r x y H Q\/r' x y H Q):=by
 intro pins s σ H x y v u Q I rx ry q
 rcases q with q | q
 .exact h pins s σ H x y v u Q I rx ry q
 .exact h' pins s σ H x y v u Q I rx ry q
theorem PJ(b:Expr)(h:op≠.In:=by decide)(h2:op≠.NotIn:=by decide):behindInMarks op b=false:=by
 have e1:(op==CmpOp.In)=false:=by cases op<;>first | rfl | exact absurd rfl h
 have e2:(op==CmpOp.NotIn)=false:=by cases op<;>first | rfl | exact absurd rfl h2
 cases b<;>simp [behindInMarks,e1,e2]
theorem b6q(ho:gW X (compareOp op) r)(ha:PE X a ta)(hb:PE X b tb)(hm:behindInMarks op b=false):PE X (.Compare a [op] [b] pos) (xU r ta tb):=by
 intro pins s σ H Q I h
 exact wpAny_Compare1 (uR ha hb I h λv u s2 x y H2 I2 rx ry q=>ho pins s2 σ H2 x y v u Q I2 rx ry q) hm
def xS(t:TE):TT:=λσ H Q=>t σ H λx H'=>∃k,x=.bl k/\Q k H'
theorem b6h(ho:gW X (compareOp op) r)(ha:PE X a ta)(hb:PE X b tb)(hm:behindInMarks op b=false):PT X (.Compare a [op] [b] pos) (xS (xU r ta tb)):=by
 intro pins s σ H Q I h
 refine wpAny_isTrue_Compare1 (bG (ha pins s σ H _ I h) λv s1 ⟨x,H1,I1,r1,q1⟩=>bG (hb pins s1 σ H1 _ I1 q1) λu s2 ⟨y,H2,I2,r2,q2⟩ =>
  bG (ho pins s2 σ H2 x y v u _ I2 r1 r2 q2) λc s3 ⟨z,H3,I3,r3,k,e,q3⟩=>?_) hm
 subst e
 cases r3
 exact AU ⟨H3,I3,q3⟩
def vE(K:aI)(x:V)(H:Hp)(k:Bool):Prop:=
 match x with
 | .aU=>k=false
 | .bl b=>k=b
 | .int i=>k=(i != 0)
 | .str y=>y.length<=sizeLine/\k=((y.length:Int) != 0)
 | .AZ y=>y.size<=sizeLine/\k=((y.size:Int) != 0)
 | .ref p=>(∃xs,eQ K H p xs/\k=!xs.isEmpty)\/(∃xs,eO K H p xs/\k=!xs.isEmpty)\/∃bB,H p=some (.dK bB)/\k=!bB.isEmpty
 | _=>False
theorem b1f{κ:Type}{bB:List (κ×V)}{vs:List (κ×Value)}(r:KV bB vs):(!vs.isEmpty)=!bB.isEmpty:=by
 cases r<;>rfl
theorem RK(r:aw xs aq):(!aq.toArray.isEmpty)=!xs.isEmpty:=by
 cases r<;>simp
theorem wO:(sizeLine:Nat)<2^63:=by rw [iV];decide
theorem b8f:Mt X (λx H Q=>∃k,vE X.K x H k/\Q k H):=by
 intro pins s σ H x v Q I rx h
 obtain ⟨k,e,q⟩:=h
 have hl:=wO
 have hs:sizeLine=16777216:=iV
 cases x with
 | aU =>
  cases rx
  have e':k=false:=e
  subst e'
  exact truthy_none ⟨H,I,q⟩
 | bl b =>
  cases rx
  have e':k=b:=e
  subst e'
  exact AU ⟨H,I,q⟩
 | int i =>
  obtain ⟨t,rfl⟩:=rx
  have e':k=(i != 0):=e
  subst e'
  exact PySem.P.truthy_int ⟨H,I,q⟩
 | str y =>
  obtain ⟨t,rfl⟩:=rx
  obtain ⟨hy,e'⟩:y.length<=sizeLine/\k=((y.length:Int) != 0):=e
  subst e'
  exact PySem.P.truthy_str (by ext hs hy) ⟨H,I.tok _,q⟩
 | AZ y =>
  obtain ⟨t,rfl⟩:=rx
  obtain ⟨hy,e'⟩:y.size<=sizeLine/\k=((y.size:Int) != 0):=e
  subst e'
  exact PySem.W.truthy_bytes (fq ‹_› (by decide)) ⟨H,I.tok _,q⟩
 | ref p =>
  cases rx
  have e':(∃xs,eQ X.K H p xs/\k=!xs.isEmpty)\/(∃xs,eO X.K H p xs/\k=!xs.isEmpty)\/∃bB,H p=some (.dK bB)/\k=!bB.isEmpty:=e
  rcases e' with ⟨xs,hx,e'⟩ | ⟨xs,hx,e'⟩ | ⟨bB,hx,e'⟩
  .subst e'
   obtain ⟨aq,r,pl,hz⟩:=I.list hx
   have hlen:=r.length
   exact wpAny_truthy_list pl.isList (by simp only [dU];ext hs hz hlen) ⟨H,I.tok _,by rw [RK r];exact q⟩
  .subst e'
   obtain ⟨aq,r,pl,hz⟩:=I.tuple hx
   have hlen:=r.length
   exact truthy_tuple pl (by simp only [dU];ext hs hz hlen) ⟨H,I.tok _,by rw [RK r];exact q⟩
  .subst e'
   obtain ⟨hz,hS,vs,r,m⟩:bB.length<=sizeLine/\(p==sysModules)=false/\∃vs,KV bB vs/\s.heap.DictOf (Kg X.prog X.w) p vs:=I.bu p _ hx
   have hlen:bB.length=vs.length:=Paired.length r
   exact wpAny_truthy_dict hS m (by ext hs hz hlen) ⟨H,I.tok _,by rw [b1f r];exact q⟩
 | _=>exact (show False from e).elim
theorem QA(ha:PE X a ta)(he:∀whole,isTrue a X.env whole=(do let v <-whole;standAt a.pos;holding [v] (truthy v))):
  PT X a (λσ H Q=>ta σ H λx H'=>∃k,vE X.K x H' k/\Q k H'):=by
 intro pins s σ H Q I h
 exact isTrue_plain (bG (ha pins s σ H _ I h) λv s1 ⟨x,H1,I1,r1,q1⟩=>b8f pins s1 σ H1 x v Q I1 r1 q1) (he _)
theorem l8:gW X (binaryOp .Add) (λx y H Q=>∃i j,x=.str i/\y=.str j/\i.length+j.length<=sizeLine/\Q (.str (i++j)) H):=by
 intro pins s σ H x y v u Q I rx ry h
 obtain ⟨i,j,rfl,rfl,hz,q⟩:=h
 obtain ⟨t,rfl⟩:=rx
 obtain ⟨t',rfl⟩:=ry
 exact add_str (λt' tk=>⟨.str (i++j),H,I.tok _,⟨_,rfl⟩,q⟩) hz
theorem vals1(r:aw [x] us):∃u,us=[u]/\RelV x u:=by
 cases r with
 | cons r1 r2=>cases r2;exact ⟨_,rfl,r1⟩
theorem vals2(r:aw [x,y] us):∃u w',us=[u,w']/\RelV x u/\RelV y w':=by
 cases r with
 | cons r1 r2 =>
  cases r2 with
  | cons r3 r4=>cases r4;exact ⟨_,_,rfl,r1,r3⟩
theorem b22(hc:X.calm=true):cw X (.builtin "max") (λxs H Q=>∃i j,xs=[.int i,.int j]/\Q (.int (if j>i then j else i)) H):=by
 intro pins s σ H xs us Q I r h
 obtain ⟨i,j,rfl,q⟩:=h
 obtain ⟨u,w',rfl,⟨t,rfl⟩,⟨t',rfl⟩⟩:=vals2 r
 refine max_two_ints (I.ok.hd hc) λh' tk k=>⟨_,H,I.kept k,?_,q⟩
 by_cases hj:j>i
 .rw [if_pos hj,if_pos hj];exact ⟨_,rfl⟩
 .rw [if_neg hj,if_neg hj];exact ⟨_,rfl⟩
theorem b20(hc:X.calm=true):cw X (.builtin "min") (λxs H Q=>∃i j,xs=[.int i,.int j]/\Q (.int (if j<i then j else i)) H):=by
 intro pins s σ H xs us Q I r h
 obtain ⟨i,j,rfl,q⟩:=h
 obtain ⟨u,w',rfl,⟨t,rfl⟩,⟨t',rfl⟩⟩:=vals2 r
 refine min_two_ints (I.ok.hd hc) λh' tk k=>⟨_,H,I.kept k,?_,q⟩
 by_cases hj:j<i
 .rw [if_pos hj,if_pos hj];exact ⟨_,rfl⟩
 .rw [if_neg hj,if_neg hj];exact ⟨_,rfl⟩
end
end L2
namespace L2
open PySem PySem.Spec PyProof.Rows
structure ObjM(h:Heap)(x dx C:Addr)(mA:Str->Option Value):Prop where
 obj:h.get? x=some (NJ C dx)
 ns:h.Ns1 dx mA
 ne:dx≠x
section
variable {prog:Program}{w:World}{A:Around}{E:Value->Shared->Prop}{s:Shared}{K:aI}{x dx C f:Addr}{mA:Str->Option Value}{name:Str}{v:Value}
end
theorem rD.none_of(r:rD none o):o=none:=by
 cases o with
 | none=>rfl
 | some u=>exact (show False from r).elim
section
variable {P:Program}{w:World}{H H':Hp}{h h':Heap}{a C dx:Addr}{fs HP:List (Str×V)}
end
structure MF(K:aI)(C:Addr):Prop where
 pg:NN K C Str.empty=true
 hd:PySem.W.hasDictIn K C=true
 po:PySem.W.plainOver K C=true
 sa:AW K (.ref C) "__setattr__" = some (some (.builtin "object.__setattr__"))
theorem MF.get{K:aI}{C:Addr}(c:MF K C)(f:Str):NN K C f=true:=c.pg
structure Con(K:aI)(C:Addr)(f:Str)(v:V)(u:Value):Prop where
 at_:AW K (.ref C) f=some (some u)
 rel:RelV v u
 get:NP K u "__get__" = some none
 cp:PySem.W.copiedNames.contains f=false
structure Meth(K:aI)(C:Addr)(m:Str)(f:Addr):Prop where
 at_:AW K (.ref C) m=some (some (.ref f))
 fn:PySem.W.isFn K (.ref f)=true
 kp:uB K (.ref f)=true
section
variable {X:Cx}{pins:List (Addr×Obj)}{σ:St}{H:Hp}{s:Shared}{a C dx:Addr}{fs:List (Str×V)}{f:Str}{v:V}{A:Around}{E:Value->Shared->Prop}
end
section
variable {X:Cx}{o e value:Expr}{f:Str}{pos pos' S6:Pos}{ta tv:TE}
end
section
variable {X:Cx}{pins:List (Addr×Obj)}{σ:St}{H:Hp}{s:Shared}{A:Around}{E:Value->Shared->Prop}{Q:Value->Shared->Prop}{c:Value}{b:Bool}
inductive iE (K:aI) (H:Hp):V->Value->Prop where
 | aU:iE K H .aU (.type "NoneType")
 | bl (x:Bool):iE K H (.bl x) (.type "bool")
 | int (i:Int):iE K H (.int i) (.type "int")
 | str (x:Str):iE K H (.str x) (.type "str")
 | Af (x:UInt64):iE K H (.Af x) (.type "float")
 | lst {a:Addr} {xs:List V} (e:H a=some (.lst xs)):iE K H (.ref a) (.type "list")
 | jW {a:Addr} {o:Obj} {xs:List V} (e:H a=some (.jW o (.lst xs))):iE K H (.ref a) (.type "list")
 | tup {a:Addr} {xs:List V} (e:H a=some (.tup xs)):iE K H (.ref a) (.type "tuple")
 | dK {a:Addr} {bB:List (Key×V)} (e:H a=some (.dK bB)):iE K H (.ref a) (.type "dict")
 | dT {a:Addr} {bB:List (List Key×V)} (e:H a=some (.dT bB)):iE K H (.ref a) (.type "dict")
 | ins {a C dx:Addr} {fs:List (Str×V)} (e:H a=some (.ins C dx fs)) (cl:MF K C) (ha:AW K (.ref C) "__class__" = some (some (.builtin "object.__class__")))
   (hn:NP K (.builtin "object.__class__") "__get__" = some (some (.builtin "getset_descriptor.__get__"))) (htk:PySem.W.takesIn K (.builtin "object.__class__")=some true)
   (hm:PySem.W.mroIn K C (.type "object")=some true):iE K H (.ref a) (.ref C)
end
end L2
namespace L2
open PySem PySem.Spec PyProof.Rows
structure bJ(k:Nat)(A:Around):Prop where
 hd:A.handled=none
 dp:A.depth+3*k+5<recursionLimit
 un:A.units+16*k+200<cLine
theorem bJ.mono(r:bJ k A)(h:j<=k):bJ j A:=⟨r.hd,by have:=r.dp;ext h this,by have:=r.un;ext h this⟩
theorem bJ.deeper(r:bJ (k+1) A)(env:Env):bJ k (A.deeper env):=
 ⟨r.hd,by have:=r.dp;show A.depth+1+3*k+5<_;ext this,by have:=r.un;show A.units+3+16*k+200<_;ext this⟩
theorem bJ.in1(r:bJ (k+1) A):bJ k A.in1:=
 ⟨r.hd,by have:=r.dp;show A.depth+3*k+5<_;ext this,by have:=r.un;show A.units+1+16*k+200<_;ext this⟩
theorem b1b{A:Around}{kw:List (Str×Value)}:(A.under (.builtin "type.__call__" ⟨.ref C::us,kw⟩)).depth=A.depth+1:=by
 first | rfl | simp [Ir,Code.weight,Code.isCreation,Code.isGuard,Code.isCaller,Code.frames,Iq,guardIds]
theorem b1a{A:Around}{kw:List (Str×Value)}:(A.under (.builtin "type.__call__" ⟨.ref C::us,kw⟩)).units=A.units+1:=by
 first | rfl | simp [Ir,Code.cUnits,Code.frames,Iq]
theorem bJ.make(r:bJ (k+1) A)(C:Addr)(us:List Value)(kw:List (Str×Value)):bJ k (A.under (.builtin "type.__call__" ⟨.ref C::us,kw⟩)):=
 ⟨r.hd,by have:=r.dp;rw [b1b];ext this,by have:=r.un;rw [b1a];ext this⟩
theorem bJ.depth(r:bJ k A):A.depth<recursionLimit:=by have:=r.dp;ext this
theorem bJ.units(r:bJ k A):A.units+64<cLine:=by have:=r.un;ext this
def FO:TA:=λ_ H Q=>Q [] H
def xY(ta:TE)(tr:TA):TA:=λσ H Q=>ta σ H λx H1=>tr σ H1 λxs H2=>Q (x::xs) H2
section
variable {X:Cx}{e:Expr}{es:List Expr}{te:TE}{t:TA}{pos:Pos}
theorem pC:PA X [] FO:=λ_ _ _ _ H Q I h=>NO ⟨[],H,I,.nil,h⟩
theorem oC(ha:PE X e te)(hr:PA X es t)(hs:starEach (e::es) X.env=(false,eval e X.env)::starEach es X.env:=by rfl):PA X (e::es) (xY te t):=by
 intro pos pins s σ H Q I h
 rw [hs]
 show wpAny _ _ (spliced ((false,eval e X.env)::backTo pos (starEach es X.env))) _ _ s
 refine Og (bG (ha pins s σ H _ I h) λu s1 ⟨x,H1,I1,r1,q1⟩=>?_)
 exact bG (hr pos pins s1 σ H1 _ I1 q1) λus s2 ⟨xs,H2,I2,r2,q2⟩=>⟨x::xs,H2,I2,.cons r1 r2,q2⟩
def FJ(t:TA):TE:=λσ H Q=>t σ H λxs H1=>xs.length<=sizeLine/\∀p,H1 p=none->Q (.ref p) (upd H1 p (.tup xs))
def FP(t:TA):TE:=λσ H Q=>t σ H λxs H1=>xs.length<=sizeLine/\∀p,H1 p=none->Q (.ref p) (upd H1 p (.lst xs))
theorem b8B{x1}(h:PA X es t):PE X (.Tuple es x1 pos) (FJ t):=by
 intro pins s σ H Q I hq
 refine wpAny_Tuple_spliced (bG (h pos pins s σ H _ I hq) λus s1 ⟨xs,H1,I1,r,z,q⟩=>⟨by rw [<-r.length];exact z,?_⟩)
 have hf:H1 s1.heap.objs.size=none:=I1.bu.fresh (bw _)
 refine ⟨.ref s1.heap.objs.size,upd H1 s1.heap.objs.size (.tup xs),I1.laid (t':=s1.toks) (λb u e=>bR _ e) (bw _) ?_,rfl,q _ hf⟩
 exact ⟨z,us,r,⟨_,fD _ rfl,rfl,_,rfl⟩⟩
theorem b8F(h:PA X es t):PE X (.List es pos) (FP t):=by
 intro pins s σ H Q I hq
 refine wpAny_List_spliced (bG (h pos pins s σ H _ I hq) λus s1 ⟨xs,H1,I1,r,z,q⟩=>⟨by rw [<-r.length];exact z,?_⟩)
 have hf:H1 s1.heap.objs.size=none:=I1.bu.fresh (bw _)
 refine ⟨.ref s1.heap.objs.size,upd H1 s1.heap.objs.size (.lst xs),I1.laid (t':=s1.toks) (λb u e=>bR _ e) (bw _) ?_,rfl,q _ hf⟩
 exact ⟨z,us,0,r,fD _ rfl⟩
end
abbrev Sp:=List V->Hp->VK->XK->Prop
abbrev nZ:=List Env->Hp->Shared->XK->Value->Shared->Prop
structure iH(P:Program)(w:World)(K:aI)(mg:Str->Option Value)(base:Heap)(A:Around)(outer:List Env)(s:Shared)(H:Hp):Prop where
 frames:A.frames=some outer
 mod:Mod K mg base
 bs:∀b o,base.get? b=some o->s.heap.get? b=some o/\H b=none
 oz:base.objs.size<=s.heap.objs.size
 fN:s.heap.FunFrames base outer
 qD:∀b∈nk outer,H b=none
 bu:iF P w H s.heap
 bare:AllBare s.gens
def CE(outer:List Env)(P:Program)(w:World)(H:Hp)(s:Shared)(Q:VK)(u:Value)(s':Shared):Prop:=
 ∃v H',s'.os=s.os/\AllBare s'.gens/\Un (nk outer) [] H H' s.heap s'.heap/\iF P w H' s'.heap/\RelV v u/\Q v H'
def CR(CX:nZ)(outer:List Env)(P:Program)(w:World)(H:Hp)(s:Shared)(Q:VK)(E:XK)(r:Result)(s':Shared):Prop:=
 match r with
 | .ok (.ret u)=>CE outer P w H s Q u s'
 | .ok _=>False
 | .error e=>CX outer H s E e s'
structure bY(P:Program)(w:World)(K:aI)(mg:Str->Option Value)(base:Heap)(CX:nZ)(k:Nat)(f:Addr)(fd:FuncData)(ps:List Str)(sp:Sp):Prop where
 len:∀vs H Q E,sp vs H Q E->vs.length=ps.length
 run:∀(A:Around) (outer:List Env) (s:Shared) (H:Hp) (args:Args) (us:List Value) (vs:List V) (Q:VK) (E:XK),bJ k A->iH P w K mg base A outer s H->BindsTo s fd args (ps.zip us)->aw vs us->sp vs H Q E ->
  codeAny (model P w) A (.call (.ref f) args) (CR CX outer P w H s Q E) s
theorem bY.mono{P:Program}{w:World}{K:aI}{mg:Str->Option Value}{base:Heap}{CX:nZ}{j k:Nat}{f:Addr}{fd:FuncData}{ps:List Str}{sp:Sp}(F:bY P w K mg base CX j f fd ps sp)(h:j<=k):
  bY P w K mg base CX k f fd ps sp:=⟨F.len,λA outer s H args us vs Q E hr=>F.run A outer s H args us vs Q E (hr.mono h)⟩
theorem bY.imp{P:Program}{w:World}{K:aI}{mg:Str->Option Value}{base:Heap}{CX:nZ}{k:Nat}{f:Addr}{fd:FuncData}{ps:List Str}{sp MK:Sp}(F:bY P w K mg base CX k f fd ps sp)
  (h:∀vs H Q E,MK vs H Q E->sp vs H Q E):bY P w K mg base CX k f fd ps MK:=
 ⟨λvs H Q E q=>F.len vs H Q E (h _ _ _ _ q),λA outer s H args us vs Q E hr he hb hv hs=>F.run A outer s H args us vs Q E hr he hb hv (h _ _ _ _ hs)⟩
theorem iH.make{P:Program}{w:World}{K:aI}{mg:Str->Option Value}{base:Heap}{A:Around}{outer:List Env}{s:Shared}{H:Hp}(e:iH P w K mg base A outer s H)(C:Addr)(us:List Value)(kw:List (Str×Value)):
  iH P w K mg base (A.under (.builtin "type.__call__" ⟨.ref C::us,kw⟩)) outer s H:=⟨by first | exact e.frames | (simpa [Ir,Code.envs,Iq,pushEnvs] using e.frames),e.mod,e.bs,e.oz,e.fN,e.qD,e.bu,e.bare⟩
theorem iH.in1{P:Program}{w:World}{K:aI}{mg:Str->Option Value}{base:Heap}{A:Around}{outer:List Env}{s:Shared}{H:Hp}(e:iH P w K mg base A outer s H):
  iH P w K mg base A.in1 outer s H:=⟨e.frames,e.mod,e.bs,e.oz,e.fN,e.qD,e.bu,e.bare⟩
section
variable {X:Cx}{pins:List (Addr×Obj)}{σ:St}{H:Hp}{s s':Shared}
theorem Inv.gx(I:Inv X pins σ H s):iH X.prog X.w X.K X.mg X.base X.A X.stack s H:=
 ⟨I.ok.frames,I.ok.mod,I.bs,fq I.ok.oz I.sz,I.stack,I.mG,I.bu,I.bare⟩
theorem Inv.after(I:Inv X pins σ H s)(h:CE X.stack X.prog X.w H s Q u s'):EP X pins σ Q u s':=by
 obtain ⟨v,H',os,bare,un,bu,r,q⟩:=h
 obtain ⟨hh,g,d,t,Gg⟩:=s'
 obtain rfl:Gg=s.os:=os
 exact ⟨v,H',I.call (h':=hh) (g':=g) (d':=d) (t':=t) (ch:=[]) un bu bare (λb z=>absurd z (by simp)),r,q⟩
end
def OT(sp:Sp)(se:List V)(E:XK)(t:TA):TE:=λσ H Q=>t σ H λvs H1=>sp (vs++se) H1 Q E
def Binds(K:aI)(fd:FuncData)(ps:List Str)(ds:List Value):Prop:=
 ∀(s:Shared) (us:List Value),K.In s.heap->(us++ds).length=ps.length->BindsTo s fd ⟨us,[]⟩ (ps.zip (us++ds))
theorem Binds.all{K:aI}{fd:FuncData}{ps:List Str}(h:∀us:List Value,us.length=ps.length->bindArgs fd ⟨us,[]⟩=pure (ps.zip us)):Binds K fd ps []:=λs us _ hl=>by
 rw [oh] at hl ⊢
 exact .of_eq (h us hl)
def JM(CX:nZ)(X:Cx)(E:XK):Prop:=∀(pins:List (Addr×Obj)) (σ:St) (H:Hp) (s:Shared) (e:Value) (s':Shared),Inv X pins σ H s->CX X.stack H s E e s'->X.xe e s'
section
variable {X:Cx}{CX:nZ}{k:Nat}{f C:Addr}{fd:FuncData}{ps:List Str}{sp:Sp}{se:List V}{ds:List Value}{E:XK}{x m:Str}{p pos apos:Pos}{e o:Expr}{es:List Expr}{ta:TE}{t:TA}
theorem b8s{pins:List (Addr×Obj)}{σ:St}{H:Hp}{s:Shared}{Q:VK}{us:List Value}{vs:List V}(F:bY X.prog X.w X.K X.mg X.base CX k f fd ps sp)(hr:bJ k X.A)(hb:Binds X.K fd ps ds)(hd:aw se ds)(hx:JM CX X E)
  (I:Inv X pins σ H s)(r:aw vs us)(h:sp (vs++se) H Q E):wpAny (model X.prog X.w) X.A (call (.ref f) us) (EP X pins σ Q) X.xe s:=by
 have r2:aw (vs++se) (us++ds):=r.append hd
 have hl:(us++ds).length=ps.length:=by rw [<-r2.length];exact F.len _ _ _ _ h
 refine wpAny_call (Dh (F.run X.A X.stack s H ⟨us,[]⟩ (us++ds) (vs++se) Q E hr I.gx (hb s us I.tX hl) r2 h) λr s' hq=>?_)
 cases r with
 | error e=>exact hx pins σ H s e s' I hq
 | ok fl =>
  cases fl with
  | ret u=>exact I.after hq
  | next=>exact iJ hq
  | brk=>exact iJ hq
  | cont=>exact iJ hq
theorem b6r(F:bY X.prog X.w X.K X.mg X.base CX k f fd ps sp)(hr:bJ k X.A)(hg:Gl X x)(hm:X.mg x=some (.ref f))(hk:uB X.K (.ref f)=true)(hb:Binds X.K fd ps ds)(hd:aw se ds)(hx:JM CX X E)
  (ha:PA X (e::es) t)(ko:(x==("__debug__":Str))=false:=by decide)(he:starEach (e::es) X.env=(false,eval e X.env)::starEach es X.env:=by rfl)(dr:(backTo pos (starEach es X.env)).any (·.1)=false:=by rfl):
  PE X (.Call (.Name x p) (e::es) [] pos) (OT sp se E t):=by
 intro pins s σ H Q I h
 refine DP (Kb I hg hm ?_ ko)
 refine PySem.W.callWith_K (h₀:=X.base) I.ok.mod.Gx hk (bG (ha pos pins s σ H _ I h) λus s1 ⟨vs,H1,I1,r,q⟩=>⟨I1.tX,?_⟩) he dr
 exact b8s F hr hb hd hx I1 r q
structure Mk(K:aI)(C f:Addr):Prop where
 makes:PySem.W.makesIn K C=true
 init:AW K (.ref C) "__init__" = some (some (.ref f))
 fn:PySem.W.isFn K (.ref f)=true
 kp:uB K (.ref C)=true
end
section
variable {X:Cx}{CX:nZ}{k:Nat}{f C:Addr}{fd:FuncData}{ps ks:List Str}{sp:Sp}{E:XK}{x m:Str}{p pos apos Wv:Pos}{e o:Expr}{es:List Expr}{kws:List Keyword}{te ta:TE}{t tk:TA}{nm:Option Str}
structure Mz(K:aI)(fd:FuncData)(ps ks:List Str)(g:List Value->List Value->List Value)(gV:List V->List V->List V):Prop where
 to:∀(s:Shared) (us ws:List Value),K.In s.heap->(g us ws).length=ps.length->BindsTo s fd ⟨us,ks.zip ws⟩ (ps.zip (g us ws))
 rel:∀{vs:List V} {us:List Value} {zs:List V} {ws:List Value},aw vs us->aw zs ws->aw (gV vs zs) (g us ws)
variable {g:List Value->List Value->List Value}{gV:List V->List V->List V}
end
structure dJ(N P:List Str)(sc:Scope):Prop where
 kind:sc.kind=.function
 co:sc.isCoroutine=false
 gen:sc.isGenerator=false
 nd:N.Nodup
 pre:N.take P.length=P
 par:∀x∈P,sc.names.lookup x=some .local\/sc.names.lookup x=some .cell
 tS:∀y∈sc.names,y.2≠.free
theorem Q0{kindOf:Str->Option NameKind}{x:Str}:∀{binds:List (Str×Value)} {m:Str->Option Value},(∀v,(x,v)∉binds)->bindL kindOf binds m x=m x
 | [],_,_=>rfl
 | (n,v)::r,m,h=>by
  unfold bindL
  rw [Q0 λw hw=>h w (br _ hw)]
  split
  .have:x≠n:=by rintro rfl;exact h v aZ
   simp [this]
  .rfl
theorem QY{kindOf:Str->Option NameKind}{x:Str}:∀{binds:List (Str×Value)} {m:Str->Option Value},(∀v,(x,v)∉binds)->bindC kindOf binds m x=m x
 | [],_,_=>rfl
 | (n,v)::r,m,h=>by
  unfold bindC
  rw [QY λw hw=>h w (br _ hw)]
  split
  .rfl
  .have:x≠n:=by rintro rfl;exact h v aZ
   simp [this]
theorem QZ{kindOf:Str->Option NameKind}{x:Str}{v:Value}:∀{P:List Str} {vs:List Value} {i:Nat} {m:Str->Option Value},P.Nodup->P[i]?=some x->vs[i]?=some v->kindOf x=some .local ->
  bindL kindOf (P.zip vs) m x=some v
 | [],_,_,_,_,h,_,_=>by simp at h
 | _::_,[],_,_,_,_,h,_=>by simp at h
 | p::P,w::vs,0,m,nd,h1,h2,hk=>by
  simp at h1 h2;subst h1;subst h2
  show bindL kindOf ((p,w)::P.zip vs) m p=_
  unfold bindL
  rw [Q0 λv hv=>(uE.mp nd).1 (AQ hv).1,if_pos hk]
  simp
 | p::P,w::vs,i+1,m,nd,h1,h2,hk=>by
  show bindL kindOf ((p,w)::P.zip vs) m x=_
  unfold bindL
  exact QZ (i:=i) (uE.mp nd).2 (by simpa using h1) (by simpa using h2) hk
theorem QX{kindOf:Str->Option NameKind}{x:Str}{v:Value}:∀{P:List Str} {vs:List Value} {i:Nat} {m:Str->Option Value},P.Nodup->P[i]?=some x->vs[i]?=some v->kindOf x≠some .local ->
  bindC kindOf (P.zip vs) m x=some v
 | [],_,_,_,_,h,_,_=>by simp at h
 | _::_,[],_,_,_,_,h,_=>by simp at h
 | p::P,w::vs,0,m,nd,h1,h2,hk=>by
  simp at h1 h2;subst h1;subst h2
  show bindC kindOf ((p,w)::P.zip vs) m p=_
  unfold bindC
  rw [QY λv hv=>(uE.mp nd).1 (AQ hv).1,if_neg hk]
  simp
 | p::P,w::vs,i+1,m,nd,h1,h2,hk=>by
  show bindC kindOf ((p,w)::P.zip vs) m x=_
  unfold bindC
  exact QX (i:=i) (uE.mp nd).2 (by simpa using h1) (by simpa using h2) hk
def start(N:List Str)(vs:List V):St:=vs.map some++jm (N.length-vs.length) none
def mq(CX:nZ)(P:Program)(w:World)(K:aI)(mg:Str->Option Value)(base:Heap)(N:List Str)(qual:Str)(scope:Scope)(f:Addr)(cd:Value)(A:Around)(outer:List Env)(s:Shared)(H:Hp)(E:XK):Cx where
 prog:=P
 w:=w
 K:=K
 mg:=mg
 base:=base
 A:=A.deeper (envOfC qual scope s.heap.objs.size f cd)
 N:=N
 cQ:=s
 pM:=H
 env:=envOfC qual scope s.heap.objs.size f cd
 outer:=outer
 stack:=envOfC qual scope s.heap.objs.size f cd::outer
 ex:=[]
 calm:=true
 fn:=λ_=>true
 pn:=[]
 xe:=λe s'=>wpAny (model P w) (A.deeper (envOfC qual scope s.heap.objs.size f cd)) (leaving (envOfC qual scope s.heap.objs.size f cd) e) (λ_ F6=>CX outer H s E e F6) (λe' F6=>CX outer H s E e' F6) s'
theorem QR{sc:Scope}{n:Nat}{x:Str}(h:sc.names.lookup x=some .cell):∃c,(cellsFrom n sc.names []).lookup x=some c:=by
 have q:=N0 sc.names n [] (.inl h)
 exact Option.isSome_iff_exists.mp q
theorem b2y{CX:nZ}{P:Program}{w:World}{K:aI}{mg:Str->Option Value}{base:Heap}{N ps:List Str}{qual:Str}{scope:Scope}{f:Addr}{cd:Value}{A:Around}{outer:List Env}{s s1:Shared}{H:Hp}{E:XK}{us:List Value}{vs:List V}
  (S:dJ N ps scope)(hd:A.handled=none)(e0:iH P w K mg base A outer s H)(hl:vs.length=ps.length)(r:aw vs us)
  (x:InCallC s s.heap.objs.size (bindL (envOfC qual scope s.heap.objs.size f cd).kindOf (ps.zip us) λ_=>none) (cellsFrom (s.heap.objs.size+1) scope.names []) (bindC (envOfC qual scope s.heap.objs.size f cd).kindOf (ps.zip us) λ_=>none) s1):
  Inv (mq CX P w K mg base N qual scope f cd A outer s H E) [] (start N vs) H s1:=by
 have dr:ps.length<=N.length:=by have:=congrArg pd S.pre;rw [iA] at this;ext this
 obtain ⟨h1,tk,rfl,hk⟩:=x.done
 have Gq:∀b:Addr,b∉(mq CX P w K mg base N qual scope f cd A outer s H E).ex:=λb z=>absurd (show b∈([]:List Addr) from z) (by simp)
 refine ⟨⟨e0.mod,S.kind,rfl,rfl,bw _,λy z c h1 h2=>?_,λy hy=>?_,λy c _ h=>?_,λ_=>hd,Around.frames_deeper e0.frames,.inr ⟨rfl,rfl⟩,λb z=>absurd z (Gq b),e0.bs,e0.oz,λb _ _=>Gq b,λb z=>absurd z (Gq b),e0.fN,e0.qD⟩,
  rfl,e0.bare,Un.kept hk,⟨_,x.toInCall.ns,λi y v h1 h2 h3=>?_⟩,λy c h=>⟨_,x.cell y c h⟩,e0.bu.fresh (bw _),λy c h=>?_,λp hp=>absurd (show p∈([]:List (Addr×Obj)) from hp) (by simp),e0.bu.kept hk,?_⟩
 .exact name_of_addr x.apart (wC h1) (wC h2)
 .have hy:scope.names.lookup y=some .cell\/scope.names.lookup y=some .free:=hy
  rcases hy with hy | hy
  .exact QR hy
  .exact absurd rfl (S.tS _ (wC hy))
 .exact AJ (x.above y c (wC h))
 .have hi:i<vs.length:=by
   unfold start at h2
   by_cases hi:i<vs.length
   .exact hi
   .rw [qV (by simpa using hi)] at h2
    rw [DJ] at h2
    split at h2<;>cases h2
  have ha:vs[i]?=some v:=by
   unfold start at h2
   rw [uK (by simpa using hi),qU] at h2
   cases e:vs[i]? with
   | none=>rw [e] at h2;cases h2
   | some a=>rw [e] at h2;cases h2;rfl
  obtain ⟨u,hu,rv⟩:=r.get ha
  have hp:ps[i]?=some y:=by
   rw [<-S.pre,List.getElem?_take_of_lt (by ext hl hi)];exact h1
  have MX:ps.Nodup:=by rw [<-S.pre];exact S.nd.sublist (List.take_sublist _ _)
  refine ⟨u,rv,?_⟩
  rcases S.par y (Oc hp) with k | k
  .exact .inl ⟨k,QZ MX hp hu k⟩
  .obtain ⟨c,e⟩:=QR (n:=s.heap.objs.size+1) k
   refine .inr ⟨.inl k,c,e,?_⟩
   have q:=x.cell y c e
   rw [QX MX hp hu (by show scope.names.lookup y≠_;rw [k];decide)] at q
   exact q
 .exact e0.bu.fresh (AJ (x.above y c (wC h)))
 .unfold start
  show _=N.length
  rw [cM,aX,DU]
  ext hl dr
theorem Ae{CX:nZ}{P:Program}{w:World}{K:aI}{mg:Str->Option Value}{base:Heap}{k:Nat}{f:Addr}{name qual:Str}{params:Arguments}{body:List Stmt}{scope:Scope}{dV kV doc pm dF ct oc:Value}{an od:Option Addr}
  {rN:Array (Option Value)}{N ps:List Str}{sp:Sp}(lk:K.lookup f=some ⟨oc,od,.func (jX name qual params body scope dV kV doc pm an dF ct),rN⟩)(c7:DD K dF qual=true)(S:dJ N ps scope)
  (len:∀vs H Q E,sp vs H Q E->vs.length=ps.length)
  (eu:∀(A:Around) (outer:List Env) (s:Shared) (H:Hp) (vs:List V) (Q:VK) (E:XK),bJ k (A.deeper (envOfC qual scope s.heap.objs.size f dF))->sp vs H Q E ->
   ∃t,mW (mq CX P w K mg base N qual scope f dF A outer s H E) body t/\t { nx:=λ_ H'=>Q .aU H',rt:=Q } (start N vs) H):
  bY P w K mg base CX (k+1) f (jX name qual params body scope dV kV doc pm an dF ct) ps sp:=by
 refine ⟨len,λA outer s H args us vs Q E hr e0 hb r rS=>?_⟩
 have hl:=len _ _ _ _ rS
 have KX:K.In s.heap:=e0.mod.Gx.keeps λb o e=>(e0.bs b o e).1
 have lim:s.heap.NoLimit:=e0.mod.nolimit.keeps λb o e=>(e0.bs b o e).1
 have zB:∀y∈ps.zip us,scope.names.lookup y.1=some .local\/(scope.names.lookup y.1=some .cell/\((cellsFrom (s.heap.objs.size+1) scope.names []).lookup y.1).isSome=true):=λ⟨n,v⟩ hy=>by
  rcases S.par n (AQ hy).1 with q | q
  .exact .inl q
  .exact .inr ⟨q,N0 _ _ _ (.inl q)⟩
 refine codeAny_call_function hr.depth (KX _ _ lk) rfl S.co S.gen rfl (PySem.W.codeRec_of KX c7) (hb _ _ _ _ ?_)
 refine wpAny_newFunctionEnv_cells S.kind zB λenv he s1 x=>?_
 subst he
 refine ⟨lim.keeps x.toInCall.keep,codeAny_func ?_⟩
 obtain ⟨t,ht,hq⟩:=eu A outer s H vs Q E (hr.deeper _) rS
 have I:Inv (mq CX P w K mg base N qual scope f dF A outer s H E) [] (start N vs) H s1:=b2y S hr.hd e0 hl r x
 refine jY (ht [] s1 (start N vs) H _ I hq) (λfl s' hs=>?_) λe s' hs=>hs
 have fin:∀{aJ:St} {H':Hp} {v:V} {u:Value},Inv (mq CX P w K mg base N qual scope f dF A outer s H E) [] aJ H' s'->RelV v u->Q v H'->CE outer P w H s Q u s':=
  λ{aJ H' v u} J rv q=>⟨v,H',J.os,J.bare,J.base,J.bu,rv,q⟩
 cases fl with
 | ret u =>
  obtain ⟨v,aJ,H',J,rv,q⟩:=hs
  exact fin J rv q
 | next =>
  obtain ⟨aJ,H',J,q⟩:=hs
  exact fin (v:=V.aU) (u:=gi) J rfl q
 | brk =>
  obtain ⟨_,_,_,q⟩:=hs
  exact iJ q
 | cont =>
  obtain ⟨_,_,_,q⟩:=hs
  exact iJ q
end L2
namespace L2
open PySem PySem.Spec PyProof.Rows
section
variable {X:Cx}{x:Str}{p pos:Pos}{e:Expr}{es:List Expr}{t:TA}{id T:String}{r:List V->Hp->VK->Prop}
def MI(r:List V->Hp->VK->Prop)(t:TA):TE:=λσ H Q=>t σ H λvs H1=>r vs H1 Q
theorem sU(hc:cw X (.builtin id) r)(hg:Gl X x)(hm:X.mg x=none)(hv:bootBuiltins x=some (.builtin id))(ha:PA X (e::es) t)(hn:x ≠ "__name__":=by decide)(ko:(x==("__debug__":Str))=false:=by decide)
  (he:starEach (e::es) X.env=(false,eval e X.env)::starEach es X.env:=by rfl)(dr:(backTo pos (starEach es X.env)).any (·.1)=false:=by rfl):PE X (.Call (.Name x p) (e::es) [] pos) (MI r t):=by
 intro pins s σ H Q I h
 refine DP (sN I hg hm hv ?_ hn ko)
 exact PyProof.Rows.callWith_builtin1 (bG (ha pos pins s σ H _ I h) λus s1 ⟨vs,H1,I1,r1,q1⟩=>hc pins s1 σ H1 vs us Q I1 r1 q1) he dr
theorem b13(hc:cw X (.type T) r)(hg:Gl X x)(hm:X.mg x=none)(hv:bootBuiltins x=some (.type T))(ha:PA X (e::es) t)(hn:x ≠ "__name__":=by decide)(ko:(x==("__debug__":Str))=false:=by decide)
  (he:starEach (e::es) X.env=(false,eval e X.env)::starEach es X.env:=by rfl)(dr:(backTo pos (starEach es X.env)).any (·.1)=false:=by rfl):PE X (.Call (.Name x p) (e::es) [] pos) (MI r t):=by
 intro pins s σ H Q I h
 refine DP (sN I hg hm hv ?_ hn ko)
 exact AY (bG (ha pos pins s σ H _ I h) λus s1 ⟨vs,H1,I1,r1,q1⟩=>hc pins s1 σ H1 vs us Q I1 r1 q1) he dr
end
end L2
namespace HT
open PySem PyProof.Rows
def lexLt:List Int->List Int->Bool
 | [],[]=>false
 | [],_::_=>true
 | _::_,[]=>false
 | x::xs,y::ys=>if x=y then lexLt xs ys else decide (x<y)
theorem fg(x y:Int)(xs ys:List Int):lexLt (x::xs) (y::ys)=if x=y then lexLt xs ys else decide (x<y):=rfl
theorem eZ:lexLt [] []=false:=rfl
theorem a6O(y:Int)(ys:List Int):lexLt [] (y::ys)=true:=rfl
theorem a6P(x:Int)(xs:List Int):lexLt (x::xs) []=false:=rfl
theorem b4y(A:Around)(s:Shared)(a:Int)(t:Tok)(c:Int)(u:Tok):∃e,SeqAt.EqAt A s (.int a t) (.int c u) e/\(e=true↔a=c):=
 ⟨(a==c),SeqAt.EqAt.int_int a t c u,by simp⟩
theorem b3I(A:Around)(s:Shared)(a:Int)(t:Tok)(c:Int)(u:Tok)(prog:Program)(w:World)(E:Value->Shared->Prop)(Q:Value->Shared->Prop)(h:Q (.bool (decide (a<c))) s):
  wpAny (model prog w) A (richCompare .Lt (.int a t) (.int c u)) Q E s:=
 (PyProof.Rows.lt_int h:wpAny (model prog w) A (compareOp .Lt (.int a t) (.int c u)) Q E s)
section
open PySem.SeqAt
open PySem.AutoSeq1 (wpAny_loadPart')
open PySem.MeetsSeq PySem.MeetsSeq2 PySem.MeetsSeq3
theorem a7f(l b:Addr)(items dH:Array Value)(n n2:Nat)(dd sf:Option Addr)(sl qk:Array (Option Value))(ns ms:List Int)(hi:IntsAre items.toList ns)(hj:IntsAre dH.toList ms):
  Meets (Builtin.«tuple.__lt__» ⟨[.ref l,.ref b],[]⟩)
   (λ_ R s=>s.heap.get? l=some { cls:=.type "tuple",dict:=dd,data:=.seq items n,slots:=sl }/\s.heap.get? b=some { cls:=.type "tuple",dict:=sf,data:=.seq dH n2,slots:=qk } /\
    R (.ok (.ret (.bool (lexLt ns ms)))) s):=
 .of_wp λprog w A R s h=>by
  obtain ⟨hp,g,d,tk,os⟩:=s;obtain ⟨hl,hb,h⟩:=h
  have f2:=AutoSeq1.sub_tuple_tuple
  have z1:items.size=ns.length:=by rw [<-hi.length];simp
  have z2:dH.size=ms.length:=by rw [<-hj.length];simp
  wp_walk using NW hl,NW hb,wpAny_forIn_list _ (λrest b s'=>b.1=none/\s'=⟨hp,g,d,tk,os⟩/\∃(vs ws:List Value) (vN vP:List Int),rest=vs.zip ws /\
   IntsAre vs vN/\IntsAre ws vP/\vN.length+dH.size=vP.length+items.size/\R (.ok (.ret (.bool (lexLt vN vP)))) ⟨hp,g,d,tk,os⟩) _
  case turn =>
   rintro ⟨y,x⟩ rest b s' ⟨kq,rfl,vs,ws,vN,vP,hz,G1,CP,hlen,hR⟩
   cases G1 with
   | nil=>rw [List.zip_nil_left] at hz;cases hz
   | cons a t GZ =>
    cases CP with
    | nil=>rw [List.zip_nil_right] at hz;cases hz
    | cons c u GX =>
     rw [Jf] at hz
     injection hz with Xg zo
     injection Xg with hy hx
     subst hy hx
     rw [fg] at hR
     simp only [iy] at hlen
     obtain ⟨e,he,zG⟩:=b4y A.in1 ⟨hp,g,d,tk,os⟩ a t c u
     refine aA (he prog w _ _ ?_)
     cases e with
     | true =>
      rw [if_pos (zG.mp rfl)] at hR
      wp_walk
      exact ⟨rfl,rfl,_,_,_,_,zo,GZ,GX,by ext hlen,hR⟩
     | false =>
      rw [if_neg (λq=>absurd (zG.mpr q) mv)] at hR
      have Xp:=b3I A.in1 ⟨hp,g,d,tk,os⟩ a t c u prog w
      wp_walk using Xp
      exact ⟨_,rfl,by simpa using hR⟩
  case fin =>
   rintro ⟨b1,b2⟩ s' ⟨kq,rfl,vs,ws,vN,vP,hz,G1,CP,hlen,hR⟩
   simp only at kq
   subst kq
   have hv:lexLt vN vP=decide (items.size<dH.size):=by
    cases G1 with
    | nil =>
     cases CP with
     | nil =>
      simp only [AO] at hlen
      rw [eZ]
      exact (decide_eq_false (by ext hlen)).symm
     | cons c u hw =>
      simp only [AO,iy] at hlen
      rw [a6O]
      exact (decide_eq_true (by ext hlen)).symm
    | cons a t hv =>
     cases CP with
     | nil =>
      simp only [AO,iy] at hlen
      rw [a6P]
      exact (decide_eq_false (by ext hlen)).symm
     | cons c u hw =>
      rw [Jf] at hz
      cases hz
   rw [hv] at hR
   wp_walk
   exact ⟨_,rfl,by simpa [Builtin.Tuple.tupleCompareSizes] using hR⟩
  case h =>
   exact ⟨rfl,rfl,items.toList,dH.toList,ns,ms,rfl,hi,hj,by ext z1 z2,h⟩
end
section
variable {prog:Program}{w:World}{A:Around}{E:Value->Shared->Prop}{s:Shared}
theorem l'(hl:IsTup s.heap l items)(hb:IsTup s.heap b dH)(hi:IntsAre items.toList ns)(hj:IntsAre dH.toList ms)
  (hu:A.units<cLine)(h:Q (.bool (lexLt ns ms)) s):wpAny (model prog w) A (compareOp .Lt (.ref l) (.ref b)) Q E s:=by
 obtain ⟨⟨cls,dd,data,sl⟩,ho,hc,n,hd⟩:=id hl
 obtain ⟨⟨Ar,sf,data2,qk⟩,pO,r6,n2,hd2⟩:=id hb
 simp only at hc hd r6 hd2
 subst hc hd r6 hd2
 exact richCompare_meets_room (op:=.Lt) ⟨_,ho,rfl⟩ ⟨_,pO,rfl⟩ PySem.F.slot_tuple_lt PySem.F.entry_tuple_lt (PySem.F.args_tuple_lt_2 _ _) (a7f l b items dH n n2 dd sf sl qk ns ms hi hj)
  ⟨ho,pO,show lH (lexLt ns ms)≠Value.notImplemented/\Q (.bool (lexLt ns ms)) s from ⟨(λx=>nomatch x),h⟩⟩ hu
theorem qI(ht:IsTup s.heap t vs.toArray)(hb:IsTup s.heap b ws.toArray)(hv:vs≠[])
  (h1:ws=[]->Q (.ref t) s)(h2:ws≠[]->Q (.ref s.heap.objs.size) { s with heap:=s.heap.push { cls:=.type "tuple",data:=.seq (vs++ws).toArray } })
  (hsz:vs.length+ws.length<=sizeLine):wpAny (model prog w) A (binaryOp .Add (.ref t) (.ref b)) Q E s:=by
 obtain ⟨⟨cls,dd,data,sl⟩,ho,hc,n,hd⟩:=id ht
 obtain ⟨⟨Ar,sf,data2,qk⟩,pO,r6,n2,hd2⟩:=id hb
 simp only at hc hd r6 hd2
 subst hc hd r6 hd2
 have e:vs.toArray++ws.toArray=(vs++ws).toArray:=by simp
 by_cases hw:ws=[]
 .exact concat_meets ⟨_,ho,rfl⟩ ⟨_,pO,rfl⟩ IG IS Js Jk (Jm _ _)
   (tuple_addW1 t b vs.toArray ws.toArray n n2 dd sf sl qk (by simpa using hv) (by simp [hw])) ⟨ho,pO,h1 hw⟩
 .refine concat_meets ⟨_,ho,rfl⟩ ⟨_,pO,rfl⟩ IG IS Js Jk (Jm _ _)
   (tuple_addW2 t b vs.toArray ws.toArray n n2 dd sf sl qk (by simpa using hv) (by simpa using hw) (by rw [dU,dU];exact hsz)) ⟨ho,pO,?_⟩
  rw [e]
  exact h2 hw
def bD(n d:Nat):Option Int->Nat
 | none=>d
 | some v=>if v<0 then (v+(n:Int)).toNat else min v.toNat n
theorem mH(n d k:Nat):bD n d (some (k:Int))=min k n:=by
 show (if (k:Int)<0 then ((k:Int)+(n:Int)).toNat else min (k:Int).toNat n)=min k n
 rw [if_neg (by ext),Jc]
theorem b8q(n d:Nat)(hd:d<=n)(o:Option Int):bD n d o<=n:=by
 cases o with
 | none=>exact hd
 | some v =>
  show (if v<0 then (v+(n:Int)).toNat else min v.toNat n)<=n
  by_cases hv:v<0
  .rw [if_pos hv];ext hv
  .rw [if_neg hv];exact Nat.min_le_right _ _
theorem P1(v:Int)(n d:Nat):(if v<0 then max (v+(n:Int)) 0 else min v (n:Int))=((bD n d (some v):Nat):Int):=by
 show (if v<0 then max (v+(n:Int)) 0 else min v (n:Int))=(((if v<0 then (v+(n:Int)).toNat else min v.toNat n):Nat):Int)
 by_cases hv:v<0
 .simp only [if_pos hv];ext
 .simp only [if_neg hv];ext hv
theorem b1n(lo hi:Option Int)(n:Nat):Jo lo hi 1 (n:Int)=(((bD n 0 lo:Nat):Int),((bD n n hi:Nat):Int)):=by
 have h1:¬((1:Int)<0):=by decide
 unfold Jo
 simp only [h1,if_false]
 refine Dg ?_ ?_
 .cases lo with
  | none=>rfl
  | some v=>exact P1 v n 0
 .cases hi with
  | none=>rfl
  | some v=>exact P1 v n n
theorem b0Y(i j:Nat):DO (i:Int) (j:Int) 1=j-i:=by
 unfold DO
 have h1:(1:Int)>0:=by decide
 simp only [h1,if_true,Int.ediv_one]
 split<;>lia
theorem RP(p:IsPart v o)(h:Q o s):wpAny (model prog w) A (Builtin.Slice.slicePartIndex v) Q E s:=by
 cases p with
 | none=>exact slicePart_none h
 | int i t=>exact slicePart_int h
theorem a5C{lo hi:Option Int}{n:Nat}(hs:s.heap.IsSliceOf sl vl vu .none)(pl:IsPart vl lo)(pu:IsPart vu hi)
  (h:Q (((bD n 0 lo:Nat):Int),1,bD n n hi-bD n 0 lo) s):wpAny (model prog w) A (Oy (.ref sl) (pure (n:Int))) Q E s:=by
 obtain ⟨os,uc,uh,zM⟩:=id hs
 unfold Oy Builtin.Slice.sliceFields
 refine aA (aA (lD uc zM (x:=vl) rfl (aA (lD uc zM (x:=vu) rfl (aA (lD uc zM (x:=.none) rfl (bC ?_)))))))
 refine aA (slicePart_none ?_)
 show wpAny _ _ (if ((1:Int)==0)=true then _ else _) _ _ s
 rw [if_neg (by decide)]
 refine aA (RP pl (aA (RP pu (aA (bC ?_)))))
 show wpAny _ _ (match Jo lo hi 1 (n:Int) with | (lo,hi)=>pure (lo,(1:Int),DO lo hi 1)) _ _ s
 rw [b1n lo hi n]
 show wpAny _ _ (pure (((bD n 0 lo:Nat):Int),(1:Int),DO ((bD n 0 lo:Nat):Int) ((bD n n hi:Nat):Int) 1)) _ _ s
 rw [b0Y]
 exact bC h
theorem b3R(xs:Array Value)(i k:Nat):((jH k).filterMap λ(m:Nat)=>xs[((i:Int)+(m:Int)*1).toNat]?).toArray=((xs.toList.drop i).take k).toArray:=by
 have e:(λ(m:Nat)=>xs[((i:Int)+(m:Int)*1).toNat]?)=λm=>xs[i+m]?:=by
  funext m
  have:((i:Int)+(m:Int)*1).toNat=i+m:=by ext
  rw [this]
 rw [e]
 have:=pick_run xs i k
 rw [List.filterMap_map] at this
 have e2:((λx=>xs[x]?)∘λx=>i+x)=λm=>xs[i+m]?:=rfl
 rw [e2] at this
 rw [this]
theorem fM{items:Array Value}{lo hi:Option Int}(ht:IsTup s.heap t items)(hs:s.heap.IsSliceOf sl vl vu .none)(pl:IsPart vl lo)(pu:IsPart vu hi)
  (hw:¬(bD items.size 0 lo=0/\bD items.size items.size hi=items.size))
  (h:Q (.ref s.heap.objs.size) { s with heap:=s.heap.push { cls:=.type "tuple",data:=.seq ((items.toList.drop (bD items.size 0 lo)).take (bD items.size items.size hi-bD items.size 0 lo)).toArray } })
  (hsz:items.size<=sizeLine):wpAny (model prog w) A (getItem (.ref t) (.ref sl)) Q E s:=by
 have mL:sizeOk (.seq ((items.toList.drop (bD items.size 0 lo)).take (bD items.size items.size hi-bD items.size 0 lo)).toArray):=by
  show ((items.toList.drop (bD items.size 0 lo)).take (bD items.size items.size hi-bD items.size 0 lo)).toArray.size<=sizeLine
  rw [dU,iA,kG,gQ]
  ext hsz
 have hj:bD items.size items.size hi<=items.size:=b8q _ _ (bw _) hi
 obtain ⟨os,uc,uh,zM⟩:=id hs
 have zV:s.TypeIs (.ref sl) "slice":=⟨os,uc,uh⟩
 unfold getItem
 try with_reducible refine pT ?_
 first | refine aA (bC ?_) | skip
 refine aA (wpAny_sequenceKey ht.typeIs (by decide) ?_)
 refine aA (wz (name:=qJ "__getitem__") ht.typeIs DW
  (uP DW ht.typeIs entry_tuple_getitem ?_ (args_tuple_getitem _ _)))
 show wpAny _ _ (Builtin.Tuple.tupleItemsOf (.ref t) >>= _) _ _ s
 refine aA (tupleItemsOf_ ht ?_)
 refine aA (wpAny_typeOf zV ?_)
 rw [if_pos (by decide)]
 refine aA (a5C hs pl pu ?_)
 have Xz:¬((((bD items.size 0 lo:Nat):Int)==0&&(1:Int)==1&&(bD items.size items.size hi-bD items.size 0 lo)==items.size)=true):=by
  intro q
  rw [AS,AS] at q
  have q1:((bD items.size 0 lo:Nat):Int)=0:=eq_of_beq q.1.1
  have q2:bD items.size items.size hi-bD items.size 0 lo=items.size:=eq_of_beq q.2
  exact hw ⟨by ext q1,by ext q1 q2⟩
 show wpAny _ _ (if (((bD items.size 0 lo:Nat):Int)==0&&(1:Int)==1&&(bD items.size items.size hi-bD items.size 0 lo)==items.size)=true then _ else _) _ _ s
 rw [if_neg Xz,b3R]
 first
  | exact aA (m:=DM _) (sE (bC ⟨_,rfl,bC h⟩) mL)
  | exact aA (m:=DM _) (sE (aA (bC (bC ⟨_,rfl,bC h⟩))) mL)
  | exact aA (aA (m:=DM _) (sE (bC (bC ⟨_,rfl,bC h⟩)) mL))
  | exact aA (aA (m:=DM _) (sE (bC ⟨_,rfl,bC h⟩) mL))
end
end HT
namespace L2
open PySem PySem.Spec PyProof.Rows
abbrev TO:=St->Hp->(Option Int->Hp->Prop)->Prop
def PO(X:Cx)(e:Option Expr)(t:TO):Prop:=
 ∀(pins:List (Addr×Obj)) (s:Shared) (σ:St) (H:Hp) (Q:Option Int->Hp->Prop),Inv X pins σ H s->t σ H Q ->
  wpAny (model X.prog X.w) X.A (evalPart e X.env) (λu s'=>∃o H',Inv X pins σ H' s'/\IsPart u o/\Q o H') X.xe s
def b57:TO:=λ_ H Q=>Q none H
def xT(t:TE):TO:=λσ H Q=>t σ H λx H1=>∃i,x=.int i/\Q (some i) H1
section
variable {X:Cx}{e:Expr}{te:TE}{lo hi:Option Expr}{tl th:TO}{pos p2:Pos}
theorem b6l:PO X none b57:=by
 intro pins s σ H Q I h
 rw [evalPart_none]
 exact bC ⟨none,H,I,.none,h⟩
theorem b6k(h:PE X e te):PO X (some e) (xT te):=by
 intro pins s σ H Q I hw
 rw [evalPart_some]
 refine bG (h pins s σ H _ I hw) λu s1 ⟨x,H1,I1,r1,q1⟩=>?_
 obtain ⟨i,rfl,q⟩:=q1
 obtain ⟨t,rfl⟩:=r1
 exact ⟨some i,H1,I1,.int i t,q⟩
def vG(X:Cx)(r:V->Option Int->Option Int->Hp->VK->Prop):Prop:=
 ∀(pins:List (Addr×Obj)) (s:Shared) (σ:St) (H:Hp) (x:V) (v vl vu:Value) (lo hi:Option Int) (sl:Addr) (Q:VK),Inv X pins σ H s->RelV x v->s.heap.IsSliceOf sl vl vu .none->IsPart vl lo->IsPart vu hi->r x lo hi H Q ->
  ∃T id,typeLookup (.type T) "__getitem__" = pure (some (.builtin id))/\s.TypeIs v T/\wpAny (model X.prog X.w) X.A (getItem v (.ref sl)) (EP X pins σ Q) X.xe s
theorem vG.or(h:vG X r)(h':vG X r'):vG X (λx lo hi H Q=>r x lo hi H Q\/r' x lo hi H Q):=by
 intro pins s σ H x v vl vu lo hi sl Q I rx hs pl pu q
 rcases q with q | q
 .exact h pins s σ H x v vl vu lo hi sl Q I rx hs pl pu q
 .exact h' pins s σ H x v vl vu lo hi sl Q I rx hs pl pu q
def S9(r:V->Option Int->Option Int->Hp->VK->Prop)(te:TE)(tl th:TO):TE:=λσ H Q=>te σ H λx H1=>tl σ H1 λl H2=>th σ H2 λu H3=>r x l u H3 Q
theorem b3U(hr:vG X r)(he:PE X e te)(hl:PO X lo tl)(hu:PO X hi th):PE X (.Subscript e (.Slice lo hi none p2) pos) (S9 r te tl th):=by
 intro pins s σ H Q I h
 refine Subscript_ (bG (he pins s σ H _ I h) λv s1 ⟨x,H1,I1,r1,q1⟩=>?_)
 refine wpAny_Slice (bG (hl pins s1 σ H1 _ I1 q1) λvl s2 ⟨l,H2,I2,pl,q2⟩=>bG (hu pins s2 σ H2 _ I2 q2) λvu s3 ⟨u,H3,I3,pu,q3⟩=>?_)
 rw [evalPart_none]
 refine bC ?_
 have I4:Inv X pins σ H3 { s3 with heap:=s3.heap.push { cls:=.type "slice",data:=.fields #[vl,vu,.none] } }:=I3.kept (t':=s3.toks) λb ob q=>bR _ q
 obtain ⟨T,id,hT,ht,hg⟩:=hr pins { s3 with heap:=s3.heap.push { cls:=.type "slice",data:=.fields #[vl,vu,.none] } } σ H3 x v vl vu l u s3.heap.objs.size Q I4 r1 (Heap.IsSliceOf.new ..) pl pu q3
 show wpAny (model X.prog X.w) X.A (subscriptTail e (.Slice lo hi none p2) v (.ref s3.heap.objs.size)) (EP X pins σ Q) X.xe { s3 with heap:=s3.heap.push { cls:=.type "slice",data:=.fields #[vl,vu,.none] } }
 exact tail_any (ops:=[.ref s3.heap.objs.size,v]) ht hT hg (by with_unfolding_all rfl)
def kD(xs:List V)(lo hi:Option Int):List V:=(xs.drop (HT.bD xs.length 0 lo)).take (HT.bD xs.length xs.length hi-HT.bD xs.length 0 lo)
theorem Ry(xs:List V)(lo hi:Option Int):(kD xs lo hi).length<=xs.length:=by
 unfold kD
 rw [iA,kG]
 ext
def F9(K:aI):V->Option Int->Option Int->Hp->VK->Prop:=λx lo hi H Q=>∃a xs,x=.ref a/\eO K H a xs /\
 ¬(HT.bD xs.length 0 lo=0/\HT.bD xs.length xs.length hi=xs.length)/\∀p,H p=none->Q (.ref p) (upd H p (.tup (kD xs lo hi)))
theorem b8n:vG X (F9 X.K):=by
 intro pins s σ H x v vl vu lo hi sl Q I rx hs pl pu h
 obtain ⟨a,xs,rfl,hx,hw,q⟩:=h
 cases rx
 obtain ⟨aq,r,ht,hz⟩:=I.tuple hx
 have hlen:aq.toArray.size=xs.length:=by rw [dU];exact r.length.symm
 refine ⟨"tuple",_,DW.lookup,ht.typeIs,?_⟩
 refine HT.fM ht hs pl pu (by rw [hlen];exact hw) ?_ (by rw [hlen];exact hz)
 rw [hlen]
 refine ⟨.ref s.heap.objs.size,_,I.laid (t':=s.toks) (o:=.tup (kD xs lo hi)) (λb ob q=>bR _ q) (bw _) ?_,rfl,q _ (I.bu.fresh (bw _))⟩
 exact ⟨fq (Ry xs lo hi) hz,_,(r.drop (HT.bD xs.length 0 lo)).take (HT.bD xs.length xs.length hi-HT.bD xs.length 0 lo),IsTup.new _ _⟩
def yu(K:aI):R2:=λx y H Q=>∃a b xs ys,x=.ref a/\y=.ref b/\eO K H a xs/\eO K H b ys/\xs≠[]/\xs.length+ys.length<=sizeLine /\
 (ys=[]->Q (.ref a) H)/\(ys≠[]->∀p,H p=none->Q (.ref p) (upd H p (.tup (xs++ys))))
theorem aw.eH(r:aw xs us):us=[]↔xs=[]:=by
 cases r with
 | nil=>simp
 | cons _ _=>simp
theorem qm:gW X (binaryOp .Add) (yu X.K):=by
 intro pins s σ H x y v u Q I rx ry h
 obtain ⟨a,b,xs,ys,rfl,rfl,ha,hb,hx,hz,q1,q2⟩:=h
 cases rx
 cases ry
 obtain ⟨aq,r1,p1,_⟩:=I.tuple ha
 obtain ⟨cG,r2,p2,_⟩:=I.tuple hb
 refine HT.qI p1 p2 (λz=>hx (r1.eH.mp z)) (λz=>⟨.ref a,H,I,rfl,q1 (r2.eH.mp z)⟩) (λz=>?_) (by rw [<-r1.length,<-r2.length];exact hz)
 refine ⟨.ref s.heap.objs.size,_,I.laid (t':=s.toks) (o:=.tup (xs++ys)) (λb ob q=>bR _ q) (bw _) ?_,rfl,q2 (λw=>z (r2.eH.mpr w)) _ (I.bu.fresh (bw _))⟩
 exact ⟨by rw [cM];exact hz,_,r1.append r2,IsTup.new _ _⟩
end
end L2
namespace L2
open PySem PySem.Spec PyProof.Rows
def jy(n:Nat)(i:Int):Option Nat:=if 0<=i then (if i<n then some i.toNat else none) else if -(n:Int)<=i then some (i+n).toNat else none
def dN{α:Type}(xs:List α)(i:Int):Option α:=(jy xs.length i).bind λj=>xs[j]?
theorem PR(h:jy n i=some j):seqIndex? i n=some j/\j<n /\ -(n:Int)<=i/\i<n:=by
 unfold jy at h
 by_cases h0:0<=i
 .rw [if_pos h0] at h
  by_cases h1:i<n
  .rw [if_pos h1] at h
   have e:i.toNat=j:=cT h
   exact ⟨by rw [seqIndex_of h0 h1,e],by ext h0 h1 e,by ext h0,h1⟩
  .rw [if_neg h1] at h;cases h
 .rw [if_neg h0] at h
  by_cases h1:-(n:Int)<=i
  .rw [if_pos h1] at h
   have e:(i+n).toNat=j:=cT h
   exact ⟨by rw [seqIndex_neg (by ext h0) h1,e],by ext h0 h1 e,h1,by ext h0⟩
  .rw [if_neg h1] at h;cases h
theorem Kt{α:Type}{xs:List α}{i:Int}{v:α}(h:dN xs i=some v):∃j,seqIndex? i xs.length=some j/\xs[j]?=some v/\j<xs.length /\ -(xs.length:Int)<=i/\i<xs.length:=by
 unfold dN at h
 cases e:jy xs.length i with
 | none=>rw [e] at h;cases h
 | some j =>
  rw [e] at h
  obtain ⟨h1,h2,h3,h4⟩:=PR e
  exact ⟨j,h1,h,h2,h3,h4⟩
theorem dI{α:Type}{xs:List α}{j:Nat}{v:α}(h:xs[j]?=some v):dN xs (j:Int)=some v:=by
 have hj:j<xs.length:=(j0.mp h).1
 have e:jy xs.length (j:Int)=some j:=by
  unfold jy
  rw [if_pos (by ext),if_pos (by ext hj)];simp
 unfold dN;rw [e];exact h
theorem fR{α:Type}(xs:List α)(v:α):dN (xs++[v]) (-1)=some v:=by
 have hl:(xs++[v]).length=xs.length+1:=by simp
 have e:jy (xs++[v]).length (-1)=some xs.length:=by
  unfold jy
  rw [hl,if_neg (by decide),if_pos (by ext)]
  congr 1
  ext
 unfold dN
 rw [e]
 show (xs++[v])[xs.length]?=some v
 simp
def PM(b:Expr):Prop:=∀o i,subscripted b false o i=operate [o,i] (getItem o i)
def rE(X:Cx)(r:R2):Prop:=
 ∀(value slice:Expr) (pins:List (Addr×Obj)) (s:Shared) (σ:St) (H:Hp) (x y:V) (v u:Value) (Q:VK),Inv X pins σ H s->RelV x v->RelV y u->r x y H Q ->
  subscripted slice false v u=operate [v,u] (getItem v u)->wpAny (model X.prog X.w) X.A (subscriptTail value slice v u) (EP X pins σ Q) X.xe s
def xB(X:Cx)(id:String)(r:V->List V->Hp->VK->Prop):Prop:=
 ∀(pins:List (Addr×Obj)) (s:Shared) (σ:St) (H:Hp) (x:V) (xs:List V) (v:Value) (us:List Value) (Q:VK),Inv X pins σ H s->RelV x v->aw xs us->r x xs H Q ->
  wpAny (model X.prog X.w) X.A (call (.builtin id) (v::us)) (EP X pins σ Q) X.xe s
section
variable {X:Cx}{a b:Expr}{ta tb:TE}{pos:Pos}
theorem rE.or(h:rE X r)(h':rE X r'):rE X (λx y H Q=>r x y H Q\/r' x y H Q):=by
 intro value slice pins s σ H x y v u Q I rx ry q hs
 rcases q with q | q
 .exact h value slice pins s σ H x y v u Q I rx ry q hs
 .exact h' value slice pins s σ H x y v u Q I rx ry q hs
theorem xB.or{id:String}{r r':V->List V->Hp->VK->Prop}(h:xB X id r)(h':xB X id r'):xB X id (λx xs H Q=>r x xs H Q\/r' x xs H Q):=by
 intro pins s σ H x xs v us Q I rx rs q
 rcases q with q | q
 .exact h pins s σ H x xs v us Q I rx rs q
 .exact h' pins s σ H x xs v us Q I rx rs q
theorem yC(hr:rE X r)(ha:PE X a ta)(hb:PE X b tb)(hs:PM b):PE X (.Subscript a b pos) (xU r ta tb):=by
 intro pins s σ H Q I h
 exact Subscript_ (uR ha hb I h λv u s2 x y H2 I2 rx ry q=>hr a b pins s2 σ H2 x y v u Q I2 rx ry q (hs _ _))
def yt(K:aI):R2:=λx y H Q=>∃p xs i v,x=.ref p/\y=.int i/\eQ K H p xs/\dN xs i=some v/\Q v H
def yq(K:aI):R2:=λx y H Q=>∃p xs i v,x=.ref p/\y=.int i/\eO K H p xs/\dN xs i=some v/\Q v H
def yr:R2:=λx y H Q=>∃z i c,x=.str z/\y=.int i/\z.length<=sizeLine/\dN z.cps.toList i=some c/\Q (.str ⟨#[c]⟩) H
theorem qv:rE X (yt X.K):=by
 intro value slice pins s σ H x y v u Q I rx ry h hs
 obtain ⟨p,xs,i,z,rfl,rfl,hq,he,q⟩:=h
 cases rx
 obtain ⟨t,rfl⟩:=ry
 obtain ⟨aq,r,pl,hz⟩:=I.list hq
 obtain ⟨j,h1,h2,h3,h4,h5⟩:=Kt he
 obtain ⟨w,ew,yk⟩:=r.get h2
 have hl:=r.length
 have hn:=wO
 have fin:EP X pins σ Q w s:=⟨z,H,I,yk,q⟩
 by_cases h0:0<=i
 .have hj:i.toNat=j:=by
   rw [seqIndex_of h0 h5] at h1
   exact cT h1
  exact item_listR pl.isList h0 (by ext hz h5 hn) (by rw [hj];simpa using ew) fin hs
 .have hj:(i+(aq.toArray.size:Int)).toNat=j:=by
   rw [seqIndex_neg (Df.mp ‹_›) h4] at h1
   rw [dU,<-hl]
   exact cT h1
  exact subscriptTail_builtinR (x:=w) pl.isList.typeIs slot_list_getitem.lookup
   (wpAny_getItem_list_neg (Q:=λr s'=>r=w/\EP X pins σ Q r s') pl.isList (Df.mp ‹_›) (by rw [dU]<;>lia) (by lia) (by rw [hj];simpa using ew) ⟨rfl,fin⟩) hs
theorem tY:rE X (yq X.K):=by
 intro value slice pins s σ H x y v u Q I rx ry h hs
 obtain ⟨p,xs,i,z,rfl,rfl,hq,he,q⟩:=h
 cases rx
 obtain ⟨t,rfl⟩:=ry
 obtain ⟨aq,r,pl,hz⟩:=I.tuple hq
 obtain ⟨j,h1,h2,h3,h4,h5⟩:=Kt he
 obtain ⟨w,ew,yk⟩:=r.get h2
 have hl:=r.length
 have hn:=wO
 have fin:EP X pins σ Q w s:=⟨z,H,I,yk,q⟩
 exact subscriptTail_builtinR (x:=w) pl.typeIs DW.lookup
  (getItem_tuple (j:=j) (Q:=λr s'=>r=w/\EP X pins σ Q r s') pl (by (clear he hs h1 h2 h5 ew;omega)) (by (clear he hs h1 h2 h4 ew;omega)) (by rw [dU,<-hl];exact h1) (by simpa using ew) ⟨rfl,fin⟩) hs
theorem b83:rE X yr:=by
 intro value slice pins s σ H x y v u Q I rx ry h hs
 obtain ⟨z,i,c,rfl,rfl,hz,he,q⟩:=h
 obtain ⟨t,rfl⟩:=rx
 obtain ⟨t',rfl⟩:=ry
 obtain ⟨j,h1,h2,h3,h4,h5⟩:=Kt he
 have hl:z.cps.toList.length=z.length:=by simp [Str.length]
 rw [hl] at h1 h4 h5
 have hn:=wO
 exact tail_any (typeIs_str s z t) slot_str_getitem.lookup (getItem_str (c:=c) (by
  have e1:decide (i < -(2^63:Int))=false:=decide_eq_false (by lia)
  have e2:decide (i≥2^63)=false:=decide_eq_false (by lia)
  rw [e1,e2,Bool.or_false]) (by rw [h1];simpa using h2) ⟨.str ⟨#[c]⟩,H,I.tok _,⟨_,rfl⟩,q⟩) hs
def Ul(K:aI):R2:=λx y H Q=>yt K x y H Q\/yq K x y H Q\/yr x y H Q
theorem b84:rE X (Ul X.K):=qv.or (tY.or b83)
theorem b09(aq:List Value)(n j:Nat)(u:Value):fS (·.setIfInBounds j u) { cls:=.type "list",data:=.seq aq.toArray n }={ cls:=.type "list",data:=.seq (aq.set j u).toArray n }:=by
 simp [fS]
theorem Inv.lst{pins:List (Addr×Obj)}{σ:St}{H:Hp}{s:Shared}{p:Addr}{xs:List V}(I:Inv X pins σ H s)(h:H p=some (.lst xs)):
  ∃(aq:List Value) (n:Nat),aw xs aq/\s.heap.get? p=some { cls:=.type "list",data:=.seq aq.toArray n }/\xs.length<=sizeLine:=by
 obtain ⟨z,aq,n,r,e⟩:=I.bu p _ h
 exact ⟨aq,n,r,e,z⟩
theorem Inv.tV{pins:List (Addr×Obj)}{σ:St}{H:Hp}{s:Shared}{p:Addr}{xs ys:List V}{aq its':List Value}{n n':Nat}{f:Obj->Obj}(I:Inv X pins σ H s)(h:H p=some (.lst xs))
  (ho:s.heap.get? p=some { cls:=.type "list",data:=.seq aq.toArray n })(hf:f { cls:=.type "list",data:=.seq aq.toArray n }={ cls:=.type "list",data:=.seq its'.toArray n' })(r:aw ys its')(hz:ys.length<=sizeLine)(t:Nat):
  Inv X pins σ (upd H p (.lst ys)) { s with heap:=s.heap.update p f,toks:=t }:=by
 have e:(s.heap.update p f).get? p=some { cls:=.type "list",data:=.seq its'.toArray n' }:=by
  rw [DT f ho (by rw [hf]<;>rfl),hf]
 refine I.write (x:=p) (e:=p) (by rw [h];trivial) (.inl rfl) (λb u hb q=>(oq _ _ (gy hb)).trans q) ⟨_,e⟩ ?_
 exact ⟨hz,its',n',r,e⟩
def yp:V->V->V->Hp->(Hp->Prop)->Prop:=λo i v H Q=>∃p xs k j,o=.ref p/\i=.int k/\H p=some (.lst xs)/\jy xs.length k=some j/\Q (upd H p (.lst (xs.set j v)))
theorem b3A:Cf X yp:=by
 intro pins s σ H o i v ov iv u Q I ro ri rv h
 obtain ⟨p,xs,k,j,rfl,rfl,hp,hj,q⟩:=h
 cases ro
 obtain ⟨t,rfl⟩:=ri
 obtain ⟨aq,n,r,ho,hz⟩:=I.lst hp
 obtain ⟨h1,h2,h3,h4⟩:=PR hj
 have hl:=r.length
 have hn:=wO
 have I':Inv X pins σ (upd H p (.lst (xs.set j v))) { s with heap:=s.heap.update p (fS (·.setIfInBounds j u)) }:=
  I.tV hp ho (b09 aq n j u) (r.set rv j) (by rw [List.length_set];exact hz) s.toks
 by_cases h0:0<=k
 .have hk:k.toNat=j:=by
   rw [seqIndex_of h0 h4] at h1
   exact cT h1
  exact PySem.W.ki_setAt ho h0 (by lia) (by rw [dU,<-hl];exact h4) (by rw [hk];exact ⟨_,I',q⟩)
 .have hk:(k+(aq.toArray.size:Int)).toNat=j:=by
   rw [seqIndex_neg (Df.mp ‹_›) h3] at h1
   rw [dU,<-hl]
   exact cT h1
  exact PySem.W.ki_setBack ho (Df.mp ‹_›) (by rw [dU,<-hl];exact h3) (by lia) (by rw [hk];exact ⟨_,I',q⟩)
theorem a8o(lo hi:Option Int)(n:Nat):(sliceBounds lo hi none n).1=((HT.bD n 0 lo:Nat):Int)/\(sliceBounds lo hi none n).2.1=((HT.bD n n hi:Nat):Int)/\(sliceBounds lo hi none n).2.2=1:=by
 refine ⟨?_,?_,rfl⟩
 .cases lo with
  | none=>simp [sliceBounds,HT.bD]
  | some i =>
   simp only [sliceBounds,HT.bD,NM,show (1:Int)>0 by decide,if_true]
   by_cases h:i<0
   .simp only [h,if_true]<;>lia
   .simp only [h,if_false]<;>lia
 .cases hi with
  | none=>simp [sliceBounds,HT.bD]
  | some i =>
   simp only [sliceBounds,HT.bD,NM,show (1:Int)>0 by decide,if_true]
   by_cases h:i<0
   .simp only [h,if_true]<;>omega
   .simp only [h,if_false]<;>omega
theorem a7n(aq:List Value)(lo hi:Option Int):slicePick aq.toArray lo hi none=((aq.drop (HT.bD aq.length 0 lo)).take (HT.bD aq.length aq.length hi-HT.bD aq.length 0 lo)).toArray:=by
 obtain ⟨h1,h2,h3⟩:=a8o lo hi aq.toArray.size
 unfold slicePick
 rw [h1,h2,h3]
 simp only [sliceRange_one,pick_run,dU]<;>rfl
def F'(K:aI):V->Option Int->Option Int->Hp->VK->Prop:=λx lo hi H Q=>∃a xs,x=.ref a/\eQ K H a xs/\∀p,H p=none->Q (.ref p) (upd H p (.lst (kD xs lo hi)))
theorem qj:vG X (F' X.K):=by
 intro pins s σ H x v vl vu lo hi sl Q I rx hs pl pu h
 obtain ⟨a,xs,rfl,hx,q⟩:=h
 cases rx
 obtain ⟨aq,r,ht,hz⟩:=I.list hx
 have hlen:=r.length
 refine ⟨"list",_,slot_list_getitem.lookup,ht.isList.typeIs,?_⟩
 refine wpAny_getItem_list_slice ht.isList hs pl pu .none (by simp) ?_ (by rw [dU]<;>lia)
 rw [a7n,<-hlen]
 refine ⟨.ref s.heap.objs.size,_,I.laid (t':=s.toks) (o:=.lst (kD xs lo hi)) (λb ob q=>bR _ q) (bw _) ?_,rfl,q _ (I.bu.fresh (bw _))⟩
 exact ⟨fq (Ry xs lo hi) hz,_,0,(r.drop (HT.bD xs.length 0 lo)).take (HT.bD xs.length xs.length hi-HT.bD xs.length 0 lo),fD _ rfl⟩
theorem a89:cw X (.builtin "len") (λxs H Q=>∃p ys,xs=[.ref p]/\(eQ X.K H p ys\/eO X.K H p ys)/\Q (.int ys.length) H):=by
 intro pins s σ H xs us Q I r h
 obtain ⟨p,ys,rfl,hq,q⟩:=h
 obtain ⟨u,rfl,rx⟩:=vals1 r
 cases rx
 have hn:=wO
 rcases hq with hq | hq
 .obtain ⟨aq,r',pl,hz⟩:=I.list hq
  have hlen:=r'.length
  exact Calls.call_len_list pl.isList (by simp only [dU]<;>lia) ⟨.int ys.length,H,I.tok _,⟨s.toks+1,by rw [dU,hlen]⟩,q⟩
 .obtain ⟨aq,r',pl,hz⟩:=I.tuple hq
  have hlen:=r'.length
  exact len_tuple pl (by simp only [dU]<;>omega) ⟨.int ys.length,H,I.tok _,⟨s.toks+1,by rw [dU,hlen]⟩,q⟩
theorem cw.or(h:cw X f r)(h':cw X f r'):cw X f (λxs H Q=>r xs H Q\/r' xs H Q):=by
 intro pins s σ H xs us Q I rs q
 rcases q with q | q
 .exact h pins s σ H xs us Q I rs q
 .exact h' pins s σ H xs us Q I rs q
theorem a7U:cw X (.type "tuple") (λxs H Q=>∃p ys,xs=[.ref p]/\((eQ X.K H p ys/\∀l,H l=none->Q (.ref l) (upd H l (.tup ys)))\/(eO X.K H p ys/\Q (.ref p) H))):=by
 intro pins s σ H xs us Q I r h
 obtain ⟨p,ys,rfl,h⟩:=h
 obtain ⟨u,rfl,rx⟩:=vals1 r
 cases rx
 rcases h with ⟨hq,q⟩ | ⟨hq,q⟩
 .obtain ⟨aq,r',pl,hz⟩:=I.list hq
  have hlen:=r'.length
  refine call_tuple_list pl.isList (λh' kp=>?_) (by simp only [dU]<;>omega)
  have I1:Inv X pins σ H { s with heap:=h' }:=I.kept (t':=s.toks) kp
  have I2:Inv X pins σ (upd H h'.objs.size (.tup ys)) { s with heap:=h'.push { cls:=.type "tuple",data:=.seq aq.toArray } }:=
   I1.laid (t':=s.toks) (λb o e=>bR _ e) (bw _) (show cV X.prog X.w _ _ _ (.tup ys) from ⟨hz,aq,r',IsTup.new _ _⟩)
  exact ⟨.ref h'.objs.size,_,I2,rfl,q _ (I1.bu.fresh (bw _))⟩
 .obtain ⟨aq,r',pl,hz⟩:=I.tuple hq
  exact call_tuple_same pl ⟨.ref p,H,I,rfl,q⟩
def FH(K:aI)(T:String)(x:V)(H:Hp):Prop:=match x with
 | .str _=>T = "str"
 | .int _=>T = "int"
 | .ref p=>(T = "list" /\ ∃xs,eQ K H p xs)\/(T = "tuple" /\ ∃o,K.lookup p=some o/\o.cls=.type "tuple" /\ o.dict=none) \/
   (T = "dict" /\ ((∃bB,H p=some (.dK bB))\/∃bB,H p=some (.dT bB)))\/(T = "set" /\ ∃S n,H p=some (.set S n))
 | _=>False
theorem Pd{pins:List (Addr×Obj)}{σ:St}{H:Hp}{s:Shared}{T:String}{x:V}{v:Value}(I:Inv X pins σ H s)(r:RelV x v)(ty:FH X.K T x H):
  s.TypeIs v T/\∀a,v=.ref a->∃ob,s.heap.get? a=some ob/\ob.dict=none:=by
 cases x with
 | str z =>
  obtain ⟨t,rfl⟩:=r
  cases (show T = "str" from ty)
  exact ⟨typeIs_str s z t,λ_ e=>nomatch e⟩
 | int i =>
  obtain ⟨t,rfl⟩:=r
  cases (show T = "int" from ty)
  exact ⟨typeIs_int s i t,λ_ e=>nomatch e⟩
 | ref p =>
  cases r
  rcases ty with ⟨rfl,xs,hq⟩ | ⟨rfl,o,hk,hc,hd⟩ | ⟨rfl,hk⟩ | ⟨rfl,S,n,hk⟩
  .obtain ⟨aq,_,pl,_⟩:=I.list hq
   refine ⟨pl.isList.typeIs,λa e=>?_⟩
   cases e
   obtain ⟨o,n,e,c,hd,_⟩:=pl
   exact ⟨o,e,hd⟩
  .refine ⟨⟨o,I.tX p o hk,hc⟩,λa e=>?_⟩
   cases e
   exact ⟨o,I.tX _ o hk,hd⟩
  .have z:∃o,s.heap.get? p=some o/\o.ExactDict:=by
    rcases hk with ⟨bB,hk⟩ | ⟨bB,hk⟩
    .obtain ⟨_,_,_,_,o,_,_,e,ex,_⟩:=I.bu p _ hk
     exact ⟨o,e,ex⟩
    .obtain ⟨_,_,_,_,o,_,_,e,ex,_⟩:=I.bu p _ hk
     exact ⟨o,e,ex⟩
   obtain ⟨o,e,ex⟩:=z
   refine ⟨⟨o,e,ex.1⟩,λa e2=>?_⟩
   cases e2
   exact ⟨o,e,ex.2.1⟩
  .obtain ⟨o,_,_,_,e,ex,_⟩:=I.bu p _ hk
   refine ⟨⟨o,e,ex.1⟩,λa e2=>?_⟩
   cases e2
   exact ⟨o,e,ex.2.1⟩
 | _=>exact iJ ty
def FT(K:aI)(T:String)(r:V->List V->Hp->VK->Prop)(to:TE):TE:=λσ H Q=>to σ H λx H1=>FH K T x H1/\r x [] H1 Q
def Tc(K:aI)(T:String)(r:V->List V->Hp->VK->Prop)(to:TE)(t:TA):TE:=λσ H Q=>to σ H λx H1=>FH K T x H1/\t σ H1 λxs H2=>r x xs H2 Q
variable {o e:Expr}{es:List Expr}{to:TE}{t:TA}{name:Str}{apos aR:Pos}{T id:String}{r:V->List V->Hp->VK->Prop}
theorem b8H(pa:PlainAttrs T)(slot:Slot T name id)(t6:typeOf (.builtin id)=pure (.type "method_descriptor"))(hm:xB X id r)(ho:PE X o to)
  (cu:attributeBase o name X.env (eval o X.env)=eval o X.env:=by rfl)(cn:(apos.endLine==aR.line)=true:=by rfl):PE X (.Call (.Attribute o name apos) [] [] aR) (FT X.K T r to):=by
 intro pins s σ H Q I h
 refine wpAny_Call_method0_late cu cn (bG (ho pins s σ H _ I h) λv s1 ⟨x,H1,I1,r1,ty,q1⟩=>?_)
 obtain ⟨h1,h2⟩:=Pd I1 r1 ty
 exact ⟨T,id,pa,slot,t6,h1,h2,NZ rfl (PySem.evalArgs_none (hm pins s1 σ H1 x [] v [] Q I1 r1 .nil q1))⟩
theorem O0(pa:PlainAttrs T)(slot:Slot T name id)(t6:typeOf (.builtin id)=pure (.type "method_descriptor"))(hm:xB X id r)(ho:PE X o to)(ha:PA X (e::es) t)
  (cu:attributeBase o name X.env (eval o X.env)=eval o X.env:=by rfl)
  (il:((backTo aR (starEach (e::es) X.env)).all (λx=>!x.1)&&(backToKw aR (keywordEach [] X.env)).all (λx=>x.1.isSome)
   && decide ((e::es).length+([]:List Keyword).length+(if ([]:List Keyword).isEmpty then 0 else 1)<30))=true:=by rfl)
  (cn:(apos.endLine==aR.line)=true:=by rfl)(hs:starEach (e::es) X.env=(false,eval e X.env)::starEach es X.env:=by rfl)(t9:(backTo aR (starEach es X.env)).any (·.1)=false:=by rfl):
  PE X (.Call (.Attribute o name apos) (e::es) [] aR) (Tc X.K T r to t):=by
 intro pins s σ H Q I h
 refine wpAny_Call_method_late cu il cn rfl (bG (ho pins s σ H _ I h) λv s1 ⟨x,H1,I1,r1,ty,q1⟩=>?_)
 obtain ⟨h1,h2⟩:=Pd I1 r1 ty
 refine ⟨T,id,pa,slot,t6,h1,h2,?_⟩
 have hA:=ha aR pins s1 σ H1 _ I1 q1
 rw [hs] at hA ⊢
 refine NZ (by show (false||(backTo aR (starEach es X.env)).any (·.1))=false;rw [t9]<;>rfl) (Calls.evalArgs_plain ?_)
 exact bG hA λus s2 ⟨vs,H2,I2,r2,q2⟩=>hm pins s2 σ H2 x vs v us Q I2 r1 r2 q2
end
end L2
namespace L2
open PySem PySem.Spec PyProof.Rows
def Mx(X:Cx)(id:String)(r:V->List V->Hp->VK->Prop):Prop:=
 ∀(pins:List (Addr×Obj)) (s:Shared) (σ:St) (H:Hp) (x:V) (xs:List V) (v:Value) (us:List Value) (Q:VK),Inv X pins σ H s->RelV x v->aw xs us->r x xs H Q ->
  wpAny (model X.prog X.w) X.A (call (.builtin id) (v::us)) (EP X pins σ Q) X.xe s
theorem aw.one:∀{x:V} {us:List Value},aw [x] us->∃u,us=[u]/\RelV x u
 | _,_,.cons r .nil=>⟨_,rfl,r⟩
theorem aw.two:∀{x y:V} {us:List Value},aw [x,y] us->∃u v,us=[u,v]/\RelV x u/\RelV y v
 | _,_,_,.cons r (.cons q .nil)=>⟨_,_,rfl,r,q⟩
theorem aw.zero:∀{us:List Value},aw [] us->us=[]
 | _,.nil=>rfl
theorem aw.dropLast(h:aw xs us):aw xs.dropLast us.dropLast:=by
 induction h with
 | nil=>exact .nil
 | cons r t ih =>
  cases t with
  | nil=>exact .nil
  | cons q t'=>exact .cons r ih
theorem aw.eraseIdx:∀{xs:List V} {us:List Value} (i:Nat),aw xs us->aw (xs.eraseIdx i) (us.eraseIdx i)
 | _,_,_,.nil=>.nil
 | _,_,0,.cons _ t=>t
 | _,_,i+1,.cons r t=>.cons r (aw.eraseIdx i t)
theorem aw.reverse(h:aw xs us):aw xs.reverse us.reverse:=by
 induction h with
 | nil=>exact .nil
 | cons r t ih=>rw [List.reverse_cons,List.reverse_cons];exact aw.append ih (.cons r .nil)
theorem b1g{α:Type}(l:List α):l.eraseIdx (l.length-1)=l.dropLast:=by
 induction l with
 | nil=>rfl
 | cons a r ih =>
  cases r with
  | nil=>rfl
  | cons b r =>
   have e:(a::b::r).length-1=((b::r).length-1)+1:=by
    have h1:(a::b::r).length=r.length+2:=rfl
    have h2:(b::r).length=r.length+1:=rfl
    assumption
   rw [e,List.eraseIdx_cons_succ,ih]
   all_goals rfl
section
variable {X:Cx}{pins:List (Addr×Obj)}{σ:St}{H:Hp}{s:Shared}{l b:Addr}{xs ys zs:List V}
theorem Inv.tW{aq its':List Value}{n:Nat}{t':Nat}(I:Inv X pins σ H s)(hH:H l=some (.lst xs))
  (e:s.heap.get? l=some { cls:=.type "list",data:=.seq aq.toArray n })(hf:f aq.toArray=its'.toArray)(hv:aw ys its')(hz:ys.length<=sizeLine):
  Inv X pins σ (upd H l (.lst ys)) { s with heap:=s.heap.update l (fS f),toks:=t' }:=by
 have q:=PySem.IsL.update e f
 rw [hf] at q
 refine I.write (x:=l) (e:=l) (by rw [hH];exact trivial) (.inl rfl) (λb' u hb hu=>(oq s.heap (fS f) (gy hb)).trans hu) ⟨_,q⟩ ?_
 exact ⟨hz,its',_,hv,q⟩
theorem Inv.Gv(I:Inv X pins σ H s)(hv:aw ys aq)(hz:ys.length<=sizeLine):
  Inv X pins σ (upd H s.heap.objs.size (.lst ys)) { s with heap:=s.heap.push { cls:=.type "list",data:=.seq aq.toArray },toks:=t' }:=
 I.laid (λ_ _ q=>bR _ q) (bw _) ⟨hz,aq,0,hv,fD _ rfl⟩
theorem Inv.fresh(I:Inv X pins σ H s):H s.heap.objs.size=none:=I.bu.fresh (bw _)
theorem Inv.m7(I:Inv X pins σ H s)(hH:H l=some (.lst xs)):xs.length<=sizeLine/\∃(aq:List Value) (n:Nat),aw xs aq/\xs.length=aq.length/\s.heap.get? l=some { cls:=.type "list",data:=.seq aq.toArray n }:=by
 obtain ⟨z,aq,n,r,e⟩:=I.bu l _ hH
 exact ⟨z,aq,n,r,r.length,e⟩
theorem b35(h:n<=sizeLine):Jl n=false:=by
 unfold Jl
 exact decide_eq_false (Nat.not_lt.mpr ‹_›)
end
section
variable {X:Cx}
def b6e:V->List V->Hp->VK->Prop:=λx vs H Q=>∃l xs y,x=.ref l/\vs=[y]/\H l=some (.lst xs)/\xs.length<sizeLine/\Q .aU (upd H l (.lst (xs++[y])))
theorem b2d:Mx X "list.append" b6e:=by
 intro pins s σ H x vs v us Q I rx rv h
 obtain ⟨l,xs,y,rfl,rfl,hH,hz,q⟩:=h
 cases rx
 obtain ⟨u,rfl,ru⟩:=rv.one
 obtain ⟨z,aq,n,r,hl,e⟩:=I.m7 hH
 refine call_meets NV ⟨_,e,rfl⟩ F.entry_list_append (F.args_list_append_2 _ _) (PySem.list_append l aq.toArray n u (by rw [dU];lia)) ⟨e,?_⟩
 refine ⟨.aU,_,I.tW (its':=aq++[u]) hH e (by simp) (r.append (.cons ru .nil)) ?_,rfl,q⟩
 rw [cM,sy]
 assumption
def b6d:V->List V->Hp->VK->Prop:=λx vs H Q=>∃l b xs zs,x=.ref l/\vs=[.ref b]/\H l=some (.lst xs)/\H b=some (.lst zs)/\xs.length+zs.length<=sizeLine/\Q .aU (upd H l (.lst (xs++zs)))
theorem b2c:Mx X "list.extend" b6d:=by
 intro pins s σ H x vs v us Q I rx rv h
 obtain ⟨l,b,xs,zs,rfl,rfl,hH,hB,hz,q⟩:=h
 cases rx
 obtain ⟨u,rfl,ru⟩:=rv.one
 cases ru
 obtain ⟨z,aq,n,r,hl,e⟩:=I.m7 hH
 obtain ⟨z2,cG,n2,r2,fK,e2⟩:=I.m7 hB
 have hsz:aq.toArray.size+cG.toArray.size<=sizeLine:=by rw [dU,dU];lia
 have zx:¬(!aq.toArray.isEmpty&&Jl (aq.toArray.size+cG.toArray.size))=true:=by
  rw [b35 hsz,Bool.and_false]
  exact mv
 refine call_meets NU ⟨_,e,rfl⟩ F.entry_list_extend (F.args_list_extend_2 _ _)
  (AutoSeq1.list_extend_list_list_0 l aq.toArray n b cG.toArray n2 zx (by rw [dU];exact SY ‹_›) (fq ‹_› (by decide))) ⟨e,e2,?_⟩
 refine ⟨.aU,_,I.tW (its':=aq++cG) hH e (by simp) (r.append r2) ?_,rfl,q⟩
 rw [cM]
 assumption
def Ga:V->List V->Hp->VK->Prop:=λx vs H Q=>∃l xs y,x=.ref l/\vs=[]/\H l=some (.lst xs)/\xs[xs.length-1]?=some y/\Q y (upd H l (.lst xs.dropLast))
theorem b8Q:Mx X "list.pop" Ga:=by
 intro pins s σ H x vs v us Q I rx rv h
 obtain ⟨l,xs,y,rfl,rfl,hH,hy,q⟩:=h
 cases rx
 have Xl:=rv.zero
 subst Xl
 obtain ⟨z,aq,n,r,hl,e⟩:=I.m7 hH
 obtain ⟨u,hu,ru⟩:=r.get hy
 have Xi:aq.toArray[aq.toArray.size-1]?=some u:=by
  show aq.toArray[aq.length-1]?=some u
  rw [<-sx,<-hl]
  exact hu
 refine call_meets Of ⟨_,e,rfl⟩ F.entry_list_pop (F.args_list_pop_1 _) (MeetsSeq.list_pop_last l aq.toArray n u Xi (by rw [dU];lia)) ⟨e,?_⟩
 refine ⟨y,_,I.tW (its':=aq.dropLast) hH e ?_ r.dropLast ?_,ru,q⟩
 .show aq.toArray.eraseIdxIfInBounds (aq.toArray.size-1)=aq.dropLast.toArray
  rw [dU,List.eraseIdxIfInBounds_toArray,b1g]
 .rw [List.length_dropLast]
  exact SX ‹_›
def Gb:R2:=λx y H Q=>∃l b xs zs,x=.ref l/\y=.ref b/\H l=some (.lst xs)/\H b=some (.lst zs)/\xs.length+zs.length<=sizeLine/\∀p,H p=none->Q (.ref p) (upd H p (.lst (xs++zs)))
theorem tO:gW X (binaryOp .Add) Gb:=by
 intro pins s σ H x y v u Q I rx ry h
 obtain ⟨l,b,xs,zs,rfl,rfl,hH,hB,hz,q⟩:=h
 cases rx
 cases ry
 obtain ⟨z,aq,n,r,hl,e⟩:=I.m7 hH
 obtain ⟨z2,cG,n2,r2,fK,e2⟩:=I.m7 hB
 refine PySem.P.add_list e e2 ?_ (by rw [dU,dU];omega)
 have ea:aq.toArray++cG.toArray=(aq++cG).toArray:=by simp
 rw [ea]
 exact ⟨.ref _,_,I.Gv (t':=s.toks) (r.append r2) (by rw [cM];assumption),rfl,q _ I.fresh⟩
end
section
variable {prog:Program}{w:World}{A:Around}{E:Value->Shared->Prop}{s:Shared}
end
section
variable {X:Cx}
end
end L2
namespace SS
open PySem PySem.W PySem.Calls PyProof.Rows
theorem a6j:∀(ns:List Int) (vs:List Value),WellAll P h vs (ns.map WData.int)->IntsAre vs ns:=by
 intro ns
 induction ns with
 | nil =>
  intro vs w
  rw [AH] at w
  cases w
  exact .nil
 | cons n ns ih =>
  intro vs w
  rw [eM] at w
  cases w with
  | cons a b =>
   cases a
   exact .cons _ _ (ih _ b)
theorem b1P{l:OpenLaw}{n:Nat}(hn:l.most=some n){h:Heap}
  (jB:l.row.toRowW.claim.pre args=true)(GW:WellAll P h vals args):
  ∃a vs ns,vals=[eL a]/\args=[WData.list (ns.map WData.int)]/\h.get? a=some { cls:=.type "list",data:=.seq vs.toArray }/\IntsAre vs ns/\ns.length<=n:=by
 have Xo:WShape.hasAll [] args [.list .int]=true:=(pre_splitW jB).1
 have hc:l.pre.holds [] { args:=args }=true:=(pre_splitW jB).2
 obtain ⟨d,r,rfl,h1,h2⟩:=hasAllW_cons Xo
 obtain rfl:=hasAllW_nil h2
 obtain ⟨xs,rfl,h3⟩:=hasW_list h1
 obtain ⟨ns,rfl⟩:=items_int h3
 have hlen:ns.length<=n:=by
  unfold OpenLaw.pre at hc
  have h4:(WTm.not (.lt (.lit (.int (n:Int))) (.len (.arg 0)))).holds [] { args:=[.list (ns.map .int)] }=true:=by
   have h4:=(holds_andW hc).1
   rw [hn] at h4
   exact h4
  have h5:=condW_of h4 (w_not (w_lt w_lit (w_len_list (w_arg rfl))))
  rw [aX] at h5
  refine IF λq=>?_
  have q':(n:Int)<((ns.length:Nat):Int):=by exact Int.ofNat_lt.mpr ‹_›
  first
   | (rw [decide_eq_true q'] at h5;exact absurd h5 (by decide))
   | (simp at h5;omega)
 cases GW with
 | cons w1 w2 =>
  cases w2
  cases w1 with
  | list ho jE=>exact ⟨_,_,ns,rfl,rfl,ho,a6j ns _ jE,hlen⟩
theorem b1Z(l:OpenLaw)(args:List WData):l.row.toRowW.claim.post args (.bool true) args=true:=
 postW_of (r:=l.row.toRowW) (X:=(true==true))
  (show WShape.has [] (.bool true) .bool=true by first | rfl | decide | simp [WShape.has,WShape.arms,WShape.armsAll])
  (show (WTm.eq .res (.lit (.bool true))).value [] { args:=args,res:=some (.bool true),after:=args }=some (.bool (true==true)) from w_eq_bool (w_res rfl) w_lit) rfl
theorem kH{l:OpenLaw}{n:Nat}{loose:List Str}{d:DefRec}
  (hn:l.most=some n)(vX:d.params.defaults=[])
  (call:∀(w:World) (cQ aO:Shared) (mg mb:Str->Option Value) (fa:Addr) (o:Obj) (pm cd doc:Value) (a:Addr) (vs:List Value) (ns:List Int),
   Ground q loose [] XP w cQ mg mb aO.heap->YP w aO.heap ->
   aO.heap.get? fa=some o->o.data=.func (docDef d.name d.params d.body d.scope pm cd doc)->aO.heap.CodeRec cd d.name->mg d.name=some (.ref fa) ->
   aO.heap.get? a=some { cls:=.type "list",data:=.seq vs.toArray }->IntsAre vs ns->ns.length<=n->aO.gens=#[] ->
   codeAny (model l.prog w) callerA (.call (.ref fa) ⟨[.ref a],[]⟩) (λr s'=>r=.ok (.ret (.bool true))/\OldK aO.heap s'.heap/\s'.os=aO.os/\AllBare s'.gens) aO):
  WalkO q loose XP YP l.row.toRowW d [] (λf vs=>Iw f vs):=by
 intro w cQ aO mg mb G Y fa o pm cd doc dV kV ho hd c7 hD zw hg args vals as jB XF hrd GW hlo
 obtain rfl:dV=.none:=Dflts.none hD vX
 obtain rfl:kV=.none:=Dflts.noKw hD
 obtain ⟨a,vs,ns,rfl,rfl,ue,hints,hlen⟩:=b1P hn jB GW
 refine enter_call (Dh (call w cQ aO mg mb fa o pm cd doc a vs ns G Y ho (fd_plain hd) c7 zw ue hints hlen hg) λr s' hq=>?_)
 obtain ⟨rfl,h2,h3,h4⟩:=hq
 exact ⟨.inl ⟨.bool true,.bool true,[],rfl,λ_=>rfl,.bool true,b1Z l _,λ_=>⟨Jb,λ_ hm=>(nomatch hm)⟩⟩,h2,h3,h4⟩
section
variable {prog:Program}{w:World}{A:Around}{E:Value->Shared->Prop}{s:Shared}{K:Frag}
def ledger(h:Heap)(L d:Addr):List (Addr×Obj):=(jH h.objs.size).filterMap λa=>if a=L\/a=d then none else (h.get? a).map λo=>(a,o)
end
end SS
namespace L2
open PySem PySem.Spec PyProof.Rows
theorem Rf:∀{vs:List Value} {ns:List Int},IntsAre vs ns->aw (ns.map V.int) vs
 | _,_,.nil=>.nil
 | _,_,.cons n t h=>.cons ⟨t,rfl⟩ (Rf h)
theorem Ri{α:Type}{c:Prop}[Decidable c]{a b:α}(h:(if c then some a else none)=some b):c/\a=b:=by
 by_cases hc:c
 .rw [if_pos hc] at h;exact ⟨hc,cT h⟩
 .rw [if_neg hc] at h;cases h
def qu:Str:="dealt.<locals>.<lambda>"
def Tb(K:aI)(H:Hp):Prop:=∀c P,oj K "dealt" = some (c,P)->H P=some (.tab qu)
def D4(K:aI)(ts:List Addr):Bool:=match oj K "dealt" with
 | some (c,P)=>NL K c P&&(K.lookup P).isNone&&ts.contains P
 | none=>true
theorem b4e{P:Program}{w:World}{K:aI}{mg mb:Str->Option Value}{CX:nZ}{k:Nat}{fa a:Addr}{fd:FuncData}{x:Str}{sp:Sp}{aO:Shared}{vs:List Value}{ns:List Int}{ts:List Addr}
  (KX:K.In aO.heap)(qx:aO.heap.Ns mainGlobals mg)(hb:aO.heap.Ns builtinsNs mb)(C3:∀x:Str,x ≠ "__name__" -> mb x=bootBuiltins x)(Hi:aO.heap.NoLimit)(hg:aO.gens=#[])
  (XW:∃bm ob,mg "__builtins__" = some (.ref bm)/\bm≠builtinsNs/\aO.heap.get? bm=some ob/\ob.cls=.type "module" /\ ob.dict=some builtinsNs/\ob.data=.plain)
  (hL:D4 K ts=true)(zV:∀P∈ts,aO.heap.get? P=some (wo #[]))
  (ha:aO.heap.get? a=some { cls:=.type "list",data:=.seq vs.toArray })(hi:IntsAre vs ns)(hl:ns.length<=sizeLine)(hr:bJ k callerA)
  (F:∀base:Heap,K.In base->base.Ns mainGlobals mg->bY P w K mg base CX k fa fd [x] sp)(zR:∀(s:Shared) (u:Value),BindsTo s fd ⟨[u],[]⟩ [(x,u)])
  (rS:∀H:Hp,Tb K H->eQ K H a (ns.map V.int)->sp [.ref a] H (λv H'=>v=.bl true/\Tb K H') λ_ _ _=>False)
  (HK:∀H e s',CX [] H aO (λ_ _ _=>False) e s'->False):
  codeAny (model P w) callerA (.call (.ref fa) ⟨[.ref a],[]⟩) (λr s'=>r=.ok (.ret (.bool true))/\OldK aO.heap s'.heap/\s'.os=aO.os/\AllBare s'.gens) aO:=by
 have rv:=Rf hi
 have Gw:=hi.length
 have tabs:∀c P,oj K "dealt" = some (c,P)->NL K c P=true/\K.lookup P=none/\aO.heap.get? P=some (wo #[]):=λc P e=>by
  unfold D4 at hL
  rw [e] at hL
  simp only [AS,Option.isNone_iff_eq_none,List.contains_iff_mem] at hL
  exact ⟨hL.1.1,hL.1.2,zV P hL.2⟩
 have core:∀H:Hp,Tb K H->eQ K H a (ns.map V.int)->iF P w H aO.heap->(∀b,H b≠none->(b=a/\∃o xs,H b=some (.jW o (.lst xs)))\/∃c,oj K "dealt" = some (c,b))->(H a≠none->K.lookup a=none) ->
   codeAny (model P w) callerA (.call (.ref fa) ⟨[.ref a],[]⟩) (λr s'=>r=.ok (.ret (.bool true))/\OldK aO.heap s'.heap/\s'.os=aO.os/\AllBare s'.gens) aO:=by
  intro H hO hS bu hA hK
  have jJ:∀{b:Addr} {o:Obj},aO.heap.get? b=some o->H b=none->(jD aO.heap H).get? b=some o:=λe n=>b4o e n
  have MT:∀{b:Addr} {o:Obj},aO.heap.get? b=some o->(∀xs n,o.data≠.seq xs n)->(∀xs,o.data=.fields xs->o.cls≠.none)->H b=none:=λ{b o} e d d2=>by
   cases q:H b with
   | none=>rfl
   | some u =>
    rcases hA b (by rw [q];simp) with ⟨e',_⟩ | ⟨c,e'⟩
    .subst e'
     rw [ha] at e;cases e
     exact absurd rfl (d _ _)
    .rw [(tabs c b e').2.2] at e;cases e
     exact absurd rfl (d2 _ rfl)
  have CD:∀{b:Addr} {m:Str->Option Value},aO.heap.Ns b m->(jD aO.heap H).Ns b m:=λ{b m} ⟨o,es,ep,e,d,r⟩=>⟨o,es,ep,jJ e (MT e (λ_ _ z=>by rw [d] at z;cases z) λ_ z=>by rw [d] at z;cases z),d,r⟩
  have Nv:K.In (jD aO.heap H):=λb o e=>jJ (KX b o e) (by
   cases q:H b with
   | none=>rfl
   | some u =>
    rcases hA b (by rw [q];simp) with ⟨e',_⟩ | ⟨c,e'⟩
    .subst e'
     rw [hK (by rw [q];simp)] at e;cases e
    .rw [(tabs c b e').2.1] at e;cases e)
  have hM:Mod K mg (jD aO.heap H):=⟨Nv,CD qx,⟨mb,CD hb,C3⟩,let ⟨mc,h1,h2⟩:=Hi;⟨mc,CD h1,h2⟩,let ⟨bm,ob,b1,b2,b3,b4,b5,b6⟩:=XW;⟨bm,ob,b1,b2,jJ b3 (MT b3 (λ_ _ z=>by rw [b6] at z;cases z) λ_ z=>by rw [b6] at z;cases z),b4,b5,b6⟩⟩
  have e0:iH P w K mg (jD aO.heap H) callerA [] aO H:=⟨rfl,hM,λb o e=>b6B e,Nat.le_of_eq (b2z _ _),trivial,λb hb=>absurd (show b∈([]:List Addr) from hb) (by simp),bu,.of_eq hg⟩
  refine Dh ((F _ Nv (CD qx)).run callerA [] aO H ⟨[.ref a],[]⟩ [.ref a] [.ref a] _ _ hr e0 (zR aO (.ref a)) (.cons rfl .nil) (rS H hO hS)) λr s' h=>?_
  cases r with
  | error e=>exact (HK H e s' h).elim
  | ok fl =>
   cases fl with
   | next=>exact iJ h
   | brk=>exact iJ h
   | cont=>exact iJ h
   | ret u =>
    obtain ⟨v,H',os,bare,un,zu,r',q,qT⟩:=h
    subst q
    obtain rfl:u=lH true:=r'
    have old:∀b o,aO.heap.get? b=some o->s'.heap.get? b=some o\/∃c ps,oj K "dealt" = some (c,b)/\s'.heap.get? b=some (wo ps):=λb o e=>by
     cases q:H b with
     | none=>exact .inl (un.keep b o e q (by intro z;exact absurd (show b∈([]:List Addr) from z) (by simp)) (by simp))
     | some u =>
      rcases hA b (by rw [q];simp) with ⟨_,ob,xs,z⟩ | ⟨c,e'⟩
      .have z2:=un.fO b ob _ z
       obtain ⟨e1,_⟩:=bu b _ z
       obtain ⟨e2,_⟩:=zu b _ z2
       rw [e] at e1;cases e1
       exact .inl e2
      .obtain ⟨ps,e2,_⟩:=zu b _ (qT c b e')
       exact .inr ⟨c,ps,e',e2⟩
    refine ⟨rfl,⟨λb o e=>?_,λb o e=>?_⟩,os,bare⟩
    .rcases old b o e with z | ⟨c,ps,e',z⟩
     .exact .inl z
     .obtain ⟨t1,_,t3⟩:=tabs c b e'
      rw [t3] at e;cases e
      exact .inr (.inl ⟨((PySem.W.codeHd_of_K KX t1).tab t3).isCodeTable,rfl,#[],ps,rfl,by rw [Array.empty_append];exact z⟩)
    .rcases old b o e with z | ⟨c,ps,e',z⟩
     .exact ⟨o,z⟩
     .exact ⟨_,z⟩
 have MS:∀(H:Hp) (b:Addr),(∃c,oj K "dealt" = some (c,b))->cV P w H aO.heap b (.tab qu):=λH b ⟨c,e⟩=>⟨#[],(tabs c b e).2.2,trivial,λpos cv h=>by simp [codeAmong] at h⟩
 have MW:∀c b,oj K "dealt" = some (c,b)->b≠a:=λc b e z=>by
  have:=(tabs c b e).2.2
  rw [z,ha] at this
  cases this
 cases hk:K.lookup a with
 | some o =>
  have e:=KX a o hk
  rw [ha] at e
  cases e
  refine core (λb=>if (oj K "dealt").map (·.2)=some b then some (.tab qu) else none) (λc b e=>if_pos (by rw [e];rfl)) (.inr ⟨_,vs.toArray,_,hk,rfl,rfl,rfl,by rw [dU,Gw];exact hl,by simpa using rv⟩) (λb u z=>?_) (λb z=>?_) λz=>?_
  .obtain ⟨hc,rfl⟩:=(Ri z)
   obtain ⟨⟨c,b'⟩,e,rfl⟩:=wy.mp hc
   exact MS _ _ ⟨c,e⟩
  .by_cases hc:(oj K "dealt").map (·.2)=some b
   .obtain ⟨⟨c,b'⟩,e,rfl⟩:=wy.mp hc
    exact .inr ⟨c,e⟩
   .exact absurd (if_neg hc) z
  .by_cases hc:(oj K "dealt").map (·.2)=some a
   .obtain ⟨⟨c,b'⟩,e,e2⟩:=wy.mp hc
    exact absurd e2 (MW c b' e)
   .exact absurd (if_neg hc) z
 | none =>
  refine core (λb=>if b=a then some (.jW { cls:=.type "list",data:=.seq vs.toArray } (.lst (ns.map V.int))) else if (oj K "dealt").map (·.2)=some b then some (.tab qu) else none) (λc b e=>by show (if b=a then _ else _)=_;rw [if_neg (MW c b e),if_pos (by rw [e];rfl)]) (.inl (.inr ⟨{ cls:=.type "list",data:=.seq vs.toArray },if_pos rfl⟩)) (λb u z=>?_) (λb z=>?_) λ_=>hk
  .by_cases hb:b=a
   .have z':=(if_pos hb).symm.trans z
    cases z'
    subst hb
    exact ⟨ha,by rw [aX];exact hl,vs,_,rv,ha⟩
   .obtain ⟨hc,rfl⟩:=Ri ((if_neg hb).symm.trans z)
    obtain ⟨⟨c,b'⟩,e,rfl⟩:=wy.mp hc
    exact MS _ _ ⟨c,e⟩
  .by_cases hb:b=a
   .exact .inl ⟨hb,_,_,if_pos hb⟩
   .by_cases hc:(oj K "dealt").map (·.2)=some b
    .obtain ⟨⟨c,b'⟩,e,rfl⟩:=wy.mp hc
     exact .inr ⟨c,e⟩
    .exact absurd ((if_neg hb).trans (if_neg hc)) z
end L2
namespace L2
open PySem PySem.Spec PyProof.Rows
abbrev KOf{K:aI}{h:Heap}(_:K.In h):aI:=K
theorem qe{l:IB}{n k:Nat}{q:Program}{loose:List Str}{XP:(Str->Option Value)->Heap->Prop}{YP:World->Heap->Prop}{d:DefRec}{K:Params->aI}{CX:World->nZ}{sp:World->Sp}{x:Str}{ts:List Addr}
  (hn:l.most=some n)(XA:n<=sizeLine)(vX:d.params.defaults=[])(hr:bJ k callerA)
  (hY:∀(w:World) (h:Heap),YP w h->(K w.params).In h/\∀P∈ts,h.get? P=some (wo #[]))(hL:∀w:World,D4 (K w.params) ts=true)
  (F:∀(w:World) (mg:Str->Option Value) (fa:Addr) (h:Heap),(K w.params).In h->h.Ns mainGlobals mg->mg d.name=some (.ref fa) ->
   ∃fd:FuncData,(∀(s:Shared) (u:Value),BindsTo s fd ⟨[u],[]⟩ [(x,u)]) /\
    ∀base:Heap,(K w.params).In base->base.Ns mainGlobals mg->bY l.prog w (K w.params) mg base (CX w) k fa fd [x] (sp w))
  (rS:∀(w:World) (H:Hp) (a:Addr) (ns:List Int),ns.length<=n->Tb (K w.params) H->eQ (K w.params) H a (ns.map V.int)->sp w [.ref a] H (λv H'=>v=.bl true/\Tb (K w.params) H') λ_ _ _=>False)
  (HK:∀(w:World) (H:Hp) (s:Shared) (e:Value) (s':Shared),CX w [] H s (λ_ _ _=>False) e s'->False):
  PySem.W.WalkO q loose XP YP l.row.toRowW d [] (λf vs=>Iw f vs):=by
 refine SS.kH hn vX λw cQ aO mg mb fa o pm cd doc a vs ns G Y ho hd c7 zw ue hints hlen hg=>?_
 obtain ⟨KX,zV⟩:=hY w _ Y
 obtain ⟨fd,hb,hF⟩:=F w mg fa _ KX G.T.g zw
 exact b4e KX G.T.g G.T.b G.T.builtins G.T.nolimit hg G.T.bmain (hL w) zV ue hints (fq hlen XA) hr hF hb (λH hO hS=>rS w H a ns hlen hO hS) λH e s'=>HK w H aO e s'
end L2
namespace L2
open PySem PySem.Spec PyProof.Rows
def lO(s:Stmt):Arguments:=match s with
 | .FunctionDef _ a _ _ _ _ _ _ _ _=>a
 | _=>{ posonlyargs:=[],args:=[],vararg:=none,kwonlyargs:=[],kw_defaults:=[],kwarg:=none,defaults:=[] }
def iZ(s:Stmt):List Stmt:=match s with
 | .FunctionDef _ _ b _ _ _ _ _ _ _=>b
 | _=>[]
def fU(s:Stmt):Scope:=match s with
 | .FunctionDef _ _ _ _ _ _ sc _ _ _=>sc
 | _=>{ kind:=.function,names:=[],isGenerator:=false,isCoroutine:=false }
abbrev jt:nZ:=λ_ _ _ _ _ _=>False
abbrev E0:XK:=λ_ _ _=>False
theorem yF:JM jt X E0:=λ_ _ _ _ _ _ _ h=>h.elim
structure tB(K:aI)(x qual:Str)(st:Stmt)(f:Addr)(fd:FuncData):Prop where
 ex:∃(oc:Value) (od:Option Addr) (kV doc pm:Value) (an:Option Addr) (dF ct:Value) (rN:Array (Option Value)),
  fd=jX x qual (lO st) (iZ st) (fU st) .none kV doc pm an dF ct/\K.lookup f=some ⟨oc,od,.func fd,rN⟩/\DD K dF qual=true
 kp:uB K (.ref f)=true
section
variable {P:Program}{w:World}{K:aI}{mg:Str->Option Value}{base:Heap}
theorem tB.ok{x qual:Str}{st:Stmt}{f:Addr}{fd:FuncData}{N ps:List Str}{k:Nat}{sp:Sp}(F:tB K x qual st f fd)(S:dJ N ps (fU st))(len:∀vs H Q E,sp vs H Q E->vs.length=ps.length)
  (eu:∀(dF:Value) (A:Around) (outer:List Env) (s:Shared) (H:Hp) (vs:List V) (Q:VK) (E:XK),bJ k (A.deeper (envOfC qual (fU st) s.heap.objs.size f dF))->sp vs H Q E ->
   ∃t,mW (mq jt P w K mg base N qual (fU st) f dF A outer s H E).gJ (iZ st) t/\t { nx:=λ_ H'=>Q .aU H',rt:=Q } (start N vs) H):bY P w K mg base jt (k+1) f fd ps sp:=by
 obtain ⟨oc,od,kV,doc,pm,an,dF,ct,rN,rfl,lk,c7⟩:=F.ex
 refine Ae lk c7 S len λA outer s H vs Q E hr rS=>?_
 obtain ⟨t,h,q⟩:=eu dF A outer s H vs Q E hr rS
 exact ⟨t,h.gJ,q⟩
theorem tB.binds{x qual:Str}{st:Stmt}{f:Addr}{fd:FuncData}{ps:List Str}(F:tB K x qual st f fd)
  (h:∀(kV doc pm:Value) (an:Option Addr) (dF ct:Value) (us:List Value),us.length=ps.length->bindArgs (jX x qual (lO st) (iZ st) (fU st) .none kV doc pm an dF ct) ⟨us,[]⟩=pure (ps.zip us)):Binds K fd ps []:=by
 obtain ⟨oc,od,kV,doc,pm,an,dF,ct,rN,rfl,lk,c7⟩:=F.ex
 exact .all (h kV doc pm an dF ct)
theorem Pw{x qual:Str}{st:Stmt}{f:Addr}{oc:Value}{od an:Option Addr}{rN:Array (Option Value)}{kV doc pm dF ct:Value}(l:K.lookup f=some ⟨oc,od,.func (jX x qual (lO st) (iZ st) (fU st) .none kV doc pm an dF ct),rN⟩)
  (c:DD K dF qual=true)(k:uB K (.ref f)=true):tB K x qual st f (jX x qual (lO st) (iZ st) (fU st) .none kV doc pm an dF ct):=⟨⟨oc,od,kV,doc,pm,an,dF,ct,rN,rfl,l,c⟩,k⟩
end
section
variable {X:Cx}
theorem pv(i:Nat){x:Str}{pos:Pos}(hN:X.N[i]?=some x:=by rfl)(hv:iN X.env.scope x:=by first | exact cD rfl | exact bH (cD rfl) | exact bH (bH rfl))(hd:(x==("__debug__":Str))=false:=by decide)
  (c7:(x==("__classdict__":Str))=false:=by decide):PE X (.Name x pos) (xR i):=sO hN hv hd c7
end
def au(H H':Hp):Prop:=∀b o,H b=some o->H' b=some o
theorem au.refl(H:Hp):au H H:=λ_ _ h=>h
theorem au.trans(a:au H H1)(b:au H1 H2):au H H2:=λc o h=>b c o (a c o h)
theorem au.free(e:au H H')(h:H' l=Option.none):H l=Option.none:=by
 cases q:H l with
 | none=>rfl
 | some o =>
  rw [e l o q] at h
  cases h
theorem au.seq{K:aI}{H H':Hp}{a:Addr}{xs:List V}(e:au H H')(h:eQ K H a xs):eQ K H' a xs:=by
 rcases h with (h | ⟨o,h⟩) | h
 .exact .inl (.inl (e _ _ h))
 .exact .inl (.inr ⟨o,e _ _ h⟩)
 .exact .inr h
end L2
set_option maxHeartbeats 4000000
namespace DL
open PySem PySem.Spec PyProof.Rows L2
section
variable {prog:Program}{w:World}{A:Around}{E:Value->Shared->Prop}{s:Shared}
theorem b4L{ws:List Value}(ht:IsTup s.heap t #[])(hb:IsTup s.heap b ws.toArray)(h1:Q (.ref b) s):wpAny (model prog w) A (binaryOp .Add (.ref t) (.ref b)) Q E s:=by
 obtain ⟨⟨cls,dd,data,sl⟩,ho,hc,n,hd⟩:=id ht
 obtain ⟨⟨Ar,sf,data2,qk⟩,pO,r6,n2,hd2⟩:=id hb
 simp only at hc hd r6 hd2
 subst hc hd r6 hd2
 exact concat_meets ⟨_,ho,rfl⟩ ⟨_,pO,rfl⟩ IG IS Js Jk (Jm _ _)
   (tuple_addW0 t b #[] ws.toArray n n2 dd sf sl qk rfl) ⟨ho,pO,h1⟩
end
section
variable {X:Cx}
noncomputable def yv(K:aI):R2:=λx y H Q=>∃a b ys,x=.ref a/\y=.ref b/\eO K H a []/\eO K H b ys/\Q (.ref b) H
theorem b6x:gW X (binaryOp .Add) (yv X.K):=by
 intro pins s σ H x y v u Q I rx ry h
 obtain ⟨a,b,ys,rfl,rfl,ha,hb,q1⟩:=h
 cases rx
 cases ry
 obtain ⟨aq,r1,p1,_⟩:=I.tuple ha
 obtain ⟨cG,r2,p2,_⟩:=I.tuple hb
 cases r1
 exact b4L p1 p2 ⟨.ref b,H,I,rfl,q1⟩
end
end DL
namespace DL
open PySem PySem.Spec PyProof.Rows L2
inductive D where
 | aU | bl (b:Bool) | int (i:Int) | str (x:Str) | tup (ds:List D) | lst (ro:Bool) (ds:List D) | exc (n:Str) | fB (fz:Bool) (bB:List (Int×Int))
 deriving Inhabited
inductive Sl where
 | no | sh (d:D) | ow (ds:List D) | dw (bB:List (Int×Int))
 deriving Inhabited
noncomputable abbrev En:=List Sl
noncomputable def Sl.d:Sl->D
 | .no=>.aU
 | .sh d=>d
 | .ow ds=>.lst false ds
 | .dw bB=>.fB false bB
def Ig(p C:Addr)(h:Heap):Prop:=∃o,h.get? p=some o/\o.cls=.ref C
mutual
inductive Is (K:aI) (O:Addr->Prop) (H:Hp):V->D->Prop
 | aU:Is K O H .aU .aU
 | bl (b:Bool):Is K O H (.bl b) (.bl b)
 | int (i:Int):Is K O H (.int i) (.int i)
 | str (x:Str):Is K O H (.str x) (.str x)
 | tup {p:Addr} {xs:List V} {ds:List D} (ho:¬O p) (hp:Rd H p (.tup xs)) (hs:aN K O H xs ds):Is K O H (.ref p) (.tup ds)
 | m8 {p:Addr} {xs:List V} {ds:List D} (hp:eO K (λ_=>none) p xs) (hs:aN K O H xs ds):Is K O H (.ref p) (.tup ds)
 | lst {p:Addr} {xs:List V} {ds:List D} (ho:¬O p) (hp:H p=some (.lst xs)) (hs:aN K O H xs ds):Is K O H (.ref p) (.lst false ds)
 | l6 {p:Addr} {xs:List V} {ds:List D} (ho:¬O p) (hp:Rd H p (.lst xs)) (hs:aN K O H xs ds):Is K O H (.ref p) (.lst true ds)
 | md {p:Addr} {xs:List V} {ds:List D} (hp:eQ K (λ_=>none) p xs) (hs:aN K O H xs ds):Is K O H (.ref p) (.lst true ds)
 | exc {p C:Addr} {n:Str} (ho:¬O p) (hn:lE K mainGlobals n=some (some (.ref C))) (hp:H p=some (.ext (Ig p C))):Is K O H (.ref p) (.exc n)
 | fB {p:Addr} {bB:List (Int×Int)} (ho:¬O p) (hp:H p=some (.dK (bB.map λq=>(.inl q.1,.int q.2)))):Is K O H (.ref p) (.fB false bB)
 | qH {p:Addr} {bB:List (Int×Int)} {o:Obj} (ho:¬O p) (hp:H p=some (.jW o (.dK (bB.map λq=>(.inl q.1,.int q.2))))):Is K O H (.ref p) (.fB true bB)
inductive aN (K:aI) (O:Addr->Prop) (H:Hp):List V->List D->Prop
 | nil:aN K O H [] []
 | cons {x:V} {d:D} {xs:List V} {ds:List D} (h:Is K O H x d) (t:aN K O H xs ds):aN K O H (x::xs) (d::ds)
end
theorem O7{O:Addr->Prop}{H H':Hp}(hH:∀q u,H q=some u->¬O q->H' q=some u){p:Addr}{u:HO}(ho:¬O p)(h:Rd H p u):Rd H' p u:=by
 rcases h with h | ⟨o,h⟩
 .exact .inl (hH p u h ho)
 .exact .inr ⟨o,hH p _ h ho⟩
theorem Qh(h:Rd H p u):H p≠none:=by
 rcases h with h | ⟨o,h⟩<;>rw [h]<;>exact λz=>nomatch z
theorem Bv{K:aI}{H:Hp}{p:Addr}{xs:List V}(h:eQ K (λ_=>none) p xs):eQ K H p xs:=by
 rcases h with (h | ⟨o,h⟩) | h
 .cases h
 .cases h
 .exact .inr h
theorem Bw{K:aI}{H:Hp}{p:Addr}{xs:List V}(h:eO K (λ_=>none) p xs):eO K H p xs:=by
 rcases h with (h | ⟨o,h⟩) | h
 .cases h
 .cases h
 .exact .inr h
section
variable {K:aI}{O O':Addr->Prop}{H H':Hp}
mutual
theorem Is.map(hO:∀q,H q≠none->¬O q->¬O' q)(hH:∀q u,H q=some u->¬O q->H' q=some u):∀{v:V} {d:D},Is K O H v d->Is K O' H' v d
 | _,_,.aU=>.aU
 | _,_,.bl b=>.bl b
 | _,_,.int i=>.int i
 | _,_,.str x=>.str x
 | _,_,.tup ho hp hs=>.tup (hO _ (Qh hp) ho) (O7 hH ho hp) (aN.map hO hH hs)
 | _,_,.m8 hp hs=>.m8 hp (aN.map hO hH hs)
 | _,_,.lst ho hp hs=>.lst (hO _ (by rw [hp];exact λz=>nomatch z) ho) (hH _ _ hp ho) (aN.map hO hH hs)
 | _,_,.l6 ho hp hs=>.l6 (hO _ (Qh hp) ho) (O7 hH ho hp) (aN.map hO hH hs)
 | _,_,.md hp hs=>.md hp (aN.map hO hH hs)
 | _,_,.exc ho hn hp=>.exc (hO _ (by rw [hp];exact λz=>nomatch z) ho) hn (hH _ _ hp ho)
 | _,_,.fB ho hp=>.fB (hO _ (by rw [hp];exact λz=>nomatch z) ho) (hH _ _ hp ho)
 | _,_,.qH ho hp=>.qH (hO _ (by rw [hp];exact λz=>nomatch z) ho) (hH _ _ hp ho)
theorem aN.map(hO:∀q,H q≠none->¬O q->¬O' q)(hH:∀q u,H q=some u->¬O q->H' q=some u):∀{v:List V} {d:List D},aN K O H v d->aN K O' H' v d
 | _,_,.nil=>.nil
 | _,_,.cons h t=>.cons (Is.map hO hH h) (aN.map hO hH t)
end
theorem Is.grow(s:au H H')(h:Is K O H v d):Is K O H' v d:=h.map (λ_ _ z=>z) λq u e _=>s q u e
theorem aN.grow(s:au H H')(h:aN K O H v d):aN K O H' v d:=h.map (λ_ _ z=>z) λq u e _=>s q u e
theorem Is.less(hO:∀q,O' q->O q)(h:Is K O H v d):Is K O' H v d:=h.map (λ_ _ z w=>z (hO _ w)) λ_ _ e _=>e
theorem aN.less(hO:∀q,O' q->O q)(h:aN K O H v d):aN K O' H v d:=h.map (λ_ _ z w=>z (hO _ w)) λ_ _ e _=>e
theorem aN.length:∀{v:List V} {d:List D},aN K O H v d->v.length=d.length
 | _,_,.nil=>rfl
 | _,_,.cons _ t=>by rw [iy,iy,aN.length t]
theorem aN.append:∀{v w:List V} {d e:List D},aN K O H v d->aN K O H w e->aN K O H (v++w) (d++e)
 | _,_,_,_,.nil,s=>s
 | _,_,_,_,.cons h t,s=>.cons h (aN.append t s)
theorem aN.get:∀{v:List V} {ds:List D} {i:Nat} {d:D},aN K O H v ds->ds[i]?=some d->∃x,v[i]?=some x/\Is K O H x d
 | _,_,_,_,.nil,e=>by simp at e
 | _,_,0,_,.cons h _,e=>by simp at e;subst e;exact ⟨_,rfl,h⟩
 | _,_,i+1,d,.cons _ t,e=>by
  obtain ⟨u,h1,h2⟩:=aN.get (i:=i) (d:=d) t (by simpa using e)
  exact ⟨u,by simpa using h1,h2⟩
theorem aN.o4:∀{v:List V} {ds:List D} {i:Nat} {x:V},aN K O H v ds->v[i]?=some x->∃d,ds[i]?=some d/\Is K O H x d
 | _,_,_,_,.nil,e=>by simp at e
 | _,_,0,_,.cons h _,e=>by simp at e;subst e;exact ⟨_,rfl,h⟩
 | _,_,i+1,d,.cons _ t,e=>by
  obtain ⟨u,h1,h2⟩:=aN.o4 (i:=i) (x:=d) t (by simpa using e)
  exact ⟨u,by simpa using h1,h2⟩
theorem aN.take:∀{v:List V} {d:List D} (n:Nat),aN K O H v d->aN K O H (v.take n) (d.take n)
 | _,_,0,_=>.nil
 | _,_,_+1,.nil=>.nil
 | _,_,n+1,.cons h t=>.cons h (aN.take n t)
theorem aN.drop:∀{v:List V} {d:List D} (n:Nat),aN K O H v d->aN K O H (v.drop n) (d.drop n)
 | _,_,0,h=>h
 | _,_,_+1,.nil=>.nil
 | _,_,n+1,.cons _ t=>aN.drop n t
theorem aN.set(h:Is K O H x d):∀{v:List V} {ds:List D} (n:Nat),aN K O H v ds->aN K O H (v.set n x) (ds.set n d)
 | _,_,_,.nil=>.nil
 | _,_,0,.cons _ t=>.cons h t
 | _,_,n+1,.cons h' t=>.cons h' (aN.set h n t)
theorem aN.dN(h:aN K O H v ds)(e:L2.dN ds i=some d):∃x,L2.dN v i=some x/\Is K O H x d:=by
 unfold L2.dN at e ⊢
 rw [h.length]
 cases q:jy ds.length i with
 | none=>rw [q] at e;cases e
 | some j =>
  rw [q] at e
  exact h.get e
theorem aN.dropLast(h:aN K O H v d):aN K O H v.dropLast d.dropLast:=by
 rw [NT,NT,h.length]
 exact h.take _
theorem aN.ints:∀(ns:List Int),aN K O H (ns.map V.int) (ns.map D.int)
 | []=>.nil
 | n::r=>.cons (.int n) (aN.ints r)
def Sq(K:aI)(H:Hp)(k:Bool)(p:Addr)(xs:List V):Prop:=if k=true then eQ K H p xs else eO K H p xs
noncomputable def e9:D->Option (Bool×List D)
 | .tup ds=>some (false,ds)
 | .lst _ ds=>some (true,ds)
 | _=>none
theorem Is.seq(h:Is K O H v d)(e:e9 d=some (k,ds)):∃p xs,v=.ref p/\Sq K H k p xs/\aN K O H xs ds:=by
 cases h with
 | tup ho hp hs=>cases e;exact ⟨_,_,rfl,.inl hp,hs⟩
 | m8 hp hs=>cases e;exact ⟨_,_,rfl,Bw hp,hs⟩
 | lst ho hp hs=>cases e;exact ⟨_,_,rfl,.inl (.inl hp),hs⟩
 | l6 ho hp hs=>cases e;exact ⟨_,_,rfl,.inl hp,hs⟩
 | md hp hs=>cases e;exact ⟨_,_,rfl,Bv hp,hs⟩
 | _=>cases e
end
theorem Sq.grow{K:aI}{H H':Hp}{k:Bool}{p:Addr}{xs:List V}(s:au H H')(h:Sq K H k p xs):Sq K H' k p xs:=by
 cases k with
 | true =>
  rcases h with (h | ⟨o,h⟩) | h
  .exact .inl (.inl (s _ _ h))
  .exact .inl (.inr ⟨o,s _ _ h⟩)
  .exact .inr h
 | false =>
  rcases h with (h | ⟨o,h⟩) | h
  .exact .inl (.inl (s _ _ h))
  .exact .inl (.inr ⟨o,s _ _ h⟩)
  .exact .inr h
noncomputable def Sl.own:Sl->Prop
 | .ow _=>True
 | .dw _=>True
 | _=>False
noncomputable abbrev H9(bB:List (Int×Int)):HO:=.dK (bB.map λq=>(.inl q.1,.int q.2))
def lh(σ:L2.St)(env:En)(p:Addr):Prop:=∃(i:Nat) (s:Sl),env[i]?=some s/\s.own/\σ[i]?=some (some (V.ref p))
abbrev OO(O:Addr->Prop)(σ:L2.St)(env:En)(q:Addr):Prop:=O q\/lh σ env q
theorem _root_.L2.Tb.grow{K:aI}{H H':Hp}(s:au H H')(h:Tb K H):Tb K H':=λc P e=>s _ _ (h c P e)
def qb(K:aI)(O:Addr->Prop)(H:Hp):Prop:=(∀q,O q->H q≠none)/\Tb K H
theorem qb.grow{K:aI}{O:Addr->Prop}{H H':Hp}(s:au H H')(h:qb K O H):qb K O H':=⟨λq hq hn=>h.1 q hq (s.free hn),h.2.grow s⟩
structure Rel(K:aI)(O:Addr->Prop)(B:Hp)(σ:L2.St)(H:Hp)(env:En):Prop where
 same:au B H
 mQ:qb K O B
 len:σ.length=env.length
 sh:∀(i:Nat) (d:D),env[i]?=some (Sl.sh d)->∃v,σ[i]?=some (some v)/\Is K (OO O σ env) H v d
 ow:∀(i:Nat) (ds:List D),env[i]?=some (Sl.ow ds)->∃p xs,σ[i]?=some (some (V.ref p))/\B p=none/\H p=some (.lst xs)/\aN K (OO O σ env) H xs ds
 dw:∀(i:Nat) (bB:List (Int×Int)),env[i]?=some (Sl.dw bB)->∃p,σ[i]?=some (some (V.ref p))/\B p=none/\H p=some (H9 bB)
 sep:∀(i j:Nat) (ds es:Sl) (p:Addr),env[i]?=some ds->env[j]?=some es->σ[i]?=some (some (V.ref p))->σ[j]?=some (some (V.ref p))->ds.own->es.own->i=j
noncomputable def Res(K:aI)(O:Addr->Prop)(B H:Hp)(v:V):Sl->Prop
 | .no=>False
 | .sh d=>Is K O H v d
 | .ow ds=>∃p xs,v=.ref p/\B p=none/\H p=some (.lst xs)/\aN K (λq=>O q\/q=p) H xs ds
 | .dw bB=>∃p,v=.ref p/\B p=none/\H p=some (H9 bB)
section
variable {K:aI}{O:Addr->Prop}{B H H' H1:Hp}{σ:L2.St}{env:En}{v:V}{r:Sl}
theorem Rel.ad(R:Rel K O B σ H env){i:Nat}{s:Sl}(h:env[i]?=some s)(ho:s.own):∃p u,σ[i]?=some (some (V.ref p))/\B p=none/\H p=some u:=by
 cases s with
 | ow ds=>obtain ⟨p,xs,e1,e2,e3,_⟩:=R.ow i ds h;exact ⟨p,_,e1,e2,e3⟩
 | dw bB=>obtain ⟨p,e1,e2,e3⟩:=R.dw i bB h;exact ⟨p,_,e1,e2,e3⟩
 | no=>exact ho.elim
 | sh d=>exact ho.elim
theorem Rel.oo(R:Rel K O B σ H env)(h:OO O σ env q):H q≠none:=by
 rcases h with h | ⟨i,s,h1,ho,h2⟩
 .intro z
  exact R.mQ.1 q h (R.same.free z)
 .obtain ⟨p,u,e1,_,e3⟩:=R.ad h1 ho
  rw [h2] at e1
  cases e1
  rw [e3];exact λz=>nomatch z
theorem Rel.dm(R:Rel K O B σ H env):qb K (OO O σ env) H:=⟨λ_=>R.oo,R.mQ.2.grow R.same⟩
theorem Rel.grow(R:Rel K O B σ H env)(s:au H H'):Rel K O B σ H' env where
 same:=R.same.trans s
 mQ:=R.mQ
 len:=R.len
 sh:=λi d e=>let ⟨v,e1,h⟩:=R.sh i d e;⟨v,e1,h.grow s⟩
 ow:=λi ds e=>let ⟨p,xs,e1,e2,e3,h⟩:=R.ow i ds e;⟨p,xs,e1,e2,s _ _ e3,h.grow s⟩
 dw:=λi bB e=>let ⟨p,e1,e2,e3⟩:=R.dw i bB e;⟨p,e1,e2,s _ _ e3⟩
 sep:=R.sep
theorem Res.grow(s:au H H')(h:Res K O B H v r):Res K O B H' v r:=by
 cases r with
 | no=>exact h
 | sh d=>exact Is.grow s h
 | ow ds=>obtain ⟨p,xs,e1,e2,e3,h⟩:=h;exact ⟨p,xs,e1,e2,s _ _ e3,h.grow s⟩
 | dw bB=>obtain ⟨p,e1,e2,e3⟩:=h;exact ⟨p,e1,e2,s _ _ e3⟩
theorem Res.from(s:au H1 B)(h:Res K O B H v r):Res K O H1 H v r:=by
 cases r with
 | no=>exact h
 | sh d=>exact h
 | ow ds=>obtain ⟨p,xs,e1,e2,e3,h⟩:=h;exact ⟨p,xs,e1,s.free e2,e3,h⟩
 | dw bB=>obtain ⟨p,e1,e2,e3⟩:=h;exact ⟨p,e1,s.free e2,e3⟩
theorem Res.less(hO:∀q,O' q->O q)(h:Res K O B H v r):Res K O' B H v r:=by
 cases r with
 | no=>exact h
 | sh d=>exact Is.less hO h
 | ow ds=>obtain ⟨p,xs,e1,e2,e3,h⟩:=h;exact ⟨p,xs,e1,e2,e3,h.less λq z=>z.elim (λw=>.inl (hO _ w)) .inr⟩
 | dw bB=>exact h
theorem Res.is(hd:∀q,O q->B q≠none)(h:Res K O B H v r):Is K O H v r.d:=by
 cases r with
 | no=>exact h.elim
 | sh d=>exact h
 | ow ds =>
  obtain ⟨p,xs,rfl,e2,e3,h⟩:=h
  exact .lst (λz=>hd p z e2) e3 (h.less λ_=>.inl)
 | dw bB =>
  obtain ⟨p,rfl,e2,e3⟩:=h
  exact .fB (λz=>hd p z e2) e3
end
def EV(X:Cx)(e:Expr)(f:En->Option Sl):Prop:=
 ∃t:TE,PE X e t/\∀(O:Addr->Prop) (B:Hp) (σ:L2.St) (H:Hp) (env:En) (r:Sl) (Q:VK),Rel X.K O B σ H env->f env=some r ->
  (∀v H',au H H'->Res X.K (OO O σ env) H H' v r->Q v H')->t σ H Q
def BV(X:Cx)(e:Expr)(f:En->Option (Bool×List D)):Prop:=
 ∃t:TE,PE X e t/\∀(O:Addr->Prop) (B:Hp) (σ:L2.St) (H:Hp) (env:En) (k:Bool) (ds:List D) (Q:VK),Rel X.K O B σ H env->f env=some (k,ds) ->
  (∀p xs H',au H H'->Sq X.K H' k p xs->aN X.K (OO O σ env) H' xs ds->Q (.ref p) H')->t σ H Q
def AV(X:Cx)(es:List Expr)(f:En->Option (List D)):Prop:=
 ∃t:TA,PA X es t/\∀(O:Addr->Prop) (B:Hp) (σ:L2.St) (H:Hp) (env:En) (ds:List D) (Q:List V->Hp->Prop),Rel X.K O B σ H env->f env=some ds ->
  (∀vs H',au H H'->aN X.K (OO O σ env) H' vs ds->Q vs H')->t σ H Q
def TV(X:Cx)(e:Expr)(f:En->Option Bool):Prop:=
 ∃t:TT,PT X e t/\∀(O:Addr->Prop) (B:Hp) (σ:L2.St) (H:Hp) (env:En) (b:Bool) (Q:Bool->Hp->Prop),Rel X.K O B σ H env->f env=some b ->
  (∀H',au H H'->Q b H')->t σ H Q
def WV(X:Cx)(e:Expr)(f:En->Option Bool):Prop:=
 ∃t:TT,PW X e t/\∀(O:Addr->Prop) (B:Hp) (σ:L2.St) (H:Hp) (env:En) (b:Bool) (Q:Bool->Hp->Prop),Rel X.K O B σ H env->f env=some b ->
  (∀H',au H H'->Q b H')->t σ H Q
inductive Fl where
 | nx | bk | ct | rt (r:Sl)
def Gd(σ:L2.St)(env:En)(H:Hp)(aJ:L2.St)(aj:En)(H':Hp):Prop:=∀q u,H q=some u->¬lh σ env q->H' q=some u/\¬lh aJ aj q
theorem Gd.trans(a:Gd σ env H iI bW H1)(b:Gd iI bW H1 cO bx H2):Gd σ env H cO bx H2:=λq u e n =>
 let ⟨e1,n1⟩:=a q u e n
 b q u e1 n1
theorem Gd.from(s:au H H1)(b:Gd σ env H1 aJ aj H'):Gd σ env H aJ aj H':=λq u e n=>b q u (s _ _ e) n
theorem Gd.refl(s:au H H'):Gd σ env H σ env H':=λq u e n=>⟨s _ _ e,n⟩
noncomputable def dC(K:aI)(O:Addr->Prop)(B:Hp)(σ:L2.St)(H:Hp)(env:En)(D:Ends):Fl->En->Prop
 | .nx,aj=>∀aJ H',Rel K O B aJ H' aj->Gd σ env H aJ aj H'->D.nx aJ H'
 | .bk,aj=>∀aJ H',Rel K O B aJ H' aj->Gd σ env H aJ aj H'->D.bk aJ H'
 | .ct,aj=>∀aJ H',Rel K O B aJ H' aj->Gd σ env H aJ aj H'->D.ct aJ H'
 | .rt r,_=>∀v H',au B H'->Res K O B H' v r->D.rt v H'
theorem dC.from{K:aI}{O:Addr->Prop}{B:Hp}{σ iI:L2.St}{H H1:Hp}{env bW:En}{D:Ends}{fl:Fl}{aj:En}(g:Gd σ env H iI bW H1)(h:dC K O B σ H env D fl aj):dC K O B iI H1 bW D fl aj:=by
 cases fl with
 | nx=>exact λaJ H' R g'=>h aJ H' R (g.trans g')
 | bk=>exact λaJ H' R g'=>h aJ H' R (g.trans g')
 | ct=>exact λaJ H' R g'=>h aJ H' R (g.trans g')
 | rt r=>exact h
noncomputable abbrev SF:=En->Option (Fl×En)
def SV(X:Cx)(st:Stmt)(F:SF):Prop:=
 ∃t:TS,PS X st t/\∀(O:Addr->Prop) (B:Hp) (σ:L2.St) (H:Hp) (env:En) (fl:Fl) (aj:En) (D:Ends),Rel X.K O B σ H env->F env=some (fl,aj)->dC X.K O B σ H env D fl aj->t D σ H
def kY(X:Cx)(st:List Stmt)(F:SF):Prop:=
 ∃t:TS,mW X st t/\∀(O:Addr->Prop) (B:Hp) (σ:L2.St) (H:Hp) (env:En) (fl:Fl) (aj:En) (D:Ends),Rel X.K O B σ H env->F env=some (fl,aj)->dC X.K O B σ H env D fl aj->t D σ H
section
variable {X:Cx}{a b c:Expr}{pos:Pos}{fa fb fc:En->Option Sl}
noncomputable def eC(d:D):En->Option Sl:=λ_=>some (.sh d)
theorem ah{i j pos}:EV X (.Constant (.int i) j pos) (eC (.int i)):=⟨_,b8G,λ_ _ _ _ _ _ _ _ e k=>by
 obtain rfl:=cT e
 exact k _ _ (au.refl _) (Is.int i)⟩
theorem OK{i j pos}:EV X (.Constant (.bool i) j pos) (eC (.bl i)):=⟨_,yD,λ_ _ _ _ _ _ _ _ e k=>by
 obtain rfl:=cT e
 exact k _ _ (au.refl _) (Is.bl i)⟩
theorem Er{j pos}:EV X (.Constant .none j pos) (eC .aU):=⟨_,b8E,λ_ _ _ _ _ _ _ _ e k=>by
 obtain rfl:=cT e
 exact k _ _ (au.refl _) Is.aU⟩
noncomputable def CA:Option Sl->Option Sl
 | some (.sh d)=>some (.sh d)
 | _=>none
theorem b3z(h:CA o=some r):∃d,o=some (Sl.sh d)/\r=.sh d:=by
 cases o with
 | none=>cases h
 | some s=>cases s with
  | sh d=>cases h;exact ⟨d,rfl,rfl⟩
  | no=>cases h
  | ow ds=>cases h
  | dw ds=>cases h
noncomputable def eV(i:Nat):En->Option Sl:=λenv=>CA env[i]?
theorem Pr(i:Nat)(hN:X.N[i]?=some x:=by rfl)(hv:iN X.env.scope x:=by first | exact cD rfl | exact bH (cD rfl) | exact bH (bH rfl))(hd:(x==("__debug__":Str))=false:=by decide)
  (c7:(x==("__classdict__":Str))=false:=by decide):EV X (.Name x pos) (eV i):=⟨_,sO hN hv hd c7,λO B σ H env r Q R e k=>by
 obtain ⟨d,e1,rfl⟩:=b3z e
 obtain ⟨v,e2,h⟩:=R.sh i d e1
 exact ⟨v,e2,k v H (au.refl _) h⟩⟩
noncomputable def vM:Option Sl->Option (Bool×List D)
 | some (.sh d)=>e9 d
 | some (.ow ds)=>some (true,ds)
 | _=>none
noncomputable def bV(i:Nat):En->Option (Bool×List D):=λenv=>vM env[i]?
theorem b9x(i:Nat)(hN:X.N[i]?=some x:=by rfl)(hv:iN X.env.scope x:=by first | exact cD rfl | exact bH (cD rfl) | exact bH (bH rfl))(hd:(x==("__debug__":Str))=false:=by decide)
  (c7:(x==("__classdict__":Str))=false:=by decide):BV X (.Name x pos) (bV i):=⟨_,sO hN hv hd c7,λO B σ H env k ds Q R e q=>by
 unfold bV at e
 cases h:env[i]? with
 | none=>rw [h] at e;cases e
 | some s =>
  rw [h] at e
  cases s with
  | no=>cases e
  | sh d =>
   obtain ⟨v,e2,hv⟩:=R.sh i d h
   obtain ⟨p,xs,rfl,h1,h2⟩:=hv.seq (show e9 d=some (k,ds) from e)
   exact ⟨_,e2,q p xs H (au.refl _) h1 h2⟩
  | dw es=>cases e
  | ow es =>
   obtain ⟨rfl,rfl⟩:true=k/\es=ds:=Prod.mk.inj (cT e)
   obtain ⟨p,xs,e2,_,e3,h2⟩:=R.ow i es h
   exact ⟨_,e2,q p xs H (au.refl _) (.inl (.inl e3)) h2⟩⟩
noncomputable def gq(f:En->Option Sl):En->Option (Bool×List D):=λenv=>(f env).bind λr=>e9 r.d
theorem bind_some{α β:Type}{o:Option α}{f:α->Option β}{b:β}(h:o.bind f=some b):∃a,o=some a/\f a=some b:=by
 cases o with
 | none=>cases h
 | some a=>exact ⟨a,rfl,h⟩
theorem gR(h:EV X a fa):BV X a (gq fa):=by
 obtain ⟨t,ht,p⟩:=h
 refine ⟨t,ht,λO B σ H env k ds Q R e q=>?_⟩
 obtain ⟨r,e1,e2⟩:=bind_some e
 refine p O B σ H env r _ R e1 λv H' s h=>?_
 obtain ⟨p,xs,rfl,h1,h2⟩:=(h.is (λz=>R.oo)).seq e2
 exact q p xs H' s h1 h2
def jR(X:Cx)(f:Value->Value->Sem Value)(g:D->D->Option Sl):Prop:=
 ∃r:R2,gW X f r/\∀(O:Addr->Prop) (H:Hp) (x y:V) (a b:D) (s:Sl) (Q:VK),(∀q,O q->H q≠none)->Is X.K O H x a->Is X.K O H y b->g a b=some s ->
  (∀v H',au H H'->Res X.K O H H' v s->Q v H')->r x y H Q
noncomputable def ae(g:D->D->Option Sl)(fa fb:En->Option Sl):En->Option Sl:=λenv=>(fa env).bind λx=>(fb env).bind λy=>g x.d y.d
theorem K0(hg:∀(O:Addr->Prop) (H:Hp) (x y:V) (a b:D) (s:Sl) (Q:VK),(∀q,O q->H q≠none)->Is X.K O H x a->Is X.K O H y b->g a b=some s->(∀v H',au H H'->Res X.K O H H' v s->Q v H')->r x y H Q)(pa:∀(O:Addr->Prop) (B:Hp) (σ:L2.St) (H:Hp) (env:En) (r:Sl) (Q:VK),Rel X.K O B σ H env->fa env=some r->(∀v H',au H H'->Res X.K (OO O σ env) H H' v r->Q v H')->ta σ H Q)
  (pb:∀(O:Addr->Prop) (B:Hp) (σ:L2.St) (H:Hp) (env:En) (r:Sl) (Q:VK),Rel X.K O B σ H env->fb env=some r->(∀v H',au H H'->Res X.K (OO O σ env) H H' v r->Q v H')->tb σ H Q)
  (O:Addr->Prop)(B:Hp)(σ:L2.St)(H:Hp)(env:En)(s:Sl)(Q:VK)(R:Rel X.K O B σ H env)(e:ae g fa fb env=some s)
  (k:∀v H',au H H'->Res X.K (OO O σ env) H H' v s->Q v H'):xU r ta tb σ H Q:=by
 obtain ⟨x,e1,e⟩:=bind_some e
 obtain ⟨y,e2,e⟩:=bind_some e
 refine pa O B σ H env x _ R e1 λv H1 s1 h1=>?_
 refine pb O B σ H1 env y _ (R.grow s1) e2 λu H2 s2 h2=>?_
 have R2:=(R.grow s1).grow s2
 refine hg (OO O σ env) H2 v u x.d y.d s Q (λq=>R2.oo) ((h1.is λq=>R.oo).grow s2) (h2.is λq=>(R.grow s1).oo) e λw H3 s3 h3=>?_
 exact k w H3 ((s1.trans s2).trans s3) (h3.from (s1.trans s2))
theorem aC(ho:jR X (binaryOp op) g)(ha:EV X a fa)(hb:EV X b fb):EV X (.BinOp a op b pos) (ae g fa fb):=by
 obtain ⟨r,hr,hg⟩:=ho
 obtain ⟨ta,pa,ka⟩:=ha
 obtain ⟨tb,pb,kb⟩:=hb
 exact ⟨_,yB hr pa pb,K0 hg ka kb⟩
theorem Ep(ho:jR X (compareOp op) g)(ha:EV X a fa)(hb:EV X b fb)(hm:behindInMarks op b=false:=by exact PJ _):EV X (.Compare a [op] [b] pos) (ae g fa fb):=by
 obtain ⟨r,hr,hg⟩:=ho
 obtain ⟨ta,pa,ka⟩:=ha
 obtain ⟨tb,pb,kb⟩:=hb
 exact ⟨_,b6q hr pa pb hm,K0 hg ka kb⟩
noncomputable def iW:Option Sl->Option Bool
 | some (.sh (.bl b))=>some b
 | _=>none
theorem KZ{b:Bool}(h:iW o=some b):o=some (Sl.sh (.bl b)):=by
 cases o with
 | none=>cases h
 | some s=>cases s with
  | no=>cases h
  | ow ds=>cases h
  | dw ds=>cases h
  | sh d=>cases d<;>cases h;rfl
noncomputable def bZ(f:En->Option Sl):En->Option Bool:=λenv=>iW (f env)
theorem A2{K:aI}{O:Addr->Prop}{H:Hp}{v:V}{b:Bool}(h:Is K O H v (.bl b)):v=.bl b:=by cases h;rfl
theorem iY{K:aI}{O:Addr->Prop}{H:Hp}{v:V}{b:Int}(h:Is K O H v (.int b)):v=.int b:=by cases h;rfl
theorem JP{K:aI}{O:Addr->Prop}{H:Hp}{v:V}(h:Is K O H v .aU):v=.aU:=by cases h;rfl
theorem JQ{K:aI}{O:Addr->Prop}{H:Hp}{v:V}{b:Str}(h:Is K O H v (.str b)):v=.str b:=by cases h;rfl
theorem cU(ho:jR X (compareOp op) g)(ha:EV X a fa)(hb:EV X b fb)(hm:behindInMarks op b=false:=by exact PJ _):TV X (.Compare a [op] [b] pos) (bZ (ae g fa fb)):=by
 obtain ⟨r,hr,hg⟩:=ho
 obtain ⟨ta,pa,ka⟩:=ha
 obtain ⟨tb,pb,kb⟩:=hb
 refine ⟨_,b6h hr pa pb hm,λO B σ H env k Q R e q=>?_⟩
 exact K0 hg ka kb O B σ H env _ _ R (KZ e) λv H' s h=>⟨k,A2 h,q H' s⟩
noncomputable def iP:D->Option Bool
 | .aU=>some false
 | .bl b=>some b
 | .int i=>some (i != 0)
 | .str y=>if y.length<=16777216 then some ((y.length:Int) != 0) else none
 | .tup ds=>some (!ds.isEmpty)
 | .lst _ ds=>some (!ds.isEmpty)
 | .exc _=>none
 | .fB _ _=>none
theorem aN.isEmpty{K:aI}{O:Addr->Prop}{H:Hp}{xs:List V}{ds:List D}(h:aN K O H xs ds):xs.isEmpty=ds.isEmpty:=by cases h<;>rfl
theorem b54{K:aI}{O:Addr->Prop}{H:Hp}{v:V}{d:D}{b:Bool}(h:Is K O H v d)(e:iP d=some b):vE K v H b:=by
 cases h with
 | aU=>cases e;rfl
 | bl b=>cases e;rfl
 | int i=>cases e;rfl
 | str x =>
  unfold iP at e
  dsimp only at e
  by_cases hl:x.length<=16777216
  .rw [if_pos hl] at e;cases e;exact ⟨by rw [iV];exact hl,rfl⟩
  .rw [if_neg hl] at e;cases e
 | tup ho hp hs=>cases e;exact .inr (.inl ⟨_,.inl hp,by rw [hs.isEmpty]⟩)
 | m8 hp hs=>cases e;exact .inr (.inl ⟨_,Bw hp,by rw [hs.isEmpty]⟩)
 | lst ho hp hs=>cases e;exact .inl ⟨_,.inl (.inl hp),by rw [hs.isEmpty]⟩
 | l6 ho hp hs=>cases e;exact .inl ⟨_,.inl hp,by rw [hs.isEmpty]⟩
 | md hp hs=>cases e;exact .inl ⟨_,Bv hp,by rw [hs.isEmpty]⟩
 | exc ho hn hp=>cases e
 | fB ho hp=>cases e
 | qH ho hp=>cases e
noncomputable def cP(f:En->Option Sl):En->Option Bool:=λenv=>(f env).bind λr=>iP r.d
theorem jN(ha:EV X a fa)(he:∀whole,isTrue a X.env whole=(do let v <-whole;standAt a.pos;holding [v] (truthy v)):=by intro _;rfl):TV X a (cP fa):=by
 obtain ⟨ta,pa,ka⟩:=ha
 refine ⟨_,QA pa he,λO B σ H env k Q R e q=>?_⟩
 obtain ⟨r,e1,e2⟩:=bind_some e
 exact ka O B σ H env r _ R e1 λv H' s h=>⟨k,b54 (h.is λq=>R.oo) e2,q H' s⟩
noncomputable def A9(f:En->Option (Bool×List D)):En->Option Bool:=λenv=>(f env).bind λr=>some (!r.2.isEmpty)
theorem Qc{fa:En->Option (Bool×List D)}(ha:BV X a fa)(he:∀whole,isTrue a X.env whole=(do let v <-whole;standAt a.pos;holding [v] (truthy v)):=by intro _;rfl):TV X a (A9 fa):=by
 obtain ⟨ta,pa,ka⟩:=ha
 refine ⟨_,QA pa he,λO B σ H env k Q R e q=>?_⟩
 obtain ⟨⟨kk,ds⟩,e1,e2⟩:=bind_some e
 cases e2
 refine ka O B σ H env kk ds _ R e1 λp xs H' s h hs=>⟨_,?_,q H' s⟩
 cases kk with
 | true=>exact .inl ⟨xs,h,by rw [hs.isEmpty]⟩
 | false=>exact .inr (.inl ⟨xs,h,by rw [hs.isEmpty]⟩)
noncomputable def sJ(f g:En->Option Bool):En->Option Bool:=λenv=>match f env with
 | some true=>g env
 | some false=>some false
 | none=>none
noncomputable def lY(f g:En->Option Bool):En->Option Bool:=λenv=>match f env with
 | some false=>g env
 | some true=>some true
 | none=>none
noncomputable def A8(f:En->Option Bool):En->Option Bool:=λenv=>(f env).map (!·)
variable {ga gb:En->Option Bool}{rest:List Expr}
theorem EE(ha:TV X a ga):WV X (.BoolOp .And [a] pos) ga:=let ⟨t,p,k⟩:=ha;⟨t,b6f p,k⟩
theorem Pe(ha:TV X a ga):WV X (.BoolOp .Or [a] pos) ga:=let ⟨t,p,k⟩:=ha;⟨t,b8u p,k⟩
theorem Eu(ha:TV X a ga)(hb:WV X (.BoolOp .And (b::rest) pos) gb):WV X (.BoolOp .And (a::b::rest) pos) (sJ ga gb):=by
 obtain ⟨t,p,k⟩:=ha
 obtain ⟨u,p',k'⟩:=hb
 refine ⟨_,b8v p p',λO B σ H env d Q R e q=>?_⟩
 unfold sJ at e
 cases h:ga env with
 | none=>rw [h] at e;cases e
 | some x =>
  rw [h] at e
  refine k O B σ H env x _ R h λH1 s1=>?_
  cases x with
  | true =>
   rw [if_pos rfl]
   exact k' O B σ H1 env d Q (R.grow s1) e λH2 s2=>q H2 (s1.trans s2)
  | false =>
   cases e
   rw [if_neg mv]
   exact q H1 s1
theorem OU(ha:TV X a ga)(hb:WV X (.BoolOp .Or (b::rest) pos) gb):WV X (.BoolOp .Or (a::b::rest) pos) (lY ga gb):=by
 obtain ⟨t,p,k⟩:=ha
 obtain ⟨u,p',k'⟩:=hb
 refine ⟨_,pw_or p p',λO B σ H env d Q R e q=>?_⟩
 unfold lY at e
 cases h:ga env with
 | none=>rw [h] at e;cases e
 | some x =>
  rw [h] at e
  refine k O B σ H env x _ R h λH1 s1=>?_
  cases x with
  | false =>
   rw [if_neg mv]
   exact k' O B σ H1 env d Q (R.grow s1) e λH2 s2=>q H2 (s1.trans s2)
  | true =>
   cases e
   rw [if_pos rfl]
   exact q H1 s1
theorem mX(h:WV X a ga):TV X a ga:=let ⟨t,p,k⟩:=h;⟨t,p.pt,k⟩
theorem Pc(ha:TV X a ga):TV X (.UnaryOp .Not a pos) (A8 ga):=by
 obtain ⟨t,p,k⟩:=ha
 refine ⟨_,b8w p,λO B σ H env d Q R e q=>?_⟩
 unfold A8 at e
 cases h:ga env with
 | none=>rw [h] at e;cases e
 | some x =>
  rw [h] at e
  cases e
  exact k O B σ H env x _ R h λH1 s1=>q H1 s1
noncomputable def mn(f g:En->Option Sl):En->Option Sl:=λenv=>match iW (f env) with
 | some true=>g env
 | some false=>some (.sh (.bl false))
 | none=>none
noncomputable def NI(f g:En->Option Sl):En->Option Sl:=λenv=>match iW (f env) with
 | some false=>g env
 | some true=>some (.sh (.bl true))
 | none=>none
noncomputable def o7(f:En->Option Sl):En->Option Sl:=λenv=>(iW (f env)).map λb=>.sh (.bl !b)
theorem Pq(h:EV X a fa):EV X (.BoolOp op [a] pos) fa:=let ⟨t,p,k⟩:=h;⟨t,b8C p,k⟩
theorem JV(ha:EV X a fa)(hb:EV X (.BoolOp .And (b::rest) pos) fb):EV X (.BoolOp .And (a::b::rest) pos) (mn fa fb):=by
 obtain ⟨t,p,k⟩:=ha
 obtain ⟨u,p',k'⟩:=hb
 refine ⟨_,b8J p p',λO B σ H env r Q R e q=>?_⟩
 unfold mn at e
 cases h:iW (fa env) with
 | none=>rw [h] at e;cases e
 | some x =>
  rw [h] at e
  refine k O B σ H env _ _ R (KZ h) λv H1 s1 r1=>⟨x,A2 r1,?_⟩
  cases x with
  | true =>
   rw [if_pos rfl]
   exact k' O B σ H1 env r Q (R.grow s1) e λv2 H2 s2 r2=>q v2 H2 (s1.trans s2) (r2.from s1)
  | false =>
   obtain rfl:=cT e
   rw [if_neg mv]
   exact q _ H1 s1 (Is.bl false)
theorem b9g(ha:EV X a fa):EV X (.UnaryOp .Not a pos) (o7 fa):=by
 obtain ⟨t,p,k⟩:=ha
 refine ⟨_,b8D p,λO B σ H env r Q R e q=>?_⟩
 unfold o7 at e
 cases h:iW (fa env) with
 | none=>rw [h] at e;cases e
 | some x =>
  rw [h] at e
  obtain rfl:=cT e
  exact k O B σ H env _ _ R (KZ h) λv H1 s1 r1=>⟨x,A2 r1,q _ H1 s1 (Is.bl _)⟩
noncomputable def ir(c:En->Option Bool)(f g:En->Option Sl):En->Option Sl:=λenv=>match c env with
 | some true=>f env
 | some false=>g env
 | none=>none
theorem j6(hc:TV X c ga)(ha:EV X a fa)(hb:EV X b fb):EV X (.IfExp c a b pos) (ir ga fa fb):=by
 obtain ⟨tc,pc,kc⟩:=hc
 obtain ⟨t,p,k⟩:=ha
 obtain ⟨u,p',k'⟩:=hb
 refine ⟨_,b3V pc p p',λO B σ H env r Q R e q=>?_⟩
 unfold ir at e
 cases h:ga env with
 | none=>rw [h] at e;cases e
 | some x =>
  rw [h] at e
  refine kc O B σ H env x _ R h λH1 s1=>?_
  cases x with
  | true =>
   rw [if_pos rfl]
   exact k O B σ H1 env r Q (R.grow s1) e λv2 H2 s2 r2=>q v2 H2 (s1.trans s2) (r2.from s1)
  | false =>
   rw [if_neg mv]
   exact k' O B σ H1 env r Q (R.grow s1) e λv2 H2 s2 r2=>q v2 H2 (s1.trans s2) (r2.from s1)
noncomputable def uu:D->Option Sl
 | .int i=>some (.sh (.int (-i)))
 | _=>none
noncomputable def gh(f:En->Option Sl):En->Option Sl:=λenv=>(f env).bind λr=>uu r.d
theorem pB(ha:EV X a fa):EV X (.UnaryOp .USub a pos) (gh fa):=by
 obtain ⟨t,p,k⟩:=ha
 refine ⟨_,yA b8c p,λO B σ H env r Q R e q=>?_⟩
 obtain ⟨x,e1,e2⟩:=bind_some e
 refine k O B σ H env x _ R e1 λv H1 s1 r1=>?_
 have hi:=r1.is λq=>R.oo
 cases hd:x.d with
 | int i =>
  rw [hd] at hi e2
  obtain rfl:=iY hi
  obtain rfl:=cT e2
  exact ⟨i,rfl,q _ H1 s1 (Is.int _)⟩
 | _=>rw [hd] at e2;cases e2
variable {e:Expr}{es:List Expr}
noncomputable def aa:En->Option (List D):=λ_=>some []
noncomputable def af(f:En->Option Sl)(g:En->Option (List D)):En->Option (List D):=λenv=>(f env).bind λr=>(g env).bind λds=>some (r.d::ds)
theorem ao:AV X [] aa:=⟨_,pC,λO B σ H env ds Q R e q=>by
 obtain rfl:=cT e
 exact q [] H (au.refl _) .nil⟩
theorem ag(ha:EV X e fe)(hb:AV X es fs)(hs:starEach (e::es) X.env=(false,eval e X.env)::starEach es X.env:=by rfl):AV X (e::es) (af fe fs):=by
 obtain ⟨t,p,k⟩:=ha
 obtain ⟨u,p',k'⟩:=hb
 refine ⟨_,oC p p' hs,λO B σ H env ds Q R e q=>?_⟩
 obtain ⟨r,e1,e2⟩:=bind_some e
 obtain ⟨gm,e4,e3⟩:=bind_some e2
 obtain rfl:=cT e3
 refine k O B σ H env r _ R e1 λv H1 s1 r1=>?_
 refine k' O B σ H1 env gm _ (R.grow s1) e4 λvs H2 s2 r2=>?_
 exact q _ H2 (s1.trans s2) (.cons ((r1.is λq=>R.oo).grow s2) r2)
theorem pG(h:H p=none)(o:HO):au H (upd H p o):=λb u q=>by rw [dk (pF q h)];exact q
noncomputable def aP(f:En->Option (List D)):En->Option Sl:=λenv=>(f env).bind λds=>if ds.length<=16777216 then some (.sh (.tup ds)) else none
noncomputable def bz(f:En->Option (List D)):En->Option Sl:=λenv=>(f env).bind λds=>if ds.length<=16777216 then some (.ow ds) else none
theorem gU{α:Type}{c:Prop}[Decidable c]{x y:α}(h:(if c then some x else none)=some y):c/\x=y:=by
 by_cases hc:c
 .rw [if_pos hc] at h;exact ⟨hc,cT h⟩
 .rw [if_neg hc] at h;cases h
theorem EK{K:aI}{O:Addr->Prop}{H:Hp}{p:Addr}{xs:List V}{ds:List D}(hO:∀q,O q->H q≠none)(hp:H p=none)(h:aN K O H xs ds):Res K O H (upd H p (.tup xs)) (.ref p) (.sh (.tup ds)):=
 Is.tup (λz=>hO p z hp) (.inl pH) (h.grow (pG hp _))
theorem Bn{K:aI}{O:Addr->Prop}{H:Hp}{p:Addr}{xs:List V}{ds:List D}(hp:H p=none)(h:aN K O H xs ds):Res K O H (upd H p (.lst xs)) (.ref p) (.ow ds):=
 ⟨p,xs,rfl,hp,pH,h.map (λq hq hn z=>z.elim hn λw=>hq (by rw [w];exact hp)) λq u e _=>pG hp _ q u e⟩
theorem dj{x1}(h:AV X es fs):EV X (.Tuple es x1 pos) (aP fs):=by
 obtain ⟨t,p,k⟩:=h
 refine ⟨_,b8B p,λO B σ H env r Q R e q=>?_⟩
 obtain ⟨ds,e1,e2⟩:=bind_some e
 obtain ⟨hl,rfl⟩:=gU e2
 refine k O B σ H env ds _ R e1 λvs H1 s1 r1=>⟨by rw [r1.length,iV];exact hl,λp hp=>?_⟩
 exact q _ _ (s1.trans (pG hp _)) ((EK (O:=OO O σ env) (H:=H1) (λ_ z=>(R.grow s1).oo z) hp r1).from s1)
theorem fF(h:AV X es fs):EV X (.List es pos) (bz fs):=by
 obtain ⟨t,p,k⟩:=h
 refine ⟨_,b8F p,λO B σ H env r Q R e q=>?_⟩
 obtain ⟨ds,e1,e2⟩:=bind_some e
 obtain ⟨hl,rfl⟩:=gU e2
 refine k O B σ H env ds _ R e1 λvs H1 s1 r1=>⟨by rw [r1.length,iV];exact hl,λp hp=>?_⟩
 exact q _ _ (s1.trans (pG hp _)) ((Bn hp r1).from s1)
noncomputable def av(f:En->Option (Bool×List D))(g:En->Option Sl):En->Option Sl:=λenv=>(f env).bind λx=>(g env).bind λy=>match y.d with
 | .int i=>(dN x.2 i).map .sh
 | _=>none
theorem aB{fa:En->Option (Bool×List D)}(ha:BV X a fa)(hb:EV X b fb)(hs:PM b:=by exact λ_ _=>rfl):EV X (.Subscript a b pos) (av fa fb):=by
 obtain ⟨t,p,k⟩:=ha
 obtain ⟨u,p',k'⟩:=hb
 refine ⟨_,yC b84 p p' hs,λO B σ H env r Q R e q=>?_⟩
 obtain ⟨⟨kk,ds⟩,e1,e2⟩:=bind_some e
 obtain ⟨y,e2,e3⟩:=bind_some e2
 refine k O B σ H env kk ds _ R e1 λl xs H1 s1 hq hx=>?_
 refine k' O B σ H1 env y _ (R.grow s1) e2 λw H2 s2 r2=>?_
 have hi:=r2.is λq=>(R.grow s1).oo
 cases hd:y.d with
 | int i =>
  rw [hd] at hi e3
  obtain rfl:=iY hi
  dsimp only at e3
  cases h:dN ds i with
  | none=>rw [h] at e3;cases e3
  | some d =>
   rw [h] at e3
   obtain rfl:=cT e3
   obtain ⟨v,h1,h2⟩:=(hx.grow s2).dN h
   have dE:=hq.grow s2
   have fin:=q v H2 (s1.trans s2) h2
   cases kk with
   | true=>exact .inl ⟨l,xs,i,v,rfl,rfl,dE,h1,fin⟩
   | false=>exact .inr (.inl ⟨l,xs,i,v,rfl,rfl,dE,h1,fin⟩)
 | _=>rw [hd] at e3;cases e3
end
noncomputable def LIM:Int:=10^250
theorem b6J(h1:-LIM<=j)(h2:j<=LIM):j.natAbs<2^900:=by
 have e:LIM<(2:Int)^900:=by unfold LIM;decide +kernel
 have e2:((2:Int)^900)=((2^900:Nat):Int):=by simp
 generalize (2^900:Nat)=m at *
 generalize LIM=l at *
 omega
theorem Kc(h1:-LIM<=j)(h2:j<=LIM):j.natAbs.log2<900:=by
 rcases Nat.eq_zero_or_pos j.natAbs with h0 | hp
 .rw [h0];decide
 .exact (Nat.log2_lt (uG hp)).mpr (b6J h1 h2)
theorem Qu(h1:-LIM<=j)(h2:j<=LIM):N5 j<=900:=by
 have:=Kc h1 h2
 unfold N5
 split<;>lia
def MulC(i j:Int):Prop:=(-(2^64)<i/\i<2^64)\/(-(2^64)<j/\j<2^64)\/((-LIM<=i/\i<=LIM)/\(-LIM<=j/\j<=LIM))
noncomputable instance (i j:Int):Decidable (MulC i j):=by unfold MulC;infer_instance
theorem MulC.ok(h:MulC i j):IntMulOk i j:=by
 rcases h with ⟨h1,h2⟩ | ⟨h1,h2⟩ | ⟨⟨h1,h2⟩,h3,h4⟩
 .exact .of_left (DF h1 h2)
 .exact .of_right (DF h1 h2)
 .exact mulOk_of_bits (Qu h1 h2) (Qu h3 h4) (by decide)
def DivC(_ j:Int):Prop:=0<j/\j<=LIM
noncomputable instance (i j:Int):Decidable (DivC i j):=by unfold DivC;infer_instance
def jS(_ j:Int):Prop:=0<j
noncomputable instance (i j:Int):Decidable (jS i j):=by unfold jS;infer_instance
def PowC(i j:Int):Prop:=0<=j/\j<=1000000/\i.natAbs<2^64
noncomputable instance (i j:Int):Decidable (PowC i j):=by unfold PowC;infer_instance
noncomputable def gI(C:Int->Int->Prop)[∀i j,Decidable (C i j)](h:Int->Int->Int):D->D->Option Sl
 | .int i,.int j=>if C i j then some (.sh (.int (h i j))) else none
 | _,_=>none
noncomputable def gB(h:Int->Int->Bool):D->D->Option Sl
 | .int i,.int j=>some (.sh (.bl (h i j)))
 | _,_=>none
section
variable {X:Cx}
theorem wJ{f:Value->Value->Sem Value}{C:Int->Int->Prop}[∀i j,Decidable (C i j)]{h:Int->Int->Int}(ho:gW X f (rI C λi j=>.int (h i j))):jR X f (gI C h):=by
 refine ⟨_,ho,λO H x y a b s Q hO hx hy e q=>?_⟩
 cases a with
 | int i=>cases b with
  | int j =>
   obtain ⟨hc,rfl⟩:=gU (show (if C i j then some (Sl.sh (.int (h i j))) else none)=some s from e)
   exact ⟨i,j,iY hx,iY hy,hc,q _ H (au.refl _) (Is.int _)⟩
  | _=>cases e
 | _=>cases e
theorem JA(ho:gW X f (tN λi j=>.bl (h i j))):jR X f (gB h):=by
 refine ⟨_,ho,λO H x y a b s Q hO hx hy e q=>?_⟩
 cases a with
 | int i=>cases b with
  | int j =>
   obtain rfl:=cT (show some (Sl.sh (.bl (h i j)))=some s from e)
   exact ⟨i,j,iY hx,iY hy,q _ H (au.refl _) (Is.bl _)⟩
  | _=>cases e
 | _=>cases e
noncomputable def du:D->D->Option Sl:=gI MulC λi j=>i*j
noncomputable def bN:D->D->Option Sl:=gI DivC λi j=>i/j
noncomputable def bI:D->D->Option Sl:=gI jS λi j=>i%j
noncomputable def fj:D->D->Option Sl:=gI PowC λi j=>i^j.toNat
noncomputable def bM:D->D->Option Sl:=gI (λ_ _=>True) λi j=>i-j
noncomputable def gf:D->D->Option Sl:=gB λi j=>decide (i<j)
noncomputable def vY:D->D->Option Sl:=gB λi j=>decide (i<=j)
noncomputable def uw:D->D->Option Sl:=gB λi j=>decide (j<i)
noncomputable def Yi:D->D->Option Sl:=gB λi j=>decide (j<=i)
theorem j7:jR X (binaryOp .Mult) du:=wJ (tQ λ_ _ _ _ _ _ _ (hc:MulC _ _) q=>mul_int q hc.ok)
theorem gj:jR X (binaryOp .FloorDiv) bN:=wJ (tQ λi j _ _ _ _ _ (hc:DivC i j) q=>by
 have h1:(0:Int)<j:=hc.1
 have h2:=Kc (j:=j) (by have:(0:Int)<=LIM:=(by decide +kernel);ext h1 this) hc.2
 exact floordiv_int (by ext h1) (by rw [Jp i (by ext h1)];exact q) (.inl (Ou (fq ‹_› (by decide)))))
theorem fx:jR X (binaryOp .Mod) bI:=wJ (tQ λi j _ _ _ _ _ (hc:jS i j) q=>by
 have h1:(0:Int)<j:=hc
 exact mod_int' (by ext h1) (by rw [Int.fmod_eq_emod_of_nonneg i (by ext h1)];exact q))
theorem nM:jR X (binaryOp .Pow) fj:=wJ (tQ λ_ _ _ _ _ _ _ (hc:PowC _ _) q=>pow_int_small hc.1 hc.2.1 hc.2.2 q)
theorem gF:jR X (binaryOp .Sub) bM:=wJ (tQ λ_ _ _ _ _ _ _ _ q=>sub_int q)
theorem gS:jR X (compareOp .Lt) gf:=JA yI
theorem Ef:jR X (compareOp .LtE) vY:=JA yJ
theorem Ba:jR X (compareOp .Gt) uw:=JA yK
noncomputable def bb:D->D->Option Sl
 | .int i,.int j=>some (.sh (.int (i+j)))
 | .lst false a,.lst false b=>if a.length+b.length<=16777216 then some (.ow (a++b)) else none
 | .tup a,.tup b=>if a.length+b.length<=16777216 then some (.sh (.tup (a++b))) else none
 | .str a,.str b=>if a.length+b.length<=16777216 then some (.sh (.str (a++b))) else none
 | _,_=>none
theorem Bk{K:aI}{O:Addr->Prop}{H:Hp}{v:V}{ds:List D}(h:Is K O H v (.tup ds)):∃p xs,v=.ref p/\eO K H p xs/\aN K O H xs ds:=by
 obtain ⟨p,xs,e,h1,h2⟩:=h.seq (k:=false) rfl
 exact ⟨p,xs,e,h1,h2⟩
theorem JO{K:aI}{O:Addr->Prop}{H:Hp}{v:V}{ds:List D}(h:Is K O H v (.lst false ds)):∃p xs,v=.ref p/\¬O p/\H p=some (.lst xs)/\aN K O H xs ds:=by
 cases h with
 | lst ho hp hs=>exact ⟨_,_,rfl,ho,hp,hs⟩
theorem aN.eH{K:aI}{O:Addr->Prop}{H:Hp}{xs:List V}{ds:List D}(h:aN K O H xs ds):xs=[]↔ds=[]:=by cases h<;>simp
theorem Rj{α:Type}{c:Prop}{d:Decidable c}{x y:α}(h:(@ite _ c d (some x) none)=some y):c/\x=y:=gU h
theorem eN:jR X (binaryOp .Add) bb:=by
 refine ⟨_,tP.or (tO.or (qm.or (l8.or b6x))),λO H x y a b s Q hO hx hy e q=>?_⟩
 cases a with
 | int i=>cases b with
  | int j =>
   obtain rfl:=cT (show some (Sl.sh (.int (i+j)))=some s from e)
   exact .inl ⟨i,j,iY hx,iY hy,q _ H (au.refl _) (Is.int _)⟩
  | _=>cases e
 | lst r a=>cases r with
  | true=>cases b<;>cases e
  | false=>cases b with
   | lst r b=>cases r with
    | true=>cases e
    | false =>
     obtain ⟨hl,rfl⟩:=gU (show (if a.length+b.length<=16777216 then some (Sl.ow (a++b)) else none)=some s from e)
     obtain ⟨p1,xs,rfl,_,h1,i1⟩:=JO hx
     obtain ⟨p2,ys,rfl,_,h2,i2⟩:=JO hy
     exact .inr (.inl ⟨p1,p2,xs,ys,rfl,rfl,h1,h2,by rw [i1.length,i2.length,iV];exact hl,λp hp=>q _ _ (pG hp _) (Bn hp (i1.append i2))⟩)
   | _=>cases e
 | tup a=>cases b with
  | tup b =>
   obtain ⟨hl,rfl⟩:=Rj (show (if a.length+b.length<=16777216 then some (Sl.sh (.tup (a++b))) else none)=some s from e)
   obtain ⟨p1,xs,rfl,h1,i1⟩:=Bk hx
   obtain ⟨p2,ys,rfl,h2,i2⟩:=Bk hy
   by_cases h0:a=[]
   .subst h0
    cases i1
    exact .inr (.inr (.inr (.inr ⟨p1,p2,ys,rfl,rfl,h1,h2,q _ H (au.refl _) hy⟩)))
   refine .inr (.inr (.inl ⟨p1,p2,xs,ys,rfl,rfl,h1,h2,λz=>h0 (i1.eH.mp z),by rw [i1.length,i2.length,iV];exact hl,λz=>?_,λz p hp=>q _ _ (pG hp _) (EK hO hp (i1.append i2))⟩))
   have z':=i2.eH.mp z
   subst z'
   rw [oh] at q
   exact q _ H (au.refl _) hx
  | _=>cases e
 | str a=>cases b with
  | str b =>
   obtain ⟨hl,rfl⟩:=gU (show (if a.length+b.length<=16777216 then some (Sl.sh (.str (a++b))) else none)=some s from e)
   exact .inr (.inr (.inr (.inl ⟨a,b,JQ hx,JQ hy,by rw [iV];exact hl,q _ H (au.refl _) (Is.str _)⟩)))
  | _=>cases e
 | _=>cases e
theorem map_some{α β:Type}{o:Option α}{f:α->β}{b:β}(h:o.map f=some b):∃a,o=some a/\f a=b:=by
 cases o with
 | none=>cases h
 | some a=>exact ⟨a,rfl,cT h⟩
noncomputable def D.cS:D->Bool
 | .aU=>true
 | _=>false
theorem PN{K:aI}{O:Addr->Prop}{H:Hp}{x:V}{a:D}(hx:Is K O H x a):decide (x=.aU)=a.cS:=by
 cases hx<;>simp [D.cS]
noncomputable def uv:D->D->Option Sl:=λa b=>if b.cS=true then some (.sh (.bl a.cS)) else none
noncomputable def JB:D->D->Option Sl:=λa b=>if b.cS=true then some (.sh (.bl !a.cS)) else none
theorem Qq{b:D}(h:b.cS=true):b=.aU:=by cases b<;>first | rfl | cases h
theorem b8P:jR X (compareOp .Is) uv:=by
 refine ⟨_,b8L,λO H x y a b s Q hO hx hy e q=>?_⟩
 obtain ⟨hb,rfl⟩:=gU e
 rw [Qq hb] at hy
 exact ⟨JP hy,by rw [PN hx];exact q _ H (au.refl _) (Is.bl _)⟩
theorem b6C:jR X (compareOp .IsNot) JB:=by
 refine ⟨_,b6w,λO H x y a b s Q hO hx hy e q=>?_⟩
 obtain ⟨hb,rfl⟩:=gU e
 rw [Qq hb] at hy
 exact ⟨JP hy,by rw [PN hx];exact q _ H (au.refl _) (Is.bl _)⟩
end
section
variable {X:Cx}{a b c:Expr}{pos p:Pos}{fa fb:En->Option Sl}{es:List Expr}{e:Expr}
def Jw(X:Cx)(f:Value)(g:List D->Option Sl):Prop:=
 ∃r:List V->Hp->VK->Prop,cw X f r/\∀(O:Addr->Prop) (H:Hp) (xs:List V) (ds:List D) (s:Sl) (Q:VK),(∀q,O q->H q≠none)->aN X.K O H xs ds->g ds=some s ->
  (∀v H',au H H'->Res X.K O H H' v s->Q v H')->r xs H Q
noncomputable def uU(g:List D->Option Sl)(fs:En->Option (List D)):En->Option Sl:=λenv=>(fs env).bind g
theorem Bp{id:String}{x:Str}{g:List D->Option Sl}{fs:En->Option (List D)}(hc:Jw X (.builtin id) g)(hg:Gl X x)(hm:X.mg x=none)(hv:bootBuiltins x=some (.builtin id))(ha:AV X (e::es) fs)(hn:x ≠ "__name__":=by decide)(ko:(x==("__debug__":Str))=false:=by decide)
  (he:starEach (e::es) X.env=(false,eval e X.env)::starEach es X.env:=by rfl)(dr:(backTo pos (starEach es X.env)).any (·.1)=false:=by rfl):
  EV X (.Call (.Name x p) (e::es) [] pos) (uU g fs):=by
 obtain ⟨r,hr,Hq⟩:=hc
 obtain ⟨t,pt,k⟩:=ha
 refine ⟨_,sU hr hg hm hv pt hn ko he dr,λO B σ H env s Q R e q=>?_⟩
 obtain ⟨ds,e1,e2⟩:=bind_some e
 refine k O B σ H env ds _ R e1 λvs H1 s1 r1=>?_
 exact Hq (OO O σ env) H1 vs ds s Q (λq=>(R.grow s1).oo) r1 e2 λv H2 s2 r2=>q v H2 (s1.trans s2) (r2.from s1)
noncomputable def A7:List D->Option Sl
 | [.int i,.int j]=>some (.sh (.int (if j<i then j else i)))
 | _=>none
noncomputable def wD:List D->Option Sl
 | [.int i,.int j]=>some (.sh (.int (if j>i then j else i)))
 | _=>none
theorem Rh{K:aI}{O:Addr->Prop}{H:Hp}{xs:List V}{i j:Int}(h:aN K O H xs [.int i,.int j]):xs=[.int i,.int j]:=by
 cases h with
 | cons h t=>cases t with
  | cons h' t=>cases t;rw [iY h,iY h']
theorem Et{g:Int->Int->Option Sl}{ds:List D}{s:Sl}(e:(match ds with | [.int i,.int j]=>g i j | _=>none)=some s):∃i j,ds=[.int i,.int j]/\g i j=some s:=by
 split at e
 .exact ⟨_,_,rfl,e⟩
 .cases e
theorem PZ(hc:X.calm=true):Jw X (.builtin "min") A7:=by
 refine ⟨_,b20 hc,λO H xs ds s Q hO h e q=>?_⟩
 obtain ⟨i,j,rfl,e⟩:=Et (g:=λi j=>some (.sh (.int (if j<i then j else i)))) e
 obtain rfl:=cT e
 exact ⟨i,j,Rh h,q _ H (au.refl _) (Is.int _)⟩
theorem Kv(hc:X.calm=true):Jw X (.builtin "max") wD:=by
 refine ⟨_,b22 hc,λO H xs ds s Q hO h e q=>?_⟩
 obtain ⟨i,j,rfl,e⟩:=Et (g:=λi j=>some (.sh (.int (if j>i then j else i)))) e
 obtain rfl:=cT e
 exact ⟨i,j,Rh h,q _ H (au.refl _) (Is.int _)⟩
noncomputable def aT(f:En->Option (Bool×List D)):En->Option Sl:=λenv=>(f env).map λx=>.sh (.int x.2.length)
noncomputable def eList(f:En->Option (Bool×List D)):En->Option Sl:=λenv=>(f env).map λx=>.ow x.2
noncomputable def Bj(f:En->Option (Bool×List D)):En->Option Sl:=λenv=>(f env).bind λx=>if x.1=true then some (.sh (.tup x.2)) else none
variable {ba:En->Option (Bool×List D)}
theorem dv(hg:Gl X "len")(hm:X.mg "len" = none)(ha:BV X a ba)(hs:starEach [a] X.env=[(false,eval a X.env)]:=by rfl):EV X (.Call (.Name "len" p) [a] [] pos) (aT ba):=by
 obtain ⟨t,pt,k⟩:=ha
 refine ⟨_,sU a89 hg hm PySem.boot_len (oC pt pC hs) (by decide) (by decide) hs rfl,λO B σ H env s Q R e q=>?_⟩
 obtain ⟨⟨kk,ds⟩,e1,rfl⟩:=map_some e
 refine k O B σ H env kk ds _ R e1 λl xs H1 s1 hq hx=>⟨l,xs,rfl,?_,?_⟩
 .cases kk with
  | true=>exact .inl hq
  | false=>exact .inr hq
 .rw [hx.length]
  exact q _ H1 s1 (Is.int _)
theorem Qn(hg:Gl X "tuple")(hm:X.mg "tuple" = none)(ha:BV X a ba)(hs:starEach [a] X.env=[(false,eval a X.env)]:=by rfl):EV X (.Call (.Name "tuple" p) [a] [] pos) (Bj ba):=by
 obtain ⟨t,pt,k⟩:=ha
 refine ⟨_,b13 a7U hg hm (by decide +kernel) (oC pt pC hs) (by decide) (by decide) hs rfl,λO B σ H env s Q R e q=>?_⟩
 obtain ⟨⟨kk,ds⟩,e1,e2⟩:=bind_some e
 obtain ⟨h1,rfl⟩:=gU e2
 refine k O B σ H env kk ds _ R e1 λl xs H1 s1 hq hx=>⟨l,xs,rfl,?_⟩
 cases (show kk=true from h1)
 exact .inl ⟨hq,λp hp=>q _ _ (s1.trans (pG hp _)) ((EK (O:=OO O σ env) (H:=H1) (λ_ z=>(R.grow s1).oo z) hp hx).from s1)⟩
end
section
variable {K:aI}{O:Addr->Prop}{B H H1:Hp}{σ:L2.St}{env:En}{v:V}{r:Sl}{i:Nat}
theorem b6u(h:lh (σ.set i (some v)) (env.set i r) q):lh σ env q\/(r.own/\v=.ref q):=by
 obtain ⟨j,t,h1,ho,h2⟩:=h
 by_cases hj:i=j
 .subst hj
  rw [Jj] at h1 h2
  rw [if_pos rfl] at h1 h2
  split at h1
  .cases h1
   split at h2
   .cases h2;exact .inr ⟨ho,rfl⟩
   .cases h2
  .cases h1
 .rw [fE hj] at h1 h2
  exact .inl ⟨j,t,h1,ho,h2⟩
theorem Res.fresh(h:Res K O B H v r)(ho:r.own):∃p,v=.ref p/\B p=none/\H p≠none:=by
 cases r with
 | no=>exact ho.elim
 | sh d=>exact ho.elim
 | ow ds=>obtain ⟨p,xs,e1,e2,e3,_⟩:=h;exact ⟨p,e1,e2,by rw [e3];exact λz=>nomatch z⟩
 | dw bB=>obtain ⟨p,e1,e2,e3⟩:=h;exact ⟨p,e1,e2,by rw [e3];exact λz=>nomatch z⟩
theorem Rel.set(R:Rel K O B σ H env)(s:au H H1)(h:Res K (OO O σ env) H H1 v r)(hi:i<env.length):
  Rel K O B (σ.set i (some v)) H1 (env.set i r)/\Gd σ env H (σ.set i (some v)) (env.set i r) H1:=by
 have new:∀q,lh (σ.set i (some v)) (env.set i r) q->lh σ env q\/(H q=none/\r.own/\v=.ref q):=λq z=>by
  rcases b6u z with z | ⟨ho,rfl⟩
  .exact .inl z
  .obtain ⟨p,e1,e2,_⟩:=h.fresh ho
   cases e1
   exact .inr ⟨e2,ho,rfl⟩
 have hO:∀q,H q≠none->¬OO O σ env q->¬OO O (σ.set i (some v)) (env.set i r) q:=λq hq hn z=>by
  rcases z with z | z
  .exact hn (.inl z)
  .rcases new q z with z | ⟨z,_⟩
   .exact hn (.inr z)
   .exact hq z
 have hH:∀q u,H q=some u->¬OO O σ env q->H1 q=some u:=λq u e _=>s q u e
 have kn:i<σ.length:=by rw [R.len];exact hi
 refine ⟨⟨R.same.trans s,R.mQ,by simp [R.len],λj d e=>?_,λj ds e=>?_,λj bB e=>?_,λj k ds es p e1 e2 e3 e4 o1 o2=>?_⟩,λq u e n=>⟨s q u e,λz=>?_⟩⟩
 .by_cases hj:i=j
  .subst hj
   rw [jo hi] at e
   cases e
   refine ⟨v,by rw [jo kn],Is.less (O:=OO O σ env) (λq z=>z.elim .inl λz=>?_) h⟩
   rcases new q z with z | ⟨_,z,_⟩
   .exact .inr z
   .exact z.elim
  .rw [fE hj] at e
   obtain ⟨w,e1,h1⟩:=R.sh j d e
   exact ⟨w,by rw [fE hj];exact e1,h1.map hO hH⟩
 .by_cases hj:i=j
  .subst hj
   rw [jo hi] at e
   cases e
   obtain ⟨p,xs,rfl,e2,e3,h1⟩:=h
   refine ⟨p,xs,by rw [jo kn],R.same.free e2,e3,h1.less λq z=>?_⟩
   rcases z with z | z
   .exact .inl (.inl z)
   .rcases new q z with z | ⟨_,_,z⟩
    .exact .inl (.inr z)
    .cases z;exact .inr rfl
  .rw [fE hj] at e
   obtain ⟨p,xs,e1,e2,e3,h1⟩:=R.ow j ds e
   exact ⟨p,xs,by rw [fE hj];exact e1,e2,s _ _ e3,h1.map hO hH⟩
 .by_cases hj:i=j
  .subst hj
   rw [jo hi] at e
   cases e
   obtain ⟨p,rfl,e2,e3⟩:=h
   exact ⟨p,by rw [jo kn],R.same.free e2,e3⟩
  .rw [fE hj] at e
   obtain ⟨p,e1,e2,e3⟩:=R.dw j bB e
   exact ⟨p,by rw [fE hj];exact e1,e2,s _ _ e3⟩
 .have other:∀j t,j≠i->env[j]?=some t->t.own->σ[j]?=some (some (V.ref p))->r.own->v≠.ref p:=λj t hj e ho e' hr z=>by
   obtain ⟨p',rfl,e2,_⟩:=h.fresh hr
   cases z
   obtain ⟨p2,u,e5,_,e6⟩:=R.ad e ho
   rw [e'] at e5
   cases e5
   rw [e2] at e6
   cases e6
  by_cases hj:i=j
  .by_cases hk:i=k
   .rw [<-hj,<-hk]
   .subst hj
    rw [jo hi] at e1
    rw [jo kn] at e3
    rw [fE hk] at e2 e4
    cases e1
    cases e3
    exact absurd rfl (other k es (gy hk) e2 o2 e4 o1)
  .by_cases hk:i=k
   .subst hk
    rw [jo hi] at e2
    rw [jo kn] at e4
    rw [fE hj] at e1 e3
    cases e2
    cases e4
    exact absurd rfl (other j ds (gy hj) e1 o1 e3 o2)
   .rw [fE hj] at e1 e3
    rw [fE hk] at e2 e4
    exact R.sep j k ds es p e1 e2 e3 e4 o1 o2
 .rcases new q z with z | ⟨z,_⟩
  .exact n z
  .rw [e] at z;cases z
theorem Rel.S0{p:Addr}{u':HO}{t t':Sl}(R:Rel K O B σ H env)(he:env[i]?=some t)(ho:t.own)(mi:t'.own)(hs:σ[i]?=some (some (V.ref p)))
  (hx:(∀gm,t'=.ow gm->∃jv,u'=.lst jv/\aN K (OO O σ env) H jv gm)/\∀y2,t'=.dw y2->u'=H9 y2):
  Rel K O B σ (upd H p u') (env.set i t')/\Gd σ env H σ (env.set i t') (upd H p u'):=by
 have hi:i<env.length:=(j0.mp he).1
 have own:∀q,lh σ (env.set i t') q->lh σ env q:=λq ⟨j,es,e1,e3,e2⟩=>by
  by_cases hj:i=j
  .subst hj;exact ⟨i,t,he,ho,e2⟩
  .rw [fE hj] at e1;exact ⟨j,es,e1,e3,e2⟩
 have yG:lh σ env p:=⟨i,t,he,ho,hs⟩
 obtain ⟨p0,u0,f1,f2,f3⟩:=R.ad he ho
 rw [hs] at f1
 cases f1
 have hO:∀q,H q≠none->¬OO O σ env q->¬OO O σ (env.set i t') q:=λq _ hn z=>hn (z.elim .inl λz=>.inr (own q z))
 have hH:∀q u,H q=some u->¬OO O σ env q->upd H p u' q=some u:=λq u e n=>by
  rw [dk (λz=>n (.inr (by rw [z];exact yG)))]
  exact e
 refine ⟨⟨λq u e=>?_,R.mQ,by simp [R.len],λj d e=>?_,λj es e=>?_,λj bB e=>?_,λj k es fs q e1 e2 e3 e4 o1 o2=>?_⟩,λq u e n=>⟨?_,λz=>n (own q z)⟩⟩
 .rw [dk (pF e f2)];exact R.same q u e
 .by_cases hj:i=j
  .subst hj;rw [jo hi] at e;cases e;exact mi.elim
  .rw [fE hj] at e
   obtain ⟨w,e1,h1⟩:=R.sh j d e
   exact ⟨w,e1,h1.map hO hH⟩
 .by_cases hj:i=j
  .subst hj
   rw [jo hi] at e
   cases e
   obtain ⟨jv,hu,jU⟩:=hx.1 _ rfl
   exact ⟨p,jv,hs,f2,by rw [pH,hu],jU.map hO hH⟩
  .rw [fE hj] at e
   obtain ⟨p2,FF,e1,e2,e3,h1⟩:=R.ow j es e
   refine ⟨p2,FF,e1,e2,?_,h1.map hO hH⟩
   rw [dk (λz=>hj (R.sep i j t _ p he e hs (by rw [e1,z]) ho trivial))]
   exact e3
 .by_cases hj:i=j
  .subst hj
   rw [jo hi] at e
   cases e
   exact ⟨p,hs,f2,by rw [pH,hx.2 _ rfl]⟩
  .rw [fE hj] at e
   obtain ⟨p2,e1,e2,e3⟩:=R.dw j bB e
   refine ⟨p2,e1,e2,?_⟩
   rw [dk (λz=>hj (R.sep i j t _ p he e hs (by rw [e1,z]) ho trivial))]
   exact e3
 .have fix:∀(j:Nat) (es:Sl),(env.set i t')[j]?=some es->es.own->∃gs:Sl,env[j]?=some gs/\gs.own:=λj es e o=>by
   by_cases hj:i=j
   .subst hj;exact ⟨t,he,ho⟩
   .rw [fE hj] at e;exact ⟨es,e,o⟩
  obtain ⟨g1,h1,q1⟩:=fix j es e1 o1
  obtain ⟨g2,h2,q2⟩:=fix k fs e2 o2
  exact R.sep j k g1 g2 q h1 h2 e3 e4 q1 q2
 .rw [dk (λz=>n (by rw [z];exact yG))];exact e
theorem Rel.wr(R:Rel K O B σ H env)(he:env[i]?=some (Sl.ow ds))(hs:σ[i]?=some (some (V.ref p)))(hx:aN K (OO O σ env) H jv gm):
  Rel K O B σ (upd H p (.lst jv)) (env.set i (.ow gm))/\Gd σ env H σ (env.set i (.ow gm)) (upd H p (.lst jv)):=
 R.S0 (t':=.ow gm) he trivial trivial hs (c47 (λ_ e=>by cases e;exact ⟨jv,rfl,hx⟩) λ_ e=>nomatch e)
theorem Rel.Ab{t:Sl}(R:Rel K O B σ H env)(he:env[i]?=some t)(ho:t.own):Rel K O B σ H (env.set i (.sh t.d))/\Gd σ env H σ (env.set i (.sh t.d)) H:=by
 have hi:i<env.length:=(j0.mp he).1
 obtain ⟨p,u0,f1,f2,f3⟩:=R.ad he ho
 have own:∀q,lh σ (env.set i (.sh t.d)) q->lh σ env q/\q≠p:=λq ⟨j,es,e1,o,e2⟩=>by
  by_cases hj:i=j
  .subst hj;rw [jo hi] at e1;cases e1;exact o.elim
  .rw [fE hj] at e1
   exact ⟨⟨j,es,e1,o,e2⟩,λz=>hj (R.sep i j t es p he e1 f1 (by rw [e2,z]) ho o)⟩
 have less:∀q,OO O σ (env.set i (.sh t.d)) q->OO O σ env q:=λq z=>z.elim .inl λz=>.inr (own q z).1
 have np:¬OO O σ (env.set i (.sh t.d)) p:=λz=>z.elim (λz=>R.mQ.1 p z f2) λz=>(own p z).2 rfl
 refine ⟨⟨R.same,R.mQ,by simp [R.len],λj d e=>?_,λj es e=>?_,λj bB e=>?_,λj k es fs q e1 e2 e3 e4 o1 o2=>?_⟩,λq u e n=>⟨e,λz=>n (own q z).1⟩⟩
 .by_cases hj:i=j
  .subst hj
   rw [jo hi] at e
   cases e
   refine ⟨.ref p,f1,?_⟩
   cases t with
   | no=>exact ho.elim
   | sh d=>exact ho.elim
   | ow ds =>
    obtain ⟨p',xs,g1,g2,g3,g4⟩:=R.ow i ds he
    rw [f1] at g1;cases g1
    exact .lst np g3 (g4.less less)
   | dw bB =>
    obtain ⟨p',g1,g2,g3⟩:=R.dw i bB he
    rw [f1] at g1;cases g1
    exact .fB np g3
  .rw [fE hj] at e
   obtain ⟨w,e1,h1⟩:=R.sh j d e
   exact ⟨w,e1,h1.less less⟩
 .by_cases hj:i=j
  .subst hj;rw [jo hi] at e;cases e
  .rw [fE hj] at e
   obtain ⟨p2,FF,e1,e2,e3,h1⟩:=R.ow j es e
   exact ⟨p2,FF,e1,e2,e3,h1.less less⟩
 .by_cases hj:i=j
  .subst hj;rw [jo hi] at e;cases e
  .rw [fE hj] at e
   exact R.dw j bB e
 .have fix:∀(j:Nat) (es:Sl),(env.set i (.sh t.d))[j]?=some es->es.own->env[j]?=some es:=λj es e o=>by
   by_cases hj:i=j
   .subst hj;rw [jo hi] at e;cases e;exact o.elim
   .rw [fE hj] at e;exact e
  exact R.sep j k es fs q (fix j es e1 o1) (fix k fs e2 o2) e3 e4 o1 o2
theorem Rel.jW{ds:List D}(R:Rel K O B σ H env)(he:env[i]?=some (Sl.ow ds)):Rel K O B σ H (env.set i (.sh (.lst false ds)))/\Gd σ env H σ (env.set i (.sh (.lst false ds))) H:=R.Ab he trivial
end
section
variable {X:Cx}{st:Stmt}{rest:List Stmt}{F G:SF}{a b c e:Expr}{fa:En->Option Sl}{ga:En->Option Bool}{pos:Pos}
noncomputable def cR:SF:=λenv=>some (.nx,env)
noncomputable def F2:SF:=λenv=>some (.bk,env)
noncomputable def Ud:SF:=λenv=>some (.ct,env)
noncomputable def ai(F G:SF):SF:=λenv=>match F env with
 | some (.nx,bW)=>G bW
 | r=>r
theorem dO:kY X [] cR:=⟨_,b6j,λO B σ H env fl aj D R e q=>by
 cases (show some (Fl.nx,env)=some (fl,aj) from e)
 exact q σ H R (Gd.refl (au.refl _))⟩
theorem aK(h:SV X st F):kY X [st] F:=let ⟨t,p,k⟩:=h;⟨t,b6i p,k⟩
theorem aE(h:SV X st F)(h2:kY X rest G):kY X (st::rest) (ai F G):=by
 obtain ⟨t,p,k⟩:=h
 obtain ⟨u,p',k'⟩:=h2
 refine ⟨_,b3M p p',λO B σ H env fl aj D R e q=>?_⟩
 unfold ai at e
 cases hF:F env with
 | none=>rw [hF] at e;cases e
 | some x =>
  obtain ⟨f1,bW⟩:=x
  rw [hF] at e
  refine k O B σ H env f1 bW _ R hF ?_
  cases f1 with
  | nx=>exact λaJ H' R' g'=>k' O B aJ H' bW fl aj D R' e (q.from g')
  | bk=>cases e;exact q
  | ct=>cases e;exact q
  | rt r=>cases e;exact q
theorem b3x:SV X (.Break pos) F2:=⟨_,b3O,λO B σ H env fl aj D R e q=>by
 cases (show some (Fl.bk,env)=some (fl,aj) from e)
 exact q σ H R (Gd.refl (au.refl _))⟩
noncomputable def cC(c:En->Option Bool)(F G:SF):SF:=λenv=>match c env with
 | some true=>F env
 | some false=>G env
 | none=>none
theorem dB(hc:TV X c ga)(ha:kY X sa F)(hb:kY X sb G):SV X (.If c sa sb pos) (cC ga F G):=by
 obtain ⟨tc,pc,kc⟩:=hc
 obtain ⟨t,p,k⟩:=ha
 obtain ⟨u,p',k'⟩:=hb
 refine ⟨_,yx pc p p',λO B σ H env fl aj D R e q=>?_⟩
 unfold cC at e
 cases h:ga env with
 | none=>rw [h] at e;cases e
 | some x =>
  rw [h] at e
  refine kc O B σ H env x _ R h λH1 s1=>?_
  cases x with
  | true =>
   rw [if_pos rfl]
   exact k O B σ H1 env fl aj D (R.grow s1) e (q.from (Gd.refl s1))
  | false =>
   rw [if_neg mv]
   exact k' O B σ H1 env fl aj D (R.grow s1) e (q.from (Gd.refl s1))
noncomputable def az(f:En->Option Sl):SF:=λenv=>(f env).map λr=>(.rt r,env)
theorem bj(h:EV X e fa):SV X (.Return (some e) pos) (az fa):=by
 obtain ⟨t,p,k⟩:=h
 refine ⟨_,O5 p,λO B σ H env fl aj D R e q=>?_⟩
 obtain ⟨r,e1,e2⟩:=map_some e
 cases e2
 exact k O B σ H env r _ R e1 λv H1 s1 r1=>q v H1 (R.same.trans s1) ((r1.from R.same).less λq z=>.inl z)
noncomputable def yh:SF:=λenv=>some (.rt (.sh .aU),env)
noncomputable def oA(i:Nat):SF:=λenv=>match env[i]? with
 | some (.ow ds)=>some (.rt (.ow ds),env)
 | some (.dw ds)=>some (.rt (.dw ds),env)
 | some (.sh d)=>some (.rt (.sh d),env)
 | _=>none
theorem b58(i:Nat){x:Str}{p2:Pos}(hN:X.N[i]?=some x:=by rfl)(hv:iN X.env.scope x:=by first | exact cD rfl | exact bH (cD rfl) | exact bH (bH rfl))(hd:(x==("__debug__":Str))=false:=by decide)
  (c7:(x==("__classdict__":Str))=false:=by decide):SV X (.Return (some (.Name x p2)) pos) (oA i):=by
 refine ⟨_,O5 (sO hN hv hd c7),λO B σ H env fl aj D R e q=>?_⟩
 unfold oA at e
 cases h:env[i]? with
 | none=>rw [h] at e;cases e
 | some s =>
  rw [h] at e
  cases s with
  | no=>cases e
  | sh d =>
   cases e
   obtain ⟨v,e2,hv⟩:=R.sh i d h
   exact ⟨v,e2,q v H R.same (Is.less (λq z=>.inl z) hv)⟩
  | ow ds =>
   cases e
   obtain ⟨p,xs,e1,e2,e3,h1⟩:=R.ow i ds h
   exact ⟨_,e1,q _ H R.same ⟨p,xs,rfl,e2,e3,h1.less λq z=>z.elim .inl λz=>.inr ⟨i,.ow ds,h,trivial,by rw [z];exact e1⟩⟩⟩
  | dw bB =>
   cases e
   obtain ⟨p,e1,e2,e3⟩:=R.dw i bB h
   exact ⟨_,e1,q _ H R.same ⟨p,rfl,e2,e3⟩⟩
noncomputable def c6(i:Nat)(f:En->Option Sl):SF:=λenv=>(f env).bind λr=>if i<env.length then some (.nx,env.set i r) else none
theorem Pa(hN:X.N.Nodup)(hi:X.N[i]?=some x)(hx:Loc X.env.scope x)(he:EV X e fa)(hs:swapsWith e (some (.Name x pos')) pos.line X.env=pure false:=by rfl)(hf:X.fn x=true\/X.env.scope.names.lookup x=some .local:=by first | exact .inl rfl | exact .inr rfl | assumption):
  SV X (.Assign [.Name x pos'] e pos) (c6 i fa):=by
 obtain ⟨t,p,k⟩:=he
 refine ⟨_,J1 hN hi hx p hs hf,λO B σ H env fl aj D R e q=>?_⟩
 obtain ⟨r,e1,e2⟩:=bind_some e
 obtain ⟨hl,e3⟩:=gU e2
 cases e3
 refine k O B σ H env r _ R e1 λv H1 s1 r1=>?_
 obtain ⟨R',g'⟩:=R.set s1 r1 hl
 exact q _ H1 R' g'
noncomputable def aY(i:Nat)(f:En->Option Sl):SF:=λenv=>(f env).bind λr=>if i<env.length then some (.nx,env.set i (.sh r.d)) else none
theorem Qm(hN:X.N.Nodup)(hi:X.N[i]?=some x)(hx:Loc X.env.scope x)(he:EV X e fa)(hs:swapsWith e (some (.Name x pos')) pos.line X.env=pure false:=by rfl)(hf:X.fn x=true\/X.env.scope.names.lookup x=some .local:=by first | exact .inl rfl | exact .inr rfl | assumption):
  SV X (.Assign [.Name x pos'] e pos) (aY i fa):=by
 obtain ⟨t,p,k⟩:=he
 refine ⟨_,J1 hN hi hx p hs hf,λO B σ H env fl aj D R e q=>?_⟩
 obtain ⟨r,e1,e2⟩:=bind_some e
 obtain ⟨hl,e3⟩:=gU e2
 cases e3
 refine k O B σ H env r _ R e1 λv H1 s1 r1=>?_
 obtain ⟨R',g'⟩:=R.set (r:=.sh r.d) s1 (r1.is λq=>R.oo) hl
 exact q _ H1 R' g'
noncomputable def yi(f:En->Option Sl):SF:=λenv=>(f env).map λ_=>(.nx,env)
noncomputable def o5(i:Nat)(env:En):En:=match env[i]? with
 | some (.ow ds)=>env.set i (.sh (.lst false ds))
 | some (.dw ds)=>env.set i (.sh (.fB false ds))
 | _=>env
noncomputable def l4(i:Nat)(F:SF):SF:=λenv=>F (o5 i env)
theorem Es(i:Nat)(h:SV X st F):SV X st (l4 i F):=by
 obtain ⟨t,p,k⟩:=h
 refine ⟨t,p,λO B σ H env fl aj D R e q=>?_⟩
 unfold l4 o5 at e
 cases h:env[i]? with
 | none=>rw [h] at e;exact k O B σ H env fl aj D R e q
 | some s =>
  rw [h] at e
  cases s with
  | no=>exact k O B σ H env fl aj D R e q
  | sh d=>exact k O B σ H env fl aj D R e q
  | ow ds =>
   obtain ⟨R',g'⟩:=R.jW h
   exact k O B σ H _ fl aj D R' e (q.from g')
  | dw ds =>
   obtain ⟨R',g'⟩:=R.Ab h trivial
   exact k O B σ H _ fl aj D R' e (q.from g')
noncomputable def cK(i:Nat)(f:En->Option Sl):SF:=λenv=>match env[i]? with
 | some (.ow ds)=>(f env).bind λr=>if ds.length<16777216 then some (.nx,env.set i (.ow (ds++[r.d]))) else none
 | _=>none
theorem Rc{i:Nat}{x:Str}{p1 p2 aR:Pos}(ha:EV X e fa)(hN:X.N[i]?=some x:=by rfl)(hv:iN X.env.scope x:=by first | exact cD rfl | exact bH (cD rfl) | exact bH (bH rfl))(hd:(x==("__debug__":Str))=false:=by decide)
  (c7:(x==("__classdict__":Str))=false:=by decide)(hs:starEach [e] X.env=[(false,eval e X.env)]:=by rfl)
  (cu:attributeBase (.Name x p1) "append" X.env (eval (.Name x p1) X.env)=eval (.Name x p1) X.env:=by rfl)
  (il:((backTo aR (starEach [e] X.env)).all (λx=>!x.1)&&(backToKw aR (keywordEach [] X.env)).all (λx=>x.1.isSome)
   && decide ([e].length+([]:List Keyword).length+(if ([]:List Keyword).isEmpty then 0 else 1)<30))=true:=by rfl)
  (cn:(p2.endLine==aR.line)=true:=by rfl)
  (qw:swapsWith (.Call (.Attribute (.Name x p1) "append" p2) [e] [] aR) none pos.line X.env=pure false:=by rfl):
  SV X (.Expr (.Call (.Attribute (.Name x p1) "append" p2) [e] [] aR) pos) (cK i fa):=by
 obtain ⟨t,p,k⟩:=ha
 refine ⟨_,Qg (O0 Ju NV PySem.F.type_list_append b2d (sO hN hv hd c7) (oC p pC hs) cu il cn hs rfl) qw,λO B σ H env fl aj D R e q=>?_⟩
 unfold cK at e
 cases h:env[i]? with
 | none=>rw [h] at e;cases e
 | some s =>
  rw [h] at e
  cases s with
  | no=>cases e
  | sh d=>cases e
  | dw bB=>cases e
  | ow ds =>
   obtain ⟨r,e1,e2⟩:=bind_some e
   obtain ⟨hl,e3⟩:=gU e2
   cases e3
   obtain ⟨l,xs,f1,f2,f3,f4⟩:=R.ow i ds h
   refine ⟨_,f1,.inl ⟨rfl,_,eQ.of f3⟩,?_⟩
   refine k O B σ H env r _ R e1 λv H1 s1 r1=>⟨l,xs,v,rfl,rfl,s1 _ _ f3,by rw [f4.length,iV];exact hl,?_⟩
   obtain ⟨R',g'⟩:=(R.grow s1).wr h f1 ((f4.grow s1).append (.cons (r1.is λq=>R.oo) .nil))
   exact q _ _ R' (g'.from s1)
end
section
variable {X:Cx}{st:Stmt}{F:SF}{a b c e tg it:Expr}{fa:En->Option Sl}{ba:En->Option (Bool×List D)}{ga:En->Option Bool}{pos:Pos}
noncomputable abbrev GF:=D->En->Option En
def GV(X:Cx)(tg:Expr)(g:GF):Prop:=
 ∃t:TG,PG X tg t/\∀(O:Addr->Prop) (B:Hp) (σ:L2.St) (H:Hp) (env aj:En) (v:V) (d:D) (Q:L2.St->Hp->Prop),Rel X.K O B σ H env->Is X.K (OO O σ env) H v d->g d env=some aj ->
  (∀aJ H',Rel X.K O B aJ H' aj->Gd σ env H aJ aj H'->Q aJ H')->t v σ H Q
noncomputable def gN(i:Nat):GF:=λd env=>if i<env.length then some (env.set i (.sh d)) else none
theorem b6Q(hN:X.N.Nodup)(hi:X.N[i]?=some x)(hx:Loc X.env.scope x)(hf:X.fn x=true\/X.env.scope.names.lookup x=some .local:=by first | exact .inl rfl | exact .inr rfl | assumption):GV X (.Name x pos) (gN i):=by
 refine ⟨_,b6o hN hi hx hf,λO B σ H env aj v d Q R h e q=>?_⟩
 obtain ⟨hl,rfl⟩:=gU e
 obtain ⟨R',g'⟩:=R.set (r:=.sh d) (au.refl _) h hl
 exact q _ H R' g'
noncomputable abbrev vI:=List D->En->Option En
def FC(X:Cx)(tg:List Expr)(g:vI):Prop:=
 ∃t:tz,Cg X tg t/\∀(O:Addr->Prop) (B:Hp) (σ:L2.St) (H:Hp) (env aj:En) (v:List V) (d:List D) (Q:L2.St->Hp->Prop),Rel X.K O B σ H env->aN X.K (OO O σ env) H v d->g d env=some aj ->
  (∀aJ H',Rel X.K O B aJ H' aj->Gd σ env H aJ aj H'->Q aJ H')->t v σ H Q
noncomputable def qY:vI:=λds env=>match ds with
 | []=>some env
 | _::_=>none
noncomputable def iL(g:GF)(u:vI):vI:=λds env=>match ds with
 | d::r=>(g d env).bind (u r)
 | []=>none
theorem uX:FC X [] qY:=by
 refine ⟨_,b6n,λO B σ H env aj v d Q R h e q=>?_⟩
 cases h with
 | nil=>cases e;exact ⟨rfl,q σ H R (Gd.refl (au.refl _))⟩
 | cons _ _=>cases e
theorem Gd.CK{K:aI}{O:Addr->Prop}{σ aJ:L2.St}{env aj:En}{H H':Hp}(g:Gd σ env H aJ aj H'){v:List V}{d:List D}(h:aN K (OO O σ env) H v d):aN K (OO O aJ aj) H' v d:=
 h.map (λq hq hn z=>by
  cases e:H q with
  | none=>exact hq e
  | some u =>
   obtain ⟨_,n'⟩:=g q u e λw=>hn (.inr w)
   exact z.elim (λw=>hn (.inl w)) n') λq u e n=>(g q u e λw=>n (.inr w)).1
theorem jq{es:List Expr}{g:GF}{u:vI}(h1:GV X e g)(h2:FC X es u)
  (hs:(assignEach (e::es) X.env).map (·.2)=assign e X.env::(assignEach es X.env).map (·.2):=by rfl):FC X (e::es) (iL g u):=by
 obtain ⟨t,p,k⟩:=h1
 obtain ⟨t',p',k'⟩:=h2
 refine ⟨_,b3S p p' hs,λO B σ H env aj v d Q R h e q=>?_⟩
 cases h with
 | nil=>cases e
 | cons h ht =>
  obtain ⟨bW,e1,e2⟩:=bind_some (show (g _ env).bind (u _)=some aj from e)
  refine ⟨_,_,rfl,k O B σ H env bW _ _ _ R h e1 λiI H1 R1 g1=>?_⟩
  exact k' O B iI H1 bW aj _ _ Q R1 (g1.CK ht) e2 λcO H2 R2 g2=>q cO H2 R2 (g1.trans g2)
noncomputable def gT(n:Nat)(u:vI):GF:=λd env=>match d with
 | .tup ds=>if ds.length=n then u ds env else none
 | _=>none
theorem uV{es:List Expr}{k n:Nat}{u:vI}(hc:X.calm=true)(h:FC X es u)(hn:(assignEach es X.env).length=n:=by rfl)(CS:(assignEach es X.env).findIdx? (·.1)=none:=by rfl):GV X (.Tuple es k pos) (gT n u):=by
 obtain ⟨t,p,k'⟩:=h
 refine ⟨_,b8z hc p hn CS,λO B σ H env aj v d Q R h e q=>?_⟩
 cases d with
 | tup ds =>
  have e':(if ds.length=n then u ds env else none)=some aj:=e
  by_cases hl:ds.length=n
  .rw [if_pos hl] at e'
   obtain ⟨a,xs,rfl,h1,h2⟩:=Bk h
   exact ⟨a,xs,rfl,h1,by rw [h2.length];exact hl,k' O B σ H env aj xs ds Q R h2 e' q⟩
  .rw [if_neg hl] at e';cases e'
 | _=>cases e
noncomputable def yj(f:En->Option Sl)(g:GF):SF:=λenv=>(f env).bind λr=>(g r.d env).map λaj=>(.nx,aj)
noncomputable def forL(g:GF)(F:SF):List D->SF
 | [],env=>some (.nx,env)
 | d::ds,env=>match g d env with
  | none=>none
  | some bW=>match F bW with
   | some (.nx,bx)=>forL g F ds bx
   | some (.ct,bx)=>forL g F ds bx
   | some (.bk,bx)=>some (.nx,bx)
   | some (.rt r,bx)=>some (.rt r,bx)
   | none=>none
structure Left(K:aI)(O:Addr->Prop)(B:Hp)(qc:L2.St)(H0:Hp)(gx:En)(g:GF)(F:SF)(ds:List D)(fl:Fl)(aj:En)(i:Nat)(σ:L2.St)(H:Hp):Prop where
 ex:∃env,Rel K O B σ H env/\Gd qc gx H0 σ env H/\forL g F (ds.drop i) env=some (fl,aj)
theorem K2{g:GF}{qg:TG}{tb:TS}{O:Addr->Prop}{B:Hp}{qc:L2.St}{H0:Hp}{gx aj:En}{fl:Fl}{D:Ends}{ds:List DL.D}{xs:List V}{i:Nat}{x:V}{σ:L2.St}{H:Hp}
  (kg:∀(O:Addr->Prop) (B:Hp) (σ:L2.St) (H:Hp) (env aj:En) (v:V) (d:DL.D) (Q:L2.St->Hp->Prop),Rel X.K O B σ H env->Is X.K (OO O σ env) H v d->g d env=some aj ->
   (∀aJ H',Rel X.K O B aJ H' aj->Gd σ env H aJ aj H'->Q aJ H')->qg v σ H Q)
  (kb:∀(O:Addr->Prop) (B:Hp) (σ:L2.St) (H:Hp) (env:En) (fl:Fl) (aj:En) (D:Ends),Rel X.K O B σ H env->F env=some (fl,aj)->dC X.K O B σ H env D fl aj->tb D σ H)
  (hx:aN X.K (OO O qc gx) H0 xs ds)(hi:xs[i]?=some x)(q:dC X.K O B qc H0 gx D fl aj)(h:Left X.K O B qc H0 gx g F ds fl aj i σ H):
  qg x σ H λcO H2=>tb { D with nx:=Left X.K O B qc H0 gx g F ds fl aj (i+1),ct:=Left X.K O B qc H0 gx g F ds fl aj (i+1),bk:=D.nx } cO H2:=by
 obtain ⟨env,R,gd,e⟩:=h
 obtain ⟨d,hd,_⟩:=hx.o4 hi
 have Hm:i<ds.length:=(j0.mp hd).1
 have zN:ds.drop i=d::ds.drop (i+1):=by
  rw [nG Hm]
  rw [ot Hm] at hd
  rw [cT hd]
 obtain ⟨x',jU,Xj⟩:=(gd.CK hx).get hd
 rw [hi] at jU
 cases jU
 rw [zN,forL] at e
 cases hg:g d env with
 | none=>rw [hg] at e;cases e
 | some bW =>
  rw [hg] at e
  refine kg O B σ H env bW x d _ R Xj hg λiI H1 R1 g1=>?_
  dsimp only at e
  cases hF:F bW with
  | none=>rw [hF] at e;cases e
  | some y =>
   obtain ⟨f2,bx⟩:=y
   rw [hF] at e
   have go:=gd.trans g1
   refine kb O B iI H1 bW f2 bx _ R1 hF ?_
   cases f2 with
   | nx=>exact λcO H2 R2 g2=>⟨bx,R2,go.trans g2,e⟩
   | ct=>exact λcO H2 R2 g2=>⟨bx,R2,go.trans g2,e⟩
   | bk=>cases e;exact λcO H2 R2 g2=>q cO H2 R2 (go.trans g2)
   | rt r=>cases e;exact q
theorem ET{D:Ends}{ds:List DL.D}{n:Nat}(hn:ds.length<=n)
  (q:dC X.K O B qc H0 gx D fl aj)(h:Left X.K O B qc H0 gx g F ds fl aj n σ H):D.nx σ H:=by
 obtain ⟨env,R,gd,e⟩:=h
 rw [sC hn,forL] at e
 cases e
 exact q σ H R gd
noncomputable def eS(f:En->Option Sl)(g:GF)(F:SF):SF:=λenv=>(f env).bind λr=>(e9 r.d).bind λx=>forL g F x.2 env
theorem Gd.sq{K:aI}{σ aJ:L2.St}{env aj:En}{H H':Hp}(gd:Gd σ env H aJ aj H'){k:Bool}{p:Addr}{xs:List V}(h:Sq K H k p xs)(hp:¬lh σ env p\/H p=none):Sq K H' k p xs:=by
 have rd:∀u,Rd H p u->Rd H' p u:=λu z=>by
  rcases z with z | ⟨o,z⟩
  .rcases hp with hp | hp
   .exact .inl (gd p _ z hp).1
   .rw [hp] at z;cases z
  .rcases hp with hp | hp
   .exact .inr ⟨o,(gd p _ z hp).1⟩
   .rw [hp] at z;cases z
 cases k with
 | true =>
  rcases h with h | h
  .exact .inl (rd _ h)
  .exact .inr h
 | false =>
  rcases h with h | h
  .exact .inl (rd _ h)
  .exact .inr h
theorem Is.mZ{K:aI}{O:Addr->Prop}{H:Hp}{v:V}{d:D}{k:Bool}{ds:List D}(h:Is K O H v d)(e:e9 d=some (k,ds)):∃p xs,v=.ref p/\Sq K H k p xs/\aN K O H xs ds/\(¬O p\/∀H',Sq K H' k p xs):=by
 cases h with
 | tup ho hp hs=>cases e;exact ⟨_,_,rfl,.inl hp,hs,.inl ho⟩
 | m8 hp hs=>cases e;exact ⟨_,_,rfl,Bw hp,hs,.inr λ_=>Bw hp⟩
 | lst ho hp hs=>cases e;exact ⟨_,_,rfl,.inl (.inl hp),hs,.inl ho⟩
 | l6 ho hp hs=>cases e;exact ⟨_,_,rfl,.inl hp,hs,.inl ho⟩
 | md hp hs=>cases e;exact ⟨_,_,rfl,Bv hp,hs,.inr λ_=>Bv hp⟩
 | _=>cases e
noncomputable def GN(K:aI)(tl:TE):TI:=λσ H R=>tl σ H λx H1=>∃a,x=.ref a/\(((∃xs,eQ K H1 a xs)/\R (xD K a) H1)\/((∃xs,eO K H1 a xs)/\R (Ck K a) H1))
theorem O3(hl:PE X l tl):PI X tg l (GN X.K tl):=by
 intro pins s σ H R I h
 refine bG (hl pins s σ H _ I h) λv s1 ⟨x,H1,I1,r1,q1⟩=>?_
 obtain ⟨a,e,q1⟩:=q1
 subst e
 cases r1
 rcases q1 with ⟨⟨xs,hq⟩,q⟩ | ⟨⟨xs,hq⟩,q⟩
 .obtain ⟨aq,rv,p,hz⟩:=I1.list hq
  refine wm p.isList ?_
  refine ⟨s1.heap.objs.size,[s1.heap.objs.size],_,_,H1,rfl,I1.kept (t':=s1.toks) λb o e=>bR _ e,b1u a _,⟨_,fD _ rfl,rfl,rfl⟩,λb hb=>?_,q⟩
  have e:b=s1.heap.objs.size:=by simpa using hb
  subst e
  exact I1.jG (bw _) (I1.bu.fresh (bw _))
 .obtain ⟨aq,rv,p,hz⟩:=I1.tuple hq
  refine qN (show s1.heap.IsTuple a aq.toArray from p) ?_
  refine ⟨s1.heap.objs.size,[s1.heap.objs.size],_,_,H1,rfl,I1.kept (t':=s1.toks) λb o e=>bR _ e,b0R a _,⟨_,fD _ rfl,rfl,rfl⟩,λb hb=>?_,q⟩
  have e:b=s1.heap.objs.size:=by simpa using hb
  subst e
  exact I1.jG (bw _) (I1.bu.fresh (bw _))
theorem nN(hp:PassesOwn (model X.prog X.w) X.A X.env X.xe)(hc:X.calm=true)(hi:EV X it fa)(hg:GV X tg g)(hb:kY X body F)
  (hs:∀x,foldedSetIterable it X.env x=pure x:=by intro _;rfl):SV X (.For tg it body [] pos) (eS fa g F):=by
 obtain ⟨ti,pi,ki⟩:=hi
 obtain ⟨qg,pg,kg⟩:=hg
 obtain ⟨tb,pb,kb⟩:=hb
 refine ⟨_,J0 hp hc (O3 pi) pg pb hs,λO B σ H env fl aj D R e q=>?_⟩
 obtain ⟨r,e1,e2⟩:=bind_some e
 obtain ⟨⟨k,ds⟩,e4,e5⟩:=bind_some e2
 refine ki O B σ H env r _ R e1 λv H1 s1 r1=>?_
 obtain ⟨p,xs,rfl,h1,h2,h3⟩:=(r1.is λq=>R.oo).mZ e4
 refine ⟨p,rfl,?_⟩
 have q':dC X.K O B σ H1 env D fl aj:=q.from (Gd.refl s1)
 have keep:∀i cO H2,Left X.K O B σ H1 env g F ds fl aj i cO H2->Sq X.K H2 k p xs:=λi cO H2 L=>by
  rcases h3 with h3 | h3
  .obtain ⟨bx,_,gd,_⟩:=L
   exact gd.sq h1 (.inl λz=>h3 (.inr z))
  .exact h3 H2
 cases k with
 | true =>
  refine .inl ⟨⟨xs,h1⟩,?_⟩
  exact b4s (xs:=xs) (Left X.K O B σ H1 env g F ds fl aj) ⟨env,R.grow s1,Gd.refl (au.refl _),e5⟩ (λi cO H2 _ L=>keep i cO H2 L) (λi x cO H2 hx L=>K2 kg kb h2 hx q' L) (λcO H2 L=>ET (by rw [h2.length];exact bw _) q' L)
 | false =>
  refine .inr ⟨⟨xs,h1⟩,?_⟩
  exact b6V (xs:=xs) (Left X.K O B σ H1 env g F ds fl aj) ⟨env,R.grow s1,Gd.refl (au.refl _),e5⟩ (λi cO H2 _ L=>keep i cO H2 L) (λi x cO H2 hx L=>K2 kg kb h2 hx q' L) (λcO H2 L=>ET (by rw [h2.length];exact bw _) q' L)
noncomputable def dQ(lo:Int)(n:Nat):List D:=(jH n).map λ(k:Nat)=>D.int (lo+(k:Int))
def R62(i:Int):Prop:=-(2^62)<=i/\i<2^62
noncomputable instance (i:Int):Decidable (R62 i):=by unfold R62;infer_instance
noncomputable def ql:List D->Option (List D)
 | [.int j]=>if R62 j then some (dQ 0 j.toNat) else none
 | _=>none
noncomputable def F7:List D->Option (List D)
 | [.int i,.int j]=>if R62 i/\R62 j then some (dQ i (j-i).toNat) else none
 | _=>none
noncomputable def Ed(h:List D->Option (List D))(f:En->Option (List D))(g:GF)(F:SF):SF:=λenv=>(f env).bind λds=>(h ds).bind λis=>forL g F is env
theorem b6b{K:aI}{O:Addr->Prop}{H:Hp}(lo:Int)(n:Nat):aN K O H ((jH n).map λ(k:Nat)=>V.int (lo+(k:Int))) (dQ lo n):=by
 have h:=aN.ints (K:=K) (O:=O) (H:=H) ((jH n).map λ(k:Nat)=>lo+(k:Int))
 rw [fT,fT] at h
 exact h
theorem Qr{K:aI}{O:Addr->Prop}{H:Hp}{xs:List V}{i:Int}(h:aN K O H xs [.int i]):xs=[.int i]:=by
 cases h with
 | cons h t=>cases t;rw [iY h]
theorem b6W{tb:TS}{qg:TG}{g:GF}{lo:Int}{n:Nat}{O:Addr->Prop}{B:Hp}{σ:L2.St}{H:Hp}{env aj:En}{fl:Fl}{D:Ends}
  (kg:∀(O:Addr->Prop) (B:Hp) (σ:L2.St) (H:Hp) (env aj:En) (v:V) (d:DL.D) (Q:L2.St->Hp->Prop),Rel X.K O B σ H env->Is X.K (OO O σ env) H v d->g d env=some aj ->
   (∀aJ H',Rel X.K O B aJ H' aj->Gd σ env H aJ aj H'->Q aJ H')->qg v σ H Q)
  (kb:∀(O:Addr->Prop) (B:Hp) (σ:L2.St) (H:Hp) (env:En) (fl:Fl) (aj:En) (D:Ends),Rel X.K O B σ H env->F env=some (fl,aj)->dC X.K O B σ H env D fl aj->tb D σ H)
  (R:Rel X.K O B σ H env)(e:forL g F (dQ lo n) env=some (fl,aj))(q:dC X.K O B σ H env D fl aj):
  ∃W:Nat->Nat->L2.St->Hp->Prop,(∃m,W 0 m σ H)/\∀i m σ H,W i m σ H ->
   ((nX lo n).stop i H/\D.nx σ H)\/((nX lo n).go i H/\∃N:L2.St->Hp->Prop,(∀aJ H',N aJ H'->∃m',m'<m/\W (i+1) m' aJ H')/\∀x H',(nX lo n).tF i H x H'->qg x σ H' λcO H2=>tb { D with nx:=N,ct:=N,bk:=D.nx } cO H2):=by
 refine b2C (Left X.K O B σ H env g F (dQ lo n) fl aj) ⟨env,R,Gd.refl (au.refl _),e⟩ (λi cO H2 hi L=>?_) (λcO H2 L=>ET (by simp [dQ]) q L)
 exact K2 kg kb (b6b lo n) (by simp [hi]) q L
theorem b3w{body:List Stmt}{g:GF}{fs:En->Option (List D)}{p:Pos}(hp:PassesOwn (model X.prog X.w) X.A X.env X.xe)(hc:X.calm=true)(ug:Gl X "range")(hm:X.mg "range" = none)(ha:AV X [a] fs)(hg:GV X tg g)(hb:kY X body F)
  (h1:starEach [a] X.env=[(false,eval a X.env)]:=by rfl)(hs:∀x,foldedSetIterable (.Call (.Name "range" p) [a] [] pos) X.env x=pure x:=by intro _;rfl){Ge:Pos}:
  SV X (.For tg (.Call (.Name "range" p) [a] [] pos) body [] Ge) (Ed ql fs g F):=by
 obtain ⟨ti,pi,ki⟩:=ha
 obtain ⟨qg,pg,kg⟩:=hg
 obtain ⟨tb,pb,kb⟩:=hb
 refine ⟨_,J0 hp hc (b12 ug hm pi h1) pg pb hs,λO B σ H env fl aj D R e q=>?_⟩
 obtain ⟨ds,e1,e2⟩:=bind_some e
 obtain ⟨is,e2,e3⟩:=bind_some e2
 refine ki O B σ H env ds _ R e1 λvs H1 s1 r1=>?_
 unfold ql at e2
 split at e2
 .obtain ⟨⟨h1,h2⟩,rfl⟩:=gU e2
  exact ⟨_,Qr r1,h1,h2,b6W kg kb (R.grow s1) e3 (q.from (Gd.refl s1))⟩
 .cases e2
noncomputable def qd(c:En->Option Bool)(F:SF):Nat->SF
 | 0,_=>none
 | n+1,env=>match c env with
  | none=>none
  | some false=>some (.nx,env)
  | some true=>match F env with
   | some (.nx,bx)=>qd c F n bx
   | some (.ct,bx)=>qd c F n bx
   | some (.bk,bx)=>some (.nx,bx)
   | some (.rt r,bx)=>some (.rt r,bx)
   | none=>none
noncomputable def Ek(m:En->Nat)(c:En->Option Bool)(F:SF):SF:=λenv=>qd c F (m env) env
theorem Q2(m:En->Nat)(hp:PassesOwn (model X.prog X.w) X.A X.env X.xe)(hc:TV X c ga)(hb:kY X body F):SV X (.While c body [] pos) (Ek m ga F):=by
 obtain ⟨tc,pc,kc⟩:=hc
 obtain ⟨tb,pb,kb⟩:=hb
 refine ⟨_,b3N hp pc pb,λO B σ H env fl aj D R e q=>?_⟩
 refine ⟨λn iI H1=>∃bW,Rel X.K O B iI H1 bW/\Gd σ env H iI bW H1/\qd ga F n bW=some (fl,aj),⟨m env,env,R,Gd.refl (au.refl _),e⟩,?_⟩
 rintro n iI H1 ⟨bW,R1,g1,e1⟩
 cases n with
 | zero=>cases e1
 | succ n =>
  rw [qd] at e1
  cases h:ga bW with
  | none=>rw [h] at e1;cases e1
  | some x =>
   rw [h] at e1
   refine kc O B iI H1 bW x _ R1 h λH2 s2=>?_
   cases x with
   | false =>
    rw [if_neg mv]
    cases e1
    exact q iI H2 (R1.grow s2) (g1.trans (Gd.refl s2))
   | true =>
    rw [if_pos rfl]
    refine ⟨λaJ H'=>∃bx,Rel X.K O B aJ H' bx/\Gd σ env H aJ bx H'/\qd ga F n bx=some (fl,aj),λaJ H' ⟨bx,a1,a2,a3⟩=>⟨n,uO n,bx,a1,a2,a3⟩,?_⟩
    dsimp only at e1
    cases hF:F bW with
    | none=>rw [hF] at e1;cases e1
    | some y =>
     obtain ⟨f2,bx⟩:=y
     rw [hF] at e1
     have go:=g1.trans (Gd.refl s2)
     refine kb O B iI H2 bW f2 bx _ (R1.grow s2) hF ?_
     cases f2 with
     | nx=>exact λcO H3 R2 g2=>⟨bx,R2,go.trans g2,e1⟩
     | ct=>exact λcO H3 R2 g2=>⟨bx,R2,go.trans g2,e1⟩
     | bk=>cases e1;exact λcO H3 R2 g2=>q cO H3 R2 (go.trans g2)
     | rt r=>cases e1;exact q
end
noncomputable def mY(K:aI)(n:Nat)(φ:List D->Option Sl):Sp:=λvs H Q _=>∃(O:Addr->Prop) (ds:List D) (r:Sl),qb K O H/\aN K O H vs ds/\vs.length=n/\φ ds=some r /\
 ∀v H',au H H'->Res K O H H' v r->Q v H'
noncomputable def pD(N:Nat)(ds:List D):En:=ds.map Sl.sh++jm (N-ds.length) Sl.no
noncomputable def aH(F:SF)(N:Nat)(ds:List D):Option Sl:=match F (pD N ds) with
 | some (.rt r,_)=>some r
 | some (.nx,_)=>some (.sh .aU)
 | _=>none
theorem b1S{K:aI}{O:Addr->Prop}{H:Hp}{N:List Str}{vs:List V}{ds:List D}(hO:qb K O H)(h:aN K O H vs ds):Rel K O H (start N vs) H (pD N.length ds):=by
 have hl:=h.length
 have CF:∀(i:Nat) (s:Sl),(pD N.length ds)[i]?=some s->s.own->False:=λi s e1 o=>by
  unfold pD at e1
  rw [Ob] at e1
  split at e1
  .rw [qU] at e1
   obtain ⟨d,_,e⟩:=map_some e1
   cases e
   exact o
  .rw [DJ] at e1
   split at e1
   .cases e1;exact o
   .cases e1
 have no:∀p,¬lh (start N vs) (pD N.length ds) p:=λp ⟨i,es,e1,o,_⟩=>CF i es e1 o
 refine ⟨au.refl _,hO,?_,λi d e=>?_,λi es e=>(CF i _ e trivial).elim,λi es e=>(CF i _ e trivial).elim,λi j es fs p e _ _ _ o _=>(CF i _ e o).elim⟩
 .simp [L2.start,pD,hl]
 .unfold pD at e
  rw [Ob] at e
  split at e
  .rename_i hi
   rw [aX] at hi
   rw [qU] at e
   obtain ⟨d',e1,e2⟩:=map_some e
   cases e2
   obtain ⟨x,hx,hd⟩:=h.get e1
   refine ⟨x,?_,hd.less λq z=>z.elim id λz=>(no q z).elim⟩
   unfold L2.start
   rw [uK (by rw [aX,hl];exact hi),qU,hx]
   rfl
  .rw [DJ] at e
   split at e
   .cases e
   .cases e
section
variable {P:Program}{w:World}{K:aI}{mg:Str->Option Value}{base:Heap}
theorem HU{x qual:Str}{st:Stmt}{f:Addr}{fd:FuncData}{N ps:List Str}{k:Nat}{F:SF}(Fn:tB K x qual st f fd)(S:dJ N ps (fU st))
  (eu:∀(dF:Value) (A:Around) (outer:List Env) (s:Shared) (H:Hp) (E:XK),bJ k (A.deeper (envOfC qual (fU st) s.heap.objs.size f dF)) ->
   kY (mq jt P w K mg base N qual (fU st) f dF A outer s H E).gJ (iZ st) F):bY P w K mg base jt (k+1) f fd ps (mY K ps.length (aH F N.length)):=by
 refine Fn.ok S (λvs H Q E h=>?_) (λdF A outer s H vs Q E hr h=>?_)
 .obtain ⟨O,ds,r,_,_,hl,_⟩:=h
  exact hl
 obtain ⟨O,ds,r,hO,hi,hl,e,q⟩:=h
 obtain ⟨t,p,kk⟩:=eu dF A outer s H E hr
 refine ⟨t,p,?_⟩
 unfold aH at e
 cases hF:F (pD N.length ds) with
 | none=>rw [hF] at e;cases e
 | some y =>
  obtain ⟨fl,aj⟩:=y
  rw [hF] at e
  refine kk O H (start N vs) H (pD N.length ds) fl aj _ (b1S hO hi) hF ?_
  cases fl with
  | nx=>cases e;exact λaJ H' R' _=>q .aU H' R'.same Is.aU
  | bk=>cases e
  | ct=>cases e
  | rt r=>cases e;exact λv H' s h=>q v H' s h
end
section
variable {X:Cx}{k:Nat}{f:Addr}{fd:FuncData}{ps:List Str}{φ:List D->Option Sl}{x:Str}{p pos:Pos}{e:Expr}{es:List Expr}{fs:En->Option (List D)}
noncomputable def aF(n:Nat)(φ:List D->Option Sl)(fs:En->Option (List D)):En->Option Sl:=λenv=>(fs env).bind λds=>if ds.length=n then φ ds else none
theorem b2W(ka:∀(O:Addr->Prop) (B:Hp) (σ:L2.St) (H:Hp) (env:En) (ds:List D) (Q:List V->Hp->Prop),Rel X.K O B σ H env->fs env=some ds->(∀vs H',au H H'->aN X.K (OO O σ env) H' vs ds->Q vs H')->t σ H Q)
  (O:Addr->Prop)(B:Hp)(σ:L2.St)(H:Hp)(env:En)(r:Sl)(Q:VK)(R:Rel X.K O B σ H env)(e:aF n φ fs env=some r)(q:∀v H',au H H'->Res X.K (OO O σ env) H H' v r->Q v H'):OT (mY X.K n φ) [] E t σ H Q:=by
 obtain ⟨ds,e1,e2⟩:=bind_some e
 refine ka O B σ H env ds _ R e1 λvs H1 s1 r1=>?_
 by_cases hn:ds.length=n
 .rw [if_pos hn] at e2
  rw [oh]
  refine ⟨OO O σ env,ds,r,(R.grow s1).dm,r1,by rw [r1.length,hn],e2,λv H2 s2 r2=>q v H2 (s1.trans s2) (r2.from s1)⟩
 .rw [if_neg hn] at e2;cases e2
theorem b6Z(F:bY X.prog X.w X.K X.mg X.base jt k f fd ps (mY X.K ps.length φ))(hr:bJ k X.A)(hg:Gl X x)(hm:X.mg x=some (.ref f))(hk:uB X.K (.ref f)=true)(hb:Binds X.K fd ps [])
  (ha:AV X (e::es) fs)(ko:(x==("__debug__":Str))=false:=by decide)(he:starEach (e::es) X.env=(false,eval e X.env)::starEach es X.env:=by rfl)(dr:(backTo pos (starEach es X.env)).any (·.1)=false:=by rfl):
  EV X (.Call (.Name x p) (e::es) [] pos) (aF ps.length φ fs):=by
 obtain ⟨t,pt,ka⟩:=ha
 exact ⟨_,b6r F hr hg hm hk hb .nil yF pt ko he dr,λO B σ H env r Q R e q=>b2W ka O B σ H env r Q R e q⟩
end
noncomputable def spT(K:aI):Sp:=λvs H Q _=>∃(a:Addr) (ns:List Int),vs=[.ref a]/\eQ K H a (ns.map V.int)/\ns.length<=63/\Tb K H/\∀H',au H H'->Q (.bl true) H'
theorem b8X{P:Program}{w:World}{K:aI}{mg:Str->Option Value}{base:Heap}{k:Nat}{f:Addr}{fd:FuncData}{φ:List D->Option Sl}(F:bY P w K mg base jt k f fd ["script"] (mY K 1 φ))
  (h:∀ns:List Int,ns.length<=63->φ [.lst true (ns.map D.int)]=some (Sl.sh (.bl true))):bY P w K mg base jt k f fd ["script"] (spT K):=by
 refine F.imp λvs H Q E q=>?_
 obtain ⟨a,ns,rfl,hs,hl,tb,q⟩:=q
 refine ⟨λ_=>False,[.lst true (ns.map D.int)],_,⟨λ_ z=>z.elim,tb⟩,.cons ?_ .nil,rfl,h ns hl,λv H' sm r=>?_⟩
 .rcases hs with hs | hs
  .exact .l6 id hs (aN.ints ns)
  .exact .md (.inr hs) (aN.ints ns)
 .have r':Is K (λ_=>False) H' v (.bl true):=r
  rw [A2 r']
  exact q H' sm
theorem xJ{l:IB}{q:Program}{loose:List Str}{XP:(Str->Option Value)->Heap->Prop}{YP:World->Heap->Prop}{d:DefRec}{K:Params->aI}{k:Nat}(hk:bJ k callerA)(hn:l.most=some 63)(vX:d.params.defaults=[])
  {ts:List Addr}(hY:∀(w:World) (h:Heap),YP w h->(K w.params).In h/\∀P∈ts,h.get? P=some (wo #[]))(hL:∀w:World,D4 (K w.params) ts=true)
  (F:∀(w:World) (mg:Str->Option Value) (fa:Addr) (h:Heap),(K w.params).In h->h.Ns mainGlobals mg->mg d.name=some (.ref fa) ->
   ∃fd:FuncData,(∀(s:Shared) (u:Value),BindsTo s fd ⟨[u],[]⟩ [("script",u)])/\∀base:Heap,(K w.params).In base->base.Ns mainGlobals mg->bY l.prog w (K w.params) mg base jt k fa fd ["script"] (spT (K w.params))):
  PySem.W.WalkO q loose XP YP l.row.toRowW d [] (λf vs=>Iw f vs):=
 L2.qe (n:=63) (k:=k) (x:="script") (CX:=λ_=>jt) (sp:=λw=>spT (K w.params)) hn (by decide) vX hk hY hL F (λw _ a ns hl tb hS=>⟨a,ns,rfl,hS,hl,tb,λ_ sm=>⟨rfl,tb.grow sm⟩⟩) λ_ _ _ _ _ z=>z
section
variable {X:Cx}{a:Expr}{pos p p2:Pos}{fa:En->Option Sl}
def zb(K:aI)(T:String)(x:V)(H:Hp)(b:Bool):Prop:=match x with
 | .aU=>b=false
 | .bl _=>b=(T == "bool" || T == "int")
 | .int _=>b=(T == "int")
 | .str _=>b=(T == "str")
 | .ref p=>(b=(T == "list")/\∃xs,eQ K H p xs)\/(b=(T == "tuple")/\∃xs,eO K H p xs)
 | _=>False
theorem b4N(hT:T = "int" \/ T = "bool" \/ T = "str" \/ T = "list" \/ T = "tuple"):
  cw X (.builtin "isinstance") (λxs H Q=>∃x b,xs=[x,.ty T]/\zb X.K T x H b/\Q (.bl b) H):=by
 intro pins s σ H xs us Q I r h
 obtain ⟨x,b,rfl,hx,q⟩:=h
 obtain ⟨u,w',rfl,r1,r2⟩:=vals2 r
 obtain rfl:w'=sv T:=r2
 have yes:∀{Tx:String},s.TypeIs u Tx->isSubtype (.type Tx) (.type T)=pure true->typeOf (.type T)=pure (.type "type")->Q (.bl true) H->wpAny (model X.prog X.w) X.A (call (.builtin "isinstance") [u,.type T]) (EP X pins σ Q) X.xe s:=λh1 h2 h3 hq =>
  uD (isinstance_true h3 h2) ⟨h1,⟨.bl true,H,I,rfl,hq⟩⟩
 have fin:Q (.bl false) H->EP X pins σ Q (.bool false) { s with toks:=s.toks+1 }:=λhq=>⟨.bl false,H,I.tok _,rfl,hq⟩
 have ty:typeOf (.type T)=pure (.type "type"):=by rcases hT with rfl | rfl | rfl | rfl | rfl<;>rfl
 cases x with
 | aU =>
  obtain rfl:u=gi:=r1
  obtain rfl:b=false:=hx
  refine uD (isinstance_false_none ?_ ty ?_) (fin q)
  .rcases hT with rfl | rfl | rfl | rfl | rfl<;>decide +kernel
  .rcases hT with rfl | rfl | rfl | rfl | rfl<;>rfl
 | bl k =>
  obtain rfl:u=lH k:=r1
  rcases hT with rfl | rfl | rfl | rfl | rfl
  .obtain rfl:b=true:=hx
   exact yes (Tx:="bool") rfl rfl ty q
  .obtain rfl:b=true:=hx
   exact yes (Tx:="bool") rfl rfl ty q
  all_goals
   obtain rfl:b=false:=hx
   exact uD (isinstance_false_bool (by decide +kernel) ty (by rfl)) (fin q)
 | int i =>
  obtain ⟨t,rfl⟩:=r1
  rcases hT with rfl | rfl | rfl | rfl | rfl
  .obtain rfl:b=true:=hx
   exact yes (Tx:="int") (typeIs_int s i t) rfl ty q
  all_goals
   obtain rfl:b=false:=hx
   exact uD (isinstance_false_int (by decide +kernel) ty (by rfl)) (fin q)
 | str z =>
  obtain ⟨t,rfl⟩:=r1
  rcases hT with rfl | rfl | rfl | rfl | rfl
  rotate_left 2
  .obtain rfl:b=true:=hx
   exact yes (Tx:="str") (typeIs_str s z t) rfl ty q
  all_goals
   obtain rfl:b=false:=hx
   exact uD (isinstance_false_str (by decide +kernel) ty (by rfl)) (fin q)
 | ref l =>
  cases r1
  rcases hx with ⟨rfl,xs,hq⟩ | ⟨rfl,xs,hq⟩
  .obtain ⟨aq,_,pl,_⟩:=I.list hq
   have t6:=pl.isList.typeIs
   obtain ⟨o,n,e,c,_,_⟩:=pl
   rcases hT with rfl | rfl | rfl | rfl | rfl
   rotate_left 3
   .exact yes (Tx:="list") t6 rfl ty q
   all_goals exact uD (isinstance_false_list (by decide +kernel) ty (by rfl)) ⟨⟨o,e,c⟩,fin q⟩
  .obtain ⟨aq,_,pl,_⟩:=I.tuple hq
   have t6:=pl.typeIs
   obtain ⟨o,e,c,_⟩:=pl
   rcases hT with rfl | rfl | rfl | rfl | rfl
   rotate_left 4
   .exact yes (Tx:="tuple") t6 rfl ty q
   all_goals exact uD (isinstance_false_tuple (by decide +kernel) ty (by rfl)) ⟨⟨o,e,c⟩,fin q⟩
 | _=>exact iJ hx
noncomputable def bo(T:String):D->Bool
 | .aU=>false
 | .bl _=>(T == "bool" || T == "int")
 | .int _=>(T == "int")
 | .str _=>(T == "str")
 | .tup _=>(T == "tuple")
 | .lst _ _=>(T == "list")
 | .exc _=>false
 | .fB _ _=>false
noncomputable def D.isExc:D->Bool
 | .exc _=>true
 | .fB _ _=>true
 | _=>false
noncomputable def jz(T:String)(d:D):Option Sl:=if d.isExc=true then none else some (.sh (.bl (bo T d)))
theorem b86{K:aI}{O:Addr->Prop}{H:Hp}{T:String}{v:V}{d:D}(h:Is K O H v d)(ne:d.isExc=false):zb K T v H (bo T d):=by
 cases h with
 | aU=>rfl
 | bl b=>rfl
 | int i=>rfl
 | str x=>rfl
 | tup ho hp hs=>exact .inr ⟨rfl,_,.inl hp⟩
 | m8 hp hs=>exact .inr ⟨rfl,_,Bw hp⟩
 | lst ho hp hs=>exact .inl ⟨rfl,_,.inl (.inl hp)⟩
 | l6 ho hp hs=>exact .inl ⟨rfl,_,.inl hp⟩
 | md hp hs=>exact .inl ⟨rfl,_,Bv hp⟩
 | exc ho hn hp=>cases ne
 | fB ho hp=>cases ne
 | qH ho hp=>cases ne
noncomputable def qG(T:String)(f:En->Option Sl):En->Option Sl:=λenv=>(f env).bind λr=>jz T r.d
theorem Po(hT:T = "int" \/ T = "bool" \/ T = "str" \/ T = "list" \/ T = "tuple")(hg:Gl X "isinstance")(hm:X.mg "isinstance" = none)(CZ:Gl X x)(XE:X.mg x=none)(hv:bootBuiltins x=some (.type T))(ha:EV X a fa)
  (hn:x ≠ "__name__":=by decide)(hd:(x==("__debug__":Str))=false:=by decide)
  (hs:starEach [a,.Name x p2] X.env=[(false,eval a X.env),(false,eval (.Name x p2) X.env)]:=by rfl)(ig:starEach [.Name x p2] X.env=[(false,eval (.Name x p2) X.env)]:=by rfl):
  EV X (.Call (.Name "isinstance" p) [a,.Name x p2] [] pos) (qG T fa):=by
 obtain ⟨t,pt,k⟩:=ha
 refine ⟨_,sU (b4N hT) hg hm (by decide +kernel) (oC pt (oC (b6s (v:=.ty T) CZ XE hv rfl hn hd) pC ig) (by rw [hs,ig])) (by decide) (by decide) (by rw [hs,ig]) (by rw [ig];rfl),λO B σ H env s Q R e q=>?_⟩
 obtain ⟨r,e1,e2⟩:=bind_some e
 unfold jz at e2
 split at e2
 .cases e2
 .rename_i ne
  cases e2
  exact k O B σ H env r _ R e1 λv H1 s1 r1=>⟨v,_,rfl,b86 (r1.is λq=>R.oo) (by simpa using ne),q _ H1 s1 (Is.bl _)⟩
end
section
variable {X:Cx}{a b c e:Expr}{fa fb:En->Option Sl}{pos:Pos}
noncomputable def j'(i:Nat)(f:En->Option Sl):SF:=λenv=>match env[i]? with
 | some (.ow ds)=>(f env).bind λr=>match r.d with
  | .lst false es=>if ds.length+es.length<=16777216 then some (.nx,env.set i (.ow (ds++es))) else none
  | _=>none
 | _=>none
theorem b1F{i:Nat}{x:Str}{p1 p2 aR:Pos}(ha:EV X e fa)(hN:X.N[i]?=some x:=by rfl)(hv:iN X.env.scope x:=by first | exact cD rfl | exact bH (cD rfl) | exact bH (bH rfl))(hd:(x==("__debug__":Str))=false:=by decide)
  (c7:(x==("__classdict__":Str))=false:=by decide)(hs:starEach [e] X.env=[(false,eval e X.env)]:=by rfl)
  (cu:attributeBase (.Name x p1) "extend" X.env (eval (.Name x p1) X.env)=eval (.Name x p1) X.env:=by rfl)
  (il:((backTo aR (starEach [e] X.env)).all (λx=>!x.1)&&(backToKw aR (keywordEach [] X.env)).all (λx=>x.1.isSome)
   && decide ([e].length+([]:List Keyword).length+(if ([]:List Keyword).isEmpty then 0 else 1)<30))=true:=by rfl)
  (cn:(p2.endLine==aR.line)=true:=by rfl)
  (qw:swapsWith (.Call (.Attribute (.Name x p1) "extend" p2) [e] [] aR) none pos.line X.env=pure false:=by rfl):
  SV X (.Expr (.Call (.Attribute (.Name x p1) "extend" p2) [e] [] aR) pos) (j' i fa):=by
 obtain ⟨t,p,k⟩:=ha
 refine ⟨_,Qg (O0 Ju NU PySem.F.type_list_extend b2c (sO hN hv hd c7) (oC p pC hs) cu il cn hs rfl) qw,λO B σ H env fl aj D R e q=>?_⟩
 unfold j' at e
 cases h:env[i]? with
 | none=>rw [h] at e;cases e
 | some s =>
  rw [h] at e
  cases s with
  | no=>cases e
  | sh d=>cases e
  | dw ds=>cases e
  | ow ds =>
   obtain ⟨r,e1,e2⟩:=bind_some e
   obtain ⟨l,xs,f1,f2,f3,f4⟩:=R.ow i ds h
   refine ⟨_,f1,.inl ⟨rfl,_,eQ.of f3⟩,?_⟩
   refine k O B σ H env r _ R e1 λv H1 s1 r1=>?_
   have hi:=r1.is λq=>R.oo
   cases hd:r.d with
   | lst ro es =>
    rw [hd] at hi e2
    cases ro with
    | true=>cases e2
    | false =>
     obtain ⟨hl,e3⟩:=gU (show (if ds.length+es.length<=16777216 then some (Fl.nx,env.set i (.ow (ds++es))) else none)=some (fl,aj) from e2)
     cases e3
     obtain ⟨b,zs,rfl,hb,g1,g2⟩:=JO hi
     refine ⟨l,b,xs,zs,rfl,rfl,s1 _ _ f3,g1,by rw [f4.length,g2.length,iV];exact hl,?_⟩
     obtain ⟨R',g'⟩:=(R.grow s1).wr h f1 ((f4.grow s1).append g2)
     exact q _ _ R' (g'.from s1)
   | _=>rw [hd] at e2;cases e2
noncomputable def lZ(i j:Nat):SF:=λenv=>match env[j]? with
 | some (.ow ds)=>(ds[ds.length-1]?).bind λd=>if i<env.length/\i≠j then some (.nx,(env.set j (.ow ds.dropLast)).set i (.sh d)) else none
 | _=>none
theorem b1C{i j:Nat}{x y:Str}{pos' p1 p2 aR:Pos}(hN:X.N.Nodup)(hi:X.N[i]?=some x)(hx:Loc X.env.scope x)
  (HF:X.N[j]?=some y:=by rfl)(hv:iN X.env.scope y:=by first | exact cD rfl | exact bH (cD rfl) | exact bH (bH rfl))(hd:(y==("__debug__":Str))=false:=by decide)
  (c7:(y==("__classdict__":Str))=false:=by decide)
  (cu:attributeBase (.Name y p1) "pop" X.env (eval (.Name y p1) X.env)=eval (.Name y p1) X.env:=by rfl)
  (cn:(p2.endLine==aR.line)=true:=by rfl)
  (hs:swapsWith (.Call (.Attribute (.Name y p1) "pop" p2) [] [] aR) (some (.Name x pos')) pos.line X.env=pure false:=by rfl)(hf:X.fn x=true\/X.env.scope.names.lookup x=some .local:=by first | exact .inl rfl | exact .inr rfl | assumption):
  SV X (.Assign [.Name x pos'] (.Call (.Attribute (.Name y p1) "pop" p2) [] [] aR) pos) (lZ i j):=by
 refine ⟨_,J1 hN hi hx (b8H Ju Of PySem.F.type_list_pop b8Q (sO HF hv hd c7) cu cn) hs hf,λO B σ H env fl aj D R e q=>?_⟩
 unfold lZ at e
 cases h:env[j]? with
 | none=>rw [h] at e;cases e
 | some s =>
  rw [h] at e
  cases s with
  | no=>cases e
  | sh d=>cases e
  | dw ds=>cases e
  | ow ds =>
   obtain ⟨d,e1,e2⟩:=bind_some e
   obtain ⟨⟨hl,cI⟩,e3⟩:=Rj e2
   cases e3
   obtain ⟨l,xs,f1,f2,f3,f4⟩:=R.ow j ds h
   obtain ⟨v,zj,G4⟩:=f4.get e1
   obtain ⟨R',g'⟩:=R.wr h f1 f4.dropLast
   refine ⟨_,f1,.inl ⟨rfl,_,eQ.of f3⟩,l,xs,v,rfl,rfl,f3,by rw [f4.length];exact zj,?_⟩
   have G3:aN X.K (OO O σ (env.set j (.ow ds.dropLast))) (upd H l (.lst xs.dropLast)) [v] [d]:=g'.CK (.cons G4 .nil)
   cases G3 with
   | cons G3 _ =>
    obtain ⟨R2,g2⟩:=R'.set (r:=.sh d) (i:=i) (au.refl _) G3 (by simp;exact hl)
    exact q _ _ R2 (g'.trans g2)
noncomputable def wH(i:Nat)(f g:En->Option Sl):SF:=λenv=>match env[i]? with
 | some (.ow ds)=>(f env).bind λr=>(g env).bind λk=>match k.d with
  | .int n=>(jy ds.length n).bind λj=>some (.nx,env.set i (.ow (ds.set j r.d)))
  | _=>none
 | _=>none
theorem b59{i:Nat}{x:Str}{p1 p2:Pos}(ha:EV X e fa)(hb:EV X b fb)(hN:X.N[i]?=some x:=by rfl)(hv:iN X.env.scope x:=by first | exact cD rfl | exact bH (cD rfl) | exact bH (bH rfl))(hd:(x==("__debug__":Str))=false:=by decide)
  (c7:(x==("__classdict__":Str))=false:=by decide)
  (jA:∀v,assign (.Subscript (.Name x p1) b p2) X.env v=(do
   let ov <-holding [v] (eval (.Name x p1) X.env)
   let iv <-holding [v,ov] (eval b X.env)
   standAt p2
   holding [v,ov,iv] (setItem ov iv v)
   release [v,ov,iv] []):=by intro _;rfl)
  (hs:swapsWithSole [.Subscript (.Name x p1) b p2] e pos.line X.env=pure false:=by rfl)(hw:swappedStores [.Subscript (.Name x p1) b p2] e X.env=pure none:=by rfl)
  (h1:(assignEach [.Subscript (.Name x p1) b p2] X.env).map (·.2)=[assign (.Subscript (.Name x p1) b p2) X.env]:=by rfl):
  SV X (.Assign [.Subscript (.Name x p1) b p2] e pos) (wH i fa fb):=by
 obtain ⟨t,p,k⟩:=ha
 obtain ⟨t',p',k'⟩:=hb
 refine ⟨_,b8x p (b8A (sO hN hv hd c7) p' b3A jA) hs hw h1,λO B σ H env fl aj D R e q=>?_⟩
 unfold wH at e
 cases h:env[i]? with
 | none=>rw [h] at e;cases e
 | some s =>
  rw [h] at e
  cases s with
  | no=>cases e
  | sh d=>cases e
  | dw ds=>cases e
  | ow ds =>
   obtain ⟨r,e1,e2⟩:=bind_some e
   obtain ⟨kk,e2,e3⟩:=bind_some e2
   obtain ⟨l,xs,f1,f2,f3,f4⟩:=R.ow i ds h
   refine k O B σ H env r _ R e1 λv H1 s1 r1=>⟨_,f1,?_⟩
   refine k' O B σ H1 env kk _ (R.grow s1) e2 λw H2 s2 r2=>?_
   have hi:=r2.is λq=>(R.grow s1).oo
   cases hd:kk.d with
   | int n =>
    rw [hd] at hi e3
    obtain rfl:=iY hi
    obtain ⟨j,e4,e5⟩:=bind_some (show (jy ds.length n).bind (λj=>some (Fl.nx,env.set i (.ow (ds.set j r.d))))=some (fl,aj) from e3)
    cases e5
    have mI:=s1.trans s2
    refine ⟨l,xs,n,j,rfl,rfl,mI _ _ f3,by rw [f4.length];exact e4,?_⟩
    obtain ⟨R',g'⟩:=(R.grow mI).wr h f1 ((f4.grow mI).set ((r1.is λq=>R.oo).grow s2) j)
    exact q _ _ R' (g'.from mI)
   | _=>rw [hd] at e3;cases e3
def PP(X:Cx)(e:Option Expr)(f:En->Option (Option Int)):Prop:=
 ∃t:TO,PO X e t/\∀(O:Addr->Prop) (B:Hp) (σ:L2.St) (H:Hp) (env:En) (o:Option Int) (Q:Option Int->Hp->Prop),Rel X.K O B σ H env->f env=some o->(∀H',au H H'->Q o H')->t σ H Q
noncomputable def ec:En->Option (Option Int):=λ_=>some none
noncomputable def dX(f:En->Option Sl):En->Option (Option Int):=λenv=>(f env).bind λr=>match r.d with
 | .int i=>some (some i)
 | _=>none
theorem fy:PP X none ec:=⟨_,b6l,λO B σ H env o Q R e q=>by
 obtain rfl:=cT e
 exact q H (au.refl _)⟩
theorem ft(h:EV X e fa):PP X (some e) (dX fa):=by
 obtain ⟨t,p,k⟩:=h
 refine ⟨_,b6k p,λO B σ H env o Q R e q=>?_⟩
 obtain ⟨r,e1,e2⟩:=bind_some e
 refine k O B σ H env r _ R e1 λv H1 s1 r1=>?_
 have hi:=r1.is λq=>R.oo
 cases hd:r.d with
 | int i =>
  rw [hd] at hi e2
  obtain rfl:=cT e2
  exact ⟨i,iY hi,q H1 s1⟩
 | _=>rw [hd] at e2;cases e2
noncomputable def cutD(xs:List D)(lo hi:Option Int):List D:=(xs.drop (HT.bD xs.length 0 lo)).take (HT.bD xs.length xs.length hi-HT.bD xs.length 0 lo)
theorem aN.cut{K:aI}{O:Addr->Prop}{H:Hp}{xs:List V}{ds:List D}(h:aN K O H xs ds)(lo hi:Option Int):aN K O H (kD xs lo hi) (cutD ds lo hi):=by
 unfold kD cutD
 rw [h.length]
 exact (h.drop _).take _
noncomputable def dZ(f:En->Option (Bool×List D))(lo hi:En->Option (Option Int)):En->Option Sl:=λenv=>(f env).bind λx=>(lo env).bind λl=>(hi env).bind λh =>
 if x.1=true then some (.ow (cutD x.2 l h)) else if ¬(HT.bD x.2.length 0 l=0/\HT.bD x.2.length x.2.length h=x.2.length) then some (.sh (.tup (cutD x.2 l h))) else none
theorem fw{ba:En->Option (Bool×List D)}{lo hi:Option Expr}{fl fh:En->Option (Option Int)}{p2:Pos}(ha:BV X a ba)(hl:PP X lo fl)(hh:PP X hi fh):EV X (.Subscript a (.Slice lo hi none p2) pos) (dZ ba fl fh):=by
 obtain ⟨t,p,k⟩:=ha
 obtain ⟨tl,pl,kl⟩:=hl
 obtain ⟨th,ph,kh⟩:=hh
 refine ⟨_,b3U (qj.or b8n) p pl ph,λO B σ H env r Q R e q=>?_⟩
 obtain ⟨⟨kk,ds⟩,e1,e2⟩:=bind_some e
 obtain ⟨l,e2,e3⟩:=bind_some e2
 obtain ⟨h,e3,e4⟩:=bind_some e3
 refine k O B σ H env kk ds _ R e1 λpp xs H1 s1 hq hx=>?_
 refine kl O B σ H1 env l _ (R.grow s1) e2 λH2 s2=>?_
 refine kh O B σ H2 env h _ ((R.grow s1).grow s2) e3 λH3 s3=>?_
 have mI:=s1.trans (s2.trans s3)
 have dE:=hq.grow (s2.trans s3)
 have jU:=hx.grow (s2.trans s3)
 dsimp only at e4
 cases kk with
 | true =>
  rw [if_pos rfl] at e4
  obtain rfl:=cT e4
  exact .inl ⟨pp,xs,rfl,dE,λp hp=>q _ _ (mI.trans (pG hp _)) ((Bn hp (jU.cut l h)).from mI)⟩
 | false =>
  rw [if_neg mv] at e4
  obtain ⟨hw,rfl⟩:=gU e4
  exact .inr ⟨pp,xs,rfl,dE,by rw [jU.length];exact hw,λp hp=>q _ _ (mI.trans (pG hp _)) ((EK (O:=OO O σ env) (H:=H3) (λ_ z=>(R.grow mI).oo z) hp (jU.cut l h)).from mI)⟩
noncomputable def An(f:En->Option Sl)(lo hi:En->Option (Option Int)):En->Option Sl:=λenv=>(f env).bind λx=>(lo env).bind λl=>(hi env).bind λh=>match x.d with
 | .tup ds=>some (.sh (.tup (cutD ds l h)))
 | _=>none
end
structure Def(K:aI)(mg:Str->Option Value)(x:Str)(st:Stmt)(ps:List Str)(f:Addr)(fd:FuncData):Prop where
 fn:tB K x x st f fd
 bd:Binds K fd ps []
 m:mg x=some (.ref f)
end DL
namespace DL
open PySem PySem.Spec PyProof.Rows L2
structure Fx(X:Cx)(N:List Str)(sc:Scope)(k:Nat)(full:Bool:=true):Prop where
 n:X.N=N
 sc:X.env.scope=sc
 calm:X.calm=true
 fn:full=true->∀x,X.fn x=true
 own:PassesOwn (model X.prog X.w) X.A X.env X.xe
 room:bJ k X.A
 nd:N.Nodup
 top:full=true->X.stack=X.env::X.outer/\X.env.frame=some X.env.locals/\X.ex=[]
section
variable {X:Cx}{N:List Str}{sc:Scope}{k:Nat}{full:Bool}{pos p p1 p2 pos' aR:Pos}{e a b:Expr}{fa fb:En->Option Sl}
theorem Fx.qf(h:Fx X N sc k full)(hv:iN sc x):iN X.env.scope x:=by rw [h.sc];exact hv
theorem Fx.loc(h:Fx X N sc k full)(hv:Loc sc x):Loc X.env.scope x:=by rw [h.sc];exact hv
theorem Fx.ix(h:Fx X N sc k full){i:Nat}{x:Str}(hN:N[i]?=some x):X.N[i]?=some x:=by rw [h.n];exact hN
theorem Fx.tJ(h:Fx X N sc k full)(hf:full=true\/sc.names.lookup x=some .local):X.fn x=true\/X.env.scope.names.lookup x=some .local:=hf.elim (λe=>.inl (h.fn e x)) λe=>.inr (by rw [h.sc];exact e)
theorem Fx.tT(h:Fx X N sc k full):X.N.Nodup:=by rw [h.n];exact h.nd
theorem Fx.g(h:Fx X N sc k full)(hg:sc.names.lookup x=some .globalImplicit:=by rfl):Gl X x:=by
 show X.env.kindOf x=some .globalImplicit
 unfold De
 rw [h.sc]
 exact hg
theorem Fx.v(h:Fx X N sc k full)(i:Nat)(hN:N[i]?=some x:=by rfl)(hv:iN sc x:=by first | exact cD rfl | exact bH (cD rfl) | exact bH (bH rfl))(hd:(x==("__debug__":Str))=false:=by rfl)
  (c7:(x==("__classdict__":Str))=false:=by rfl):EV X (.Name x pos) (eV i):=Pr i (h.ix hN) (h.qf hv) hd c7
theorem Fx.bv(h:Fx X N sc k full)(i:Nat)(hN:N[i]?=some x:=by rfl)(hv:iN sc x:=by first | exact cD rfl | exact bH (cD rfl) | exact bH (bH rfl))(hd:(x==("__debug__":Str))=false:=by rfl)
  (c7:(x==("__classdict__":Str))=false:=by rfl):BV X (.Name x pos) (bV i):=b9x i (h.ix hN) (h.qf hv) hd c7
theorem Fx.tg(h:Fx X N sc k full)(i:Nat)(hN:N[i]?=some x:=by rfl)(hv:Loc sc x:=by first | exact cD rfl | exact bH rfl)(hf:full=true\/sc.names.lookup x=some .local:=by first | exact cD rfl | exact bH rfl):GV X (.Name x pos) (gN i):=b6Q h.tT (h.ix hN) (h.loc hv) (h.tJ hf)
theorem Fx.set(h:Fx X N sc k full)(i:Nat)(he:EV X e fa)(hN:N[i]?=some x:=by rfl)(hv:Loc sc x:=by first | exact cD rfl | exact bH rfl)
  (hs:swapsWith e (some (.Name x pos')) pos.line X.env=pure false:=by rfl)(hf:full=true\/sc.names.lookup x=some .local:=by first | exact cD rfl | exact bH rfl):SV X (.Assign [.Name x pos'] e pos) (c6 i fa):=Pa h.tT (h.ix hN) (h.loc hv) he hs (h.tJ hf)
theorem Fx.aD(h:Fx X N sc k full)(i:Nat)(he:EV X e fa)(hN:N[i]?=some x:=by rfl)(hv:Loc sc x:=by first | exact cD rfl | exact bH rfl)
  (hs:swapsWith e (some (.Name x pos')) pos.line X.env=pure false:=by rfl)(hf:full=true\/sc.names.lookup x=some .local:=by first | exact cD rfl | exact bH rfl):SV X (.Assign [.Name x pos'] e pos) (aY i fa):=Qm h.tT (h.ix hN) (h.loc hv) he hs (h.tJ hf)
theorem Fx.l7(h:Fx X N sc k full)(i:Nat)(hN:N[i]?=some x:=by rfl)(hv:iN sc x:=by first | exact cD rfl | exact bH (cD rfl) | exact bH (bH rfl))(hd:(x==("__debug__":Str))=false:=by rfl)
  (c7:(x==("__classdict__":Str))=false:=by rfl):SV X (.Return (some (.Name x p2)) pos) (oA i):=b58 i (h.ix hN) (h.qf hv) hd c7
theorem Fx.app(h:Fx X N sc k full)(i:Nat)(ha:EV X e fa)(hN:N[i]?=some x:=by rfl)(hv:iN sc x:=by first | exact cD rfl | exact bH (cD rfl) | exact bH (bH rfl))(hd:(x==("__debug__":Str))=false:=by rfl)
  (c7:(x==("__classdict__":Str))=false:=by rfl)(hs:starEach [e] X.env=[(false,eval e X.env)]:=by rfl)
  (cu:attributeBase (.Name x p1) "append" X.env (eval (.Name x p1) X.env)=eval (.Name x p1) X.env:=by rfl)
  (il:((backTo aR (starEach [e] X.env)).all (λx=>!x.1)&&(backToKw aR (keywordEach [] X.env)).all (λx=>x.1.isSome)
   && decide ([e].length+([]:List Keyword).length+(if ([]:List Keyword).isEmpty then 0 else 1)<30))=true:=by rfl)
  (cn:(p2.endLine==aR.line)=true:=by rfl)
  (qw:swapsWith (.Call (.Attribute (.Name x p1) "append" p2) [e] [] aR) none pos.line X.env=pure false:=by rfl):
  SV X (.Expr (.Call (.Attribute (.Name x p1) "append" p2) [e] [] aR) pos) (cK i fa):=Rc ha (h.ix hN) (h.qf hv) hd c7 hs cu il cn qw
theorem Fx.ext(h:Fx X N sc k full)(i:Nat)(ha:EV X e fa)(hN:N[i]?=some x:=by rfl)(hv:iN sc x:=by first | exact cD rfl | exact bH (cD rfl) | exact bH (bH rfl))(hd:(x==("__debug__":Str))=false:=by rfl)
  (c7:(x==("__classdict__":Str))=false:=by rfl)(hs:starEach [e] X.env=[(false,eval e X.env)]:=by rfl)
  (cu:attributeBase (.Name x p1) "extend" X.env (eval (.Name x p1) X.env)=eval (.Name x p1) X.env:=by rfl)
  (il:((backTo aR (starEach [e] X.env)).all (λx=>!x.1)&&(backToKw aR (keywordEach [] X.env)).all (λx=>x.1.isSome)
   && decide ([e].length+([]:List Keyword).length+(if ([]:List Keyword).isEmpty then 0 else 1)<30))=true:=by rfl)
  (cn:(p2.endLine==aR.line)=true:=by rfl)
  (qw:swapsWith (.Call (.Attribute (.Name x p1) "extend" p2) [e] [] aR) none pos.line X.env=pure false:=by rfl):
  SV X (.Expr (.Call (.Attribute (.Name x p1) "extend" p2) [e] [] aR) pos) (j' i fa):=b1F ha (h.ix hN) (h.qf hv) hd c7 hs cu il cn qw
theorem Fx.pop(h:Fx X N sc k full)(i j:Nat){x y:Str}(hN:N[i]?=some x:=by rfl)(hx:Loc sc x:=by first | exact cD rfl | exact bH rfl)(HF:N[j]?=some y:=by rfl)(hv:iN sc y:=by first | exact cD rfl | exact bH (cD rfl) | exact bH (bH rfl))
  (hd:(y==("__debug__":Str))=false:=by rfl)(c7:(y==("__classdict__":Str))=false:=by rfl)
  (cu:attributeBase (.Name y p1) "pop" X.env (eval (.Name y p1) X.env)=eval (.Name y p1) X.env:=by rfl)
  (cn:(p2.endLine==aR.line)=true:=by rfl)
  (hs:swapsWith (.Call (.Attribute (.Name y p1) "pop" p2) [] [] aR) (some (.Name x pos')) pos.line X.env=pure false:=by rfl)(hf:full=true\/sc.names.lookup x=some .local:=by first | exact cD rfl | exact bH rfl):
  SV X (.Assign [.Name x pos'] (.Call (.Attribute (.Name y p1) "pop" p2) [] [] aR) pos) (lZ i j):=b1C h.tT (h.ix hN) (h.loc hx) (h.ix HF) (h.qf hv) hd c7 cu cn hs (h.tJ hf)
theorem Fx.item(h:Fx X N sc k full)(i:Nat){x:Str}(ha:EV X e fa)(hb:EV X b fb)(hN:N[i]?=some x:=by rfl)(hv:iN sc x:=by first | exact cD rfl | exact bH (cD rfl) | exact bH (bH rfl))(hd:(x==("__debug__":Str))=false:=by rfl)
  (c7:(x==("__classdict__":Str))=false:=by rfl)
  (jA:∀v,assign (.Subscript (.Name x p1) b p2) X.env v=(do
   let ov <-holding [v] (eval (.Name x p1) X.env)
   let iv <-holding [v,ov] (eval b X.env)
   standAt p2
   holding [v,ov,iv] (setItem ov iv v)
   release [v,ov,iv] []):=by intro _;rfl)
  (hs:swapsWithSole [.Subscript (.Name x p1) b p2] e pos.line X.env=pure false:=by rfl)(hw:swappedStores [.Subscript (.Name x p1) b p2] e X.env=pure none:=by rfl)
  (h1:(assignEach [.Subscript (.Name x p1) b p2] X.env).map (·.2)=[assign (.Subscript (.Name x p1) b p2) X.env]:=by rfl):
  SV X (.Assign [.Subscript (.Name x p1) b p2] e pos) (wH i fa fb):=b59 ha hb (h.ix hN) (h.qf hv) hd c7 jA hs hw h1
end
theorem yZ{us:List Value}(h:us.length=0):us=[]:=by
 exact DI.mp h
theorem OW{us:List Value}(h:us.length=1):∃a0,us=[a0]:=by
 cases us with
 | nil=>cases h
 | cons a r =>
  have:=yZ (us:=r) (by simpa using h)
  exact ⟨a,by rw [this]⟩
theorem OX{us:List Value}(h:us.length=2):∃a0 a1,us=[a0,a1]:=by
 cases us with
 | nil=>cases h
 | cons a r =>
  have:=OW (us:=r) (by simpa using h)
  obtain ⟨b0,e⟩:=this
  exact ⟨a,b0,by rw [e]⟩
theorem OY{us:List Value}(h:us.length=3):∃a0 a1 a2,us=[a0,a1,a2]:=by
 cases us with
 | nil=>cases h
 | cons a r =>
  have:=OX (us:=r) (by simpa using h)
  obtain ⟨b0,b1,e⟩:=this
  exact ⟨a,b0,b1,by rw [e]⟩
theorem yY{us:List Value}(h:us.length=4):∃a0 a1 a2 a3,us=[a0,a1,a2,a3]:=by
 cases us with
 | nil=>cases h
 | cons a r =>
  have:=OY (us:=r) (by simpa using h)
  obtain ⟨b0,b1,b2,e⟩:=this
  exact ⟨a,b0,b1,b2,by rw [e]⟩
section
variable {P:Program}{w:World}{K:aI}{mg:Str->Option Value}{base:Heap}
theorem HS{x qual:Str}{st:Stmt}{f:Addr}{fd:FuncData}{N ps:List Str}{k:Nat}{F:SF}(Fn:tB K x qual st f fd)(S:dJ N ps (fU st))
  (eu:∀X:Cx,X.prog=P->X.w=w->X.K=K->X.mg=mg->X.base=base->Fx X N (fU st) k->kY X (iZ st) F):bY P w K mg base jt (k+1) f fd ps (mY K ps.length (aH F N.length)):=
 HU Fn S λdF A outer s H E hr=>eu _ rfl rfl rfl rfl rfl ⟨rfl,rfl,rfl,λ_ _=>rfl,IA,hr,S.nd,λ_=>⟨rfl,rfl,rfl⟩⟩
end
def Oz(P:Program)(w:World)(K:aI)(mg:Str->Option Value)(base:Heap)(x:Str)(st:Stmt)(ps:List Str)(j:Nat)(φ:List D->Option Sl):Prop:=∃f fd,Def K mg x st ps f fd/\bY P w K mg base jt j f fd ps (mY K ps.length φ)
inductive Sx:Cx->Program->World->aI->(Str->Option Value)->Heap->Prop
 | mk (X:Cx):Sx X X.prog X.w X.K X.mg X.base
theorem Ad{P:Program}{w:World}{K:aI}{mg:Str->Option Value}{base:Heap}{x:Str}{st:Stmt}{f:Addr}{fd:FuncData}{N ps:List Str}{k:Nat}{F:SF}(D':Def K mg x st ps f fd)
  (eu:∀X:Cx,Sx X P w K mg base->Fx X N (fU st) k->kY X (iZ st) F)(S:dJ N ps (fU st):=by exact ⟨rfl,rfl,rfl,by decide +kernel,rfl,by decide +kernel,by decide +kernel⟩):bY P w K mg base jt (k+1) f fd ps (mY K ps.length (aH F N.length)):=
 HS D'.fn S λX e1 e2 e3 e4 e5=>by subst e1 e2 e3 e4 e5;exact eu X (.mk X)
theorem aM{P:Program}{w:World}{K:aI}{mg:Str->Option Value}{base:Heap}{x:Str}{st:Stmt}{f:Addr}{fd:FuncData}{N ps:List Str}{k:Nat}{F:SF}(D':Def K mg x st ps f fd)
  (eu:∀X:Cx,Sx X P w K mg base->Fx X N (fU st) k->kY X (iZ st) F)(S:dJ N ps (fU st):=by exact ⟨rfl,rfl,rfl,by decide +kernel,rfl,by decide +kernel,by decide +kernel⟩):Oz P w K mg base x st ps (k+1) (aH F N.length):=
 ⟨f,fd,D',Ad D' eu S⟩
theorem l9{X X':Cx}{x:Str}{st:Stmt}{ps:List Str}{j:Nat}{φ:List D->Option Sl}(e1:X'.prog=X.prog)(e2:X'.w=X.w)(e3:X'.K=X.K)(e4:X'.mg=X.mg)(e5:X'.base=X.base)(O:Oz X.prog X.w X.K X.mg X.base x st ps j φ):Oz X'.prog X'.w X'.K X'.mg X'.base x st ps j φ:=by
 rw [e1,e2,e3,e4,e5];exact O
theorem Fx.cl{X:Cx}{N:List Str}{sc:Scope}{k j:Nat}{full:Bool}{x:Str}{st:Stmt}{ps:List Str}{φ:List D->Option Sl}{e:Expr}{es:List Expr}{fs:En->Option (List D)}{p pos:Pos}(h:Fx X N sc k full)(O:Oz X.prog X.w X.K X.mg X.base x st ps j φ)(ha:AV X (e::es) fs)(hj:j<=k:=by decide)(hg:sc.names.lookup x=some .globalImplicit:=by rfl)(ko:(x==("__debug__":Str))=false:=by decide)(he:starEach (e::es) X.env=(false,eval e X.env)::starEach es X.env:=by rfl)(dr:(backTo pos (starEach es X.env)).any (·.1)=false:=by rfl):
  EV X (.Call (.Name x p) (e::es) [] pos) (aF ps.length φ fs):=by
 obtain ⟨f,fd,D',F⟩:=O
 exact b6Z F (h.room.mono hj) (h.g hg) D'.m D'.fn.kp D'.bd ha ko he dr
structure FI(K:aI)(n:Str)(t:Stmt)(f:Addr)(od an:Option Addr)(sl:Array (Option Value))(oc kV dc pm cd ct:Value):Prop where
 a:lE K mainGlobals n=some (some (.ref f))
 l:K.lookup f=some ⟨oc,od,.func (jX n n (lO t) (iZ t) (fU t) .none kV dc pm an cd ct),sl⟩
 c:DD K cd n=true
 k:uB K (.ref f)=true
section
variable {K:aI}{mg:Str->Option Value}{h:Heap}{n:Str}{t:Stmt}{f:Addr}{od an:Option Addr}{sl:Array (Option Value)}{oc kV dc pm cd ct:Value}{ps:List Str}
theorem CH(X:K.In h)(G:h.Ns mainGlobals mg)(i:FI K n t f od an sl oc kV dc pm cd ct)(hb:∀(kV doc pm:Value) (an:Option Addr) (dF ct:Value) (us:List Value),us.length=ps.length->bindArgs (jX n n (lO t) (iZ t) (fU t) .none kV doc pm an dF ct) ⟨us,[]⟩=pure (ps.zip us)):Def K mg n t ps f (jX n n (lO t) (iZ t) (fU t) .none kV dc pm an cd ct):=
 ⟨Pw i.l i.c i.k,(Pw i.l i.c i.k).binds hb,IQ X G i.a⟩
theorem bK(X:K.In h)(G:h.Ns mainGlobals mg)(i:FI K n t f od an sl oc kV dc pm cd ct)(hb:∀(kV doc pm:Value) (an:Option Addr) (dF ct a0:Value),bindArgs (jX n n (lO t) (iZ t) (fU t) .none kV doc pm an dF ct) ⟨[a0],[]⟩=pure (ps.zip [a0]):=by intros;rfl)(hl:ps.length=1:=by rfl):Def K mg n t ps f (jX n n (lO t) (iZ t) (fU t) .none kV dc pm an cd ct):=
 CH X G i λ_ _ _ _ _ _ us hu=>by obtain ⟨_,rfl⟩:=OW (hu.trans hl);exact hb ..
theorem cW(X:K.In h)(G:h.Ns mainGlobals mg)(i:FI K n t f od an sl oc kV dc pm cd ct)(hb:∀(kV doc pm:Value) (an:Option Addr) (dF ct a0 a1:Value),bindArgs (jX n n (lO t) (iZ t) (fU t) .none kV doc pm an dF ct) ⟨[a0,a1],[]⟩=pure (ps.zip [a0,a1]):=by intros;rfl)(hl:ps.length=2:=by rfl):Def K mg n t ps f (jX n n (lO t) (iZ t) (fU t) .none kV dc pm an cd ct):=
 CH X G i λ_ _ _ _ _ _ us hu=>by obtain ⟨_,_,rfl⟩:=OX (hu.trans hl);exact hb ..
theorem oS(X:K.In h)(G:h.Ns mainGlobals mg)(i:FI K n t f od an sl oc kV dc pm cd ct)(hb:∀(kV doc pm:Value) (an:Option Addr) (dF ct a0 a1 a2:Value),bindArgs (jX n n (lO t) (iZ t) (fU t) .none kV doc pm an dF ct) ⟨[a0,a1,a2],[]⟩=pure (ps.zip [a0,a1,a2]):=by intros;rfl)(hl:ps.length=3:=by rfl):Def K mg n t ps f (jX n n (lO t) (iZ t) (fU t) .none kV dc pm an cd ct):=
 CH X G i λ_ _ _ _ _ _ us hu=>by obtain ⟨_,_,_,rfl⟩:=OY (hu.trans hl);exact hb ..
theorem qt(X:K.In h)(G:h.Ns mainGlobals mg)(i:FI K n t f od an sl oc kV dc pm cd ct)(hb:∀(kV doc pm:Value) (an:Option Addr) (dF ct a0 a1 a2 a3:Value),bindArgs (jX n n (lO t) (iZ t) (fU t) .none kV doc pm an dF ct) ⟨[a0,a1,a2,a3],[]⟩=pure (ps.zip [a0,a1,a2,a3]):=by intros;rfl)(hl:ps.length=4:=by rfl):Def K mg n t ps f (jX n n (lO t) (iZ t) (fU t) .none kV dc pm an cd ct):=
 CH X G i λ_ _ _ _ _ _ us hu=>by obtain ⟨_,_,_,_,rfl⟩:=yY (hu.trans hl);exact hb ..
end
end DL
namespace DL
open PySem L2
theorem b9b(i j:Int):bM (.int i) (.int j)=some (.sh (.int (i-j))):=rfl
end DL
namespace DL
open PySem PySem.Spec PyProof.Rows L2
def wK(K:aI)(O:Addr->Prop)(J:It)(H:Hp)(ds:List D):Prop:=
 ∀(O':Addr->Prop) (H2:Hp),(∀q u,H q=some u->¬O q->H2 q=some u/\¬O' q)->(∀q,O' q->H2 q≠none) ->
  ∀i:Nat,(∀d,ds[i]?=some d->J.go i H2/\∀x H3,J.tF i H2 x H3->au H2 H3/\Is K O' H3 x d)/\(ds.length<=i->J.stop i H2)
def IV(X:Cx)(tg it:Expr)(f:En->Option (List D)):Prop:=
 ∃wi:TI,PI X tg it wi/\∀(O:Addr->Prop) (B:Hp) (σ:L2.St) (H:Hp) (env:En) (ds:List D) (R:It->Hp->Prop),Rel X.K O B σ H env->f env=some ds ->
  (∀J H',au H H'->wK X.K (OO O σ env) J H' ds->R J H')->wi σ H R
theorem Kk{K:aI}{O:Addr->Prop}{H H2:Hp}{k:Bool}{p:Addr}{xs:List V}(kp:∀q u,H q=some u->¬O q->H2 q=some u)(h:Sq K H k p xs)(hp:¬O p):Sq K H2 k p xs:=by
 cases k with
 | true =>
  rcases h with (h | ⟨o,h⟩) | h
  .exact .inl (.inl (kp _ _ h hp))
  .exact .inl (.inr ⟨o,kp _ _ h hp⟩)
  .exact .inr h
 | false =>
  rcases h with (h | ⟨o,h⟩) | h
  .exact .inl (.inl (kp _ _ h hp))
  .exact .inl (.inr ⟨o,kp _ _ h hp⟩)
  .exact .inr h
noncomputable def eW(f:En->Option Sl):En->Option (List D):=λenv=>(f env).bind λr=>(e9 r.d).map (·.2)
section
variable {X:Cx}{tg it:Expr}{fa:En->Option Sl}
theorem nJ(hi:EV X it fa):IV X tg it (eW fa):=by
 obtain ⟨ti,pi,ki⟩:=hi
 refine ⟨_,O3 pi,λO B σ H env ds R Rl e q=>?_⟩
 obtain ⟨r,e1,e2⟩:=bind_some e
 obtain ⟨⟨k,gm⟩,e4,e5⟩:=map_some e2
 cases e5
 refine ki O B σ H env r _ Rl e1 λv H1 s1 r1=>?_
 obtain ⟨p,xs,rfl,h1,h2,h3⟩:=(r1.is λq=>Rl.oo).mZ e4
 refine ⟨p,rfl,?_⟩
 have key:∀(O':Addr->Prop) (H2:Hp),(∀q u,H1 q=some u->¬OO O σ env q->H2 q=some u/\¬O' q)->Sq X.K H2 k p xs/\aN X.K O' H2 xs gm:=λO' H2 kp=>by
  refine ⟨?_,h2.map (λq hq hn=>?_) λq u e n=>(kp q u e n).1⟩
  .rcases h3 with h3 | h3
   .exact Kk (λq u e n=>(kp q u e n).1) h1 h3
   .exact h3 H2
  .cases e:H1 q with
   | none=>exact (hq e).elim
   | some u=>exact (kp q u e hn).2
 cases k with
 | true =>
  refine .inl ⟨⟨xs,h1⟩,q _ H1 s1 λO' H2 kp hO i=>⟨λd hd=>?_,λhl=>?_⟩⟩
  .obtain ⟨hq,hs⟩:=key O' H2 kp
   obtain ⟨x,hx,oZ⟩:=hs.get hd
   refine ⟨⟨xs,x,hq,hx⟩,λy H3 hy=>?_⟩
   obtain ⟨rfl,hy⟩:=hy
   have:=hy xs hq
   rw [hx] at this
   cases this
   exact ⟨au.refl _,oZ⟩
  .obtain ⟨hq,hs⟩:=key O' H2 kp
   exact ⟨xs,hq,by rw [hs.length];exact hl⟩
 | false =>
  refine .inr ⟨⟨xs,h1⟩,q _ H1 s1 λO' H2 kp hO i=>⟨λd hd=>?_,λhl=>?_⟩⟩
  .obtain ⟨hq,hs⟩:=key O' H2 kp
   obtain ⟨x,hx,oZ⟩:=hs.get hd
   refine ⟨⟨xs,x,hq,hx⟩,λy H3 hy=>?_⟩
   obtain ⟨rfl,hy⟩:=hy
   have:=hy xs hq
   rw [hx] at this
   cases this
   exact ⟨au.refl _,oZ⟩
  .obtain ⟨hq,hs⟩:=key O' H2 kp
   exact ⟨xs,hq,by rw [hs.length];exact hl⟩
theorem b3G{K:aI}{O:Addr->Prop}{H:Hp}(lo:Int)(n:Nat):wK K O (nX lo n) H (dQ lo n):=λO' H2 _ _ i=>by
 refine ⟨λd hd=>?_,λhl=>show n<=i by simpa [dQ] using hl⟩
 unfold dQ at hd
 rw [qU] at hd
 obtain ⟨k,hk,rfl⟩:=map_some hd
 obtain ⟨hi,rfl⟩:=j0.mp hk
 rw [List.length_range] at hi
 refine ⟨hi,λx H3 hy=>?_⟩
 obtain ⟨rfl,rfl⟩:=hy
 rw [List.getElem_range]
 exact ⟨au.refl _,Is.int _⟩
noncomputable def kr(h:List D->Option (List D))(f:En->Option (List D)):En->Option (List D):=λenv=>(f env).bind h
noncomputable def Ec(f:En->Option (List D))(g:GF)(F:SF):SF:=λenv=>(f env).bind λds=>forL g F ds env
theorem Ql(hp:PassesOwn (model X.prog X.w) X.A X.env X.xe)(hc:X.calm=true)(hi:IV X tg it fi)(hg:GV X tg g)(hb:kY X body F)
  (hs:∀x,foldedSetIterable it X.env x=pure x:=by intro _;rfl):SV X (.For tg it body [] pos) (Ec fi g F):=by
 obtain ⟨wi,pi,ki⟩:=hi
 obtain ⟨qg,pg,kg⟩:=hg
 obtain ⟨tb,pb,kb⟩:=hb
 refine ⟨_,J0 hp hc pi pg pb hs,λO B σ H env fl aj D R e q=>?_⟩
 obtain ⟨ds,e1,e2⟩:=bind_some e
 refine ki O B σ H env ds _ R e1 λJ H1 s1 wk=>?_
 have q':dC X.K O B σ H1 env D fl aj:=q.from (Gd.refl s1)
 refine ⟨λi m cO H2=>m=ds.length-i/\i<=ds.length/\Left X.K O B σ H1 env g F ds fl aj i cO H2,⟨ds.length,by simp,nD _,⟨env,R.grow s1,Gd.refl (au.refl _),e2⟩⟩,?_⟩
 rintro i m cO H2 ⟨rfl,hi,L⟩
 obtain ⟨bx,R2,gd,ee⟩:=id L
 have w:=wk (OO O cO bx) H2 (λa u ea na=>by
  obtain ⟨h1,h2⟩:=gd a u ea λz=>na (.inr z)
  exact ⟨h1,λz=>z.elim (λz=>na (.inl z)) h2⟩) (λa=>R2.oo) i
 by_cases bE:i<ds.length
 .obtain ⟨go,yl⟩:=w.1 ds[i] (by simp [bE])
  refine .inr ⟨go,Left X.K O B σ H1 env g F ds fl aj (i+1),λaJ H' p'=>⟨ds.length-(i+1),by ext bE,rfl,bE,p'⟩,λx H3 hy=>?_⟩
  obtain ⟨s3,hx⟩:=yl x H3 hy
  have zN:ds.drop i=ds[i]::ds.drop (i+1):=nG bE
  rw [zN,forL] at ee
  cases Ho:g ds[i] bx with
  | none=>rw [Ho] at ee;cases ee
  | some ml =>
   rw [Ho] at ee
   refine kg O B cO H3 bx ml x ds[i] _ (R2.grow s3) hx Ho λSU H4 R4 g4=>?_
   dsimp only at ee
   cases hF:F ml with
   | none=>rw [hF] at ee;cases ee
   | some y =>
    obtain ⟨f2,gg⟩:=y
    rw [hF] at ee
    have HL:=gd.trans ((Gd.refl s3).trans g4)
    refine kb O B SU H4 ml f2 gg _ R4 hF ?_
    cases f2 with
    | nx=>exact λFE H5 R5 g5=>⟨gg,R5,HL.trans g5,ee⟩
    | ct=>exact λFE H5 R5 g5=>⟨gg,R5,HL.trans g5,ee⟩
    | bk=>cases ee;exact λFE H5 R5 g5=>q' FE H5 R5 (HL.trans g5)
    | rt r=>cases ee;exact q'
 .exact .inl ⟨w.2 (by ext bE),ET (by ext bE) q' L⟩
end
noncomputable def rl(cc sc:Scope):Scope:=
 { cc with names:=cc.names.map λ(n,k)=>if (k==.free&&sc.kind==.function&&sc.names.lookup n==some .cell) then (n,.cell) else (n,k) }
theorem Ld{sc:Scope}:∀{names:List (Str×NameKind)} {x:Str} {k:NameKind},names.lookup x=some k ->
  (names.map λ(n,k)=>if (k==nu&&sc.kind==.function&&sc.names.lookup n==some .cell) then (n,uH) else (n,k)).lookup x=some (if (k==nu&&sc.kind==.function&&sc.names.lookup x==some .cell) then uH else k)
 | [],_,_,h=>by simp at h
 | (n,k')::r,x,k,h=>by
  have ih:=@Ld sc r x k
  show List.lookup x ((if (k'==nu&&sc.kind==.function&&sc.names.lookup n==some .cell)=true then (n,uH) else (n,k'))::_)=_
  cases hx:x==n with
  | true =>
   simp only [nH,hx] at h
   cases h
   have e:x=n:=by simpa using hx
   subst e
   split<;>simp [nH]
  | false =>
   simp only [nH,hx] at h
   split
   .simp only [nH,hx];exact ih h
   .simp only [nH,hx];exact ih h
theorem b1c{sc:Scope}:∀{names:List (Str×NameKind)} {x:Str} {k:NameKind},
  (names.map λ(n,k)=>if (k==nu&&sc.kind==.function&&sc.names.lookup n==some .cell) then (n,uH) else (n,k)).lookup x=some k->∃k',names.lookup x=some k'/\k=if (k'==nu&&sc.kind==.function&&sc.names.lookup x==some .cell) then uH else k'
 | names,x,k,h=>by
  cases e:names.lookup x with
  | some k'=>have:=Ld (sc:=sc) e;rw [h] at this;exact ⟨k',rfl,cT this⟩
  | none =>
   exfalso
   induction names with
   | nil=>simp at h
   | cons y r ih =>
    obtain ⟨n,k'⟩:=y
    have h':List.lookup x ((if (k'==nu&&sc.kind==.function&&sc.names.lookup n==some .cell)=true then (n,uH) else (n,k'))::(r.map λ(n,k)=>if (k==nu&&sc.kind==.function&&sc.names.lookup n==some .cell) then (n,uH) else (n,k)))=some k:=h
    cases hx:x==n with
    | true=>simp [nH,hx] at e
    | false =>
     simp only [nH,hx] at e
     apply ih _ e
     split at h'
     .simpa only [nH,hx] using h'
     .simpa only [nH,hx] using h'
noncomputable def fo(cells:List (Str×Addr)):List (Str×NameKind)->List (Str×Addr)->List (Str×Addr)
 | [],acc=>acc
 | (n,k)::r,acc=>fo cells r (if k==.free then (n,(cells.lookup n).getD 0)::acc else acc)
theorem Ll:∀(names:List (Str×NameKind)) (acc:List (Str×Addr)),(∀y∈names,y.2=.free->∃c,env.cells.lookup y.1=some c) ->
  (forIn names acc λ(x:Str×NameKind) r=>(if (x.2==.free)=true then do let a <-cellOf env x.1;pure (pU ((x.1,a)::r)) else pure (pU r):Sem (ForInStep (List (Str×Addr)))))=pure (fo env.cells names acc)
 | [],acc,_=>rfl
 | (n,k)::r,acc,h=>by
  rw [Du]
  have hr:∀y∈r,y.2=.free->∃c,env.cells.lookup y.1=some c:=λy hy=>h y (br _ hy)
  cases hk:k==nu with
  | true =>
   have ek:k=.free:=by simpa using hk
   obtain ⟨c,hc⟩:=h (n,k) aZ ek
   replace hc:env.cells.lookup n=some c:=hc
   have ui:cellOf env n=pure c:=by unfold cellOf;rw [hc]
   simp only [if_true]
   rw [ui]
   simp only [pure_bind]
   rw [Ll r _ hr]
   conv=>rhs;unfold fo
   rw [hk,hc]
   rfl
  | false =>
   simp only [qM,if_false,pure_bind]
   rw [Ll r _ hr]
   conv=>rhs;unfold fo
   rw [hk]
   rfl
theorem a7T(h:∀y∈sc.names,y.2=.free->∃c,env.cells.lookup y.1=some c):closureFor sc env=pure (fo env.cells sc.names []):=by
 unfold closureFor
 rw [<-Ll sc.names [] h]
 show (forIn sc.names [] _ >>= λcs=>pure cs)=_
 rw [bind_pure]
theorem QS:∀(names:List (Str×NameKind)) (acc:List (Str×Addr)) {c:Addr},(fo cells names acc).lookup x=some c->acc.lookup x=some c\/((x,nu)∈names/\c=(cells.lookup x).getD 0)
 | [],acc,c,h=>.inl h
 | (n,k)::r,acc,c,h=>by
  unfold fo at h
  rcases QS r _ h with h1 | ⟨h,e⟩
  .clear h
   have h:=h1
   clear h1
   cases hk:k==nu with
   | false=>rw [hk] at h;exact .inl (by simpa using h)
   | true =>
    rw [hk] at h
    simp only [if_true] at h
    have ek:k=.free:=by simpa using hk
    cases hx:x==n with
    | true =>
     simp only [nH,hx] at h
     have e:x=n:=by simpa using hx
     subst e ek
     exact .inr ⟨aZ,(cT h).symm⟩
    | false =>
     simp only [nH,hx] at h
     exact .inl h
  .exact .inr ⟨br _ h,e⟩
theorem Rq:∀(names:List (Str×NameKind)) (acc:List (Str×Addr)),((∃c,acc.lookup x=some c)\/(x,nu)∈names)->∃c,(fo cells names acc).lookup x=some c
 | [],acc,h=>h.elim id λz=>nomatch z
 | (n,k)::r,acc,h=>by
  unfold fo
  refine Rq r _ ?_
  cases hk:k==nu with
  | false =>
   rcases h with h | h
   .exact .inl (by simpa using h)
   .rcases bq.mp h with e | h
    .cases e;simp at hk
    .exact .inr h
  | true =>
   simp only [if_true]
   cases hx:x==n with
   | true=>exact .inl ⟨_,by simp only [nH,hx];rfl⟩
   | false =>
    rcases h with ⟨c,h⟩ | h
    .exact .inl ⟨c,by simp only [nH,hx];exact h⟩
    .rcases bq.mp h with e | h
     .cases e;simp at hx
     .exact .inr h
structure cN(N:List Str)(sc:Scope)(N':List Str)(caps:List Nat)(nt:Nat)(cc:Scope):Prop where
 kind:cc.kind=.function
 loc:∀y∈cc.names,y.2=.local->cc.names.lookup y.1=some .local
 oR:∀y∈cc.names,y.2≠.cell
 free:∀y∈cc.names,y.2=.free->sc.names.lookup y.1=some .cell\/sc.names.lookup y.1=some .free
 nd:N'.Nodup
 len:N'.length=nt+caps.length
 cap:caps.map (λi=>N[i]?)=(N'.drop nt).map some
 fr:∀x∈N'.drop nt,cc.names.lookup x=some .free
theorem LJ{names:List (Str×NameKind)}{x:Str}(h:names.lookup x=some k):(x,k)∈names:=wC h
noncomputable def iU:List Nat->En->Option En
 | [],_=>some []
 | i::is,env=>match env[i]? with
  | some (.sh d)=>(iU is env).map (Sl.sh d::·)
  | _=>none
noncomputable def lJ(g:GF)(fc:En->Option Bool)(fe:En->Option Sl):List D->En->Option (List D)
 | [],_=>some []
 | d::ds,e=>(g d e).bind λe1=>(fc e1).bind λb=>if b=true then (fe e1).bind λr=>(lJ g fc fe ds e1).bind λrs=>some (r.d::rs) else lJ g fc fe ds e1
noncomputable def gD(fi:En->Option (List D))(caps:List Nat)(nt:Nat)(g:GF)(fc:En->Option Bool)(fe:En->Option Sl):En->Option Sl:=λenv =>
 (fi env).bind λds=>(iU caps env).bind λcs=>if ds.length<=16777216 then (lJ g fc fe ds (jm nt Sl.no++cs)).map Sl.ow else none
noncomputable def dS:List Nat->L2.St->L2.St
 | [],_=>[]
 | i::is,σ=>(σ[i]?).getD none::dS is σ
theorem PY{K:aI}{O:Addr->Prop}{B:Hp}{σ:L2.St}{H:Hp}{env:En}(R:Rel K O B σ H env):∀{caps:List Nat} {cs:En},iU caps env=some cs->cs.length=caps.length/\(dS caps σ).length=caps.length /\
  ∀(j:Nat) (s:Sl),cs[j]?=some s->∃(d:D) (v:V) (i:Nat),s=Sl.sh d/\(dS caps σ)[j]?=some (some v)/\Is K (OO O σ env) H v d/\caps[j]?=some i/\σ[i]?=some (some v)
 | [],cs,e=>by cases e;exact ⟨rfl,rfl,λj s h=>by simp at h⟩
 | i::is,cs,e=>by
  unfold iU at e
  cases h:env[i]? with
  | none=>rw [h] at e;cases e
  | some s =>
   rw [h] at e
   cases s with
   | no=>cases e
   | ow ds=>cases e
   | dw ds=>cases e
   | sh d =>
    obtain ⟨cs',e1,rfl⟩:=map_some (show (iU is env).map (Sl.sh d::·)=some cs from e)
    obtain ⟨l1,l2,ih⟩:=PY R e1
    obtain ⟨v,hv,hi⟩:=R.sh i d h
    refine ⟨by simp [l1],by simp [dS,l2],λj s hj=>?_⟩
    cases j with
    | zero=>simp at hj;subst hj;exact ⟨d,v,i,rfl,by simp [dS,hv],hi,rfl,hv⟩
    | succ j =>
     obtain ⟨d',v',i',a1,a2,a3,a4,a5⟩:=ih j s (by simpa using hj)
     exact ⟨d',v',i',a1,by simpa [dS] using a2,a3,by simpa using a4,a5⟩
def Co(X:Cx)(ifs:List Expr)(f:En->Option Bool):Prop:=
 ∃t:TT,(∀(pins:List (Addr×Obj)) (s:Shared) (σ:L2.St) (H:Hp) (Q:Bool->Hp->Prop),Inv X pins σ H s->t σ H Q ->
   wpAny (model X.prog X.w) X.A (forIn ifs true λc r=>if r=true then do let ok <-isTrue c X.env (eval c X.env);pure (pU ok) else pure (pU r)) (TP X pins σ Q) X.xe s) /\
  ∀(O:Addr->Prop) (B:Hp) (σ:L2.St) (H:Hp) (env:En) (b:Bool) (Q:Bool->Hp->Prop),Rel X.K O B σ H env->f env=some b->(∀H',au H H'->Q b H')->t σ H Q
noncomputable def lM:En->Option Bool:=λ_=>some true
theorem mS:Co X [] lM:=⟨λ_ H Q=>Q true H,λpins s σ H Q I h=>wpAny_tests_nil ⟨H,I,h⟩,λO B σ H env b Q R e q=>by cases e;exact q H (au.refl _)⟩
theorem b89(h:TV X c f):Co X [c] f:=by
 obtain ⟨t,p,k⟩:=h
 exact ⟨t,λpins s σ H Q I h=>wpAny_tests_one (p pins s σ H Q I h),k⟩
section
variable {prog:Program}{w:World}{A:Around}{R:Result->Shared->Prop}{s:Shared}
theorem a9S{elt target iter:Expr}{ifs:List Expr}{scope:Scope}{pos:Pos}{it acc:Value}{env:Env}(I:Nat->Shared->Prop){N:Value->Shared->Prop}(hN:∀x s',N x s'->False)
  (turn:∀n s,I n s->wpAny (model prog w) A (pyNext it) (λr aO=>match r with
   | none=>R (.ok .next) aO
   | some v=>wpAny (model prog w) A (letOwnedTupleGo target it v) (λ_ rK=>wpAny (model prog w) A (assign target env v) (λ_ j8 =>
     wpAny (model prog w) A (forIn ifs true λc r=>if r=true then do let ok <-isTrue c env (eval c env);pure (pU ok) else pure (pU r)) (λok oG =>
      if ok=true then wpAny (model prog w) A (eval elt env) (λx yb =>
       wpAny (model prog w) A (call (.builtin "list.append") [acc,x]) (λ_ ya=>∃m,m<n/\I m ya) N yb) N oG
      else ∃m,m<n/\I m oG) N j8) N rK) N aO) N s)
  (n:Nat)(h:I n s):
  codeAny (model prog w) A (.compLoop (.ListComp elt [⟨target,iter,ifs,0⟩] scope pos) 0 it acc env) R s:=by
 refine codeAny_loop rfl I (λn s hI=>?_) n h
 show wpAny _ A ((compTurn (.ListComp elt [⟨target,iter,ifs,0⟩] scope pos) 0 it acc env).onRaise (λx=>do noteFrame x env;theTreesLotGoes x)) _ _ s
 refine wpAny_noted ?_
 rw [compTurn_list]
 have no:∀{P:Value->Shared->Prop} (x:Value) (s':Shared),N x s'->P x s':=λx s' z=>(hN x s' z).elim
 refine aA (IT (aA (jY (turn n s hI) (λr aO h₁=>?_) no)))
 cases r with
 | none=>exact bC h₁
 | some v =>
  refine aA (jY h₁ (λ_ rK zh=>?_) no)
  refine aA (jY zh (λ_ j8 GQ=>aA (jY GQ (λok oG zg=>?_) no)) no)
  cases ok with
  | false=>exact bC ⟨rfl,zg⟩
  | true =>
   exact aA (aA (jY zg (λx yb GP=>aA (jY GP (λ_ ya GO=>bC (bC ⟨rfl,GO⟩)) no)) no))
end
section
variable {X:Cx}{N N':List Str}{sc cc:Scope}{k:Nat}{full:Bool}{elt iter tg:Expr}{ifs:List Expr}{pos:Pos}{fi:En->Option (List D)}{caps:List Nat}{nt:Nat}{g:GF}{fc:En->Option Bool}{fe:En->Option Sl}
noncomputable def si(X:Cx)(N':List Str)(cc:Scope)(ex:List Addr)(s:Shared)(H:Hp):Cx where
 prog:=X.prog
 w:=X.w
 K:=X.K
 mg:=X.mg
 base:=X.base
 A:=X.A
 N:=N'
 cQ:=s
 pM:=H
 env:=compEnvC cc (fo X.env.cells cc.names []) s.heap.objs.size X.env
 outer:=X.stack
 stack:=X.stack
 ex:=ex
 fn:=λ_=>false
 calm:=true
 pn:=[]
 xe:=λ_ _=>False
theorem sQ(C:cN N sc N' caps nt cc)(n6:X.env.scope=sc){pins:List (Addr×Obj)}{σ:L2.St}{H:Hp}{s:Shared}(I:Inv X pins σ H s){x:Str}{c:Addr}(h:(fo X.env.cells cc.names []).lookup x=some c):X.env.cells.lookup x=some c:=by
 rcases QS _ _ h with h | ⟨h,e⟩
 .simp at h
 .obtain ⟨c',r8⟩:=I.ok.has x (by
   show X.env.scope.names.lookup x=_\/X.env.scope.names.lookup x=_
   rw [n6]
   exact C.free _ h rfl)
  rw [r8] at e
  rw [e];exact r8
theorem Pg(h:cc.names.lookup x=some .free):∃c,(fo X.env.cells cc.names []).lookup x=some c:=Rq _ _ (.inr (LJ h))
theorem b4O(C:cN N sc N' caps nt cc)(n6:X.env.scope=sc)(hc:X.calm=true){pins:List (Addr×Obj)}{σ:L2.St}{H:Hp}{s s3:Shared}{fp:List Addr}(I:Inv X pins σ H s)(I3:Inv X pins σ H s3)
  (hf:∀b∈fp,cZ X pins H b)(zK:∀b∈fp,∃o,s3.heap.get? b=some o)(hs:s3.heap.objs.size=s.heap.objs.size+1):(si X N' cc (s.heap.objs.size::fp) s3 H).Ok:=by
 have small:∀x c,X.env.cells.lookup x=some c->c<s.heap.objs.size:=λx c e=>by
  obtain ⟨v,z⟩:=I.cell x c e
  exact z.lt
 have kd:∀x,((si X N' cc (s.heap.objs.size::fp) s3 H).env.kindOf x=some .cell\/(si X N' cc (s.heap.objs.size::fp) s3 H).env.kindOf x=some .free)->cc.names.lookup x=some .free:=λx h=>by
  have h':∃k,(rl cc X.env.scope).names.lookup x=some k/\(k=.cell\/k=.free):=h.elim (λz=>⟨_,z,.inl rfl⟩) λz=>⟨_,z,.inr rfl⟩
  obtain ⟨k,e,hk⟩:=h'
  obtain ⟨k',e1,e2⟩:=b1c e
  have nc:k'≠.cell:=C.oR _ (LJ e1)
  by_cases rZ:(k'==nu&&X.env.scope.kind==.function&&X.env.scope.names.lookup x==some .cell)=true
  .have:k'=.free:=by
    have:=(AS _ _▸(AS _ _▸rZ).1).1
    simpa using this
   rw [e1,this]
  .rw [if_neg rZ] at e2
   subst e2
   rcases hk with rfl | rfl
   .exact (nc rfl).elim
   .exact e1
 refine ⟨I.ok.mod,C.kind,I.ok.glob,I.ok.blt,bw _,λx y c h1 h2=>I.ok.inj x y c (sQ C n6 I h1) (sQ C n6 I h2),λx h=>Pg (kd x h),λ_ _ (z:false=true) _=>(nomatch z),λ_=>I.ok.hd hc,I.ok.frames,.inl rfl,λb hb=>⟨?_,λx c e=>?_⟩,λb o e=>?_,?_,λb o e hb=>?_,λb hb rV=>?_,I3.stack,λb hb=>I.mG b hb⟩
 .show b≠s3.heap.objs.size
  rcases bq.mp hb with rfl | hb
  .rw [hs];exact dW (uO _)
  .obtain ⟨o,e⟩:=zK b hb
   exact dW (bX e)
 .have e':=sQ C n6 I e
  rcases bq.mp hb with rfl | hb
  .exact dW (small x c e')
  .exact (hf b hb).2.2.2.2.1 x c e'
 .exact I3.bs b o e
 .exact fq I.ok.oz I3.sz
 .have lt:b<X.base.objs.size:=bX e
  have h0:=I.ok.oz
  have h1:=I.sz
  rcases bq.mp hb with rfl | hb
  .exact absurd (jI lt (fq h0 h1)) (om _)
  .rcases (hf b hb).2.2.2.1 with z | z
   .exact I.ok.oQ b o e z
   .exact absurd (jI lt (fq h0 z)) (om _)
 .rcases bq.mp hb with rfl | hb
  .obtain ⟨_,o,ho,_⟩:=I.stack.mem rV
   exact absurd (bX ho) (om _)
  .rcases bq.mp (I.g9 b rV) with z | z
   .exact (hf b hb).2.1 z
   .exact (hf b hb).2.2.1 z
theorem Ez{α:Type}{n j:Nat}{x y:α}{l:List α}(h:(jm n x++l)[j]?=some y):y=x\/(n<=j/\l[j-n]?=some y):=by
 by_cases hj:j<n
 .rw [uK (by simpa using hj),DJ,if_pos hj] at h
  exact .inl (cT h).symm
 .rw [qV (by simpa using hj),DU] at h
  exact .inr ⟨by ext hj,h⟩
theorem b25(C:cN N sc N' caps nt cc)(n6:X.env.scope=sc)(hN:X.N=N)(hc:X.calm=true){pins:List (Addr×Obj)}{σ:L2.St}{H:Hp}{s s3 s4:Shared}{fp:List Addr}(I:Inv X pins σ H s)(I3:Inv X pins σ H s3)
  (hf:∀b∈fp,cZ X pins H b)(zK:∀b∈fp,∃o,s3.heap.get? b=some o)(hs:s3.heap.objs.size=s.heap.objs.size+1)
  (uc:s4.os=s3.os)(hg:s4.gens=s3.gens)(hk:∀b o,s3.heap.get? b=some o->s4.heap.get? b=some o)(qx:s4.heap.Ns s3.heap.objs.size λ_=>none):
  Inv (si X N' cc (s.heap.objs.size::fp) s3 H) [] (jm nt none++dS caps σ) H s4:=by
 have sl:∀(caps:List Nat) (σ:L2.St),(dS caps σ).length=caps.length:=λcaps σ=>by
  induction caps with
  | nil=>rfl
  | cons i r ih=>simp [dS,ih]
 have sg:∀(caps:List Nat) (σ:L2.St) (j:Nat) (v:V),(dS caps σ)[j]?=some (some v)->∃i,caps[j]?=some i/\σ[i]?=some (some v):=λcaps σ=>by
  induction caps with
  | nil=>intro j v h;simp [dS] at h
  | cons i r ih =>
   intro j v h
   cases j with
   | zero =>
    have h':(σ[i]?).getD none=some v:=by simpa [dS] using h
    refine ⟨i,rfl,?_⟩
    cases e:σ[i]? with
    | none=>rw [e] at h';cases h'
    | some o=>rw [e] at h';exact congrArg some h'
   | succ j =>
    obtain ⟨i',e1,e2⟩:=ih j v (by simpa [dS] using h)
    exact ⟨i',by simpa using e1,e2⟩
 refine ⟨b4O C n6 hc I I3 hf zK hs,uc,by rw [hg];exact I3.bare,Un.kept hk,⟨_,qx,λi x v h1 h2 h3=>?_⟩,λx c e=>?_,I3.bu.fresh (bw _),λx c e=>I3.e7 x c (sQ C n6 I e),λp hp=>absurd (show p∈([]:List (Addr×Obj)) from hp) (by simp),I3.bu.kept hk,?_⟩
 .have h1:N'[i]?=some x:=h1
  rcases Ez h2 with z | ⟨hi,h2⟩
  .cases z
  .obtain ⟨i',e1,e2⟩:=sg caps σ _ v h2
   have hd:(N'.drop nt)[i-nt]?=some x:=by rw [List.getElem?_drop,Nat.add_sub_cancel' hi];exact h1
   have hm:=congrArg (λl=>l[i-nt]?) C.cap
   simp only [qU,e1,hd,wq] at hm
   have X9:X.N[i']?=some x:=by rw [hN];exact cT hm
   have Hr:=C.fr x (Oc hd)
   have fL:=C.free _ (LJ Hr) rfl
   obtain ⟨m,hn,hl⟩:=I3.loc
   obtain ⟨u,r,l⟩:=hl i' x v X9 e2 (by rw [n6];exact .inr fL)
   refine ⟨u,r,.inr ⟨?_,?_⟩⟩
   .have e:=Ld (sc:=X.env.scope) Hr
    show (rl cc X.env.scope).names.lookup x=_\/(rl cc X.env.scope).names.lookup x=_
    have e':(rl cc X.env.scope).names.lookup x=_:=e
    rw [e']
    split
    .exact .inl rfl
    .exact .inr rfl
   .rcases l with ⟨k,_⟩ | ⟨k,c,e,z⟩
    .exfalso
     have k:X.env.scope.names.lookup x=some .local:=k
     rw [n6] at k
     dsimp only at fL
     rw [k] at fL
     rcases fL with z | z<;>cases z
    .obtain ⟨c',r8⟩:=Pg (X:=X) Hr
     have:=sQ C n6 I r8
     rw [e] at this
     cases this
     exact ⟨c,r8,z.keeps hk⟩
 .obtain ⟨v,z⟩:=I3.cell x c (sQ C n6 I e)
  exact ⟨v,z.keeps hk⟩
 .show (jm nt none++dS caps σ).length=N'.length
  rw [cM,DU,sl,C.len]
theorem b3n(r:aw xs us):xs.length=us.length:=r.length
theorem b24{pins pl:List (Addr×Obj)}{σ aJ:L2.St}{H2 H':Hp}{s2 s3 s1:Shared}{fp:List Addr}{h':Heap}{xs:List V}{ys:List Value}(I2:Inv X pins σ H2 s2)(t7:s3.os=s2.os)(zW:∀b o,s2.heap.get? b=some o->s3.heap.get? b=some o)
  (hsz:s3.heap.objs.size=s2.heap.objs.size+1)(f2:∀b∈fp,cZ X pins H2 b)(I':Inv (si X N' cc (s2.heap.objs.size::fp) s3 H2) pl aJ H' s1)(sb:AI s3.heap.objs.size s1.heap h')
  (hn:H' s2.heap.objs.size=none)(hl:∃n,s1.heap.get? s2.heap.objs.size=some { cls:=.type "list",data:=.seq ys.toArray n })(hv:aw xs ys)(hz:xs.length<=sizeLine):
  Inv X pins σ (upd H' s2.heap.objs.size (.lst xs)) { s1 with heap:=h' }:=by
 have Wt:∀b,b<s3.heap.objs.size->b≠s3.heap.objs.size:=λb h=>dW h
 have yU:∀b,b<s2.heap.objs.size->b≠s2.heap.objs.size:=λb h=>dW h
 have out:∀b o,s2.heap.get? b=some o->b∉fp->b∉s2.heap.objs.size::fp:=λb o e n z=>(bq.mp z).elim (yU b (bX e)) n
 have hC:H' s3.heap.objs.size=none:=I'.free
 have up:∀b o,s2.heap.get? b=some o->∀o',s1.heap.get? b=some o'->h'.get? b=some o':=λb o e o' e'=>(sb.2 b (Wt b (bX (zW b o e)))).trans e'
 have rO:∀b u,H' b=some u->b≠s2.heap.objs.size:=λb u e z=>by rw [z,hn] at e;cases e
 have u:=I'.base
 refine I2.Au (s':={ s1 with heap:=h' }) (ch:=fp) (I'.os.trans t7) ⟨λb o e n hb hx=>?_,λb o e n hb hx=>?_,λb o e n hx=>?_,λb o e hx=>?_,λb zs e=>?_,λb o v e=>?_,λb ps e=>?_⟩ (λb v e=>?_) I'.bare (λb hb=>?_)
 .exact up b o e o (u.keep b o (zW b o e) n hb (out b o e hx))
 .obtain ⟨sl,e1⟩:=u.slot b o (zW b o e) n hb (out b o e hx)
  exact ⟨sl,up b o e _ e1⟩
 .rw [dk (yU b (bX e))]
  exact u.free b o (zW b o e) n (out b o e hx)
 .obtain ⟨o',e1⟩:=u.there b o (zW b o e) (out b o e hx)
  exact ⟨o',up b o e _ e1⟩
 .have:=u.eR b zs e
  rw [dk (rO b _ this)];exact this
 .have:=u.fO b o v e
  rw [dk (rO b _ this)];exact this
 .obtain ⟨more,this⟩:=u.fX b ps e
  exact ⟨more,by rw [dk (rO b _ this)];exact this⟩
 .by_cases hb:b=s2.heap.objs.size
  .subst hb
   rw [pH] at e
   cases e
   obtain ⟨n,e1⟩:=hl
   exact ⟨hz,ys,n,hv,(sb.2 _ (by rw [hsz];exact dW (uO _))).trans e1⟩
  .rw [dk hb] at e
   refine (I'.bu b v e).j9 (λc w hc q=>(sb.2 c ?_).trans q) (λc _ _ q=>by rw [dk (rO c _ q)];exact q) λc zs q=>by rw [dk (rO c _ q)];exact q
   rintro rfl
   rcases hc with z | z
   .rw [<-z,hC] at e;cases e
   .rw [hC] at z;cases z
 .obtain ⟨_,g1,_,g3,g4,g5⟩:=f2 b hb
  exact ⟨g3,g1,g4,g5⟩
theorem Rr(h:Fx X N sc k full)(C:cN N sc N' caps nt cc){wi:TI}(pi:PI X tg iter wi)(ki:∀(O:Addr->Prop) (B:Hp) (σ:L2.St) (H:Hp) (env:En) (ds:List D) (R:It->Hp->Prop),Rel X.K O B σ H env->fi env=some ds->(∀J H',au H H'->wK X.K (OO O σ env) J H' ds->R J H')->wi σ H R)
  (hb:∀X':Cx,X'.prog=X.prog->X'.w=X.w->X'.K=X.K->X'.mg=X.mg->X'.base=X.base->Fx X' N' (rl cc sc) k false->GV X' tg g/\Co X' ifs fc/\EV X' elt fe)
  (rV:∀x,foldedSetIterable iter X.env x=pure x){pins:List (Addr×Obj)}{s:Shared}{σ:L2.St}{H:Hp}(I:Inv X pins σ H s){O:Addr->Prop}{B:Hp}{env:En}{r:Sl}(R:Rel X.K O B σ H env)(e:gD fi caps nt g fc fe env=some r)
  {use:Option (Value->Sem Unit)}{QQ:Value->Shared->Prop}
  (fin:∀(C0 p:Addr) (H':Hp) (s':Shared),(∃m,s'.heap.Ns C0 m)->cZ X pins H' C0->(∀h',AI C0 s'.heap h'->Inv X pins σ H' { s' with heap:=h' })->au H H'->Res X.K (OO O σ env) H H' (.ref p) r ->
   compPost (model X.prog X.w) X.A X.xe use QQ (.ref p) C0 (.ok .next) s'):
  wpAny (model X.prog X.w) X.A (comprehension (.ListComp elt [⟨tg,iter,ifs,0⟩] cc pos) cc X.env (firstIterPos [⟨tg,iter,ifs,0⟩] pos) (newList []) (firstAsync [⟨tg,iter,ifs,0⟩]) (firstIter [⟨tg,iter,ifs,0⟩] X.env) use) QQ X.xe s:=by
 obtain ⟨ds,e1,e2⟩:=bind_some e
 obtain ⟨cs,e3,e4⟩:=bind_some e2
 by_cases hlen:ds.length<=16777216
 case neg=>rw [if_neg hlen] at e4;cases e4
 rw [if_pos hlen] at e4
 obtain ⟨rs,e5,rfl⟩:=map_some e4
 have zP:closureFor cc X.env=pure (fo X.env.cells cc.names []):=a7T λy hy hf=>I.ok.has y.1 (by
  show X.env.scope.names.lookup y.1=_\/X.env.scope.names.lookup y.1=_
  rw [h.sc]
  exact C.free y hy hf)
 have Xv:=pi pins s σ H (λJ H'=>au H H'/\wK X.K (OO O σ env) J H' ds) I (ki O B σ H env ds _ R e1 λJ H' s' wk=>⟨s',wk⟩)
 refine wpAny_comprehension_free (use:=use) rfl rV zP C.kind C.loc (bG Xv λxv s1 h1=>bG h1 λGH s2 h2=>?_)
 obtain ⟨it,fp,tn,J,H2,rfl,I2,T,gu,f2,mI,wk⟩:=h2
 refine sE (wpAny_newFunctionEnv C.oR (by intro y hy;simp at hy) (λh₁ mj mh=>?_) C.kind)
 dsimp only at mj mh ⊢
 generalize HI:s2.heap.push { cls:=.type "list",dict:=none,data:=.seq ([]:List Value).toArray }=H3 at mj mh ⊢
 have hsz:H3.objs.size=s2.heap.objs.size+1:=by rw [<-HI,nv]
 have y6:∀b o,s2.heap.get? b=some o->H3.get? b=some o:=λb o e=>by rw [<-HI];exact bR _ e
 have CJ:∀b o,H3.get? b=some o->h₁.get? b=some o:=λb o e=>mh.extBut b o (dW (bX e)) (bR _ e)
 have I3:Inv X pins σ H2 { s2 with heap:=H3 }:=I2.kept (t':=s2.toks) y6
 have yN:∀b∈fp,b<s2.heap.objs.size:=λb hb=>by obtain ⟨o,eo,_⟩:=T.obj 0 _ gu b hb;exact bX eo
 have rO:∀b∈fp,b≠s2.heap.objs.size:=λb hb=>dW (yN b hb)
 have zK:∀b∈fp,∃o,H3.get? b=some o:=λb hb=>by obtain ⟨o,eo,_⟩:=T.obj 0 _ gu b hb;exact ⟨o,y6 b o eo⟩
 have R2:=R.grow mI
 obtain ⟨lc,ls,cg⟩:=PY R2 e3
 generalize lC:si X N' cc (s2.heap.objs.size::fp) { s2 with heap:=H3 } H2=X'
 have I4:∀t,Inv X' [] (jm nt none++dS caps σ) H2 { s2 with heap:=h₁,toks:=t }:=λt=>by
  rw [<-lC]
  exact b25 (s3:={ s2 with heap:=H3 }) (s4:={ s2 with heap:=h₁,toks:=t }) C h.sc h.n h.calm I2 I3 f2 zK hsz rfl rfl CJ (by simpa using mj)
 have hP:X'.prog=X.prog:=by rw [<-lC];rfl
 have hW:X'.w=X.w:=by rw [<-lC];rfl
 have hK:X'.K=X.K:=by rw [<-lC];rfl
 have hE:X'.env=compEnvC cc (fo X.env.cells cc.names []) H3.objs.size X.env:=by rw [<-lC];rfl
 have hA:X'.A=X.A:=by rw [<-lC];rfl
 have hx:X'.xe=λ_ _=>False:=by rw [<-lC];rfl
 have HB:X'.calm=true:=by rw [<-lC];rfl
 have uk:=hb X' hP hW hK (by rw [<-lC];rfl) (by rw [<-lC];rfl) ⟨by rw [<-lC];rfl,by rw [hE];show rl cc X.env.scope=_;rw [h.sc],HB,λz=>(nomatch z),by rw [hx];exact IA,by rw [hA];exact h.room,C.nd,λz=>(nomatch z)⟩
 obtain ⟨⟨qg,pg,kg⟩,⟨tc,pc,kc⟩,te,pe,ke⟩:=uk
 have HR:∀{H':Hp} {pl:List (Addr×Obj)},(∀b∈fp,H' b=none)->(∀p∈pl,∀b∈fp,p.1≠b)->∀b∈fp,cZ X' pl H' b:=λ{H' pl} hn dr b hb=>by
  obtain ⟨_,g1,g2,g3,g4,g5⟩:=f2 b hb
  rw [<-lC]
  refine ⟨hn b hb,dW (jI (yN b hb) (by show s2.heap.objs.size<=H3.objs.size;rw [hsz];exact AK _)),λz=>?_,.inl (br _ hb),λx c e=>g4 x c (sQ C h.sc I2 e),λp hp=>dr p (by simpa [si] using hp) b hb⟩
  rcases bq.mp (I2.g9 b z) with z | z
  .exact g1 z
  .exact g2 z
 have R0:Rel X'.K (OO O σ env) H2 (jm nt none++dS caps σ) H2 (jm nt Sl.no++cs):=by
  have qp:∀(i:Nat) (es:Sl),(jm nt Sl.no++cs)[i]?=some es->es.own->False:=λi es e o=>by
   rcases Ez e with z | ⟨_,z⟩
   .cases z;exact o
   .obtain ⟨d,_,_,z,_⟩:=cg _ _ z
    cases z;exact o
  have noOwn:∀p,¬lh (jm nt none++dS caps σ) (jm nt Sl.no++cs) p:=λp ⟨i,es,e,o,_⟩=>qp i es e o
  rw [hK]
  refine ⟨au.refl _,R2.dm,by simp [lc,ls],λi d e=>?_,λi es e=>(qp i _ e trivial).elim,λi es e=>(qp i _ e trivial).elim,λi j es fs p e _ _ _ o=>(qp i es e o).elim⟩
  rcases Ez e with z | ⟨hi,z⟩
  .cases z
  .obtain ⟨d',v,i',z1,z2,z3,_⟩:=cg _ _ z
   cases z1
   refine ⟨v,?_,z3.less λp hp=>hp.elim id λz=>(noOwn p z).elim⟩
   rw [qV (by simpa using hi),DU]
   exact z2
 have loop:∀t,codeAny (model X.prog X.w) X.A (.compLoop (.ListComp elt [⟨tg,iter,ifs,0⟩] cc pos) 0 (.ref it) (.ref s2.heap.objs.size) (compEnvC cc (fo X.env.cells cc.names []) H3.objs.size X.env))
   (compPost (model X.prog X.w) X.A X.xe use QQ (.ref s2.heap.objs.size) H3.objs.size) { s2 with heap:=h₁,toks:=t }:=λt=>by
  refine a9S (N:=λ_ _=>False) (λn s'=>∃(i:Nat) (aJ:L2.St) (H':Hp) (aj:En) (ys:List Value) (xs:List V) (rL CC:List D),n=ds.length-i/\i<=ds.length/\Inv X' [] aJ H' s'/\tn i s'.heap/\(∀b∈fp,H' b=none)/\H' s2.heap.objs.size=none /\
    s'.heap.PlainList s2.heap.objs.size ys.toArray/\aw xs ys/\Rel X'.K (OO O σ env) H2 aJ H' aj/\Gd (jm nt none++dS caps σ) (jm nt Sl.no++cs) H2 aJ aj H' /\
    aN X'.K (OO (OO O σ env) aJ aj) H' xs rL/\lJ g fc fe (ds.drop i) aj=some CC/\rL++CC=rs/\rL.length<=i) (λ_ _ z=>z) ?_ ds.length
   ⟨0,_,H2,_,[],[],[],rs,by simp,nD _,I4 t,T.keep _ _ _ gu (λb _ o e=>CJ b o (y6 b o e)),λb hb=>(f2 b hb).1,I2.bu.fresh (bw _),⟨_,CJ _ _ (by rw [<-HI];exact fD _ rfl)⟩,.nil,R0,Gd.refl (au.refl _),.nil,by simpa using e5,rfl,bw _⟩
  rintro n s3 ⟨i,ju,xE,ml,ys,xs,rL,CC,rfl,hi,J3,iQ,Ac,HD,MN,vx,R3,ND,zc,As,vT,G8⟩
  have yz:Inv X' (q9 [s2.heap.objs.size] s3.heap) ju xE s3:=by
   refine J3.fI λp hp=>?_
   obtain ⟨hb,e⟩:=Lf hp
   have hb:p.1=s2.heap.objs.size:=by simpa using hb
   obtain ⟨n,en⟩:=MN
   rw [hb,en] at e
   refine ⟨by rw [hb,en];exact e,by rw [hb];exact HD,?_,λz=>?_,λv z=>?_⟩
   .rw [hb,hE]
    show s2.heap.objs.size≠H3.objs.size
    rw [hsz]
    exact dW (uO _)
   .rw [hb,<-lC] at z
    obtain ⟨_,o,ho,_⟩:=I2.stack.mem z
    exact absurd (bX ho) (om _)
   .rw [<-cT e] at z;cases z
  have apart:∀p∈q9 [s2.heap.objs.size] s3.heap,∀b∈fp,p.1≠b:=λp hp b hb z=>by
   have e:p.1=s2.heap.objs.size:=by simpa using (Lf hp).1
   exact rO b hb (z.symm.trans e)
  have pz:∀{pl:List (Addr×Obj)} {aJ:L2.St} {H':Hp} {s':Shared},Inv X' pl aJ H' s'->(∀p∈q9 [s2.heap.objs.size] s3.heap,p∈pl)->s'.heap.PlainList s2.heap.objs.size ys.toArray/\H' s2.heap.objs.size=none:=λ{pl aJ H' s'} J jA=>by
   obtain ⟨n,en⟩:=MN
   obtain ⟨q1,q2,_⟩:=J.pin _ (fQ _ (jA _ (BA (fp:=[s2.heap.objs.size]) (by simp) en)))
   exact ⟨⟨n,q1⟩,q2⟩
  have w:=wk (OO (OO O σ env) ju ml) xE (λa u ea na=>by
   obtain ⟨h1,h2⟩:=ND a u ea λ⟨i,es,e,o,_⟩=>by
    rcases Ez e with z | ⟨_,z⟩
    .cases z;exact o
    .obtain ⟨d,_,_,z,_⟩:=cg _ _ z
     cases z;exact o
   exact ⟨h1,λz=>z.elim na h2⟩) (λa=>R3.oo) i
  by_cases bE:i<ds.length
  .obtain ⟨go,yl⟩:=w.1 ds[i] (by simp [bE])
   have zN:ds.drop i=ds[i]::ds.drop (i+1):=nG bE
   rw [zN,lJ] at As
   obtain ⟨gg,c1,c2⟩:=bind_some As
   obtain ⟨b,c2,c3⟩:=bind_some c2
   have ti:=T.item X' hP hW hK HB i _ s3 ju xE (λ_ _=>False) yz (HR Ac apart) iQ go
   rw [hA] at ti
   refine bG ti λr s4 ⟨u,hr,h4⟩=>?_
   subst hr
   refine bG h4 λ_ s5 ⟨x,H5,I5,r5,y5,tL,HQ⟩=>?_
   obtain ⟨F5,Xk⟩:=yl x H5 y5
   have MC:=I5.pinned (HR HQ apart) (T.obj _ _ tL)
   have rQ:∀{aJ:L2.St} {H':Hp} {s':Shared},Inv X' (q9 [s2.heap.objs.size] s3.heap++q9 fp s5.heap) aJ H' s'->tn (i+1) s'.heap/\∀b∈fp,H' b=none:=λ{aJ H' s'} J=>by
    refine ⟨T.keep _ _ _ tL λb hb o e=>(J.pin (b,o) (fQ _ (fQ _ (BA hb e)))).1,λb hb=>?_⟩
    obtain ⟨o,e,_⟩:=T.obj _ _ tL b hb
    exact (J.pin (b,o) (fQ _ (fQ _ (BA hb e)))).2.1
   have MO:=pg _ s5 ju H5 x u _ MC r5 (kg (OO O σ env) H2 ju H5 ml gg x ds[i] (λlu H6=>Rel X'.K (OO O σ env) H2 lu H6 gg/\Gd ju ml H5 lu gg H6) (R3.grow F5) (hK▸Xk) c1 λlu H6 R6 g6=>⟨R6,g6⟩)
   rw [hP,hW,hA,hE,hx] at MO
   refine bG MO λ_ s6 ⟨lu,H6,I6,R6,g6⟩=>?_
   have MQ:=pc _ s6 lu H6 (λb' H'=>b'=b/\au H6 H') I6 (kc (OO O σ env) H2 lu H6 gg b _ R6 c2 λH' s'=>⟨rfl,s'⟩)
   rw [hP,hW,hA,hE,hx] at MQ
   refine bG MQ λok s7 ⟨H7,I7,bu,F4⟩=>?_
   subst bu
   have R7:=R6.grow F4
   have NC:=ND.trans ((Gd.refl F5).trans (g6.trans (Gd.refl F4)))
   have M4:aN X'.K (OO (OO O σ env) lu gg) H7 xs rL:=((Gd.refl F5).trans (g6.trans (Gd.refl F4))).CK zc
   cases ok with
   | false =>
    rw [if_neg mv] at c3 ⊢
    obtain ⟨Te,Yl⟩:=rQ I7
    obtain ⟨U4,X3⟩:=pz I7 λp hp=>gp _ hp
    exact ⟨ds.length-(i+1),by ext bE,i+1,lu,H7,gg,ys,xs,rL,CC,rfl,bE,I7.fI (λ_ z=>nomatch z),Te,Yl,X3,U4,vx,R7,NC,M4,c3,vT,by ext G8⟩
   | true =>
    rw [if_pos rfl] at c3 ⊢
    obtain ⟨r,d3,d4⟩:=bind_some c3
    obtain ⟨Ui,d5,d6⟩:=bind_some d4
    clear c3 d4 As
    obtain rfl:=cT d6
    have MP:=pe _ s7 lu H7 (λv H'=>au H7 H'/\Is X'.K (OO (OO O σ env) lu gg) H' v r.d) I7 (ke (OO O σ env) H2 lu H7 gg r _ R7 d3 λv H' s' rr=>⟨s',rr.is λp=>R7.oo⟩)
    rw [hP,hW,hA,hE,hx] at MP
    refine bG MP λy s8 ⟨v,H8,I8,ry,F3,hv⟩=>?_
    obtain ⟨Td,Yk⟩:=rQ I8
    obtain ⟨U3,Nr⟩:=pz I8 λp hp=>gp _ hp
    have Xh:ys.length=rL.length:=by rw [<-b3n vx,zc.length]
    refine wpAny_list_append_plain (hsz:=by rw [dU,Xh,iV];ext hlen G8 bE) U3 λh' U2 ML=>?_
    have J8:Inv X' [] lu H8 s8:=I8.fI λ_ z=>nomatch z
    have J9:Inv X' [] lu H8 { s8 with heap:=h' }:=J8.turned (t':=s8.toks) (it:=s2.heap.objs.size) (λb o hb e=>(ML.2 b hb).trans e) Nr
     (by rw [hE];show s2.heap.objs.size≠H3.objs.size;rw [hsz];exact dW (uO _)) (.inl (by rw [<-lC];exact aZ))
     (λx c e=>by
      rw [hE] at e
      obtain ⟨_,z⟩:=I2.cell x c (sQ C h.sc I2 e)
      exact dW z.lt) (λp hp=>by rw [<-lC] at hp;exact absurd hp (by simp [si]))
    refine ⟨ds.length-(i+1),by ext bE,i+1,lu,H8,gg,ys++[y],xs++[v],rL++[r.d],Ui,rfl,bE,J9,T.keep _ _ _ Td λb hb o e=>(ML.2 b (rO b hb)).trans e,Yk,Nr,by simpa using U2,vx.append (.cons ry .nil),R7.grow F3,NC.trans (Gd.refl F3),(M4.grow F3).append (.cons hv .nil),d5,by rw [<-vT];simp,by simp;assumption⟩
  .have Hm:i=ds.length:=by ext hi bE
   have td:=T.done X' hP hW hK HB i _ s3 ju xE (λ_ _=>False) yz (HR Ac apart) iQ (w.2 (by ext bE))
   rw [hA] at td
   refine bG td λr s4 ⟨hr,Cp⟩=>?_
   subst hr
   obtain ⟨U5,mO⟩:=pz Cp λp hp=>hp
   rw [sC (by ext bE),lJ] at As
   obtain rfl:=cT As
   rw [oh] at vT
   subst vT
   obtain ⟨m4,Ng,_⟩:=Cp.loc
   rw [hE] at Ng
   obtain ⟨n4,Yo⟩:=U5
   rw [<-lC] at Cp
   have C5:H2 s2.heap.objs.size=none:=I2.bu.fresh (bw _)
   have zJ:s2.heap.objs.size<=H3.objs.size:=by rw [hsz];exact AK _
   have Yd:xE H3.objs.size=none:=Cp.free
   have aW:H3.objs.size≠s2.heap.objs.size:=by rw [hsz];exact Nat.succ_ne_self _
   refine fin H3.objs.size s2.heap.objs.size (upd xE s2.heap.objs.size (.lst xs)) s4 ⟨m4,Ng⟩ (I2.jG zJ (by rw [dk aW];exact Yd)) (λh' sb=>b24 (s3:={ s2 with heap:=H3 }) (ys:=ys) I2 rfl y6 hsz f2 Cp sb mO ⟨n4,Yo⟩ vx (by rw [zc.length,iV];ext hlen hi G8)) ?_ ⟨_,xs,rfl,mI.free C5,pH,?_⟩
   .intro b o e
    have e2:=mI b o e
    rw [dk (pF e2 C5)]
    exact R3.same b o e2
   .rw [hK] at zc
    refine zc.map (λp hp hn z=>hn (.inl (z.elim id λz=>?_))) λp u e _=>by rw [dk (pF e mO)];exact e
    rw [z,mO] at hp
    exact (hp rfl).elim
 exact codeAny_compStart_list (loop _) (T.self _ 0 _ _ _ (T.keep _ _ _ gu (λb _ o e=>CJ b o (y6 b o e))) (loop _))
theorem pE(h:Fx X N sc k full)(C:cN N sc N' caps nt cc)(hi:IV X tg iter fi)
  (hb:∀X':Cx,X'.prog=X.prog->X'.w=X.w->X'.K=X.K->X'.mg=X.mg->X'.base=X.base->Fx X' N' (rl cc sc) k false->GV X' tg g/\Co X' ifs fc/\EV X' elt fe)
  (rV:∀x,foldedSetIterable iter X.env x=pure x:=by intro _;rfl):EV X (.ListComp elt [⟨tg,iter,ifs,0⟩] cc pos) (gD fi caps nt g fc fe):=by
 obtain ⟨wi,pi,ki⟩:=hi
 refine ⟨λσ H Q=>∃O B env r,Rel X.K O B σ H env/\gD fi caps nt g fc fe env=some r/\∀v H',au H H'->Res X.K (OO O σ env) H H' v r->Q v H',?_,λO B σ H env r Q R e q=>⟨O,B,env,r,R,e,q⟩⟩
 rintro pins s σ H Q I ⟨O,B,env,r,R,e,q⟩
 rw [eval_ListComp]
 exact Rr h C pi ki hb rV I R e (use:=none) λC0 p H' s' ⟨m,hn⟩ _ hI sm rr=>⟨m,hn,λh' sb=>⟨.ref p,H',hI h' sb,rfl,q _ H' sm rr⟩⟩
theorem ED{i:Nat}{x:Str}{pos' ye:Pos}(b:Bool)(h:Fx X N sc k full)(C:cN N sc N' caps nt cc)(hi:IV X tg iter fi)
  (hb:∀X':Cx,X'.prog=X.prog->X'.w=X.w->X'.K=X.K->X'.mg=X.mg->X'.base=X.base->Fx X' N' (rl cc sc) k false->GV X' tg g/\Co X' ifs fc/\EV X' elt fe)
  (hN:N[i]?=some x:=by rfl)(hv:Loc sc x:=by first | exact cD rfl | exact bH rfl)(hf:full=true\/sc.names.lookup x=some .local:=by first | exact cD rfl | exact bH rfl)(h1:(sc.names.lookup x==some .local)=true:=by rfl)(h2:(pos'.line==pos.line)=true:=by rfl)(h3:(cc.names.any λ(n,k)=>n==x&&(k==.local||k==.cell))=false:=by rfl)
  (rV:∀x,foldedSetIterable iter X.env x=pure x:=by intro _;rfl):SV X (.Assign [.Name x pos'] (.ListComp elt [⟨tg,iter,ifs,0⟩] cc pos) ye) (bif b then c6 i (gD fi caps nt g fc fe) else aY i (gD fi caps nt g fc fe)):=by
 obtain ⟨wi,pi,ki⟩:=hi
 refine ⟨λD σ H=>∃O B env fl aj,Rel X.K O B σ H env/\(bif b then c6 i (gD fi caps nt g fc fe) else aY i (gD fi caps nt g fc fe)) env=some (fl,aj)/\dC X.K O B σ H env D fl aj,?_,λO B σ H env fl aj D R e q=>⟨O,B,env,fl,aj,R,e,q⟩⟩
 rintro pins s σ H D I ⟨O,B,env,fl,aj,R,e,q⟩
 obtain ⟨r,e1,hl,rX,t,rfl,ht⟩:∃r,gD fi caps nt g fc fe env=some r/\i<env.length/\fl=.nx/\∃t,aj=env.set i t/\(t=r\/t=.sh r.d):=by
  cases b with
  | true =>
   dsimp only [cond] at e
   obtain ⟨r,e1,e2⟩:=bind_some e
   obtain ⟨hl,e3⟩:=gU e2
   cases e3
   exact ⟨r,e1,hl,rfl,_,rfl,.inl rfl⟩
  | false =>
   dsimp only [cond] at e
   obtain ⟨r,e1,e2⟩:=bind_some e
   obtain ⟨hl,e3⟩:=gU e2
   cases e3
   exact ⟨r,e1,hl,rfl,_,rfl,.inr rfl⟩
 subst rX
 have hs:swapsWith (.ListComp elt [⟨tg,iter,ifs,0⟩] cc pos) (some (.Name x pos')) ye.line X.env=pure true:=by
  have hk:X.env.blockKind=.function:=by unfold Env.blockKind;rw [I.ok.kind];rfl
  have m9:X.env.kindOf x=sc.names.lookup x:=by unfold De;rw [h.sc]
  unfold swapsWith
  dsimp only
  rw [hk,m9,h1,show (pos'.line==(Expr.ListComp elt [⟨tg,iter,ifs,0⟩] cc pos).pos.line)=true from h2,h3]
  rfl
 rw [exec_Assign_Name_used _ _ _ _ hs]
 refine aA (IT (aA ?_))
 show wpAny _ _ (comprehension _ cc X.env _ (newList []) _ _ (some (assign (.Name x pos') X.env)) >>= λ_=>pure ()) _ _ _
 refine aA (Rr h C pi ki hb rV I R e1 (use:=some (assign (.Name x pos') X.env)) λC0 p H' s' ⟨m,hn⟩ jV hI sm rr=>?_)
 have I':Inv X pins σ H' s':=hI s'.heap (Heap.SameBut.refl _ _)
 refine wpAny_assign_Name (Rb (v:=.ref p) I' h.tT (h.ix hN) (h.loc hv) rfl (λs2 I2 ⟨a,sb,ha⟩=>?_) (h.tJ hf))
 have X2:C0≠a:=λz=>by
  rcases ha with ha | ha
  .exact jV.2.1 (z.trans ha)
  .exact jV.2.2.2.2.1 x a ha z.symm
 obtain ⟨o,es,ep,ho,rest⟩:=hn
 refine ⟨m,⟨o,es,ep,(sb.2 C0 X2).trans ho,rest⟩,λh' Uc=>?_⟩
 refine bC (bC ?_)
 have I3:Inv X pins (σ.set i (some (.ref p))) H' { s2 with heap:=h' }:=I2.turned (t':=s2.toks) (it:=C0) (λb o hb e=>(Uc.2 b hb).trans e) jV.1 jV.2.1 jV.2.2.2.1 jV.2.2.2.2.1 jV.2.2.2.2.2
 have hr:Res X.K (OO O σ env) H H' (.ref p) t:=by
  rcases ht with rfl | rfl
  .exact rr
  .exact rr.is λq=>R.oo
 obtain ⟨R',g'⟩:=R.set sm hr hl
 exact ⟨_,H',I3,q _ H' R' g'⟩
end
end DL
namespace DL
open PySem PySem.Spec PyProof.Rows L2
section
variable {X:Cx}{pins:List (Addr×Obj)}{σ:L2.St}{H:Hp}{s:Shared}
theorem EY(I:Inv X pins σ H s)(hA:A'.handled=none)(hq:Sq X.K H k p xs)
  (h:∀(aq:List Value) (h2:Heap) (St:Nat->Heap->Prop),aw xs aq->Walks X.prog X.w A' s.heap.objs.size [s.heap.objs.size,p] [s.heap.objs.size] aq.length (λi v=>aq[i]?=some v) St->St 0 h2 ->
   (∀b o,s.heap.get? b=some o->h2.get? b=some o)->(∀b∈[s.heap.objs.size,p],b<h2.objs.size)->Q (.ref s.heap.objs.size) { s with heap:=h2 }):wpAny (model X.prog X.w) A' (pyIter (.ref p)) Q E s:=by
 cases k with
 | true =>
  obtain ⟨aq,rv,pl,hz⟩:=I.list (show eQ X.K H p xs from hq)
  have bE:p<s.heap.objs.size:=by obtain ⟨o,n,e,_⟩:=pl;exact bX e
  refine wm pl.isList ?_
  have W:=Walks.list (prog:=X.prog) (w:=X.w) hA s.heap.objs.size p (dW bE) aq.toArray
  refine h aq _ (λi h=>h.IsListIter s.heap.objs.size p i/\h.IsList p aq.toArray) rv (by simpa using W) ⟨⟨_,fD _ rfl,rfl,rfl⟩,pl.isList.push _⟩ (λb o e=>bR _ e) λb hb=>?_
  rw [nv]
  rcases bq.mp hb with rfl | hb
  .exact uO _
  .rw [bP.mp hb];exact Nat.lt_succ_of_lt bE
 | false =>
  obtain ⟨aq,rv,pl,hz⟩:=I.tuple (show eO X.K H p xs from hq)
  have bA:s.heap.IsTuple p aq.toArray:=pl
  have bE:p<s.heap.objs.size:=by obtain ⟨o,e,_⟩:=pl;exact bX e
  refine qN bA ?_
  have W:=Walks.tuple (prog:=X.prog) (w:=X.w) hA s.heap.objs.size p (dW bE) aq.toArray
  refine h aq _ (λi h=>h.IsTupleIter s.heap.objs.size p i/\h.IsTuple p aq.toArray) rv (by simpa using W) ⟨⟨_,fD _ rfl,rfl,rfl⟩,?_⟩ (λb o e=>bR _ e) λb hb=>?_
  .obtain ⟨o,e,r⟩:=bA
   exact ⟨o,bR _ e,r⟩
  .rw [nv]
   rcases bq.mp hb with rfl | hb
   .exact uO _
   .rw [bP.mp hb];exact Nat.lt_succ_of_lt bE
theorem Fg(I:Inv X pins σ H s){h2 h':Heap}{tk:Nat}(k1:∀b o,s.heap.get? b=some o->h2.get? b=some o)(k2:∀b o,b∉[s.heap.objs.size]->h2.get? b=some o->h'.get? b=some o):Inv X pins σ H { s with heap:=h',toks:=tk }:=
 I.kept λb o e=>k2 b o (λz=>absurd (bX e) (by rw [bP.mp z];exact om _)) (k1 b o e)
end
noncomputable def jL:List D->Option (List Int)
 | []=>some []
 | .int i::ds=>(jL ds).map (i::·)
 | _::_=>none
noncomputable def gC:List D->Option (List Bool)
 | []=>some []
 | .bl i::ds=>(gC ds).map (i::·)
 | _::_=>none
theorem BE:∀(ns:List Int),jL (ns.map D.int)=some ns
 | []=>rfl
 | n::r=>by rw [eM,jL,BE r];rfl
theorem QP:∀(ns:List Bool),gC (ns.map D.bl)=some ns
 | []=>rfl
 | n::r=>by rw [eM,gC,QP r];rfl
theorem Bz:∀{ds:List D} {ns:List Int},jL ds=some ns->ds=ns.map D.int
 | [],ns,e=>by cases e;rfl
 | .int i::ds,ns,e=>by
  obtain ⟨r,e1,rfl⟩:=map_some (show (jL ds).map (i::·)=some ns from e)
  rw [Bz e1];rfl
 | .aU::_,_,e=>by cases e
 | .bl _::_,_,e=>by cases e
 | .str _::_,_,e=>by cases e
 | .tup _::_,_,e=>by cases e
 | .lst _ _::_,_,e=>by cases e
theorem BF{K:aI}{O:Addr->Prop}{H:Hp}:∀{xs:List V} {ns:List Int},aN K O H xs (ns.map D.int)->xs=ns.map V.int
 | _,[],.nil=>rfl
 | _,n::r,.cons h t=>by rw [iY h,BF t];rfl
theorem By{ns:List Int}(r:aw (ns.map V.int) aq){i:Nat}(h:aq[i]?=some v):∃t,v=.int (ns.getD i 0) t:=by
 have hl:=r.length
 have hi:=(j0.mp h).1
 have zH:i<ns.length:=by rw [aX] at hl;ext hl hi
 obtain ⟨u,hu,ru⟩:=r.get (show (ns.map V.int)[i]?=some (.int ns[i]) by simp [zH])
 rw [h] at hu
 cases hu
 obtain ⟨t,e⟩:=ru
 exact ⟨t,by rw [e];simp [zH]⟩
section
variable {X:Cx}{a:Expr}{p pos:Pos}{ba:En->Option (Bool×List D)}
theorem preSum_eq(ns:List Int):∀j,j<=ns.length->preSum (λi=>ns.getD i 0) j=(ns.take j).sum
 | 0,_=>rfl
 | j+1,h=>by
  have hj:j<ns.length:=h
  rw [preSum,preSum_eq ns j (AJ hj),<-List.take_append_getElem hj,uC]
  simp [hj]
theorem b1V(ns:List Bool):(jH ns.length).all (λi=>ns.getD i false)=ns.all id:=by
 rw [Bool.eq_iff_iff,IE,IE]
 constructor
 .intro h x hx
  obtain ⟨i,hi,rfl⟩:=pW.mp hx
  have:=h i (sk.mpr hi)
  simpa [hi] using this
 .intro h i hi
  have hi:=sk.mp hi
  have:=h ns[i] (qR hi)
  simpa [hi] using this
theorem b2V(hc:X.calm=true):cw X (.builtin "sum") (λxs H Q=>∃p k ns,xs=[.ref p]/\Sq X.K H k p (jZ V.int ns)/\Q (.int ns.sum) H):=by
 intro pins s σ H xs us Q I r h
 obtain ⟨p,k,ns,rfl,hq,q⟩:=h
 obtain ⟨u,rfl,ru⟩:=r.one
 cases ru
 refine call_sum_walkAnyS (EY (A':=X.A.in1) I (I.ok.hd hc) hq λaq h2 St rv W tM k1 jV=>?_)
 refine ⟨_,_,_,_,_,_,_,λi=>ns.getD i 0,rfl,W.toS,tM,jV,λi v hv=>By rv hv,λs' t' M=>?_⟩
 have hl:aq.length=ns.length:=by rw [<-rv.length];simp
 have e:preSum (λi=>ns.getD i 0) aq.length=ns.sum:=by rw [hl,preSum_eq ns _ (bw _)];simp
 rw [e]
 obtain ⟨h',g',d',t2,o'⟩:=s'
 obtain ⟨m1,m2,m3,m4,m5⟩:=M
 have m2:g'=s.gens:=m2
 have m3:d'=s.drawn:=m3
 have m4:o'=s.os:=m4
 subst m2 m3 m4
 exact ⟨.int ns.sum,H,Fg I k1 m1,⟨t',rfl⟩,q⟩
noncomputable def gw:List Int->Int
 | []=>0
 | n::r=>r.foldl (λa b=>if b<a then b else a) n
noncomputable def fJ:List Int->Int
 | []=>0
 | n::r=>r.foldl (λa b=>if b>a then b else a) n
theorem QN(ns:List Int):∀j,j<ns.length->argBest (λi j=>decide (ns.getD i 0<ns.getD j 0)) j<ns.length/\ns.getD (argBest (λi j=>decide (ns.getD i 0<ns.getD j 0)) j) 0=gw (ns.take (j+1))
 | 0,h=>by
  refine ⟨h,?_⟩
  cases ns with
  | nil=>cases h
  | cons n r=>rfl
 | j+1,h=>by
  obtain ⟨h1,h2⟩:=QN ns j (by ext h)
  have e:ns.take (j+1+1)=ns.take (j+1)++[ns.getD (j+1) 0]:=by rw [Ji];simp [h]
  have e2:gw (ns.take (j+1+1))=if ns.getD (j+1) 0<gw (ns.take (j+1)) then ns.getD (j+1) 0 else gw (ns.take (j+1)):=by
   rw [e]
   cases ns with
   | nil=>cases h
   | cons n r=>simp only [IX,AR,gw,wj,nC,DC];rfl
  rw [e2,<-h2]
  simp only [argBest,decide_eq_true_eq]
  split
  .exact ⟨h,rfl⟩
  .exact ⟨h1,rfl⟩
theorem QM(ns:List Int):∀j,j<ns.length->argBest (λi j=>decide (ns.getD i 0>ns.getD j 0)) j<ns.length/\ns.getD (argBest (λi j=>decide (ns.getD i 0>ns.getD j 0)) j) 0=fJ (ns.take (j+1))
 | 0,h=>by
  refine ⟨h,?_⟩
  cases ns with
  | nil=>cases h
  | cons n r=>rfl
 | j+1,h=>by
  obtain ⟨h1,h2⟩:=QM ns j (by ext h)
  have e:ns.take (j+1+1)=ns.take (j+1)++[ns.getD (j+1) 0]:=by rw [Ji];simp [h]
  have e2:fJ (ns.take (j+1+1))=if ns.getD (j+1) 0>fJ (ns.take (j+1)) then ns.getD (j+1) 0 else fJ (ns.take (j+1)):=by
   rw [e]
   cases ns with
   | nil=>cases h
   | cons n r=>simp only [IX,AR,fJ,wj,nC,DC];rfl
  rw [e2,<-h2]
  simp only [argBest,decide_eq_true_eq]
  split
  .exact ⟨h,rfl⟩
  .exact ⟨h1,rfl⟩
theorem b2Y(hc:X.calm=true):cw X (.builtin "min") (λxs H Q=>∃p k ns,xs=[.ref p]/\Sq X.K H k p (jZ V.int ns)/\ns≠[]/\Q (.int (gw ns)) H):=by
 intro pins s σ H xs us Q I r h
 obtain ⟨p,k,ns,rfl,hq,aW,q⟩:=h
 obtain ⟨u,rfl,ru⟩:=r.one
 cases ru
 refine call_min_walk (EY (A':=X.A.in1) I (I.ok.hd hc) hq λaq h2 St rv W tM k1 jV=>?_)
 have hl:aq.length=ns.length:=by rw [<-rv.length];simp
 have hp:0<ns.length:=nE.mpr aW
 refine ⟨_,_,_,_,_,_,_,rfl,W,tM,jV,by ext hl hp,CmpOf.ints_lt (λi=>ns.getD i 0) (λi v hv=>By rv hv),λv h' tk hv hk=>?_⟩
 obtain ⟨t,e⟩:=By rv hv
 obtain ⟨b1,b2⟩:=QN ns (aq.length-1) (by ext hl hp)
 have e2:ns.take (aq.length-1+1)=ns:=by rw [uJ];ext hl
 rw [e2] at b2
 refine ⟨.int (gw ns),H,Fg I k1 hk,⟨t,?_⟩,q⟩
 rw [e,<-b2]
theorem b21(hc:X.calm=true):cw X (.builtin "max") (λxs H Q=>∃p k ns,xs=[.ref p]/\Sq X.K H k p (jZ V.int ns)/\ns≠[]/\Q (.int (fJ ns)) H):=by
 intro pins s σ H xs us Q I r h
 obtain ⟨p,k,ns,rfl,hq,aW,q⟩:=h
 obtain ⟨u,rfl,ru⟩:=r.one
 cases ru
 refine call_max_walk (EY (A':=X.A.in1) I (I.ok.hd hc) hq λaq h2 St rv W tM k1 jV=>?_)
 have hl:aq.length=ns.length:=by rw [<-rv.length];simp
 have hp:0<ns.length:=nE.mpr aW
 refine ⟨_,_,_,_,_,_,_,rfl,W,tM,jV,by ext hl hp,CmpOf.ints_gt (λi=>ns.getD i 0) (λi v hv=>By rv hv),λv h' tk hv hk=>?_⟩
 obtain ⟨t,e⟩:=By rv hv
 obtain ⟨b1,b2⟩:=QM ns (aq.length-1) (by ext hl hp)
 have e2:ns.take (aq.length-1+1)=ns:=by rw [uJ];ext hl
 rw [e2] at b2
 refine ⟨.int (fJ ns),H,Fg I k1 hk,⟨t,?_⟩,q⟩
 rw [e,<-b2]
noncomputable def nq(f:En->Option (Bool×List D)):En->Option Sl:=λenv=>(f env).bind λx=>(jL x.2).map λns=>.sh (.int ns.sum)
noncomputable def Ap(f:En->Option (Bool×List D)):En->Option Sl:=λenv=>(f env).bind λx=>(gC x.2).map λns=>.sh (.bl (ns.all id))
noncomputable def Ao(f:En->Option (Bool×List D)):En->Option Sl:=λenv=>(f env).bind λx=>(gC x.2).map λns=>.sh (.bl (ns.any id))
noncomputable def qF(f:En->Option (Bool×List D)):En->Option Sl:=λenv=>(f env).bind λx=>(jL x.2).bind λns=>if ns≠[] then some (.sh (.int (gw ns))) else none
noncomputable def o8(f:En->Option (Bool×List D)):En->Option Sl:=λenv=>(f env).bind λx=>(jL x.2).bind λns=>if ns≠[] then some (.sh (.int (fJ ns))) else none
theorem JW(hg:Gl X "sum")(hm:X.mg "sum" = none)(hc:X.calm=true)(ha:BV X a ba)(hs:starEach [a] X.env=[(false,eval a X.env)]:=by rfl):EV X (.Call (.Name "sum" p) [a] [] pos) (nq ba):=by
 obtain ⟨t,pt,k⟩:=ha
 refine ⟨_,sU (b2V hc) hg hm (by decide +kernel) (oC pt pC hs) (by decide) (by decide) hs rfl,λO B σ H env s Q R e q=>?_⟩
 obtain ⟨⟨kk,ds⟩,e1,e2⟩:=bind_some e
 obtain ⟨ns,e3,rfl⟩:=map_some e2
 have o9:=Bz e3
 dsimp only at o9
 subst o9
 refine k O B σ H env kk _ _ R e1 λl xs H1 s1 hq hx=>⟨l,kk,ns,rfl,?_,q _ H1 s1 (Is.int _)⟩
 rw [<-BF hx];exact hq
theorem b9h(hg:Gl X "min")(hm:X.mg "min" = none)(hc:X.calm=true)(ha:BV X a ba)(hs:starEach [a] X.env=[(false,eval a X.env)]:=by rfl):EV X (.Call (.Name "min" p) [a] [] pos) (qF ba):=by
 obtain ⟨t,pt,k⟩:=ha
 refine ⟨_,sU (b2Y hc) hg hm (by decide +kernel) (oC pt pC hs) (by decide) (by decide) hs rfl,λO B σ H env s Q R e q=>?_⟩
 obtain ⟨⟨kk,ds⟩,e1,e2⟩:=bind_some e
 obtain ⟨ns,e3,e4⟩:=bind_some e2
 obtain ⟨aW,rfl⟩:=gU e4
 have o9:=Bz e3
 dsimp only at o9
 subst o9
 refine k O B σ H env kk _ _ R e1 λl xs H1 s1 hq hx=>⟨l,kk,ns,rfl,?_,aW,q _ H1 s1 (Is.int _)⟩
 rw [<-BF hx];exact hq
theorem Pp(hg:Gl X "max")(hm:X.mg "max" = none)(hc:X.calm=true)(ha:BV X a ba)(hs:starEach [a] X.env=[(false,eval a X.env)]:=by rfl):EV X (.Call (.Name "max" p) [a] [] pos) (o8 ba):=by
 obtain ⟨t,pt,k⟩:=ha
 refine ⟨_,sU (b21 hc) hg hm (by decide +kernel) (oC pt pC hs) (by decide) (by decide) hs rfl,λO B σ H env s Q R e q=>?_⟩
 obtain ⟨⟨kk,ds⟩,e1,e2⟩:=bind_some e
 obtain ⟨ns,e3,e4⟩:=bind_some e2
 obtain ⟨aW,rfl⟩:=gU e4
 have o9:=Bz e3
 dsimp only at o9
 subst o9
 refine k O B σ H env kk _ _ R e1 λl xs H1 s1 hq hx=>⟨l,kk,ns,rfl,?_,aW,q _ H1 s1 (Is.int _)⟩
 rw [<-BF hx];exact hq
end
end DL
namespace DL
open PySem PySem.Spec PyProof.Rows L2
noncomputable def iX:List (Option Bool)->Option (List Bool)
 | []=>some []
 | some b::r=>(iX r).map (b::·)
 | none::_=>none
noncomputable def bh:Nat->D->D->Option Bool
 | _,.int i,.int j=>some (decide (i=j))
 | _,.bl i,.bl j=>some (decide (i=j))
 | _,.str i,.str j=>some (decide (i=j))
 | _,.aU,.aU=>some true
 | _,.bl i,.int j=>some (decide ((if i then 1 else 0)=j))
 | _,.int i,.bl j=>some (decide (i=(if j then 1 else 0)))
 | n+1,.tup a,.tup b=>(iX (oi (bh n) a b)).map λbs=>bs.all id&&decide (a.length=b.length)
 | n+1,.lst _ a,.lst _ b=>if a.length=b.length then (iX (oi (bh n) a b)).map λbs=>bs.all id else some false
 | 0,.tup _,.tup _=>none
 | 0,.lst _ _,.lst _ _=>none
 | _,.exc _,_=>none
 | _,_,.exc _=>none
 | _,.fB _ _,_=>none
 | _,_,.fB _ _=>none
 | _,_,_=>some false
theorem Bo:∀{os:List (Option Bool)} {bs:List Bool},iX os=some bs->os.length=bs.length/\∀(i:Nat) (b:Bool),bs[i]?=some b->os[i]?=some (some b)
 | [],bs,e=>by cases e;exact ⟨rfl,λi b h=>by simp at h⟩
 | some b::r,bs,e=>by
  obtain ⟨bs',e1,rfl⟩:=map_some (show (iX r).map (b::·)=some bs from e)
  obtain ⟨l,ih⟩:=Bo e1
  refine ⟨by simp [l],λi c h=>?_⟩
  cases i with
  | zero=>simpa using h
  | succ i=>simpa using ih i c (by simpa using h)
 | none::_,bs,e=>by cases e
theorem all_range{bs:List Bool}{n:Nat}(h:bs.length=n):(jH n).all (λi=>bs.getD i false)=bs.all id:=by rw [<-h];exact b1V bs
section
variable {X:Cx}{pins:List (Addr×Obj)}{σ:L2.St}{H:Hp}{s:Shared}{O O':Addr->Prop}
noncomputable def Cm(K:aI)(O:Addr->Prop)(H:Hp)(v:V):D->Prop
 | .aU=>v=.aU
 | .bl b=>v=.bl b
 | .int i=>v=.int i
 | .str x=>v=.str x
 | .tup ds=>∃p xs,v=.ref p/\eO K H p xs/\aN K O H xs ds
 | .lst _ ds=>∃p xs,v=.ref p/\eQ K H p xs/\aN K O H xs ds
 | .exc _=>True
 | .fB _ _=>True
theorem Is.n5{K:aI}{v:V}{d:D}(h:Is K O H v d):Cm K O H v d:=by
 cases d with
 | aU=>exact JP h
 | bl b=>exact A2 h
 | int i=>exact iY h
 | str x=>exact JQ h
 | tup ds=>exact Bk h
 | lst r ds =>
  obtain ⟨p,xs,e,h1,h2⟩:=h.seq (k:=true) (ds:=ds) rfl
  exact ⟨p,xs,e,h1,h2⟩
 | exc n=>trivial
 | fB n m=>trivial
theorem EZ(I:Inv X pins σ H s)(h:eO X.K H p xs)(h':eQ X.K H p ys):False:=by
 obtain ⟨_,_,⟨o,e1,c1,_⟩,_⟩:=I.tuple h
 obtain ⟨_,_,⟨o',_,e2,c2,_⟩,_⟩:=I.list h'
 rw [e1] at e2
 cases e2
 rw [c1] at c2
 injection c2 with c3
 exact absurd c3 (by decide)
theorem zip_get{n:Nat}{i:Nat}{o:Option Bool}(h:(oi (bh n) a b)[i]?=some o):∃x y,a[i]?=some x/\b[i]?=some y/\bh n x y=o:=by
 rw [Jr] at h
 cases ha:a[i]? with
 | none=>rw [ha] at h;simp at h
 | some x =>
  cases hb:b[i]? with
  | none=>rw [ha,hb] at h;simp at h
  | some y=>rw [ha,hb] at h;exact ⟨x,y,rfl,rfl,by simpa using h⟩
theorem QU(I:Inv X pins σ H s):∀(n:Nat) {v:V} {d d':D} {b:Bool},Is X.K O H v d->Is X.K O' H v d'->bh n d d'=some b->b=true:=by
 intro n
 induction n with
 | zero =>
  intro v d d' b h h' e
  have h:=h.n5
  have h':=h'.n5
  cases d<;>cases d'<;>simp only [Cm] at h h'<;>simp only [bh,d9,reduceCtorEq] at e<;>first
   | (subst h;cases h';exact e.symm)
   | (subst h;cases h';rw [<-e];simp;done)
   | (subst h;cases h';done)
   | (subst h;obtain ⟨_,_,h',_⟩:=h';cases h';done)
   | (subst h';obtain ⟨_,_,h,_⟩:=h;cases h;done)
   | (obtain ⟨_,_,rfl,h,_⟩:=h;obtain ⟨_,_,hr,h',_⟩:=h';cases hr;first | exact (EZ I h h').elim | exact (EZ I h' h).elim)
 | succ n ih =>
  intro v d d' b h h' e
  have key:∀{xs:List V} {ds gm:List D} {bs:List Bool},aN X.K O H xs ds->aN X.K O' H xs gm->iX (oi (bh n) ds gm)=some bs->bs.all id=true:=λ{xs ds gm bs} a1 a2 ea=>by
   obtain ⟨_,g⟩:=Bo ea
   rw [IE]
   intro c hc
   obtain ⟨i,hi,rfl⟩:=pW.mp hc
   obtain ⟨x,y,ex,ey,Ym⟩:=zip_get (g i _ (ot hi))
   obtain ⟨z,ez,iz⟩:=a1.get ex
   obtain ⟨z',NF,Xb⟩:=a2.get ey
   rw [ez] at NF
   cases NF
   exact ih iz Xb Ym
  have h:=h.n5
  have h':=h'.n5
  cases d<;>cases d'<;>simp only [Cm] at h h'<;>simp only [bh,d9,reduceCtorEq] at e<;>first
   | (subst h;cases h';exact e.symm)
   | (subst h;cases h';rw [<-e];simp;done)
   | (subst h;cases h';done)
   | (subst h;obtain ⟨_,_,h',_⟩:=h';cases h';done)
   | (subst h';obtain ⟨_,_,h,_⟩:=h;cases h;done)
   | (obtain ⟨_,_,rfl,h,_⟩:=h;obtain ⟨_,_,hr,h',_⟩:=h';cases hr;first | exact (EZ I h h').elim | exact (EZ I h' h).elim)
   | skip
  .obtain ⟨_,xs,rfl,h,a1⟩:=h
   obtain ⟨_,ys,hr,h',a2⟩:=h'
   cases hr
   cases I.fW h h'
   obtain ⟨bs,e1,rfl⟩:=map_some e
   rw [key a1 a2 e1,<-a1.length,<-a2.length]
   simp
  .obtain ⟨_,xs,rfl,h,a1⟩:=h
   obtain ⟨_,ys,hr,h',a2⟩:=h'
   cases hr
   cases I.ic h h'
   rw [if_pos (by rw [<-a1.length,<-a2.length])] at e
   obtain ⟨bs,e1,rfl⟩:=map_some e
   exact key a1 a2 e1
theorem Qf{xs:List V}{aq:List Value}{O:Addr->Prop}{K:aI}{ds:List D}(r:aw xs aq)(a:aN K O H xs ds){j:Nat}(h:j<aq.toArray.size):∃d v,ds[j]?=some d/\Is K O H v d/\RelV v aq.toArray[j]:=by
 have hj:j<aq.length:=by simpa using h
 have hl:=r.length
 obtain ⟨d,hd,hv⟩:=a.o4 (i:=j) (x:=xs[j]'(by ext hj hl)) (ot (by ext hj hl))
 obtain ⟨u,hu,ru⟩:=r.get (i:=j) (x:=xs[j]'(by ext hj hl)) (ot (by ext hj hl))
 rw [ot hj] at hu
 refine ⟨d,_,hd,hv,?_⟩
 rw [List.getElem_toArray,cT hu]
 exact ru
open PySem.SeqAt in
theorem Pu(I:Inv X pins σ H s)(hu:A.units<cLine)(h:Cm X.K O H v d)(h':Cm X.K O' H v' d')(r:RelV v u)(r':RelV v' u')(e:bh n d d'=some b)
  (hn:(∀a c,d=.tup a->d'=.tup c->False)/\∀a c r r',d=.lst r a->d'=.lst r' c->False):EqAt A s u u' b/\RcAt A s u u' b/\RcNeAt A s u u' (!b):=by
 cases d with
 | aU =>
  cases d' with
  | aU =>
   subst h;obtain rfl:u=gi:=r
   subst h';obtain rfl:u'=gi:=r'
   simp only [bh,d9] at e
   subst e
   exact ⟨EqAt.same _,RcAt.none_none,RcNeAt.none_none⟩
  | bl k' =>
   subst h;obtain rfl:u=gi:=r
   subst h';obtain rfl:u'=lH k':=r'
   simp only [bh,d9] at e
   subst e
   exact ⟨EqAt.none_bool k',RcAt.none_bool k',RcNeAt.none_bool k'⟩
  | int k' =>
   subst h;obtain rfl:u=gi:=r
   subst h';obtain ⟨t',rfl⟩:=r'
   simp only [bh,d9] at e
   subst e
   exact ⟨EqAt.none_int k' t',RcAt.none_int k' t',RcNeAt.none_int k' t'⟩
  | str k' =>
   subst h;obtain rfl:u=gi:=r
   subst h';obtain ⟨t',rfl⟩:=r'
   simp only [bh,d9] at e
   subst e
   exact ⟨EqAt.none_str k' t',RcAt.none_str k' t',RcNeAt.none_str k' t'⟩
  | tup gm =>
   subst h;obtain rfl:u=gi:=r
   obtain ⟨p',jv,rfl,dE,_⟩:=h';obtain ⟨its',_,bA,_⟩:=I.tuple dE;obtain rfl:u'=eL p':=r';replace bA:s.heap.IsTuple p' its'.toArray:=bA
   simp only [bh,d9] at e
   subst e
   exact ⟨EqAt.none_tuple bA hu,RcAt.none_tuple bA hu,RcNeAt.none_tuple bA hu⟩
  | lst oI gm =>
   subst h;obtain rfl:u=gi:=r
   obtain ⟨p',jv,rfl,dE,_⟩:=h';obtain ⟨its',_,bA,_⟩:=I.list dE;obtain rfl:u'=eL p':=r';replace bA:=bA.isList
   simp only [bh,d9] at e
   subst e
   exact ⟨EqAt.none_list bA hu,RcAt.none_list bA hu,RcNeAt.none_list bA hu⟩
  | exc n'=>simp [bh] at e
  | fB n' m'=>simp [bh] at e
 | bl k =>
  cases d' with
  | aU =>
   subst h;obtain rfl:u=lH k:=r
   subst h';obtain rfl:u'=gi:=r'
   simp only [bh,d9] at e
   subst e
   exact ⟨EqAt.bool_none k,RcAt.bool_none k,RcNeAt.bool_none k⟩
  | bl k' =>
   subst h;obtain rfl:u=lH k:=r
   subst h';obtain rfl:u'=lH k':=r'
   simp only [bh,d9] at e
   subst e
   exact ⟨EqAt.bool_bool k k',RcAt.bool_bool k k',RcNeAt.bool_bool k k'⟩
  | int k' =>
   subst h;obtain rfl:u=lH k:=r
   subst h';obtain ⟨t',rfl⟩:=r'
   simp only [bh,d9] at e
   subst e
   exact ⟨EqAt.bool_int k k' t',RcAt.bool_int k k' t',RcNeAt.bool_int k k' t'⟩
  | str k' =>
   subst h;obtain rfl:u=lH k:=r
   subst h';obtain ⟨t',rfl⟩:=r'
   simp only [bh,d9] at e
   subst e
   exact ⟨EqAt.bool_str k k' t',RcAt.bool_str k k' t',RcNeAt.bool_str k k' t'⟩
  | tup gm =>
   subst h;obtain rfl:u=lH k:=r
   obtain ⟨p',jv,rfl,dE,_⟩:=h';obtain ⟨its',_,bA,_⟩:=I.tuple dE;obtain rfl:u'=eL p':=r';replace bA:s.heap.IsTuple p' its'.toArray:=bA
   simp only [bh,d9] at e
   subst e
   exact ⟨EqAt.bool_tuple k bA hu,RcAt.bool_tuple k bA hu,RcNeAt.bool_tuple k bA hu⟩
  | lst oI gm =>
   subst h;obtain rfl:u=lH k:=r
   obtain ⟨p',jv,rfl,dE,_⟩:=h';obtain ⟨its',_,bA,_⟩:=I.list dE;obtain rfl:u'=eL p':=r';replace bA:=bA.isList
   simp only [bh,d9] at e
   subst e
   exact ⟨EqAt.bool_list k bA hu,RcAt.bool_list k bA hu,RcNeAt.bool_list k bA hu⟩
  | exc n'=>simp [bh] at e
  | fB n' m'=>simp [bh] at e
 | int k =>
  cases d' with
  | aU =>
   subst h;obtain ⟨t,rfl⟩:=r
   subst h';obtain rfl:u'=gi:=r'
   simp only [bh,d9] at e
   subst e
   exact ⟨EqAt.int_none k t,RcAt.int_none k t,RcNeAt.int_none k t⟩
  | bl k' =>
   subst h;obtain ⟨t,rfl⟩:=r
   subst h';obtain rfl:u'=lH k':=r'
   simp only [bh,d9] at e
   subst e
   exact ⟨EqAt.int_bool k t k',RcAt.int_bool k t k',RcNeAt.int_bool k t k'⟩
  | int k' =>
   subst h;obtain ⟨t,rfl⟩:=r
   subst h';obtain ⟨t',rfl⟩:=r'
   simp only [bh,d9] at e
   subst e
   exact ⟨EqAt.int_int k t k' t',RcAt.int_int k t k' t',RcNeAt.int_int k t k' t'⟩
  | str k' =>
   subst h;obtain ⟨t,rfl⟩:=r
   subst h';obtain ⟨t',rfl⟩:=r'
   simp only [bh,d9] at e
   subst e
   exact ⟨EqAt.int_str k t k' t',RcAt.int_str k t k' t',RcNeAt.int_str k t k' t'⟩
  | tup gm =>
   subst h;obtain ⟨t,rfl⟩:=r
   obtain ⟨p',jv,rfl,dE,_⟩:=h';obtain ⟨its',_,bA,_⟩:=I.tuple dE;obtain rfl:u'=eL p':=r';replace bA:s.heap.IsTuple p' its'.toArray:=bA
   simp only [bh,d9] at e
   subst e
   exact ⟨EqAt.int_tuple k t bA hu,RcAt.int_tuple k t bA hu,RcNeAt.int_tuple k t bA hu⟩
  | lst oI gm =>
   subst h;obtain ⟨t,rfl⟩:=r
   obtain ⟨p',jv,rfl,dE,_⟩:=h';obtain ⟨its',_,bA,_⟩:=I.list dE;obtain rfl:u'=eL p':=r';replace bA:=bA.isList
   simp only [bh,d9] at e
   subst e
   exact ⟨EqAt.int_list k t bA hu,RcAt.int_list k t bA hu,RcNeAt.int_list k t bA hu⟩
  | exc n'=>simp [bh] at e
  | fB n' m'=>simp [bh] at e
 | str k =>
  cases d' with
  | aU =>
   subst h;obtain ⟨t,rfl⟩:=r
   subst h';obtain rfl:u'=gi:=r'
   simp only [bh,d9] at e
   subst e
   exact ⟨EqAt.str_none k t,RcAt.str_none k t,RcNeAt.str_none k t⟩
  | bl k' =>
   subst h;obtain ⟨t,rfl⟩:=r
   subst h';obtain rfl:u'=lH k':=r'
   simp only [bh,d9] at e
   subst e
   exact ⟨EqAt.str_bool k t k',RcAt.str_bool k t k',RcNeAt.str_bool k t k'⟩
  | int k' =>
   subst h;obtain ⟨t,rfl⟩:=r
   subst h';obtain ⟨t',rfl⟩:=r'
   simp only [bh,d9] at e
   subst e
   exact ⟨EqAt.str_int k t k' t',RcAt.str_int k t k' t',RcNeAt.str_int k t k' t'⟩
  | str k' =>
   subst h;obtain ⟨t,rfl⟩:=r
   subst h';obtain ⟨t',rfl⟩:=r'
   simp only [bh,d9] at e
   subst e
   exact ⟨EqAt.str_str k t k' t',RcAt.str_str k t k' t',RcNeAt.str_str k t k' t'⟩
  | tup gm =>
   subst h;obtain ⟨t,rfl⟩:=r
   obtain ⟨p',jv,rfl,dE,_⟩:=h';obtain ⟨its',_,bA,_⟩:=I.tuple dE;obtain rfl:u'=eL p':=r';replace bA:s.heap.IsTuple p' its'.toArray:=bA
   simp only [bh,d9] at e
   subst e
   exact ⟨EqAt.str_tuple k t bA hu,RcAt.str_tuple k t bA hu,RcNeAt.str_tuple k t bA hu⟩
  | lst oI gm =>
   subst h;obtain ⟨t,rfl⟩:=r
   obtain ⟨p',jv,rfl,dE,_⟩:=h';obtain ⟨its',_,bA,_⟩:=I.list dE;obtain rfl:u'=eL p':=r';replace bA:=bA.isList
   simp only [bh,d9] at e
   subst e
   exact ⟨EqAt.str_list k t bA hu,RcAt.str_list k t bA hu,RcNeAt.str_list k t bA hu⟩
  | exc n'=>simp [bh] at e
  | fB n' m'=>simp [bh] at e
 | tup ds =>
  cases d' with
  | aU =>
   obtain ⟨p,xs,rfl,hq,_⟩:=h;obtain ⟨aq,_,pl,_⟩:=I.tuple hq;obtain rfl:u=eL p:=r;replace pl:s.heap.IsTuple p aq.toArray:=pl
   subst h';obtain rfl:u'=gi:=r'
   simp only [bh,d9] at e
   subst e
   exact ⟨EqAt.tuple_none pl hu,RcAt.tuple_none pl hu,RcNeAt.tuple_none pl hu⟩
  | bl k' =>
   obtain ⟨p,xs,rfl,hq,_⟩:=h;obtain ⟨aq,_,pl,_⟩:=I.tuple hq;obtain rfl:u=eL p:=r;replace pl:s.heap.IsTuple p aq.toArray:=pl
   subst h';obtain rfl:u'=lH k':=r'
   simp only [bh,d9] at e
   subst e
   exact ⟨EqAt.tuple_bool k' pl hu,RcAt.tuple_bool k' pl hu,RcNeAt.tuple_bool k' pl hu⟩
  | int k' =>
   obtain ⟨p,xs,rfl,hq,_⟩:=h;obtain ⟨aq,_,pl,_⟩:=I.tuple hq;obtain rfl:u=eL p:=r;replace pl:s.heap.IsTuple p aq.toArray:=pl
   subst h';obtain ⟨t',rfl⟩:=r'
   simp only [bh,d9] at e
   subst e
   exact ⟨EqAt.tuple_int k' t' pl hu,RcAt.tuple_int k' t' pl hu,RcNeAt.tuple_int k' t' pl hu⟩
  | str k' =>
   obtain ⟨p,xs,rfl,hq,_⟩:=h;obtain ⟨aq,_,pl,_⟩:=I.tuple hq;obtain rfl:u=eL p:=r;replace pl:s.heap.IsTuple p aq.toArray:=pl
   subst h';obtain ⟨t',rfl⟩:=r'
   simp only [bh,d9] at e
   subst e
   exact ⟨EqAt.tuple_str k' t' pl hu,RcAt.tuple_str k' t' pl hu,RcNeAt.tuple_str k' t' pl hu⟩
  | tup gm=>exact (hn.1 _ _ rfl rfl).elim
  | lst oI gm =>
   obtain ⟨p,xs,rfl,hq,_⟩:=h;obtain ⟨aq,_,pl,_⟩:=I.tuple hq;obtain rfl:u=eL p:=r;replace pl:s.heap.IsTuple p aq.toArray:=pl
   obtain ⟨p',jv,rfl,dE,_⟩:=h';obtain ⟨its',_,bA,_⟩:=I.list dE;obtain rfl:u'=eL p':=r';replace bA:=bA.isList
   simp only [bh,d9] at e
   subst e
   exact ⟨EqAt.tuple_list pl bA hu,RcAt.tuple_list pl bA hu,RcNeAt.tuple_list pl bA hu⟩
  | exc n'=>simp [bh] at e
  | fB n' m'=>simp [bh] at e
 | lst ro ds =>
  cases d' with
  | aU =>
   obtain ⟨p,xs,rfl,hq,_⟩:=h;obtain ⟨aq,_,pl,_⟩:=I.list hq;obtain rfl:u=eL p:=r;replace pl:=pl.isList
   subst h';obtain rfl:u'=gi:=r'
   simp only [bh,d9] at e
   subst e
   exact ⟨EqAt.list_none pl hu,RcAt.list_none pl hu,RcNeAt.list_none pl hu⟩
  | bl k' =>
   obtain ⟨p,xs,rfl,hq,_⟩:=h;obtain ⟨aq,_,pl,_⟩:=I.list hq;obtain rfl:u=eL p:=r;replace pl:=pl.isList
   subst h';obtain rfl:u'=lH k':=r'
   simp only [bh,d9] at e
   subst e
   exact ⟨EqAt.list_bool k' pl hu,RcAt.list_bool k' pl hu,RcNeAt.list_bool k' pl hu⟩
  | int k' =>
   obtain ⟨p,xs,rfl,hq,_⟩:=h;obtain ⟨aq,_,pl,_⟩:=I.list hq;obtain rfl:u=eL p:=r;replace pl:=pl.isList
   subst h';obtain ⟨t',rfl⟩:=r'
   simp only [bh,d9] at e
   subst e
   exact ⟨EqAt.list_int k' t' pl hu,RcAt.list_int k' t' pl hu,RcNeAt.list_int k' t' pl hu⟩
  | str k' =>
   obtain ⟨p,xs,rfl,hq,_⟩:=h;obtain ⟨aq,_,pl,_⟩:=I.list hq;obtain rfl:u=eL p:=r;replace pl:=pl.isList
   subst h';obtain ⟨t',rfl⟩:=r'
   simp only [bh,d9] at e
   subst e
   exact ⟨EqAt.list_str k' t' pl hu,RcAt.list_str k' t' pl hu,RcNeAt.list_str k' t' pl hu⟩
  | tup gm =>
   obtain ⟨p,xs,rfl,hq,_⟩:=h;obtain ⟨aq,_,pl,_⟩:=I.list hq;obtain rfl:u=eL p:=r;replace pl:=pl.isList
   obtain ⟨p',jv,rfl,dE,_⟩:=h';obtain ⟨its',_,bA,_⟩:=I.tuple dE;obtain rfl:u'=eL p':=r';replace bA:s.heap.IsTuple p' its'.toArray:=bA
   simp only [bh,d9] at e
   subst e
   exact ⟨EqAt.list_tuple pl bA hu,RcAt.list_tuple pl bA hu,RcNeAt.list_tuple pl bA hu⟩
  | lst oI gm=>exact (hn.2 _ _ _ _ rfl rfl).elim
  | exc n'=>simp [bh] at e
  | fB n' m'=>simp [bh] at e
 | exc n=>cases d'<;>simp [bh] at e
 | fB n m=>cases d'<;>simp [bh] at e
open PySem.SeqAt in
theorem Pn(I:Inv X pins σ H s):∀(n:Nat) {A:Around} {u u':Value} {v v':V} {d d':D} {b:Bool},A.units+n<cLine->Is X.K O H v d->Is X.K O' H v' d'->RelV v u->RelV v' u'->bh n d d'=some b ->
  EqAt A s u u' b/\RcAt A s u u' b/\RcNeAt A s u u' (!b):=by
 intro n
 induction n with
 | zero =>
  intro A u u' v v' d d' b hu h h' r r' e
  refine Pu I ‹_› h.n5 h'.n5 r r' e ⟨?_,?_⟩
  .rintro a c rfl rfl;simp [bh] at e
  .rintro a c ro oI rfl rfl;simp [bh] at e
 | succ n ih =>
  intro A u u' v v' d d' b hu h h' r r' e
  have elems:∀{xs ys:List V} {aq cG:List Value} {ds es:List D} {bs:List Bool},aw xs aq->aw ys cG->aN X.K O H xs ds->aN X.K O' H ys es->iX (oi (bh n) ds es)=some bs ->
    ∀j (h1:j<aq.toArray.size) (h2:j<cG.toArray.size),EqAt A.in1 s aq.toArray[j] cG.toArray[j] (bs.getD j false):=λ{xs ys aq cG ds es bs} rx ry ax ay ea j h1 h2=>by
   obtain ⟨d1,v1,e1,i1,r1⟩:=Qf rx ax h1
   obtain ⟨d2,v2,e2,i2,r2⟩:=Qf ry ay h2
   obtain ⟨hl,g⟩:=Bo ea
   have hz:(oi (bh n) ds es)[j]?=some (bh n d1 d2):=by rw [Jr,e1,e2]
   have hj:j<bs.length:=by rw [<-hl];exact (j0.mp hz).1
   have:=g j bs[j] (ot hj)
   rw [hz] at this
   have e3:bs.getD j false=bs[j]:=by simp [hj]
   rw [e3]
   exact (ih (A:=A.in1) (by show A.units+1+n<_;ext hu) i1 i2 r1 r2 (cT this)).1
  by_cases ht:∃a c,d=.tup a/\d'=.tup c
  .obtain ⟨ds,es,rfl,rfl⟩:=ht
   simp only [bh] at e
   obtain ⟨bs,e1,rfl⟩:=map_some e
   obtain ⟨p,xs,rfl,hq,ax⟩:=h.n5
   obtain ⟨p',ys,rfl,dE,ay⟩:=h'.n5
   obtain ⟨aq,rx,pl,_⟩:=I.tuple hq
   obtain ⟨cG,ry,bA,_⟩:=I.tuple dE
   obtain rfl:u=eL p:=r
   obtain rfl:u'=eL p':=r'
   have pl:s.heap.IsTuple p aq.toArray:=pl
   have bA:s.heap.IsTuple p' cG.toArray:=bA
   have hlen:bs.length=min ds.length es.length:=by rw [<-(Bo e1).1,IW]
   have l1:aq.toArray.size=ds.length:=by rw [dU,<-rx.length,ax.length]
   have l2:cG.toArray.size=es.length:=by rw [dU,<-ry.length,ay.length]
   have val:((jH (min aq.toArray.size cG.toArray.size)).all (λj=>bs.getD j false)&&aq.toArray.size==cG.toArray.size)=(bs.all id&&decide (ds.length=es.length)):=by
    rw [l1,l2,all_range hlen]
    rfl
   have rc:=RcAt.tuples pl bA (by ext hu) (elems rx ry ax ay e1)
   have rn:=RcNeAt.tuples pl bA (by ext hu) (elems rx ry ax ay e1)
   rw [val] at rc rn
   refine ⟨?_,rc,rn⟩
   by_cases hp:p=p'
   .subst hp
    have:=QU I (n+1) h h' (show bh (n+1) (.tup ds) (.tup es)=some (bs.all id&&decide (ds.length=es.length)) by simp only [bh];rw [e1];rfl)
    rw [this]
    exact EqAt.same _
   .exact .of_refs hp rc
  by_cases hl:∃a c ro oI,d=.lst ro a/\d'=.lst oI c
  .obtain ⟨ds,es,ro,oI,rfl,rfl⟩:=hl
   have e0:=e
   simp only [bh] at e
   obtain ⟨p,xs,rfl,hq,ax⟩:=h.n5
   obtain ⟨p',ys,rfl,dE,ay⟩:=h'.n5
   obtain ⟨aq,rx,pl,_⟩:=I.list hq
   obtain ⟨cG,ry,bA,_⟩:=I.list dE
   obtain rfl:u=eL p:=r
   obtain rfl:u'=eL p':=r'
   have l1:aq.toArray.size=ds.length:=by rw [dU,<-rx.length,ax.length]
   have l2:cG.toArray.size=es.length:=by rw [dU,<-ry.length,ay.length]
   have fin:RcAt A s (.ref p) (.ref p') b->RcNeAt A s (.ref p) (.ref p') (!b)->EqAt A s (.ref p) (.ref p') b/\RcAt A s (.ref p) (.ref p') b/\RcNeAt A s (.ref p) (.ref p') (!b):=λrc rn=>by
    refine ⟨?_,rc,rn⟩
    by_cases hp:p=p'
    .subst hp
     rw [QU I (n+1) h h' e0]
     exact EqAt.same _
    .exact .of_refs hp rc
   by_cases hlen:ds.length=es.length
   .rw [if_pos hlen] at e
    obtain ⟨bs,e1,rfl⟩:=map_some e
    have qC:bs.length=ds.length:=by rw [<-(Bo e1).1,IW];ext hlen
    have rc:=RcAt.lists pl.isList bA.isList (by ext l1 l2 hlen) (by ext hu) (elems rx ry ax ay e1)
    have rn:=RcNeAt.lists pl.isList bA.isList (by ext l1 l2 hlen) (by ext hu) (elems rx ry ax ay e1)
    rw [l1,all_range qC] at rc rn
    exact fin rc rn
   .rw [if_neg hlen] at e
    cases e
    have aW:(aq.toArray.size != cG.toArray.size)=true:=by rw [l1,l2];simpa using hlen
    exact fin (RcAt.lists_lengths pl.isList bA.isList aW (by ext hu)) (RcNeAt.lists_lengths pl.isList bA.isList aW (by ext hu))
  refine Pu I (by ext hu) h.n5 h'.n5 r r' e ⟨λa c e1 e2=>ht ⟨a,c,e1,e2⟩,λa c ro oI e1 e2=>hl ⟨a,c,ro,oI,e1,e2⟩⟩
noncomputable def cX:D->D->Option Sl:=λa b=>(bh 8 a b).map λk=>.sh (.bl k)
noncomputable def iS:D->D->Option Sl:=λa b=>(bh 8 a b).map λk=>.sh (.bl !k)
theorem nL(hu:X.A.units+8<cLine):jR X (compareOp .Eq) cX:=by
 refine ⟨λx y H Q=>∃O O' a b k,Is X.K O H x a/\Is X.K O' H y b/\bh 8 a b=some k/\Q (.bl k) H,?_,λO H x y a b s Q hO hx hy e q=>?_⟩
 .intro pins s σ H x y v u Q I rx ry h
  obtain ⟨O,O',a,b,k,hx,hy,e,q⟩:=h
  exact (Pn I 8 hu hx hy rx ry e).2.1 _ _ _ _ ⟨.bl k,H,I,rfl,q⟩
 .obtain ⟨k,e1,rfl⟩:=map_some e
  exact ⟨O,O,a,b,k,hx,hy,e1,q _ H (au.refl _) (Is.bl _)⟩
theorem J5(hu:X.A.units+8<cLine):jR X (compareOp .NotEq) iS:=by
 refine ⟨λx y H Q=>∃O O' a b k,Is X.K O H x a/\Is X.K O' H y b/\bh 8 a b=some k/\Q (.bl !k) H,?_,λO H x y a b s Q hO hx hy e q=>?_⟩
 .intro pins s σ H x y v u Q I rx ry h
  obtain ⟨O,O',a,b,k,hx,hy,e,q⟩:=h
  exact (Pn I 8 hu hx hy rx ry e).2.2 _ _ _ _ ⟨.bl _,H,I,rfl,q⟩
 .obtain ⟨k,e1,rfl⟩:=map_some e
  exact ⟨O,O,a,b,k,hx,hy,e1,q _ H (au.refl _) (Is.bl _)⟩
end
theorem Fx.u8{X:Cx}{N:List Str}{sc:Scope}{k:Nat}{full:Bool}(h:Fx X N sc k full):X.A.units+8<cLine:=by have:=h.room.un;ext this
end DL
namespace DL
open PySem PySem.Spec PyProof.Rows L2
theorem b1t{P:Program}{w:World}{K:aI}{tg:Expr}(it:Addr)(lo:Int)(n:Nat):Turn P w K tg (nX lo n) [it] it (λi h=>IsLongIter h it (lo+(i:Nat)*1) ((n:Int)-(i:Nat)) 1) where
 mem:=by simp
 obj:=λi h st b hb=>by
  have e:b=it:=by simpa using hb
  subst e
  exact ⟨_,st,λv z=>by
   have z':Dp _=vZ v:=z
   cases z'⟩
 keep:=λi h h' st k=>k it (by simp) _ st
 item:=by
  intro X hP hw hK hc i pins s σ H E I hf st hg
  subst hP hw hK
  obtain ⟨f0,f1,f2,f3,f4,f5⟩:=hf it (by simp)
  have W:=Walks.longrange (prog:=X.prog) (w:=X.w) (I.ok.hd hc) it lo 1 n
  refine W.item i s _ _ hg st λv h' tk hv ak kk=>?_
  obtain ⟨t,rfl⟩:=hv
  have I1:Inv X pins σ H { s with heap:=h',toks:=tk }:=I.turned (λb o hb e=>kk b o (by simpa using hb) e) f0 f1 f3 f4 f5
  refine ⟨_,rfl,D2 (s:={ s with heap:=h',toks:=tk }) (n:="longrange_iterator") ak rfl rfl (by decide) ⟨.int (lo+i),H,I1,⟨t,?_⟩,⟨rfl,rfl⟩,ak,λb hb=>(hf b hb).1⟩⟩
  rw [v5]
 done:=by
  intro X hP hw hK hc i pins s σ H E I hf st hg
  subst hP hw hK
  obtain ⟨f0,f1,f2,f3,f4,f5⟩:=hf it (by simp)
  exact wpAny_pyNext_long_end (I.ok.hd hc) st (by have:n<=i:=hg;ext this) λh' eb=>⟨rfl,I.turned (t':=s.toks) (λb o hb e=>eb b o hb e) f0 f1 f3 f4 f5⟩
 self:=λ_ _ _ _ _ st h=>wpAny_pyIter_longiter st h
section
variable {X:Cx}{tg:Expr}
theorem b1U{pins:List (Addr×Obj)}{σ:L2.St}{H:Hp}{s:Shared}{R:It->Hp->Prop}{E:Value->Shared->Prop}{lo hi:Int}{t u v:Tok}{tk:Nat}(I:Inv X pins σ H s)
  (q:R (nX lo (hi-lo).toNat) H):wpAny (model X.prog X.w) X.A (pyIter (.ref s.heap.objs.size)) (Mw X pins σ tg R) E { s with heap:=s.heap.push { cls:=.type "range",data:=.fields #[.int lo t,.int hi u,.int 1 v] },toks:=tk }:=by
 have I1:Inv X pins σ H { s with heap:=s.heap.push { cls:=.type "range",data:=.fields #[.int lo t,.int hi u,.int 1 v] },toks:=tk }:=I.kept λb o e=>bR _ e
 have e1:lo+((0:Nat):Int)*1=lo:=by simp
 have e2:(((hi-lo).toNat:Nat):Int)-((0:Nat):Int)=OB lo hi 1:=by rw [rangeSize_one];split<;>lia
 have fin:∀b∈[(s.heap.push { cls:=.type "range",data:=.fields #[.int lo t,.int hi u,.int 1 v] }).objs.size],cZ X pins H b:=λb hb=>by
  have e:b=(s.heap.push { cls:=.type "range",data:=.fields #[.int lo t,.int hi u,.int 1 v] }).objs.size:=by simpa using hb
  subst e
  exact I1.jG (bw _) (I1.bu.fresh (bw _))
 by_cases Na:Builtin.Range.small lo hi 1=true
 .refine wpAny_pyIter_range (Ik ..) Na ?_
  refine ⟨_,[(s.heap.push { cls:=.type "range",data:=.fields #[.int lo t,.int hi u,.int 1 v] }).objs.size],_,_,H,rfl,I1.kept (t':=tk) λb o e=>bR _ e,RI _ lo (hi-lo).toNat,?_,fin,q⟩
  show IsRangeIter _ _ (lo+((0:Nat):Int)*1) ((((hi-lo).toNat:Nat):Int)-((0:Nat):Int)) 1
  rw [e1,e2]
  exact fD _ rfl
 .refine wpAny_pyIter_longrange (Ik ..) (by simpa using Na) ?_
  refine ⟨_,[(s.heap.push { cls:=.type "range",data:=.fields #[.int lo t,.int hi u,.int 1 v] }).objs.size],_,_,H,rfl,I1.kept (t':=tk) λb o e=>bR _ e,b1t _ lo (hi-lo).toNat,?_,fin,q⟩
  show IsLongIter _ _ (lo+((0:Nat):Int)*1) ((((hi-lo).toNat:Nat):Int)-((0:Nat):Int)) 1
  rw [e1,e2]
  exact fD _ rfl
noncomputable def b9a(ta:TA):TI:=λσ H R=>ta σ H λvs H1=>∃j:Int,vs=[.int j]/\R (nX 0 j.toNat) H1
theorem b0Z(hg:Gl X "range")(hm:X.mg "range" = none)(ha:PA X [a] ta)(hs:starEach [a] X.env=[(false,eval a X.env)]:=by rfl):PI X tg (.Call (.Name "range" p) [a] [] pos) (b9a ta):=by
 intro pins s σ H R I h
 refine Call_ (sN I hg hm boot_range (AY (bG (ha pos pins s σ H _ I h) λus s1 ⟨vs,H1,I1,r1,q1⟩=>?_) hs rfl))
 obtain ⟨j,e,q⟩:=q1
 subst e
 cases r1 with
 | cons r rr =>
  cases rr
  obtain ⟨t,rfl⟩:=r
  exact call_range_1 (b1U I1 (by simpa using q))
noncomputable def D9:List D->Option (List D)
 | [.int j]=>some (dQ 0 j.toNat)
 | _=>none
noncomputable def yo:List D->Option (List D)
 | [.int i,.int j]=>some (dQ i (j-i).toNat)
 | _=>none
theorem b4h(ug:Gl X "range")(hm:X.mg "range" = none)(ha:AV X [a] fs)(h1:starEach [a] X.env=[(false,eval a X.env)]:=by rfl):IV X tg (.Call (.Name "range" p) [a] [] pos) (kr D9 fs):=by
 obtain ⟨ti,pi,ki⟩:=ha
 refine ⟨_,b0Z ug hm pi h1,λO B σ H env ds R Rl e q=>?_⟩
 obtain ⟨as,e1,e2⟩:=bind_some e
 refine ki O B σ H env as _ Rl e1 λvs H1 s1 r1=>?_
 unfold D9 at e2
 split at e2
 .cases e2
  exact ⟨_,Qr r1,q _ H1 s1 (b3G _ _)⟩
 .cases e2
end
end DL
namespace DL
open PySem PySem.Spec PyProof.Rows L2
noncomputable def l5(b:Bool):String:=if b then "list_iterator" else "tuple_iterator"
def fH(b:Bool)(h:Heap)(it l:Addr)(k:Nat):Prop:=match b with
 | true=>h.IsListIter it l k
 | false=>h.IsTupleIter it l k
def h7(b:Bool)(h:Heap)(l:Addr)(items:Array Value):Prop:=match b with
 | true=>h.IsList l items
 | false=>h.IsTuple l items
theorem fH.keep(x:fH b h it l k)(e:∀o,h.get? it=some o->h'.get? it=some o):fH b h' it l k:=by
 cases b with
 | true=>obtain ⟨o,ho,r⟩:=x;exact ⟨o,e _ ho,r⟩
 | false=>obtain ⟨o,ho,r⟩:=x;exact ⟨o,e _ ho,r⟩
theorem h7.keep(x:h7 b h l items)(e:∀o,h.get? l=some o->h'.get? l=some o):h7 b h' l items:=by
 cases b with
 | true=>obtain ⟨o,ho,r⟩:=x;exact ⟨o,e _ ho,r⟩
 | false=>obtain ⟨o,ho,r⟩:=x;exact ⟨o,e _ ho,r⟩
theorem fH.lt(x:fH b h it l k):it<h.objs.size:=by
 cases b with
 | true=>obtain ⟨o,ho,r⟩:=x;exact bX ho
 | false=>obtain ⟨o,ho,r⟩:=x;exact bX ho
theorem h7.lt(x:h7 b h l items):l<h.objs.size:=by
 cases b with
 | true=>obtain ⟨o,ho,r⟩:=x;exact bX ho
 | false=>obtain ⟨o,ho,r⟩:=x;exact bX ho
theorem fH.jw(x:fH b h it l k):∃o,h.get? it=some o/\∀v,o.data≠.cell v:=by
 cases b with
 | true=>obtain ⟨o,ho,_,d⟩:=x;exact ⟨o,ho,λv z=>by rw [d] at z;cases z⟩
 | false=>obtain ⟨o,ho,_,d⟩:=x;exact ⟨o,ho,λv z=>by rw [d] at z;cases z⟩
section
variable {prog:Program}{w:World}{A:Around}{E:Value->Shared->Prop}{s:Shared}
theorem EX(hit:fH b s.heap it l i)(hl:h7 b s.heap l items)(hx:items[i]?=some x)
  (hQ:∀h',fH b h' it l (i+1)->AI it s.heap h'->Q x { s with heap:=h' }):wpAny (model prog w) A (sH (.ref it)) Q E s:=by
 cases b with
 | true=>exact wpAny_nextOf_list_item hit hl hx hQ
 | false =>
  have ik:s.heap.IsTupleIter it l i:=hit
  obtain ⟨o,ho,hc,hd⟩:=id ik
  obtain ⟨ol,Hb,_,nl,vW⟩:=(show s.heap.IsTuple l items from hl)
  unfold sH
  refine aA (wz (name:=qJ "__next__") ik.typeIs DY (uP DY ik.typeIs Om ?_ (Oo _)))
  show wpAny _ _ (field (.ref it) 0 >>= _) _ _ s
  refine aA (lD ho hd (x:=.ref l) rfl ?_)
  show wpAny _ _ (if (eL l==gi)=true then _ else _) _ _ s
  rw [if_neg (show ¬((eL l==gi)=true) from mv)]
  show wpAny _ _ (field (.ref it) 1 >>= _) _ _ s
  refine aA (lD ho hd (x:=.int i 0) rfl ?_)
  show wpAny _ _ (seqItems? (.ref l) >>= _) _ _ s
  refine aA (pj Hb vW ?_)
  simp only [Jc,hx]
  refine aA (wpAny_setField ho hd (by simp) (bC ⟨x,rfl,bC (hQ _ ?_ (N4 ..))⟩))
  exact ⟨_,DT _ ho (Obj.isFreed_of_fields (Obj.data_mapFields hd _)),(Obj.cls_mapFields ..).trans hc,by rw [Obj.data_mapFields hd];simp [rawInt]⟩
theorem EL(hh:A.handled=none)(hit:fH b s.heap it l i)(hl:h7 b s.heap l items)(hx:items[i]?=none)
  (hE:∀h' e,Heap.ExtBut it s.heap h'->(∃o,h'.get? e=some o/\o.cls=.type "StopIteration")->E (.ref e) { s with heap:=h' }):wpAny (model prog w) A (sH (.ref it)) Q E s:=by
 cases b with
 | true=>exact wpAny_nextOf_list_end hh hit hl hx hE
 | false =>
  have ik:s.heap.IsTupleIter it l i:=hit
  obtain ⟨o,ho,hc,hd⟩:=id ik
  obtain ⟨ol,Hb,_,nl,vW⟩:=(show s.heap.IsTuple l items from hl)
  unfold sH
  refine aA (wz (name:=qJ "__next__") ik.typeIs DY (uP DY ik.typeIs Om ?_ (Oo _)))
  show wpAny _ _ (field (.ref it) 0 >>= _) _ _ s
  refine aA (lD ho hd (x:=.ref l) rfl ?_)
  show wpAny _ _ (if (eL l==gi)=true then _ else _) _ _ s
  rw [if_neg (show ¬((eL l==gi)=true) from mv)]
  show wpAny _ _ (field (.ref it) 1 >>= _) _ _ s
  refine aA (lD ho hd (x:=.int i 0) rfl ?_)
  show wpAny _ _ (seqItems? (.ref l) >>= _) _ _ s
  refine aA (pj Hb vW ?_)
  simp only [Jc,hx]
  refine aA (wb (aA (wpAny_setField ho hd (by simp) ?_)))
  show wpAny _ _ (newExc (.type "StopIteration") [] >>= _) _ _ _
  refine aA ?_
  simp only [newExc,newTuple]
  refine aA (sE ?_ (by size_fits))
  refine aA (m:=firstArgMember _ _) (wpAny_of_eq (a:=gi) (by first | rfl | (simp only [firstArgMember];rfl)) ?_)
  refine sE ?_ (by size_fits)
  simp only [raiseNew]
  refine aA (wpAny_handled ?_)
  first | rw [show A.in1.handled=none from hh] | rw [hh]
  refine aA (bC (wpAny_throw ?_))
  exact hE _ _ (((N4 ..).extBut.push _).push _) ⟨_,fD _ rfl,rfl⟩
structure Fv(z TI TO i1 i2 l1 l2:Addr):Prop where
 a1:TI≠z
 a2:TO≠z
 a3:i1≠z
 a4:i2≠z
 a6:TO≠i1
 a7:TO≠i2
 a8:i1≠i2
 b1:l1≠z
 b2:l1≠TO
 b3:l1≠i1
 b4:l1≠i2
 c1:l2≠z
 c2:l2≠TO
 c3:l2≠i1
 c4:l2≠i2
theorem b3m{b1 b2:Bool}{z TI TO i1 i2 l1 l2:Addr}{k1 k2:Nat}{xs ys:Array Value}{x y a b:Value}{Q:Option Value->Shared->Prop}(D:Fv z TI TO i1 i2 l1 l2)
  (hz:IsZip s.heap z TI TO .none)(ni:IsPair s.heap TI (.ref i1) (.ref i2))(og:IsPair s.heap TO a b)(h1:fH b1 s.heap i1 l1 k1)(h2:fH b2 s.heap i2 l2 k2)(ij:h7 b1 s.heap l1 xs)(fK:h7 b2 s.heap l2 ys)(hx:xs[k1]?=some x)(hy:ys[k2]?=some y)
  (hQ:∀h',IsZip h' z TI TO (rawInt s.heap.objs.size)->IsPair h' TO x y->fH b1 h' i1 l1 (k1+1)->fH b2 h' i2 l2 (k2+1)->IsPair h' s.heap.objs.size x y->h'.objs.size=s.heap.objs.size+1 ->
   (∀c o,c≠z->c≠TO->c≠i1->c≠i2->s.heap.get? c=some o->h'.get? c=some o)->Q (some (.ref s.heap.objs.size)) { s with heap:=h' }):wpAny (model prog w) A (pyNext (.ref z)) Q E s:=by
 have hT:s.TypeIs (.ref z) "zip":=⟨_,hz,rfl⟩
 unfold pyNext
 refine aA (AA (wz (name:=qJ "__next__") hT Dt (uP Dt hT F.entry_zip_next ?_ (F.args_zip_next_1 _))))
 show wpAny _ _ (field (.ref z) 2 >>= _) _ _ _
 refine aA (lD hz rfl (x:=.bool false) rfl ?_)
 show wpAny _ _ (field (.ref z) 3 >>= _) _ _ _
 refine aA (lD hz rfl (x:=.ref TI) rfl (aA (pj ni rfl ?_)))
 show wpAny _ _ (DX (.ref z) >>= _) _ _ _
 refine aA ?_
 unfold DX
 refine aA (lD hz rfl (x:=.none) rfl (bC ?_))
 simp only [if_true]
 refine aA (wb (aA (lD hz rfl (x:=.ref TO) rfl (aA (wA hz (by simp) λg1 rR s1=>?_)))))
 replace rR:IsZip g1 z TI TO .ellipsis:=rR
 refine aA ?_
 simp only [Dw,Iz,Du,List.forIn_nil]
 refine aA (aA (DE ?_))
 show wpAny _ _ (sH (.ref i1) >>= _) _ _ _
 refine aA (EX (h1.keep λo e=>s1.extBut _ _ D.a3 e) (ij.keep λo e=>s1.extBut _ _ D.b1 e) hx λg2 NA s2=>bC ?_)
 have t2:IsPair g2 TO a b:=s2.extBut _ _ D.a6 (s1.extBut _ _ D.a2 og)
 refine aA (pj t2 rfl (aA (I9 t2 λg3 t3 s3=>?_)))
 replace t3:IsPair g3 TO x b:=t3
 refine aA (sr (bC (aA (aA (DE ?_)))))
 show wpAny _ _ (sH (.ref i2) >>= _) _ _ _
 refine aA (EX (h2.keep λo e=>s3.extBut _ _ D.a7.symm (s2.extBut _ _ D.a8.symm (s1.extBut _ _ D.a4 e))) (fK.keep λo e=>s3.extBut _ _ D.c2 (s2.extBut _ _ D.c3 (s1.extBut _ _ D.c1 e))) hy λg4 Yf s4=>bC ?_)
 have t4:IsPair g4 TO x b:=s4.extBut _ _ D.a7 t3
 refine aA (pj t4 rfl (aA (I9 t4 λg5 t5 s5=>?_)))
 replace t5:IsPair g5 TO x y:=t5
 refine aA (sr (bC (bC (aA (pj t5 rfl (aA (II ?_)))))))
 have hsz:g5.objs.size=s.heap.objs.size:=by rw [s5.1,s4.1,s3.1,s2.1,s1.1]
 have M8:IsZip g5 z TI TO .ellipsis:=s5.extBut _ _ D.a2.symm (s4.extBut _ _ D.a4.symm (s3.extBut _ _ D.a2.symm (s2.extBut _ _ D.a3.symm rR)))
 have k5:∀c o,c≠z->c≠TO->c≠i1->c≠i2->s.heap.get? c=some o->g5.get? c=some o:=λc o c1 c2 c3 c4 e=>s5.extBut _ _ c2 (s4.extBut _ _ c4 (s3.extBut _ _ c2 (s2.extBut _ _ c3 (s1.extBut _ _ c1 e))))
 have j1:fH b1 g5 i1 l1 (k1+1):=NA.keep λo e=>s5.extBut _ _ D.a6.symm (s4.extBut _ _ D.a8 (s3.extBut _ _ D.a6.symm e))
 have j2:fH b2 g5 i2 l2 (k2+1):=Yf.keep λo e=>s5.extBut _ _ D.a7.symm e
 have zi:z<g5.objs.size:=bX M8
 show wpAny _ _ (OD (.ref z) (.ref g5.objs.size) >>= _) _ _ _
 refine aA ?_
 unfold OD
 have Xf:IsZip (g5.push { cls:=.type "tuple",data:=.seq #[x,y] }) z TI TO .ellipsis:=bR _ M8
 refine aA (wA Xf (by simp) λg7 GS s7=>?_)
 replace GS:IsZip g7 z TI TO (rawInt g5.objs.size):=GS
 refine wA GS (by simp) λg8 CO s8=>?_
 replace CO:IsZip g8 z TI TO (rawInt g5.objs.size):=CO
 have up:∀c o,c≠z->g5.get? c=some o->g8.get? c=some o:=λc o c1 e=>s8.extBut _ _ c1 (s7.extBut _ _ c1 (bR _ e))
 have t8:IsPair g8 g5.objs.size x y:=s8.extBut _ _ (uG zi) (s7.extBut _ _ (uG zi) (fD _ rfl))
 have z8:g8.objs.size=g5.objs.size+1:=by rw [s8.1,s7.1,nv]
 rw [hsz] at CO t8 z8
 refine bC ⟨_,rfl,bC ?_⟩
 show Q (some (.ref g5.objs.size)) _
 rw [hsz]
 exact hQ g8 CO (up _ _ D.a2 t5) (j1.keep λo e=>up _ o D.a3 e) (j2.keep λo e=>up _ o D.a4 e) t8 z8 λc o c1 c2 c3 c4 e=>up c o c1 (k5 c o c1 c2 c3 c4 e)
theorem b50{b1 b2:Bool}{z TI TO i1 i2 l1 l2:Addr}{k1 k2:Nat}{xs ys:Array Value}{a b:Value}{Q:Option Value->Shared->Prop}(hh:A.handled=none)(D:Fv z TI TO i1 i2 l1 l2)
  (hz:IsZip s.heap z TI TO .none)(ni:IsPair s.heap TI (.ref i1) (.ref i2))(og:IsPair s.heap TO a b)(h1:fH b1 s.heap i1 l1 k1)(h2:fH b2 s.heap i2 l2 k2)(ij:h7 b1 s.heap l1 xs)(fK:h7 b2 s.heap l2 ys)(Hv:xs[k1]?=none\/ys[k2]?=none)
  (hQ:∀h',(∀c o,c≠z->c≠TO->c≠i1->c≠i2->s.heap.get? c=some o->h'.get? c=some o)->Q none { s with heap:=h' }):wpAny (model prog w) A (pyNext (.ref z)) Q E s:=by
 have hT:s.TypeIs (.ref z) "zip":=⟨_,hz,rfl⟩
 unfold pyNext
 have fin:∀(h':Heap) (e:Addr),(∀c o,c≠z->c≠TO->c≠i1->c≠i2->s.heap.get? c=some o->h'.get? c=some o)->(∃o,h'.get? e=some o/\o.cls=.type "StopIteration") ->
   wpAny (model prog w) A (isInstance (.ref e) (.type "StopIteration") >>= λb=>if b=true then pure none else throw (.ref e)) Q E { s with heap:=h' }:=λh' e hk ⟨o,ho,hc⟩ =>
  aA (wpAny_isInstance (T:="StopIteration") (b:=true) ⟨o,ho,hc⟩ isSubtype_stop (bC (hQ _ hk)))
 refine aA (AA (wz (name:=qJ "__next__") hT Dt (uP Dt hT F.entry_zip_next ?_ (F.args_zip_next_1 _))))
 show wpAny _ _ (field (.ref z) 2 >>= _) _ _ _
 refine aA (lD hz rfl (x:=.bool false) rfl ?_)
 show wpAny _ _ (field (.ref z) 3 >>= _) _ _ _
 refine aA (lD hz rfl (x:=.ref TI) rfl (aA (pj ni rfl ?_)))
 show wpAny _ _ (DX (.ref z) >>= _) _ _ _
 refine aA ?_
 unfold DX
 refine aA (lD hz rfl (x:=.none) rfl (bC ?_))
 simp only [if_true]
 refine aA (wb (aA (lD hz rfl (x:=.ref TO) rfl (aA (wA hz (by simp) λg1 rR s1=>?_)))))
 replace rR:IsZip g1 z TI TO .ellipsis:=rR
 refine aA ?_
 simp only [Dw,Iz,Du,List.forIn_nil]
 refine aA (aA (DE ?_))
 show wpAny _ _ (sH (.ref i1) >>= _) _ _ _
 cases hx:xs[k1]? with
 | none =>
  refine aA (EL hh (h1.keep λo e=>s1.extBut _ _ D.a3 e) (ij.keep λo e=>s1.extBut _ _ D.b1 e) hx λg2 e s2 he=>?_)
  obtain ⟨oe,ud,ui⟩:=he
  have vQ:IsZip g2 z TI TO .ellipsis:=s2 _ _ D.a3.symm rR
  have Hu:e≠z:=λx=>by subst x;rw [vQ] at ud;cases ud;simp at ui
  exact wA vQ (by simp) λg3 _ s3=>fin g3 e (λc o c1 _ c3 _ x=>s3.extBut _ _ c1 (s2 _ _ c3 (s1.extBut _ _ c1 x))) ⟨oe,s3.extBut _ _ Hu ud,ui⟩
 | some x =>
  have hy:ys[k2]?=none:=by rcases Hv with h | h;rw [hx] at h;cases h;exact h
  refine aA (EX (h1.keep λo e=>s1.extBut _ _ D.a3 e) (ij.keep λo e=>s1.extBut _ _ D.b1 e) hx λg2 NA s2=>bC ?_)
  have t2:IsPair g2 TO a b:=s2.extBut _ _ D.a6 (s1.extBut _ _ D.a2 og)
  refine aA (pj t2 rfl (aA (I9 t2 λg3 t3 s3=>?_)))
  refine aA (sr (bC (aA (aA (DE ?_)))))
  show wpAny _ _ (sH (.ref i2) >>= _) _ _ _
  refine aA (EL hh (h2.keep λo e=>s3.extBut _ _ D.a7.symm (s2.extBut _ _ D.a8.symm (s1.extBut _ _ D.a4 e))) (fK.keep λo e=>s3.extBut _ _ D.c2 (s2.extBut _ _ D.c3 (s1.extBut _ _ D.c1 e))) hy λg4 e s4 he=>?_)
  obtain ⟨oe,ud,ui⟩:=he
  have M9:IsZip g4 z TI TO .ellipsis:=s4 _ _ D.a4.symm (s3.extBut _ _ D.a2.symm (s2.extBut _ _ D.a3.symm rR))
  have Hu:e≠z:=λx=>by subst x;rw [M9] at ud;cases ud;simp at ui
  exact wA M9 (by simp) λg5 _ s5=>fin g5 e (λc o c1 c2 c3 c4 x=>s5.extBut _ _ c1 (s4 _ _ c4 (s3.extBut _ _ c2 (s2.extBut _ _ c3 (s1.extBut _ _ c1 x))))) ⟨oe,s5.extBut _ _ Hu ud,ui⟩
end
end DL
namespace DL
open PySem PySem.Spec PyProof.Rows L2
section
variable {X:Cx}{pins:List (Addr×Obj)}{σ:L2.St}{H:Hp}{s:Shared}
theorem wY{t':Nat}{h':Heap}{ch:List Addr}(I:Inv X pins σ H s)(hf:∀b∈ch,cZ X pins H b)(k:∀b o,b∉ch->s.heap.get? b=some o->h'.get? b=some o):Inv X pins σ H { s with heap:=h',toks:=t' }:=by
 have yO:∀b u,H b=some u->b∉ch:=λb u e z=>by rw [(hf b z).1] at e;cases e
 refine I.step (g':=s.gens) (d':=s.drawn) (ch:=ch) (λb hb=>?_) (λb o _ _ hc e _=>k b o hc e) (λb o _ _ hc e _=>⟨o.slots,k b o hc e⟩) (λ_ _ _ _ n=>n)
  (λb o hc e=>⟨o,k b o hc e⟩) (λ_ _ e=>e) (λ_ _ _ e=>e) (λb ps e=>⟨#[],by rw [e];simp⟩) (λm hm=>?_) (λb u e=>?_) I.bare
 .obtain ⟨_,h1,_,h3,h4,h5⟩:=hf b hb
  exact ⟨h3,h1,h4,h5⟩
 .obtain ⟨o,es,ep,ho,r⟩:=hm
  exact ⟨o,es,ep,k _ o (λz=>(hf _ z).2.1 rfl) ho,r⟩
 .refine (I.bu b u e).j9 (λc v hc q=>k c v ?_ q) (λ_ _ _ q=>q) λ_ _ q=>q
  rcases hc with z | z
  .rw [z];exact yO b u e
  .exact yO c _ z
theorem pA(I:Inv X pins σ H s)(h:Sq X.K H b l xs):∃aq:List Value,aw xs aq/\h7 b s.heap l aq.toArray:=by
 cases b with
 | true=>obtain ⟨aq,r,p,_⟩:=I.list h;exact ⟨aq,r,p.isList⟩
 | false=>obtain ⟨aq,r,p,_⟩:=I.tuple h;exact ⟨aq,r,p⟩
theorem J4(I:Inv X pins σ H s)(h:Sq X.K H b l xs)(h':Sq X.K H b l ys):xs=ys:=by
 cases b with
 | true=>exact I.ic h h'
 | false=>exact I.fW h h'
end
noncomputable def MA(K:aI)(b1 b2:Bool)(l1 l2:Addr):It:=
 ⟨λi H=>∃xs ys x y,Sq K H b1 l1 xs/\Sq K H b2 l2 ys/\xs[i]?=some x/\ys[i]?=some y,
 λi H v H'=>∃p x y,v=.ref p/\H p=none/\H'=upd H p (.tup [x,y])/\(∀xs,Sq K H b1 l1 xs->xs[i]?=some x)/\(∀ys,Sq K H b2 l2 ys->ys[i]?=some y),
 λi H=>∃xs ys,Sq K H b1 l1 xs/\Sq K H b2 l2 ys/\(xs.length<=i\/ys.length<=i)⟩
theorem Rz{h:Heap}{c:Addr}{o p:Obj}(hc:c<h.objs.size)(e:(h.push p).get? c=some o):h.get? c=some o:=by
 have q:(h.objs.push p)[c]?=h.objs[c]?:=by rw [Array.getElem?_push,if_neg (dW hc)]
 unfold Heap.get? Heap.push at e
 unfold Heap.get?
 rw [<-q];exact e
theorem b51(h1:l1<n)(h2:l2<n):Fv (n+4) (n+2) (n+3) n (n+1) l1 l2:=by
 have Z:=zipApart_new h1 h2
 exact ⟨Z.1,Z.2,Z.3,Z.4,Z.8,Z.9,Z.10,Z.11,Z.12,Z.13,Z.14,Z.15,Z.16,Z.17,Z.18⟩
theorem b3p{P:Program}{w:World}{K:aI}{elts:List Expr}{kk:Nat}{pos:Pos}{b1 b2:Bool}{z TI TO i1 i2 l1 l2:Addr}(D:Fv z TI TO i1 i2 l1 l2)(d1:TI≠TO)(d2:TI≠i1)(d3:TI≠i2):
  Turn P w K (.Tuple elts kk pos) (MA K b1 b2 l1 l2) [z,TI,TO,i1,i2] z (λi h=>IsZip h z TI TO .none/\IsPair h TI (.ref i1) (.ref i2)/\(∃a b,IsPair h TO a b)/\fH b1 h i1 l1 i/\fH b2 h i2 l2 i) where
 mem:=by simp
 obj:=λi h ⟨hz,ni,⟨a,b,og⟩,h1,h2⟩ c hc=>by
  simp only [bq,gz,or_false] at hc
  rcases hc with rfl | rfl | rfl | rfl | rfl
  .exact ⟨_,hz,λv q=>nomatch (show Dp _=vZ v from q)⟩
  .exact ⟨_,ni,λv q=>nomatch (show Data.seq _ _=vZ v from q)⟩
  .exact ⟨_,og,λv q=>nomatch (show Data.seq _ _=vZ v from q)⟩
  .exact h1.jw
  .exact h2.jw
 keep:=λi h h' ⟨hz,ni,⟨a,b,og⟩,h1,h2⟩ k=>⟨k z (by simp) _ hz,k TI (by simp) _ ni,⟨a,b,k TO (by simp) _ og⟩,h1.keep λo e=>k i1 (by simp) o e,h2.keep λo e=>k i2 (by simp) o e⟩
 item:=by
  intro X hP hw hK hc i pins s σ H E I hf ⟨hz,ni,⟨a,b,og⟩,h1,h2⟩ hg
  subst hP hw hK
  obtain ⟨xs,ys,x,y,q1,q2,hx,hy⟩:=hg
  obtain ⟨y7,r1,p1⟩:=pA I q1
  obtain ⟨cG,r2,p2⟩:=pA I q2
  obtain ⟨u1,CQ,Uh⟩:=r1.get hx
  obtain ⟨u2,G6,Ug⟩:=r2.get hy
  refine b3m D hz ni og h1 h2 p1 p2 (by simpa using CQ) (by simpa using G6) λh' z8 t8 j1 j2 nw sz kp=>?_
  refine ⟨_,rfl,wpAny_letOwnedTupleGo_zip (s:={ s with heap:=h' }) z8 λh9 z9 sb=>?_⟩
  have fresh:H s.heap.objs.size=none:=I.bu.fresh (bw _)
  have bE:∀c∈[z,TO,i1,i2],c<s.heap.objs.size:=λc hc=>by
   simp only [bq,gz,or_false] at hc
   rcases hc with rfl | rfl | rfl | rfl
   .exact bX hz
   .exact bX og
   .exact h1.lt
   .exact h2.lt
  have up:∀c o,c∉[z,TO,i1,i2]->s.heap.get? c=some o->h9.get? c=some o:=λc o hc e=>by
   simp only [bq,gz,or_false,not_or] at hc
   exact sb.extBut _ _ hc.1 (kp c o hc.1 hc.2.1 hc.2.2.1 hc.2.2.2 e)
  have nz:s.heap.objs.size≠z:=uG (bE z (by simp))
  have Gi:IsPair h9 s.heap.objs.size u1 u2:=sb.extBut _ _ nz nw
  have I1:Inv X pins σ (upd H s.heap.objs.size (.tup [x,y])) { s with heap:=s.heap.push { cls:=.type "tuple",data:=.seq #[u1,u2] },toks:=s.toks }:=
   I.laid (λb o e=>bR _ e) (bw _) ⟨by simp [sizeLine],[u1,u2],.cons Uh (.cons Ug .nil),⟨_,fD _ rfl,rfl,_,rfl⟩⟩
  have I2:Inv X pins σ (upd H s.heap.objs.size (.tup [x,y])) { s with heap:=h9,toks:=s.toks }:=wY (s:={ s with heap:=s.heap.push { cls:=.type "tuple",data:=.seq #[u1,u2] },toks:=s.toks }) (ch:=[z,TO,i1,i2]) (t':=s.toks) I1 (λc hc=>by
    obtain ⟨f0,f1,f2,f3,f4,f5⟩:=hf c (by simp only [bq,gz,or_false] at hc ⊢;grind)
    exact ⟨by rw [dk (dW (bE c hc))];exact f0,f1,f2,f3,f4,f5⟩) λc o hc e=>by
   by_cases hs:c<s.heap.objs.size
   .exact up c o hc (Rz hs e)
   .have uh:c=s.heap.objs.size:=by
     have:=bX e
     rw [nv] at this
     exact Ds (Nat.lt_succ_iff.mp this) (IF hs)
    subst uh
    have e2:(s.heap.push { cls:=.type "tuple",data:=.seq #[u1,u2] }).get? s.heap.objs.size=some _:=fD _ rfl
    rw [e2] at e;cases e
    exact Gi
  refine ⟨.ref s.heap.objs.size,_,I2,rfl,⟨_,x,y,rfl,fresh,rfl,λzs tZ=>by rw [J4 I tZ q1];exact hx,λzs tZ=>by rw [J4 I tZ q2];exact hy⟩,⟨z9,up TI _ (by simp [d1,d2,d3,D.a1]) ni,⟨u1,u2,sb.extBut _ _ D.a2 t8⟩,j1.keep λo e=>sb.extBut _ _ D.a3 e,j2.keep λo e=>sb.extBut _ _ D.a4 e⟩,λc hc=>?_⟩
  rw [dk ?_]
  .exact (hf c hc).1
  .simp only [bq,gz,or_false] at hc
   rcases hc with rfl | rfl | rfl | rfl | rfl
   .exact dW (bE _ (by simp))
   .exact dW (bX ni)
   .exact dW (bE _ (by simp))
   .exact dW (bE _ (by simp))
   .exact dW (bE _ (by simp))
 done:=by
  intro X hP hw hK hc i pins s σ H E I hf ⟨hz,ni,⟨a,b,og⟩,h1,h2⟩ hg
  subst hP hw hK
  obtain ⟨xs,ys,q1,q2,hl⟩:=hg
  obtain ⟨y7,r1,p1⟩:=pA I q1
  obtain ⟨cG,r2,p2⟩:=pA I q2
  have e1:=r1.length
  have e2:=r2.length
  refine b50 (I.ok.hd hc) D hz ni og h1 h2 p1 p2 ?_ λh' kp=>⟨rfl,wY (ch:=[z,TO,i1,i2]) (t':=s.toks) I (λc hc=>hf c (by simp only [bq,gz,or_false] at hc ⊢;grind)) λc o hc e=>?_⟩
  .rcases hl with hl | hl
   .exact .inl (by simp;ext e1 hl)
   .exact .inr (by simp;ext e2 hl)
  .simp only [bq,gz,or_false,not_or] at hc
   exact kp c o hc.1 hc.2.1 hc.2.2.1 hc.2.2.2 e
 self:=λ_ _ _ _ _ st h=>wpAny_pyIter_zip st.1 h
noncomputable abbrev Ct(b1:Bool)(h:Heap)(l1:Addr):Heap:=h.push { cls:=.type (l5 b1),data:=.fields #[.ref l1,.int 0 0] }
noncomputable abbrev Cs(b1 b2:Bool)(h:Heap)(l1 l2:Addr):Heap:=(Ct b1 h l1).push { cls:=.type (l5 b2),data:=.fields #[.ref l2,.int 0 0] }
noncomputable abbrev Cr(b1 b2:Bool)(h:Heap)(l1 l2:Addr):Heap:=(Cs b1 b2 h l1 l2).push { cls:=.type "tuple",data:=.seq #[.ref h.objs.size,.ref (Ct b1 h l1).objs.size] }
noncomputable abbrev rF(b1 b2:Bool)(h:Heap)(l1 l2:Addr):Heap:=(Cr b1 b2 h l1 l2).push { cls:=.type "tuple",data:=.seq #[.none,.none] }
noncomputable abbrev oF(b1 b2:Bool)(h:Heap)(l1 l2:Addr):Heap:=(rF b1 b2 h l1 l2).push { cls:=.type "zip",data:=.fields #[.none,.bool false,.bool false,.ref (Cs b1 b2 h l1 l2).objs.size,.ref (Cr b1 b2 h l1 l2).objs.size] }
theorem a8D(l1 l2:Addr)(xs ys:Array Value):Meets (Builtin.«zip.__new__» ⟨[.type "zip",.ref l1,.ref l2],[]⟩) (λ_ R s=>s.heap.IsList l1 xs/\s.heap.IsList l2 ys/\R (.ok (.ret (.ref (rF true true s.heap l1 l2).objs.size))) { s with heap:=oF true true s.heap l1 l2 }):=
 .of_wp λprog w A R s h=>by
  obtain ⟨hp,g,d,tk,os⟩:=s;obtain ⟨ij,fK,h⟩:=h
  have jA:=sub_zip
  have ur:Dm (qL ⟨hp,g,d,tk,os⟩) l1 xs:=ij
  have uq:Dm (qL ⟨hp.push { cls:=.type "list_iterator",data:=.fields #[.ref l1,.int 0 0] },g,d,tk,os⟩) l2 ys:=NK fK _
  wp_walk using wm ur,wm uq
  exact ⟨_,rfl,h⟩
theorem a8E(l1 l2:Addr)(xs ys:Array Value):Meets (Builtin.«zip.__new__» ⟨[.type "zip",.ref l1,.ref l2],[]⟩) (λ_ R s=>s.heap.IsList l1 xs/\s.heap.IsTuple l2 ys/\R (.ok (.ret (.ref (rF true false s.heap l1 l2).objs.size))) { s with heap:=oF true false s.heap l1 l2 }):=
 .of_wp λprog w A R s h=>by
  obtain ⟨hp,g,d,tk,os⟩:=s;obtain ⟨ij,fK,h⟩:=h
  have jA:=sub_zip
  have ur:Dm (qL ⟨hp,g,d,tk,os⟩) l1 xs:=ij
  have uq:AG (qL ⟨hp.push { cls:=.type "list_iterator",data:=.fields #[.ref l1,.int 0 0] },g,d,tk,os⟩) l2 ys:=h7.keep (b:=false) fK λo e=>bR _ e
  wp_walk using wm ur,qN uq
  exact ⟨_,rfl,h⟩
theorem a8F(l1 l2:Addr)(xs ys:Array Value):Meets (Builtin.«zip.__new__» ⟨[.type "zip",.ref l1,.ref l2],[]⟩) (λ_ R s=>s.heap.IsTuple l1 xs/\s.heap.IsList l2 ys/\R (.ok (.ret (.ref (rF false true s.heap l1 l2).objs.size))) { s with heap:=oF false true s.heap l1 l2 }):=
 .of_wp λprog w A R s h=>by
  obtain ⟨hp,g,d,tk,os⟩:=s;obtain ⟨ij,fK,h⟩:=h
  have jA:=sub_zip
  have ur:AG (qL ⟨hp,g,d,tk,os⟩) l1 xs:=ij
  have uq:Dm (qL ⟨hp.push { cls:=.type "tuple_iterator",data:=.fields #[.ref l1,.int 0 0] },g,d,tk,os⟩) l2 ys:=NK fK _
  wp_walk using qN ur,wm uq
  exact ⟨_,rfl,h⟩
theorem a8G(l1 l2:Addr)(xs ys:Array Value):Meets (Builtin.«zip.__new__» ⟨[.type "zip",.ref l1,.ref l2],[]⟩) (λ_ R s=>s.heap.IsTuple l1 xs/\s.heap.IsTuple l2 ys/\R (.ok (.ret (.ref (rF false false s.heap l1 l2).objs.size))) { s with heap:=oF false false s.heap l1 l2 }):=
 .of_wp λprog w A R s h=>by
  obtain ⟨hp,g,d,tk,os⟩:=s;obtain ⟨ij,fK,h⟩:=h
  have jA:=sub_zip
  have ur:AG (qL ⟨hp,g,d,tk,os⟩) l1 xs:=ij
  have uq:AG (qL ⟨hp.push { cls:=.type "tuple_iterator",data:=.fields #[.ref l1,.int 0 0] },g,d,tk,os⟩) l2 ys:=h7.keep (b:=false) fK λo e=>bR _ e
  wp_walk using qN ur,qN uq
  exact ⟨_,rfl,h⟩
theorem b08(b1 b2:Bool)(l1 l2:Addr)(xs ys:Array Value):Meets (Builtin.«zip.__new__» ⟨[.type "zip",.ref l1,.ref l2],[]⟩) (λ_ R s=>h7 b1 s.heap l1 xs/\h7 b2 s.heap l2 ys/\R (.ok (.ret (.ref (rF b1 b2 s.heap l1 l2).objs.size))) { s with heap:=oF b1 b2 s.heap l1 l2 }):=by
 cases b1<;>cases b2
 .exact a8G l1 l2 xs ys
 .exact a8F l1 l2 xs ys
 .exact a8E l1 l2 xs ys
 .exact a8D l1 l2 xs ys
section
variable {prog:Program}{w:World}{A:Around}{E:Value->Shared->Prop}{s:Shared}
theorem Ki(e:h.get? it=some { cls:=.type (l5 b),data:=.fields #[.ref l,.int 0 0] }):fH b h it l 0:=by
 cases b with
 | true=>exact ⟨_,e,rfl,rfl⟩
 | false=>exact ⟨_,e,rfl,rfl⟩
theorem b2U(ij:h7 b1 s.heap l1 xs)(fK:h7 b2 s.heap l2 ys)
  (h:∀h',IsZip h' (s.heap.objs.size+4) (s.heap.objs.size+2) (s.heap.objs.size+3) .none->IsPair h' (s.heap.objs.size+2) (.ref s.heap.objs.size) (.ref (s.heap.objs.size+1)) ->
   IsPair h' (s.heap.objs.size+3) .none .none->fH b1 h' s.heap.objs.size l1 0->fH b2 h' (s.heap.objs.size+1) l2 0->h'.objs.size=s.heap.objs.size+5 ->
   (∀c o,s.heap.get? c=some o->h'.get? c=some o)->Q (.ref (s.heap.objs.size+4)) { s with heap:=h' }):
  wpAny (model prog w) A (call (.type "zip") [.ref l1,.ref l2]) Q E s:=by
 refine callType_new F.called_zip (by decide) (F.typeCall_zip_2 _ _) (F.newCall_zip_2 _ _) (λobj=>F.args_object_init_3 obj _ _) F.entry_zip_new (b08 b1 b2 l1 l2 xs ys) ⟨ij,fK,?_⟩
 have z1:(Ct b1 s.heap l1).objs.size=s.heap.objs.size+1:=nv ..
 have z2:(Cs b1 b2 s.heap l1 l2).objs.size=s.heap.objs.size+2:=by rw [nv,z1]
 have z3:(Cr b1 b2 s.heap l1 l2).objs.size=s.heap.objs.size+3:=by rw [nv,z2]
 have z4:(rF b1 b2 s.heap l1 l2).objs.size=s.heap.objs.size+4:=by rw [nv,z3]
 have z5:(oF b1 b2 s.heap l1 l2).objs.size=s.heap.objs.size+5:=by rw [nv,z4]
 have g5:(oF b1 b2 s.heap l1 l2).get? (rF b1 b2 s.heap l1 l2).objs.size=some _:=fD _ rfl
 have g4:(oF b1 b2 s.heap l1 l2).get? (Cr b1 b2 s.heap l1 l2).objs.size=some _:=bR _ (fD _ rfl)
 have g3:(oF b1 b2 s.heap l1 l2).get? (Cs b1 b2 s.heap l1 l2).objs.size=some _:=bR _ (bR _ (fD _ rfl))
 have g2:(oF b1 b2 s.heap l1 l2).get? (Ct b1 s.heap l1).objs.size=some _:=bR _ (bR _ (bR _ (fD _ rfl)))
 have g1:(oF b1 b2 s.heap l1 l2).get? s.heap.objs.size=some _:=bR _ (bR _ (bR _ (bR _ (fD _ rfl))))
 show _/\_
 rw [z2,z3,z4] at g5
 rw [z1,z2] at g3
 rw [z3] at g4
 rw [z1] at g2
 rw [z4]
 exact ⟨⟨_,g5,rfl⟩,h _ g5 g3 g4 (Ki g1) (Ki g2) z5 λc o x =>
  bR _ (bR _ (bR _ (bR _ (bR _ x))))⟩
end
section
variable {X:Cx}{elts:List Expr}{kk:Nat}{tp:Pos}
noncomputable def GL(K:aI)(ta:TA):TI:=λσ H R=>ta σ H λvs H1=>∃b1 b2 l1 l2 xs ys,vs=[.ref l1,.ref l2]/\Sq K H1 b1 l1 xs/\Sq K H1 b2 l2 ys/\R (MA K b1 b2 l1 l2) H1
theorem b8y{a b:Expr}{ta:TA}{p pos:Pos}(hg:Gl X "zip")(hm:X.mg "zip" = none)(ha:PA X [a,b] ta)(hs:starEach [a,b] X.env=[(false,eval a X.env),(false,eval b X.env)]:=by rfl)(ig:starEach [b] X.env=[(false,eval b X.env)]:=by rfl):
  PI X (.Tuple elts kk tp) (.Call (.Name "zip" p) [a,b] [] pos) (GL X.K ta):=by
 intro pins s σ H R I h
 refine Call_ (sN I hg hm boot_zip (AY (bG (ha pos pins s σ H _ I h) λus s1 ⟨vs,H1,I1,r1,q1⟩=>?_) (by rw [hs,ig]) (by rw [ig];rfl)))
 obtain ⟨b1,b2,l1,l2,xs,ys,e,q1,q2,q⟩:=q1
 subst e
 cases r1 with
 | cons r rr =>
  cases rr with
  | cons r' rr =>
   cases rr
   cases r
   cases r'
   obtain ⟨y7,Uj,p1⟩:=pA I1 q1
   obtain ⟨cG,rr2,p2⟩:=pA I1 q2
   refine b2U p1 p2 λh' z0 t0 o0 j1 j2 sz kp=>?_
   refine wpAny_pyIter_zip (s:={ s1 with heap:=h' }) z0 ?_
   have MZ:=p1.lt
   have yU:=p2.lt
   have D:=b51 MZ yU
   have Z:=zipApart_new MZ yU
   have ge:∀c∈[s1.heap.objs.size+4,s1.heap.objs.size+2,s1.heap.objs.size+3,s1.heap.objs.size,s1.heap.objs.size+1],s1.heap.objs.size<=c:=λc hc=>by
    simp only [bq,gz,or_false] at hc
    rcases hc with rfl | rfl | rfl | rfl | rfl
    .exact sD _ _
    .exact sD _ _
    .exact sD _ _
    .exact bw _
    .exact sD _ _
   exact ⟨_,_,_,_,H1,rfl,I1.kept (t':=s1.toks) kp,b3p D Z.5 Z.6 Z.7,⟨z0,t0,⟨_,_,o0⟩,j1,j2⟩,λc hc=>I1.jG (ge c hc) (I1.bu.fresh (ge c hc)),q⟩
noncomputable def iO(a b:List D):List D:=oi (λd e=>D.tup [d,e]) a b
noncomputable def lX:List D->Option (List D)
 | [a,b]=>(e9 a).bind λp=>(e9 b).map λq=>iO p.2 q.2
 | _=>none
theorem b3l{K:aI}{O:Addr->Prop}{H:Hp}{b1 b2:Bool}{l1 l2:Addr}{xs ys:List V}{as bs:List D}(h1:Sq K H b1 l1 xs)(i1:aN K O H xs as)(n1:¬O l1\/∀H',Sq K H' b1 l1 xs)(h2:Sq K H b2 l2 ys)(i2:aN K O H ys bs)(n2:¬O l2\/∀H',Sq K H' b2 l2 ys):
  wK K O (MA K b1 b2 l1 l2) H (iO as bs):=λO' H2 kp hO i=>by
 have key:∀{b:Bool} {l:Addr} {zs:List V} {cs:List D},Sq K H b l zs->aN K O H zs cs->(¬O l\/∀H',Sq K H' b l zs)->Sq K H2 b l zs/\aN K O' H2 zs cs:=λ{b l zs cs} h1 i1 n1=>by
  refine ⟨?_,i1.map (λq hq hn=>?_) λq u e n=>(kp q u e n).1⟩
  .rcases n1 with h3 | h3
   .exact Kk (λq u e n=>(kp q u e n).1) h1 h3
   .exact h3 H2
  .cases e:H q with
   | none=>exact (hq e).elim
   | some u=>exact (kp q u e hn).2
 obtain ⟨p1,s1⟩:=key h1 i1 n1
 obtain ⟨p2,s2⟩:=key h2 i2 n2
 refine ⟨λd hd=>?_,λhl=>⟨xs,ys,p1,p2,?_⟩⟩
 .unfold iO at hd
  rw [Jr] at hd
  cases ea:as[i]? with
  | none=>simp [ea] at hd
  | some da =>
   cases eb:bs[i]? with
   | none=>simp [ea,eb] at hd
   | some db =>
    simp only [ea,eb] at hd
    cases hd
    obtain ⟨x,hx,dx⟩:=s1.get ea
    obtain ⟨y,hy,dy⟩:=s2.get eb
    refine ⟨⟨xs,ys,x,y,p1,p2,hx,hy⟩,λv H3 hv=>?_⟩
    obtain ⟨p,x',y',rfl,hp,rfl,f1,f2⟩:=hv
    have e1:=f1 xs p1
    have e2:=f2 ys p2
    rw [hx] at e1;cases e1
    rw [hy] at e2;cases e2
    have sm:au H2 (upd H2 p (.tup [x,y])):=λq u e=>by rw [dk (pF e hp)];exact e
    exact ⟨sm,.tup (λz=>hO p z hp) (.inl pH) (.cons (dx.grow sm) (.cons (dy.grow sm) .nil))⟩
 .have e1:=s1.length
  have e2:=s2.length
  simp only [iO,IW] at hl
  ext e1 e2 hl
theorem b85{a b:Expr}{fs:En->Option (List D)}{p pos:Pos}(ug:Gl X "zip")(hm:X.mg "zip" = none)(ha:AV X [a,b] fs)(h1:starEach [a,b] X.env=[(false,eval a X.env),(false,eval b X.env)]:=by rfl)
  (h2:starEach [b] X.env=[(false,eval b X.env)]:=by rfl):IV X (.Tuple elts kk tp) (.Call (.Name "zip" p) [a,b] [] pos) (kr lX fs):=by
 obtain ⟨ti,pi,ki⟩:=ha
 refine ⟨_,b8y ug hm pi h1 h2,λO B σ H env ds R Rl e q=>?_⟩
 obtain ⟨as,e1,e2⟩:=bind_some e
 refine ki O B σ H env as _ Rl e1 λvs H1 s1 r1=>?_
 unfold lX at e2
 split at e2
 .rename_i da db
  obtain ⟨⟨k1,as⟩,ea,e2⟩:=bind_some e2
  obtain ⟨⟨k2,bs⟩,eb,e2⟩:=map_some e2
  cases e2
  cases r1 with
  | cons ra rr =>
   cases rr with
   | cons rb rr =>
    cases rr
    obtain ⟨l1,xs,rfl,g1,i1,n1⟩:=ra.mZ ea
    obtain ⟨l2,ys,rfl,g2,i2,n2⟩:=rb.mZ eb
    exact ⟨k1,k2,l1,l2,xs,ys,rfl,g1,g2,q _ H1 s1 (b3l g1 i1 n1 g2 i2 n2)⟩
 .cases e2
end
end DL
namespace DL
open PySem PySem.Spec PyProof.Rows L2
theorem a9P(l:Addr)(items:Array Value)(n:Nat)(fB:Option Addr)(sl:Array (Option Value)):
  Meets (Builtin.«enumerate.__new__» ⟨[.type "enumerate",.ref l],[]⟩) (λ_ R s=>s.heap.get? l=some { cls:=.type "tuple",dict:=fB,data:=.seq items n,slots:=sl } /\
   R (.ok (.ret (.ref (s.heap.push { cls:=.type (l5 false),data:=.fields #[.ref l,.int 0 0] }).objs.size)))
    { s with heap:=(s.heap.push { cls:=.type (l5 false),data:=.fields #[.ref l,.int 0 0] }).push { cls:=.type "enumerate",data:=.fields #[.none,.bool false,.ref s.heap.objs.size,rawInt 0,.none,.none] } }):=
 .of_wp λprog w A R s h=>by
  obtain ⟨hp,g,d,tk,os⟩:=s;obtain ⟨hl,h⟩:=h
  have sub:=sub_enumerate
  have hL:AG (qL ⟨hp,g,d,tk,os⟩) l items:=⟨_,hl,rfl,n,rfl⟩
  wp_walk using DK hl
  refine wpAny_stack_any λst=>bC ?_
  split
  .rename_i c _ _ _ _ _
   cases (c==sv "enumerate")
   .wp_walk using DK hl,qN hL
    exact ⟨_,rfl,h⟩
   .wp_walk using DK hl,qN hL
    exact ⟨_,rfl,h⟩
  .wp_walk using DK hl,qN hL
   exact ⟨_,rfl,h⟩
section
variable {prog:Program}{w:World}{A:Around}{E:Value->Shared->Prop}{s:Shared}
theorem b2J(hL:h7 b s.heap l items)
  (h:∀h',IsEnum h' (s.heap.objs.size+1) s.heap.objs.size 0 .none->fH b h' s.heap.objs.size l 0->h'.objs.size=s.heap.objs.size+2 ->
   (∀c o,s.heap.get? c=some o->h'.get? c=some o)->Q (.ref (s.heap.objs.size+1)) { s with heap:=h' }):
  wpAny (model prog w) A (call (.type "enumerate") [.ref l]) Q E s:=by
 cases b with
 | true=>exact call_enumerate_list hL h
 | false =>
  obtain ⟨⟨c,fB,dt,sl⟩,hl,hc,n,hd⟩:=(show s.heap.IsTuple l items from hL)
  replace hc:c=.type "tuple":=hc
  replace hd:dt=.seq items n:=hd
  subst hc hd
  refine callType_new F.called_enumerate (by decide) (F.typeCall_enumerate_1 _) (F.newCall_enumerate_1 _) (λobj=>F.args_object_init_2 obj _) F.entry_enumerate_new (a9P l items n fB sl) ⟨hl,?_⟩
  have hz:(s.heap.push { cls:=.type (l5 false),data:=.fields #[.ref l,.int 0 0] }).objs.size=s.heap.objs.size+1:=nv ..
  show _/\_
  rw [hz]
  have he:=fD (s.heap.push { cls:=.type (l5 false),data:=.fields #[.ref l,.int 0 0] })
    (o:={ cls:=.type "enumerate",data:=.fields #[.none,.bool false,.ref s.heap.objs.size,rawInt 0,.none,.none] }) rfl
  rw [hz] at he
  exact ⟨⟨_,he,rfl⟩,h _ he (Ki (bR _ (fD _ rfl))) (by rw [nv,hz]) λb o x=>bR _ (bR _ x)⟩
theorem b1h(hh:A.handled=none)(it l:Addr)(aW:l≠it)(items:Array Value):
  Draws prog w A it [it,l] items.size (λi v=>items[i]?=some v) (λi h=>fH b h it l i/\h7 b h l items) where
 live:=λ_ _ st=>let ⟨o,ho,_⟩:=st.1.jw;⟨o,ho⟩
 frame:=λ_ _ _ st hk=>⟨st.1.keep λo e=>hk it (by simp) o e,st.2.keep λo e=>hk l (by simp) o e⟩
 item:=λi s Q E hi st hQ=>by
  refine EX st.1 st.2 (x:=items[i]) (by simp [hi]) λh' ik ly=>?_
  exact hQ _ h' s.toks (by simp [hi]) ⟨ik,st.2.keep λo e=>ly.extBut _ _ aW e⟩ ly
 done:=λs Q E st hE=>EL hh st.1 st.2 (by simp) hE
theorem b4z{b:Bool}{i:Nat}(hh:A.handled=none)
  (he:IsEnum s.heap e it i old)(hit:fH b s.heap it l i)(hl:h7 b s.heap l items)(hx:items[i]?=none)
  (hQ:∀h',Heap.ExtBut it s.heap h'->Q none { s with heap:=h' }):wpAny (model prog w) A (pyNext (.ref e)) Q E s:=by
 have hT:s.TypeIs (.ref e) "enumerate":=⟨_,he,rfl⟩
 unfold pyNext
 refine aA (AA (wz (name:=qJ "__next__") hT NS (uP NS hT F.entry_enumerate_next ?_ (F.args_enumerate_next_1 _))))
 show wpAny _ _ (field (.ref e) 2 >>= _) _ _ _
 refine aA (lD he rfl (x:=.ref it) rfl ?_)
 refine aA (EL hh hit hl hx λh' x XS jU=>?_)
 obtain ⟨o,ho,hc⟩:=jU
 exact aA (wpAny_isInstance (T:="StopIteration") (b:=true) ⟨o,ho,hc⟩ isSubtype_stop (bC (hQ _ XS)))
theorem b62(he:IsEnum h e it i old)(hl:h7 b h l items):e≠l:=λz=>by
 subst z
 have q:∃o,h.get? e=some o/\∃xs n,o.data=.seq xs n:=by
  cases b with
  | true=>obtain ⟨o,ho,_,n,hd⟩:=hl;exact ⟨o,ho,_,n,hd⟩
  | false=>obtain ⟨o,ho,_,n,hd⟩:=hl;exact ⟨o,ho,_,n,hd⟩
 obtain ⟨o,ho,xs,n,hd⟩:=q
 have:=he.symm.trans ho
 cases this
 cases hd
theorem za(hi:fH b h it l i)(hl:h7 b h l items):l≠it:=λz=>by
 subst z
 cases b with
 | true=>obtain ⟨o,ho,_,n,hd⟩:=hl;obtain ⟨o',mi,_,oZ⟩:=hi;rw [ho] at mi;cases mi;rw [hd] at oZ;cases oZ
 | false=>obtain ⟨o,ho,_,n,hd⟩:=hl;obtain ⟨o',mi,_,oZ⟩:=hi;rw [ho] at mi;cases mi;rw [hd] at oZ;cases oZ
end
noncomputable def MB(K:aI)(b:Bool)(l:Addr):It:=
 ⟨λi H=>∃xs x,Sq K H b l xs/\xs[i]?=some x,
 λi H v H'=>∃p x,v=.ref p/\H p=none/\H'=upd H p (.tup [.int i,x])/\∀xs,Sq K H b l xs->xs[i]?=some x,
 λi H=>∃xs,Sq K H b l xs/\xs.length<=i⟩
theorem b1v{P:Program}{w:World}{K:aI}{elts:List Expr}{kk:Nat}{pos:Pos}{b:Bool}{e it l:Addr}(d1:e≠it):Turn P w K (.Tuple elts kk pos) (MB K b l) [e,it] e (λi h=>(∃old,IsEnum h e it (i:Int) old)/\fH b h it l i) where
 mem:=by simp
 obj:=λi h ⟨⟨old,he⟩,hit⟩ c hc=>by
  simp only [bq,gz,or_false] at hc
  rcases hc with rfl | rfl
  .exact ⟨_,he,λv q=>nomatch (show Dp _=vZ v from q)⟩
  .exact hit.jw
 keep:=λi h h' ⟨⟨old,he⟩,hit⟩ k=>⟨⟨old,k e (by simp) _ he⟩,hit.keep λo x=>k it (by simp) o x⟩
 item:=by
  intro X hP hw hK hc i pins s σ H E I hf ⟨⟨old,he⟩,hit⟩ hg
  subst hP hw hK
  obtain ⟨xs,x,q1,hx⟩:=hg
  obtain ⟨aq,r1,p1⟩:=pA I q1
  obtain ⟨u,hu,ru⟩:=r1.get hx
  refine wpAny_pyNext_enum_itemD (b1h (A:=X.A.in1) (I.ok.hd hc) it l (za hit p1) aq.toArray) he ⟨hit,p1⟩ (by have:=j0.mp hu;simpa using this.1) d1 (by simp [d1,b62 he p1]) λx' h' tk jU rY ik ht sz kp=>?_
  have C9:u=x':=by simpa [hu] using jU
  subst C9
  refine ⟨_,rfl,wpAny_letOwnedTupleGo_enum (s:={ s with heap:=h',toks:=tk+1 }) rY λh9 XR sb=>?_⟩
  have fresh:H s.heap.objs.size=none:=I.bu.fresh (bw _)
  have bE:∀c∈[e,it],c<s.heap.objs.size:=λc hc=>by
   simp only [bq,gz,or_false] at hc
   rcases hc with rfl | rfl
   .exact bX he
   .exact hit.lt
  have up:∀c o,c∉[e,it]->s.heap.get? c=some o->h9.get? c=some o:=λc o hc x=>by
   simp only [bq,gz,or_false,not_or] at hc
   exact sb.extBut _ _ hc.1 (kp c o hc.1 hc.2 x)
  have ne:s.heap.objs.size≠e:=uG (bE e (by simp))
  have Gi:h9.get? s.heap.objs.size=some { cls:=.type "tuple",data:=.seq #[.int i tk,u] }:=sb.extBut _ _ ne ht
  have I1:Inv X pins σ (upd H s.heap.objs.size (.tup [.int i,x])) { s with heap:=s.heap.push { cls:=.type "tuple",data:=.seq #[.int i tk,u] },toks:=tk+1 }:=
   I.laid (λb o e=>bR _ e) (bw _) ⟨by simp [sizeLine],[.int i tk,u],.cons ⟨_,rfl⟩ (.cons ru .nil),⟨_,fD _ rfl,rfl,_,rfl⟩⟩
  have I2:Inv X pins σ (upd H s.heap.objs.size (.tup [.int i,x])) { s with heap:=h9,toks:=tk+1 }:=wY (s:={ s with heap:=s.heap.push { cls:=.type "tuple",data:=.seq #[.int i tk,u] },toks:=tk+1 }) (ch:=[e,it]) (t':=tk+1) I1 (λc hc=>by
    obtain ⟨f0,f1,f2,f3,f4,f5⟩:=hf c hc
    exact ⟨by rw [dk (dW (bE c hc))];exact f0,f1,f2,f3,f4,f5⟩) λc o hc y=>by
   by_cases hs:c<s.heap.objs.size
   .exact up c o hc (Rz hs y)
   .have uh:c=s.heap.objs.size:=by
     have:=bX y
     rw [nv] at this
     exact Ds (Nat.lt_succ_iff.mp this) (IF hs)
    subst uh
    have e2:(s.heap.push { cls:=.type "tuple",data:=.seq #[.int i tk,u] }).get? s.heap.objs.size=some _:=fD _ rfl
    rw [e2] at y;cases y
    exact Gi
  refine ⟨.ref s.heap.objs.size,_,I2,rfl,⟨_,x,rfl,fresh,rfl,λzs tZ=>by rw [J4 I tZ q1];exact hx⟩,⟨⟨_,XR⟩,fH.keep ik.1 λo y=>sb.extBut _ _ d1.symm y⟩,λc hc=>?_⟩
  rw [dk (dW (bE c hc))]
  exact (hf c hc).1
 done:=by
  intro X hP hw hK hc i pins s σ H E I hf ⟨⟨old,he⟩,hit⟩ hg
  subst hP hw hK
  obtain ⟨xs,q1,hl⟩:=hg
  obtain ⟨aq,r1,p1⟩:=pA I q1
  have e1:=r1.length
  refine b4z (I.ok.hd hc) he hit p1 (by simp;ext hl e1) λh' kp=>⟨rfl,wY (ch:=[e,it]) (t':=s.toks) I hf λc o hc y=>?_⟩
  simp only [bq,gz,or_false,not_or] at hc
  exact kp c o hc.2 y
 self:=λ_ _ _ _ _ st h=>by
  obtain ⟨⟨old,he⟩,_⟩:=st
  exact wpAny_pyIter_enum he h
section
variable {X:Cx}{elts:List Expr}{kk:Nat}{tp:Pos}
noncomputable def zf(K:aI)(ta:TA):TI:=λσ H R=>ta σ H λvs H1=>∃b l xs,vs=[.ref l]/\Sq K H1 b l xs/\R (MB K b l) H1
theorem b6m{a:Expr}{ta:TA}{p pos:Pos}(hg:Gl X "enumerate")(hm:X.mg "enumerate" = none)(ha:PA X [a] ta)(hs:starEach [a] X.env=[(false,eval a X.env)]:=by rfl)(hn:starEach [] X.env=[]:=by rfl):
  PI X (.Tuple elts kk tp) (.Call (.Name "enumerate" p) [a] [] pos) (zf X.K ta):=by
 intro pins s σ H R I h
 refine Call_ (sN I hg hm boot_enumerate (AY (bG (ha pos pins s σ H _ I h) λus s1 ⟨vs,H1,I1,r1,q1⟩=>?_) (by rw [hs,hn]) (by rw [hn];rfl)))
 obtain ⟨b,l,xs,e,q1,q⟩:=q1
 subst e
 cases r1 with
 | cons r rr =>
  cases rr
  cases r
  obtain ⟨aq,Uj,p1⟩:=pA I1 q1
  refine b2J p1 λh' z0 j1 sz kp=>?_
  refine wpAny_pyIter_enum (s:={ s1 with heap:=h' }) z0 ?_
  have ge:∀c∈[s1.heap.objs.size+1,s1.heap.objs.size],s1.heap.objs.size<=c:=λc hc=>by
   simp only [bq,gz,or_false] at hc
   rcases hc with rfl | rfl
   .exact sD _ _
   .exact bw _
  exact ⟨_,_,_,_,H1,rfl,I1.kept (t':=s1.toks) kp,b1v (Nat.succ_ne_self _),⟨⟨_,z0⟩,j1⟩,λc hc=>I1.jG (ge c hc) (I1.bu.fresh (ge c hc)),q⟩
noncomputable def qX(ds:List D):List D:=ds.zipIdx.map λp=>D.tup [.int p.2,p.1]
noncomputable def wF:List D->Option (List D)
 | [.lst _ ds]=>some (qX ds)
 | [.tup ds]=>some (qX ds)
 | _=>none
theorem Rw{K:aI}{O:Addr->Prop}{H:Hp}{b:Bool}{l:Addr}{xs:List V}{as:List D}(h1:Sq K H b l xs)(i1:aN K O H xs as)(n1:¬O l\/∀H',Sq K H' b l xs):
  wK K O (MB K b l) H (qX as):=λO' H2 kp hO i=>by
 have p1:Sq K H2 b l xs:=by
  rcases n1 with h3 | h3
  .exact Kk (λq u e n=>(kp q u e n).1) h1 h3
  .exact h3 H2
 have s1:aN K O' H2 xs as:=i1.map (λq hq hn=>by
  cases e:H q with
  | none=>exact (hq e).elim
  | some u=>exact (kp q u e hn).2) λq u e n=>(kp q u e n).1
 refine ⟨λd hd=>?_,λhl=>⟨xs,p1,?_⟩⟩
 .unfold qX at hd
  rw [qU,List.getElem?_zipIdx] at hd
  cases ea:as[i]? with
  | none=>simp [ea] at hd
  | some da =>
   simp only [ea,wq,su] at hd
   cases hd
   obtain ⟨x,hx,dx⟩:=s1.get ea
   refine ⟨⟨xs,x,p1,hx⟩,λv H3 hv=>?_⟩
   obtain ⟨p,x',rfl,hp,rfl,f1⟩:=hv
   have e1:=f1 xs p1
   rw [hx] at e1;cases e1
   have sm:au H2 (upd H2 p (.tup [.int i,x])):=λq u e=>by rw [dk (pF e hp)];exact e
   exact ⟨sm,.tup (λz=>hO p z hp) (.inl pH) (.cons (.int _) (.cons (dx.grow sm) .nil))⟩
 .have e1:=s1.length
  simp only [qX,aX,List.length_zipIdx] at hl
  ext e1 hl
theorem PQ{a:Expr}{fs:En->Option (List D)}{p pos:Pos}(ug:Gl X "enumerate")(hm:X.mg "enumerate" = none)(ha:AV X [a] fs)(h1:starEach [a] X.env=[(false,eval a X.env)]:=by rfl)
  (h2:starEach [] X.env=[]:=by rfl):IV X (.Tuple elts kk tp) (.Call (.Name "enumerate" p) [a] [] pos) (kr wF fs):=by
 obtain ⟨ti,pi,ki⟩:=ha
 refine ⟨_,b6m ug hm pi h1 h2,λO B σ H env ds R Rl e q=>?_⟩
 obtain ⟨as,e1,e2⟩:=bind_some e
 refine ki O B σ H env as _ Rl e1 λvs H1 s1 r1=>?_
 unfold wF at e2
 split at e2
 .rename_i ro da
  cases e2
  cases r1 with
  | cons ra rr =>
   cases rr
   obtain ⟨l1,xs,rfl,g1,i1,n1⟩:=ra.mZ (k:=true) (ds:=da) rfl
   exact ⟨true,l1,xs,rfl,g1,q _ H1 s1 (Rw g1 i1 n1)⟩
 .rename_i da
  cases e2
  cases r1 with
  | cons ra rr =>
   cases rr
   obtain ⟨l1,xs,rfl,g1,i1,n1⟩:=ra.mZ (k:=false) (ds:=da) rfl
   exact ⟨false,l1,xs,rfl,g1,q _ H1 s1 (Rw g1 i1 n1)⟩
 .cases e2
end
end DL
namespace SO
section pure
variable {α:Type}
def eE(κ:α->Int)(l:List α):Prop:=l.Pairwise λx y=>κ x<κ y
structure Inv(κ:α->Int)(la lb out:List α)(ia ib:Nat):Prop where
 perm:out.Perm (la.take ia++lb.take ib)
 fA:eE κ out
 lo:∀x∈out,(∀y∈la.drop ia,κ x<κ y)/\∀y∈lb.drop ib,κ x<κ y
variable {κ:α->Int}{la lb out:List α}{ia ib:Nat}
theorem Inv.sym(h:Inv κ la lb out ia ib):Inv κ lb la out ib ia:=⟨h.perm.trans AN,h.fA,λx hx=>⟨(h.lo x hx).2,(h.lo x hx).1⟩⟩
theorem w5(h:eE κ l)(i:Nat):eE κ (l.drop i):=h.sublist (List.drop_sublist ..)
theorem KQ(h:eE κ l)(i:Nat):eE κ (l.take i):=h.sublist (List.take_sublist ..)
theorem LB(h:eE κ l)(i:Nat):∀x∈l.take i,∀y∈l.drop i,κ x<κ y:=by
 have:eE κ (l.take i++l.drop i):=by rw [nF];exact h
 exact (gP.mp this).2.2
theorem Inv.a(h:Inv κ la lb out ia ib)(sa:eE κ la)(k:Nat)(hk:∀x∈(la.drop ia).take k,∀y∈lb.drop ib,κ x<κ y):Inv κ la lb (out++(la.drop ia).take k) (ia+k) ib:=by
 refine ⟨?_,gP.mpr ⟨h.fA,KQ (w5 sa ia) k,λx hx y hy=>(h.lo x hx).1 y (qP hy)⟩,λx hx=>?_⟩
 .rw [List.take_add,fP]
  refine (h.perm.append_right _).trans ?_
  rw [fP]
  exact AN.append_left _
 .rw [<-List.drop_drop]
  rcases bT.mp hx with hx | hx
  .exact ⟨λy hy=>(h.lo x hx).1 y (qO hy),(h.lo x hx).2⟩
  .exact ⟨λy hy=>LB (w5 sa ia) k x hx y hy,hk x hx⟩
theorem Inv.b(h:Inv κ la lb out ia ib)(sb:eE κ lb)(k:Nat)(hk:∀x∈(lb.drop ib).take k,∀y∈la.drop ia,κ x<κ y):Inv κ la lb (out++(lb.drop ib).take k) ia (ib+k):=(h.sym.a sb k hk).sym
theorem Inv.last(h:Inv κ la lb out ia ib)(sa:eE κ la)(sb:eE κ lb)(hm:∀x∈lb.drop ib,∀y∈la.drop ia,κ x<κ y):eE κ (out++lb.drop ib++la.drop ia)/\(out++lb.drop ib++la.drop ia).Perm (la++lb):=by
 refine ⟨gP.mpr ⟨gP.mpr ⟨h.fA,w5 sb ib,λx hx=>(h.lo x hx).2⟩,w5 sa ia,λx hx y hy=>?_⟩,?_⟩
 .rcases bT.mp hx with hx | hx
  .exact (h.lo x hx).1 y hy
  .exact hm x hx y hy
 .have e:la++lb=(la.take ia++la.drop ia)++(lb.take ib++lb.drop ib):=by rw [nF,nF]
  rw [e,fP]
  refine (h.perm.append_right _).trans ?_
  simp only [fP]
  refine Jq _ ?_
  refine AN.trans ?_
  simp only [fP]
  refine (AN).trans ?_
  simp only [fP]
  refine Jq _ ?_
  exact DB _
theorem Inv.done(h:Inv κ la lb out ia ib)(sa:eE κ la)(sb:eE κ lb)(hm:∀x∈la.drop ia,∀y∈lb.drop ib,κ x<κ y):eE κ (out++la.drop ia++lb.drop ib)/\(out++la.drop ia++lb.drop ib).Perm (la++lb):=
 have q:=h.sym.last sb sa hm
 ⟨q.1,q.2.trans AN⟩
theorem zd:Inv κ la lb [] 0 0:=⟨by simp,Jb,λx hx=>nomatch hx⟩
theorem b2l(sa:eE κ A)(sb:eE κ B)(h1:∀x∈A.take k,∀y∈B,κ x<κ y)(h2:∀x∈B.drop m,∀y∈A,κ y<κ x)(sm:eE κ M)(pm:M.Perm (A.drop k++B.take m)):
  eE κ (A.take k++M++B.drop m)/\(A.take k++M++B.drop m).Perm (A++B):=by
 constructor
 .refine gP.mpr ⟨gP.mpr ⟨KQ sa k,sm,λx hx y hy=>?_⟩,w5 sb m,λx hx y hy=>?_⟩
  .rcases bT.mp (pm.mem_iff.mp hy) with hy | hy
   .exact LB sa k x hx y hy
   .exact h1 x hx y (qP hy)
  .rcases bT.mp hx with hx | hx
   .exact h1 x hx y (qO hy)
   .rcases bT.mp (pm.mem_iff.mp hx) with hx | hx
    .exact h2 y hy x (qO hx)
    .exact LB sb m x hx y hy
 .have e:A++B=(A.take k++A.drop k)++(B.take m++B.drop m):=by rw [nF,nF]
  rw [e,fP]
  simp only [fP]
  refine Jq _ ?_
  rw [<-fP]
  exact pm.append_right _
theorem jF(m:List α):∀(xs:Array α) (o n:Nat) (k:Nat),o+n+m.length<=xs.size->((m.zipIdx n).foldl (λa p=>a.setIfInBounds (o+p.2) p.1) xs)[k]?=if o+n<=k/\k<o+n+m.length then m[k-(o+n)]? else xs[k]?:=by
 induction m with
 | nil=>intro xs o n k h;simp only [Iz,DC,AO];rw [if_neg (by ext)]
 | cons x m ih =>
  intro xs o n k h
  simp only [iy] at h
  rw [Dw,nC,ih _ o (n+1) k (by simp only [Array.size_setIfInBounds];ext h)]
  simp only [iy]
  by_cases c:o+(n+1)<=k/\k<o+(n+1)+m.length
  .rw [if_pos c,if_pos (by ext c),show k-(o+n)=(k-(o+(n+1)))+1 by ext c,List.getElem?_cons_succ]
  .rw [if_neg c,Array.getElem?_setIfInBounds]
   by_cases c2:o+n=k
   .subst c2
    rw [if_pos rfl,if_pos (by ext h),if_pos (by ext)]
    simp
   .rw [if_neg c2,if_neg (by ext c c2)]
theorem b0S{P A S m:List α}{xs:Array α}(e:xs.toList=P++A++S)(hl:m.length=A.length):(m.zipIdx.foldl (λa p=>a.setIfInBounds (P.length+p.2) p.1) xs).toList=P++m++S:=by
 have hs:xs.size=P.length+A.length+S.length:=by rw [<-gQ,e];simp;ext
 refine List.ext_getElem? λk=>?_
 rw [sx,jF m xs P.length 0 k (by ext hl hs),Nat.add_zero,<-sx,e]
 by_cases h1:k<P.length
 .rw [if_neg (by ext h1),fP,fP,uK h1,uK h1]
 .by_cases h2:k<P.length+m.length
  .rw [if_pos ⟨by ext h1,h2⟩,fP,qV (by ext h1),uK (by ext h1 h2)]
  .rw [if_neg (by ext h2),qV (by simp;ext hl h2),qV (by simp;ext h2)]
   simp [hl]
noncomputable def kZ:Nat->List (List α)->List (Nat×Nat×Nat)->Prop
 | _,[],[]=>True
 | o,R::Rs,p::ps=>p.1=o/\p.2.1=R.length/\kZ (o+R.length) Rs ps
 | _,_,_=>False
theorem kZ.len:∀{o:Nat} {Rs:List (List α)} {ps:List (Nat×Nat×Nat)},kZ o Rs ps->ps.length=Rs.length
 | _,[],[],_=>rfl
 | _,R::Rs,p::ps,h=>by simp [h.2.2.len]
theorem kZ.app:∀{o:Nat} {Rs Ss:List (List α)} {ps qs:List (Nat×Nat×Nat)},kZ o Rs ps->kZ (o+Rs.flatten.length) Ss qs->kZ o (Rs++Ss) (ps++qs)
 | o,[],Ss,[],qs,_,h=>by simpa using h
 | o,R::Rs,Ss,p::ps,qs,h,k=>⟨h.1,h.2.1,h.2.2.app (by rw [DV,cM,<-IP] at k;exact k)⟩
theorem kZ.split:∀{o:Nat} {Rs Ss:List (List α)} {ps:List (Nat×Nat×Nat)},kZ o (Rs++Ss) ps->kZ o Rs (ps.take Rs.length)/\kZ (o+Rs.flatten.length) Ss (ps.drop Rs.length)
 | o,[],Ss,ps,h=>⟨trivial,by simpa using h⟩
 | o,R::Rs,Ss,p::ps,h=>by
  obtain ⟨k1,k2⟩:=kZ.split (Rs:=Rs) h.2.2
  refine ⟨⟨h.1,h.2.1,k1⟩,?_⟩
  rw [DV,cM,<-IP]
  exact k2
end pure
open PySem PyProof.Rows
noncomputable def a9N:Bool → Keyed → Array Keyed → Nat → Nat → Nat → StateT SortSt Sem (Option Nat):=sortPriv% PySem.Builtin.gallop
noncomputable def b38:Array Keyed → Array Keyed → StateT SortSt Sem (Array Keyed):=sortPriv% PySem.Builtin.mergeLo
noncomputable def b39:Array Keyed → Array Keyed → StateT SortSt Sem (Array Keyed):=sortPriv% PySem.Builtin.mergeHi
noncomputable def setG':Nat → StateT SortSt Sem Unit:=sortPriv% PySem.Builtin.setMinGallop
section
variable {prog:Program}{w:World}{A:Around}{E:Value->Shared->Prop}{s:Shared}
theorem wN{σ α:Type}{M:Model}{m:StateT σ Sem α}{Q:α->σ->Prop}{st:σ}(h:wpS M A E s m Q st):wpAny M A (m st) (λr s'=>s'=s/\Q r.1 r.2) E s:=h
structure Ask(prog:Program)(w:World)(s:Shared)(kd:SortKind)(κ:Keyed->Int)(C:Keyed->Prop):Prop where
 lt:∀{x y:Keyed},C x->C y->κ x≠κ y->∀{A:Around} {E:Value->Shared->Prop} {Q:Bool->Shared->Prop},Q (decide (κ x<κ y)) s->wpAny (model prog w) A (keyLt' kd x.1 y.1) Q E s
variable {kd:SortKind}{κ:Keyed->Int}{C:Keyed->Prop}
theorem yT(hk:Ask prog w s kd κ C){st:SortSt}{Q:Option Bool->SortSt->Prop}(hd:kindOf st=kd)(hx:C x)(hy:C y)(aW:κ x≠κ y)(h:Q (some (decide (κ x<κ y))) st):wpS (model prog w) A E s (lt' x y) Q st:=by
 rw [lt'_eq]
 refine aQ (nr ?_)
 rw [hd]
 exact aQ (wpS_lift (AA (hk.lt hx hy aW ⟨rfl,a9 h⟩)))
theorem iB{Q:Keyed->SortSt->Prop}{st:SortSt}(hi:i<arr.size)(h:Q arr[i] st):wpS (model prog w) A E s (elem' arr i) Q st:=by
 rw [elem'_eq,getElem?_pos arr i hi]
 exact a9 h
noncomputable def kv(κ:Keyed->Int)(arr:Array Keyed)(i:Nat):Int:=match arr[i]? with
 | some p=>κ p
 | none=>0
theorem iK(h:i<arr.size):kv κ arr i=κ arr[i]:=by unfold kv;rw [getElem?_pos arr i h]
theorem A4(h:xs[i]?=ys[j]?):kv κ xs i=kv κ ys j:=by unfold kv;rw [h]
theorem bey(hk:Ask prog w s kd κ C){st:SortSt}(hd:kindOf st=kd){Q:Option Bool->SortSt->Prop}(hC:C key)(hj:j<arr.size)(hx:C arr[j])(aW:κ arr[j]≠κ key)(h:Q (some (decide (kv κ arr j<κ key))) st):
  wpS (model prog w) A E s (elem' arr j >>= λx=>if left=true then lt' x key else lt' key x >>= λr=>pure (Iv (λx=>!x) r)) Q st:=by
 refine aQ (iB hj ?_)
 rw [iK hj] at h
 cases left with
 | true =>
  rw [if_pos rfl]
  exact yT hk hd hx hC aW h
 | false =>
  rw [if_neg (by decide)]
  refine aQ (yT hk hd hC hx (gy aW) (a9 ?_))
  have e:(!decide (κ key<κ arr[j]))=decide (κ arr[j]<κ key):=by
   by_cases c:κ key<κ arr[j]
   .rw [decide_eq_true c,decide_eq_false (by ext hj c)];rfl
   .rw [decide_eq_false c,decide_eq_true (by ext hj aW c)];rfl
  rw [wq,e]
  exact h
theorem C8(hk:Ask prog w s kd κ C){st:SortSt}(hd:kindOf st=kd){Q:Option Nat->SortSt->Prop}(hC:C key)(hn:base+n<=arr.size)(hh:hint<n)
  (hA:∀j (h:j<arr.size),base<=j->j<base+n->C arr[j]/\κ arr[j]≠κ key)(hs:∀i j,i<j->j<n->kv κ arr (base+i)<kv κ arr (base+j))
  (h:∀k,k<=n->(∀i,i<k->kv κ arr (base+i)<κ key)->(∀i,k<=i->i<n->κ key<kv κ arr (base+i))->Q (some k) st):wpS (model prog w) A E s (a9N left key arr base n hint) Q st:=by
 have ask:∀i,i<n->∀{Q:Option Bool->SortSt->Prop},Q (some (decide (kv κ arr (base+i)<κ key))) st->wpS (model prog w) A E s (elem' arr (base+i) >>= λx=>if left=true then lt' x key else lt' key x >>= λr=>pure (Iv (λx=>!x) r)) Q st:=λi hi Q hQ =>
  have hj:base+i<arr.size:=by ext hn hi
  bey hk hd hC hj (hA _ hj (by ext) (by ext hi)).1 (hA _ hj (by ext) (by ext hi)).2 hQ
 have ne:∀i,i<n->kv κ arr (base+i)≠κ key:=λi hi=>by
  have hj:base+i<arr.size:=by ext hn hi
  rw [iK hj]
  exact (hA _ hj (by ext) (by ext hi)).2
 have dn:∀i j,i<=j->j<n->kv κ arr (base+j)<κ key->kv κ arr (base+i)<κ key:=λi j h1 h2 h3=>by
  by_cases c:i=j
  .subst c;exact h3
  .have:=hs i j (by ext h1 c) h2;ext h3 this
 have up:∀i j,i<=j->j<n->κ key<kv κ arr (base+i)->κ key<kv κ arr (base+j):=λi j h1 h2 h3=>by
  by_cases c:i=j
  .subst c;exact h3
  .have:=hs i j (by ext h1 c) h2;ext h3 this
 unfold wpS
 wp_delta
 wp_delta
 wp_delta
 refine wN (Q:=Q) (aQ (ask hint hh ?_))
 dsimp only
 have tail:∀lo hi:Nat,lo<=hi->hi<=n->(∀i,i<lo->kv κ arr (base+i)<κ key)->(∀i,hi<=i->i<n->κ key<kv κ arr (base+i)) ->
   wpS (model prog w) A E s (forIn [0:n] ((none,lo,hi):Option (Option Nat)×Nat×Nat) (λx q=>if q.2.1≥q.2.2 then pure (DA (none,q.2.1,q.2.2)) else
    (elem' arr (base+(q.2.1+(q.2.2-q.2.1)/2)) >>= λx=>if left=true then lt' x key else lt' key x >>= λr=>pure (Iv (λx=>!x) r)) >>= λr=>match r with
     | some more=>if more=true then pure (pU (none,q.2.1+(q.2.2-q.2.1)/2+1,q.2.2)) else pure (pU (none,q.2.1,q.2.1+(q.2.2-q.2.1)/2))
     | x=>pure (DA (some none,q.2.1,q.2.2)))) (λq ak=>ak=st/\∃k,q.1=none/\q.2.2=k/\k<=n/\(∀i,i<k->kv κ arr (base+i)<κ key)/\∀i,k<=i->i<n->κ key<kv κ arr (base+i)) st:=λlo hi h1 h2 h3 h4=>by
  refine kF (λx q ak=>ak=st/\∃l r,q=(none,l,r)/\l<=r/\r<=n/\r-l<=n-x/\(∀i,i<l->kv κ arr (base+i)<κ key)/\∀i,r<=i->i<n->κ key<kv κ arr (base+i)) (λx q ak _ hx hI=>?_) (λq ak hI=>?_) ⟨rfl,lo,hi,rfl,h1,h2,by ext h2,h3,h4⟩
  .obtain ⟨rfl,l,r,rfl,j1,j2,j3,j4,j5⟩:=hI
   dsimp only
   by_cases c:l≥r
   .rw [if_pos c]
    obtain rfl:l=r:=by ext j1 c
    exact a9 ⟨rfl,l,rfl,rfl,j2,j4,j5⟩
   .rw [if_neg c]
    refine aQ (ask _ (by lia) ?_)
    dsimp only
    by_cases c2:kv κ arr (base+(l+(r-l)/2))<κ key
    .rw [if_pos (decide_eq_true c2)]
     exact a9 ⟨rfl,_,_,rfl,by lia,‹_›,by ext j3,λi hi=>dn i _ (by ext hi) (by lia) c2,j5⟩
    .rw [if_neg (by simpa using c2)]
     have:=ne (l+(r-l)/2) (by lia)
     exact a9 ⟨rfl,_,_,rfl,by ext,by lia,by lia,j4,λi hi h'=>up _ i hi h' (by ext c2 this)⟩
  .obtain ⟨rfl,l,r,rfl,j1,j2,j3,j4,j5⟩:=hI
   obtain rfl:l=r:=by ext j1 j3
   exact ⟨rfl,l,rfl,rfl,j2,j4,j5⟩
 by_cases c:kv κ arr (base+hint)<κ key
 .rw [if_pos (decide_eq_true c)]
  refine aQ (kE (kF (λx q ak=>ak=st/\∃l o,q=(none,l,o)/\l<o/\x+1<=o/\hint+l<n/\kv κ arr (base+(hint+l))<κ key) (Q:=λq ak=>ak=st/\∃l o,q=(none,l,o)/\l<o/\hint+l<n/\kv κ arr (base+(hint+l))<κ key/\(o<n-hint->κ key<kv κ arr (base+(hint+o)))) (λx q ak _ hx hI=>?_) (λq ak hI=>?_) ⟨rfl,0,1,rfl,by decide,by decide,‹_›,c⟩) λq ak hI=>?_)
  .obtain ⟨rfl,l,o,rfl,j1,j2,j3,j4⟩:=hI
   dsimp only
   by_cases c1:o≥n-hint
   .rw [if_pos c1]
    exact a9 ⟨rfl,l,o,rfl,j1,j3,j4,λz=>absurd z (by ext c1)⟩
   .rw [if_neg c1]
    refine aQ (ask (hint+o) (by ext c1) ?_)
    dsimp only
    by_cases c2:kv κ arr (base+(hint+o))<κ key
    .rw [if_neg (by simpa using c2)]
     exact a9 ⟨rfl,o,2*o+1,rfl,by ext,by ext j2,by ext c1,c2⟩
    .rw [if_pos (by simpa using c2)]
     have:=ne (hint+o) (by ext c1)
     exact a9 ⟨rfl,l,o,rfl,j1,j3,j4,λ_=>by ext c2 this⟩
  .obtain ⟨rfl,l,o,rfl,j1,j2,j3,j4⟩:=hI
   exact ⟨rfl,l,o,rfl,j1,j3,j4,λz=>absurd z (by ext j2)⟩
  .obtain ⟨rfl,l,o,rfl,j1,j3,j4,j5⟩:=hI
   dsimp only
   refine aQ (kE (tail (hint+l+1) (hint+min o (n-hint)) (by ext j1 j3) (by ext hh) (λi hi=>dn i _ (by ext hi) j3 j4) λi hi h'=>?_) λq ak hI=>?_)
   .by_cases c1:o<n-hint
    .exact up (hint+o) i (by ext hi c1) h' (j5 c1)
    .ext hi h' c1
   .obtain ⟨rfl,k,e1,rfl,k1,k2,k3⟩:=hI
    rw [e1]
    exact a9 (h _ k1 k2 k3)
 .rw [if_neg (by simpa using c)]
  have c0:=ne hint hh
  refine aQ (kE (kF (λx q ak=>ak=st/\∃l o,q=(none,l,o)/\l<o/\x+1<=o/\l<=hint/\κ key<kv κ arr (base+(hint-l))) (Q:=λq ak=>ak=st/\∃l o,q=(none,l,o)/\l<o/\l<=hint/\κ key<kv κ arr (base+(hint-l))/\(o<hint+1->kv κ arr (base+(hint-o))<κ key)) (λx q ak _ hx hI=>?_) (λq ak hI=>?_) ⟨rfl,0,1,rfl,by decide,by decide,by ext,by rw [Nat.sub_zero];ext c c0⟩) λq ak hI=>?_)
  .obtain ⟨rfl,l,o,rfl,j1,j2,j3,j4⟩:=hI
   dsimp only
   by_cases c1:o≥hint+1
   .rw [if_pos c1]
    exact a9 ⟨rfl,l,o,rfl,j1,j3,j4,λz=>absurd z (by ext c1)⟩
   .rw [if_neg c1]
    refine aQ (ask (hint-o) (by ext hh) ?_)
    dsimp only
    by_cases c2:kv κ arr (base+(hint-o))<κ key
    .rw [if_pos (decide_eq_true c2)]
     exact a9 ⟨rfl,l,o,rfl,j1,j3,j4,λ_=>c2⟩
    .rw [if_neg (by simpa using c2)]
     have:=ne (hint-o) (by ext hh)
     exact a9 ⟨rfl,o,2*o+1,rfl,by ext,by ext j2,by ext c1,by ext c2 this⟩
  .obtain ⟨rfl,l,o,rfl,j1,j2,j3,j4⟩:=hI
   exact ⟨rfl,l,o,rfl,j1,j3,j4,λz=>absurd z (by ext hh j2)⟩
  .obtain ⟨rfl,l,o,rfl,j1,j3,j4,j5⟩:=hI
   dsimp only
   refine aQ (kE (tail (hint+1-min o (hint+1)) (hint-l) (by ext j1) (by ext hh) (λi hi=>?_) λi hi h'=>up _ i hi h' j4) λq ak hI=>?_)
   .by_cases c1:o<hint+1
    .exact dn i (hint-o) (by ext hi) (by ext hh) (j5 c1)
    .ext hi c1
   .obtain ⟨rfl,k,e1,rfl,k1,k2,k3⟩:=hI
    rw [e1]
    exact a9 (h _ k1 k2 k3)
end
section
variable {κ:Keyed->Int}
theorem Kf{a:Array Keyed}{i k:Nat}(h:x∈(a.toList.drop i).take k):∃j,∃hj:j<a.size,i<=j/\j<i+k/\x=a[j]:=by
 obtain ⟨n,hn,e⟩:=pW.mp h
 simp only [iA,kG,gQ] at hn
 refine ⟨i+n,by ext hn:1,by ext:1,by ext hn:1,?_⟩
 rw [<-e]
 simp
theorem Bq{a:Array Keyed}{i:Nat}(h:x∈a.toList.drop i):∃j,∃hj:j<a.size,i<=j/\x=a[j]:=by
 obtain ⟨n,hn,e⟩:=pW.mp h
 simp only [kG,gQ] at hn
 refine ⟨i+n,by ext hn:1,by ext:1,?_⟩
 rw [<-e]
 simp
theorem fY(h:eE κ a.toList)(h1:i<j)(h2:j<a.size):kv κ a i<kv κ a j:=by
 rw [iK (by ext h1 h2:1),iK h2]
 have:=AX.mp h i j (by simp;ext h1 h2:1) (by simpa using h2) h1
 simpa using this
theorem QB(a:Array Keyed)(i k:Nat):(a.extract i (i+k)).toList=(a.toList.drop i).take k:=by
 rw [DS,DN,Jt]
theorem E7(a:Array Keyed)(i:Nat):(a.extract i a.size).toList=a.toList.drop i:=by
 rw [DS,DN]
 exact uJ (by simp)
theorem KL{a:Array Keyed}{i:Nat}(h:i<a.size):(a.toList.drop i).take 1=[a[i]]:=by
 rw [nG (by simpa using h)]
 simp
end
noncomputable abbrev sg(st:SortSt)(g:Nat):SortSt:=Az (kindOf st) (arrOf st) (pendingOf st) g (failedOf st)
section
variable {prog:Program}{w:World}{A:Around}{E:Value->Shared->Prop}{s:Shared}{kd:SortKind}{κ:Keyed->Int}{C:Keyed->Prop}
theorem Ee{st:SortSt}{Q:Unit->SortSt->Prop}(h:Q () (sg st g)):wpS (model prog w) A E s (setG' g) Q st:=by
 show wpS _ _ _ _ (modify _) _ _
 exact pR h
theorem wG{st:SortSt}{Q:Unit->SortSt->Prop}(h:Q () st):wpS (model prog w) A E s (liftM (rule t):StateT SortSt Sem Unit) Q st:=wpS_lift (wb ⟨rfl,h⟩)
structure gr(κ:Keyed->Int)(C:Keyed->Prop)(a b:Array Keyed):Prop where
 sa:eE κ a.toList
 sb:eE κ b.toList
 ca:∀x∈a.toList,C x
 cb:∀x∈b.toList,C x
 ne:∀x∈a.toList,∀y∈b.toList,κ x≠κ y
variable {a b:Array Keyed}
theorem gr.CM(T:gr κ C a b)(h:i<a.size):C a[i]:=T.ca _ (by simp)
theorem gr.CL(T:gr κ C a b)(h:i<b.size):C b[i]:=T.cb _ (by simp)
theorem gr.vO(T:gr κ C a b)(hi:i<a.size)(hj:j<b.size):κ a[i]≠κ b[j]:=T.ne _ (by simp) _ (by simp)
theorem z7(hk:Ask prog w s kd κ C)(T:gr κ C a b){st:SortSt}(hd:kindOf st=kd){Q:Option Nat->SortSt->Prop}(hi:i<a.size)(hj:j<b.size)
  (h:∀k,i+k<=a.size->(∀x∈(a.toList.drop i).take k,∀y∈b.toList.drop j,κ x<κ y)->(∀y∈a.toList.drop (i+k),κ b[j]<κ y)->Q (some k) st):wpS (model prog w) A E s (a9N l b[j] a i (a.size-i) 0) Q st:=by
 refine C8 hk hd (T.CL hj) (by ext hi) (by ext hi) (λn hn _ _=>⟨T.CM hn,T.vO hn hj⟩) (λx y h1 h2=>fY T.sa (by ext h1) (by ext h2)) λk k1 k2 k3=>h k (by ext hi k1) (λx hx y hy=>?_) λy hy=>?_
 .obtain ⟨n,hn,n1,n2,rfl⟩:=Kf hx
  obtain ⟨m,hm,m1,rfl⟩:=Bq hy
  have e:=k2 (n-i) (by ext n1 n2)
  rw [show i+(n-i)=n by ext n1,iK hn] at e
  by_cases c:j=m
  .subst c;exact e
  .have:=fY T.sb (show j<m by ext m1 c) hm
   rw [iK hj,iK hm] at this
   ext hn hm hj e this
 .obtain ⟨n,hn,n1,rfl⟩:=Bq hy
  have e:=k3 (n-i) (by ext n1) (by ext hn n1)
  rw [show i+(n-i)=n by ext n1,iK hn] at e
  exact e
theorem gr.sym(T:gr κ C a b):gr κ C b a:=⟨T.sb,T.sa,T.cb,T.ca,λx hx y hy z=>T.ne y hy x hx z.symm⟩
theorem Inv.oK{out:Array Keyed}{ia ib:Nat}(h:Inv κ a.toList b.toList out.toList ia ib)(T:gr κ C a b)(hi:ia<a.size)(hk:∀y∈b.toList.drop ib,κ a[ia]<κ y):Inv κ a.toList b.toList (out.push a[ia]).toList (ia+1) ib:=by
 rw [wg,<-KL hi]
 refine h.a T.sa 1 λx hx y hy=>?_
 rw [KL hi,bP] at hx
 rw [hx]
 exact hk y hy
theorem Inv.oJ{out:Array Keyed}{ia ib:Nat}(h:Inv κ a.toList b.toList out.toList ia ib)(T:gr κ C a b)(hi:ib<b.size)(hk:∀y∈a.toList.drop ia,κ b[ib]<κ y):Inv κ a.toList b.toList (out.push b[ib]).toList ia (ib+1):=(h.sym.oK T.sym hi hk).sym
theorem Inv.yg(h:Inv κ a.toList b.toList out.toList ia ib)(T:gr κ C a b)(k:Nat)(hk:∀x∈(a.toList.drop ia).take k,∀y∈b.toList.drop ib,κ x<κ y):Inv κ a.toList b.toList (out++a.extract ia (ia+k)).toList (ia+k) ib:=by
 rw [px,QB]
 exact h.a T.sa k hk
theorem Inv.F1(h:Inv κ a.toList b.toList out.toList ia ib)(T:gr κ C a b)(k:Nat)(hk:∀x∈(b.toList.drop ib).take k,∀y∈a.toList.drop ia,κ x<κ y):Inv κ a.toList b.toList (out++b.extract ib (ib+k)).toList ia (ib+k):=(h.sym.yg T.sym k hk).sym
theorem EJ(T:gr κ C a b)(hi:i<a.size)(hj:j<b.size)(h:κ b[j]<κ a[i]):∀y∈a.toList.drop i,κ b[j]<κ y:=λy hy=>by
 obtain ⟨n,hn,n1,rfl⟩:=Bq hy
 by_cases c:i=n
 .subst c;exact h
 .have:=fY T.sa (show i<n by ext n1 c) hn
  rw [iK hi,iK hn] at this
  ext hj hn hi h this
def Mg(κ:Keyed->Int)(a b r:Array Keyed):Prop:=eE κ r.toList/\r.toList.Perm (a.toList++b.toList)
theorem Inv.h8(h:Inv κ a.toList b.toList out.toList ia ib)(T:gr κ C a b)(hm:ia=a.size\/ib=b.size):Mg κ a b (out++a.extract ia a.size++b.extract ib b.size):=by
 unfold Mg
 rw [px,px,E7,E7]
 refine h.done T.sa T.sb λx hx y hy=>?_
 obtain ⟨n,hn,n1,rfl⟩:=Bq hx
 obtain ⟨m,hm,m1,rfl⟩:=Bq hy
 lia
theorem Inv.jx(h:Inv κ a.toList b.toList out.toList ia ib)(T:gr κ C a b)(hm:∀x∈b.toList,∀y∈a.toList.drop (a.size-1),κ x<κ y)(hi:ia+1=a.size):Mg κ a b (out++b.extract ib b.size++a.extract ia a.size):=by
 unfold Mg
 rw [px,px,E7,E7]
 exact h.last T.sa T.sb λx hx y hy=>hm x (qO hx) y (by rw [<-hi];exact hy)
theorem Et{n:Nat}(h:2<=n)(h':¬n-1=1):2<=n-1:=by ext h h'
theorem b8d(h:¬m=1)(h':¬m=0):2<=m:=by ext h h'
theorem y9{β γ:Type}{M:Model}{c:γ->Prop}[∀v,Decidable (c v)]{x y:γ->StateT SortSt Sem β}{Q:β->SortSt->Prop}{st:SortSt}(u:γ->γ)(hx:∀v,x v=y (u v))(h:∀u,wpS M A E s (y u) Q st):∀v,wpS M A E s (if c v then x v else y v) Q st:=λv=>by
 rw [hx]
 split<;>exact h _
theorem D3{β γ δ:Type}{M:Model}{c:Prop}[Decidable c]{R:γ->δ->Prop}{x y:γ->δ->StateT SortSt Sem β}{Q:β->SortSt->Prop}{st:SortSt}(P:γ->δ->Prop)(hF:∀u v,P u v->wpS M A E s (y u v) Q st)
  (h1:∀u v,R u v->(∀u v,P u v->wpS M A E s (y u v) Q st)->c->wpS M A E s (x u v) Q st)(h2:∀u v,R u v->¬c->P u v):∀u v,R u v->wpS M A E s (if c then x u v else y u v) Q st:=λu v hR=>by
 by_cases hc:c
 .rw [if_pos hc];exact h1 u v hR hF hc
 .rw [if_neg hc];exact hF u v (h2 u v hR hc)
structure J(κ:Keyed->Int)(a b out:Array Keyed)(ia ib:Nat):Prop where
 inv:Inv κ a.toList b.toList out.toList ia ib
 la:ia+1<a.size
 lb:ib<b.size
theorem Wq(hk:Ask prog w s kd κ C)(T:gr κ C a b){st:SortSt}(hd:kindOf st=kd){Q:Array Keyed->SortSt->Prop}(ha:0<a.size)(hb:0<b.size)(h0:κ b[0]<κ a[0])(hm:∀x∈b.toList,∀y∈a.toList.drop (a.size-1),κ x<κ y)
  (h:∀r g,Mg κ a b r->Q r (sg st g)):wpS (model prog w) A E s (b38 a b) Q st:=by
 unfold wpS
 wp_delta
 wp_delta
 wp_delta
 refine wN (Q:=Q) (aQ (wG (aQ (iB hb ?_))))
 dsimp only
 have i0:Inv κ a.toList b.toList (#[b[0]]:Array Keyed).toList 0 1:=(zd (κ:=κ) (la:=a.toList) (lb:=b.toList)).oJ (out:=#[]) T hb (EJ T ha hb h0)
 by_cases c1:1=b.size
 .rw [if_pos (by simpa using c1)]
  exact a9 (h _ (gallopOf st) (i0.h8 T (.inr c1)))
 rw [if_neg (by simpa using c1)]
 by_cases c2:0+1=a.size
 .rw [if_pos (by simpa using c2)]
  exact a9 (h _ (gallopOf st) (i0.jx T hm c2))
 rw [if_neg (by simpa using c2)]
 refine aQ (nr ?_)
 refine aQ (kE (kF (λx q ak=>(∃g,ak=sg st g)/\∃out ia ib mg,q=(none,out,ia,ib,mg)/\J κ a b out ia ib/\x+1<=ia+ib) (Q:=λq ak=>(∃g,ak=sg st g)/\∃r,q.1=some r/\Mg κ a b r) (λx q ak _ hx hI=>?_) (λq ak hI=>?_) ⟨⟨gallopOf st,rfl⟩,_,_,_,_,rfl,⟨i0,by ext ha c2,by ext hb c1⟩,by decide⟩) λq ak hI=>?_)
 .obtain ⟨⟨g,rfl⟩,out,ia,ib,mg,rfl,hJ,hp⟩:=hI
  dsimp only
  refine aQ (kE (kF (λx q ak=>(∃g,ak=sg st g)/\∃f' jk me ac bc,q=(none,f',jk,me,ac,bc)/\J κ a b f' jk me/\ia+ib+x<=jk+me) (Q:=λq ak=>(∃g,ak=sg st g)/\((∃r,q.1=some r/\Mg κ a b r)\/∃f' jk me ac bc,q=(none,f',jk,me,ac,bc)/\J κ a b f' jk me/\ia+ib+1<=jk+me)) (λx q ak _ hx hI=>?_) (λq ak hI=>?_) ⟨⟨_,rfl⟩,_,_,_,_,_,rfl,hJ,by ext⟩) λq ak hI=>?_)
  .obtain ⟨⟨g,rfl⟩,out,ia,ib,ac,bc,rfl,hJ,hp⟩:=hI
   dsimp only
   refine aQ (iB hJ.lb (aQ (iB (uL hJ.la) (aQ (yT hk hd (T.CL hJ.lb) (T.CM _) (gy (T.vO _ hJ.lb)) ?_)))))
   dsimp only
   have la:=hJ.la
   have lb:=hJ.lb
   by_cases c:κ b[ib]<κ a[ia]
   .rw [if_pos (decide_eq_true c)]
    refine aQ (iB hJ.lb ?_)
    have i2:=hJ.inv.oJ T hJ.lb (EJ T (by ext la) lb c)
    by_cases d1:ib+1=b.size
    .rw [if_pos (by simpa using d1)]
     exact a9 ⟨⟨_,rfl⟩,.inl ⟨_,rfl,i2.h8 T (.inr d1)⟩⟩
    rw [if_neg (by simpa using d1)]
    by_cases d2:bc+1≥mg
    .rw [if_pos d2]
     exact a9 ⟨⟨_,rfl⟩,.inr ⟨_,_,_,_,_,rfl,⟨i2,la,by ext lb d1⟩,by ext hp⟩⟩
    .rw [if_neg d2]
     exact a9 ⟨⟨_,rfl⟩,_,_,_,_,_,rfl,⟨i2,la,by ext lb d1⟩,by ext hp⟩
   .rw [if_neg (by simpa using c)]
    refine aQ (iB (uL hJ.la) ?_)
    have aW:=T.vO (uL hJ.la) hJ.lb
    have i2:=hJ.inv.oK T (uL hJ.la) (EJ T.sym lb (by ext la) (by ext la lb ha hb c aW))
    by_cases d1:ia+1+1=a.size
    .rw [if_pos (by simpa using d1)]
     exact a9 ⟨⟨_,rfl⟩,.inl ⟨_,rfl,i2.jx T hm d1⟩⟩
    rw [if_neg (by simpa using d1)]
    by_cases d2:ac+1≥mg
    .rw [if_pos d2]
     exact a9 ⟨⟨_,rfl⟩,.inr ⟨_,_,_,_,_,rfl,⟨i2,by ext la d1,lb⟩,by ext hp⟩⟩
    .rw [if_neg d2]
     exact a9 ⟨⟨_,rfl⟩,_,_,_,_,_,rfl,⟨i2,by ext la d1,lb⟩,by ext hp⟩
  .obtain ⟨hg,out,ia,ib,ac,bc,rfl,hJ,hp⟩:=hI
   exact ⟨hg,.inr ⟨_,_,_,_,_,rfl,hJ,by ext hb hp⟩⟩
  .obtain ⟨⟨g,rfl⟩,⟨r,e,hr⟩ | ⟨f',jk,me,ac,bc,rfl,HG,zt⟩⟩:=hI
   .obtain ⟨q1,q2⟩:=q
    dsimp only at e
    rw [e]
    exact a9 ⟨⟨_,rfl⟩,_,rfl,hr⟩
   dsimp only
   refine aQ (wG ?_)
   refine aQ (kE (kF (λx q ak=>(∃g,ak=sg st g)/\∃out ja jb mg ac bc,q=(none,out,ja,jb,mg,ac,bc)/\J κ a b out ja jb/\jk+me<=ja+jb) (Q:=λq ak=>(∃g,ak=sg st g)/\((∃r,q.1=some r/\Mg κ a b r)\/∃out ja jb mg ac bc,q=(none,out,ja,jb,mg,ac,bc)/\J κ a b out ja jb/\jk+me<=ja+jb)) (λx q ak _ hx hI=>?_) (λq ak hI=>?_) ⟨⟨_,rfl⟩,_,_,_,_,_,_,rfl,HG,by ext⟩) λq ak hI=>?_)
   .obtain ⟨⟨g,rfl⟩,out,ja,jb,mg,ac,bc,rfl,hJ,hp⟩:=hI
    dsimp only
    have la:=hJ.la
    have lb:=hJ.lb
    revert mg
    refine y9 (λmg=>mg-1) (λ_=>rfl) λmg=>?_
    refine aQ (Ee (aQ (iB lb (aQ ?_))))
    refine z7 hk T ?_ (uL la) lb λk k1 k2 k3=>?_
    .exact hd
    dsimp only
    have hR:Inv κ a.toList b.toList out.toList ja jb/\(k=0->∀y∈a.toList.drop ja,κ b[jb]<κ y)/\(k=0->ja+1<a.size)/\jk+me<=ja+jb/\ja+k<=a.size/\(∀x∈(a.toList.drop ja).take k,∀y∈b.toList.drop jb,κ x<κ y)/\∀y∈a.toList.drop (ja+k),κ b[jb]<κ y:=⟨hJ.inv,λz=>by rw [z] at k3;exact k3,λ_=>la,hp,k1,k2,k3⟩
    clear hJ la hp k1 k2 k3
    revert out ja
    refine D3 (λo j=>Inv κ a.toList b.toList o.toList j jb/\j+1<a.size/\(∀y∈a.toList.drop j,κ b[jb]<κ y)/\jk+me<=j+jb) ?_ (λout ja hR hF d0=>?_) λout ja hR d0=>⟨hR.1,hR.2.2.1 (uI d0),hR.2.1 (uI d0),hR.2.2.2.1⟩
    .rintro o j ⟨i1,hj,k3,hp⟩
     have CW:=uL hj
     refine aQ (iB lb ?_)
     have i2:=i1.oJ T lb k3
     by_cases d3:jb+1=b.size
     .rw [if_pos (by simpa using d3)]
      exact a9 ⟨⟨_,rfl⟩,.inl ⟨_,rfl,i2.h8 T (.inr d3)⟩⟩
     rw [if_neg (by simpa using d3)]
     have l2:jb+1<b.size:=AM lb d3
     refine aQ (iB CW (aQ ?_))
     refine z7 hk T.sym ?_ l2 CW λm m1 m2 m3=>?_
     .exact hd
     dsimp only
     have hR:Inv κ a.toList b.toList (o.push b[jb]).toList j (jb+1)/\(m=0->∀y∈b.toList.drop (jb+1),κ a[j]<κ y)/\jb+1<b.size/\jk+me<=j+(jb+1)/\jb+1+m<=b.size/\(∀x∈(b.toList.drop (jb+1)).take m,∀y∈a.toList.drop j,κ x<κ y)/\∀y∈b.toList.drop (jb+1+m),κ a[j]<κ y:=⟨i2,λz=>by rw [z] at m3;exact m3,l2,Nat.le_succ_of_le hp,m1,m2,m3⟩
     clear i2 l2 m1 m2 m3
     generalize o.push b[jb]=o2 at hR ⊢
     generalize jb+1=j2 at hR ⊢
     revert o2 j2
     refine D3 (λp q=>Inv κ a.toList b.toList p.toList j q/\q<b.size/\(∀y∈b.toList.drop q,κ a[j]<κ y)/\jk+me<=j+q) ?_ (λo2 j2 hR hF d4=>?_) λout ja hR d0=>⟨hR.1,hR.2.2.1,hR.2.1 (uI d0),hR.2.2.2.1⟩
     .rintro p q ⟨i3,hq,m3,hp⟩
      refine aQ (iB CW ?_)
      have i4:=i3.oK T CW m3
      by_cases d6:j+1+1=a.size
      .rw [if_pos (by simpa using d6)]
       exact a9 ⟨⟨_,rfl⟩,.inl ⟨_,rfl,i4.jx T hm d6⟩⟩
      rw [if_neg (by simpa using d6)]
      have hJ:J κ a b (p.push a[j]) (j+1) q:=⟨i4,AM hj d6,hq⟩
      have vU:jk+me<=j+1+q:=fq hp (I0 (AK j) q)
      by_cases d7:(decide (k<7)&&decide (m<7))=true
      .rw [if_pos d7]
       exact a9 ⟨⟨_,rfl⟩,.inr ⟨_,_,_,_,_,_,rfl,hJ,vU⟩⟩
      .rw [if_neg d7]
       exact a9 ⟨⟨_,rfl⟩,_,_,_,_,_,_,rfl,hJ,vU⟩
     .obtain ⟨i2,_,l2,hp,m1,m2,m3⟩:=hR
      have i3:=i2.F1 T m m2
      by_cases d5:j2+m=b.size
      .rw [if_pos (by simpa using d5)]
       exact a9 ⟨⟨_,rfl⟩,.inl ⟨_,rfl,i3.h8 T (.inr d5)⟩⟩
      rw [if_neg (by simpa using d5)]
      exact hF _ _ ⟨i3,AM m1 d5,m3,fq hp (Nat.add_le_add_left (sD j2 m) j)⟩
    .obtain ⟨i0,_,la,hp,k1,k2,k3⟩:=hR
     have i1:=i0.yg T k k2
     by_cases d1:ja+k+1=a.size
     .rw [if_pos (by simpa using d1)]
      exact a9 ⟨⟨_,rfl⟩,.inl ⟨_,rfl,i1.jx T hm d1⟩⟩
     rw [if_neg (by simpa using d1)]
     by_cases d2:ja+k=a.size
     .rw [if_pos (by simpa using d2)]
      exact a9 ⟨⟨_,rfl⟩,.inl ⟨_,rfl,i1.h8 T (.inl d2)⟩⟩
     rw [if_neg (by simpa using d2)]
     exact hF _ _ ⟨i1,AM (AM k1 d2) d1,k3,fq hp (I0 (sD ja k) jb)⟩
   .obtain ⟨hg,out,ja,jb,mg,ac,bc,rfl,hJ,hp⟩:=hI
    exact ⟨hg,.inr ⟨_,_,_,_,_,_,rfl,hJ,‹_›⟩⟩
   .obtain ⟨⟨g,rfl⟩,⟨r,e,hr⟩ | ⟨out,ja,jb,mg,ac,bc,rfl,hJ,hp⟩⟩:=hI
    .obtain ⟨q1,q2⟩:=q
     dsimp only at e
     rw [e]
     exact a9 ⟨⟨_,rfl⟩,_,rfl,hr⟩
    .dsimp only
     exact aQ (Ee (a9 ⟨⟨_,rfl⟩,_,_,_,_,rfl,hJ,by lia⟩))
 .obtain ⟨_,out,ia,ib,mg,rfl,hJ,hp⟩:=hI
  have la:=hJ.la
  have lb:=hJ.lb
  ext _ hb hp la lb
 .obtain ⟨⟨g,rfl⟩,r,e,hr⟩:=hI
  rw [e]
  exact a9 (h _ _ hr)
end
section
variable {prog:Program}{w:World}{A:Around}{E:Value->Shared->Prop}{s:Shared}{kd:SortKind}{κ:Keyed->Int}{C:Keyed->Prop}{a b:Array Keyed}
noncomputable def ng(κ:Keyed->Int)(x:Keyed):Int:=-κ x
theorem dG:eE (ng κ) l.reverse↔eE κ l:=by
 unfold eE
 rw [List.pairwise_reverse]
 constructor<;>exact λh=>h.imp λz=>by unfold ng at *;ext z
theorem p6(l:List Keyed)(h:n<=l.length):l.reverse.drop (l.length-n)=(l.take n).reverse:=by
 rw [List.reverse_take]
theorem ON(l:List Keyed)(h:n<=l.length)(hk:k<=n):(l.reverse.drop (l.length-n)).take (n-k)=((l.take n).drop k).reverse:=by
 rw [p6 l h,List.reverse_drop,iA,Iy h]
theorem E6(a:Array Keyed)(n:Nat):(a.extract 0 n).toList=a.toList.take n:=by
 rw [DS,DN]
 rfl
theorem K1(a:Array Keyed)(i n:Nat):(a.extract i n).toList=(a.toList.take n).drop i:=by
 rw [DS,DN,IH]
structure H(κ:Keyed->Int)(a b out:Array Keyed)(na nb:Nat):Prop where
 inv:Inv (ng κ) a.toList.reverse b.toList.reverse out.toList (a.toList.length-na) (b.toList.length-nb)
 la:na<=a.toList.length
 lb:nb<=b.toList.length
variable {out:Array Keyed}{na nb:Nat}
theorem H.sym(h:H κ a b out na nb):H κ b a out nb na:=⟨h.inv.sym,h.lb,h.la⟩
theorem H.seg(h:H κ a b out na nb)(T:gr κ C a b)(hk:k<=na)(hx:∀x∈(a.toList.take na).drop k,∀y∈b.toList.take nb,κ y<κ x):H κ a b (out++(a.extract k na).reverse) k nb:=by
 have la:=h.la
 refine ⟨?_,by ext hk la,h.lb⟩
 have i:=h.inv.a (dG.mpr T.sa) (na-k) λx jU y hy=>?_
 .rw [ON _ h.la hk,show a.toList.length-na+(na-k)=a.toList.length-k by ext hk la] at i
  rw [px,DR,K1]
  exact i
 .rw [ON _ h.la hk] at jU
  rw [p6 _ h.lb] at hy
  have:=hx x (wc.mp jU) y (wc.mp hy)
  unfold ng
  ext this
theorem H.push(h:H κ a b out na nb)(T:gr κ C a b)(h0:0<na)(hn:na-1<a.size)(hx:∀y∈b.toList.take nb,κ y<κ a[na-1]):H κ a b (out.push a[na-1]) (na-1) nb:=by
 have la:=h.la
 rw [gQ] at la
 have e:(a.toList.take na).drop (na-1)=[a[na-1]]:=by
  rw [IH,show na-(na-1)=1 by ext h0,KL hn]
 have:=h.seg T (k:=na-1) (by ext) λx jU y hy=>by
  rw [e,bP] at jU
  rw [jU]
  exact hx y hy
 have e2:out++(a.extract (na-1) na).reverse=out.push a[na-1]:=by
  apply Array.toList_inj.mp
  rw [px,DR,K1,e,wg]
  rfl
 rw [e2] at this
 exact this
theorem H.yQ(h:H κ a b out na nb)(T:gr κ C a b)(hm:na=0\/nb=0):Mg κ a b (a.extract 0 na++b.extract 0 nb++out.reverse):=by
 have q:=h.inv.last (dG.mpr T.sa) (dG.mpr T.sb) λx hx y hy=>by
  rw [p6 _ h.lb,wc] at hx
  rw [p6 _ h.la,wc] at hy
  rcases hm with rfl | rfl
  .rw [List.take_zero] at hy;cases hy
  .rw [List.take_zero] at hx;cases hx
 have e:(a.extract 0 na++b.extract 0 nb++out.reverse).toList=(out.toList++b.toList.reverse.drop (b.toList.length-nb)++a.toList.reverse.drop (a.toList.length-na)).reverse:=by
  rw [p6 _ h.lb,p6 _ h.la,px,px,DR,E6,E6]
  simp
 unfold Mg
 rw [e]
 refine ⟨?_,?_⟩
 .have:=q.1
  rw [<-Oa (as:=out.toList++_++_)] at this
  exact dG.mp this
 .refine (we _).trans (q.2.trans ?_)
  exact (we _).append (we _)
theorem H.CI(h:H κ a b out na nb)(T:gr κ C a b)(hm:∀x∈b.toList.take nb,∀y∈a.toList,κ x<κ y):Mg κ a b (b.extract 0 nb++a.extract 0 na++out.reverse):=by
 have q:=h.inv.done (dG.mpr T.sa) (dG.mpr T.sb) λx hx y hy=>by
  rw [p6 _ h.la,wc] at hx
  rw [p6 _ h.lb,wc] at hy
  have:=hm y hy x (qP hx)
  unfold ng
  ext this
 have e:(b.extract 0 nb++a.extract 0 na++out.reverse).toList=(out.toList++a.toList.reverse.drop (a.toList.length-na)++b.toList.reverse.drop (b.toList.length-nb)).reverse:=by
  rw [p6 _ h.lb,p6 _ h.la,px,px,DR,E6,E6]
  simp
 unfold Mg
 rw [e]
 refine ⟨?_,?_⟩
 .have:=q.1
  rw [<-Oa (as:=out.toList++_++_)] at this
  exact dG.mp this
 .refine (we _).trans (q.2.trans ?_)
  exact (we _).append (we _)
theorem JS(h:x∈a.toList.take n):∃j,∃hj:j<a.size,j<n/\x=a[j]:=by
 obtain ⟨j,hj,_,j2,e⟩:=Kf (i:=0) (k:=n) (by rw [Dz];exact h)
 exact ⟨j,hj,by ext j2,e⟩
theorem JE(T:gr κ C a b)(hi:i<a.size)(hj:j<b.size)(h:κ b[j]<κ a[i]):∀y∈b.toList.take (j+1),κ y<κ a[i]:=λy hy=>by
 obtain ⟨m,hm,m1,rfl⟩:=JS hy
 by_cases c:m=j
 .subst c;exact h
 .have:=fY T.sb (show m<j by ext m1 c) hj
  rw [iK hm,iK hj] at this
  ext hm hi hj h this
theorem z6(hk:Ask prog w s kd κ C)(T:gr κ C a b){st:SortSt}(hd:kindOf st=kd){Q:Option Nat->SortSt->Prop}(hn:n<=a.size)(h0:0<n)(hj:j<b.size)
  (h:∀k,k<=n->(∀x∈(a.toList.take n).drop k,∀y∈b.toList.take (j+1),κ y<κ x)->(∀y∈a.toList.take k,κ y<κ b[j])->Q (some k) st):wpS (model prog w) A E s (a9N l b[j] a 0 n (n-1)) Q st:=by
 refine C8 hk hd (T.CL hj) (by ext hn) (by ext h0) (λn hn _ _=>⟨T.CM hn,T.vO hn hj⟩) (λx y h1 h2=>fY T.sa (by ext h1) (by ext hn h2)) λk k1 k2 k3=>h k ‹_› (λx hx=>?_) λy hy=>?_
 .rw [IH] at hx
  obtain ⟨m,hm,m1,m2,rfl⟩:=Kf hx
  have e:=k3 m ‹_› (by ext k1 m2)
  rw [su,iK hm] at e
  exact JE T hm hj e
 .obtain ⟨m,hm,m1,rfl⟩:=JS hy
  have e:=k2 m ‹_›
  rw [su,iK hm] at e
  exact e
theorem Wr(hk:Ask prog w s kd κ C)(T:gr κ C a b){st:SortSt}(hd:kindOf st=kd){Q:Array Keyed->SortSt->Prop}(ha:0<a.size)(hb:0<b.size)(h0:κ b[0]<κ a[0])(hm:∀x∈b.toList,κ x<κ a[a.size-1])
  (h:∀r g,Mg κ a b r->Q r (sg st g)):wpS (model prog w) A E s (b39 a b) Q st:=by
 unfold wpS
 wp_delta
 wp_delta
 wp_delta
 refine wN (Q:=Q) (aQ (wG (aQ (iB (show a.size-1<a.size by ext ha) ?_))))
 dsimp only
 have hz:H κ a b #[] a.size b.size:=⟨by rw [gQ,gQ,AF,AF];exact zd,by simp,by simp⟩
 have i0:H κ a b #[a[a.size-1]] (a.size-1) b.size:=hz.push T ha (by ext ha) λy hy=>hm y (qP hy)
 have hf:∀x∈b.toList.take 1,∀y∈a.toList,κ x<κ y:=λx hx y hy=>by
  obtain ⟨m,hm,m1,rfl⟩:=JS hx
  obtain rfl:m=0:=by ext m1
  exact EJ T ha hb h0 y (by rw [Dz];exact hy)
 by_cases c1:a.size-1=0
 .rw [if_pos (by simpa using c1)]
  exact a9 (h _ (gallopOf st) (i0.yQ T (.inl c1)))
 rw [if_neg (by simpa using c1)]
 by_cases c2:b.size=1
 .rw [if_pos (by simpa using c2)]
  exact a9 (h _ (gallopOf st) (i0.CI T (by rw [c2];exact hf)))
 rw [if_neg (by simpa using c2)]
 refine aQ (nr ?_)
 refine aQ (kE (kF (λx q ak=>(∃g,ak=sg st g)/\∃na nb out mg,q=(none,na,nb,out,mg)/\H κ a b out na nb/\1<=na/\2<=nb/\na+nb+x+1<=a.size+b.size) (Q:=λq ak=>(∃g,ak=sg st g)/\∃r,q.1=some r/\Mg κ a b r) (λx q ak _ hx hI=>?_) (λq ak hI=>?_) ⟨⟨gallopOf st,rfl⟩,_,_,_,_,rfl,i0,by ext ha c1,by ext hb c2,by ext ha⟩) λq ak hI=>?_)
 .obtain ⟨⟨g,rfl⟩,na,nb,out,mg,rfl,hJ,ga,gb,hp⟩:=hI
  dsimp only
  refine aQ (kE (kF (λx q ak=>(∃g,ak=sg st g)/\∃mK mJ f' ac bc,q=(none,mK,mJ,f',ac,bc)/\H κ a b f' mK mJ/\1<=mK/\2<=mJ/\mK+mJ+x<=na+nb) (Q:=λq ak=>(∃g,ak=sg st g)/\((∃r,q.1=some r/\Mg κ a b r)\/∃mK mJ f' ac bc,q=(none,mK,mJ,f',ac,bc)/\H κ a b f' mK mJ/\1<=mK/\2<=mJ/\mK+mJ+1<=na+nb)) (λx q ak _ hx hI=>?_) (λq ak hI=>?_) ⟨⟨_,rfl⟩,_,_,_,_,_,rfl,hJ,ga,gb,by ext⟩) λq ak hI=>?_)
  .obtain ⟨⟨g,rfl⟩,na,nb,out,ac,bc,rfl,hJ,ga,gb,hp⟩:=hI
   dsimp only
   have la:=hJ.la
   have lb:=hJ.lb
   rw [gQ] at la lb
   have xa:na-1<a.size:=by ext ga la
   have xb:nb-1<b.size:=by ext gb lb
   refine aQ (iB xb (aQ (iB xa (aQ (yT hk hd (T.CL xb) (T.CM xa) (gy (T.vO xa xb)) ?_)))))
   dsimp only
   by_cases c:κ b[nb-1]<κ a[na-1]
   .rw [if_pos (decide_eq_true c)]
    refine aQ (iB xa ?_)
    have i2:=hJ.push T ‹_› xa (by have:=JE T xa xb c;rw [show nb-1+1=nb by ext gb] at this;exact this)
    by_cases d1:na-1=0
    .rw [if_pos (by simpa using d1)]
     exact a9 ⟨⟨_,rfl⟩,.inl ⟨_,rfl,i2.yQ T (.inl d1)⟩⟩
    rw [if_neg (by simpa using d1)]
    by_cases d2:ac+1≥mg
    .rw [if_pos d2]
     exact a9 ⟨⟨_,rfl⟩,.inr ⟨_,_,_,_,_,rfl,i2,by ext d1,‹_›,by ext hp d1⟩⟩
    .rw [if_neg d2]
     exact a9 ⟨⟨_,rfl⟩,_,_,_,_,_,rfl,i2,by ext d1,‹_›,by ext hp d1⟩
   .rw [if_neg (by simpa using c)]
    refine aQ (iB xb ?_)
    have aW:=T.vO xa xb
    have i2:=(hJ.sym.push T.sym (by ext gb) xb (by have:=JE T.sym xb xa (by ext xa xb c aW);rw [show na-1+1=na by ext ga] at this;exact this)).sym
    by_cases d1:nb-1=1
    .rw [if_pos (by simpa using d1)]
     exact a9 ⟨⟨_,rfl⟩,.inl ⟨_,rfl,i2.CI T (by rw [d1];exact hf)⟩⟩
    rw [if_neg (by simpa using d1)]
    by_cases d2:bc+1≥mg
    .rw [if_pos d2]
     exact a9 ⟨⟨_,rfl⟩,.inr ⟨_,_,_,_,_,rfl,i2,‹_›,by ext gb d1,by ext gb hp⟩⟩
    .rw [if_neg d2]
     exact a9 ⟨⟨_,rfl⟩,_,_,_,_,_,rfl,i2,‹_›,by ext gb d1,by ext gb hp⟩
  .obtain ⟨hg,na,nb,out,ac,bc,rfl,hJ,ga,gb,hp⟩:=hI
   exact ⟨hg,.inr ⟨_,_,_,_,_,rfl,hJ,ga,gb,by ext ha hb hp⟩⟩
  .obtain ⟨⟨g,rfl⟩,⟨r,e,hr⟩ | ⟨mK,mJ,f',ac,bc,rfl,HG,Yh,Yg,zt⟩⟩:=hI
   .obtain ⟨q1,q2⟩:=q
    dsimp only at e
    rw [e]
    exact a9 ⟨⟨_,rfl⟩,_,rfl,hr⟩
   dsimp only
   refine aQ (wG ?_)
   refine aQ (kE (kF (λx q ak=>(∃g,ak=sg st g)/\∃ja jb out mg ac bc,q=(none,ja,jb,out,mg,ac,bc)/\H κ a b out ja jb/\1<=ja/\2<=jb/\ja+jb<=mK+mJ) (Q:=λq ak=>(∃g,ak=sg st g)/\((∃r,q.1=some r/\Mg κ a b r)\/∃ja jb out mg ac bc,q=(none,ja,jb,out,mg,ac,bc)/\H κ a b out ja jb/\1<=ja/\2<=jb/\ja+jb<=mK+mJ)) (λx q ak _ hx hI=>?_) (λq ak hI=>?_) ⟨⟨_,rfl⟩,_,_,_,_,_,_,rfl,HG,Yh,Yg,by ext⟩) λq ak hI=>?_)
   .obtain ⟨⟨g,rfl⟩,ja,jb,out,mg,ac,bc,rfl,hJ,ga,gb,hp⟩:=hI
    dsimp only
    have la:=hJ.la
    have lb:=hJ.lb
    rw [gQ] at la lb
    have xb:jb-1<b.size:=by ext gb lb
    revert mg
    refine y9 (λmg=>mg-1) (λ_=>rfl) λmg=>?_
    refine aQ (Ee (aQ (iB xb (aQ ?_))))
    refine z6 hk T ?_ la ga xb λk k1 k2 k3=>?_
    .exact hd
    dsimp only
    have jj:jb-1+1=jb:=Nat.sub_add_cancel (Nat.le_of_succ_le gb)
    rw [jj] at k2
    have hR:H κ a b out ja jb/\(ja-k=0->1<=ja/\ja<=k)/\k<=ja/\(∀x∈(a.toList.take ja).drop k,∀y∈b.toList.take jb,κ y<κ x):=⟨hJ,λz=>⟨ga,Oe z⟩,k1,k2⟩
    have XI:k<=a.size:=fq k1 la
    have Xu:k+jb<=mK+mJ:=fq (I0 k1 jb) hp
    clear hJ k2 la ga hp k1
    generalize ja-k=cnt at hR ⊢
    revert out ja
    refine D3 (λn o=>H κ a b o n jb/\n=k/\1<=n) ?_ (λja out hR hF d0=>?_) λja out hR d0=>⟨hR.1,Ds (hR.2.1 (uI d0)).2 hR.2.2.1,(hR.2.1 (uI d0)).1⟩
    .rintro n o ⟨i1,rfl,hn⟩
     have xa:n-1<a.size:=jI (Nat.sub_lt hn Nat.one_pos) XI
     refine aQ (iB xb ?_)
     have i2:=(i1.sym.push T.sym (Nat.lt_of_succ_le (Nat.le_of_succ_le gb)) xb k3).sym
     by_cases d3:jb-1=1
     .rw [if_pos (by simpa using d3)]
      exact a9 ⟨⟨_,rfl⟩,.inl ⟨_,rfl,i2.CI T (by rw [d3];exact hf)⟩⟩
     rw [if_neg (by simpa using d3)]
     have g2:2<=jb-1:=Et gb d3
     have g3:jb-1<=b.size:=AJ xb
     refine aQ (iB xa (aQ ?_))
     refine z6 hk T.sym ?_ g3 (uL g2) xa λm m1 m2 m3=>?_
     .exact hd
     dsimp only
     rw [Nat.sub_add_cancel hn] at m2
     have hR:H κ a b (o.push b[jb-1]) n (jb-1)/\(jb-1-m=0->2<=jb-1/\jb-1<=m)/\m<=jb-1/\(∀x∈(b.toList.take (jb-1)).drop m,∀y∈a.toList.take n,κ y<κ x):=⟨i2,λz=>⟨g2,Oe z⟩,m1,m2⟩
     have Nc:n-1+m<=mK+mJ:=fq (Nat.add_le_add (Nat.sub_le n 1) (fq m1 (Nat.sub_le jb 1))) Xu
     clear i2 g2 g3 m1 m2
     generalize jb-1-m=Ie at hR ⊢
     generalize o.push b[jb-1]=o2 at hR ⊢
     generalize jb-1=j2 at hR ⊢
     revert o2 j2
     refine D3 (λp q=>H κ a b p n q/\q=m/\2<=q) ?_ (λo2 j2 hR hF d4=>?_) λout ja hR d0=>⟨hR.1,Ds (hR.2.1 (uI d0)).2 hR.2.2.1,(hR.2.1 (uI d0)).1⟩
     .rintro p q ⟨i3,rfl,hq⟩
      refine aQ (iB xa ?_)
      have i4:=i3.push T hn xa m3
      by_cases d6:n-1=0
      .rw [if_pos (by simpa using d6)]
       exact a9 ⟨⟨_,rfl⟩,.inl ⟨_,rfl,i4.yQ T (.inl d6)⟩⟩
      rw [if_neg (by simpa using d6)]
      have h6:1<=n-1:=Nat.pos_of_ne_zero d6
      by_cases d7:(decide (cnt<7)&&decide (Ie<7))=true
      .rw [if_pos d7]
       exact a9 ⟨⟨_,rfl⟩,.inr ⟨_,_,_,_,_,_,rfl,i4,h6,hq,Nc⟩⟩
      .rw [if_neg d7]
       exact a9 ⟨⟨_,rfl⟩,_,_,_,_,_,_,rfl,i4,h6,hq,Nc⟩
     .obtain ⟨i2,_,m1,m2⟩:=hR
      have i3:=(i2.sym.seg T.sym m1 m2).sym
      by_cases d5:m=1
      .rw [if_pos (by simpa using d5)]
       exact a9 ⟨⟨_,rfl⟩,.inl ⟨_,rfl,i3.CI T (by rw [d5];exact hf)⟩⟩
      rw [if_neg (by simpa using d5)]
      by_cases d8:m=0
      .rw [if_pos (by simpa using d8)]
       exact a9 ⟨⟨_,rfl⟩,.inl ⟨_,rfl,i3.yQ T (.inr d8)⟩⟩
      rw [if_neg (by simpa using d8)]
      exact hF _ _ ⟨i3,rfl,b8d d5 d8⟩
    .obtain ⟨hJ,_,k1,k2⟩:=hR
     have i1:=hJ.seg T k1 k2
     by_cases d1:k=0
     .rw [if_pos (by simpa using d1)]
      exact a9 ⟨⟨_,rfl⟩,.inl ⟨_,rfl,i1.yQ T (.inl d1)⟩⟩
     rw [if_neg (by simpa using d1)]
     exact hF _ _ ⟨i1,rfl,Nat.pos_of_ne_zero d1⟩
   .obtain ⟨hg,ja,jb,out,mg,ac,bc,rfl,hJ,ga,gb,hp⟩:=hI
    exact ⟨hg,.inr ⟨_,_,_,_,_,_,rfl,hJ,ga,gb,‹_›⟩⟩
   .obtain ⟨⟨g,rfl⟩,⟨r,e,hr⟩ | ⟨ja,jb,out,mg,ac,bc,rfl,hJ,ga,gb,hp⟩⟩:=hI
    .obtain ⟨q1,q2⟩:=q
     dsimp only at e
     rw [e]
     exact a9 ⟨⟨_,rfl⟩,_,rfl,hr⟩
    .dsimp only
     exact aQ (Ee (a9 ⟨⟨_,rfl⟩,_,_,_,_,rfl,hJ,ga,gb,by lia⟩))
 .obtain ⟨_,na,nb,out,mg,rfl,hJ,ga,gb,hp⟩:=hI
  ext _ hp
 .obtain ⟨⟨g,rfl⟩,r,e,hr⟩:=hI
  rw [e]
  exact a9 (h _ _ hr)
end
section
variable {prog:Program}{w:World}{A:Around}{E:Value->Shared->Prop}{s:Shared}{kd:SortKind}{κ:Keyed->Int}{C:Keyed->Prop}
theorem b52{σ:Type}{M:Model}{Q:PUnit->σ->Prop}{st ak:σ}(h:Q ⟨⟩ ak):wpS M A E s (set ak:StateT σ Sem PUnit) Q st:=by
 unfold wpS
 rw [StateT.run_set]
 exact bC ⟨rfl,h⟩
theorem PU(e:arr.toList=P++R++S)(h:i<R.length):kv κ arr (P.length+i)=κ R[i]:=by
 unfold kv
 have:arr[P.length+i]?=some R[i]:=by
  rw [<-sx,e,fP,qV (by ext),uK (by ext h)]
  simp [h]
 rw [this]
def tE(κ:Keyed->Int)(l:List Keyed):Prop:=(l.map κ).Nodup
theorem tE.ne{arr:Array Keyed}(h:tE κ arr.toList){i j:Nat}(hi:i<arr.size)(hj:j<arr.size)(cI:i≠j):κ arr[i]≠κ arr[j]:=λz=>by
 refine cI ((List.getElem_inj (h₀:=by simpa using hi) (h₁:=by simpa using hj) h).mp ?_)
 simpa using z
theorem tE.app(h:tE κ (l++m)):∀x∈l,∀y∈m,κ x≠κ y:=λx hx y hy z=>by
 unfold tE at h
 rw [eJ,Jh] at h
 exact h.2.2 _ (cH.mpr ⟨x,hx,rfl⟩) _ (cH.mpr ⟨y,hy,rfl⟩) z
theorem EC{R:List Keyed}(h:eE κ R){i j:Nat}(cI:i<j)(hj:j<R.length):κ (R[i]'(by ext cI hj))<κ R[j]:=AX.mp h i j (by ext cI hj) hj cI
theorem Ws(hk:Ask prog w s kd κ C){st:SortSt}(hd:kindOf st=kd)(hf:failedOf st=none){Q:Bool->SortSt->Prop}(e:(arrOf st).toList=P++R1++R2++S)(hC:∀x∈(arrOf st).toList,C x)(hD:tE κ (arrOf st).toList)
  (s1:eE κ R1)(s2:eE κ R2)(n1:R1≠[])(n2:R2≠[])(e1:(pendingOf st)[i]?=some (P.length,R1.length,pw))(e2:(pendingOf st)[i+1]?=some (P.length+R1.length,R2.length,p2))
  (h:∀ak R,kindOf ak=kd->failedOf ak=none->(arrOf ak).toList=P++R++S->eE κ R->R.Perm (R1++R2)->pendingOf ak=((pendingOf st).setIfInBounds i (P.length,R1.length+R2.length,pw)).eraseIdxIfInBounds (i+1)->Q true ak):wpS (model prog w) A E s (mergeAt' i) Q st:=by
 have l1:=nE.mpr n1
 have l2:=nE.mpr n2
 have hz:(arrOf st).size=P.length+R1.length+R2.length+S.length:=by rw [<-gQ,e];simp only [cM]
 have eA:(arrOf st).toList=P++R1++(R2++S):=by rw [e,fP]
 have eB:(arrOf st).toList=(P++R1)++R2++S:=e
 have lB:(P++R1).length=P.length+R1.length:=cM ..
 have kA:∀j (hj:j<R1.length),kv κ (arrOf st) (P.length+j)=κ R1[j]:=λj hj=>PU eA hj
 have kB:∀j (hj:j<R2.length),kv κ (arrOf st) (P.length+R1.length+j)=κ R2[j]:=λj hj=>by rw [<-lB];exact PU eB hj
 have b0:P.length+R1.length<(arrOf st).size:=by ext l2 hz:1
 have M1:κ (arrOf st)[P.length+R1.length]=κ R2[0]:=by rw [<-iK (κ:=κ) b0,<-kB 0 l2];rfl
 have aL:P.length+R1.length-1<(arrOf st).size:=by ext b0:1
 have M2:κ (arrOf st)[P.length+R1.length-1]=κ R1[R1.length-1]:=by rw [<-iK (κ:=κ) aL,<-kA _ (by ext l1:1)];congr 1;ext l1:1
 have C6:∀j (hj:j<(arrOf st).size),C (arrOf st)[j]:=λj hj=>hC _ (by simp)
 have z1:P.length+R1.length<=(arrOf st).size:=by ext b0:1
 have z2:P.length+R1.length+R2.length<=(arrOf st).size:=by ext hz:1
 have plain:(∀x∈R1,∀y∈R2,κ x<κ y)->eE κ (R1++R2):=λz=>gP.mpr ⟨s1,s2,z⟩
 unfold wpS
 wp_delta
 wp_delta
 wp_delta
 refine wN (Q:=Q) (aQ (nr ?_))
 rw [e1,e2]
 dsimp only
 refine aQ (b52 (aQ (iB b0 (aQ ?_))))
 refine C8 hk ?_ (C6 _ b0) z1 l1 (λj hj h1 h2=>⟨C6 j hj,hD.ne hj b0 (by ext h2:1)⟩) (λx y hx hy=>by rw [kA _ (by ext hx hy:1),kA _ hy];exact EC s1 hx hy) λk k1 k2 k3=>?_
 .exact hd
 dsimp only
 have c2:∀x∈R1.take k,∀y∈R2,κ x<κ y:=λx hx y hy=>by
  obtain ⟨j,hj,rfl⟩:=pW.mp hx
  obtain ⟨m,hm,rfl⟩:=pW.mp hy
  rw [iA] at hj
  have:=k2 j (by ext hj:1)
  rw [kA j (by ext hj:1),M1] at this
  rw [Jg]
  by_cases c:m=0
  .subst c;exact this
  .have:=EC s2 (show 0<m by ext c:1) hm
   lia
 by_cases d1:R1.length-k=0
 .rw [if_pos (by simpa using d1)]
  refine a9 (h _ (R1++R2) hd hf (by show (arrOf st).toList=_;rw [e];simp) (plain ?_) (DB _) rfl)
  rw [uJ (by ext d1:1)] at c2
  exact c2
 rw [if_neg (by simpa using d1)]
 have ek:P.length+k+(R1.length-k)-1=P.length+R1.length-1:=by ext k1:1
 rw [ek]
 refine aQ (iB aL (aQ ?_))
 refine C8 hk ?_ (C6 _ aL) z2 (by ext l2:1) (λj hj h1 h2=>⟨C6 j hj,hD.ne hj aL (by ext l1 h1:1)⟩) (λx y hx hy=>by rw [kB _ (by ext hx hy:1),kB _ hy];exact EC s2 hx hy) λm m1 m2 m3=>?_
 .exact hd
 dsimp only
 have c3:∀x∈R2.drop m,∀y∈R1,κ y<κ x:=λx hx y hy=>by
  obtain ⟨j,hj,rfl⟩:=pW.mp hx
  obtain ⟨n,hn,rfl⟩:=pW.mp hy
  rw [kG] at hj
  have:=m3 (m+j) (by ext:1) (by ext hj:1)
  rw [kB _ (by ext hj:1),M2] at this
  rw [List.getElem_drop]
  by_cases c:n=R1.length-1
  .subst c;exact this
  .have:=EC s1 (show n<R1.length-1 by ext hn c:1) (by ext l1:1)
   lia
 by_cases d2:m=0
 .rw [if_pos (by simpa using d2)]
  refine a9 (h _ (R1++R2) hd hf (by show (arrOf st).toList=_;rw [e];simp) (plain λx hx y hy=>c3 y (by rw [d2];exact hy) x hx) (DB _) rfl)
 rw [if_neg (by simpa using d2)]
 have eX:((arrOf st).extract (P.length+k) (P.length+R1.length)).toList=R1.drop k:=by
  rw [K1,eA,Ot (by simp),<-lB,List.take_length,List.drop_append,sC (by ext:1),IM]
  congr 1
  ext:1
 have eY:((arrOf st).extract (P.length+R1.length) (P.length+R1.length+m)).toList=R2.take m:=by
  rw [QB,eB,fP,<-lB,List.drop_append,List.drop_length,IM,AF,Dz,Ot m1]
 have zX:((arrOf st).extract (P.length+k) (P.length+R1.length)).size=R1.length-k:=by rw [<-gQ,eX,kG]
 have zY:((arrOf st).extract (P.length+R1.length) (P.length+R1.length+m)).size=m:=by rw [<-gQ,eY,iA];ext m1:1
 have Yc:∀x∈R1,C x:=λx hx=>hC x (by rw [e];simp [hx])
 have Yb:∀x∈R2,C x:=λx hx=>hC x (by rw [e];simp [hx])
 have aW:∀x∈R1,∀y∈R2,κ x≠κ y:=λx hx y hy=>by
  rw [eA] at hD
  exact hD.app x (by simp [hx]) y (by simp [hy])
 have T:gr κ C ((arrOf st).extract (P.length+k) (P.length+R1.length)) ((arrOf st).extract (P.length+R1.length) (P.length+R1.length+m)):=by
  refine ⟨?_,?_,?_,?_,?_⟩
  .rw [eX];exact w5 s1 k
  .rw [eY];exact KQ s2 m
  .rw [eX];exact λx hx=>Yc x (qO hx)
  .rw [eY];exact λx hx=>Yb x (qP hx)
  .rw [eX,eY];exact λx hx y hy=>aW x (qO hx) y (qP hy)
 have gX:∀j (hj:j<((arrOf st).extract (P.length+k) (P.length+R1.length)).size),κ ((arrOf st).extract (P.length+k) (P.length+R1.length))[j]=κ (R1[k+j]'(by ext zX hj:1)):=λj hj=>by
  rw [<-N9]
  simp only [eX,List.getElem_drop]
 have gY:∀j (hj:j<((arrOf st).extract (P.length+R1.length) (P.length+R1.length+m)).size),κ ((arrOf st).extract (P.length+R1.length) (P.length+R1.length+m))[j]=κ (R2[j]'(by ext m1 zY hj:1)):=λj hj=>by
  rw [<-N9]
  simp only [eY,Jg]
 have pX:0<((arrOf st).extract (P.length+k) (P.length+R1.length)).size:=by ext d1 zX:1
 have pY:0<((arrOf st).extract (P.length+R1.length) (P.length+R1.length+m)).size:=by ext d2 zY:1
 have h0:κ ((arrOf st).extract (P.length+R1.length) (P.length+R1.length+m))[0]<κ ((arrOf st).extract (P.length+k) (P.length+R1.length))[0]:=by
  rw [gX 0 pX,gY 0 pY]
  have:=k3 k (bw _) (by ext zX pX:1)
  rw [kA k (by ext zX pX:1),M1] at this
  exact this
 have mN:∀x∈((arrOf st).extract (P.length+R1.length) (P.length+R1.length+m)).toList,κ x<κ R1[R1.length-1]:=λx hx=>by
  rw [eY] at hx
  obtain ⟨j,hj,rfl⟩:=pW.mp hx
  rw [iA] at hj
  have:=m2 j (by ext m1 zY hj:1)
  rw [kB j (by ext m1 zY hj:1),M2] at this
  rw [Jg]
  exact this
 have rest:∀(r:Array Keyed) (g:Nat),Mg κ ((arrOf st).extract (P.length+k) (P.length+R1.length)) ((arrOf st).extract (P.length+R1.length) (P.length+R1.length+m)) r->Q true (Az (kindOf st) (r.toList.zipIdx.foldl (λa x=>match x with | (p,j)=>a.setIfInBounds (P.length+k+j) p) (arrOf st)) (((pendingOf st).setIfInBounds i (P.length,R1.length+R2.length,pw)).eraseIdxIfInBounds (i+1)) g (failedOf st)):=λr g hM=>by
  unfold Mg at hM
  rw [eX,eY] at hM
  obtain ⟨q1,q2⟩:=b2l s1 s2 c2 c3 hM.1 hM.2
  refine h _ (R1.take k++r.toList++R2.drop m) hd hf ?_ q1 q2 rfl
  have hl:r.toList.length=(R1.drop k++R2.take m).length:=hM.2.length_eq
  have eP:(arrOf st).toList=(P++R1.take k)++(R1.drop k++R2.take m)++(R2.drop m++S):=by
   rw [e]
   have x1:R1=R1.take k++R1.drop k:=(nF ..).symm
   have x2:R2=R2.take m++R2.drop m:=(nF ..).symm
   generalize R1.take k=u at *
   generalize R1.drop k=u2 at *
   generalize R2.take m=v at *
   generalize R2.drop m=v2 at *
   rw [x1,x2]
   simp only [fP]
  have lP:(P++R1.take k).length=P.length+k:=by rw [cM,iA];ext hz lB k1:1
  have:=b0S eP hl
  rw [lP] at this
  show (r.toList.zipIdx.foldl (λa x=>a.setIfInBounds (P.length+k+x.2) x.1) (arrOf st)).toList=_
  rw [this]
  simp only [fP]
 by_cases d3:R1.length-k<=m
 .rw [if_pos d3]
  refine aQ ?_
  refine Wq hk T ?_ pX pY h0 (λx hx y hy=>?_) λr g hM=>?_
  .exact hd
  .rw [eX,zX,List.drop_drop,show k+(R1.length-k-1)=R1.length-1 by ext l1 hz lB zX pX:1,nG (by ext l1 hz lB:1),show R1.length-1+1=R1.length by ext l1 hz lB:1,List.drop_length,bP] at hy
   rw [hy]
   exact mN x hx
  .refine aQ (pR (aQ (nr (a9 ?_))))
   have:=rest r g hM
   show Q (failedOf st).isNone _
   rw [hf]
   exact this
 .rw [if_neg d3]
  refine aQ ?_
  refine Wr hk T ?_ pX pY h0 (λx hx=>?_) λr g hM=>?_
  .exact hd
  .rw [gX _ (by ext zX pX:1)]
   have:=mN x hx
   simp only [zX,show k+(R1.length-k-1)=R1.length-1 by ext l1 hz lB zX pX:1]
   exact this
  .refine aQ (pR (aQ (nr (a9 ?_))))
   have:=rest r g hM
   show Q (failedOf st).isNone _
   rw [hf]
   exact this
end
section
variable {prog:Program}{w:World}{A:Around}{E:Value->Shared->Prop}{s:Shared}{kd:SortKind}{κ:Keyed->Int}{C:Keyed->Prop}
structure Bs(κ:Keyed->Int)(C:Keyed->Prop)(kd:SortKind)(st:SortSt)(lo:Nat)(ak:SortSt):Prop where
 perm:(arrOf ak).Perm (arrOf st)
 ahead:∀k,k<lo->(arrOf ak)[k]?=(arrOf st)[k]?
 rest:ak=setArr st (arrOf ak)
theorem Bs.refl{st:SortSt}{lo:Nat}:Bs κ C kd st lo st:=⟨sG _,λ_ _=>rfl,rfl⟩
theorem Bs.put{st ak:SortSt}{lo:Nat}(h:Bs κ C kd st lo ak){xs:Array Keyed}(hp:xs.Perm (arrOf ak))(ha:∀k,k<lo->xs[k]?=(arrOf ak)[k]?):Bs κ C kd st lo (setArr ak xs):=
 ⟨hp.trans h.perm,λk hk=>(ha k hk).trans (h.ahead k hk),by rw [h.rest]⟩
structure Al(κ:Keyed->Int)(C:Keyed->Prop)(kd:SortKind)(st:SortSt):Prop where
 kind:kindOf st=kd
 all:∀x∈(arrOf st).toList,C x
 dst:tE κ (arrOf st).toList
theorem Al.of{st ak:SortSt}(h:Al κ C kd st)(hp:(arrOf ak).Perm (arrOf st))(hk:kindOf ak=kd):Al κ C kd ak:=
 have p:=wx.mp hp
 ⟨hk,λx hx=>h.all x (p.mem_iff.mp hx),(p.map κ).nodup_iff.mpr h.dst⟩
theorem Al.bs{st ak:SortSt}{lo:Nat}(h:Al κ C kd st)(b:Bs κ C kd st lo ak):Al κ C kd ak:=h.of b.perm (by rw [b.rest];exact h.kind)
theorem Al.ne{st:SortSt}(h:Al κ C kd st)(hi:i<(arrOf st).size)(hj:j<(arrOf st).size)(cI:i≠j):kv κ (arrOf st) i≠kv κ (arrOf st) j:=by
 rw [iK hi,iK hj]
 exact h.dst.ne hi hj cI
theorem A5(hk:Ask prog w s kd κ C){st:SortSt}(hA:Al κ C kd st){Q:Option Bool->SortSt->Prop}(hi:i<(arrOf st).size)(hj:j<(arrOf st).size)(cI:i≠j)(h:Q (some (decide (kv κ (arrOf st) i<kv κ (arrOf st) j))) st):wpS (model prog w) A E s (ltAt' i j) Q st:=by
 rw [ltAt'_eq]
 refine aQ (nr ?_)
 show wpS _ _ _ _ (do let p <-elem' (arrOf st) i;let q <-elem' (arrOf st) j;lt' p q) Q st
 refine aQ (iB hi (aQ (iB hj ?_)))
 rw [iK hi,iK hj] at h
 exact yT hk hA.kind (hA.all _ (by simp)) (hA.all _ (by simp)) (hA.dst.ne hi hj cI) h
def Up(κ:Keyed->Int)(xs:Array Keyed)(lo k:Nat):Prop:=∀i j,i<j->j<k->kv κ xs (lo+i)<kv κ xs (lo+j)
def Dn(κ:Keyed->Int)(xs:Array Keyed)(lo k:Nat):Prop:=∀i j,i<j->j<k->kv κ xs (lo+j)<kv κ xs (lo+i)
theorem Up.next{lo x:Nat}(h:Up κ xs lo x)(hx:1<=x)(hl:kv κ xs (lo+(x-1))<kv κ xs (lo+x)):Up κ xs lo (x+1):=λi j cI hj=>by
 by_cases c:j<x
 .exact h i j cI c
 .obtain rfl:j=x:=by ext hj c
  by_cases d:i=j-1
  .subst d;exact hl
  .have:=h i (j-1) (by ext cI d) (by ext hx);ext hl this
theorem Dn.next{lo x:Nat}(h:Dn κ xs lo x)(hx:1<=x)(hl:kv κ xs (lo+x)<kv κ xs (lo+(x-1))):Dn κ xs lo (x+1):=λi j cI hj=>by
 by_cases c:j<x
 .exact h i j cI c
 .obtain rfl:j=x:=by ext hj c
  by_cases d:i=j-1
  .subst d;exact hl
  .have:=h i (j-1) (by ext cI d) (by ext hx);ext hl this
theorem Be(hk:Ask prog w s kd κ C){st:SortSt}(hA:Al κ C kd st){lo a nrem:Nat}{Q:Option (Option Nat)×Nat->SortSt->Prop}(hn:lo+nrem<=(arrOf st).size)(ha:1<=a)(Np:a<=nrem)(hu:Up κ (arrOf st) lo a)
  (h:∀n,a<=n->n<=nrem->Up κ (arrOf st) lo n->(n=nrem\/n<nrem/\kv κ (arrOf st) (lo+n)<kv κ (arrOf st) (lo+(n-1)))->Q (none,n) st):
  wpS (model prog w) A E s (forIn [a:nrem] ((none,a):Option (Option Nat)×Nat) λ_ q=>ltAt' (lo+q.2) (lo+q.2-1) >>= λr=>match r with
   | some b=>if b=true then pure (DA (none,q.2)) else pure (pU (none,q.2+1))
   | x=>pure (DA (some none,q.2))) Q st:=by
 refine kF (λx c ak=>ak=st/\c=(none,x)/\Up κ (arrOf st) lo x) (λx c ak h1 h2 hI=>?_) (λc ak hI=>?_) ⟨rfl,rfl,hu⟩
 .obtain ⟨rfl,rfl,oV⟩:=hI
  dsimp only
  rw [show lo+x-1=lo+(x-1) by ext ha h1]
  refine aQ (A5 hk hA (by ext h2 hn) (by ext h2 hn) (by ext ha h1) ?_)
  dsimp only
  by_cases c:kv κ (arrOf ak) (lo+x)<kv κ (arrOf ak) (lo+(x-1))
  .rw [if_pos (decide_eq_true c)]
   exact a9 (h x h1 (by ext h2) oV (.inr ⟨h2,c⟩))
  .rw [if_neg (by simpa using c)]
   have:=hA.ne (i:=lo+x) (j:=lo+(x-1)) (by ext h2 hn) (by ext h2 hn) (by ext ha h1)
   exact a9 ⟨rfl,rfl,oV.next (by ext ha h1) (by ext c this)⟩
 .obtain ⟨rfl,rfl,oV⟩:=hI
  rw [show max a nrem=nrem by ext Np] at oV ⊢
  exact h nrem Np (bw _) oV (.inl rfl)
theorem Px{xs:Array Keyed}{lo n:Nat}(hn:lo+n<=xs.size)(k:Nat):kv κ (mirror xs lo (lo+n) ((lo+n-lo)/2)) (lo+k)=if k<n then kv κ xs (lo+(n-1-k)) else kv κ xs (lo+k):=by
 have e:=IU (i:=lo) hn (lo+k)
 by_cases h:k<n
 .rw [if_pos (by ext h),show lo+(lo+n)-1-(lo+k)=lo+(n-1-k) by ext h] at e
  rw [if_pos h];exact A4 e
 .rw [if_neg (by ext h)] at e
  rw [if_neg h];exact A4 e
theorem Ic(hk:Ask prog w s kd κ C){st:SortSt}(hA:Al κ C kd st){lo nrem:Nat}{Q:Option Nat->SortSt->Prop}(hn:lo+nrem<=(arrOf st).size)(h1:1<=nrem)
  (h:∀m ak,Bs κ C kd st lo ak->1<=m->m<=nrem->Up κ (arrOf ak) lo m->Q (some m) ak):wpS (model prog w) A E s (countRun' lo nrem) Q st:=by
 unfold wpS
 wp_delta
 wp_delta
 wp_delta
 refine wN (Q:=Q) (aQ ?_)
 refine Be hk hA hn (bw 1) h1 (λi j _ _=>by lia) λn n1 n2 hu Ha=>?_
 dsimp only
 by_cases c1:n=nrem
 .rw [if_pos (by simpa using c1)]
  exact a9 (h n st Bs.refl n1 n2 hu)
 rw [if_neg (by simpa using c1)]
 have bE:kv κ (arrOf st) (lo+n)<kv κ (arrOf st) (lo+(n-1)):=by ext Ha c1
 by_cases c2:n>1
 .rw [if_pos c2,show lo+n-1=lo+(n-1) by ext c2]
  refine aQ (A5 hk hA (by ext hn h1) (by ext hn n2 c2) (by ext c2) ?_)
  dsimp only
  have h0:=hu 0 (n-1) (by ext c2) (by ext c2)
  rw [Nat.add_zero] at h0
  rw [if_pos (decide_eq_true h0)]
  exact a9 (h n st Bs.refl n1 n2 hu)
 rw [if_neg c2]
 obtain rfl:n=1:=by ext n1 c2
 refine aQ (wG ?_)
 refine aQ (kE (kF (λx c ak=>ak=st/\c=(none,x,0)/\Dn κ (arrOf st) lo x) (Q:=λc ak=>ak=st/\∃x,c=(none,x,0)/\2<=x/\x<=nrem/\Dn κ (arrOf st) lo x) (λx c ak g1 g2 hI=>?_) (λc ak hI=>?_) ⟨rfl,rfl,λi j cI hj=>?_⟩) λc ak hI=>?_)
 .obtain ⟨rfl,rfl,hs⟩:=hI
  dsimp only
  rw [show lo+x-1=lo+(x-1) by ext g1]
  have aW:=hA.ne (i:=lo+x) (j:=lo+(x-1)) (by ext g2 hn) (by ext g2 hn) (by ext g1)
  refine aQ (A5 hk hA (by ext g2 hn) (by ext g2 hn) (by ext g1) ?_)
  dsimp only
  by_cases c:kv κ (arrOf ak) (lo+x)<kv κ (arrOf ak) (lo+(x-1))
  .rw [if_pos (decide_eq_true c),if_neg (by decide)]
   exact a9 ⟨rfl,rfl,hs.next (by ext g1) c⟩
  .rw [if_neg (by simpa using c)]
   refine aQ (A5 hk hA (by ext g2 hn) (by ext g2 hn) (by ext g1) ?_)
   dsimp only
   rw [if_pos (decide_eq_true (by ext aW c))]
   exact a9 ⟨rfl,x,rfl,‹_›,by ext g2,hs⟩
 .obtain ⟨rfl,rfl,hs⟩:=hI
  rw [show max (1+1) nrem=nrem by ext c1 Ha] at hs ⊢
  exact ⟨rfl,nrem,rfl,by ext c1 Ha,by ext,hs⟩
 .obtain ⟨rfl,rfl⟩:i=0/\j=1:=by ext cI hj
  exact bE
 .obtain ⟨rfl,x,rfl,x1,x2,hs⟩:=hI
  dsimp only
  rw [if_neg (by decide)]
  refine aQ (wpS_reverse ?_)
  have hb:Bs κ C kd ak lo (setArr ak (mirror (arrOf ak) lo (lo+x) ((lo+x-lo)/2))):=Bs.refl.put (qK _ _ _ _) λk hk=>by
   have e:=IU (xs:=arrOf ak) (i:=lo) (j:=lo+x) (by ext hn x2) k
   rw [if_neg (by ext hk)] at e
   exact e
  refine aQ ?_
  refine Be hk (hA.bs hb) ?_ (by ext x1) x2 (λi j cI hj=>?_) λm m1 m2 hm _=>a9 (h m _ hb (by ext x1 m1) m2 hm)
  .show lo+nrem<=(mirror (arrOf ak) lo (lo+x) ((lo+x-lo)/2)).size
   rw [Dl]
   exact hn
  .show kv κ (mirror (arrOf ak) lo (lo+x) ((lo+x-lo)/2)) (lo+i)<kv κ (mirror (arrOf ak) lo (lo+x) ((lo+x-lo)/2)) (lo+j)
   rw [Px (by ext hn x2),Px (by ext hn x2),if_pos (by ext cI hj),if_pos hj]
   exact hs _ _ (by ext cI hj) (by ext hj)
theorem Jv(hk:Ask prog w s kd κ C){st:SortSt}(hA:Al κ C kd st){lo n ok:Nat}{Q:Bool->SortSt->Prop}(hn:lo+n<=(arrOf st).size)(bu:1<=ok)(Xx:ok<=n)(hs:Up κ (arrOf st) lo ok)
  (h:∀ak,Bs κ C kd st lo ak->Up κ (arrOf ak) lo n->Q true ak):wpS (model prog w) A E s (binarySort' lo n ok) Q st:=by
 rw [binarySort'_eq]
 refine aQ (kE (kF (λk c ak=>c=(none,())/\Bs κ C kd st lo ak/\Up κ (arrOf ak) lo k) (Q:=λc ak=>c=(none,())/\Bs κ C kd st lo ak/\Up κ (arrOf ak) lo n) (λk c ak g1 g2 hI=>?_) (λc ak hI=>?_) ⟨rfl,Bs.refl,?_⟩) λc ak hI=>?_)
 .obtain ⟨rfl,o3,ly⟩:=hI
  have Nz:=hA.bs o3
  have hsz:(arrOf ak).size=(arrOf st).size:=o3.perm.size_eq
  refine aQ (kE (kF (λx c gu=>gu=ak/\∃l r,c=(none,l,r)/\l<=r/\r<=k/\r-l<=k-x/\(∀i,i<l->kv κ (arrOf ak) (lo+i)<kv κ (arrOf ak) (lo+k))/\∀i,r<=i->i<k->kv κ (arrOf ak) (lo+k)<kv κ (arrOf ak) (lo+i))
   (Q:=λc gu=>gu=ak/\∃l r,c=(none,l,r)/\l<=k/\(∀i,i<l->kv κ (arrOf ak) (lo+i)<kv κ (arrOf ak) (lo+k))/\∀i,l<=i->i<k->kv κ (arrOf ak) (lo+k)<kv κ (arrOf ak) (lo+i)) (λx c gu f1 f2 hJ=>?_) (λc gu hJ=>?_) ⟨rfl,0,k,rfl,by ext,by ext,by ext,λi z=>by contradiction,λi z1 z2=>by ext z1 z2⟩) λc gu hJ=>?_)
  .obtain ⟨rfl,l,r,rfl,j1,j2,j3,j4,j5⟩:=hJ
   dsimp only
   by_cases zJ:l≥r
   .rw [if_pos zJ]
    obtain rfl:l=r:=by ext j1 zJ
    exact a9 ⟨rfl,l,l,rfl,j2,j4,j5⟩
   .rw [if_neg zJ]
    refine aQ (A5 hk Nz (by ext hn g2 hsz) (by lia) (by lia) ?_)
    dsimp only
    have aW:=Nz.ne (i:=lo+k) (j:=lo+(l+r)/2) (by ext hn g2 hsz) (by lia) (by lia)
    by_cases hl:kv κ (arrOf gu) (lo+k)<kv κ (arrOf gu) (lo+(l+r)/2)
    .rw [if_pos (decide_eq_true hl)]
     refine a9 ⟨rfl,l,(l+r)/2,rfl,by lia,by lia,by lia,j4,λi z1 z2=>?_⟩
     by_cases hi:i=(l+r)/2
     .subst hi;exact hl
     .have:=ly ((l+r)/2) i (by ext z1 hi) z2;ext hl this
    .rw [if_neg (by simpa using hl)]
     refine a9 ⟨rfl,(l+r)/2+1,r,rfl,by lia,‹_›,by lia,λi z1=>?_,j5⟩
     by_cases hi:i=(l+r)/2
     .subst hi;ext aW hl
     .have:=ly i ((l+r)/2) (by ext z1 hi) (by lia);ext hl this
  .obtain ⟨rfl,l,r,rfl,j1,j2,j3,j4,j5⟩:=hJ
   obtain rfl:l=r:=by ext j1 j3
   exact ⟨rfl,l,l,rfl,j2,j4,j5⟩
  .obtain ⟨rfl,l,r,rfl,j2,j4,j5⟩:=hJ
   show wpS _ _ _ _ (do moveDown' (lo+k) (lo+l);pure (pU (none,()))) _ _
   rw [moveDown'_eq]
   have XH:lo+k<(arrOf gu).size:=by ext hn g2 hsz
   have C3:=getElem?_bubble XH (lo+k-(lo+l)) (by ext)
   refine aQ (pR (a9 ⟨rfl,o3.put (bubble_perm _ _ _) λq hq=>?_,λi j cI hj=>?_⟩))
   .have e:=C3 q
    rw [if_neg (by ext hq),if_neg (by ext hq)] at e
    exact e
   have kb:∀m,kv κ (bubble (arrOf gu) (lo+k) (lo+k-(lo+l))) (lo+m)=if m=l then kv κ (arrOf gu) (lo+k) else if l<m/\m<=k then kv κ (arrOf gu) (lo+(m-1)) else kv κ (arrOf gu) (lo+m):=λm=>by
    have e:=C3 (lo+m)
    by_cases c1:m=l
    .rw [if_pos (by ext j2 c1)] at e;rw [if_pos c1];exact A4 e
    .rw [if_neg (by ext j2 c1)] at e;rw [if_neg c1]
     by_cases c2:l<m/\m<=k
     .rw [if_pos (by ext c2),show lo+m-1=lo+(m-1) by ext c2] at e;rw [if_pos c2];exact A4 e
     .rw [if_neg (by ext c2)] at e;rw [if_neg c2];exact A4 e
   show kv κ (bubble (arrOf gu) (lo+k) (lo+k-(lo+l))) (lo+i)<kv κ (bubble (arrOf gu) (lo+k) (lo+k-(lo+l))) (lo+j)
   rw [kb,kb]
   repeat' split
   all_goals first
    | (exfalso;lia)
    | exact j4 _ (by lia)
    | exact j5 _ (by lia) (by ext cI hj)
    | exact ly _ _ (by lia) (by lia)
 .obtain ⟨hc,o3,ly⟩:=hI
  rw [show max (max ok 1) n=n by ext bu Xx] at ly
  exact ⟨hc,o3,ly⟩
 .rw [show max ok 1=ok by ext bu];exact hs
 .obtain ⟨rfl,o3,ly⟩:=hI
  exact a9 (h ak o3 ly)
end
section
variable {prog:Program}{w:World}{A:Around}{E:Value->Shared->Prop}{s:Shared}{kd:SortKind}{κ:Keyed->Int}{C:Keyed->Prop}
structure St(κ:Keyed->Int)(C:Keyed->Prop)(kd:SortKind)(a₀:Array Keyed)(st:SortSt)(Rs:List (List Keyed)):Prop where
 perm:(arrOf st).Perm a₀
 kind:kindOf st=kd
 failed:failedOf st=none
 pre:(arrOf st).toList.take Rs.flatten.length=Rs.flatten
 le:Rs.flatten.length<=a₀.size
 rM:kZ 0 Rs (pendingOf st).toList
 run:∀R∈Rs,R≠[]/\eE κ R
variable {a₀:Array Keyed}
structure Kn(κ:Keyed->Int)(C:Keyed->Prop)(a₀:Array Keyed):Prop where
 all:∀x∈a₀.toList,C x
 dst:tE κ a₀.toList
theorem St.al{st:SortSt}(h:St κ C kd a₀ st Rs)(k:Kn κ C a₀):Al κ C kd st:=
 have p:=wx.mp h.perm
 ⟨h.kind,λx hx=>k.all x (p.mem_iff.mp hx),(p.map κ).nodup_iff.mpr k.dst⟩
theorem St.cnt{st:SortSt}(h:St κ C kd a₀ st Rs):(pendingOf st).size=Rs.length:=by rw [<-gQ];exact h.rM.len
theorem D7(hk:Ask prog w s kd κ C)(k:Kn κ C a₀){st:SortSt}(h:St κ C kd a₀ st (Xs++R1::R2::Ys))(hi:i=Xs.length){Q:Bool->SortSt->Prop}
  (hQ:∀ak R,St κ C kd a₀ ak (Xs++R::Ys)->(Xs++R::Ys).flatten.length=(Xs++R1::R2::Ys).flatten.length->(arrOf ak).toList.drop (Xs++R1::R2::Ys).flatten.length=(arrOf st).toList.drop (Xs++R1::R2::Ys).flatten.length->Q true ak):wpS (model prog w) A E s (mergeAt' i) Q st:=by
 have hz:(arrOf st).size=a₀.size:=h.perm.size_eq
 have eF:(Xs++R1::R2::Ys).flatten=Xs.flatten++R1++R2++Ys.flatten:=by simp
 have al:=h.al k
 have r1:=h.run R1 (by simp)
 have r2:=h.run R2 (by simp)
 obtain ⟨q1,q2⟩:=h.rM.split
 rw [su] at q2
 have Xr:=h.rM.len
 generalize hp:(pendingOf st).toList=ps at *
 obtain ⟨u,v,pv,e3⟩:∃u v pv,ps.drop Xs.length=u::v::pv:=by
  match hd:ps.drop Xs.length,q2 with
  | u::v::pv,_=>exact ⟨u,v,pv,rfl⟩
 rw [e3] at q2
 obtain ⟨u1,u2,v1,v2,q3⟩:=q2
 have HY:ps=ps.take Xs.length++u::v::pv:=by rw [<-e3,nF]
 have lt:(ps.take Xs.length).length=Xs.length:=by rw [iA,Xr,cM];ext
 have g1:(pendingOf st)[i]?=some (Xs.flatten.length,R1.length,u.2.2):=by
  rw [<-sx,hp,HY,qV (by ext hi lt),lt,hi,AF]
  show some u=_
  rw [<-u1,<-u2]
 have g2:(pendingOf st)[i+1]?=some (Xs.flatten.length+R1.length,R2.length,v.2.2):=by
  rw [<-sx,hp,HY,qV (by ext hi lt),lt,hi,Jt]
  show some v=_
  rw [<-v1,<-v2]
 have eA:(arrOf st).toList=Xs.flatten++R1++R2++(Ys.flatten++(arrOf st).toList.drop (Xs++R1::R2::Ys).flatten.length):=by
  have:=nF (Xs++R1::R2::Ys).flatten.length (arrOf st).toList
  rw [h.pre] at this
  rw [<-fP,<-eF]
  exact this.symm
 refine Ws hk h.kind h.failed eA al.all al.dst r1.2 r2.2 r1.1 r2.1 g1 g2 λak R a1 a2 a3 a4 a5 a6=>?_
 have lR:R.length=R1.length+R2.length:=by rw [a5.length_eq,cM]
 have HZ:(Xs++R::Ys).flatten=Xs.flatten++R++Ys.flatten:=by simp
 have lF:(Xs++R::Ys).flatten.length=(Xs++R1::R2::Ys).flatten.length:=by rw [eF,HZ];simp only [cM];ext lR
 refine hQ ak R ⟨?_,a1,a2,?_,by rw [lF];exact h.le,?_,λS hS=>?_⟩ lF ?_
 .refine Array.Perm.trans (wx.mpr ?_) h.perm
  generalize (arrOf st).toList.drop (Xs++R1::R2::Ys).flatten.length=D at *
  rw [a3,eA]
  refine List.Perm.append_right _ ?_
  rw [fP Xs.flatten]
  exact a5.append_left _
 .rw [a3,HZ,<-fP,List.take_left]
 .have e6:(pendingOf ak).toList=ps.take Xs.length++(Xs.flatten.length,R1.length+R2.length,u.2.2)::pv:=by
   rw [a6,Array.toList_eraseIdxIfInBounds,Array.toList_setIfInBounds,hp,hi]
   conv=>lhs;rw [HY]
   rw [List.set_append_right _ _ (by ext lt),lt,AF,List.set_cons_zero,List.eraseIdx_append_of_length_le (by ext lt),lt,Jt]
   rfl
  rw [e6]
  refine q1.app ?_
  rw [su]
  refine ⟨rfl,lR.symm,?_⟩
  rw [lR,<-IP]
  exact q3
 .rcases bT.mp hS with hS | hS
  .exact h.run S (gp _ hS)
  .rcases bq.mp hS with rfl | hS
   .refine ⟨λz=>?_,a4⟩
    rw [z] at lR
    have:=nE.mpr r1.1
    simp at lR
    ext lR this
   .exact h.run S (fQ _ (by simp [hS]))
 .generalize (arrOf st).toList.drop (Xs++R1::R2::Ys).flatten.length=D at *
  rw [<-lF,a3,HZ,<-fP,List.drop_left]
theorem J2{Rs:List (List Keyed)}(h:2<=Rs.length):∃Xs R1 R2,Rs=Xs++R1::R2::[]/\Xs.length=Rs.length-2:=by
 refine ⟨Rs.take (Rs.length-2),Rs[Rs.length-2],Rs[Rs.length-1],?_,by rw [iA];ext:1⟩
 conv=>lhs;rw [<-nF (Rs.length-2) Rs]
 congr 1
 rw [nG (by ext h:1),nG (by ext h:1),sC (by ext:1)]
 simp only [show Rs.length-2+1=Rs.length-1 by ext h:1]
theorem b8m{Rs:List (List Keyed)}(h:3<=Rs.length):∃Xs R1 R2 R3,Rs=Xs++R1::R2::[R3]/\Xs.length=Rs.length-3:=by
 refine ⟨Rs.take (Rs.length-3),Rs[Rs.length-3],Rs[Rs.length-2],Rs[Rs.length-1],?_,by rw [iA];ext:1⟩
 conv=>lhs;rw [<-nF (Rs.length-3) Rs]
 congr 1
 rw [nG (by ext h:1),nG (by ext h:1),nG (by ext h:1),sC (by ext:1)]
 simp only [show Rs.length-3+1=Rs.length-2 by ext h:1,show Rs.length-2+1=Rs.length-1 by ext h:1]
theorem Qd{xs:Array Keyed}{lo n:Nat}(h:Up κ xs lo n)(hn:lo+n<=xs.size):eE κ ((xs.toList.drop lo).take n):=by
 refine AX.mpr λi j hi hj cI=>?_
 simp only [iA,kG,gQ] at hi hj
 have:=h i j cI (by ext hj:1)
 rw [iK (by ext hi:1),iK (by ext hj:1)] at this
 simpa using this
theorem b1m{xs ys:Array Keyed}{n:Nat}(h:∀k,k<n->xs[k]?=ys[k]?):xs.toList.take n=ys.toList.take n:=by
 refine List.ext_getElem? λk=>?_
 rw [NR,NR,sx,sx]
 split
 .exact h k ‹_›
 .rfl
theorem b4t{Rs:List (List Keyed)}(h:∀R∈Rs,R≠[]):Rs.length<=Rs.flatten.length:=by
 induction Rs with
 | nil=>exact bw _
 | cons R Rs ih =>
  have:=ih λS hS=>h S (by simp [hS])
  have:=nE.mpr (h R (by simp))
  rw [DV,cM,iy]
  lia
theorem St.push{st:SortSt}(h:St κ C kd a₀ st Rs){ak:SortSt}(e1:arrOf ak=arrOf st)(e2:kindOf ak=kindOf st)(e3:failedOf ak=failedOf st)(hq:kZ 0 Rs q)(e4:(pendingOf ak).toList=q++[(Rs.flatten.length,n,0)])
  (hn:1<=n)(hl:Rs.flatten.length+n<=a₀.size)(hs:eE κ (((arrOf st).toList.drop Rs.flatten.length).take n)):St κ C kd a₀ ak (Rs++[((arrOf st).toList.drop Rs.flatten.length).take n]):=by
 have hz:(arrOf st).toList.length=a₀.size:=by rw [gQ];exact h.perm.size_eq
 have ln:(((arrOf st).toList.drop Rs.flatten.length).take n).length=n:=by rw [iA,kG];ext hl hz
 have eF:(Rs++[((arrOf st).toList.drop Rs.flatten.length).take n]).flatten=Rs.flatten++((arrOf st).toList.drop Rs.flatten.length).take n:=by simp
 have lF:(Rs++[((arrOf st).toList.drop Rs.flatten.length).take n]).flatten.length=Rs.flatten.length+n:=by rw [eF,cM,ln]
 refine ⟨by rw [e1];exact h.perm,by rw [e2];exact h.kind,by rw [e3];exact h.failed,?_,by rw [lF];exact hl,?_,λR hR=>?_⟩
 .rw [lF,e1,List.take_add,h.pre,eF]
 .rw [e4]
  refine hq.app ⟨?_,ln.symm,trivial⟩
  exact (su _).symm
 .rcases bT.mp hR with hR | hR
  .exact h.run R hR
  .rw [bP.mp hR]
   refine ⟨λz=>?_,hs⟩
   rw [z] at ln
   simp at ln
   ext hn ln
theorem kZ.mod{α:Type}(f:Nat×Nat×Nat->Nat×Nat×Nat)(hf:∀x,(f x).1=x.1/\(f x).2.1=x.2.1):∀{o:Nat} {Rs:List (List α)} {ps:List (Nat×Nat×Nat)} (i:Nat),kZ o Rs ps->kZ o Rs (ps.modify i f)
 | _,[],[],i,_=>by cases i<;>exact trivial
 | o,R::Rs,p::ps,0,h=>⟨by rw [(hf p).1];exact h.1,by rw [(hf p).2];exact h.2.1,h.2.2⟩
 | o,R::Rs,p::ps,i+1,h=>⟨h.1,h.2.1,h.2.2.mod f hf i⟩
theorem St.weigh{st:SortSt}(h:St κ C kd a₀ st Rs){ak:SortSt}(hb:Bs κ C kd st Rs.flatten.length ak):St κ C kd a₀ ak Rs:=
 ⟨hb.perm.trans h.perm,by rw [hb.rest];exact h.kind,by rw [hb.rest];exact h.failed,by rw [b1m hb.ahead];exact h.pre,h.le,by rw [hb.rest];exact h.rM,h.run⟩
theorem yn(hk:Ask prog w s kd κ C)(k:Kn κ C a₀){st:SortSt}{Q:Unit->SortSt->Prop}(h:St κ C kd a₀ st [])(h2:2<=a₀.size)
  (hQ:∀ak,(arrOf ak).Perm a₀->failedOf ak=none->eE κ (arrOf ak).toList->Q () ak):wpS (model prog w) A E s sortRuns' Q st:=by
 unfold wpS
 wp_delta
 wp_delta
 wp_delta
 refine wN (Q:=Q) (aQ (nr ?_))
 dsimp only
 have hz:(arrOf st).size=a₀.size:=h.perm.size_eq
 simp only [hz]
 refine aQ (kE (kF (λx c ak=>∃Rs:List (List Keyed),c=(none,Rs.flatten.length)/\St κ C kd a₀ ak Rs/\x<=Rs.flatten.length) (Q:=λc ak=>∃Rs:List (List Keyed),c=(none,Rs.flatten.length)/\St κ C kd a₀ ak Rs/\Rs.flatten.length=a₀.size) (λx c ak _ hx hI=>?_) (λc ak hI=>?_) ⟨[],rfl,h,bw _⟩) λc ak hI=>?_)
 .obtain ⟨Rs,rfl,hS,hp⟩:=hI
  dsimp only
  have hle:=hS.le
  by_cases c1:Rs.flatten.length≥a₀.size
  .rw [if_pos c1]
   exact a9 ⟨Rs,rfl,hS,by ext hle c1⟩
  rw [if_neg c1]
  have vR:(arrOf ak).size=a₀.size:=hS.perm.size_eq
  refine aQ ?_
  refine Ic hk (hS.al k) (by ext c1 vR) (by ext c1) λm gu hb m1 m2 hu=>?_
  dsimp only
  have S2:=hS.weigh hb
  have vQ:(arrOf gu).size=a₀.size:=S2.perm.size_eq
  generalize (sortPriv% PySem.Builtin.minRun) a₀.size a₀.size 0 = mr
  by_cases c2:m<mr
  .rw [if_pos c2]
   refine aQ (wG (aQ ?_))
   generalize hF:min (a₀.size-Rs.flatten.length) mr=n
   refine Jv hk (S2.al k) (by ext c1 vQ hF) m1 (by ext m2 c2 hF) hu λiQ XY G5=>?_
   rw [if_neg (by decide)]
   have S3:=S2.weigh XY
   have n1:1<=n:=by ext m1 m2 c2 hF
   have n2:Rs.flatten.length+n<=a₀.size:=by ext c1 hF
   have GU:(arrOf iQ).size=a₀.size:=S3.perm.size_eq
   have t7:=Qd G5 (by ext n2 GU)
   have l3:(((arrOf iQ).toList.drop Rs.flatten.length).take n).length=n:=by rw [iA,kG,gQ];ext n2 GU
   refine aQ (nr ?_)
   cases XX:(pendingOf iQ).back? with
   | none =>
    dsimp only
    refine aQ (pR (a9 ⟨Rs++[((arrOf iQ).toList.drop Rs.flatten.length).take n],?_,S3.push rfl rfl rfl S3.rM (wg ..) n1 n2 t7,?_⟩))
    .rw [sF,cM,sA,l3]
    .rw [sF,cM,sA,l3]
     ext hp n1
   | some p =>
    obtain ⟨s1,tU,p3⟩:=p
    dsimp only
    refine aQ (kE (kF (λx c ak=>c=(none,())/\∃Ts:List (List Keyed),St κ C kd a₀ ak Ts/\Ts.flatten.length=Rs.flatten.length/\(arrOf ak).toList.drop Rs.flatten.length=(arrOf iQ).toList.drop Rs.flatten.length) (Q:=λc ak=>c=(none,())/\∃Ts:List (List Keyed),St κ C kd a₀ ak Ts/\Ts.flatten.length=Rs.flatten.length/\(arrOf ak).toList.drop Rs.flatten.length=(arrOf iQ).toList.drop Rs.flatten.length) (λx c ak _ hx hI=>?_) (λc ak hI=>hI) ⟨rfl,Rs,S3,rfl,rfl⟩) λc ak hI=>?_)
    .obtain ⟨rfl,Ts,hT,hl,ha⟩:=hI
     refine aQ (nr ?_)
     have hc:=hT.cnt
     simp only [hc]
     by_cases c3:Ts.length>1
     .rw [if_pos c3]
      cases hg:(pendingOf ak)[Ts.length-2]? with
      | none=>exact a9 ⟨rfl,Ts,hT,hl,ha⟩
      | some p =>
       obtain ⟨p1,p2,p3⟩:=p
       dsimp only
       split
       .exact a9 ⟨rfl,Ts,hT,hl,ha⟩
       .obtain ⟨Xs,R1,R2,rfl,hX⟩:=J2 (Rs:=Ts) ‹_›
        refine aQ ?_
        refine D7 hk k hT hX.symm λvK R uo n8 mO=>?_
        rw [if_neg (by decide)]
        exact a9 ⟨rfl,_,uo,n8.trans hl,by rw [hl] at mO;exact mO.trans ha⟩
     .rw [if_neg c3]
      exact a9 ⟨rfl,Ts,hT,hl,ha⟩
    .obtain ⟨rfl,Ts,hT,hl,ha⟩:=hI
     dsimp only
     refine aQ (pR (aQ (pR (a9 ⟨Ts++[((arrOf ak).toList.drop Ts.flatten.length).take n],?_,hT.push rfl rfl rfl (hT.rM.mod (λx=>(x.1,x.2.1,power' a₀.size (2*s1+tU) (2*s1+tU+tU+n) a₀.size)) (λ_=>⟨rfl,rfl⟩) ((pendingOf ak).size-1)) (by rw [hl];exact (wg ..).trans (by rw [N3];rfl)) n1 (by ext n2 hl) (by rw [hl,ha];exact t7),?_⟩))))
     .rw [sF,cM,sA,hl,ha,l3]
     .rw [sF,cM,sA,hl,ha,l3]
      ext hp n1
  .rw [if_neg c2]
   obtain ⟨n,rfl⟩:∃n,n=m:=⟨_,rfl⟩
   obtain ⟨iQ,rfl⟩:∃iQ,iQ=gu:=⟨_,rfl⟩
   have S3:=S2
   have G5:=hu
   have n1:1<=n:=by assumption
   have n2:Rs.flatten.length+n<=a₀.size:=by ext c1 m2
   have GU:(arrOf iQ).size=a₀.size:=S3.perm.size_eq
   have t7:=Qd G5 (by ext vQ n2)
   have l3:(((arrOf iQ).toList.drop Rs.flatten.length).take n).length=n:=by rw [iA,kG,gQ];ext vQ n2
   refine aQ (nr ?_)
   cases XX:(pendingOf iQ).back? with
   | none =>
    dsimp only
    refine aQ (pR (a9 ⟨Rs++[((arrOf iQ).toList.drop Rs.flatten.length).take n],?_,S3.push rfl rfl rfl S3.rM (wg ..) n1 n2 t7,?_⟩))
    .rw [sF,cM,sA,l3]
    .rw [sF,cM,sA,l3]
     ext hp m1
   | some p =>
    obtain ⟨s1,tU,p3⟩:=p
    dsimp only
    refine aQ (kE (kF (λx c ak=>c=(none,())/\∃Ts:List (List Keyed),St κ C kd a₀ ak Ts/\Ts.flatten.length=Rs.flatten.length/\(arrOf ak).toList.drop Rs.flatten.length=(arrOf iQ).toList.drop Rs.flatten.length) (Q:=λc ak=>c=(none,())/\∃Ts:List (List Keyed),St κ C kd a₀ ak Ts/\Ts.flatten.length=Rs.flatten.length/\(arrOf ak).toList.drop Rs.flatten.length=(arrOf iQ).toList.drop Rs.flatten.length) (λx c ak _ hx hI=>?_) (λc ak hI=>hI) ⟨rfl,Rs,S3,rfl,rfl⟩) λc ak hI=>?_)
    .obtain ⟨rfl,Ts,hT,hl,ha⟩:=hI
     refine aQ (nr ?_)
     have hc:=hT.cnt
     simp only [hc]
     by_cases c3:Ts.length>1
     .rw [if_pos c3]
      cases hg:(pendingOf ak)[Ts.length-2]? with
      | none=>exact a9 ⟨rfl,Ts,hT,hl,ha⟩
      | some p =>
       obtain ⟨p1,p2,p3⟩:=p
       dsimp only
       split
       .exact a9 ⟨rfl,Ts,hT,hl,ha⟩
       .obtain ⟨Xs,R1,R2,rfl,hX⟩:=J2 (Rs:=Ts) ‹_›
        refine aQ ?_
        refine D7 hk k hT hX.symm λvK R uo n8 mO=>?_
        rw [if_neg (by decide)]
        exact a9 ⟨rfl,_,uo,n8.trans hl,by rw [hl] at mO;exact mO.trans ha⟩
     .rw [if_neg c3]
      exact a9 ⟨rfl,Ts,hT,hl,ha⟩
    .obtain ⟨rfl,Ts,hT,hl,ha⟩:=hI
     dsimp only
     refine aQ (pR (aQ (pR (a9 ⟨Ts++[((arrOf ak).toList.drop Ts.flatten.length).take n],?_,hT.push rfl rfl rfl (hT.rM.mod (λx=>(x.1,x.2.1,power' a₀.size (2*s1+tU) (2*s1+tU+tU+n) a₀.size)) (λ_=>⟨rfl,rfl⟩) ((pendingOf ak).size-1)) (by rw [hl];exact (wg ..).trans (by rw [N3];rfl)) n1 (by ext n2 hl) (by rw [hl,ha];exact t7),?_⟩))))
     .rw [sF,cM,sA,hl,ha,l3]
     .rw [sF,cM,sA,hl,ha,l3]
      ext hp m1
 .obtain ⟨Rs,rfl,hS,hp⟩:=hI
  have hle:=hS.le
  exact ⟨Rs,rfl,hS,by ext hp hle⟩
 .obtain ⟨Rs,rfl,hS,hp⟩:=hI
  dsimp only
  have hr:Rs.length<=a₀.size:=by rw [<-hp];exact b4t λR hR=>(hS.run R hR).1
  refine aQ (kE (kF (λx c ak=>c=(none,())/\∃Rs:List (List Keyed),St κ C kd a₀ ak Rs/\Rs.flatten.length=a₀.size/\Rs.length<=max 1 (a₀.size-x)) (Q:=λc ak=>c=(none,())/\∃Rs:List (List Keyed),St κ C kd a₀ ak Rs/\Rs.flatten.length=a₀.size/\Rs.length<=1) (λx c ak _ hx hI=>?_) (λc ak hI=>?_) ⟨rfl,Rs,hS,hp,by ext hr⟩) λc ak hI=>?_)
  .obtain ⟨rfl,Rs,hS,hp,hl⟩:=hI
   refine aQ (nr ?_)
   have hc:=hS.cnt
   simp only [hc]
   by_cases c1:Rs.length<=1
   .rw [if_pos c1]
    exact a9 ⟨rfl,Rs,hS,hp,c1⟩
   rw [if_neg c1]
   refine aQ ?_
   have key:∀j,(j=Rs.length-2\/(3<=Rs.length/\j=Rs.length-3))->∀{Q:Bool->SortSt->Prop},(∀ak Ts,St κ C kd a₀ ak Ts->Ts.flatten.length=Rs.flatten.length->Ts.length+1=Rs.length->Q true ak)->wpS (model prog w) A E s (mergeAt' j) Q ak:=λj hj Q hq=>by
    rcases hj with rfl | ⟨h3,rfl⟩
    .obtain ⟨Xs,R1,R2,rfl,hX⟩:=J2 (Rs:=Rs) (by ext c1)
     exact D7 hk k hS hX.symm λvK R uo n8 _=>hq vK _ uo n8 (by simp)
    .obtain ⟨Xs,R1,R2,R3,rfl,hX⟩:=b8m (Rs:=Rs) ‹_›
     exact D7 hk k hS hX.symm λvK R uo n8 _=>hq vK _ uo n8 (by simp)
   refine key _ ?_ λvK Ts hT h1 h2=>?_
   .by_cases c2:Rs.length-2>0
    .rw [if_pos c2]
     split
     .exact .inr ⟨by ext c2,by ext⟩
     .exact .inl rfl
    .rw [if_neg c2]
     exact .inl rfl
   .rw [if_neg (by decide)]
    exact a9 ⟨rfl,Ts,hT,by ext hp h1,by ext hl h2⟩
  .obtain ⟨rfl,Rs,hS,hp,hl⟩:=hI
   exact ⟨rfl,Rs,hS,hp,by ext hl⟩
  .obtain ⟨rfl,Rs,hS,hp,hl⟩:=hI
   refine a9 (hQ _ hS.perm hS.failed ?_)
   have e:(arrOf ak).toList=Rs.flatten:=by
    have:=hS.pre
    rw [uJ (by rw [gQ,hS.perm.size_eq];ext hp)] at this
    exact this
   rw [e]
   match Rs,hl,hS.run,hp with
   | [],_,_,hp=>exact Jb
   | [R],_,hr,_ =>
    rw [DV,List.flatten_nil,oh]
    exact (hr R (by simp)).2
end
end SO
noncomputable def lI:Nat:=1600000
namespace TS
open PySem PyProof.Rows
noncomputable abbrev kTup:Bool → SortKind:=sortPriv% PySem.Builtin.KeyKind.tuples
theorem b6K(x y:Value):keyLt' (kTup true) x y=(do
  let us <-DG x
  let vs <-DG y
  for ((p,q),i) in (us.toList.zip vs.toList).zipIdx do
   if !(<-eqBool p q) then return <-oneLt' (true&&i==0) p q
  return decide (us.size<vs.size)):=rfl
section
variable {prog:Program}{w:World}{A:Around}{E:Value->Shared->Prop}{s:Shared}
theorem b4b(hx:s.heap.get? x=some ox)(dx:ox.data=.seq (lG a t::us).toArray n)
  (hy:s.heap.get? y=some oy)(dy:oy.data=.seq (lG b u::vs).toArray m)(aW:a≠b)(h:Q (decide (a<b)) s):wpAny (model prog w) A (keyLt' (kTup true) (.ref x) (.ref y)) Q E s:=by
 rw [b6K]
 refine aA (wa hx dx (aA (wa hy dy ?_)))
 dsimp only
 rw [Jf,Dw,Du]
 refine aA (aA ?_)
 dsimp only
 refine aA (wpAny_eqBool_int ?_)
 rw [if_pos (by simp [aW])]
 exact aA (oneLt_int (bC (bC (bC h))))
noncomputable def kI(ky:Value->Int)(xs:Array Keyed)(i:Nat):Int:=match xs[i]? with
 | some p=>ky p.1
 | none=>0
structure TB(a₀:Array Keyed)(st:SortSt):Prop where
 perm:(arrOf st).Perm a₀
 kind:kindOf st=kTup true
 failed:failedOf st=none
 pend:pendingOf st=#[]
def Cj(s:Shared)(ky:Value->Int)(a₀:Array Keyed):Prop:=∀p∈a₀.toList,∃x o t us n,p.1=.ref x/\s.heap.get? x=some o/\o.data=.seq (lG (ky p.1) t::us).toArray n
def vJ(ky:Value->Int)(a₀:Array Keyed):Prop:=(a₀.toList.map λp=>ky p.1).Nodup
variable {ky:Value->Int}{a₀:Array Keyed}
def Fz(ky:Value->Int)(xs:Array Keyed)(k:Nat):Prop:=∀i j,i<j->j<k->kI ky xs i<kI ky xs j
theorem ym{st:SortSt}{Q:Unit->SortSt->Prop}(hk:Cj s ky a₀)(hd:vJ ky a₀)(hB:TB a₀ st)(h2:2<=a₀.size)(dR:a₀.size<lI)
  (h:∀ak,(arrOf ak).Perm a₀->failedOf ak=none->Fz ky (arrOf ak) a₀.size->Q () ak):wpS (model prog w) A E s sortRuns' Q st:=by
 refine SO.yn (kd:=kTup true) (κ:=λp=>ky p.1) (C:=λp=>∃x o t us n,p.1=.ref x/\s.heap.get? x=some o/\o.data=.seq (lG (ky p.1) t::us).toArray n) ⟨λ{x y} cx cy aW=>?_⟩ ⟨hk,hd⟩ ⟨hB.perm,hB.kind,hB.failed,rfl,nD _,by rw [hB.pend];trivial,λR hR=>nomatch hR⟩ h2 λak p f i=>h ak p f λa b nh hb=>?_
 .obtain ⟨x1,o,t,us,n,e1,e2,e3⟩:=cx
  obtain ⟨y1,o',t',us',n',f1,f2,f3⟩:=cy
  intro A E Q hQ
  generalize ky x.1=kx at *
  generalize ky y.1=kz at *
  rw [e1,f1]
  exact b4b e2 e3 f2 f3 aW hQ
 .exact SO.fY i nh (by rw [p.size_eq];exact hb)
def TupAt(s:Shared)(ky:Value->Int)(v:Value):Prop:=∃x o t us n,v=.ref x/\s.heap.get? x=some o/\o.cls=.type "tuple" /\ o.data=.seq (lG (ky v) t::us).toArray n
theorem b5M(vs:List Value)(hv:∀v∈vs,TupAt s ky v)(h:∀ts:List Tok,ts.length=vs.length->Q (oi (λv t=>some (lG (ky v) t)) vs ts) s):wpAny (model prog w) A (vs.mapM firstOfTuple') Q E s:=by
 induction vs generalizing Q with
 | nil=>rw [List.mapM_nil];exact bC (h [] rfl)
 | cons v vs ih =>
  rw [List.mapM_cons]
  obtain ⟨x,o,t,us,n,e1,e2,e3,e4⟩:=hv v aZ
  have ht:s.TypeIs v "tuple":=by rw [e1];exact ⟨o,e2,e3⟩
  have one:wpAny (model prog w) A (firstOfTuple' v) (λr s'=>s'=s/\r=some (lG (ky v) t)) E s:=by
   show wpAny _ _ (typeOf v >>= λT=>if (T != sv "tuple")=true then pure none else DG v >>= λus=>pure us[0]?) _ _ _
   refine aA (wpAny_typeOf ht ?_)
   rw [if_neg (by simp)]
   have li:wpAny (model prog w) A (DG (.ref x)) (λus s'=>wpAny (model prog w) A (pure us[0]?) (λr s'=>s'=s/\r=some (lG (ky v) t)) E s') E s:=wa e2 e4 (bC ⟨rfl,rfl⟩)
   rw [<-e1] at li
   exact aA li
  refine aA (jY one (λr s' hr=>?_) λ_ _ z=>z)
  obtain ⟨rfl,rfl⟩:=hr
  exact aA (ih (λu hu=>hv u (br _ hu)) λts hl=>bC (h (t::ts) (by simp [hl])))
theorem y3(vs:List Value){Q:SortKind->Shared->Prop}(aW:vs≠[])(hv:∀v∈vs,TupAt s ky v)(h:Q (kTup true) s):wpAny (model prog w) A (keyKind' vs.toArray) Q E s:=by
 rw [keyKind'_eq,List.mapM_toArray,map_eq_pure_bind]
 refine aA (aA (b5M vs hv λts hl=>bC ?_))
 have hi:∀(us:List Value) (ts:List Tok),ts.length=us.length->(oi (λv t=>some (lG (ky v) t)) us ts).all (·.isSome)=true/\∃ws ns,(oi (λv t=>some (lG (ky v) t)) us ts).filterMap id=ws/\IntsAre ws ns/\ws.length=us.length:=λus=>by
  induction us with
  | nil=>intro ts _;exact ⟨by simp,[],[],by simp,.nil,rfl⟩
  | cons u us ih =>
   intro ts hl
   cases ts with
   | nil=>simp at hl
   | cons t ts =>
    obtain ⟨h1,ws,ns,h2,h3,h4⟩:=ih ts (by simpa using hl)
    exact ⟨by simpa using h1,_::ws,_::ns,by simp [h2],.cons (ky u) t h3,by simp [h4]⟩
 obtain ⟨h1,ws,ns,h2,h3,h4⟩:=hi vs ts hl
 rw [if_pos (by simpa using h1)]
 refine aA (wb (aA ?_))
 have e:(oi (λv t=>some (lG (ky v) t)) vs ts).toArray.filterMap id=ws.toArray:=by simp [h2]
 rw [e,oneTypeOnly'_eq,List.mapM_toArray,mapM_typeOf_ints h3]
 have Hd:ws≠[]:=λz=>by rw [z] at h4;exact aW (DI.mp h4.symm)
 cases ws with
 | nil=>exact absurd rfl Hd
 | cons a ws =>
  simp only [map_pure,pure_bind]
  have jE:((jZ (λ_=>sv "int") (a::ws)).toArray.all λx=>x==sv "int")=true:=by simp
  have h0:(jZ (λ_=>sv "int") (a::ws)).toArray[0]?=some (sv "int"):=by simp
  rw [h0]
  simp only [jE,if_true]
  exact bC (bC h)
theorem b8K{vs:List Value}{xs:Array Keyed}(hp:xs.Perm (pairsOf vs))(hi:Fz ky xs (pairsOf vs).size):(xs.map (·.2)).toList.Perm vs/\(xs.map (·.2)).toList.Pairwise λx y=>ky x<ky y:=by
 have dr:=wx.mp hp
 have hz:(vs.zip vs).map (·.2)=vs:=by rw [List.map_snd_zip];exact bw _
 have oW:∀p∈xs.toList,p.1=p.2:=λp zt=>by
  have:=dr.mem_iff.mp zt
  rw [Dy] at this
  have key:∀(us:List Value) (p:Value×Value),p∈us.zip us->p.1=p.2:=λus=>by
   induction us with
   | nil=>intro p z;cases z
   | cons u us ih =>
    intro p z
    rcases bq.mp z with rfl | z
    .rfl
    .exact ih p z
  exact key vs p this
 rw [Array.toList_map]
 refine ⟨by have:=dr.map (·.2);rw [Dy,hz] at this;exact this,?_⟩
 rw [pf,AX]
 intro i j h1 h2 cI
 have hsz:xs.size=(pairsOf vs).size:=hp.size_eq
 have g:∀k (hk:k<xs.toList.length),kI ky xs k=ky (xs.toList[k]).2:=λk hk=>by
  have XJ:k<xs.size:=by simpa using hk
  unfold kI
  rw [getElem?_pos _ k XJ]
  have:=oW xs.toList[k] (qR hk)
  show ky (xs[k]).1=_
  rw [<-this]
  simp
 rw [<-g i h1,<-g j h2]
 exact hi i j cI (by rw [<-hsz];simpa using h2)
theorem yf(zA:s.heap.get? l0=some (seqObj "list" vs.toArray n))(hv:∀v∈vs,TupAt s ky v)(hd:(vs.map ky).Nodup)(dR:vs.length<lI)
  (h:∀out:Array Value,out.toList.Perm vs->(out.toList.Pairwise λx y=>ky x<ky y)->P (.done (.ret .none)) { s with heap:=sortedHeap s.heap l0 vs out }):wpAny (model prog w) A (Builtin.«list.sort» ⟨[.ref l0],[]⟩) P E s:=by
 have bE:l0<s.heap.objs.size:=bX zA
 obtain ⟨k1,vV⟩:∃k1,(s.heap.update l0 (fS λ_=>#[])).get? l0=some (seqObj "list" #[] k1):=⟨_,Dr zA λ_=>#[]⟩
 rw [list_sort_plain]
 have hZ:vs.length<=sizeLine:=by rw [iV];unfold lI at dR;ext dR
 have Nu:vs.toArray.size<=sizeLine:=by rw [dU];exact hZ
 have X4:vs.toArray.toList.length<=sizeLine:=Nu
 refine aA (wa zA rfl (aA (wu (hsz:=Nu) zA rfl (aA (Dk vV rfl (aA (II (hsz:=X4) (aA (Dj (pT ?_))))))))))
 have ij:(((s.heap.update l0 (fS λ_=>#[])).push (seqObj "tuple" vs.toArray 0)).push (seqObj "list" #[] 0)).get? l0=some (seqObj "list" #[] k1):=bR _ (bR _ vV)
 have up:∀b o,b≠l0->s.heap.get? b=some o->(((s.heap.update l0 (fS λ_=>#[])).push (seqObj "tuple" vs.toArray 0)).push (seqObj "list" #[] 0)).get? b=some o:=λb o hb e =>
  bR _ (bR _ ((oq _ _ (gy hb)).trans e))
 have zj:∀v∈vs,TupAt { s with heap:=((s.heap.update l0 (fS λ_=>#[])).push (seqObj "tuple" vs.toArray 0)).push (seqObj "list" #[] 0) } ky v:=λv zk=>by
  obtain ⟨x,o,t,us,m,e1,e2,e3,e4⟩:=hv v zk
  have hx:x≠l0:=λz=>by
   rw [z,zA] at e2
   cases e2
   have:("list":String) = "tuple":=Value.type.inj e3
   exact absurd this (by decide)
  exact ⟨x,o,t,us,m,e1,up x o hx e2,e3,e4⟩
 dsimp only
 show wpAny _ _ _ _ _ { s with heap:=((s.heap.update l0 (fS λ_=>#[])).push (seqObj "tuple" vs.toArray 0)).push (seqObj "list" #[] 0) }
 generalize hS:({ s with heap:=((s.heap.update l0 (fS λ_=>#[])).push (seqObj "tuple" vs.toArray 0)).push (seqObj "list" #[] 0) }:Shared)=S at zj ⊢
 have X7:S.heap=((s.heap.update l0 (fS λ_=>#[])).push (seqObj "tuple" vs.toArray 0)).push (seqObj "list" #[] 0):=by rw [<-hS]
 have fK:S.heap.get? l0=some (seqObj "list" #[] k1):=by rw [X7];exact ij
 have ends:∀st:SortSt,(arrOf st).Perm (pairsOf vs)->failedOf st=none->Fz ky (arrOf st) (pairsOf vs).size ->
   wpAny (model prog w) A (do
    let touched:=(<-seqEpoch l0) != k1
    Builtin.List.listUpdate (.ref l0) λ_=>(arrOf st).map (·.2)
    if let some e:=failedOf st then rule "list.sort.comparison-raised";throw e
    if touched then rule "list.sort.modified";raiseError "ValueError" "list modified during sort"
    ret .none) P E S:=λst hp hf hi=>by
  obtain ⟨o1,o2⟩:=b8K hp hi
  refine aA (Dk fK rfl (aA (wu fK rfl ?_ (hsz2:=?_))))
  .rw [hf]
   simp only [bne_self_eq_false,qM,if_false]
   refine bC ?_
   have:=h _ o1 o2
   rw [<-hS]
   exact this
  .rw [Array.size_map,hp.size_eq,Dq,iV];unfold lI at dR;ext dR
 have zD:Cj S ky (pairsOf vs):=λp hp=>by
  rw [Dy] at hp
  obtain ⟨x,o,t,us,m,e1,e2,e3,e4⟩:=zj p.1 (AQ hp).1
  exact ⟨x,o,t,us,m,e1,e2,e4⟩
 have zO:vJ ky (pairsOf vs):=by
  unfold vJ
  rw [Dy,show (vs.zip vs).map (λp=>ky p.1)=((vs.zip vs).map (·.1)).map ky by rw [fT];rfl,List.map_fst_zip (bw _)]
  exact hd
 have hsz:vs.toArray.size=vs.length:=by simp
 by_cases h2:vs.toArray.size<2
 .rw [if_pos h2]
  refine aA (bC ?_)
  rw [if_pos h2,StateT.run_pure]
  refine aA (bC ?_)
  exact ends (Az general' (pairsOf vs) #[] 7 none) (sG _) rfl λi j cI hj=>by rw [Dq] at hj;ext hsz h2 cI hj
 .rw [if_neg h2]
  refine aA (y3 vs (λz=>by rw [z] at hsz;simp at h2;simp [z] at h2) zj ?_)
  rw [if_neg h2]
  refine aA (jY (ym (a₀:=pairsOf vs) (st:=Az (kTup true) (pairsOf vs) #[] 7 none) (Q:=λ_ ak=>(arrOf ak).Perm (pairsOf vs)/\failedOf ak=none/\Fz ky (arrOf ak) (pairsOf vs).size) zD zO ⟨sG _,rfl,rfl,rfl⟩ (by rw [Dq];ext hsz h2) (by rw [Dq];exact dR) λak a b c=>⟨a,b,c⟩) (λr s' hr=>?_) λ_ _ z=>z)
  obtain ⟨rfl,p1,p2,p3⟩:=hr
  exact ends r.2 p1 p2 p3
theorem qi(hl:s.heap.IsList l vs.toArray)(hv:∀v∈vs,TupAt s ky v)(hd:(vs.map ky).Nodup)(dR:vs.length<lI)
  (h:∀out:Array Value,out.toList.Perm vs->(out.toList.Pairwise λx y=>ky x<ky y)->Q (.ref (s.heap.objs.size+1)) { s with heap:=sortedAll s.heap vs out }):wpAny (model prog w) A (call (.builtin "sorted") [.ref l]) Q E s:=by
 refine Calls.call_function_entry kind_sorted plain_sorted entry_sorted (args_sorted1 _) ?_
 unfold Builtin.«sorted»
 have hZ:vs.length<=sizeLine:=by rw [iV];unfold lI at dR;ext dR
 refine aA (m:=checkCount "sorted" 1 1 _) (bC (aA (collect_list (hsz:=hZ) hl (aA (Dj (hsz:=hZ) ?_)))))
 have z1:((s.heap.push (seqObj "list" #[] 0)).update s.heap.objs.size (fS (·++vs.toArray))).objs.size=s.heap.objs.size+1:=(ID ..).trans (Dd _ _)
 have z2:(((s.heap.push (seqObj "list" #[] 0)).update s.heap.objs.size (fS (·++vs.toArray))).push (seqObj "list" vs.toArray 0)).get? (s.heap.objs.size+1)=some (seqObj "list" vs.toArray 0):=by
  rw [<-z1]
  exact fD _ rfl
 have up:∀b o,s.heap.get? b=some o->(((s.heap.push (seqObj "list" #[] 0)).update s.heap.objs.size (fS (·++vs.toArray))).push (seqObj "list" vs.toArray 0)).get? b=some o:=λb o e =>
  bR _ ((oq _ _ (uG (bX e))).trans (bR _ e))
 show wpAny _ _ _ _ _ { s with heap:=((s.heap.push (seqObj "list" #[] 0)).update s.heap.objs.size (fS (·++vs.toArray))).push (seqObj "list" vs.toArray 0) }
 rw [z1]
 have G4:∀v∈vs,TupAt { s with heap:=((s.heap.push (seqObj "list" #[] 0)).update s.heap.objs.size (fS (·++vs.toArray))).push (seqObj "list" vs.toArray 0) } ky v:=λv zk=>by
  obtain ⟨x,o,t,us,m,e1,e2,e3,e4⟩:=hv v zk
  exact ⟨x,o,t,us,m,e1,up x o e2,e3,e4⟩
 refine aA (pT (uP slot_list_sort ⟨_,z2,rfl⟩ entry_list_sort (yf z2 G4 hd dR λout o1 o2=>⟨_,rfl,?_⟩) (args_list_sort _)))
 exact bC ⟨_,rfl,h out o1 o2⟩
end
end TS
namespace DL
open PySem PySem.Spec PyProof.Rows L2
theorem Q4{α β:Type}{f:α->β}{l:List β}{ts:List α}(h:l.Perm (ts.map f)):∃us:List α,us.Perm ts/\us.map f=l:=by
 generalize e:ts.map f=m at h
 induction h generalizing ts with
 | nil=>exact ⟨[],by rw [List.map_eq_nil_iff.mp e],rfl⟩
 | cons x _ ih =>
  cases ts with
  | nil=>cases e
  | cons t ts =>
   cases e
   obtain ⟨us,h1,h2⟩:=ih rfl
   exact ⟨t::us,h1.cons t,by rw [eM,h2]⟩
 | swap x y l =>
  match ts,e with
  | a::b::ts,e =>
   cases e
   exact ⟨b::a::ts,List.Perm.swap _ _ _,rfl⟩
 | trans _ _ Xe GK =>
  obtain ⟨us,h1,h2⟩:=GK e
  obtain ⟨ws,h3,h4⟩:=Xe h2
  exact ⟨ws,h3.trans h1,h4⟩
noncomputable def wL(s:Shared):Value->Int
 | .ref x=>match s.heap.get? x with
  | some o=>match o.data with
   | .seq xs _=>match xs[0]? with
    | some (lG a _)=>a
    | _=>0
   | _=>0
  | _=>0
 | _=>0
section
variable {X:Cx}
theorem a9U:cw X (.builtin "sorted") (λxs H Q=>∃(p:Addr) (ts:List (Addr×Int×D)),xs=[.ref p]/\Sq X.K H true p (ts.map λt=>V.ref t.1)/\(∀t∈ts,∃zs,eO X.K H t.1 (.int t.2.1::zs))/\(ts.map (·.2.1)).Nodup/\ts.length<lI /\
  ∀(us:List (Addr×Int×D)) (a:Addr),us.Perm ts->(us.Pairwise λx y=>x.2.1<y.2.1)->H a=none->Q (.ref a) (upd H a (.lst (us.map λt=>V.ref t.1)))):=by
 intro pins s σ H xs vs Q I r h
 obtain ⟨p,ts,rfl,hq,M',oX,dR,q⟩:=h
 obtain ⟨u,rfl,ru⟩:=r.one
 cases ru
 obtain ⟨aq,rv,pl⟩:=pA (b:=true) I hq
 have hits:aq=ts.map λt=>eL t.1:=by
  clear pl hq M' oX dR q
  induction ts generalizing aq with
  | nil=>cases rv;rfl
  | cons t ts ih =>
   cases rv with
   | cons a b =>
    cases a
    rw [eM,ih _ b]
 subst hits
 have CV:∀t∈ts,TS.TupAt s (wL s) (.ref t.1)/\wL s (.ref t.1)=t.2.1:=λt ht=>by
  obtain ⟨zs,hz⟩:=M' t ht
  obtain ⟨ws,yk,pt,_⟩:=I.tuple hz
  obtain ⟨o,ho,hc,n,hd⟩:=(show s.heap.IsTuple t.1 ws.toArray from pt)
  cases yk with
  | cons a b =>
   obtain ⟨tk,rfl⟩:=a
   have e:wL s (.ref t.1)=t.2.1:=by
    unfold wL
    dsimp only
    rw [ho]
    dsimp only
    rw [hd]
    rfl
   exact ⟨⟨t.1,o,tk,_,n,rfl,ho,hc,by rw [e];exact hd⟩,e⟩
 have Hg:(ts.map λt=>eL t.1).map (wL s)=ts.map (·.2.1):=by
  rw [fT]
  exact N2 λt ht=>(CV t ht).2
 refine TS.qi (ky:=wL s) pl (λv hv=>?_) (by rw [Hg];exact oX) (by rw [aX];exact dR) λout o1 o2=>?_
 .obtain ⟨t,ht,rfl⟩:=cH.mp hv
  exact (CV t ht).1
 .obtain ⟨us,u1,u2⟩:=Q4 o1
  have u3:us.Pairwise λx y=>x.2.1<y.2.1:=by
   rw [<-u2,pf] at o2
   refine o2.imp_of_mem λ{x y} hx hy z=>?_
   rwa [(CV x (u1.subset hx)).2,(CV y (u1.subset hy)).2] at z
  obtain ⟨e,he⟩:=sortedAll_at s.heap (ts.map λt=>eL t.1) out
  have fr:H (s.heap.objs.size+1)=none:=I.bu.fresh (AK _)
  refine ⟨.ref (s.heap.objs.size+1),_,I.laid (o:=.lst (us.map λt=>V.ref t.1)) (t':=s.toks) (λb o e=>sortedAll_old e) (AK _) ⟨?_,out.toList,e,?_,?_⟩,rfl,q us _ u1 u3 fr⟩
  .rw [aX,u1.length_eq,iV];unfold lI at dR;ext dR
  .rw [<-u2]
   clear u1 u3 u2
   induction us with
   | nil=>exact .nil
   | cons t us ih=>exact .cons rfl ih
  .simpa using he
noncomputable def y4:D->Option (Int×D)
 | .tup (.int k::ds)=>some (k,.tup (.int k::ds))
 | _=>none
noncomputable def b2i:List D->Option (List (Int×D))
 | []=>some []
 | d::ds=>(y4 d).bind λk=>(b2i ds).map λks=>k::ks
noncomputable def wI(ds:List D):Option (List D):=(b2i ds).bind λks=>if (ks.map (·.1)).Nodup/\ks.length<lI then some ((ks.mergeSort λa b=>decide (a.1<=b.1)).map (·.2)) else none
noncomputable def EG(f:En->Option Sl):En->Option Sl:=λenv=>(f env).bind λr=>match r.d with
 | .lst _ ds=>(wI ds).map Sl.ow
 | _=>none
theorem Sa:∀{l m:List (Int×D)},l.Perm m->(l.map (·.1)).Nodup->(l.Pairwise λa b=>a.1<=b.1)->(m.Pairwise λa b=>a.1<=b.1)->l=m
 | [],m,h,_,_,_=>(List.nil_perm.mp h).symm
 | a::l,[],h,_,_,_=>by have:=h.length_eq;simp at this
 | a::l,b::m,h,hn,hl,hm=>by
  have nh:a=b:=by
   have h1:a∈b::m:=h.subset aZ
   have h2:b∈a::l:=h.symm.subset aZ
   have e:a.1=b.1:=by
    have k1:b.1<=a.1:=by
     rcases bq.mp h1 with z | z
     .rw [z];exact bF _
     .exact (fC.mp hm).1 a z
    have k2:a.1<=b.1:=by
     rcases bq.mp h2 with z | z
     .rw [z];exact bF _
     .exact (fC.mp hl).1 b z
    ext k1 k2
   rcases bq.mp h2 with z | z
   .exact z.symm
   .have:=(uE.mp hn).1
    exact absurd (cH.mpr ⟨b,z,e.symm⟩) this
  subst nh
  rw [Sa (h.cons_inv) (uE.mp hn).2 (fC.mp hl).2 (fC.mp hm).2]
theorem b2F(hg:Gl X "sorted")(hm:X.mg "sorted" = none)(he:EV X e fa)(hs:starEach [e] X.env=[(false,eval e X.env)]:=by rfl):EV X (.Call (.Name "sorted" p) [e] [] pos) (EG fa):=by
 obtain ⟨t,pt,k⟩:=he
 refine ⟨_,sU a9U hg hm (by decide +kernel) (oC pt pC hs) (by decide) (by decide) hs rfl,λO B σ H env s Q R e q=>?_⟩
 obtain ⟨r,e1,e2⟩:=bind_some e
 refine k O B σ H env r _ R e1 λv H1 s1 r1=>?_
 have hi:=r1.is λq=>R.oo
 cases hd:r.d with
 | lst b ds =>
  rw [hd] at e2 hi
  obtain ⟨rs,e3,rfl⟩:=map_some (show (wI ds).map Sl.ow=some s from e2)
  obtain ⟨ks,e4,e5⟩:=bind_some e3
  obtain ⟨⟨oX,dR⟩,rfl⟩:=gU e5
  obtain ⟨a,xs,rfl,h2,h3⟩:=hi.seq (k:=true) rfl
  have lay:∀{xs:List V} {ds:List D} {ks:List (Int×D)},aN X.K (OO O σ env) H1 xs ds->b2i ds=some ks->∃ts:List (Addr×Int×D),xs=ts.map (λt=>V.ref t.1)/\ks=ts.map (λt=>t.2)/\∀t∈ts,Is X.K (OO O σ env) H1 (.ref t.1) t.2.2/\∃zs,eO X.K H1 t.1 (.int t.2.1::zs):=λ{xs ds ks} hI=>by
   intro hk
   induction ds generalizing xs ks with
   | nil=>cases hI;cases hk;exact ⟨[],rfl,rfl,λ_ z=>nomatch z⟩
   | cons d ds ih =>
    cases hI with
    | cons i1 i2 =>
     rename_i x jv
     obtain ⟨kd,f1,f2⟩:=bind_some hk
     obtain ⟨ks',f3,f4⟩:=map_some f2
     obtain ⟨ts,g1,g2,g3⟩:=ih i2 f3
     obtain ⟨kk,rest,rfl,rfl⟩:∃kk rest,d=.tup (.int kk::rest)/\kd=(kk,d):=by
      unfold y4 at f1
      split at f1
      .cases f1;exact ⟨_,_,rfl,rfl⟩
      .cases f1
     obtain ⟨ad,zs,rfl,hz,tZ⟩:=i1.seq (k:=false) rfl
     cases tZ with
     | cons z1 z2 =>
      obtain rfl:=iY z1
      refine ⟨(ad,kk,.tup (.int kk::rest))::ts,by rw [g1];rfl,by rw [<-f4,g2];rfl,λt ht=>?_⟩
      rcases bq.mp ht with rfl | ht
      .exact ⟨i1,_,hz⟩
      .exact g3 t ht
  obtain ⟨ts,rfl,rfl,g3⟩:=lay h3 e4
  rw [fT] at oX
  rw [aX] at dR
  refine ⟨a,ts,rfl,h2,λt ht=>(g3 t ht).2,oX,dR,λus c u1 u2 hc=>?_⟩
  have oW:us.map (λt=>t.2)=(ts.map λt=>t.2).mergeSort λa b=>decide (a.1<=b.1):=by
   refine Sa ((u1.map _).trans (Oj _ _).symm) ?_ ?_ ?_
   .rw [fT];exact (u1.map _).nodup_iff.mpr oX
   .rw [pf];exact u2.imp λ{x y} z=>AE z
   .have:=N1 (le:=λa b:Int×D=>decide (a.1<=b.1)) (λa b c h1 h2=>by simp at *;ext h1 h2) (λa b=>by simp;ext) (ts.map λt=>t.2)
    exact this.imp λ{x y} z=>by simpa using z
  rw [<-oW,fT] at q
  refine q _ _ (s1.trans (pG hc _)) ((Bn hc ?_).from s1)
  have conv:∀ws:List (Addr×Int×D),(∀t∈ws,Is X.K (OO O σ env) H1 (.ref t.1) t.2.2)->aN X.K (OO O σ env) H1 (ws.map λt=>V.ref t.1) (ws.map λt=>t.2.2):=λws=>by
   induction ws with
   | nil=>exact λ_=>.nil
   | cons w ws ih=>exact λhw=>.cons (hw w aZ) (ih λz hz=>hw z (br _ hz))
  exact conv us λt ht=>(g3 t (u1.subset ht)).1
 | _=>rw [hd] at e2;cases e2
noncomputable def OG(f:En->Option Sl):En->Option Sl:=λenv=>(iW (f env)).map λb=>.sh (.int (if b then 1 else 0))
end
end DL
namespace DL
open PySem PySem.Spec PyProof.Rows L2
section
variable {X:Cx}
def nY(_ j:Int):Prop:=j≠0 /\ -LIM<=j/\j<=LIM
noncomputable instance (i j:Int):Decidable (nY i j):=by unfold nY;infer_instance
noncomputable def D1:D->D->Option Sl:=gI nY Int.fdiv
theorem PX:jR X (binaryOp .FloorDiv) D1:=wJ (tQ λi j _ _ _ _ _ (hc:nY i j) q=>by
 have h1:j≠0:=hc.1
 exact floordiv_int h1 q (.inl (Ou (by have:=Kc (j:=j) hc.2.1 hc.2.2;exact fq ‹_› (by decide)))))
theorem b9e(hb:b≠0)(h1:-B<=a)(h2:a<=B):-B<=a.fdiv b/\a.fdiv b<=B:=by
 rcases Int.lt_or_gt_of_ne hb with h | h
 .rw [<-Int.neg_fdiv_neg,Jp _ (by ext h)]
  have hB:0<=B:=by ext h1 h2
  refine ⟨Od (by ext h) ?_,v9 (Int.ediv_le_ediv (by ext h) (show -a<=B by ext h1)) (Int.ediv_le_self _ hB)⟩
  have:=uQ (show 1 <= -b by ext h) hB
  rw [Ij]
  ext h2 this
 .rw [Jp _ (by ext h)]
  have hB:0<=B:=by ext h1 h2
  refine ⟨Od h ?_,v9 (Int.ediv_le_ediv h h2) (Int.ediv_le_self _ hB)⟩
  have:=uQ (show 1<=b by assumption) hB
  rw [Ij]
  ext h1 this
end
end DL
namespace DL
open PySem PySem.Spec PyProof.Rows L2
section
variable {prog:Program}{w:World}{A:Around}{E:Value->Shared->Prop}{s:Shared}{a₀:Array Keyed}
end
section
variable {X:Cx}{pins:List (Addr×Obj)}{s:Shared}{σ:L2.St}{H:Hp}
theorem xM(I:Inv X pins σ H s)(hf:cZ X pins H a)(new:cV X.prog X.w (upd H a o) s.heap a o):Inv X pins σ (upd H a o) s:=by
 have ne:∀b u,H b=some u->b≠a:=λb u e z=>by rw [z,hf.1] at e;cases e
 refine I.step (g':=s.gens) (t':=s.toks) (d':=s.drawn) (ch:=[a]) (h':=s.heap) (H':=upd H a o) (λb hb=>?_) (λb o _ _ _ e _=>e) (λb o _ _ _ e _=>⟨o.slots,e⟩) (λb o hc e n=>by rw [dk (by simpa using hc)];exact n) (λb o _ e=>⟨o,e⟩)
  (λb xs e=>by rw [dk (ne b _ e)];exact e) (λb o u e=>by rw [dk (ne b _ e)];exact e) (λb ps e=>⟨#[],by rw [dk (ne b _ e),e];simp⟩) (λm hm=>hm) (λb u e=>?_) I.bare
 .obtain rfl:b=a:=by simpa using hb
  exact ⟨hf.2.2.2.1,hf.2.1,hf.2.2.2.2.1,hf.2.2.2.2.2⟩
 .by_cases hb:b=a
  .subst hb
   rw [pH] at e
   cases e
   exact new
  .rw [dk hb] at e
   exact (I.bu b u e).j9 (λ_ _ _ q=>q) (λc _ _ q=>by rw [dk (ne c _ q)];exact q) λc xs q=>by rw [dk (ne c _ q)];exact q
theorem b4M(F:bY X.prog X.w X.K X.mg X.base jt k f fd ps (mY X.K ps.length φ))(h1:ps.length=1)(hr:bJ k A')(hA:A'.frames=X.A.frames)(hb:Binds X.K fd ps [])
  (I:Inv X pins σ H s)(rx:RelV x v)(hO:qb X.K O H)(hx:Is X.K O H x d)(e:φ [d]=some (.sh (.int n))):
  wpAny (model X.prog X.w) A' (call (.ref f) [v]) (λu s'=>∃t H',u=.int n t/\Inv X pins σ H' s'/\au H H'/\∀b o,s.heap.get? b=some o->cZ X pins H b->s'.heap.get? b=some o/\cZ X pins H' b) E s:=by
 have e0:=I.gx
 have E0:iH X.prog X.w X.K X.mg X.base A' X.stack s H:=⟨hA.trans e0.frames,e0.mod,e0.bs,e0.oz,e0.fN,e0.qD,e0.bu,e0.bare⟩
 refine wpAny_call (Dh (F.run A' X.stack s H ⟨[v],[]⟩ [v] [x] (λu H'=>u=.int n/\au H H') (λ_ _ _=>False) hr E0 (hb s [v] I.tX (by simp [h1])) (.cons rx .nil) ⟨O,[d],.sh (.int n),hO,.cons hx .nil,by simp [h1],e,λv' H' sm r=>⟨iY r,sm⟩⟩) λr s' hq=>?_)
 cases r with
 | error e=>exact iJ hq
 | ok fl =>
  cases fl with
  | ret u =>
   obtain ⟨v',H',os,bare,un,bu,rv,rfl,sm⟩:=hq
   obtain ⟨t,rfl⟩:=rv
   obtain ⟨hh,g,d',t',Gg⟩:=s'
   obtain rfl:Gg=s.os:=os
   refine ⟨t,H',rfl,I.call (h':=hh) (g':=g) (d':=d') (t':=t') (ch:=[]) un bu bare (λb z=>absurd z (by simp)),sm,λb o eb hf=>?_⟩
   have Wm:b∉nk X.stack:=λz=>by
    rcases bq.mp (I.g9 b z) with z | z
    .exact hf.2.1 z
    .exact hf.2.2.1 z
   exact ⟨un.keep b o eb hf.1 Wm (by simp),un.free b o eb hf.1 (by simp),hf.2⟩
  | next=>exact iJ hq
  | brk=>exact iJ hq
  | cont=>exact iJ hq
noncomputable def FX(φ:List D->Option Sl)(d0 d1:D):Option Sl:=match φ [d0],φ [d1] with
 | some (.sh (.int k0)),some (.sh (.int k1))=>some (.ow (if k1<k0 then [d1,d0] else [d0,d1]))
 | _,_=>none
noncomputable def yd(φ:List D->Option Sl):D->Option Sl
 | .lst _ [d0,d1]=>FX φ d0 d1
 | _=>none
noncomputable def b9t(φ:List D->Option Sl)(f:En->Option Sl):En->Option Sl:=λenv=>(f env).bind λr=>yd φ r.d
end
end DL
namespace DL
open PySem PySem.Spec PyProof.Rows L2
section
variable {X:Cx}{N:List Str}{sc:Scope}{k:Nat}{full:Bool}{pos pos' p1 p2 p3 p4:Pos}{e c:Expr}{fa:En->Option Sl}{ga:En->Option Bool}
noncomputable def iR(i:Nat)(f:En->Option Sl):SF:=λenv=>match env[i]? with
 | some (.sh (.int m))=>match f env with
  | some (.sh (.int n))=>some (.nx,env.set i (.sh (.int (m+n))))
  | _=>none
 | _=>none
theorem Q6(h:iR i f env=some y):∃m n,env[i]?=some (.sh (.int m))/\f env=some (.sh (.int n))/\y=(.nx,env.set i (.sh (.int (m+n)))):=by
 unfold iR at h
 split at h
 .rename_i m e1
  split at h
  .rename_i n e2
   cases h
   exact ⟨m,n,e1,e2,rfl⟩
  .cases h
 .cases h
theorem Fx.aug(h:Fx X N sc k full)(i:Nat)(he:EV X e fa)(hN:N[i]?=some x:=by rfl)(hv:Loc sc x:=by first | exact cD rfl | exact bH rfl)
  (hf:full=true\/sc.names.lookup x=some .local:=by first | exact cD rfl | exact bH rfl):SV X (.AugAssign (.Name x pos') .Add e pos) (iR i fa):=by
 obtain ⟨t,p,kk⟩:=he
 refine ⟨_,O4 h.tT (h.ix hN) (h.loc hv) p b88 (h.tJ hf),λO B σ H env fl aj D R e q=>?_⟩
 obtain ⟨m,n,hi,e1,e2⟩:=Q6 e
 cases e2
 obtain ⟨v,e3,hv⟩:=R.sh i _ hi
 obtain rfl:=iY hv
 refine ⟨_,e3,kk O B σ H env _ _ R e1 λv H1 s1 r1=>?_⟩
 obtain rfl:=iY r1
 refine ⟨m,n,rfl,rfl,?_⟩
 obtain ⟨R',g'⟩:=R.set (v:=.int (m+n)) (r:=.sh (.int (m+n))) s1 (Is.int (m+n)) (j0.mp hi).1
 exact q _ H1 R' g'
noncomputable def OP(i j:Nat)(c:En->Option Bool)(f:En->Option Sl):SF:=λenv=>match env[i]? with
 | some (.ow ds)=>forL (gN j) (cC c (az f) cR) ds env
 | _=>none
end
end DL
namespace DL
open PySem L2
def Wo{α:Type}(o:Option α)(Q:α->Prop):Prop:=∃a,o=some a/\Q a
section
variable {α β:Type}
theorem a0h{a:α}{Q:α->Prop}:Wo (some a) Q↔Q a:=⟨λ⟨_,e,h⟩=>by cases e;exact h,λh=>⟨a,rfl,h⟩⟩
theorem a0r:Wo (none:Option α) Q↔False:=⟨λ⟨_,e,_⟩=>(nomatch e),iJ⟩
theorem a0n{o:Option α}{f:α->Option β}{Q:β->Prop}:Wo (o.bind f) Q↔Wo o λa=>Wo (f a) Q:=by
 cases o with
 | none=>simp [Wo]
 | some a=>simp [Wo]
theorem a19{o:Option α}{f:α->β}{Q:β->Prop}:Wo (o.map f) Q↔Wo o λa=>Q (f a):=by
 cases o with
 | none=>simp [Wo]
 | some a=>simp [Wo]
theorem iM{c:Prop}[Decidable c]{a:α}{Q:α->Prop}:Wo (if c then some a else none) Q↔c/\Q a:=by
 by_cases h:c
 .rw [if_pos h,a0h];exact ⟨λz=>⟨h,z⟩,λz=>z.2⟩
 .rw [if_neg h,a0r];exact ⟨iJ,λz=>h z.1⟩
theorem Wo.mono{o:Option α}{P Q:α->Prop}(h:Wo o P)(k:∀a,P a->Q a):Wo o Q:=let ⟨a,e,p⟩:=h;⟨a,e,k a p⟩
theorem Wo.eq{o:Option α}{a:α}(h:Wo o λx=>x=a):o=some a:=let ⟨_,e,p⟩:=h;by rw [e,p]
theorem mT{o:Option α}{P Q:α->Prop}(k:∀a,P a↔Q a):Wo o P↔Wo o Q:=⟨λh=>h.mono λa=>(k a).mp,λh=>h.mono λa=>(k a).mpr⟩
end
noncomputable def oH(G:SF)(Q:Fl×En->Prop):Fl×En->Prop
 | (.nx,e)=>Wo (G e) Q
 | p=>Q p
theorem a7o:oH G Q (.nx,e)↔Wo (G e) Q:=eI
theorem b1O:oH G Q (.bk,e)↔Q (.bk,e):=eI
theorem b1N:oH G Q (.ct,e)↔Q (.ct,e):=eI
theorem b1M:oH G Q (.rt r,e)↔Q (.rt r,e):=eI
theorem Wo_seq:Wo (ai F G env) Q↔Wo (F env) (oH G Q):=by
 unfold ai
 cases h:F env with
 | none=>simp [Wo]
 | some p =>
  obtain ⟨fl,e⟩:=p
  rw [a0h]
  cases fl with
  | nx=>exact eI
  | bk=>rw [b1O];exact a0h
  | ct=>rw [b1N];exact a0h
  | rt r=>rw [b1M];exact a0h
theorem a3S:Wo (cC c F G env) Q↔Wo (c env) λb=>(b=true->Wo (F env) Q)/\(b=false->Wo (G env) Q):=by
 unfold cC
 cases h:c env with
 | none=>simp [Wo]
 | some b=>cases b<;>simp [a0h]
theorem b7v:Wo (cR env) Q↔Q (.nx,env):=a0h
theorem Wo_bk:Wo (F2 env) Q↔Q (.bk,env):=a0h
theorem Wo_ct:Wo (Ud env) Q↔Q (.ct,env):=a0h
theorem b9J:Wo (az f env) Q↔Wo (f env) λr=>Q (.rt r,env):=a19
theorem b7u:Wo (yh env) Q↔Q (.rt (.sh .aU),env):=a0h
theorem b9I:Wo (c6 i f env) Q↔Wo (f env) λr=>i<env.length/\Q (.nx,env.set i r):=by
 unfold c6;rw [a0n];simp only [iM]
theorem b28:Wo (aY i f env) Q↔Wo (f env) λr=>i<env.length/\Q (.nx,env.set i (.sh r.d)):=by
 unfold aY;rw [a0n];simp only [iM]
theorem b7Z{f:En->Option Sl}{env:En}{Q:Fl×En->Prop}:Wo (yi f env) Q↔Wo (f env) λ_=>Q (.nx,env):=a19
noncomputable def kJ:Option Sl->(Sl->Prop)->Prop
 | some (.sh d),Q=>Q (.sh d)
 | _,_=>False
theorem b7f:kJ (some (.sh d)) Q↔Q (.sh d):=eI
theorem Wo_eV:Wo (eV i env) Q↔kJ env[i]? Q:=by
 unfold eV
 cases env[i]? with
 | none=>simp [CA,kJ,Wo]
 | some s=>cases s<;>simp [CA,kJ,Wo]
theorem Wo_eC:Wo (eC d env) Q↔Q (.sh d):=a0h
theorem b92:Wo (ae g fa fb env) Q↔Wo (fa env) λx=>Wo (fb env) λy=>Wo (g x.d y.d) Q:=by
 unfold ae;rw [a0n];simp only [a0n]
theorem b9N:Wo (gh f env) Q↔Wo (f env) λx=>Wo (uu x.d) Q:=a0n
theorem b7B:Wo (uu (.int i)) Q↔Q (.sh (.int (-i))):=a0h
theorem b7H:Wo (bb (.int i) (.int j)) Q↔Q (.sh (.int (i+j))):=a0h
theorem b7z:Wo (bM (.int i) (.int j)) Q↔Q (.sh (.int (i-j))):=by rw [b9b,a0h]
theorem b7D:Wo (du (.int i) (.int j)) Q↔MulC i j/\Q (.sh (.int (i*j))):=iM
theorem b7G:Wo (bN (.int i) (.int j)) Q↔DivC i j/\Q (.sh (.int (i/j))):=iM
theorem b48:Wo (D1 (.int i) (.int j)) Q↔nY i j/\Q (.sh (.int (i.fdiv j))):=iM
theorem b7E:Wo (bI (.int i) (.int j)) Q↔0<j/\Q (.sh (.int (i%j))):=iM
theorem b7A:Wo (fj (.int i) (.int j)) Q↔PowC i j/\Q (.sh (.int (i^j.toNat))):=iM
theorem b9Q:Wo (gf (.int i) (.int j)) Q↔Q (.sh (.bl (decide (i<j)))):=a0h
theorem b9R:Wo (vY (.int i) (.int j)) Q↔Q (.sh (.bl (decide (i<=j)))):=a0h
theorem b9S:Wo (uw (.int i) (.int j)) Q↔Q (.sh (.bl (decide (j<i)))):=a0h
theorem b9T:Wo (Yi (.int i) (.int j)) Q↔Q (.sh (.bl (decide (j<=i)))):=a0h
theorem b9U:Wo (cX (.int i) (.int j)) Q↔Q (.sh (.bl (decide (i=j)))):=a0h
theorem b9P:Wo (iS (.int i) (.int j)) Q↔Q (.sh (.bl (!decide (i=j)))):=a0h
theorem b7F:Wo (cX (.bl i) (.bl j)) Q↔Q (.sh (.bl (decide (i=j)))):=a0h
theorem b7C:Wo (iS (.bl i) (.bl j)) Q↔Q (.sh (.bl (!decide (i=j)))):=a0h
theorem b47:Wo (cX (.int i) .aU) Q↔Q (.sh (.bl false)):=a0h
theorem b44:Wo (iS (.int i) .aU) Q↔Q (.sh (.bl true)):=a0h
theorem b46:Wo (cX .aU (.int i)) Q↔Q (.sh (.bl false)):=a0h
theorem b43:Wo (iS .aU (.int i)) Q↔Q (.sh (.bl true)):=a0h
theorem b45:Wo (cX .aU .aU) Q↔Q (.sh (.bl true)):=a0h
theorem b42:Wo (iS .aU .aU) Q↔Q (.sh (.bl false)):=a0h
theorem b9O:Wo (uv a .aU) Q↔Q (.sh (.bl a.cS)):=a0h
theorem b7w:Wo (JB a .aU) Q↔Q (.sh (.bl (!a.cS))):=a0h
theorem b9F:Wo (bZ f env) Q↔Wo (f env) λr=>Wo (iW (some r)) Q:=by
 unfold bZ
 cases f env with
 | none=>simp [iW,Wo]
 | some r=>rw [a0h]
theorem b96:Wo (iW (some (.sh (.bl b)))) Q↔Q b:=a0h
theorem b7o:Wo (cP f env) Q↔Wo (f env) λr=>Wo (iP r.d) Q:=a0n
theorem b7n:Wo (iP (.bl b)) Q↔Q b:=a0h
theorem b7m:Wo (iP (.int b)) Q↔Q (b != 0):=a0h
theorem b7j:Wo (iP (.tup ds)) Q↔Q (!ds.isEmpty):=a0h
theorem b7l:Wo (iP (.lst r ds)) Q↔Q (!ds.isEmpty):=a0h
theorem b7k:Wo (iP .aU) Q↔Q false:=a0h
theorem b4W:Wo (A9 f env) Q↔Wo (f env) λr=>Q (!r.2.isEmpty):=by
 unfold A9;rw [a0n];simp only [a0h]
theorem b7q:Wo (sJ f g env) Q↔Wo (f env) λb=>(b=true->Wo (g env) Q)/\(b=false->Q false):=by
 unfold sJ
 cases f env with
 | none=>simp [Wo]
 | some b=>cases b<;>simp [a0h]
theorem b9E:Wo (lY f g env) Q↔Wo (f env) λb=>(b=true->Q true)/\(b=false->Wo (g env) Q):=by
 unfold lY
 cases f env with
 | none=>simp [Wo]
 | some b=>cases b<;>simp [a0h]
theorem b7p:Wo (A8 f env) Q↔Wo (f env) λb=>Q (!b):=a19
theorem b7X:Wo (mn f g env) Q↔Wo (f env) λr=>Wo (iW (some r)) λb=>(b=true->Wo (g env) Q)/\(b=false->Q (.sh (.bl false))):=by
 unfold mn
 cases f env with
 | none=>simp [Wo,iW]
 | some r =>
  rw [a0h]
  cases iW (some r) with
  | none=>simp [Wo]
  | some b=>cases b<;>simp [a0h]
theorem b9Y:Wo (NI f g env) Q↔Wo (f env) λr=>Wo (iW (some r)) λb=>(b=true->Q (.sh (.bl true)))/\(b=false->Wo (g env) Q):=by
 unfold NI
 cases f env with
 | none=>simp [Wo,iW]
 | some r =>
  rw [a0h]
  cases iW (some r) with
  | none=>simp [Wo]
  | some b=>cases b<;>simp [a0h]
theorem b7Q:Wo (o7 f env) Q↔Wo (f env) λr=>Wo (iW (some r)) λb=>Q (.sh (.bl !b)):=by
 unfold o7
 cases f env with
 | none=>simp [Wo,iW]
 | some r=>rw [a0h,a19]
theorem b90:Wo (ir c f g env) Q↔Wo (c env) λb=>(b=true->Wo (f env) Q)/\(b=false->Wo (g env) Q):=by
 unfold ir
 cases c env with
 | none=>simp [Wo]
 | some b=>cases b<;>simp [a0h]
theorem b75:Wo (aa env) Q↔Q []:=a0h
theorem b5m:Wo (af f g env) Q↔Wo (f env) λr=>Wo (g env) λds=>Q (r.d::ds):=by
 unfold af;rw [a0n];simp only [a0n,a0h]
theorem b7N:Wo (aP f env) Q↔Wo (f env) λds=>ds.length<=16777216/\Q (.sh (.tup ds)):=by
 unfold aP;rw [a0n];simp only [iM]
theorem b7T:Wo (bz f env) Q↔Wo (f env) λds=>ds.length<=16777216/\Q (.ow ds):=by
 unfold bz;rw [a0n];simp only [iM]
noncomputable def jK:Option Sl->(Bool×List D->Prop)->Prop
 | some (.sh (.tup ds)),Q=>Q (false,ds)
 | some (.sh (.lst _ ds)),Q=>Q (true,ds)
 | some (.ow ds),Q=>Q (true,ds)
 | _,_=>False
theorem b9A:jK (some (.sh (.tup ds))) Q↔Q (false,ds):=eI
theorem b9C:jK (some (.sh (.lst r ds))) Q↔Q (true,ds):=eI
theorem b9B:jK (some (.ow ds)) Q↔Q (true,ds):=eI
theorem Wo_bV:Wo (bV i env) Q↔jK env[i]? Q:=by
 unfold bV
 cases env[i]? with
 | none=>simp [vM,jK,Wo]
 | some s=>cases s with
  | no=>simp [vM,jK,Wo]
  | dw ds=>simp [vM,jK,Wo]
  | ow ds=>simp [vM,jK,Wo]
  | sh d=>cases d<;>simp [vM,jK,Wo,e9]
theorem b93:Wo (gq f env) Q↔Wo (f env) λr=>Wo (e9 r.d) Q:=a0n
theorem b9G:Wo (e9 (.tup ds)) Q↔Q (false,ds):=a0h
theorem b9H:Wo (e9 (.lst r ds)) Q↔Q (true,ds):=a0h
theorem b7U:Wo (aT f env) Q↔Wo (f env) λx=>Q (.sh (.int x.2.length)):=a19
theorem b5f:Wo (eList f env) Q↔Wo (f env) λx=>Q (.ow x.2):=a19
theorem b3b:Wo (Bj f env) Q↔Wo (f env) λx=>x.1=true/\Q (.sh (.tup x.2)):=by
 unfold Bj;rw [a0n];simp only [iM]
def GG(xs:List D)(d:D)(Q:Sl->Prop):Prop:=match d with
 | .int i=>Wo (dN xs i) λd=>Q (.sh d)
 | _=>False
theorem ixQ_i:GG xs (.int i) Q↔Wo (dN xs i) λd=>Q (.sh d):=eI
theorem b9Z:Wo (av f g env) Q↔Wo (f env) λx=>Wo (g env) λy=>GG x.2 y.d Q:=by
 unfold av
 rw [a0n]
 refine mT λx=>?_
 rw [a0n]
 refine mT λy=>?_
 unfold GG
 cases y.d<;>simp [a19,a0r]
theorem dI{α:Type}{xs:List α}{n:Nat}:dN xs (n:Int)=xs[n]?:=by
 unfold dN jy
 rw [if_pos (by ext)]
 by_cases h:n<xs.length
 .rw [if_pos (by ext h)];simp
 .rw [if_neg (by ext h),List.getElem?_eq_none (by ext h)];rfl
theorem atI_0{α:Type}{x:α}{xs:List α}:dN (x::xs) 0=some x:=dI (n:=0)
theorem atI_1{α:Type}{x y:α}{xs:List α}:dN (x::y::xs) 1=some y:=dI (n:=1)
theorem atI_2{α:Type}{x y z:α}{xs:List α}:dN (x::y::z::xs) 2=some z:=dI (n:=2)
theorem atI_3{α:Type}{x y z u:α}{xs:List α}:dN (x::y::z::u::xs) 3=some u:=dI (n:=3)
theorem b5h:Wo (aF n φ fs env) Q↔Wo (fs env) λds=>ds.length=n/\Wo (φ ds) Q:=by
 unfold aF
 rw [a0n]
 have h:∀ds:List D,Wo (if ds.length=n then φ ds else none) Q↔ds.length=n/\Wo (φ ds) Q:=λds=>by
  by_cases h:ds.length=n<;>simp [h,a0r]
 simp only [h]
theorem b3e:Wo (uU g fs env) Q↔Wo (fs env) λds=>Wo (g ds) Q:=a0n
theorem b5k:Wo (A7 [.int i,.int j]) Q↔Q (.sh (.int (min i j))):=by
 have:(if j<i then j else i)=min i j:=by simp only [Int.min_def];split<;>split<;>lia
 unfold A7;rw [a0h,this]
theorem b5l:Wo (wD [.int i,.int j]) Q↔Q (.sh (.int (max i j))):=by
 have:(if j>i then j else i)=max i j:=by simp only [Int.max_def];split<;>split<;>lia
 unfold wD;rw [a0h,this]
theorem b7V:Wo (qG T f env) Q↔Wo (f env) λr=>Wo (jz T r.d) Q:=a0n
theorem b4k:Wo (jz T (.aU)) Q↔Q (.sh (.bl (bo T (.aU)))):=a0h
theorem b6O:Wo (jz T (.bl b)) Q↔Q (.sh (.bl (bo T (.bl b)))):=a0h
theorem b4m:Wo (jz T (.int i)) Q↔Q (.sh (.bl (bo T (.int i)))):=a0h
theorem b4j:Wo (jz T (.str x)) Q↔Q (.sh (.bl (bo T (.str x)))):=a0h
theorem b4i:Wo (jz T (.tup ds)) Q↔Q (.sh (.bl (bo T (.tup ds)))):=a0h
theorem b4l:Wo (jz T (.lst r ds)) Q↔Q (.sh (.bl (bo T (.lst r ds)))):=a0h
noncomputable def aG(Q:Sl->Prop):Fl×En->Prop
 | (.rt r,_)=>Q r
 | (.nx,_)=>Q (.sh .aU)
 | _=>False
theorem b63:aG Q (.rt r,e)↔Q r:=eI
theorem b64:aG Q (.nx,e)↔Q (.sh .aU):=eI
theorem bO:Wo (aH F N ds) Q↔Wo (F (pD N ds)) (aG Q):=by
 unfold aH
 cases F (pD N ds) with
 | none=>simp [Wo]
 | some p =>
  obtain ⟨fl,e⟩:=p
  rw [a0h]
  cases fl<;>simp [a0h,a0r,aG]
theorem b9V:Wo (eS f g F env) Q↔Wo (f env) λr=>Wo (e9 r.d) λx=>Wo (forL g F x.2 env) Q:=by
 unfold eS;rw [a0n];simp only [a0n]
theorem b7I:Wo (Ed h f g F env) Q↔Wo (f env) λds=>Wo (h ds) λis=>Wo (forL g F is env) Q:=by
 unfold Ed;rw [a0n];simp only [a0n]
theorem b7s:Wo (ql [.int j]) Q↔R62 j/\Q (dQ 0 j.toNat):=iM
theorem b7r:Wo (F7 [.int i,.int j]) Q↔(R62 i/\R62 j)/\Q (dQ i (j-i).toNat):=iM
noncomputable def qW(I:En->Prop)(Q:Fl×En->Prop):Fl×En->Prop
 | (.nx,e)=>I e
 | (.ct,e)=>I e
 | (.bk,e)=>Q (.nx,e)
 | (.rt r,e)=>Q (.rt r,e)
theorem b3r:qW I Q (.nx,e)↔I e:=eI
theorem b3s:qW I Q (.ct,e)↔I e:=eI
theorem b3t:qW I Q (.bk,e)↔Q (.nx,e):=eI
theorem b3q:qW I Q (.rt r,e)↔Q (.rt r,e):=eI
theorem lQ{α:Type}(enc:α->D)(I:List α->En->Prop)(xs:List α)(turn:∀pre a post env,xs=pre++a::post->I pre env->Wo (g (enc a) env) λe=>Wo (F e) (qW (I (pre++[a])) Q))
  (done:∀env,I xs env->Q (.nx,env)):∀{env:En},I [] env->Wo (forL g F (xs.map enc) env) Q:=by
 have key:∀(post pre:List α) (env:En),xs=pre++post->I pre env->Wo (forL g F (post.map enc) env) Q:=by
  intro post
  induction post with
  | nil =>
   intro pre env e h
   rw [oh] at e
   subst e
   exact ⟨_,rfl,done env h⟩
  | cons a post ih =>
   intro pre env e h
   obtain ⟨e1,h1,p,h2,h3⟩:=turn pre a post env e h
   rw [eM]
   unfold forL
   rw [h1]
   dsimp only
   rw [h2]
   obtain ⟨fl,e2⟩:=p
   cases fl with
   | nx=>exact ih (pre++[a]) e2 (by rw [e,fP];rfl) h3
   | ct=>exact ih (pre++[a]) e2 (by rw [e,fP];rfl) h3
   | bk=>exact ⟨_,rfl,h3⟩
   | rt r=>exact ⟨_,rfl,h3⟩
 exact λ{env} h=>key xs [] env rfl h
theorem b6c(lo:Int)(n:Nat)(I:Nat->En->Prop)(turn:∀(k:Nat) env,k<n->I k env->Wo (g (.int (lo+k)) env) λe=>Wo (F e) (qW (I (k+1)) Q))
  (done:∀env,I n env->Q (.nx,env))(h:I 0 env):Wo (forL g F (dQ lo n) env) Q:=by
 unfold dQ
 refine lQ (λ(k:Nat)=>D.int (lo+(k:Int))) (λpre env=>I pre.length env) (jH n) (λpre a post env e h=>?_) (λenv h=>done env (by simpa using h)) h
 have hl:=congrArg pd e
 have ha:(jH n)[pre.length]?=some a:=by rw [e];simp
 simp at hl
 rw [List.getElem?_range (by ext hl)] at ha
 cases ha
 simpa using turn pre.length env (by ext hl) h
theorem Wo_gN:Wo (gN i d env) Q↔i<env.length/\Q (env.set i (.sh d)):=iM
theorem Wo_gT:Wo (gT n u (.tup ds) env) Q↔ds.length=n/\Wo (u ds env) Q:=by
 unfold gT
 by_cases h:ds.length=n<;>simp [h,a0r]
theorem b41:Wo (qY [] env) Q↔Q env:=a0h
theorem b3a:Wo (iL g u (d::ds) env) Q↔Wo (g d env) λe=>Wo (u ds e) Q:=a0n
theorem b95:Wo (yj f g env) Q↔Wo (f env) λr=>Wo (g r.d env) λe=>Q (.nx,e):=by
 unfold yj;rw [a0n];simp only [a19]
noncomputable def bU:Option Sl->(List D->Prop)->Prop
 | some (.ow ds),Q=>Q ds
 | _,_=>False
theorem b9D:bU (some (.ow ds)) Q↔Q ds:=eI
theorem b97:Wo (cK i f env) Q↔bU env[i]? λds=>Wo (f env) λr=>ds.length<16777216/\Q (.nx,env.set i (.ow (ds++[r.d]))):=by
 unfold cK
 cases env[i]? with
 | none=>simp [a0r,bU]
 | some s=>cases s with
  | no=>simp [a0r,bU]
  | dw d=>simp [a0r,bU]
  | sh d=>simp [a0r,bU]
  | ow ds=>dsimp only [bU];rw [a0n];simp only [iM]
def ux(env:En)(i:Nat)(ds:List D)(d:D)(Q:Fl×En->Prop):Prop:=match d with
 | .lst false es=>ds.length+es.length<=16777216/\Q (.nx,env.set i (.ow (ds++es)))
 | _=>False
theorem b9f:ux env i ds (.lst false es) Q↔ds.length+es.length<=16777216/\Q (.nx,env.set i (.ow (ds++es))):=eI
theorem b9W:Wo (j' i f env) Q↔bU env[i]? λds=>Wo (f env) λr=>ux env i ds r.d Q:=by
 unfold j'
 cases env[i]? with
 | none=>simp [a0r,bU]
 | some s=>cases s with
  | no=>simp [a0r,bU]
  | dw d=>simp [a0r,bU]
  | sh d=>simp [a0r,bU]
  | ow ds =>
   dsimp only [bU];rw [a0n]
   refine mT λr=>?_
   unfold ux
   cases r.d with
   | lst ro es=>cases ro<;>simp [iM,a0r]
   | _=>simp [a0r]
theorem b9K:Wo (lZ i j env) Q↔bU env[j]? λds=>Wo ds[ds.length-1]? λd=>(i<env.length/\i≠j)/\Q (.nx,(env.set j (.ow ds.dropLast)).set i (.sh d)):=by
 unfold lZ
 cases env[j]? with
 | none=>simp [a0r,bU]
 | some s=>cases s with
  | no=>simp [a0r,bU]
  | dw d=>simp [a0r,bU]
  | sh d=>simp [a0r,bU]
  | ow ds=>dsimp only [bU];rw [a0n];simp only [iM]
def JD(env:En)(i:Nat)(ds:List D)(d:D)(k:D)(Q:Fl×En->Prop):Prop:=match k with
 | .int n=>Wo (jy ds.length n) λj=>Q (.nx,env.set i (.ow (ds.set j d)))
 | _=>False
theorem b6M:JD env i ds d (.int n) Q↔Wo (jy ds.length n) λj=>Q (.nx,env.set i (.ow (ds.set j d))):=eI
theorem b7x:Wo (wH i f g env) Q↔bU env[i]? λds=>Wo (f env) λr=>Wo (g env) λk=>JD env i ds r.d k.d Q:=by
 unfold wH
 cases env[i]? with
 | none=>simp [a0r,bU]
 | some s=>cases s with
  | no=>simp [a0r,bU]
  | dw d=>simp [a0r,bU]
  | sh d=>simp [a0r,bU]
  | ow ds =>
   dsimp only [bU];rw [a0n]
   refine mT λr=>?_
   rw [a0n]
   refine mT λk=>?_
   unfold JD
   cases k.d<;>simp [a0n,a0h,a0r]
theorem Eo:Wo (l4 i F env) Q↔Wo (F (o5 i env)) Q:=eI
theorem D0(h:env[i]?=some (.ow ds)):o5 i env=env.set i (.sh (.lst false ds)):=by unfold o5;rw [h]
noncomputable def A6(env:En):Option Sl->(Fl×En->Prop)->Prop
 | some (.ow ds),Q=>Q (.rt (.ow ds),env)
 | some (.dw ds),Q=>Q (.rt (.dw ds),env)
 | some (.sh d),Q=>Q (.rt (.sh d),env)
 | _,_=>False
theorem b7h:A6 env (some (.ow ds)) Q↔Q (.rt (.ow ds),env):=eI
theorem b7g:A6 env (some (.sh d)) Q↔Q (.rt (.sh d),env):=eI
theorem b7t:Wo (oA i env) Q↔A6 env env[i]? Q:=by
 unfold oA
 cases env[i]? with
 | none=>simp [a0r,A6]
 | some s=>cases s<;>simp [a0r,a0h,A6]
theorem b9M:Wo (ec env) Q↔Q none:=a0h
def pQ(d:D)(Q:Option Int->Prop):Prop:=match d with
 | .int i=>Q (some i)
 | _=>False
theorem pQ_i:pQ (.int i) Q↔Q (some i):=eI
theorem b9L:Wo (dX f env) Q↔Wo (f env) λr=>pQ r.d Q:=by
 unfold dX
 rw [a0n]
 refine mT λr=>?_
 unfold pQ
 cases r.d<;>simp [a0h,a0r]
theorem b9X:Wo (dZ f lo hi env) Q↔Wo (f env) λx=>Wo (lo env) λl=>Wo (hi env) λh =>
  (x.1=true->Q (.ow (cutD x.2 l h)))/\(x.1=false->¬(HT.bD x.2.length 0 l=0/\HT.bD x.2.length x.2.length h=x.2.length)/\Q (.sh (.tup (cutD x.2 l h)))):=by
 unfold dZ
 rw [a0n]
 simp only [a0n]
 have h:∀(x:Bool×List D) (l h:Option Int),Wo (if x.1=true then some (Sl.ow (cutD x.2 l h)) else if ¬(HT.bD x.2.length 0 l=0/\HT.bD x.2.length x.2.length h=x.2.length) then some (.sh (.tup (cutD x.2 l h))) else none) Q ↔
   (x.1=true->Q (.ow (cutD x.2 l h)))/\(x.1=false->¬(HT.bD x.2.length 0 l=0/\HT.bD x.2.length x.2.length h=x.2.length)/\Q (.sh (.tup (cutD x.2 l h)))):=λx l h=>by
  obtain ⟨k,ds⟩:=x
  cases k
  .simp only [qM,if_false,iM];simp
  .simp [a0h]
 simp only [h]
theorem Sl_sh:Sl.d (.sh d)=d:=rfl
theorem Sl_ow:Sl.d (.ow ds)=.lst false ds:=rfl
theorem b5b:Wo (bb (.lst false a) (.lst false b)) Q↔a.length+b.length<=16777216/\Q (.ow (a++b)):=iM
theorem b49:Wo (bb (.tup a) (.tup b)) Q↔a.length+b.length<=16777216/\Q (.sh (.tup (a++b))):=iM
theorem b5a:Wo (bb (.str a) (.str b)) Q↔a.length+b.length<=16777216/\Q (.sh (.str (a++b))):=iM
theorem a9J :bo "int" .aU=false:=rfl
theorem b1e:bo "int" (.bl b)=true:=rfl
theorem a9L:bo "int" (.int i)=true:=rfl
theorem a9I:bo "int" (.str x)=false:=rfl
theorem a9H:bo "int" (.tup ds)=false:=rfl
theorem a9K:bo "int" (.lst r ds)=false:=rfl
theorem a8X :bo "bool" .aU=false:=rfl
theorem a9M:bo "bool" (.bl b)=true:=rfl
theorem a8Z:bo "bool" (.int i)=false:=rfl
theorem a8W:bo "bool" (.str x)=false:=rfl
theorem a8V:bo "bool" (.tup ds)=false:=rfl
theorem a8Y:bo "bool" (.lst r ds)=false:=rfl
theorem a9D :bo "str" .aU=false:=rfl
theorem b1d:bo "str" (.bl b)=false:=rfl
theorem a9F:bo "str" (.int i)=false:=rfl
theorem a9C:bo "str" (.str x)=true:=rfl
theorem a9B:bo "str" (.tup ds)=false:=rfl
theorem a9E:bo "str" (.lst r ds)=false:=rfl
theorem a8S :bo "list" .aU=false:=rfl
theorem a9G:bo "list" (.bl b)=false:=rfl
theorem a8U:bo "list" (.int i)=false:=rfl
theorem a8R:bo "list" (.str x)=false:=rfl
theorem a8Q:bo "list" (.tup ds)=false:=rfl
theorem a8T:bo "list" (.lst r ds)=true:=rfl
theorem a7H :bo "tuple" .aU=false:=rfl
theorem a8P:bo "tuple" (.bl b)=false:=rfl
theorem a7J:bo "tuple" (.int i)=false:=rfl
theorem a7G:bo "tuple" (.str x)=false:=rfl
theorem a7F:bo "tuple" (.tup ds)=true:=rfl
theorem a7I:bo "tuple" (.lst r ds)=false:=rfl
theorem sT{α β:Type}{f:α->β}{xs:List α}{i:Int}(z:α)(h0:0<=i)(h:i<xs.length):dN (xs.map f) i=some (f (xs.getD i.toNat z)):=by
 unfold dN jy
 rw [aX,if_pos h0,if_pos h]
 have:i.toNat<xs.length:=by ext h0 h
 simp [this]
theorem a9Z:Wo (forL g F [] env) Q↔Q (.nx,env):=a0h
theorem a9f:Wo (forL g F (d::ds) env) Q↔Wo (g d env) λe=>Wo (F e) (qW (λe=>Wo (forL g F ds e) Q) Q):=by
 rw [forL]
 cases g d env with
 | none=>simp [a0r]
 | some e =>
  rw [a0h]
  dsimp only
  cases F e with
  | none=>simp [a0r]
  | some p =>
   obtain ⟨fl,e2⟩:=p
   rw [a0h]
   cases fl<;>simp [qW,a0h]
theorem b2u:D.cS .aU=true:=rfl
theorem b4n:D.cS (.bl b)=false:=rfl
theorem b2w:D.cS (.int i)=false:=rfl
theorem b2t:D.cS (.str x)=false:=rfl
theorem b2s:D.cS (.tup ds)=false:=rfl
theorem b2v:D.cS (.lst r ds)=false:=rfl
theorem Kr(xs:List Int){i:Int}(h0:0<=i)(h1:i<xs.length)(h:∀v∈xs,Q (.int v))(e:ds=xs.map D.int:=by rfl):Wo (dN ds i) Q:=by
 have hi:i.toNat<xs.length:=by ext h0 h1
 rw [e,sT 0 h0 h1,a0h,show xs.getD i.toNat 0=xs[i.toNat] by simp [hi]]
 exact h _ (qR hi)
theorem b70:Wo (gD fi caps nt g fc fe env) Q↔Wo (fi env) λds=>Wo (iU caps env) λcs=>ds.length<=16777216/\Wo (lJ g fc fe ds (jm nt Sl.no++cs)) λrs=>Q (.ow rs):=by
 unfold gD
 rw [a0n]
 refine mT λds=>?_
 rw [a0n]
 refine mT λcs=>?_
 by_cases h:ds.length<=16777216
 .rw [if_pos h,a19];exact ⟨λz=>⟨h,z⟩,λz=>z.2⟩
 .rw [if_neg h,a0r];exact ⟨iJ,λz=>h z.1⟩
theorem b72:Wo (iU [] env) Q↔Q []:=a0h
theorem b71:Wo (iU (i::is) env) Q↔kJ env[i]? λs=>Wo (iU is env) λcs=>Q (s::cs):=by
 rw [iU]
 cases h:env[i]? with
 | none=>simp [a0r,kJ]
 | some s=>cases s<;>simp [a0r,kJ,a19]
theorem rep0{l:En}:jm 0 Sl.no++l=l:=rfl
theorem rep1{l:En}:jm 1 Sl.no++l=Sl.no::l:=rfl
theorem rep2{l:En}:jm 2 Sl.no++l=Sl.no::Sl.no::l:=rfl
theorem rep3{l:En}:jm 3 Sl.no++l=Sl.no::Sl.no::Sl.no::l:=rfl
theorem rep4{l:En}:jm 4 Sl.no++l=Sl.no::Sl.no::Sl.no::Sl.no::l:=rfl
theorem b4V:Wo (lM env) Q↔Q true:=a0h
theorem b5i:Wo (lJ g fc fe [] e) Q↔Q []:=a0h
theorem b5j:Wo (lJ g fc fe (d::ds) e) Q↔Wo (g d e) λe1=>Wo (fc e1) λb =>
  (b=true->Wo (fe e1) λr=>Wo (lJ g fc fe ds e1) λrs=>Q (r.d::rs))/\(b=false->Wo (lJ g fc fe ds e1) Q):=by
 rw [lJ,a0n]
 refine mT λe1=>?_
 rw [a0n]
 refine mT λb=>?_
 cases b
 .rw [if_neg mv];simp
 .rw [if_pos rfl,a0n];simp only [a0n,a0h];simp
theorem b7L:Wo (eW f env) Q↔Wo (f env) λr=>Wo (e9 r.d) λx=>Q x.2:=by
 unfold eW;rw [a0n];simp only [a19]
theorem b7M:Wo (kr h f env) Q↔Wo (f env) λds=>Wo (h ds) Q:=a0n
theorem b7K:Wo (Ec f g F env) Q↔Wo (f env) λds=>Wo (forL g F ds env) Q:=a0n
theorem mU{α:Type}(enc:α->D)(f:α->D)(P:En->Prop)(xs:List α)
  (h:∀a∈xs,∀e,P e->Wo (g (enc a) e) λe1=>P e1/\Wo (fc e1) λb=>b=true/\Wo (fe e1) λr=>r.d=f a):∀{e:En},P e->lJ g fc fe (xs.map enc) e=some (xs.map f):=by
 induction xs with
 | nil=>intro e _;rfl
 | cons a xs ih =>
  intro e he
  obtain ⟨e1,g1,p1,b,c1,rfl,r,f1,f2⟩:=h a aZ e he
  rw [eM,lJ,g1,qQ,c1,qQ,if_pos rfl,f1,qQ,ih (λb hb=>h b (br _ hb)) p1,f2]
  rfl
theorem a9R{α:Type}(enc:α->D)(p:α->Bool)(f:α->D)(P:En->Prop)(xs:List α)
  (h:∀a∈xs,∀e,P e->Wo (g (enc a) e) λe1=>P e1/\Wo (fc e1) λb=>b=p a/\(p a=true->Wo (fe e1) λr=>r.d=f a)):∀{e:En},P e->lJ g fc fe (xs.map enc) e=some ((xs.filter p).map f):=by
 induction xs with
 | nil=>intro e _;rfl
 | cons a xs ih =>
  intro e he
  obtain ⟨e1,g1,p1,b,c1,rfl,k⟩:=h a aZ e he
  have M7:=ih (λb hb=>h b (br _ hb)) p1
  rw [eM,lJ,g1,qQ,c1,qQ]
  cases hp:p a with
  | true =>
   obtain ⟨r,f1,f2⟩:=k hp
   rw [if_pos rfl,f1,qQ,M7,f2,List.filter_cons_of_pos hp]
   rfl
  | false=>rw [if_neg mv,M7,List.filter_cons_of_neg (by simp [hp])]
theorem b7O:Wo (nq f env) Q↔Wo (f env) λx=>Wo (jL x.2) λns=>Q (.sh (.int ns.sum)):=by
 unfold nq;rw [a0n];simp only [a19]
theorem b7Y:Wo (Ap f env) Q↔Wo (f env) λx=>Wo (gC x.2) λns=>Q (.sh (.bl (ns.all id))):=by
 unfold Ap;rw [a0n];simp only [a19]
theorem b7W:Wo (Ao f env) Q↔Wo (f env) λx=>Wo (gC x.2) λns=>Q (.sh (.bl (ns.any id))):=by
 unfold Ao;rw [a0n];simp only [a19]
theorem b7R:Wo (qF f env) Q↔Wo (f env) λx=>Wo (jL x.2) λns=>ns≠[]/\Q (.sh (.int (gw ns))):=by
 unfold qF;rw [a0n];simp only [a0n,iM]
theorem b7S:Wo (o8 f env) Q↔Wo (f env) λx=>Wo (jL x.2) λns=>ns≠[]/\Q (.sh (.int (fJ ns))):=by
 unfold o8;rw [a0n];simp only [a0n,iM]
theorem b7y:Wo (jL (ns.map D.int)) Q↔Q ns:=by rw [BE,a0h]
theorem b91:Wo (gC (ns.map D.bl)) Q↔Q ns:=by rw [QP,a0h]
theorem b4Z:Wo (jL []) Q↔Q []:=a0h
theorem b40:Wo (jL (.int i::ds)) Q↔Wo (jL ds) λns=>Q (i::ns):=by
 show Wo ((jL ds).map (i::·)) Q↔_
 rw [a19]
theorem b73:Wo (gC []) Q↔Q []:=a0h
theorem b74:Wo (gC (.bl i::ds)) Q↔Wo (gC ds) λns=>Q (i::ns):=by
 show Wo ((gC ds).map (i::·)) Q↔_
 rw [a19]
theorem QK{α:Type}[DecidableEq α]{n:Nat}{enc:α->D}(h:∀x y,bh n (enc x) (enc y)=some (decide (x=y))):∀(xs ys:List α),∃bs,iX (oi (bh n) (xs.map enc) (ys.map enc))=some bs/\(bs.all id&&decide (xs.length=ys.length))=decide (xs=ys)
 | [],[]=>⟨[],rfl,rfl⟩
 | [],y::ys=>⟨[],rfl,by simp⟩
 | x::xs,[]=>⟨[],rfl,by simp⟩
 | x::xs,y::ys=>by
  obtain ⟨bs,e,k⟩:=QK h xs ys
  refine ⟨decide (x=y)::bs,?_,?_⟩
  .simp only [eM,NY,h,iX,e,wq]
  .rw [List.all_cons,Bool.and_assoc]
   have:decide ((x::xs).length=(y::ys).length)=decide (xs.length=ys.length):=by simp
   rw [this,k]
   simp only [id,List.cons.injEq,Bool.decide_and]
theorem b60{α:Type}[DecidableEq α]{n:Nat}{enc:α->D}(h:∀x y,bh n (enc x) (enc y)=some (decide (x=y)))(xs ys:List α):bh (n+1) (.tup (xs.map enc)) (.tup (ys.map enc))=some (decide (xs=ys)):=by
 obtain ⟨bs,e,k⟩:=QK h xs ys
 simp only [bh,e,wq,aX,k]
theorem EF(P:D->Prop)(hi:i<env.length)
  (hc:Wo (c env) λb=>(b=true->Wo (f env) λr=>P r.d)/\(b=false->∃d,env[i]?=some (.sh d)/\P d))(h:∀d,P d->Q (.nx,env.set i (.sh d))):Wo (cC c (aY i f) cR env) Q:=by
 rw [a3S]
 refine hc.mono λb hb=>⟨λe=>?_,λe=>?_⟩
 .rw [b28]
  exact (hb.1 e).mono λr hr=>⟨hi,h _ hr⟩
 .obtain ⟨d,e1,e2⟩:=hb.2 e
  rw [b7v]
  have:=h d e2
  rwa [show env.set i (.sh d)=env by
   obtain ⟨h1,h2⟩:=j0.mp e1
   rw [<-h2,List.set_getElem_self]] at this
theorem fR{α:Type}{xs:List α}{x:α}:dN (xs++[x]) (-1)=some x:=by
 unfold dN jy
 rw [if_neg (by decide),if_pos (by rw [cM,sy];ext),cM,sy]
 have:(-1+((xs.length+1:Nat):Int)).toNat=xs.length:=by ext
 rw [this]
 simp
theorem E9(I:Nat->En->Prop)(turn:∀n env,I n env->Wo (c env) λb=>(b=true->Wo (F env) (qW (λe=>∃m,m<n/\I m e) Q))/\(b=false->Q (.nx,env))):
  ∀(fuel n:Nat) {env:En},n<fuel->I n env->Wo (qd c F fuel env) Q
 | 0,n,env,h,_=>absurd h (Nat.not_lt_zero _)
 | fuel+1,n,env,h,hI=>by
  obtain ⟨b,e1,h1,h2⟩:=turn n env hI
  rw [qd,e1]
  cases b with
  | false=>exact ⟨_,rfl,h2 rfl⟩
  | true =>
   obtain ⟨⟨fl,e2⟩,e3,h3⟩:=h1 rfl
   dsimp only
   rw [e3]
   cases fl with
   | nx=>obtain ⟨m,hm,HH⟩:=h3;exact E9 I turn fuel m (by ext h hm) HH
   | ct=>obtain ⟨m,hm,HH⟩:=h3;exact E9 I turn fuel m (by ext h hm) HH
   | bk=>exact ⟨_,rfl,h3⟩
   | rt r=>exact ⟨_,rfl,h3⟩
theorem QJ:Wo (Ek m c F env) Q↔Wo (qd c F (m env) env) Q:=eI
noncomputable def iu{α:Type}(xs:List α)(lo hi:Option Int):List α:=(xs.drop (HT.bD xs.length 0 lo)).take (HT.bD xs.length xs.length hi-HT.bD xs.length 0 lo)
theorem u5{α:Type}{f:α->D}(xs:List α)(lo hi:Option Int):cutD (xs.map f) lo hi=(iu xs lo hi).map f:=by
 unfold cutD iu
 rw [aX,<-List.map_drop,<-List.map_take]
theorem QT{α:Type}(xs:List α)(lo hi:Option Int):(iu xs lo hi).length<=xs.length:=by
 unfold iu
 rw [iA,kG]
 ext
theorem b4Y:Wo (D9 [.int j]) Q↔Q (dQ 0 j.toNat):=a0h
theorem b4X:Wo (yo [.int i,.int j]) Q↔Q (dQ i (j-i).toNat):=a0h
def FZ(d:D)(l h:Option Int)(Q:Sl->Prop):Prop:=match d with
 | .tup ds=>Q (.sh (.tup (cutD ds l h)))
 | _=>False
theorem slQ_t:FZ (.tup ds) l h Q↔Q (.sh (.tup (cutD ds l h))):=eI
theorem b7P:Wo (An f lo hi env) Q↔Wo (f env) λx=>Wo (lo env) λl=>Wo (hi env) λh=>FZ x.d l h Q:=by
 unfold An
 simp only [a0n]
 refine mT λx=>mT λl=>mT λh=>?_
 unfold FZ
 cases x.d<;>simp [a0h,a0r]
theorem b4R:Wo (lX [.tup a,.tup b]) Q↔Q (iO a b):=a0h
theorem b4S:Wo (lX [.tup a,.lst r b]) Q↔Q (iO a b):=a0h
theorem b4T:Wo (lX [.lst r a,.tup b]) Q↔Q (iO a b):=a0h
theorem b4U:Wo (lX [.lst r a,.lst r' b]) Q↔Q (iO a b):=a0h
def Bc(i:Nat)(env:En)(a b:Sl)(Q:Fl×En->Prop):Prop:=match a,b with
 | .sh (.int m),.sh (.int n)=>Q (.nx,env.set i (.sh (.int (m+n))))
 | _,_=>False
theorem b9z:Bc i env (.sh (.int m)) (.sh (.int n)) Q↔Q (.nx,env.set i (.sh (.int (m+n)))):=eI
theorem b94:Wo (iR i f env) Q↔kJ env[i]? λa=>Wo (f env) λr=>Bc i env a r Q:=by
 constructor
 .rintro ⟨y,e,h⟩
  obtain ⟨m,n,e1,e2,rfl⟩:=Q6 e
  rw [e1];exact ⟨_,e2,h⟩
 .intro h
  cases hi:env[i]? with
  | none=>rw [hi] at h;exact h.elim
  | some s =>
   rw [hi] at h
   cases s with
   | no=>exact h.elim
   | ow ds=>exact h.elim
   | dw ds=>exact h.elim
   | sh d =>
    obtain ⟨r,e1,h⟩:=h
    cases d with
    | int m =>
     cases r with
     | sh d2 =>
      cases d2 with
      | int n=>exact ⟨_,by unfold iR;rw [hi,e1],h⟩
      | _=>exact h.elim
     | _=>exact h.elim
    | _=>exact h.elim
theorem b7J:Wo (OP i j c f env) Q↔bU env[i]? λds=>Wo (forL (gN j) (cC c (az f) cR) ds env) Q:=by
 unfold OP
 cases h:env[i]? with
 | none=>simp [a0r,bU]
 | some s=>cases s<;>simp [a0r,bU]
theorem b5c:Wo (wF [.tup ds]) Q↔Q (qX ds):=a0h
theorem b5d:Wo (wF [.lst r ds]) Q↔Q (qX ds):=a0h
theorem b3d:Wo (b9t φ f env) Q↔Wo (f env) λr=>Wo (yd φ r.d) Q:=a0n
def FY(d:D)(Q:Sl->Prop):Prop:=match d with
 | .lst _ ds=>Wo (wI ds) λrs=>Q (.ow rs)
 | _=>False
theorem srQ_l:FY (.lst r ds) Q↔Wo (wI ds) λrs=>Q (.ow rs):=eI
theorem b1o:Wo (EG f env) Q↔Wo (f env) λr=>FY r.d Q:=by
 unfold EG
 rw [a0n]
 refine mT λr=>?_
 cases r.d<;>simp [FY,a0r,a19]
theorem b5g:Wo (OG f env) Q↔Wo (f env) λr=>Wo (iW (some r)) λb=>Q (.sh (.int (if b=true then 1 else 0))):=by
 unfold OG
 cases f env with
 | none=>simp [Wo,iW]
 | some r=>rw [a0h,a19]
end DL
namespace DL
theorem qZ(h1:-A<=a)(h2:a<=A)(h3:-B<=b)(h4:b<=B):-(A*B)<=a*b/\a*b<=A*B:=by
 have hA:0<=A:=by ext h1 h2
 have hB:0<=B:=by ext h3 h4
 have e1:(A-a)*(B+b)=A*B+A*b-a*B-a*b:=by grind
 have e2:(A+a)*(B-b)=A*B-A*b+a*B-a*b:=by grind
 have e3:(A-a)*(B-b)=A*B-A*b-a*B+a*b:=by grind
 have e4:(A+a)*(B+b)=A*B+A*b+a*B+a*b:=by grind
 have f1:=mw (show 0<=A-a by ext h2) (show 0<=B+b by ext h3)
 have f2:=mw (show 0<=A+a by ext h1) (show 0<=B-b by ext h4)
 have f3:=mw (show 0<=A-a by ext h2) (show 0<=B-b by ext h4)
 have f4:=mw (show 0<=A+a by ext h1) (show 0<=B+b by ext h3)
 ext e1 e2 e3 e4 f1 f2 f3 f4
theorem p8(h:-(10^250)<=i)(h2:i<=10^250)(h3:-(10^250)<=j)(h4:j<=10^250):MulC i j:=.inr (.inr ⟨⟨h,h2⟩,h3,h4⟩)
theorem P2(h:0<j)(h2:j<=10^250):DivC i j:=⟨h,h2⟩
theorem Qo{a b:Int}(hb:0<b):a/b*b<=a/\a<(a/b+1)*b:=by
 have h1:=Int.emod_add_mul_ediv a b
 have h2:=ny a (Int.ne_of_gt hb)
 have h3:=nI a hb
 generalize a/b=q at *
 exact ⟨by grind,by grind⟩
end DL
namespace DL
open PySem PySem.Spec PyProof.Rows L2
def Tr(h:Heap)(e T:Addr)(c:Value):Prop:=∃oe vs a0 oT ts,h.get? e=some oe/\(oe.cls=c/\vs[0]?=some a0)/\oe.data=.fields vs/\vs[1]?=some (.ref T)/\T≠e/\h.get? T=some oT/\oT.data=.fields ts/\ts[3]?=some .none
structure Lies(h0:Heap)(H:Hp)(h:Heap)(e:Addr)(c:Value):Prop where
 new:h0.get? e=none
 un:H e=none
 tr:∃T,h0.get? T=none/\H T=none/\Tr h e T c
structure Moved(H:Hp)(l:List Env)(ex:List Addr)(h h':Heap):Prop where
 un:Un (nk l) ex H H h h'
section
variable {P:Program}{w:World}{K:aI}{mg:Str->Option Value}{base:Heap}{N:List Str}{qual:Str}{scope:Scope}{f:Addr}{cd:Value}{A:Around}{outer:List Env}{s:Shared}{H:Hp}{E:XK}
end
end DL
namespace DL
open PySem PySem.Spec PyProof.Rows L2
noncomputable abbrev RF:=En->Option (Str×En)
section
variable {X:Cx}{W:L2.St->Hp->Value->Prop}{e a b c:Expr}{es:List Expr}{st:Stmt}{rest sa sb:List Stmt}{F G:SF}{r r':RF}{re:En->Option Str}{fa:En->Option Sl}{ga:En->Option Bool}{fs:En->Option (List D)}{pos p aR np:Pos}
noncomputable def Ej:SF:=λ_=>none
theorem Q1:SV X st Ej:=⟨λ_ _ _=>False,λ_ _ _ _ _ _ h=>h.elim,λ_ _ _ _ _ _ _ _ _ e _=>by cases e⟩
theorem EV.gJ(h:EV X.gJ e fa):EV X e fa:=let ⟨t,p,k⟩:=h;⟨t,p.gJ,k⟩
theorem TV.gJ(h:TV X.gJ e ga):TV X e ga:=let ⟨t,p,k⟩:=h;⟨t,p.gJ,k⟩
theorem kY.gJ(h:kY X.gJ rest F):kY X rest F:=let ⟨t,p,k⟩:=h;⟨t,p.gJ,k⟩
theorem SV.gJ(h:SV X.gJ st F):SV X st F:=let ⟨t,p,k⟩:=h;⟨t,λpins s σ H D I hw=>jY (p pins s σ H D (I.fG _) hw) (λ_ _ q=>q.cE) λ_ _ z=>iJ z,k⟩
theorem AV.gJ(h:AV X.gJ es fs):AV X es fs:=let ⟨t,p,k⟩:=h;⟨t,λpo pins s σ H Q I hw=>jY (p po pins s σ H Q (I.fG _) hw) (λ_ _ ⟨v,H',I',r,q⟩=>⟨v,H',I'.cE,r,q⟩) λ_ _ z=>iJ z,k⟩
end
noncomputable abbrev xK:List Value:=[.type "ValueError",.type "Exception",.type "BaseException",.type "object"]
structure ExcC(K:aI)(C:Addr):Prop where
 ob:∃(bm:List Value) (N:Addr) (nm q:Str) (bs:List Value) (Hy:Bool) (sn:List Str) (sub:List Value) (ab:Bool) (col:Option Bool) (dd:Option Addr) (k0 k1 k2 k3 k5:Option Value),K.lookup C=some (excClassObj nm q C N bs bm Hy sn sub ab col dd k0 k1 k2 k3 k5 "ValueError.__new__") /\
  PySem.W.nsOkIn K N=true/\lE K N "__init__" = some none/\PySem.W.tailIn K xK bm=true
section
variable {X:Cx}{W:L2.St->Hp->Value->Prop}{e:Expr}{es:List Expr}{fs:En->Option (List D)}{pos p aR np:Pos}{x:Str}{C:Addr}
end
section
variable {P:Program}{w:World}{K:aI}{mg:Str->Option Value}{base:Heap}
end
end DL
namespace DL
open PySem PySem.Spec PyProof.Rows L2
section
variable {X:Cx}{pins:List (Addr×Obj)}{σ:L2.St}{H:Hp}{s:Shared}{h':Heap}
end
theorem Rel.drop{K:aI}{O:Addr->Prop}{B H:Hp}{σ:L2.St}{env:En}(R:Rel K O B σ H env)(i:Nat):Rel K O B (σ.set i none) H (env.set i .no)/\Gd σ env H (σ.set i none) (env.set i .no) H:=by
 have own:∀q,lh (σ.set i none) (env.set i .no) q->lh σ env q:=λq ⟨j,ds,e1,o,e2⟩=>by
  by_cases hj:j=i
  .subst hj
   rw [Jj] at e1
   simp at e1
   rw [<-e1.2] at o
   exact o.elim
  .rw [fE (gy hj)] at e1 e2
   exact ⟨j,ds,e1,o,e2⟩
 have oo:∀q,OO O (σ.set i none) (env.set i .no) q->OO O σ env q:=λq z=>z.elim .inl λz=>.inr (own q z)
 have at_:∀{j:Nat} {x:Sl},(env.set i .no)[j]?=some x->x≠.no->j≠i/\env[j]?=some x:=λ{j x} e hx=>by
  by_cases hj:j=i
  .subst hj
   rw [Jj] at e
   simp at e
   exact absurd e.2.symm hx
  .rw [fE (gy hj)] at e
   exact ⟨hj,e⟩
 refine ⟨⟨R.same,R.mQ,by simp [R.len],λj d e=>?_,λj ds e=>?_,λj ds e=>?_,λj k ds es p e1 e2 e3 e4 o1 o2=>?_⟩,λq u e n=>⟨e,λz=>n (own q z)⟩⟩
 .obtain ⟨hj,e⟩:=at_ e (λz=>nomatch z)
  obtain ⟨v,e1,h⟩:=R.sh j d e
  exact ⟨v,by rw [fE (gy hj)];exact e1,h.less oo⟩
 .obtain ⟨hj,e⟩:=at_ e (λz=>nomatch z)
  obtain ⟨p,xs,e1,e2,e3,h⟩:=R.ow j ds e
  exact ⟨p,xs,by rw [fE (gy hj)];exact e1,e2,e3,h.less oo⟩
 .obtain ⟨hj,e⟩:=at_ e (λz=>nomatch z)
  obtain ⟨p,e1,e2,e3⟩:=R.dw j ds e
  exact ⟨p,by rw [fE (gy hj)];exact e1,e2,e3⟩
 .obtain ⟨hj,e1⟩:=at_ e1 (λz=>by rw [z] at o1;exact o1)
  obtain ⟨hk,e2⟩:=at_ e2 (λz=>by rw [z] at o2;exact o2)
  rw [fE (gy hj)] at e3
  rw [fE (gy hk)] at e4
  exact R.sep j k ds es p e1 e2 e3 e4 o1 o2
end DL
namespace DL
open PySem PySem.Spec PyProof.Rows L2
structure Hx(X:Cx)(N:List Str)(sc:Scope):Prop where
 n:X.N=N
 sc:X.env.scope=sc
 fn:∀x,X.fn x=true
 nd:N.Nodup
section
variable {X:Cx}{N:List Str}{sc:Scope}{k i:Nat}{n Cn:Str}{hc:Value}{body MJ:List Stmt}{b0:Stmt}{Fb Fh:SF}{rb:RF}{hit:Str->Bool}{np km pos:Pos}
end
end DL
namespace DL
open PySem PySem.W PySem.Spec PySem.Calls PyProof.Rows L2 PySem.Builtin.ObjectAttr PySem.Builtin PySem.Builtin.Getset_descriptor
section
variable {prog:Program}{w:World}{A:Around}{E:Value->Shared->Prop}{s:Shared}{K:Frag}{x C:Addr}
structure ME(K:Frag)(C:Addr):Prop where
 ga:findIn K (.ref C) "__getattribute__" = some (some (.builtin "BaseException.__getattribute__"))
 no:findIn K (.ref C) "__getattr__" = some none
 at_:findIn K (.ref C) "__class__" = some (some (.builtin "object.__class__"))
 get:specialIn K (.builtin "object.__class__") "__get__" = some (some (.builtin "getset_descriptor.__get__"))
 tk:takesIn K (.builtin "object.__class__")=some true
 mro:mroIn K C (.type "object")=some true
 mrB:mroIn K C (.type "BaseException")=some true
end
section
variable {X:Cx}{a:Expr}{pos p p2:Pos}{fa:En->Option Sl}
end
section
variable {X:Cx}{N:List Str}{sc:Scope}{pos p p1 p2 pos' aR:Pos}{e a b:Expr}{fa fb:En->Option Sl}
theorem Hx.v(h:Hx X N sc)(i:Nat)(hN:N[i]?=some x:=by rfl)(hv:iN sc x:=by first | exact cD rfl | exact bH (cD rfl) | exact bH (bH rfl))(hd:(x==("__debug__":Str))=false:=by rfl)
  (c7:(x==("__classdict__":Str))=false:=by rfl):EV X (.Name x pos) (eV i):=Pr i (by rw [h.n];exact hN) (by rw [h.sc];exact hv) hd c7
theorem Hx.g(h:Hx X N sc)(hg:sc.names.lookup x=some .globalImplicit:=by rfl):Gl X x:=by
 show X.env.kindOf x=some .globalImplicit
 unfold De
 rw [h.sc]
 exact hg
theorem Hx.set(h:Hx X N sc)(i:Nat)(he:EV X e fa)(hN:N[i]?=some x:=by rfl)(hv:Loc sc x:=by first | exact cD rfl | exact bH rfl)
  (hs:swapsWith e (some (.Name x pos')) pos.line X.env=pure false:=by rfl):SV X (.Assign [.Name x pos'] e pos) (c6 i fa):=Pa (by rw [h.n];exact h.nd) (by rw [h.n];exact hN) (by rw [h.sc];exact hv) he hs (.inl (h.fn x))
theorem Hx.app(h:Hx X N sc)(i:Nat)(ha:EV X e fa)(hN:N[i]?=some x:=by rfl)(hv:iN sc x:=by first | exact cD rfl | exact bH (cD rfl) | exact bH (bH rfl))(hd:(x==("__debug__":Str))=false:=by rfl)
  (c7:(x==("__classdict__":Str))=false:=by rfl)(hs:starEach [e] X.env=[(false,eval e X.env)]:=by rfl)
  (cu:attributeBase (.Name x p1) "append" X.env (eval (.Name x p1) X.env)=eval (.Name x p1) X.env:=by rfl)
  (il:((backTo aR (starEach [e] X.env)).all (λx=>!x.1)&&(backToKw aR (keywordEach [] X.env)).all (λx=>x.1.isSome)
   && decide ([e].length+([]:List Keyword).length+(if ([]:List Keyword).isEmpty then 0 else 1)<30))=true:=by rfl)
  (cn:(p2.endLine==aR.line)=true:=by rfl)
  (qw:swapsWith (.Call (.Attribute (.Name x p1) "append" p2) [e] [] aR) none pos.line X.env=pure false:=by rfl):
  SV X (.Expr (.Call (.Attribute (.Name x p1) "append" p2) [e] [] aR) pos) (cK i fa):=Rc ha (by rw [h.n];exact hN) (by rw [h.sc];exact hv) hd c7 hs cu il cn qw
end
structure Cl(K:Frag)(mg:Str->Option Value)(x:Str)(C:Addr):Prop where
 ns:nsIn K mainGlobals x=some (some (.ref C))
 m:mg x=some (.ref C)
 ck:ME K C
 cd:(clsIn K C).isSome=true
theorem Fx.gJ{X:Cx}{N:List Str}{sc:Scope}{k:Nat}{full:Bool}(h:Fx X N sc k full):Fx X.gJ N sc k full:=⟨h.n,h.sc,h.calm,h.fn,IA,h.room,h.nd,h.top⟩
theorem Hx.aD{X:Cx}{N:List Str}{sc:Scope}{pos pos':Pos}{e:Expr}{fa:En->Option Sl}(h:Hx X N sc)(i:Nat){x:Str}(he:EV X e fa)(hN:N[i]?=some x:=by rfl)(hv:Loc sc x:=by first | exact cD rfl | exact bH rfl)
  (hs:swapsWith e (some (.Name x pos')) pos.line X.env=pure false:=by rfl):SV X (.Assign [.Name x pos'] e pos) (aY i fa):=Qm (by rw [h.n];exact h.nd) (by rw [h.n];exact hN) (by rw [h.sc];exact hv) he hs (.inl (h.fn x))
theorem b29:Wo (Ej env) Q↔False:=a0r
end DL
namespace DL
open PySem PySem.Spec PyProof.Rows L2
theorem b6X{P:Program}{w:World}{K:aI}{mg:Str->Option Value}{base:Heap}{k n:Nat}{f:Addr}{fd:FuncData}{ps:List Str}{φ:List D->Option Sl}(h:∀ds r,φ ds=some r->False):bY P w K mg base jt k f fd ps (mY K n φ):=
 ⟨λvs H Q E q=>by obtain ⟨O,ds,r,_,_,_,e,_⟩:=q;exact (h ds r e).elim,λA outer s H args us vs Q E _ _ _ _ q=>by obtain ⟨O,ds,r,_,_,_,e,_⟩:=q;exact (h ds r e).elim⟩
section
variable {X:Cx}{W:L2.St->Hp->Value->Prop}{it tg:Expr}{re:En->Option Str}{pos:Pos}
end
theorem b6t{P:Program}{w:World}{K:aI}{mg:Str->Option Value}{base:Heap}{x:Str}{st:Stmt}{ps:List Str}{j:Nat}{f:Addr}{fd:FuncData}(D':Def K mg x st ps f fd):Oz P w K mg base x st ps j λ_=>none:=⟨f,fd,D',b6X λ_ _ z=>nomatch z⟩
end DL
namespace DL
open PySem PySem.Spec PyProof.Rows L2
section
variable {prog:Program}{w:World}{A:Around}{R:Result->Shared->Prop}{I:Addr}{fp wr:List Addr}{n:Nat}{P:Nat->Value->Prop}{St:Nat->Heap->Prop}
def Cq(prog:Program)(w:World)(A:Around)(P:Nat->Value->Prop)(KH:Heap->Prop)(bt:Nat->Nat->Bool):Prop:=∀i j x y (s:Shared) (Q:Value->Shared->Prop) (E:Value->Shared->Prop),P i x->P j y->KH s.heap->Q (.bool (bt i j)) s->wpAny (model prog w) A (richCompare .Lt x y) Q E s
theorem Gr(W:Walks prog w A.in1 I fp wr n P St)(bt:Nat->Nat->Bool)(cmp:Cq prog w A.in1 P KH bt)(S:Addr)(nS:S∉fp)
  (kk:∀h h':Heap,KH h->(∀b o,b∉wr->b≠S->h.get? b=some o->h'.get? b=some o)->KH h'):
  ∀(m j:Nat) (s:Shared) (best:Value) (c:Nat),n-(j+1)=m->j+1<=n->St (j+1) s.heap->KH s.heap->P (argBest bt j) best->s.heap.get? S=some { cls:=.type "list",dict:=none,data:=.seq #[best,best] c,slots:=#[] } ->
  (∀v h' tk,P (argBest bt (n-1)) v->(∀b o,b∉wr->b≠S->s.heap.get? b=some o->h'.get? b=some o)->R (.ok (.ret v)) { s with heap:=h',toks:=tk })->codeAny (model prog w) A (.builtin "min.loop" ⟨[.ref I,.none,.ref S],[]⟩) R s:=by
 have nw:S∉wr:=λz=>nS (W.sub _ z)
 have nm:(toString "min" ++ toString ".loop":String) = "min.loop":=by decide
 intro m
 induction m with
 | zero =>
  intro j s best c e1 e2 st kh pb hS hR
  have ej:j+1=n:=by ext e1 e2
  apply IL IC
  rw [IZ uN]
  show wpAny _ A.in1 (seqItems? (.ref S) >>= _) _ _ _
  apply aA
  refine pj hS rfl ?_
  show wpAny _ A.in1 (tryCatch (pyNext (.ref I)) _ >>= _) _ _ _
  apply aA
  refine Dx (W.done s _ _ (ej▸st) λh1 tk k1=>?_)
  have sd:=k1 S _ nw hS
  show wpAny _ A.in1 (updateSeq S (λ_=>#[]) >>= _) _ _ ⟨_,_,_,_,_⟩
  apply aA
  refine IK sd rfl ?_
  apply aA
  refine sr (bC ?_)
  exact hR best _ tk (by rw [<-ej];exact pb) λb o nb pN e=>(oq _ _ (gy pN)).trans (k1 b o nb e)
 | succ m ih =>
  intro j s best c e1 e2 st kh pb hS hR
  have lt:j+1<n:=by ext e1
  apply IL IC
  rw [IZ uN]
  show wpAny _ A.in1 (seqItems? (.ref S) >>= _) _ _ _
  apply aA
  refine pj hS rfl ?_
  show wpAny _ A.in1 (tryCatch (pyNext (.ref I)) _ >>= _) _ _ _
  apply aA
  refine Dx (W.item (j+1) s _ _ lt st λv h1 tk pv Cz k1=>?_)
  have sd:=k1 S _ nw hS
  have Gy:KH h1:=kk _ _ kh λb o nb _ e=>k1 b o nb e
  show wpAny _ A.in1 (tryCatch (holding [v,v] (richCompare .Lt v best >>= _)) _ >>= _) _ _ ⟨_,_,_,_,_⟩
  apply aA
  refine Dx (pT ?_)
  apply aA
  refine cmp (j+1) (argBest bt j) v best _ _ _ pv pb Gy ?_
  apply aA
  refine pT (AU ?_)
  apply aA
  refine sr (bC ?_)
  cases hb:bt (j+1) (argBest bt j) with
  | true =>
   simp only [if_true]
   apply aA
   refine IK sd rfl ?_
   apply aA
   apply sr
   rw [nm]
   have k2:∀b o,b≠S->h1.get? b=some o->(h1.update S λx=>{ x with data:=.seq #[v,v] (c+1) }).get? b=some o:=λb o nb e=>(oq _ _ (gy nb)).trans e
   refine bC ⟨Di uN _,ih (j+1) _ v _ (by ext e1) lt (W.frame _ _ _ Cz λb bf o e=>?_) (kk _ _ Gy λb o nb pN e=>?_) (by simp only [argBest,hb,if_true];exact pv) (DT _ sd rfl) λv2 h2 xO yw k2=>?_⟩
   .exact (oq _ _ (λz:S=b=>nS (z▸bf))).trans e
   .exact (oq _ _ (gy pN)).trans e
   .exact hR v2 h2 xO yw λb o nb pN e=>k2 b o nb pN ((oq _ _ (gy pN)).trans (k1 b o nb e))
  | false =>
   simp only [qM,if_false]
   apply aA
   apply sr
   rw [nm]
   refine bC ⟨Di uN _,ih (j+1) _ best c (by ext e1) lt Cz Gy (by simp only [argBest,hb,qM,if_false];exact pb) sd λv2 h2 xO yw k2=>?_⟩
   exact hR v2 h2 xO yw λb o nb pN e=>k2 b o nb pN (k1 b o nb e)
theorem b2Z
  (h:wpAny (model prog w) A.in1 (pyIter x) (λit s2=>∃I fp wr n P St bt KH,it=.ref I/\Walks prog w A.in1 I fp wr n P St/\St 0 s2.heap/\(∀b∈fp,b<s2.heap.objs.size)/\0<n/\Cq prog w A.in1 P KH bt /\
   (∀h h':Heap,KH h->(∀b o,b∉wr->b≠s2.heap.objs.size->h.get? b=some o->h'.get? b=some o)->KH h')/\KH s2.heap /\
   ∀v h' tk,P (argBest bt (n-1)) v->(∀b o,b∉wr->s2.heap.get? b=some o->h'.get? b=some o)->Q v { s2 with heap:=h',toks:=tk }) E s):
  wpAny (model prog w) A (call (.builtin "min") [x]) Q E s:=by
 have nm:(toString "min" ++ toString ".loop":String) = "min.loop":=by decide
 apply call_function_tree F.kind_min F.plain_min F.entry_min (F.args_min1 _)
 show wpAny _ A.in1 (Builtin.Builtins.bindParams "min" ["key","default"] 0 ⟨[],[]⟩ >>= _) _ _ _
 apply aA
 refine wpAny_of_eq (a:=[none,none]) rfl ?_
 apply aA
 apply bC
 apply aA
 refine bG h λit s2 h2=>?_
 obtain ⟨I,fp,wr,n,P,St,bt,KH,rfl,W,st,jV,hn,cmp,kk,kh,hQ⟩:=h2
 apply aA
 refine sE ?_
 have nS:s2.heap.objs.size∉fp:=λz=>om _ (jV _ z)
 have nw:s2.heap.objs.size∉wr:=λz=>nS (W.sub _ z)
 rw [nm]
 refine bC ⟨Di uN _,?_⟩
 apply IL IC
 rw [IZ uN]
 show wpAny _ A.in1 (seqItems? (.ref s2.heap.objs.size) >>= _) _ _ ⟨_,_,_,_,_⟩
 apply aA
 refine pj (fD _ rfl) rfl ?_
 show wpAny _ A.in1 (tryCatch (pyNext (.ref I)) _ >>= _) _ _ _
 apply aA
 refine Dx (W.item 0 _ _ _ hn (W.frame _ _ _ st λb _ o e=>bR _ e) λv h1 tk pv Cz k1=>?_)
 have sd:=k1 _ _ nw (fD _ rfl)
 show wpAny _ A.in1 (updateSeq s2.heap.objs.size (λ_=>#[v,v]) >>= _) _ _ ⟨_,_,_,_,_⟩
 apply aA
 refine IK sd rfl ?_
 rw [nm]
 have M3:∀b o,b∉wr->s2.heap.get? b=some o->h1.get? b=some o:=λb o nb e=>k1 b o nb (bR _ e)
 refine bC ⟨Di uN _,Gr W bt cmp _ nS kk _ 0 _ v _ rfl hn (W.frame _ _ _ Cz λb bf o e=>?_) (kk _ _ kh λb o nb pN e=>?_) pv (DT _ sd rfl) λv2 h2 xO yw k2=>?_⟩
 .exact (oq _ _ (λz:s2.heap.objs.size=b=>nS (z▸bf))).trans e
 .exact (oq _ _ (gy pN)).trans (M3 b o nb e)
 .exact hQ v2 h2 xO yw λb o nb e=>k2 b o nb (dW (bX e)) ((oq _ _ (gy (dW (bX e)))).trans (M3 b o nb e))
end
noncomputable def ei:List (List Int)->List Int
 | []=>[]
 | x::r=>r.foldl (λm y=>if HT.lexLt y m then y else m) x
theorem Pf(ns:List (List Int)):∀j,j<ns.length->argBest (λi j=>HT.lexLt (ns.getD i []) (ns.getD j [])) j<ns.length/\ns.getD (argBest (λi j=>HT.lexLt (ns.getD i []) (ns.getD j [])) j) []=ei (ns.take (j+1))
 | 0,h=>by
  refine ⟨h,?_⟩
  cases ns with
  | nil=>cases h
  | cons n r=>rfl
 | j+1,h=>by
  obtain ⟨h1,h2⟩:=Pf ns j (by ext h)
  have e:ns.take (j+1+1)=ns.take (j+1)++[ns.getD (j+1) []]:=by rw [Ji];simp [h]
  have e2:ei (ns.take (j+1+1))=if HT.lexLt (ns.getD (j+1) []) (ei (ns.take (j+1))) then ns.getD (j+1) [] else ei (ns.take (j+1)):=by
   rw [e]
   cases ns with
   | nil=>cases h
   | cons n r=>simp only [IX,AR,ei,wj,nC,DC];rfl
  rw [e2,<-h2]
  simp only [argBest]
  split
  .exact ⟨h,rfl⟩
  .exact ⟨h1,rfl⟩
section
variable {X:Cx}{a b:Expr}{ba:En->Option (Bool×List D)}{fa fb:En->Option Sl}{p pos:Pos}{W:L2.St->Hp->Value->Prop}{re:En->Option Str}
theorem Qp:∀{ns:List Int} {aq:List Value},aw (ns.map V.int) aq->IntsAre aq ns
 | [],_,.nil=>.nil
 | n::r,_,.cons h t=>by obtain ⟨u,rfl⟩:=h;exact .cons _ _ (Qp t)
theorem b2X(hc:X.calm=true)(hu:X.A.units+1<cLine):cw X (.builtin "min") (λxs H Q=>∃(q:Addr) (k:Bool) (vs:List V) (rs:List (List Int)),xs=[.ref q]/\Sq X.K H k q vs/\rs≠[]/\vs.length=rs.length /\
  (∀i v,vs[i]?=some v->∃c,v=.ref c/\eO X.K H c ((rs.getD i []).map V.int))/\∀i v,vs[i]?=some v->rs.getD i []=ei rs->Q v H):=by
 intro pins s σ H xs us Q I r h
 obtain ⟨q,k,vs,rs,rfl,hq,aW,hlen,vT,qq⟩:=h
 obtain ⟨u,rfl,ru⟩:=r.one
 cases ru
 refine b2Z (EY (A':=X.A.in1) I (I.ok.hd hc) hq λaq h2 St rv W tM k1 jV=>?_)
 have hl:aq.length=rs.length:=by rw [<-rv.length,hlen]
 have hp:0<rs.length:=nE.mpr aW
 have hsz:s.heap.objs.size<h2.objs.size:=jV _ aZ
 have eR:∀i v,aq[i]?=some v->∃c items,v=.ref c/\c<s.heap.objs.size/\IsTup s.heap c items/\IntsAre items.toList (rs.getD i []):=λi v hv=>by
  have hi:i<vs.length:=by rw [rv.length];exact (j0.mp hv).1
  obtain ⟨c,e1,e2⟩:=vT i vs[i] (ot hi)
  obtain ⟨u',oV,CB⟩:=rv.get (ot hi)
  rw [hv] at oV
  cases oV
  rw [e1] at CB
  obtain rfl:v=eL c:=CB
  obtain ⟨items,Ue,pl,_⟩:=I.tuple e2
  refine ⟨c,items.toArray,rfl,pl.lt,pl,by simpa using Qp Ue⟩
 refine ⟨_,_,_,_,_,_,λi j=>HT.lexLt (rs.getD i []) (rs.getD j []),λh=>∀b o,b<s.heap.objs.size->s.heap.get? b=some o->h.get? b=some o,rfl,W,tM,jV,by ext hl hp,?_,?_,λb o _ e=>k1 b o e,λv h' tk hv hk=>?_⟩
 .intro i j x y s' Q' E' hx hy kh dE
  obtain ⟨c,it1,rfl,l1,t1,i1⟩:=eR i x hx
  obtain ⟨d,it2,rfl,l2,t2,i2⟩:=eR j y hy
  obtain ⟨o1,g1,r1⟩:=t1
  obtain ⟨o2,g2,r2⟩:=t2
  exact HT.l' ⟨o1,kh c o1 l1 g1,r1⟩ ⟨o2,kh d o2 l2 g2,r2⟩ i1 i2 (by show X.A.units+1<_;exact hu) dE
 .intro h h' kh kp b o lb e
  exact kp b o (λz=>by rw [bP.mp z] at lb;exact om _ lb) (dW (Nat.lt_trans lb hsz)) (kh b o lb e)
 .obtain ⟨b1,b2⟩:=Pf rs (aq.length-1) (by ext hl hp)
  have e2:rs.take (aq.length-1+1)=rs:=by rw [uJ];ext hl
  rw [e2] at b2
  have hi:=(j0.mp hv).1
  have zH:argBest (λi j=>HT.lexLt (rs.getD i []) (rs.getD j [])) (aq.length-1)<vs.length:=by rw [rv.length];exact hi
  obtain ⟨u',oV,CB⟩:=rv.get (ot zH)
  rw [hv] at oV
  cases oV
  exact ⟨_,H,Fg I k1 hk,CB,qq _ _ (ot zH) b2⟩
noncomputable def sI:List D->Option (List (List Int))
 | []=>some []
 | .tup ds::r=>(jL ds).bind λx=>(sI r).map (x::·)
 | _::_=>none
theorem RO:∀{ds:List D} {rs:List (List Int)},sI ds=some rs->ds=rs.map λx=>.tup (x.map D.int)
 | [],rs,e=>by cases e;rfl
 | .tup ds::r,rs,e=>by
  obtain ⟨x,e1,e2⟩:=bind_some (show (jL ds).bind _=some rs from e)
  obtain ⟨y,e3,rfl⟩:=map_some e2
  rw [eM,<-RO e3,<-Bz e1]
 | .aU::_,_,e=>by cases e
 | .bl _::_,_,e=>by cases e
 | .int _::_,_,e=>by cases e
 | .str _::_,_,e=>by cases e
 | .lst _ _::_,_,e=>by cases e
 | .exc _::_,_,e=>by cases e
 | .fB _ _::_,_,e=>by cases e
noncomputable def D5(f:En->Option (Bool×List D)):En->Option Sl:=λenv=>(f env).bind λx=>(sI x.2).bind λrs=>if rs≠[] then some (.sh (.tup ((ei rs).map D.int))) else none
theorem b6Y(hg:Gl X "min")(hm:X.mg "min" = none)(hc:X.calm=true)(hu:X.A.units+8<cLine)(ha:BV X a ba)(hs:starEach [a] X.env=[(false,eval a X.env)]:=by rfl):EV X (.Call (.Name "min" p) [a] [] pos) (D5 ba):=by
 obtain ⟨t,pt,k⟩:=ha
 refine ⟨_,sU (b2X hc (by ext hu)) hg hm (by decide +kernel) (oC pt pC hs) (by decide) (by decide) hs rfl,λO B σ H env s Q R e q=>?_⟩
 obtain ⟨⟨kk,ds⟩,e1,e2⟩:=bind_some e
 obtain ⟨rs,e3,e4⟩:=bind_some e2
 obtain ⟨aW,rfl⟩:=gU e4
 have o9:=RO e3
 dsimp only at o9
 subst o9
 refine k O B σ H env kk _ _ R e1 λl xs H1 s1 hq hx=>⟨l,kk,xs,rs,rfl,hq,aW,by rw [hx.length,aX],λi v hv=>?_,λi v hv em=>?_⟩
 .obtain ⟨d,hd,hi⟩:=hx.o4 hv
  rw [qU] at hd
  obtain ⟨x,ex,rfl⟩:=map_some hd
  obtain ⟨c,ys,rfl,h1,h2⟩:=Bk hi
  refine ⟨c,rfl,?_⟩
  rw [Ox,ex]
  show eO X.K H1 c (x.map V.int)
  rw [<-BF h2];exact h1
 .obtain ⟨d,hd,hi⟩:=hx.o4 hv
  rw [qU] at hd
  obtain ⟨x,ex,rfl⟩:=map_some hd
  rw [Ox,ex] at em
  have em:x=ei rs:=em
  rw [em] at hi
  exact q _ H1 s1 hi
end
theorem b5e:Wo (D5 f env) Q↔Wo (f env) λx=>Wo (sI x.2) λrs=>rs≠[]/\Q (.sh (.tup ((ei rs).map D.int))):=by
 unfold D5
 rw [a0n]
 have:∀x:Bool×List D,Wo ((sI x.2).bind λrs=>if rs≠[] then some (Sl.sh (.tup ((ei rs).map D.int))) else none) Q↔Wo (sI x.2) λrs=>rs≠[]/\Q (.sh (.tup ((ei rs).map D.int))):=λx=>by
  rw [a0n]
  have h:∀rs:List (List Int),Wo (if rs≠[] then some (Sl.sh (.tup ((ei rs).map D.int))) else none) Q↔rs≠[]/\Q (.sh (.tup ((ei rs).map D.int))):=λrs=>by
   by_cases z:rs=[]<;>simp [z,a0r,a0h]
  simp only [h]
 simp only [this]
theorem Q5{α:Type}{f:α->List Int}:∀(xs:List α),sI (xs.map λx=>.tup ((f x).map D.int))=some (xs.map f)
 | []=>rfl
 | x::r=>by
  show ((jL ((f x).map D.int)).bind λy=>(sI (r.map λx=>.tup ((f x).map D.int))).map (y::·))=_
  rw [Q5 r,BE];rfl
end DL
namespace DL
open PySem PySem.Spec PyProof.Rows L2
section
variable {X X':Cx}
def MD(mg:Str->Option Value)(x:Str)(n:Int):Prop:=∃t,mg x=some (.int n t)
theorem b4w(hg:Gl X x)(hm:MD X.mg x n)(hd:(x==("__debug__":Str))=false:=by decide):EV X (.Name x pos) (eC (.int n)):=by
 obtain ⟨t,hm⟩:=hm
 refine ⟨_,b6p (v:=.int n) hg hm ⟨t,rfl⟩ hd,λO B σ H env s Q R e q=>?_⟩
 cases e
 exact q _ H (au.refl _) (Is.int _)
end
section
variable {X:Cx}{N:List Str}{sc:Scope}{k:Nat}{full:Bool}{pos pos':Pos}{e:Expr}{fa:En->Option Sl}
noncomputable def Ea(C:Int->Int->Prop)[∀i j,Decidable (C i j)](g:Int->Int->Int)(i:Nat)(f:En->Option Sl):SF:=λenv=>match env[i]? with
 | some (.sh (.int m))=>match f env with
  | some (.sh (.int n))=>if C m n then some (.nx,env.set i (.sh (.int (g m n)))) else none
  | _=>none
 | _=>none
theorem b0W{C:Int->Int->Prop}[∀i j,Decidable (C i j)]{g:Int->Int->Int}{i:Nat}{f:En->Option Sl}{env:En}{y:Fl×En}(h:Ea C g i f env=some y):∃m n,env[i]?=some (.sh (.int m))/\f env=some (.sh (.int n))/\C m n/\y=(.nx,env.set i (.sh (.int (g m n)))):=by
 unfold Ea at h
 split at h
 .rename_i m e1
  split at h
  .rename_i n e2
   obtain ⟨hc,h⟩:=gU h
   exact ⟨m,n,e1,e2,hc,h.symm⟩
  .cases h
 .cases h
noncomputable instance (i j:Int):Decidable (lr i j):=by unfold lr;infer_instance
noncomputable def Eb:Nat->(En->Option Sl)->SF:=Ea lr λi j=>i*j
theorem Xc:Mv X .Mult (λx y H Q=>∃i j,x=.int i/\y=.int j/\lr i j/\Q (.int (i*j)) H):=λpins s σ H x y v u Q I r1 r2 h=>b6P pins s σ H x y v u Q I r1 r2 h
theorem Fx.J7(h:Fx X N sc k full)(i:Nat)(he:EV X e fa)(hN:N[i]?=some x:=by rfl)(hv:Loc sc x:=by first | exact cD rfl | exact bH rfl)
  (hf:full=true\/sc.names.lookup x=some .local:=by first | exact cD rfl | exact bH rfl):SV X (.AugAssign (.Name x pos') .Mult e pos) (Eb i fa):=by
 obtain ⟨t,p,kk⟩:=he
 refine ⟨_,O4 h.tT (h.ix hN) (h.loc hv) p Xc (h.tJ hf),λO B σ H env fl aj D R e q=>?_⟩
 obtain ⟨m,n,hi,e1,hc,e2⟩:=b0W e
 cases e2
 obtain ⟨v,e3,hv⟩:=R.sh i _ hi
 obtain rfl:=iY hv
 refine ⟨_,e3,kk O B σ H env _ _ R e1 λv H1 s1 r1=>?_⟩
 obtain rfl:=iY r1
 refine ⟨m,n,rfl,rfl,hc,?_⟩
 obtain ⟨R',g'⟩:=R.set (v:=.int (m*n)) (r:=.sh (.int (m*n))) s1 (Is.int (m*n)) (j0.mp hi).1
 exact q _ H1 R' g'
end
end DL
namespace TS
open PySem PyProof.Rows
section
variable {prog:Program}{w:World}{A:Around}{E:Value->Shared->Prop}{s:Shared}
end
end TS
namespace KS
open PySem PySem.W PyProof.Rows
noncomputable def go{α:Type}(cmp:Nat->Nat->Bool):KasT α->α
 | .ret a=>a
 | .ask i j k=>go cmp (k (cmp i j))
theorem wV{α β:Type}(cmp:Nat->Nat->Bool)(f:α->KasT β):∀t:KasT α,go cmp (t.bind f)=go cmp (f (go cmp t))
 | .ret a=>rfl
 | .ask i j k=>wV cmp f (k (cmp i j))
section
variable (K:Nat->Int)
noncomputable def kI(p:Array Nat)(i:Nat):Int:=K (p.getD i 0)
def rC(p:Array Nat)(k:Nat):Prop:=∀i j,i<=j->j<k->kI K p i<=kI K p j
def Ci(p:Array Nat)(k:Nat):Prop:=∀i j,i<=j->j<k->kI K p j<=kI K p i
noncomputable abbrev fm(i j:Nat):Bool:=decide (K i<K j)
variable {K}
theorem A3(h:p[i]?=q[j]?):kI K p i=kI K q j:=by
 unfold kI
 rw [Ol,Ol,h]
theorem JR(hj:j<=p.size)(k:Nat):kI K (mirror p i j ((j-i)/2)) k=if i<=k/\k<j then kI K p (i+j-1-k) else kI K p k:=by
 have e:=IU (i:=i) hj k
 by_cases h1:i<=k/\k<j
 .rw [if_pos h1] at e ⊢;exact A3 e
 .rw [if_neg h1] at e ⊢;exact A3 e
theorem Bm(hj:j<=p.size)(he:∀k,i<=k->k<j->kI K p k=kI K p (j-1))(k:Nat):kI K (mirror p i j ((j-i)/2)) k=kI K p k:=by
 rw [JR hj]
 split
 .rw [he _ (by omega) (by omega),he k (by omega) (by omega)]
 .rfl
theorem cL:∀(f n:Nat),1<=n->rC K p n->∃m,go (fm K) (kas_asc p f n)=m/\n<=m/\m<=n+f/\rC K p m/\(m=n+f\/kI K p m<kI K p (m-1))
 | 0,n,_,hs=>⟨n,rfl,by ext,by ext,hs,.inl rfl⟩
 | f+1,n,hn,hs=>by
  unfold kas_asc
  show ∃m,go (fm K) (if decide (kI K p n<kI K p (n-1))=true then .ret n else kas_asc p f (n+1))=m/\_
  by_cases c:kI K p n<kI K p (n-1)
  .rw [if_pos (decide_eq_true c)]
   exact ⟨n,rfl,by ext,by ext,hs,.inr c⟩
  .rw [if_neg (by simpa using c)]
   obtain ⟨m,e,m1,m2,m3,m4⟩:=cL f (n+1) (by ext) λi j cI hj=>by
    by_cases d:j<n
    .exact hs i j cI d
    .obtain rfl:j=n:=by ext hj d
     by_cases d2:i=j
     .subst d2;exact bF _
     .have:=hs i (j-1) (by ext cI d2) (by ext hn);ext c this
   exact ⟨m,e,by ext m1,by ext m2,m3,m4.elim (λz=>.inl (by ext z)) .inr⟩
theorem desc:∀(f:Nat) (p:Array Nat) (n q:Nat),1<=n->n+f<=p.size->Ci K p n->q+1<=n->(∀i,n-(q+1)<=i->i<n->kI K p i=kI K p (n-1)) ->
  ∃p' m q',go (fm K) (sj f p n q)=(p',m,q')/\p'.Perm p/\n<=m/\m<=n+f/\Ci K p' m/\q'+1<=m/\∀i,m-(q'+1)<=i->i<m->kI K p' i=kI K p' (m-1)
 | 0,p,n,q,_,_,hs,hq,he=>⟨p,n,q,rfl,sG _,by ext,by ext,hs,hq,he⟩
 | f+1,p,n,q,hn,hz,hs,hq,he=>by
  have next:∀p':Array Nat,(∀k,kI K p' k=kI K p k)->kI K p n<=kI K p (n-1)->Ci K p' (n+1):=λp' hk hl i j cI hj=>by
   rw [hk,hk]
   by_cases d:j<n
   .exact hs i j cI d
   .obtain rfl:j=n:=by ext hj d
    by_cases d2:i=j
    .subst d2;exact bF _
    .have:=hs i (j-1) (by ext cI d2) (by ext hn);ext hl this
  unfold sj
  show ∃p' m q',go (fm K) (if decide (kI K p n<kI K p (n-1))=true then (if q>0 then sj f (mR p (n-(q+1)) n) (n+1) 0 else sj f p (n+1) 0) else .ask (p.getD (n-1) 0) (p.getD n 0) λd=>if d=true then .ret (p,n,q) else sj f p (n+1) (q+1))=(p',m,q')/\_
  by_cases c:kI K p n<kI K p (n-1)
  .rw [if_pos (decide_eq_true c)]
   by_cases cq:q>0
   .rw [if_pos cq]
    obtain ⟨p',m,q',e,k1,k2,k3,k4,k5,k6⟩:=desc f (mR p (n-(q+1)) n) (n+1) 0 (by ext) (by unfold mR;rw [Dl];ext hz) (next _ (Bm (by ext hz) he) (by ext c)) (by ext) λi h1 h2=>by congr 1;ext h1 h2
    exact ⟨p',m,q',e,k1.trans (qK _ _ _ _),by ext k2,by ext k3,k4,k5,k6⟩
   .rw [if_neg cq]
    obtain ⟨p',m,q',e,k1,k2,k3,k4,k5,k6⟩:=desc f p (n+1) 0 (by ext) (by ext hz) (next _ (λ_=>rfl) (by ext c)) (by ext) λi h1 h2=>by congr 1;ext h1 h2
    exact ⟨p',m,q',e,k1,by ext k2,by ext k3,k4,k5,k6⟩
  .rw [if_neg (by simpa using c)]
   show ∃p' m q',go (fm K) (if decide (kI K p (n-1)<kI K p n)=true then .ret (p,n,q) else sj f p (n+1) (q+1))=(p',m,q')/\_
   by_cases c2:kI K p (n-1)<kI K p n
   .rw [if_pos (decide_eq_true c2)]
    exact ⟨p,n,q,rfl,sG _,by ext,by ext,hs,hq,he⟩
   .rw [if_neg (by simpa using c2)]
    have heq:kI K p n=kI K p (n-1):=by ext c c2
    obtain ⟨p',m,q',e,k1,k2,k3,k4,k5,k6⟩:=desc f p (n+1) (q+1) (by ext) (by ext hz) (next _ (λ_=>rfl) (by ext c2)) (by ext hq) λi h1 h2=>by
     rw [show n+1-1=n by ext]
     by_cases d:i=n
     .subst d;rfl
     .rw [heq];exact he i (by ext h1) (by ext h2 d)
    exact ⟨p',m,q',e,k1,by ext k2,by ext k3,k4,k5,k6⟩
theorem Pb(h1:1<=n)(hn:n<=nrem)(hz:nrem<=p.size)(hs:Ci K p n):∃m p',go (fm K) (kas_tail3 n nrem p)=(m,p')/\p'.Perm p/\1<=m/\m<=nrem/\rC K p' m:=by
 unfold kas_tail3
 rw [wV]
 obtain ⟨m,e,m1,m2,m3,_⟩:=cL (K:=K) (p:=mR p 0 n) (nrem-n) n h1 λi j cI hj=>by
  unfold mR
  rw [JR (by ext hn hz),JR (by ext hn hz),if_pos (by ext cI hj),if_pos (by ext hj)]
  exact hs _ _ (by ext cI) (by ext hj)
 rw [e]
 exact ⟨m,_,rfl,qK _ _ _ _,by ext h1 m1,by ext hn m2,m3⟩
theorem OF(hn:n+1<=nrem)(hz:nrem<=p.size)(hs:Ci K p (n+1)):∃m p',go (fm K) (AD n nrem p)=(m,p')/\p'.Perm p/\1<=m/\m<=nrem/\rC K p' m:=by
 unfold AD
 rw [wV]
 obtain ⟨p',m,q',e,k1,k2,k3,k4,k5,k6⟩:=desc (K:=K) (nrem-(n+1)) p (n+1) 0 (by ext) (by ext hn hz) hs (by ext) λi h1 h2=>by congr 1;ext h1 h2
 have vR:p'.size=p.size:=k1.size_eq
 rw [e]
 dsimp only
 by_cases c:q'>0
 .rw [if_pos c]
  obtain ⟨a,b,e2,j1,j2,j3,j4⟩:=Pb (K:=K) (p:=mR p' (m-(q'+1)) m) (n:=m) (nrem:=nrem) (by ext k5) (by ext hn k3) (by unfold mR;rw [Dl];ext hz vR) λi j cI hj=>by
   unfold mR
   rw [Bm (by ext hn hz k3 vR) k6,Bm (by ext hn hz k3 vR) k6]
   exact k4 i j cI hj
  exact ⟨a,b,e2,j1.trans ((qK _ _ _ _).trans k1),j2,j3,j4⟩
 .rw [if_neg c]
  obtain ⟨a,b,e2,j1,j2,j3,j4⟩:=Pb (K:=K) (p:=p') (n:=m) (nrem:=nrem) (by ext k5) (by ext hn k3) (by ext hz vR) k4
  exact ⟨a,b,e2,j1.trans k1,j2,j3,j4⟩
theorem cnt(h1:1<=nrem)(hz:nrem<=p.size):∃m p',go (fm K) (kas_count nrem p)=(m,p')/\p'.Perm p/\1<=m/\m<=nrem/\rC K p' m:=by
 unfold kas_count
 rw [wV]
 obtain ⟨n,e,n1,n2,n3,n4⟩:=cL (K:=K) (p:=p) (nrem-1) 1 (by ext) λi j cI hj=>by
  obtain rfl:i=j:=by ext cI hj
  exact bF _
 rw [e]
 by_cases c:n=nrem
 .rw [if_pos (by simpa using c)]
  exact ⟨n,p,rfl,sG _,n1,by ext c,n3⟩
 rw [if_neg (by simpa using c)]
 have bE:kI K p n<kI K p (n-1):=n4.resolve_left (by ext h1 c)
 by_cases c2:n>1
 .rw [if_pos c2]
  show ∃m p',go (fm K) (if decide (kI K p 0<kI K p (n-1))=true then .ret (n,p) else AD n nrem (mR p 0 n))=(m,p')/\_
  by_cases c3:kI K p 0<kI K p (n-1)
  .rw [if_pos (decide_eq_true c3)]
   exact ⟨n,p,rfl,sG _,n1,by ext h1 n2,n3⟩
  .rw [if_neg (by simpa using c3)]
   have jE:∀k,0<=k->k<n->kI K p k=kI K p (n-1):=λk _ hk=>by
    have:=n3 0 k (by ext) hk
    have:=n3 k (n-1) (by ext hk) (by ext c2)
    lia
   obtain ⟨a,b,e2,j1,j2,j3,j4⟩:=OF (K:=K) (p:=mR p 0 n) (n:=n) (nrem:=nrem) (by ext h1 n2 c) (by unfold mR;rw [Dl];ext hz) λi j cI hj=>by
    unfold mR
    rw [Bm (by ext h1 hz n2) jE,Bm (by ext h1 hz n2) jE]
    by_cases d:j<n
    .rw [jE i (by ext) (by ext cI d),jE j (by ext) d];exact bF _
    .obtain rfl:j=n:=by ext hj d
     by_cases d2:i=j
     .subst d2;exact bF _
     .rw [jE i (by ext) (by ext cI d2)];ext bE
   exact ⟨a,b,e2,j1.trans (qK _ _ _ _),j2,j3,j4⟩
 .rw [if_neg c2]
  obtain rfl:n=1:=by ext n1 c2
  exact OF (K:=K) (by ext h1 c) hz λi j cI hj=>by
   by_cases d:i=j
   .subst d;exact bF _
   .obtain ⟨rfl,rfl⟩:i=0/\j=1:=by ext cI hj d
    exact AE bE
theorem JN(hs:rC K p k):∀(f l r:Nat),l<=r->r<=k->r-l<=f->(∀i,i<l->kI K p i<=kI K p k)->(∀i,r<=i->i<k->kI K p k<kI K p i) ->
  ∃m,go (fm K) (v3 p k f l r)=m/\m<=k/\(∀i,i<m->kI K p i<=kI K p k)/\∀i,m<=i->i<k->kI K p k<kI K p i
 | 0,l,r,h1,h2,h3,h4,h5=>by
  obtain rfl:l=r:=by ext h1 h3
  exact ⟨l,rfl,h2,h4,h5⟩
 | f+1,l,r,h1,h2,h3,h4,h5=>by
  unfold v3
  by_cases c:l≥r
  .rw [if_pos c]
   obtain rfl:l=r:=by ext h1 c
   exact ⟨l,rfl,h2,h4,h5⟩
  .rw [if_neg c]
   show ∃m,go (fm K) (if decide (kI K p k<kI K p ((l+r)/2))=true then v3 p k f l ((l+r)/2) else v3 p k f ((l+r)/2+1) r)=m/\_
   by_cases c2:kI K p k<kI K p ((l+r)/2)
   .rw [if_pos (decide_eq_true c2)]
    exact JN hs f l _ (by lia) (by lia) (by lia) h4 λi z1 z2=>by
     have:=hs ((l+r)/2) i z1 z2;ext c2 this
   .rw [if_neg (by simpa using c2)]
    exact JN hs f _ r (by lia) (by ext h2) (by lia) (λi z=>by
     have:=hs i ((l+r)/2) (by ext z) (by lia);ext c2 this) h5
theorem bin:∀(f:Nat) (p:Array Nat) (k:Nat),1<=k->k+f<=p.size->rC K p k->∃p',go (fm K) (kas_bin f p k)=p'/\p'.Perm p/\rC K p' (k+f)
 | 0,p,k,_,_,hs=>⟨p,rfl,sG _,hs⟩
 | f+1,p,k,hk,hz,hs=>by
  unfold kas_bin
  rw [wV]
  obtain ⟨l,e,l1,l2,l3⟩:=JN (K:=K) hs k 0 k (by ext) (by ext) (by ext) (λi z=>by ext z) λi z1 z2=>by ext z1 z2
  rw [e]
  have hb:=getElem?_bubble (xs:=p) (src:=k) (by ext hz) (k-l) (by ext)
  rw [show k-(k-l)=l by ext l1] at hb
  have kb:∀m,kI K (bubble p k (k-l)) m=if m=l then kI K p k else if l<m/\m<=k then kI K p (m-1) else kI K p m:=λm=>by
   have e:=hb m
   by_cases c1:m=l
   .rw [if_pos c1] at e ⊢;exact A3 e
   .rw [if_neg c1] at e ⊢
    by_cases c2:l<m/\m<=k
    .rw [if_pos c2] at e ⊢;exact A3 e
    .rw [if_neg c2] at e ⊢;exact A3 e
  obtain ⟨p',e',j1,j2⟩:=bin f (bubble p k (k-l)) (k+1) (by ext) (by rw [bubble_size];ext hz) λi j cI hj=>by
   rw [kb,kb]
   repeat' split
   all_goals first
    | (exfalso;lia)
    | exact bF _
    | exact l2 _ (by lia)
    | exact AE (l3 _ (by lia) (by lia))
    | exact hs _ _ (by lia) (by lia)
  exact ⟨p',e',j1.trans (bubble_perm _ _ _),by rw [show k+(f+1)=k+1+f by ext];exact j2⟩
noncomputable def ord(K:Nat->Int)(n:Nat):List Nat:=(go (fm K) (Aw n)).toList
theorem eh(K:Nat->Int)(n:Nat)(h:1<=n):(ord K n).Perm (jH n)/\(ord K n).Pairwise λi j=>K i<=K j:=by
 have key:∃p',go (fm K) (Aw n)=p'/\p'.Perm (Ip (jH n))/\rC K p' n:=by
  unfold Aw
  rw [wV]
  obtain ⟨m,p,e,k1,k2,k3,k4⟩:=cnt (K:=K) (p:=Ip (jH n)) (nrem:=n) h (by simp)
  rw [e]
  dsimp only
  have hz:p.size=n:=by rw [k1.size_eq];simp
  by_cases c:m<n
  .rw [if_pos c]
   obtain ⟨p',e',j1,j2⟩:=bin (K:=K) (n-max m 1) p (max m 1) (by ext) (by ext hz c) (by rw [show max m 1=m by ext k2];exact k4)
   exact ⟨p',e',j1.trans k1,by rw [show max m 1+(n-max m 1)=n by ext c] at j2;exact j2⟩
  .rw [if_neg c]
   obtain rfl:m=n:=by ext k3 c
   exact ⟨p,rfl,k1,k4⟩
 obtain ⟨p,e,k1,k2⟩:=key
 unfold ord
 rw [e]
 refine ⟨wx.mp k1,AX.mpr λi j hi hj cI=>?_⟩
 have hz:p.size=n:=by rw [k1.size_eq];simp
 simp only [gQ] at hi hj
 have:=k2 i j (by ext cI) (by ext hj hz)
 unfold kI at this
 simpa [hi,hj] using this
end
end KS
namespace KS
open PySem PySem.W PyProof.Rows
noncomputable def Ok{α:Type}(n:Nat)(R:α->Prop):KasT α->Prop
 | .ret a=>R a
 | .ask i j k=>i<n/\j<n/\∀b,Ok n R (k b)
theorem Ok.bind{α β:Type}{n:Nat}{R:α->Prop}{S:β->Prop}{f:α->KasT β}(hf:∀a,R a->Ok n S (f a)):∀{t:KasT α},Ok n R t->Ok n S (t.bind f)
 | .ret a,h=>hf a h
 | .ask i j k,h=>⟨h.1,h.2.1,λb=>Ok.bind hf (h.2.2 b)⟩
theorem rG{α:Type}{n:Nat}{cm:Nat->Nat->(Bool->Shared->Prop)->Shared->Prop}{cmp:Nat->Nat->Bool}{s:Shared}(h:∀i j,i<n->j<n->∀Q,Q (cmp i j) s->cm i j Q s){R:α->Prop}{Q:α->Shared->Prop}:∀{t:KasT α},Ok n R t->Q (go cmp t) s->t.kasWp cm Q s
 | .ret _,_,q=>q
 | .ask i j k,o,q=>h i j o.1 o.2.1 _ (rG h (o.2.2 (cmp i j)) q)
section
variable {n:Nat}
def En(n:Nat)(p:Array Nat):Prop:=∀k,p.getD k 0<n
theorem En.perm(h0:0<n)(h:En n p)(e:q.Perm p):En n q:=λk=>by
 by_cases hk:k<q.size
 .have hm:q[k]∈p.toList:=(wx.mp e).mem_iff.mp (by simp)
  obtain ⟨i,hi,e2⟩:=pW.mp hm
  have:=h i
  rw [gQ] at hi
  simp only [Dc,hi,hk,dite_true] at this ⊢
  simp at e2
  have e3:q[k]=p[i]:=e2.symm
  show q[k]<n
  rw [e3]
  exact this
 .simp [Dc,hk,h0]
theorem J6{p:Array Nat}(h:En n p):∀f m,Ok n (λ_=>True) (kas_asc p f m)
 | 0,m=>trivial
 | f+1,m=>by
  unfold kas_asc
  refine ⟨h _,h _,λb=>?_⟩
  dsimp only
  split
  .trivial
  .exact J6 h f (m+1)
theorem EM(h0:0<n):∀f (p:Array Nat) m q,En n p->Ok n (λr=>En n r.1) (sj f p m q)
 | 0,p,m,q,h=>h
 | f+1,p,m,q,h=>by
  unfold sj
  refine ⟨h _,h _,λb=>?_⟩
  dsimp only
  split
  .split
   .exact EM h0 f _ _ _ (h.perm h0 (qK _ _ _ _))
   .exact EM h0 f _ _ _ h
  .refine ⟨h _,h _,λb=>?_⟩
   dsimp only
   split
   .exact h
   .exact EM h0 f _ _ _ h
theorem Qy(h0:0<n)(h:En n p)(a b:Nat):Ok n (λr=>En n r.2) (kas_tail3 a b p):=by
 unfold kas_tail3
 have e:En n (mR p 0 a):=h.perm h0 (qK _ _ _ _)
 exact (J6 e _ _).bind λm _=>(show Ok n (λr:Nat×Array Nat=>En n r.2) (.ret (m,mR p 0 a)) from e)
theorem Qx(h0:0<n)(h:En n p)(a b:Nat):Ok n (λr=>En n r.2) (AD a b p):=by
 unfold AD
 refine (EM h0 _ _ _ _ h).bind λr hr=>?_
 split
 .exact Qy h0 (hr.perm h0 (qK _ _ _ _)) _ _
 .exact Qy h0 hr _ _
theorem b33(h0:0<n)(h:En n p)(b:Nat):Ok n (λr=>En n r.2) (kas_count b p):=by
 unfold kas_count
 refine (J6 h _ _).bind λm _=>?_
 split
 .exact h
 .split
  .refine ⟨h _,h _,λb=>?_⟩
   dsimp only
   split
   .exact h
   .exact Qx h0 (h.perm h0 (qK _ _ _ _)) _ _
  .exact Qx h0 h _ _
theorem KJ{p:Array Nat}(h:En n p)(k:Nat):∀f l r,Ok n (λ_=>True) (v3 p k f l r)
 | 0,l,r=>trivial
 | f+1,l,r=>by
  unfold v3
  split
  .trivial
  .refine ⟨h _,h _,λb=>?_⟩
   dsimp only
   split
   .exact KJ h k f _ _
   .exact KJ h k f _ _
theorem O2(h0:0<n):∀f (p:Array Nat) k,En n p->Ok n (λ_=>True) (kas_bin f p k)
 | 0,p,k,h=>trivial
 | f+1,p,k,h=>by
  unfold kas_bin
  exact (KJ h k _ _ _).bind λl _=>O2 h0 f _ _ (h.perm h0 (bubble_perm _ _ _))
theorem qo(h0:0<n):Ok n (λ_=>True) (Aw n):=by
 unfold Aw
 have e:En n (Ip (jH n)):=λk=>by
  by_cases hk:k<n
  .simp [Dc,hk]
  .simp [Dc,hk,h0]
 refine (b33 h0 e n).bind λr hr=>?_
 split
 .exact O2 h0 _ _ _ hr
 .trivial
end
end KS
namespace PT
open PySem PySem.W PyProof.Rows
section
variable {prog:Program}{w:World}{A:Around}{E:Value->Shared->Prop}{s:Shared}
end
end PT
namespace DL
open PySem PySem.Spec PyProof.Rows L2
section
variable {X:Cx}
end
end DL
namespace DL
open PySem PySem.W PySem.Spec PyProof.Rows L2
theorem Fx.sw{X:Cx}{N:List Str}{sc:Scope}{k:Nat}{full:Bool}(h:Fx X N sc k full){x:Str}{l:Nat}(h1:(sc.names.lookup x==some .local)=false):swapsWith (.ListComp elt gs cc pos) (some (.Name x pos')) l X.env=pure false:=by
 have m9:X.env.kindOf x=sc.names.lookup x:=by unfold De;rw [h.sc]
 unfold swapsWith
 dsimp only
 rw [m9,h1,Bool.and_false,IJ,IJ]
noncomputable def cF{α:Type}(kz:List Int)(d:α)(vs:List α):List α:=if vs.length<2 then vs else (KS.ord (λi=>kz.getD i 0) vs.length).map λi=>vs.getD i d
theorem LA{α:Type}(kz:List Int)(d:α)(vs:List α):(cF kz d vs).Perm vs:=by
 unfold cF
 split
 .exact DB _
 .rename_i hn
  have h:=(KS.eh (λi=>kz.getD i 0) vs.length (by ext hn)).1.map λi=>vs.getD i d
  refine h.trans ?_
  have:(jH vs.length).map (λi=>vs.getD i d)=vs:=by
   refine List.ext_getElem (by simp) λi h1 h2=>?_
   simp at h1
   simp [h1]
  rw [this]
theorem KO:∀{xs:List V} {vs:List Value},aw xs vs->∀i (h1:i<xs.length) (h2:i<vs.length),RelV xs[i] vs[i]
 | _::_,_::_,.cons a b,0,_,_=>a
 | _::_,_::_,.cons a b,i+1,h1,h2=>KO b i (by simpa using h1) (by simpa using h2)
theorem Ky{K:aI}{O:Addr->Prop}{H:Hp}:∀{xs:List V} {ds:List D},aN K O H xs ds->∀i (h1:i<xs.length) (h2:i<ds.length),Is K O H xs[i] ds[i]
 | _::_,_::_,.cons a b,0,_,_=>a
 | _::_,_::_,.cons a b,i+1,h1,h2=>Ky b i (by simpa using h1) (by simpa using h2)
theorem ints_get:∀{vs:List Value} {ns:List Int},IntsAre vs ns->∀i,i<vs.length->∃t,vs.getD i gi=.int (ns.getD i 0) t
 | _,_,.cons n t h,0,_=>⟨t,rfl⟩
 | _,_,.cons n t h,i+1,hi=>by
  obtain ⟨t',e⟩:=ints_get h i (by simpa using hi)
  exact ⟨t',by simpa using e⟩
theorem b3W(rv:aw xs vs)(hl:vs.length=xs.length):aw (cF kz (.int 0) xs) (cF kz gi vs):=by
 unfold cF
 by_cases h2:xs.length<2
 .rw [if_pos h2,if_pos (by ext hl h2:1)];exact rv
 rw [if_neg h2,if_neg (by ext hl h2:1),hl]
 have hm:∀i∈KS.ord (λi=>kz.getD i 0) xs.length,i<xs.length:=λi hi=>sk.mp ((KS.eh (λi=>kz.getD i 0) xs.length (by ext h2:1)).1.mem_iff.mp hi)
 generalize KS.ord (λi=>kz.getD i 0) xs.length=os at *
 induction os with
 | nil=>exact .nil
 | cons i os ih =>
  have hi:=hm i (aZ ..)
  refine .cons ?_ (ih λj hj=>hm j (br _ hj))
  have:=KO rv i hi (by ext hl hi:1)
  simpa [hi,show i<vs.length by ext hl hi:1] using this
section
variable {X:Cx}{pins:List (Addr×Obj)}{s:Shared}{σ:L2.St}{H:Hp}
theorem y8{α β:Type}{c:Prop}[Decidable c]{M:Model}{A:Around}{a b:Sem α}{f:α->Sem β}{Q:β->Shared->Prop}{E:Value->Shared->Prop}{s:Shared}(h:wpAny M A ((if c then a else b) >>= f) Q E s):wpAny M A (if c then a >>= f else b >>= f) Q E s:=by
 by_cases hc:c
 .rw [if_pos hc] at h ⊢;exact h
 .rw [if_neg hc] at h ⊢;exact h
theorem b1R{k:Nat}{f it:Addr}(hr:bJ (k+1) X.A)(I:Inv X pins σ H s){xs:List V}{kz:List Int}(qA:kz.length=xs.length)(dR:xs.length<64)
  (HA:∀{A':Around} {Q':List Value->Shared->Prop} {E':Value->Shared->Prop},A'.handled=X.A.handled->(∀h' tk vs,(∀b o,s.heap.get? b=some o->h'.get? b=some o)->s.heap.objs.size<=h'.objs.size->aw xs vs->Q' vs { s with heap:=h',toks:=tk })->wpAny (model X.prog X.w) A' (collect (.ref it)) Q' E' s)
  (Hk:∀(H1:Hp) (s1:Shared) (j:Nat) (v:Value) (x:V),Inv X pins σ H1 s1->au H H1->RelV x v->xs[j]?=some x->wpAny (model X.prog X.w) X.A.in1.in1 (call (.ref f) [v]) (λu s'=>∃t H',u=.int (kz.getD j 0) t/\Inv X pins σ H' s'/\au H1 H'/\∀b o,s1.heap.get? b=some o->cZ X pins H1 b->s'.heap.get? b=some o/\cZ X pins H' b) (λ_ _=>False) s1)
  {Q:VK}(q:∀a H',au H H'->H' a=none->Q (.ref a) (upd H' a (.lst (cF kz (.int 0) xs)))):
  wpAny (model X.prog X.w) X.A (call (.builtin "sorted") [.ref it] [(qJ "key",.ref f)]) (EP X pins σ Q) X.xe s:=by
 refine call_function_entry_kw kind_sorted plain_sorted entry_sorted (ksk_s1 _ _) ?_
 unfold Builtin.«sorted»
 refine aA (m:=checkCount "sorted" 1 1 _) (bC (aA (HA rfl λhC xN vs kC zC rv=>?_)))
 have qz:vs.length=xs.length:=rv.length.symm
 have hZ:vs.length<=sizeLine:=by rw [iV];ext dR qz:1
 refine aA (Dj ?_ hZ)
 obtain ⟨hL,Ah⟩:∃hL,hL=hC.push (seqObj "list" vs.toArray 0):=⟨_,rfl⟩
 have gL:hL.get? hC.objs.size=some (seqObj "list" vs.toArray 0):=by rw [Ah];exact fD _ rfl
 have zL:hL.objs.size=hC.objs.size+1:=by rw [Ah,Dd]
 have kL:∀b o,s.heap.get? b=some o->hL.get? b=some o:=λb o e=>by rw [Ah];exact bR _ (kC b o e)
 show wpAny _ _ _ _ _ { s with heap:=hC.push (seqObj "list" vs.toArray 0),toks:=xN }
 rw [<-Ah]
 clear Ah kC
 generalize ha:hC.objs.size=a at *
 refine aA (pT (wpAny_call_entry_kw slot_list_sort ⟨_,gL,rfl⟩ entry_list_sort ?_ (ksk_l1 _ _)))
 show wpAny (model X.prog X.w) X.A.in1.in1 (Builtin.«list.sort» ⟨[.ref a],[(qJ "key",.ref f)]⟩) _ _ _
 rw [ksk_t1]
 unfold ksk_tree
 have fa:cZ X pins H a:=I.jG (by ext zC:1) (I.bu.fresh (by ext zC:1))
 refine aA (wa gL rfl (aA (wu gL rfl ?_ (by rw [dU];exact hZ) (nD _))))
 obtain ⟨c1,g1⟩:∃c1,(hL.update a (fS λ_=>(#[]:Array Value))).get? a=some (seqObj "list" #[] c1):=⟨_,Dr gL λ_=>#[]⟩
 obtain ⟨hU,eU⟩:∃hU,hU=hL.update a (fS λ_=>(#[]:Array Value)):=⟨_,rfl⟩
 rw [<-eU] at g1
 have zU:hU.objs.size=a+1:=by rw [eU,ID,zL]
 have kU:∀b o,s.heap.get? b=some o->hU.get? b=some o:=λb o e=>by
  have bE:b<s.heap.objs.size:=bX e
  rw [eU,wB _ _ _ _ (dW (jI bE zC))]
  exact kL b o e
 show wpAny _ _ _ _ _ { s with toks:=xN,heap:=hL.update a (fS λ_=>(#[]:Array Value)) }
 rw [<-eU]
 clear eU kL gL zL
 refine aA (Dk g1 rfl (aA (II (aA (Dj (pT ?_) (nD _))) (by show vs.toArray.size<=_;rw [dU];exact hZ))))
 obtain ⟨hK,eK⟩:∃hK,hK=(hU.push (seqObj "tuple" vs.toArray 0)).push (seqObj "list" #[] 0):=⟨_,rfl⟩
 have zT:(hU.push (seqObj "tuple" vs.toArray 0)).objs.size=a+2:=by rw [Dd,zU]
 have gK:hK.get? (a+2)=some (seqObj "list" #[] 0):=by rw [eK,<-zT];exact fD _ rfl
 have gA:hK.get? a=some (seqObj "list" #[] c1):=by rw [eK];exact bR _ (bR _ g1)
 have kK:∀b o,s.heap.get? b=some o->hK.get? b=some o:=λb o e=>by rw [eK];exact bR _ (bR _ (kU b o e))
 show wpAny _ _ _ _ _ { s with toks:=xN,heap:=(hU.push (seqObj "tuple" vs.toArray 0)).push (seqObj "list" #[] 0) }
 rw [<-eK]
 show wpAny _ _ (ksk_rest a (.ref f) false vs.toArray c1 (.ref (hU.push (seqObj "tuple" vs.toArray 0)).objs.size)) _ _ _
 rw [zT]
 clear eK zT g1 kU zU
 generalize hk:a+2=kS at *
 have fk:cZ X pins H kS:=I.jG (by ext zC hk:1) (I.bu.fresh (by ext zC hk:1))
 have MU:kS≠a:=by ext hk:1
 have I3:Inv X pins σ H { s with toks:=xN,heap:=hK }:=I.kept (t':=xN) kK
 unfold ksk_rest
 refine aA (wb ?_)
 rw [List.forIn_toArray]
 refine aA (ksk_fold (λi s'=>∃H' kA c,Inv X pins σ H' s'/\au H H'/\cZ X pins H' kS/\cZ X pins H' a/\s'.heap.get? kS=some (seqObj "list" kA c)/\s'.heap.get? a=some (seqObj "list" #[] c1)/\IntsAre kA.toList (kz.take i)) vs 0 _ ⟨H,#[],0,I3,au.refl _,fk,fa,gK,gA,.nil⟩ (λj x s' hj hI=>?_) λs' hI=>?_)
 .obtain ⟨H1,kA,c,I1,sm,f1,f2,g3,g4,ia⟩:=hI
  rw [su] at ia ⊢
  obtain ⟨zE,XM⟩:=j0.mp hj
  have Nl:j<xs.length:=by ext qz zE:1
  have rx:RelV xs[j] x:=by rw [<-XM];exact KO rv j Nl zE
  obtain ⟨kv,NH⟩:∃kv,kv=kz.getD j 0:=⟨_,rfl⟩
  have ek:kz.take (j+1)=kz.take j++[kv]:=by rw [List.take_succ,ot (by ext qA qz zE:1),NH];simp [show j<kz.length by ext qA qz zE:1]
  have ck:=Hk H1 s' j x xs[j] I1 sm rx (ot Nl)
  rw [<-NH] at ck
  refine aA (AA (jY ck (λu s2 he=>?_) λ_ _ z=>z.elim))
  .obtain ⟨t,H2,rfl,I2,Tf,kp⟩:=he
   dsimp only
   obtain ⟨g5,f5⟩:=kp kS _ g3 f1
   obtain ⟨g6,f6⟩:=kp a _ g4 f2
   have hz:kA.size<=64:=by
    have:=ia.length
    rw [gQ,iA] at this
    ext dR qz zE this:1
   refine aA (wu g5 rfl (bC ⟨rfl,?_⟩) (by rw [iV];ext hz:1) (by rw [Array.size_push,iV];ext hz:1))
   obtain ⟨c2,g7⟩:∃c2,(s2.heap.update kS (fS (·.push (.int kv t)))).get? kS=some (seqObj "list" (kA.push (.int kv t)) c2):=⟨_,Dr g5 (·.push (.int kv t))⟩
   have M0:∀b o,b∉[kS]->s2.heap.get? b=some o->(s2.heap.update kS (fS (·.push (.int kv t)))).get? b=some o:=λb o hb e=>by
    rw [wB _ _ _ _ (by simpa using hb)]
    exact e
   refine ⟨H2,kA.push (.int kv t),c2,wY (ch:=[kS]) (t':=s2.toks) I2 (λb hb=>by rw [bP.mp hb];exact f5) M0,sm.trans Tf,f5,f6,g7,M0 a _ (by simpa using MU.symm) g6,?_⟩
   rw [ek,show (kA.push (lG kv t)).toList=kA.toList++[lG kv t] by simp]
   exact ksk_snoc ia
 .obtain ⟨H1,kA,c,I1,sm,f1,f2,g3,g4,ia⟩:=hI
  have jk:IntsAre kA.toList kz:=by rw [su,qz,<-qA,List.take_length] at ia;exact ia
  have zz:kA.toList.length=vs.length:=by rw [jk.length,qA,qz]
  have Hl:kA.size=vs.length:=by rw [<-gQ];exact zz
  refine aA (wa g3 rfl ?_)
  unfold ksk_end
  dsimp only
  rw [if_neg (by decide)]
  have runK:∀{E:Value->Shared->Prop},wpAny (model X.prog X.w) X.A.in1.in1 (if vs.toArray.size<2 then pure general' else keyKind' kA) (λkind s2=>s2=s'/\wpAny (model X.prog X.w) X.A.in1.in1 ((if vs.toArray.size<2 then pure () else sortRuns').run (Az kind (if false=true then (kA.zip vs.toArray).reverse else kA.zip vs.toArray) #[] 7 none)) (λr s2=>s2=s'/\(arrOf r.2).map (·.2)=(cF kz gi vs).toArray/\failedOf r.2=none) E s') E s':=λ{E}=>by
   rw [if_neg (show ¬(false=true) by decide)]
   by_cases h2:vs.length<2
   .rw [if_pos (by simpa using h2),if_pos (by simpa using h2)]
    refine bC ⟨rfl,bC ⟨rfl,?_,rfl⟩⟩
    show (kA.zip vs.toArray).map (·.2)=_
    rw [show cF kz gi vs=vs by unfold cF;rw [if_pos h2],Array.map_snd_zip (by simp;ext Hl:1)]
   rw [if_neg (by simpa using h2),if_neg (by simpa using h2),ksk_kind jk (by ext Hl h2:1)]
   refine bC ⟨rfl,?_⟩
   have:=kat_run (prog:=X.prog) (w:=X.w) (A:=X.A.in1.in1) (E:=E) (s:=s') (ks:=kA.toList) (vs:=vs) (κ:=oneType') (Q:=λak s2=>s2=s'/\(arrOf ak).map (·.2)=(cF kz gi vs).toArray/\failedOf ak=none) (G:=λp s2=>s2=s'/\p.toList=KS.ord (λi=>kz.getD i 0) vs.length) zz (by ext h2:1) (by ext dR qz:1) (λp ak s2 hz ha hf hp=>⟨hp.1,by
    rw [kat_snds zz ha,hp.2]
    unfold cF
    rw [if_neg (by ext h2:1)],hf⟩) (KS.rG (n:=vs.length) (cmp:=KS.fm λi=>kz.getD i 0) (λi j hi hj C hC=>by
     unfold kas_ask
     obtain ⟨t1,e1⟩:=ints_get jk i (by ext zz hi:1)
     obtain ⟨t2,e2⟩:=ints_get jk j (by ext zz hj:1)
     rw [e1,e2]
     exact kat_lt_int hC) (KS.qo (by ext h2:1)) ⟨rfl,rfl⟩)
   rw [Array.toArray_toList] at this
   exact this
  refine y8 (aA (jY runK (λkind s2 hq=>?_) λ_ _ e=>e))
  obtain ⟨rfl,run⟩:=hq
  refine aA (jY run ?_ λ_ _ e=>e)
  rintro ⟨⟨⟩,ak⟩ s2 ⟨rfl,hp,hf⟩
  dsimp only at hp hf ⊢
  unfold ksk_tail
  dsimp only
  rw [hp,hf]
  have jC:(cF kz gi vs).toArray.size=vs.length:=by rw [dU];exact (LA kz _ vs).length_eq
  generalize X8:(cF kz gi vs).toArray=out at *
  have Ww:∀b o,b∉[kS,a]->s2.heap.get? b=some o->(s2.heap.update kS (fS λ_=>(#[]:Array Value))).get? b=some o:=λb o hb e=>by
   rw [wB _ _ _ _ (by simp at hb;exact hb.1)]
   exact e
  have g5:(s2.heap.update kS (fS λ_=>(#[]:Array Value))).get? a=some (seqObj "list" #[] c1):=by
   rw [wB _ _ _ _ MU.symm]
   exact g4
  refine aA (wu g3 rfl (aA (sr (aA (Dk g5 rfl (aA (wu g5 rfl ?_ (nD _) ?_)))))) (by rw [Hl];exact hZ) (nD _))
  .simp only [bne_self_eq_false,qM,if_false]
   obtain ⟨c2,g6⟩:∃c2,((s2.heap.update kS (fS λ_=>(#[]:Array Value))).update a (fS λ_=>out)).get? a=some (seqObj "list" out c2):=⟨_,Dr g5 λ_=>out⟩
   refine bC ⟨_,rfl,bC ⟨_,rfl,?_⟩⟩
   have I5:Inv X pins σ H1 { s2 with heap:=(s2.heap.update kS (fS λ_=>(#[]:Array Value))).update a (fS λ_=>out),toks:=s2.toks }:=wY (ch:=[kS,a]) (t':=s2.toks) I1 (λb hb=>by
    rcases bq.mp hb with rfl | hb
    .exact f1
    .rw [bP.mp hb];exact f2) λb o hb e=>by
     rw [wB _ _ _ _ (by simp at hb;exact hb.2)]
     exact Ww b o hb e
   refine ⟨.ref a,_,xM (o:=.lst (cF kz (.int 0) xs)) I5 f2 ⟨by rw [(LA kz _ xs).length_eq,iV];ext dR:1,out.toList,c2,?_,by simpa using g6⟩,rfl,q a H1 sm f2.1⟩
   rw [<-X8]
   exact b3W rv (by ext qz:1)
  .simp only [qM,if_false]
   rw [jC]
   ext hZ:1
theorem b1Q(F:bY X.prog X.w X.K X.mg X.base jt k f fd ps (mY X.K ps.length φ))(h1:ps.length=1)(hr:bJ (k+1) X.A)(hb:Binds X.K fd ps [])
  (I:Inv X pins σ H s)(hq:Sq X.K H true p xs)(hO:qb X.K O H)(ix:aN X.K O H xs ds)(ek:ds.map (λd=>φ [d])=kz.map λk=>some (.sh (.int k)))(dR:xs.length<64)(q:∀a H',au H H'->H' a=none->Q (.ref a) (upd H' a (.lst (cF kz (.int 0) xs)))):
  wpAny (model X.prog X.w) X.A (call (.builtin "sorted") [.ref p] [(qJ "key",.ref f)]) (EP X pins σ Q) X.xe s:=by
 obtain ⟨vs,rv,pl⟩:=pA (b:=true) I hq
 have Hj:ds.length=xs.length:=ix.length.symm
 have qA:kz.length=xs.length:=by have:=congrArg pd ek;rw [aX,aX] at this;ext Hj this
 have Xq:bJ k X.A.in1.in1:=⟨hr.hd,by have:=hr.dp;show X.A.depth+3*k+5<_;ext this,by have:=hr.un;show X.A.units+1+1+16*k+200<_;ext this⟩
 refine b1R hr I qA dR (λ_ h=>collect_list pl (h _ s.toks vs (λb o e=>?_) ?_ rv) ?_) (λH1 s1 j v x I1 sm rx hx=>?_) q
 .rw [wB _ _ _ _ (dW (bX e))]
  exact bR _ e
 .rw [ID,Dd];ext
 .have:=rv.length;rw [iV];ext dR this
 .obtain ⟨hj,rfl⟩:=j0.mp hx
  have ev:φ [ds[j]]=some (.sh (.int (kz.getD j 0))):=by
   have:=congrArg (λl=>l[j]?) ek
   simp [show j<ds.length by ext Hj hj,show j<kz.length by ext qA hj] at this
   simp [show j<kz.length by ext qA hj,this]
  exact b4M F h1 Xq rfl hb I1 (O:=O) rx (hO.grow sm) ((Ky ix j hj (by ext Hj qA hj)).grow sm) ev
noncomputable def kj(φ:List D->Option Sl):List D->Option (List Int)
 | []=>some []
 | d::ds=>match φ [d] with
  | some (.sh (.int k))=>(kj φ ds).map λks=>k::ks
  | _=>none
theorem Qs:∀{ds:List D} {kz:List Int},kj φ ds=some kz->ds.map (λd=>φ [d])=kz.map λk=>some (.sh (.int k))
 | [],kz,h=>by cases h;rfl
 | d::ds,kz,h=>by
  unfold kj at h
  split at h
  .rename_i k e
   obtain ⟨ks,e2,rfl⟩:=map_some h
   rw [eM,eM,e,Qs e2]
  .cases h
noncomputable def b8h(K:aI)(φ:List D->Option Sl)(te:TE):TE:=λσ H Q=>te σ H λxv H1=>∃(O:Addr->Prop) (p:Addr) (xs:List V) (ds:List D) (kz:List Int),xv=.ref p/\Sq K H1 true p xs/\qb K O H1/\aN K O H1 xs ds/\ds.map (λd=>φ [d])=kz.map (λk=>some (.sh (.int k)))/\xs.length<64 /\
 ∀a H',au H1 H'->H' a=none->Q (.ref a) (upd H' a (.lst (cF kz (.int 0) xs)))
theorem b3T{k:Nat}{f:Addr}{fd:FuncData}{ps:List Str}{φ:List D->Option Sl}{e:Expr}{te:TE}{x:Str}{p pos kp np:Pos}(F:bY X.prog X.w X.K X.mg X.base jt k f fd ps (mY X.K ps.length φ))(h1:ps.length=1)(hr:bJ (k+1) X.A)(zI:Gl X x)(Hf:X.mg x=some (.ref f))(hb:Binds X.K fd ps [])
  (hg:Gl X "sorted")(hm:X.mg "sorted" = none)(he:PE X e te)(hs:starEach [e] X.env=[(false,eval e X.env)]:=by rfl)(ko:(x==("__debug__":Str))=false:=by decide):PE X (.Call (.Name "sorted" p) [e] [⟨some "key",.Name x np,kp⟩] pos) (b8h X.K φ te):=by
 intro pins s σ H Q I h
 refine DP (sN I hg hm boot_sorted ?_)
 refine callWith_builtin_kwB (first:=[]) (by rw [hs];rfl) rfl ?_
 rw [hs]
 refine evalArgs_kwB rfl ?_
 refine Og (bG (he pins s σ H _ I h) λu s1 ⟨xv,H1,I1,r1,q1⟩=>NO ?_)
 refine kws_cons (Kb I1 zI Hf (kws_nil ?_) ko)
 obtain ⟨O,p,xs,ds,kz,rfl,hq,hO,ix,ek,dR,q⟩:=q1
 cases r1
 exact b1Q F h1 hr hb I1 hq hO ix ek dR q
noncomputable def qh(φ:List D->Option Sl):D->Option Sl
 | .lst _ ds=>(kj φ ds).bind λkz=>if ds.length<64 then some (.ow (cF kz .aU ds)) else none
 | _=>none
noncomputable def Bi(φ:List D->Option Sl)(f:En->Option Sl):En->Option Sl:=λenv=>(f env).bind λr=>qh φ r.d
theorem b3X{K:aI}{O:Addr->Prop}{H:Hp}{kz:List Int}{xs:List V}{ds:List D}(hi:aN K O H xs ds):aN K O H (cF kz (.int 0) xs) (cF kz .aU ds):=by
 have hl:ds.length=xs.length:=hi.length.symm
 unfold cF
 by_cases h2:xs.length<2
 .rw [if_pos h2,if_pos (by ext hl h2:1)];exact hi
 rw [if_neg h2,if_neg (by ext hl h2:1),hl]
 have hm:∀i∈KS.ord (λi=>kz.getD i 0) xs.length,i<xs.length:=λi hi=>sk.mp ((KS.eh (λi=>kz.getD i 0) xs.length (by ext h2:1)).1.mem_iff.mp hi)
 generalize KS.ord (λi=>kz.getD i 0) xs.length=os at *
 induction os with
 | nil=>exact .nil
 | cons i os ih =>
  have hj:=hm i (aZ ..)
  refine .cons ?_ (ih λj hj=>hm j (br _ hj))
  have:=Ky hi i hj (by ext hl hj:1)
  simpa [hj,show i<ds.length by ext hl hj:1] using this
theorem b4v{k:Nat}{f:Addr}{fd:FuncData}{ps:List Str}{φ:List D->Option Sl}{e:Expr}{fa:En->Option Sl}{x:Str}{p pos kp np:Pos}(F:bY X.prog X.w X.K X.mg X.base jt k f fd ps (mY X.K ps.length φ))(h1:ps.length=1)(hr:bJ (k+1) X.A)(zI:Gl X x)(Hf:X.mg x=some (.ref f))(hb:Binds X.K fd ps [])
  (hg:Gl X "sorted")(hm:X.mg "sorted" = none)(he:EV X e fa)(hs:starEach [e] X.env=[(false,eval e X.env)]:=by rfl)(ko:(x==("__debug__":Str))=false:=by decide):EV X (.Call (.Name "sorted" p) [e] [⟨some "key",.Name x np,kp⟩] pos) (Bi φ fa):=by
 obtain ⟨t,pt,kk⟩:=he
 refine ⟨_,b3T F h1 hr zI Hf hb hg hm pt hs ko,λO B σ H env s Q R e q=>?_⟩
 obtain ⟨r,e1,e2⟩:=bind_some e
 refine kk O B σ H env r _ R e1 λv H1 s1 r1=>?_
 have hi:=r1.is λq=>R.oo
 unfold qh at e2
 split at e2
 .rename_i ro ds hd
  rw [hd] at hi
  obtain ⟨kz,e3,e4⟩:=bind_some e2
  obtain ⟨dR,rfl⟩:=gU e4
  obtain ⟨a,xs,rfl,g2,g3⟩:=hi.seq (k:=true) rfl
  have hl:ds.length=xs.length:=g3.length.symm
  refine ⟨OO O σ env,a,xs,ds,kz,rfl,g2,(R.grow s1).dm,g3,Qs e3,by ext dR hl,λc H2 s2 hc=>?_⟩
  refine q _ _ ((s1.trans s2).trans (pG hc _)) ((Bn hc ?_).from (s1.trans s2))
  exact (b3X g3).grow s2
 .cases e2
theorem b3c(e:f env=some (.sh (.lst r ds)))(hk:kj φ ds=some kz)(dR:ds.length<64):Wo (Bi φ f env) Q↔Q (.ow (cF kz .aU ds)):=by
 unfold Bi
 rw [e,qQ]
 show Wo ((kj φ ds).bind _) Q↔_
 rw [hk,qQ,if_pos dR,a0h]
end
noncomputable def xD(K:aI)(l:Addr)(n:Nat):It:=
 ⟨λi H=>∃xs x,Sq K H true l xs/\xs.length=n/\i<n/\xs[n-1-i]?=some x,
 λi H v H'=>H'=H/\∀xs,Sq K H true l xs->xs[n-1-i]?=some v,
 λi _=>n<=i⟩
section
variable {X:Cx}{tg:Expr}
end
theorem Fx.qh{X:Cx}{N:List Str}{sc:Scope}{k j:Nat}{full:Bool}{x:Str}{st:Stmt}{ps:List Str}{φ:List D->Option Sl}{e:Expr}{fa:En->Option Sl}{p pos kp np:Pos}(h:Fx X N sc k full)(O:Oz X.prog X.w X.K X.mg X.base x st ps j φ)(hm:X.mg "sorted" = none)(he:EV X e fa)(hj:j+1<=k:=by decide)(h1:ps.length=1:=by rfl)(zI:sc.names.lookup x=some .globalImplicit:=by rfl)(hg:sc.names.lookup ("sorted":Str)=some .globalImplicit:=by rfl)
  (hs:starEach [e] X.env=[(false,eval e X.env)]:=by rfl)(ko:(x==("__debug__":Str))=false:=by decide):EV X (.Call (.Name "sorted" p) [e] [⟨some "key",.Name x np,kp⟩] pos) (Bi φ fa):=by
 obtain ⟨f,fd,D',F⟩:=O
 exact b4v F h1 (h.room.mono hj) (h.g zI) D'.m D'.bd (h.g hg) hm he hs ko
end DL
namespace My
open PySem L2 DL
noncomputable def top(i:Nat):Stmt:=PySem.Challenge.pw_offerhouse_k68_whole_gains_of_sellers.main.body.getD i (.Pass ⟨0,0,0,0⟩)
noncomputable abbrev RQ:Stmt:=top 13
noncomputable abbrev LK{α:Type}(Y:Str->Stmt->List Str->α):α:=Y "holds_one" RQ ["row"]
noncomputable def LS:SF:=
 (az (ae cX (av (bV 0) (eC (.int 0))) (av (bV 0) (eC (.int 1)))))
noncomputable def tf:List D->Option Sl:=aH LS 1
theorem kX:Wo (tf [a0]) Q↔Wo (LS [.sh a0]) (aG Q):=bO
noncomputable abbrev QG:Stmt:=top 17
noncomputable abbrev Kp{α:Type}(Y:Str->Stmt->List Str->α):α:=Y "plain" QG ["row"]
noncomputable def KC:SF:=
 (az (ir (cP (aF 1 tf (af (eV 0) aa))) (aP (af (av (bV 0) (eC (.int 0))) (af (av (bV 0) (eC (.int 1))) (af (av (bV 0) (eC (.int 2))) (af (eC (.int 0)) aa))))) (eV 0)))
noncomputable def rm:List D->Option Sl:=aH KC 1
theorem rz:Wo (rm [a0]) Q↔Wo (KC [.sh a0]) (aG Q):=bO
noncomputable abbrev RC:Stmt:=top 7
noncomputable abbrev Lv{α:Type}(Y:Str->Stmt->List Str->α):α:=Y "line_at" RC ["line","low","x"]
noncomputable def K7:SF:=
 (az (ae bb (av (bV 0) (eC (.int 0))) (ae du (av (bV 0) (eC (.int 1))) (ae bM (eV 2) (eV 1)))))
noncomputable def sV:List D->Option Sl:=aH K7 3
theorem nT:Wo (sV [a0,a1,a2]) Q↔Wo (K7 [.sh a0,.sh a1,.sh a2]) (aG Q):=bO
noncomputable abbrev Sm:Stmt:=top 16
noncomputable abbrev L3{α:Type}(Y:Str->Stmt->List Str->α):α:=Y "laid_beside" Sm ["ahead","row"]
noncomputable def LX:SF:=
 (ai (aY 2 (ir (cP (aF 1 tf (af (eV 0) aa))) (ae bM (av (bV 1) (eC (.int 2))) (av (bV 0) (eC (.int 2)))) (av (bV 0) (eC (.int 3)))))
 (ai (cC (bZ (ae iS (av (bV 1) (eC (.int 2))) (aF 3 sV (af (aP (af (av (bV 0) (eC (.int 2))) (af (eV 2) aa))) (af (av (bV 0) (eC (.int 0))) (af (av (bV 1) (eC (.int 0))) aa))))))
 (az (bz (af (eV 0) (af (aF 1 rm (af (eV 1) aa)) aa)))) cR)
 (ai (cC (lY (cP (aF 1 tf (af (eV 1) aa))) (bZ (ae cX (av (bV 1) (eC (.int 3))) (eV 2))))
 (az (bz (af (aP (af (av (bV 0) (eC (.int 0))) (af (av (bV 1) (eC (.int 1))) (af (av (bV 0) (eC (.int 2))) (af (eV 2) aa))))) aa))) cR)
 (ai (aY 3 (aF 1 rm (af (aP (af (ae bb (av (bV 1) (eC (.int 0))) (eC (.int 1))) (af (av (bV 1) (eC (.int 1))) (af (ae bb (av (bV 1) (eC (.int 2))) (av (bV 1) (eC (.int 3)))) (af (av (bV 1) (eC (.int 3))) aa))))) aa)))
 (az (bz (af (aP (af (av (bV 0) (eC (.int 0))) (af (av (bV 1) (eC (.int 0))) (af (av (bV 0) (eC (.int 2))) (af (eV 2) aa))))) (af (eV 3) aa))))))))
noncomputable def BY:List D->Option Sl:=aH LX 4
theorem je:Wo (BY [a0,a1]) Q↔Wo (LX [.sh a0,.sh a1,.no,.no]) (aG Q):=bO
noncomputable abbrev Qj:Stmt:=top 15
noncomputable abbrev JY{α:Type}(Y:Str->Stmt->List Str->α):α:=Y "laid" Qj ["rows"]
noncomputable def JK:SF:=
 (ai (c6 1 (bz aa))
 (ai (eS (eV 0) (gN 2)
 (cC (sJ (A9 (bV 1)) (bZ (ae cX (ae bb (av (gq (av (bV 1) (gh (eC (.int 1))))) (eC (.int 1))) (eC (.int 1))) (av (bV 2) (eC (.int 0))))))
 (ai (lZ 3 1)
 (j' 1 (aF 2 BY (af (eV 3) (af (eV 2) aa))))) (cK 1 (aF 1 rm (af (eV 2) aa)))))
 (az (Bj (bV 1)))))
noncomputable def lV:List D->Option Sl:=aH JK 4
theorem vC:Wo (lV [a0]) Q↔Wo (JK [.sh a0,.no,.no,.no]) (aG Q):=bO
noncomputable abbrev QH:Stmt:=top 24
noncomputable abbrev Kq{α:Type}(Y:Str->Stmt->List Str->α):α:=Y "times" QH ["form","many"]
noncomputable def KD:SF:=
 (az (aF 1 lV (af (gD (eW (eV 0)) [1] 1 (gN 0) lM (aP (af (av (bV 0) (eC (.int 0))) (af (av (bV 0) (eC (.int 1))) (af (ae du (av (bV 0) (eC (.int 2))) (eV 1)) (af (ae du (av (bV 0) (eC (.int 3))) (eV 1)) aa)))))) aa)))
noncomputable def BJ:List D->Option Sl:=aH KD 2
theorem rq:Wo (BJ [a0,a1]) Q↔Wo (KD [.sh a0,.sh a1]) (aG Q):=bO
noncomputable abbrev Su:Stmt:=top 11
noncomputable abbrev Ma{α:Type}(Y:Str->Stmt->List Str->α):α:=Y "stretch_on" Su ["line","low","first","last"]
noncomputable def L8:SF:=
 (az (aP (af (eV 2) (af (eV 3) (af (aF 3 sV (af (eV 0) (af (eV 1) (af (eV 2) aa)))) (af (av (bV 0) (eC (.int 1))) aa))))))
noncomputable def tj:List D->Option Sl:=aH L8 4
theorem jO:Wo (tj [a0,a1,a2,a3]) Q↔Wo (L8 [.sh a0,.sh a1,.sh a2,.sh a3]) (aG Q):=bO
noncomputable abbrev SN:Stmt:=top 9
noncomputable abbrev Mh{α:Type}(Y:Str->Stmt->List Str->α):α:=Y "span_or_none" SN ["first","last"]
noncomputable def Mn:SF:=
 (az (ir (bZ (ae vY (eV 0) (eV 1))) (aP (af (eV 0) (af (eV 1) aa))) (eC .aU)))
noncomputable def xt:List D->Option Sl:=aH Mn 2
theorem iC:Wo (xt [a0,a1]) Q↔Wo (Mn [.sh a0,.sh a1]) (aG Q):=bO
noncomputable abbrev OS:Stmt:=top 5
noncomputable abbrev tI{α:Type}(Y:Str->Stmt->List Str->α):α:=Y "up" OS ["a","b"]
noncomputable def vH:SF:=
 (az (gh (ae bN (gh (eV 0)) (eV 1))))
noncomputable def Bg:List D->Option Sl:=aH vH 2
theorem Mq:Wo (Bg [a0,a1]) Q↔Wo (vH [.sh a0,.sh a1]) (aG Q):=bO
noncomputable abbrev Qi:Stmt:=top 6
noncomputable abbrev JX{α:Type}(Y:Str->Stmt->List Str->α):α:=Y "down" Qi ["a","b"]
noncomputable def JJ:SF:=
 (az (ae bN (eV 0) (eV 1)))
noncomputable def Bu:List D->Option Sl:=aH JJ 2
theorem vD:Wo (Bu [a0,a1]) Q↔Wo (JJ [.sh a0,.sh a1]) (aG Q):=bO
noncomputable abbrev RW:Stmt:=top 8
noncomputable abbrev LR{α:Type}(Y:Str->Stmt->List Str->α):α:=Y "no_dearer" RW ["one","other","low","high"]
noncomputable def LI:SF:=
 (ai (aY 4 (ae bM (av (bV 0) (eC (.int 0))) (av (bV 1) (eC (.int 0)))))
 (ai (aY 5 (ae bM (av (bV 0) (eC (.int 1))) (av (bV 1) (eC (.int 1)))))
 (ai (cC (bZ (ae uw (eV 5) (eC (.int 0))))
 (az (aF 2 xt (af (eV 2) (af (uU A7 (af (eV 3) (af (ae bb (eV 2) (aF 2 Bu (af (gh (eV 4)) (af (eV 5) aa)))) aa))) aa)))) cR)
 (ai (cC (bZ (ae gf (eV 5) (eC (.int 0))))
 (az (aF 2 xt (af (uU wD (af (eV 2) (af (ae bb (eV 2) (aF 2 Bg (af (eV 4) (af (gh (eV 5)) aa)))) aa))) (af (eV 3) aa)))) cR)
 (az (ir (bZ (ae uw (eV 4) (eC (.int 0)))) (eC .aU) (aP (af (eV 2) (af (eV 3) aa)))))))))
noncomputable def xp:List D->Option Sl:=aH LI 6
theorem kO:Wo (xp [a0,a1,a2,a3]) Q↔Wo (LI [.sh a0,.sh a1,.sh a2,.sh a3,.no,.no]) (aG Q):=bO
noncomputable abbrev Sr:Stmt:=top 10
noncomputable abbrev L'{α:Type}(Y:Str->Stmt->List Str->α):α:=Y "lower_line" Sr ["one","other","low","high"]
noncomputable def L7:SF:=
 (ai (aY 4 (aF 4 xp (af (eV 0) (af (eV 1) (af (eV 2) (af (eV 3) aa))))))
 (ai (cC (bZ (ae uv (eV 4) (eC .aU)))
 (az (bz (af (aF 4 tj (af (eV 1) (af (eV 2) (af (eV 2) (af (eV 3) aa))))) aa))) cR)
 (ai (c6 5 (bz aa))
 (ai (cC (bZ (ae gf (eV 2) (av (bV 4) (eC (.int 0)))))
 (cK 5 (aF 4 tj (af (eV 1) (af (eV 2) (af (eV 2) (af (ae bM (av (bV 4) (eC (.int 0))) (eC (.int 1))) aa)))))) cR)
 (ai (cK 5 (aF 4 tj (af (eV 0) (af (eV 2) (af (av (bV 4) (eC (.int 0))) (af (av (bV 4) (eC (.int 1))) aa))))))
 (ai (cC (bZ (ae gf (av (bV 4) (eC (.int 1))) (eV 3)))
 (cK 5 (aF 4 tj (af (eV 1) (af (eV 2) (af (ae bb (av (bV 4) (eC (.int 1))) (eC (.int 1))) (af (eV 3) aa)))))) cR)
 (oA 5)))))))
noncomputable def Ca:List D->Option Sl:=aH L7 6
theorem jP:Wo (Ca [a0,a1,a2,a3]) Q↔Wo (L7 [.sh a0,.sh a1,.sh a2,.sh a3,.no,.no]) (aG Q):=bO
noncomputable abbrev Sb:Stmt:=top 14
noncomputable abbrev Lm{α:Type}(Y:Str->Stmt->List Str->α):α:=Y "drawn_to" Sb ["row","x"]
noncomputable def Lg:SF:=
 (az (aF 3 sV (af (aP (af (av (bV 0) (eC (.int 2))) (af (av (bV 0) (eC (.int 3))) aa))) (af (av (bV 0) (eC (.int 0))) (af (eV 1) aa)))))
noncomputable def sX:List D->Option Sl:=aH Lg 2
theorem mF:Wo (sX [a0,a1]) Q↔Wo (Lg [.sh a0,.sh a1]) (aG Q):=bO
noncomputable abbrev RV:Stmt:=top 23
noncomputable abbrev LQ{α:Type}(Y:Str->Stmt->List Str->α):α:=Y "line_from" RV ["row","low"]
noncomputable def LH:SF:=
 (az (aP (af (aF 2 sX (af (eV 0) (af (eV 1) aa))) (af (av (bV 0) (eC (.int 3))) aa))))
noncomputable def xo:List D->Option Sl:=aH LH 2
theorem kP:Wo (xo [a0,a1]) Q↔Wo (LH [.sh a0,.sh a1]) (aG Q):=bO
noncomputable abbrev O9:Stmt:=top 22
noncomputable abbrev JH{α:Type}(Y:Str->Stmt->List Str->α):α:=Y "met" O9 ["one","other"]
noncomputable def Pz:En->Nat:=λ_=>1000000
noncomputable def Jz:SF:=
 (ai (c6 2 (bz aa))
 (ai (aY 3 (eC (.int 0)))
 (ai (aY 4 (eC (.int 0)))
 (ai (Ek Pz (sJ (bZ (ae gf (eV 3) (aT (bV 0)))) (bZ (ae gf (eV 4) (aT (bV 1)))))
 (ai (aY 5 (av (bV 0) (eV 3)))
 (ai (aY 6 (av (bV 1) (eV 4)))
 (ai (aY 7 (uU wD (af (av (bV 5) (eC (.int 0))) (af (av (bV 6) (eC (.int 0))) aa))))
 (ai (aY 8 (uU A7 (af (av (bV 5) (eC (.int 1))) (af (av (bV 6) (eC (.int 1))) aa))))
 (ai (cC (bZ (ae vY (eV 7) (eV 8)))
 (cK 2 (aP (af (eV 7) (af (eV 8) (af (aF 2 xo (af (eV 5) (af (eV 7) aa))) (af (aF 2 xo (af (eV 6) (af (eV 7) aa))) aa)))))) cR)
 (cC (bZ (ae gf (av (bV 5) (eC (.int 1))) (av (bV 6) (eC (.int 1)))))
 (iR 3 (eC (.int 1))) (iR 4 (eC (.int 1))))))))))
 (oA 2)))))
noncomputable def wX:List D->Option Sl:=aH Jz 9
theorem Cb:Wo (wX [a0,a1]) Q↔Wo (Jz [.sh a0,.sh a1,.no,.no,.no,.no,.no,.no,.no]) (aG Q):=bO
noncomputable abbrev SQ:Stmt:=top 30
noncomputable abbrev L5{α:Type}(Y:Str->Stmt->List Str->α):α:=Y "lesser_rows" SQ ["one","other"]
noncomputable def LZ:SF:=
 (ai (c6 2 (bz aa))
 (ai (eS (aF 2 wX (af (eV 0) (af (eV 1) aa))) (gT 4 (iL (gN 3) (iL (gN 4) (iL (gN 5) (iL (gN 6) qY)))))
 (j' 2 (aF 4 Ca (af (eV 5) (af (eV 6) (af (eV 3) (af (eV 4) aa)))))))
 (oA 2)))
noncomputable def B1:List D->Option Sl:=aH LZ 7
theorem jc:Wo (B1 [a0,a1]) Q↔Wo (LZ [.sh a0,.sh a1,.no,.no,.no,.no,.no]) (aG Q):=bO
noncomputable abbrev O8:Stmt:=top 25
noncomputable abbrev JG{α:Type}(Y:Str->Stmt->List Str->α):α:=Y "cut" O8 ["row","low","high"]
noncomputable def Jx:SF:=
 (az (aP (af (eV 1) (af (eV 2) (af (aF 2 sX (af (eV 0) (af (eV 1) aa))) (af (av (bV 0) (eC (.int 3))) aa))))))
noncomputable def wW:List D->Option Sl:=aH Jx 3
theorem Cd:Wo (wW [a0,a1,a2]) Q↔Wo (Jx [.sh a0,.sh a1,.sh a2]) (aG Q):=bO
noncomputable abbrev RG:Stmt:=top 26
noncomputable abbrev Ly{α:Type}(Y:Str->Stmt->List Str->α):α:=Y "outside" RG ["form","spans"]
noncomputable def RN:En->Nat:=λ_=>1000000
noncomputable def K9:SF:=
 (ai (c6 2 (bz aa))
 (ai (aY 3 (eC (.int 0)))
 (ai (eS (eV 0) (gN 4)
 (ai (aY 5 (av (bV 4) (eC (.int 0))))
 (ai (Ek RN (sJ (bZ (ae gf (eV 3) (aT (bV 1)))) (bZ (ae vY (av (gq (av (bV 1) (eV 3))) (eC (.int 0))) (av (bV 4) (eC (.int 1))))))
 (ai (cC (bZ (ae gf (eV 5) (av (gq (av (bV 1) (eV 3))) (eC (.int 0)))))
 (cK 2 (aF 3 wW (af (eV 4) (af (eV 5) (af (ae bM (av (gq (av (bV 1) (eV 3))) (eC (.int 0))) (eC (.int 1))) aa))))) cR)
 (ai (aY 5 (uU wD (af (eV 5) (af (ae bb (av (gq (av (bV 1) (eV 3))) (eC (.int 1))) (eC (.int 1))) aa))))
 (ai (cC (bZ (ae uw (av (gq (av (bV 1) (eV 3))) (eC (.int 1))) (av (bV 4) (eC (.int 1)))))
 F2 cR)
 (iR 3 (eC (.int 1)))))))
 (cC (bZ (ae vY (eV 5) (av (bV 4) (eC (.int 1)))))
 (cK 2 (aF 3 wW (af (eV 4) (af (eV 5) (af (av (bV 4) (eC (.int 1))) aa))))) cR))))
 (oA 2))))
noncomputable def xc:List D->Option Sl:=aH K9 6
theorem nQ:Wo (xc [a0,a1]) Q↔Wo (K9 [.sh a0,.sh a1,.no,.no,.no,.no]) (aG Q):=bO
noncomputable abbrev R9:Stmt:=top 18
noncomputable abbrev Lq{α:Type}(Y:Str->Stmt->List Str->α):α:=Y "spans_of" R9 ["form"]
noncomputable def Lk:SF:=
 (ai (c6 1 (bz aa))
 (ai (eS (eV 0) (gN 2)
 (cC (sJ (A9 (bV 1)) (bZ (ae cX (ae bb (av (gq (av (bV 1) (gh (eC (.int 1))))) (eC (.int 1))) (eC (.int 1))) (av (bV 2) (eC (.int 0))))))
 (ai (lZ 3 1)
 (cK 1 (aP (af (av (bV 3) (eC (.int 0))) (af (av (bV 2) (eC (.int 1))) aa))))) (cK 1 (aP (af (av (bV 2) (eC (.int 0))) (af (av (bV 2) (eC (.int 1))) aa))))))
 (az (Bj (bV 1)))))
noncomputable def sY:List D->Option Sl:=aH Lk 4
theorem mz:Wo (sY [a0]) Q↔Wo (Lk [.sh a0,.no,.no,.no]) (aG Q):=bO
noncomputable abbrev QE:Stmt:=top 28
noncomputable abbrev Km{α:Type}(Y:Str->Stmt->List Str->α):α:=Y "least" QE ["one","other"]
noncomputable def KA:SF:=
 (ai (aY 2 (ae bb (aF 2 xc (af (eV 0) (af (aF 1 sY (af (eV 1) aa)) aa))) (aF 2 xc (af (eV 1) (af (aF 1 sY (af (eV 0) aa)) aa)))))
 (az (aF 1 lV (af (EG (ae bb (aF 2 B1 (af (eV 0) (af (eV 1) aa))) (eV 2))) aa))))
noncomputable def jr:List D->Option Sl:=aH KA 3
theorem rA:Wo (jr [a0,a1]) Q↔Wo (KA [.sh a0,.sh a1,.no]) (aG Q):=bO
noncomputable abbrev R8:Stmt:=top 29
noncomputable abbrev cY{α:Type}(Y:Str->Stmt->List Str->α):α:=Y "least_of" R8 ["forms"]
noncomputable def B0:List D->Option Sl:=λ_=>none
noncomputable def Sv:SF:=
 (ai (cC (bZ (ae gf (aT (bV 0)) (eC (.int 2))))
 (az (ir (cP (eV 0)) (av (bV 0) (eC (.int 0))) (aP aa))) cR)
 (ai (aY 1 (ae bN (aT (bV 0)) (eC (.int 2))))
 (az (aF 2 jr (af (aF 1 B0 (af (dZ (bV 0) ec (dX (eV 1))) aa)) (af (aF 1 B0 (af (dZ (bV 0) (dX (eV 1)) ec) aa)) aa))))))
noncomputable def xh:List D->Option Sl:=aH Sv 2
theorem a76:Wo (xh [a0]) Q↔Wo (Sv [.sh a0,.no]) (aG Q):=bO
noncomputable def Sw:SF:=
 (ai (cC (bZ (ae gf (aT (bV 0)) (eC (.int 2))))
 (az (ir (cP (eV 0)) (av (bV 0) (eC (.int 0))) (aP aa))) cR)
 (ai (aY 1 (ae bN (aT (bV 0)) (eC (.int 2))))
 (az (aF 2 jr (af (aF 1 xh (af (dZ (bV 0) ec (dX (eV 1))) aa)) (af (aF 1 xh (af (dZ (bV 0) (dX (eV 1)) ec) aa)) aa))))))
noncomputable def xi:List D->Option Sl:=aH Sw 2
theorem a75:Wo (xi [a0]) Q↔Wo (Sw [.sh a0,.no]) (aG Q):=bO
noncomputable def Sy:SF:=
 (ai (cC (bZ (ae gf (aT (bV 0)) (eC (.int 2))))
 (az (ir (cP (eV 0)) (av (bV 0) (eC (.int 0))) (aP aa))) cR)
 (ai (aY 1 (ae bN (aT (bV 0)) (eC (.int 2))))
 (az (aF 2 jr (af (aF 1 xi (af (dZ (bV 0) ec (dX (eV 1))) aa)) (af (aF 1 xi (af (dZ (bV 0) (dX (eV 1)) ec) aa)) aa))))))
noncomputable def xj:List D->Option Sl:=aH Sy 2
theorem a74:Wo (xj [a0]) Q↔Wo (Sy [.sh a0,.no]) (aG Q):=bO
noncomputable def Sz:SF:=
 (ai (cC (bZ (ae gf (aT (bV 0)) (eC (.int 2))))
 (az (ir (cP (eV 0)) (av (bV 0) (eC (.int 0))) (aP aa))) cR)
 (ai (aY 1 (ae bN (aT (bV 0)) (eC (.int 2))))
 (az (aF 2 jr (af (aF 1 xj (af (dZ (bV 0) ec (dX (eV 1))) aa)) (af (aF 1 xj (af (dZ (bV 0) (dX (eV 1)) ec) aa)) aa))))))
noncomputable def xk:List D->Option Sl:=aH Sz 2
theorem a73:Wo (xk [a0]) Q↔Wo (Sz [.sh a0,.no]) (aG Q):=bO
noncomputable def SD:SF:=
 (ai (cC (bZ (ae gf (aT (bV 0)) (eC (.int 2))))
 (az (ir (cP (eV 0)) (av (bV 0) (eC (.int 0))) (aP aa))) cR)
 (ai (aY 1 (ae bN (aT (bV 0)) (eC (.int 2))))
 (az (aF 2 jr (af (aF 1 xk (af (dZ (bV 0) ec (dX (eV 1))) aa)) (af (aF 1 xk (af (dZ (bV 0) (dX (eV 1)) ec) aa)) aa))))))
noncomputable def xw:List D->Option Sl:=aH SD 2
theorem a72:Wo (xw [a0]) Q↔Wo (SD [.sh a0,.no]) (aG Q):=bO
noncomputable def SE:SF:=
 (ai (cC (bZ (ae gf (aT (bV 0)) (eC (.int 2))))
 (az (ir (cP (eV 0)) (av (bV 0) (eC (.int 0))) (aP aa))) cR)
 (ai (aY 1 (ae bN (aT (bV 0)) (eC (.int 2))))
 (az (aF 2 jr (af (aF 1 xw (af (dZ (bV 0) ec (dX (eV 1))) aa)) (af (aF 1 xw (af (dZ (bV 0) (dX (eV 1)) ec) aa)) aa))))))
noncomputable def xx:List D->Option Sl:=aH SE 2
theorem a71:Wo (xx [a0]) Q↔Wo (SE [.sh a0,.no]) (aG Q):=bO
noncomputable def SG:SF:=
 (ai (cC (bZ (ae gf (aT (bV 0)) (eC (.int 2))))
 (az (ir (cP (eV 0)) (av (bV 0) (eC (.int 0))) (aP aa))) cR)
 (ai (aY 1 (ae bN (aT (bV 0)) (eC (.int 2))))
 (az (aF 2 jr (af (aF 1 xx (af (dZ (bV 0) ec (dX (eV 1))) aa)) (af (aF 1 xx (af (dZ (bV 0) (dX (eV 1)) ec) aa)) aa))))))
noncomputable def xy:List D->Option Sl:=aH SG 2
theorem a70:Wo (xy [a0]) Q↔Wo (SG [.sh a0,.no]) (aG Q):=bO
noncomputable def SH:SF:=
 (ai (cC (bZ (ae gf (aT (bV 0)) (eC (.int 2))))
 (az (ir (cP (eV 0)) (av (bV 0) (eC (.int 0))) (aP aa))) cR)
 (ai (aY 1 (ae bN (aT (bV 0)) (eC (.int 2))))
 (az (aF 2 jr (af (aF 1 xy (af (dZ (bV 0) ec (dX (eV 1))) aa)) (af (aF 1 xy (af (dZ (bV 0) (dX (eV 1)) ec) aa)) aa))))))
noncomputable def xA:List D->Option Sl:=aH SH 2
theorem a7Z:Wo (xA [a0]) Q↔Wo (SH [.sh a0,.no]) (aG Q):=bO
noncomputable def SI:SF:=
 (ai (cC (bZ (ae gf (aT (bV 0)) (eC (.int 2))))
 (az (ir (cP (eV 0)) (av (bV 0) (eC (.int 0))) (aP aa))) cR)
 (ai (aY 1 (ae bN (aT (bV 0)) (eC (.int 2))))
 (az (aF 2 jr (af (aF 1 xA (af (dZ (bV 0) ec (dX (eV 1))) aa)) (af (aF 1 xA (af (dZ (bV 0) (dX (eV 1)) ec) aa)) aa))))))
noncomputable def vv:List D->Option Sl:=aH SI 2
theorem a7Y:Wo (vv [a0]) Q↔Wo (SI [.sh a0,.no]) (aG Q):=bO
noncomputable def Sd:SF:=
 (ai (cC (bZ (ae gf (aT (bV 0)) (eC (.int 2))))
 (az (ir (cP (eV 0)) (av (bV 0) (eC (.int 0))) (aP aa))) cR)
 (ai (aY 1 (ae bN (aT (bV 0)) (eC (.int 2))))
 (az (aF 2 jr (af (aF 1 vv (af (dZ (bV 0) ec (dX (eV 1))) aa)) (af (aF 1 vv (af (dZ (bV 0) (dX (eV 1)) ec) aa)) aa))))))
noncomputable def tm:List D->Option Sl:=aH Sd 2
theorem Si:Wo (tm [a0]) Q↔Wo (Sd [.sh a0,.no]) (aG Q):=bO
noncomputable def Se:SF:=
 (ai (cC (bZ (ae gf (aT (bV 0)) (eC (.int 2))))
 (az (ir (cP (eV 0)) (av (bV 0) (eC (.int 0))) (aP aa))) cR)
 (ai (aY 1 (ae bN (aT (bV 0)) (eC (.int 2))))
 (az (aF 2 jr (af (aF 1 tm (af (dZ (bV 0) ec (dX (eV 1))) aa)) (af (aF 1 tm (af (dZ (bV 0) (dX (eV 1)) ec) aa)) aa))))))
noncomputable def tq:List D->Option Sl:=aH Se 2
theorem Mo:Wo (tq [a0]) Q↔Wo (Se [.sh a0,.no]) (aG Q):=bO
noncomputable def Sf:SF:=
 (ai (cC (bZ (ae gf (aT (bV 0)) (eC (.int 2))))
 (az (ir (cP (eV 0)) (av (bV 0) (eC (.int 0))) (aP aa))) cR)
 (ai (aY 1 (ae bN (aT (bV 0)) (eC (.int 2))))
 (az (aF 2 jr (af (aF 1 tq (af (dZ (bV 0) ec (dX (eV 1))) aa)) (af (aF 1 tq (af (dZ (bV 0) (dX (eV 1)) ec) aa)) aa))))))
noncomputable def tu:List D->Option Sl:=aH Sf 2
theorem Mp:Wo (tu [a0]) Q↔Wo (Sf [.sh a0,.no]) (aG Q):=bO
noncomputable def Sg:SF:=
 (ai (cC (bZ (ae gf (aT (bV 0)) (eC (.int 2))))
 (az (ir (cP (eV 0)) (av (bV 0) (eC (.int 0))) (aP aa))) cR)
 (ai (aY 1 (ae bN (aT (bV 0)) (eC (.int 2))))
 (az (aF 2 jr (af (aF 1 tu (af (dZ (bV 0) ec (dX (eV 1))) aa)) (af (aF 1 tu (af (dZ (bV 0) (dX (eV 1)) ec) aa)) aa))))))
noncomputable def tx:List D->Option Sl:=aH Sg 2
theorem Md:Wo (tx [a0]) Q↔Wo (Sg [.sh a0,.no]) (aG Q):=bO
noncomputable def Mm:SF:=
 (ai (cC (bZ (ae gf (aT (bV 0)) (eC (.int 2))))
 (az (ir (cP (eV 0)) (av (bV 0) (eC (.int 0))) (aP aa))) cR)
 (ai (aY 1 (ae bN (aT (bV 0)) (eC (.int 2))))
 (az (aF 2 jr (af (aF 1 tx (af (dZ (bV 0) ec (dX (eV 1))) aa)) (af (aF 1 tx (af (dZ (bV 0) (dX (eV 1)) ec) aa)) aa))))))
noncomputable def qa:List D->Option Sl:=aH Mm 2
theorem bQ:Wo (qa [a0]) Q↔Wo (Mm [.sh a0,.no]) (aG Q):=bO
noncomputable abbrev RD:Stmt:=top 38
noncomputable abbrev Lw{α:Type}(Y:Str->Stmt->List Str->α):α:=Y "loss_of" RD ["x","cost","low","high"]
noncomputable def K8:SF:=
 (az (aF 1 lV (af (bz (af (aP (af (eV 2) (af (eV 3) (af (ae bM (eV 1) (ae du (eV 2) (eV 0))) (af (gh (eV 0)) aa))))) aa)) aa)))
noncomputable def vm:List D->Option Sl:=aH K8 4
theorem nR:Wo (vm [a0,a1,a2,a3]) Q↔Wo (K8 [.sh a0,.sh a1,.sh a2,.sh a3]) (aG Q):=bO
noncomputable abbrev RE:Stmt:=top 19
noncomputable abbrev Lx{α:Type}(Y:Str->Stmt->List Str->α):α:=Y "offered" RE ["form"]
noncomputable def E1:SF:=
 (ai (cC (bZ (ae cX (aT (bV 0)) (eC (.int 0))))
 Ej cR)
 (az (eV 0)))
noncomputable def vn:List D->Option Sl:=aH E1 1
theorem js:Wo (vn [a0]) Q↔Wo (E1 [.sh a0]) (aG Q):=bO
noncomputable abbrev QD:Stmt:=top 37
noncomputable abbrev Kl{α:Type}(Y:Str->Stmt->List Str->α):α:=Y "gains" QD ["form","low","high"]
noncomputable def Kz:SF:=
 (ai (c6 3 (bz aa))
 (ai (eS (aF 1 vn (af (eV 0) aa)) (gN 4)
 (ai (cK 3 (aF 4 vm (af (av (bV 4) (eC (.int 0))) (af (av (bV 4) (eC (.int 2))) (af (eV 1) (af (eV 2) aa))))))
 (cK 3 (aF 4 vm (af (av (bV 4) (eC (.int 1))) (af (aF 2 sX (af (eV 4) (af (av (bV 4) (eC (.int 1))) aa))) (af (eV 1) (af (eV 2) aa))))))))
 (l4 3 (az (aF 2 BJ (af (aF 1 qa (af (eV 3) aa)) (af (gh (eC (.int 1))) aa)))))))
noncomputable def rk:List D->Option Sl:=aH Kz 5
theorem rB:Wo (rk [a0,a1,a2]) Q↔Wo (Kz [.sh a0,.sh a1,.sh a2,.no,.no]) (aG Q):=bO
noncomputable abbrev Qk:Stmt:=top 21
noncomputable abbrev JZ{α:Type}(Y:Str->Stmt->List Str->α):α:=Y "plus" Qk ["one","other"]
noncomputable def JL:SF:=
 (az (aF 1 lV (af (gD (eW (aF 2 wX (af (eV 0) (af (eV 1) aa)))) [] 4 (gT 4 (iL (gN 0) (iL (gN 1) (iL (gN 2) (iL (gN 3) qY))))) lM (aP (af (eV 0) (af (eV 1) (af (ae bb (av (bV 2) (eC (.int 0))) (av (bV 3) (eC (.int 0)))) (af (ae bb (av (bV 2) (eC (.int 1))) (av (bV 3) (eC (.int 1)))) aa)))))) aa)))
noncomputable def w6:List D->Option Sl:=aH JL 2
theorem vz:Wo (w6 [a0,a1]) Q↔Wo (JL [.sh a0,.sh a1]) (aG Q):=bO
noncomputable abbrev RU:Stmt:=top 55
noncomputable abbrev LP{α:Type}(Y:Str->Stmt->List Str->α):α:=Y "_law_whole" RU ["found"]
noncomputable def LG:SF:=
 (az (mn (qG "int" (eV 0)) (o7 (qG "bool" (eV 0)))))
noncomputable def xn:List D->Option Sl:=aH LG 1
theorem kQ:Wo (xn [a0]) Q↔Wo (LG [.sh a0]) (aG Q):=bO
noncomputable abbrev Sj:Stmt:=top 31
noncomputable abbrev L0{α:Type}(Y:Str->Stmt->List Str->α):α:=Y "amounts_for" Sj ["form","price"]
noncomputable def LV:SF:=
 (ai (aY 2 (gD (eW (eV 0)) [1] 1 (gN 0) lM (aF 4 xp (af (aP (af (av (bV 0) (eC (.int 2))) (af (av (bV 0) (eC (.int 3))) aa))) (af (aP (af (eV 1) (af (eC (.int 0)) aa))) (af (av (bV 0) (eC (.int 0))) (af (av (bV 0) (eC (.int 1))) aa)))))))
 (az (aF 1 sY (af (aF 1 lV (af (gD (eW (eV 2)) [] 1 (gN 0) (bZ (ae JB (eV 0) (eC .aU))) (aP (af (av (bV 0) (eC (.int 0))) (af (av (bV 0) (eC (.int 1))) (af (eC (.int 0)) (af (eC (.int 0)) aa)))))) aa)) aa))))
noncomputable def BW:List D->Option Sl:=aH LV 3
theorem jh:Wo (BW [a0,a1]) Q↔Wo (LV [.sh a0,.sh a1,.no]) (aG Q):=bO
noncomputable abbrev Sk:Stmt:=top 33
noncomputable abbrev L1{α:Type}(Y:Str->Stmt->List Str->α):α:=Y "cheapest_in" Sk ["row"]
noncomputable def LW:SF:=
 (ai (cC (bZ (ae gf (av (bV 0) (eC (.int 3))) (eC (.int 0))))
 (az (aP (af (aF 2 sX (af (eV 0) (af (av (bV 0) (eC (.int 1))) aa))) (af (av (bV 0) (eC (.int 1))) aa)))) cR)
 (az (aP (af (av (bV 0) (eC (.int 2))) (af (av (bV 0) (eC (.int 0))) aa)))))
noncomputable def BX:List D->Option Sl:=aH LW 1
theorem jg:Wo (BX [a0]) Q↔Wo (LW [.sh a0]) (aG Q):=bO
noncomputable abbrev So:Stmt:=top 32
noncomputable abbrev L9{α:Type}(Y:Str->Stmt->List Str->α):α:=Y "least_cost" So ["form"]
noncomputable def L6:SF:=
 (az (D5 (gq (gD (eW (aF 1 vn (af (eV 0) aa))) [] 1 (gN 0) lM (aF 1 BX (af (eV 0) aa))))))
noncomputable def vt:List D->Option Sl:=aH L6 1
theorem jQ:Wo (vt [a0]) Q↔Wo (L6 [.sh a0]) (aG Q):=bO
noncomputable abbrev Ra:Stmt:=top 36
noncomputable abbrev KY{α:Type}(Y:Str->Stmt->List Str->α):α:=Y "tilted" Ra ["form","p"]
noncomputable def KI:SF:=
 (az (aF 1 lV (af (gD (eW (eV 0)) [1] 1 (gN 0) lM (aP (af (av (bV 0) (eC (.int 0))) (af (av (bV 0) (eC (.int 1))) (af (ae bM (av (bV 0) (eC (.int 2))) (ae du (eV 1) (av (bV 0) (eC (.int 0))))) (af (ae bM (av (bV 0) (eC (.int 3))) (eV 1)) aa)))))) aa)))
noncomputable def vf:List D->Option Sl:=aH KI 2
theorem pJ:Wo (vf [a0,a1]) Q↔Wo (KI [.sh a0,.sh a1]) (aG Q):=bO
noncomputable abbrev SK:Stmt:=top 39
noncomputable abbrev Me{α:Type}(Y:Str->Stmt->List Str->α):α:=Y "best_amounts" SK ["form","p"]
noncomputable def Ml:SF:=
 (ai (aY 2 (aF 2 vf (af (eV 0) (af (eV 1) aa))))
 (az (aF 2 BW (af (eV 2) (af (av (gq (aF 1 vt (af (eV 2) aa))) (eC (.int 0))) aa)))))
noncomputable def vw:List D->Option Sl:=aH Ml 3
theorem iD:Wo (vw [a0,a1]) Q↔Wo (Ml [.sh a0,.sh a1,.no]) (aG Q):=bO
noncomputable abbrev SJ:Stmt:=top 60
noncomputable abbrev Mj{α:Type}(Y:Str->Stmt->List Str->α):α:=Y "_law_ends_good" SJ ["forms","found","p"]
noncomputable def Mi:SF:=
 (ai (aY 3 (eC (.int 0)))
 (ai (aY 4 (eC (.int 0)))
 (ai (eS (eV 0) (gN 5)
 (ai (aY 6 (aF 2 vw (af (eV 5) (af (eV 2) aa))))
 (ai (aY 3 (ae bb (eV 3) (av (gq (av (bV 6) (eC (.int 0)))) (eC (.int 0)))))
 (aY 4 (ae bb (eV 4) (av (gq (av (bV 6) (gh (eC (.int 1))))) (eC (.int 1))))))))
 (ai (aY 6 (aF 2 vw (af (eV 1) (af (eV 2) aa))))
 (az (mn (aF 1 xn (af (av (gq (av (bV 6) (eC (.int 0)))) (eC (.int 0))) aa)) (mn (ae cX (av (gq (av (bV 6) (eC (.int 0)))) (eC (.int 0))) (eV 3)) (ae cX (av (gq (av (bV 6) (gh (eC (.int 1))))) (eC (.int 1))) (eV 4)))))))))
noncomputable def B4:List D->Option Sl:=aH Mi 7
theorem gG:Wo (B4 [a0,a1,a2]) Q↔Wo (Mi [.sh a0,.sh a1,.sh a2,.no,.no,.no,.no]) (aG Q):=bO
noncomputable abbrev RX:Stmt:=top 57
noncomputable abbrev Ln{α:Type}(Y:Str->Stmt->List Str->α):α:=Y "_law_ends" RX ["every"]
noncomputable def Lh:SF:=
 (ai (c6 1 (bz aa))
 (ai (eS (eV 0) (gT 4 (iL (gN 2) (iL (gN 3) (iL (gN 4) (iL (gN 5) qY)))))
 (ai (cK 1 (aP (af (eV 2) (af (eV 4) aa))))
 (cK 1 (aP (af (eV 3) (af (ae bb (eV 4) (ae du (eV 5) (ae bM (eV 3) (eV 2)))) aa))))))
 (oA 1)))
noncomputable def xq:List D->Option Sl:=aH Lh 6
theorem mE:Wo (xq [a0]) Q↔Wo (Lh [.sh a0,.no,.no,.no,.no,.no]) (aG Q):=bO
noncomputable abbrev RY:Stmt:=top 59
noncomputable abbrev Lo{α:Type}(Y:Str->Stmt->List Str->α):α:=Y "_law_gain" RY ["every","p"]
noncomputable def Li:SF:=
 (az (o8 (gq (gD (eW (aF 1 xq (af (eV 0) aa))) [1] 2 (gT 2 (iL (gN 0) (iL (gN 1) qY))) lM (ae bM (ae du (eV 2) (eV 0)) (eV 1))))))
noncomputable def xr:List D->Option Sl:=aH Li 2
theorem mD:Wo (xr [a0,a1]) Q↔Wo (Li [.sh a0,.sh a1]) (aG Q):=bO
noncomputable abbrev RA:Stmt:=top 35
noncomputable abbrev Lr{α:Type}(Y:Str->Stmt->List Str->α):α:=Y "gain_at" RA ["form","p"]
noncomputable def K5:SF:=
 (az (gh (av (gq (aF 1 vt (af (aF 2 vf (af (eV 0) (af (eV 1) aa))) aa))) (eC (.int 0)))))
noncomputable def w8:List D->Option Sl:=aH K5 2
theorem nV:Wo (w8 [a0,a1]) Q↔Wo (K5 [.sh a0,.sh a1]) (aG Q):=bO
noncomputable abbrev RS:Stmt:=top 58
noncomputable abbrev LM{α:Type}(Y:Str->Stmt->List Str->α):α:=Y "_law_price" RS ["every","m"]
noncomputable def LC:SF:=
 (ai (aY 2 (aF 1 xq (af (eV 0) aa)))
 (ai (aY 3 (av (bV 2) (ae bI (eV 1) (aT (bV 2)))))
 (ai (aY 4 (av (bV 2) (ae bI (ae bN (eV 1) (eC (.int 64))) (aT (bV 2)))))
 (ai (c6 5 (bz (af (av (gq (av (bV 0) (ae bI (eV 1) (aT (bV 0))))) (eC (.int 3))) (af (ae bb (av (gq (av (bV 0) (ae bI (eV 1) (aT (bV 0))))) (eC (.int 3))) (eC (.int 1))) (af (ae bM (ae bI (ae bN (eV 1) (eC (.int 8))) (eC (.int 41))) (eC (.int 20))) (af (ae bM (ae bI (eV 1) (ae fj (eC (.int 10)) (eC (.int 50)))) (ae du (eC (.int 5)) (ae fj (eC (.int 10)) (eC (.int 49))))) aa))))))
 (ai (cC (bZ (ae iS (av (bV 3) (eC (.int 0))) (av (bV 4) (eC (.int 0)))))
 (ai (cK 5 (ae D1 (ae bM (av (bV 3) (eC (.int 1))) (av (bV 4) (eC (.int 1)))) (ae bM (av (bV 3) (eC (.int 0))) (av (bV 4) (eC (.int 0))))))
 (cK 5 (ae bb (ae D1 (ae bM (av (bV 3) (eC (.int 1))) (av (bV 4) (eC (.int 1)))) (ae bM (av (bV 3) (eC (.int 0))) (av (bV 4) (eC (.int 0))))) (eC (.int 1))))) cR)
 (az (av (bV 5) (ae bI (ae bN (eV 1) (eC (.int 4096))) (aT (bV 5))))))))))
noncomputable def xl:List D->Option Sl:=aH LC 6
theorem kT:Wo (xl [a0,a1]) Q↔Wo (LC [.sh a0,.sh a1,.no,.no,.no,.no]) (aG Q):=bO
noncomputable abbrev RR:Stmt:=top 51
noncomputable abbrev LL{α:Type}(Y:Str->Stmt->List Str->α):α:=Y "_law_mixed" RR ["cell","k"]
noncomputable def LU:SF:=
 (ai (aY 2 (ae du (ae bb (ae bI (eV 0) (ae fj (eC (.int 10)) (eC (.int 60)))) (eC (.int 3))) (ae bb (eC (.int 16180339887498948482045868343656381177203)) (ae du (ae du (eC (.int 2)) (eV 1)) (eV 1)))))
 (ai (aY 2 (ae bb (eV 2) (ae du (eC (.int 6151)) (eV 1))))
 (az (ae bI (ae du (eV 2) (eV 2)) (ae bb (ae fj (eC (.int 10)) (eC (.int 60))) (eC (.int 33)))))))
noncomputable def pI:List D->Option Sl:=aH LU 3
theorem kW:Wo (pI [a0,a1]) Q↔Wo (LU [.sh a0,.sh a1,.no]) (aG Q):=bO
noncomputable abbrev SR:Stmt:=top 46
noncomputable abbrev Mc{α:Type}(Y:Str->Stmt->List Str->α):α:=Y "how_many_picks" SR ["forms"]
noncomputable def Mb:SF:=
 (ai (aY 1 (eC (.int 1)))
 (ai (eS (eV 0) (gN 2)
 (Eb 1 (aT (bV 2))))
 (az (eV 1))))
noncomputable def xu:List D->Option Sl:=aH Mb 3
theorem gk:Wo (xu [a0]) Q↔Wo (Mb [.sh a0,.no,.no]) (aG Q):=bO
noncomputable abbrev QF:Stmt:=top 45
noncomputable abbrev Ko{α:Type}(Y:Str->Stmt->List Str->α):α:=Y "picks" QF ["forms"]
noncomputable def Ew:SF:=
 (ai (cC (bZ (ae uw (aF 1 xu (af (eV 0) aa)) (eC (.int 100))))
 Ej cR)
 (ai (cC (bZ (ae cX (aF 1 xu (af (eV 0) aa)) (eC (.int 0))))
 (az (bz aa)) cR)
 (ai (aY 1 (bz (af (bz aa) aa)))
 (ai (eS (eV 0) (gN 2)
 (ai (c6 3 (bz aa))
 (ai (eS (eV 1) (gN 4)
 (j' 3 (gD (eW (eV 2)) [4] 1 (gN 0) lM (ae bb (eV 1) (bz (af (eV 0) aa))))))
 (l4 3 (aY 1 (eV 3))))))
 (az (eV 1))))))
noncomputable def xg:List D->Option Sl:=aH Ew 5
theorem mV:Wo (xg [a0]) Q↔Wo (Ew [.sh a0,.no,.no,.no,.no]) (aG Q):=bO
noncomputable abbrev RH:Stmt:=top 43
noncomputable abbrev Lz{α:Type}(Y:Str->Stmt->List Str->α):α:=Y "step_of" RH ["row"]
noncomputable def K':SF:=
 (az (av (bV 0) (eC (.int 3))))
noncomputable def sW:List D->Option Sl:=aH K' 1
theorem nP:Wo (sW [a0]) Q↔Wo (K' [.sh a0]) (aG Q):=bO
noncomputable abbrev Q9:Stmt:=top 42
noncomputable abbrev KW{α:Type}(Y:Str->Stmt->List Str->α):α:=Y "poured" Q9 ["rows"]
noncomputable def KG:SF:=
 (ai (aY 1 (nq (gq (gD (eW (eV 0)) [] 1 (gN 0) lM (av (bV 0) (eC (.int 0)))))))
 (ai (aY 2 (nq (gq (gD (eW (eV 0)) [] 1 (gN 0) lM (av (bV 0) (eC (.int 2)))))))
 (ai (c6 3 (bz (af (aP (af (eV 1) (af (eV 1) (af (eV 2) (af (eC (.int 0)) aa))))) aa)))
 (ai (eS (Bi sW (eV 0)) (gN 4)
 (ai (aY 5 (ae bM (av (bV 4) (eC (.int 1))) (av (bV 4) (eC (.int 0)))))
 (ai (cC (bZ (ae uw (eV 5) (eC (.int 0))))
 (cK 3 (aP (af (ae bb (eV 1) (eC (.int 1))) (af (ae bb (eV 1) (eV 5)) (af (ae bb (eV 2) (av (bV 4) (eC (.int 3)))) (af (av (bV 4) (eC (.int 3))) aa)))))) cR)
 (ai (iR 1 (eV 5))
 (iR 2 (ae du (av (bV 4) (eC (.int 3))) (eV 5)))))))
 (l4 3 (az (aF 1 lV (af (eV 3) aa))))))))
noncomputable def ve:List D->Option Sl:=aH KG 6
theorem pK:Wo (ve [a0]) Q↔Wo (KG [.sh a0,.no,.no,.no,.no,.no]) (aG Q):=bO
noncomputable abbrev SM:Stmt:=top 44
noncomputable abbrev Mf{α:Type}(Y:Str->Stmt->List Str->α):α:=Y "least_poured" SM ["forms"]
noncomputable def Fi:SF:=
 (az (aF 1 qa (af (gD (eW (aF 1 xg (af (eV 0) aa))) [] 1 (gN 0) lM (aF 1 ve (af (eV 0) aa))) aa)))
noncomputable def B3:List D->Option Sl:=aH Fi 1
theorem eD:Wo (B3 [a0]) Q↔Wo (Fi [.sh a0]) (aG Q):=bO
noncomputable abbrev Q8:Stmt:=top 48
noncomputable abbrev KU{α:Type}(Y:Str->Stmt->List Str->α):α:=Y "joined" Q8 ["forms"]
noncomputable def KE:SF:=
 (az (aF 1 B3 (af (eV 0) aa)))
noncomputable def vd:List D->Option Sl:=aH KE 1
theorem pL:Wo (vd [a0]) Q↔Wo (KE [.sh a0]) (aG Q):=bO
noncomputable abbrev RB:Stmt:=top 53
noncomputable abbrev Lu{α:Type}(Y:Str->Stmt->List Str->α):α:=Y "_law_row" RB ["at","m","ahead"]
noncomputable def K6:SF:=
 (ai (aY 3 (ae bb (eV 0) (av (gq (bz (af (eC (.int 0)) (af (eC (.int 0)) (af (eC (.int 1)) (af (ae bb (eC (.int 1)) (ae bI (eV 1) (eC (.int 7)))) (af (ae bI (eV 1) (ae fj (eC (.int 10)) (eC (.int 40)))) aa))))))) (ae bI (ae bN (eV 1) (eC (.int 8))) (eC (.int 5))))))
 (ai (aY 1 (aF 2 pI (af (eV 1) (af (eC (.int 61)) aa))))
 (ai (aY 4 (av (gq (bz (af (eC (.int 0)) (af (eC (.int 1)) (af (ae bI (eV 1) (eC (.int 6))) (af (ae bI (eV 1) (ae fj (eC (.int 10)) (eC (.int 40)))) aa)))))) (ae bI (ae bN (eV 1) (eC (.int 16))) (eC (.int 4)))))
 (ai (aY 1 (aF 2 pI (af (eV 1) (af (eC (.int 62)) aa))))
 (ai (aY 5 (ae bM (ae bI (ae bN (eV 1) (eC (.int 4))) (eC (.int 41))) (eC (.int 20))))
 (ai (cC (bZ (ae cX (ae bI (eV 1) (eC (.int 4))) (eC (.int 0))))
 (aY 5 (ae bM (ae bI (ae bN (eV 1) (eC (.int 4))) (ae fj (eC (.int 10)) (eC (.int 45)))) (ae du (eC (.int 5)) (ae fj (eC (.int 10)) (eC (.int 44)))))) cR)
 (ai (cC (bZ (ae cX (ae bI (eV 1) (eC (.int 4))) (eC (.int 1))))
 (aY 5 (ae bb (av (bV 2) (eC (.int 2))) (ae du (av (bV 2) (eC (.int 3))) (ae bM (eV 3) (av (bV 2) (eC (.int 0))))))) cR)
 (ai (aY 1 (aF 2 pI (af (eV 1) (af (eC (.int 63)) aa))))
 (ai (aY 6 (ae bM (ae bI (ae bN (eV 1) (eC (.int 3))) (eC (.int 7))) (eC (.int 3))))
 (ai (cC (bZ (ae cX (ae bI (eV 1) (eC (.int 3))) (eC (.int 0))))
 (aY 6 (ae bM (ae bI (ae bN (eV 1) (eC (.int 3))) (ae fj (eC (.int 10)) (eC (.int 30)))) (ae du (eC (.int 5)) (ae fj (eC (.int 10)) (eC (.int 29)))))) cR)
 (az (aP (af (eV 3) (af (ae bb (eV 3) (eV 4)) (af (eV 5) (af (eV 6) aa))))))))))))))))
noncomputable def w9:List D->Option Sl:=aH K6 7
theorem nU:Wo (w9 [a0,a1,a2]) Q↔Wo (K6 [.sh a0,.sh a1,.sh a2,.no,.no,.no,.no]) (aG Q):=bO
noncomputable abbrev RZ:Stmt:=top 54
noncomputable abbrev Lp{α:Type}(Y:Str->Stmt->List Str->α):α:=Y "_law_rows" RZ ["m","many"]
noncomputable def Lj:SF:=
 (ai (aY 2 (ae bM (ae bI (ae bN (eV 0) (eC (.int 5))) (eC (.int 41))) (eC (.int 20))))
 (ai (cC (bZ (ae cX (ae bI (eV 0) (eC (.int 5))) (eC (.int 0))))
 (aY 2 (ae bM (ae bI (ae bN (eV 0) (eC (.int 5))) (ae fj (eC (.int 10)) (eC (.int 45)))) (ae du (eC (.int 5)) (ae fj (eC (.int 10)) (eC (.int 44)))))) cR)
 (ai (c6 3 (bz aa))
 (ai (aY 4 (aP (af (eC (.int 0)) (af (eC (.int 0)) (af (eC (.int 0)) (af (eC (.int 1)) aa))))))
 (ai (Ed ql (af (eV 1) aa) (gN 5)
 (ai (aY 0 (aF 2 pI (af (eV 0) (af (ae bb (eC (.int 70)) (eV 5)) aa))))
 (ai (aY 4 (aF 3 w9 (af (eV 2) (af (eV 0) (af (eV 4) aa)))))
 (ai (cK 3 (eV 4))
 (aY 2 (ae bb (av (bV 4) (eC (.int 1))) (eC (.int 1))))))))
 (oA 3))))))
noncomputable def rp:List D->Option Sl:=aH Lj 6
theorem mC:Wo (rp [a0,a1]) Q↔Wo (Lj [.sh a0,.sh a1,.no,.no,.no,.no]) (aG Q):=bO
noncomputable abbrev RT:Stmt:=top 52
noncomputable abbrev LN{α:Type}(Y:Str->Stmt->List Str->α):α:=Y "_law_seeds" RT ["cells","most"]
noncomputable def LF:SF:=
 (ai (c6 2 (gD (kr D9 (af (eV 1) aa)) [] 1 (gN 0) lM (aF 2 pI (af (eV 0) (af (eC (.int 40)) aa)))))
 (ai (Ec (kr wF (af (eV 0) aa)) (gT 2 (iL (gN 3) (iL (gN 4) qY)))
 (ai (aY 5 (ae bI (eV 3) (eV 1)))
 (wH 2 (aF 2 pI (af (ae bb (av (bV 2) (eV 5)) (ae bI (eV 4) (ae fj (eC (.int 10)) (eC (.int 60))))) (af (ae bI (eV 3) (eC (.int 37))) aa))) (eV 5))))
 (oA 2)))
noncomputable def xm:List D->Option Sl:=aH LF 6
theorem kR:Wo (xm [a0,a1]) Q↔Wo (LF [.sh a0,.sh a1,.no,.no,.no,.no]) (aG Q):=bO
noncomputable abbrev Sn:Stmt:=top 50
noncomputable abbrev L4{α:Type}(Y:Str->Stmt->List Str->α):α:=Y "_law_cell_at" Sn ["script","k"]
noncomputable def LY:SF:=
 (ai (cC (bZ (ae gf (eV 1) (aT (bV 0))))
 (az (av (bV 0) (eV 1))) cR)
 (az (eC (.int 0))))
noncomputable def BZ:List D->Option Sl:=aH LY 2
theorem jd:Wo (BZ [a0,a1]) Q↔Wo (LY [.sh a0,.sh a1]) (aG Q):=bO
noncomputable abbrev Bh:Stmt:=top 61
noncomputable abbrev xQ{α:Type}(Y:Str->Stmt->List Str->α):α:=Y "law" Bh ["script"]
noncomputable def Jy:SF:=
 (ai (aY 1 (av (gq (bz (af (bz (af (eC (.int 3)) (af (eC (.int 3)) aa))) (af (bz (af (eC (.int 2)) (af (eC (.int 2)) (af (eC (.int 2)) aa)))) (af (bz (af (eC (.int 3)) (af (eC (.int 1)) aa))) (af (bz (af (eC (.int 1)) (af (eC (.int 2)) (af (eC (.int 1)) aa)))) aa)))))) (ae bI (aF 2 BZ (af (eV 0) (af (eC (.int 0)) aa))) (eC (.int 4)))))
 (ai (aY 2 (aF 2 xm (af (dZ (bV 0) (dX (eC (.int 1))) ec) (af (aT (bV 1)) aa))))
 (ai (aY 3 (gD (kr lX (af (eV 2) (af (eV 1) aa))) [] 2 (gT 2 (iL (gN 0) (iL (gN 1) qY))) lM (aF 2 rp (af (eV 0) (af (eV 1) aa)))))
 (ai (aY 4 (gD (eW (eV 3)) [] 1 (gN 0) lM (aF 1 lV (af (eV 0) aa))))
 (ai (aY 5 (aF 1 vd (af (eV 4) aa)))
 (ai (c6 6 (bz aa))
 (ai (Ec (kr wF (af (ae bb (bz (af (eC (.int 0)) aa)) (dZ (bV 0) ec (dX (eC (.int 20))))) aa)) (gT 2 (iL (gN 12) (iL (gN 13) qY)))
 (ai (aY 14 (aF 2 pI (af (eV 13) (af (ae bI (eV 12) (eC (.int 31))) aa))))
 (cK 6 (aF 2 xl (af (av (bV 3) (ae bI (eV 14) (aT (bV 3)))) (af (eV 14) aa))))))
 (ai (l4 6 (eS (eV 6) (gN 7)
 (ai (aY 15 (aF 2 w8 (af (eV 5) (af (eV 7) aa))))
 (ai (cC (lY (A8 (cP (aF 1 xn (af (eV 15) aa)))) (bZ (ae iS (eV 15) (nq (gq (gD (eW (eV 3)) [7] 1 (gN 0) lM (aF 2 xr (af (eV 0) (af (eV 1) aa)))))))))
 (az (eC (.bl false))) cR)
 (cC (A8 (cP (aF 3 B4 (af (eV 4) (af (eV 5) (af (eV 7) aa))))))
 (az (eC (.bl false))) cR)))))
 (ai (aY 8 (qF (bV 6)))
 (ai (aY 9 (o8 (bV 6)))
 (ai (aY 10 (aF 3 rk (af (av (bV 4) (eC (.int 0))) (af (eV 8) (af (eV 9) aa)))))
 (ai (eS (dZ (bV 4) (dX (eC (.int 1))) ec) (gN 11)
 (aY 10 (aF 2 w6 (af (eV 10) (af (aF 3 rk (af (eV 11) (af (eV 8) (af (eV 9) aa)))) aa)))))
 (az (ae cX (aF 3 rk (af (eV 5) (af (eV 8) (af (eV 9) aa)))) (eV 10)))))))))))))))
noncomputable def Ex:List D->Option Sl:=aH Jy 16
theorem Cc:Wo (Ex [a0]) Q↔Wo (Jy [.sh a0,.no,.no,.no,.no,.no,.no,.no,.no,.no,.no,.no,.no,.no,.no,.no]) (aG Q):=bO
section
variable {P:Program}{w:World}{K:aI}{mg:Str->Option Value}{base:Heap}
variable (z_max:mg "max" = none)
variable (z_min:mg "min" = none)
variable (z_tuple:mg "tuple" = none)
variable (z_len:mg "len" = none)
variable (z_sorted:mg "sorted" = none)
variable (z_sum:mg "sum" = none)
variable (z_MOST_PICKS:MD mg "MOST_PICKS" 100)
variable (z_enumerate:mg "enumerate" = none)
variable (z_range:mg "range" = none)
variable (z_isinstance:mg "isinstance" = none)
variable (z_bool:mg "bool" = none)
variable (z_int:mg "int" = none)
variable (z_zip:mg "zip" = none)
theorem a8B(D':LK (Def K mg) a d):LK (Oz P w K mg base) 1 tf:=aM (N:=["row"]) D' λX r h=>by
 cases r
 exact (aK (bj (Ep (nL h.u8) (aB (h.bv 0) ah) (aB (h.bv 0) ah))))
variable (sZ:LK (Oz P w K mg base) 1 tf)
include sZ in
theorem b3Z(D':Kp (Def K mg) a d):Kp (Oz P w K mg base) 2 rm:=aM (N:=["row"]) D' λX r h=>by
 cases r
 exact (aK (bj (j6 (jN (h.cl sZ (ag (h.v 0) ao))) (dj (ag (aB (h.bv 0) ah) (ag (aB (h.bv 0) ah) (ag (aB (h.bv 0) ah) (ag ah ao))))) (h.v 0))))
variable (sR:Kp (Oz P w K mg base) 2 rm)
theorem b05(D':Lv (Def K mg) a d):Lv (Oz P w K mg base) 1 sV:=aM (N:=["line","low","x"]) D' λX r h=>by
 cases r
 exact (aK (bj (aC eN (aB (h.bv 0) ah) (aC j7 (aB (h.bv 0) ah) (aC gF (h.v 2) (h.v 1))))))
variable (p9:Lv (Oz P w K mg base) 1 sV)
include sZ sR p9 in
theorem a6L(D':L3 (Def K mg) a d):L3 (Oz P w K mg base) 3 BY:=aM (N:=["ahead","row","step","rest"]) D' λX r h=>by
 cases r
 exact (aE (h.aD 2 (j6 (jN (h.cl sZ (ag (h.v 0) ao))) (aC gF (aB (h.bv 1) ah) (aB (h.bv 0) ah)) (aB (h.bv 0) ah))) (aE (dB (cU (J5 h.u8) (aB (h.bv 1) ah) (h.cl p9 (ag (dj (ag (aB (h.bv 0) ah) (ag (h.v 2) ao))) (ag (aB (h.bv 0) ah) (ag (aB (h.bv 1) ah) ao))))) (aK (bj (fF (ag (h.v 0) (ag (h.cl sR (ag (h.v 1) ao)) ao))))) dO) (aE (dB (mX (OU (jN (h.cl sZ (ag (h.v 1) ao))) (Pe (cU (nL h.u8) (aB (h.bv 1) ah) (h.v 2))))) (aK (bj (fF (ag (dj (ag (aB (h.bv 0) ah) (ag (aB (h.bv 1) ah) (ag (aB (h.bv 0) ah) (ag (h.v 2) ao))))) ao)))) dO) (aE (h.aD 3 (h.cl sR (ag (dj (ag (aC eN (aB (h.bv 1) ah) ah) (ag (aB (h.bv 1) ah) (ag (aC eN (aB (h.bv 1) ah) (aB (h.bv 1) ah)) (ag (aB (h.bv 1) ah) ao))))) ao))) (aK (bj (fF (ag (dj (ag (aB (h.bv 0) ah) (ag (aB (h.bv 1) ah) (ag (aB (h.bv 0) ah) (ag (h.v 2) ao))))) (ag (h.v 3) ao)))))))))
variable (Fq:L3 (Oz P w K mg base) 3 BY)
include z_tuple sR Fq in
theorem b6z(D':JY (Def K mg) a d):JY (Oz P w K mg base) 4 lV:=aM (N:=["rows","made","row","ahead"]) D' λX r h=>by
 cases r
 exact (aE (h.set 1 (fF ao)) (aE (nN h.own h.calm (h.v 0) (h.tg 2) (aK (dB (mX (Eu (Qc (h.bv 1)) (EE (cU (nL h.u8) (aC eN (aB (gR (aB (h.bv 1) (pB ah))) ah) ah) (aB (h.bv 2) ah))))) (aE (h.pop 3 1) (aK (h.ext 1 (h.cl Fq (ag (h.v 3) (ag (h.v 2) ao)))))) (aK (h.app 1 (h.cl sR (ag (h.v 2) ao))))))) (aK (bj (Qn h.g z_tuple (h.bv 1))))))
variable (gE:JY (Oz P w K mg base) 4 lV)
include gE in
theorem b3Y(D':Kq (Def K mg) a d):Kq (Oz P w K mg base) 5 BJ:=aM (N:=["form","many"]) D' λX r h=>by
 cases r
 exact (aK (bj (h.cl gE (ag (pE (N':=["row","many"]) (caps:=[1]) (nt:=1) h ⟨rfl,by decide +kernel,by decide +kernel,by decide +kernel,by decide +kernel,rfl,rfl,by decide +kernel⟩ (nJ (h.v 0)) (λX1 di dh dg c9 c8 h1=>⟨(h1.tg 0),mS,(dj (ag (aB (h1.bv 0) ah) (ag (aB (h1.bv 0) ah) (ag (aC j7 (aB (h1.bv 0) ah) (h1.v 1)) (ag (aC j7 (aB (h1.bv 0) ah) (h1.v 1)) ao)))))⟩)) ao))))
variable (EO:Kq (Oz P w K mg base) 5 BJ)
include p9 in
theorem a7w(D':Ma (Def K mg) a d):Ma (Oz P w K mg base) 2 tj:=aM (N:=["line","low","first","last"]) D' λX r h=>by
 cases r
 exact (aK (bj (dj (ag (h.v 2) (ag (h.v 3) (ag (h.cl p9 (ag (h.v 0) (ag (h.v 1) (ag (h.v 2) ao)))) (ag (aB (h.bv 0) ah) ao)))))))
variable (vi:Ma (Oz P w K mg base) 2 tj)
theorem a54(D':Mh (Def K mg) a d):Mh (Oz P w K mg base) 1 xt:=aM (N:=["first","last"]) D' λX r h=>by
 cases r
 exact (aK (bj (j6 (cU Ef (h.v 0) (h.v 1)) (dj (ag (h.v 0) (ag (h.v 1) ao))) Er)))
variable (B':Mh (Oz P w K mg base) 1 xt)
theorem yL(D':tI (Def K mg) a d):tI (Oz P w K mg base) 1 Bg:=aM (N:=["a","b"]) D' λX r h=>by
 cases r
 exact (aK (bj (pB (aC gj (pB (h.v 0)) (h.v 1)))))
variable (O_up:tI (Oz P w K mg base) 1 Bg)
theorem b6A(D':JX (Def K mg) a d):JX (Oz P w K mg base) 1 Bu:=aM (N:=["a","b"]) D' λX r h=>by
 cases r
 exact (aK (bj (aC gj (h.v 0) (h.v 1))))
variable (El:JX (Oz P w K mg base) 1 Bu)
include z_max z_min B' O_up El in
theorem a8v(D':LR (Def K mg) a d):LR (Oz P w K mg base) 2 xp:=aM (N:=["one","other","low","high","above","slope"]) D' λX r h=>by
 cases r
 exact (aE (h.aD 4 (aC gF (aB (h.bv 0) ah) (aB (h.bv 1) ah))) (aE (h.aD 5 (aC gF (aB (h.bv 0) ah) (aB (h.bv 1) ah))) (aE (dB (cU Ba (h.v 5) ah) (aK (bj (h.cl B' (ag (h.v 2) (ag (Bp (PZ h.calm) h.g z_min (by decide +kernel) (ag (h.v 3) (ag (aC eN (h.v 2) (h.cl El (ag (pB (h.v 4)) (ag (h.v 5) ao)))) ao))) ao))))) dO) (aE (dB (cU gS (h.v 5) ah) (aK (bj (h.cl B' (ag (Bp (Kv h.calm) h.g z_max (by decide +kernel) (ag (h.v 2) (ag (aC eN (h.v 2) (h.cl O_up (ag (h.v 4) (ag (pB (h.v 5)) ao)))) ao))) (ag (h.v 3) ao))))) dO) (aK (bj (j6 (cU Ba (h.v 4) ah) Er (dj (ag (h.v 2) (ag (h.v 3) ao))))))))))
variable (vj:LR (Oz P w K mg base) 2 xp)
include vi vj in
theorem a7y(D':L' (Def K mg) a d):L' (Oz P w K mg base) 3 Ca:=aM (N:=["one","other","low","high","span","rows"]) D' λX r h=>by
 cases r
 exact (aE (h.aD 4 (h.cl vj (ag (h.v 0) (ag (h.v 1) (ag (h.v 2) (ag (h.v 3) ao)))))) (aE (dB (cU b8P (h.v 4) Er) (aK (bj (fF (ag (h.cl vi (ag (h.v 1) (ag (h.v 2) (ag (h.v 2) (ag (h.v 3) ao))))) ao)))) dO) (aE (h.set 5 (fF ao)) (aE (dB (cU gS (h.v 2) (aB (h.bv 4) ah)) (aK (h.app 5 (h.cl vi (ag (h.v 1) (ag (h.v 2) (ag (h.v 2) (ag (aC gF (aB (h.bv 4) ah) ah) ao))))))) dO) (aE (h.app 5 (h.cl vi (ag (h.v 0) (ag (h.v 2) (ag (aB (h.bv 4) ah) (ag (aB (h.bv 4) ah) ao)))))) (aE (dB (cU gS (aB (h.bv 4) ah) (h.v 3)) (aK (h.app 5 (h.cl vi (ag (h.v 1) (ag (h.v 2) (ag (aC eN (aB (h.bv 4) ah) ah) (ag (h.v 3) ao))))))) dO) (aK (h.l7 5))))))))
variable (Fm:L' (Oz P w K mg base) 3 Ca)
include p9 in
theorem a9s(D':Lm (Def K mg) a d):Lm (Oz P w K mg base) 2 sX:=aM (N:=["row","x"]) D' λX r h=>by
 cases r
 exact (aK (bj (h.cl p9 (ag (dj (ag (aB (h.bv 0) ah) (ag (aB (h.bv 0) ah) ao))) (ag (aB (h.bv 0) ah) (ag (h.v 1) ao))))))
variable (nO:Lm (Oz P w K mg base) 2 sX)
include nO in
theorem a8w(D':LQ (Def K mg) a d):LQ (Oz P w K mg base) 3 xo:=aM (N:=["row","low"]) D' λX r h=>by
 cases r
 exact (aK (bj (dj (ag (h.cl nO (ag (h.v 0) (ag (h.v 1) ao))) (ag (aB (h.bv 0) ah) ao)))))
variable (BU:LQ (Oz P w K mg base) 3 xo)
include z_max z_min z_len BU in
theorem b8M(D':JH (Def K mg) a d):JH (Oz P w K mg base) 4 wX:=aM (N:=["one","other","parts","first","second","mine","yours","low","high"]) D' λX r h=>by
 cases r
 exact (aE (h.set 2 (fF ao)) (aE (h.aD 3 ah) (aE (h.aD 4 ah) (aE (Q2 Pz h.own (mX (Eu (cU gS (h.v 3) (dv h.g z_len (h.bv 0))) (EE (cU gS (h.v 4) (dv h.g z_len (h.bv 1)))))) (aE (h.aD 5 (aB (h.bv 0) (h.v 3))) (aE (h.aD 6 (aB (h.bv 1) (h.v 4))) (aE (h.aD 7 (Bp (Kv h.calm) h.g z_max (by decide +kernel) (ag (aB (h.bv 5) ah) (ag (aB (h.bv 6) ah) ao)))) (aE (h.aD 8 (Bp (PZ h.calm) h.g z_min (by decide +kernel) (ag (aB (h.bv 5) ah) (ag (aB (h.bv 6) ah) ao)))) (aE (dB (cU Ef (h.v 7) (h.v 8)) (aK (h.app 2 (dj (ag (h.v 7) (ag (h.v 8) (ag (h.cl BU (ag (h.v 5) (ag (h.v 7) ao))) (ag (h.cl BU (ag (h.v 6) (ag (h.v 7) ao))) ao))))))) dO) (aK (dB (cU gS (aB (h.bv 5) ah) (aB (h.bv 6) ah)) (aK (h.aug 3 ah)) (aK (h.aug 4 ah)))))))))) (aK (h.l7 2))))))
variable (uT:JH (Oz P w K mg base) 4 wX)
include Fm uT in
theorem a6z(D':L5 (Def K mg) a d):L5 (Oz P w K mg base) 5 B1:=aM (N:=["one","other","rows","low","high","mine","yours"]) D' λX r h=>by
 cases r
 exact (aE (h.set 2 (fF ao)) (aE (nN h.own h.calm (h.cl uT (ag (h.v 0) (ag (h.v 1) ao))) (uV (n:=4) h.calm (jq (h.tg 3) (jq (h.tg 4) (jq (h.tg 5) (jq (h.tg 6) uX))))) (aK (h.ext 2 (h.cl Fm (ag (h.v 5) (ag (h.v 6) (ag (h.v 3) (ag (h.v 4) ao)))))))) (aK (h.l7 2))))
variable (Fu:L5 (Oz P w K mg base) 5 B1)
include nO in
theorem b8O(D':JG (Def K mg) a d):JG (Oz P w K mg base) 3 wW:=aM (N:=["row","low","high"]) D' λX r h=>by
 cases r
 exact (aK (bj (dj (ag (h.v 1) (ag (h.v 2) (ag (h.cl nO (ag (h.v 0) (ag (h.v 1) ao))) (ag (aB (h.bv 0) ah) ao)))))))
variable (A1:JG (Oz P w K mg base) 3 wW)
include z_max z_len A1 in
theorem b02(D':Ly (Def K mg) a d):Ly (Oz P w K mg base) 4 xc:=aM (N:=["form","spans","rows","place","row","low"]) D' λX r h=>by
 cases r
 exact (aE (h.set 2 (fF ao)) (aE (h.aD 3 ah) (aE (nN h.own h.calm (h.v 0) (h.tg 4) (aE (h.aD 5 (aB (h.bv 4) ah)) (aE (Q2 RN h.own (mX (Eu (cU gS (h.v 3) (dv h.g z_len (h.bv 1))) (EE (cU Ef (aB (gR (aB (h.bv 1) (h.v 3))) ah) (aB (h.bv 4) ah))))) (aE (dB (cU gS (h.v 5) (aB (gR (aB (h.bv 1) (h.v 3))) ah)) (aK (h.app 2 (h.cl A1 (ag (h.v 4) (ag (h.v 5) (ag (aC gF (aB (gR (aB (h.bv 1) (h.v 3))) ah) ah) ao)))))) dO) (aE (h.aD 5 (Bp (Kv h.calm) h.g z_max (by decide +kernel) (ag (h.v 5) (ag (aC eN (aB (gR (aB (h.bv 1) (h.v 3))) ah) ah) ao)))) (aE (dB (cU Ba (aB (gR (aB (h.bv 1) (h.v 3))) ah) (aB (h.bv 4) ah)) (aK b3x) dO) (aK (h.aug 3 ah)))))) (aK (dB (cU Ef (h.v 5) (aB (h.bv 4) ah)) (aK (h.app 2 (h.cl A1 (ag (h.v 4) (ag (h.v 5) (ag (aB (h.bv 4) ah) ao)))))) dO))))) (aK (h.l7 2)))))
variable (BC:Ly (Oz P w K mg base) 4 xc)
include z_tuple in
theorem a9o(D':Lq (Def K mg) a d):Lq (Oz P w K mg base) 1 sY:=aM (N:=["form","spans","row","ahead"]) D' λX r h=>by
 cases r
 exact (aE (h.set 1 (fF ao)) (aE (nN h.own h.calm (h.v 0) (h.tg 2) (aK (dB (mX (Eu (Qc (h.bv 1)) (EE (cU (nL h.u8) (aC eN (aB (gR (aB (h.bv 1) (pB ah))) ah) ah) (aB (h.bv 2) ah))))) (aE (h.pop 3 1) (aK (h.app 1 (dj (ag (aB (h.bv 3) ah) (ag (aB (h.bv 2) ah) ao)))))) (aK (h.app 1 (dj (ag (aB (h.bv 2) ah) (ag (aB (h.bv 2) ah) ao)))))))) (aK (bj (Qn h.g z_tuple (h.bv 1))))))
variable (s9:Lq (Oz P w K mg base) 1 sY)
include z_sorted gE Fu BC s9 in
theorem b31(D':Km (Def K mg) a d):Km (Oz P w K mg base) 6 jr:=aM (N:=["one","other","alone"]) D' λX r h=>by
 cases r
 exact (aE (h.aD 2 (aC eN (h.cl BC (ag (h.v 0) (ag (h.cl s9 (ag (h.v 1) ao)) ao))) (h.cl BC (ag (h.v 1) (ag (h.cl s9 (ag (h.v 0) ao)) ao))))) (aK (bj (h.cl gE (ag (b2F h.g z_sorted (aC eN (h.cl Fu (ag (h.v 0) (ag (h.v 1) ao))) (h.v 2))) ao)))))
variable (dq:Km (Oz P w K mg base) 6 jr)
theorem a6J(D':cY (Def K mg) a d):cY (Oz P w K mg base) 1 B0:=b6t D'
variable (O_least_of__0:cY (Oz P w K mg base) 1 B0)
include z_len dq O_least_of__0 in
theorem a6I(D':cY (Def K mg) a d):cY (Oz P w K mg base) 7 xh:=aM (N:=["forms","half"]) D' λX r h=>by
 cases r
 exact (aE (dB (cU gS (dv h.g z_len (h.bv 0)) ah) (aK (bj (j6 (jN (h.v 0)) (aB (h.bv 0) ah) (dj ao)))) dO) (aE (h.aD 1 (aC gj (dv h.g z_len (h.bv 0)) ah)) (aK (bj (h.cl dq (ag (h.cl O_least_of__0 (ag (fw (h.bv 0) fy (ft (h.v 1))) ao)) (ag (h.cl O_least_of__0 (ag (fw (h.bv 0) (ft (h.v 1)) fy) ao)) ao)))))))
variable (BK:cY (Oz P w K mg base) 7 xh)
include z_len dq BK in
theorem a6H(D':cY (Def K mg) a d):cY (Oz P w K mg base) 8 xi:=aM (N:=["forms","half"]) D' λX r h=>by
 cases r
 exact (aE (dB (cU gS (dv h.g z_len (h.bv 0)) ah) (aK (bj (j6 (jN (h.v 0)) (aB (h.bv 0) ah) (dj ao)))) dO) (aE (h.aD 1 (aC gj (dv h.g z_len (h.bv 0)) ah)) (aK (bj (h.cl dq (ag (h.cl BK (ag (fw (h.bv 0) fy (ft (h.v 1))) ao)) (ag (h.cl BK (ag (fw (h.bv 0) (ft (h.v 1)) fy) ao)) ao)))))))
variable (BL:cY (Oz P w K mg base) 8 xi)
include z_len dq BL in
theorem a6G(D':cY (Def K mg) a d):cY (Oz P w K mg base) 9 xj:=aM (N:=["forms","half"]) D' λX r h=>by
 cases r
 exact (aE (dB (cU gS (dv h.g z_len (h.bv 0)) ah) (aK (bj (j6 (jN (h.v 0)) (aB (h.bv 0) ah) (dj ao)))) dO) (aE (h.aD 1 (aC gj (dv h.g z_len (h.bv 0)) ah)) (aK (bj (h.cl dq (ag (h.cl BL (ag (fw (h.bv 0) fy (ft (h.v 1))) ao)) (ag (h.cl BL (ag (fw (h.bv 0) (ft (h.v 1)) fy) ao)) ao)))))))
variable (BM:cY (Oz P w K mg base) 9 xj)
include z_len dq BM in
theorem a6F(D':cY (Def K mg) a d):cY (Oz P w K mg base) 10 xk:=aM (N:=["forms","half"]) D' λX r h=>by
 cases r
 exact (aE (dB (cU gS (dv h.g z_len (h.bv 0)) ah) (aK (bj (j6 (jN (h.v 0)) (aB (h.bv 0) ah) (dj ao)))) dO) (aE (h.aD 1 (aC gj (dv h.g z_len (h.bv 0)) ah)) (aK (bj (h.cl dq (ag (h.cl BM (ag (fw (h.bv 0) fy (ft (h.v 1))) ao)) (ag (h.cl BM (ag (fw (h.bv 0) (ft (h.v 1)) fy) ao)) ao)))))))
variable (BN:cY (Oz P w K mg base) 10 xk)
include z_len dq BN in
theorem a6E(D':cY (Def K mg) a d):cY (Oz P w K mg base) 11 xw:=aM (N:=["forms","half"]) D' λX r h=>by
 cases r
 exact (aE (dB (cU gS (dv h.g z_len (h.bv 0)) ah) (aK (bj (j6 (jN (h.v 0)) (aB (h.bv 0) ah) (dj ao)))) dO) (aE (h.aD 1 (aC gj (dv h.g z_len (h.bv 0)) ah)) (aK (bj (h.cl dq (ag (h.cl BN (ag (fw (h.bv 0) fy (ft (h.v 1))) ao)) (ag (h.cl BN (ag (fw (h.bv 0) (ft (h.v 1)) fy) ao)) ao)))))))
variable (BO:cY (Oz P w K mg base) 11 xw)
include z_len dq BO in
theorem a6D(D':cY (Def K mg) a d):cY (Oz P w K mg base) 12 xx:=aM (N:=["forms","half"]) D' λX r h=>by
 cases r
 exact (aE (dB (cU gS (dv h.g z_len (h.bv 0)) ah) (aK (bj (j6 (jN (h.v 0)) (aB (h.bv 0) ah) (dj ao)))) dO) (aE (h.aD 1 (aC gj (dv h.g z_len (h.bv 0)) ah)) (aK (bj (h.cl dq (ag (h.cl BO (ag (fw (h.bv 0) fy (ft (h.v 1))) ao)) (ag (h.cl BO (ag (fw (h.bv 0) (ft (h.v 1)) fy) ao)) ao)))))))
variable (BP:cY (Oz P w K mg base) 12 xx)
include z_len dq BP in
theorem a6C(D':cY (Def K mg) a d):cY (Oz P w K mg base) 13 xy:=aM (N:=["forms","half"]) D' λX r h=>by
 cases r
 exact (aE (dB (cU gS (dv h.g z_len (h.bv 0)) ah) (aK (bj (j6 (jN (h.v 0)) (aB (h.bv 0) ah) (dj ao)))) dO) (aE (h.aD 1 (aC gj (dv h.g z_len (h.bv 0)) ah)) (aK (bj (h.cl dq (ag (h.cl BP (ag (fw (h.bv 0) fy (ft (h.v 1))) ao)) (ag (h.cl BP (ag (fw (h.bv 0) (ft (h.v 1)) fy) ao)) ao)))))))
variable (BQ:cY (Oz P w K mg base) 13 xy)
include z_len dq BQ in
theorem a6B(D':cY (Def K mg) a d):cY (Oz P w K mg base) 14 xA:=aM (N:=["forms","half"]) D' λX r h=>by
 cases r
 exact (aE (dB (cU gS (dv h.g z_len (h.bv 0)) ah) (aK (bj (j6 (jN (h.v 0)) (aB (h.bv 0) ah) (dj ao)))) dO) (aE (h.aD 1 (aC gj (dv h.g z_len (h.bv 0)) ah)) (aK (bj (h.cl dq (ag (h.cl BQ (ag (fw (h.bv 0) fy (ft (h.v 1))) ao)) (ag (h.cl BQ (ag (fw (h.bv 0) (ft (h.v 1)) fy) ao)) ao)))))))
variable (BR:cY (Oz P w K mg base) 14 xA)
include z_len dq BR in
theorem a6A(D':cY (Def K mg) a d):cY (Oz P w K mg base) 15 vv:=aM (N:=["forms","half"]) D' λX r h=>by
 cases r
 exact (aE (dB (cU gS (dv h.g z_len (h.bv 0)) ah) (aK (bj (j6 (jN (h.v 0)) (aB (h.bv 0) ah) (dj ao)))) dO) (aE (h.aD 1 (aC gj (dv h.g z_len (h.bv 0)) ah)) (aK (bj (h.cl dq (ag (h.cl BR (ag (fw (h.bv 0) fy (ft (h.v 1))) ao)) (ag (h.cl BR (ag (fw (h.bv 0) (ft (h.v 1)) fy) ao)) ao)))))))
variable (BS:cY (Oz P w K mg base) 15 vv)
include z_len dq BS in
theorem a6a(D':cY (Def K mg) a d):cY (Oz P w K mg base) 16 tm:=aM (N:=["forms","half"]) D' λX r h=>by
 cases r
 exact (aE (dB (cU gS (dv h.g z_len (h.bv 0)) ah) (aK (bj (j6 (jN (h.v 0)) (aB (h.bv 0) ah) (dj ao)))) dO) (aE (h.aD 1 (aC gj (dv h.g z_len (h.bv 0)) ah)) (aK (bj (h.cl dq (ag (h.cl BS (ag (fw (h.bv 0) fy (ft (h.v 1))) ao)) (ag (h.cl BS (ag (fw (h.bv 0) (ft (h.v 1)) fy) ao)) ao)))))))
variable (B6:cY (Oz P w K mg base) 16 tm)
include z_len dq B6 in
theorem a59(D':cY (Def K mg) a d):cY (Oz P w K mg base) 17 tq:=aM (N:=["forms","half"]) D' λX r h=>by
 cases r
 exact (aE (dB (cU gS (dv h.g z_len (h.bv 0)) ah) (aK (bj (j6 (jN (h.v 0)) (aB (h.bv 0) ah) (dj ao)))) dO) (aE (h.aD 1 (aC gj (dv h.g z_len (h.bv 0)) ah)) (aK (bj (h.cl dq (ag (h.cl B6 (ag (fw (h.bv 0) fy (ft (h.v 1))) ao)) (ag (h.cl B6 (ag (fw (h.bv 0) (ft (h.v 1)) fy) ao)) ao)))))))
variable (B7:cY (Oz P w K mg base) 17 tq)
include z_len dq B7 in
theorem a58(D':cY (Def K mg) a d):cY (Oz P w K mg base) 18 tu:=aM (N:=["forms","half"]) D' λX r h=>by
 cases r
 exact (aE (dB (cU gS (dv h.g z_len (h.bv 0)) ah) (aK (bj (j6 (jN (h.v 0)) (aB (h.bv 0) ah) (dj ao)))) dO) (aE (h.aD 1 (aC gj (dv h.g z_len (h.bv 0)) ah)) (aK (bj (h.cl dq (ag (h.cl B7 (ag (fw (h.bv 0) fy (ft (h.v 1))) ao)) (ag (h.cl B7 (ag (fw (h.bv 0) (ft (h.v 1)) fy) ao)) ao)))))))
variable (B8:cY (Oz P w K mg base) 18 tu)
include z_len dq B8 in
theorem a57(D':cY (Def K mg) a d):cY (Oz P w K mg base) 19 tx:=aM (N:=["forms","half"]) D' λX r h=>by
 cases r
 exact (aE (dB (cU gS (dv h.g z_len (h.bv 0)) ah) (aK (bj (j6 (jN (h.v 0)) (aB (h.bv 0) ah) (dj ao)))) dO) (aE (h.aD 1 (aC gj (dv h.g z_len (h.bv 0)) ah)) (aK (bj (h.cl dq (ag (h.cl B8 (ag (fw (h.bv 0) fy (ft (h.v 1))) ao)) (ag (h.cl B8 (ag (fw (h.bv 0) (ft (h.v 1)) fy) ao)) ao)))))))
variable (B9:cY (Oz P w K mg base) 19 tx)
include z_len dq B9 in
theorem a56(D':cY (Def K mg) a d):cY (Oz P w K mg base) 20 qa:=aM (N:=["forms","half"]) D' λX r h=>by
 cases r
 exact (aE (dB (cU gS (dv h.g z_len (h.bv 0)) ah) (aK (bj (j6 (jN (h.v 0)) (aB (h.bv 0) ah) (dj ao)))) dO) (aE (h.aD 1 (aC gj (dv h.g z_len (h.bv 0)) ah)) (aK (bj (h.cl dq (ag (h.cl B9 (ag (fw (h.bv 0) fy (ft (h.v 1))) ao)) (ag (h.cl B9 (ag (fw (h.bv 0) (ft (h.v 1)) fy) ao)) ao)))))))
variable (vy:cY (Oz P w K mg base) 20 qa)
include gE in
theorem b04(D':Lw (Def K mg) a d):Lw (Oz P w K mg base) 5 vm:=aM (N:=["x","cost","low","high"]) D' λX r h=>by
 cases r
 exact (aK (bj (h.cl gE (ag (fF (ag (dj (ag (h.v 2) (ag (h.v 3) (ag (aC gF (h.v 1) (aC j7 (h.v 2) (h.v 0))) (ag (pB (h.v 0)) ao))))) ao)) ao))))
variable (BB:Lw (Oz P w K mg base) 5 vm)
include z_len in
theorem b03(D':Lx (Def K mg) a d):Lx (Oz P w K mg base) 1 vn:=aM (N:=["form"]) D' λX r h=>by
 cases r
 exact (aE (dB (cU (nL h.u8) (dv h.g z_len (h.bv 0)) ah) (aK Q1) dO) (aK (bj (h.v 0))))
variable (vg:Lx (Oz P w K mg base) 1 vn)
include EO nO vy BB vg in
theorem b32(D':Kl (Def K mg) a d):Kl (Oz P w K mg base) 21 rk:=aM (N:=["form","low","high","losses","row"]) D' λX r h=>by
 cases r
 exact (aE (h.set 3 (fF ao)) (aE (nN h.own h.calm (h.cl vg (ag (h.v 0) ao)) (h.tg 4) (aE (h.app 3 (h.cl BB (ag (aB (h.bv 4) ah) (ag (aB (h.bv 4) ah) (ag (h.v 1) (ag (h.v 2) ao)))))) (aK (h.app 3 (h.cl BB (ag (aB (h.bv 4) ah) (ag (h.cl nO (ag (h.v 4) (ag (aB (h.bv 4) ah) ao))) (ag (h.v 1) (ag (h.v 2) ao))))))))) (aK (Es 3 (bj (h.cl EO (ag (h.cl vy (ag (h.v 3) ao)) (ag (pB ah) ao))))))))
variable (wU:Kl (Oz P w K mg base) 21 rk)
include gE uT in
theorem b6y(D':JZ (Def K mg) a d):JZ (Oz P w K mg base) 5 w6:=aM (N:=["one","other"]) D' λX r h=>by
 cases r
 exact (aK (bj (h.cl gE (ag (pE (N':=["low","high","mine","yours"]) (caps:=[]) (nt:=4) h ⟨rfl,by decide +kernel,by decide +kernel,by decide +kernel,by decide +kernel,rfl,rfl,by decide +kernel⟩ (nJ (h.cl uT (ag (h.v 0) (ag (h.v 1) ao)))) (λX1 di dh dg c9 c8 h1=>⟨(uV (n:=4) h1.calm (jq (h1.tg 0) (jq (h1.tg 1) (jq (h1.tg 2) (jq (h1.tg 3) uX))))),mS,(dj (ag (h1.v 0) (ag (h1.v 1) (ag (aC eN (aB (h1.bv 2) ah) (aB (h1.bv 3) ah)) (ag (aC eN (aB (h1.bv 2) ah) (aB (h1.bv 3) ah)) ao)))))⟩)) ao))))
variable (Em:JZ (Oz P w K mg base) 5 w6)
include z_isinstance z_bool z_int in
theorem a8x(D':LP (Def K mg) a d):LP (Oz P w K mg base) 1 xn:=aM (N:=["found"]) D' λX r h=>by
 cases r
 exact (aK (bj (JV (Po (cD rfl) h.g z_isinstance h.g z_int (by decide +kernel) (h.v 0)) (Pq (b9g (Po (bH (cD rfl)) h.g z_isinstance h.g z_bool (by decide +kernel) (h.v 0)))))))
variable (vq:LP (Oz P w K mg base) 1 xn)
include gE vj s9 in
theorem a6N(D':L0 (Def K mg) a d):L0 (Oz P w K mg base) 5 BW:=aM (N:=["form","price","found"]) D' λX r h=>by
 cases r
 exact (aE (ED (i:=2) false (N':=["row","price"]) (caps:=[1]) (nt:=1) h ⟨rfl,by decide +kernel,by decide +kernel,by decide +kernel,by decide +kernel,rfl,rfl,by decide +kernel⟩ (nJ (h.v 0)) (λX1 di dh dg c9 c8 h1=>⟨(h1.tg 0),mS,(h1.cl (l9 di dh dg c9 c8 vj) (ag (dj (ag (aB (h1.bv 0) ah) (ag (aB (h1.bv 0) ah) ao))) (ag (dj (ag (h1.v 1) (ag ah ao))) (ag (aB (h1.bv 0) ah) (ag (aB (h1.bv 0) ah) ao)))))⟩)) (aK (bj (h.cl s9 (ag (h.cl gE (ag (pE (N':=["span"]) (caps:=[]) (nt:=1) h ⟨rfl,by decide +kernel,by decide +kernel,by decide +kernel,by decide +kernel,rfl,rfl,by decide +kernel⟩ (nJ (h.v 2)) (λX1 di dh dg c9 c8 h1=>⟨(h1.tg 0),(b89 (cU b6C (h1.v 0) Er)),(dj (ag (aB (h1.bv 0) ah) (ag (aB (h1.bv 0) ah) (ag ah (ag ah ao)))))⟩)) ao)) ao)))))
variable (Fo:L0 (Oz P w K mg base) 5 BW)
include nO in
theorem a6M(D':L1 (Def K mg) a d):L1 (Oz P w K mg base) 3 BX:=aM (N:=["row"]) D' λX r h=>by
 cases r
 exact (aE (dB (cU gS (aB (h.bv 0) ah) ah) (aK (bj (dj (ag (h.cl nO (ag (h.v 0) (ag (aB (h.bv 0) ah) ao))) (ag (aB (h.bv 0) ah) ao))))) dO) (aK (bj (dj (ag (aB (h.bv 0) ah) (ag (aB (h.bv 0) ah) ao))))))
variable (Fp:L1 (Oz P w K mg base) 3 BX)
include z_min vg Fp in
theorem a7z(D':L9 (Def K mg) a d):L9 (Oz P w K mg base) 4 vt:=aM (N:=["form"]) D' λX r h=>by
 cases r
 exact (aK (bj (b6Y h.g z_min h.calm h.u8 (gR (pE (N':=["row"]) (caps:=[]) (nt:=1) h ⟨rfl,by decide +kernel,by decide +kernel,by decide +kernel,by decide +kernel,rfl,rfl,by decide +kernel⟩ (nJ (h.cl vg (ag (h.v 0) ao))) (λX1 di dh dg c9 c8 h1=>⟨(h1.tg 0),mS,(h1.cl (l9 di dh dg c9 c8 Fp) (ag (h1.v 0) ao))⟩))))))
variable (vo:L9 (Oz P w K mg base) 4 vt)
include gE in
theorem b14(D':KY (Def K mg) a d):KY (Oz P w K mg base) 5 vf:=aM (N:=["form","p"]) D' λX r h=>by
 cases r
 exact (aK (bj (h.cl gE (ag (pE (N':=["row","p"]) (caps:=[1]) (nt:=1) h ⟨rfl,by decide +kernel,by decide +kernel,by decide +kernel,by decide +kernel,rfl,rfl,by decide +kernel⟩ (nJ (h.v 0)) (λX1 di dh dg c9 c8 h1=>⟨(h1.tg 0),mS,(dj (ag (aB (h1.bv 0) ah) (ag (aB (h1.bv 0) ah) (ag (aC gF (aB (h1.bv 0) ah) (aC j7 (h1.v 1) (aB (h1.bv 0) ah))) (ag (aC gF (aB (h1.bv 0) ah) (h1.v 1)) ao)))))⟩)) ao))))
variable (uZ:KY (Oz P w K mg base) 5 vf)
include Fo vo uZ in
theorem a6b(D':Me (Def K mg) a d):Me (Oz P w K mg base) 6 vw:=aM (N:=["form","p","here"]) D' λX r h=>by
 cases r
 exact (aE (h.aD 2 (h.cl uZ (ag (h.v 0) (ag (h.v 1) ao)))) (aK (bj (h.cl Fo (ag (h.v 2) (ag (aB (gR (h.cl vo (ag (h.v 2) ao))) ah) ao))))))
variable (B5:Me (Oz P w K mg base) 6 vw)
include vq B5 in
theorem a5E(D':Mj (Def K mg) a d):Mj (Oz P w K mg base) 7 B4:=aM (N:=["forms","found","p","firsts","lasts","form","spans"]) D' λX r h=>by
 cases r
 exact (aE (h.aD 3 ah) (aE (h.aD 4 ah) (aE (nN h.own h.calm (h.v 0) (h.tg 5) (aE (h.aD 6 (h.cl B5 (ag (h.v 5) (ag (h.v 2) ao)))) (aE (h.aD 3 (aC eN (h.v 3) (aB (gR (aB (h.bv 6) ah)) ah))) (aK (h.aD 4 (aC eN (h.v 4) (aB (gR (aB (h.bv 6) (pB ah))) ah))))))) (aE (h.aD 6 (h.cl B5 (ag (h.v 1) (ag (h.v 2) ao)))) (aK (bj (JV (h.cl vq (ag (aB (gR (aB (h.bv 6) ah)) ah) ao)) (JV (Ep (nL h.u8) (aB (gR (aB (h.bv 6) ah)) ah) (h.v 3)) (Pq (Ep (nL h.u8) (aB (gR (aB (h.bv 6) (pB ah))) ah) (h.v 4)))))))))))
variable (Fk:Mj (Oz P w K mg base) 7 B4)
theorem a9r(D':Ln (Def K mg) a d):Ln (Oz P w K mg base) 1 xq:=aM (N:=["every","told","low","high","price","step"]) D' λX r h=>by
 cases r
 exact (aE (h.set 1 (fF ao)) (aE (nN h.own h.calm (h.v 0) (uV (n:=4) h.calm (jq (h.tg 2) (jq (h.tg 3) (jq (h.tg 4) (jq (h.tg 5) uX))))) (aE (h.app 1 (dj (ag (h.v 2) (ag (h.v 4) ao)))) (aK (h.app 1 (dj (ag (h.v 3) (ag (aC eN (h.v 4) (aC j7 (h.v 5) (aC gF (h.v 3) (h.v 2)))) ao))))))) (aK (h.l7 1))))
variable (u9:Ln (Oz P w K mg base) 1 xq)
include z_max u9 in
theorem a9q(D':Lo (Def K mg) a d):Lo (Oz P w K mg base) 2 xr:=aM (N:=["every","p"]) D' λX r h=>by
 cases r
 exact (aK (bj (Pp h.g z_max h.calm (gR (pE (N':=["x","cost","p"]) (caps:=[1]) (nt:=2) h ⟨rfl,by decide +kernel,by decide +kernel,by decide +kernel,by decide +kernel,rfl,rfl,by decide +kernel⟩ (nJ (h.cl u9 (ag (h.v 0) ao))) (λX1 di dh dg c9 c8 h1=>⟨(uV (n:=2) h1.calm (jq (h1.tg 0) (jq (h1.tg 1) uX))),mS,(aC gF (aC j7 (h1.v 2) (h1.v 0)) (h1.v 1))⟩))))))
variable (Fe:Lo (Oz P w K mg base) 2 xr)
include vo uZ in
theorem b07(D':Lr (Def K mg) a d):Lr (Oz P w K mg base) 6 w8:=aM (N:=["form","p"]) D' λX r h=>by
 cases r
 exact (aK (bj (pB (aB (gR (h.cl vo (ag (h.cl uZ (ag (h.v 0) (ag (h.v 1) ao))) ao))) ah))))
variable (E2:Lr (Oz P w K mg base) 6 w8)
include z_len u9 in
theorem a8z(D':LM (Def K mg) a d):LM (Oz P w K mg base) 2 xl:=aM (N:=["every","m","ends","one","two","told"]) D' λX r h=>by
 cases r
 exact (aE (h.aD 2 (h.cl u9 (ag (h.v 0) ao))) (aE (h.aD 3 (aB (h.bv 2) (aC fx (h.v 1) (dv h.g z_len (h.bv 2))))) (aE (h.aD 4 (aB (h.bv 2) (aC fx (aC gj (h.v 1) ah) (dv h.g z_len (h.bv 2))))) (aE (h.set 5 (fF (ag (aB (gR (aB (h.bv 0) (aC fx (h.v 1) (dv h.g z_len (h.bv 0))))) ah) (ag (aC eN (aB (gR (aB (h.bv 0) (aC fx (h.v 1) (dv h.g z_len (h.bv 0))))) ah) ah) (ag (aC gF (aC fx (aC gj (h.v 1) ah) ah) ah) (ag (aC gF (aC fx (h.v 1) (aC nM ah ah)) (aC j7 ah (aC nM ah ah))) ao)))))) (aE (dB (cU (J5 h.u8) (aB (h.bv 3) ah) (aB (h.bv 4) ah)) (aE (h.app 5 (aC PX (aC gF (aB (h.bv 3) ah) (aB (h.bv 4) ah)) (aC gF (aB (h.bv 3) ah) (aB (h.bv 4) ah)))) (aK (h.app 5 (aC eN (aC PX (aC gF (aB (h.bv 3) ah) (aB (h.bv 4) ah)) (aC gF (aB (h.bv 3) ah) (aB (h.bv 4) ah))) ah)))) dO) (aK (bj (aB (h.bv 5) (aC fx (aC gj (h.v 1) ah) (dv h.g z_len (h.bv 5)))))))))))
variable (Fc:LM (Oz P w K mg base) 2 xl)
theorem a8A(D':LL (Def K mg) a d):LL (Oz P w K mg base) 1 pI:=aM (N:=["cell","k","big"]) D' λX r h=>by
 cases r
 exact (aE (h.aD 2 (aC j7 (aC eN (aC fx (h.v 0) (aC nM ah ah)) ah) (aC eN ah (aC j7 (aC j7 ah (h.v 1)) (h.v 1))))) (aE (h.aD 2 (aC eN (h.v 2) (aC j7 ah (h.v 1)))) (aK (bj (aC fx (aC j7 (h.v 2) (h.v 2)) (aC eN (aC nM ah ah) ah))))))
variable (lT:LL (Oz P w K mg base) 1 pI)
include z_len in
theorem a5h(D':Mc (Def K mg) a d):Mc (Oz P w K mg base) 1 xu:=aM (N:=["forms","many","form"]) D' λX r h=>by
 cases r
 exact (aE (h.aD 1 ah) (aE (nN h.own h.calm (h.v 0) (h.tg 2) (aK (h.J7 1 (dv h.g z_len (h.bv 2))))) (aK (bj (h.v 1)))))
variable (B2:Mc (Oz P w K mg base) 1 xu)
include z_MOST_PICKS B2 in
theorem b30(D':Ko (Def K mg) a d):Ko (Oz P w K mg base) 2 xg:=aM (N:=["forms","ways","form","longer","rows"]) D' λX r h=>by
 cases r
 exact (aE (dB (cU Ba (h.cl B2 (ag (h.v 0) ao)) (b4w h.g z_MOST_PICKS)) (aK Q1) dO) (aE (dB (cU (nL h.u8) (h.cl B2 (ag (h.v 0) ao)) ah) (aK (bj (fF ao))) dO) (aE (h.aD 1 (fF (ag (fF ao) ao))) (aE (nN h.own h.calm (h.v 0) (h.tg 2) (aE (h.set 3 (fF ao)) (aE (nN h.own h.calm (h.v 1) (h.tg 4) (aK (h.ext 3 (pE (N':=["row","rows"]) (caps:=[4]) (nt:=1) h ⟨rfl,by decide +kernel,by decide +kernel,by decide +kernel,by decide +kernel,rfl,rfl,by decide +kernel⟩ (nJ (h.v 2)) (λX1 di dh dg c9 c8 h1=>⟨(h1.tg 0),mS,(aC eN (h1.v 1) (fF (ag (h1.v 0) ao)))⟩))))) (aK (Es 3 (h.aD 1 (h.v 3))))))) (aK (bj (h.v 1)))))))
variable (EN:Ko (Oz P w K mg base) 2 xg)
theorem b01(D':Lz (Def K mg) a d):Lz (Oz P w K mg base) 1 sW:=aM (N:=["row"]) D' λX r h=>by
 cases r
 exact (aK (bj (aB (h.bv 0) ah)))
variable (E4:Lz (Oz P w K mg base) 1 sW)
include z_sorted z_sum gE E4 in
theorem b15(D':KW (Def K mg) a d):KW (Oz P w K mg base) 6 ve:=aM (N:=["rows","low","price","made","row","more"]) D' λX r h=>by
 cases r
 exact (aE (h.aD 1 (JW h.g z_sum h.calm (gR (pE (N':=["row"]) (caps:=[]) (nt:=1) h ⟨rfl,by decide +kernel,by decide +kernel,by decide +kernel,by decide +kernel,rfl,rfl,by decide +kernel⟩ (nJ (h.v 0)) (λX1 di dh dg c9 c8 h1=>⟨(h1.tg 0),mS,(aB (h1.bv 0) ah)⟩))))) (aE (h.aD 2 (JW h.g z_sum h.calm (gR (pE (N':=["row"]) (caps:=[]) (nt:=1) h ⟨rfl,by decide +kernel,by decide +kernel,by decide +kernel,by decide +kernel,rfl,rfl,by decide +kernel⟩ (nJ (h.v 0)) (λX1 di dh dg c9 c8 h1=>⟨(h1.tg 0),mS,(aB (h1.bv 0) ah)⟩))))) (aE (h.set 3 (fF (ag (dj (ag (h.v 1) (ag (h.v 1) (ag (h.v 2) (ag ah ao))))) ao))) (aE (nN h.own h.calm (h.qh E4 z_sorted (h.v 0)) (h.tg 4) (aE (h.aD 5 (aC gF (aB (h.bv 4) ah) (aB (h.bv 4) ah))) (aE (dB (cU Ba (h.v 5) ah) (aK (h.app 3 (dj (ag (aC eN (h.v 1) ah) (ag (aC eN (h.v 1) (h.v 5)) (ag (aC eN (h.v 2) (aB (h.bv 4) ah)) (ag (aB (h.bv 4) ah) ao))))))) dO) (aE (h.aug 1 (h.v 5)) (aK (h.aug 2 (aC j7 (aB (h.bv 4) ah) (h.v 5)))))))) (aK (Es 3 (bj (h.cl gE (ag (h.v 3) ao)))))))))
variable (ES:KW (Oz P w K mg base) 6 ve)
include vy EN ES in
theorem a55(D':Mf (Def K mg) a d):Mf (Oz P w K mg base) 21 B3:=aM (N:=["forms"]) D' λX r h=>by
 cases r
 exact (aK (bj (h.cl vy (ag (pE (N':=["rows"]) (caps:=[]) (nt:=1) h ⟨rfl,by decide +kernel,by decide +kernel,by decide +kernel,by decide +kernel,rfl,rfl,by decide +kernel⟩ (nJ (h.cl EN (ag (h.v 0) ao))) (λX1 di dh dg c9 c8 h1=>⟨(h1.tg 0),mS,(h1.cl (l9 di dh dg c9 c8 ES) (ag (h1.v 0) ao))⟩)) ao))))
variable (Fj:Mf (Oz P w K mg base) 21 B3)
include Fj in
theorem b16(D':KU (Def K mg) a d):KU (Oz P w K mg base) 22 vd:=aM (N:=["forms"]) D' λX r h=>by
 cases r
 exact (aK (bj (h.cl Fj (ag (h.v 0) ao))))
variable (ER:KU (Oz P w K mg base) 22 vd)
include lT in
theorem b06(D':Lu (Def K mg) a d):Lu (Oz P w K mg base) 2 w9:=aM (N:=["at","m","ahead","low","wide","price","step"]) D' λX r h=>by
 cases r
 exact (aE (h.aD 3 (aC eN (h.v 0) (aB (gR (fF (ag ah (ag ah (ag ah (ag (aC eN ah (aC fx (h.v 1) ah)) (ag (aC fx (h.v 1) (aC nM ah ah)) ao))))))) (aC fx (aC gj (h.v 1) ah) ah)))) (aE (h.aD 1 (h.cl lT (ag (h.v 1) (ag ah ao)))) (aE (h.aD 4 (aB (gR (fF (ag ah (ag ah (ag (aC fx (h.v 1) ah) (ag (aC fx (h.v 1) (aC nM ah ah)) ao)))))) (aC fx (aC gj (h.v 1) ah) ah))) (aE (h.aD 1 (h.cl lT (ag (h.v 1) (ag ah ao)))) (aE (h.aD 5 (aC gF (aC fx (aC gj (h.v 1) ah) ah) ah)) (aE (dB (cU (nL h.u8) (aC fx (h.v 1) ah) ah) (aK (h.aD 5 (aC gF (aC fx (aC gj (h.v 1) ah) (aC nM ah ah)) (aC j7 ah (aC nM ah ah))))) dO) (aE (dB (cU (nL h.u8) (aC fx (h.v 1) ah) ah) (aK (h.aD 5 (aC eN (aB (h.bv 2) ah) (aC j7 (aB (h.bv 2) ah) (aC gF (h.v 3) (aB (h.bv 2) ah)))))) dO) (aE (h.aD 1 (h.cl lT (ag (h.v 1) (ag ah ao)))) (aE (h.aD 6 (aC gF (aC fx (aC gj (h.v 1) ah) ah) ah)) (aE (dB (cU (nL h.u8) (aC fx (h.v 1) ah) ah) (aK (h.aD 6 (aC gF (aC fx (aC gj (h.v 1) ah) (aC nM ah ah)) (aC j7 ah (aC nM ah ah))))) dO) (aK (bj (dj (ag (h.v 3) (ag (aC eN (h.v 3) (h.v 4)) (ag (h.v 5) (ag (h.v 6) ao)))))))))))))))))
variable (E3:Lu (Oz P w K mg base) 2 w9)
include z_range lT E3 in
theorem a9p(D':Lp (Def K mg) a d):Lp (Oz P w K mg base) 3 rp:=aM (N:=["m","many","at","rows","ahead","k"]) D' λX r h=>by
 cases r
 exact (aE (h.aD 2 (aC gF (aC fx (aC gj (h.v 0) ah) ah) ah)) (aE (dB (cU (nL h.u8) (aC fx (h.v 0) ah) ah) (aK (h.aD 2 (aC gF (aC fx (aC gj (h.v 0) ah) (aC nM ah ah)) (aC j7 ah (aC nM ah ah))))) dO) (aE (h.set 3 (fF ao)) (aE (h.aD 4 (dj (ag ah (ag ah (ag ah (ag ah ao)))))) (aE (b3w h.own h.calm h.g z_range (ag (h.v 1) ao) (h.tg 5) (aE (h.aD 0 (h.cl lT (ag (h.v 0) (ag (aC eN ah (h.v 5)) ao)))) (aE (h.aD 4 (h.cl E3 (ag (h.v 2) (ag (h.v 0) (ag (h.v 4) ao))))) (aE (h.app 3 (h.v 4)) (aK (h.aD 2 (aC eN (aB (h.bv 4) ah) ah))))))) (aK (h.l7 3)))))))
variable (Ff:Lp (Oz P w K mg base) 3 rp)
include z_enumerate z_range lT in
theorem a8y(D':LN (Def K mg) a d):LN (Oz P w K mg base) 2 xm:=aM (N:=["cells","most","seeds","k","cell","at"]) D' λX r h=>by
 cases r
 exact (aE (ED (i:=2) true (N':=["k"]) (caps:=[]) (nt:=1) h ⟨rfl,by decide +kernel,by decide +kernel,by decide +kernel,by decide +kernel,rfl,rfl,by decide +kernel⟩ (b4h h.g z_range (ag (h.v 1) ao)) (λX1 di dh dg c9 c8 h1=>⟨(h1.tg 0),mS,(h1.cl (l9 di dh dg c9 c8 lT) (ag (h1.v 0) (ag ah ao)))⟩)) (aE (Ql h.own h.calm (PQ h.g z_enumerate (ag (h.v 0) ao)) (uV (n:=2) h.calm (jq (h.tg 3) (jq (h.tg 4) uX))) (aE (h.aD 5 (aC fx (h.v 3) (h.v 1))) (aK (h.item 2 (h.cl lT (ag (aC eN (aB (h.bv 2) (h.v 5)) (aC fx (h.v 4) (aC nM ah ah))) (ag (aC fx (h.v 3) ah) ao))) (h.v 5))))) (aK (h.l7 2))))
variable (Fd:LN (Oz P w K mg base) 2 xm)
include z_len in
theorem a6K(D':L4 (Def K mg) a d):L4 (Oz P w K mg base) 1 BZ:=aM (N:=["script","k"]) D' λX r h=>by
 cases r
 exact (aE (dB (cU gS (h.v 1) (dv h.g z_len (h.bv 0))) (aK (bj (aB (h.bv 0) (h.v 1)))) dO) (aK (bj ah)))
variable (Ft:L4 (Oz P w K mg base) 1 BZ)
include z_max z_min z_len z_sum z_enumerate z_zip gE wU Em vq Fk Fe E2 Fc lT ER Ff Fd Ft in
theorem b8N(D':xQ (Def K mg) a d):bY P w K mg base jt 23 a d ["script"] (mY K 1 Ex):=Ad (N:=["script","counts","seeds","every","forms","found","prices","p","low","high","due","form","k","cell","m","gain"]) D' λX r h=>by
 cases r
 exact (aE (h.aD 1 (aB (gR (fF (ag (fF (ag ah (ag ah ao))) (ag (fF (ag ah (ag ah (ag ah ao)))) (ag (fF (ag ah (ag ah ao))) (ag (fF (ag ah (ag ah (ag ah ao)))) ao)))))) (aC fx (h.cl Ft (ag (h.v 0) (ag ah ao))) ah))) (aE (h.aD 2 (h.cl Fd (ag (fw (h.bv 0) (ft ah) fy) (ag (dv h.g z_len (h.bv 1)) ao)))) (aE (ED (i:=3) false (N':=["seed","many"]) (caps:=[]) (nt:=2) h ⟨rfl,by decide +kernel,by decide +kernel,by decide +kernel,by decide +kernel,rfl,rfl,by decide +kernel⟩ (b85 h.g z_zip (ag (h.v 2) (ag (h.v 1) ao))) (λX1 di dh dg c9 c8 h1=>⟨(uV (n:=2) h1.calm (jq (h1.tg 0) (jq (h1.tg 1) uX))),mS,(h1.cl (l9 di dh dg c9 c8 Ff) (ag (h1.v 0) (ag (h1.v 1) ao)))⟩)) (aE (ED (i:=4) false (N':=["rows"]) (caps:=[]) (nt:=1) h ⟨rfl,by decide +kernel,by decide +kernel,by decide +kernel,by decide +kernel,rfl,rfl,by decide +kernel⟩ (nJ (h.v 3)) (λX1 di dh dg c9 c8 h1=>⟨(h1.tg 0),mS,(h1.cl (l9 di dh dg c9 c8 gE) (ag (h1.v 0) ao))⟩)) (aE (h.aD 5 (h.cl ER (ag (h.v 4) ao))) (aE (h.set 6 (fF ao)) (aE (Ql h.own h.calm (PQ h.g z_enumerate (ag (aC eN (fF (ag ah ao)) (fw (h.bv 0) fy (ft ah))) ao)) (uV (n:=2) h.calm (jq (h.tg 12) (jq (h.tg 13) uX))) (aE (h.aD 14 (h.cl lT (ag (h.v 13) (ag (aC fx (h.v 12) ah) ao)))) (aK (h.app 6 (h.cl Fc (ag (aB (h.bv 3) (aC fx (h.v 14) (dv h.g z_len (h.bv 3)))) (ag (h.v 14) ao))))))) (aE (Es 6 (nN h.own h.calm (h.v 6) (h.tg 7) (aE (h.aD 15 (h.cl E2 (ag (h.v 5) (ag (h.v 7) ao)))) (aE (dB (mX (OU (Pc (jN (h.cl vq (ag (h.v 15) ao)))) (Pe (cU (J5 h.u8) (h.v 15) (JW h.g z_sum h.calm (gR (pE (N':=["rows","p"]) (caps:=[7]) (nt:=1) h ⟨rfl,by decide +kernel,by decide +kernel,by decide +kernel,by decide +kernel,rfl,rfl,by decide +kernel⟩ (nJ (h.v 3)) (λX1 di dh dg c9 c8 h1=>⟨(h1.tg 0),mS,(h1.cl (l9 di dh dg c9 c8 Fe) (ag (h1.v 0) (ag (h1.v 1) ao)))⟩)))))))) (aK (bj OK)) dO) (aK (dB (Pc (jN (h.cl Fk (ag (h.v 4) (ag (h.v 5) (ag (h.v 7) ao)))))) (aK (bj OK)) dO)))))) (aE (h.aD 8 (b9h h.g z_min h.calm (h.bv 6))) (aE (h.aD 9 (Pp h.g z_max h.calm (h.bv 6))) (aE (h.aD 10 (h.cl wU (ag (aB (h.bv 4) ah) (ag (h.v 8) (ag (h.v 9) ao))))) (aE (nN h.own h.calm (fw (h.bv 4) (ft ah) fy) (h.tg 11) (aK (h.aD 10 (h.cl Em (ag (h.v 10) (ag (h.cl wU (ag (h.v 11) (ag (h.v 8) (ag (h.v 9) ao)))) ao)))))) (aK (bj (Ep (nL h.u8) (h.cl wU (ag (h.v 5) (ag (h.v 8) (ag (h.v 9) ao)))) (h.v 10))))))))))))))))
end
theorem all_mk{l:IB}{w:World}{K:aI}{h:Heap}{mg:Str->Option Value}{fa:Addr}(X:K.In h)(G:h.Ns mainGlobals mg)(XQ:mg "law" = some (.ref fa))
  (i1:FI K "holds_one" RQ f1 od1 an1 sl1 oc1 kV1 dc1 pm1 cd1 ct1)
  (i2:FI K "plain" QG f2 od2 an2 qk oc2 kV2 dc2 pm2 cd2 ct2)
  (i3:FI K "line_at" RC f3 od3 an3 sl3 oc3 kV3 dc3 pm3 cd3 ct3)
  (i4:FI K "laid_beside" Sm f4 od4 an4 sl4 oc4 kV4 dc4 pm4 cd4 ct4)
  (i5:FI K "laid" Qj f5 od5 an5 sl5 oc5 kV5 dc5 pm5 cd5 ct5)
  (i6:FI K "times" QH f6 od6 an6 sl6 oc6 kV6 dc6 pm6 cd6 ct6)
  (i7:FI K "stretch_on" Su f7 od7 an7 sl7 oc7 kV7 dc7 pm7 cd7 ct7)
  (i8:FI K "span_or_none" SN f8 od8 an8 sl8 oc8 kV8 dc8 pm8 cd8 ct8)
  (i9:FI K "up" OS f9 od9 an9 sl9 oc9 kV9 dc9 pm9 cd9 ct9)
  (i10:FI K "down" Qi f10 VH an10 Ub Wl Xa Y2 U1 cd10 ZF)
  (i11:FI K "no_dearer" RW f11 VG an11 Ua Wk W' Y1 U0 cd11 ZE)
  (i12:FI K "lower_line" Sr f12 VF an12 T' Wj W9 Y0 UZ cd12 ZD)
  (i13:FI K "drawn_to" Sb f13 VE an13 T9 Wi W8 YZ UY cd13 ZC)
  (i14:FI K "line_from" RV f14 VD an14 T8 Wh W7 YY UX cd14 ZA)
  (i15:FI K "met" O9 f15 VC an15 T7 Wg W6 YX UW cd15 Zz)
  (i16:FI K "lesser_rows" SQ f16 VB an16 T6 Wf W5 YW UU cd16 Zy)
  (i17:FI K "cut" O8 f17 VA an17 T5 We W4 YV UT Z' Zx)
  (i18:FI K "outside" RG f18 Vz an18 T4 Wc W3 YU US Z9 Zw)
  (i19:FI K "spans_of" R9 f19 Vy an19 T3 Wb W2 YT UR Z8 Zv)
  (i20:FI K "least" QE f20 Vx an20 T2 Wa W1 YS UQ Z7 Zu)
  (i21:FI K "least_of" R8 f21 Vw an21 T1 V' W0 YR UP Z6 Zt)
  (i22:FI K "loss_of" RD f22 Vv an22 TZ V9 WZ YQ UO Z5 Zs)
  (i23:FI K "offered" RE f23 Vu an23 TY V8 WY YO UN Z4 Zr)
  (i24:FI K "gains" QD f24 Vt an24 TX V7 WX YN UM Z3 Zq)
  (i25:FI K "plus" Qk f25 Vs an25 TU V6 WW YM UL Z2 Zp)
  (i26:FI K "_law_whole" RU f26 Vr an26 TR V5 WU YL UK Z1 Zo)
  (i27:FI K "amounts_for" Sj f27 Vq an27 TQ V4 WT YK UJ Z0 Zn)
  (i28:FI K "cheapest_in" Sk f28 Vp an28 TN V3 WS YJ UI ZZ Zm)
  (i29:FI K "least_cost" So f29 Vo an29 TM V2 WR YI UH ZY Zl)
  (i30:FI K "tilted" Ra f30 Vn an30 TL V1 WQ YH UG ZX Zk)
  (i31:FI K "best_amounts" SK f31 Vm an31 TK V0 WO YG UE ZW Zj)
  (i32:FI K "_law_ends_good" SJ f32 Vl an32 TJ VZ WN YF UD ZV Zi)
  (i33:FI K "_law_ends" RX f33 Vk an33 TH VY WM YE UC ZU Zh)
  (i34:FI K "_law_gain" RY f34 Vj an34 TF VX WL YD UB ZT Zg)
  (i35:FI K "gain_at" RA f35 Vi an35 TC VW WK YC UA ZS Zf)
  (i36:FI K "_law_price" RS f36 Vh an36 Tz VV WJ YB Uz ZR Ze)
  (i37:FI K "_law_mixed" RR f37 Vg an37 Tw VU WI YA Uy ZQ Zd)
  (i38:FI K "how_many_picks" SR f38 Vf an38 Tv VT WH Yz Ux ZP Zc)
  (i39:FI K "picks" QF f39 Ve an39 Tu VS WG Yy Uw ZO Zb)
  (i40:FI K "step_of" RH f40 Vd an40 Tt VR WE Yx Uv ZN Za)
  (i41:FI K "poured" Q9 f41 Vc an41 Tq VQ WD Yw Uu ZM Y')
  (i42:FI K "least_poured" SM f42 Vb an42 Tp VP WC Yv Ut ZL Y9)
  (i43:FI K "joined" Q8 f43 Va an43 To VO WB Yu Us ZK Y8)
  (i44:FI K "_law_row" RB f44 U' an44 Tn VN WA Yt Ur ZJ Y7)
  (i45:FI K "_law_rows" RZ f45 U9 an45 Tj VM Wz Yr Uq ZI Y6)
  (i46:FI K "_law_seeds" RT f46 U8 an46 Ti VL Wy Yq Uo ZH Y5)
  (i47:FI K "_law_cell_at" Sn f47 U7 an47 Th VJ Wx Yp Um ZG Y4)
  (i48:FI K "law" Bh f48 U6 J' Tg VI GD Ia Gf Ih Ib)
  (zmax:lE K mainGlobals "max" = some none)
  (zmin:lE K mainGlobals "min" = some none)
  (ztuple:lE K mainGlobals "tuple" = some none)
  (zlen:lE K mainGlobals "len" = some none)
  (zsorted:lE K mainGlobals "sorted" = some none)
  (zsum:lE K mainGlobals "sum" = some none)
  (zMOST_PICKS:∃t,lE K mainGlobals "MOST_PICKS" = some (some (.int 100 t)))
  (zenumerate:lE K mainGlobals "enumerate" = some none)
  (zrange:lE K mainGlobals "range" = some none)
  (zisinstance:lE K mainGlobals "isinstance" = some none)
  (zbool:lE K mainGlobals "bool" = some none)
  (zint:lE K mainGlobals "int" = some none)
  (zzip:lE K mainGlobals "zip" = some none)
  (fin:∀ns:List Int,ns.length<=63->Ex [.lst true (ns.map D.int)]=some (.sh (.bl true))):
  ∃fd:FuncData,(∀(s:Shared) (v:Value),BindsTo s fd ⟨[v],[]⟩ [("script",v)])/\∀base:Heap,K.In base->base.Ns mainGlobals mg->bY l.prog w K mg base jt 23 fa fd ["script"] (spT K):=by
 have e:=XQ.symm.trans (IQ X G i48.a)
 cases e
 have z_max:=ou X G zmax
 have z_min:=ou X G zmin
 have z_tuple:=ou X G ztuple
 have z_len:=ou X G zlen
 have z_sorted:=ou X G zsorted
 have z_sum:=ou X G zsum
 have z_MOST_PICKS:MD mg "MOST_PICKS" 100:=zMOST_PICKS.imp λ_ q=>IQ X G q
 have z_enumerate:=ou X G zenumerate
 have z_range:=ou X G zrange
 have z_isinstance:=ou X G zisinstance
 have z_bool:=ou X G zbool
 have z_int:=ou X G zint
 have z_zip:=ou X G zzip
 refine ⟨jX "law" "law" (lO Bh) (iZ Bh) (fU Bh) .none GD Ia Gf J' Ih Ib,λs v=>.of_eq rfl,λbase _ _=>?_⟩
 have sZ:=a8B (P:=l.prog) (w:=w) (base:=base) (bK X G i1)
 have sR:=b3Z sZ (bK X G i2)
 have p9:=b05 (P:=l.prog) (w:=w) (base:=base) (oS X G i3)
 have Fq:=a6L sZ sR p9 (cW X G i4)
 have gE:=b6z z_tuple sR Fq (bK X G i5)
 have EO:=b3Y gE (cW X G i6)
 have vi:=a7w p9 (qt X G i7)
 have B':=a54 (P:=l.prog) (w:=w) (base:=base) (cW X G i8)
 have O_up:=yL (P:=l.prog) (w:=w) (base:=base) (cW X G i9)
 have El:=b6A (P:=l.prog) (w:=w) (base:=base) (cW X G i10)
 have vj:=a8v z_max z_min B' O_up El (qt X G i11)
 have Fm:=a7y vi vj (qt X G i12)
 have nO:=a9s p9 (cW X G i13)
 have BU:=a8w nO (cW X G i14)
 have uT:=b8M z_max z_min z_len BU (cW X G i15)
 have Fu:=a6z Fm uT (cW X G i16)
 have A1:=b8O nO (oS X G i17)
 have BC:=b02 z_max z_len A1 (cW X G i18)
 have s9:=a9o (P:=l.prog) (w:=w) (base:=base) z_tuple (bK X G i19)
 have dq:=b31 z_sorted gE Fu BC s9 (cW X G i20)
 have O_least_of__0:=a6J (P:=l.prog) (w:=w) (base:=base) (bK X G i21)
 have BK:=a6I z_len dq O_least_of__0 (bK X G i21)
 have BL:=a6H z_len dq BK (bK X G i21)
 have BM:=a6G z_len dq BL (bK X G i21)
 have BN:=a6F z_len dq BM (bK X G i21)
 have BO:=a6E z_len dq BN (bK X G i21)
 have BP:=a6D z_len dq BO (bK X G i21)
 have BQ:=a6C z_len dq BP (bK X G i21)
 have BR:=a6B z_len dq BQ (bK X G i21)
 have BS:=a6A z_len dq BR (bK X G i21)
 have B6:=a6a z_len dq BS (bK X G i21)
 have B7:=a59 z_len dq B6 (bK X G i21)
 have B8:=a58 z_len dq B7 (bK X G i21)
 have B9:=a57 z_len dq B8 (bK X G i21)
 have vy:=a56 z_len dq B9 (bK X G i21)
 have BB:=b04 gE (qt X G i22)
 have vg:=b03 (P:=l.prog) (w:=w) (base:=base) z_len (bK X G i23)
 have wU:=b32 EO nO vy BB vg (oS X G i24)
 have Em:=b6y gE uT (cW X G i25)
 have vq:=a8x (P:=l.prog) (w:=w) (base:=base) z_isinstance z_bool z_int (bK X G i26)
 have Fo:=a6N gE vj s9 (cW X G i27)
 have Fp:=a6M nO (bK X G i28)
 have vo:=a7z z_min vg Fp (bK X G i29)
 have uZ:=b14 gE (cW X G i30)
 have B5:=a6b Fo vo uZ (cW X G i31)
 have Fk:=a5E vq B5 (oS X G i32)
 have u9:=a9r (P:=l.prog) (w:=w) (base:=base) (bK X G i33)
 have Fe:=a9q z_max u9 (cW X G i34)
 have E2:=b07 vo uZ (cW X G i35)
 have Fc:=a8z z_len u9 (cW X G i36)
 have lT:=a8A (P:=l.prog) (w:=w) (base:=base) (cW X G i37)
 have B2:=a5h (P:=l.prog) (w:=w) (base:=base) z_len (bK X G i38)
 have EN:=b30 z_MOST_PICKS B2 (bK X G i39)
 have E4:=b01 (P:=l.prog) (w:=w) (base:=base) (bK X G i40)
 have ES:=b15 z_sorted z_sum gE E4 (bK X G i41)
 have Fj:=a55 vy EN ES (bK X G i42)
 have ER:=b16 Fj (bK X G i43)
 have E3:=b06 lT (oS X G i44)
 have Ff:=a9p z_range lT E3 (cW X G i45)
 have Fd:=a8y z_enumerate z_range lT (cW X G i46)
 have Ft:=a6K (P:=l.prog) (w:=w) (base:=base) z_len (cW X G i47)
 have O_law:=b8N z_max z_min z_len z_sum z_enumerate z_zip gE wU Em vq Fk Fe E2 Fc lT ER Ff Fd Ft (bK X G i48)
 exact b8X O_law fin
end My
open PySem L2 DL
def vcNames:String:="a0h a0r a0n a19 a7o b1O b1N b1M Wo_seq b7v Wo_bk Wo_ct b9J b7u b9I b28 b94 b9z b7J b7Z b7f Wo_eV Wo_eC b92 b9N b7B b7H b7z b7D b7G b48 b3d b7E b7A b9Q b9R b9S b9T b9U b9P b7F b7C b47 b44 b46 b43 b45 b42 b70 b72 b71 rep0 rep1 rep2 rep3 rep4 b4V b5i b5j b7L b7M b7K b7O b7Y b7W b7R b7S b7y b91 b4Z b40 b73 b74 b9O b7w b2u b4n b2w b2t b2s b2v b9F b96 b7o b7n b7m b7j b7l b7k b4W b7q b9E b7p b7X b9Y b7Q b90 b75 b5m b7N b7T b9A b9C b9B Wo_bV b93 b9G b9H b7U b5f b3b ixQ_i b9Z atI_0 atI_1 atI_2 atI_3 b5h b3e b5k b5l b7V b63 b64 b9V b7I a9Z a9f b7s b7r b4Y b4X b3r b3s b3t b3q Wo_gN Wo_gT b41 b3a b95 b9D b97 b9f b9W b9K b6M b7x b7h b7g b7t b9M pQ_i b9L b9X b7P slQ_t b4R b4S b4T b4U b5d b5c srQ_l b1o b5g b49 b5b Sl_sh Sl_ow b5a List.getElem?_cons_zero List.getElem?_cons_succ List.set_cons_zero List.set_cons_succ List.length_cons List.length_nil a9J b1e a9L a9I a9H a9K a8X a9M a8Z a8W a8V a8Y a9D b1d a9F a9C a9B a9E a8S a9G a8U a8R a8Q a8T a7H a8P a7J a7G a7F a7I decide_eq_true_eq decide_eq_false_iff_not Bool.not_eq_true' Bool.not_eq_false' Bool.not_true Bool.not_false true_and and_true forall_const Bool.true_eq_false Bool.false_eq_true false_implies reduceCtorEq implies_true true_implies Int.reduceToNat Nat.reduceAdd Nat.reduceLT Nat.reduceLeDiff Nat.reduceSub Int.reduceLT Int.reduceLE Int.reduceEq Int.cast_ofNat_Int not_true_eq_false not_false_eq_true"
local macro_rules | `(tactic| walk_at "vc")=>do
 let ls ← ((vcNames.splitOn " ") ++ ["a3S","b5e","b29","b4k","b6O","b4m","b4j","b4i","b4l"]).toArray.mapM fun s=>`(Lean.Parser.Tactic.simpLemma| $(Lean.mkIdent s.toName):ident)
 `(tactic| first | simp only [$ls,*] | dsimp only | skip)
local macro_rules | `(tactic| walk_at "v1")=>do
 let ls ← (vcNames.splitOn " ").toArray.mapM fun s=>`(Lean.Parser.Tactic.simpLemma| $(Lean.mkIdent s.toName):ident)
 `(tactic| first | simp only [$ls,*] | dsimp only | skip)
local macro_rules | `(tactic| walk_at "sc")=>`(tactic| first | omega | (simp only [DivC,PowC,MulC,LIM,R62]; omega) | rfl | decide)
local macro_rules | `(tactic| walk_at "go")=>`(tactic| (walk_at "vc"; repeat' first | apply c47 | intro _); all_goals try (walk_at "sc"))
local macro_rules | `(tactic| walk_at "sp")=>`(tactic| (repeat' first | apply And.intro | intro _); all_goals first | (exfalso; omega) | walk_at "sc" | ((repeat apply Exists.intro); rfl) | skip)
local macro_rules | `(tactic| walk_at "st")=>`(tactic| repeat (refine And.intro ?_ ?_; · first | (simp only [DivC,PowC,MulC,LIM,R62]; omega) | omega))
namespace My
theorem b6G:∀{ns:List Int} {n:Int},n∈ns->gw ns<=n:=by
 intro ns
 have key:∀(r:List Int) (a:Int),r.foldl (λa b=>if b<a then b else a) a<=a/\∀n∈r,r.foldl (λa b=>if b<a then b else a) a<=n:=λr=>by
  induction r with
  | nil=>intro a;simp
  | cons b r ih =>
   intro a
   simp only [nC]
   obtain ⟨h1,h2⟩:=ih (if b<a then b else a)
   have h3:(if b<a then b else a)<=a/\(if b<a then b else a)<=b:=by split<;>omega
   refine ⟨by omega,λn hn=>?_⟩
   rcases bq.mp hn with rfl | hn
   .omega
   .exact h2 n hn
 cases ns with
 | nil=>intro n h;cases h
 | cons m r =>
  intro n h
  rcases bq.mp h with rfl | h
  .exact (key r n).1
  .exact (key r m).2 n h
theorem b36:∀{ns:List Int},ns≠[]->gw ns∈ns:=by
 intro ns
 have key:∀(r:List Int) (a:Int),r.foldl (λa b=>if b<a then b else a) a∈a::r:=λr=>by
  induction r with
  | nil=>intro a;simp
  | cons b r ih =>
   intro a
   simp only [nC]
   have:=ih (if b<a then b else a)
   rcases bq.mp this with h | h
   .rw [h];split<;>simp
   .simp [h]
 cases ns with
 | nil=>intro h;exact (h rfl).elim
 | cons m r=>intro _;exact key r m
theorem P7(i:Int):xn [.int i]=some (.sh (.bl true)):=by
 refine Wo.eq (kQ.mpr ?_)
 unfold LG
 walk_at "go"
noncomputable abbrev Row:=Int×Int×Int×Int
noncomputable def Row.d(r:Row):D:=.tup [.int r.1,.int r.2.1,.int r.2.2.1,.int r.2.2.2]
theorem dA(r:Row):Row.d r=.tup [.int r.1,.int r.2.1,.int r.2.2.1,.int r.2.2.2]:=rfl
noncomputable def Row.at(r:Row)(x:Int):Int:=r.2.2.1+r.2.2.2*(x-r.1)
def q8(r:Row):Prop:=r.1<=r.2.1/\(r.1=r.2.1->r.2.2.2=0)
def sP(a r:Row):Prop:=a.2.1<r.1/\(r.1=a.2.1+1->a.1<a.2.1/\r.2.2.1≠a.at r.1)
noncomputable def aS(R:Row->Row->Prop):List Row->Prop
 | a::b::rs=>R a b/\aS R (b::rs)
 | _=>True
theorem aS.snoc{R:Row->Row->Prop}{r:Row}:∀{rs:List Row},aS R rs->(∀a,rs.getLast?=some a->R a r)->aS R (rs++[r])
 | [],_,_=>trivial
 | [a],_,h=>⟨h a rfl,trivial⟩
 | a::b::rs,h,k=>⟨h.1,h.2.snoc (rs:=b::rs) λc hc=>k c (by simpa using hc)⟩
theorem aS.tail{R:Row->Row->Prop}{r:Row}{rs:List Row}(h:aS R (r::rs)):aS R rs:=by
 cases rs with
 | nil=>trivial
 | cons q rs=>exact h.2
def Canon(rs:List Row):Prop:=(∀r∈rs,q8 r)/\aS sP rs
def ar(B:Int)(r:Row):Prop:=(-B<=r.1/\r.1<=B)/\(-B<=r.2.1/\r.2.1<=B)/\(-B<=r.2.2.1/\r.2.2.1<=B)/\(-B<=r.2.2.2/\r.2.2.2<=B)
noncomputable def look:List Row->Int->Option Int
 | [],_=>none
 | r::rs,x=>if r.1<=x/\x<=r.2.1 then some (r.at x) else look rs x
def bL(rs:List Row):Prop:=(∀r∈rs,r.1<=r.2.1)/\rs.Pairwise λa b=>a.2.1<b.1
theorem Canon.cL:∀{rs:List Row},Canon rs->bL rs
 | [],_=>⟨λ_ z=>(nomatch z),.nil⟩
 | [r],h=>⟨λq hq=>(h.1 q hq).1,pV _ _⟩
 | r::q::rs,h=>by
  obtain ⟨i1,i2⟩:=Canon.cL (rs:=q::rs) ⟨λa ha=>h.1 a (br _ ha),h.2.2⟩
  refine ⟨λa ha=>(h.1 a ha).1,fC.mpr ⟨λa ha=>?_,i2⟩⟩
  have h1:=h.2.1.1
  rcases bq.mp ha with rfl | ha
  .exact h1
  .have:=(fC.mp i2).1 a ha
   have:=i1 q aZ
   lia
theorem Rn{x:Int}{post:List Row}:∀{pre:List Row},(∀q∈pre,q.2.1<x)->look (pre++post) x=look post x
 | [],_=>rfl
 | r::pre,h=>by
  have:=h r aZ
  rw [AR,look,if_neg (by ext this)]
  exact Rn λq hq=>h q (br _ hq)
theorem Lc{x:Int}:∀{rs:List Row},(∀q∈rs,x<q.1\/q.2.1<x)->look rs x=none
 | [],_=>rfl
 | r::rs,h=>by
  have:=h r aZ
  rw [look,if_neg (by ext this)]
  exact Lc λq hq=>h q (br _ hq)
theorem rh{x c:Int}:∀{rs:List Row},look rs x=some c->∃r∈rs,r.1<=x/\x<=r.2.1/\c=r.at x
 | [],h=>by cases h
 | r::rs,h=>by
  rw [look] at h
  split at h
  .exact ⟨r,aZ,by lia,by lia,(cT h).symm⟩
  .obtain ⟨q,hq,k⟩:=rh h
   exact ⟨q,br _ hq,k⟩
theorem lS{rs:List Row}(h:bL rs){r:Row}(hr:r∈rs){x:Int}(h1:r.1<=x)(h2:x<=r.2.1):look rs x=some (r.at x):=by
 obtain ⟨pre,post,rfl⟩:=NQ hr
 rw [Rn λq hq=>?_,look,if_pos ⟨h1,h2⟩]
 have:=(gP.mp h.2).2.2 q hq r aZ
 ext h1 this
def Val(rs:List Row)(x c:Int):Prop:=∃r∈rs,r.1<=x/\x<=r.2.1/\c=r.at x
theorem oD{rs:List Row}(h:bL rs){x c:Int}:look rs x=some c↔Val rs x c:=
 ⟨rh,λ⟨r,hr,h1,h2,e⟩=>by rw [lS h hr h1 h2,e]⟩
theorem Val.app{rs qs:List Row}{x c:Int}:Val (rs++qs) x c↔Val rs x c\/Val qs x c:=by
 unfold Val
 constructor
 .rintro ⟨r,hr,h⟩
  rcases bT.mp hr with hr | hr
  .exact .inl ⟨r,hr,h⟩
  .exact .inr ⟨r,hr,h⟩
 .rintro (⟨r,hr,h⟩ | ⟨r,hr,h⟩)
  .exact ⟨r,gp _ hr,h⟩
  .exact ⟨r,fQ _ hr,h⟩
theorem Val.one{r:Row}{x c:Int}:Val [r] x c↔r.1<=x/\x<=r.2.1/\c=r.at x:=by
 unfold Val
 simp
theorem Val.two{r q:Row}{x c:Int}:Val [r,q] x c↔(r.1<=x/\x<=r.2.1/\c=r.at x)\/(q.1<=x/\x<=q.2.1/\c=q.at x):=by
 unfold Val
 simp
noncomputable def total(rs:List Row):Int:=(rs.map λr=>r.2.1-r.1+1).sum
theorem vh(rs qs:List Row):total (rs++qs)=total rs+total qs:=by unfold total;rw [eJ,uC]
theorem aS.append{R:Row->Row->Prop}:∀{rs qs:List Row},aS R rs->aS R qs->(∀a b,rs.getLast?=some a->qs.head?=some b->R a b)->aS R (rs++qs)
 | [],_,_,h,_=>h
 | [a],[],_,_,_=>trivial
 | [a],b::qs,_,h,k=>⟨k a b rfl rfl,h⟩
 | a::b::rs,qs,h,h',k=>⟨h.1,aS.append (rs:=b::rs) h.2 h' λc d hc hd=>k c d (by simpa using hc) hd⟩
theorem aS.left{R:Row->Row->Prop}:∀{rs qs:List Row},aS R (rs++qs)->aS R rs
 | [],_,_=>trivial
 | [a],_,_=>trivial
 | a::b::rs,qs,h=>⟨h.1,aS.left (rs:=b::rs) h.2⟩
theorem aS.mid{R:Row->Row->Prop}{b:Row}:∀{rs:List Row},aS R (rs++[b])->∀a,rs.getLast?=some a->R a b
 | [],_,a,h=>by cases h
 | [a],h,c,hc=>by cases hc;exact h.1
 | a::c::rs,h,d,hd=>aS.mid (rs:=c::rs) h.2 d (by simpa using hd)
theorem aS.get{R:Row->Row->Prop}:∀{rs:List Row},aS R rs->∀(k:Nat) (h:k+1<rs.length),R (rs[k]'(by ext h:1)) rs[k+1]
 | [],_,k,h=>absurd h (by simp)
 | [a],_,k,h=>absurd h (by simp)
 | a::b::rs,h,0,_=>h.1
 | a::b::rs,h,k+1,hk=>aS.get (rs:=b::rs) h.2 k (by simpa using hk)
theorem QL{rs:List Row}{n:Nat}(h:n<rs.length):dN (rs.map Row.d) (n:Int)=some (Row.d rs[n]):=by
 rw [DL.dI];simp [h]
theorem ar.mono{A B:Int}{r:Row}(h:ar A r)(nh:A<=B):ar B r:=by unfold ar at *;ext h nh
theorem b61{n:Nat}(x y:Row):bh (n+1) x.d y.d=some (decide (x=y)):=by
 obtain ⟨a,b,c,d⟩:=x
 obtain ⟨a',b',c',d'⟩:=y
 simp only [Row.d,bh,NY,List.zipWith_nil_left,iX,wq,List.all_cons,List.all_nil,iy,AO,id]
 simp [Bool.and_assoc]
noncomputable def gv(c k:Int):Int:=((c%10^60+3)*(16180339887498948482045868343656381177203+2*k*k)+6151*k)*((c%10^60+3)*(16180339887498948482045868343656381177203+2*k*k)+6151*k)%(10^60+33)
theorem uY(c k:Int):0<=gv c k/\gv c k<10^60+33:=⟨ny _ (by decide),nI _ (by decide)⟩
theorem uW(c k:Int)(h0:0<=k)(h1:k<=10^6):pI [.int c,.int k]=some (.sh (.int (gv c k))):=by
 refine Wo.eq (kW.mpr ?_)
 unfold LU gv
 have m1:=ny c (show (10^60:Int)≠0 by decide)
 have m2:=nI c (show (0:Int)<10^60 by decide)
 have k1:0<=2*k*k:=mw (by ext h0) h0
 have k2:2*k*k<=2*10^6*10^6:=Int.mul_le_mul (by ext h1) h1 h0 (by ext)
 walk_at "vc"
 generalize c%10^60=a at *
 generalize 2*k*k=q at *
 have b1:=qZ (a:=a+3) (b:=16180339887498948482045868343656381177203+q) (A:=10^61) (B:=10^42) (by ext m1) (by ext m2) (by lia) (by lia)
 have b2:MulC (a+3) (16180339887498948482045868343656381177203+q):=p8 (by ext m1) (by ext m2) (by lia) (by lia)
 generalize (a+3)*(16180339887498948482045868343656381177203+q)=b at *
 have b3:MulC (b+6151*k) (b+6151*k):=p8 (by lia) (by lia) (by lia) (by lia)
 have b4:MulC 2 k:=.inr (.inl (by ext h0 h1))
 have b5:MulC (2*k) k:=.inr (.inl (by ext h0 h1))
 have b6:MulC 6151 k:=.inr (.inl (by ext h0 h1))
 have b7:PowC 10 60:=by decide
 simp [b2,b3,b4,b5,b6,b7,jS]
theorem Rv(cs:List Int):qX (cs.map D.int)=cs.zipIdx.map λp=>D.tup [.int p.2,.int p.1]:=by
 unfold qX
 rw [List.zipIdx_map,fT]
 rfl
theorem Rg{α:Type}{cs:List α}{pre post:List (α×Nat)}{a:α×Nat}(e:cs.zipIdx=pre++a::post):a.2=pre.length/\pre.length<cs.length:=by
 have h:=congrArg (λl=>l[pre.length]?) e
 have hl:=congrArg pd e
 simp at h hl
 obtain ⟨x,_,h⟩:=h
 exact ⟨by rw [<-h],by ext hl⟩
theorem b65(cs:List Int)(most:Int)(h0:1<=most)(h1:most<=1000)(hl:cs.length<=1000){r:Bool}:∃ss:List Int,xm [.lst r (cs.map D.int),.int most]=some (.ow (ss.map D.int))/\(ss.length:Int)=most/\∀s∈ss,0<=s/\s<10^60+33:=by
 have key:Wo (xm [.lst r (cs.map D.int),.int most]) λs=>∃ss:List Int,s=.ow (ss.map D.int)/\(ss.length:Int)=most/\∀v∈ss,0<=v/\v<10^60+33:=by
  refine kR.mpr ?_
  unfold LF
  walk_at "vc"
  unfold dQ
  rw [mU (λ(k:Nat)=>D.int (0+(k:Int))) (λk=>.int (gv k 40)) (λe=>∃j,e=[j]) (jH most.toNat) (λk _ e he=>by
   obtain ⟨j,rfl⟩:=he
   walk_at "vc"
   rw [Io,uW _ _ (by decide) (by decide)]
   walk_at "vc"
   exact ⟨_,rfl⟩) ⟨_,rfl⟩]
  walk_at "vc"
  rw [Rv,aX,List.length_range]
  refine ⟨by ext h1,?_⟩
  refine lQ (λp:Int×Nat=>D.tup [.int p.2,.int p.1]) (λpre env=>∃x3 x4 x5,∃ss:List Int,env=[.sh (.lst r (cs.map D.int)),.sh (.int most),.ow (ss.map D.int),x3,x4,x5]/\(ss.length:Int)=most/\∀v∈ss,0<=v/\v<10^60+33) cs.zipIdx (λpre a post env e h=>?_) (λenv h=>?_)
   ⟨_,_,_,(jH most.toNat).map λ(k:Nat)=>gv k 40,by rw [fT];rfl,by simp;ext h0,λv hv=>by obtain ⟨k,_,rfl⟩:=cH.mp hv;exact uY _ _⟩
  .obtain ⟨x3,x4,x5,ss,rfl,hs,hv⟩:=h
   obtain ⟨ea,hp⟩:=Rg e
   obtain ⟨c,n⟩:=a
   have m1:=ny (n:Int) (show most≠0 by ext h0)
   have m2:=nI (n:Int) (show 0<most by ext h0)
   have m3:=ny (n:Int) (show (37:Int)≠0 by ext)
   have m4:=nI (n:Int) (show (0:Int)<37 by ext)
   walk_at "vc"
   generalize (n:Int)%most=j at *
   rw [sT 0 m1 (by ext hs m2)]
   walk_at "vc"
   rw [uW _ _ m3 (by lia)]
   walk_at "vc"
   have hj:jy (ss.map D.int).length j=some j.toNat:=by
    unfold jy
    rw [if_pos m1,aX,if_pos (by ext hs m2)]
   rw [hj]
   walk_at "vc"
   refine ⟨by walk_at "sc",by walk_at "sc",by walk_at "sc",?_⟩
   refine ⟨_,_,_,ss.set j.toNat (gv _ _),by rw [List.map_set],by rw [List.length_set];exact hs,λv zk=>?_⟩
   rcases List.mem_or_eq_of_mem_set zk with h | h
   .exact hv v h
   .rw [h];exact uY _ _
  .obtain ⟨x3,x4,x5,ss,rfl,hs,hv⟩:=h
   walk_at "vc"
   exact ⟨ss,rfl,hs,hv⟩
 obtain ⟨s,e,l,rfl,h⟩:=key
 exact ⟨l,e,h⟩
theorem b9o{at_ m:Int}{a:Row}(hm:0<=m/\m<10^60+33)(h1:-(10^46)<=at_/\at_<=10^46)(h2:-(10^46)<=a.1/\a.1<=10^46)(h3:-(10^30)<=a.2.2.2/\a.2.2.2<=10^30):
  ∃l w p s:Int,w9 [.int at_,.int m,a.d]=some (.sh (Row.d (l,l+w,p,s)))/\(at_<=l/\l<=at_+10^40)/\(0<=w/\w<=10^40)/\((-(10^45)<=p/\p<=10^45)\/p=a.at l)/\(-(10^30)<=s/\s<=10^30):=by
 have key:Wo (w9 [.int at_,.int m,a.d]) λo=>∃l w p s:Int,o=.sh (Row.d (l,l+w,p,s))/\(at_<=l/\l<=at_+10^40)/\(0<=w/\w<=10^40)/\((-(10^45)<=p/\p<=10^45)\/p=a.at l)/\(-(10^30)<=s/\s<=10^30):=by
  refine nU.mpr ?_
  unfold K6
  walk_at "v1"
  walk_at "st"
  refine Kr [0,0,1,1+m%7,m%10^40] (ny _ (by decide)) (nI _ (by decide)) λg hg=>?_
  have hg:0<=g/\g<=10^40:=by simp at hg;lia
  walk_at "v1"
  rw [uW _ _ (by decide) (by decide)]
  walk_at "v1"
  have q1:=uY m 61
  generalize gv m 61=m1 at *
  walk_at "st"
  refine Kr [0,1,m1%6,m1%10^40] (ny _ (by decide)) (nI _ (by decide)) λw hw=>?_
  have hw:0<=w/\w<=10^40:=by simp at hw;lia
  walk_at "v1"
  rw [uW _ _ (by decide) (by decide)]
  walk_at "v1"
  have q2:=uY m1 62
  generalize gv m1 62=m2 at *
  walk_at "st"
  refine EF (λd=>∃p:Int,d=.int p /\ -(10^45)<=p/\p<=10^45) (by simp) ?_ λd hd=>?_
  .walk_at "vc"
   simp [DivC,PowC,MulC,jS,LIM]
   lia
  obtain ⟨p,rfl,hp⟩:=hd
  walk_at "v1"
  refine EF (λd=>∃p:Int,d=.int p/\((-(10^45)<=p/\p<=10^45)\/p=a.at (at_+g))) (by simp) ?_ λd hd=>?_
  .have hmul:MulC a.2.2.2 (at_+g-a.1):=p8 (by ext h3) (by ext h3) (by ext h1 h2 hg) (by ext h1 h2 hg)
   rw [dA a]
   walk_at "vc"
   simp [hmul,Row.at,jS]
   lia
  obtain ⟨p',rfl,zt⟩:=hd
  walk_at "v1"
  rw [uW _ _ (by decide) (by decide)]
  walk_at "v1"
  have q3:=uY m2 63
  generalize gv m2 63=m3 at *
  walk_at "st"
  refine EF (λd=>∃s:Int,d=.int s /\ -(10^30)<=s/\s<=10^30) (by simp) ?_ λd hd=>?_
  .walk_at "vc"
   simp [DivC,PowC,MulC,jS,LIM]
   lia
  obtain ⟨s,rfl,hs⟩:=hd
  walk_at "vc"
  exact ⟨at_+g,w,p',s,rfl,by ext hg,hw,zt,hs⟩
 obtain ⟨o,e,l,w,p,s,rfl,h⟩:=key
 exact ⟨l,w,p,s,e,h⟩
def lW(r:Row):Prop:=(-(10^46)<=r.1/\r.1<=10^46)/\(-(10^46)<=r.2.1/\r.2.1<=10^46)/\(-(10^79)<=r.2.2.1/\r.2.2.1<=10^79)/\(-(10^30)<=r.2.2.2/\r.2.2.2<=10^30)
theorem b4Q{rs:List Row}{r:Row}(h:bL rs)(hr:r.1<=r.2.1)(hl:∀q∈rs,q.2.1<r.1):bL (rs++[r]):=by
 refine ⟨λq hq=>?_,gP.mpr ⟨h.2,pV _ _,λa ha b hb=>?_⟩⟩
 .rcases bT.mp hq with h' | h'
  .exact h.1 q h'
  .rw [bP.mp h'];exact hr
 .rw [bP.mp hb];exact hl a ha
theorem b7a{m many:Int}(hm:0<=m/\m<10^60+33)(h0:0<=many)(h1:many<=10):∃rs:List Row,rp [.int m,.int many]=some (.ow (rs.map Row.d))/\(rs.length:Int)=many/\bL rs/\∀r∈rs,lW r:=by
 have key:Wo (rp [.int m,.int many]) λo=>∃rs:List Row,o=.ow (rs.map Row.d)/\(rs.length:Int)=many/\bL rs/\∀r∈rs,lW r:=by
  refine mC.mpr ?_
  unfold Lj
  walk_at "v1"
  walk_at "st"
  refine EF (λd=>∃a:Int,d=.int a /\ -(10^45)<=a/\a<=10^45) (by simp) ?_ λd hd=>?_
  .walk_at "vc"
   simp [DivC,PowC,MulC,jS,LIM]
   lia
  obtain ⟨at0,rfl,ha0⟩:=hd
  walk_at "v1"
  refine ⟨by walk_at "sc",?_⟩
  refine b6c _ _ (λk env=>∃x6,∃(rs:List Row) (a:Row) (at_ m:Int),env=[.sh (.int m),.sh (.int many),.sh (.int at_),.ow (rs.map Row.d),.sh a.d,x6]/\rs.length=k/\bL rs/\(0<=m/\m<10^60+33)/\(-(10^45)<=at_/\at_<=10^45+k*10^41)/\(∀r∈rs,r.2.1<at_) /\
   (-(10^46)<=a.1/\a.1<=10^46)/\(-(10^30)<=a.2.2.2/\a.2.2.2<=10^30)/\(-(k*10^77)<=a.2.2.1/\a.2.2.1<=k*10^77)/\∀r∈rs,lW r) (λk env hk h=>?_) (λenv h=>?_)
   ⟨_,[],(0,0,0,1),at0,m,rfl,rfl,⟨λ_ z=>(nomatch z),.nil⟩,hm,by lia,λ_ z=>(nomatch z),by decide,by decide,by simp,λ_ z=>(nomatch z)⟩
  .obtain ⟨x6,rs,a,at_,m,rfl,hl,hA,hm,n9,bE,um,mO,HD,hb⟩:=h
   have Nk:(k:Int)<10:=by ext h1 hk
   walk_at "v1"
   rw [uW _ _ (by ext) (by ext Nk)]
   walk_at "v1"
   have q1:=uY m (70+(0+(k:Int)))
   generalize gv m (70+(0+(k:Int)))=m1 at *
   obtain ⟨l,w,p,s,er,fK,hw,hp,hs⟩:=b9o (at_:=at_) (a:=a) q1 (by lia) um mO
   rw [er]
   walk_at "vc"
   rw [dA]
   walk_at "vc"
   rw [aX]
   have ub:-((k+1)*10^77)<=p/\p<=(k+1)*10^77:=by
    rcases hp with h | h
    .lia
    .have:=qZ (a:=a.2.2.2) (b:=l-a.1) (A:=10^30) (B:=3*10^46) (by ext mO) (by ext mO) (by ext n9 um fK) (by lia)
     unfold Row.at at h
     lia
   refine ⟨by ext hl Nk,?_⟩
   refine ⟨_,rs++[(l,l+w,p,s)],(l,l+w,p,s),l+w+1,m1,by rw [eJ];rfl,by simp [hl],b4Q hA (by dsimp only;ext hw) (λq hq=>by have:=bE q hq;dsimp only;ext fK this),q1,by push_cast;lia,λr hr=>?_,by dsimp only;lia,hs,by push_cast;exact ub,λr hr=>?_⟩
   .rcases bT.mp hr with h | h
    .have:=bE r h;ext fK hw this
    .rw [bP.mp h];dsimp only;ext
   .rcases bT.mp hr with h | h
    .exact hb r h
    .rw [bP.mp h];unfold lW;dsimp only;lia
  .obtain ⟨x6,rs,a,at_,m,rfl,hl,hA,hm,n9,bE,um,mO,HD,hb⟩:=h
   walk_at "vc"
   exact ⟨rs,rfl,by ext h0 hl,hA,hb⟩
 obtain ⟨o,e,rs,rfl,h⟩:=key
 exact ⟨rs,e,h⟩
theorem JU{p s l x:Int}(h1:-(10^250)<=s)(h2:s<=10^250)(h3:-(10^250)<=x-l)(h4:x-l<=10^250):sV [.tup [.int p,.int s],.int l,.int x]=some (.sh (.int (p+s*(x-l)))):=by
 refine Wo.eq (nT.mpr ?_)
 unfold K7
 walk_at "go"
theorem EH{r:Row}{x:Int}(h1:-(10^250)<=r.2.2.2)(h2:r.2.2.2<=10^250)(h3:-(10^250)<=x-r.1)(h4:x-r.1<=10^250):sX [r.d,.int x]=some (.sh (.int (r.at x))):=by
 refine Wo.eq (mF.mpr ?_)
 unfold Lg
 rw [dA r]
 walk_at "vc"
 rw [JU h1 h2 h3 h4]
 walk_at "vc"
 rfl
theorem b9r{a b:Int}(h:0<b)(h2:b<=10^250):Bu [.int a,.int b]=some (.sh (.int (a/b))):=by
 refine Wo.eq (vD.mpr ?_)
 unfold JJ
 walk_at "go"
theorem HX{a b:Int}(h:0<b)(h2:b<=10^250):Bg [.int a,.int b]=some (.sh (.int (-(-a/b)))):=by
 refine Wo.eq (Mq.mpr ?_)
 unfold vH
 walk_at "go"
noncomputable def ip:Option (Int×Int)->D
 | none=>.aU
 | some (a,b)=>.tup [.int a,.int b]
noncomputable def vL(a b:Int):Option (Int×Int):=if a<=b then some (a,b) else none
theorem OJ(a b:Int):xt [.int a,.int b]=some (.sh (ip (vL a b))):=by
 refine Wo.eq (iC.mpr ?_)
 unfold Mn
 walk_at "go"
 all_goals simp [vL,ip, *]
noncomputable def nd(a s low high:Int):Option (Int×Int):=if 0<s then vL low (min high (low+(-a)/s)) else if s<0 then vL (max low (low + -((-a)/(-s)))) high else if 0<a then none else some (low,high)
theorem Ak{p1 s1 p2 s2 low high:Int}(h:-(10^250)<=s1-s2)(h2:s1-s2<=10^250):
  xp [.tup [.int p1,.int s1],.tup [.int p2,.int s2],.int low,.int high]=some (.sh (ip (nd (p1-p2) (s1-s2) low high))):=by
 refine Wo.eq (kO.mpr ?_)
 unfold LI
 walk_at "vc"
 refine ⟨λhs=>?_,λhs=>⟨λig=>?_,λig=>⟨λha=>?_,λha=>?_⟩⟩⟩
 .rw [b9r hs h2]
  walk_at "vc"
  rw [OJ]
  walk_at "vc"
  rw [nd,if_pos hs]
 .rw [HX (by ext ig) (by ext h)]
  walk_at "vc"
  rw [OJ]
  walk_at "vc"
  rw [nd,if_neg hs,if_pos ig]
 .rw [nd,if_neg hs,if_neg ig,if_pos ha];rfl
 .rw [nd,if_neg hs,if_neg ig,if_neg ha];rfl
theorem Kh{a s low high:Int}(zy:low<=high):match nd a s low high with
  | none=>∀x,low<=x->x<=high->0<a+s*(x-low)
  | some (f,l)=>(low<=f/\f<=l/\l<=high/\(f=low\/l=high))/\∀x,low<=x->x<=high->(a+s*(x-low)<=0↔f<=x/\x<=l):=by
 unfold nd
 by_cases hs:0<s
 .rw [if_pos hs]
  obtain ⟨f1,f2⟩:=Qo (a:=-a) hs
  generalize (-a)/s=q at *
  have key:∀x,a+s*(x-low)<=0↔x-low<=q:=λx=>by
   constructor
   .intro h
    rcases Im q (x-low) with h' | h'
    .have:=uQ (show q+1<=x-low by ext h') (AE hs)
     grind
    .exact h'
   .intro h
    have:=uQ h (AE hs)
    grind
  unfold vL
  by_cases hm:low<=min high (low+q)
  .rw [if_pos hm]
   refine ⟨⟨by ext,by ext hm,by ext,.inl rfl⟩,λx h1 h2=>?_⟩
   rw [key]
   ext h1 h2
  .rw [if_neg hm]
   intro x h1 h2
   have:=not_congr (key x)
   ext zy hm h1 this
 .rw [if_neg hs]
  by_cases ig:s<0
  .rw [if_pos ig]
   obtain ⟨f1,f2⟩:=Qo (a:=-a) (b:=-s) (by ext ig)
   generalize (-a)/(-s)=q at *
   have key:∀x,a+s*(x-low)<=0 ↔ -q<=x-low:=λx=>by
    constructor
    .intro h
     rcases Im (x-low) (-q) with h' | h'
     .have:=uQ (show x-low+1 <= -q by ext h') (show 0 <= -s by ext ig)
      grind
     .exact h'
    .intro h
     have:=uQ h (show 0 <= -s by ext ig)
     grind
   unfold vL
   by_cases hm:max low (low + -q)<=high
   .rw [if_pos hm]
    refine ⟨⟨by ext,by ext hm,by ext,.inr rfl⟩,λx h1 h2=>?_⟩
    rw [key]
    ext h1 h2
   .rw [if_neg hm]
    intro x h1 h2
    have:=not_congr (key x)
    ext zy hm h2 this
  .rw [if_neg ig]
   have:s=0:=by ext hs ig
   subst this
   by_cases ha:0<a
   .rw [if_pos ha];intro x _ _;ext ha
   .rw [if_neg ha];exact ⟨⟨by ext,by ext zy,by ext,.inl rfl⟩,λx h1 h2=>by ext ha h1 h2⟩
theorem D6{p s l f g:Int}(h1:-(10^250)<=s)(h2:s<=10^250)(h3:-(10^250)<=f-l)(h4:f-l<=10^250):tj [.tup [.int p,.int s],.int l,.int f,.int g]=some (.sh (.tup [.int f,.int g,.int (p+s*(f-l)),.int s])):=by
 refine Wo.eq (jO.mpr ?_)
 unfold L8
 walk_at "vc"
 rw [JU h1 h2 h3 h4]
 walk_at "go"
noncomputable def g0(p s l f g:Int):Row:=(f,g,p+s*(f-l),s)
noncomputable def oU(p1 s1 p2 s2 low high:Int):List Row:=match nd (p1-p2) (s1-s2) low high with
 | none=>[g0 p2 s2 low low high]
 | some (f,l)=>(if low<f then [g0 p2 s2 low low (f-1)] else [])++[g0 p1 s1 low f l]++(if l<high then [g0 p2 s2 low (l+1) high] else [])
theorem b9p{p1 s1 p2 s2 low high:Int}(zy:low<=high)(hw:high-low<=10^200)(h1:-(10^200)<=s1)(h2:s1<=10^200)(h3:-(10^200)<=s2)(h4:s2<=10^200):
  Ca [.tup [.int p1,.int s1],.tup [.int p2,.int s2],.int low,.int high]=some (.ow ((oU p1 s1 p2 s2 low high).map Row.d)):=by
 refine Wo.eq (jP.mpr ?_)
 unfold L7
 walk_at "vc"
 rw [Ak (by ext h1 h4) (by ext h2 h3)]
 have sp:=Kh (a:=p1-p2) (s:=s1-s2) (low:=low) (high:=high) zy
 unfold oU
 cases oX:nd (p1-p2) (s1-s2) low high with
 | none =>
  dsimp only [ip]
  walk_at "vc"
  rw [D6 (by ext h3) (by ext h4) (by ext) (by ext)]
  walk_at "vc"
  rfl
 | some fl =>
  obtain ⟨f,l⟩:=fl
  rw [oX] at sp
  obtain ⟨⟨q1,q2,q3,q4⟩,q5⟩:=sp
  dsimp only [ip]
  walk_at "vc"
  rw [D6 (by ext h3) (by ext h4) (by ext) (by ext),D6 (by ext h1) (by ext h2) (by ext q1) (by ext hw q2 q3),D6 (by ext h3) (by ext h4) (by ext q1 q2) (by ext hw q3)]
  walk_at "vc"
  refine ⟨λa=>?_,λa=>?_⟩<;>(repeat' first | apply c47 | intro _)<;>simp [*,Row.d,g0]
theorem JF(r:Row):tf [r.d]=some (.sh (.bl (decide (r.1=r.2.1)))):=by
 refine Wo.eq (kX.mpr ?_)
 unfold LS
 rw [dA r]
 walk_at "go"
noncomputable def fV(r:Row):Row:=if r.1=r.2.1 then (r.1,r.2.1,r.2.2.1,0) else r
theorem EI(r:Row):rm [r.d]=some (.sh (fV r).d):=by
 refine Wo.eq (rz.mpr ?_)
 unfold KC
 walk_at "vc"
 rw [JF]
 walk_at "vc"
 unfold fV
 refine ⟨λh=>?_,λh=>?_⟩
 .rw [if_pos h,dA]
  walk_at "vc"
  rfl
 .rw [if_neg h]
noncomputable def lL(a r:Row):Int:=if a.1=a.2.1 then r.2.2.1-a.2.2.1 else a.2.2.2
noncomputable def lN(a r:Row):List Row:=if r.2.2.1≠a.2.2.1+lL a r*(r.1-a.1) then [a,fV r] else if r.1=r.2.1\/r.2.2.2=lL a r then [(a.1,r.2.1,a.2.2.1,lL a r)] else
 [(a.1,r.1,a.2.2.1,lL a r),fV (r.1+1,r.2.1,r.2.2.1+r.2.2.2,r.2.2.2)]
theorem b4H{a r:Row}(ha:ar (3*10^140) a)(hr:ar (10^140) r):BY [a.d,r.d]=some (.ow ((lN a r).map Row.d)):=by
 refine Wo.eq (je.mpr ?_)
 unfold LX
 walk_at "v1"
 rw [JF]
 unfold ar at ha hr
 have CS:Wo (some (Sl.sh (D.bl (decide (a.1=a.2.1))))) λUk=>Wo (iP Uk.d) λb=>True:=⟨_,rfl,_,rfl,trivial⟩
 have vS:-(10^200)<=lL a r/\lL a r<=10^200:=by unfold lL;split<;>omega
 rw [dA a,dA r]
 walk_at "v1"
 have fin:∀{st:Int},st=lL a r->Wo (ai (cC (bZ (ae iS (av (bV 1) (eC (.int 2))) (aF 3 sV (af (aP (af (av (bV 0) (eC (.int 2))) (af (eV 2) aa))) (af (av (bV 0) (eC (.int 0))) (af (av (bV 1) (eC (.int 0))) aa))))))
   (az (bz (af (eV 0) (af (aF 1 rm (af (eV 1) aa)) aa)))) cR)
   (ai (cC (lY (cP (aF 1 tf (af (eV 1) aa))) (bZ (ae cX (av (bV 1) (eC (.int 3))) (eV 2))))
   (az (bz (af (aP (af (av (bV 0) (eC (.int 0))) (af (av (bV 1) (eC (.int 1))) (af (av (bV 0) (eC (.int 2))) (af (eV 2) aa))))) aa))) cR)
   (ai (aY 3 (aF 1 rm (af (aP (af (ae bb (av (bV 1) (eC (.int 0))) (eC (.int 1))) (af (av (bV 1) (eC (.int 1))) (af (ae bb (av (bV 1) (eC (.int 2))) (av (bV 1) (eC (.int 3)))) (af (av (bV 1) (eC (.int 3))) aa))))) aa)))
   (az (bz (af (aP (af (av (bV 0) (eC (.int 0))) (af (av (bV 1) (eC (.int 0))) (af (av (bV 0) (eC (.int 2))) (af (eV 2) aa))))) (af (eV 3) aa)))))) [.sh (.tup [.int a.1,.int a.2.1,.int a.2.2.1,.int a.2.2.2]),.sh (.tup [.int r.1,.int r.2.1,.int r.2.2.1,.int r.2.2.2]),.sh (.int st),.no])
   (aG λx=>x=.ow ((lN a r).map Row.d)):=by
  rintro st rfl
  walk_at "vc"
  rw [JU (by ext vS) (by ext vS) (by ext ha hr) (by ext ha hr),<-dA r,EI,JF]
  have e2:=EI (r.1+1,r.2.1,r.2.2.1+r.2.2.2,r.2.2.2)
  rw [dA] at e2
  dsimp only at e2
  rw [e2]
  walk_at "vc"
  unfold lN
  refine ⟨λh=>?_,λh=>⟨λh1=>?_,λh1=>⟨λh2=>?_,λh2=>?_⟩⟩⟩
  .rw [if_pos h];rfl
  .rw [if_neg (by simpa using h),if_pos (.inl h1)];rfl
  .rw [if_neg (by simpa using h),if_pos (.inr h2)];rfl
  .rw [if_neg (by simpa using h),if_neg (by simp [h1,h2])];rfl
 refine ⟨λh=>?_,λh=>?_⟩
 .exact Wo_seq.mp (fin (by unfold lL;rw [if_pos h]))
 .exact Wo_seq.mp (fin (by unfold lL;rw [if_neg h]))
theorem QW{a r:Row}(ha:q8 a)(hr:r.1<=r.2.1)(hn:r.1=a.2.1+1):(∀q∈lN a r,q8 q)/\aS sP (lN a r)/\(∀x c,Val (lN a r) x c↔(a.1<=x/\x<=a.2.1/\c=a.at x)\/(r.1<=x/\x<=r.2.1/\c=r.at x)) /\
  total (lN a r)=(a.2.1-a.1+1)+(r.2.1-r.1+1)/\(∃q,(lN a r).head?=some q/\q.1=a.1/\q.2.2.1=a.2.2.1)/\(∃q,(lN a r).getLast?=some q/\q.2.1=r.2.1)/\(lN a r).length<=2:=by
 obtain ⟨a0,a1,a2,a3⟩:=a
 obtain ⟨r0,r1,r2,r3⟩:=r
 unfold q8 at ha
 dsimp only at ha hr hn
 have dr:∀r:Row,r.1<=r.2.1->q8 (fV r)/\(fV r).1=r.1/\(fV r).2.1=r.2.1/\(fV r).2.2.1=r.2.2.1/\∀x,r.1<=x->x<=r.2.1->(fV r).at x=r.at x:=λr h=>by
  unfold fV
  split
  .rename_i e
   refine ⟨⟨by dsimp only;ext h,λ_=>rfl⟩,rfl,rfl,rfl,λx h1 h2=>?_⟩
   have:x=r.1:=by ext e h1 h2
   unfold Row.at
   dsimp only
   rw [this];simp
  .rename_i e
   exact ⟨⟨h,λz=>absurd z e⟩,rfl,rfl,rfl,λ_ _ _=>rfl⟩
 generalize hs:lL (a0,a1,a2,a3) (r0,r1,r2,r3)=s
 have zm:a0=a1->s=r2-a2:=λe=>by rw [<-hs];unfold lL;dsimp only;rw [if_pos e]
 have ig:a0≠a1->s=a3:=λe=>by rw [<-hs];unfold lL;dsimp only;rw [if_neg e]
 unfold lN
 dsimp only
 rw [hs]
 by_cases aW:r2≠a2+s*(r0-a0)
 .rw [if_pos aW]
  have NB:a0≠a1:=λe=>aW (by rw [zm e,hn,<-e];grind)
  have hs:=ig NB
  obtain ⟨p1,p2,p3,p4,p5⟩:=dr (r0,r1,r2,r3) hr
  dsimp only at p2 p3 p4 p5
  refine ⟨λq hq=>?_,⟨⟨by rw [p2];dsimp only;ext hn,λ_=>⟨by dsimp only;ext ha NB,?_⟩⟩,trivial⟩,λx c=>?_,?_,⟨_,rfl,rfl,rfl⟩,⟨_,rfl,p3⟩,by simp⟩
  .simp at hq
   rcases hq with rfl | rfl
   .exact ha
   .exact p1
  .rw [p4,p2]
   unfold Row.at
   dsimp only
   rw [<-hs];exact aW
  .rw [Val.two,p2,p3]
   constructor
   .rintro (h | ⟨h1,h2,h3⟩)
    .exact .inl h
    .exact .inr ⟨h1,h2,by rw [h3,p5 x h1 h2]⟩
   .rintro (h | ⟨h1,h2,h3⟩)
    .exact .inl h
    .exact .inr ⟨h1,h2,by rw [h3,p5 x h1 h2]⟩
  .unfold total
   simp [p2,p3]
 .have he:r2=a2+s*(r0-a0):=Classical.not_not.mp aW
  rw [if_neg aW]
  have va:∀x,a0<=x->x<=a1->a2+s*(x-a0)=a2+a3*(x-a0):=λx h1 h2=>by
   by_cases e:a0=a1
   .have:x=a0:=by ext h1 h2 e
    rw [this];simp
   .rw [ig e]
  by_cases hj:r0=r1\/r3=s
  .rw [if_pos hj]
   have vr:∀x,r0<=x->x<=r1->a2+s*(x-a0)=r2+r3*(x-r0):=λx h1 h2=>by
    have e1:a2+s*(x-a0)=r2+s*(x-r0):=by rw [he];grind
    rw [e1]
    rcases hj with e | e
    .have:x=r0:=by ext h1 h2 e
     rw [this];simp
    .rw [e]
   refine ⟨λq hq=>?_,trivial,λx c=>?_,?_,⟨_,rfl,rfl,rfl⟩,⟨_,rfl,rfl⟩,by simp⟩
   .simp at hq
    subst hq
    exact ⟨by dsimp only;ext ha hr hn,λz=>by dsimp only at z;ext ha hr hn z⟩
   .rw [Val.one]
    unfold Row.at
    dsimp only
    constructor
    .rintro ⟨h1,h2,h3⟩
     by_cases hx:x<=a1
     .exact .inl ⟨h1,hx,by rw [h3];exact va x h1 hx⟩
     .exact .inr ⟨by ext hn hx,h2,by rw [h3];exact vr x (by ext hn hx) h2⟩
    .rintro (⟨h1,h2,h3⟩ | ⟨h1,h2,h3⟩)
     .exact ⟨h1,by ext hr hn h2,by rw [h3];exact (va x h1 h2).symm⟩
     .exact ⟨by ext ha hn h1,h2,by rw [h3];exact (vr x h1 h2).symm⟩
   .unfold total
    simp
    ext hn
  .rw [if_neg hj]
   have XO:r0≠r1:=λe=>hj (.inl e)
   have XN:r3≠s:=λe=>hj (.inr e)
   obtain ⟨p1,p2,p3,p4,p5⟩:=dr (r0+1,r1,r2+r3,r3) (by dsimp only;ext hr XO)
   dsimp only at p2 p3 p4 p5
   have vp:∀x,Row.at (r0+1,r1,r2+r3,r3) x=r2+r3*(x-r0):=λx=>by unfold Row.at;dsimp only;grind
   refine ⟨λq hq=>?_,⟨⟨by rw [p2];dsimp only;ext,λ_=>⟨by dsimp only;ext ha hn,?_⟩⟩,trivial⟩,λx c=>?_,?_,⟨_,rfl,rfl,rfl⟩,⟨_,rfl,p3⟩,by simp⟩
   .simp at hq
    rcases hq with rfl | rfl
    .exact ⟨by dsimp only;ext ha hn,λz=>by dsimp only at z;ext ha hn z⟩
    .exact p1
   .rw [p4,p2]
    unfold Row.at
    dsimp only
    have:a2+s*(r0+1-a0)=r2+s:=by rw [he];grind
    rw [this]
    ext XN
   .rw [Val.two,p2,p3]
    unfold Row.at at vp p5 ⊢
    dsimp only at vp p5 ⊢
    constructor
    .rintro (⟨h1,h2,h3⟩ | ⟨h1,h2,h3⟩)
     .by_cases hx:x<=a1
      .exact .inl ⟨h1,hx,by rw [h3];exact va x h1 hx⟩
      .have:x=r0:=by ext hn h2 hx
       exact .inr ⟨by ext hn hx,by ext hr h2,by rw [h3,this,<-he];simp⟩
     .refine .inr ⟨by ext h1,h2,?_⟩
      rw [p5 x h1 h2,vp] at h3
      exact h3
    .rintro (⟨h1,h2,h3⟩ | ⟨h1,h2,h3⟩)
     .exact .inl ⟨h1,by ext hn h2,by rw [h3];exact (va x h1 h2).symm⟩
     .by_cases hx:x=r0
      .exact .inl ⟨by ext ha hn hx,by ext hx,by rw [h3,hx,<-he];simp⟩
      .refine .inr ⟨by ext h1 hx,h2,?_⟩
       rw [p5 x (by ext h1 hx) h2,vp]
       exact h3
   .unfold total
    simp [p2,p3]
    ext hn
theorem b26{a r:Row}(ha:ar (3*10^140) a/\(-(2*10^140)<=a.2.2.1/\a.2.2.1<=2*10^140))(hr:ar (10^140) r):∀q∈lN a r,ar (3*10^140) q/\(-(2*10^140)<=q.2.2.1/\q.2.2.1<=2*10^140):=by
 unfold ar at *
 have hs:-(3*10^140)<=lL a r/\lL a r<=3*10^140:=by unfold lL;split<;>omega
 have hp:∀z:Row,((fV z).1=z.1/\(fV z).2.1=z.2.1/\(fV z).2.2.1=z.2.2.1/\((fV z).2.2.2=z.2.2.2\/(fV z).2.2.2=0)):=λz=>by unfold fV;split<;>simp
 intro q hq
 unfold lN at hq
 split at hq
 .simp at hq
  rcases hq with rfl | rfl
  .exact ha
  .have:=hp r;ext hr this
 .split at hq
  .simp at hq
   subst hq
   dsimp only
   ext ha hr hs
  .simp at hq
   rcases hq with rfl | rfl
   .dsimp only;ext ha hr hs
   .have:=hp (r.1+1,r.2.1,r.2.2.1+r.2.2.2,r.2.2.2)
    dsimp only at this
    ext hr this
theorem b3P{r:Row}(h:r.1<=r.2.1):q8 (fV r)/\(fV r).1=r.1/\(fV r).2.1=r.2.1/\(fV r).2.2.1=r.2.2.1/\∀x,r.1<=x->x<=r.2.1->(fV r).at x=r.at x:=by
 unfold fV
 split
 .rename_i e
  refine ⟨⟨by dsimp only;ext h,λ_=>rfl⟩,rfl,rfl,rfl,λx h1 h2=>?_⟩
  have:x=r.1:=by ext e h1 h2
  unfold Row.at
  dsimp only
  rw [this];simp
 .rename_i e
  exact ⟨⟨h,λz=>absurd z e⟩,rfl,rfl,rfl,λ_ _ _=>rfl⟩
structure Laid(pre ms:List Row):Prop where
 canon:Canon ms
 val:∀x c,Val ms x c↔Val pre x c
 total:total ms=total pre
 last:∀a r,ms.getLast?=some a->pre.getLast?=some r->a.2.1=r.2.1
 none:ms=[]↔pre=[]
 len:ms.length<=pre.length
 bd:∀q∈ms,ar (3*10^140) q/\(-(2*10^140)<=q.2.2.1/\q.2.2.1<=2*10^140)
theorem Laid.append{pre ms:List Row}{r:Row}(h:Laid pre ms)(hr:r.1<=r.2.1)(hb:ar (10^140) r)(hf:∀a,ms.getLast?=some a->a.2.1<r.1/\a.2.1+1≠r.1):Laid (pre++[r]) (ms++[fV r]):=by
 obtain ⟨p1,p2,p3,p4,p5⟩:=b3P hr
 refine ⟨⟨λq hq=>?_,h.canon.2.snoc λa ha=>?_⟩,λx c=>?_,?_,λa q ha hq=>?_,by simp,by simp;exact h.len,λq hq=>?_⟩
 .rcases bT.mp hq with hq | hq
  .exact h.canon.1 q hq
  .rw [bP.mp hq];exact p1
 .have:=hf a ha
  exact ⟨by rw [p2];ext this,λz=>by rw [p2] at z;ext this z⟩
 .rw [Val.app,Val.app,h.val x c,Val.one,Val.one,p2,p3]
  constructor
  .rintro (h | ⟨h1,h2,h3⟩)
   .exact .inl h
   .exact .inr ⟨h1,h2,by rw [h3,p5 x h1 h2]⟩
  .rintro (h | ⟨h1,h2,h3⟩)
   .exact .inl h
   .exact .inr ⟨h1,h2,by rw [h3,p5 x h1 h2]⟩
 .rw [vh,vh,h.total]
  unfold My.total
  simp [p2,p3]
 .simp at ha hq
  subst ha hq
  exact p3
 .rcases bT.mp hq with hq | hq
  .exact h.bd q hq
  .rw [bP.mp hq]
   have:(fV r).2.2.2=r.2.2.2\/(fV r).2.2.2=0:=by unfold fV;split<;>simp
   unfold ar at *
   ext hb p2 p3 p4 this
theorem Laid.uS{pre ms:List Row}{a r:Row}(h:Laid pre (ms++[a]))(hr:r.1<=r.2.1)(hb:ar (10^140) r)(hn:a.2.1+1=r.1):Laid (pre++[r]) (ms++lN a r):=by
 obtain ⟨b1,b2,b3,b4,⟨q1,b5,b6,b7⟩,⟨q2,b8,b9⟩,b10⟩:=QW (h.canon.1 a (by simp)) hr hn.symm
 have aW:lN a r≠[]:=λz=>by rw [z] at b5;cases b5
 refine ⟨⟨λq hq=>?_,h.canon.2.left.append b2 λc d hc hd=>?_⟩,λx c=>?_,?_,λc q hc hq=>?_,by simp [aW],?_,λq hq=>?_⟩
 .rcases bT.mp hq with hq | hq
  .exact h.canon.1 q (by simp [hq])
  .exact b1 q hq
 .rw [b5] at hd
  cases hd
  have:=h.canon.2.mid c hc
  unfold sP at this ⊢
  rw [b6,b7]
  exact this
 .rw [Val.app,Val.app,Val.one,b3,<-h.val,Val.app,Val.one,or_assoc]
 .have e:=h.total
  rw [vh] at e
  rw [vh,vh,b4,<-e]
  unfold My.total
  simp
  ext
 .rw [List.getLast?_append,b8] at hc
  simp at hc hq
  subst hc hq
  exact b9
 .have:=h.len
  simp at this ⊢
  ext b10 this
 .rcases bT.mp hq with hq | hq
  .exact h.bd q (by simp [hq])
  .exact b26 (h.bd a (by simp)) hb q hq
theorem sM{rows:List Row}(ha:bL rows)(hb:∀r∈rows,ar (10^140) r)(hl:rows.length<=8000000){ro:Bool}:∃fs:List Row,lV [.lst ro (rows.map Row.d)]=some (.sh (.tup (fs.map Row.d)))/\Laid rows fs:=by
 have key:Wo (lV [.lst ro (rows.map Row.d)]) λs=>∃fs:List Row,s=.sh (.tup (fs.map Row.d))/\Laid rows fs:=by
  refine vC.mpr ?_
  unfold JK
  walk_at "vc"
  refine lQ Row.d (λpre env=>∃x2 x3,∃ms:List Row,env=[.sh (.lst ro (rows.map Row.d)),.ow (ms.map Row.d),x2,x3]/\Laid pre ms) rows (λpre r post env e h=>?_) (λenv h=>?_)
   ⟨_,_,[],rfl,⟨⟨λ_ z=>(nomatch z),trivial⟩,λ_ _=>eI,rfl,λ_ _ z=>(nomatch z),eI,bw _,λ_ z=>(nomatch z)⟩⟩
  .obtain ⟨x2,x3,ms,rfl,h⟩:=h
   have hr:r∈rows:=by rw [e];simp
   have mM:=ha.1 r hr
   have CT:=hb r hr
   have hlen:ms.length<=8000000:=fq h.len (fq (by rw [e];simp) hl)
   have jB:∀q,pre.getLast?=some q->q.2.1<r.1:=λq hq=>by
    have:=ha.2
    rw [e] at this
    exact (gP.mp this).2.2 q (N8 hq) r aZ
   rcases Ja ms with rfl | ⟨ns,a,e2⟩
   .walk_at "vc"
    simp only [AH,List.isEmpty_nil,Bool.not_true,qM,false_implies,true_implies,true_and]
    rw [EI]
    walk_at "vc"
    have:=h.append mM CT (λ_ z=>nomatch z)
    exact ⟨_,_,[fV r],rfl,this⟩
   .have e2:ms=ns++[a]:=by simpa using e2
    subst e2
    have zq:pre≠[]:=λz=>by have:=h.none.mpr z;simp at this
    obtain ⟨q,hq⟩:∃q,pre.getLast?=some q:=⟨pre.getLast zq,List.getLast?_eq_some_getLast zq⟩
    have mN:=h.last a q (by simp) hq
    have bE:=jB q hq
    walk_at "vc"
    have em:(jZ Row.d (ns++[a])).isEmpty=false:=by simp
    rw [em,eJ,eM,AH,DL.fR,dA a,dA r]
    walk_at "vc"
    refine ⟨λhe=>?_,λhe=>?_⟩
    .have ed:(jZ Row.d ns++[D.tup [D.int a.1,D.int a.2.1,D.int a.2.2.1,D.int a.2.2.2]])[(jZ Row.d ns++[D.tup [D.int a.1,D.int a.2.1,D.int a.2.2.1,D.int a.2.2.2]]).length-1]?=some (D.tup [D.int a.1,D.int a.2.1,D.int a.2.2.1,D.int a.2.2.2]):=by simp
     rw [ed,N7]
     walk_at "vc"
     rw [<-dA a,<-dA r,b4H (h.bd a (by simp)).1 CT]
     walk_at "vc"
     have hb2:=(QW (h.canon.1 a (by simp)) mM he.symm).2.2.2.2.2.2
     simp at hlen
     refine ⟨by decide,by simp;lia,_,_,ns++lN a r,by rw [eJ],h.uS mM CT he⟩
    .rw [<-dA a,<-dA r,EI]
     walk_at "vc"
     simp at hlen
     refine ⟨by simp;lia,_,_,ns++[a]++[fV r],by rw [eJ,eJ];rfl,h.append mM CT λc hc=>?_⟩
     simp at hc
     subst hc
     exact ⟨by ext mN bE,he⟩
  .obtain ⟨x2,x3,ms,rfl,h⟩:=h
   walk_at "vc"
   exact ⟨ms,rfl,h⟩
 obtain ⟨s,e,fs,rfl,h⟩:=key
 exact ⟨fs,e,h⟩
noncomputable def fap(a b:Row):Int:=if a.1≠b.1 then min a.1 b.1 else if a.2.2.1≠b.2.2.1 then a.1 else if a.2.2.2≠b.2.2.2 then a.1+1 else min a.2.1 b.2.1+1
noncomputable def fu:List Row->List Row->Option Int
 | [],[]=>none
 | [],b::_=>some b.1
 | a::_,[]=>some a.1
 | a::as,b::bs=>if a=b then fu as bs else some (fap a b)
theorem Canon.tail{r:Row}{rs:List Row}(h:Canon (r::rs)):Canon rs:=⟨λq hq=>h.1 q (br _ hq),h.2.tail⟩
theorem kN{r:Row}{rs:List Row}(h:Canon (r::rs)){y:Int}(hy:y<r.1):look (r::rs) y=none:=by
 have ha:=h.cL
 refine Lc λq hq=>.inl ?_
 rcases bq.mp hq with rfl | hq
 .exact hy
 .have:=(fC.mp ha.2).1 q hq
  have:=ha.1 r aZ
  lia
theorem jM{r:Row}{rs:List Row}{y:Int}(h1:r.1<=y)(h2:y<=r.2.1):look (r::rs) y=some (r.at y):=by
 rw [look,if_pos ⟨h1,h2⟩]
theorem BG{r:Row}{rs:List Row}{y:Int}(h:r.2.1<y):look (r::rs) y=look rs y:=by
 rw [look,if_neg (by ext h)]
theorem E8{r:Row}{rs:List Row}(h:Canon (r::rs)){y:Int}(hy:y<=r.2.1):look rs y=none:=by
 have ha:=h.cL
 refine Lc λq hq=>.inl ?_
 have:=(fC.mp ha.2).1 q hq
 ext hy this
theorem Rm{r:Row}{rs:List Row}(h:Canon (r::rs)):look (r::rs) (r.2.1+1)≠some (r.at (r.2.1+1))/\(r.1=r.2.1->look (r::rs) (r.2.1+1)=none):=by
 rw [BG (by ext)]
 cases rs with
 | nil=>exact ⟨λz=>(nomatch z),λ_=>rfl⟩
 | cons q qs =>
  have hf:sP r q:=h.2.1
  have hq:=h.tail.1 q aZ
  unfold sP at hf
  unfold q8 at hq
  by_cases hl:q.1=r.2.1+1
  .obtain ⟨g1,g2⟩:=hf.2 hl
   rw [jM (by ext hl) (by ext hq hl)]
   refine ⟨λz=>g2 ?_,λz=>absurd z (by ext g1)⟩
   have z:=cT z
   rw [<-hl] at z
   rw [<-z]
   unfold Row.at
   rw [v8,v7,AB]
  .rw [kN h.tail (by ext hf hl)]
   exact ⟨λz=>(nomatch z),λ_=>rfl⟩
theorem b6a{a b:Row}(h1:a.1=b.1)(h2:a.2.1=b.2.1)(h3:a.2.2.1=b.2.2.1)(h4:a.2.2.2=b.2.2.2):a=b:=Dg h1 (Dg h2 (Dg h3 h4))
theorem b4u{a b:Row}{as bs:List Row}(ha:Canon (a::as))(hb:Canon (b::bs))(aW:a≠b):look (a::as) (fap a b)≠look (b::bs) (fap a b)/\∀y,y<fap a b->look (a::as) y=look (b::bs) y:=by
 have oa:=ha.1 a aZ
 have ob:=hb.1 b aZ
 obtain ⟨na,Wp⟩:=Rm ha
 obtain ⟨nb,Wn⟩:=Rm hb
 unfold q8 at oa ob
 unfold fap
 by_cases h1:a.1=b.1
 .rw [if_neg (by simpa using h1)]
  by_cases h2:a.2.2.1=b.2.2.1
  .rw [if_neg (by simpa using h2)]
   by_cases h3:a.2.2.2=b.2.2.2
   .rw [if_neg (by simpa using h3)]
    have C':∀y,a.at y=b.at y:=λy=>by unfold Row.at;rw [h1,h2,h3]
    have h4:a.2.1≠b.2.1:=λz=>aW (b6a h1 z h2 h3)
    rcases Int.lt_or_lt_of_ne h4 with h | h
    .rw [show min a.2.1 b.2.1+1=a.2.1+1 by ext h]
     refine ⟨?_,λy hy=>?_⟩
     .rw [jM (r:=b) (by ext oa h1) (by ext h),<-C']
      exact na
     .by_cases hl:y<a.1
      .rw [kN ha hl,kN hb (by ext h1 hl)]
      .rw [jM (r:=a) (by ext hl) (by ext hy),jM (r:=b) (by ext h1 hl) (by ext h hy),C']
    .rw [show min a.2.1 b.2.1+1=b.2.1+1 by ext h]
     refine ⟨?_,λy hy=>?_⟩
     .rw [jM (r:=a) (by ext ob h1) (by ext h),C']
      exact λz=>nb z.symm
     .by_cases hl:y<a.1
      .rw [kN ha hl,kN hb (by ext h1 hl)]
      .rw [jM (r:=a) (by ext hl) (by ext h hy),jM (r:=b) (by ext h1 hl) (by ext hy),C']
   .rw [if_pos (by simpa using h3)]
    refine ⟨?_,λy hy=>?_⟩
    .by_cases sa:a.1=a.2.1
     .have vS:b.1<b.2.1:=by ext oa ob h3 sa
      have e:=Wp sa
      rw [<-sa] at e
      rw [e,jM (r:=b) (by ext h1) (by ext h1 vS)]
      exact λz=>(nomatch z)
     .by_cases sb:b.1=b.2.1
      .have e:=Wn sb
       rw [<-sb,<-h1] at e
       rw [e,jM (r:=a) (by ext) (by ext oa sa)]
       exact λz=>(nomatch z)
      .rw [jM (r:=a) (by ext) (by ext oa sa),jM (r:=b) (by ext h1) (by ext ob h1 sb)]
       intro z
       have z:=cT z
       unfold Row.at at z
       rw [<-h1,show a.1+1-a.1=1 by ext,v5,v5] at z
       ext h2 h3 z
    .by_cases hl:y<a.1
     .rw [kN ha hl,kN hb (by ext h1 hl)]
     .have:y=a.1:=by ext hy hl
      subst this
      rw [jM (r:=a) (by ext) (by ext oa),jM (r:=b) (by ext h1) (by ext ob h1)]
      unfold Row.at
      rw [<-h1,h2]
      simp
  .rw [if_pos (by simpa using h2)]
   refine ⟨?_,λy hy=>by rw [kN ha hy,kN hb (by ext h1 hy)]⟩
   rw [jM (r:=a) (by ext) (by ext oa),jM (r:=b) (by ext h1) (by ext ob h1)]
   intro z
   have z:=cT z
   unfold Row.at at z
   rw [<-h1,v8,v7,v7] at z
   ext h2 z
 .rw [if_pos (by simpa using h1)]
  rcases Int.lt_or_lt_of_ne h1 with h | h
  .rw [show min a.1 b.1=a.1 by ext h]
   refine ⟨?_,λy hy=>by rw [kN ha hy,kN hb (by ext h hy)]⟩
   rw [jM (r:=a) (by ext) (by ext oa),kN hb (by ext h)]
   exact λz=>(nomatch z)
  .rw [show min a.1 b.1=b.1 by ext h]
   refine ⟨?_,λy hy=>by rw [kN ha (by ext h hy),kN hb hy]⟩
   rw [jM (r:=b) (by ext) (by ext ob),kN ha (by ext h)]
   exact λz=>(nomatch z)
theorem mP:∀{A B:List Row},fu A B=none↔A=B
 | [],[]=>by simp [fu]
 | [],b::_=>by simp [fu]
 | a::_,[]=>by simp [fu]
 | a::as,b::bs=>by
  unfold fu
  by_cases h:a=b
  .rw [if_pos h,mP,h];simp
  .rw [if_neg h];simp [h]
theorem P':∀{A B:List Row},Canon A->Canon B->∀{x:Int},fu A B=some x->look A x≠look B x/\∀y,y<x->look A y=look B y
 | [],[],_,_,x,h=>by cases h
 | [],b::bs,_,hb,x,h=>by
  obtain rfl:=cT h
  have ob:=hb.1 b aZ
  refine ⟨?_,λy hy=>by rw [kN hb hy];rfl⟩
  rw [jM (bF _) ob.1]
  exact λz=>(nomatch z)
 | a::as,[],ha,_,x,h=>by
  obtain rfl:=cT h
  have oa:=ha.1 a aZ
  refine ⟨?_,λy hy=>by rw [kN ha hy];rfl⟩
  rw [jM (bF _) oa.1]
  exact λz=>(nomatch z)
 | a::as,b::bs,ha,hb,x,h=>by
  unfold fu at h
  by_cases e:a=b
  .subst e
   rw [if_pos rfl] at h
   obtain ⟨h1,h2⟩:=P' ha.tail hb.tail h
   have hx:a.2.1<x:=by
    rcases Im a.2.1 x with z | z
    .exact z
    .exact absurd (by rw [E8 ha z,E8 hb z]) h1
   refine ⟨by rw [BG hx,BG hx];exact h1,λy hy=>?_⟩
   by_cases hl:a.2.1<y
   .rw [BG hl,BG hl];exact h2 y hy
   .rw [look,look,E8 ha (by ext hl),E8 hb (by ext hl)]
  .rw [if_neg e] at h
   obtain rfl:=cT h
   exact b4u ha hb e
theorem b1k{A B:List Row}(ha:Canon A)(hb:Canon B)(h:∀x,look A x=look B x):A=B:=by
 cases e:fu A B with
 | none=>exact mP.mp e
 | some x=>exact absurd (h x) (P' ha hb e).1
structure Met where
 lo:Int
 hi:Int
 a:Row
 b:Row
noncomputable def bg:List Row->List Row->List Met
 | a::as,b::bs=>(if max a.1 b.1<=min a.2.1 b.2.1 then [⟨max a.1 b.1,min a.2.1 b.2.1,a,b⟩] else [])++(if a.2.1<b.2.1 then bg as (b::bs) else bg (a::as) bs)
 | _,_=>[]
termination_by as bs=>as.length+bs.length
theorem Bt{bs:List Row}:bg [] bs=[]:=by rw [bg];simp
theorem BH{as:List Row}:bg as []=[]:=by rw [bg];simp
theorem w4{a b:Row}{as bs:List Row}:bg (a::as) (b::bs)=(if max a.1 b.1<=min a.2.1 b.2.1 then [⟨max a.1 b.1,min a.2.1 b.2.1,a,b⟩] else [])++(if a.2.1<b.2.1 then bg as (b::bs) else bg (a::as) bs):=by rw [bg]
theorem lU{m:Met}:∀{n:Nat} {A B:List Row},A.length+B.length<=n->m∈bg A B->m.a∈A/\m.b∈B/\m.lo=max m.a.1 m.b.1/\m.hi=min m.a.2.1 m.b.2.1/\m.lo<=m.hi
 | n,[],B,_,h=>by rw [Bt] at h;cases h
 | n,a::as,[],_,h=>by rw [BH] at h;cases h
 | 0,a::as,b::bs,hn,_=>absurd hn (by simp)
 | n+1,a::as,b::bs,hn,h=>by
  rw [w4] at h
  rcases bT.mp h with h | h
  .split at h
   .simp at h;subst h;simp;lia
   .cases h
  .split at h
   .obtain ⟨h1,h2,h3⟩:=lU (n:=n) (by simp at hn ⊢;ext hn) h
    exact ⟨br _ h1,h2,h3⟩
   .obtain ⟨h1,h2,h3⟩:=lU (n:=n) (by simp at hn ⊢;ext hn) h
    exact ⟨h1,br _ h2,h3⟩
theorem Br:∀{n:Nat} {A B:List Row},A.length+B.length<=n->bL A->bL B->(bg A B).Pairwise λm k=>m.hi<k.lo
 | n,[],B,_,_,_=>by rw [Bt];exact .nil
 | n,a::as,[],_,_,_=>by rw [BH];exact .nil
 | 0,a::as,b::bs,hn,_,_=>absurd hn (by simp)
 | n+1,a::as,b::bs,hn,ha,hb=>by
  have ta:bL as:=⟨λq hq=>ha.1 q (br _ hq),(fC.mp ha.2).2⟩
  have tb:bL bs:=⟨λq hq=>hb.1 q (br _ hq),(fC.mp hb.2).2⟩
  rw [w4]
  refine gP.mpr ⟨?_,?_,λm hm k hk=>?_⟩
  .split<;>simp
  .split
   .exact Br (n:=n) (by simp at hn ⊢;ext hn) ta hb
   .exact Br (n:=n) (by simp at hn ⊢;ext hn) ha tb
  .have em:m.hi=min a.2.1 b.2.1:=by
    split at hm
    .simp at hm;subst hm;rfl
    .cases hm
   split at hk
   .obtain ⟨h1,h2,h3,_⟩:=lU (bw _) hk
    have:=(fC.mp ha.2).1 _ h1
    ext em h3 this
   .obtain ⟨h1,h2,h3,_⟩:=lU (bw _) hk
    have:=(fC.mp hb.2).1 _ h2
    ext em h3 this
theorem EU{x:Int}{a' b':Row}:∀{n:Nat} {A B:List Row},A.length+B.length<=n->bL A->bL B->a'∈A->b'∈B->a'.1<=x->x<=a'.2.1->b'.1<=x->x<=b'.2.1->∃m∈bg A B,m.a=a'/\m.b=b'/\m.lo<=x/\x<=m.hi
 | n,[],B,_,_,_,h,_,_,_,_,_=>by cases h
 | n,a::as,[],_,_,_,_,h,_,_,_,_=>by cases h
 | 0,a::as,b::bs,hn,_,_,_,_,_,_,_,_=>absurd hn (by simp)
 | n+1,a::as,b::bs,hn,ha,hb,h1,h2,x1,x2,x3,x4=>by
  have ta:bL as:=⟨λq hq=>ha.1 q (br _ hq),(fC.mp ha.2).2⟩
  have tb:bL bs:=⟨λq hq=>hb.1 q (br _ hq),(fC.mp hb.2).2⟩
  rw [w4]
  by_cases hh:a'=a/\b'=b
  .obtain ⟨rfl,rfl⟩:=hh
   refine ⟨⟨max a'.1 b'.1,min a'.2.1 b'.2.1,a',b'⟩,?_,rfl,rfl,by dsimp only;ext x1 x3,by dsimp only;ext x2 x4⟩
   rw [if_pos (by ext x1 x2 x3 x4)];simp
  .have rest:∃m∈(if a.2.1<b.2.1 then bg as (b::bs) else bg (a::as) bs),m.a=a'/\m.b=b'/\m.lo<=x/\x<=m.hi:=by
    split
    .rename_i bE
     have nj:a'∈as:=by
      rcases bq.mp h1 with e | e
      .rcases bq.mp h2 with e2 | e2
       .exact absurd ⟨e,e2⟩ hh
       .have:=(fC.mp hb.2).1 _ e2
        subst e;ext _ x2 x3 this bE
      .exact e
     exact EU (n:=n) (by simp at hn ⊢;ext hn) ta hb nj h2 x1 x2 x3 x4
    .rename_i bE
     have zZ:b'∈bs:=by
      rcases bq.mp h2 with e | e
      .rcases bq.mp h1 with e2 | e2
       .exact absurd ⟨e2,e⟩ hh
       .have:=(fC.mp ha.2).1 _ e2
        subst e;ext _ x1 x4 this bE
      .exact e
     exact EU (n:=n) (by simp at hn ⊢;ext hn) ha tb h1 zZ x1 x2 x3 x4
   obtain ⟨m,hm,k⟩:=rest
   exact ⟨m,fQ _ hm,k⟩
theorem EW:∀{n:Nat} {A B:List Row},A.length+B.length<=n->(bg A B).length<=A.length+B.length
 | n,[],B,_=>by rw [Bt];simp
 | n,a::as,[],_=>by rw [BH];simp
 | 0,a::as,b::bs,hn=>absurd hn (by simp)
 | n+1,a::as,b::bs,hn=>by
  rw [w4,cM]
  have h1:(if max a.1 b.1<=min a.2.1 b.2.1 then [(⟨max a.1 b.1,min a.2.1 b.2.1,a,b⟩:Met)] else []).length<=1:=by split<;>simp
  by_cases hc:a.2.1<b.2.1
  .have:=EW (n:=n) (A:=as) (B:=b::bs) (by simp at hn ⊢;ext hn)
   rw [if_pos hc]
   simp at this ⊢;ext h1 this
  .have:=EW (n:=n) (A:=a::as) (B:=bs) (by simp at hn ⊢;ext hn)
   rw [if_neg hc]
   simp at this ⊢;ext h1 this
theorem b37{A B:List Row}(ha:bL A)(hb:bL B)(g:Met->Row)(hg:∀m,(g m).1=m.lo/\(g m).2.1=m.hi)(f:Int->Int->Int)(hf:∀m∈bg A B,∀x,(g m).at x=f (m.a.at x) (m.b.at x)):
  bL ((bg A B).map g)/\∀x c,Val ((bg A B).map g) x c↔∃p q,Val A x p/\Val B x q/\c=f p q:=by
 refine ⟨⟨λr hr=>?_,?_⟩,λx c=>⟨λ⟨r,hr,h1,h2,h3⟩=>?_,λ⟨p,q,⟨a,HE,a1,a2,a3⟩,⟨b,kq,b1,b2,b3⟩,e⟩=>?_⟩⟩
 .obtain ⟨m,hm,rfl⟩:=cH.mp hr
  have:=lU (bw _) hm
  have:=hg m
  lia
 .rw [pf]
  refine (Br (bw _) ha hb).imp λ{m k} h=>?_
  have:=hg m;have:=hg k;lia
 .obtain ⟨m,hm,rfl⟩:=cH.mp hr
  obtain ⟨k1,k2,k3,k4,k5⟩:=lU (bw _) hm
  obtain ⟨g1,g2⟩:=hg m
  rw [hf m hm] at h3
  exact ⟨_,_,⟨m.a,k1,by ext h1 k3 g1,by ext h2 k4 g2,rfl⟩,⟨m.b,k2,by ext h1 k3 g1,by ext h2 k4 g2,rfl⟩,h3⟩
 .obtain ⟨m,hm,rfl,rfl,m1,m2⟩:=EU (x:=x) (bw _) ha hb HE kq a1 a2 b1 b2
  obtain ⟨g1,g2⟩:=hg m
  exact ⟨g m,cH.mpr ⟨m,hm,rfl⟩,by ext m1 g1,by ext m2 g2,by rw [hf m hm,e,a3,b3]⟩
theorem b4x(A B:List Row):cX (.tup (A.map Row.d)) (.tup (B.map Row.d))=some (.sh (.bl (decide (A=B)))):=by
 unfold cX
 rw [b60 (n:=7) (enc:=Row.d) (λx y=>b61 x y)]
 rfl
theorem Ke{rs:List Row}(h:bL rs){x:Int}{o:Option Int}(k:∀c,Val rs x c↔o=some c):look rs x=o:=by
 cases o with
 | some c=>exact (oD h).mpr ((k c).mpr rfl)
 | none =>
  cases e:look rs x with
  | none=>rfl
  | some c=>exact nomatch (k c).mp ((oD h).mp e)
theorem u7{rs:List Row}(h:bL rs){x c:Int}:Val rs x c↔look rs x=some c:=(oD h).symm
theorem b4a{A:List Row}(ha:bL A)(g:Row->Row)(hg:∀r,(g r).1=r.1/\(g r).2.1=r.2.1)(f:Int->Int)(hf:∀r x,(g r).at x=f (r.at x)):
  bL (A.map g)/\∀x c,Val (A.map g) x c↔(look A x).map f=some c:=by
 refine ⟨⟨λr hr=>?_,?_⟩,λx c=>?_⟩
 .obtain ⟨q,hq,rfl⟩:=cH.mp hr
  have:=hg q;have:=ha.1 q hq;lia
 .rw [pf]
  refine ha.2.imp λ{a b} h=>?_
  have:=hg a;have:=hg b;lia
 .constructor
  .rintro ⟨r,hr,h1,h2,h3⟩
   obtain ⟨q,hq,rfl⟩:=cH.mp hr
   have:=hg q
   rw [lS ha hq (by ext h1 this) (by ext h2 this),h3,hf];rfl
  .intro h
   obtain ⟨p,e,rfl⟩:=wy.mp h
   obtain ⟨q,hq,h1,h2,rfl⟩:=rh e
   have:=hg q
   exact ⟨g q,cH.mpr ⟨q,hq,rfl⟩,by ext h1 this,by ext h2 this,by rw [hf]⟩
noncomputable def sL(r:Row)(x:Int):D:=.tup [.int (r.at x),.int r.2.2.2]
theorem Eg(r:Row)(x:Int):sL r x=.tup [.int (r.at x),.int r.2.2.2]:=rfl
noncomputable def Met.d(m:Met):D:=.tup [.int m.lo,.int m.hi,sL m.a m.lo,sL m.b m.lo]
theorem OZ(m:Met):Met.d m=.tup [.int m.lo,.int m.hi,sL m.a m.lo,sL m.b m.lo]:=rfl
theorem Pl{r:Row}{x:Int}(h1:-(10^250)<=r.2.2.2)(h2:r.2.2.2<=10^250)(h3:-(10^250)<=x-r.1)(h4:x-r.1<=10^250):xo [r.d,.int x]=some (.sh (sL r x)):=by
 refine Wo.eq (kP.mpr ?_)
 unfold LH
 walk_at "vc"
 rw [EH h1 h2 h3 h4,dA]
 walk_at "vc"
 rfl
theorem OI{A B:List Row}(ha:∀r∈A,ar (10^200) r)(hb:∀r∈B,ar (10^200) r)(l1:A.length<=400000)(l2:B.length<=400000):wX [.tup (A.map Row.d),.tup (B.map Row.d)]=some (.ow ((bg A B).map Met.d)):=by
 refine Wo.eq (Cb.mpr ?_)
 unfold Jz
 walk_at "v1"
 rw [QJ]
 refine E9 (λn env=>∃x5 x6 x7 x8,∃(f s:Nat) (ms:List Met),env=[.sh (.tup (A.map Row.d)),.sh (.tup (B.map Row.d)),.ow (ms.map Met.d),.sh (.int f),.sh (.int s),x5,x6,x7,x8]/\n=(A.length-f)+(B.length-s)/\f<=A.length/\s<=B.length/\ms.length<=f+s/\ms++bg (A.drop f) (B.drop s)=bg A B) (λn env h=>?_) _ (A.length+B.length) (show A.length+B.length<1000000 by ext l1 l2) ⟨_,_,_,_,0,0,[],rfl,by simp,by simp,by simp,by simp,rfl⟩
 obtain ⟨x5,x6,x7,x8,f,s,ms,rfl,rfl,hf,hs,uf,e⟩:=h
 walk_at "v1"
 rw [aX,aX]
 refine ⟨λh1=>⟨λh2=>?_,λh2=>?_⟩,λh1=>?_⟩
 .have nj:f<A.length:=by ext h1
  have zZ:s<B.length:=by ext h2
  have d1:A.drop f=A[f]::A.drop (f+1):=nG nj
  have d2:B.drop s=B[s]::B.drop (s+1):=nG zZ
  have b1:=ha A[f] (qR nj)
  have b2:=hb B[s] (qR zZ)
  rw [QL nj,QL zZ]
  generalize A[f]=a at *
  generalize B[s]=b at *
  rw [d1,d2,w4] at e
  unfold ar at b1 b2
  have ea:=Pl (r:=a) (x:=max a.1 b.1) (by ext b1) (by ext b1) (by ext) (by ext b1 b2)
  have eb:=Pl (r:=b) (x:=max a.1 b.1) (by ext b2) (by ext b2) (by ext) (by ext b1 b2)
  rw [dA] at ea eb
  rw [dA,dA]
  walk_at "v1"
  rw [a3S]
  walk_at "v1"
  rw [ea,eb]
  walk_at "v1"
  rw [aX]
  refine ⟨λhc=>⟨by ext l1 l2 uf h1 h2,?_⟩,λhc=>?_⟩
  .rw [if_pos hc] at e
   rw [a3S]
   walk_at "vc"
   refine ⟨λh3=>?_,λh3=>?_⟩
   .rw [if_pos h3,<-d2] at e
    exact ⟨(A.length-(f+1))+(B.length-s),by ext h1,_,_,_,_,f+1,s,ms++[⟨max a.1 b.1,min a.2.1 b.2.1,a,b⟩],by rw [eJ];rfl,rfl,by ext h1,hs,by simp;ext uf,by rw [fP];exact e⟩
   .rw [if_neg h3,<-d1] at e
    exact ⟨(A.length-f)+(B.length-(s+1)),by ext h2,_,_,_,_,f,s+1,ms++[⟨max a.1 b.1,min a.2.1 b.2.1,a,b⟩],by rw [eJ];rfl,rfl,hf,by ext h2,by simp;ext uf,by rw [fP];exact e⟩
  .rw [if_neg hc,IM] at e
   rw [a3S]
   walk_at "vc"
   refine ⟨λh3=>?_,λh3=>?_⟩
   .rw [if_pos h3,<-d2] at e
    exact ⟨(A.length-(f+1))+(B.length-s),by ext h1,_,_,_,_,f+1,s,ms,rfl,rfl,by ext h1,hs,by ext uf,e⟩
   .rw [if_neg h3,<-d1] at e
    exact ⟨(A.length-f)+(B.length-(s+1)),by ext h2,_,_,_,_,f,s+1,ms,rfl,rfl,hf,by ext h2,by ext uf,e⟩
 .have:B.drop s=[]:=sC (by ext h2)
  rw [this,BH,oh] at e
  rw [e]
 .have:A.drop f=[]:=sC (by ext h1)
  rw [this,Bt,oh] at e
  rw [e]
noncomputable abbrev Span:=Int×Int
def dP(ss:List Span)(x:Int):Prop:=∃s∈ss,s.1<=x/\x<=s.2
noncomputable def Span.d(s:Span):D:=.tup [.int s.1,.int s.2]
theorem wR(s:Span):Span.d s=.tup [.int s.1,.int s.2]:=rfl
structure aV(pre:List Row)(ss:List Span):Prop where
 ok:∀s∈ss,s.1<=s.2
 apart:ss.Pairwise λa b=>a.2+1<b.1
 gO:∀x,dP ss x↔∃r∈pre,r.1<=x/\x<=r.2.1
 last:ss.getLast?.map (·.2)=pre.getLast?.map (·.2.1)
 head:ss.head?.map (·.1)=pre.head?.map (·.1)
 sum:(ss.map λs=>s.2-s.1+1).sum=total pre
 sub:∀r∈pre,∃s∈ss,s.1<=r.1/\r.2.1<=s.2
 len:ss.length<=pre.length
 ends:∀s∈ss,(∃r∈pre,r.1=s.1)/\∃r∈pre,r.2.1=s.2
theorem aV.nil:aV [] []:=⟨λ_ z=>(nomatch z),.nil,λx=>⟨λ⟨_,z,_⟩=>(nomatch z),λ⟨_,z,_⟩=>(nomatch z)⟩,rfl,rfl,rfl,λ_ z=>(nomatch z),bw _,λ_ z=>(nomatch z)⟩
theorem dP.app{a b:List Span}{x:Int}:dP (a++b) x↔dP a x\/dP b x:=by
 unfold dP
 constructor
 .rintro ⟨s,hs,h⟩
  rcases bT.mp hs with hs | hs
  .exact .inl ⟨s,hs,h⟩
  .exact .inr ⟨s,hs,h⟩
 .rintro (⟨s,hs,h⟩ | ⟨s,hs,h⟩)
  .exact ⟨s,gp _ hs,h⟩
  .exact ⟨s,fQ _ hs,h⟩
theorem dP.one{s:Span}{x:Int}:dP [s] x↔s.1<=x/\x<=s.2:=by unfold dP;simp
theorem P9{pre:List Row}{r:Row}{x:Int}:(∃q∈pre++[r],q.1<=x/\x<=q.2.1)↔(∃q∈pre,q.1<=x/\x<=q.2.1)\/(r.1<=x/\x<=r.2.1):=by
 constructor
 .rintro ⟨q,hq,h⟩
  rcases bT.mp hq with hq | hq
  .exact .inl ⟨q,hq,h⟩
  .rw [bP.mp hq] at h;exact .inr h
 .rintro (⟨q,hq,h⟩ | h)
  .exact ⟨q,gp _ hq,h⟩
  .exact ⟨r,by simp,h⟩
theorem aV.more{pre:List Row}{ss:List Span}{r:Row}(h:aV pre ss)(hr:r.1<=r.2.1)(hf:∀a,ss.getLast?=some a->a.2+1<r.1):aV (pre++[r]) (ss++[(r.1,r.2.1)]):=by
 have hb:∀s∈ss,s.2+1<r.1:=λs hs=>by
  rcases Ja ss with rfl | ⟨ts,t,e⟩
  .cases hs
  .have e:ss=ts++[t]:=by simpa using e
   subst e
   have h1:=hf t (by simp)
   rcases bT.mp hs with hs | hs
   .have:=(gP.mp h.apart).2.2 s hs t (by simp)
    have:=h.ok t (by simp)
    omega
   .rw [bP.mp hs];exact h1
 refine ⟨λs hs=>?_,gP.mpr ⟨h.apart,pV _ _,λa ha b kq=>?_⟩,λx=>?_,by simp,?_,?_,λq hq=>?_,by have:=h.len;simp;ext this,λs hs=>?_⟩
 .rcases bT.mp hs with hs | hs
  .exact h.ok s hs
  .rw [bP.mp hs];exact hr
 .rw [bP.mp kq];exact hb a ha
 .rw [dP.app,dP.one,P9,h.gO]
 .have:=h.head
  cases ss with
  | nil=>cases pre with
   | nil=>rfl
   | cons q qs=>simp at this
  | cons s ts=>cases pre with
   | nil=>simp at this
   | cons q qs=>simpa using this
 .rw [eJ,uC,h.sum,vh];unfold total;simp
 .rcases bT.mp hq with hq | hq
  .obtain ⟨s,hs,k⟩:=h.sub q hq
   exact ⟨s,gp _ hs,k⟩
  .rw [bP.mp hq];exact ⟨_,fQ _ aZ,bF _,bF _⟩
 .rcases bT.mp hs with hs | hs
  .obtain ⟨⟨a,ha,e1⟩,⟨b,hb,e2⟩⟩:=h.ends s hs
   exact ⟨⟨a,gp _ ha,e1⟩,⟨b,gp _ hb,e2⟩⟩
  .rw [bP.mp hs];exact ⟨⟨r,by simp,rfl⟩,⟨r,by simp,rfl⟩⟩
theorem aV.glue{pre:List Row}{ss:List Span}{s:Span}{r:Row}(h:aV pre (ss++[s]))(hr:r.1<=r.2.1)(hn:s.2+1=r.1):aV (pre++[r]) (ss++[(s.1,r.2.1)]):=by
 have hs:=h.ok s (by simp)
 have hp:=(gP.mp h.apart)
 refine ⟨λt ht=>?_,gP.mpr ⟨hp.1,pV _ _,λa ha b kq=>?_⟩,λx=>?_,by simp,?_,?_,λq hq=>?_,by have:=h.len;simp at this ⊢;ext this,λt ht=>?_⟩
 .rcases bT.mp ht with ht | ht
  .exact h.ok t (by simp [ht])
  .rw [bP.mp ht];show s.1<=r.2.1;ext hr hn hs
 .rw [bP.mp kq];exact hp.2.2 a ha s (by simp)
 .have:=h.gO x
  rw [dP.app,dP.one] at this ⊢
  rw [P9,<-this]
  dsimp only
  constructor
  .rintro (h | h)
   .exact .inl (.inl h)
   .by_cases hx:x<=s.2
    .exact .inl (.inr ⟨h.1,hx⟩)
    .exact .inr ⟨by ext hn hx,h.2⟩
  .rintro ((h | h) | h)
   .exact .inl h
   .exact .inr ⟨h.1,by ext hr hn h⟩
   .exact .inr ⟨by ext hn hs h,h.2⟩
 .have:=h.head
  cases pre with
  | nil=>cases ss<;>simp at this
  | cons q qs=>cases ss with
   | nil=>simpa using this
   | cons t ts=>simpa using this
 .have:=h.sum
  rw [eJ,uC] at this ⊢
  rw [vh,<-this]
  unfold total
  simp
  ext hn
 .rcases bT.mp hq with hq | hq
  .obtain ⟨t,ht,k1,k2⟩:=h.sub q hq
   rcases bT.mp ht with ht | ht
   .exact ⟨t,gp _ ht,k1,k2⟩
   .rw [bP.mp ht] at k1 k2
    exact ⟨_,fQ _ aZ,k1,by dsimp only;ext hr hn k2⟩
  .rw [bP.mp hq];exact ⟨_,fQ _ aZ,by dsimp only;ext hn hs,bF _⟩
 .rcases bT.mp ht with ht | ht
  .obtain ⟨⟨a,ha,e1⟩,⟨b,hb,e2⟩⟩:=h.ends t (by simp [ht])
   exact ⟨⟨a,gp _ ha,e1⟩,⟨b,gp _ hb,e2⟩⟩
  .rw [bP.mp ht]
   obtain ⟨⟨a,ha,e1⟩,_⟩:=h.ends s (by simp)
   exact ⟨⟨a,gp _ ha,e1⟩,⟨r,by simp,rfl⟩⟩
theorem Kw{rs:List Row}(ha:bL rs)(hl:rs.length<=8000000):∃ss:List Span,sY [.tup (rs.map Row.d)]=some (.sh (.tup (ss.map Span.d)))/\aV rs ss:=by
 have key:Wo (sY [.tup (rs.map Row.d)]) λs=>∃ss:List Span,s=.sh (.tup (ss.map Span.d))/\aV rs ss:=by
  refine mz.mpr ?_
  unfold Lk
  walk_at "vc"
  refine lQ Row.d (λpre env=>∃x2 x3,∃ss:List Span,env=[.sh (.tup (rs.map Row.d)),.ow (ss.map Span.d),x2,x3]/\aV pre ss) rs (λpre r post env e h=>?_) (λenv h=>?_) ⟨_,_,[],rfl,aV.nil⟩
  .obtain ⟨x2,x3,ss,rfl,h⟩:=h
   have hr:r∈rs:=by rw [e];simp
   have mM:=ha.1 r hr
   have hlen:ss.length<=8000000:=fq h.len (fq (by rw [e];simp) hl)
   rcases Ja ss with rfl | ⟨ts,a,e2⟩
   .rw [dA r]
    walk_at "vc"
    simp only [AH,List.isEmpty_nil,Bool.not_true,qM,false_implies,true_implies,true_and]
    walk_at "vc"
    exact ⟨_,_,[(r.1,r.2.1)],rfl,h.more mM (λ_ z=>nomatch z)⟩
   .have e2:ss=ts++[a]:=by simpa using e2
    subst e2
    have bE:a.2<r.1:=by
     have kn:=h.last
     cases hq:pre.getLast? with
     | none=>rw [hq] at kn;simp at kn
     | some q =>
      rw [hq] at kn
      simp at kn
      have:=ha.2
      rw [e] at this
      have:=(gP.mp this).2.2 q (N8 hq) r aZ
      ext kn this
    walk_at "vc"
    have em:(jZ Span.d (ts++[a])).isEmpty=false:=by simp
    rw [em,eJ,eM,AH,DL.fR,wR a,dA r]
    walk_at "vc"
    simp at hlen
    refine ⟨λhe=>?_,λhe=>?_⟩
    .have ed:(jZ Span.d ts++[D.tup [D.int a.1,D.int a.2]])[(jZ Span.d ts++[D.tup [D.int a.1,D.int a.2]]).length-1]?=some (D.tup [D.int a.1,D.int a.2]):=by simp
     rw [ed,N7]
     walk_at "vc"
     refine ⟨by decide,by simp;lia,_,_,ts++[(a.1,r.2.1)],by rw [eJ];rfl,h.glue mM he⟩
    .refine ⟨by simp;lia,_,_,ts++[a]++[(r.1,r.2.1)],by rw [eJ,eJ];rfl,h.more mM λc hc=>?_⟩
     simp at hc
     subst hc
     ext bE he
  .obtain ⟨x2,x3,ss,rfl,h⟩:=h
   walk_at "vc"
   exact ⟨ss,rfl,h⟩
 obtain ⟨s,e,fs,rfl,h⟩:=key
 exact ⟨fs,e,h⟩
noncomputable def iT(r:Row)(lo hi:Int):Row:=(lo,hi,r.at lo,r.2.2.2)
theorem Bl{r:Row}{lo hi x:Int}:(iT r lo hi).at x=r.at x:=by unfold iT Row.at;dsimp only;grind
def nW(ss:List Span):Prop:=(∀s∈ss,s.1<=s.2)/\ss.Pairwise λa b=>a.2<b.1
noncomputable def lK(r:Row)(low:Int):List Row:=if low<=r.2.1 then [iT r low r.2.1] else []
noncomputable def my(r:Row)(low to:Int):List Row:=if low<to then [iT r low (to-1)] else []
noncomputable def bS(r:Row)(low:Int):List Span->List Row×List Span
 | []=>(lK r low,[])
 | s::ss=>if s.1<=r.2.1 then
   (if s.2>r.2.1 then (my r low s.1++lK r (max low (s.2+1)),s::ss) else (my r low s.1++(bS r (max low (s.2+1)) ss).1,(bS r (max low (s.2+1)) ss).2))
  else (lK r low,s::ss)
noncomputable def cj:List Row->List Span->List Row
 | [],_=>[]
 | r::rs,ss=>(bS r r.1 ss).1++cj rs (bS r r.1 ss).2
theorem Q3{r:Row}:∀{ss:List Span} {low:Int},r.1<=low->nW ss ->
  (∀q∈(bS r low ss).1,low<=q.1/\q.1<=q.2.1/\q.2.1<=r.2.1/\∀x,q.at x=r.at x)/\((bS r low ss).1.Pairwise λa b=>a.2.1<b.1) /\
  (∀x,(∃q∈(bS r low ss).1,q.1<=x/\x<=q.2.1)↔low<=x/\x<=r.2.1/\¬dP ss x)/\(bS r low ss).2 <:+ ss/\(∀x,r.2.1<x->(dP ss x↔dP (bS r low ss).2 x))/\(bS r low ss).1.length+(bS r low ss).2.length<=ss.length+1
 | [],low,hl,_=>by
  unfold bS lK
  dsimp only
  have hI:∀x,¬dP [] x:=λx ⟨s,h,_⟩=>nomatch h
  split
  .refine ⟨λq hq=>?_,pV _ _,λx=>?_,uM _,λ_ _=>eI,by simp⟩
   .simp at hq;subst hq;exact ⟨bF _,by unfold iT;dsimp only;lia,bF _,λx=>Bl⟩
   .simp [iT,hI]
  .refine ⟨λq hq=>(nomatch hq),.nil,λx=>?_,uM _,λ_ _=>eI,by simp⟩
   simp;lia
 | s::ss,low,hl,hs=>by
  have zm:=hs.1 s aZ
  have ht:nW ss:=⟨λq hq=>hs.1 q (br _ hq),(fC.mp hs.2).2⟩
  have hp:=(fC.mp hs.2).1
  have hI:∀x,dP (s::ss) x↔(s.1<=x/\x<=s.2)\/dP ss x:=λx=>by unfold dP;simp
  have oY:∀x,x<=s.2->¬dP ss x:=λx hx ⟨t,Xm,h1,h2⟩=>by have:=hp t Xm;ext hx h1 this
  have lp:∀lo,(∀q∈lK r lo,q.1=lo/\q.2.1=r.2.1/\lo<=r.2.1/\∀x,q.at x=r.at x)/\(lK r lo).length<=1/\(∀x,(∃q∈lK r lo,q.1<=x/\x<=q.2.1)↔lo<=x/\x<=r.2.1):=λlo=>by
   unfold lK
   split
   .refine ⟨λq hq=>?_,by simp,λx=>by simp [iT]⟩
    simp at hq;subst hq;exact ⟨rfl,rfl,by assumption,λx=>Bl⟩
   .exact ⟨λq hq=>(nomatch hq),by simp,λx=>by simp;lia⟩
  have fp:(∀q∈my r low s.1,q.1=low/\q.2.1=s.1-1/\low<s.1/\∀x,q.at x=r.at x)/\(my r low s.1).length<=1/\(∀x,(∃q∈my r low s.1,q.1<=x/\x<=q.2.1)↔low<=x/\x<s.1):=by
   unfold my
   split
   .refine ⟨λq hq=>?_,by simp,λx=>by simp [iT];ext⟩
    simp at hq;subst hq;exact ⟨rfl,rfl,by assumption,λx=>Bl⟩
   .exact ⟨λq hq=>(nomatch hq),by simp,λx=>by simp;lia⟩
  have pw:∀(L:List Row),L.length<=1->L.Pairwise λa b=>a.2.1<b.1:=λL hL=>by
   match L,hL with
   | [],_=>exact .nil
   | [_],_=>exact pV _ _
  obtain ⟨f1,f2,f3⟩:=fp
  have app:∀(L M:List Row) x,(∃q∈L++M,q.1<=x/\x<=q.2.1)↔(∃q∈L,q.1<=x/\x<=q.2.1)\/(∃q∈M,q.1<=x/\x<=q.2.1):=λL M x=>by
   constructor
   .rintro ⟨q,hq,k⟩
    rcases bT.mp hq with h | h
    .exact .inl ⟨q,h,k⟩
    .exact .inr ⟨q,h,k⟩
   .rintro (⟨q,hq,k⟩ | ⟨q,hq,k⟩)
    .exact ⟨q,gp _ hq,k⟩
    .exact ⟨q,fQ _ hq,k⟩
  unfold bS
  by_cases c1:s.1<=r.2.1
  .rw [if_pos c1]
   by_cases c2:s.2>r.2.1
   .rw [if_pos c2]
    dsimp only
    obtain ⟨l1,l2,l3⟩:=lp (max low (s.2+1))
    refine ⟨λq hq=>?_,gP.mpr ⟨pw _ f2,pw _ l2,λa ha b hb=>?_⟩,λx=>?_,uM _,λ_ _=>eI,?_⟩
    .rcases bT.mp hq with h | h
     .obtain ⟨e1,e2,e3,e4⟩:=f1 q h;exact ⟨by ext e1,by ext e1 e2 e3,by ext c1 e2,e4⟩
     .obtain ⟨e1,e2,e3,e4⟩:=l1 q h;ext _ c2 e3
    .obtain ⟨e1,e2,e3,e4⟩:=l1 b hb;ext c2 e3
    .rw [app,f3,l3,hI]
     have:=oY x
     constructor
     .rintro (h | h)
      .exact ⟨by ext h,by ext c1 h,λz=>z.elim (by ext h) (this (by ext c1 c2 h))⟩
      .ext _ c2 h
     .intro ⟨h1,h2,h3⟩
      by_cases hx:x<s.1
      .exact .inl ⟨h1,hx⟩
      .exact absurd (.inl ⟨by ext hx,by ext c2 h2⟩) h3
    .have e:((my r low s.1++lK r (max low (s.2+1)))).length<=1:=by
      have:lK r (max low (s.2+1))=[]:=by unfold lK;rw [if_neg (by ext c2)]
      rw [this];simpa using f2
     simp at e ⊢;ext e
   .rw [if_neg c2]
    dsimp only
    obtain ⟨i1,i2,i3,i4,i5,i6⟩:=Q3 (r:=r) (ss:=ss) (low:=max low (s.2+1)) (by ext hl) ht
    refine ⟨λq hq=>?_,gP.mpr ⟨pw _ f2,i2,λa ha b hb=>?_⟩,λx=>?_,i4.trans (List.suffix_cons _ _),λx hx=>?_,?_⟩
    .rcases bT.mp hq with h | h
     .obtain ⟨e1,e2,e3,e4⟩:=f1 q h;exact ⟨by ext e1,by ext e1 e2 e3,by ext c1 e2,e4⟩
     .obtain ⟨e1,e2,e3,e4⟩:=i1 q h;exact ⟨by ext e1,e2,e3,e4⟩
    .obtain ⟨e1,e2,e3,e4⟩:=f1 a ha;have g1:=(i1 b hb).1;show a.2.1<b.1;ext zm e2 g1
    .rw [app,f3,i3,hI]
     have:=oY x
     constructor
     .rintro (h | ⟨h1,h2,h3⟩)
      .exact ⟨by ext h,by ext c1 h,λz=>z.elim (by ext h) (this (by ext zm h))⟩
      .exact ⟨by ext h1,h2,λz=>z.elim (by ext h1) h3⟩
     .intro ⟨h1,h2,h3⟩
      by_cases hx:x<s.1
      .exact .inl ⟨h1,hx⟩
      .have h4:¬x<=s.2:=λz=>h3 (.inl ⟨by ext hx,z⟩)
       exact .inr ⟨by ext h1 h4,h2,λz=>h3 (.inr z)⟩
    .rw [hI,<-i5 x hx]
     exact ⟨λz=>z.elim (by lia) id,.inr⟩
    .simp at i6 ⊢;ext f2 i6
  .rw [if_neg c1]
   dsimp only
   obtain ⟨l1,l2,l3⟩:=lp low
   refine ⟨λq hq=>?_,pw _ l2,λx=>?_,uM _,λ_ _=>eI,by simp;ext l2⟩
   .obtain ⟨e1,e2,e3,e4⟩:=l1 q hq;exact ⟨by ext e1,by ext e1 e2 e3,by ext e2,e4⟩
   .rw [l3,hI]
    have:=oY x
    constructor
    .intro h
     exact ⟨h.1,h.2,λz=>z.elim (by ext c1 h) (this (by ext zm c1 h))⟩
    .intro h;exact ⟨h.1,h.2.1⟩
theorem BI:∀{rs:List Row} {ss:List Span},bL rs->nW ss->bL (cj rs ss)/\(∀q∈cj rs ss,∃r∈rs,r.1<=q.1/\q.2.1<=r.2.1/\q.2.2.1=r.at q.1/\q.2.2.2=r.2.2.2)/\(∀x c,Val (cj rs ss) x c↔Val rs x c/\¬dP ss x)/\(cj rs ss).length<=rs.length+ss.length
 | [],ss,_,_=>⟨⟨λ_ z=>(nomatch z),.nil⟩,λ_ z=>(nomatch z),λx c=>⟨λ⟨_,z,_⟩=>(nomatch z),λ⟨⟨_,z,_⟩,_⟩=>(nomatch z)⟩,by simp [cj]⟩
 | r::rs,ss,ha,hs=>by
  have ta:bL rs:=⟨λq hq=>ha.1 q (br _ hq),(fC.mp ha.2).2⟩
  have hp:=(fC.mp ha.2).1
  obtain ⟨i1,i2,i3,i4,i5,i6⟩:=Q3 (r:=r) (ss:=ss) (bF _) hs
  unfold cj
  generalize (bS r r.1 ss).1=P at *
  generalize (bS r r.1 ss).2=tt at *
  have ly:nW tt:=⟨λq hq=>hs.1 q (i4.subset hq),hs.2.sublist i4.sublist⟩
  obtain ⟨j1,j2,j3,j4⟩:=BI ta ly
  refine ⟨⟨λq hq=>?_,gP.mpr ⟨i2,j1.2,λa XZ b hb=>?_⟩⟩,λq hq=>?_,λx c=>?_,?_⟩
  .rcases bT.mp hq with h | h
   .exact (i1 q h).2.1
   .exact j1.1 q h
  .obtain ⟨q,hq,k1,k2,_⟩:=j2 b hb
   have:=hp q hq
   have:=i1 a XZ
   show a.2.1<b.1
   lia
  .rcases bT.mp hq with h | h
   .obtain ⟨k1,k2,k3,k4⟩:=i1 q h
    refine ⟨r,aZ,k1,k3,?_,?_⟩
    .rw [<-k4];unfold Row.at;rw [v8,v7,AB]
    .have e1:=k4 q.1
     have e2:=k4 (q.1+1)
     unfold Row.at at e1 e2
     grind
   .obtain ⟨r',rT,k⟩:=j2 q h
    exact ⟨r',br _ rT,k⟩
  .rw [Val.app,j3]
   have e0:Val (r::rs) x c↔(r.1<=x/\x<=r.2.1/\c=r.at x)\/Val rs x c:=by unfold Val;simp
   have eP:Val P x c↔(r.1<=x/\x<=r.2.1/\¬dP ss x)/\c=r.at x:=by
    rw [<-i3 x]
    constructor
    .rintro ⟨q,hq,h1,h2,h3⟩
     exact ⟨⟨q,hq,h1,h2⟩,by rw [h3,(i1 q hq).2.2.2]⟩
    .rintro ⟨⟨q,hq,h1,h2⟩,h3⟩
     exact ⟨q,hq,h1,h2,by rw [h3,(i1 q hq).2.2.2]⟩
   rw [eP,e0]
   have y0:Val rs x c->r.2.1<x:=λ⟨q,hq,h1,_⟩=>by have:=hp q hq;ext h1 this
   constructor
   .rintro (⟨⟨h1,h2,h3⟩,h4⟩ | ⟨h1,h2⟩)
    .exact ⟨.inl ⟨h1,h2,h4⟩,h3⟩
    .exact ⟨.inr h1,λz=>h2 ((i5 x (y0 h1)).mp z)⟩
   .rintro ⟨⟨h1,h2,h3⟩ | h1,h4⟩
    .exact .inl ⟨⟨h1,h2,h4⟩,h3⟩
    .exact .inr ⟨h1,λz=>h4 ((i5 x (y0 h1)).mpr z)⟩
  .simp at i6 j4 ⊢;ext i6 j4
theorem OH{r:Row}{lo hi:Int}(h1:-(10^250)<=r.2.2.2)(h2:r.2.2.2<=10^250)(h3:-(10^250)<=lo-r.1)(h4:lo-r.1<=10^250):wW [r.d,.int lo,.int hi]=some (.sh (iT r lo hi).d):=by
 refine Wo.eq (Cd.mpr ?_)
 unfold Jx
 walk_at "vc"
 rw [EH h1 h2 h3 h4,dA]
 walk_at "vc"
 rfl
theorem b4P{ss:List Span}{n:Nat}(h:n<ss.length):dN (ss.map Span.d) (n:Int)=some (Span.d ss[n]):=by
 rw [DL.dI];simp [h]
def FD(s:Span):Prop:=(-(10^200)<=s.1/\s.1<=10^200)/\(-(10^200)<=s.2/\s.2<=10^200)
theorem Ru{rs:List Row}{ss:List Span}(hb:∀r∈rs,ar (10^200) r)(hs:∀s∈ss,FD s)(l1:rs.length<=400000)(l2:ss.length<=400000):xc [.tup (rs.map Row.d),.tup (ss.map Span.d)]=some (.ow ((cj rs ss).map Row.d)):=by
 refine Wo.eq (nQ.mpr ?_)
 unfold K9
 walk_at "v1"
 refine lQ Row.d (λpre env=>∃x4 x5,∃(done post:List Row) (pl:Nat),env=[.sh (.tup (rs.map Row.d)),.sh (.tup (ss.map Span.d)),.ow (done.map Row.d),.sh (.int pl),x4,x5]/\rs=pre++post/\pl<=ss.length/\done.length<=2*pre.length+pl/\done++cj post (ss.drop pl)=cj rs ss) rs (λpre r post env e h=>?_) (λenv h=>?_) ⟨_,_,[],rs,0,rfl,rfl,by simp,by simp,rfl⟩
 .obtain ⟨x4,x5,done,oN,pl,rfl,e0,dr,vW,jC⟩:=h
  obtain rfl:oN=r::post:=List.append_cancel_left (e0.symm.trans e)
  have jB:pre.length<=400000:=by have:=congrArg pd e;simp at this;ext l1 this
  have jl:=hb r (by rw [e];simp)
  unfold ar at jl
  rw [dA r]
  walk_at "v1"
  rw [QJ,<-dA r]
  refine Wo.mono (P:=λy=>y.1=.nx/\∃(d3:List Row) (p3:Nat) (lw:Int),y.2=[.sh (.tup (rs.map Row.d)),.sh (.tup (ss.map Span.d)),.ow (d3.map Row.d),.sh (.int p3),.sh r.d,.sh (.int lw)]/\p3<=ss.length/\d3.length<=2*pre.length+p3+1/\(-(10^200)<=lw/\lw<=10^200+1)/\d3++lK r lw=done++(bS r r.1 (ss.drop pl)).1/\ss.drop p3=(bS r r.1 (ss.drop pl)).2) ?_ (λy hy=>?_)
  .refine E9 (λn env=>∃(d2:List Row) (p2:Nat) (lw:Int),env=[.sh (.tup (rs.map Row.d)),.sh (.tup (ss.map Span.d)),.ow (d2.map Row.d),.sh (.int p2),.sh r.d,.sh (.int lw)]/\n=ss.length-p2/\p2<=ss.length/\d2.length<=2*pre.length+p2/\(-(10^200)<=lw/\lw<=10^200+1)/\d2++(bS r lw (ss.drop p2)).1=done++(bS r r.1 (ss.drop pl)).1/\(bS r lw (ss.drop p2)).2=(bS r r.1 (ss.drop pl)).2) (λn env h=>?_) _ (ss.length-pl) (show ss.length-pl<1000000 by ext l2) ⟨done,pl,r.1,rfl,rfl,dr,vW,by ext jl,rfl,rfl⟩
   obtain ⟨d2,p2,lw,rfl,rfl,ub,hd2,qy,o1,o2⟩:=h
   have o6:=λhi=>OH (r:=r) (lo:=lw) (hi:=hi) (by ext jl) (by ext jl) (by ext jl qy) (by ext jl qy)
   rw [dA] at o6 ⊢
   walk_at "v1"
   rw [aX]
   refine ⟨λh1=>?_,λh1=>?_⟩
   .have nj:p2<ss.length:=by ext h1
    have dd:ss.drop p2=ss[p2]::ss.drop (p2+1):=nG nj
    have qC:=hs ss[p2] (qR nj)
    have n9:=b4P nj
    rw [n9]
    generalize ss[p2]=s at *
    unfold FD at qC
    rw [dd,bS] at o1 o2
    rw [wR]
    walk_at "v1"
    refine ⟨λh2=>?_,λh2=>?_⟩
    .rw [if_pos h2] at o1 o2
     walk_at "v1"
     rw [wR] at n9
     refine Wo.mono (P:=λy=>y=(.nx,[.sh (.tup (rs.map Row.d)),.sh (.tup (ss.map Span.d)),.ow ((d2++my r lw s.1).map Row.d),.sh (.int p2),.sh (.tup [.int r.1,.int r.2.1,.int r.2.2.1,.int r.2.2.2]),.sh (.int lw)])) ?_ (λy hy=>?_)
     .walk_at "vc"
      rw [n9]
      walk_at "vc"
      rw [o6]
      walk_at "vc"
      rw [aX]
      unfold my
      refine ⟨λh=>⟨by ext l2 jB hd2 h1,?_⟩,λh=>?_⟩
      .rw [if_pos h,eJ];rfl
      .rw [if_neg h,oh]
     .subst hy
      have rX:(my r lw s.1).length<=1:=by unfold my;split<;>simp
      walk_at "v1"
      rw [n9]
      walk_at "v1"
      rw [a3S]
      walk_at "vc"
      rw [n9]
      walk_at "vc"
      refine ⟨λh3=>?_,λh3=>?_⟩
      .rw [if_pos h3] at o1 o2
       exact ⟨d2++my r lw s.1,p2,max lw (s.2+1),rfl,ub,by simp;ext hd2 rX,by ext qy qC,by rw [fP];exact o1,by rw [dd];exact o2⟩
      .rw [if_neg h3] at o1 o2
       exact ⟨ss.length-(p2+1),by ext h1,d2++my r lw s.1,p2+1,max lw (s.2+1),rfl,rfl,by ext h1,by simp;ext hd2 rX,by ext qy qC,by rw [fP];exact o1,o2⟩
    .rw [if_neg h2] at o1 o2
     exact ⟨d2,p2,lw,rfl,ub,by ext hd2,qy,o1,by rw [dd];exact o2⟩
   .have dd:ss.drop p2=[]:=sC (by ext h1)
    rw [dd,bS] at o1 o2
    exact ⟨d2,p2,lw,rfl,ub,by ext hd2,qy,o1,by rw [dd];exact o2⟩
  .obtain ⟨fl,aj⟩:=y
   obtain ⟨h1,d3,p3,lw,h2,vU,Hz,qy,o1,o2⟩:=hy
   dsimp only at h1 h2
   subst h1 h2
   have o6:=OH (r:=r) (lo:=lw) (hi:=r.2.1) (by ext jl) (by ext jl) (by ext jl qy) (by ext jl qy)
   rw [dA] at o6 ⊢
   walk_at "vc"
   rw [o6]
   walk_at "vc"
   rw [aX]
   rw [cj,<-o2,<-fP,<-o1] at jC
   refine ⟨λh=>⟨by ext l2 jB vU Hz,_,_,d3++[iT r lw r.2.1],post,p3,by rw [eJ];rfl,by rw [e];simp,vU,by simp;ext Hz,?_⟩,λh=>⟨_,_,d3,post,p3,rfl,by rw [e];simp,vU,by simp;ext Hz,?_⟩⟩
   .rw [lK,if_pos h] at jC
    exact jC
   .rw [lK,if_neg h,oh] at jC
    exact jC
 .obtain ⟨x4,x5,done,oN,pl,rfl,e0,dr,vW,jC⟩:=h
  have:oN=[]:=by simpa using e0
  subst this
  walk_at "vc"
  rw [<-jC];simp [cj]
theorem rg{c:En->Option Bool}{F:SF}{env:En}{Q:Fl×En->Prop}(hc:Wo (c env) λb=>b=false)(h:Q (.nx,env)):Wo (cC c F cR env) Q:=by
 rw [a3S]
 exact hc.mono λb hb=>⟨λz=>(by rw [hb] at z;cases z),λ_=>(by rw [b7v];exact h)⟩
noncomputable abbrev lq:=Int×Int
noncomputable def lq.at(l:lq)(low x:Int):Int:=l.1+l.2*(x-low)
noncomputable def eG:Int->List Row->Int->Prop
 | at_,[],e=>at_=e
 | at_,r::rs,e=>r.1=at_/\at_<=r.2.1/\eG (r.2.1+1) rs e
theorem eG.le:∀{rs:List Row} {a e:Int},eG a rs e->a<=e
 | [],_,_,h=>Int.le_of_eq h
 | r::rs,a,e,h=>by have:=h.2.2.le;have:=h.2.1;lia
theorem eG.mem:∀{rs:List Row} {a e:Int} {r:Row},eG a rs e->r∈rs->a<=r.1/\r.1<=r.2.1/\r.2.1<e
 | [],_,_,_,_,h=>nomatch h
 | r::rs,a,e,q,h,k=>by
  obtain ⟨h1,h2,h3⟩:=h
  have:=h3.le
  rcases bq.mp k with rfl | k
  .ext h1 h2 this
  .have:=h3.mem k;ext h2 this
noncomputable def kf(l:lq)(low:Int)(r:Row):List Row:=oU r.2.2.1 r.2.2.2 (l.at low r.1) l.2 r.1 r.2.1
theorem b6g{l:lq}{low:Int}{r:Row}(h:r.1<=r.2.1):eG r.1 (kf l low r) (r.2.1+1)/\(∀q∈kf l low r,(q.2.2.2=r.2.2.2\/q.2.2.2=l.2)/\r.1<=q.1/\q.2.1<=r.2.1/\∀x,q.1<=x->x<=q.2.1->q.at x=min (r.at x) (l.at low x)) /\
  (kf l low r).length<=2/\((∀x,r.1<=x->x<=r.2.1->r.at x<=l.at low x)->(kf l low r).length=1)/\((∀x,r.1<=x->x<=r.2.1->l.at low x<r.at x)->(kf l low r).length=1):=by
 obtain ⟨f,g,c,s⟩:=r
 dsimp only at h
 have sp:=Kh (a:=c-l.at low f) (s:=s-l.2) (low:=f) (high:=g) h
 have gap:∀x,c-l.at low f+(s-l.2)*(x-f)=Row.at (f,g,c,s) x-l.at low x:=λx=>by unfold Row.at lq.at;dsimp only;grind
 have v1:∀a b x,Row.at (g0 c s f a b) x=Row.at (f,g,c,s) x:=λa b x=>by unfold Row.at g0;dsimp only;grind
 have v2:∀a b x,Row.at (g0 (l.at low f) l.2 f a b) x=l.at low x:=λa b x=>by unfold Row.at g0 lq.at;dsimp only;grind
 simp only [gap] at sp
 unfold kf oU
 dsimp only
 cases oX:nd (c-l.at low f) (s-l.2) f g with
 | none =>
  rw [oX] at sp
  refine ⟨⟨rfl,h,rfl⟩,λq hq=>?_,by simp,λ_=>rfl,λ_=>rfl⟩
  obtain rfl:=bP.mp hq
  refine ⟨.inr rfl,bF _,bF _,λx h1 h2=>?_⟩
  rw [v2]
  have:=sp x h1 h2
  ext this
 | some fl =>
  obtain ⟨a,b⟩:=fl
  rw [oX] at sp
  obtain ⟨⟨q1,q2,q3,q4⟩,q5⟩:=sp
  have A:∀x,a<=x->x<=b->Row.at (g0 c s f a b) x=min (Row.at (f,g,c,s) x) (l.at low x):=λx h1 h2=>by
   rw [v1];have:=(q5 x (by ext q1 h1) (by ext q3 h2)).mpr ⟨h1,h2⟩;ext this
  have B:∀a' b' x,f<=x->x<=g->¬(a<=x/\x<=b)->Row.at (g0 (l.at low f) l.2 f a' b') x=min (Row.at (f,g,c,s) x) (l.at low x):=λa' b' x h1 h2 h3=>by
   rw [v2];have:=(not_congr (q5 x h1 h2)).mpr h3;ext this
  dsimp only
  by_cases hf:f<a
  .have hl:¬b<g:=by ext q4 hf
   rw [if_pos hf,if_neg hl]
   refine ⟨⟨rfl,by show f<=a-1;ext hf,⟨by show a=a-1+1;ext,by show a-1+1<=b;ext q2,by show b+1=g+1;ext q3 hl⟩⟩,λq hq=>?_,by simp,λz=>?_,λz=>?_⟩
   .simp at hq
    rcases hq with rfl | rfl
    .exact ⟨.inr rfl,bF _,by show a-1<=g;ext q2 q3,λx h1 h2=>B _ _ x h1 (by have:x<=a-1:=h2;ext q2 q3 this) (by have:x<=a-1:=h2;ext this)⟩
    .exact ⟨.inl rfl,by show f<=a;ext q1,by show b<=g;ext q3,λx h1 h2=>A x h1 h2⟩
   .exfalso;have:=(not_congr (q5 f (by ext) (by ext h))).mpr (by ext hf);have:=z f (by ext) (by ext h);lia
   .exfalso;have:=(q5 a (by ext q1) (by ext q2 q3)).mpr (by ext q2);have:=z a (by ext q1) (by ext q2 q3);lia
  .have Nj:a=f:=by ext q1 hf
   rw [if_neg hf]
   by_cases hl:b<g
   .rw [if_pos hl]
    refine ⟨⟨Nj,by show f<=b;ext q1 q2,⟨rfl,by show b+1<=g;ext hl,rfl⟩⟩,λq hq=>?_,by simp,λz=>?_,λz=>?_⟩
    .simp at hq
     rcases hq with rfl | rfl
     .exact ⟨.inl rfl,by show f<=a;ext q1,by show b<=g;ext q3,λx h1 h2=>A x h1 h2⟩
     .exact ⟨.inr rfl,by show f<=b+1;ext q1 q2,bF _,λx h1 h2=>B _ _ x (by have:b+1<=x:=h1;ext q1 q2 this) h2 (by have:b+1<=x:=h1;ext this)⟩
    .exfalso;have:=(not_congr (q5 g (by ext h) (by ext))).mpr (by ext hl);have:=z g (by ext h) (by ext);lia
    .exfalso;have:=(q5 a (by ext q1) (by ext h hf)).mpr (by ext q2);have:=z a (by ext q1) (by ext h hf);lia
   .rw [if_neg hl]
    refine ⟨⟨Nj,by show f<=b;ext h hl,by show b+1=g+1;ext q3 hl⟩,λq hq=>?_,by simp,λ_=>rfl,λ_=>rfl⟩
    simp at hq
    subst hq
    exact ⟨.inl rfl,by show f<=a;ext q1,by show b<=g;ext q3,λx h1 h2=>A x h1 h2⟩
theorem eG.gO:∀{rs:List Row} {a e x:Int},eG a rs e->a<=x->x<e->∃q∈rs,q.1<=x/\x<=q.2.1
 | [],a,e,x,h,h1,h2=>by have:a=e:=h;ext _ h1 h2 this
 | r::rs,a,e,x,⟨h1,h2,h3⟩,k1,k2=>by
  by_cases hx:x<=r.2.1
  .exact ⟨r,aZ,by ext h1 k1,hx⟩
  .obtain ⟨q,hq,k⟩:=h3.gO (x:=x) (by ext hx) k2
   exact ⟨q,br _ hq,k⟩
theorem eG.cL:∀{rs:List Row} {a e:Int},eG a rs e->rs.Pairwise λp q=>p.2.1<q.1
 | [],_,_,_=>.nil
 | r::rs,a,e,⟨h1,h2,h3⟩=>fC.mpr ⟨λq hq=>by have:=h3.mem hq;ext this,h3.cL⟩
def ku(a b:Row):Prop:=a.2.1<b.1\/b.2.1<a.1
theorem Rk:∀rs:List Row,b2i (rs.map Row.d)=some (rs.map λr=>(r.1,Row.d r))
 | []=>rfl
 | r::rs=>by
  rw [eM,b2i,Rk rs]
  rfl
theorem b1L{rs:List Row}(hv:∀r∈rs,r.1<=r.2.1)(hd:rs.Pairwise ku)(dR:rs.length<lI):∃ts:List Row,wI (rs.map Row.d)=some (ts.map Row.d)/\bL ts/\(∀x c,Val ts x c↔Val rs x c)/\ts.Perm rs:=by
 have aW:(rs.map (·.1)).Nodup:=by
  rw [List.Nodup,pf]
  refine hd.imp_of_mem λ{a b} ha hb h=>?_
  have:=hv a ha;have:=hv b hb
  unfold ku at h
  lia
 obtain ⟨ts,t1,t2⟩:=Q4 (Oj (rs.map λr=>(r.1,Row.d r)) λa b=>decide (a.1<=b.1))
 have hle:ts.Pairwise λa b=>a.1<=b.1:=by
  have:=N1 (le:=λa b:Int×D=>decide (a.1<=b.1)) (λa b c h1 h2=>by simp at *;ext h1 h2) (λa b=>by simp;ext) (rs.map λr=>(r.1,Row.d r))
  rw [<-t2,pf] at this
  exact this.imp λ{x y} z=>by simpa using z
 have XT:ts.Pairwise ku:=(t1.pairwise_iff (λ{a b} h=>by unfold ku at *;ext h)).mpr hd
 have GY:∀r∈ts,r.1<=r.2.1:=λr hr=>hv r (t1.subset hr)
 refine ⟨ts,?_,⟨GY,?_⟩,λx c=>?_,t1⟩
 .unfold wI
  rw [Rk,qQ,if_pos ⟨by rw [fT];exact aW,by rw [aX];exact dR⟩,<-t2,fT]
  rfl
 .refine (hle.and XT).imp_of_mem λ{a b} ha hb h=>?_
  have:=GY a ha;have:=GY b hb
  obtain ⟨h1,h2⟩:=h
  unfold ku at h2
  ext this h1 h2
 .unfold Val
  exact ⟨λ⟨r,hr,k⟩=>⟨r,t1.subset hr,k⟩,λ⟨r,hr,k⟩=>⟨r,t1.symm.subset hr,k⟩⟩
noncomputable def gc(m:Met):List Row:=oU (m.a.at m.lo) m.a.2.2.2 (m.b.at m.lo) m.b.2.2.2 m.lo m.hi
theorem sS{m:Met}(h:m.lo<=m.hi):eG m.lo (gc m) (m.hi+1)/\(∀q∈gc m,(q.2.2.2=m.a.2.2.2\/q.2.2.2=m.b.2.2.2)/\m.lo<=q.1/\q.2.1<=m.hi/\∀x,q.1<=x->x<=q.2.1->q.at x=min (m.a.at x) (m.b.at x))/\(gc m).length<=2:=by
 obtain ⟨h1,h2,h3,_⟩:=b6g (l:=(m.b.at m.lo,m.b.2.2.2)) (low:=m.lo) (r:=(m.lo,m.hi,m.a.at m.lo,m.a.2.2.2)) h
 have e0:kf (m.b.at m.lo,m.b.2.2.2) m.lo (m.lo,m.hi,m.a.at m.lo,m.a.2.2.2)=gc m:=by
  unfold kf gc lq.at
  dsimp only
  rw [v8,v7,AB]
 rw [e0] at h1 h2 h3
 refine ⟨h1,λq hq=>?_,h3⟩
 obtain ⟨k1,k2,k3,k4⟩:=h2 q hq
 refine ⟨k1,k2,k3,λx x1 x2=>?_⟩
 rw [k4 x x1 x2]
 have e1:Row.at (m.lo,m.hi,m.a.at m.lo,m.a.2.2.2) x=m.a.at x:=Bl (r:=m.a) (lo:=m.lo) (hi:=m.hi)
 have e2:lq.at (m.b.at m.lo,m.b.2.2.2) m.lo x=m.b.at x:=Bl (r:=m.b) (lo:=m.lo) (hi:=m.hi)
 rw [e1,e2]
noncomputable def ie(A B:List Row):List Row:=(bg A B).flatMap gc
theorem K4{A B:List Row}{q:Row}(h:q∈ie A B):∃m∈bg A B,q∈gc m/\m.a∈A/\m.b∈B/\m.lo=max m.a.1 m.b.1/\m.hi=min m.a.2.1 m.b.2.1/\m.lo<=q.1/\q.1<=q.2.1/\q.2.1<=m.hi/\(q.2.2.2=m.a.2.2.2\/q.2.2.2=m.b.2.2.2)/\∀x,q.1<=x->x<=q.2.1->q.at x=min (m.a.at x) (m.b.at x):=by
 obtain ⟨m,hm,hq⟩:=iw.mp h
 obtain ⟨k1,k2,k3,k4,k5⟩:=lU (bw _) hm
 obtain ⟨c1,c2,_⟩:=sS k5
 have:=c1.mem hq
 obtain ⟨d1,d2,d3,d4⟩:=c2 q hq
 exact ⟨m,hm,hq,k1,k2,k3,k4,d2,this.2.1,d3,d1,d4⟩
theorem b4c{A B:List Row}(ha:bL A)(hb:bL B):bL (ie A B)/\∀x c,Val (ie A B) x c↔∃p q,look A x=some p/\look B x=some q/\c=min p q:=by
 refine ⟨⟨λq hq=>?_,?_⟩,λx c=>⟨λ⟨q,hq,h1,h2,h3⟩=>?_,λ⟨p,q,h1,h2,h3⟩=>?_⟩⟩
 .obtain ⟨m,_,_,_,_,_,_,_,k,_⟩:=K4 hq;exact k
 .unfold ie
  rw [List.pairwise_flatMap]
  refine ⟨λm hm=>?_,?_⟩
  .exact (sS (lU (bw _) hm).2.2.2.2).1.cL
  .refine (Br (bw _) ha hb).imp_of_mem λ{m k} hm hk h x hx y hy=>?_
   have c1:=(sS (lU (bw _) hm).2.2.2.2).1.mem hx
   have c2:=(sS (lU (bw _) hk).2.2.2.2).1.mem hy
   show x.2.1<y.1
   ext h c1 c2
 .obtain ⟨m,hm,_,k1,k2,k3,k4,k5,k6,k7,_,k8⟩:=K4 hq
  exact ⟨_,_,lS ha k1 (by ext h1 k3 k5) (by ext h2 k4 k7),lS hb k2 (by ext h1 k3 k5) (by ext h2 k4 k7),by rw [h3,k8 x h1 h2]⟩
 .obtain ⟨a,HE,a1,a2,rfl⟩:=rh h1
  obtain ⟨b,kq,b1,b2,rfl⟩:=rh h2
  obtain ⟨m,hm,rfl,rfl,m1,m2⟩:=EU (x:=x) (bw _) ha hb HE kq a1 a2 b1 b2
  obtain ⟨c1,c2,_⟩:=sS (lU (bw _) hm).2.2.2.2
  obtain ⟨q,hq,q1,q2⟩:=c1.gO (x:=x) m1 (by ext m2)
  exact ⟨q,iw.mpr ⟨m,hm,hq⟩,q1,q2,by rw [h3,(c2 q hq).2.2.2 x q1 q2]⟩
theorem b4d(A B:List Row):(ie A B).length<=2*(bg A B).length:=by
 unfold ie
 have:∀ms:List Met,(∀m∈ms,m.lo<=m.hi)->(ms.flatMap gc).length<=2*ms.length:=λms=>by
  induction ms with
  | nil=>intro _;simp
  | cons m ms ih =>
   intro h
   have:=ih λk hk=>h k (br _ hk)
   have:=(sS (h m aZ)).2.2
   rw [qS,cM,iy]
   lia
 exact this _ λm hm=>(lU (bw _) hm).2.2.2.2
theorem Le:∀{n:Nat} {A B:List Row},A.length+B.length<=n->(bg A B).length=0\/(bg A B).length+1<=A.length+B.length
 | n,[],B,_=>by rw [Bt];exact .inl rfl
 | n,a::as,[],_=>by rw [BH];exact .inl rfl
 | 0,a::as,b::bs,hn=>absurd hn (by simp)
 | n+1,a::as,b::bs,hn=>by
  rw [w4,cM]
  have h1:(if max a.1 b.1<=min a.2.1 b.2.1 then [(⟨max a.1 b.1,min a.2.1 b.2.1,a,b⟩:Met)] else []).length<=1:=by split<;>simp
  by_cases hc:a.2.1<b.2.1
  .have:=Le (n:=n) (A:=as) (B:=b::bs) (by simp at hn ⊢;ext hn)
   rw [if_pos hc]
   simp only [iy] at this ⊢;ext h1 this
  .have:=Le (n:=n) (A:=a::as) (B:=bs) (by simp at hn ⊢;ext hn)
   rw [if_neg hc]
   simp only [iy] at this ⊢;ext h1 this
theorem b4E{A B:List Row}(ha:∀r∈A,ar (10^140) r)(hb:∀r∈B,ar (10^140) r)(l1:A.length<=400000)(l2:B.length<=400000):B1 [.tup (A.map Row.d),.tup (B.map Row.d)]=some (.ow ((ie A B).map Row.d)):=by
 refine Wo.eq (jc.mpr ?_)
 unfold LZ
 walk_at "v1"
 rw [OI (λr hr=>(ha r hr).mono (by decide)) (λr hr=>(hb r hr).mono (by decide)) (by ext l1) (by ext l2)]
 walk_at "v1"
 have uf:=EW (A:=A) (B:=B) (bw _)
 refine lQ Met.d (λpre env=>∃x3 x4 x5 x6,env=[.sh (.tup (A.map Row.d)),.sh (.tup (B.map Row.d)),.ow ((pre.flatMap gc).map Row.d),x3,x4,x5,x6]) (bg A B) (λpre m post env e h=>?_) (λenv h=>?_) ⟨_,_,_,_,rfl⟩
 .obtain ⟨x3,x4,x5,x6,rfl⟩:=h
  have hm:m∈bg A B:=by rw [e];simp
  obtain ⟨k1,k2,k3,k4,k5⟩:=lU (bw _) hm
  have b1:=ha _ k1
  have b2:=hb _ k2
  unfold ar at b1 b2
  have dr:(pre.flatMap gc).length<=2*pre.length:=by
   have:∀ms:List Met,(∀m∈ms,m.lo<=m.hi)->(ms.flatMap gc).length<=2*ms.length:=λms=>by
    induction ms with
    | nil=>intro _;simp
    | cons m ms ih =>
     intro h
     have:=ih λk hk=>h k (br _ hk)
     have:=(sS (h m aZ)).2.2
     rw [qS,cM,iy]
     omega
   exact this _ λk hk=>(lU (A:=A) (B:=B) (bw _) (by rw [e];simp [hk])).2.2.2.2
  have G9:pre.length<=800000:=by have:=congrArg pd e;simp at this;ext l1 l2 uf this
  have el:=b9p (p1:=m.a.at m.lo) (s1:=m.a.2.2.2) (p2:=m.b.at m.lo) (s2:=m.b.2.2.2) k5 (by ext k3 k4 b2) (by ext b1) (by ext b1) (by ext b2) (by ext b2)
  rw [OZ,Eg,Eg]
  walk_at "v1"
  rw [el]
  walk_at "v1"
  have fK:=(sS k5).2.2
  refine ⟨?_,.sh (.int m.lo),.sh (.int m.hi),.sh (sL m.a m.lo),.sh (sL m.b m.lo),?_⟩
  .rw [aX,aX]
   show (pre.flatMap gc).length+(gc m).length<=_
   ext dr G9 fK
  .rw [DQ,eJ]
   simp only [qS,List.flatMap_nil,oh]
   rfl
 .obtain ⟨x3,x4,x5,x6,rfl⟩:=h
  walk_at "vc"
  rfl
theorem Qw:∀{xs ys:List Int},xs.Nodup->xs ⊆ ys->xs.length<=ys.length
 | [],_,_,_=>nD _
 | x::xs,ys,h,s=>by
  obtain ⟨h1,h2⟩:=uE.mp h
  have hx:=s (aZ ..)
  have k:=Qw h2 (ys:=ys.erase x) λy hy=>by
   have:y≠x:=λz=>h1 (z▸hy)
   exact (N6 this).mpr (s (br _ hy))
  rw [OC hx] at k
  have:=NX hx
  rw [iy]
  ext k this
theorem Lb{r q:Row}{lo:Int}(h:q∈lK r lo):q.2.1=r.2.1:=by
 unfold lK at h
 split at h
 .rw [bP.mp h];rfl
 .exact absurd h gz
theorem RJ{r q:Row}{lo to:Int}(h:q∈my r lo to):q.2.1=to-1:=by
 unfold my at h
 split at h
 .rw [bP.mp h];rfl
 .exact absurd h gz
theorem Qz{r q:Row}:∀{ss:List Span} {low:Int},(q∈(bS r low ss).1->q.2.1=r.2.1\/∃s∈ss,q.2.1=s.1-1)/\(bS r low ss).2 <:+ ss
 | [],low=>⟨λh=>.inl (Lb h),uM _⟩
 | s::ss,low=>by
  unfold bS
  split
  .split
   .refine ⟨λh=>?_,uM _⟩
    rcases bT.mp h with h | h
    .exact .inr ⟨s,aZ ..,RJ h⟩
    .exact .inl (Lb h)
   .obtain ⟨i1,i2⟩:=Qz (r:=r) (q:=q) (ss:=ss) (low:=max low (s.2+1))
    refine ⟨λh=>?_,i2.trans (List.suffix_cons _ _)⟩
    rcases bT.mp h with h | h
    .exact .inr ⟨s,aZ ..,RJ h⟩
    .rcases i1 h with k | ⟨t,ht,k⟩
     .exact .inl k
     .exact .inr ⟨t,br _ ht,k⟩
  .exact ⟨λh=>.inl (Lb h),uM _⟩
theorem KN{q:Row}:∀{rs:List Row} {ss:List Span},q∈cj rs ss->(∃r∈rs,q.2.1=r.2.1)\/∃s∈ss,q.2.1=s.1-1
 | [],_,h=>absurd h gz
 | r::rs,ss,h=>by
  obtain ⟨i1,i2⟩:=Qz (r:=r) (q:=q) (ss:=ss) (low:=r.1)
  rcases bT.mp (show q∈(bS r r.1 ss).1++cj rs (bS r r.1 ss).2 from h) with h | h
  .rcases i1 h with k | k
   .exact .inl ⟨r,aZ ..,k⟩
   .exact .inr k
  .rcases KN h with ⟨z,hz,k⟩ | ⟨s,hs,k⟩
   .exact .inl ⟨z,br _ hz,k⟩
   .exact .inr ⟨s,i2.subset hs,k⟩
theorem b6H{A B:List Row}(ca:bL A)(cb:bL B){sa sb:List Span}(SA:aV A sa)(SB:aV B sb):(bg A B).length+(cj A sb).length+(cj B sa).length<=2*(A.length+B.length):=by
 have Bd:∀{L:List Row} {ss:List Span},aV L ss->nW ss:=λ{L ss} S=>⟨S.ok,S.apart.imp λ{a b} h=>by ext h⟩
 obtain ⟨a1,a2,a3,a4⟩:=BI ca (Bd SB)
 obtain ⟨b1,b2,b3,b4⟩:=BI cb (Bd SA)
 have mm:=λm (h:m∈bg A B)=>lU (A:=A) (B:=B) (bw _) h
 have ma:=Br (A:=A) (B:=B) (bw _) ca cb
 have key:=Qw (xs:=(bg A B).map Met.hi++((cj A sb).map (λr=>r.2.1)++(cj B sa).map λr=>r.2.1)) (ys:=(A.map (λr=>r.2.1)++B.map λr=>r.2.1)++(A.map (λr=>r.1-1)++B.map λr=>r.1-1)) ?_ ?_
 .simp only [cM,aX] at key
  ext key
 .have cL:∀{L:List Row},bL L->(L.map λr=>r.2.1).Nodup:=λ{L} h=>by
   unfold List.Nodup
   rw [pf]
   refine h.2.imp_of_mem λ{x y} hx hy z e=>?_
   have:=h.1 y hy
   ext z e this
  refine Jh.mpr ⟨?_,Jh.mpr ⟨cL a1,cL b1,?_⟩,?_⟩
  .unfold List.Nodup
   rw [pf]
   refine ma.imp_of_mem λ{x y} hx hy z e=>?_
   have:=(mm y hy).2.2.2.2
   ext z e this
  .intro x hx y hy e
   obtain ⟨p,hp,rfl⟩:=cH.mp hx
   obtain ⟨q,hq,rfl⟩:=cH.mp hy
   have k1:=(a3 p.2.1 _).mp ⟨p,hp,a1.1 p hp,bF _,rfl⟩
   have k2:=(b3 q.2.1 _).mp ⟨q,hq,b1.1 q hq,bF _,rfl⟩
   obtain ⟨r,hr,r1,r2,_⟩:=k1.1
   exact k2.2 ((SA.gO _).mpr ⟨r,hr,by ext e r1,by ext e r2⟩)
  .intro x hx y hy e
   obtain ⟨m,hm,rfl⟩:=cH.mp hx
   obtain ⟨i1,i2,i3,i4,i5⟩:=mm m hm
   rcases bT.mp hy with hy | hy
   .obtain ⟨q,hq,rfl⟩:=cH.mp hy
    have k2:=(a3 q.2.1 _).mp ⟨q,hq,a1.1 q hq,bF _,rfl⟩
    exact k2.2 ((SB.gO _).mpr ⟨m.b,i2,by ext i3 i5 e,by ext i4 e⟩)
   .obtain ⟨q,hq,rfl⟩:=cH.mp hy
    have k2:=(b3 q.2.1 _).mp ⟨q,hq,b1.1 q hq,bF _,rfl⟩
    exact k2.2 ((SA.gO _).mpr ⟨m.a,i1,by ext i3 i5 e,by ext i4 e⟩)
 .intro x hx
  have CN:∀{r:Row},(r∈A\/r∈B)->r.2.1∈(A.map (λr=>r.2.1)++B.map λr=>r.2.1)++(A.map (λr=>r.1-1)++B.map λr=>r.1-1):=λ{r} h=>by
   refine gp _ ?_
   rcases h with h | h
   .exact gp _ (cH.mpr ⟨r,h,rfl⟩)
   .exact fQ _ (cH.mpr ⟨r,h,rfl⟩)
  have M5:∀{r:Row},(r∈A\/r∈B)->r.1-1∈(A.map (λr=>r.2.1)++B.map λr=>r.2.1)++(A.map (λr=>r.1-1)++B.map λr=>r.1-1):=λ{r} h=>by
   refine fQ _ ?_
   rcases h with h | h
   .exact gp _ (cH.mpr ⟨r,h,rfl⟩)
   .exact fQ _ (cH.mpr ⟨r,h,rfl⟩)
  rcases bT.mp hx with hx | hx
  .obtain ⟨m,hm,rfl⟩:=cH.mp hx
   obtain ⟨i1,i2,i3,i4,i5⟩:=mm m hm
   by_cases c:m.a.2.1<=m.b.2.1
   .rw [show m.hi=m.a.2.1 by ext i4 c];exact CN (.inl i1)
   .rw [show m.hi=m.b.2.1 by ext i4 c];exact CN (.inr i2)
  .rcases bT.mp hx with hx | hx
   .obtain ⟨q,hq,rfl⟩:=cH.mp hx
    rcases KN hq with ⟨r,hr,k⟩ | ⟨s,hs,k⟩
    .rw [k];exact CN (.inl hr)
    .obtain ⟨⟨r1,h1,e1⟩,_⟩:=SB.ends s hs
     rw [k,show s.1=r1.1 by ext e1];exact M5 (.inr h1)
   .obtain ⟨q,hq,rfl⟩:=cH.mp hx
    rcases KN hq with ⟨r,hr,k⟩ | ⟨s,hs,k⟩
    .rw [k];exact CN (.inr hr)
    .obtain ⟨⟨r1,h1,e1⟩,_⟩:=SA.ends s hs
     rw [k,show s.1=r1.1 by ext e1];exact M5 (.inl h1)
noncomputable def m6:Option Int->Option Int->Option Int
 | some a,some b=>some (min a b)
 | some a,none=>some a
 | none,b=>b
theorem QC{A:List Row}(ha:bL A){x:Int}:(∃r∈A,r.1<=x/\x<=r.2.1)↔look A x≠none:=by
 constructor
 .rintro ⟨r,hr,h1,h2⟩
  rw [lS ha hr h1 h2];exact λz=>nomatch z
 .intro h
  cases e:look A x with
  | none=>exact absurd e h
  | some c=>obtain ⟨r,hr,h1,h2,_⟩:=rh e;exact ⟨r,hr,h1,h2⟩
theorem P5{A B:List Row}{V C:Int}(ca:bL A)(cb:bL B)(ha:∀r∈A,ar (10^140) r)(hb:∀r∈B,ar (10^140) r)(hV:V<=10^140)(hC:C<=10^140)
  (va:∀x c,look A x=some c->(-V<=x/\x<=V)/\(-C<=c/\c<=C))(vb:∀x c,look B x=some c->(-V<=x/\x<=V)/\(-C<=c/\c<=C))(hl:4*(A.length+B.length)<=lI):
  ∃fs:List Row,jr [.tup (A.map Row.d),.tup (B.map Row.d)]=some (.sh (.tup (fs.map Row.d)))/\Canon fs/\(∀x,look fs x=m6 (look A x) (look B x))/\fs.length<=3*(A.length+B.length):=by
 have hN:lI<=1600000/\0<lI:=by decide
 obtain ⟨sa,ea,SA⟩:=Kw ca (by ext hl hN)
 obtain ⟨sb,eb,SB⟩:=Kw cb (by ext hl hN)
 have OE:∀{L:List Row} {ss:List Span},aV L ss->(∀r∈L,ar (10^140) r)->∀s∈ss,FD s:=λ{L ss} S hL s hs=>by
  obtain ⟨⟨r1,h1,e1⟩,⟨r2,h2,e2⟩⟩:=S.ends s hs
  have k1:=hL r1 h1
  have k2:=hL r2 h2
  unfold ar at k1 k2
  unfold FD
  ext e1 e2 k1 k2
 have Bd:∀{L:List Row} {ss:List Span},aV L ss->nW ss:=λ{L ss} S=>⟨S.ok,S.apart.imp λ{a b} h=>by ext h⟩
 have oa:=Ru (rs:=A) (ss:=sb) (λr hr=>(ha r hr).mono (by decide)) (OE SB hb) (by ext hl hN) (by have:=SB.len;ext hl hN this)
 have ob:=Ru (rs:=B) (ss:=sa) (λr hr=>(hb r hr).mono (by decide)) (OE SA ha) (by ext hl hN) (by have:=SA.len;ext hl hN this)
 obtain ⟨a1,a2,a3,a4⟩:=BI ca (Bd SB)
 obtain ⟨b1,b2,b3,b4⟩:=BI cb (Bd SA)
 obtain ⟨c1,c2⟩:=b4c ca cb
 have la:=SA.len
 have lb:=SB.len
 have ll:=b4d A B
 have lm:=Le (A:=A) (B:=B) (bw _)
 have M6:∀x,dP sa x↔look A x≠none:=λx=>(SA.gO x).trans (QC ca)
 have GJ:∀x,dP sb x↔look B x≠none:=λx=>(SB.gO x).trans (QC cb)
 have MH:∀r∈ie A B++(cj A sb++cj B sa),r.1<=r.2.1:=λr hr=>by
  rcases bT.mp hr with h | h
  .exact c1.1 r h
  .exact (bT.mp h).elim (a1.1 r) (b1.1 r)
 have apart:∀{L M:List Row},(∀r∈L,r.1<=r.2.1)->(∀r∈M,r.1<=r.2.1)->(∀x c d,Val L x c->Val M x d->False)->∀a∈L,∀b∈M,ku a b:=λ{L M} hL hM hx a zS b r9=>by
  have h1:=hL a zS
  have h2:=hM b r9
  by_cases h:a.2.1<b.1\/b.2.1<a.1
  .exact h
  .exact (hx (max a.1 b.1) _ _ ⟨a,zS,by ext,by ext h1 h,rfl⟩ ⟨b,r9,by ext,by ext h2 h,rfl⟩).elim
 have own:∀{L:List Row},bL L->L.Pairwise ku:=λ{L} h=>h.2.imp λ{a b} z=>.inl z
 have Hw:(ie A B++(cj A sb++cj B sa)).Pairwise ku:=by
  refine gP.mpr ⟨own c1,gP.mpr ⟨own a1,own b1,apart a1.1 b1.1 λx c d h1 h2=>?_⟩,λa zS b r9=>?_⟩
  .obtain ⟨k1,k2⟩:=(a3 x c).mp h1
   obtain ⟨k3,k4⟩:=(b3 x d).mp h2
   rw [GJ,u7 cb] at *
   exact k2 (by rw [k3];exact λz=>nomatch z)
  .rcases bT.mp r9 with r9 | r9
   .refine apart c1.1 a1.1 (λx c d h1 h2=>?_) a zS b r9
    obtain ⟨p,q,k1,k2,_⟩:=(c2 x c).mp h1
    obtain ⟨_,k4⟩:=(a3 x d).mp h2
    exact k4 ((GJ x).mpr (by rw [k2];exact λz=>nomatch z))
   .refine apart c1.1 b1.1 (λx c d h1 h2=>?_) a zS b r9
    obtain ⟨p,q,k1,k2,_⟩:=(c2 x c).mp h1
    obtain ⟨_,k4⟩:=(b3 x d).mp h2
    exact k4 ((M6 x).mpr (by rw [k1];exact λz=>nomatch z))
 have mo:=b6H ca cb SA SB
 have dR:(ie A B++(cj A sb++cj B sa)).length<lI:=by
  rw [cM,cM]
  ext hl hN ll lm mo
 obtain ⟨ts,es,Y3,S4,Gc⟩:=b1L MH Hw dR
 have G2:∀x c,Val (ie A B++(cj A sb++cj B sa)) x c↔m6 (look A x) (look B x)=some c:=λx c=>by
  rw [Val.app,Val.app,c2,a3,b3,M6,GJ,u7 ca,u7 cb]
  cases look A x with
  | none=>cases look B x<;>simp [m6]
  | some a=>cases look B x<;>simp [m6,eq_comm]
 have uk:∀r∈ts,ar (10^140) r:=λr hr=>by
  have rT:=Gc.subset hr
  have hle:=MH r rT
  rcases bT.mp rT with h | h
  .obtain ⟨m,_,_,k1,k2,k3,k4,k5,k6,k7,k8,k9⟩:=K4 h
   have q1:=ha _ k1
   have q2:=hb _ k2
   have v1:=va _ _ (lS ca k1 (x:=r.1) (by ext k3 k5) (by ext hle k4 k7))
   have v2:=vb _ _ (lS cb k2 (x:=r.1) (by ext k3 k5) (by ext hle k4 k7))
   have e1:r.at r.1=r.2.2.1:=by unfold Row.at;simp
   have e2:=k9 r.1 (bF _) hle
   rw [e1] at e2
   unfold ar at *
   ext hV hC hle k4 k7 k8 q1 q2 v1 v2 e2
  .have key:∀{L:List Row} {q:Row},bL L->(∀r∈L,ar (10^140) r)->(∀x c,look L x=some c->(-V<=x/\x<=V)/\(-C<=c/\c<=C))->(∃r∈L,r.1<=q.1/\q.2.1<=r.2.1/\q.2.2.1=r.at q.1/\q.2.2.2=r.2.2.2)->q.1<=q.2.1->ar (10^140) q:=λ{L q} hA hL hv ⟨z,hz,k1,k2,k3,k4⟩ hq=>by
    have q1:=hL z hz
    have v1:=hv _ _ (lS hA hz (x:=q.1) (by ext k1) (by ext hq k2))
    unfold ar at *
    rw [k3,k4]
    ext hC hq k1 k2 q1 v1
   rcases bT.mp h with h | h
   .exact key ca ha va (a2 r h) hle
   .exact key cb hb vb (b2 r h) hle
 obtain ⟨fs,ef,L⟩:=sM Y3 uk (by rw [Gc.length_eq];ext hN dR) (ro:=false)
 have lk:∀x,look fs x=m6 (look A x) (look B x):=λx=>Ke L.canon.cL λc=>by rw [L.val,S4,G2]
 refine ⟨fs,?_,L.canon,lk,?_⟩
 .refine Wo.eq (rA.mpr ?_)
  unfold KA
  walk_at "vc"
  rw [eb,ea]
  walk_at "vc"
  rw [oa,ob]
  walk_at "vc"
  rw [b4E (λr hr=>(ha r hr).mono (by decide)) (λr hr=>(hb r hr).mono (by decide)) (by ext hl hN) (by ext hl hN)]
  walk_at "vc"
  rw [<-eJ,<-eJ,es]
  walk_at "vc"
  rw [ef]
  walk_at "vc"
  simp only [aX,cM]
  ext hl hN ll mo
 .have:=L.len
  have:=Gc.length_eq
  rw [cM,cM] at this
  lia
theorem u4{fs:List Row}(h:Canon fs){B C:Int}(hC:0<=C)(hb:∀x c,look fs x=some c->(-B<=x/\x<=B)/\(-C<=c/\c<=C)):∀r∈fs,(-B<=r.1/\r.1<=B)/\(-B<=r.2.1/\r.2.1<=B)/\(-C<=r.2.2.1/\r.2.2.1<=C)/\(-(2*C)<=r.2.2.2/\r.2.2.2<=2*C):=λr hr=>by
 have ok:=h.1 r hr
 unfold q8 at ok
 have l1:=lS h.cL hr (x:=r.1) (bF _) ok.1
 have l2:=lS h.cL hr (x:=r.2.1) ok.1 (bF _)
 have b1:=hb _ _ l1
 have b2:=hb _ _ l2
 have e1:r.at r.1=r.2.2.1:=by unfold Row.at;simp
 rw [e1] at b1
 refine ⟨b1.1,b2.1,b1.2,?_⟩
 by_cases hs:r.1=r.2.1
 .rw [ok.2 hs];ext hC
 .have l3:=lS h.cL hr (x:=r.1+1) (by ext) (by ext ok hs)
  have b3:=hb _ _ l3
  have e3:r.at (r.1+1)=r.2.2.1+r.2.2.2:=by unfold Row.at;rw [show r.1+1-r.1=1 by ext,v5]
  rw [e3] at b3
  ext b1 b3
noncomputable def Gl(φ:List D->Option Sl):SF:=
 (ai (cC (bZ (ae gf (aT (bV 0)) (eC (.int 2))))
 (az (ir (cP (eV 0)) (av (bV 0) (eC (.int 0))) (aP aa))) cR)
 (ai (aY 1 (ae bN (aT (bV 0)) (eC (.int 2))))
 (az (aF 2 jr (af (aF 1 φ (af (dZ (bV 0) ec (dX (eV 1))) aa)) (af (aF 1 φ (af (dZ (bV 0) (dX (eV 1)) ec) aa)) aa))))))
theorem Ph{α:Type}(xs:List α){k:Nat}(h:k<=xs.length):iu xs none (some (k:Int))=xs.take k:=by
 unfold iu
 have e1:HT.bD xs.length 0 none=0:=rfl
 have e2:HT.bD xs.length xs.length (some (k:Int))=min k xs.length:=HT.mH _ _ k
 rw [e1,e2,Dz,Nat.sub_zero,Iy h]
theorem JT{α:Type}(xs:List α){k:Nat}(h:k<=xs.length):iu xs (some (k:Int)) none=xs.drop k:=by
 unfold iu
 have e1:HT.bD xs.length 0 (some (k:Int))=min k xs.length:=HT.mH _ _ k
 have e2:HT.bD xs.length xs.length none=xs.length:=rfl
 rw [e1,e2,Iy h,uJ]
 rw [kG]
 ext
structure FV(V C:Int)(f:List Row):Prop where
 canon:Canon f
 bd:∀x c,look f x=some c->(-V<=x/\x<=V)/\(-C<=c/\c<=C)
theorem FV.row{V C:Int}{f:List Row}(h:FV V C f)(hV:V<=10^140)(hC:0<=C/\2*C<=10^140):∀r∈f,ar (10^140) r:=λr hr=>by
 have:=u4 h.canon hC.1 h.bd r hr
 unfold ar
 ext hV hC this
def lj(Fs:List (List Row))(f:List Row):Prop:=∀x v,look f x=some v↔(∃g∈Fs,look g x=some v)/\∀g∈Fs,∀w,look g x=some w->v<=w
theorem lj.fv{V C:Int}{Fs:List (List Row)}{f:List Row}(h:lj Fs f)(cf:Canon f)(hF:∀g∈Fs,FV V C g):FV V C f:=⟨cf,λx c e=>by
 obtain ⟨⟨g,hg,k⟩,_⟩:=(h x c).mp e
 exact (hF g hg).bd x c k⟩
theorem lj.merge{Fs Gs:List (List Row)}{a b f:List Row}(ha:lj Fs a)(hb:lj Gs b)(lk:∀x,look f x=m6 (look a x) (look b x)):lj (Fs++Gs) f:=λx v=>by
 rw [lk]
 have no:∀{Hs:List (List Row)} {h:List Row},lj Hs h->look h x=none->∀g∈Hs,look g x=none:=λ{Hs h} hh e=>by
  have key:∀Ks:List (List Row),(∀g∈Ks,g∈Hs)->(∃g∈Ks,look g x≠none)->∃v,(∃g∈Ks,look g x=some v)/\∀g∈Ks,∀w,look g x=some w->v<=w:=λKs=>by
   induction Ks with
   | nil=>rintro _ ⟨g,hg,_⟩;cases hg
   | cons k Ks ih =>
    intro hs hex
    by_cases hK:∃g∈Ks,look g x≠none
    .obtain ⟨v,⟨g,hg,e1⟩,m⟩:=ih (λg hg=>hs g (br _ hg)) hK
     cases ek:look k x with
     | none=>exact ⟨v,⟨g,br _ hg,e1⟩,λq hq w hw=>by
       rcases bq.mp hq with rfl | hq
       .rw [ek] at hw;cases hw
       .exact m q hq w hw⟩
     | some u =>
      by_cases zl:u<=v
      .exact ⟨u,⟨k,aZ ..,ek⟩,λq hq w hw=>by
        rcases bq.mp hq with rfl | hq
        .rw [ek] at hw;cases hw;exact bF _
        .exact v9 zl (m q hq w hw)⟩
      .exact ⟨v,⟨g,br _ hg,e1⟩,λq hq w hw=>by
        rcases bq.mp hq with rfl | hq
        .rw [ek] at hw;cases hw;ext zl
        .exact m q hq w hw⟩
    .obtain ⟨g,hg,e1⟩:=hex
     rcases bq.mp hg with rfl | hg
     .cases ek:look g x with
      | none=>exact absurd ek e1
      | some u=>exact ⟨u,⟨g,aZ ..,ek⟩,λq hq w hw=>by
        rcases bq.mp hq with rfl | hq
        .rw [ek] at hw;cases hw;exact bF _
        .exact absurd ⟨q,hq,by rw [hw];exact λz=>nomatch z⟩ hK⟩
     .exact absurd ⟨g,hg,e1⟩ hK
  intro g hg
  refine Ov λz=>?_
  obtain ⟨v,hv⟩:=key Hs (λ_ h=>h) ⟨g,hg,z⟩
  rw [(hh x v).mpr hv] at e
  cases e
 cases ea:look a x with
 | none =>
  have n1:=no ha ea
  show look b x=some v↔_
  rw [hb x v]
  constructor
  .rintro ⟨⟨g,hg,e⟩,m⟩
   exact ⟨⟨g,fQ _ hg,e⟩,λq hq w hw=>(bT.mp hq).elim (λz=>by rw [n1 q z] at hw;cases hw) λz=>m q z w hw⟩
  .rintro ⟨⟨g,hg,e⟩,m⟩
   exact ⟨(bT.mp hg).elim (λz=>by rw [n1 g z] at e;cases e) λz=>⟨g,z,e⟩,λq hq=>m q (fQ _ hq)⟩
 | some u =>
  obtain ⟨⟨g1,C1,e1⟩,m1⟩:=(ha x u).mp ea
  cases eb:look b x with
  | none =>
   have n2:=no hb eb
   show some u=some v↔_
   constructor
   .intro z
    cases z
    exact ⟨⟨g1,gp _ C1,e1⟩,λq hq w hw=>(bT.mp hq).elim (λz=>m1 q z w hw) λz=>by rw [n2 q z] at hw;cases hw⟩
   .rintro ⟨⟨g,hg,e⟩,m⟩
    rcases bT.mp hg with z | z
    .have k1:=m g1 (gp _ C1) u e1
     have k2:=m1 g z v e
     rw [show u=v by ext k1 k2]
    .rw [n2 g z] at e;cases e
  | some t =>
   obtain ⟨⟨g2,CZ,e2⟩,m2⟩:=(hb x t).mp eb
   show some (min u t)=some v↔_
   constructor
   .intro z
    cases z
    refine ⟨?_,λq hq w hw=>?_⟩
    .by_cases c:u<=t
     .exact ⟨g1,gp _ C1,by rw [e1,show min u t=u by ext c]⟩
     .exact ⟨g2,fQ _ CZ,by rw [e2,show min u t=t by ext c]⟩
    .rcases bT.mp hq with z | z
     .have:=m1 q z w hw;ext this
     .have:=m2 q z w hw;ext this
   .rintro ⟨⟨g,hg,e⟩,m⟩
    have k1:=m g1 (gp _ C1) u e1
    have k2:=m g2 (fQ _ CZ) t e2
    congr 1
    rcases bT.mp hg with z | z
    .have:=m1 g z v e;ext k1 k2 this
    .have:=m2 g z v e;ext k1 k2 this
def xC(φ:List D->Option Sl)(K n m:Nat):Prop:=∀{V C:Int} {Fs:List (List Row)} {r:Bool},V<=10^140->0<=C/\2*C<=10^140->(∀f∈Fs,FV V C f/\f.length<=K)->Fs≠[]->Fs.length<=n->∃fs:List Row,φ [.lst r (Fs.map λf=>.tup (f.map Row.d))]=some (.sh (.tup (fs.map Row.d)))/\Canon fs/\lj Fs fs/\fs.length<=m
theorem Kd{φ ψ:List D->Option Sl}{K:Nat}(W:∀{a0:D} {Q:Sl->Prop},Wo (ψ [a0]) Q↔Wo (Gl φ [.sh a0,.no]) (aG Q)):xC ψ K 1 K:=λ{V C Fs r} hV hC hF aW hl=>by
 match Fs,aW,hl with
 | [f],_,_ =>
  refine ⟨f,Wo.eq (W.mpr ?_),(hF f (aZ ..)).1.canon,λx v=>?_,(hF f (aZ ..)).2⟩
  .unfold Gl
   dsimp only [jZ]
   walk_at "vc"
   exact λz=>nomatch z
  .exact ⟨λe=>⟨⟨f,aZ ..,e⟩,λg hg w hw=>by rw [bP.mp hg] at hw;rw [e] at hw;cases hw;exact bF _⟩,λ⟨⟨g,hg,e⟩,_⟩=>by rw [bP.mp hg] at e;exact e⟩
theorem u6{φ ψ:List D->Option Sl}{K n m:Nat}(hn:n<=1000)(hm:8*m<=lI)(XD:K<=6*m)(h:xC φ K n m)(W:∀{a0:D} {Q:Sl->Prop},Wo (ψ [a0]) Q↔Wo (Gl φ [.sh a0,.no]) (aG Q)):xC ψ K (2*n) (6*m):=λ{V C Fs r} hV hC hF aW hl=>by
 by_cases hlen:Fs.length<2
 .have km:=nE.mpr aW
  obtain ⟨fs,e,c,k,l⟩:=Kd W hV hC hF aW (by ext hlen) (r:=r)
  exact ⟨fs,e,c,k,by ext XD l⟩
 .obtain ⟨k,hk⟩:∃k:Nat,(Fs.length:Int)/2=k:=⟨((Fs.length:Int)/2).toNat,by lia⟩
  have vV:1<=k:=by lia
  have m9:k<Fs.length:=by lia
  have nA:Fs.take k≠[]:=pq (by rw [iA];ext vV m9)
  have nB:Fs.drop k≠[]:=pq (by rw [kG];ext m9)
  have Nx:∀f∈Fs.take k,FV V C f/\f.length<=K:=λf hf=>hF f (qP hf)
  have Nw:∀f∈Fs.drop k,FV V C f/\f.length<=K:=λf hf=>hF f (qO hf)
  obtain ⟨A,ea,cA,mA,lA⟩:=h (r:=false) hV hC Nx nA (by rw [iA];lia)
  obtain ⟨B,eb,cB,mB,lB⟩:=h (r:=false) hV hC Nw nB (by rw [kG];lia)
  have vA:=mA.fv cA λf hf=>(Nx f hf).1
  have vB:=mB.fv cB λf hf=>(Nw f hf).1
  obtain ⟨fs,ef,cf,lk,lf⟩:=P5 (V:=V) (C:=C) cA.cL cB.cL (vA.row hV hC) (vB.row hV hC) hV (by ext hC) vA.bd vB.bd (by ext hm lA lB)
  have mf:=mA.merge mB lk
  rw [nF] at mf
  refine ⟨fs,Wo.eq (W.mpr ?_),cf,mf,by ext lA lB lf⟩
  unfold Gl
  walk_at "v1"
  refine rg ?_ ?_
  .walk_at "vc"
   rw [aX]
   ext hlen
  walk_at "v1"
  rw [aX,hk,u5,u5,Ph _ (by ext m9),JT _ (by ext m9)]
  walk_at "v1"
  refine ⟨P2 (by decide) (by decide),?_⟩
  rw [ea]
  walk_at "v1"
  rw [eb]
  walk_at "v1"
  rw [ef]
  walk_at "vc"
noncomputable def fl:List (Int×Int)->Int->Int
 | [],_=>0
 | p::L,t=>if t<=p.2 then p.1*t else p.1*p.2+fl L (t-p.2)
noncomputable def gl:List (Int×Int)->Int->Int
 | [],_=>0
 | p::L,l=>p.2*min 0 (p.1-l)+gl L l
noncomputable def tw:List (Int×Int)->Int
 | []=>0
 | p::L=>p.2+tw L
def Wd(L:List (Int×Int)):Prop:=∀p∈L,0<=p.2
theorem Wd.tl{p:Int×Int}{L:List (Int×Int)}(h:Wd (p::L)):0<=p.2/\Wd L:=⟨h p (aZ ..),λq hq=>h q (br _ hq)⟩
theorem D8:∀{L:List (Int×Int)},Wd L->0<=tw L
 | [],_=>bF _
 | p::L,h=>by have:=D8 h.tl.2;have:=h.tl.1;unfold tw;lia
theorem Qa{l:Int}:∀{L:List (Int×Int)},(∀p∈L,l<=p.1)->gl L l=0
 | [],_=>rfl
 | p::L,h=>by
  have:=h p (aZ ..)
  unfold gl
  rw [Qa λq hq=>h q (br _ hq),show min 0 (p.1-l)=0 by ext this]
  simp
def Up(L:List (Int×Int)):Prop:=L.Pairwise λa b=>a.1<=b.1
theorem OL:∀{L:List (Int×Int)},L≠[]->Wd L->Up L->∀{t:Int},0<=t->t<=tw L->∃p∈L,fl L t=p.1*t+gl L p.1
 | [],h,_,_,_,_,_=>(h rfl).elim
 | p::L,_,h,hu,t,h0,h1=>by
  obtain ⟨CQ,G6⟩:=fC.mp hu
  have nj:t<=p.2+tw L:=h1
  by_cases ht:t<=p.2
  .refine ⟨p,aZ ..,?_⟩
   unfold fl
   rw [if_pos ht,Qa (l:=p.1)]
   .ext
   .intro q hq
    rcases bq.mp hq with rfl | hq
    .exact bF _
    .exact CQ q hq
  .have hn:L≠[]:=λz=>by subst z;simp [tw] at nj;ext ht nj
   obtain ⟨q,hq,e⟩:=OL hn h.tl.2 G6 (t:=t-p.2) (by ext ht) (by ext nj)
   refine ⟨q,br _ hq,?_⟩
   have Xt:=CQ q hq
   unfold fl gl
   rw [if_neg ht,e,show min 0 (p.1-q.1)=p.1-q.1 by ext Xt,Ay,Ay,Il p.2 p.1,Il p.2 q.1]
   ext
noncomputable def cs:List (Int×Int)->Int
 | []=>0
 | p::L=>p.1*p.2+cs L
theorem Kx{L:List (Int×Int)}(h:Wd L):fl L 0=0:=by
 cases L with
 | nil=>rfl
 | cons r P=>unfold fl;rw [if_pos h.tl.1];simp
theorem b8e(L M:List (Int×Int)):tw (L++M)=tw L+tw M:=by
 induction L with
 | nil=>show tw M=0+tw M;ext
 | cons p L ih=>show p.2+tw (L++M)=p.2+tw L+tw M;ext ih
theorem b9w(L M:List (Int×Int)):cs (L++M)=cs L+cs M:=by
 induction L with
 | nil=>show cs M=0+cs M;ext
 | cons p L ih=>show p.1*p.2+cs (L++M)=p.1*p.2+cs L+cs M;ext ih
noncomputable def jT(q:Int×Int)(x p:Int):List Row:=if q.2>0 then [(x+1,x+q.2,p+q.1,q.1)] else []
noncomputable def mk:List (Int×Int)->Int->Int->List Row
 | [],_,_=>[]
 | q::L,x,p=>jT q x p++mk L (x+q.2) (p+q.1*q.2)
theorem PD:∀(L:List (Int×Int)) (q:Int×Int) (x p:Int),mk (L++[q]) x p=mk L x p++jT q (x+tw L) (p+cs L)
 | [],q,x,p=>by show jT q x p++[]=[]++jT q (x+0) (p+0);simp
 | r::L,q,x,p=>by
  show jT r x p++mk (L++[q]) (x+r.2) (p+r.1*r.2)=(jT r x p++mk L (x+r.2) (p+r.1*r.2))++jT q (x+(r.2+tw L)) (p+(r.1*r.2+cs L))
  rw [PD L q,fP,show x+r.2+tw L=x+(r.2+tw L) by ext,show p+r.1*r.2+cs L=p+(r.1*r.2+cs L) by ext]
theorem Qe{A B:List Row}{x c:Int}:Val (A++B) x c↔Val A x c\/Val B x c:=by
 unfold Val
 constructor
 .rintro ⟨r,hr,h⟩
  rcases bT.mp hr with hr | hr
  .exact .inl ⟨r,hr,h⟩
  .exact .inr ⟨r,hr,h⟩
 .rintro (⟨r,hr,h⟩ | ⟨r,hr,h⟩)
  .exact ⟨r,gp _ hr,h⟩
  .exact ⟨r,fQ _ hr,h⟩
theorem b6F{q:Int×Int}{x p y c:Int}:Val (jT q x p) y c↔x<y/\y<=x+q.2/\c=p+q.1*(y-x):=by
 unfold jT Val
 have e:∀y,Row.at (x+1,x+q.2,p+q.1,q.1) y=p+q.1*(y-x):=λy=>by
  show p+q.1+q.1*(y-(x+1))=_
  rw [show y-(x+1)=(y-x)-1 by ext,Ay,v5]
  ext
 split
 .constructor
  .rintro ⟨r,hr,h1,h2,h3⟩
   rw [bP.mp hr] at h1 h2 h3
   rw [e] at h3
   dsimp only at h1 h2
   exact ⟨by ext h1,h2,h3⟩
  .rintro ⟨h1,h2,h3⟩
   exact ⟨_,bP.mpr rfl,by dsimp only;ext h1,h2,by rw [e];exact h3⟩
 .constructor
  .rintro ⟨r,hr,_⟩
   exact absurd hr (gz)
  .rintro ⟨h1,h2,h3⟩
   lia
theorem PH:∀{L:List (Int×Int)},Wd L->∀{x p y c:Int},Val (mk L x p) y c↔x<y/\y<=x+tw L/\c=p+fl L (y-x)
 | [],_,x,p,y,c=>by
  constructor
  .rintro ⟨r,hr,_⟩
   exact absurd hr (gz)
  .rintro ⟨h1,h2,h3⟩
   have:y<=x+0:=h2
   ext _ h1 this
 | q::L,h,x,p,y,c=>by
  have hq:=h.tl.1
  have hP:=D8 h.tl.2
  show Val (jT q x p++mk L (x+q.2) (p+q.1*q.2)) y c↔x<y/\y<=x+(q.2+tw L)/\_
  rw [Qe,b6F,PH h.tl.2,show fl (q::L) (y-x)=if y-x<=q.2 then q.1*(y-x) else q.1*q.2+fl L (y-x-q.2) from rfl]
  by_cases hy:y-x<=q.2
  .rw [if_pos hy]
   constructor
   .rintro (⟨h1,h2,h3⟩ | ⟨h1,h2,h3⟩)
    .exact ⟨h1,by ext hP hy,h3⟩
    .ext hy h1
   .rintro ⟨h1,h2,h3⟩
    exact .inl ⟨h1,by ext hy,h3⟩
  .rw [if_neg hy,show y-(x+q.2)=y-x-q.2 by ext]
   constructor
   .rintro (⟨h1,h2,h3⟩ | ⟨h1,h2,h3⟩)
    .ext hy h2
    .exact ⟨by ext hq hy,by ext h2,by ext h3⟩
   .rintro ⟨h1,h2,h3⟩
    exact .inr ⟨by ext hy,by ext h2,by ext h3⟩
noncomputable def Sh:List (List Row)->Int->Int->Prop
 | [],x,c=>x=0/\c=0
 | F::Fs,x,c=>∃y cy z cz,Val F y cy/\Sh Fs z cz/\y+z=x/\cy+cz=c
def Jn(Fs:List (List Row))(x c:Int):Prop:=Sh Fs x c/\∀c',Sh Fs x c'->c<=c'
theorem Sh.app:∀{Fs Gs:List (List Row)} {x c:Int},Sh (Fs++Gs) x c↔∃y cy z cz,Sh Fs y cy/\Sh Gs z cz/\y+z=x/\cy+cz=c
 | [],Gs,x,c=>by
  constructor
  .intro h
   exact ⟨0,0,x,c,⟨rfl,rfl⟩,h,by ext,by ext⟩
  .rintro ⟨y,cy,z,cz,⟨rfl,rfl⟩,h,rfl,rfl⟩
   rw [Io,Io]
   exact h
 | F::Fs,Gs,x,c=>by
  constructor
  .rintro ⟨y,cy,z,cz,v,h,rfl,rfl⟩
   obtain ⟨p,cp,q,cq,h1,h2,rfl,rfl⟩:=Sh.app.mp h
   exact ⟨y+p,cy+cp,q,cq,⟨y,cy,p,cp,v,h1,rfl,rfl⟩,h2,by ext,by ext⟩
  .rintro ⟨y,cy,z,cz,⟨p,cp,q,cq,v,h1,rfl,rfl⟩,h2,rfl,rfl⟩
   exact ⟨p,cp,q+z,cq+cz,v,Sh.app.mpr ⟨q,cq,z,cz,h1,h2,rfl,rfl⟩,by ext,by ext⟩
theorem Sh.perm{Fs Gs:List (List Row)}(h:Fs.Perm Gs):∀{x c:Int},Sh Fs x c->Sh Gs x c:=by
 induction h with
 | nil=>exact id
 | cons F _ ih=>rintro x c ⟨y,cy,z,cz,v,h,e1,e2⟩;exact ⟨y,cy,z,cz,v,ih h,e1,e2⟩
 | swap F G Fs =>
  rintro x c ⟨y,cy,z,cz,v,⟨p,cp,q,cq,w,h,rfl,rfl⟩,rfl,rfl⟩
  exact ⟨p,cp,y+q,cy+cq,w,⟨y,cy,q,cq,v,h,rfl,rfl⟩,by ext,by ext⟩
 | trans _ _ i1 i2=>intro x c h;exact i2 (i1 h)
theorem Jn.perm{Fs Gs:List (List Row)}(h:Fs.Perm Gs){x c:Int}(j:Jn Fs x c):Jn Gs x c:=⟨j.1.perm h,λc' k=>j.2 c' (k.perm h.symm)⟩
theorem Jn.merge{Fs Gs:List (List Row)}{f:List Row}(hf:∀x c,Val f x c↔Jn Fs x c)(ex:∀x c,Sh Fs x c->∃m,Jn Fs x m){x c:Int}:Jn (f::Gs) x c↔Jn (Fs++Gs) x c:=by
 have up:∀{x c},Sh (f::Gs) x c->Sh (Fs++Gs) x c:=λ{x c} ⟨y,cy,z,cz,v,h,e1,e2⟩=>Sh.app.mpr ⟨y,cy,z,cz,((hf _ _).mp v).1,h,e1,e2⟩
 have dn:∀{x c},Sh (Fs++Gs) x c->∃c',c'<=c/\Sh (f::Gs) x c':=λ{x c} h=>by
  obtain ⟨y,cy,z,cz,h1,h2,e1,e2⟩:=Sh.app.mp h
  obtain ⟨m,hm⟩:=ex y cy h1
  exact ⟨m+cz,by have:=hm.2 _ h1;ext e2 this,y,m,z,cz,(hf _ _).mpr hm,h2,e1,rfl⟩
 constructor
 .rintro ⟨h,k⟩
  refine ⟨up h,λc' h'=>?_⟩
  obtain ⟨DZ,l,C7⟩:=dn h'
  have:=k DZ C7
  ext l this
 .rintro ⟨h,k⟩
  obtain ⟨DZ,l,C7⟩:=dn h
  have:=k DZ (up C7)
  have:DZ=c:=by ext l this
  subst this
  exact ⟨C7,λc' h'=>k c' (up h')⟩
noncomputable def St:List (Int×Int)->Int->Int->Prop
 | [],t,k=>t=0/\k=0
 | q::L,t,k=>∃a u v,(0<=a/\a<=q.2)/\St L u v/\a+u=t/\q.1*a+v=k
theorem St.mQ:∀{L:List (Int×Int)} {t k:Int},St L t k->0<=t/\t<=tw L
 | [],t,k,h=>by unfold tw;have:=h.1;ext this
 | q::L,t,k,⟨a,u,v,ha,h,e,_⟩=>by have:=St.mQ h;unfold tw;ext ha e this
theorem St.ge:∀{L:List (Int×Int)} {t k:Int},St L t k->∀l,l*t+gl L l<=k
 | [],t,k,⟨h1,h2⟩,l=>by subst h1 h2;unfold gl;simp
 | q::L,t,k,⟨a,u,v,ha,h,e1,e2⟩,l=>by
  have i:=St.ge h l
  subst e1 e2
  unfold gl
  have m:q.2*min 0 (q.1-l)<=(q.1-l)*a:=by
   by_cases hs:0<=q.1-l
   .rw [Int.min_eq_left hs,v7]
    exact mw hs ha.1
   .rw [Int.min_eq_right (by ext hs),Il]
    exact Oq (by ext hs) ha.2
  rw [Ax]
  rw [Int.sub_mul] at m
  ext i m
theorem St.fl:∀{L:List (Int×Int)},Wd L->∀{t:Int},0<=t->t<=tw L->St L t (fl L t)
 | [],_,t,h0,h1=>⟨by unfold tw at h1;ext h0 h1,rfl⟩
 | q::L,h,t,h0,h1=>by
  obtain ⟨hq,hL⟩:=h.tl
  unfold My.fl
  unfold tw at h1
  by_cases ht:t<=q.2
  .rw [if_pos ht]
   have:=St.fl hL (t:=0) (bF _) (D8 hL)
   rw [Kx hL] at this
   exact ⟨t,0,0,⟨h0,ht⟩,this,by ext,by ext⟩
  .rw [if_neg ht]
   exact ⟨q.2,t-q.2,_,⟨hq,bF _⟩,St.fl hL (by ext ht) (by ext h1),by ext,rfl⟩
theorem St.perm{L M:List (Int×Int)}(h:L.Perm M):∀{t k:Int},St L t k->St M t k:=by
 induction h with
 | nil=>exact id
 | cons q _ ih=>rintro t k ⟨a,u,v,ha,h,e1,e2⟩;exact ⟨a,u,v,ha,ih h,e1,e2⟩
 | swap q p L =>
  rintro t k ⟨a,u,v,ha,⟨b,u',v',hb,h,rfl,rfl⟩,rfl,rfl⟩
  exact ⟨b,a+u',p.1*a+v',hb,⟨a,u',v',ha,h,rfl,rfl⟩,by ext,by ext⟩
 | trans _ _ i1 i2=>intro t k h;exact i2 (i1 h)
theorem St.least{L:List (Int×Int)}(hn:L≠[])(hw:Wd L)(hu:Up L){t k:Int}(h:St L t k):My.fl L t<=k:=by
 obtain ⟨d1,d2⟩:=h.mQ
 obtain ⟨p,_,e⟩:=OL hn hw hu d1 d2
 have:=h.ge p.1
 ext e this
noncomputable def tG(r:Row):Int:=r.2.1-r.1
noncomputable def pk(r:Row):Int×Int:=(r.2.2.2,tG r)
noncomputable def X0(R:List Row):Int:=(R.map λr=>r.1).sum
noncomputable def P0(R:List Row):Int:=(R.map λr=>r.2.2.1).sum
noncomputable def one(R:List Row):List (List Row):=R.map λr=>[r]
theorem fZ:∀{R:List Row} {x c:Int},Sh (one R) x c↔St (R.map pk) (x-X0 R) (c-P0 R)
 | [],x,c=>by unfold one X0 P0;simp [Sh,St]
 | r::R,x,c=>by
  have ih:=@fZ R
  constructor
  .rintro ⟨y,cy,z,cz,⟨q,hq,h1,h2,h3⟩,h,e1,e2⟩
   rw [bP.mp hq] at h1 h2 h3
   refine ⟨y-r.1,z-X0 R,cz-P0 R,⟨by ext h1,by show _<=tG r;unfold tG;ext h2⟩,ih.mp h,?_,?_⟩
   .unfold X0;rw [eM,pS];ext e1
   .unfold P0;rw [eM,pS]
    show r.2.2.2*(y-r.1)+_=_
    unfold Row.at at h3
    ext h3 e2
  .rintro ⟨a,u,v,ha,h,e1,e2⟩
   have Nt:a<=tG r:=ha.2
   unfold tG at Nt
   unfold X0 at e1
   unfold P0 at e2
   rw [eM,pS] at e1 e2
   refine ⟨r.1+a,r.2.2.1+r.2.2.2*a,X0 R+u,P0 R+v,⟨r,bP.mpr rfl,by ext ha,by ext Nt,?_⟩,ih.mpr ?_,?_,?_⟩
   .unfold Row.at
    rw [show r.1+a-r.1=a by ext]
   .rw [show X0 R+u-X0 R=u by ext,show P0 R+v-P0 R=v by ext];exact h
   .unfold X0;ext e1
   .unfold P0
    have e2:r.2.2.2*a+v=c-(r.2.2.1+(R.map λr=>r.2.2.1).sum):=e2
    ext e2
noncomputable def prod:List (List Row)->List (List Row)
 | []=>[[]]
 | F::Fs=>F.flatMap λr=>(prod Fs).map λR=>r::R
theorem cJ:∀{Fs:List (List Row)} {x c:Int},Sh Fs x c↔∃R∈prod Fs,Sh (one R) x c
 | [],x,c=>by unfold prod;simp [one,Sh]
 | F::Fs,x,c=>by
  constructor
  .rintro ⟨y,cy,z,cz,⟨r,hr,h1,h2,h3⟩,h,e1,e2⟩
   obtain ⟨R,hR,k⟩:=cJ.mp h
   exact ⟨r::R,iw.mpr ⟨r,hr,cH.mpr ⟨R,hR,rfl⟩⟩,y,cy,z,cz,⟨r,bP.mpr rfl,h1,h2,h3⟩,k,e1,e2⟩
  .rintro ⟨S,hS,k⟩
   obtain ⟨r,hr,hS⟩:=iw.mp hS
   obtain ⟨R,hR,rfl⟩:=cH.mp hS
   obtain ⟨y,cy,z,cz,⟨q,hq,h1,h2,h3⟩,h,e1,e2⟩:=k
   rw [bP.mp hq] at h1 h2 h3
   exact ⟨y,cy,z,cz,⟨r,hr,h1,h2,h3⟩,cJ.mpr ⟨R,hR,h⟩,e1,e2⟩
theorem KP:∀{Fs:List (List Row)} {R:List Row},R∈prod Fs->R.length=Fs.length/\∀r∈R,∃F∈Fs,r∈F
 | [],R,h=>by
  rw [bP.mp h]
  exact ⟨rfl,λr z=>nomatch z⟩
 | F::Fs,S,h=>by
  obtain ⟨r,hr,hS⟩:=iw.mp h
  obtain ⟨R,hR,rfl⟩:=cH.mp hS
  obtain ⟨i1,i2⟩:=KP hR
  refine ⟨by simp [i1],λq hq=>?_⟩
  rcases bq.mp hq with rfl | hq
  .exact ⟨F,aZ ..,hr⟩
  .obtain ⟨G,hG,k⟩:=i2 q hq
   exact ⟨G,br _ hG,k⟩
theorem b6L{Fs:List (List Row)}{φ:List Row->List Row}{f:List Row}(hp:∀R∈prod Fs,∀x c,look (φ R) x=some c↔Jn (one R) x c)(hx:∀R∈prod Fs,∀x c,Sh (one R) x c->∃m,Jn (one R) x m)
  (hm:∀x v,look f x=some v↔(∃R∈prod Fs,look (φ R) x=some v)/\∀R∈prod Fs,∀w,look (φ R) x=some w->v<=w)(x c:Int):look f x=some c↔Jn Fs x c:=by
 rw [hm]
 constructor
 .rintro ⟨⟨R,hR,e⟩,m⟩
  refine ⟨cJ.mpr ⟨R,hR,((hp R hR x c).mp e).1⟩,λc' h'=>?_⟩
  obtain ⟨S,hS,k⟩:=cJ.mp h'
  obtain ⟨v,hv⟩:=hx S hS x c' k
  have:=m S hS v ((hp S hS x v).mpr hv)
  have:=hv.2 c' k
  lia
 .rintro ⟨h,m⟩
  obtain ⟨R,hR,k⟩:=cJ.mp h
  refine ⟨⟨R,hR,(hp R hR x c).mpr ⟨k,λc' h'=>m c' (cJ.mpr ⟨R,hR,h'⟩)⟩⟩,λS hS w e=>m w (cJ.mpr ⟨S,hS,((hp S hS x w).mp e).1⟩)⟩
def Ce(q:Int×Int):Prop:=(-(2*10^130)<=q.1/\q.1<=2*10^130)/\(0<=q.2/\q.2<=2*10^60)/\(-(2*10^130)<=q.1*q.2/\q.1*q.2<=2*10^130)
def SW(L:List (Int×Int)):Prop:=∀q∈L,Ce q
theorem SW.wd{L:List (Int×Int)}(h:SW L):Wd L:=λq hq=>(h q hq).2.1.1
theorem SW.tl{p:Int×Int}{L:List (Int×Int)}(h:SW (p::L)):Ce p/\SW L:=⟨h p (aZ ..),λq hq=>h q (br _ hq)⟩
theorem JI:∀{L:List (Int×Int)},SW L->0<=tw L/\tw L<=L.length*(2*10^60)
 | [],_=>by show 0<=(0:Int)/\(0:Int)<=_;simp
 | p::L,h=>by
  have:=JI h.tl.2
  have hq:=h.tl.1
  unfold Ce at hq
  show 0<=p.2+tw L/\p.2+tw L<=((L.length+1:Nat):Int)*(2*10^60)
  omega
theorem wQ:∀{L:List (Int×Int)},SW L->∀{x p:Int} {r:Row},r∈mk L x p->(x<r.1/\r.1<=r.2.1/\r.2.1<=x+tw L)/\(-(L.length*(2*10^130))<=r.2.2.1-p/\r.2.2.1-p<=L.length*(2*10^130))/\(-(2*10^130)<=r.2.2.2/\r.2.2.2<=2*10^130)
 | [],_,x,p,r,hr=>absurd hr gz
 | q::L,h,x,p,r,hr=>by
  have hq:=h.tl.1
  unfold Ce at hq
  have hP:=(JI h.tl.2).1
  have hm:=hq.2.2
  show _/\(-(((L.length+1:Nat):Int)*(2*10^130))<=_/\_<=((L.length+1:Nat):Int)*(2*10^130))/\_
  rw [show tw (q::L)=q.2+tw L from rfl]
  rcases bT.mp (show r∈jT q x p++mk L (x+q.2) (p+q.1*q.2) from hr) with hr | hr
  .unfold jT at hr
   split at hr
   .rw [bP.mp hr]
    dsimp only
    omega
   .exact absurd hr gz
  .have:=wQ h.tl.2 hr
   generalize q.1*q.2=z at *
   omega
theorem PF:∀{L:List (Int×Int)},SW L->∀(x p:Int),bL (mk L x p)
 | [],_,x,p=>⟨λ_ z=>absurd z gz,.nil⟩
 | q::L,h,x,p=>by
  refine ⟨λr hr=>(wQ h hr).1.2.1,?_⟩
  show (jT q x p++mk L (x+q.2) (p+q.1*q.2)).Pairwise _
  refine gP.mpr ⟨?_,(PF h.tl.2 _ _).2,λa ha b hb=>?_⟩
  .unfold jT
   split
   .exact pV _ _
   .exact .nil
  .have:=(wQ h.tl.2 hb).1.1
   unfold jT at ha
   split at ha
   .rw [bP.mp ha]
    exact this
   .exact absurd ha gz
noncomputable def rP(L:List (Int×Int))(x p:Int):List Row:=(x,x,p,0)::mk L x p
theorem b6E{L:List (Int×Int)}(h:SW L)(x p:Int):bL (rP L x p):=by
 refine ⟨λr hr=>?_,fC.mpr ⟨λr hr=>(wQ h hr).1.1,(PF h x p).2⟩⟩
 rcases bq.mp hr with rfl | hr
 .exact bF _
 .exact (wQ h hr).1.2.1
theorem b6D{L:List (Int×Int)}(h:Wd L){x p y c:Int}:Val (rP L x p) y c↔x<=y/\y<=x+tw L/\c=p+fl L (y-x):=by
 have hP:=D8 h
 rw [show rP L x p=[(x,x,p,0)]++mk L x p from rfl,Qe,PH h]
 have e:Val [(x,x,p,0)] y c↔y=x/\c=p:=by
  unfold Val
  constructor
  .rintro ⟨r,hr,h1,h2,h3⟩
   rw [bP.mp hr] at h1 h2 h3
   unfold Row.at at h3
   dsimp only at h1 h2 h3
   exact ⟨by ext h1 h2,by ext h3⟩
  .rintro ⟨rfl,rfl⟩
   exact ⟨_,bP.mpr rfl,bF _,bF _,by unfold Row.at;simp⟩
 rw [e]
 constructor
 .rintro (⟨rfl,rfl⟩ | ⟨h1,h2,h3⟩)
  .refine ⟨bF _,by ext hP,?_⟩
   rw [v8,Kx h]
   ext
  .exact ⟨by ext h1,h2,h3⟩
 .rintro ⟨h1,h2,h3⟩
  by_cases hy:y=x
  .subst hy
   rw [v8,Kx h] at h3
   exact .inl ⟨rfl,by ext h3⟩
  .exact .inr ⟨by ext h1 hy,h2,h3⟩
theorem b4C(r:Row):sW [r.d]=some (.sh (.int r.2.2.2)):=by
 refine Wo.eq (nP.mpr ?_)
 unfold K'
 rw [dA]
 walk_at "vc"
def PB(r:Row):Prop:=r.1<=r.2.1/\(-(10^60)<=r.1/\r.2.1<=10^60)/\(-(10^130)<=r.2.2.1/\r.2.2.1<=10^130)/\(-(10^130)<=r.at r.2.1/\r.at r.2.1<=10^130)/\(-(2*10^130)<=r.2.2.2/\r.2.2.2<=2*10^130)
theorem Qt:∀(R:List Row),kj sW (R.map Row.d)=some (R.map λr=>r.2.2.2)
 | []=>rfl
 | r::R=>by
  show (match sW [r.d] with | some (.sh (.int k))=>(kj sW (R.map Row.d)).map λks=>k::ks | _=>none)=_
  rw [b4C,Qt R]
  rfl
noncomputable def fA(R:List Row):List Row:=cF (R.map λr=>r.2.2.2) (0,0,0,0) R
theorem yc(R:List Row):cF (R.map λr=>r.2.2.2) D.aU (R.map Row.d)=(fA R).map Row.d:=by
 unfold fA cF
 rw [aX]
 by_cases h2:R.length<2
 .rw [if_pos h2,if_pos h2]
 rw [if_neg h2,if_neg h2,fT]
 refine N2 λi hi=>?_
 have hi:i<R.length:=sk.mp ((KS.eh (λi=>(R.map λr=>r.2.2.2).getD i 0) R.length (by ext h2)).1.mem_iff.mp hi)
 simp [hi]
theorem Bx(R:List Row):(fA R).Perm R:=LA _ _ R
theorem b8l(R:List Row):Up ((fA R).map pk):=by
 unfold fA cF Up
 by_cases h2:R.length<2
 .rw [if_pos h2]
  cases R with
  | nil=>exact .nil
  | cons a t =>
   cases t with
   | nil=>exact pV _ _
   | cons b t=>simp at h2;ext _ h2
 rw [if_neg h2,fT,pf]
 have S:=KS.eh (λi=>(R.map λr=>r.2.2.2).getD i 0) R.length (by ext h2)
 refine List.Pairwise.imp_of_mem (λ{i j} hi hj h=>?_) S.2
 have hi:i<R.length:=sk.mp (S.1.mem_iff.mp hi)
 have hj:j<R.length:=sk.mp (S.1.mem_iff.mp hj)
 simp [hi,hj] at h
 simpa [pk,hi,hj] using h
theorem PB.sw{R:List Row}(h:∀r∈R,PB r):SW (R.map pk):=λq hq=>by
 obtain ⟨r,hr,rfl⟩:=cH.mp hq
 have:=h r hr
 unfold PB at this
 unfold Ce pk tG
 dsimp only
 unfold Row.at at this
 ext this
theorem OV:∀{R:List Row},(∀r∈R,PB r)->(-(R.length*10^60)<=X0 R/\X0 R<=R.length*10^60)/\(-(R.length*10^130)<=P0 R/\P0 R<=R.length*10^130)
 | [],_=>by simp [X0,P0]
 | r::R,h=>by
  have ih:=OV λq hq=>h q (br _ hq)
  have:=h r (aZ ..)
  unfold PB at this
  unfold X0 P0 at *
  simp only [eM,pS,iy]
  omega
theorem b8R{L:List (Int×Int)}(h:SW L)(hl:L.length<=6){x p:Int}(hx:-(10^62)<=x/\x<=10^62)(hp:-(10^132)<=p/\p<=10^132):∀r∈rP L x p,ar (10^140) r:=λr hr=>by
 have ht:=JI h
 unfold ar
 rcases bq.mp hr with rfl | hr
 .dsimp only
  ext hx hp
 .have:=wQ h hr
  omega
theorem Eh:∀(L:List (Int×Int)) (x p:Int),(mk L x p).length<=L.length
 | [],_,_=>bw _
 | q::L,x,p=>by
  have:=Eh L (x+q.2) (p+q.1*q.2)
  show (jT q x p++mk L (x+q.2) (p+q.1*q.2)).length<=L.length+1
  rw [cM]
  unfold jT
  split<;>simp<;>ext this
theorem b9k{R:List Row}(h:∀r∈R,PB r)(h6:R.length<=6){ro:Bool}:∃fs:List Row,ve [.lst ro (R.map Row.d)]=some (.sh (.tup (fs.map Row.d)))/\Laid (rP ((fA R).map pk) (X0 R) (P0 R)) fs:=by
 have hs:∀r∈fA R,PB r:=λr hr=>h r ((Bx R).mem_iff.mp hr)
 have hS:=PB.sw hs
 have kn:(fA R).length=R.length:=(Bx R).length_eq
 have hx:=OV h
 obtain ⟨fs,ef,LD⟩:=sM (b6E hS (X0 R) (P0 R)) (b8R hS (by rw [aX];ext h6 kn) (by lia) (by lia)) (by
  have:=Eh ((fA R).map pk) (X0 R) (P0 R)
  rw [aX] at this
  show _+1<=_
  ext h6 kn this) (ro:=false)
 refine ⟨fs,?_,LD⟩
 refine Wo.eq (pK.mpr ?_)
 unfold KG
 walk_at "v1"
 rw [mU Row.d (λr=>.int r.1) (λe=>∃x0,e=[x0]) R (λr hr e he=>?_) ⟨_,rfl⟩]
 .rw [show R.map (λr=>D.int r.1)=(R.map λr=>r.1).map D.int by rw [fT];rfl]
  walk_at "v1"
  refine ⟨by rw [aX];ext h6,by rw [aX];ext h6,?_⟩
  rw [mU Row.d (λr=>.int r.2.2.1) (λe=>∃x0,e=[x0]) R (λr hr e he=>?_) ⟨_,rfl⟩]
  .rw [show R.map (λr=>D.int r.2.2.1)=(R.map λr=>r.2.2.1).map D.int by rw [fT];rfl]
   walk_at "v1"
   rw [b3c (r:=ro) (ds:=R.map Row.d) (by rfl) (Qt R) (by rw [aX];ext h6),yc R]
   walk_at "v1"
   rw [show (R.map λr=>r.1).sum=X0 R from rfl,show (R.map λr=>r.2.2.1).sum=P0 R from rfl]
   refine lQ Row.d (λpre env=>∃x4 x5,env=[.sh (.lst ro (R.map Row.d)),.sh (.int (X0 R+tw (pre.map pk))),.sh (.int (P0 R+cs (pre.map pk))),.ow ((rP (pre.map pk) (X0 R) (P0 R)).map Row.d),x4,x5]) (fA R) (λpre r post env e hI=>?_) (λenv hI=>?_) ⟨.no,.no,?_⟩
   .obtain ⟨x4,x5,rfl⟩:=hI
    have hr:=hs r (by rw [e];simp)
    have dr:pre.length<=6:=by rw [<-kn,e,cM] at h6;ext h6
    have Ni:=Eh (pre.map pk) (X0 R) (P0 R)
    rw [aX] at Ni
    unfold PB at hr
    have hm:MulC r.2.2.2 (r.2.1-r.1):=p8 (by ext hr) (by ext hr) (by ext hr) (by ext hr)
    rw [dA]
    walk_at "v1"
    rw [eJ,AL,b8e,b9w]
    unfold rP
    rw [PD]
    generalize hM:mk (pre.map pk) (X0 R) (P0 R)=M at *
    generalize tw (pre.map pk)=T at *
    generalize cs (pre.map pk)=C at *
    rw [show tw [pk r]=r.2.1-r.1 by show (r.2.1-r.1)+0=_;ext,show cs [pk r]=r.2.2.2*(r.2.1-r.1) by show r.2.2.2*(r.2.1-r.1)+0=_;ext]
    unfold jT pk tG
    dsimp only
    generalize hW:r.2.1-r.1=W at *
    refine Wo.mono (P:=λq=>q=(.nx,[.sh (.lst ro (R.map Row.d)),.sh (.int (X0 R+T)),.sh (.int (P0 R+C)),.ow (((X0 R,X0 R,P0 R,0)::(M++if W>0 then [(X0 R+T+1,X0 R+T+W,P0 R+C+r.2.2.2,r.2.2.2)] else [])).map Row.d),.sh r.d,.sh (.int W)])) ?_ λq hq=>?_
    .rw [a3S,dA r]
     walk_at "vc"
     refine ⟨λh=>?_,λh=>?_⟩
     .rw [if_pos h]
      refine ⟨by rw [aX,iy];ext dr Ni,?_⟩
      rw [<-AR,eJ (l₂:=[(X0 R+T+1,X0 R+T+W,P0 R+C+r.2.2.2,r.2.2.2)])]
      rfl
     .rw [if_neg h,oh]
    subst hq
    rw [dA r]
    walk_at "vc"
    rw [show X0 R+(T+W)=X0 R+T+W by ext,show P0 R+(C+r.2.2.2*W)=P0 R+C+r.2.2.2*W by ext]
    exact ⟨hm,_,_,rfl⟩
   .obtain ⟨x4,x5,rfl⟩:=hI
    walk_at "v1"
    rw [Eo,D0 (by rfl)]
    walk_at "v1"
    rw [ef]
    walk_at "vc"
   .show _=[_,Sl.sh (D.int (X0 R+0)),Sl.sh (D.int (P0 R+0)),Sl.ow [Row.d (X0 R,X0 R,P0 R,0)],_,_]
    rw [AB,AB]
    rfl
  .obtain ⟨x0,rfl⟩:=he
   rw [dA]
   walk_at "vc"
   exact ⟨_,rfl⟩
 .obtain ⟨x0,rfl⟩:=he
  rw [dA]
  walk_at "vc"
  exact ⟨_,rfl⟩
theorem yE{r:Row}(h:PB r){y:Int}(h1:r.1<=y)(h2:y<=r.2.1):-(10^130)<=r.at y/\r.at y<=10^130:=by
 unfold PB at h
 unfold Row.at at *
 by_cases hs:0<=r.2.2.2
 .have:=mw hs (show 0<=y-r.1 by ext h1)
  have:=mw hs (show 0<=r.2.1-y by ext h2)
  simp only [Ay] at *
  omega
 .have:=mw (show 0 <= -r.2.2.2 by ext hs) (show 0<=y-r.1 by ext h1)
  have:=mw (show 0 <= -r.2.2.2 by ext hs) (show 0<=r.2.1-y by ext h2)
  simp only [Ij,Ay] at *
  omega
theorem OQ:∀{R:List Row},(∀r∈R,PB r)->∀{x c:Int},Sh (one R) x c->(-(R.length*10^60)<=x/\x<=R.length*10^60)/\(-(R.length*10^130)<=c/\c<=R.length*10^130)
 | [],_,x,c,h=>by
  obtain ⟨rfl,rfl⟩:=h
  simp
 | r::R,hb,x,c,⟨y,cy,z,cz,⟨q,hq,k1,k2,k3⟩,h,e1,e2⟩=>by
  have i:=OQ (λq hq=>hb q (br _ hq)) h
  have hr:=hb r (aZ ..)
  rw [bP.mp hq] at k1 k2 k3
  have a:=yE hr k1 k2
  unfold PB at hr
  rw [iy]
  omega
theorem b67{R:List Row}(h:∀r∈R,PB r)(h6:R.length<=6){ro:Bool}:∃fs:List Row,ve [.lst ro (R.map Row.d)]=some (.sh (.tup (fs.map Row.d)))/\Canon fs/\fs.length<=R.length+1/\(∀x c,look fs x=some c↔Jn (one R) x c)/\∀x c,Sh (one R) x c->∃m,Jn (one R) x m:=by
 obtain ⟨fs,ef,LD⟩:=b9k h h6 (ro:=ro)
 have hs:∀r∈fA R,PB r:=λr hr=>h r ((Bx R).mem_iff.mp hr)
 have hS:=PB.sw hs
 have kn:(fA R).length=R.length:=(Bx R).length_eq
 have lst:∀{t k:Int},St ((fA R).map pk) t k->fl ((fA R).map pk) t<=k:=λ{t k} hk=>by
  by_cases aW:(fA R).map pk=[]
  .rw [aW] at hk ⊢
   obtain ⟨_,rfl⟩:=hk
   exact bF _
  .exact hk.least aW hS.wd (b8l R)
 have hp:((fA R).map pk).Perm (R.map pk):=(Bx R).map pk
 have j:∀x c,Jn (one R) x c↔X0 R<=x/\x<=X0 R+tw ((fA R).map pk)/\c=P0 R+fl ((fA R).map pk) (x-X0 R):=λx c=>by
  constructor
  .rintro ⟨k,m⟩
   have k':=(fZ.mp k).perm hp.symm
   have d:=k'.mQ
   have f:=St.fl hS.wd d.1 d.2
   have:=m (P0 R+fl ((fA R).map pk) (x-X0 R)) (fZ.mpr (by rw [show P0 R+fl ((fA R).map pk) (x-X0 R)-P0 R=fl ((fA R).map pk) (x-X0 R) by ext];exact f.perm hp))
   have:=lst k'
   exact ⟨by ext d,by ext d,by lia⟩
  .rintro ⟨k1,k2,rfl⟩
   refine ⟨fZ.mpr (by rw [show P0 R+fl ((fA R).map pk) (x-X0 R)-P0 R=fl ((fA R).map pk) (x-X0 R) by ext];exact (St.fl hS.wd (by ext k1) (by ext k2)).perm hp),λc' k=>?_⟩
   have:=lst ((fZ.mp k).perm hp.symm)
   ext this
 refine ⟨fs,ef,LD.canon,?_,λx c=>?_,λx c k=>?_⟩
 .have:=LD.len
  have l2:=Eh ((fA R).map pk) (X0 R) (P0 R)
  rw [aX] at l2
  have l3:(rP ((fA R).map pk) (X0 R) (P0 R)).length=(mk ((fA R).map pk) (X0 R) (P0 R)).length+1:=rfl
  ext kn this l2 l3
 .rw [oD LD.canon.cL,LD.val,b6D hS.wd,j]
 .have d:=((fZ.mp k).perm hp.symm).mQ
  exact ⟨_,(j x _).mpr ⟨by ext d,by ext d,rfl⟩⟩
theorem Bb{i:Nat}{m n:Int}{f:En->Option Sl}{env:En}{Q:Fl×En->Prop}(e1:env[i]?=some (.sh (.int m)))(e2:f env=some (.sh (.int n)))(hc:lr m n)(h:Q (.nx,env.set i (.sh (.int (m*n))))):Wo (Eb i f env) Q:=
 ⟨_,by unfold Eb Ea;rw [e1];dsimp only;rw [e2];dsimp only;rw [if_pos hc],h⟩
noncomputable def iq(R:List Row):D:=.lst false (R.map Row.d)
noncomputable def dY(F:List Row):D:=.tup (F.map Row.d)
noncomputable def np(Fs:List (List Row)):Nat:=(Fs.map pd).foldl (·*·) 1
theorem PV(Fs:List (List Row))(F:List Row):np (Fs++[F])=np Fs*F.length:=by
 unfold np;rw [eJ,wj];rfl
theorem P6{Fs:List (List Row)}(h:∀F∈Fs,F.length<=900000){ro:Bool}:xu [.lst ro (Fs.map dY)]=some (.sh (.int (np Fs))):=by
 refine Wo.eq (gk.mpr ?_)
 unfold Mb
 walk_at "v1"
 refine lQ dY (λpre env=>∃x2,env=[.sh (.lst ro (Fs.map dY)),.sh (.int (np pre)),x2]) Fs (λpre F post env e hI=>?_) (λenv hI=>?_) ⟨_,rfl⟩
 .obtain ⟨x2,rfl⟩:=hI
  have hF:=h F (by rw [e];simp)
  rw [show dY F=.tup (F.map Row.d) from rfl]
  walk_at "v1"
  refine Bb (m:=np pre) (n:=F.length) rfl (by show some (Sl.sh (.int ((F.map Row.d).length:Int)))=_;rw [aX]) (.inr ⟨by ext,by ext hF⟩) ?_
  rw [PV,Int.natCast_mul]
  exact ⟨_,rfl⟩
 .obtain ⟨x2,rfl⟩:=hI
  walk_at "vc"
noncomputable def n0(W:List (List Row))(F:List Row):List (List Row):=W.flatMap λR=>F.map λr=>R++[r]
noncomputable def lx(Fs:List (List Row)):List (List Row):=Fs.foldl n0 [[]]
theorem b3K(Fs:List (List Row))(F:List Row):lx (Fs++[F])=n0 (lx Fs) F:=by
 unfold lx;rw [wj];rfl
theorem b3L(W:List (List Row))(R F:List Row):n0 (W++[R]) F=n0 W F++F.map λr=>R++[r]:=by
 unfold n0
 rw [DQ]
 simp
theorem Ey(F:List Row):∀W:List (List Row),(n0 W F).length=W.length*F.length
 | []=>by unfold n0;simp
 | R::W=>by
  have:=Ey F W
  unfold n0 at *
  rw [qS,cM,this,aX,iy,Nat.add_mul]
  ext
theorem O6:∀{Fs:List (List Row)} {W:List (List Row)} {R:List Row},R∈Fs.foldl n0 W↔∃A∈W,∃B∈prod Fs,R=A++B
 | [],W,R=>by
  unfold prod
  simp
 | F::Fs,W,R=>by
  rw [nC,O6]
  constructor
  .rintro ⟨A,hA,B,hB,rfl⟩
   obtain ⟨C,hC,hA⟩:=iw.mp hA
   obtain ⟨r,hr,rfl⟩:=cH.mp hA
   exact ⟨C,hC,r::B,iw.mpr ⟨r,hr,cH.mpr ⟨B,hB,rfl⟩⟩,by simp⟩
  .rintro ⟨A,hA,B,hB,rfl⟩
   obtain ⟨r,hr,hB⟩:=iw.mp hB
   obtain ⟨C,hC,rfl⟩:=cH.mp hB
   exact ⟨A++[r],iw.mpr ⟨A,hA,cH.mpr ⟨r,hr,rfl⟩⟩,C,hC,by simp⟩
theorem c5{Fs:List (List Row)}{R:List Row}:R∈lx Fs↔R∈prod Fs:=by
 unfold lx
 rw [O6]
 constructor
 .rintro ⟨A,hA,B,hB,rfl⟩
  rw [bP.mp hA]
  exact hB
 .intro h
  exact ⟨[],bP.mpr rfl,R,h,rfl⟩
theorem La:∀(l:List Nat) (a:Nat),l.foldl (·*·) a=a*l.foldl (·*·) 1
 | [],a=>by simp
 | x::l,a=>by
  rw [nC,nC,La l (a*x),La l (1*x),Nat.one_mul,Iu]
theorem Ei(A B:List (List Row)):np (A++B)=np A*np B:=by
 unfold np
 rw [eJ,wj,La]
theorem b4D{Fs:List (List Row)}(rX:Fs.length<=100)(hp:np Fs<=100)(h0:np Fs≠0){ro:Bool}:xg [.lst ro (Fs.map dY)]=some (.sh (.lst false ((lx Fs).map iq)))/\(lx Fs).length=np Fs:=by
 have oM:∀{pre post:List (List Row)},Fs=pre++post->np pre<=100/\np pre≠0:=λ{pre post} e=>by
  rw [e,Ei] at hp h0
  have a:np pre≠0:=λz=>h0 (by rw [z,Nat.zero_mul])
  have b:np post≠0:=λz=>h0 (by rw [z,Nat.mul_zero])
  exact ⟨fq (Nat.le_mul_of_pos_right _ (by ext b)) hp,a⟩
 have one_le:∀{pre post:List (List Row)} {F:List Row},Fs=pre++F::post->np pre*F.length<=100/\F.length<=100:=λ{pre post F} e=>by
  have e':Fs=(pre++[F])++post:=by rw [e];simp
  have k:=oM e'
  rw [PV] at k
  refine ⟨k.1,fq (Nat.le_mul_of_pos_left _ ?_) k.1⟩
  have:=(oM e).2
  ext this
 have hlen:∀F∈Fs,F.length<=900000:=λF hF=>by
  obtain ⟨pre,post,e⟩:=NQ hF
  have:=(one_le e).2
  ext this
 have pl:∀{pre post:List (List Row)},Fs=pre++post->(lx pre).length=np pre:=λ{pre}=>by
  intro post _
  have key:∀(l:List (List Row)) (W:List (List Row)),(l.foldl n0 W).length=W.length*np l:=λl=>by
   induction l with
   | nil=>intro W;unfold np;simp
   | cons F l ih =>
    intro W
    rw [nC,ih,Ey,Iu,show F::l=[F]++l from rfl,Ei,show np [F]=F.length by unfold np;simp]
  unfold lx
  rw [key]
  simp
 have em:=P6 hlen (ro:=ro)
 refine ⟨?_,pl (pre:=Fs) (post:=[]) (by simp)⟩
 refine Wo.eq (mV.mpr ?_)
 unfold Ew
 walk_at "v1"
 refine rg ?_ ?_
 .walk_at "vc"
  rw [em]
  walk_at "vc"
  ext hp
 walk_at "v1"
 refine rg ?_ ?_
 .walk_at "vc"
  rw [em]
  walk_at "vc"
  ext h0
 walk_at "v1"
 refine lQ dY (λpre env=>∃x2 x3 x4,env=[.sh (.lst ro (Fs.map dY)),.sh (.lst false ((lx pre).map iq)),x2,x3,x4]) Fs (λpre F post env e hI=>?_) (λenv hI=>?_) ⟨_,_,_,rfl⟩
 .obtain ⟨x2,x3,x4,rfl⟩:=hI
  have k1:=one_le e
  have k2:=pl e
  rw [show dY F=.tup (F.map Row.d) from rfl]
  walk_at "v1"
  refine lQ iq (λW env=>∃x4,env=[.sh (.lst ro (Fs.map dY)),.sh (.lst false ((lx pre).map iq)),.sh (.tup (F.map Row.d)),.ow ((n0 W F).map iq),x4]) (lx pre) (λW R MM env e' h=>?_) (λenv h=>?_) ⟨_,rfl⟩
  .obtain ⟨x4,rfl⟩:=h
   have hW:=Ey F W
   have X6:W.length<=np pre:=by rw [<-k2,e',cM];ext
   have X5:W.length*F.length<=np pre*F.length:=Nat.mul_le_mul_right _ X6
   rw [show iq R=.lst false (R.map Row.d) from rfl]
   walk_at "v1"
   rw [mU Row.d (λr=>iq (R++[r])) (λe=>∃x0,e=[x0,.sh (.lst false (R.map Row.d))]) F (λr hr e he=>?_) ⟨_,rfl⟩]
   .rw [aX,a0h]
    walk_at "v1"
    refine ⟨by ext k1,by rw [aX,aX,hW];ext k1 X5,_,by rw [b3L,eJ,fT];rfl⟩
   .obtain ⟨x0,rfl⟩:=he
    walk_at "vc"
    have hR:R.length=pre.length:=(KP (c5.mp (by rw [e'];simp))).1
    have:=congrArg pd e
    rw [cM] at this
    refine ⟨⟨_,rfl⟩,by rw [aX];lia,?_⟩
    unfold iq
    rw [eJ]
    rfl
  .obtain ⟨x4,rfl⟩:=h
   rw [a7o,Eo,D0 (by rfl)]
   walk_at "vc"
   rw [<-b3K]
   exact ⟨_,_,_,rfl⟩
 .obtain ⟨x2,x3,x4,rfl⟩:=hI
  walk_at "vc"
theorem FV.pb{f:List Row}(h:FV (10^60) (10^130) f):∀r∈f,PB r:=λr hr=>by
 have k:=u4 h.canon (by decide) h.bd r hr
 have o:=h.canon.cL.1 r hr
 have v:=(h.bd r.2.1 _ (lS h.canon.cL hr o (bF _))).2
 unfold PB
 ext k o v
theorem b8T:qa [.lst false []]=some (.sh (.tup [])):=by
 refine Wo.eq (bQ.mpr ?_)
 unfold Mm
 walk_at "vc"
 exact λz=>nomatch z
theorem Rt{Fs:List (List Row)}{K n m:Nat}(h4:Fs.length<=4)(hK:Fs.length+1<=K)(hF:∀F∈Fs,FV (10^60) (10^130) F)(hlen:∀F∈Fs,F.length<=900000)(hp:np Fs<=n)(hn:n<=100)(LO:xC qa K n m){ro:Bool}:
  ∃f:List Row,vd [.lst ro (Fs.map dY)]=some (.sh (.tup (f.map Row.d)))/\Canon f/\f.length<=m/\(∀x c,look f x=some c↔Jn Fs x c)/\∀x c,Sh Fs x c->∃m,Jn Fs x m:=by
 have oO:∀R:List Row,∃f:List Row,(R.length<=6/\∀r∈R,PB r)->ve [.lst false (R.map Row.d)]=some (.sh (.tup (f.map Row.d)))/\Canon f/\f.length<=R.length+1/\(∀x c,look f x=some c↔Jn (one R) x c)/\∀x c,Sh (one R) x c->∃m,Jn (one R) x m:=λR=>by
  by_cases h:R.length<=6/\∀r∈R,PB r
  .obtain ⟨f,e⟩:=b67 h.2 h.1 (ro:=false)
   exact ⟨f,λ_=>e⟩
  .exact ⟨[],λz=>absurd z h⟩
 obtain ⟨ff,qB⟩:=DH oO
 have hR:∀R∈prod Fs,(R.length<=6/\∀r∈R,PB r)/\R.length=Fs.length:=λR hR=>by
  obtain ⟨l,k⟩:=KP hR
  exact ⟨⟨by ext h4 l,λr hr=>by obtain ⟨F,HJ,rT⟩:=k r hr;exact (hF F HJ).pb r rT⟩,l⟩
 have wrap:∀{f:List Row},B3 [.lst ro (Fs.map dY)]=some (.sh (.tup (f.map Row.d)))->vd [.lst ro (Fs.map dY)]=some (.sh (.tup (f.map Row.d))):=λ{f} e=>by
  refine Wo.eq (pL.mpr ?_)
  unfold KE
  walk_at "v1"
  rw [e]
  walk_at "vc"
 have Yn:∀x c,Sh Fs x c->∃R∈prod Fs,∃v,look (ff R) x=some v:=λx c h=>by
  obtain ⟨R,gM,k⟩:=cJ.mp h
  obtain ⟨_,_,_,e4,e5⟩:=qB R (hR R gM).1
  obtain ⟨v,hv⟩:=e5 x c k
  exact ⟨R,gM,v,(e4 x v).mpr hv⟩
 by_cases h0:np Fs=0
 .have em:=P6 hlen (ro:=ro)
  rw [h0] at em
  have none_:∀R,R∉prod Fs:=λR gM=>by
   have key:∀(l:List (List Row)) (W:List (List Row)),(l.foldl n0 W).length=W.length*np l:=λl=>by
    induction l with
    | nil=>intro W;unfold np;simp
    | cons F l ih =>
     intro W
     rw [nC,ih,Ey,Iu,show F::l=[F]++l from rfl,Ei,show np [F]=F.length by unfold np;simp]
   have h1:=key Fs [[]]
   rw [h0,Nat.mul_zero] at h1
   have h2:=c5.mpr gM
   unfold lx at h2
   rw [DI.mp h1] at h2
   cases h2
  have yM:∀x c,¬Sh Fs x c:=λx c h=>by obtain ⟨R,gM,_⟩:=cJ.mp h;exact none_ R gM
  refine ⟨[],wrap ?_,⟨λr z=>(nomatch z),trivial⟩,nD _,λx c=>⟨λz=>(nomatch z),λz=>absurd z.1 (yM x c)⟩,λx c h=>absurd h (yM x c)⟩
  refine Wo.eq (eD.mpr ?_)
  unfold Fi
  walk_at "v1"
  have ep:xg [.lst ro (Fs.map dY)]=some (.ow []):=by
   refine Wo.eq (mV.mpr ?_)
   unfold Ew
   walk_at "v1"
   refine rg ?_ ?_
   .walk_at "vc"
    rw [em]
    walk_at "vc"
   walk_at "v1"
   rw [a3S]
   walk_at "vc"
   rw [em]
   walk_at "vc"
  rw [ep]
  walk_at "vc"
  rw [b8T]
  walk_at "vc"
  rfl
 .obtain ⟨ep,dr⟩:=b4D (ro:=ro) (by ext h4) (by ext hp hn) h0
  have aW:(lx Fs).map ff≠[]:=pq (by rw [aX,dr];ext h0)
  have Ya:∀f∈(lx Fs).map ff,FV (4*10^60) (4*10^130) f/\f.length<=K:=λf hf=>by
   obtain ⟨R,gM,rfl⟩:=cH.mp hf
   have gM:=c5.mp gM
   obtain ⟨k,l⟩:=hR R gM
   obtain ⟨_,e2,e3,e4,_⟩:=qB R k
   refine ⟨⟨e2,λx c h=>?_⟩,by ext hK l e3⟩
   have b:=OQ k.2 ((e4 x c).mp h).1
   have n8:R.length<=4:=by ext h4 l
   lia
  obtain ⟨fs,e,c,mf,lf⟩:=LO (V:=4*10^60) (C:=4*10^130) (r:=false) (by decide) (by decide) Ya aW (by rw [aX,dr];exact hp)
  have MY:∀x v,look fs x=some v↔(∃R∈prod Fs,look (ff R) x=some v)/\∀R∈prod Fs,∀w,look (ff R) x=some w->v<=w:=λx v=>by
   rw [mf x v]
   constructor
   .rintro ⟨⟨g,hg,e⟩,k⟩
    obtain ⟨R,gM,rfl⟩:=cH.mp hg
    exact ⟨⟨R,c5.mp gM,e⟩,λS hS w hw=>k _ (cH.mpr ⟨S,c5.mpr hS,rfl⟩) w hw⟩
   .rintro ⟨⟨R,gM,e⟩,k⟩
    refine ⟨⟨ff R,cH.mpr ⟨R,c5.mpr gM,rfl⟩,e⟩,λg hg w hw=>?_⟩
    obtain ⟨S,hS,rfl⟩:=cH.mp hg
    exact k S (c5.mp hS) w hw
  have jj:=b6L (φ:=ff) (f:=fs) (λR gM=>(qB R (hR R gM).1).2.2.2.1) (λR gM=>(qB R (hR R gM).1).2.2.2.2) MY
  refine ⟨fs,wrap ?_,c,lf,jj,λx v h=>?_⟩
  .refine Wo.eq (eD.mpr ?_)
   unfold Fi
   walk_at "v1"
   rw [ep]
   walk_at "v1"
   rw [mU iq (λR=>.tup ((ff R).map Row.d)) (λe=>∃x0,e=[x0]) (lx Fs) (λR gM e he=>?_) ⟨_,rfl⟩]
   .walk_at "v1"
    rw [fT] at e
    rw [aX,dr]
    refine ⟨by ext hp hn,?_⟩
    rw [show (λR=>D.tup ((ff R).map Row.d))=(λf:List Row=>D.tup (f.map Row.d))∘ff from rfl,e]
    walk_at "vc"
   .obtain ⟨x0,rfl⟩:=he
    rw [show iq R=.lst false (R.map Row.d) from rfl]
    walk_at "vc"
    rw [(qB R (hR R (c5.mp gM)).1).1]
    walk_at "vc"
    exact ⟨_,rfl⟩
  .-- rJ least over rJ picks is there
   have key:∀(l:List (List Row)),(∃R∈l,∃v,look (ff R) x=some v)->∃v,(∃R∈l,look (ff R) x=some v)/\∀R∈l,∀w,look (ff R) x=some w->v<=w:=λl=>by
    induction l with
    | nil=>rintro ⟨R,z,_⟩;cases z
    | cons S l ih =>
     rintro ⟨R,gM,v,e⟩
     by_cases hl:∃R∈l,∃v,look (ff R) x=some v
     .obtain ⟨v,⟨T,hT,eT⟩,k⟩:=ih hl
      cases hS:look (ff S) x with
      | none=>exact ⟨v,⟨T,br _ hT,eT⟩,λQ hQ w hw=>by
        rcases bq.mp hQ with rfl | hQ
        .rw [hS] at hw;cases hw
        .exact k Q hQ w hw⟩
      | some u =>
       by_cases zl:u<=v
       .exact ⟨u,⟨S,aZ ..,hS⟩,λQ hQ w hw=>by
         rcases bq.mp hQ with rfl | hQ
         .rw [hS] at hw;cases hw;exact bF _
         .have:=k Q hQ w hw;ext zl this⟩
       .exact ⟨v,⟨T,br _ hT,eT⟩,λQ hQ w hw=>by
         rcases bq.mp hQ with rfl | hQ
         .rw [hS] at hw;cases hw;ext zl
         .exact k Q hQ w hw⟩
     .rcases bq.mp gM with rfl | gM
      .exact ⟨v,⟨R,aZ ..,e⟩,λQ hQ w hw=>by
        rcases bq.mp hQ with rfl | hQ
        .rw [e] at hw;cases hw;exact bF _
        .exact absurd ⟨Q,hQ,w,hw⟩ hl⟩
      .exact absurd ⟨R,gM,v,e⟩ hl
   obtain ⟨w,hw⟩:=key (prod Fs) (Yn x v h)
   exact ⟨w,(jj x w).mp ((MY x w).mpr hw)⟩
noncomputable def dD(l:Int×Int)(x:Int):Int:=l.1+l.2*x
theorem RM{k l:Int×Int}{p q x:Int}(h1:p<=x)(h2:x<=q)(a1:dD l p<=dD k p)(a2:dD l q<=dD k q):dD l x<=dD k x:=by
 unfold dD at *
 have e:∀y,(k.1+k.2*y)-(l.1+l.2*y)=(k.1-l.1)+(k.2-l.2)*y:=λy=>by grind
 have b1:0<=(k.1-l.1)+(k.2-l.2)*p:=by rw [<-e];ext a1
 have b2:0<=(k.1-l.1)+(k.2-l.2)*q:=by rw [<-e];ext a2
 have b3:0<=(k.1-l.1)+(k.2-l.2)*x:=by
  by_cases hs:0<=k.2-l.2
  .have:(k.2-l.2)*p<=(k.2-l.2)*x:=uQ h1 hs
   ext b1 this
  .have:(k.2-l.2)*q<=(k.2-l.2)*x:=Oq (by ext hs) h2
   ext b2 this
 rw [<-e] at b3
 ext b3
theorem b2I{Ls:List (Int×Int)}{a b r:Row}{l:Int×Int}(nh:sP a b)(hb:b.1=a.2.1+1)(jl:b.1<=r.1)(hl:l∈Ls)(um:a.1<=a.2.1)
  (up:∀k∈Ls,a.at a.1<=dD k a.1/\a.at a.2.1<=dD k a.2.1/\b.at b.1<=dD k b.1/\r.at r.1<=dD k r.1)(w1:∃k∈Ls,a.at a.2.1=dD k a.2.1)(w2:∃k∈Ls,b.at b.1=dD k b.1)(e1:a.at a.1=dD l a.1)(e2:r.at r.1=dD l r.1):False:=by
 obtain ⟨h1,h2⟩:=nh.2 hb
 have at1:a.at a.2.1=dD l a.2.1:=by
  obtain ⟨k,hk,e⟩:=w1
  have:=RM (k:=k) (l:=l) (p:=a.1) (q:=r.1) (x:=a.2.1) um (by ext hb jl) (by rw [<-e1];exact (up k hk).1) (by rw [<-e2];exact (up k hk).2.2.2)
  have:=(up l hl).2.1
  omega
 have at2:b.at b.1=dD l b.1:=by
  obtain ⟨k,hk,e⟩:=w2
  have:=RM (k:=k) (l:=l) (p:=a.1) (q:=r.1) (x:=b.1) (by ext hb h1) jl (by rw [<-e1];exact (up k hk).1) (by rw [<-e2];exact (up k hk).2.2.2)
  have:=(up l hl).2.2.1
  omega
 have C5:b.at b.1=b.2.2.1:=by unfold Row.at;simp
 refine h2 ?_
 rw [<-C5,at2]
 have hs:a.2.2.2=l.2:=by
  unfold Row.at dD at e1 at1
  have d:(a.2.2.2-l.2)*(a.2.1-a.1)=0:=by grind
  rcases Int.mul_eq_zero.mp d with z | z<;>omega
 unfold Row.at dD at *
 rw [hs] at e1 ⊢
 grind
theorem P8{Ls:List (Int×Int)}:∀{fs:List Row} {M:List (Int×Int)},aS sP fs->aS (λa b=>b.1=a.2.1+1) fs->(∀r∈fs,r.1<=r.2.1)->(∀l∈M,l∈Ls) ->
  (∀r∈fs,∀k∈Ls,r.at r.1<=dD k r.1/\r.at r.2.1<=dD k r.2.1)->(∀r∈fs,(∃k∈Ls,r.at r.1=dD k r.1)/\∃k∈Ls,r.at r.2.1=dD k r.2.1)->(∀r∈fs,∃l∈M,r.at r.1=dD l r.1)->fs.length<=M.length
 | [],M,_,_,_,_,_,_,_=>nD _
 | a::fs,M,hF,hC,ho,hM,up,wt,QV=>by
  obtain ⟨l,hl,el⟩:=QV a (aZ ..)
  have hlen:(M.erase l).length=M.length-1:=OC hl
  have km:0<M.length:=NX hl
  have HJ:aS sP fs:=by cases fs with | nil=>exact trivial | cons b fs=>exact hF.2
  have Ny:aS (λa b=>b.1=a.2.1+1) fs:=by cases fs with | nil=>exact trivial | cons b fs=>exact hC.2
  have ih:=P8 (Ls:=Ls) (fs:=fs) (M:=M.erase l) HJ Ny (λr hr=>ho r (br _ hr)) (λk hk=>hM k (List.mem_of_mem_erase hk)) (λr hr=>up r (br _ hr)) (λr hr=>wt r (br _ hr)) (λr hr=>by
   obtain ⟨k,hk,ek⟩:=QV r (br _ hr)
   have aW:k≠l:=λz=>by
    subst z
    cases fs with
    | nil=>cases hr
    | cons b fs =>
     have jl:b.1<=r.1:=by
      rcases bq.mp hr with rfl | rT
      .exact bF _
      .have G':∀{gs:List Row} {b:Row},aS (λa b=>b.1=a.2.1+1) (b::gs)->(∀r∈b::gs,r.1<=r.2.1)->∀r∈gs,b.1<=r.1:=by
        intro gs
        induction gs with
        | nil=>intro b _ _ r hr;cases hr
        | cons c gs GK =>
         intro b hL ho r hr
         have Nn:=hL.1
         have C4:=ho b (aZ ..)
         rcases bq.mp hr with rfl | hr
         .ext C4 Nn
         .have:=GK hL.2 (λx hx=>ho x (br _ hx)) r hr
          ext Nn C4 this
       exact G' Ny (λx hx=>ho x (br _ hx)) r rT
     have mb:b∈a::b::fs:=br _ (aZ ..)
     exact b2I (Ls:=Ls) hF.1 hC.1 jl (hM k hl) (ho a (aZ ..)) (λq hq=>⟨(up a (aZ ..) q hq).1,(up a (aZ ..) q hq).2,(up b mb q hq).1,(up r (br _ hr) q hq).1⟩) (wt a (aZ ..)).2 (wt b mb).1 el ek
   exact ⟨k,(N6 aW).mpr hk,ek⟩)
  rw [iy]
  ext hlen km ih
noncomputable def oB(price:Int)(r:Row):List Row:=match nd (r.2.2.1-price) r.2.2.2 r.1 r.2.1 with
 | none=>[]
 | some (f,l)=>[(f,l,0,0)]
theorem vk{price:Int}{r:Row}(hr:r.1<=r.2.1):(∀q∈oB price r,r.1<=q.1/\q.1<=q.2.1/\q.2.1<=r.2.1/\q.2.2=(0,0))/\(oB price r).length<=1/\∀x,(∃q∈oB price r,q.1<=x/\x<=q.2.1)↔r.1<=x/\x<=r.2.1/\r.at x<=price:=by
 have sp:=Kh (a:=r.2.2.1-price) (s:=r.2.2.2) (low:=r.1) (high:=r.2.1) hr
 unfold oB
 cases e:nd (r.2.2.1-price) r.2.2.2 r.1 r.2.1 with
 | none =>
  rw [e] at sp
  dsimp only at sp ⊢
  refine ⟨λq hq=>(nomatch hq),by simp,λx=>⟨λ⟨q,hq,_⟩=>(nomatch hq),λ⟨h1,h2,h3⟩=>?_⟩⟩
  have:=sp x h1 h2
  unfold Row.at at h3
  generalize r.2.2.2*(x-r.1)=z at *
  ext _ h3 this
 | some y =>
  obtain ⟨f,l⟩:=y
  rw [e] at sp
  dsimp only at sp ⊢
  obtain ⟨⟨s1,s2,s3,_⟩,s4⟩:=sp
  refine ⟨λq hq=>?_,by simp,λx=>?_⟩
  .rw [bP.mp hq];exact ⟨s1,s2,s3,rfl⟩
  .simp
   have e1:r.at x<=price↔r.2.2.1-price+r.2.2.2*(x-r.1)<=0:=by unfold Row.at;generalize r.2.2.2*(x-r.1)=z;ext
   rw [e1]
   constructor
   .rintro ⟨h1,h2⟩
    exact ⟨by ext s1 h1,by ext s3 h2,(s4 x (by ext s1 h1) (by ext s3 h2)).mpr ⟨h1,h2⟩⟩
   .rintro ⟨h1,h2,h3⟩
    exact (s4 x h1 h2).mp h3
theorem a9V{rs:List Row}(ha:bL rs)(price:Int):bL (rs.flatMap (oB price))/\∀x,(∃q∈rs.flatMap (oB price),q.1<=x/\x<=q.2.1)↔∃c,look rs x=some c/\c<=price:=by
 refine ⟨⟨λq hq=>?_,?_⟩,λx=>?_⟩
 .obtain ⟨r,hr,k⟩:=iw.mp hq
  exact ((vk (ha.1 r hr)).1 q k).2.1
 .have:∀{rs:List Row},bL rs->(rs.flatMap (oB price)).Pairwise λa b=>a.2.1<b.1:=λ{rs} h=>by
   induction rs with
   | nil=>exact .nil
   | cons r rs ih =>
    have ta:bL rs:=⟨λq hq=>h.1 q (br _ hq),(fC.mp h.2).2⟩
    rw [qS]
    have sp:=vk (price:=price) (h.1 r aZ)
    refine gP.mpr ⟨?_,ih ta,λa ha b hb=>?_⟩
    .have:=sp.2.1
     match oB price r,this with
     | [],_=>exact .nil
     | [_],_=>exact pV _ _
    .obtain ⟨q,hq,k⟩:=iw.mp hb
     have k1:=(vk (h.1 q (br _ hq))).1 b k
     have k2:=sp.1 a ha
     have k3:=(fC.mp h.2).1 q hq
     show a.2.1<b.1
     omega
  exact this ha
 .constructor
  .rintro ⟨q,hq,h1,h2⟩
   obtain ⟨r,hr,k⟩:=iw.mp hq
   obtain ⟨k1,k2,k3⟩:=((vk (ha.1 r hr)).2.2 x).mp ⟨q,k,h1,h2⟩
   exact ⟨_,lS ha hr k1 k2,k3⟩
  .rintro ⟨c,h1,h2⟩
   obtain ⟨r,hr,k1,k2,rfl⟩:=rh h1
   obtain ⟨q,hq,k3,k4⟩:=((vk (price:=price) (ha.1 r hr)).2.2 x).mpr ⟨k1,k2,h2⟩
   exact ⟨q,iw.mpr ⟨r,hr,hq⟩,k3,k4⟩
noncomputable def yH(o:Option (Int×Int)):Row:=match o with
 | none=>(0,0,0,0)
 | some (f,l)=>(f,l,0,0)
theorem Rx(price:Int):∀rs:List Row,((rs.map λr=>nd (r.2.2.1-price) (r.2.2.2-0) r.1 r.2.1).filter Option.isSome).map (λo=>(yH o).d)=(rs.flatMap (oB price)).map Row.d
 | []=>rfl
 | r::rs=>by
  rw [eM,qS,eJ,<-Rx price rs]
  unfold oB
  rw [Int.sub_zero]
  cases nd (r.2.2.1-price) r.2.2.2 r.1 r.2.1 with
  | none=>rfl
  | some y=>rfl
theorem Am{rs:List Row}(ha:bL rs)(hb:∀r∈rs,ar (10^130) r)(hl:rs.length<=10000)(price:Int):∃ss:List Span,BW [.tup (rs.map Row.d),.int price]=some (.sh (.tup (ss.map Span.d)))/\(∀s∈ss,s.1<=s.2)/\(ss.Pairwise λa b=>a.2+1<b.1)/\(∀x,dP ss x↔∃c,look rs x=some c/\c<=price)/\ss.length<=rs.length/\∀s∈ss,(-(10^130)<=s.1/\s.1<=10^130)/\(-(10^130)<=s.2/\s.2<=10^130):=by
 obtain ⟨b1,b2⟩:=a9V ha price
 have hlen:∀rs:List Row,(∀r∈rs,r.1<=r.2.1)->(rs.flatMap (oB price)).length<=rs.length:=λrs=>by
  induction rs with
  | nil=>intro _;simp
  | cons r rs ih =>
   intro h
   have:=ih λq hq=>h q (br _ hq)
   have:=(vk (price:=price) (h r aZ)).2.1
   rw [qS,cM,iy]
   omega
 have Hh:=hlen rs ha.1
 have bin:∀q∈rs.flatMap (oB price),(-(10^130)<=q.1/\q.1<=10^130)/\(-(10^130)<=q.2.1/\q.2.1<=10^130)/\q.2.2=(0,0):=λq hq=>by
  obtain ⟨r,hr,k⟩:=iw.mp hq
  have h1:=hb r hr
  unfold ar at h1
  obtain ⟨k1,k2,k3,k4⟩:=(vk (ha.1 r hr)).1 q k
  exact ⟨by ext h1 k1 k2 k3,by ext h1 k1 k2 k3,k4⟩
 obtain ⟨fs,ef,L⟩:=sM b1 (λq hq=>by
  obtain ⟨k1,k2,k3⟩:=bin q hq
  have z1:q.2.2.1=0:=congrArg Prod.fst k3
  have z2:q.2.2.2=0:=congrArg Prod.snd k3
  unfold ar
  ext k1 k2 z1 z2) (by ext hl Hh) (ro:=false)
 have rX:=L.len
 obtain ⟨ss,es,S⟩:=Kw L.canon.cL (by ext hl Hh rX)
 have gO:∀x,dP ss x↔∃c,look rs x=some c/\c<=price:=λx=>by
  rw [S.gO,<-b2]
  constructor
  .rintro ⟨r,hr,h1,h2⟩
   obtain ⟨q,hq,k1,k2,_⟩:=(L.val x (r.at x)).mp ⟨r,hr,h1,h2,rfl⟩
   exact ⟨q,hq,k1,k2⟩
  .rintro ⟨r,hr,h1,h2⟩
   obtain ⟨q,hq,k1,k2,_⟩:=(L.val x (r.at x)).mpr ⟨r,hr,h1,h2,rfl⟩
   exact ⟨q,hq,k1,k2⟩
 refine ⟨ss,?_,S.ok,S.apart,gO,by have:=S.len;ext Hh rX this,λs hs=>?_⟩
 .refine Wo.eq (jh.mpr ?_)
  unfold LV
  walk_at "vc"
  rw [mU Row.d (λr=>ip (nd (r.2.2.1-price) (r.2.2.2-0) r.1 r.2.1)) (λe=>∃x0,e=[x0,.sh (.int price)]) rs (λr hr e he=>?_) ⟨_,rfl⟩]
  .rw [aX]
   walk_at "vc"
   rw [show rs.map (λr=>ip (nd (r.2.2.1-price) (r.2.2.2-0) r.1 r.2.1))=(rs.map λr=>nd (r.2.2.1-price) (r.2.2.2-0) r.1 r.2.1).map ip by rw [fT];rfl]
   rw [a9R ip Option.isSome (λo=>(yH o).d) (λe=>∃x0,e=[x0]) _ (λo ho e he=>?_) ⟨_,rfl⟩]
   .rw [Rx,aX,aX]
    walk_at "vc"
    rw [ef]
    walk_at "vc"
    rw [es]
    walk_at "vc"
    ext hl
   .obtain ⟨x0,rfl⟩:=he
    cases o with
    | none =>
     dsimp only [ip]
     walk_at "vc"
     exact ⟨⟨_,rfl⟩,rfl,λz=>nomatch z⟩
    | some y =>
     obtain ⟨f,l⟩:=y
     dsimp only [ip]
     walk_at "vc"
     exact ⟨⟨_,rfl⟩,rfl,λ_=>rfl⟩
  .obtain ⟨x0,rfl⟩:=he
   have h1:=hb r hr
   unfold ar at h1
   rw [dA r]
   walk_at "vc"
   rw [Ak (by ext h1) (by ext h1)]
   walk_at "vc"
   exact ⟨_,rfl⟩
 .have ly:=S.ok s hs
  have key:∀x,dP ss x -> -(10^130)<=x/\x<=10^130:=λx hx=>by
   obtain ⟨c,hc,_⟩:=(gO x).mp hx
   obtain ⟨r,hr,k1,k2,_⟩:=rh hc
   have h1:=hb r hr
   unfold ar at h1
   ext k1 k2 h1
  exact ⟨key s.1 ⟨s,hs,bF _,ly⟩,key s.2 ⟨s,hs,ly,bF _⟩⟩
theorem Ai{d:D}{ds:List D}:vn [.tup (d::ds)]=some (.sh (.tup (d::ds))):=by
 refine Wo.eq (js.mpr ?_)
 unfold E1
 walk_at "v1"
 refine rg ?_ ?_
 .walk_at "vc"
  simp
  ext
 walk_at "vc"
noncomputable def e8(r:Row):Int×Int:=if r.2.2.2<0 then (r.at r.2.1,r.2.1) else (r.2.2.1,r.1)
theorem b7e{r:Row}(hb:ar (10^130) r):BX [r.d]=some (.sh (.tup [.int (e8 r).1,.int (e8 r).2])):=by
 refine Wo.eq (jg.mpr ?_)
 unfold LW
 rw [dA r]
 walk_at "v1"
 rw [a3S]
 walk_at "vc"
 unfold e8
 have kq:=hb
 unfold ar at kq
 have hd:=EH (r:=r) (x:=r.2.1) (by ext kq) (by ext kq) (by ext kq) (by ext kq)
 rw [dA r] at hd
 refine ⟨λh=>?_,λh=>?_⟩
 .rw [hd]
  walk_at "vc"
  rw [if_pos h]
 .rw [if_neg h]
theorem b4F{r:Row}{rs:List Row}(hb:∀q∈r::rs,ar (10^130) q)(hl:(r::rs).length<=9000):vt [.tup ((r::rs).map Row.d)]=some (.sh (.tup ((ei ((r::rs).map λq=>[(e8 q).1,(e8 q).2])).map D.int))):=by
 refine Wo.eq (jQ.mpr ?_)
 unfold L6
 walk_at "vc"
 rw [eM,Ai,<-eM]
 walk_at "vc"
 rw [mU Row.d (λq=>.tup [.int (e8 q).1,.int (e8 q).2]) (λe=>∃j,e=[j]) (r::rs) (λq hq e he=>?_) ⟨_,rfl⟩]
 .rw [aX]
  refine ⟨by omega,?_⟩
  walk_at "vc"
  rw [show ((r::rs).map λq=>D.tup [.int (e8 q).1,.int (e8 q).2])=(r::rs).map λq=>.tup ([(e8 q).1,(e8 q).2].map D.int) from rfl,Q5]
  walk_at "vc"
  simp
 .obtain ⟨j,rfl⟩:=he
  walk_at "vc"
  rw [b7e (hb q hq)]
  walk_at "vc"
  exact ⟨_,rfl⟩
theorem yX{a b c d:Int}:HT.lexLt [a,b] [c,d]=true↔a<c\/(a=c/\b<d):=by
 rw [HT.fg]
 by_cases h:a=c
 .rw [if_pos h,HT.fg]
  by_cases h2:b=d
  .rw [if_pos h2];simp [HT.eZ,h,h2]
  .rw [if_neg h2];simp [h]
 .rw [if_neg h];simp [h]
theorem Rp:∀(qs:List (Int×Int)) (p:Int×Int),∃m∈p::qs,ei ((p::qs).map λq=>[q.1,q.2])=[m.1,m.2]/\∀q∈p::qs,m.1<q.1\/(m.1=q.1/\m.2<=q.2)
 | [],p=>⟨p,by simp,rfl,λq hq=>by rw [bP.mp hq];exact .inr ⟨rfl,bF _⟩⟩
 | y::qs,p=>by
  have e:ei ((p::y::qs).map λq=>[q.1,q.2])=ei (((if HT.lexLt [y.1,y.2] [p.1,p.2] then y else p)::qs).map λq=>[q.1,q.2]):=by
   show List.foldl _ _ _=List.foldl _ _ _
   rw [eM,nC]
   split<;>rfl
  rw [e]
  obtain ⟨m,hm,e1,e2⟩:=Rp qs (if HT.lexLt [y.1,y.2] [p.1,p.2] then y else p)
  refine ⟨m,?_,e1,λq hq=>?_⟩
  .rcases bq.mp hm with h | h
   .rw [h];split<;>simp
   .simp [h]
  .have hf:=e2 _ aZ
   by_cases hy:HT.lexLt [y.1,y.2] [p.1,p.2]=true
   .rw [if_pos hy] at hf
    rw [yX] at hy
    rcases bq.mp hq with rfl | hq
    .ext hf hy
    .rcases bq.mp hq with rfl | hq
     .exact hf
     .exact e2 q (br _ hq)
   .rw [if_neg hy] at hf
    rw [yX] at hy
    rcases bq.mp hq with rfl | hq
    .exact hf
    .rcases bq.mp hq with rfl | hq
     .ext hf hy
     .exact e2 q (br _ hq)
theorem b4J{r:Row}(h:r.1<=r.2.1){x:Int}(h1:r.1<=x)(h2:x<=r.2.1):(e8 r).1<r.at x\/((e8 r).1=r.at x/\(e8 r).2<=x):=by
 unfold e8 Row.at
 by_cases hs:r.2.2.2<0
 .rw [if_pos hs]
  dsimp only
  by_cases hx:x=r.2.1
  .subst hx;right;exact ⟨rfl,bF _⟩
  .left
   have:r.2.2.2*(r.2.1-r.1)<r.2.2.2*(x-r.1):=Int.mul_lt_mul_of_neg_left (by ext h2 hx) hs
   ext this
 .rw [if_neg hs]
  dsimp only
  have:0<=r.2.2.2*(x-r.1):=mw (by ext hs) (by ext h1)
  by_cases hz:r.2.2.2*(x-r.1)=0
  .right;exact ⟨by ext hz,h1⟩
  .left;ext this hz
theorem b4K{r:Row}(h:r.1<=r.2.1):r.1<=(e8 r).2/\(e8 r).2<=r.2.1/\r.at (e8 r).2=(e8 r).1:=by
 unfold e8
 by_cases hs:r.2.2.2<0
 .rw [if_pos hs];exact ⟨h,bF _,rfl⟩
 .rw [if_neg hs]
  refine ⟨bF _,h,?_⟩
  unfold Row.at
  simp
noncomputable def p7(p:Int)(r:Row):Row:=(r.1,r.2.1,r.2.2.1-p*r.1,r.2.2.2-p)
theorem Qb(p:Int)(r:Row)(x:Int):(p7 p r).at x=r.at x-p*x:=by unfold p7 Row.at;dsimp only;grind
theorem b3v{rs:List Row}(h:bL rs)(p:Int):bL (rs.map (p7 p)):=by
 refine ⟨λr hr=>?_,pf.mpr h.2⟩
 obtain ⟨q,hq,rfl⟩:=cH.mp hr
 exact h.1 q hq
theorem b3u{rs:List Row}{p x c:Int}:Val (rs.map (p7 p)) x c↔Val rs x (c+p*x):=by
 constructor
 .rintro ⟨r,hr,h1,h2,h3⟩
  obtain ⟨q,hq,rfl⟩:=cH.mp hr
  rw [Qb] at h3
  exact ⟨q,hq,h1,h2,by ext h3⟩
 .rintro ⟨r,hr,h1,h2,h3⟩
  exact ⟨p7 p r,cH.mpr ⟨r,hr,rfl⟩,h1,h2,by rw [Qb];ext h3⟩
def be(rs:List Row)(p g:Int):Prop:=(∃x c,Val rs x c/\g=p*x-c)/\∀x c,Val rs x c->p*x-c<=g
theorem be.uniq{rs:List Row}{p g g':Int}(h:be rs p g)(h':be rs p g'):g=g':=by
 obtain ⟨⟨x,c,v,e⟩,k⟩:=h
 obtain ⟨⟨x',c',v',e'⟩,k'⟩:=h'
 have:=k _ _ v'
 have:=k' _ _ v
 omega
structure iG(rs fs:List Row):Prop where
 canon:Canon fs
 val:∀x c,Val fs x c↔Val rs x c
 ne:fs≠[]
 len:fs.length<=9000
 bd:∀r∈fs,(-(10^47)<=r.1/\r.1<=10^47)/\(-(10^47)<=r.2.1/\r.2.1<=10^47)/\(-(10^80)<=r.2.2.1/\r.2.2.1<=10^80)/\(-(2*10^80)<=r.2.2.2/\r.2.2.2<=2*10^80)
theorem b4A{rs fs:List Row}(F:iG rs fs){p:Int}(hp:-(10^80)<=p/\p<=10^80):∃gs:List Row,vf [.tup (fs.map Row.d),.int p]=some (.sh (.tup (gs.map Row.d)))/\gs≠[]/\gs.length<=9000/\Canon gs/\(∀x c,Val gs x c↔Val rs x (c+p*x))/\∀r∈gs,ar (10^130) r:=by
 have hlen:=F.len
 have XU:∀r∈fs.map (p7 p),ar (10^140) r:=λr hr=>by
  obtain ⟨q,hq,rfl⟩:=cH.mp hr
  have:=F.bd q hq
  have:=qZ (a:=p) (b:=q.1) (A:=10^80) (B:=10^47) (by ext hp) (by ext hp) (by ext this) (by ext this)
  unfold p7 ar
  dsimp only
  omega
 obtain ⟨gs,eg,L⟩:=sM (b3v F.canon.cL p) XU (by rw [aX];omega) (ro:=false)
 have hv:∀x c,Val gs x c↔Val rs x (c+p*x):=λx c=>by rw [L.val,b3u,F.val]
 refine ⟨gs,?_,λz=>F.ne (by simpa using L.none.mp z),by have:=L.len;rw [aX] at this;ext hlen this,L.canon,hv,λr hr=>?_⟩
 .refine Wo.eq (pJ.mpr ?_)
  unfold KI
  walk_at "vc"
  rw [mU Row.d (λr=>(p7 p r).d) (λe=>∃x0,e=[x0,.sh (.int p)]) fs (λr hr e he=>?_) ⟨_,rfl⟩]
  .rw [aX]
   walk_at "vc"
   rw [show fs.map (λr=>(p7 p r).d)=(fs.map (p7 p)).map Row.d by rw [fT];rfl,eg]
   walk_at "vc"
   omega
  .obtain ⟨x0,rfl⟩:=he
   have:=F.bd r hr
   rw [dA r]
   walk_at "vc"
   exact ⟨⟨_,rfl⟩,p8 (by ext hp) (by ext hp) (by ext this) (by ext this),rfl⟩
 .have:=u4 L.canon (B:=10^47) (C:=10^129) (by decide) (λx c h=>by
   obtain ⟨q,hq,h1,h2,h3⟩:=(F.val _ _).mpr ((hv x c).mp ((oD L.canon.cL).mp h))
   have:=F.bd q hq
   have e1:=qZ (a:=p) (b:=x) (A:=10^80) (B:=10^47) (by ext hp) (by ext hp) (by ext h1 this) (by ext h2 this)
   have e2:=qZ (a:=q.2.2.2) (b:=x-q.1) (A:=2*10^80) (B:=2*10^47) (by ext this) (by ext this) (by ext h1) (by ext h2 this)
   unfold Row.at at h3
   omega) r hr
  unfold ar
  ext this
theorem Pm{rs fs:List Row}(F:iG rs fs){p:Int}(hp:-(10^80)<=p/\p<=10^80):∃g:Int,w8 [.tup (fs.map Row.d),.int p]=some (.sh (.int g))/\be rs p g/\∃gs:List Row,vf [.tup (fs.map Row.d),.int p]=some (.sh (.tup (gs.map Row.d)))/\Canon gs/\gs.length<=9000/\(∀r∈gs,ar (10^130) r)/\(∀x c,Val gs x c↔Val rs x (c+p*x))/\∃y:Int,vt [.tup (gs.map Row.d)]=some (.sh (.tup [.int (-g),.int y])):=by
 obtain ⟨gs,eg,aW,hl,hc,hv,hb⟩:=b4A F hp
 obtain ⟨r,qs,rfl⟩:∃r qs,gs=r::qs:=by
  cases gs with
  | nil=>exact absurd rfl aW
  | cons r qs=>exact ⟨r,qs,rfl⟩
 have el:=b4F hb (by ext hl)
 obtain ⟨m,hm,em,He⟩:=Rp (qs.map e8) (e8 r)
 have e2:(r::qs).map (λq=>[(e8 q).1,(e8 q).2])=(e8 r::qs.map e8).map λq=>[q.1,q.2]:=by simp
 rw [e2,em] at el
 have bu:=λq hq=>(hc.1 q hq).1
 refine ⟨-m.1,?_,⟨?_,λx c h=>?_⟩,r::qs,eg,hc,hl,hb,hv,m.2,by rw [el,Ii];rfl⟩
 .refine Wo.eq (nV.mpr ?_)
  unfold K5
  walk_at "vc"
  rw [eg]
  walk_at "vc"
  rw [el,show jZ D.int [m.1,m.2]=[.int m.1,.int m.2] from rfl]
  walk_at "vc"
 .obtain ⟨q,hq,rfl⟩:∃q∈r::qs,m=e8 q:=by
   rw [<-eM (f:=e8)] at hm
   obtain ⟨q,hq,e⟩:=cH.mp hm
   exact ⟨q,hq,e.symm⟩
  obtain ⟨k1,k2,k3⟩:=b4K (bu q hq)
  have:=(hv (e8 q).2 (e8 q).1).mp ⟨q,hq,k1,k2,k3.symm⟩
  exact ⟨_,_,this,by ext⟩
 .have h':Val (r::qs) x (c-p*x):=(hv _ _).mpr (by rw [show c-p*x+p*x=c by ext];exact h)
  obtain ⟨q,hq,k1,k2,k3⟩:=h'
  have c1:=b4J (bu q hq) k1 k2
  have c2:=He (e8 q) (by rw [<-eM (f:=e8)];exact cH.mpr ⟨q,hq,rfl⟩)
  rw [<-k3] at c1
  ext c1 c2
theorem b4G(ns:List Int)(k:Int)(hk:0<=k){r:Bool}:BZ [.lst r (ns.map D.int),.int k]=some (.sh (.int (ns.getD k.toNat 0))):=by
 refine Wo.eq (jd.mpr ?_)
 unfold LY
 walk_at "vc"
 rw [aX]
 refine ⟨λh=>?_,λh=>?_⟩
 .rw [sT 0 hk h]
  walk_at "vc"
 .have:ns.length<=k.toNat:=by ext h
  simp [this]
theorem Ro:∀{ns:List Int},ns≠[]->fJ ns∈ns/\∀n∈ns,n<=fJ ns:=by
 intro ns
 have key:∀(r:List Int) (a:Int),r.foldl (λa b=>if b>a then b else a) a∈a::r/\a<=r.foldl (λa b=>if b>a then b else a) a/\∀n∈r,n<=r.foldl (λa b=>if b>a then b else a) a:=λr=>by
  induction r with
  | nil=>intro a;simp
  | cons b r ih =>
   intro a
   simp only [nC]
   obtain ⟨h1,h2,h3⟩:=ih (if b>a then b else a)
   have hx:a<=(if b>a then b else a)/\b<=(if b>a then b else a):=by split<;>omega
   refine ⟨?_,by omega,λn hn=>?_⟩
   .rcases bq.mp h1 with h | h
    .rw [h];split<;>simp
    .exact br _ (br _ h)
   .rcases bq.mp hn with rfl | hn
    .omega
    .exact h3 n hn
 cases ns with
 | nil=>intro h;exact (h rfl).elim
 | cons m r =>
  intro _
  obtain ⟨h1,h2,h3⟩:=key r m
  refine ⟨h1,λn hn=>?_⟩
  rcases bq.mp hn with rfl | hn
  .exact h2
  .exact h3 n hn
noncomputable def kM(rs:List Row):List Span:=rs.flatMap λr=>[(r.1,r.2.2.1),(r.2.1,r.at r.2.1)]
theorem BD:∀rs:List Row,(kM rs).length=2*rs.length
 | []=>rfl
 | r::rs=>by
  have:=BD rs
  unfold kM at *
  rw [qS,cM,this]
  simp
  ext
theorem E5{rs:List Row}(ha:bL rs){q:Span}(h:q∈kM rs):Val rs q.1 q.2:=by
 obtain ⟨r,hr,k⟩:=iw.mp h
 have ok:=ha.1 r hr
 simp at k
 rcases k with rfl | rfl
 .exact ⟨r,hr,bF _,ok,by unfold Row.at;simp⟩
 .exact ⟨r,hr,ok,bF _,rfl⟩
theorem b9y{r:Row}(h:lW r){x:Int}(h1:r.1<=x)(h2:x<=r.2.1):-(2*10^79)<=r.at x/\r.at x<=2*10^79:=by
 unfold lW at h
 have e2:=qZ (a:=r.2.2.2) (b:=x-r.1) (A:=10^30) (B:=2*10^46) (by ext h) (by ext h) (by ext h1) (by ext h h2)
 unfold Row.at
 omega
theorem wM{rs:List Row}(hb:∀r∈rs,lW r){x c:Int}(h:Val rs x c):(-(10^46)<=x/\x<=10^46)/\(-(2*10^79)<=c/\c<=2*10^79):=by
 obtain ⟨r,hr,h1,h2,rfl⟩:=h
 have b:=hb r hr
 refine ⟨?_,b9y b h1 h2⟩
 unfold lW at b
 ext h1 h2 b
theorem Pk{rs:List Row}(hb:∀r∈rs,lW r)(hl:rs.length<=100){ro:Bool}:xq [.lst ro (rs.map Row.d)]=some (.ow ((kM rs).map Span.d)):=by
 refine Wo.eq (mE.mpr ?_)
 unfold Lh
 walk_at "v1"
 refine lQ Row.d (λpre env=>∃x2 x3 x4 x5,env=[.sh (.lst ro (rs.map Row.d)),.ow ((kM pre).map Span.d),x2,x3,x4,x5]) rs (λpre r post env e h=>?_) (λenv h=>?_) ⟨_,_,_,_,rfl⟩
 .obtain ⟨x2,x3,x4,x5,rfl⟩:=h
  have hr:=hb r (by rw [e];simp)
  unfold lW at hr
  have hm:MulC r.2.2.2 (r.2.1-r.1):=p8 (by ext hr) (by ext hr) (by ext hr) (by ext hr)
  have dr:pre.length<100:=by have:=congrArg pd e;simp at this;ext hl this
  have:=BD pre
  rw [dA r]
  walk_at "vc"
  simp only [cM,aX,sy]
  refine ⟨by ext dr this,hm,by ext dr this,.sh (.int r.1),.sh (.int r.2.1),.sh (.int r.2.2.1),.sh (.int r.2.2.2),?_⟩
  unfold kM
  rw [DQ,eJ]
  simp [Span.d,Row.at]
 .obtain ⟨x2,x3,x4,x5,rfl⟩:=h
  walk_at "vc"
theorem b7b{rs:List Row}(ha:bL rs)(hb:∀r∈rs,lW r)(hl:rs.length<=100)(aW:rs≠[]){p:Int}(hp:-(10^83)<=p/\p<=10^83){ro:Bool}:∃g:Int,xr [.lst ro (rs.map Row.d),.int p]=some (.sh (.int g))/\be rs p g:=by
 have hn:(kM rs).map (λq=>p*q.1-q.2)≠[]:=λz=>by
  have:=congrArg pd z
  rw [aX,BD] at this
  exact aW (DI.mp (by simp at this;ext this))
 obtain ⟨m1,m2⟩:=Ro hn
 refine ⟨fJ ((kM rs).map λq=>p*q.1-q.2),?_,?_,λx c h=>?_⟩
 .refine Wo.eq (mD.mpr ?_)
  unfold Li
  walk_at "vc"
  rw [Pk hb hl]
  walk_at "vc"
  rw [mU Span.d (λq=>.int (p*q.1-q.2)) (λe=>∃x0 x1,e=[x0,x1,.sh (.int p)]) (kM rs) (λq hq e he=>?_) ⟨_,_,rfl⟩]
  .rw [aX]
   have:=BD rs
   walk_at "vc"
   rw [show (kM rs).map (λq=>D.int (p*q.1-q.2))=((kM rs).map λq=>p*q.1-q.2).map D.int by rw [fT];rfl,BE]
   walk_at "vc"
   exact ⟨by ext hl this,hn⟩
  .obtain ⟨x0,x1,rfl⟩:=he
   have:=wM hb (E5 ha hq)
   rw [wR]
   walk_at "vc"
   exact ⟨⟨_,_,rfl⟩,p8 (by ext hp) (by ext hp) (by ext this) (by ext this)⟩
 .obtain ⟨q,hq,e⟩:=cH.mp m1
  exact ⟨q.1,q.2,E5 ha hq,e.symm⟩
 .obtain ⟨r,hr,h1,h2,rfl⟩:=h
  have k1:=m2 _ (cH.mpr ⟨(r.1,r.2.2.1),iw.mpr ⟨r,hr,by simp⟩,rfl⟩)
  have k2:=m2 _ (cH.mpr ⟨(r.2.1,r.at r.2.1),iw.mpr ⟨r,hr,by simp⟩,rfl⟩)
  dsimp only at k1 k2
  generalize fJ ((kM rs).map λq=>p*q.1-q.2)=M at *
  clear m1 m2 hn
  unfold Row.at at *
  by_cases hs:r.2.2.2<=p
  .have:=mw (show 0<=p-r.2.2.2 by ext hs) (show 0<=r.2.1-x by ext h2)
   grind
  .have:=mw (show 0<=r.2.2.2-p by ext hs) (show 0<=x-r.1 by ext h1)
   grind
theorem PC{rs:List Span}{i:Int}(i1:0<=i)(i2:i<rs.length):∃r∈rs,dN (rs.map Span.d) i=some r.d:=by
 refine ⟨rs.getD i.toNat (0,0),?_,sT (0,0) i1 i2⟩
 have h:i.toNat<rs.length:=by ext i1 i2
 have:rs.getD i.toNat (0,0)=rs[i.toNat]:=by simp [h]
 rw [this];exact qR h
theorem rw_at{rs:List Row}{i:Int}(i1:0<=i)(i2:i<rs.length):∃r∈rs,dN (rs.map Row.d) i=some r.d:=by
 refine ⟨rs.getD i.toNat (0,0,0,0),?_,sT (0,0,0,0) i1 i2⟩
 have h:i.toNat<rs.length:=by ext i1 i2
 have:rs.getD i.toNat (0,0,0,0)=rs[i.toNat]:=by simp [h]
 rw [this];exact qR h
theorem b66{rs:List Row}(ha:bL rs)(hb:∀r∈rs,lW r)(hl:rs.length<=100)(aW:rs≠[]){m:Int}(hm:0<=m){ro:Bool}:∃p:Int,xl [.lst ro (rs.map Row.d),.int m]=some (.sh (.int p)) /\ -(10^80)<=p/\p<=10^80:=by
 have key:Wo (xl [.lst ro (rs.map Row.d),.int m]) λs=>∃p:Int,s=.sh (.int p) /\ -(10^80)<=p/\p<=10^80:=by
  refine kT.mpr ?_
  unfold LC
  have ij:0<rs.length:=nE.mpr aW
  have fK:=BD rs
  obtain ⟨a,um,ea⟩:=PC (rs:=kM rs) (i:=m%(kM rs).length) (ny _ (by ext ij fK)) (nI _ (by ext ij fK))
  obtain ⟨b,C4,eb⟩:=PC (rs:=kM rs) (i:=m/64%(kM rs).length) (ny _ (by ext ij fK)) (nI _ (by ext ij fK))
  obtain ⟨r,hr,er⟩:=rw_at (rs:=rs) (i:=m%rs.length) (ny _ (by ext ij)) (nI _ (by ext ij))
  have va:=wM hb (E5 ha um)
  have vb:=wM hb (E5 ha C4)
  have vr:=hb r hr
  unfold lW at vr
  walk_at "v1"
  rw [Pk hb hl]
  walk_at "v1"
  simp only [aX]
  walk_at "st"
  rw [ea,a0h]
  walk_at "v1"
  walk_at "st"
  rw [eb,a0h]
  walk_at "v1"
  rw [er,dA r]
  walk_at "v1"
  walk_at "st"
  refine Wo.mono (P:=λq=>∃ps:List Int,q=(.nx,[.sh (.lst ro (rs.map Row.d)),.sh (.int m),.sh (.lst false ((kM rs).map Span.d)),.sh a.d,.sh b.d,.ow (ps.map D.int)])/\0<ps.length/\∀p∈ps,-(10^80)<=p/\p<=10^80) ?_ λq hq=>?_
  .rw [a3S,wR a,wR b]
   walk_at "vc"
   refine ⟨λhn=>?_,λ_=>⟨[r.2.2.2,r.2.2.2+1,m/8%41-20,m%10^50-5*10^49],rfl,by simp,λp hp=>by simp at hp;omega⟩⟩
   have hd:nY (a.2-b.2) (a.1-b.1):=⟨by ext hn,by unfold LIM;ext va vb,by unfold LIM;ext va vb⟩
   have hq:=b9e (a:=a.2-b.2) (b:=a.1-b.1) (B:=4*10^79) (by ext hn) (by ext va vb) (by ext va vb)
   generalize (a.2-b.2).fdiv (a.1-b.1)=q at *
   refine ⟨hd,hd,by simp,[r.2.2.2,r.2.2.2+1,m/8%41-20,m%10^50-5*10^49,q,q+1],rfl,by simp,λp hp=>by simp at hp;omega⟩
  .obtain ⟨ps,rfl,Nd,ub⟩:=hq
   walk_at "v1"
   rw [aX]
   walk_at "st"
   refine Kr ps (ny _ (by ext Nd)) (nI _ (by ext Nd)) λv hv=>?_
   walk_at "vc"
   exact ⟨v,rfl,ub v hv⟩
 obtain ⟨s,e,p,rfl,h⟩:=key
 exact ⟨p,e,h⟩
theorem b6U{rs fs:List Row}(L:Laid rs fs)(hb:∀r∈rs,lW r)(hl:rs.length<=100)(aW:rs≠[]):iG rs fs:=
 ⟨L.canon,L.val,λz=>aW (L.none.mp z),by have:=L.len;omega,λr hr=>by
  have:=u4 L.canon (B:=10^46) (C:=2*10^79) (by decide) (λx c h=>wM hb ((L.val x c).mp ((oD L.canon.cL).mp h))) r hr
  ext this⟩
theorem Pj{rs fs:List Row}(F:iG rs fs){p:Int}(hp:-(10^80)<=p/\p<=10^80):∃(g:Int) (ss:List Span),w8 [.tup (fs.map Row.d),.int p]=some (.sh (.int g))/\be rs p g/\vw [.tup (fs.map Row.d),.int p]=some (.sh (.tup (ss.map Span.d)))/\ss≠[]/\(∀s∈ss,s.1<=s.2)/\(ss.Pairwise λa b=>a.2+1<b.1)/\(∀x,dP ss x↔∃c,Val rs x c/\p*x-c=g)/\ss.length<=100000:=by
 obtain ⟨g,eg,hg,gs,et,hc,hl,hb,hv,y,el⟩:=Pm F hp
 obtain ⟨ss,es,ok,ap,gO,sl,sb⟩:=Am hc.cL hb (by lia) (-g)
 have Aq:∀x,dP ss x↔∃c,Val rs x c/\p*x-c=g:=λx=>by
  rw [gO]
  constructor
  .rintro ⟨c,h1,h2⟩
   have h3:=(hv x c).mp ((oD hc.cL).mp h1)
   have:=hg.2 _ _ h3
   exact ⟨_,h3,by ext h2 this⟩
  .rintro ⟨c,h1,h2⟩
   exact ⟨c-p*x,(oD hc.cL).mpr ((hv x _).mpr (by rw [show c-p*x+p*x=c by ext];exact h1)),by ext h2⟩
 refine ⟨g,ss,eg,hg,?_,λz=>?_,ok,ap,Aq,by lia⟩
 .refine Wo.eq (iD.mpr ?_)
  unfold Ml
  walk_at "vc"
  rw [et]
  walk_at "vc"
  rw [el]
  walk_at "vc"
  rw [es]
  walk_at "vc"
 .obtain ⟨x,c,h1,h2⟩:=hg.1
  obtain ⟨s,hs,_⟩:=(Aq x).mpr ⟨c,h1,h2.symm⟩
  rw [z] at hs
  cases hs
noncomputable def Bf:Option Int->Option Int->Option Int
 | some a,some b=>some (a+b)
 | _,_=>none
noncomputable def pZ(m:Met):Row:=(m.lo,m.hi,m.a.at m.lo+m.b.at m.lo,m.a.2.2.2+m.b.2.2.2)
theorem b11{A B:List Row}(ha:bL A)(hb:bL B):bL ((bg A B).map pZ)/\∀x c,Val ((bg A B).map pZ) x c↔Bf (look A x) (look B x)=some c:=by
 obtain ⟨h1,h2⟩:=b37 ha hb pZ (λm=>⟨rfl,rfl⟩) (·+·) λm _ x=>by unfold pZ Row.at;dsimp only;grind
 refine ⟨h1,λx c=>?_⟩
 rw [h2]
 constructor
 .rintro ⟨p,q,k1,k2,rfl⟩
  rw [u7 ha] at k1
  rw [u7 hb] at k2
  rw [k1,k2];rfl
 .intro h
  cases e1:look A x with
  | none=>rw [e1] at h;cases h
  | some p =>
   cases e2:look B x with
   | none=>rw [e1,e2] at h;cases h
   | some q =>
    rw [e1,e2] at h
    exact ⟨p,q,(u7 ha).mpr e1,(u7 hb).mpr e2,(cT h).symm⟩
theorem b9l{A B:List Row}{V C:Int}(ca:bL A)(cb:bL B)(ha:∀r∈A,ar (10^138) r)(hb:∀r∈B,ar (10^138) r)(hC:C<=10^138)(va:∀x c,look A x=some c -> -C<=c/\c<=C)(vb:∀x c,look B x=some c -> -C<=c/\c<=C)(l1:A.length<=10000)(l2:B.length<=10000):
  ∃fs:List Row,w6 [.tup (A.map Row.d),.tup (B.map Row.d)]=some (.sh (.tup (fs.map Row.d)))/\Laid ((bg A B).map pZ) fs/\(∀x,look fs x=Bf (look A x) (look B x))/\fs.length<=A.length+B.length:=by
 obtain ⟨p1,p2⟩:=b11 ca cb
 have hlen:=EW (A:=A) (B:=B) (bw _)
 have uk:∀r∈(bg A B).map pZ,ar (10^140) r:=λr hr=>by
  obtain ⟨m,hm,rfl⟩:=cH.mp hr
  obtain ⟨k1,k2,k3,k4,k5⟩:=lU (bw _) hm
  have q1:=ha _ k1
  have q2:=hb _ k2
  have r1:=va _ _ (lS ca k1 (x:=m.lo) (by ext k3) (by ext k4 k5))
  have r2:=vb _ _ (lS cb k2 (x:=m.lo) (by ext k3) (by ext k4 k5))
  unfold ar at q1 q2
  unfold pZ ar
  dsimp only
  omega
 obtain ⟨fs,ef,L⟩:=sM p1 uk (by rw [aX];ext l1 l2 hlen) (ro:=false)
 refine ⟨fs,?_,L,λx=>Ke L.canon.cL λc=>by rw [L.val,p2],by have:=L.len;rw [aX] at this;ext hlen this⟩
 refine Wo.eq (vz.mpr ?_)
 unfold JL
 walk_at "vc"
 rw [OI (λr hr=>(ha r hr).mono (by decide)) (λr hr=>(hb r hr).mono (by decide)) (by ext l1) (by ext l2)]
 walk_at "vc"
 rw [mU Met.d (λm=>(pZ m).d) (λe=>∃x0 x1 x2 x3,e=[x0,x1,x2,x3]) (bg A B) (λm _ e he=>?_) ⟨_,_,_,_,rfl⟩]
 .rw [aX]
  walk_at "vc"
  rw [show (bg A B).map (λm=>(pZ m).d)=((bg A B).map pZ).map Row.d by rw [fT];rfl,ef]
  walk_at "vc"
  ext l1 l2 hlen
 .obtain ⟨x0,x1,x2,x3,rfl⟩:=he
  rw [OZ,Eg,Eg]
  walk_at "vc"
  exact ⟨⟨_,_,_,_,rfl⟩,rfl⟩
structure dM(lo hi:Int)(Ls:List (Int×Int))(fs:List Row):Prop where
 canon:Canon fs
 val:∀p v,look fs p=some v↔(lo<=p/\p<=hi)/\(∃l∈Ls,v=dD l p)/\∀l∈Ls,v<=dD l p
theorem Py(p:Int):∀{Ls:List (Int×Int)},Ls≠[]->∃l∈Ls,∀k∈Ls,dD l p<=dD k p
 | [],h=>absurd rfl h
 | [a],_=>⟨a,aZ ..,λk hk=>by rw [bP.mp hk];exact bF _⟩
 | a::b::Ls,_=>by
  obtain ⟨l,hl,h⟩:=Py p (Ls:=b::Ls) (by simp)
  by_cases Nq:dD a p<=dD l p
  .refine ⟨a,aZ ..,λk hk=>?_⟩
   rcases bq.mp hk with rfl | hk
   .exact bF _
   .exact v9 Nq (h k hk)
  .refine ⟨l,br _ hl,λk hk=>?_⟩
   rcases bq.mp hk with rfl | hk
   .ext Nq
   .exact h k hk
theorem dM.has{lo hi:Int}{Ls:List (Int×Int)}{fs:List Row}(E:dM lo hi Ls fs)(aW:Ls≠[]){p:Int}(h1:lo<=p)(h2:p<=hi):∃v,look fs p=some v:=by
 obtain ⟨l,hl,h⟩:=Py p aW
 exact ⟨_,(E.val p _).mpr ⟨⟨h1,h2⟩,⟨l,hl,rfl⟩,h⟩⟩
theorem RL:∀{fs:List Row},bL fs->(∀r∈fs,∀s∈fs,∀p,r.1<=p->p<=s.2.1->∃q∈fs,q.1<=p/\p<=q.2.1)->aS (λa b=>b.1=a.2.1+1) fs
 | [],_,_=>trivial
 | [a],_,_=>trivial
 | a::b::fs,ha,h=>by
  have nh:=(fC.mp ha.2).1
  have hb:=nh b (aZ ..)
  have qC:=(fC.mp (fC.mp ha.2).2).1
  have o1:=ha.1 a (aZ ..)
  have o2:=ha.1 b (br _ (aZ ..))
  refine ⟨?_,RL (fs:=b::fs) ⟨λr hr=>ha.1 r (br _ hr),(fC.mp ha.2).2⟩ λr hr s hs p h1 h2=>?_⟩
  .refine Ov λz=>?_
   obtain ⟨q,hq,k1,k2⟩:=h a (aZ ..) b (br _ (aZ ..)) (a.2.1+1) (by ext o1) (by ext hb o2)
   rcases bq.mp hq with rfl | hq
   .ext k2
   .rcases bq.mp hq with rfl | hq
    .ext k1 hb z
    .have:=qC q hq
     ext hb o2 k1 this
  .obtain ⟨q,hq,k1,k2⟩:=h r (br _ hr) s (br _ hs) p h1 h2
   rcases bq.mp hq with rfl | hq
   .have:=nh r hr
    ext _ h1 k2 this
   .exact ⟨q,hq,k1,k2⟩
theorem dM.row{lo hi:Int}{Ls:List (Int×Int)}{fs:List Row}(E:dM lo hi Ls fs){r:Row}(hr:r∈fs){x:Int}(h1:r.1<=x)(h2:x<=r.2.1):(lo<=x/\x<=hi)/\(∃l∈Ls,r.at x=dD l x)/\∀l∈Ls,r.at x<=dD l x:=(E.val x _).mp (lS E.canon.cL hr h1 h2)
theorem dM.len{lo hi:Int}{Ls:List (Int×Int)}{fs:List Row}(E:dM lo hi Ls fs)(aW:Ls≠[]):fs.length<=Ls.length:=by
 have ho:=E.canon.cL.1
 refine P8 (Ls:=Ls) (M:=Ls) E.canon.2 (RL E.canon.cL λr hr s hs p h1 h2=>?_) ho (λ_ h=>h) (λr hr k hk=>⟨(E.row hr (bF _) (ho r hr)).2.2 k hk,(E.row hr (ho r hr) (bF _)).2.2 k hk⟩)
  (λr hr=>⟨(E.row hr (bF _) (ho r hr)).2.1,(E.row hr (ho r hr) (bF _)).2.1⟩) λr hr=>(E.row hr (bF _) (ho r hr)).2.1
 obtain ⟨v,hv⟩:=E.has aW (p:=p) (v9 (E.row hr (bF _) (ho r hr)).1.1 h1) (v9 h2 (E.row hs (ho s hs) (bF _)).1.2)
 obtain ⟨q,hq,k1,k2,_⟩:=rh hv
 exact ⟨q,hq,k1,k2⟩
def gH(l:Int×Int):Prop:=(-(10^80)<=l.1/\l.1<=10^80)/\(-(10^47)<=l.2/\l.2<=10^47)
theorem yW{l:Int×Int}(h:gH l){p:Int}(hp:-(10^82)<=p/\p<=10^82):-(10^130)<=dD l p/\dD l p<=10^130:=by
 unfold gH at h
 unfold dD
 have hm:=qZ (a:=l.2) (b:=p) (A:=10^47) (B:=10^82) (by ext h) (by ext h) (by ext hp) (by ext hp)
 have e:(10^47:Int)*10^82=10^129:=by decide +kernel
 rw [e] at hm
 ext h hm
theorem dM.vals{lo hi:Int}{Ls:List (Int×Int)}{fs:List Row}(E:dM lo hi Ls fs)(hb:∀l∈Ls,gH l)(h1:-(10^82)<=lo)(h2:hi<=10^82):∀x c,look fs x=some c->(-(10^82)<=x/\x<=10^82)/\(-(10^130)<=c/\c<=10^130):=λx c h=>by
 obtain ⟨k1,⟨l,hl,rfl⟩,_⟩:=(E.val x c).mp h
 exact ⟨by ext h1 h2 k1,yW (hb l hl) (by ext h1 h2 k1)⟩
theorem dM.bd{lo hi:Int}{Ls:List (Int×Int)}{fs:List Row}(E:dM lo hi Ls fs)(hb:∀l∈Ls,gH l)(h1:-(10^82)<=lo)(h2:hi<=10^82):∀r∈fs,ar (10^140) r:=λr hr=>by
 have:=u4 E.canon (B:=10^82) (C:=10^130) (by decide) (E.vals hb h1 h2) r hr
 unfold ar
 ext this
theorem b69{lo hi:Int}{Ls Ms:List (Int×Int)}{A B:List Row}(EA:dM lo hi Ls A)(EB:dM lo hi Ms B)(hL:∀l∈Ls,gH l)(hM:∀l∈Ms,gH l)(n1:Ls≠[])(n2:Ms≠[])(h1:-(10^82)<=lo)(h2:hi<=10^82)(hl:Ls.length+Ms.length<=16384):
  ∃fs:List Row,jr [.tup (A.map Row.d),.tup (B.map Row.d)]=some (.sh (.tup (fs.map Row.d)))/\dM lo hi (Ls++Ms) fs:=by
 have la:=EA.len n1
 have lb:=EB.len n2
 obtain ⟨fs,e,c,lk,_⟩:=P5 (V:=10^82) (C:=10^130) EA.canon.cL EB.canon.cL (EA.bd hL h1 h2) (EB.bd hM h1 h2) (by decide) (by decide) (EA.vals hL h1 h2) (EB.vals hM h1 h2) (by unfold lI;omega)
 refine ⟨fs,e,c,λp v=>?_⟩
 rw [lk]
 by_cases hp:lo<=p/\p<=hi
 .obtain ⟨a,ha⟩:=EA.has n1 hp.1 hp.2
  obtain ⟨b,hb⟩:=EB.has n2 hp.1 hp.2
  obtain ⟨_,⟨l,hl,a1⟩,a2⟩:=(EA.val p a).mp ha
  obtain ⟨_,⟨m,hm,b1⟩,b2⟩:=(EB.val p b).mp hb
  rw [ha,hb]
  show some (min a b)=some v↔_
  constructor
  .intro z
   cases z
   refine ⟨hp,?_,λk hk=>?_⟩
   .by_cases nh:a<=b
    .exact ⟨l,gp _ hl,by ext a1 nh⟩
    .exact ⟨m,fQ _ hm,by ext b1 nh⟩
   .rcases bT.mp hk with hk | hk
    .have:=a2 k hk;ext this
    .have:=b2 k hk;ext this
  .rintro ⟨_,⟨k,hk,rfl⟩,h⟩
   have i1:=h l (gp _ hl)
   have i2:=h m (fQ _ hm)
   congr 1
   rcases bT.mp hk with hk | hk
   .have:=a2 k hk;ext a1 b1 i1 i2 this
   .have:=b2 k hk;ext a1 b1 i1 i2 this
 .have ha:look A p=none:=by
   cases q:look A p with
   | none=>rfl
   | some a=>exact absurd ((EA.val p a).mp q).1 hp
  have hb:look B p=none:=by
   cases q:look B p with
   | none=>rfl
   | some a=>exact absurd ((EB.val p a).mp q).1 hp
  rw [ha,hb]
  exact ⟨λz=>(nomatch z),λz=>absurd z.1 hp⟩
def Fy(φ:List D->Option Sl)(n:Nat):Prop:=∀{lo hi:Int} {ff:Int×Int->List Row} {Ls:List (Int×Int)} {r:Bool},-(10^82)<=lo->hi<=10^82->(∀l∈Ls,gH l/\dM lo hi [l] (ff l))->Ls≠[]->Ls.length<=n->∃fs:List Row,φ [.lst r (Ls.map λl=>.tup ((ff l).map Row.d))]=some (.sh (.tup (fs.map Row.d)))/\dM lo hi Ls fs
theorem PL{φ:List D->Option Sl}{ψ:List D->Option Sl}(W:∀{a0:D} {Q:Sl->Prop},Wo (ψ [a0]) Q↔Wo (Gl φ [.sh a0,.no]) (aG Q)):Fy ψ 1:=λ{lo hi ff Ls r} h1 h2 hf aW hl=>by
 match Ls,aW,hl with
 | [l],_,_ =>
  refine ⟨ff l,Wo.eq (W.mpr ?_),(hf l (aZ ..)).2⟩
  unfold Gl
  dsimp only [jZ]
  walk_at "vc"
  exact λz=>nomatch z
theorem nK{φ ψ:List D->Option Sl}{n:Nat}(hn:n<=8192)(h:Fy φ n)(W:∀{a0:D} {Q:Sl->Prop},Wo (ψ [a0]) Q↔Wo (Gl φ [.sh a0,.no]) (aG Q)):Fy ψ (2*n):=λ{lo hi ff Ls r} h1 h2 hf aW hl=>by
 by_cases hlen:Ls.length<2
 .have km:=nE.mpr aW
  exact PL W h1 h2 hf aW (by ext hlen)
 .obtain ⟨k,hk⟩:∃k:Nat,(Ls.length:Int)/2=k:=⟨((Ls.length:Int)/2).toNat,by omega⟩
  have vV:1<=k:=by omega
  have m9:k<Ls.length:=by omega
  have nA:Ls.take k≠[]:=pq (by rw [iA];ext vV m9)
  have nB:Ls.drop k≠[]:=pq (by rw [kG];ext m9)
  obtain ⟨A,ea,EA⟩:=h (r:=false) h1 h2 (Ls:=Ls.take k) (λl lz=>hf l (qP lz)) nA (by rw [iA];omega)
  obtain ⟨B,eb,EB⟩:=h (r:=false) h1 h2 (Ls:=Ls.drop k) (λl lz=>hf l (qO lz)) nB (by rw [kG];omega)
  obtain ⟨fs,ef,E⟩:=b69 EA EB (λl lz=>(hf l (qP lz)).1) (λl lz=>(hf l (qO lz)).1) nA nB h1 h2 (by rw [iA,kG];omega)
  rw [nF] at E
  refine ⟨fs,Wo.eq (W.mpr ?_),E⟩
  unfold Gl
  walk_at "v1"
  refine rg ?_ ?_
  .walk_at "vc"
   rw [aX]
   ext hlen
  walk_at "v1"
  rw [aX,hk,u5,u5,Ph _ (by ext m9),JT _ (by ext m9)]
  walk_at "v1"
  refine ⟨P2 (by decide) (by decide),?_⟩
  rw [ea]
  walk_at "v1"
  rw [eb]
  walk_at "v1"
  rw [ef]
  walk_at "vc"
theorem yV:Fy qa 8192:=
 (nK (n:=4096) (by decide) (nK (n:=2048) (by decide) (nK (n:=1024) (by decide) (nK (n:=512) (by decide) (nK (n:=256) (by decide) (nK (n:=128) (by decide) (nK (n:=64) (by decide) (nK (n:=32) (by decide) (nK (n:=16) (by decide) (nK (n:=8) (by decide) (nK (n:=4) (by decide) (nK (n:=2) (by decide) (nK (n:=1) (by decide) (PL (φ:=B0) a76) (φ:=xh) a75) (φ:=xi) a74) (φ:=xj) a73) (φ:=xk) a72) (φ:=xw) a71) (φ:=xx) a70) (φ:=xy) a7Z) (φ:=xA) a7Y) (φ:=vv) Si) (φ:=tm) Mo) (φ:=tq) Mp) (φ:=tu) Md) (φ:=tx) bQ)
theorem b9q{x c lo hi:Int}(h:lo<=hi)(hx:-(10^47)<=x/\x<=10^47)(hc:-(10^80)<=c/\c<=10^80)(h1:-(10^82)<=lo)(h2:hi<=10^82):∃fs:List Row,vm [.int x,.int c,.int lo,.int hi]=some (.sh (.tup (fs.map Row.d)))/\dM lo hi [(c,-x)] fs:=by
 have hm:=qZ (a:=lo) (b:=x) (A:=10^82) (B:=10^47) (by ext h1) (by ext h h2) (by ext hx) (by ext hx)
 have e:(10^82:Int)*10^47=10^129:=by decide +kernel
 rw [e] at hm
 obtain ⟨fs,ef,L⟩:=sM (rows:=[(lo,hi,c-lo*x,-x)]) ⟨λr hr=>by rw [bP.mp hr];exact h,pV _ _⟩ (λr hr=>by rw [bP.mp hr];unfold ar;dsimp only;ext h hx hc h1 h2 hm) (by simp) (ro:=false)
 refine ⟨fs,?_,L.canon,λp v=>?_⟩
 .refine Wo.eq (nR.mpr ?_)
  unfold K8
  walk_at "vc"
  refine ⟨p8 (by ext h1) (by ext h h2) (by ext hx) (by ext hx),?_⟩
  rw [show [D.tup [D.int lo,D.int hi,D.int (c-lo*x),D.int (-x)]]=([(lo,hi,c-lo*x,-x)]:List Row).map Row.d from rfl,ef]
  walk_at "vc"
 .rw [oD L.canon.cL,L.val]
  have n9:∀y,Row.at (lo,hi,c-lo*x,-x) y=dD (c,-x) y:=λy=>by unfold Row.at dD;dsimp only;grind
  constructor
  .rintro ⟨r,hr,k1,k2,rfl⟩
   rw [bP.mp hr] at *
   exact ⟨⟨k1,k2⟩,⟨_,bP.mpr rfl,n9 p⟩,λl hl=>by rw [bP.mp hl,n9 p];exact bF _⟩
  .rintro ⟨hp,⟨l,hl,rfl⟩,_⟩
   rw [bP.mp hl]
   exact ⟨_,bP.mpr rfl,hp.1,hp.2,(n9 p).symm⟩
noncomputable def rf(n:Int)(r:Row):Row:=(r.1,r.2.1,r.2.2.1*n,r.2.2.2*n)
theorem b0T{A:List Row}(ha:bL A)(n:Int):bL (A.map (rf n))/\∀x c,Val (A.map (rf n)) x c↔(look A x).map (·*n)=some c:=
 b4a ha (rf n) (λ_=>⟨rfl,rfl⟩) (·*n) λr x=>by unfold rf Row.at;dsimp only;grind
theorem Aj{A:List Row}(cA:Canon A)(ha:∀r∈A,ar (10^140) r)(l1:A.length<=900000):∃fs:List Row,BJ [.tup (A.map Row.d),.int (-1)]=some (.sh (.tup (fs.map Row.d)))/\Canon fs/\(∀x,look fs x=(look A x).map (·*(-1)))/\fs.length<=A.length:=by
 obtain ⟨p1,p2⟩:=b0T cA.cL (-1)
 have uk:∀r∈A.map (rf (-1)),ar (10^140) r:=λr hr=>by
  obtain ⟨q,hq,rfl⟩:=cH.mp hr
  have hb:=ha q hq
  unfold ar at hb
  unfold rf ar
  dsimp only
  ext hb
 obtain ⟨fs,ef,L⟩:=sM p1 uk (by rw [aX];ext l1) (ro:=false)
 refine ⟨fs,?_,L.canon,λx=>Ke L.canon.cL λc=>by rw [L.val,p2],by have:=L.len;rw [aX] at this;exact this⟩
 refine Wo.eq (rq.mpr ?_)
 unfold KD
 walk_at "vc"
 rw [mU Row.d (λr=>(rf (-1) r).d) (λe=>∃x0,e=[x0,.sh (.int (-1))]) A (λr hr e he=>?_) ⟨_,rfl⟩]
 .rw [aX]
  walk_at "vc"
  rw [show A.map (λr=>(rf (-1) r).d)=(A.map (rf (-1))).map Row.d by rw [fT];rfl,ef]
  walk_at "vc"
  ext l1
 .obtain ⟨x0,rfl⟩:=he
  have hb:=ha r hr
  unfold ar at hb
  rw [dA r]
  walk_at "vc"
  exact ⟨⟨_,rfl⟩,p8 (by ext hb) (by ext hb) (by ext) (by ext),p8 (by ext hb) (by ext hb) (by ext) (by ext),rfl⟩
noncomputable def mx(r:Row):List (Int×Int):=[(r.2.2.1,-r.1),(r.at r.2.1,-r.2.1)]
theorem wZ:∀fs:List Row,(fs.flatMap mx).length=2*fs.length
 | []=>rfl
 | r::fs=>by
  rw [qS,cM,wZ fs]
  show 2+2*fs.length=2*(fs.length+1)
  ext
theorem b7c{fs:List Row}(aW:fs≠[])(hl:fs.length<=4096)(hb:∀r∈fs,((-(10^47)<=r.1/\r.1<=10^47)/\(-(10^47)<=r.2.1/\r.2.1<=10^47))/\(-(10^80)<=r.2.2.1/\r.2.2.1<=10^80)/\(-(10^80)<=r.at r.2.1/\r.at r.2.1<=10^80)/\(-(10^100)<=r.2.2.2/\r.2.2.2<=10^100)){lo hi:Int}(h:lo<=hi)(h1:-(10^82)<=lo)(h2:hi<=10^82):
  ∃A gs:List Row,rk [.tup (fs.map Row.d),.int lo,.int hi]=some (.sh (.tup (gs.map Row.d)))/\Canon gs/\dM lo hi (fs.flatMap mx) A/\(∀p,look gs p=(look A p).map (·*(-1)))/\gs.length<=A.length:=by
 have one:∀l:Int×Int,∃A:List Row,gH l->vm [.int (-l.2),.int l.1,.int lo,.int hi]=some (.sh (.tup (A.map Row.d)))/\dM lo hi [l] A:=λl=>by
  by_cases hB:gH l
  .have o3:=hB
   unfold gH at o3
   obtain ⟨A,e,E⟩:=b9q (x:=-l.2) (c:=l.1) h (by ext o3) (by ext o3) h1 h2
   rw [Ii] at E
   exact ⟨A,λ_=>⟨e,E⟩⟩
  .exact ⟨[],λz=>absurd z hB⟩
 obtain ⟨ff,qB⟩:=DH one
 have zQ:∀l∈fs.flatMap mx,gH l:=λl lz=>by
  obtain ⟨r,hr,lz⟩:=iw.mp lz
  have:=hb r hr
  unfold mx at lz
  simp only [bq,gz,or_false] at lz
  unfold gH
  rcases lz with rfl | rfl<;>dsimp only<;>ext this
 have hlen:=wZ fs
 have km:=nE.mpr aW
 obtain ⟨A,ea,EA⟩:=yV (ff:=ff) (Ls:=fs.flatMap mx) (r:=false) h1 h2 (λl lz=>⟨zQ l lz,(qB l (zQ l lz)).2⟩) (pq (by ext hlen km)) (by omega)
 obtain ⟨gs,eg,cg,lg,ll⟩:=Aj EA.canon (EA.bd zQ h1 h2) (by have:=EA.len (pq (by ext hlen km));omega)
 refine ⟨A,gs,Wo.eq (rB.mpr ?_),cg,EA,lg,ll⟩
 unfold Kz
 walk_at "v1"
 rw [show vn [.tup (fs.map Row.d)]=some (.sh (.tup (fs.map Row.d))) from Wo.eq (js.mpr (by
  unfold E1
  walk_at "v1"
  refine rg ?_ ?_
  .walk_at "vc"
   rw [aX]
   ext km
  walk_at "vc"))]
 walk_at "v1"
 refine lQ Row.d (λpre env=>∃x4,env=[.sh (.tup (fs.map Row.d)),.sh (.int lo),.sh (.int hi),.ow ((pre.flatMap mx).map λl=>.tup ((ff l).map Row.d)),x4]) fs (λpre r post env e h=>?_) (λenv h=>?_) ⟨_,rfl⟩
 .obtain ⟨x4,rfl⟩:=h
  have hr:r∈fs:=by rw [e];simp
  have hp:pre.length<fs.length:=by rw [e];simp
  have dr:=wZ pre
  have jl:=hb r hr
  have l1:=(qB (r.2.2.1,-r.1) (zQ _ (iw.mpr ⟨r,hr,aZ ..⟩))).1
  have l2:=(qB (r.at r.2.1,-r.2.1) (zQ _ (iw.mpr ⟨r,hr,br _ (aZ ..)⟩))).1
  dsimp only at l1 l2
  rw [Ii] at l1 l2
  rw [dA]
  walk_at "v1"
  rw [l1]
  walk_at "v1"
  rw [<-dA,EH (r:=r) (x:=r.2.1) (by ext jl) (by ext jl) (by ext jl) (by ext jl)]
  walk_at "v1"
  rw [l2]
  walk_at "v1"
  rw [cM,aX]
  have hE:((pre++[r]).flatMap mx).map (λl=>D.tup ((ff l).map Row.d))=(pre.flatMap mx).map (λl=>D.tup ((ff l).map Row.d))++[D.tup ((ff (r.2.2.1,-r.1)).map Row.d)]++[D.tup ((ff (r.at r.2.1,-r.2.1)).map Row.d)]:=by
   rw [DQ,eJ]
   simp [mx]
  rw [hE]
  exact ⟨by omega,by show _+1<_;omega,_,rfl⟩
 .obtain ⟨x4,rfl⟩:=h
  rw [a7o,Eo,D0 (by rfl)]
  walk_at "v1"
  rw [ea]
  walk_at "v1"
  rw [eg]
  walk_at "vc"
theorem b6S{fs A gs:List Row}{lo hi:Int}(E:dM lo hi (fs.flatMap mx) A)(lg:∀p,look gs p=(look A p).map (·*(-1)))(ha:bL fs)(aW:fs≠[]){p:Int}(h1:lo<=p)(h2:p<=hi):∃g:Int,look gs p=some g/\be fs p g:=by
 have hn:fs.flatMap mx≠[]:=pq (by rw [wZ];have:=nE.mpr aW;ext this)
 obtain ⟨v,hv⟩:=E.has hn h1 h2
 obtain ⟨_,⟨l,hl,e⟩,m⟩:=(E.val p v).mp hv
 refine ⟨v*(-1),by rw [lg,hv];rfl,?_,λx c h=>?_⟩
 .obtain ⟨r,hr,hl⟩:=iw.mp hl
  have ho:=ha.1 r hr
  unfold mx at hl
  simp only [bq,gz,or_false] at hl
  rcases hl with rfl | rfl
  .exact ⟨r.1,r.at r.1,⟨r,hr,bF _,ho,rfl⟩,by rw [e];unfold dD Row.at;dsimp only;grind⟩
  .exact ⟨r.2.1,r.at r.2.1,⟨r,hr,ho,bF _,rfl⟩,by rw [e];unfold dD;dsimp only;grind⟩
 .obtain ⟨r,hr,k1,k2,rfl⟩:=h
  have m1:=m (r.2.2.1,-r.1) (iw.mpr ⟨r,hr,by unfold mx;simp⟩)
  have m2:=m (r.at r.2.1,-r.2.1) (iw.mpr ⟨r,hr,by unfold mx;simp⟩)
  clear m e hv
  unfold dD Row.at at *
  dsimp only at m1 m2
  by_cases hs:r.2.2.2<=p
  .have:=mw (show 0<=p-r.2.2.2 by ext hs) (show 0<=r.2.1-x by ext k2)
   grind
  .have:=mw (show 0<=r.2.2.2-p by ext hs) (show 0<=x-r.1 by ext k1)
   grind
noncomputable abbrev QQ:=List Row×List Row
structure ji(q:QQ):Prop where
 cL:bL q.1
 bd:∀r∈q.1,lW r
 laid:Laid q.1 q.2
 ne:q.1≠[]
 len:q.1.length<=4
theorem ji.fv{q:QQ}(h:ji q):FV (10^46) (2*10^79) q.2:=⟨h.laid.canon,λx c e=>wM h.bd ((h.laid.val x c).mp ((oD h.laid.canon.cL).mp e))⟩
theorem ji.Yj{q:QQ}(h:ji q):FV (10^60) (10^130) q.2:=⟨h.fv.canon,λx c e=>by have:=h.fv.bd x c e;ext this⟩
theorem QI{ds:List D}{i:Int}{Q:D->Prop}(h0:0<=i)(h1:i<ds.length)(h:∀d∈ds,Q d):Wo (dN ds i) Q:=by
 obtain ⟨n,rfl⟩:=Int.eq_ofNat_of_zero_le h0
 have hn:n<ds.length:=by ext h1
 have:=sT (f:=λd:D=>d) (xs:=ds) (ds[n]) h0 (by simpa using hn)
 rw [List.map_id'] at this
 refine ⟨ds[n],?_,h _ (qR _)⟩
 rw [this]
 simp [hn]
theorem PK{g:Int×Nat->QQ}:∀{ps:List (Int×Nat)},(∀p∈ps,(g p).2.length<=p.2)->np ((ps.map g).map λq=>q.2)<=(ps.map λp=>p.2).foldr (·*·) 1
 | [],_=>bw _
 | p::ps,h=>by
  rw [eM,eM,eM,List.foldr_cons,show ((g p).2::jZ (λq=>q.2) (jZ g ps))=[(g p).2]++(ps.map g).map λq=>q.2 from rfl,Ei]
  exact Nat.mul_le_mul (by unfold np;simpa using h p (aZ ..)) (PK λq hq=>h q (br _ hq))
theorem b9m{m:Int}{n:Nat}(hm:0<=m/\m<10^60+33)(h0:1<=n)(h1:n<=4):∃q:QQ,rp [.int m,.int n]=some (.ow (q.1.map Row.d))/\lV [iq q.1]=some (.sh (dY q.2))/\ji q/\q.2.length<=n:=by
 obtain ⟨rs,er,mM,hA,hB⟩:=b7a hm (many:=n) (by ext) (by ext h1)
 obtain ⟨fs,ef,L⟩:=sM hA (λr hr=>by have:=hB r hr;unfold lW at this;unfold ar;ext this) (by ext h1 mM) (ro:=false)
 have:=L.len
 exact ⟨(rs,fs),er,ef,⟨hA,hB,L,λz=>by subst z;simp at mM;ext h0 mM,by show rs.length<=4;ext h1 mM⟩,by show fs.length<=n;ext mM this⟩
theorem Gu:xC qa 3 16 3888:=
 u6 (n:=8) (m:=648) (by decide) (by decide) (by decide) (u6 (n:=4) (m:=108) (by decide) (by decide) (by decide) (u6 (n:=2) (m:=18) (by decide) (by decide) (by decide) (u6 (n:=1) (m:=3) (by decide) (by decide) (by decide) (Kd (φ:=vv) Si) (φ:=tm) Mo) (φ:=tq) Mp) (φ:=tu) Md) (φ:=tx) bQ
theorem Wu:xC qa 4 8 864:=
 u6 (n:=4) (m:=144) (by decide) (by decide) (by decide) (u6 (n:=2) (m:=24) (by decide) (by decide) (by decide) (u6 (n:=1) (m:=4) (by decide) (by decide) (by decide) (Kd (φ:=tm) Mo) (φ:=tq) Mp) (φ:=tu) Md) (φ:=tx) bQ
theorem Kj:∀{qs:List QQ},(∀q∈qs,ji q)->∀{x c:Int},Sh (qs.map λq=>q.2) x c->(-(qs.length*10^46)<=x/\x<=qs.length*10^46)/\(-(qs.length*(2*10^79))<=c/\c<=qs.length*(2*10^79))
 | [],_,x,c,h=>by obtain ⟨rfl,rfl⟩:=h;exact ⟨⟨by decide,by decide⟩,by decide,by decide⟩
 | q::qs,hq,x,c,h=>by
  obtain ⟨y,cy,z,cz,v,k,e1,e2⟩:=h
  have b:=(hq q (aZ ..)).fv.bd y cy ((oD (hq q (aZ ..)).laid.canon.cL).mpr v)
  have i:=Kj (λr hr=>hq r (br _ hr)) k
  rw [iy]
  generalize qs.length=n at *
  omega
theorem K3{p:Int}{G:QQ->Int}:∀{qs:List QQ},(∀q∈qs,ji q/\be q.1 p (G q))->(∃x c,Sh (qs.map λq=>q.2) x c/\(qs.map G).sum=p*x-c)/\∀x c,Sh (qs.map λq=>q.2) x c->p*x-c<=(qs.map G).sum
 | [],_=>⟨⟨0,0,⟨rfl,rfl⟩,by simp⟩,λx c h=>by obtain ⟨rfl,rfl⟩:=h;simp⟩
 | q::qs,h=>by
  obtain ⟨hq,⟨y,cy,v,e⟩,k⟩:=h q (aZ ..)
  obtain ⟨⟨z,cz,v',e'⟩,k'⟩:=K3 (qs:=qs) λr hr=>h r (br _ hr)
  refine ⟨⟨y+z,cy+cz,⟨y,cy,z,cz,(hq.laid.val _ _).mpr v,v',rfl,rfl⟩,?_⟩,λx c hs=>?_⟩
  .rw [eM,pS,Ax];ext e e'
  .obtain ⟨a,ca,b,cb,u,u',rfl,rfl⟩:=hs
   have i1:=k _ _ ((hq.laid.val _ _).mp u)
   have i2:=k' _ _ u'
   rw [eM,pS,Ax];ext i1 i2
theorem QO{p:Int}{G L U:QQ->Int}:∀{qs:List QQ},(∀q∈qs,ji q/\be q.1 p (G q)/\∀x c,Val q.1 x c->p*x-c=G q->L q<=x/\x<=U q)->∀x c,Sh (qs.map λq=>q.2) x c->p*x-c=(qs.map G).sum->(qs.map L).sum<=x/\x<=(qs.map U).sum
 | [],_,x,c,h,_=>by obtain ⟨rfl,rfl⟩:=h;simp
 | q::qs,h,x,c,hs,e=>by
  obtain ⟨hq,hg,hb⟩:=h q (aZ ..)
  obtain ⟨a,ca,b,cb,u,u',rfl,rfl⟩:=hs
  have i1:=hg.2 _ _ ((hq.laid.val _ _).mp u)
  have i2:=(K3 (p:=p) (G:=G) (qs:=qs) λr hr=>⟨(h r (br _ hr)).1,(h r (br _ hr)).2.1⟩).2 _ _ u'
  rw [eM,pS,Ax] at e
  have i3:=hb a ca ((hq.laid.val _ _).mp u) (by ext e i1 i2)
  have i4:=QO (λr hr=>h r (br _ hr)) b cb u' (by ext e i1 i2)
  rw [eM,pS,eM,pS]
  ext i3 i4
theorem Ku{p:Int}{G T:QQ->Int}:∀{qs:List QQ},(∀q∈qs,ji q/\∃c,Val q.1 (T q) c/\p*T q-c=G q)->∃c,Sh (qs.map λq=>q.2) (qs.map T).sum c/\p*(qs.map T).sum-c=(qs.map G).sum
 | [],_=>⟨0,⟨rfl,rfl⟩,by simp⟩
 | q::qs,h=>by
  obtain ⟨hq,c,v,e⟩:=h q (aZ ..)
  obtain ⟨d,v',e'⟩:=Ku (qs:=qs) λr hr=>h r (br _ hr)
  refine ⟨c+d,⟨T q,c,_,d,(hq.laid.val _ _).mpr v,v',by simp,rfl⟩,?_⟩
  simp only [eM,pS,Ax];ext e e'
theorem Q7{ss:List Span}(ne:ss≠[])(ok:∀s∈ss,s.1<=s.2)(ap:ss.Pairwise λa b=>a.2+1<b.1):∃a b:Span,dN (ss.map Span.d) 0=some a.d/\dN (ss.map Span.d) (-1)=some b.d/\(dP ss a.1/\∀x,dP ss x->a.1<=x)/\(dP ss b.2/\∀x,dP ss x->x<=b.2):=by
 obtain ⟨a,r,rfl⟩:∃a r,ss=a::r:=by
  cases ss with
  | nil=>exact absurd rfl ne
  | cons a r=>exact ⟨a,r,rfl⟩
 have hA:∀x,dP (a::r) x->a.1<=x:=λx h=>by
  obtain ⟨s,hs,h1,h2⟩:=h
  rcases bq.mp hs with rfl | hs
  .exact h1
  .have:=(fC.mp ap).1 s hs
   have:=ok a (aZ ..)
   omega
 obtain ⟨q,b,e⟩:∃q b,a::r=q++[b]:=⟨_,_,(List.dropLast_concat_getLast ne).symm⟩
 have hB:∀x,dP (a::r) x->x<=b.2:=λx h=>by
  obtain ⟨s,hs,h1,h2⟩:=h
  rw [e] at hs ap ok
  rcases bT.mp hs with hs | hs
  .have:=(gP.mp ap).2.2 s hs b (by simp)
   have:=ok b (by simp)
   omega
  .rw [<-bP.mp hs];exact h2
 refine ⟨a,b,?_,?_,⟨⟨a,aZ ..,bF _,ok a (aZ ..)⟩,hA⟩,⟨⟨b,by rw [e];simp,ok b (by rw [e];simp),bF _⟩,hB⟩⟩
 .rw [sT (f:=Span.d) (xs:=a::r) (i:=0) a (by decide) (by simp)];rfl
 .rw [e,eJ,AL]
  exact fR
theorem OR:∀{qs:List QQ},(∀q∈qs,ji q)->∃x c,Sh (qs.map λq=>q.2) x c
 | [],_=>⟨0,0,rfl,rfl⟩
 | q::qs,h=>by
  have hq:=h q (aZ ..)
  obtain ⟨x,c,k⟩:=OR λr hr=>h r (br _ hr)
  obtain ⟨r,hr⟩:=List.exists_mem_of_ne_nil _ hq.ne
  exact ⟨r.1+x,_,r.1,r.at r.1,x,c,(hq.laid.val _ _).mpr ⟨r,hr,bF _,hq.cL.1 r hr,rfl⟩,k,rfl,rfl⟩
structure tD(qs:List QQ)(f:List Row):Prop where
 hq:∀q∈qs,ji q
 hl:qs.length<=3
 canon:Canon f
 len:f.length<=3888
 jn:∀x c,look f x=some c↔Jn (qs.map λq=>q.2) x c
 ex:∀x c,Sh (qs.map λq=>q.2) x c->∃m,Jn (qs.map λq=>q.2) x m
theorem tD.val{qs:List QQ}{f:List Row}(F:tD qs f)(x c:Int):Val f x c↔Jn (qs.map λq=>q.2) x c:=by rw [<-F.jn,oD F.canon.cL]
theorem tD.form{qs:List QQ}{f:List Row}(F:tD qs f):iG f f:=by
 have bd:∀x c,look f x=some c->(-(3*10^46)<=x/\x<=3*10^46)/\(-(6*10^79)<=c/\c<=6*10^79):=λx c h=>by
  have:=Kj F.hq ((F.jn x c).mp h).1
  have:=F.hl
  omega
 refine ⟨F.canon,λ_ _=>eI,λz=>?_,by have:=F.len;omega,λr hr=>?_⟩
 .obtain ⟨x,c,h⟩:=OR F.hq
  obtain ⟨m,hm⟩:=F.ex x c h
  have:=(F.jn x m).mpr hm
  rw [z] at this
  cases this
 .have:=u4 F.canon (by decide) bd r hr
  ext this
theorem tD.gain{qs:List QQ}{f:List Row}(F:tD qs f){p:Int}{G:QQ->Int}(hG:∀q∈qs,be q.1 p (G q)):be f p (qs.map G).sum:=by
 obtain ⟨⟨x,c,s,e⟩,k⟩:=K3 (qs:=qs) (p:=p) (G:=G) λq h=>⟨F.hq q h,hG q h⟩
 obtain ⟨m,hm⟩:=F.ex x c s
 have i1:=hm.2 _ s
 have i2:=k _ _ hm.1
 exact ⟨⟨x,m,(F.val x m).mpr hm,by ext e i1 i2⟩,λy d h=>k y d ((F.val y d).mp h).1⟩
theorem ji.form{q:QQ}(h:ji q):iG q.1 q.2:=b6U h.laid h.bd (by have:=h.len;ext this) h.ne
theorem b1j{qs:List QQ}{f:List Row}(F:tD qs f){p:Int}(hp:-(10^80)<=p/\p<=10^80){G:QQ->Int}(hG:∀q∈qs,be q.1 p (G q)):B4 [.lst false ((qs.map λq=>q.2).map dY),.tup (f.map Row.d),.int p]=some (.sh (.bl true)):=by
 have oO:∀q:QQ,∃t:(List Span×Span×Span),ji q->vw [dY q.2,.int p]=some (.sh (.tup (t.1.map Span.d)))/\dN (t.1.map Span.d) 0=some t.2.1.d/\dN (t.1.map Span.d) (-1)=some t.2.2.d/\(∀g,be q.1 p g->(∃c,Val q.1 t.2.1.1 c/\p*t.2.1.1-c=g)/\(∃c,Val q.1 t.2.2.2 c/\p*t.2.2.2-c=g)/\∀x c,Val q.1 x c->p*x-c=g->t.2.1.1<=x/\x<=t.2.2.2):=λq=>by
  by_cases h:ji q
  .obtain ⟨g,ss,_,hg,es,ne,ok,ap,gO,_⟩:=Pj h.form hp
   obtain ⟨a,b,a1,b1,⟨a2,a3⟩,b2,b3⟩:=Q7 ne ok ap
   refine ⟨(ss,a,b),λ_=>⟨es,a1,b1,λg' Hq=>?_⟩⟩
   rw [<-hg.uniq Hq]
   exact ⟨(gO _).mp a2,(gO _).mp b2,λx c v e=>⟨a3 x ((gO x).mpr ⟨c,v,e⟩),b3 x ((gO x).mpr ⟨c,v,e⟩)⟩⟩
  .exact ⟨([],(0,0),(0,0)),λz=>absurd z h⟩
 obtain ⟨t,ht⟩:=DH oO
 obtain ⟨g,ss,_,hg,es,ne,ok,ap,gO,_⟩:=Pj F.form hp
 obtain ⟨a,b,a1,b1,⟨a2,a3⟩,b2,b3⟩:=Q7 ne ok ap
 have eg:g=(qs.map G).sum:=hg.uniq (F.gain hG)
 have qC:=QO (p:=p) (G:=G) (L:=λq=>(t q).2.1.1) (U:=λq=>(t q).2.2.2) (qs:=qs) λq h=>⟨F.hq q h,hG q h,(((ht q (F.hq q h)).2.2.2 _ (hG q h)).2.2)⟩
 have up:∀{x c:Int},Sh (qs.map λq=>q.2) x c->p*x-c=g->dP ss x:=λ{x c} s e=>by
  obtain ⟨m,hm⟩:=F.ex x c s
  have i1:=hm.2 _ s
  have i2:=hg.2 _ _ ((F.val x m).mpr hm)
  exact (gO x).mpr ⟨m,(F.val x m).mpr hm,by ext e i1 i2⟩
 have dn:∀{x:Int},dP ss x->(qs.map λq=>(t q).2.1.1).sum<=x/\x<=(qs.map λq=>(t q).2.2.2).sum:=λ{x} h=>by
  obtain ⟨c,v,e⟩:=(gO x).mp h
  exact qC x c ((F.val x c).mp v).1 (by ext eg e)
 have ea:a.1=(qs.map λq=>(t q).2.1.1).sum:=by
  obtain ⟨c,s,e⟩:=Ku (p:=p) (G:=G) (T:=λq=>(t q).2.1.1) (qs:=qs) λq h=>⟨F.hq q h,(((ht q (F.hq q h)).2.2.2 _ (hG q h)).1)⟩
  have:=a3 _ (up s (by ext eg e))
  have:=(dn a2).1
  omega
 have eb:b.2=(qs.map λq=>(t q).2.2.2).sum:=by
  obtain ⟨c,s,e⟩:=Ku (p:=p) (G:=G) (T:=λq=>(t q).2.2.2) (qs:=qs) λq h=>⟨F.hq q h,(((ht q (F.hq q h)).2.2.2 _ (hG q h)).2.1)⟩
  have:=b3 _ (up s (by ext eg e))
  have:=(dn b2).2
  omega
 refine Wo.eq (gG.mpr ?_)
 unfold Mi
 walk_at "v1"
 rw [fT]
 generalize hd:D.lst false (qs.map (dY∘λq=>q.2))=d0
 refine lQ (dY∘λq:QQ=>q.2) (λpre env=>∃x5 x6,env=[.sh d0,.sh (.tup (f.map Row.d)),.sh (.int p),.sh (.int (pre.map λq=>(t q).2.1.1).sum),.sh (.int (pre.map λq=>(t q).2.2.2).sum),x5,x6]) qs (λpre q post env e hI=>?_) (λenv hI=>?_) ⟨_,_,rfl⟩
 .obtain ⟨x5,x6,rfl⟩:=hI
  have hk:=ht q (F.hq q (by rw [e];simp))
  rw [show (dY∘λq:QQ=>q.2) q=dY q.2 from rfl]
  walk_at "v1"
  rw [hk.1]
  walk_at "v1"
  rw [hk.2.1,show (t q).2.1.d=.tup [.int (t q).2.1.1,.int (t q).2.1.2] from rfl]
  walk_at "v1"
  rw [hk.2.2.1,show (t q).2.2.d=.tup [.int (t q).2.2.1,.int (t q).2.2.2] from rfl]
  walk_at "v1"
  exact ⟨_,_,by rw [eJ,uC,AL,Je,eJ,uC,AL,Je]⟩
 .obtain ⟨x5,x6,rfl⟩:=hI
  walk_at "v1"
  rw [es]
  walk_at "v1"
  rw [a1,show a.d=.tup [.int a.1,.int a.2] from rfl]
  walk_at "v1"
  rw [b1,show b.d=.tup [.int b.1,.int b.2] from rfl]
  walk_at "v1"
  rw [P7]
  walk_at "v1"
  rw [ea,eb]
  simp
theorem P4{rs fs:List Row}(F:iG rs fs)(hl:fs.length<=4096)(hv:∀x c,Val rs x c->(-(10^47)<=x/\x<=10^47)/\(-(10^80)<=c/\c<=10^80)){lo hi:Int}(h:lo<=hi)(h1:-(10^80)<=lo)(h2:hi<=10^80):
  ∃gs:List Row,rk [.tup (fs.map Row.d),.int lo,.int hi]=some (.sh (.tup (gs.map Row.d)))/\Canon gs/\gs.length<=2*fs.length/\(∀p g,look gs p=some g->lo<=p/\p<=hi)/\∀p,lo<=p->p<=hi->∃g,look gs p=some g/\be rs p g /\ -(10^128)<=g/\g<=10^128:=by
 obtain ⟨A,gs,e,cg,E,lg,ll⟩:=b7c F.ne hl (λr hr=>by
  have o:=F.canon.cL.1 r hr
  have a1:=hv _ _ ((F.val _ _).mp ⟨r,hr,bF _,o,rfl⟩)
  have a2:=hv _ _ ((F.val _ _).mp ⟨r,hr,o,bF _,rfl⟩)
  have e0:r.at r.1=r.2.2.1:=by unfold Row.at;simp
  rw [e0] at a1
  have:=F.bd r hr
  ext a2 this) h (by ext h1) (by ext h2)
 have ne2:fs.flatMap mx≠[]:=pq (by rw [wZ];have:=nE.mpr F.ne;ext this)
 have lA:=E.len ne2
 rw [wZ] at lA
 refine ⟨gs,e,cg,by ext ll lA,λp g hk=>?_,λp p1 p2=>?_⟩
 .rw [lg] at hk
  cases hA:look A p with
  | none=>rw [hA] at hk;cases hk
  | some v=>exact ((E.val p v).mp hA).1
 .obtain ⟨g,k1,k2⟩:=b6S E lg F.canon.cL F.ne p1 p2
  have k3:be rs p g:=by
   obtain ⟨⟨x,c,v,ee⟩,k⟩:=k2
   exact ⟨⟨x,c,(F.val _ _).mp v,ee⟩,λy d hy=>k y d ((F.val _ _).mpr hy)⟩
  refine ⟨g,k1,k3,?_⟩
  obtain ⟨x,c,v,ee⟩:=k3.1
  have b:=hv x c v
  have:=qZ (a:=p) (b:=x) (A:=10^80) (B:=10^47) (by ext h1 p1) (by ext h2 p2) (by ext b) (by ext b)
  omega
open Classical in
noncomputable def gn(q:QQ)(p:Int):Int:=if h:∃g,be q.1 p g then choose h else 0
theorem JC{q:QQ}{p g:Int}(h:be q.1 p g):gn q p=g:=by
 have hx:∃g,be q.1 p g:=⟨g,h⟩
 unfold gn
 rw [dif_pos hx]
 exact (Classical.choose_spec hx).uniq h
structure GF(lo hi:Int)(qs:List QQ)(gs:List Row):Prop where
 canon:Canon gs
 len:gs.length<=8*qs.length
 out:∀p g,look gs p=some g->(lo<=p/\p<=hi) /\ -(qs.length*10^128)<=g/\g<=qs.length*10^128
 GI:∀p,lo<=p->p<=hi->look gs p=some (qs.map λq=>gn q p).sum
 gain:∀p,lo<=p->p<=hi->∀q∈qs,be q.1 p (gn q p)
theorem GF.one{q:QQ}(hq:ji q){lo hi:Int}(h:lo<=hi)(h1:-(10^80)<=lo)(h2:hi<=10^80):∃gs:List Row,rk [dY q.2,.int lo,.int hi]=some (.sh (.tup (gs.map Row.d)))/\GF lo hi [q] gs:=by
 have hl:=hq.laid.len
 have n8:=hq.len
 obtain ⟨gs,e,c,l,o,n⟩:=P4 hq.form (by omega) (λx c v=>by have:=wM hq.bd v;ext this) h h1 h2
 refine ⟨gs,e,c,by show _<=8*1;ext hl n8 l,λp g k=>?_,λp p1 p2=>?_,λp p1 p2 r hr=>?_⟩
 .obtain ⟨p1,p2⟩:=o p g k
  obtain ⟨g',k',_,b1,b2⟩:=n p p1 p2
  rw [k] at k'
  cases k'
  refine ⟨⟨p1,p2⟩,?_⟩
  rw [sy]
  omega
 .obtain ⟨g,k,i,_⟩:=n p p1 p2
  rw [k,AL,Je,JC i]
 .rw [bP.mp hr]
  obtain ⟨g,_,i,_⟩:=n p p1 p2
  rw [JC i]
  exact i
theorem GF.rows{lo hi:Int}{qs:List QQ}{gs:List Row}(F:GF lo hi qs gs)(h1:-(10^80)<=lo)(h2:hi<=10^80)(hl:qs.length<=3):∀r∈gs,ar (10^138) r:=λr hr=>by
 have:=u4 F.canon (B:=10^80) (C:=3*10^128) (by decide) (λx c h=>by
  have:=F.out x c h
  omega) r hr
 unfold ar
 omega
theorem GF.plus{lo hi:Int}{qs:List QQ}{q:QQ}{A B:List Row}(FA:GF lo hi qs A)(FB:GF lo hi [q] B)(h1:-(10^80)<=lo)(h2:hi<=10^80)(hl:qs.length+1<=3):∃fs:List Row,w6 [.tup (A.map Row.d),.tup (B.map Row.d)]=some (.sh (.tup (fs.map Row.d)))/\GF lo hi (qs++[q]) fs:=by
 have la:=FA.len
 have lb:B.length<=8:=FB.len
 obtain ⟨fs,e,L,lk,lf⟩:=b9l (V:=10^80) (C:=3*10^128) FA.canon.cL FB.canon.cL (FA.rows h1 h2 (by ext hl)) (FB.rows h1 h2 (by simp)) (by decide) (λx c h=>by have:=FA.out x c h;omega) (λx c h=>by have:=FB.out x c h;rw [sy] at this;omega) (by ext hl la) (by ext lb)
 refine ⟨fs,e,L.canon,by rw [cM,sy];ext la lb lf,λp g k=>?_,λp p1 p2=>?_,λp p1 p2 r hr=>?_⟩
 .rw [lk] at k
  cases ka:look A p with
  | none=>rw [ka] at k;cases k
  | some a =>
   cases kb:look B p with
   | none=>rw [ka,kb] at k;cases k
   | some b =>
    rw [ka,kb] at k
    cases k
    have i1:=FA.out p a ka
    have i2:=FB.out p b kb
    rw [cM,sy] at *
    refine ⟨i1.1,?_⟩
    omega
 .rw [lk,FA.GI p p1 p2,FB.GI p p1 p2,eJ,uC]
  rfl
 .rcases bT.mp hr with hr | hr
  .exact FA.gain p p1 p2 r hr
  .exact FB.gain p p1 p2 r hr
theorem zip_rows{α β:Type}{f:α->D}{g:β->D}(xs:List α)(ys:List β):iO (xs.map f) (ys.map g)=(xs.zip ys).map λp=>.tup [f p.1,g p.2]:=by
 unfold iO
 rw [List.zipWith_map,List.zip,List.map_zipWith]
noncomputable def MG:List (List Nat):=[[3,3],[2,2,2],[3,1],[1,2,1]]
theorem xF:∀zs∈MG,2<=zs.length/\zs.length<=3/\(zs.length<=2/\zs.foldr (·*·) 1<=16\/zs.foldr (·*·) 1<=8)/\∀n∈zs,1<=n/\n<=4:=by decide
theorem b7d{qs:List QQ}(hq:∀q∈qs,ji q)(hl:qs.length<=3)(hp:qs.length<=2/\np (qs.map λq=>q.2)<=16\/np (qs.map λq=>q.2)<=8):∃f:List Row,vd [.lst false ((qs.map λq=>q.2).map dY)]=some (.sh (.tup (f.map Row.d)))/\tD qs f:=by
 have hF:∀F∈qs.map λq=>q.2,FV (10^60) (10^130) F:=λF h=>by obtain ⟨q,dE,rfl⟩:=cH.mp h;exact (hq q dE).Yj
 have hL:∀F∈qs.map λq=>q.2,F.length<=900000:=λF h=>by obtain ⟨q,dE,rfl⟩:=cH.mp h;have:=(hq q dE).laid.len;have:=(hq q dE).len;omega
 rcases hp with ⟨h2,hp⟩ | hp
 .obtain ⟨f,ef,cf,lf,jf,xf⟩:=Rt (Fs:=qs.map λq=>q.2) (K:=3) (n:=16) (by rw [aX];ext h2) (by rw [aX];ext h2) hF hL hp (by decide) (λ{V C Fs r} a b c d e=>Gu a b c d e) (ro:=false)
  exact ⟨f,ef,hq,hl,cf,lf,jf,xf⟩
 .obtain ⟨f,ef,cf,lf,jf,xf⟩:=Rt (Fs:=qs.map λq=>q.2) (K:=4) (n:=8) (by rw [aX];ext hl) (by rw [aX];ext hl) hF hL hp (by decide) (λ{V C Fs r} a b c d e=>Wu a b c d e) (ro:=false)
  exact ⟨f,ef,hq,hl,cf,by omega,jf,xf⟩
theorem fin(ns:List Int)(qx:ns.length<=63):Ex [.lst true (ns.map D.int)]=some (.sh (.bl true)):=by
 refine Wo.eq (Cc.mpr ?_)
 unfold Jy
 walk_at "v1"
 rw [b4G _ _ (by decide)]
 walk_at "v1"
 refine QI (by lia) (by simp;lia) λd hd=>?_
 obtain ⟨zs,hz,rfl⟩:∃zs∈MG,d=.lst false (zs.map λ(n:Nat)=>D.int n):=by
  simp only [bq,gz,or_false] at hd
  rcases hd with rfl | rfl | rfl | rfl
  .exact ⟨[3,3],by decide,rfl⟩
  .exact ⟨[2,2,2],by decide,rfl⟩
  .exact ⟨[3,1],by decide,rfl⟩
  .exact ⟨[1,2,1],by decide,rfl⟩
 obtain ⟨z1,z2,z3,z4⟩:=xF zs hz
 walk_at "v1"
 rw [u5,aX]
 obtain ⟨ss,es,G7,vS⟩:=b65 (iu ns (some 1) none) zs.length (by ext z1) (by ext z2) (by have:=QT ns (some 1) none;ext qx this) (r:=false)
 have Xn:ss.length=zs.length:=by ext G7
 rw [es]
 walk_at "v1"
 have oO:∀p:Int×Nat,∃q:QQ,((0<=p.1/\p.1<10^60+33)/\1<=p.2/\p.2<=4)->rp [.int p.1,.int p.2]=some (.ow (q.1.map Row.d))/\lV [iq q.1]=some (.sh (dY q.2))/\ji q/\q.2.length<=p.2:=λp=>by
  by_cases h:(0<=p.1/\p.1<10^60+33)/\1<=p.2/\p.2<=4
  .obtain ⟨q,k⟩:=b9m h.1 h.2.1 h.2.2
   exact ⟨q,λ_=>k⟩
  .exact ⟨([],[]),λz=>absurd z h⟩
 obtain ⟨g,hg⟩:=DH oO
 have CY:∀p∈ss.zip zs,rp [.int p.1,.int p.2]=some (.ow ((g p).1.map Row.d))/\lV [iq (g p).1]=some (.sh (dY (g p).2))/\ji (g p)/\(g p).2.length<=p.2:=λp hp=>by
  have:=AQ hp
  exact hg p ⟨vS _ this.1,z4 _ this.2⟩
 have GR:(ss.zip zs).length=zs.length:=by rw [List.length_zip];ext G7
 rw [zip_rows,mU (λp:Int×Nat=>D.tup [.int p.1,.int p.2]) (λp=>iq (g p).1) (λe=>∃x y,e=[x,y]) (ss.zip zs) (λp hp e he=>by
  obtain ⟨x,y,rfl⟩:=he
  walk_at "v1"
  rw [(CY p hp).1]
  walk_at "vc"
  exact ⟨⟨_,_,rfl⟩,rfl⟩) ⟨_,_,rfl⟩]
 refine ⟨by rw [aX];ext z2 GR,?_⟩
 rw [a0h]
 refine ⟨by rw [aX];ext z2 GR,?_⟩
 rw [mU (λp:Int×Nat=>iq (g p).1) (λp=>dY (g p).2) (λe=>∃x,e=[x]) (ss.zip zs) (λp hp e he=>by
  obtain ⟨x,rfl⟩:=he
  walk_at "v1"
  rw [(CY p hp).2.1]
  walk_at "vc"
  exact ⟨_,rfl⟩) ⟨_,rfl⟩]
 generalize zp:(ss.zip zs).map g=qs
 have e1:((ss.zip zs).map λp=>iq (g p).1)=qs.map λq=>iq q.1:=by rw [<-zp,fT];rfl
 have e2:((ss.zip zs).map λp=>dY (g p).2)=(qs.map λq=>q.2).map dY:=by rw [<-zp,fT,fT];rfl
 have hq:∀q∈qs,ji q:=λq h=>by
  rw [<-zp] at h
  obtain ⟨p,hp,rfl⟩:=cH.mp h
  exact (CY p hp).2.2.1
 have hl:qs.length=zs.length:=by rw [<-zp,aX];exact GR
 have hp:np (qs.map λq=>q.2)<=zs.foldr (·*·) 1:=by
  have:=PK (g:=g) (ps:=ss.zip zs) λp hp=>(CY p hp).2.2.2
  rw [zp,List.map_snd_zip (by ext G7)] at this
  exact this
 obtain ⟨f,ef,F⟩:=b7d hq (by ext z2 hl) (by ext z3 hl hp)
 rw [e1,e2,a0h,ef,a0h]
 walk_at "v1"
 rw [u5]
 have C2:=QT ns none (some 20)
 generalize uh:iu ns none (some 20)=cs at C2
 rw [show [D.int 0]++cs.map D.int=(0::cs).map D.int from rfl,Rv]
 refine ⟨by rw [aX];ext qx C2,?_⟩
 have aW:qs≠[]:=pq (by ext z1 hl)
 generalize hdz:D.lst false (zs.map λ(n:Nat)=>D.int n)=dz
 generalize zM:D.lst false (ss.map D.int)=ds
 generalize hdn:D.lst true (ns.map D.int)=dn
 refine lQ (λp:Int×Nat=>D.tup [.int p.2,.int p.1]) (λpre env=>∃xI xH xG,∃ps:List Int,env=[.sh dn,.sh dz,.sh ds,.sh (.lst false (qs.map λq=>iq q.1)),.sh (.lst false ((qs.map λq=>q.2).map dY)),.sh (.tup (f.map Row.d)),.ow (ps.map D.int),.no,.no,.no,.no,.no,xI,xH,xG,.no]/\ps.length=pre.length/\∀p∈ps,-(10^80)<=p/\p<=10^80) (0::cs).zipIdx (λpre a post env e h=>?_) (λenv h=>?_) ⟨_,_,_,[],rfl,rfl,λ_ z=>nomatch z⟩
 .obtain ⟨xI,xH,xG,ps,rfl,dr,zr⟩:=h
  obtain ⟨ea,ua⟩:=Rg e
  obtain ⟨c,n⟩:=a
  have hn:n<=64:=by simp at ua ea;ext qx C2 ua ea
  have m3:=ny (n:Int) (show (31:Int)≠0 by ext)
  have m4:=nI (n:Int) (show (0:Int)<31 by ext)
  walk_at "v1"
  rw [uW _ _ m3 (by lia)]
  walk_at "v1"
  have mb:=uY c ((n:Int)%31)
  generalize gv c ((n:Int)%31)=m at mb
  rw [aX]
  have h0:=ny m (b:=(qs.length:Int)) (by ext z1 hl)
  have h1:=nI m (b:=(qs.length:Int)) (by ext z1 hl)
  refine ⟨by ext z1 hl,?_⟩
  refine QI h0 (by rw [aX];exact h1) λd hd=>?_
  obtain ⟨q,dE,rfl⟩:=cH.mp hd
  have hk:=hq q dE
  obtain ⟨p,ep,bp⟩:=b66 hk.cL hk.bd (by have:=hk.len;ext this) hk.ne mb.1 (ro:=false)
  rw [show iq q.1=.lst false (q.1.map Row.d) from rfl,ep]
  walk_at "v1"
  refine ⟨by rw [aX];simp at ua;ext dr ea hn,_,_,_,ps++[p],by rw [eJ];rfl,by simp [dr],λx hx=>?_⟩
  rcases bT.mp hx with hx | hx
  .exact zr x hx
  .rw [bP.mp hx];exact bp
 .obtain ⟨xI,xH,xG,ps,rfl,dr,zr⟩:=h
  have CU:ps≠[]:=pq (by rw [dr];simp)
  have Xw:ps.length<=64:=by rw [dr];simp;ext qx C2
  rw [a7o,Wo_seq,Eo,D0 (by rfl)]
  walk_at "v1"
  refine lQ D.int (λpre env=>∃x7 Cu,env=[.sh dn,.sh dz,.sh ds,.sh (.lst false (qs.map λq=>iq q.1)),.sh (.lst false ((qs.map λq=>q.2).map dY)),.sh (.tup (f.map Row.d)),.sh (.lst false (ps.map D.int)),x7,.no,.no,.no,.no,xI,xH,xG,Cu]) ps (λpre p post env e h=>?_) (λenv h=>?_) ⟨_,_,rfl⟩
  .obtain ⟨x7,Cu,rfl⟩:=h
   have bp:=zr p (by rw [e];simp)
   have Hn:∀q∈qs,xr [iq q.1,.int p]=some (.sh (.int (gn q p)))/\be q.1 p (gn q p):=λq h=>by
    obtain ⟨v,ev,iv⟩:=b7b (hq q h).cL (hq q h).bd (by have:=(hq q h).len;ext this) (hq q h).ne (p:=p) (by ext bp) (ro:=false)
    rw [JC iv]
    exact ⟨ev,iv⟩
   obtain ⟨v,ev,iv,_⟩:=Pm F.form bp
   have hv:v=(qs.map λq=>gn q p).sum:=iv.uniq (F.gain λq h=>(Hn q h).2)
   walk_at "v1"
   rw [ev]
   walk_at "v1"
   refine rg ?_ ?_
   .walk_at "v1"
    rw [P7]
    walk_at "v1"
    rw [mU (λq:QQ=>iq q.1) (λq=>D.int (gn q p)) (λe=>∃x,e=[x,.sh (.int p)]) qs (λq dE e he=>by
     obtain ⟨x,rfl⟩:=he
     walk_at "v1"
     rw [(Hn q dE).1]
     walk_at "vc"
     exact ⟨_,rfl⟩) ⟨_,rfl⟩]
    walk_at "v1"
    refine ⟨by rw [aX];ext z2 hl,?_⟩
    rw [show (qs.map λq=>D.int (gn q p))=(qs.map λq=>gn q p).map D.int by rw [fT];rfl,BE,a0h]
    exact hv
   walk_at "v1"
   refine rg ?_ ⟨_,_,rfl⟩
   walk_at "v1"
   rw [b1j F bp λq h=>(Hn q h).2]
   walk_at "vc"
  .obtain ⟨x7,Cu,rfl⟩:=h
   walk_at "v1"
   have XC:=b36 CU
   have Nh:=Ro CU
   have hle:=b6G Nh.1
   have b1:=(zr _ XC).1
   have b2:=(zr _ Nh.1).2
   generalize gw ps=lo at *
   generalize fJ ps=hi at *
   refine ⟨CU,CU,?_⟩
   obtain ⟨q0,qr,Ag⟩:∃q0 qr,qs=q0::qr:=by
    cases qs with
    | nil=>exact absurd rfl aW
    | cons a r=>exact ⟨a,r,rfl⟩
   generalize vX:D.lst false (jZ dY (jZ (λq=>q.2) qs))=df
   generalize hde:D.lst false (qs.map λq=>iq q.1)=de
   have XG:qr.length+1<=3:=by have:=congrArg pd Ag;rw [iy] at this;ext z2 hl this
   have Nb:∀q∈q0::qr,ji q:=by rw [<-Ag];exact hq
   rw [Ag,fT,sT (f:=dY∘λq:QQ=>q.2) (xs:=q0::qr) (i:=0) q0 (by decide) (by simp),a0h]
   obtain ⟨A0,e0,G0⟩:=GF.one (Nb q0 (aZ ..)) hle b1 b2
   rw [show (dY∘λq:QQ=>q.2) ((q0::qr).getD (Int.toNat 0) q0)=dY q0.2 from rfl,e0,a0h,u5,show iu (q0::qr) (some 1) none=qr from JT (q0::qr) (k:=1) (by simp)]
   refine lQ (dY∘λq:QQ=>q.2) (λpre env=>∃FG,∃A:List Row,env=[.sh dn,.sh dz,.sh ds,.sh de,.sh df,.sh (.tup (f.map Row.d)),.sh (.lst false (ps.map D.int)),x7,.sh (.int lo),.sh (.int hi),.sh (.tup (A.map Row.d)),FG,xI,xH,xG,Cu]/\GF lo hi (q0::pre) A) qr (λpre q post env e h=>?_) (λenv h=>?_) ⟨_,A0,rfl,G0⟩
   .obtain ⟨FG,A,rfl,GA⟩:=h
    have n8:pre.length+1<=qr.length:=by rw [e];simp
    obtain ⟨B,eB,GB⟩:=GF.one (Nb q (br _ (by rw [e];simp))) hle b1 b2
    obtain ⟨C,eC,GC⟩:=GF.plus GA GB b1 b2 (by rw [iy];ext XG n8)
    rw [show (dY∘λq:QQ=>q.2) q=dY q.2 from rfl]
    walk_at "v1"
    rw [eB]
    walk_at "v1"
    rw [eC]
    walk_at "v1"
    exact ⟨_,C,rfl,GC⟩
   .obtain ⟨FG,A,rfl,GA⟩:=h
    obtain ⟨gs,eg,cg,_,o,n⟩:=P4 F.form (by have:=F.len;lia) (λx c v=>by
     have:=Kj F.hq ((F.val x c).mp v).1
     have:=F.hl
     lia) hle b1 b2
    have Ye:gs=A:=b1k cg GA.canon λp=>by
     by_cases hp:lo<=p/\p<=hi
     .obtain ⟨v,k,i,_⟩:=n p hp.1 hp.2
      have:=GA.GI p hp.1 hp.2
      have hv:=i.uniq (F.gain (G:=λq=>gn q p) λq h=>GA.gain p hp.1 hp.2 q (by rw [<-Ag];exact h))
      rw [k,this,hv,Ag]
     .have h1:look gs p=none:=by
       cases q:look gs p with
       | none=>rfl
       | some v=>exact absurd (o p v q) hp
      have h2:look A p=none:=by
       cases q:look A p with
       | none=>rfl
       | some v=>exact absurd (GA.out p v q).1 hp
      rw [h1,h2]
    walk_at "v1"
    rw [eg]
    walk_at "v1"
    rw [b4x,Ye]
    walk_at "v1"
    simp
end My
namespace PySem.W.Fast
theorem tw6074211934849707936:True:=trivial
theorem tw1787907526711683727:True:=trivial
theorem tw10277125477828131883:True:=trivial
theorem tw6414961790568102218:True:=trivial
theorem tw16323416741239848856:True:=trivial
theorem tw7813615394394072034:True:=trivial
theorem tw16431990494442782129:True:=trivial
theorem tw76537756394679705:True:=trivial
theorem tw10888061599081060268:True:=trivial
theorem tw14781697837651679456:True:=trivial
theorem tw3674590913293326025:True:=trivial
theorem tw13548463911105412378:True:=trivial
theorem tw13232684039147157682:True:=trivial
theorem tw7829018453331055186:True:=trivial
theorem tw2193670368687261687:True:=trivial
theorem tw14249583081373063526:True:=trivial
theorem tw6467711539502379061:True:=trivial
theorem tw3208924554361578520:True:=trivial
theorem tw11516885421007686540:True:=trivial
theorem tw16130170673039134841:True:=trivial
theorem tw7201119092130907289:True:=trivial
theorem tw16615065610660180160:True:=trivial
theorem tw4105583006637532848:True:=trivial
theorem tw5251422853535699008:True:=trivial
theorem tw523503088951017466:True:=trivial
theorem tw17807981649285998617:True:=trivial
theorem tw12386071957321611876:True:=trivial
theorem tw8190372416171018905:True:=trivial
theorem tw5043312897829818105:True:=trivial
theorem tw8339185668786512114:True:=trivial
theorem tw7100144137050524058:True:=trivial
theorem tw2366671407886172104:True:=trivial
theorem tw10060457225522788388:True:=trivial
theorem tw11553961150732781171:True:=trivial
theorem tw15932600604520581343:True:=trivial
theorem tw17960351363448254786:True:=trivial
theorem tw10531142314251320161:True:=trivial
theorem tw13773164838957054856:True:=trivial
theorem tw16679058064918474622:True:=trivial
theorem tw14776679639851586441:True:=trivial
theorem tw1288682159116455122:True:=trivial
theorem tw8385437626034188125:True:=trivial
theorem tw14698006987868375661:True:=trivial
theorem tw17208851879129254421:True:=trivial
theorem tw10815272948516032849:True:=trivial
theorem tw5583304417369044195:True:=trivial
theorem tw14744855980628734844:True:=trivial
theorem tw55220164011840181:True:=trivial
theorem tw8875948147421839708:True:=trivial
theorem tw17785995759781033198:True:=trivial
theorem tw5064599216227622420:True:=trivial
theorem tw10009749529676679364:True:=trivial
theorem tw10382063646818070487:True:=trivial
theorem tw66887708194116137:True:=trivial
theorem tw12748121564961072933:True:=trivial
theorem tw6054141209847876189:True:=trivial
theorem tw14253330041990805238:True:=trivial
theorem tw9548676558657685777:True:=trivial
theorem tw11923648031488701589:True:=trivial
theorem tw94492548997819086:True:=trivial
theorem tw10643658046598327950:True:=trivial
theorem tw16269582614927811194:True:=trivial
theorem tw9290396418702959367:True:=trivial
theorem tw16837272059296932844:True:=trivial
theorem tw16266107337317176788:True:=trivial
theorem tw8779687743063082898:True:=trivial
theorem tw10865296309900999844:True:=trivial
theorem tw18153804223557554205:True:=trivial
theorem tw12333191769143566996:True:=trivial
theorem tw17947317308768489395:True:=trivial
theorem tw12879776631198559573:True:=trivial
theorem tw12428217195303041727:True:=trivial
theorem tw11648261700386787020:True:=trivial
theorem tw803108226234745703:True:=trivial
theorem tw16822096312518612403:True:=trivial
theorem tw2300372090090710073:True:=trivial
theorem tw7390572660911859219:True:=trivial
theorem tw15066027456240420616:True:=trivial
theorem tw4731698870013824123:True:=trivial
theorem tw17491637843624345585:True:=trivial
theorem tw2268189815951113827:True:=trivial
theorem tw4517049950643288906:True:=trivial
theorem tw15364006790144085633:True:=trivial
theorem tw8857136178176521757:True:=trivial
theorem tw8248468568692957639:True:=trivial
theorem tw17043198133582009230:True:=trivial
theorem tw16391009577551487543:True:=trivial
theorem tw12897024429105117872:True:=trivial
theorem tw12638024858711511052:True:=trivial
theorem tw499332480396448142:True:=trivial
theorem tw609381765323823791:True:=trivial
theorem tw11555687486341163603:True:=trivial
theorem tw3964204337014195433:True:=trivial
theorem tw8812237808282291251:True:=trivial
theorem tw9140173042786946086:True:=trivial
theorem tw850903912255286136:True:=trivial
theorem tw8030302657658924099:True:=trivial
theorem tw14521032565534071534:True:=trivial
theorem tw15903397057409999865:True:=trivial
theorem tw17392727567760836752:True:=trivial
theorem tw6542310989969455960:True:=trivial
theorem tw3997098735997026492:True:=trivial
theorem tw8648227621575449923:True:=trivial
theorem tw9223987664769758203:True:=trivial
theorem tw538283924419200237:True:=trivial
theorem tw3101216019968519922:True:=trivial
theorem tw1199572098869641298:True:=trivial
theorem tw8501572379014257934:True:=trivial
theorem tw13627284894005903746:True:=trivial
theorem tw16074959986101939852:True:=trivial
theorem tw5349583614668601183:True:=trivial
theorem tw9077571477791731554:True:=trivial
theorem tw8166305409031275438:True:=trivial
theorem tw7354481241271950691:True:=trivial
theorem tw3628968652827340625:True:=trivial
theorem tw16328768134736408311:True:=trivial
theorem tw16503562260825020296:True:=trivial
theorem tw2751833717848003163:True:=trivial
theorem tw4820637643476759882:True:=trivial
theorem tw64545462295813387:True:=trivial
theorem tw11675885064587614484:True:=trivial
theorem tw8268803919408791729:True:=trivial
theorem tw6678963703516255725:True:=trivial
theorem tw9549421907289981335:True:=trivial
theorem tw1142554740919626772:True:=trivial
theorem tw7243358420033649918:True:=trivial
theorem tw12216694088582712153:True:=trivial
theorem tw2578923714582883046:True:=trivial
theorem tw1050200697879066538:True:=trivial
theorem tw11209545030120519243:True:=trivial
theorem tw6487470113516632164:True:=trivial
theorem tw10692226469234531907:True:=trivial
theorem tw5968028033870107841:True:=trivial
theorem tw2300784341675177642:True:=trivial
theorem tw6759860222160617825:True:=trivial
theorem tw17798491702257982918:True:=trivial
theorem tw3920379978196707455:True:=trivial
theorem tw15438355261216807549:True:=trivial
theorem tw16407178225303631490:True:=trivial
theorem tw12439559687457748931:True:=trivial
theorem tw2074363439336699982:True:=trivial
theorem tw6191167658115147604:True:=trivial
theorem tw1603087705394805624:True:=trivial
theorem tw3219834910265348537:True:=trivial
theorem tw14759964112216768698:True:=trivial
theorem tw3274023611878013993:True:=trivial
theorem tw8033026726199047138:True:=trivial
theorem tw18268162925492089465:True:=trivial
theorem tw1380262249242601952:True:=trivial
theorem tw9023995900984106407:True:=trivial
theorem tw3929381100498762714:True:=trivial
theorem tw12382932463087858394:True:=trivial
theorem tw12266184666652568532:True:=trivial
theorem tw2796862763076720387:True:=trivial
theorem tw16467272832576799023:True:=trivial
theorem tw12454169713447044516:True:=trivial
theorem tw980090596154305611:True:=trivial
theorem tw3975543757175692023:True:=trivial
theorem tw12129072455035415202:True:=trivial
theorem tw12745115180321820910:True:=trivial
theorem tw8583805072206289362:True:=trivial
theorem tw3989012010594182248:True:=trivial
theorem tw2066296847325859348:True:=trivial
theorem tw11877657534048947179:True:=trivial
theorem tw11828482689215780059:True:=trivial
theorem tw16510061442120777974:True:=trivial
theorem tw2554752978145020308:True:=trivial
theorem tw960212494416397647:True:=trivial
theorem tw14416919894796828410:True:=trivial
theorem tw800655937285028473:True:=trivial
theorem tw17614531656023258587:True:=trivial
theorem tw3364114536284356261:True:=trivial
theorem tw10978376181152188051:True:=trivial
theorem tw4833367649607606291:True:=trivial
theorem tw4104776140717655706:True:=trivial
theorem tw10871165130623674474:True:=trivial
theorem tw10238341002734042245:True:=trivial
theorem tw18384958761237352383:True:=trivial
theorem tw17198825785849590970:True:=trivial
theorem tw14203026729325437667:True:=trivial
theorem tw10042244734822412506:True:=trivial
theorem tw11771618911573729752:True:=trivial
theorem tw1773761242308932346:True:=trivial
theorem tw6326076950318564335:True:=trivial
theorem tw4377632885543608732:True:=trivial
theorem tw585030312810957128:True:=trivial
theorem tw8835007068762233341:True:=trivial
theorem tw12506473982202696312:True:=trivial
theorem tw17334826102842228918:True:=trivial
theorem tw11939939123799435534:True:=trivial
theorem tw14212673519719473245:True:=trivial
theorem tw10147935162322597386:True:=trivial
theorem tw2072107969303971359:True:=trivial
theorem tw13416400012528928072:True:=trivial
theorem tw3580806913789855398:True:=trivial
theorem tw11405852957524384002:True:=trivial
theorem tw4421351209020676199:True:=trivial
theorem tw5260375065343769477:True:=trivial
theorem tw5044925126988186746:True:=trivial
theorem tw5152870229175265611:True:=trivial
theorem tw15575226623220944754:True:=trivial
theorem tw16875781035707813968:True:=trivial
theorem tw6274283559137929644:True:=trivial
end PySem.W.Fast
open PySem PySem.W PyProof.Rows
set_option maxRecDepth 100000 in
set_option maxHeartbeats 0 in
theorem PySem.Challenge.cw_offerhouse_k68_whole_gains_of_sellers_holds : PySem.Challenge.rw_offerhouse_k68_whole_gains_of_sellers.Holds := by
  w_on; o_law; k_head; (case hw => w_witness2)
  k_fill
  refine DL.xJ (l := PySem.Challenge.rw_offerhouse_k68_whole_gains_of_sellers) (k := 23) ⟨rfl, by decide, by decide⟩ rfl rfl (ts := []) (fun w h Y => ⟨PySem.W.kIn_of Y, fun _ z => nomatch z⟩) (fun w => by kernel_rfl) ?F
  case F =>
    intro w mg fa h KX G zw
    refine' My.all_mk KX G zw ?i1 ?i2 ?i3 ?i4 ?i5 ?i6 ?i7 ?i8 ?i9 ?i10 ?i11 ?i12 ?i13 ?i14 ?i15 ?i16 ?i17 ?i18 ?i19 ?i20 ?i21 ?i22 ?i23 ?i24 ?i25 ?i26 ?i27 ?i28 ?i29 ?i30 ?i31 ?i32 ?i33 ?i34 ?i35 ?i36 ?i37 ?i38 ?i39 ?i40 ?i41 ?i42 ?i43 ?i44 ?i45 ?i46 ?i47 ?i48 ?zmax ?zmin ?ztuple ?zlen ?zsorted ?zsum ?zMOST_PICKS ?zenumerate ?zrange ?zisinstance ?zbool ?zint ?zzip ?fin
    (case i1 => constructor <;> k_is)
    (case i2 => constructor <;> k_is)
    (case i3 => constructor <;> k_is)
    (case i4 => constructor <;> k_is)
    (case i5 => constructor <;> k_is)
    (case i6 => constructor <;> k_is)
    (case i7 => constructor <;> k_is)
    (case i8 => constructor <;> k_is)
    (case i9 => constructor <;> k_is)
    (case i10 => constructor <;> k_is)
    (case i11 => constructor <;> k_is)
    (case i12 => constructor <;> k_is)
    (case i13 => constructor <;> k_is)
    (case i14 => constructor <;> k_is)
    (case i15 => constructor <;> k_is)
    (case i16 => constructor <;> k_is)
    (case i17 => constructor <;> k_is)
    (case i18 => constructor <;> k_is)
    (case i19 => constructor <;> k_is)
    (case i20 => constructor <;> k_is)
    (case i21 => constructor <;> k_is)
    (case i22 => constructor <;> k_is)
    (case i23 => constructor <;> k_is)
    (case i24 => constructor <;> k_is)
    (case i25 => constructor <;> k_is)
    (case i26 => constructor <;> k_is)
    (case i27 => constructor <;> k_is)
    (case i28 => constructor <;> k_is)
    (case i29 => constructor <;> k_is)
    (case i30 => constructor <;> k_is)
    (case i31 => constructor <;> k_is)
    (case i32 => constructor <;> k_is)
    (case i33 => constructor <;> k_is)
    (case i34 => constructor <;> k_is)
    (case i35 => constructor <;> k_is)
    (case i36 => constructor <;> k_is)
    (case i37 => constructor <;> k_is)
    (case i38 => constructor <;> k_is)
    (case i39 => constructor <;> k_is)
    (case i40 => constructor <;> k_is)
    (case i41 => constructor <;> k_is)
    (case i42 => constructor <;> k_is)
    (case i43 => constructor <;> k_is)
    (case i44 => constructor <;> k_is)
    (case i45 => constructor <;> k_is)
    (case i46 => constructor <;> k_is)
    (case i47 => constructor <;> k_is)
    (case i48 => constructor <;> k_is)
    (case zmax => k_is)
    (case zmin => k_is)
    (case ztuple => k_is)
    (case zlen => k_is)
    (case zsorted => k_is)
    (case zsum => k_is)
    (case zMOST_PICKS => exact ⟨_, by k_is⟩)
    (case zenumerate => k_is)
    (case zrange => k_is)
    (case zisinstance => k_is)
    (case zbool => k_is)
    (case zint => k_is)
    (case zzip => k_is)
    (case fin => exact My.fin)
