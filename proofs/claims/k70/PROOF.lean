import PyProof.Rows.All
import Wide.All
import OpenK.AllK
import Wide.FinOn
import Lean
import PyProof.EqAt
import PyProof.EqKinds
import PyProof.TupleCall
import PySem.Challenge.RW_offerhouse_k70_whole_hull_of_sellers
set_option Elab.async false
set_option linter.all false
set_option synthInstance.maxSize 10000
set_option synthInstance.maxHeartbeats 60000
namespace QA
inductive E | v (i:Nat) | k (n:Nat) | i (z:Int) | u (b:Bool) (x y:E) | a (x y:E) | s (x y:E) | n (x:E) | m (s:Bool) (n:Nat) (z:Int) (x:E) | c (x:E)
inductive F | le (d t:Bool) (x y:E) | eq (t:Bool) (x y:E) | ff | no (f:F) | an (f g:F) | or (f g:F) | im (f g:F) | io (f g:F)
structure C where
  i:List Int
  n:List Nat
noncomputable def gi:List Int->Nat->Int
  | [],_=>0
  | x::_,0=>x
  | _::l,i+1=>gi l i
noncomputable def gn:List Nat->Nat->Nat
  | [],_=>0
  | x::_,0=>x
  | _::l,i+1=>gn l i
noncomputable def den (c:C):E->Nat × Int
  | .v i=>(gn c.n i,gi c.i i)
  | .k n=>(n,0)
  | .i z=>(0,z)
  | .u b x y=>(cond b (max (den c x).1 (den c y).1) (min (den c x).1 (den c y).1),cond b (max (den c x).2 (den c y).2) (min (den c x).2 (den c y).2))
  | .a x y=>((den c x).1+(den c y).1,(den c x).2+(den c y).2)
  | .s x y=>((den c x).1 - (den c y).1,(den c x).2 - (den c y).2)
  | .n x=>(0,- (den c x).2)
  | .m s n z x=>(cond s (n * (den c x).1) ((den c x).1 * n),cond s (z * (den c x).2) ((den c x).2 * z))
  | .c x=>((den c x).2.toNat,((den c x).1:Int))
noncomputable def dF (c:C):F->Prop
  | .le d t x y=>cond d (cond t ((den c x).1 < (den c y).1) ((den c x).2 < (den c y).2)) (cond t ((den c x).1<=(den c y).1) ((den c x).2<=(den c y).2))
  | .eq t x y=>cond t ((den c x).1=(den c y).1) ((den c x).2=(den c y).2)
  | .ff=>False
  | .no f=>¬ dF c f
  | .an f g=>dF c f/\dF c g
  | .or f g=>dF c f ∨ dF c g
  | .im f g=>dF c f->dF c g
  | .io f g=>(dF c f ↔ dF c g)
noncomputable def ev (r:Nat->Int):List Int->Int
  | []=>0
  | c::l=>c * r 0+ev (λi=>r (i+1)) l
noncomputable def ad:List Int->List Int->List Int
  | [],m=>m
  | x::l,[]=>x::l
  | x::l,y::m=>Int.add x y::ad l m
noncomputable def sc (k:Int):List Int->List Int
  | []=>[]
  | x::l=>Int.mul k x::sc k l
theorem ev_ad:∀ (l m:List Int) (r:Nat->Int),ev r (ad l m)=ev r l+ev r m
  | [],m,r=>(Int.zero_add _).symm
  | x::l,[],r=>(Int.add_zero _).symm
  | x::l,y::m,r=>by
    show (x+y) * r 0+ev _ (ad l m)=(x * r 0+ev _ l)+(y * r 0+ev _ m)
    rw [ev_ad l m,Int.add_mul];omega
theorem ev_sc (k:Int):∀ (l:List Int) (r:Nat->Int),ev r (sc k l)=k * ev r l
  | [],r=>(Int.mul_zero k).symm
  | x::l,r=>by
    show k * x * r 0+ev _ (sc k l)=k * (x * r 0+ev _ l)
    rw [ev_sc k l,Int.mul_add,Int.mul_assoc]
noncomputable def zz:List Int->List Int
  | []=>[]
  | k::l=>k::0::0::l
noncomputable def ui:Nat->List Int
  | 0=>[0,1]
  | i+1=>zz (ui i)
noncomputable def un:Nat->List Int
  | 0=>[0,0,1]
  | i+1=>zz (un i)
noncomputable def rr (c:C):Nat->Nat->Int
  | j,0=>gi c.i j
  | j,1=>(gn c.n j:Int)
  | j,i+2=>rr c (j+1) i
noncomputable def rho (c:C) (j:Nat):Nat->Int
  | 0=>1
  | i+1=>rr c j i
theorem ev_zz {c:C} {j:Nat}:∀ l,ev (rho c j) (zz l)=ev (rho c (j+1)) l
  | []=>rfl
  | k::l=>by
    show k * 1+(0 * _+(0 * _+ev _ l))=k * 1+ev _ l
    rw [Int.zero_mul,Int.zero_mul,Int.zero_add,Int.zero_add];rfl
theorem ev_ui {c:C}:∀ (i j:Nat),ev (rho c j) (ui i)=gi c.i (j+i)
  | 0,j=>by show 0 * _+(1 * gi c.i j+0)=gi c.i j;omega
  | i+1,j=>by show ev _ (zz _)=_;rw [ev_zz,ev_ui i];congr 1;omega
theorem ev_un {c:C}:∀ (i j:Nat),ev (rho c j) (un i)=(gn c.n (j+i):Int)
  | 0,j=>by show 0 * _+(0 * _+(1 * (gn c.n j:Int)+0))=(gn c.n j:Int);omega
  | i+1,j=>by show ev _ (zz _)=_;rw [ev_zz,ev_un i];congr 2;omega
noncomputable def ge (k:Int) (x y:List Int):List Int:=ad [k] (ad y (sc (-1) x))
theorem ev_ge {c:C} {k:Int} {x y:List Int}:ev (rho c 0) (ge k x y)=k+ev (rho c 0) y - ev (rho c 0) x:=by
  unfold ge;rw [ev_ad,ev_ad,ev_sc];show k * 1+0+_=_;omega
noncomputable def Al (r:Nat->Int) (l:List (List Int)):Prop:=∀ x∈l,0<=ev r x
theorem al_c {r:Nat->Int} {x:List Int} {l:List (List Int)} (h:0<=ev r x) (hl:Al r l):Al r (x::l):=List.forall_mem_cons.mpr ⟨h,hl⟩
theorem al_n {r:Nat->Int}:Al r []:=λ_ h=>nomatch h
theorem al_a {r:Nat->Int} {l m:List (List Int)} (h:Al r l) (hl:Al r m):Al r (l++m):=λx hx=>(List.mem_append.mp hx).elim (h x) (hl x)
noncomputable abbrev A:=List Int × List (List Int)
noncomputable def G (c:C) (P:List A) (v:Int):Prop:=∃ q∈P,ev (rho c 0) q.1=v/\Al (rho c 0) q.2
noncomputable def cp (P Q:List A) (f:List Int->List Int->List A):List A:=P.flatMap λp=>Q.flatMap λq=>(f p.1 q.1).map λr=>(r.1,r.2++(p.2++q.2))
theorem cp_ok {c:C} {P Q:List A} {f:List Int->List Int->List A} {x y v:Int} (hx:G c P x) (hy:G c Q y) (hf:∀ l m,ev (rho c 0) l=x->ev (rho c 0) m=y->G c (f l m) v):G c (cp P Q f) v:=by
  obtain ⟨p,p1,p2,p3⟩:=hx;obtain ⟨q,q1,q2,q3⟩:=hy;obtain ⟨r,r1,r2,r3⟩:=hf _ _ p2 q2
  exact ⟨_,List.mem_flatMap.mpr ⟨p,p1,List.mem_flatMap.mpr ⟨q,q1,List.mem_map.mpr ⟨r,r1,rfl⟩⟩⟩,r2,al_a r3 (al_a p3 q3)⟩
noncomputable def e0:List A:=[([],[])]
noncomputable def li:E->Bool->List A
  | .v i,t=>[(cond t (un i) (ui i),[])]
  | .k n,t=>[(cond t [(n:Int)] [],[])]
  | .i z,t=>[(cond t [] [z],[])]
  | .u b x y,t=>cp (li x t) (li y t) λl m=>[(cond b l m,[ge 0 m l]),(cond b m l,[ge 0 l m])]
  | .a x y,t=>cp (li x t) (li y t) λl m=>[(ad l m,[])]
  | .s x y,t=>cp (li x t) (li y t) λl m=>(ge 0 m l,cond t [ge 0 m l] [])::cond t [([],[ge 0 l m])] []
  | .n x,t=>cp (li x t) e0 λl _=>[(cond t [] (sc (-1) l),[])]
  | .m _ n z x,t=>cp (li x t) e0 λl _=>[(sc (cond t (n:Int) z) l,[])]
  | .c x,t=>cp (li x (!t)) e0 λl _=>(l,cond t [l] [])::cond t [([],[ge 0 l []])] []
noncomputable def va (c:C) (t:Bool) (e:E):Int:=cond t ((den c e).1:Int) (den c e).2
theorem g1 {c:C} {l:List Int} {v:Int} {L:List A} {k:List (List Int)} (h:ev (rho c 0) l=v) (hk:Al (rho c 0) k):G c ((l,k)::L) v:=⟨_,List.mem_cons_self ..,h,hk⟩
theorem g2 {c:C} {q:A} {v:Int} {L:List A} (h:G c L v):G c (q::L) v:=h.elim λx hx=>⟨x,List.mem_cons_of_mem _ hx.1,hx.2⟩
theorem ge_1 {c:C} {l m:List Int} {x y:Int} (hx:ev (rho c 0) l=x) (hy:ev (rho c 0) m=y) (h:y<=x):Al (rho c 0) [ge 0 m l]:=al_c (by rw [ev_ge];omega) al_n
theorem li_ok {c:C} (e:E):∀ (t:Bool),G c (li e t) (va c t e):=by
  have z0:G c e0 0:=g1 rfl al_n
  have k1:∀ k,ev (rho c 0) [k]=k:=λk=>by show k * 1+0=k;omega
  induction e with
  | v i=>intro t;cases t <;> exact g1 ((by first | exact ev_ui i 0 | exact ev_un i 0:ev _ _=_).trans (by rw [Nat.zero_add];rfl)) al_n
  | k n=>intro t;cases t;exact g1 rfl al_n;exact g1 (k1 _) al_n
  | i z=>intro t;cases t;exact g1 (k1 _) al_n;exact g1 rfl al_n
  | u b x y hx hy =>
    intro t;refine cp_ok (hx t) (hy t) λl m e1 e2=>?_
    rcases Int.le_total (va c t y) (va c t x) with h | h
    · refine g1 ?_ (ge_1 e1 e2 h)
      cases t <;> cases b <;> (show ev _ _=_;simp only [cond_true,cond_false];first | rw [e1] | rw [e2]) <;> (simp only [va,den,cond_true,cond_false] at *;omega)
    · refine g2 (g1 ?_ (ge_1 e2 e1 h))
      cases t <;> cases b <;> (show ev _ _=_;simp only [cond_true,cond_false];first | rw [e1] | rw [e2]) <;> (simp only [va,den,cond_true,cond_false] at *;omega)
  | a x y hx hy =>
    intro t;refine cp_ok (hx t) (hy t) λl m e1 e2=>g1 ?_ al_n
    rw [ev_ad,e1,e2];cases t <;> simp only [va,den,cond_true,cond_false];omega
  | s x y hx hy =>
    intro t;refine cp_ok (hx t) (hy t) λl m e1 e2=>?_
    cases t with
    | false=>exact g1 (by rw [ev_ge,e1,e2];simp only [va,den,cond_false];omega) al_n
    | true =>
      rcases Int.le_total (va c true y) (va c true x) with h | h
      · exact g1 (by rw [ev_ge,e1,e2];simp only [va,den,cond_true] at *;omega) (ge_1 e1 e2 h)
      · exact g2 (g1 (by show (0:Int)=_;simp only [va,den,cond_true] at *;omega) (ge_1 e2 e1 h))
  | n x hx =>
    intro t;refine cp_ok (hx t) z0 λl m e1 e2=>g1 ?_ al_n
    cases t with
    | false=>show ev _ (sc _ _)=_;rw [ev_sc,e1];simp only [va,den,cond_false];omega
    | true=>rfl
  | m s n z x hx =>
    intro t;refine cp_ok (hx t) z0 λl m e1 e2=>g1 ?_ al_n
    rw [ev_sc,e1];cases t <;> cases s <;> simp only [va,den,cond_true,cond_false,Int.natCast_mul,Int.mul_comm]
  | c x hx =>
    intro t;refine cp_ok (hx (!t)) z0 λl m e1 e2=>?_
    cases t with
    | false=>exact g1 e1 al_n
    | true =>
      rcases Int.le_total 0 (va c false x) with h | h
      · exact g1 (by rw [e1];simp only [va,den,cond_true,cond_false,Bool.not_true] at *;omega) (al_c (by rw [e1];exact h) al_n)
      · exact g2 (g1 (by show (0:Int)=_;simp only [va,den,cond_true,cond_false] at *;omega) (ge_1 rfl e1 h))
noncomputable def sg:Int->Ordering
  | .ofNat 0=>.eq
  | .ofNat _=>.gt
  | .negSucc _=>.lt
noncomputable abbrev B:=Int × Int × List Int
structure P3 where
  p:List B
  n:List B
  z:List (List Int)
noncomputable def p1 (k a:Int) (r:List Int) (q:P3):Ordering->P3
  | .eq=>⟨q.p,q.n,(k::r)::q.z⟩
  | .gt=>⟨(a,k,r)::q.p,q.n,q.z⟩
  | .lt=>⟨q.p,(Int.neg a,k,r)::q.n,q.z⟩
noncomputable def ex:Nat->List Int->Int × List Int
  | _,[]=>(0,[])
  | 0,a::l=>(a,l)
  | j+1,a::l=>((ex j l).1,a::(ex j l).2)
noncomputable def p2 (j:Nat) (q:P3):List Int->P3
  | []=>q
  | k::l=>p1 k (ex j l).1 (ex j l).2 q (sg (ex j l).1)
noncomputable def pt (j:Nat):List (List Int)->P3
  | []=>⟨[],[],[]⟩
  | x::l=>p2 j (pt j l) x
noncomputable def ct (q:P3):Bool:=Nat.ble (Nat.mul q.p.length q.n.length) (Nat.succ (Nat.add q.p.length q.n.length))
noncomputable def bs (l:List (List Int)):Nat->Nat->Nat
  | 0,_=>0
  | n+1,j=>cond (ct (pt j l)) j (bs l n (j+1))
noncomputable def gc:List Int->Nat
  | []=>0
  | x::l=>Nat.gcd x.natAbs (gc l)
noncomputable def dv (g:Int):List Int->List Int
  | []=>[]
  | x::l=>x / g::dv g l
noncomputable def t1 (k:Int) (l:List Int):Nat->List Int
  | 0=>[k]
  | 1=>k::l
  | g+2=>k / ((g+2:Nat):Int)::dv ((g+2:Nat):Int) l
noncomputable def tg:List Int->List Int
  | []=>[]
  | k::l=>t1 k l (gc l)
noncomputable def co (a b:B):List Int:=tg (ad (sc b.1 (a.2.1::a.2.2)) (sc a.1 (b.2.1::b.2.2)))
noncomputable def cr (n:List B) (z:List (List Int)) (p:List B):List (List Int):=(p.flatMap λa=>n.map λb=>co a b)++z
noncomputable def f1:List Int->Bool
  | [.negSucc _]=>true
  | _=>false
noncomputable def f0 (l:List (List Int)) (j:Nat) (f:List (List Int)->Bool):Bool:=f (cr (pt j l).n (pt j l).z (pt j l).p)
noncomputable def fm:Nat->List (List Int)->Bool
  | 0,l=>l.any f1
  | n+1,l=>l.any f1 || (Nat.ble l.length 300 && f0 l (bs l (n+1) 0) (fm n))
noncomputable def dr:Nat->(Nat->Int)->Nat->Int
  | 0,r,i=>r (i+1)
  | _+1,r,0=>r 0
  | j+1,r,i+1=>dr j (λi=>r (i+1)) i
theorem ex_ok:∀ (j:Nat) (l:List Int) (r:Nat->Int),ev r l=(ex j l).1 * r j+ev (dr j r) (ex j l).2
  | 0,[],r=>by show 0=0 * _+0;rw [Int.zero_mul];rfl
  | j+1,[],r=>by show 0=0 * _+0;rw [Int.zero_mul];rfl
  | 0,a::l,r=>rfl
  | j+1,a::l,r=>by
    show a * r 0+ev _ l=(ex j l).1 * r (j+1)+(a * r 0+ev (dr j λi=>r (i+1)) (ex j l).2)
    rw [ex_ok j l];exact Int.add_left_comm ..
noncomputable def sh (j:Nat) (r:Nat->Int):Nat->Int
  | 0=>r 0
  | i+1=>dr j (λi=>r (i+1)) i
theorem ev_cut {r:Nat->Int} {j:Nat} {k:Int} {l:List Int}:ev r (k::l)=(ex j l).1 * r (j+1)+ev (sh j r) (k::(ex j l).2):=by
  show k * r 0+ev _ l=(ex j l).1 * r (j+1)+(k * r 0+ev (dr j λi=>r (i+1)) (ex j l).2)
  rw [ex_ok j l];exact Int.add_left_comm ..
noncomputable def Bp (r:Nat->Int) (y:Int) (a:B):Prop:=0 < a.1/\0<=a.1 * y+ev r (a.2.1::a.2.2)
noncomputable def P0 (r:Nat->Int) (j:Nat) (q:P3):Prop:=(∀ a∈q.p,Bp (sh j r) (r (j+1)) a)/\(∀ a∈q.n,Bp (sh j r) (-r (j+1)) a)/\Al (sh j r) q.z
theorem sg_ok (a:Int):(sg a=.eq/\a=0) ∨ (sg a=.gt/\0 < a) ∨ (sg a=.lt/\a < 0):=by
  match a with
  | .ofNat 0=>exact .inl ⟨rfl,rfl⟩
  | .ofNat (n+1)=>exact .inr (.inl ⟨rfl,Int.natCast_pos.mpr (Nat.succ_pos n)⟩)
  | .negSucc _=>exact .inr (.inr ⟨rfl,by omega⟩)
theorem p2_ok {r:Nat->Int} {j:Nat} {q:P3} (h:P0 r j q):∀ {x:List Int},0<=ev r x->P0 r j (p2 j q x)
  | [],_=>h
  | k::l,hx=>by
    rw [ev_cut (j:=j)] at hx
    show P0 r j (p1 k (ex j l).1 (ex j l).2 q (sg (ex j l).1))
    rcases sg_ok (ex j l).1 with ⟨e,g⟩ | ⟨e,g⟩ | ⟨e,g⟩ <;> rw [e]
    · exact ⟨h.1,h.2.1,al_c (by rw [g,Int.zero_mul,Int.zero_add] at hx;exact hx) h.2.2⟩
    · exact ⟨List.forall_mem_cons.mpr ⟨⟨g,hx⟩,h.1⟩,h.2⟩
    · exact ⟨h.1,List.forall_mem_cons.mpr ⟨⟨Int.neg_pos_of_neg g,by show 0<=-(ex j l).1 * -r (j+1)+_;rw [Int.neg_mul_neg];exact hx⟩,h.2.1⟩,h.2.2⟩
theorem pt_ok {r:Nat->Int} (j:Nat):∀ {l:List (List Int)},Al r l->P0 r j (pt j l)
  | [],_=>⟨λ_ h=>(nomatch h),λ_ h=>(nomatch h),al_n⟩
  | x::l,h=>p2_ok (pt_ok j λy hy=>h y (List.mem_cons_of_mem _ hy)) (h x (List.mem_cons_self ..))
theorem gc_dv:∀ (l:List Int) (g:Nat) (r:Nat->Int),g ∣ gc l->ev r l=g * ev r (dv g l)
  | [],g,r,_=>(Int.mul_zero _).symm
  | x::l,g,r,h=>by
    have h3:(g:Int) * (x / g)=x:=Int.mul_ediv_cancel' (Int.ofNat_dvd_left.mpr (Nat.dvd_trans h (Nat.gcd_dvd_left ..)))
    show x * _+ev _ l=g * (x / g * _+ev _ (dv g l))
    rw [gc_dv l g _ (Nat.dvd_trans h (Nat.gcd_dvd_right ..)),Int.mul_add,← Int.mul_assoc,h3]
theorem t1_ok {r:Nat->Int} (hr:r 0=1) {k:Int} {l:List Int} (h:0<=ev r (k::l)):∀ {g},g=gc l->0<=ev r (t1 k l g)
  | 0,e=>by
    have h:0<=k * r 0+ev _ l:=h
    rw [gc_dv l 0 _ (by rw [e];exact Nat.dvd_refl _),Int.natCast_zero,Int.zero_mul] at h;exact h
  | 1,e=>h
  | g+2,e=>by
    have h:0<=k * r 0+ev _ l:=h
    show 0<=k / ((g+2:Nat):Int) * r 0+ev _ (dv ((g+2:Nat):Int) l)
    rw [gc_dv l (g+2) _ (by rw [e];exact Nat.dvd_refl _),hr,Int.mul_one] at h
    rw [hr,Int.mul_one]
    have hg:0 < ((g+2:Nat):Int):=by omega
    generalize ((g+2:Nat):Int)=d at *
    generalize ev _ (dv d l)=y at *
    have:-y<=k / d:=(Int.le_ediv_iff_mul_le hg).mpr (by rw [Int.neg_mul,Int.mul_comm];omega)
    omega
theorem co_ok {r:Nat->Int} (hr:r 0=1) {y:Int} {a b:B} (h1:Bp r y a) (h2:Bp r (-y) b):0<=ev r (co a b):=by
  refine t1_ok hr ?_ rfl
  show 0<=ev r (ad (sc b.1 (a.2.1::a.2.2)) (sc a.1 (b.2.1::b.2.2)))
  rw [ev_ad,ev_sc,ev_sc]
  have e1:=Int.mul_nonneg (Int.le_of_lt h2.1) h1.2
  have e2:=Int.mul_nonneg (Int.le_of_lt h1.1) h2.2
  rw [Int.mul_add] at e1 e2
  have:a.1 * (b.1 * -y)=- (b.1 * (a.1 * y)):=by rw [Int.mul_neg,Int.mul_neg,Int.mul_left_comm]
  omega
theorem f1_ok {r:Nat->Int} (hr:r 0=1) {l:List (List Int)} (h:Al r l):¬ l.any f1=true:=λk=>by
  obtain ⟨x,h1,h2⟩:=List.any_eq_true.mp k
  have:=h x h1
  unfold f1 at h2;split at h2
  · have t:0<=_ * r 0+0:=this
    rw [hr] at t;omega
  · cases h2
theorem fm_ok:∀ (n:Nat) {r:Nat->Int} {l:List (List Int)},r 0=1->Al r l->¬ fm n l=true
  | 0,r,l,hr,h=>f1_ok hr h
  | n+1,r,l,hr,h=>λk=>by
    rcases Bool.or_eq_true_iff.mp k with k | k
    · exact f1_ok hr h k
    · obtain ⟨i,j,m⟩:=pt_ok (bs l (n+1) 0) h
      refine fm_ok n (r:=sh _ r) hr (al_a (λx hx=>?_) m) (Bool.and_eq_true_iff.mp k).2
      obtain ⟨a,a1,a2⟩:=List.mem_flatMap.mp hx
      obtain ⟨b,b1,rfl⟩:=List.mem_map.mp a2
      exact co_ok (r:=sh _ r) hr (i a a1) (j b b1)
noncomputable abbrev T:=List (Bool × F)
noncomputable def al (t:Bool) (x y:E) (cs:List (List Int)) (k:List Int->List Int->List (List Int)->Bool):Bool:=(li x t).all λp=>(li y t).all λq=>k p.1 q.1 (p.2++(q.2++cs))
noncomputable def tb (w:Nat):Nat->T->List (List Int)->Bool
  | 0,_,_=>false
  | n+1,[],cs=>fm w cs
  | n+1,(b,f)::r,cs=>match f with
    | .le d t x y=>al t x y cs λl m cs=>tb w n r (cond b (ge (cond d (-1) 0) l m) (ge (cond d 0 (-1)) m l)::cs)
    | .eq t x y=>al t x y cs λl m cs=>cond b (tb w n r (ge 0 l m::ge 0 m l::cs)) (tb w n r (ge (-1) l m::cs) && tb w n r (ge (-1) m l::cs))
    | .ff=>cond b true (tb w n r cs)
    | .no f=>tb w n ((!b,f)::r) cs
    | .an f g=>cond b (tb w n ((true,f)::(true,g)::r) cs) (tb w n ((false,f)::r) cs && tb w n ((false,g)::r) cs)
    | .or f g=>cond b (tb w n ((true,f)::r) cs && tb w n ((true,g)::r) cs) (tb w n ((false,f)::(false,g)::r) cs)
    | .im f g=>cond b (tb w n ((false,f)::r) cs && tb w n ((true,g)::r) cs) (tb w n ((true,f)::(false,g)::r) cs)
    | .io f g=>tb w n ((b,g)::(true,f)::r) cs && tb w n ((!b,g)::(false,f)::r) cs
noncomputable def hd (c:C) (q:Bool × F):Prop:=cond q.1 (dF c q.2) (¬ dF c q.2)
theorem al_ok {c:C} {t:Bool} {x y:E} {cs:List (List Int)} {k:List Int->List Int->List (List Int)->Bool} (h:al t x y cs k=true) (hc:Al (rho c 0) cs):∃ l m d,ev (rho c 0) l=va c t x/\ev (rho c 0) m=va c t y/\Al (rho c 0) d/\k l m d=true:=by
  obtain ⟨p,p1,p2,p3⟩:=li_ok (c:=c) x t;obtain ⟨q,q1,q2,q3⟩:=li_ok (c:=c) y t
  exact ⟨_,_,_,p2,q2,al_a p3 (al_a q3 hc),List.all_eq_true.mp (List.all_eq_true.mp h p p1) q q1⟩
theorem tb_ok {c:C} {w:Nat}:∀ (n:Nat) {r:T} {cs:List (List Int)},Al (rho c 0) cs->(∀ q∈r,hd c q)->¬ tb w n r cs=true
  | 0,_,_,_,_=>nofun
  | n+1,[],cs,hc,hr=>fm_ok w rfl hc
  | n+1,(b,f)::r,cs,hc,hr=>λh=>by
    obtain ⟨hq,hr'⟩:=List.forall_mem_cons.mp hr
    have I:∀ {p q},hd c p->hd c q->tb w n (p::q::r) cs=true->False:=λh1 h2 h3=>tb_ok n hc (List.forall_mem_cons.mpr ⟨h1,List.forall_mem_cons.mpr ⟨h2,hr'⟩⟩) h3
    have J:∀ {p},hd c p->tb w n (p::r) cs=true->False:=λh1 h3=>tb_ok n hc (List.forall_mem_cons.mpr ⟨h1,hr'⟩) h3
    cases f with
    | le d t x y =>
      have h:al t x y cs (λl m cs=>tb w n r (cond b (ge (cond d (-1) 0) l m) (ge (cond d 0 (-1)) m l)::cs))=true:=h
      obtain ⟨l,m,e,h1,h2,he,h3⟩:=al_ok h hc
      refine tb_ok n (al_c ?_ he) hr' h3
      cases b <;> cases t <;> cases d <;> (show 0<=ev _ (ge _ _ _);rw [ev_ge,h1,h2];simp only [hd,dF,va,cond_true,cond_false] at *;omega)
    | eq t x y =>
      have h:al t x y cs (λl m cs=>cond b (tb w n r (ge 0 l m::ge 0 m l::cs)) (tb w n r (ge (-1) l m::cs) && tb w n r (ge (-1) m l::cs)))=true:=h
      obtain ⟨l,m,e,h1,h2,he,h3⟩:=al_ok h hc
      cases b with
      | true =>
        refine tb_ok n (al_c ?_ (al_c ?_ he)) hr' h3 <;>
        cases t <;> (rw [ev_ge,h1,h2];simp only [hd,dF,va,cond_true,cond_false] at *;omega)
      | false =>
        obtain ⟨h4,h5⟩:=Bool.and_eq_true_iff.mp h3
        rcases Int.lt_or_lt_of_ne (a:=ev (rho c 0) l) (b:=ev (rho c 0) m) (by rw [h1,h2];cases t <;> (simp only [hd,dF,va,cond_true,cond_false] at *;omega)) with g | g
        · exact tb_ok n (al_c (by rw [ev_ge];omega) he) hr' h4
        · exact tb_ok n (al_c (by rw [ev_ge];omega) he) hr' h5
    | ff =>
      cases b with
      | true=>exact hq
      | false=>exact tb_ok n hc hr' h
    | no f =>
      cases b with
      | true=>exact J (p:=(false,f)) hq h
      | false=>exact J (p:=(true,f)) (Classical.not_not.mp hq) h
    | an f g =>
      cases b with
      | true=>exact I (p:=(true,f)) (q:=(true,g)) hq.1 hq.2 h
      | false =>
        obtain ⟨h4,h5⟩:=Bool.and_eq_true_iff.mp h
        by_cases k:dF c f
        · exact J (p:=(false,g)) (λz=>hq ⟨k,z⟩) h5
        · exact J (p:=(false,f)) k h4
    | or f g =>
      cases b with
      | false=>exact I (p:=(false,f)) (q:=(false,g)) (λz=>hq (.inl z)) (λz=>hq (.inr z)) h
      | true =>
        obtain ⟨h4,h5⟩:=Bool.and_eq_true_iff.mp h
        rcases (hq:dF c f ∨ dF c g) with k | k
        · exact J (p:=(true,f)) k h4
        · exact J (p:=(true,g)) k h5
    | im f g =>
      cases b with
      | false=>exact I (p:=(true,f)) (q:=(false,g)) (Classical.byContradiction λz=>hq λy=>(z y).elim) (λz=>hq λ_=>z) h
      | true =>
        obtain ⟨h4,h5⟩:=Bool.and_eq_true_iff.mp h
        by_cases k:dF c f
        · exact J (p:=(true,g)) (hq k) h5
        · exact J (p:=(false,f)) k h4
    | io f g =>
      obtain ⟨h4,h5⟩:=Bool.and_eq_true_iff.mp h
      by_cases k:dF c f
      · refine I (p:=(b,g)) (q:=(true,f)) ?_ k h4
        cases b with
        | true=>exact hq.mp k
        | false=>exact λz=>hq ⟨λ_=>z,λ_=>k⟩
      · refine I (p:=(!b,g)) (q:=(false,f)) ?_ k h5
        cases b with
        | true=>exact λz=>k (hq.mpr z)
        | false=>exact Classical.byContradiction λz=>hq ⟨λy=>(k y).elim,λy=>(z y).elim⟩
noncomputable def mx:E->Nat
  | .v i=>i+1
  | .a x y=>(mx x).max (mx y)
  | .s x y=>(mx x).max (mx y)
  | .u _ x y=>(mx x).max (mx y)
  | .m _ _ _ x=>mx x
  | .n x=>mx x
  | .c x=>mx x
  | _=>0
noncomputable def mF:F->Nat
  | .le _ _ x y=>(mx x).max (mx y)
  | .eq _ x y=>(mx x).max (mx y)
  | .ff=>0
  | .no f=>mF f
  | .an f g=>(mF f).max (mF g)
  | .or f g=>(mF f).max (mF g)
  | .im f g=>(mF f).max (mF g)
  | .io f g=>(mF f).max (mF g)
noncomputable def nz:Nat->List (List Int)
  | 0=>[]
  | i+1=>un i::nz i
theorem nz_ok {c:C}:∀ n,Al (rho c 0) (nz n)
  | 0=>al_n
  | n+1=>al_c (by rw [ev_un];exact Int.natCast_nonneg _) (nz_ok n)
noncomputable def ok (f:F):Bool:=tb (mF f+mF f) 400 [(false,f)] (nz (mF f))
noncomputable abbrev Wit (c:C) (f:F):Prop:=ok f=true->dF c f
theorem R {c:C} {f:F}:Wit c f:=λh=>Classical.byContradiction λk=>tb_ok 400 (nz_ok _) (r:=[(false,f)]) (List.forall_mem_cons.mpr ⟨k,λ_ h=>absurd h List.not_mem_nil⟩) h
class AI (e:Int) (l:List Int) (l':outParam (List Int)) (n:outParam Nat):Prop
instance:AI e [] [e] 0:=⟨⟩
instance (priority:=low) [AI e l l' n]:AI e (d::l) (d::l') (.succ n):=⟨⟩
instance:AI e (e::l) (e::l) 0:=⟨⟩
class AN (e:Nat) (l:List Nat) (l':outParam (List Nat)) (n:outParam Nat):Prop
instance:AN e [] [e] 0:=⟨⟩
instance (priority:=low) [AN e l l' n]:AN e (d::l) (d::l') (.succ n):=⟨⟩
instance:AN e (e::l) (e::l) 0:=⟨⟩
class RI (e:Int) (c:C) (c':outParam C) (x:outParam E):Prop
class RN (e:Nat) (c:C) (c':outParam C) (x:outParam E):Prop
instance (priority:=low) [AI e i i' k]:RI e ⟨i,n⟩ ⟨i',n⟩ (.v k):=⟨⟩
instance (priority:=low) [AN e n n' k]:RN e ⟨i,n⟩ ⟨i,n'⟩ (.v k):=⟨⟩
class LN (e:Nat):Prop
instance:LN 0:=⟨⟩
instance:LN 1:=⟨⟩
instance:LN 100:=⟨⟩
instance:LN 1000:=⟨⟩
instance:LN 10000:=⟨⟩
instance:LN 1000000:=⟨⟩
instance:LN 12:=⟨⟩
instance:LN 127:=⟨⟩
instance:LN 130:=⟨⟩
instance:LN 131:=⟨⟩
instance:LN 132:=⟨⟩
instance:LN 150:=⟨⟩
instance:LN 16:=⟨⟩
instance:LN 1600000:=⟨⟩
instance:LN 166:=⟨⟩
instance:LN 167:=⟨⟩
instance:LN 16777216:=⟨⟩
instance:LN 178:=⟨⟩
instance:LN 180:=⟨⟩
instance:LN 2:=⟨⟩
instance:LN 200:=⟨⟩
instance:LN 24:=⟨⟩
instance:LN 250:=⟨⟩
instance:LN 3:=⟨⟩
instance:LN 30:=⟨⟩
instance:LN 32:=⟨⟩
instance:LN 3888:=⟨⟩
instance:LN 4:=⟨⟩
instance:LN 40:=⟨⟩
instance:LN 400000:=⟨⟩
instance:LN 45:=⟨⟩
instance:LN 46:=⟨⟩
instance:LN 47:=⟨⟩
instance:LN 5:=⟨⟩
instance:LN 6:=⟨⟩
instance:LN 60:=⟨⟩
instance:LN 61:=⟨⟩
instance:LN 62:=⟨⟩
instance:LN 63:=⟨⟩
instance:LN 64:=⟨⟩
instance:LN 79:=⟨⟩
instance:LN 8:=⟨⟩
instance:LN 80:=⟨⟩
instance:LN 800000:=⟨⟩
instance:LN 8000000:=⟨⟩
instance:LN 83:=⟨⟩
instance:LN 900000:=⟨⟩
class LI (e:Int):Prop
instance:LI 0:=⟨⟩
instance:LI 1:=⟨⟩
instance:LI 10:=⟨⟩
instance:LI 100:=⟨⟩
instance:LI 1000:=⟨⟩
instance:LI 2:=⟨⟩
instance:LI 24:=⟨⟩
instance:LI 3:=⟨⟩
instance:LI 37:=⟨⟩
instance:LI 4:=⟨⟩
instance:LI 50:=⟨⟩
instance:LI 70:=⟨⟩
instance [LI a]:LI (-a):=⟨⟩
instance (priority:=500) [LN e]:RN e c c (.k e):=⟨⟩
instance (priority:=500) [LI e]:RI e c c (.i e):=⟨⟩
instance [LI a] [LN b]:RI (a ^ b) c c (.i (a ^ b)):=⟨⟩
instance [LN a] [LN b]:RN (a ^ b) c c (.k (a ^ b)):=⟨⟩
instance [RI a c d x] [RI b d e y]:RI (max a b) c e (.u true x y):=⟨⟩
instance [RI a c d x] [RI b d e y]:RI (min a b) c e (.u false x y):=⟨⟩
instance [RN a c d x] [RN b d e y]:RN (max a b) c e (.u true x y):=⟨⟩
instance [RN a c d x] [RN b d e y]:RN (min a b) c e (.u false x y):=⟨⟩
instance [RI a c d x] [RI b d e y]:RI (a+b) c e (.a x y):=⟨⟩
instance [RN a c d x] [RN b d e y]:RN (a+b) c e (.a x y):=⟨⟩
instance [RI a c d x] [RI b d e y]:RI (a - b) c e (.s x y):=⟨⟩
instance [RN a c d x] [RN b d e y]:RN (a - b) c e (.s x y):=⟨⟩
instance [RI a c d x]:RI (-a) c d (.n x):=⟨⟩
instance [LI a] [RI b c d y]:RI (a * b) c d (.m true 0 a y):=⟨⟩
instance [LI a] [RI b c d y]:RI (b * a) c d (.m false 0 a y):=⟨⟩
instance [LN a] [RN b c d y]:RN (a * b) c d (.m true a 0 y):=⟨⟩
instance [LN a] [RN b c d y]:RN (b * a) c d (.m false a 0 y):=⟨⟩
instance [RN a c d x]:RI (Nat.cast a) c d (.c x):=⟨⟩
instance [RI a c d x]:RN (Int.toNat a) c d (.c x):=⟨⟩

class RF (p:Prop) (c:C) (c':outParam C) (f:outParam F):Prop
instance {a b:Int} [RI a c d x] [RI b d e y]:RF (a<=b) c e (.le false false x y):=⟨⟩
instance {a b:Int} [RI a c d x] [RI b d e y]:RF (a < b) c e (.le true false x y):=⟨⟩
instance {a b:Int} [RI a c d x] [RI b d e y]:RF (b ≥ a) c e (.le false false x y):=⟨⟩
instance {a b:Int} [RI a c d x] [RI b d e y]:RF (b > a) c e (.le true false x y):=⟨⟩
instance {a b:Int} [RI a c d x] [RI b d e y]:RF (a=b) c e (.eq false x y):=⟨⟩
instance {a b:Int} [RI a c d x] [RI b d e y]:RF (a ≠ b) c e (.no (.eq false x y)):=⟨⟩
instance {a b:Nat} [RN a c d x] [RN b d e y]:RF (a<=b) c e (.le false true x y):=⟨⟩
instance {a b:Nat} [RN a c d x] [RN b d e y]:RF (a < b) c e (.le true true x y):=⟨⟩
instance {a b:Nat} [RN a c d x] [RN b d e y]:RF (b ≥ a) c e (.le false true x y):=⟨⟩
instance {a b:Nat} [RN a c d x] [RN b d e y]:RF (b > a) c e (.le true true x y):=⟨⟩
instance {a b:Nat} [RN a c d x] [RN b d e y]:RF (a=b) c e (.eq true x y):=⟨⟩
instance {a b:Nat} [RN a c d x] [RN b d e y]:RF (a ≠ b) c e (.no (.eq true x y)):=⟨⟩
instance:RF False c c .ff:=⟨⟩
instance [RF p c d f]:RF (¬p) c d (.no f):=⟨⟩
instance [RF p c d f] [RF q d e g]:RF (p/\q) c e (.an f g):=⟨⟩
instance [RF p c d f] [RF q d e g]:RF (p ∨ q) c e (.or f g):=⟨⟩
instance [RF p c d f] [RF q d e g]:RF (p->q) c e (.im f g):=⟨⟩
instance [RF p c d f] [RF q d e g]:RF (p ↔ q) c e (.io f g):=⟨⟩
theorem Rw (p:Prop) [RF p ⟨[],[]⟩ c f]:Wit c f:=R
end QA
local macro_rules
  | `(tactic| ext $ps:rintroPat*:$_:num)=>`(tactic| (refine id ?_;ext $ps*))
  | `(tactic| ext $ps:rintroPat*)=>do
    let mut ty ← `(_)
    let mut f:=false
    let mut hs:=#[]
    for p in ps do
      match p with
      | `(rintroPat| $h:ident)=>hs:=hs.push (← `($h:ident))
      | _=>f:=true
    for h in hs.reverse do ty ← `(type_of% $h->$ty)
    let t ← `(tactic| (refine (?g:$ty) $hs*;refine (QA.R:type_of% (QA.Rw (type_of% ?g))) ?_;decide +kernel))
    if f then `(tactic| (exfalso;$t)) else return t
set_option Elab.async false
set_option linter.all false
set_option maxRecDepth 100000
open And renaming intro->c32
open Array renaming length_toList->gW,toList_append->pq,getElem?_toList->sR,perm_iff_toList_perm->wV,toList_extract->DW,toList_reverse->DV,toList_push->Dv,getD_eq_getD_getElem?->OP,getElem_toList->OA,getD->Dd
open Array.Perm renaming refl->sU
open Bool renaming false_ne_true->nJ,false_eq_true->uY,and_eq_true->AW
open Classical renaming axiomOfChoice->DM,byContradiction->OU
open False renaming elim->jR
open ForInStep renaming yield->p6,done->Dx
open Iff renaming rfl->fE
open Int renaming le_refl->aW,mul_le_mul_of_nonneg_left->nI,emod_lt_of_pos->pf,mul_nonneg->oq,emod_nonneg->px,sub_mul->nF,le_trans->sO,fdiv_eq_ediv_of_nonneg->Ji,sub_self->wC,mul_zero->wB,add_zero->wA,mul_le_mul_of_nonpos_left->OK,mul_one->wH,mul_add->wG,le_of_lt->AL,mul_comm->AJ,toNat_natCast->Jd,mul_sub->AF,eq_ofNat_of_zero_le->Ol,le_ediv_of_mul_le->OD,not_le->Df,lt_or_le->Ir,neg_mul->Ip
open List renaming mem_cons_self->aR,mem_cons_of_mem->a9,length_map->aX,mem_singleton->bQ,mem_cons->br,length_append->cO,mem_append->bU,pairwise_cons->dg,mem_append_right->fF,size_toArray->dE,mem_append_left->gf,pairwise_append->gr,map_append->ej,append_assoc->fG,mem_map->cS,getElem?_set_ne->gZ,getElem?_set_self->iV,getElem?_eq_some_iff->lC,not_mem_nil->gq,length_take->gz,length_cons->gy,drop_eq_getElem_cons->mT,map_cons->fo,mem_flatMap->iH,map_map->fM,take_append_drop->mS,replicate->iU,ne_nil_of_length_pos->p8,length_drop->lD,getElem?_append_right->rg,pairwise_singleton->p7,getElem?_eq_getElem->rf,mem_iff_getElem->pz,length_pos_iff->pj,drop_eq_nil_of_le->qZ,lookup_cons->nE,getElem_mem->nD,append_nil->mQ,getElem?_append_left->uW,zipWith->kn,mem_of_mem_take->qY,mem_of_mem_drop->qX,pairwise_map->pW,pairwise_iff_getElem->wX,flatMap_cons->q8,length->mi,sum_cons->oj,range->ko,getElem?_map->uX,suffix_refl->uZ,length_singleton->AU,perm_append_comm->AS,mem_range->sN,extract_eq_take_drop->DQ,nodup_cons->uQ,reverse_perm->wK,getElem?_replicate->DN,mem_reverse->wJ,take_of_length_le->DJ,flatten_singleton->DI,dropLast_concat_getLast->Jj,of_mem_zip->wR,length_replicate->DX,foldl_cons->wO,map->mP,flatten_append->DU,mergeSort_perm->DT,flatMap_append->DS,length_eq_zero_iff->Jo,pairwise_mergeSort->Jl,flatten_cons->Dw,getElem_take->Du,map_nil->wF,getElem?_zipWith->IX,eq_nil_or_concat->IU,zipIdx_cons->Dt,take_append_of_le_length->OL,mem_of_getElem?->IT,filterMap_cons->IP,forIn_cons->DE,sum_append->DD,length_zipWith->I9,map_congr_left->IZ,map_singleton->IY,drop_zero->DG,nodup_append->Jb,length_erase_of_mem->OR,foldl_append->Ja,all_eq_true->IB,take_length->IA,map_snd_zip->Iz,zipWith_cons_cons->Oh,length_pos_of_mem->Og,dropLast_eq_take->Oc,zipIdx_nil->Iv,nil_append->IH,getElem?_append->OC,reverse_reverse->OB,mem_of_getLast?->Oy,dropLast_concat->Ox,mem_erase_of_ne->Ow,drop_take->IF,map_eq_nil_iff->Ot,mem_filterMap->Oq,length_zipIdx->OH,getElem?_take->OG,append_of_mem->OF,toArray->Iu
open List.MergeSort.Internal renaming splitInTwo->OT
open List.Pairwise renaming nil->Jc
open List.Perm renaming append_left->IW,refl->Dy
open Nat renaming le_refl->bp,ne_of_lt->ei,lt_of_lt_of_le->jB,le_trans->fm,eq_zero_of_not_pos->uU,le_add_right->sT,zero_le->nG,lt_irrefl->pZ,lt_of_succ_lt->u6,lt_succ_self->u4,lt_of_le_of_ne->AR,zero_add->sP,ne_of_gt->uS,add_sub_cancel_left->Jm,le_succ->uO,add_le_add_right->IQ,le_antisymm->DB,le_of_lt->AQ,sub_self->AM,le_of_not_lt->IC,min_eq_left->II,le_of_sub_eq_zero->OE,add_assoc->IK,mul_assoc->IJ
open Ne renaming symm->og
open Option renaming bind_some->oh,map_eq_some_iff->uV,map_some->wQ,getD_none->N9,bind_none->N7,map->Im
open Option.some renaming inj->cG,injEq->dJ
open Or renaming inr->bP,inl->cX
open Prod renaming ext->Dc
open PyProof renaming noPylong_of_log2->OS
open PyProof.Rows renaming wpS_bind->aS,wpS_pure->bo,wpS_forRange->lx,callWith_type1->AX,slot_tuple_getitem->D0,wpS_mono->lu,mirror_perm->qU,listUpdate_at->wU,listItems_at->wD,wpS_modify->uN,getElem?_mirror_all->I0,get?_update_seq->DA,wpS_get->pd,pairsOf_toList->DF,pairsOf_size->Dr,mirror_size->Dl,seqEpoch_at->Dk,size_push'->De
open PyProof.Rows.SortSt renaming mk'->AG
open PySem renaming wpAny_bind->aB,wpAny_pure->bI,sizeLine_eq->ij,wpAny_pyIter_tuple->qW,wpAny_field->ly,wpAny_callSpecial?_slot->wW,wpAny_mono->mR,wpAny_newObj_type->u7,mem_of_lookup->wZ,wpAny_call_entry->u5,wpAny_setField_rec->wM,Builtin->c1d,wpAny_seqItems->sM,wpAny_passesOwn->uR,wpAny_pyIter_list->wL,call_isinstance->uP,wpAny_holding->sL,wpAny_Call_Name_kw->DZ,wpAny_truthy_bool->DY,wpAny_updateSeq_pair->IS,wpAny_attempt->AH,wpAny_execs_nil->Ds,wpAny_rule->wI,intBits_le_64->Dj,wpAny_onRaise->Di,wpAny_newList->Dh,noFill_tuple_add->ID,codeAny_mono->Dg,wpAny_newTuple->IG,wpAny_letGo->Dp,wpAny_standAt->IE,seq_tuple_add->IM,call->Io
open PySem.AutoSeq1 renaming wpAny_loadPart'->DO
open PySem.Builtin.Int renaming intBits->Ov
open PySem.Builtin.List renaming listItems->DH,listTooLong->Jf
open PySem.Builtin.Range renaming rangeSize->Om
open PySem.Builtin.Slice renaming slicePlaces->DR,sliceAdjust->Jh,sliceApplied->OM
open PySem.Builtin.SmallTypes renaming nextOf->sS,ownedTupleIsFree->D1,ownedTupleHandOut->OV
open PySem.Builtin.Tuple renaming tupleExact->DP
open PySem.Calls renaming Name_function_global->ON,callWith_builtin->Oi,spliced_cons->Oo,spliced_nil->Oa
open PySem.Data renaming cell->wy,fields->Dq
open PySem.F renaming slot_tuple_iterator_next->D2,args_tuple_add_2->Jg,entry_tuple_add->Jq,plainAttrs_list->Jp,slot_tuple_add->Jk,args_tuple_iterator_next_1->OJ,entry_tuple_iterator_next->OQ,slot_zip_next->DC,slot_list_append->Oe,slot_list_extend->Od,slot_enumerate_next->Ob,slot_list_pop->OI
open PySem.Heap renaming get?_push_of_some->bR,lt_size->bY,get?_push_size->fN,size_push->nC,get?_update_ne->wY,get?_update_other->DK,SameBut->AO,IsTuple->AN,size_update->Iy,get?_update_self->Of,IsList->Dm
open PySem.Heap.IsList renaming push->N6
open PySem.Heap.SameBut renaming update->Ou
open PySem.IsRange renaming new->Iq
open PySem.NameKind renaming free->nH,cell->uT
open PySem.Obj renaming mapSeq->fO
open PySem.PassesOwn renaming never->N5
open PySem.Shared renaming heap->qV
open PySem.Str renaming ofString->qS
open PySem.Value renaming ref->eI,none->fY,bool->mh,int->lz,type->sQ
open PySem.W renaming Frag->aM,mg_none_of->oi,fnOf->jQ,nsIn->me,tabIn->om,tabObj->wN,kas_rev->mO,keepIn->AI,kas_descPart->AK,codeIn->Dz,methodObj->Je,kas_desc->sJ,cellsFrom_some->Oj,OpenLaw->Iw,kas_place->wz,mg_of->IL,codeHdIn->N8,kas_sort->AE
open Sum renaming inl->uM,inr->uL
theorem S7{a b c:Nat}(h:a+c<=b):a<=b:=fm (sT _ _) h
theorem S6{a b c:Nat}(h:a<=b):a-c<=b:=fm (Nat.sub_le _ _) h
namespace L2
open PySem PySem.Spec PyProof.Rows
abbrev Key:=Sum Int Str
def O0:Key->Value->Bool
 | .inl k,v=>Value.isInt k v
 | .inr x,v=>Value.isStrOf x v
def GN(w:World):Key->Int
 | .inl k=>hashInt k
 | .inr x=>hashStr w x
theorem rC:∀{k:Key} {v:Value},O0 k v=true->(∃i t,k=uM i/\v=lz i t)\/(∃x t,k=uL x/\v=Value.str x t)
 | .inl i,v,h=>by
  obtain ⟨t,e⟩:=Value.isInt_shape (k:=i) (v:=v) h
  exact .inl ⟨i,t,rfl,e⟩
 | .inr x,v,h=>by
  obtain ⟨t,e⟩:=Value.isStrOf_shape (x:=x) (v:=v) h
  exact .inr ⟨x,t,rfl,e⟩
theorem b8f(a b:Int):decide ((uM a:Key)=uM b)=(a==b):=by
 by_cases e:a=b
 .subst e;simp
 .have h:¬(uM a:Key)=uM b:=λq=>e (Sum.inl.inj q)
  rw [decide_eq_false h]
  exact (beq_eq_false_iff_ne.mpr e).symm
theorem b8c(a b:Str):decide ((uL a:Key)=uL b)=decide (a=b):=by
 by_cases e:a=b
 .subst e;simp
 .have h:¬(uL a:Key)=uL b:=λq=>e (Sum.inr.inj q)
  rw [decide_eq_false h,decide_eq_false e]
theorem b8e(a:Int)(b:Str):decide ((uM a:Key)=uL b)=false:=decide_eq_false (λq=>nomatch q)
theorem b8d(a:Str)(b:Int):decide ((uL a:Key)=uM b)=false:=decide_eq_false (λq=>nomatch q)
def Kx(prog:Program)(w:World):PySem.KeyKind prog w Key where
 is:=O0
 hash:=GN w
 inj:=λv a b ha hb=>by
  rcases rC ha with ⟨i,t,rfl,rfl⟩ | ⟨x,t,rfl,rfl⟩
  .rcases rC hb with ⟨j,u,rfl,e⟩ | ⟨y,u,rfl,e⟩
   .injection e with e1 _;rw [e1]
   .exact nomatch e
  .rcases rC hb with ⟨j,u,rfl,e⟩ | ⟨y,u,rfl,e⟩
   .exact nomatch e
   .injection e with e1 _;rw [e1]
 byValue:=λk v h=>by
  rcases rC h with ⟨i,t,rfl,rfl⟩ | ⟨x,t,rfl,rfl⟩<;>rfl
 pyHash:=λhv h=>by
  rcases rC hv with ⟨i,t,rfl,rfl⟩ | ⟨x,t,rfl,rfl⟩
  .exact wpAny_pyHash_int h
  .exact wpAny_pyHash_str h
 eqBool:=λhu hv h=>by
  rcases rC hu with ⟨i,t,rfl,rfl⟩ | ⟨x,t,rfl,rfl⟩
  .rcases rC hv with ⟨j,u,rfl,rfl⟩ | ⟨y,u,rfl,rfl⟩
   .rw [b8f] at h;exact wpAny_eqBool_int h
   .rw [b8e] at h;exact SeqAt.EqAt.int_str i t y u _ _ _ _ h
  .rcases rC hv with ⟨j,u,rfl,rfl⟩ | ⟨y,u,rfl,rfl⟩
   .rw [b8d] at h;exact SeqAt.EqAt.str_int x t j u _ _ _ _ h
   .rw [b8c] at h;exact wpAny_eqBool_str h
 «strs»:=λk x t v h=>by
  rcases rC h with ⟨i,u,rfl,e⟩ | ⟨y,u,rfl,e⟩
  .exact nomatch e
  .injection e with e1 _
   subst e1
   cases v<;>rfl
end L2
namespace L2
open PySem PySem.Spec PyProof.Rows
inductive V where
 | bz | bl (b:Bool) | int (i:Int) | str (x:Str) | AY (b:Array UInt8) | HY (b:UInt64) | ref (a:Addr) | ty (n:String)
 deriving DecidableEq
def RelV:V->Value->Prop
 | .bz,u=>u=fY
 | .bl b,u=>u=mh b
 | .int i,u=>∃t,u=lz i t
 | .str x,u=>∃t,u=Value.str x t
 | .AY b,u=>∃t,u=Value.bytes b t
 | .HY b,u=>∃t,u=Value.float b t
 | .ref a,u=>u=eI a
 | .ty n,u=>u=sQ n
abbrev aC:List V->List Value->Prop:=Paired RelV
theorem aC.length(r:aC xs us):xs.length=us.length:=Paired.length r
theorem aC.get:∀{xs:List V} {us:List Value} {i:Nat} {x:V},aC xs us->xs[i]?=some x->∃u,us[i]?=some u/\RelV x u
 | _,_,_,_,.nil,e=>by simp at e
 | _,_,0,_,.cons r _,e=>by simp at e;subst e;exact ⟨_,rfl,r⟩
 | _,_,i+1,x,.cons _ t,e=>by
  obtain ⟨u,h1,h2⟩:=aC.get (i:=i) (x:=x) t (by simpa using e)
  exact ⟨u,by simpa using h1,h2⟩
theorem aC.set(r:RelV x u):∀{xs:List V} {us:List Value} (i:Nat),aC xs us->aC (xs.set i x) (us.set i u)
 | _,_,_,.nil=>.nil
 | _,_,0,.cons _ t=>.cons r t
 | _,_,i+1,.cons q t=>.cons q (aC.set r i t)
theorem aC.append:∀{xs ys:List V} {us ws:List Value},aC xs us->aC ys ws->aC (xs++ys) (us++ws)
 | _,_,_,_,.nil,s=>s
 | _,_,_,_,.cons r t,s=>.cons r (aC.append t s)
theorem aC.take:∀{xs:List V} {us:List Value} (n:Nat),aC xs us->aC (xs.take n) (us.take n)
 | _,_,0,_=>.nil
 | _,_,_+1,.nil=>.nil
 | _,_,n+1,.cons r t=>.cons r (aC.take n t)
theorem aC.drop:∀{xs:List V} {us:List Value} (n:Nat),aC xs us->aC (xs.drop n) (us.drop n)
 | _,_,0,r=>r
 | _,_,_+1,.nil=>.nil
 | _,_,n+1,.cons _ t=>aC.drop n t
def Cf:Option V->Option Value->Prop
 | some v,some u=>RelV v u
 | none,none=>True
 | _,_=>False
def KV{κ:Type}:List (κ×V)->List (κ×Value)->Prop:=Paired λ(p:κ×V) (q:κ×Value)=>p.1=q.1/\RelV p.2 q.2
def kV:Key->V
 | .inl i=>.int i
 | .inr x=>.str x
inductive HO where
 /-- a list -/
 | lst (xs:List V)
 /-- a tuple (never changes) -/
 | tup (xs:List V)
 /-- a dict rV keys are ints and texts;one rV keys are tuples of ints and texts (rW empty one is both) -/
 | dK (bG:List (Key×V)) | dT (bG:List (List Key×V))
 /-- a set of ints: ar members,ar size -/
 | set (S:Int->Bool) (n:Nat)
 /-- an instance of rW class at C,ar dict at dx,ar attributes -/
 | ins (C dx:Addr) (fs:List (Str×V))
 /-- rW dict of rW instance at x -/
 | own (x:Addr)
 /-- rW dict of an exception -/
 | xd (fs:List (Str×V))
 /-- a bound method,f of x -/
 | met (f x:Addr)
 /-- a range object lo,lo+1,.. below hi -/
 | Gg (lo hi:Int)
 /-- a yb Td is known to rW object (rW script;a dict while a loop walks it): read,never written while it is so -/
 | lr (o:Obj) (u:HO)
 /-- a code oQ table -/
 | tR (ps:Array Value)
 /-- a code oQ table rV codes are all called q,and are ar own -/
 | tab (q:Str)
 /-- any other yb,by S9 is true of ar one object (a def of MY own: SetO a S n:=HO.ext λh=>..) -/
 | ext (φ:Heap->Prop)
def ownOf:HO->Option Addr
 | .own x=>some x
 | .lr _ (.own x)=>some x
 | _=>none
def b8l(q:Str)(o:Obj):Prop:=∃vs t,o.data=.fields vs/\vs[1]?=some (.str q t)
abbrev Hp:=Addr->Option HO
def upd(H:Hp)(a:Addr)(o:HO):Hp:=λb=>if b=a then some o else H b
theorem pK:upd H a o a=some o:=by unfold upd;rw [if_pos rfl]
theorem c5(h:b≠a):upd H a o b=H b:=by unfold upd;rw [if_neg h]
theorem pI{H:Hp}{a b:Addr}{o:HO}(h:H a=some o)(h':H b=none):a≠b:=by
 intro e;subst e;rw [h] at h';cases h'
section
variable (P:Program)(w:World)
def cQ(H:Hp)(h:Heap)(a:Addr):HO->Prop
 | .lst xs=>xs.length<=sizeLine/\∃(ar:List Value) (n:Nat),aC xs ar/\h.get? a=some { cls:=.type "list",data:=.seq ar.toArray n }
 | .tup xs=>xs.length<=sizeLine/\∃ar:List Value,aC xs ar/\IsTup h a ar.toArray
 | .dK bG=>bG.length<=sizeLine/\(a==sysModules)=false/\∃vs,KV bG vs/\h.DictOf (Kx P w) a vs
 | .dT bG=>bG.length<=sizeLine/\(a==sysModules)=false/\∃xs:List (List Key×Addr×Value),
   Paired (λ(p:List Key×V) (q:List Key×Addr×Value)=>p.1=q.1/\H q.2.1=some (.tup (p.1.map kV))/\RelV p.2 q.2.2) bG xs /\
   ∃o es ep,h.get? a=some o/\o.ExactDict/\o.data=.dict es ep/\es.toList=xs.map (entryOfKey (tupleKind (Kx P w)))/\(xs.map (·.1)).Nodup
 | .set S n=>h.SetOf (intKind P w) a S n
 | .ins C dx fs=>H dx=some (.own a)/\fs.length<=1000/\dx≠a/\h.get? a=some (PySem.W.instObj C dx) /\
   ∃mA,h.Ns1 dx mA/\(∀f,Cf (fs.lookup f) (mA f))/\PySem.Within mA (fs.map (·.1))
 | .own _=>∃o,h.get? a=some o
 | .xd fs=>∃mA,h.Ns1 a mA/\∀f,Cf (fs.lookup f) (mA f)
 | .Gg lo hi=>∃t u v,h.get? a=some { cls:=.type "range",data:=.fields #[.int lo t,.int hi u,.int 1 v] }
 | .lr o u=>h.get? a=some o/\cQ H h a u
 | .tR ps=>h.get? a=some { cls:=.none,data:=.fields ps }
 | .tab q=>∃ps,h.get? a=some (wN ps)/\TriplesOk ps.toList/\∀pos cv,codeAmong pos ps.toList=some cv->∃c oc,cv=.ref c/\H c=some (.lr oc (.own a))/\b8l q oc
 | .met f x=>h.get? a=some (Je (.ref f) (.ref x))
 | .ext φ=>φ h/\(∃o,h.get? a=some o)/\∀h1 h2:Heap,φ h1->(∀o,h1.get? a=some o->h2.get? a=some o)->φ h2
def dG(H:Hp)(h:Heap):Prop:=∀a o,H a=some o->cQ P w H h a o
end
section
variable {P:Program}{w:World}{H H':Hp}{h h':Heap}{a:Addr}{o:HO}
theorem cQ.lt(x:cQ P w H h a o):a<h.objs.size:=by
 cases o with
 | lst xs=>obtain ⟨_,_,_,_,e⟩:=x;exact bY e
 | tup xs=>obtain ⟨_,_,_,p⟩:=x;exact p.lt
 | dK bG=>obtain ⟨_,_,_,_,o,_,_,e,_⟩:=x;exact bY e
 | dT bG=>obtain ⟨_,_,_,_,o,_,_,e,_⟩:=x;exact bY e
 | set S n=>obtain ⟨o,_,_,_,e,_⟩:=x;exact bY e
 | ins C dx fs=>obtain ⟨_,_,_,e,_⟩:=x;exact bY e
 | own y=>obtain ⟨_,e⟩:=x;exact bY e
 | xd fs=>obtain ⟨_,⟨_,_,_,e,_⟩,_⟩:=x;exact bY e
 | Gg lo hi=>obtain ⟨_,_,_,e⟩:=x;exact bY e
 | lr ob u=>obtain ⟨e,_⟩:=x;exact bY e
 | tR ps=>exact bY (show h.get? a=some _ from x)
 | tab q=>obtain ⟨_,e,_⟩:=x;exact bY e
 | met f y=>exact bY (show h.get? a=some _ from x)
 | ext φ=>obtain ⟨_,⟨_,e⟩,_⟩:=x;exact bY e
theorem Paired.y3{α β:Type}{F G:α->β->Prop}:∀{y4:List α} {l₂:List β},Paired F y4 l₂->(∀a b,F a b->G a b)->Paired G y4 l₂
 | _,_,.nil,_=>.nil
 | _,_,.cons r t,f=>.cons (f _ _ r) (Paired.y3 t f)
theorem cQ.jX(x:cQ P w H h a o)(k:∀b u,(b=a\/H b=some (.own a))->h.get? b=some u->h'.get? b=some u)
  (ho:∀b u,ownOf u=some a->H b=some u->H' b=some u)(ht:∀b xs,H b=some (.tup xs)->H' b=some (.tup xs)):cQ P w H' h' a o:=by
 induction o with
 | lst xs=>obtain ⟨z,ar,n,r,e⟩:=x;exact ⟨z,ar,n,r,k _ _ (.inl rfl) e⟩
 | tup xs=>obtain ⟨z,ar,r,ob,e,c⟩:=x;exact ⟨z,ar,r,ob,k _ _ (.inl rfl) e,c⟩
 | dK bG=>obtain ⟨z,y,vs,r,ob,es,ep,e,c⟩:=x;exact ⟨z,y,vs,r,ob,es,ep,k _ _ (.inl rfl) e,c⟩
 | dT bG =>
  obtain ⟨z,y,xs,r,ob,es,ep,e,c⟩:=x
  exact ⟨z,y,xs,Paired.y3 r λp q z=>⟨z.1,ht _ _ z.2.1,z.2.2⟩,ob,es,ep,k _ _ (.inl rfl) e,c⟩
 | set S n=>obtain ⟨ob,es,ep,t,e,c⟩:=x;exact ⟨ob,es,ep,t,k _ _ (.inl rfl) e,c⟩
 | ins C dx fs =>
  obtain ⟨d,z,ne,e,mA,⟨od,es,ep,e2,c⟩,r⟩:=x
  exact ⟨ho _ _ rfl d,z,ne,k _ _ (.inl rfl) e,mA,⟨od,es,ep,k _ _ (.inr d) e2,c⟩,r⟩
 | own y=>obtain ⟨ob,e⟩:=x;exact ⟨ob,k _ _ (.inl rfl) e⟩
 | xd fs=>obtain ⟨mA,⟨od,es,ep,e,c⟩,r⟩:=x;exact ⟨mA,⟨od,es,ep,k _ _ (.inl rfl) e,c⟩,r⟩
 | Gg lo hi=>obtain ⟨t,u,v,e⟩:=x;exact ⟨t,u,v,k _ _ (.inl rfl) e⟩
 | lr ob u ih=>obtain ⟨e,q⟩:=x;exact ⟨k _ _ (.inl rfl) e,ih q⟩
 | tR ps =>
  have e:h.get? a=some { cls:=.none,data:=.fields ps }:=x
  show h'.get? a=some { cls:=.none,data:=.fields ps }
  exact k a _ (.inl rfl) e
 | tab q =>
  obtain ⟨ps,e,ht,z⟩:=x
  exact ⟨ps,k _ _ (.inl rfl) e,ht,λpos cv hc=>let ⟨c,oc,e1,e2,e3⟩:=z pos cv hc;⟨c,oc,e1,ho _ _ rfl e2,e3⟩⟩
 | met f y =>
  have e:h.get? a=some (Je (.ref f) (.ref y)):=x
  show h'.get? a=some (Je (.ref f) (.ref y))
  exact k a _ (.inl rfl) e
 | ext φ=>obtain ⟨p,⟨o,e⟩,st⟩:=x;exact ⟨st _ _ p λo q=>k _ _ (.inl rfl) q,⟨o,k _ _ (.inl rfl) e⟩,st⟩
theorem dG.lt(x:dG P w H h)(e:H a=some o):a<h.objs.size:=(x a o e).lt
theorem dG.fresh(x:dG P w H h)(e:h.objs.size<=a):H a=none:=by
 cases q:H a with
 | none=>rfl
 | some u=>exact absurd (jB (x.lt q) e) (pZ _)
theorem dG.kept(x:dG P w H h)(k:∀b u,h.get? b=some u->h'.get? b=some u):dG P w H h':=λa o e =>
 (x a o e).jX (λb u _ q=>k b u q) (λ_ _ _ q=>q) λ_ _ q=>q
theorem dG.laid(x:dG P w H h)(k:∀b u,h.get? b=some u->h'.get? b=some u)(hp:h.objs.size<=a)(new:cQ P w (upd H a o) h' a o):dG P w (upd H a o) h':=λb u e=>by
 have hn:=x.fresh hp
 by_cases hb:b=a
 .subst hb;rw [pK] at e;cases e;exact new
 .rw [c5 hb] at e
  exact (x b u e).jX (λc v _ q=>k c v q) (λc _ _ q=>by rw [c5 (pI q hn)];exact q) λc xs q=>by rw [c5 (pI q hn)];exact q
end
def Rd(H:Hp)(a:Addr)(u:HO):Prop:=H a=some u\/∃o,H a=some (.lr o u)
theorem Rd.ok(r:Rd H a u)(x:dG P w H h):cQ P w H h a u:=by
 rcases r with r | ⟨o,r⟩
 .exact x a u r
 .obtain ⟨_,q⟩:=x a _ r
  exact q
def FE:Option HO->Prop
 | some (.lst _)=>True
 | some (.dK _)=>True
 | some (.dT _)=>True
 | some (.set _ _)=>True
 | some (.ins _ _ _)=>True
 | some (.ext _)=>True
 | some (.tab _)=>True
 | _=>False
section
variable {P:Program}{w:World}{H:Hp}{h h':Heap}{x e:Addr}{o':HO}
theorem dG.write(ok:dG P w H h)(mu:FE (H x))(he:e=x\/H e=some (.own x))(k:∀b u,b≠e->h.get? b=some u->h'.get? b=some u)(sy:∃u,h'.get? e=some u)
  (new:cQ P w (upd H x o') h' x o'):dG P w (upd H x o') h':=λb u q=>by
 have Gx:∀c y,H c=some (.own y)->c≠x:=λc y r z=>by subst z;rw [r] at mu;exact mu
 have Gw:∀c xs,H c=some (.tup xs)->c≠x:=λc xs r z=>by subst z;rw [r] at mu;exact mu
 have Gy:∀c y u,ownOf u=some y->H c=some u->c≠x:=λc y u hu r z=>by
  subst z;rw [r] at mu
  cases u with
  | own y=>exact mu
  | lr o v=>exact mu
  | _=>cases hu
 by_cases hb:b=x
 .subst hb;rw [pK] at q;cases q;exact new
 .rw [c5 hb] at q
  by_cases uy:b=e
  .have q':H b=some (.own x):=by
    rcases he with z | z
    .exact absurd (uy.trans z) hb
    .rw [uy];exact z
   rw [q] at q';cases q'
   obtain ⟨v,hv⟩:=sy
   exact ⟨v,by rw [uy];exact hv⟩
  .refine (ok b u q).jX (λc v hc r=>k c v ?_ r) (λc u hu r=>by rw [c5 (Gy c b u hu r)];exact r) λc xs r=>by rw [c5 (Gw c xs r)];exact r
   rcases hc with rfl | hc
   .exact uy
   .rintro rfl
    rcases he with z | z
    .exact Gx c b hc z
    .rw [hc] at z;cases z;exact hb rfl
end
structure Un(fs ex:List Addr)(H H':Hp)(h h':Heap):Prop where
 keep:∀b o,h.get? b=some o->H b=none->b∉fs->b∉ex->h'.get? b=some o
 slot:∀b o,h.get? b=some o->H b=none->b∈fs->b∉ex->∃sl,h'.get? b=some { o with slots:=sl }
 free:∀b o,h.get? b=some o->H b=none->b∉ex->H' b=none
 there:∀b o,h.get? b=some o->b∉ex->∃o',h'.get? b=some o'
 jl:∀b xs,H b=some (.tup xs)->H' b=some (.tup xs)
 iE:∀b o u,H b=some (.lr o u)->H' b=some (.lr o u)
 jm:∀b ps,H b=some (.tR ps)->∃more,H' b=some (.tR (ps++more))
section
variable {fs YE ex NQ:List Addr}{H H1 H2:Hp}{h h1 h2 h':Heap}{a x e:Addr}{o:HO}
theorem Un.any(u:Un fs ex H H1 h h1)(q:h.get? b=some ob)(n:H b=none)(hx:b∉ex):∃sl,h1.get? b=some { ob with slots:=sl }:=by
 by_cases hb:b∈fs
 .exact u.slot b ob q n hb hx
 .exact ⟨ob.slots,u.keep b ob q n hb hx⟩
theorem Un.kept(k:∀b u,h.get? b=some u->h'.get? b=some u):Un fs ex H H h h':=
 ⟨λb ob q _ _ _=>k b ob q,λb ob q _ _ _=>⟨ob.slots,k b ob q⟩,λ_ _ _ n _=>n,λb ob q _=>⟨ob,k b ob q⟩,λ_ _ q=>q,λ_ _ _ q=>q,λ_ ps q=>⟨#[],by rw [q];simp⟩⟩
theorem Un.refl:Un fs ex H H h h:=Un.kept λ_ _ q=>q
theorem Un.laid(k:∀b u,h.get? b=some u->h'.get? b=some u)(hp:h.objs.size<=a)(hn:H a=none):Un fs ex H (upd H a o) h h' where
 keep:=λb u q _ _ _=>k b u q
 slot:=λb u q _ _ _=>⟨u.slots,k b u q⟩
 free:=λb u q n _=>by rw [c5 (ei (jB (bY q) hp))];exact n
 there:=λb u q _=>⟨u,k b u q⟩
 jl:=λb xs q=>by rw [c5 (pI q hn)];exact q
 iE:=λb u xs q=>by rw [c5 (pI q hn)];exact q
 jm:=λb ps q=>⟨#[],by rw [c5 (pI q hn),q];simp⟩
theorem Un.write(mu:FE (H x))(he:e=x\/H e=some (.own x))(k:∀b u,b≠e->h.get? b=some u->h'.get? b=some u)(sy:∃u,h'.get? e=some u):Un fs ex H (upd H x o) h h':=by
 have hx:∀b,H b=none->b≠x:=λb n z=>by subst z;rw [n] at mu;exact mu
 have hb:∀b,H b=none->b≠e:=λb n z=>by
  subst z
  rcases he with r | r
  .exact hx b n r
  .rw [n] at r;cases r
 have hm:∀b u,H b=some u->¬FE (some u)->b≠x:=λb u q nm z=>by subst z;rw [q] at mu;exact nm mu
 refine ⟨λb u q n _ _=>k b u (hb b n) q,λb u q n _ _=>⟨u.slots,k b u (hb b n) q⟩,λb u q n _=>by rw [c5 (hx b n)];exact n,λb u q _=>?_,
  λb xs q=>by rw [c5 (hm b _ q λz=>z)];exact q,λb u xs q=>by rw [c5 (hm b _ q λz=>z)];exact q,λb ps q=>⟨#[],by rw [c5 (hm b _ q λz=>z),q];simp⟩⟩
 by_cases uy:b=e
 .subst uy;exact sy
 .exact ⟨u,k b u uy q⟩
end
def Cv(h:Heap)(H:Hp):List Addr:=(ko h.objs.size).filter λa=>(H a).isSome
def ju(h:Heap)(H:Hp):Heap:=PySem.W.hideAll h (Cv h H)
theorem b2q(h:Heap)(H:Hp):(ju h H).objs.size=h.objs.size:=PySem.W.hideAll_size _ _
theorem b37(e:h.get? b=some o)(n:H b=none):(ju h H).get? b=some o:=
 PySem.W.hideAll_get _ e λhm=>by
  have q:(H b).isSome=true:=(List.mem_filter.mp hm).2
  rw [n] at q;simp at q
theorem b58(e:(ju h H).get? b=some o):h.get? b=some o/\H b=none:=by
 have e':h.get? b=some o:=PySem.W.of_hideAll (Cv h H) e
 refine ⟨e',?_⟩
 cases q:H b with
 | none=>rfl
 | some x =>
  have hm:b∈Cv h H:=List.mem_filter.mpr ⟨sN.mpr (bY e'),by simp [q]⟩
  have z:(ju h H).get? b=none:=PySem.W.hideAll_none (Cv h H) hm
  rw [z] at e;cases e
end L2
namespace L2
open PySem PySem.Spec PyProof.Rows
structure Mod(K:aM)(mg:Str->Option Value)(base:Heap):Prop where
 GL:K.In base
 glob:base.Ns mainGlobals mg
 blt:∃mb,base.Ns builtinsNs mb/\∀x:Str,x ≠ "__name__" -> mb x=bootBuiltins x
 nolimit:base.NoLimit
 bmod:∃bm ob,mg "__builtins__" = some (.ref bm)/\bm≠builtinsNs/\base.get? bm=some ob/\ob.cls=.type "module" /\ ob.dict=some builtinsNs/\ob.data=.plain
structure Cx where
 prog:Program
 w:World
 K:aM
 mg:Str->Option Value
 base:Heap
 A:Around
 N:List Str
 cK:Shared
 pR:Hp
 env:Env
 outer:List Env
 stack:List Env
 ex:List Addr
 fn:Str->Bool
 calm:Bool
 pn:List (Addr×Obj)
 xe:Value->Shared->Prop
def n9(l:List Env):List Addr:=l.filterMap (·.frame)
abbrev Cx.fs(X:Cx):List Addr:=n9 X.outer
def jI(sc:Scope)(x:Str):Prop:=sc.names.lookup x=some .local\/sc.names.lookup x=some .cell\/sc.names.lookup x=some .free
def Loc(sc:Scope)(x:Str):Prop:=sc.names.lookup x=some .local\/sc.names.lookup x=some .cell
def Look(env:Env)(h:Heap)(m:Str->Option Value)(x:Str)(u:Value):Prop:=
 (env.kindOf x=some .local/\m x=some u)\/((env.kindOf x=some .cell\/env.kindOf x=some .free)/\∃c,env.cells.lookup x=some c/\h.IsCell c (some u))
structure Cx.Ok(X:Cx):Prop where
 mod:Mod X.K X.mg X.base
 kind:X.env.scope.kind=.function
 glob:X.env.globals=mainGlobals
 blt:X.env.builtins=builtinsNs
 above:X.cK.heap.objs.size<=X.env.locals
 inj:∀x y c,X.env.cells.lookup x=some c->X.env.cells.lookup y=some c->x=y
 has:∀x,(X.env.kindOf x=some .cell\/X.env.kindOf x=some .free)->∃c,X.env.cells.lookup x=some c
 AD:∀x c,X.fn x=true->X.env.cells.lookup x=some c->X.cK.heap.objs.size<=c
 hd:X.calm=true->X.A.handled=none
 frames:X.A.frames=some X.stack
 Cy:X.stack=X.outer\/(X.stack=X.env::X.outer/\X.env.frame=some X.env.locals)
 NP:∀b∈X.ex,b≠X.env.locals/\∀x c,X.env.cells.lookup x=some c->c≠b
 bs:∀b o,X.base.get? b=some o->X.cK.heap.get? b=some o/\X.pR b=none
 q9:X.base.objs.size<=X.cK.heap.objs.size
 oR:∀b o,X.base.get? b=some o->b∉X.ex
 qO:∀b∈X.ex,b∉X.fs
 gj:X.cK.heap.FunFrames X.base X.outer
 uI:∀b∈X.fs,X.pR b=none
structure Inv(X:Cx)(pins:List (Addr×Obj))(σ:List (Option V))(H:Hp)(s:Shared):Prop where
 ok:X.Ok
 os:s.os=X.cK.os
 bare:AllBare s.gens
 base:Un X.fs X.ex X.pR H X.cK.heap s.heap
 loc:∃m,s.heap.Ns X.env.locals m/\∀(i:Nat) (x:Str) (v:V),X.N[i]?=some x->σ[i]?=some (some v)->jI X.env.scope x->∃u,RelV v u/\Look X.env s.heap m x u
 cell:∀x c,X.env.cells.lookup x=some c->∃v,s.heap.IsCell c v
 free:H X.env.locals=none
 eL:∀x c,X.env.cells.lookup x=some c->H c=none
 pin:∀p∈X.pn++pins,s.heap.get? p.1=some p.2/\H p.1=none/\p.1≠X.env.locals/\p.1∉X.fs/\∀v,p.2.data≠.cell v
 bt:dG X.prog X.w H s.heap
 len:σ.length=X.N.length
section
variable {X:Cx}{pins:List (Addr×Obj)}{σ:List (Option V)}{H H':Hp}{s:Shared}{h':Heap}
theorem Cx.Ok.GA(ok:X.Ok)(e:X.base.get? b=some o):b∉X.fs:=λhb=>by
 have:=(ok.gj.mem hb).1
 rw [e] at this;cases this
theorem Inv.bs(I:Inv X pins σ H s):∀b o,X.base.get? b=some o->s.heap.get? b=some o/\H b=none:=λb o e =>
 ⟨I.base.keep b o (I.ok.bs b o e).1 (I.ok.bs b o e).2 (I.ok.GA e) (I.ok.oR b o e),I.base.free b o (I.ok.bs b o e).1 (I.ok.bs b o e).2 (I.ok.oR b o e)⟩
theorem Inv.bk(I:Inv X pins σ H s):∀b o,X.base.get? b=some o->s.heap.get? b=some o:=λb o e=>(I.bs b o e).1
theorem Inv.mod(I:Inv X pins σ H s):Mod X.K X.mg X.base:=I.ok.mod
theorem Inv.ud(I:Inv X pins σ H s):X.K.In s.heap:=I.ok.mod.GL.keeps I.bk
theorem Inv.lt(I:Inv X pins σ H s):X.env.locals<s.heap.objs.size:=let ⟨_,hn,_⟩:=I.loc;hn.lt
theorem Inv.sz(I:Inv X pins σ H s):X.cK.heap.objs.size<=s.heap.objs.size:=fm I.ok.above (AQ I.lt)
theorem Inv.Gz(I:Inv X pins σ H s){a:Addr}(h:s.heap.objs.size<=a):a∉X.fs:=λhb=>by
 obtain ⟨_,o,ho,_⟩:=I.ok.gj.mem hb
 exact absurd (jB (bY ho) (fm I.sz h)) (pZ _)
theorem Inv.uK(I:Inv X pins σ H s):∀x c,X.env.cells.lookup x=some c->c≠X.env.locals:=λx c e z=>by
 obtain ⟨v,o,ho,hd⟩:=I.cell x c e
 obtain ⟨m,⟨o',es,ep,l8,oZ,_⟩,_⟩:=I.loc
 rw [z,l8] at ho;cases ho;rw [oZ] at hd;cases hd
theorem Inv.gj(I:Inv X pins σ H s):s.heap.FunFrames X.base X.outer:=by
 have all:∀(l:List Env),(∀b∈n9 l,b∈X.fs)->X.cK.heap.FunFrames X.base l->s.heap.FunFrames X.base l:=by
  intro l
  induction l with
  | nil=>intro _ _;trivial
  | cons env r ih =>
   intro hs hl
   obtain ⟨hk,⟨L,o,hf,hn,ho,hd⟩,hr⟩:=hl
   have hL:L∈X.fs:=hs L (by unfold n9;rw [IP,hf];exact aR)
   obtain ⟨sl,e⟩:=I.base.slot L o ho (I.ok.uI L hL) hL λz=>I.ok.qO L z hL
   exact ⟨hk,⟨L,_,hf,hn,e,hd⟩,ih (λb hb=>hs b (by unfold n9;rw [IP,hf];exact a9 _ hb)) hr⟩
 exact all X.outer (λ_ hb=>hb) I.ok.gj
theorem Inv.stack(I:Inv X pins σ H s):s.heap.FunFrames X.base X.stack:=by
 rcases I.ok.Cy with e | ⟨e,hf⟩
 .rw [e];exact I.gj
 .rw [e]
  obtain ⟨m,hn,_⟩:=I.loc
  refine .cons (by rw [I.ok.kind];decide) hf hn ?_ I.gj
  exact Heap.get?_none_of_le (fm I.ok.q9 I.ok.above)
theorem Inv.gE(I:Inv X pins σ H s):∀b∈n9 X.stack,b∈X.env.locals::X.fs:=λb hb=>by
 rcases I.ok.Cy with e | ⟨e,hf⟩
 .rw [e] at hb;exact a9 _ hb
 .rw [e] at hb
  unfold n9 at hb
  rw [IP,hf] at hb
  exact hb
theorem Inv.mF(I:Inv X pins σ H s):∀b∈n9 X.stack,H b=none:=λb hb=>by
 rcases br.mp (I.gE b hb) with e | hb
 .rw [e];exact I.free
 .obtain ⟨_,o,ho,_⟩:=I.ok.gj.mem hb
  exact I.base.free b o ho (I.ok.uI b hb) λz=>I.ok.qO b z hb
theorem Inv.step{g':Array GenState}{t':Nat}{d':Drawn}{ch:List Addr}(I:Inv X pins σ H s)
  (pV:∀b∈ch,(b∈X.ex\/X.cK.heap.objs.size<=b)/\b≠X.env.locals/\(∀x c,X.env.cells.lookup x=some c->c≠b)/\∀p∈X.pn++pins,p.1≠b)
  (keep:∀b o,b≠X.env.locals->b∉X.fs->b∉ch->s.heap.get? b=some o->H b=none->h'.get? b=some o)
  (slot:∀b o,b≠X.env.locals->b∈X.fs->b∉ch->s.heap.get? b=some o->H b=none->∃sl,h'.get? b=some { o with slots:=sl })(free:∀b o,b∉ch->s.heap.get? b=some o->H b=none->H' b=none)
  (there:∀b o,b∉ch->s.heap.get? b=some o->∃o',h'.get? b=some o')
  (jl:∀b xs,H b=some (.tup xs)->H' b=some (.tup xs))(iE:∀b o u,H b=some (.lr o u)->H' b=some (.lr o u))(jm:∀b ps,H b=some (.tR ps)->∃more,H' b=some (.tR (ps++more)))
  (ns:∀m,s.heap.Ns X.env.locals m->h'.Ns X.env.locals m)(bt:dG X.prog X.w H' h')(hg:AllBare g'):
  Inv X pins σ H' { s with heap:=h',gens:=g',drawn:=d',toks:=t' }:=by
 have M2:∀b o,X.cK.heap.get? b=some o->b≠X.env.locals:=λb o e=>ei (jB (bY e) I.ok.above)
 have CD:∀b o,X.cK.heap.get? b=some o->b∉X.ex->b∉ch:=λb o e hx hb=>by
  rcases (pV b hb).1 with z | z
  .exact hx z
  .exact absurd (jB (bY e) z) (pZ _)
 have cellK:∀x c,X.env.cells.lookup x=some c->∀v,s.heap.IsCell c v->h'.IsCell c v:=λx c e v ⟨o,ho,hd⟩=>by
  have yZ:c∉ch:=λz=>(pV c z).2.2.1 x c e rfl
  by_cases hc:c∈X.fs
  .obtain ⟨sl,q⟩:=slot c o (I.uK x c e) hc yZ ho (I.eL x c e)
   exact ⟨_,q,hd⟩
  .exact ⟨o,keep c o (I.uK x c e) hc yZ ho (I.eL x c e),hd⟩
 refine ⟨I.ok,I.os,hg,⟨λb o e n hb hx=>?_,λb o e n hb hx=>?_,λb o e n hx=>?_,λb o e hx=>?_,λb xs e=>jl b xs (I.base.jl b xs e),λb o xs e=>iE b o xs (I.base.iE b o xs e),λb ps e=>?_⟩,?_,λx c e=>?_,?_,λx c e=>?_,λp hp=>?_,bt,I.len⟩
 .exact keep b o (M2 b o e) hb (CD b o e hx) (I.base.keep b o e n hb hx) (I.base.free b o e n hx)
 .obtain ⟨sl,e1⟩:=I.base.slot b o e n hb hx
  obtain ⟨Uo,e2⟩:=slot b _ (M2 b o e) hb (CD b o e hx) e1 (I.base.free b o e n hx)
  exact ⟨Uo,e2⟩
 .obtain ⟨o',e1⟩:=I.base.there b o e hx
  exact free b o' (CD b o e hx) e1 (I.base.free b o e n hx)
 .obtain ⟨o',e1⟩:=I.base.there b o e hx
  exact there b o' (CD b o e hx) e1
 .obtain ⟨m1,e1⟩:=I.base.jm b ps e
  obtain ⟨m2,e2⟩:=jm b _ e1
  exact ⟨m1++m2,by rw [e2,Array.append_assoc]⟩
 .obtain ⟨m,hn,hl⟩:=I.loc
  refine ⟨m,ns m hn,λi x v e1 e2 e3=>?_⟩
  obtain ⟨u,r,l⟩:=hl i x v e1 e2 e3
  refine ⟨u,r,?_⟩
  rcases l with l | ⟨k,c,e,z⟩
  .exact .inl l
  .exact .inr ⟨k,c,e,cellK x c e _ z⟩
 .obtain ⟨v,z⟩:=I.cell x c e
  exact ⟨v,cellK x c e v z⟩
 .obtain ⟨m,⟨o,_,_,ho,_⟩,_⟩:=I.loc
  exact free _ o (λz=>(pV _ z).2.1 rfl) ho I.free
 .obtain ⟨v,o,ho,hd⟩:=I.cell x c e
  exact free c o (λz=>(pV c z).2.2.1 x c e rfl) ho (I.eL x c e)
 .obtain ⟨e,n,ne,nf,d⟩:=I.pin p hp
  have yZ:p.1∉ch:=λz=>(pV p.1 z).2.2.2 p hp rfl
  exact ⟨keep p.1 p.2 ne nf yZ e n,free p.1 p.2 yZ e n,ne,nf,d⟩
theorem Inv.un(I:Inv X pins σ H s)(u:Un X.fs [] H H' s.heap h')(bt:dG X.prog X.w H' h'):Inv X pins σ H' { s with heap:=h',toks:=t' }:=by
 obtain ⟨m,⟨o,es,ep,ho,r⟩,_⟩:=id I.loc
 obtain ⟨sl,hL⟩:=u.any ho I.free (by simp)
 exact I.step (g':=s.gens) (d':=s.drawn) (ch:=[]) (λ_ z=>nomatch z) (λb o _ hb _ e n=>u.keep b o e n hb (by simp)) (λb o _ hb _ e n=>u.slot b o e n hb (by simp)) (λb o _ e n=>u.free b o e n (by simp)) (λb o _ e=>u.there b o e (by simp)) u.jl u.iE u.jm (λm' hm=>by
  obtain ⟨o',HZ,H9,l8,r'⟩:=hm
  rw [ho] at l8;cases l8
  exact ⟨_,HZ,H9,hL,r'⟩) bt I.bare
theorem Inv.call(I:Inv X pins σ H s)(u:Un (n9 X.stack) ch H H' s.heap h')(bt:dG X.prog X.w H' h')(hg:AllBare g')
  (pV:∀b∈ch,(b∈X.ex\/X.cK.heap.objs.size<=b)/\b≠X.env.locals/\(∀x c,X.env.cells.lookup x=some c->c≠b)/\∀p∈X.pn++pins,p.1≠b):
  Inv X pins σ H' { s with heap:=h',gens:=g',drawn:=d',toks:=t' }:=by
 obtain ⟨m,⟨o,es,ep,ho,r⟩,_⟩:=id I.loc
 obtain ⟨sl,hL⟩:=u.any ho I.free λz=>(pV _ z).2.1 rfl
 exact I.step (ch:=ch) pV (λb o hL hb hc e n=>u.keep b o e n (λz=>(br.mp (I.gE b z)).elim hL hb) hc) (λb o _ _ hc e n=>u.any e n hc) (λb o hc e n=>u.free b o e n hc) (λb o hc e=>u.there b o e hc) u.jl u.iE u.jm (λm' hm=>by
  obtain ⟨o',HZ,H9,l8,r'⟩:=hm
  rw [ho] at l8;cases l8
  exact ⟨_,HZ,H9,hL,r'⟩) bt hg
theorem Inv.turned(I:Inv X pins σ H s)(k:∀b o,b≠it->s.heap.get? b=some o->h'.get? b=some o)(hn:H it=none)(hL:it≠X.env.locals)
  (h1:it∈X.ex\/X.cK.heap.objs.size<=it)(h2:∀x c,X.env.cells.lookup x=some c->c≠it)(h3:∀p∈X.pn++pins,p.1≠it):Inv X pins σ H { s with heap:=h',toks:=t' }:=by
 have yY:∀b u,H b=some u->b≠it:=λb u e z=>by rw [z,hn] at e;cases e
 refine I.step (g':=s.gens) (d':=s.drawn) (ch:=[it]) (λb hb=>?_) (λb o _ _ hc e _=>k b o (λz=>hc (by simp [z])) e) (λb o _ _ hc e _=>⟨o.slots,k b o (λz=>hc (by simp [z])) e⟩) (λ_ _ _ _ n=>n)
  (λb o hc e=>⟨o,k b o (λz=>hc (by simp [z])) e⟩) (λ_ _ e=>e) (λ_ _ _ e=>e) (λb ps e=>⟨#[],by rw [e];simp⟩) (λm hm=>?_) (λb u e=>?_) I.bare
 .have e:b=it:=by simpa using hb
  subst e
  exact ⟨h1,hL,h2,h3⟩
 .obtain ⟨o,es,ep,ho,r⟩:=hm
  exact ⟨o,es,ep,k _ o (og hL) ho,r⟩
 .refine (I.bt b u e).jX (λc v hc q=>k c v ?_ q) (λ_ _ _ q=>q) λ_ _ q=>q
  rcases hc with z | z
  .rw [z];exact yY b u e
  .exact yY c _ z
theorem Inv.tok(I:Inv X pins σ H s)(t:Nat):Inv X pins σ H { s with toks:=t }:=I.un (h':=s.heap) (t':=t) Un.refl I.bt
theorem Inv.kept(I:Inv X pins σ H s)(k:∀b u,s.heap.get? b=some u->h'.get? b=some u):Inv X pins σ H { s with heap:=h',toks:=t' }:=I.un (Un.kept k) (I.bt.kept k)
theorem Inv.laid{a:Addr}{o:HO}{t':Nat}(I:Inv X pins σ H s)(k:∀b u,s.heap.get? b=some u->h'.get? b=some u)(hp:s.heap.objs.size<=a)(new:cQ X.prog X.w (upd H a o) h' a o):
  Inv X pins σ (upd H a o) { s with heap:=h',toks:=t' }:=I.un (Un.laid k hp (I.bt.fresh hp)) (I.bt.laid k hp new)
theorem Inv.write(I:Inv X pins σ H s)(mu:FE (H x))(he:e=x\/H e=some (.own x))(k:∀b u,b≠e->s.heap.get? b=some u->h'.get? b=some u)(sy:∃u,h'.get? e=some u)
  (new:cQ X.prog X.w (upd H x o) h' x o):Inv X pins σ (upd H x o) { s with heap:=h',toks:=t' }:=I.un (Un.write mu he k sy) (I.bt.write mu he k sy new)
theorem Inv.fy(I:Inv X pins σ H s)(h:∀p∈yH,s.heap.get? p.1=some p.2/\H p.1=none/\p.1≠X.env.locals/\p.1∉X.fs/\∀v,p.2.data≠.cell v):Inv X yH σ H s:=
 ⟨I.ok,I.os,I.bare,I.base,I.loc,I.cell,I.free,I.eL,λp hp=>(bU.mp hp).elim (λz=>I.pin p (gf _ z)) (h p),I.bt,I.len⟩
theorem QM{N:List Str}(hN:N.Nodup){i j:Nat}{x:Str}(a:N[i]?=some x)(b:N[j]?=some x):i=j:=by
 obtain ⟨h1,e1⟩:=lC.mp a
 obtain ⟨h2,e2⟩:=lC.mp b
 exact (List.getElem_inj hN).mp (e1.trans e2.symm)
theorem Rg(I:Inv X pins σ H s)(hN:X.N.Nodup)(hi:X.N[i]?=some x)(hx:Loc X.env.scope x)(r:RelV v u)
  (h:∀s',Inv X pins (σ.set i (some v)) H s'->(∃a,AO a s.heap s'.heap/\(a=X.env.locals\/X.env.cells.lookup x=some a))->Q () s')(hf:X.fn x=true\/X.env.scope.names.lookup x=some .local:=by first | exact .inl rfl | exact .inr rfl | assumption):wpAny M A (storeName X.env x u) Q E s:=by
 obtain ⟨m,hn,hl⟩:=id I.loc
 have HD:(X.env.scope.kind==.class||(X.env.scope.kind==.module&&X.env.locals != X.env.globals))=false:=by rw [I.ok.kind];rfl
 have zR:i<σ.length:=by rw [I.len];exact (lC.mp hi).1
 have uK:=I.uK
 have tracked:∀{a:Addr} {h':Heap},(∃o,s.heap.get? a=some o/\H a=none)->AO a s.heap h'->dG X.prog X.w H h':=λ{a h'} ha hs b ob e=>by
  obtain ⟨_,_,sv⟩:=ha
  refine (I.bt b ob e).jX (λc w' hc q=>(hs.2 c ?_).trans q) (λ_ _ _ q=>q) λ_ _ q=>q
  rintro rfl
  rcases hc with rfl | hc
  .rw [sv] at e;cases e
  .rw [sv] at hc;cases hc
 rcases hx with hk | hk
 .refine wpAny_storeName_local hk hn (λh' XX hs=>?_) HD
  obtain ⟨oL,_,_,XT,_⟩:=id hn
  refine h _ ⟨I.ok,I.os,I.bare,⟨λb o e n hb hx=>?_,λb o e n hb hx=>?_,I.base.free,λb o e hx=>?_,I.base.jl,I.base.iE,I.base.jm⟩,⟨_,XX,λj y v' e1 e2 e3=>?_⟩,λy c e=>?_,I.free,I.eL,λp hp=>?_,tracked ⟨oL,XT,I.free⟩ hs,by simpa using I.len⟩ ⟨_,hs,.inl rfl⟩
  .exact (hs.2 b (ei (jB (bY e) I.ok.above))).trans (I.base.keep b o e n hb hx)
  .obtain ⟨sl,e1⟩:=I.base.slot b o e n hb hx
   exact ⟨sl,(hs.2 b (ei (jB (bY e) I.ok.above))).trans e1⟩
  .obtain ⟨o',e1⟩:=I.base.there b o e hx
   exact ⟨o',(hs.2 b (ei (jB (bY e) I.ok.above))).trans e1⟩
  .by_cases hj:j=i
   .subst hj
    rw [hi] at e1;cases e1
    rw [iV zR] at e2
    cases e2
    exact ⟨u,r,.inl ⟨hk,by simp⟩⟩
   .rw [gZ (og hj)] at e2
    obtain ⟨u',r',q⟩:=hl j y v' e1 e2 e3
    refine ⟨u',r',?_⟩
    rcases q with ⟨k,e⟩ | ⟨k,c,e,z⟩
    .refine .inl ⟨k,?_⟩
     have:y≠x:=λe=>hj (QM hN e1 (e▸hi))
     simp [this,e]
    .exact .inr ⟨k,c,e,z.sameBut hs (uK y c e)⟩
  .obtain ⟨w',z⟩:=I.cell y c e
   exact ⟨w',z.sameBut hs (uK y c e)⟩
  .obtain ⟨e,n,ne,nf,d⟩:=I.pin p hp
   exact ⟨(hs.2 p.1 ne).trans e,n,ne,nf,d⟩
 .have Hw:X.fn x=true:=by
   rcases hf with z | z
   .exact z
   .rw [z] at hk;cases hk
  obtain ⟨c,hc⟩:=I.ok.has x (.inl hk)
  obtain ⟨w',z⟩:=I.cell x c hc
  refine wpAny_storeName_cell I.ok.kind hk hc z (λh' sD hs=>?_)
  obtain ⟨oc,Nm,Hh⟩:=id z
  refine h { s with heap:=h' } ⟨I.ok,I.os,I.bare,⟨λb o e n hb hx=>?_,λb o e n hb hx=>?_,I.base.free,λb o e hx=>?_,I.base.jl,I.base.iE,I.base.jm⟩,⟨m,hn.sameBut hs (og (uK x c hc)),λj y v' e1 e2 e3=>?_⟩,λy c' e=>?_,I.free,I.eL,λp hp=>?_,tracked ⟨oc,Nm,I.eL x c hc⟩ hs,by simpa using I.len⟩ ⟨c,hs,.inr hc⟩
  .exact (hs.2 b (ei (jB (bY e) (I.ok.AD x c Hw hc)))).trans (I.base.keep b o e n hb hx)
  .obtain ⟨sl,e1⟩:=I.base.slot b o e n hb hx
   exact ⟨sl,(hs.2 b (ei (jB (bY e) (I.ok.AD x c Hw hc)))).trans e1⟩
  .obtain ⟨o',e1⟩:=I.base.there b o e hx
   exact ⟨o',(hs.2 b (ei (jB (bY e) (I.ok.AD x c Hw hc)))).trans e1⟩
  .by_cases hj:j=i
   .subst hj
    rw [hi] at e1;cases e1
    rw [iV zR] at e2
    cases e2
    exact ⟨u,r,.inr ⟨.inl hk,c,hc,sD⟩⟩
   .rw [gZ (og hj)] at e2
    obtain ⟨u',r',q⟩:=hl j y v' e1 e2 e3
    refine ⟨u',r',?_⟩
    rcases q with q | ⟨k,c',e,z'⟩
    .exact .inl q
    .refine .inr ⟨k,c',e,z'.sameBut hs ?_⟩
     rintro rfl
     exact hj (QM hN e1 (I.ok.inj _ _ _ e hc▸hi))
  .by_cases Nw:c'=c
   .subst Nw;exact ⟨_,sD⟩
   .obtain ⟨w2,z2⟩:=I.cell y c' e
    exact ⟨w2,z2.sameBut hs Nw⟩
  .obtain ⟨e,n,ne,nf,d⟩:=I.pin p hp
   refine ⟨(hs.2 p.1 ?_).trans e,n,ne,nf,d⟩
   intro q
   rw [q,Nm] at e
   have q':oc=p.2:=cG e
   exact d w' (by rw [<-q'];exact Hh)
theorem KZ(I:Inv X pins σ H s)(hN:X.N.Nodup)(hi:X.N[i]?=some x)(hx:Loc X.env.scope x)(r:RelV v u)
  (h:∀s',Inv X pins (σ.set i (some v)) H s'->Q () s')(hf:X.fn x=true\/X.env.scope.names.lookup x=some .local:=by first | exact .inl rfl | exact .inr rfl | assumption):wpAny M A (storeName X.env x u) Q E s:=
 Rg I hN hi hx r (λs' I' _=>h s' I') hf
theorem Inv.AB(I:Inv X pins σ H s)(ho:s'.os=s.os)(u:Un (n9 X.stack) ch H H' s.heap s'.heap)(bt:dG X.prog X.w H' s'.heap)(hg:AllBare s'.gens)
  (pV:∀b∈ch,(b∈X.ex\/X.cK.heap.objs.size<=b)/\b≠X.env.locals/\(∀x c,X.env.cells.lookup x=some c->c≠b)/\∀p∈X.pn++pins,p.1≠b):Inv X pins σ H' s':=by
 obtain ⟨h',g',d',t',o'⟩:=s'
 have e:o'=s.os:=ho
 subst e
 exact I.call (g':=g') (t':=t') (d':=d') u bt hg pV
end
abbrev XK:=Value->Option Addr->Hp->Prop
abbrev St:=List (Option V)
abbrev VK:=V->Hp->Prop
abbrev TE:=St->Hp->VK->Prop
abbrev TT:=St->Hp->(Bool->Hp->Prop)->Prop
abbrev TA:=St->Hp->(List V->Hp->Prop)->Prop
structure Ends where
 nx:St->Hp->Prop
 rt:VK
 bk:St->Hp->Prop:=λ_ _=>False
 ct:St->Hp->Prop:=λ_ _=>False
abbrev TS:=Ends->St->Hp->Prop
def EP(X:Cx)(pins:List (Addr×Obj))(σ:St)(Q:VK)(u:Value)(s':Shared):Prop:=∃v H',Inv X pins σ H' s'/\RelV v u/\Q v H'
def TP(X:Cx)(pins:List (Addr×Obj))(σ:St)(Q:Bool->Hp->Prop)(b:Bool)(s':Shared):Prop:=∃H',Inv X pins σ H' s'/\Q b H'
def AP(X:Cx)(pins:List (Addr×Obj))(σ:St)(Q:List V->Hp->Prop)(us:List Value)(s':Shared):Prop:=∃vs H',Inv X pins σ H' s'/\aC vs us/\Q vs H'
def SP(X:Cx)(pins:List (Addr×Obj))(D:Ends)(f:Flow)(s':Shared):Prop:=
 match f with
 | .next=>∃aJ H',Inv X pins aJ H' s'/\D.nx aJ H'
 | .brk=>∃aJ H',Inv X pins aJ H' s'/\D.bk aJ H'
 | .cont=>∃aJ H',Inv X pins aJ H' s'/\D.ct aJ H'
 | .ret u=>∃v aJ H',Inv X pins aJ H' s'/\RelV v u/\D.rt v H'
def PE(X:Cx)(e:Expr)(t:TE):Prop:=
 ∀(pins:List (Addr×Obj)) (s:Shared) (σ:St) (H:Hp) (Q:VK),Inv X pins σ H s->t σ H Q->wpAny (model X.prog X.w) X.A (eval e X.env) (EP X pins σ Q) X.xe s
def PT(X:Cx)(e:Expr)(t:TT):Prop:=
 ∀(pins:List (Addr×Obj)) (s:Shared) (σ:St) (H:Hp) (Q:Bool->Hp->Prop),Inv X pins σ H s->t σ H Q->wpAny (model X.prog X.w) X.A (isTrue e X.env (eval e X.env)) (TP X pins σ Q) X.xe s
def PW(X:Cx)(e:Expr)(t:TT):Prop:=
 ∀(whole:Sem Value) (pins:List (Addr×Obj)) (s:Shared) (σ:St) (H:Hp) (Q:Bool->Hp->Prop),Inv X pins σ H s->t σ H Q->wpAny (model X.prog X.w) X.A (isTrue e X.env whole) (TP X pins σ Q) X.xe s
theorem PW.pt(h:PW X e t):PT X e t:=h _
def PA(X:Cx)(es:List Expr)(t:TA):Prop:=
 ∀(pos:Pos) (pins:List (Addr×Obj)) (s:Shared) (σ:St) (H:Hp) (Q:List V->Hp->Prop),Inv X pins σ H s->t σ H Q->wpAny (model X.prog X.w) X.A (spliced (backTo pos (starEach es X.env))) (AP X pins σ Q) X.xe s
def PS(X:Cx)(st:Stmt)(t:TS):Prop:=
 ∀(pins:List (Addr×Obj)) (s:Shared) (σ:St) (H:Hp) (D:Ends),Inv X pins σ H s->t D σ H->wpAny (model X.prog X.w) X.A (exec st X.env) (SP X pins D) X.xe s
def mZ(X:Cx)(st:List Stmt)(t:TS):Prop:=
 ∀(pins:List (Addr×Obj)) (s:Shared) (σ:St) (H:Hp) (D:Ends),Inv X pins σ H s->t D σ H->wpAny (model X.prog X.w) X.A (execs st X.env) (SP X pins D) X.xe s
theorem bE{α:Type}{t:Sem α}{Q Q':α->Shared->Prop}{M:Model}{A:Around}{E:Value->Shared->Prop}{s:Shared}(h:wpAny M A t Q E s)(hQ:∀a s,Q a s->Q' a s):wpAny M A t Q' E s:=mR h hQ λ_ _ x=>x
end L2
namespace L2
open PySem PySem.Spec PyProof.Rows
section
variable {X:Cx}
theorem bin{a b:Expr}{ta tb:TE}(ha:PE X a ta)(hb:PE X b tb){pins:List (Addr×Obj)}{s:Shared}{σ:St}{H:Hp}{R:V->V->Hp->Prop}(I:Inv X pins σ H s)(h:ta σ H λx H1=>tb σ H1 λy H2=>R x y H2)
  {α:Type}{Q:α->Shared->Prop}{f:Value->Value->Sem α}
  (hf:∀v u s2 x y H2,Inv X pins σ H2 s2->RelV x v->RelV y u->R x y H2->wpAny (model X.prog X.w) X.A (f v u) Q X.xe s2):
  wpAny (model X.prog X.w) X.A (eval a X.env) (λv aO=>wpAny (model X.prog X.w) X.A (eval b X.env) (λu jW=>wpAny (model X.prog X.w) X.A (f v u) Q X.xe jW) X.xe aO) X.xe s:=by
 refine bE (ha pins s σ H _ I h) λv s1 ⟨x,H1,I1,r1,q1⟩=>?_
 refine bE (hb pins s1 σ H1 _ I1 q1) λu s2 ⟨y,H2,I2,r2,q2⟩=>?_
 exact hf v u s2 x y H2 I2 r1 r2 q2
def FU(i:Nat):TE:=λσ H Q=>∃v,σ[i]?=some (some v)/\Q v H
def tC(v:V):TE:=λ_ H Q=>Q v H
theorem vk{i:Nat}{x:Str}{pos:Pos}(hN:X.N[i]?=some x)(hv:jI X.env.scope x)(hd:(x==("__debug__":Str))=false:=by decide)(dC:(x==("__classdict__":Str))=false:=by decide):PE X (.Name x pos) (FU i):=by
 intro pins s σ H Q I h
 obtain ⟨v,e,h⟩:=h
 obtain ⟨m,hn,hl⟩:=I.loc
 obtain ⟨u,r,l⟩:=hl i x v hN e hv
 have fin:EP X pins σ Q u s:=⟨v,H,I,r,h⟩
 rcases l with ⟨hk,hm⟩ | ⟨hk,c,hc,fA⟩
 .exact wpAny_Name (wpAny_loadName_local I.ok.kind hk hn hm fin) hd
 .rcases hk with hk | hk
  .exact wpAny_Name (wpAny_loadName_cell I.ok.kind hk hc fA fin) hd
  .exact wpAny_Name (wpAny_loadName_free I.ok.kind hk hc fA fin dC) hd
theorem b7U{i j pos}:PE X (.Constant (.int i) j pos) (tC (.int i)):=λ_ _ _ H _ I h=>wpAny_Constant_int ⟨.int i,H,I.tok _,⟨_,rfl⟩,h⟩
theorem yM{b j pos}:PE X (.Constant (.bool b) j pos) (tC (.bl b)):=λ_ _ _ H _ I h=>Constant_bool ⟨.bl b,H,I,rfl,h⟩
theorem b7S{j pos}:PE X (.Constant .none j pos) (tC .bz):=λ_ _ _ H _ I h=>Constant_none ⟨.bz,H,I,rfl,h⟩
def Gl(X:Cx)(x:Str):Prop:=X.env.kindOf x=some .globalImplicit
theorem Kt{E:Value->Shared->Prop}{pins:List (Addr×Obj)}{s:Shared}{σ:St}{H:Hp}{x:Str}{u:Value}{pos:Pos}{Q:Value->Shared->Prop}(I:Inv X pins σ H s)(hg:Gl X x)(hm:X.mg x=some u)(h:Q u s)
  (hd:(x==("__debug__":Str))=false:=by decide):wpAny (model X.prog X.w) X.A (eval (.Name x pos) X.env) Q E s:=
 ON I.ok.kind hg (Calls.loadGlobal_global (by rw [I.ok.glob];exact I.mod.glob.keeps I.bk) hm h) hd
theorem s9{E:Value->Shared->Prop}{pins:List (Addr×Obj)}{s:Shared}{σ:St}{H:Hp}{x:Str}{u:Value}{pos:Pos}{Q:Value->Shared->Prop}(I:Inv X pins σ H s)(hg:Gl X x)(hm:X.mg x=none)(hv:bootBuiltins x=some u)(h:Q u s)
  (hn:x ≠ "__name__":=by decide)(hd:(x==("__debug__":Str))=false:=by decide):wpAny (model X.prog X.w) X.A (eval (.Name x pos) X.env) Q E s:=by
 obtain ⟨mb,h1,h2⟩:=I.mod.blt
 exact ON I.ok.kind hg (Calls.loadGlobal_builtin (by rw [I.ok.glob];exact I.mod.glob.keeps I.bk) hm (by rw [I.ok.blt];exact h1.keeps I.bk) ((h2 x hn).trans hv) h) hd
theorem b5U(hg:Gl X x)(hm:X.mg x=some u)(r:RelV v u)(hd:(x==("__debug__":Str))=false:=by decide):PE X (.Name x pos) (tC v):=
 λ_ _ _ H _ I h=>Kt I hg hm ⟨v,H,I,r,h⟩ hd
theorem b5X{x:Str}{v:V}{u:Value}{pos:Pos}(hg:Gl X x)(hm:X.mg x=none)(hv:bootBuiltins x=some u)(r:RelV v u)(hn:x ≠ "__name__":=by decide)(hd:(x==("__debug__":Str))=false:=by decide):PE X (.Name x pos) (tC v):=
 λ_ _ _ H _ I h=>s9 I hg hm hv ⟨v,H,I,r,h⟩ hn hd
variable {a b:Expr}{ta tb:TE}{pos:Pos}
variable {tA Cw:TT}{rest:List Expr}
def F6(t u:TT):TT:=λσ H Q=>t σ H λc H1=>if c=true then u σ H1 Q else Q false H1
def Tg(t u:TT):TT:=λσ H Q=>t σ H λc H1=>if c=true then Q true H1 else u σ H1 Q
def FZ(t:TT):TT:=λσ H Q=>t σ H λc H1=>Q (!c) H1
theorem b5K(ha:PT X a tA):PW X (.BoolOp .And [a] pos) tA:=by
 intro wh pins s σ H Q I h
 refine isTrue_and (bE (ha pins s σ H Q I h) λc s1 e=>?_)
 cases c with
 | true=>exact isTrue_and_nil e
 | false=>exact e
theorem b7I(ha:PT X a tA):PW X (.BoolOp .Or [a] pos) tA:=by
 intro wh pins s σ H Q I h
 refine isTrue_or (bE (ha pins s σ H Q I h) λc s1 e=>?_)
 cases c with
 | false=>exact isTrue_or_nil e
 | true=>exact e
theorem b7J(ha:PT X a tA)(hb:PW X (.BoolOp .And (b::rest) pos) Cw):PW X (.BoolOp .And (a::b::rest) pos) (F6 tA Cw):=by
 intro wh pins s σ H Q I h
 refine isTrue_and (bE (ha pins s σ H _ I h) λc s1 ⟨H1,I1,q1⟩=>?_)
 cases c with
 | true=>exact hb wh pins s1 σ H1 Q I1 q1
 | false=>exact ⟨H1,I1,q1⟩
theorem pw_or(ha:PT X a tA)(hb:PW X (.BoolOp .Or (b::rest) pos) Cw):PW X (.BoolOp .Or (a::b::rest) pos) (Tg tA Cw):=by
 intro wh pins s σ H Q I h
 refine isTrue_or (bE (ha pins s σ H _ I h) λc s1 ⟨H1,I1,q1⟩=>?_)
 cases c with
 | true=>exact ⟨H1,I1,q1⟩
 | false=>exact hb wh pins s1 σ H1 Q I1 q1
theorem b7K(ha:PT X a tA):PT X (.UnaryOp .Not a pos) (FZ tA):=by
 intro pins s σ H Q I h
 exact isTrue_not (ha pins s σ H (λc H1=>Q (!c) H1) I h)
def ym(ta tb:TE):TE:=λσ H Q=>ta σ H λx H1=>∃c,x=.bl c/\if c=true then tb σ H1 Q else Q (.bl false) H1
def yg(ta:TE):TE:=λσ H Q=>ta σ H λx H1=>∃c,x=.bl c/\Q (.bl (!c)) H1
theorem b7Q{op}(h:PE X a t):PE X (.BoolOp op [a] pos) t:=λpins s σ H Q I hw=>BoolOp_one (h pins s σ H Q I hw)
theorem b7X(ha:PE X a ta)(hb:PE X (.BoolOp .And (b::rest) pos) tb):PE X (.BoolOp .And (a::b::rest) pos) (ym ta tb):=by
 intro pins s σ H Q I h
 refine BoolOp_and (bE (ha pins s σ H _ I h) λv s1 ⟨x,H1,I1,r1,q1⟩=>?_)
 obtain ⟨c,rfl,q1⟩:=q1
 cases r1
 refine DY ?_
 cases c with
 | true=>exact hb pins s1 σ H1 Q I1 q1
 | false=>exact ⟨.bl false,H1,I1,rfl,q1⟩
theorem b7R(ha:PE X a ta):PE X (.UnaryOp .Not a pos) (yg ta):=by
 intro pins s σ H Q I h
 refine UnaryOp_ (bE (ha pins s σ H _ I h) λv s1 ⟨x,H1,I1,r1,q1⟩=>?_)
 obtain ⟨c,rfl,q1⟩:=q1
 cases r1
 exact not_of (DY ⟨.bl (!c),H1,I1,rfl,q1⟩)
def Th(t:TT)(ta tb:TE):TE:=λσ H Q=>t σ H λc H1=>if c=true then ta σ H1 Q else tb σ H1 Q
theorem b3F(hc:PT X c tA)(ha:PE X a ta)(hb:PE X b tb):PE X (.IfExp c a b pos) (Th tA ta tb):=by
 intro pins s σ H Q I h
 refine wpAny_IfExp (bE (hc pins s σ H _ I h) λd s1 ⟨H1,I1,q1⟩=>?_)
 cases d with
 | true=>exact ha pins s1 σ H1 Q I1 q1
 | false=>exact hb pins s1 σ H1 Q I1 q1
end
end L2
namespace L2
open PySem PySem.Spec PyProof.Rows
def eN(K:aM)(H:Hp)(a:Addr)(xs:List V):Prop:=
 Rd H a (.lst xs) \/
  ∃(o:Obj) (ar:Array Value) (n:Nat),K.lookup a=some o/\o.cls=.type "list" /\ o.dict=none/\o.data=.seq ar n/\ar.size<=sizeLine/\aC xs ar.toList
def fq(K:aM)(H:Hp)(a:Addr)(xs:List V):Prop:=
 Rd H a (.tup xs) \/
  ∃(o:Obj) (ar:Array Value) (n:Nat),K.lookup a=some o/\o.cls=.type "tuple" /\ o.data=.seq ar n/\ar.size<=sizeLine/\aC xs ar.toList
def J7:Value->Option V
 | .none=>some .bz
 | .bool b=>some (.bl b)
 | .int i _=>some (.int i)
 | .str x _=>some (.str x)
 | .bytes b _=>some (.AY b)
 | .float b _=>some (.HY b)
 | .ref a=>some (.ref a)
 | .type n=>some (.ty n)
 | _=>none
theorem RelV.abs(r:RelV x u):J7 u=some x:=by
 cases x with
 | bz=>cases r;rfl
 | bl _=>cases r;rfl
 | int _=>obtain ⟨t,rfl⟩:=r;rfl
 | str _=>obtain ⟨t,rfl⟩:=r;rfl
 | AY _=>obtain ⟨t,rfl⟩:=r;rfl
 | HY _=>obtain ⟨t,rfl⟩:=r;rfl
 | ref _=>cases r;rfl
 | ty _=>cases r;rfl
theorem RelV.inj(r:RelV x u)(q:RelV y u):x=y:=cG (r.abs.symm.trans q.abs)
theorem aC.inj:∀{xs ys:List V} {us:List Value},aC xs us->aC ys us->xs=ys
 | _,_,_,.nil,.nil=>rfl
 | _,_,_,.cons r t,.cons r' t'=>by rw [r.inj r',aC.inj t t']
section
variable {X:Cx}{pins:List (Addr×Obj)}{σ:St}{H:Hp}{s:Shared}{a:Addr}{xs ys:List V}
theorem eN.of{K:aM}(h:H a=some (.lst xs)):eN K H a xs:=.inl (.inl h)
theorem Inv.list(I:Inv X pins σ H s)(h:eN X.K H a xs):∃ar:List Value,aC xs ar/\PlainL s.heap a ar.toArray/\xs.length<=sizeLine:=by
 rcases h with h | ⟨o,ar,n,hk,hc,hd,hs,hz,r⟩
 .obtain ⟨z,ar,n,r,e⟩:=h.ok I.bt
  exact ⟨ar,r,⟨_,n,e,rfl,rfl,rfl⟩,z⟩
 .refine ⟨ar.toList,r,⟨o,n,I.ud a o hk,hc,hd,by simpa using hs⟩,?_⟩
  have e:=r.length
  simp only [gW] at e
  ext hz e
theorem Inv.tuple(I:Inv X pins σ H s)(h:fq X.K H a xs):∃ar:List Value,aC xs ar/\IsTup s.heap a ar.toArray/\xs.length<=sizeLine:=by
 rcases h with h | ⟨o,ar,n,hk,hc,hs,hz,r⟩
 .obtain ⟨z,ar,r,p⟩:=h.ok I.bt
  exact ⟨ar,r,p,z⟩
 .refine ⟨ar.toList,r,⟨o,I.ud a o hk,hc,n,by simpa using hs⟩,?_⟩
  have e:=r.length
  simp only [gW] at e
  ext hz e
theorem Inv.gJ(I:Inv X pins σ H s)(h:eN X.K H a xs)(h':eN X.K H a ys):xs=ys:=by
 obtain ⟨ar,r,⟨o,n,e,_,_,d⟩,_⟩:=I.list h
 obtain ⟨its',r',⟨o',n',e',_,_,d'⟩,_⟩:=I.list h'
 rw [e] at e';cases e'
 rw [d] at d'
 injection d' with d1 _
 have:ar=its':=by simpa using congrArg Array.toList d1
 subst this
 exact r.inj r'
theorem Inv.fR(I:Inv X pins σ H s)(h:fq X.K H a xs)(h':fq X.K H a ys):xs=ys:=by
 obtain ⟨ar,r,⟨o,e,_,n,d⟩,_⟩:=I.tuple h
 obtain ⟨its',r',⟨o',e',_,n',d'⟩,_⟩:=I.tuple h'
 rw [e] at e';cases e'
 rw [d] at d'
 injection d' with d1 _
 have:ar=its':=by simpa using congrArg Array.toList d1
 subst this
 exact r.inj r'
end
abbrev Cx.iw(X:Cx)(E:Value->Shared->Prop):Cx:={ X with xe:=E }
abbrev Cx.yV(X:Cx):Cx:=X.iw λ_ _=>False
theorem Cx.Ok.iw{X:Cx}(ok:X.Ok)(E:Value->Shared->Prop):(X.iw E).Ok:=
 ⟨ok.mod,ok.kind,ok.glob,ok.blt,ok.above,ok.inj,ok.has,ok.AD,ok.hd,ok.frames,ok.Cy,ok.NP,ok.bs,ok.q9,ok.oR,ok.qO,ok.gj,ok.uI⟩
theorem Cx.Ok.dM{X:Cx}(ok:(X.iw E).Ok):X.Ok:=
 ⟨ok.mod,ok.kind,ok.glob,ok.blt,ok.above,ok.inj,ok.has,ok.AD,ok.hd,ok.frames,ok.Cy,ok.NP,ok.bs,ok.q9,ok.oR,ok.qO,ok.gj,ok.uI⟩
section
variable {X:Cx}{pins:List (Addr×Obj)}{σ:St}{H:Hp}{s:Shared}{E:Value->Shared->Prop}
theorem Inv.iw(I:Inv X pins σ H s)(E:Value->Shared->Prop):Inv (X.iw E) pins σ H s:=⟨I.ok.iw E,I.os,I.bare,I.base,I.loc,I.cell,I.free,I.eL,I.pin,I.bt,I.len⟩
theorem Inv.dM(I:Inv (X.iw E) pins σ H s):Inv X pins σ H s:=⟨I.ok.dM,I.os,I.bare,I.base,I.loc,I.cell,I.free,I.eL,I.pin,I.bt,I.len⟩
theorem SP.dM(h:SP (X.iw E) pins D f s'):SP X pins D f s':=by
 cases f with
 | next=>obtain ⟨aJ,H',I,q⟩:=h;exact ⟨aJ,H',I.dM,q⟩
 | brk=>obtain ⟨aJ,H',I,q⟩:=h;exact ⟨aJ,H',I.dM,q⟩
 | cont=>obtain ⟨aJ,H',I,q⟩:=h;exact ⟨aJ,H',I.dM,q⟩
 | ret u=>obtain ⟨v,aJ,H',I,r,q⟩:=h;exact ⟨v,aJ,H',I.dM,r,q⟩
theorem mZ.yV{st:List Stmt}{t:TS}(h:mZ X.yV st t):mZ X st t:=λpins s σ H D I hw =>
 mR (h pins s σ H D (I.iw _) hw) (λ_ _ q=>q.dM) λ_ _ z=>jR z
end
section
variable {X:Cx}{st:Stmt}{rest:List Stmt}{t u:TS}{e:Expr}{te:TE}{pos:Pos}
def yh:TS:=λD σ H=>D.nx σ H
def FX(t u:TS):TS:=λD σ H=>t { D with nx:=u D } σ H
theorem b5O:mZ X [] yh:=λ_ _ σ H _ I h=>Ds ⟨σ,H,I,h⟩
theorem b3x(h1:PS X st t)(h2:mZ X rest u):mZ X (st::rest) (FX t u):=by
 intro pins s σ H D I h
 refine wpAny_execs_cons (bE (h1 pins s σ H { D with nx:=u D } I h) λf s1 q=>?_)
 cases f with
 | next =>
  obtain ⟨aJ,H',I',q⟩:=q
  exact h2 pins s1 aJ H' D I' q
 | ret v=>exact q
 | brk=>exact q
 | cont=>exact q
theorem b5N(h1:PS X st t):mZ X [st] t:=by
 intro pins s σ H D I h
 refine wpAny_execs_cons (bE (h1 pins s σ H D I h) λf s1 q=>?_)
 cases f with
 | next=>exact Ds q
 | ret v=>exact q
 | brk=>exact q
 | cont=>exact q
def b7x:TS:=λD σ H=>D.bk σ H
theorem b3z:PS X (.Break pos) b7x:=λ_ _ σ H _ I h=>wpAny_Break ⟨σ,H,I,h⟩
theorem Inv.quiet{pins:List (Addr×Obj)}{σ:St}{H:Hp}{s:Shared}(I:Inv X pins σ H s):interactive X.env=false:=by simp [interactive,I.ok.kind]
def yi(te:TE):TS:=λD σ H=>te σ H λ_ H1=>D.nx σ H1
theorem Qw(he:PE X e te)(hs:swapsWith e none pos.line X.env=pure false:=by rfl):PS X (.Expr e pos) (yi te):=by
 intro pins s σ H D I h
 exact wpAny_Expr_any (bE (he pins s σ H _ I h) λv s1 ⟨x,H1,I1,r1,q1⟩=>⟨σ,H1,I1,q1⟩) I.quiet hs
def FY(te:TE):TS:=λD σ H=>te σ H D.rt
theorem PF(he:PE X e te):PS X (.Return (some e) pos) (FY te):=by
 intro pins s σ H D I h
 exact wpAny_Return_some (bE (he pins s σ H _ I h) λv s1 ⟨x,H1,I1,r1,q1⟩=>⟨x,σ,H1,I1,r1,q1⟩)
def F2(c:TT)(t u:TS):TS:=λD σ H=>c σ H λb H1=>if b=true then t D σ H1 else u D σ H1
theorem yF(hc:PT X c tc)(ha:mZ X a t)(hb:mZ X b u):PS X (.If c a b pos) (F2 tc t u):=by
 intro pins s σ H D I h
 refine wpAny_If (bE (hc pins s σ H _ I h) λd s1 ⟨H1,I1,q1⟩=>?_)
 cases d with
 | true=>exact ha pins s1 σ H1 D I1 q1
 | false=>exact hb pins s1 σ H1 D I1 q1
end
abbrev TG:=V->St->Hp->(St->Hp->Prop)->Prop
abbrev tK:=List V->St->Hp->(St->Hp->Prop)->Prop
def PG(X:Cx)(target:Expr)(t:TG):Prop:=
 ∀(pins:List (Addr×Obj)) (s:Shared) (σ:St) (H:Hp) (v:V) (u:Value) (Q:St->Hp->Prop),Inv X pins σ H s->RelV v u->t v σ H Q ->
  wpAny (model X.prog X.w) X.A (assign target X.env u) (λ_ s'=>∃aJ H',Inv X pins aJ H' s'/\Q aJ H') X.xe s
def Ci(X:Cx)(ts:List Expr)(t:tK):Prop:=
 ∀(pins:List (Addr×Obj)) (s:Shared) (σ:St) (H:Hp) (vs:List V) (us:List Value) (Q:St->Hp->Prop),Inv X pins σ H s->aC vs us->t vs σ H Q ->
  wpAny (model X.prog X.w) X.A (assignInOrder ((assignEach ts X.env).map (·.2)) us) (λ_ s'=>∃aJ H',Inv X pins aJ H' s'/\Q aJ H') X.xe s
abbrev vQ:=V->V->V->Hp->(Hp->Prop)->Prop
def Cg(X:Cx)(t:vQ):Prop:=
 ∀(pins:List (Addr×Obj)) (s:Shared) (σ:St) (H:Hp) (o i v:V) (ov iv u:Value) (Q:Hp->Prop),Inv X pins σ H s->RelV o ov->RelV i iv->RelV v u->t o i v H Q ->
  wpAny (model X.prog X.w) X.A (setItem ov iv u) (λ_ s'=>∃H',Inv X pins σ H' s'/\Q H') X.xe s
abbrev MF:=V->V->Hp->VK->Prop
def MG(X:Cx)(op:Operator)(t:MF):Prop:=
 ∀(pins:List (Addr×Obj)) (s:Shared) (σ:St) (H:Hp) (x y:V) (v u:Value) (Q:VK),Inv X pins σ H s->RelV x v->RelV y u->t x y H Q ->
  wpAny (model X.prog X.w) X.A (inplaceOp op v u) (EP X pins σ Q) X.xe s
section
variable {X:Cx}{pos:Pos}
def OZ(i:Nat):TG:=λv σ H Q=>Q (σ.set i (some v)) H
theorem b5T(hN:X.N.Nodup)(hi:X.N[i]?=some x)(hx:Loc X.env.scope x)(hf:X.fn x=true\/X.env.scope.names.lookup x=some .local:=by first | exact .inl rfl | exact .inr rfl | assumption):PG X (.Name x pos) (OZ i):=by
 intro pins s σ H v u Q I r h
 exact wpAny_assign_Name (KZ I hN hi hx r (λs' I'=>⟨_,H,I',h⟩) hf)
def HR:tK:=λvs σ H Q=>vs=[]/\Q σ H
def An(t:TG)(u:tK):tK:=λvs σ H Q=>∃v r,vs=v::r/\t v σ H λaJ H'=>u r aJ H' Q
theorem b5S:Ci X [] HR:=by
 intro pins s σ H vs us Q I r h
 obtain ⟨e,h⟩:=h
 subst e
 cases r
 exact assignInOrder_nil ⟨σ,H,I,h⟩
theorem b3C{e:Expr}{es:List Expr}{t:TG}{u:tK}(h1:PG X e t)(h2:Ci X es u)
  (hs:(assignEach (e::es) X.env).map (·.2)=assign e X.env::(assignEach es X.env).map (·.2):=by rfl):Ci X (e::es) (An t u):=by
 intro pins s σ H vs us Q I r h
 obtain ⟨v,vr,e1,h⟩:=h
 subst e1
 cases r with
 | cons r rr =>
  rw [hs]
  refine assignInOrder_cons (bE (h1 pins s σ H _ _ _ I r h) λ_ s1 ⟨h8,H1,I1,q1⟩=>?_)
  exact h2 pins s1 h8 H1 _ _ Q I1 rr q1
def HP(K:aM)(n:Nat)(t:tK):TG:=λv σ H Q=>∃a xs,v=.ref a/\fq K H a xs/\xs.length=n/\t xs σ H Q
theorem b7N{es:List Expr}{k:Nat}{t:tK}{n:Nat}(hc:X.calm=true)(h:Ci X es t)
  (hn:(assignEach es X.env).length=n:=by rfl)(ui:(assignEach es X.env).findIdx? (·.1)=none:=by rfl):PG X (.Tuple es k pos) (HP X.K n t):=by
 intro pins s σ H v u Q I r hw
 obtain ⟨a,xs,e1,hq,hl,hw⟩:=hw
 subst e1
 cases r
 obtain ⟨ar,rv,ht,hz⟩:=I.tuple hq
 refine assign_Tuple_tuple (I.ok.hd hc) ht (by simp [hn,<-hl,rv.length]) ui λh' hx=>?_
 have I1:Inv X pins σ H { s with heap:=h' }:=I.kept (t':=s.toks) λb o e=>hx b o (ei (bY e)) e
 exact h pins _ σ H xs _ Q I1 (by simpa using rv) hw
def bL(to ti:TE)(t:vQ):TG:=λv σ H Q=>to σ H λo H1=>ti σ H1 λi H2=>t o i v H2 λH3=>Q σ H3
theorem b7O{o i:Expr}{to ti:TE}{t:vQ}(ho:PE X o to)(hi:PE X i ti)(hs:Cg X t)
  (ha:∀v,assign (.Subscript o i pos) X.env v=(do
   let ov <-holding [v] (eval o X.env)
   let iv <-holding [v,ov] (eval i X.env)
   standAt pos
   holding [v,ov,iv] (setItem ov iv v)
   release [v,ov,iv] []):=by intro _;rfl):PG X (.Subscript o i pos) (bL to ti t):=by
 intro pins s σ H v u Q I r h
 rw [ha]
 refine aB (sL (bE (ho pins s σ H _ I h) λov s1 ⟨x,H1,I1,r1,q1⟩=>?_))
 refine aB (sL (bE (hi pins s1 σ H1 _ I1 q1) λiv s2 ⟨y,H2,I2,r2,q2⟩=>?_))
 refine aB (IE (aB (sL (bE (hs pins s2 σ H2 x y v ov iv u _ I2 r1 r2 r q2) λ_ s3 ⟨H3,I3,q3⟩=>?_))))
 exact wpAny_release ⟨σ,H3,I3,q3⟩
def yk(te:TE)(g:TG):TS:=λD σ H=>te σ H λx H1=>g x σ H1 D.nx
theorem b7L{tg e:Expr}{te:TE}{g:TG}(he:PE X e te)(hg:PG X tg g)(hs:swapsWithSole [tg] e pos.line X.env=pure false:=by rfl)(hw:swappedStores [tg] e X.env=pure none:=by rfl)
  (h1:(assignEach [tg] X.env).map (·.2)=[assign tg X.env]:=by rfl):PS X (.Assign [tg] e pos) (yk te g):=by
 intro pins s σ H D I h
 refine wpAny_Assign_stores (bE (he pins s σ H _ I h) λv s1 ⟨x,H1,I1,r1,q1⟩=>?_) hs hw
 rw [h1]
 exact bE (hg pins s1 σ H1 x v _ I1 r1 q1) λ_ s2 q=>q
theorem JZ(hN:X.N.Nodup)(hi:X.N[i]?=some x)(hx:Loc X.env.scope x)(he:PE X e te)(hs:swapsWith e (some (.Name x pos')) pos.line X.env=pure false:=by rfl)(hf:X.fn x=true\/X.env.scope.names.lookup x=some .local:=by first | exact .inl rfl | exact .inr rfl | assumption):
  PS X (.Assign [.Name x pos'] e pos) (yk te (OZ i)):=by
 intro pins s σ H D I h
 refine wpAny_Assign_Name (bE (he pins s σ H _ I h) λv s1 ⟨y,H1,I1,r1,q1⟩=>?_) hs
 exact KZ I1 hN hi hx r1 (λs2 I2=>⟨_,H1,I2,q1⟩) hf
def F5(i:Nat)(te:TE)(ti:MF):TS:=λD σ H=>∃x,σ[i]?=some (some x)/\te σ H λy H1=>ti x y H1 λz H2=>D.nx (σ.set i (some z)) H2
theorem PD(hN:X.N.Nodup)(hi:X.N[i]?=some x)(hx:Loc X.env.scope x)(he:PE X e te)(ho:MG X op ti)(hf:X.fn x=true\/X.env.scope.names.lookup x=some .local:=by first | exact .inl rfl | exact .inr rfl | assumption):
  PS X (.AugAssign (.Name x pos') op e pos) (F5 i te ti):=by
 intro pins s σ H D I h
 obtain ⟨v,e1,h⟩:=h
 obtain ⟨m,hn,hl⟩:=I.loc
 have qu:jI X.env.scope x:=by rcases hx with k | k;exact .inl k;exact .inr (.inl k)
 obtain ⟨u,r,l⟩:=hl i x v hi e1 qu
 refine wpAny_AugAssign_Name ?_
 have go:wpAny (model X.prog X.w) X.A (eval e X.env) (λw jW=>wpAny (model X.prog X.w) X.A (inplaceOp op u w) (λr oI=>wpAny (model X.prog X.w) X.A (storeName X.env x r) (λ_=>SP X pins D .next) X.xe oI) X.xe jW) X.xe s:=by
  refine bE (he pins s σ H _ I h) λw s1 ⟨y,H1,I1,r1,q1⟩=>?_
  refine bE (ho pins s1 σ H1 v y u w _ I1 r r1 q1) λz s2 ⟨zv,H2,I2,r2,q2⟩=>?_
  exact KZ I2 hN hi hx r2 (λs3 I3=>⟨_,H2,I3,q2⟩) hf
 rcases l with ⟨hk,hm⟩ | ⟨hk,c,hc,fA⟩
 .exact wpAny_loadName_local I.ok.kind hk hn hm go
 .rcases hk with hk | hk
  .exact wpAny_loadName_cell I.ok.kind hk hc fA go
  .rcases hx with k | k
   .have:X.env.scope.names.lookup x=some .free:=hk
    rw [k] at this;cases this
   .have:X.env.scope.names.lookup x=some .free:=hk
    rw [k] at this;cases this
def XA(f:Int->Int->Int):MF:=λx y H Q=>∃i j,x=.int i/\y=.int j/\Q (.int (f i j)) H
theorem b8m:MG X .Add (XA λi j=>i+j):=by
 intro pins s σ H x y v u Q I r1 r2 h
 obtain ⟨i,j,e1,e2,q⟩:=h
 subst e1;subst e2
 obtain ⟨t,rfl⟩:=r1
 obtain ⟨t',rfl⟩:=r2
 exact iadd_int ⟨.int _,H,I.tok _,⟨_,rfl⟩,q⟩
end
section
variable {X:Cx}{pos:Pos}
def b7u(c:TT)(tb:TS):TS:=λD σ H=>∃W:Nat->St->Hp->Prop,(∃m,W m σ H)/\∀m σ H,W m σ H ->
 c σ H λb H1=>if b=true then ∃N:St->Hp->Prop,(∀aJ H',N aJ H'->∃m',m'<m/\W m' aJ H')/\tb { D with nx:=N,ct:=N,bk:=D.nx } σ H1 else D.nx σ H1
theorem b3y(hp:PassesOwn (model X.prog X.w) X.A X.env X.xe)(hc:PT X c tc)(hb:mZ X body tb):PS X (.While c body [] pos) (b7u tc tb):=by
 intro pins s σ H D I h
 obtain ⟨W,⟨m0,w0⟩,turn⟩:=h
 refine wpAny_While (codeAny_whileLoop (λn s'=>∃aJ H',Inv X pins aJ H' s'/\W n aJ H') ?_ m0 ⟨σ,H,I,w0⟩)
 rintro n s1 ⟨h8,H1,I1,w1⟩
 refine uR hp (bE (hc pins s1 h8 H1 _ I1 (turn n h8 H1 w1)) λb s2 ⟨H2,I2,q2⟩=>?_)
 cases b with
 | true =>
  obtain ⟨N,hN,q2⟩:=q2
  rw [if_pos rfl]
  refine uR hp (bE (hb pins s2 h8 H2 _ I2 q2) λf s3 q3=>?_)
  cases f with
  | next =>
   obtain ⟨jd,H3,I3,n3⟩:=q3
   obtain ⟨m',hm,w3⟩:=hN jd H3 n3
   exact ⟨m',hm,jd,H3,I3,w3⟩
  | cont =>
   obtain ⟨jd,H3,I3,n3⟩:=q3
   obtain ⟨m',hm,w3⟩:=hN jd H3 n3
   exact ⟨m',hm,jd,H3,I3,w3⟩
  | brk=>exact q3
  | ret v=>exact q3
 | false =>
  rw [if_neg nJ]
  exact Ds ⟨h8,H2,I2,q2⟩
end
structure It where
 go:Nat->Hp->Prop
 tP:Nat->Hp->V->Hp->Prop
 stop:Nat->Hp->Prop
def cV(X:Cx)(pins:List (Addr×Obj))(H:Hp)(b:Addr):Prop:=
 H b=none/\b≠X.env.locals/\b∉X.fs/\(b∈X.ex\/X.cK.heap.objs.size<=b)/\(∀x c,X.env.cells.lookup x=some c->c≠b)/\∀p∈X.pn++pins,p.1≠b
theorem Inv.jy{X:Cx}{pins:List (Addr×Obj)}{σ:St}{H H':Hp}{s:Shared}{b:Addr}(I:Inv X pins σ H s)(hb:s.heap.objs.size<=b)(hn:H' b=none):cV X pins H' b:=by
 refine ⟨hn,uS (jB I.lt hb),I.Gz hb,.inr (fm I.sz hb),λx c e z=>?_,λp hp z=>?_⟩
 .obtain ⟨v,q⟩:=I.cell x c e
  exact absurd (jB q.lt (by rw [z];exact hb)) (pZ _)
 .exact absurd (jB (bY (I.pin p hp).1) (by rw [z];exact hb)) (pZ _)
structure Turn(P:Program)(w:World)(K:aM)(tg:Expr)(J:It)(fp:List Addr)(it:Addr)(tn:Nat->Heap->Prop):Prop where
 mem:it∈fp
 obj:∀i h,tn i h->∀b∈fp,∃o,h.get? b=some o/\∀v,o.data≠.cell v
 keep:∀i h h',tn i h->(∀b∈fp,∀o,h.get? b=some o->h'.get? b=some o)->tn i h'
 item:∀(X:Cx),X.prog=P->X.w=w->X.K=K->X.calm=true->∀(i:Nat) (pins:List (Addr×Obj)) (s:Shared) (σ:St) (H:Hp) (E:Value->Shared->Prop),Inv X pins σ H s->(∀b∈fp,cV X pins H b)->tn i s.heap->J.go i H ->
  wpAny (model P w) X.A (pyNext (.ref it)) (λr s1=>∃u,r=some u /\
   wpAny (model P w) X.A (letOwnedTupleGo tg (.ref it) u) (λ_ s2=>∃x H',Inv X pins σ H' s2/\RelV x u/\J.tP i H x H'/\tn (i+1) s2.heap/\∀b∈fp,H' b=none) E s1) E s
 done:∀(X:Cx),X.prog=P->X.w=w->X.K=K->X.calm=true->∀(i:Nat) (pins:List (Addr×Obj)) (s:Shared) (σ:St) (H:Hp) (E:Value->Shared->Prop),Inv X pins σ H s->(∀b∈fp,cV X pins H b)->tn i s.heap->J.stop i H ->
  wpAny (model P w) X.A (pyNext (.ref it)) (λr s1=>r=none/\Inv X pins σ H s1) E s
 self:∀(A:Around) (i:Nat) (s:Shared) (Q:Value->Shared->Prop) (E:Value->Shared->Prop),tn i s.heap->Q (.ref it) s->wpAny (model P w) A (pyIter (.ref it)) Q E s
abbrev TI:=St->Hp->(It->Hp->Prop)->Prop
def MH(X:Cx)(pins:List (Addr×Obj))(σ:St)(tg:Expr)(R:It->Hp->Prop)(GQ:Value)(s2:Shared):Prop:=
 ∃(it:Addr) (fp:List Addr) (tn:Nat->Heap->Prop) (J:It) (H':Hp),GQ=.ref it/\Inv X pins σ H' s2/\Turn X.prog X.w X.K tg J fp it tn/\tn 0 s2.heap/\(∀b∈fp,cV X pins H' b)/\R J H'
def PI(X:Cx)(tg iter:Expr)(wi:TI):Prop:=
 ∀(pins:List (Addr×Obj)) (s:Shared) (σ:St) (H:Hp) (R:It->Hp->Prop),Inv X pins σ H s->wi σ H R ->
  wpAny (model X.prog X.w) X.A (eval iter X.env) (λv s1=>wpAny (model X.prog X.w) X.A (pyIter v) (MH X pins σ tg R) X.xe s1) X.xe s
theorem Ej(ho:s.heap.get? it=some o)(hc:o.cls=.type n)(hd:o.data=.fields vs)
  (hn:["enumerate","zip","dict_itemiterator","dict_reverseitemiterator","odict_iterator","itertools.zip_longest","itertools.pairwise"].contains n=false)(hQ:Q () s):wpAny M A (letOwnedTupleGo tg (.ref it) u) Q E s:=by
 unfold letOwnedTupleGo
 cases tg<;>first
  | exact bI hQ
  | (cases u<;>first
    | exact bI hQ
    | (refine aB (wpAny_load ho ?_)
       rw [hc,hd]
       show wpAny M A (if (["enumerate","zip","dict_itemiterator","dict_reverseitemiterator","odict_iterator","itertools.zip_longest","itertools.pairwise"].contains n&&vs[0]?==some (rawInt _))=true then _ else _) Q E s
       rw [if_neg (by intro h;rw [hn,Bool.false_and] at h;cases h)]
       exact bI hQ))
def Co(K:aM)(a:Addr):It:=
 ⟨λi H=>∃xs x,eN K H a xs/\xs[i]?=some x,λi H x H'=>H'=H/\∀xs,eN K H a xs->xs[i]?=some x,λi H=>∃xs,eN K H a xs/\xs.length<=i⟩
def Cm(K:aM)(a:Addr):It:=
 ⟨λi H=>∃xs x,fq K H a xs/\xs[i]?=some x,λi H x H'=>H'=H/\∀xs,fq K H a xs->xs[i]?=some x,λi H=>∃xs,fq K H a xs/\xs.length<=i⟩
def nW(lo:Int)(n:Nat):It:=⟨λi _=>i<n,λi H x H'=>H'=H/\x=.int (lo+i),λi _=>n<=i⟩
theorem b1i{P:Program}{w:World}{K:aM}{tg:Expr}(a it:Addr):Turn P w K tg (Co K a) [it] it (λi h=>h.IsListIter it a i) where
 mem:=by simp
 obj:=λi h st b hb=>by
  have e:b=it:=by simpa using hb
  subst e
  obtain ⟨o,e,c,d⟩:=st
  exact ⟨o,e,λv z=>by rw [d] at z;cases z⟩
 keep:=λi h h' st k=>st.at λo e=>k it (by simp) o e
 item:=by
  intro X hP hw hK hc i pins s σ H E I hf st hg
  subst hP hw hK
  obtain ⟨xs,x,hq,hx⟩:=hg
  obtain ⟨ar,rv,p,hz⟩:=I.list hq
  obtain ⟨u,hu,ru⟩:=rv.get hx
  obtain ⟨f0,f1,f2,f3,f4,f5⟩:=hf it (by simp)
  refine wpAny_pyNext_list_item st p.isList (x:=u) (by simpa using hu) λh' aj sb=>?_
  have I1:Inv X pins σ H { s with heap:=h' }:=I.turned (t':=s.toks) (λb o hb e=>(sb.2 b hb).trans e) f0 f1 f3 f4 f5
  obtain ⟨o,e,c,d⟩:=id aj
  exact ⟨u,rfl,Ej (s:={ s with heap:=h' }) e c d (by decide) ⟨x,H,I1,ru,⟨rfl,λys hy=>by rw [I.gJ hy hq];exact hx⟩,aj,λb hb=>(hf b hb).1⟩⟩
 done:=by
  intro X hP hw hK hc i pins s σ H E I hf st hg
  subst hP hw hK
  obtain ⟨xs,hq,hx⟩:=hg
  obtain ⟨ar,rv,p,hz⟩:=I.list hq
  obtain ⟨f0,f1,f2,f3,f4,f5⟩:=hf it (by simp)
  have hl:=rv.length
  exact wpAny_pyNext_list_end (I.ok.hd hc) st p.isList (by simp;ext hx hl) λh' eb=>⟨rfl,I.turned (t':=s.toks) (λb o hb e=>eb b o hb e) f0 f1 f3 f4 f5⟩
 self:=λ_ _ _ _ _ st h=>wpAny_pyIter_listiter st h
theorem b0G{P:Program}{w:World}{K:aM}{tg:Expr}(a it:Addr):Turn P w K tg (Cm K a) [it] it (λi h=>h.IsTupleIter it a i) where
 mem:=by simp
 obj:=λi h st b hb=>by
  have e:b=it:=by simpa using hb
  subst e
  obtain ⟨o,e,c,d⟩:=st
  exact ⟨o,e,λv z=>by rw [d] at z;cases z⟩
 keep:=λi h h' st k=>st.at λo e=>k it (by simp) o e
 item:=by
  intro X hP hw hK hc i pins s σ H E I hf st hg
  subst hP hw hK
  obtain ⟨xs,x,hq,hx⟩:=hg
  obtain ⟨ar,rv,p,hz⟩:=I.tuple hq
  obtain ⟨u,hu,ru⟩:=rv.get hx
  obtain ⟨f0,f1,f2,f3,f4,f5⟩:=hf it (by simp)
  refine wpAny_pyNext_tuple_item st (show s.heap.IsTuple a ar.toArray from p) (x:=u) (by simpa using hu) λh' aj sb=>?_
  have I1:Inv X pins σ H { s with heap:=h' }:=I.turned (t':=s.toks) (λb o hb e=>(sb.2 b hb).trans e) f0 f1 f3 f4 f5
  obtain ⟨o,e,c,d⟩:=id aj
  exact ⟨u,rfl,Ej (s:={ s with heap:=h' }) e c d (by decide) ⟨x,H,I1,ru,⟨rfl,λys hy=>by rw [I.fR hy hq];exact hx⟩,aj,λb hb=>(hf b hb).1⟩⟩
 done:=by
  intro X hP hw hK hc i pins s σ H E I hf st hg
  subst hP hw hK
  obtain ⟨xs,hq,hx⟩:=hg
  obtain ⟨ar,rv,p,hz⟩:=I.tuple hq
  obtain ⟨f0,f1,f2,f3,f4,f5⟩:=hf it (by simp)
  have hl:=rv.length
  exact wpAny_pyNext_tuple_end (I.ok.hd hc) st (show s.heap.IsTuple a ar.toArray from p) (by simp;ext hx hl) λh' eb=>⟨rfl,I.turned (t':=s.toks) (λb o hb e=>eb b o hb e) f0 f1 f3 f4 f5⟩
 self:=λ_ _ _ _ _ st h=>wpAny_pyIter_tupleiter st h
theorem RO{P:Program}{w:World}{K:aM}{tg:Expr}(it:Addr)(lo:Int)(n:Nat):Turn P w K tg (nW lo n) [it] it (λi h=>IsRangeIter h it (lo+(i:Nat)*1) ((n:Int)-(i:Nat)) 1) where
 mem:=by simp
 obj:=λi h st b hb=>by
  have e:b=it:=by simpa using hb
  subst e
  exact ⟨_,st,λv z=>by
   have z':Dq _=wy v:=z
   cases z'⟩
 keep:=λi h h' st k=>k it (by simp) _ st
 item:=by
  intro X hP hw hK hc i pins s σ H E I hf st hg
  subst hP hw hK
  obtain ⟨f0,f1,f2,f3,f4,f5⟩:=hf it (by simp)
  have W:=Walks.range (prog:=X.prog) (w:=X.w) (I.ok.hd hc) it lo 1 n
  refine W.item i s _ _ hg st λv h' tk hv aj kk=>?_
  obtain ⟨t,rfl⟩:=hv
  have I1:Inv X pins σ H { s with heap:=h',toks:=tk }:=I.turned (λb o hb e=>kk b o (by simpa using hb) e) f0 f1 f3 f4 f5
  refine ⟨_,rfl,Ej (s:={ s with heap:=h',toks:=tk }) (n:="range_iterator") aj rfl rfl (by decide) ⟨.int (lo+i),H,I1,⟨t,?_⟩,⟨rfl,rfl⟩,aj,λb hb=>(hf b hb).1⟩⟩
  rw [wH]
 done:=by
  intro X hP hw hK hc i pins s σ H E I hf st hg
  subst hP hw hK
  obtain ⟨f0,f1,f2,f3,f4,f5⟩:=hf it (by simp)
  exact wpAny_pyNext_range_end (I.ok.hd hc) st (by have:n<=i:=hg;ext this) λh' eb=>⟨rfl,I.turned (t':=s.toks) (λb o hb e=>eb b o hb e) f0 f1 f3 f4 f5⟩
 self:=λ_ _ _ _ _ st h=>wpAny_pyIter_rangeiter st h
end L2
namespace L2
open PySem PySem.Spec PyProof.Rows
section
variable {X:Cx}{tg:Expr}
theorem b3u{pins:List (Addr×Obj)}{σ:St}{H:Hp}{s:Shared}{R:It->Hp->Prop}{E:Value->Shared->Prop}{lo hi:Int}{t u v:Tok}{tk:Nat}(I:Inv X pins σ H s)(h1:-(2^62)<=lo)(h2:lo<2^62)(h3:-(2^62)<=hi)(h4:hi<2^62)
  (q:R (nW lo (hi-lo).toNat) H):wpAny (model X.prog X.w) X.A (pyIter (.ref s.heap.objs.size)) (MH X pins σ tg R) E { s with heap:=s.heap.push { cls:=.type "range",data:=.fields #[.int lo t,.int hi u,.int 1 v] },toks:=tk }:=by
 refine wpAny_pyIter_range (Iq ..) (small_one h1 h2 h3 h4) ?_
 have I1:Inv X pins σ H { s with heap:=s.heap.push { cls:=.type "range",data:=.fields #[.int lo t,.int hi u,.int 1 v] },toks:=tk }:=I.kept λb o e=>bR _ e
 refine ⟨(s.heap.push { cls:=.type "range",data:=.fields #[.int lo t,.int hi u,.int 1 v] }).objs.size,[(s.heap.push { cls:=.type "range",data:=.fields #[.int lo t,.int hi u,.int 1 v] }).objs.size],_,_,H,rfl,
  I1.kept (t':=tk) λb o e=>bR _ e,RO _ lo (hi-lo).toNat,?_,λb hb=>?_,q⟩
 .have e1:lo+((0:Nat):Int)*1=lo:=by simp
  have e2:(((hi-lo).toNat:Nat):Int)-((0:Nat):Int)=Om lo hi 1:=by rw [rangeSize_one];split<;>lia
  show IsRangeIter _ _ (lo+((0:Nat):Int)*1) ((((hi-lo).toNat:Nat):Int)-((0:Nat):Int)) 1
  rw [e1,e2]
  exact fN _ rfl
 .have e:b=(s.heap.push { cls:=.type "range",data:=.fields #[.int lo t,.int hi u,.int 1 v] }).objs.size:=by simpa using hb
  subst e
  exact I1.jy (bp _) (I1.bt.fresh (bp _))
def zr(ta:TA):TI:=λσ H R=>ta σ H λvs H1=>∃j:Int,vs=[.int j] /\ -(2^62)<=j/\j<2^62/\R (nW 0 j.toNat) H1
theorem b1V(hg:Gl X "range")(hm:X.mg "range" = none)(ha:PA X [a] ta)(hs:starEach [a] X.env=[(false,eval a X.env)]:=by rfl):PI X tg (.Call (.Name "range" p) [a] [] pos) (zr ta):=by
 intro pins s σ H R I h
 refine Call_ (s9 I hg hm boot_range (AX (bE (ha pos pins s σ H _ I h) λus s1 ⟨vs,H1,I1,r1,q1⟩=>?_) hs rfl))
 obtain ⟨j,e,q1,q2,q⟩:=q1
 subst e
 cases r1 with
 | cons r rr =>
  cases rr
  obtain ⟨t,rfl⟩:=r
  exact call_range_1 (b3u I1 (by decide) (by decide) q1 q2 (by simpa using q))
def F3(wi:TI)(g:TG)(tb:TS):TS:=λD σ H=>wi σ H λJ H1=>∃W:Nat->Nat->St->Hp->Prop,(∃m,W 0 m σ H1)/\∀i m σ H,W i m σ H ->
 (J.stop i H/\D.nx σ H)\/(J.go i H/\∃N:St->Hp->Prop,(∀aJ H',N aJ H'->∃m',m'<m/\W (i+1) m' aJ H')/\∀x H',J.tP i H x H'->g x σ H' λcJ H2=>tb { D with nx:=N,ct:=N,bk:=D.nx } cJ H2)
def rp(fp:List Addr)(h:Heap):List (Addr×Obj):=fp.filterMap λb=>(h.get? b).map λo=>(b,o)
theorem BA(hb:b∈fp)(e:h.get? b=some o):(b,o)∈rp fp h:=Oq.mpr ⟨b,hb,by rw [e];rfl⟩
theorem Lb(hp:p∈rp fp h):p.1∈fp/\h.get? p.1=some p.2:=by
 obtain ⟨b,hb,e⟩:=Oq.mp hp
 cases q:h.get? b with
 | none=>rw [q] at e;cases e
 | some o =>
  rw [q] at e
  have e':(b,o)=p:=cG e
  subst e'
  exact ⟨hb,q⟩
theorem Inv.pinned{pins:List (Addr×Obj)}{σ:St}{H:Hp}{s:Shared}{fp:List Addr}(I:Inv X pins σ H s)(hf:∀b∈fp,cV X pins H b)(ho:∀b∈fp,∃o,s.heap.get? b=some o/\∀v,o.data≠.cell v):Inv X (pins++rp fp s.heap) σ H s:=
 I.fy λp hp=>(bU.mp hp).elim (λz=>I.pin p (fF _ z)) λz=>by
  obtain ⟨hb,e⟩:=Lb z
  obtain ⟨f0,f1,f2,_⟩:=hf p.1 hb
  obtain ⟨o,e',d⟩:=ho p.1 hb
  rw [e] at e';cases e'
  exact ⟨e,f0,f1,f2,d⟩
theorem Inv.gC{pins pl:List (Addr×Obj)}{σ:St}{H:Hp}{s:Shared}(I:Inv X (pins++pl) σ H s):Inv X pins σ H s:=I.fy λp hp=>I.pin p (fF _ (gf _ hp))
theorem JY(hp:PassesOwn (model X.prog X.w) X.A X.env X.xe)(hc:X.calm=true)(hi:PI X tg iter wi)(hg:PG X tg g)(hb:mZ X body tb)
  (hs:∀x,foldedSetIterable iter X.env x=pure x:=by intro _;rfl):PS X (.For tg iter body [] pos) (F3 wi g tb):=by
 intro pins s σ H D I h
 refine wpAny_For (bE (hi pins s σ H _ I h) λv s1 h1=>bE h1 λGQ s2 h2=>?_) hs
 obtain ⟨it,fp,tn,J,H2,e,I2,T,ft,f2,W,⟨m0,w0⟩,turn⟩:=h2
 subst e
 have tU:∀{H':Hp},(∀b∈fp,H' b=none)->∀b∈fp,cV X pins H' b:=λhn b hb=>⟨hn b hb,(f2 b hb).2⟩
 refine codeAny_forLoop_any (λn s'=>∃i aJ H',Inv X pins aJ H' s'/\tn i s'.heap/\(∀b∈fp,H' b=none)/\W i n aJ H') ?_ m0 ⟨0,σ,H2,I2,ft,λb hb=>(f2 b hb).1,w0⟩
 rintro n s3 ⟨i,jd,H3,I3,kZ,Ap,w3⟩
 rcases turn i n jd H3 w3 with ⟨stop,qn⟩ | ⟨go,N,hN,step⟩
 .refine uR hp (bE (T.done X rfl rfl rfl hc i pins s3 jd H3 X.xe I3 (tU Ap) kZ stop) λr s4 ⟨hr,I4⟩=>?_)
  subst hr
  exact Ds ⟨jd,H3,I4,qn⟩
 .refine uR hp (bE (T.item X rfl rfl rfl hc i pins s3 jd H3 X.xe I3 (tU Ap) kZ go) λr s4 ⟨u,hr,h4⟩=>?_)
  subst hr
  refine uR hp (bE h4 λ_ s5 ⟨x,H5,I5,r5,y5,tV,HU⟩=>?_)
  have ML:=I5.pinned (tU HU) (T.obj _ _ tV)
  refine uR hp (bE (hg _ s5 jd H5 x u _ ML r5 (step x H5 y5)) λ_ s6 ⟨kY,H6,I6,q6⟩=>?_)
  refine uR hp (bE (hb _ s6 kY H6 _ I6 q6) λf s7 q7=>?_)
  have again:∀{oG:St} {H7:Hp},Inv X (pins++rp fp s5.heap) oG H7 s7->N oG H7->∃m,m<n/\∃i aJ H',Inv X pins aJ H' s7/\tn i s7.heap/\(∀b∈fp,H' b=none)/\W i m aJ H':=λ{oG H7} I7 n7=>by
   obtain ⟨m',hm,w7⟩:=hN oG H7 n7
   refine ⟨m',hm,i+1,oG,H7,I7.gC,T.keep _ _ _ tV λb hb o e=>(I7.pin (b,o) (fF _ (fF _ (BA hb e)))).1,λb hb=>?_,w7⟩
   obtain ⟨o,e,d⟩:=T.obj _ _ tV b hb
   exact (I7.pin (b,o) (fF _ (fF _ (BA hb e)))).2.1
  cases f with
  | next=>obtain ⟨oG,H7,I7,n7⟩:=q7;exact again I7 n7
  | cont=>obtain ⟨oG,H7,I7,n7⟩:=q7;exact again I7 n7
  | brk=>obtain ⟨oG,H7,I7,q7⟩:=q7;exact ⟨oG,H7,I7.gC,q7⟩
  | ret v=>obtain ⟨x7,oG,H7,I7,r7,q7⟩:=q7;exact ⟨x7,oG,H7,I7.gC,r7,q7⟩
end
theorem b4c{K:aM}{a:Addr}{xs:List V}{g:TG}{tb:TS}{D:Ends}{σ:St}{H:Hp}(Pv:Nat->St->Hp->Prop)(h0:Pv 0 σ H)(hl:∀i σ H,i<=xs.length->Pv i σ H->eN K H a xs)
  (hs:∀i x σ H,xs[i]?=some x->Pv i σ H->g x σ H λcJ H2=>tb { D with nx:=Pv (i+1),ct:=Pv (i+1),bk:=D.nx } cJ H2)(hd:∀σ H,Pv xs.length σ H->D.nx σ H):
  ∃W:Nat->Nat->St->Hp->Prop,(∃m,W 0 m σ H)/\∀i m σ H,W i m σ H ->
   ((Co K a).stop i H/\D.nx σ H)\/((Co K a).go i H/\∃N:St->Hp->Prop,(∀aJ H',N aJ H'->∃m',m'<m/\W (i+1) m' aJ H')/\∀x H',(Co K a).tP i H x H'->g x σ H' λcJ H2=>tb { D with nx:=N,ct:=N,bk:=D.nx } cJ H2):=by
 refine ⟨λi m σ H=>m=xs.length-i/\i<=xs.length/\Pv i σ H,⟨xs.length,by simp,nG _,h0⟩,?_⟩
 rintro i m σ H ⟨rfl,hi,p⟩
 have q:=hl i σ H hi p
 by_cases be:i<xs.length
 .refine .inr ⟨⟨xs,xs[i],q,by simp [be]⟩,Pv (i+1),λaJ H' p'=>⟨xs.length-(i+1),by ext be,rfl,be,p'⟩,λx H' y=>?_⟩
  obtain ⟨e,y⟩:=y
  subst e
  exact hs i x σ _ (y xs q) p
 .have e:i=xs.length:=by ext hi be
  subst e
  exact .inl ⟨⟨xs,q,bp _⟩,hd σ H p⟩
theorem b6r{K:aM}{a:Addr}{xs:List V}{g:TG}{tb:TS}{D:Ends}{σ:St}{H:Hp}(Pv:Nat->St->Hp->Prop)(h0:Pv 0 σ H)(hl:∀i σ H,i<=xs.length->Pv i σ H->fq K H a xs)
  (hs:∀i x σ H,xs[i]?=some x->Pv i σ H->g x σ H λcJ H2=>tb { D with nx:=Pv (i+1),ct:=Pv (i+1),bk:=D.nx } cJ H2)(hd:∀σ H,Pv xs.length σ H->D.nx σ H):
  ∃W:Nat->Nat->St->Hp->Prop,(∃m,W 0 m σ H)/\∀i m σ H,W i m σ H ->
   ((Cm K a).stop i H/\D.nx σ H)\/((Cm K a).go i H/\∃N:St->Hp->Prop,(∀aJ H',N aJ H'->∃m',m'<m/\W (i+1) m' aJ H')/\∀x H',(Cm K a).tP i H x H'->g x σ H' λcJ H2=>tb { D with nx:=N,ct:=N,bk:=D.nx } cJ H2):=by
 refine ⟨λi m σ H=>m=xs.length-i/\i<=xs.length/\Pv i σ H,⟨xs.length,by simp,nG _,h0⟩,?_⟩
 rintro i m σ H ⟨rfl,hi,p⟩
 have q:=hl i σ H hi p
 by_cases be:i<xs.length
 .refine .inr ⟨⟨xs,xs[i],q,by simp [be]⟩,Pv (i+1),λaJ H' p'=>⟨xs.length-(i+1),by ext be,rfl,be,p'⟩,λx H' y=>?_⟩
  obtain ⟨e,y⟩:=y
  subst e
  exact hs i x σ _ (y xs q) p
 .have e:i=xs.length:=by ext hi be
  subst e
  exact .inl ⟨⟨xs,q,bp _⟩,hd σ H p⟩
theorem b2t{lo:Int}{n:Nat}{g:TG}{tb:TS}{D:Ends}{σ:St}{H:Hp}(Pv:Nat->St->Hp->Prop)(h0:Pv 0 σ H)
  (hs:∀i σ H,i<n->Pv i σ H->g (.int (lo+i)) σ H λcJ H2=>tb { D with nx:=Pv (i+1),ct:=Pv (i+1),bk:=D.nx } cJ H2)(hd:∀σ H,Pv n σ H->D.nx σ H):
  ∃W:Nat->Nat->St->Hp->Prop,(∃m,W 0 m σ H)/\∀i m σ H,W i m σ H ->
   ((nW lo n).stop i H/\D.nx σ H)\/((nW lo n).go i H/\∃N:St->Hp->Prop,(∀aJ H',N aJ H'->∃m',m'<m/\W (i+1) m' aJ H')/\∀x H',(nW lo n).tP i H x H'->g x σ H' λcJ H2=>tb { D with nx:=N,ct:=N,bk:=D.nx } cJ H2):=by
 refine ⟨λi m σ H=>m=n-i/\i<=n/\Pv i σ H,⟨n,by simp,nG _,h0⟩,?_⟩
 rintro i m σ H ⟨rfl,hi,p⟩
 by_cases be:i<n
 .refine .inr ⟨be,Pv (i+1),λaJ H' p'=>⟨n-(i+1),by ext be,rfl,be,p'⟩,λx H' y=>?_⟩
  obtain ⟨e,y⟩:=y
  subst e y
  exact hs i σ _ be p
 .have e:i=n:=by ext hi be
  subst e
  exact .inl ⟨bp _,hd σ H p⟩
end L2
namespace L2
open PySem PySem.Spec PyProof.Rows
abbrev R2:=V->V->Hp->VK->Prop
def gu(X:Cx)(f:Value->Value->Sem Value)(r:R2):Prop:=
 ∀(pins:List (Addr×Obj)) (s:Shared) (σ:St) (H:Hp) (x y:V) (v u:Value) (Q:VK),Inv X pins σ H s->RelV x v->RelV y u->r x y H Q ->
  wpAny (model X.prog X.w) X.A (f v u) (EP X pins σ Q) X.xe s
def MD(X:Cx)(f:Value->Sem Value)(r:V->Hp->VK->Prop):Prop:=
 ∀(pins:List (Addr×Obj)) (s:Shared) (σ:St) (H:Hp) (x:V) (v:Value) (Q:VK),Inv X pins σ H s->RelV x v->r x H Q ->
  wpAny (model X.prog X.w) X.A (f v) (EP X pins σ Q) X.xe s
def pB(X:Cx)(f:Value)(r:List V->Hp->VK->Prop):Prop:=
 ∀(pins:List (Addr×Obj)) (s:Shared) (σ:St) (H:Hp) (xs:List V) (us:List Value) (Q:VK),Inv X pins σ H s->aC xs us->r xs H Q ->
  wpAny (model X.prog X.w) X.A (call f us) (EP X pins σ Q) X.xe s
def ME(X:Cx)(r:V->Hp->(Bool->Hp->Prop)->Prop):Prop:=
 ∀(pins:List (Addr×Obj)) (s:Shared) (σ:St) (H:Hp) (x:V) (v:Value) (Q:Bool->Hp->Prop),Inv X pins σ H s->RelV x v->r x H Q ->
  wpAny (model X.prog X.w) X.A (truthy v) (TP X pins σ Q) X.xe s
def yf(r:R2)(ta tb:TE):TE:=λσ H Q=>ta σ H λx H1=>tb σ H1 λy H2=>r x y H2 Q
def Te(r:V->Hp->VK->Prop)(ta:TE):TE:=λσ H Q=>ta σ H λx H1=>r x H1 Q
def rI(C:Int->Int->Prop)(g:Int->Int->V):R2:=λx y H Q=>∃i j,x=.int i/\y=.int j/\C i j/\Q (g i j) H
def tW(g:Int->Int->V):R2:=λx y H Q=>∃i j,x=.int i/\y=.int j/\Q (g i j) H
def rU(g:Int->V):V->Hp->VK->Prop:=λx H Q=>∃i,x=.int i/\Q (g i) H
section
variable {X:Cx}{a b c:Expr}{ta tb tc:TE}{pos:Pos}
theorem u9(ha:PE X a ta)(hb:PE X b tb){pins:List (Addr×Obj)}{s:Shared}{σ:St}{H:Hp}{R:V->V->Hp->Prop}(I:Inv X pins σ H s)
  (h:ta σ H λx H1=>tb σ H1 λy H2=>R x y H2){Q:Value->Shared->Prop}{f:Value->Value->Sem Value}
  (hf:∀v u s2 x y H2,Inv X pins σ H2 s2->RelV x v->RelV y u->R x y H2->wpAny (model X.prog X.w) X.A (f v u) Q X.xe s2):
  wpAny (model X.prog X.w) X.A (eval a X.env) (λv aO=>wpAny (model X.prog X.w) X.A (eval b X.env) (λu jW=>wpAny (model X.prog X.w) X.A (f v u) Q X.xe jW) X.xe aO) X.xe s:=by
 refine bE (ha pins s σ H _ I h) λv s1 ⟨x,H1,I1,r1,q1⟩=>?_
 refine bE (hb pins s1 σ H1 _ I1 q1) λu s2 ⟨y,H2,I2,r2,q2⟩=>?_
 exact hf v u s2 x y H2 I2 r1 r2 q2
theorem yK(ho:gu X (binaryOp op) r)(ha:PE X a ta)(hb:PE X b tb):PE X (.BinOp a op b pos) (yf r ta tb):=by
 intro pins s σ H Q I h
 exact wpAny_BinOp (u9 ha hb I h λv u s2 x y H2 I2 rx ry q=>ho pins s2 σ H2 x y v u Q I2 rx ry q)
theorem yJ(ho:MD X (unaryOp op) r)(ha:PE X a ta):PE X (.UnaryOp op a pos) (Te r ta):=by
 intro pins s σ H Q I h
 exact UnaryOp_ (bE (ha pins s σ H _ I h) λv s1 ⟨x,H1,I1,r1,q1⟩=>ho pins s1 σ H1 x v Q I1 r1 q1)
theorem tZ{f:Value->Value->Sem Value}{C:Int->Int->Prop}{g:Int->Int->Int}
  (rule:∀(i j:Int) (t u:Tok) (s:Shared) (Q:Value->Shared->Prop) (E:Value->Shared->Prop),C i j->Q (.int (g i j) s.toks) { s with toks:=s.toks+1 }->wpAny (model X.prog X.w) X.A (f (.int i t) (.int j u)) Q E s):
  gu X f (rI C λi j=>.int (g i j)):=by
 intro pins s σ H x y v u Q I rx ry h
 obtain ⟨i,j,rfl,rfl,hc,q⟩:=h
 obtain ⟨t,rfl⟩:=rx
 obtain ⟨t',rfl⟩:=ry
 exact rule i j t t' s _ _ hc ⟨.int (g i j),H,I.tok _,⟨_,rfl⟩,q⟩
theorem Gu{f:Value->Value->Sem Value}{g:Int->Int->Int}
  (rule:∀(i j:Int) (t u:Tok) (s:Shared) (Q:Value->Shared->Prop) (E:Value->Shared->Prop),Q (.int (g i j) s.toks) { s with toks:=s.toks+1 }->wpAny (model X.prog X.w) X.A (f (.int i t) (.int j u)) Q E s):
  gu X f (tW λi j=>.int (g i j)):=by
 intro pins s σ H x y v u Q I rx ry h
 obtain ⟨i,j,rfl,rfl,q⟩:=h
 obtain ⟨t,rfl⟩:=rx
 obtain ⟨t',rfl⟩:=ry
 exact rule i j t t' s _ _ ⟨.int (g i j),H,I.tok _,⟨_,rfl⟩,q⟩
theorem t6{f:Value->Value->Sem Value}{g:Int->Int->Bool}
  (rule:∀(i j:Int) (t u:Tok) (s:Shared) (Q:Value->Shared->Prop) (E:Value->Shared->Prop),Q (.bool (g i j)) s->wpAny (model X.prog X.w) X.A (f (.int i t) (.int j u)) Q E s):
  gu X f (tW λi j=>.bl (g i j)):=by
 intro pins s σ H x y v u Q I rx ry h
 obtain ⟨i,j,rfl,rfl,q⟩:=h
 obtain ⟨t,rfl⟩:=rx
 obtain ⟨t',rfl⟩:=ry
 exact rule i j t t' s _ _ ⟨.bl (g i j),H,I,rfl,q⟩
def kX(i j:Int):Prop:=(-(2^64)<i/\i<2^64)\/(-(2^64)<j/\j<2^64)
theorem kX.ok(h:kX i j):IntMulOk i j:=by
 rcases h with ⟨h1,h2⟩ | ⟨h1,h2⟩
 .exact .of_left (Dj h1 h2)
 .exact .of_right (Dj h1 h2)
theorem tY:gu X (binaryOp .Add) (tW λi j=>.int (i+j)):=Gu λ_ _ _ _ _ _ _ q=>add_int q
theorem b6m:gu X (inplaceOp .Mult) (rI kX λi j=>.int (i*j)):=tZ λ_ _ _ _ _ _ _ hc q=>imul_int q hc.ok
theorem Ta{f:Value->Sem Value}{g:Int->Int}
  (rule:∀(i:Int) (t:Tok) (s:Shared) (Q:Value->Shared->Prop) (E:Value->Shared->Prop),Q (.int (g i) s.toks) { s with toks:=s.toks+1 }->wpAny (model X.prog X.w) X.A (f (.int i t)) Q E s):
  MD X f (rU λi=>.int (g i)):=by
 intro pins s σ H x v Q I rx h
 obtain ⟨i,rfl,q⟩:=h
 obtain ⟨t,rfl⟩:=rx
 exact rule i t s _ _ ⟨.int (g i),H,I.tok _,⟨_,rfl⟩,q⟩
theorem b7o:MD X (unaryOp .USub) (rU λi=>.int (-i)):=Ta λ_ _ _ _ _ q=>neg_int q
end
section
variable {X:Cx}{a b c:Expr}{ta tb tc:TE}{pos:Pos}
theorem Pw{pins:List (Addr×Obj)}{σ:St}{H:Hp}{s:Shared}{Q:VK}{k k':Bool}(I:Inv X pins σ H s)(q:Q (.bl k) H)(e:k=k'):EP X pins σ Q (.bool k') s:=by
 subst e
 exact ⟨.bl k,H,I,rfl,q⟩
theorem yR:gu X (compareOp .Lt) (tW λi j=>.bl (decide (i<j))):=t6 λ_ _ _ _ _ _ _ q=>lt_int q
theorem yS:gu X (compareOp .LtE) (tW λi j=>.bl (decide (i<=j))):=t6 λ_ _ _ _ _ _ _ q=>le_int q
theorem yT:gu X (compareOp .Gt) (tW λi j=>.bl (decide (j<i))):=t6 λ_ _ _ _ _ _ _ q=>gt_int q
theorem b7Z:gu X (compareOp .Is) (λx y H Q=>y=.bz/\Q (.bl (decide (x=.bz))) H):=by
 intro pins s σ H x y v u Q I rx ry h
 obtain ⟨rfl,q⟩:=h
 cases ry
 refine is_none_gen (Pw I q ?_)
 cases x<;>first
  | (cases rx;rfl)
  | (obtain ⟨t,rfl⟩:=rx;rfl)
theorem b52:gu X (compareOp .IsNot) (λx y H Q=>y=.bz/\Q (.bl (!decide (x=.bz))) H):=by
 intro pins s σ H x y v u Q I rx ry h
 obtain ⟨rfl,q⟩:=h
 cases ry
 refine isnot_none_gen (Pw I q ?_)
 cases x<;>first
  | (cases rx;rfl)
  | (obtain ⟨t,rfl⟩:=rx;rfl)
theorem gu.or(h:gu X f r)(h':gu X f r'):gu X f (λx y H Q=>r x y H Q\/r' x y H Q):=by
 intro pins s σ H x y v u Q I rx ry q
 rcases q with q | q
 .exact h pins s σ H x y v u Q I rx ry q
 .exact h' pins s σ H x y v u Q I rx ry q
theorem P2(b:Expr)(h:op≠.In:=by decide)(h2:op≠.NotIn:=by decide):behindInMarks op b=false:=by
 have e1:(op==CmpOp.In)=false:=by cases op<;>first | rfl | exact absurd rfl h
 have e2:(op==CmpOp.NotIn)=false:=by cases op<;>first | rfl | exact absurd rfl h2
 cases b<;>simp [behindInMarks,e1,e2]
theorem b5V(ho:gu X (compareOp op) r)(ha:PE X a ta)(hb:PE X b tb)(hm:behindInMarks op b=false):PE X (.Compare a [op] [b] pos) (yf r ta tb):=by
 intro pins s σ H Q I h
 exact wpAny_Compare1 (u9 ha hb I h λv u s2 x y H2 I2 rx ry q=>ho pins s2 σ H2 x y v u Q I2 rx ry q) hm
def yd(t:TE):TT:=λσ H Q=>t σ H λx H'=>∃k,x=.bl k/\Q k H'
theorem b5M(ho:gu X (compareOp op) r)(ha:PE X a ta)(hb:PE X b tb)(hm:behindInMarks op b=false):PT X (.Compare a [op] [b] pos) (yd (yf r ta tb)):=by
 intro pins s σ H Q I h
 refine wpAny_isTrue_Compare1 (bE (ha pins s σ H _ I h) λv s1 ⟨x,H1,I1,r1,q1⟩=>bE (hb pins s1 σ H1 _ I1 q1) λu s2 ⟨y,H2,I2,r2,q2⟩ =>
  bE (ho pins s2 σ H2 x y v u _ I2 r1 r2 q2) λc s3 ⟨z,H3,I3,r3,k,e,q3⟩=>?_) hm
 subst e
 cases r3
 exact DY ⟨H3,I3,q3⟩
def vP(K:aM)(x:V)(H:Hp)(k:Bool):Prop:=
 match x with
 | .bz=>k=false
 | .bl b=>k=b
 | .int i=>k=(i != 0)
 | .str y=>y.length<=sizeLine/\k=((y.length:Int) != 0)
 | .AY y=>y.size<=sizeLine/\k=((y.size:Int) != 0)
 | .ref p=>(∃xs,eN K H p xs/\k=!xs.isEmpty)\/(∃xs,fq K H p xs/\k=!xs.isEmpty)\/∃bG,H p=some (.dK bG)/\k=!bG.isEmpty
 | _=>False
theorem b02{κ:Type}{bG:List (κ×V)}{vs:List (κ×Value)}(r:KV bG vs):(!vs.isEmpty)=!bG.isEmpty:=by
 cases r<;>rfl
theorem RB(r:aC xs ar):(!ar.toArray.isEmpty)=!xs.isEmpty:=by
 cases r<;>simp
theorem xk:(sizeLine:Nat)<2^63:=by rw [ij];decide
theorem b7t:ME X (λx H Q=>∃k,vP X.K x H k/\Q k H):=by
 intro pins s σ H x v Q I rx h
 obtain ⟨k,e,q⟩:=h
 have hl:=xk
 have hs:sizeLine=16777216:=ij
 cases x with
 | bz =>
  cases rx
  have e':k=false:=e
  subst e'
  exact truthy_none ⟨H,I,q⟩
 | bl b =>
  cases rx
  have e':k=b:=e
  subst e'
  exact DY ⟨H,I,q⟩
 | int i =>
  obtain ⟨t,rfl⟩:=rx
  have e':k=(i != 0):=e
  subst e'
  exact PySem.P.truthy_int ⟨H,I,q⟩
 | str y =>
  obtain ⟨t,rfl⟩:=rx
  obtain ⟨hy,e'⟩:y.length<=sizeLine/\k=((y.length:Int) != 0):=e
  subst e'
  exact PySem.P.truthy_str (by ext hs hy) ⟨H,I.tok _,q⟩
 | AY y =>
  obtain ⟨t,rfl⟩:=rx
  obtain ⟨hy,e'⟩:y.size<=sizeLine/\k=((y.size:Int) != 0):=e
  subst e'
  exact PySem.W.truthy_bytes (fm ‹_› (by decide)) ⟨H,I.tok _,q⟩
 | ref p =>
  cases rx
  have e':(∃xs,eN X.K H p xs/\k=!xs.isEmpty)\/(∃xs,fq X.K H p xs/\k=!xs.isEmpty)\/∃bG,H p=some (.dK bG)/\k=!bG.isEmpty:=e
  rcases e' with ⟨xs,hx,e'⟩ | ⟨xs,hx,e'⟩ | ⟨bG,hx,e'⟩
  .subst e'
   obtain ⟨ar,r,pl,hz⟩:=I.list hx
   have hlen:=r.length
   exact wpAny_truthy_list pl.isList (by simp only [dE];ext hs hz hlen) ⟨H,I.tok _,by rw [RB r];exact q⟩
  .subst e'
   obtain ⟨ar,r,pl,hz⟩:=I.tuple hx
   have hlen:=r.length
   exact truthy_tuple pl (by simp only [dE];ext hs hz hlen) ⟨H,I.tok _,by rw [RB r];exact q⟩
  .subst e'
   obtain ⟨hz,hS,vs,r,m⟩:bG.length<=sizeLine/\(p==sysModules)=false/\∃vs,KV bG vs/\s.heap.DictOf (Kx X.prog X.w) p vs:=I.bt p _ hx
   have hlen:bG.length=vs.length:=Paired.length r
   exact wpAny_truthy_dict hS m (by ext hs hz hlen) ⟨H,I.tok _,by rw [b02 r];exact q⟩
 | _=>exact (show False from e).elim
theorem QS(ha:PE X a ta)(he:∀whole,isTrue a X.env whole=(do let v <-whole;standAt a.pos;holding [v] (truthy v))):
  PT X a (λσ H Q=>ta σ H λx H'=>∃k,vP X.K x H' k/\Q k H'):=by
 intro pins s σ H Q I h
 exact isTrue_plain (bE (ha pins s σ H _ I h) λv s1 ⟨x,H1,I1,r1,q1⟩=>b7t pins s1 σ H1 x v Q I1 r1 q1) (he _)
theorem lX:gu X (binaryOp .Add) (λx y H Q=>∃i j,x=.str i/\y=.str j/\i.length+j.length<=sizeLine/\Q (.str (i++j)) H):=by
 intro pins s σ H x y v u Q I rx ry h
 obtain ⟨i,j,rfl,rfl,hz,q⟩:=h
 obtain ⟨t,rfl⟩:=rx
 obtain ⟨t',rfl⟩:=ry
 exact add_str (λt' tk=>⟨.str (i++j),H,I.tok _,⟨_,rfl⟩,q⟩) hz
theorem vals1(r:aC [x] us):∃u,us=[u]/\RelV x u:=by
 cases r with
 | cons r1 r2=>cases r2;exact ⟨_,rfl,r1⟩
theorem vals2(r:aC [x,y] us):∃u w',us=[u,w']/\RelV x u/\RelV y w':=by
 cases r with
 | cons r1 r2 =>
  cases r2 with
  | cons r3 r4=>cases r4;exact ⟨_,_,rfl,r1,r3⟩
theorem b2O(hc:X.calm=true):pB X (.builtin "max") (λxs H Q=>∃i j,xs=[.int i,.int j]/\Q (.int (if j>i then j else i)) H):=by
 intro pins s σ H xs us Q I r h
 obtain ⟨i,j,rfl,q⟩:=h
 obtain ⟨u,w',rfl,⟨t,rfl⟩,⟨t',rfl⟩⟩:=vals2 r
 refine max_two_ints (I.ok.hd hc) λh' tk k=>⟨_,H,I.kept k,?_,q⟩
 by_cases hj:j>i
 .rw [if_pos hj,if_pos hj];exact ⟨_,rfl⟩
 .rw [if_neg hj,if_neg hj];exact ⟨_,rfl⟩
theorem b2N(hc:X.calm=true):pB X (.builtin "min") (λxs H Q=>∃i j,xs=[.int i,.int j]/\Q (.int (if j<i then j else i)) H):=by
 intro pins s σ H xs us Q I r h
 obtain ⟨i,j,rfl,q⟩:=h
 obtain ⟨u,w',rfl,⟨t,rfl⟩,⟨t',rfl⟩⟩:=vals2 r
 refine min_two_ints (I.ok.hd hc) λh' tk k=>⟨_,H,I.kept k,?_,q⟩
 by_cases hj:j<i
 .rw [if_pos hj,if_pos hj];exact ⟨_,rfl⟩
 .rw [if_neg hj,if_neg hj];exact ⟨_,rfl⟩
end
end L2
namespace L2
open PySem PySem.Spec PyProof.Rows
section
variable {prog:Program}{w:World}{A:Around}{E:Value->Shared->Prop}{s:Shared}{K:aM}{x dx C f:Addr}{mA:Str->Option Value}{name:Str}{v:Value}
end
section
variable {P:Program}{w:World}{H H':Hp}{h h':Heap}{a C dx:Addr}{fs YE:List (Str×V)}
end
section
variable {X:Cx}{pins:List (Addr×Obj)}{σ:St}{H:Hp}{s:Shared}{a C dx:Addr}{fs:List (Str×V)}{f:Str}{v:V}{A:Around}{E:Value->Shared->Prop}
end
section
variable {X:Cx}{o e value:Expr}{f:Str}{pos pos' Tc:Pos}{ta tv:TE}
end
section
variable {X:Cx}{pins:List (Addr×Obj)}{σ:St}{H:Hp}{s:Shared}{A:Around}{E:Value->Shared->Prop}{Q:Value->Shared->Prop}{c:Value}{b:Bool}
end
end L2
namespace L2
open PySem PySem.Spec PyProof.Rows
structure cu(k:Nat)(A:Around):Prop where
 hd:A.handled=none
 dp:A.depth+3*k+5<recursionLimit
 un:A.units+16*k+200<cLine
theorem cu.mono(r:cu k A)(h:j<=k):cu j A:=⟨r.hd,by have:=r.dp;ext h this,by have:=r.un;ext h this⟩
theorem cu.deeper(r:cu (k+1) A)(env:Env):cu k (A.deeper env):=
 ⟨r.hd,by have:=r.dp;show A.depth+1+3*k+5<_;ext this,by have:=r.un;show A.units+3+16*k+200<_;ext this⟩
theorem cu.depth(r:cu k A):A.depth<recursionLimit:=by have:=r.dp;ext this
def F0:TA:=λ_ H Q=>Q [] H
def yj(ta:TE)(tr:TA):TA:=λσ H Q=>ta σ H λx H1=>tr σ H1 λxs H2=>Q (x::xs) H2
section
variable {X:Cx}{e:Expr}{es:List Expr}{te:TE}{t:TA}{pos:Pos}
theorem rm:PA X [] F0:=λ_ _ _ _ H Q I h=>Oa ⟨[],H,I,.nil,h⟩
theorem qe(ha:PE X e te)(hr:PA X es t)(hs:starEach (e::es) X.env=(false,eval e X.env)::starEach es X.env:=by rfl):PA X (e::es) (yj te t):=by
 intro pos pins s σ H Q I h
 rw [hs]
 show wpAny _ _ (spliced ((false,eval e X.env)::backTo pos (starEach es X.env))) _ _ s
 refine Oo (bE (ha pins s σ H _ I h) λu s1 ⟨x,H1,I1,r1,q1⟩=>?_)
 exact bE (hr pos pins s1 σ H1 _ I1 q1) λus s2 ⟨xs,H2,I2,r2,q2⟩=>⟨x::xs,H2,I2,.cons r1 r2,q2⟩
def FW(t:TA):TE:=λσ H Q=>t σ H λxs H1=>xs.length<=sizeLine/\∀p,H1 p=none->Q (.ref p) (upd H1 p (.tup xs))
def F1(t:TA):TE:=λσ H Q=>t σ H λxs H1=>xs.length<=sizeLine/\∀p,H1 p=none->Q (.ref p) (upd H1 p (.lst xs))
theorem b7P{x1}(h:PA X es t):PE X (.Tuple es x1 pos) (FW t):=by
 intro pins s σ H Q I hq
 refine wpAny_Tuple_spliced (bE (h pos pins s σ H _ I hq) λus s1 ⟨xs,H1,I1,r,z,q⟩=>⟨by rw [<-r.length];exact z,?_⟩)
 have hf:H1 s1.heap.objs.size=none:=I1.bt.fresh (bp _)
 refine ⟨.ref s1.heap.objs.size,upd H1 s1.heap.objs.size (.tup xs),I1.laid (t':=s1.toks) (λb u e=>bR _ e) (bp _) ?_,rfl,q _ hf⟩
 exact ⟨z,us,r,⟨_,fN _ rfl,rfl,_,rfl⟩⟩
theorem b7T(h:PA X es t):PE X (.List es pos) (F1 t):=by
 intro pins s σ H Q I hq
 refine wpAny_List_spliced (bE (h pos pins s σ H _ I hq) λus s1 ⟨xs,H1,I1,r,z,q⟩=>⟨by rw [<-r.length];exact z,?_⟩)
 have hf:H1 s1.heap.objs.size=none:=I1.bt.fresh (bp _)
 refine ⟨.ref s1.heap.objs.size,upd H1 s1.heap.objs.size (.lst xs),I1.laid (t':=s1.toks) (λb u e=>bR _ e) (bp _) ?_,rfl,q _ hf⟩
 exact ⟨z,us,0,r,fN _ rfl⟩
end
abbrev Sp:=List V->Hp->VK->XK->Prop
abbrev oF:=List Env->Hp->Shared->XK->Value->Shared->Prop
structure pS(P:Program)(w:World)(K:aM)(mg:Str->Option Value)(base:Heap)(A:Around)(outer:List Env)(s:Shared)(H:Hp):Prop where
 frames:A.frames=some outer
 mod:Mod K mg base
 bs:∀b o,base.get? b=some o->s.heap.get? b=some o/\H b=none
 q9:base.objs.size<=s.heap.objs.size
 gj:s.heap.FunFrames base outer
 uI:∀b∈n9 outer,H b=none
 bt:dG P w H s.heap
 bare:AllBare s.gens
def CE(outer:List Env)(P:Program)(w:World)(H:Hp)(s:Shared)(Q:VK)(u:Value)(s':Shared):Prop:=
 ∃v H',s'.os=s.os/\AllBare s'.gens/\Un (n9 outer) [] H H' s.heap s'.heap/\dG P w H' s'.heap/\RelV v u/\Q v H'
def CR(CX:oF)(outer:List Env)(P:Program)(w:World)(H:Hp)(s:Shared)(Q:VK)(E:XK)(r:Result)(s':Shared):Prop:=
 match r with
 | .ok (.ret u)=>CE outer P w H s Q u s'
 | .ok _=>False
 | .error e=>CX outer H s E e s'
structure cH(P:Program)(w:World)(K:aM)(mg:Str->Option Value)(base:Heap)(CX:oF)(k:Nat)(f:Addr)(fd:FuncData)(ps:List Str)(sp:Sp):Prop where
 len:∀vs H Q E,sp vs H Q E->vs.length=ps.length
 run:∀(A:Around) (outer:List Env) (s:Shared) (H:Hp) (args:Args) (us:List Value) (vs:List V) (Q:VK) (E:XK),cu k A->pS P w K mg base A outer s H->BindsTo s fd args (ps.zip us)->aC vs us->sp vs H Q E ->
  codeAny (model P w) A (.call (.ref f) args) (CR CX outer P w H s Q E) s
theorem cH.imp{P:Program}{w:World}{K:aM}{mg:Str->Option Value}{base:Heap}{CX:oF}{k:Nat}{f:Addr}{fd:FuncData}{ps:List Str}{sp MR:Sp}(F:cH P w K mg base CX k f fd ps sp)
  (h:∀vs H Q E,MR vs H Q E->sp vs H Q E):cH P w K mg base CX k f fd ps MR:=
 ⟨λvs H Q E q=>F.len vs H Q E (h _ _ _ _ q),λA outer s H args us vs Q E hr he hb hv hs=>F.run A outer s H args us vs Q E hr he hb hv (h _ _ _ _ hs)⟩
section
variable {X:Cx}{pins:List (Addr×Obj)}{σ:St}{H:Hp}{s s':Shared}
theorem Inv.gk(I:Inv X pins σ H s):pS X.prog X.w X.K X.mg X.base X.A X.stack s H:=
 ⟨I.ok.frames,I.ok.mod,I.bs,fm I.ok.q9 I.sz,I.stack,I.mF,I.bt,I.bare⟩
theorem Inv.after(I:Inv X pins σ H s)(h:CE X.stack X.prog X.w H s Q u s'):EP X pins σ Q u s':=by
 obtain ⟨v,H',os,bare,un,bt,r,q⟩:=h
 obtain ⟨hh,g,d,t,Gr⟩:=s'
 obtain rfl:Gr=s.os:=os
 exact ⟨v,H',I.call (h':=hh) (g':=g) (d':=d) (t':=t) (ch:=[]) un bt bare (λb z=>absurd z (by simp)),r,q⟩
end
def O7(sp:Sp)(sH:List V)(E:XK)(t:TA):TE:=λσ H Q=>t σ H λvs H1=>sp (vs++sH) H1 Q E
def Binds(K:aM)(fd:FuncData)(ps:List Str)(ds:List Value):Prop:=
 ∀(s:Shared) (us:List Value),K.In s.heap->(us++ds).length=ps.length->BindsTo s fd ⟨us,[]⟩ (ps.zip (us++ds))
theorem Binds.all{K:aM}{fd:FuncData}{ps:List Str}(h:∀us:List Value,us.length=ps.length->bindArgs fd ⟨us,[]⟩=pure (ps.zip us)):Binds K fd ps []:=λs us _ hl=>by
 rw [mQ] at hl ⊢
 exact .of_eq (h us hl)
def JQ(CX:oF)(X:Cx)(E:XK):Prop:=∀(pins:List (Addr×Obj)) (σ:St) (H:Hp) (s:Shared) (e:Value) (s':Shared),Inv X pins σ H s->CX X.stack H s E e s'->X.xe e s'
section
variable {X:Cx}{CX:oF}{k:Nat}{f C:Addr}{fd:FuncData}{ps:List Str}{sp:Sp}{sH:List V}{ds:List Value}{E:XK}{x m:Str}{p pos apos:Pos}{e o:Expr}{es:List Expr}{ta:TE}{t:TA}
theorem b7G{pins:List (Addr×Obj)}{σ:St}{H:Hp}{s:Shared}{Q:VK}{us:List Value}{vs:List V}(F:cH X.prog X.w X.K X.mg X.base CX k f fd ps sp)(hr:cu k X.A)(hb:Binds X.K fd ps ds)(hd:aC sH ds)(hx:JQ CX X E)
  (I:Inv X pins σ H s)(r:aC vs us)(h:sp (vs++sH) H Q E):wpAny (model X.prog X.w) X.A (call (.ref f) us) (EP X pins σ Q) X.xe s:=by
 have r2:aC (vs++sH) (us++ds):=r.append hd
 have hl:(us++ds).length=ps.length:=by rw [<-r2.length];exact F.len _ _ _ _ h
 refine wpAny_call (Dg (F.run X.A X.stack s H ⟨us,[]⟩ (us++ds) (vs++sH) Q E hr I.gk (hb s us I.ud hl) r2 h) λr s' hq=>?_)
 cases r with
 | error e=>exact hx pins σ H s e s' I hq
 | ok fl =>
  cases fl with
  | ret u=>exact I.after hq
  | next=>exact jR hq
  | brk=>exact jR hq
  | cont=>exact jR hq
theorem b5W(F:cH X.prog X.w X.K X.mg X.base CX k f fd ps sp)(hr:cu k X.A)(hg:Gl X x)(hm:X.mg x=some (.ref f))(hk:AI X.K (.ref f)=true)(hb:Binds X.K fd ps ds)(hd:aC sH ds)(hx:JQ CX X E)
  (ha:PA X (e::es) t)(j9:(x==("__debug__":Str))=false:=by decide)(he:starEach (e::es) X.env=(false,eval e X.env)::starEach es X.env:=by rfl)(dB:(backTo pos (starEach es X.env)).any (·.1)=false:=by rfl):
  PE X (.Call (.Name x p) (e::es) [] pos) (O7 sp sH E t):=by
 intro pins s σ H Q I h
 refine DZ (Kt I hg hm ?_ j9)
 refine PySem.W.callWith_K (h₀:=X.base) I.ok.mod.GL hk (bE (ha pos pins s σ H _ I h) λus s1 ⟨vs,H1,I1,r,q⟩=>⟨I1.ud,?_⟩) he dB
 exact b7G F hr hb hd hx I1 r q
end
section
variable {X:Cx}{CX:oF}{k:Nat}{f C:Addr}{fd:FuncData}{ps ks:List Str}{sp:Sp}{E:XK}{x m:Str}{p pos apos WQ:Pos}{e o:Expr}{es:List Expr}{kws:List Keyword}{te ta:TE}{t tk:TA}{nm:Option Str}
variable {g:List Value->List Value->List Value}{gV:List V->List V->List V}
end
structure dv(N P:List Str)(sc:Scope):Prop where
 kind:sc.kind=.function
 co:sc.isCoroutine=false
 gen:sc.isGenerator=false
 nd:N.Nodup
 pre:N.take P.length=P
 par:∀x∈P,sc.names.lookup x=some .local\/sc.names.lookup x=some .cell
 t9:∀y∈sc.names,y.2≠.free
theorem Rq{kindOf:Str->Option NameKind}{x:Str}:∀{binds:List (Str×Value)} {m:Str->Option Value},(∀v,(x,v)∉binds)->bindL kindOf binds m x=m x
 | [],_,_=>rfl
 | (n,v)::r,m,h=>by
  unfold bindL
  rw [Rq λw hw=>h w (a9 _ hw)]
  split
  .have:x≠n:=by rintro rfl;exact h v aR
   simp [this]
  .rfl
theorem Q4{kindOf:Str->Option NameKind}{x:Str}:∀{binds:List (Str×Value)} {m:Str->Option Value},(∀v,(x,v)∉binds)->bindC kindOf binds m x=m x
 | [],_,_=>rfl
 | (n,v)::r,m,h=>by
  unfold bindC
  rw [Q4 λw hw=>h w (a9 _ hw)]
  split
  .rfl
  .have:x≠n:=by rintro rfl;exact h v aR
   simp [this]
theorem Q5{kindOf:Str->Option NameKind}{x:Str}{v:Value}:∀{P:List Str} {vs:List Value} {i:Nat} {m:Str->Option Value},P.Nodup->P[i]?=some x->vs[i]?=some v->kindOf x=some .local ->
  bindL kindOf (P.zip vs) m x=some v
 | [],_,_,_,_,h,_,_=>by simp at h
 | _::_,[],_,_,_,_,h,_=>by simp at h
 | p::P,w::vs,0,m,nd,h1,h2,hk=>by
  simp at h1 h2;subst h1;subst h2
  show bindL kindOf ((p,w)::P.zip vs) m p=_
  unfold bindL
  rw [Rq λv hv=>(uQ.mp nd).1 (wR hv).1,if_pos hk]
  simp
 | p::P,w::vs,i+1,m,nd,h1,h2,hk=>by
  show bindL kindOf ((p,w)::P.zip vs) m x=_
  unfold bindL
  exact Q5 (i:=i) (uQ.mp nd).2 (by simpa using h1) (by simpa using h2) hk
theorem Q3{kindOf:Str->Option NameKind}{x:Str}{v:Value}:∀{P:List Str} {vs:List Value} {i:Nat} {m:Str->Option Value},P.Nodup->P[i]?=some x->vs[i]?=some v->kindOf x≠some .local ->
  bindC kindOf (P.zip vs) m x=some v
 | [],_,_,_,_,h,_,_=>by simp at h
 | _::_,[],_,_,_,_,h,_=>by simp at h
 | p::P,w::vs,0,m,nd,h1,h2,hk=>by
  simp at h1 h2;subst h1;subst h2
  show bindC kindOf ((p,w)::P.zip vs) m p=_
  unfold bindC
  rw [Q4 λv hv=>(uQ.mp nd).1 (wR hv).1,if_neg hk]
  simp
 | p::P,w::vs,i+1,m,nd,h1,h2,hk=>by
  show bindC kindOf ((p,w)::P.zip vs) m x=_
  unfold bindC
  exact Q3 (i:=i) (uQ.mp nd).2 (by simpa using h1) (by simpa using h2) hk
def start(N:List Str)(vs:List V):St:=vs.map some++iU (N.length-vs.length) none
def md(CX:oF)(P:Program)(w:World)(K:aM)(mg:Str->Option Value)(base:Heap)(N:List Str)(qual:Str)(scope:Scope)(f:Addr)(cd:Value)(A:Around)(outer:List Env)(s:Shared)(H:Hp)(E:XK):Cx where
 prog:=P
 w:=w
 K:=K
 mg:=mg
 base:=base
 A:=A.deeper (envOfC qual scope s.heap.objs.size f cd)
 N:=N
 cK:=s
 pR:=H
 env:=envOfC qual scope s.heap.objs.size f cd
 outer:=outer
 stack:=envOfC qual scope s.heap.objs.size f cd::outer
 ex:=[]
 calm:=true
 fn:=λ_=>true
 pn:=[]
 xe:=λe s'=>wpAny (model P w) (A.deeper (envOfC qual scope s.heap.objs.size f cd)) (leaving (envOfC qual scope s.heap.objs.size f cd) e) (λ_ Gf=>CX outer H s E e Gf) (λe' Gf=>CX outer H s E e' Gf) s'
theorem QX{sc:Scope}{n:Nat}{x:Str}(h:sc.names.lookup x=some .cell):∃c,(cellsFrom n sc.names []).lookup x=some c:=by
 have q:=Oj sc.names n [] (.inl h)
 exact Option.isSome_iff_exists.mp q
theorem b2p{CX:oF}{P:Program}{w:World}{K:aM}{mg:Str->Option Value}{base:Heap}{N ps:List Str}{qual:Str}{scope:Scope}{f:Addr}{cd:Value}{A:Around}{outer:List Env}{s s1:Shared}{H:Hp}{E:XK}{us:List Value}{vs:List V}
  (S:dv N ps scope)(hd:A.handled=none)(e0:pS P w K mg base A outer s H)(hl:vs.length=ps.length)(r:aC vs us)
  (x:InCallC s s.heap.objs.size (bindL (envOfC qual scope s.heap.objs.size f cd).kindOf (ps.zip us) λ_=>none) (cellsFrom (s.heap.objs.size+1) scope.names []) (bindC (envOfC qual scope s.heap.objs.size f cd).kindOf (ps.zip us) λ_=>none) s1):
  Inv (md CX P w K mg base N qual scope f cd A outer s H E) [] (start N vs) H s1:=by
 have dB:ps.length<=N.length:=by have:=congrArg mi S.pre;rw [gz] at this;ext this
 obtain ⟨h1,tk,rfl,hk⟩:=x.done
 have GB:∀b:Addr,b∉(md CX P w K mg base N qual scope f cd A outer s H E).ex:=λb z=>absurd (show b∈([]:List Addr) from z) (by simp)
 refine ⟨⟨e0.mod,S.kind,rfl,rfl,bp _,λy z c h1 h2=>?_,λy hy=>?_,λy c _ h=>?_,λ_=>hd,Around.frames_deeper e0.frames,.inr ⟨rfl,rfl⟩,λb z=>absurd z (GB b),e0.bs,e0.q9,λb _ _=>GB b,λb z=>absurd z (GB b),e0.gj,e0.uI⟩,
  rfl,e0.bare,Un.kept hk,⟨_,x.toInCall.ns,λi y v h1 h2 h3=>?_⟩,λy c h=>⟨_,x.cell y c h⟩,e0.bt.fresh (bp _),λy c h=>?_,λp hp=>absurd (show p∈([]:List (Addr×Obj)) from hp) (by simp),e0.bt.kept hk,?_⟩
 .exact name_of_addr x.apart (wZ h1) (wZ h2)
 .have hy:scope.names.lookup y=some .cell\/scope.names.lookup y=some .free:=hy
  rcases hy with hy | hy
  .exact QX hy
  .exact absurd rfl (S.t9 _ (wZ hy))
 .exact AQ (x.above y c (wZ h))
 .have hi:i<vs.length:=by
   unfold start at h2
   by_cases hi:i<vs.length
   .exact hi
   .rw [rg (by simpa using hi)] at h2
    rw [DN] at h2
    split at h2<;>cases h2
  have ha:vs[i]?=some v:=by
   unfold start at h2
   rw [uW (by simpa using hi),uX] at h2
   cases e:vs[i]? with
   | none=>rw [e] at h2;cases h2
   | some a=>rw [e] at h2;cases h2;rfl
  obtain ⟨u,hu,rv⟩:=r.get ha
  have hp:ps[i]?=some y:=by
   rw [<-S.pre,List.getElem?_take_of_lt (by ext hl hi)];exact h1
  have M4:ps.Nodup:=by rw [<-S.pre];exact S.nd.sublist (List.take_sublist _ _)
  refine ⟨u,rv,?_⟩
  rcases S.par y (IT hp) with k | k
  .exact .inl ⟨k,Q5 M4 hp hu k⟩
  .obtain ⟨c,e⟩:=QX (n:=s.heap.objs.size+1) k
   refine .inr ⟨.inl k,c,e,?_⟩
   have q:=x.cell y c e
   rw [Q3 M4 hp hu (by show scope.names.lookup y≠_;rw [k];decide)] at q
   exact q
 .exact e0.bt.fresh (AQ (x.above y c (wZ h)))
 .unfold start
  show _=N.length
  rw [cO,aX,DX]
  ext hl dB
theorem Ar{CX:oF}{P:Program}{w:World}{K:aM}{mg:Str->Option Value}{base:Heap}{k:Nat}{f:Addr}{name qual:Str}{params:Arguments}{body:List Stmt}{scope:Scope}{dV kV doc pm dj ct oc:Value}{an od:Option Addr}
  {rZ:Array (Option Value)}{N ps:List Str}{sp:Sp}(lk:K.lookup f=some ⟨oc,od,.func (jQ name qual params body scope dV kV doc pm an dj ct),rZ⟩)(dC:Dz K dj qual=true)(S:dv N ps scope)
  (len:∀vs H Q E,sp vs H Q E->vs.length=ps.length)
  (dO:∀(A:Around) (outer:List Env) (s:Shared) (H:Hp) (vs:List V) (Q:VK) (E:XK),cu k (A.deeper (envOfC qual scope s.heap.objs.size f dj))->sp vs H Q E ->
   ∃t,mZ (md CX P w K mg base N qual scope f dj A outer s H E) body t/\t { nx:=λ_ H'=>Q .bz H',rt:=Q } (start N vs) H):
  cH P w K mg base CX (k+1) f (jQ name qual params body scope dV kV doc pm an dj ct) ps sp:=by
 refine ⟨len,λA outer s H args us vs Q E hr e0 hb r pT=>?_⟩
 have hl:=len _ _ _ _ pT
 have KX:K.In s.heap:=e0.mod.GL.keeps λb o e=>(e0.bs b o e).1
 have lim:s.heap.NoLimit:=e0.mod.nolimit.keeps λb o e=>(e0.bs b o e).1
 have zO:∀y∈ps.zip us,scope.names.lookup y.1=some .local\/(scope.names.lookup y.1=some .cell/\((cellsFrom (s.heap.objs.size+1) scope.names []).lookup y.1).isSome=true):=λ⟨n,v⟩ hy=>by
  rcases S.par n (wR hy).1 with q | q
  .exact .inl q
  .exact .inr ⟨q,Oj _ _ _ (.inl q)⟩
 refine codeAny_call_function hr.depth (KX _ _ lk) rfl S.co S.gen rfl (PySem.W.codeRec_of KX dC) (hb _ _ _ _ ?_)
 refine wpAny_newFunctionEnv_cells S.kind zO λenv he s1 x=>?_
 subst he
 refine ⟨lim.keeps x.toInCall.keep,codeAny_func ?_⟩
 obtain ⟨t,ht,hq⟩:=dO A outer s H vs Q E (hr.deeper _) pT
 have I:Inv (md CX P w K mg base N qual scope f dj A outer s H E) [] (start N vs) H s1:=b2p S hr.hd e0 hl r x
 refine mR (ht [] s1 (start N vs) H _ I hq) (λfl s' hs=>?_) λe s' hs=>hs
 have fin:∀{aJ:St} {H':Hp} {v:V} {u:Value},Inv (md CX P w K mg base N qual scope f dj A outer s H E) [] aJ H' s'->RelV v u->Q v H'->CE outer P w H s Q u s':=
  λ{aJ H' v u} J rv q=>⟨v,H',J.os,J.bare,J.base,J.bt,rv,q⟩
 cases fl with
 | ret u =>
  obtain ⟨v,aJ,H',J,rv,q⟩:=hs
  exact fin J rv q
 | next =>
  obtain ⟨aJ,H',J,q⟩:=hs
  exact fin (v:=V.bz) (u:=fY) J rfl q
 | brk =>
  obtain ⟨_,_,_,q⟩:=hs
  exact jR q
 | cont =>
  obtain ⟨_,_,_,q⟩:=hs
  exact jR q
end L2
namespace L2
open PySem PySem.Spec PyProof.Rows
section
variable {X:Cx}{x:Str}{p pos:Pos}{e:Expr}{es:List Expr}{t:TA}{id T:String}{r:List V->Hp->VK->Prop}
def MP(r:List V->Hp->VK->Prop)(t:TA):TE:=λσ H Q=>t σ H λvs H1=>r vs H1 Q
theorem xy(hc:pB X (.builtin id) r)(hg:Gl X x)(hm:X.mg x=none)(hv:bootBuiltins x=some (.builtin id))(ha:PA X (e::es) t)(hn:x ≠ "__name__":=by decide)(j9:(x==("__debug__":Str))=false:=by decide)
  (he:starEach (e::es) X.env=(false,eval e X.env)::starEach es X.env:=by rfl)(dB:(backTo pos (starEach es X.env)).any (·.1)=false:=by rfl):PE X (.Call (.Name x p) (e::es) [] pos) (MP r t):=by
 intro pins s σ H Q I h
 refine DZ (s9 I hg hm hv ?_ hn j9)
 exact PyProof.Rows.callWith_builtin1 (bE (ha pos pins s σ H _ I h) λus s1 ⟨vs,H1,I1,r1,q1⟩=>hc pins s1 σ H1 vs us Q I1 r1 q1) he dB
theorem b1W(hc:pB X (.type T) r)(hg:Gl X x)(hm:X.mg x=none)(hv:bootBuiltins x=some (.type T))(ha:PA X (e::es) t)(hn:x ≠ "__name__":=by decide)(j9:(x==("__debug__":Str))=false:=by decide)
  (he:starEach (e::es) X.env=(false,eval e X.env)::starEach es X.env:=by rfl)(dB:(backTo pos (starEach es X.env)).any (·.1)=false:=by rfl):PE X (.Call (.Name x p) (e::es) [] pos) (MP r t):=by
 intro pins s σ H Q I h
 refine DZ (s9 I hg hm hv ?_ hn j9)
 exact AX (bE (ha pos pins s σ H _ I h) λus s1 ⟨vs,H1,I1,r1,q1⟩=>hc pins s1 σ H1 vs us Q I1 r1 q1) he dB
end
end L2
namespace HT
open PySem PyProof.Rows
section
open PySem.SeqAt
open PySem.AutoSeq1 (wpAny_loadPart')
open PySem.MeetsSeq PySem.MeetsSeq2 PySem.MeetsSeq3
end
section
variable {prog:Program}{w:World}{A:Around}{E:Value->Shared->Prop}{s:Shared}
theorem qR(ht:IsTup s.heap t vs.toArray)(hb:IsTup s.heap b ws.toArray)(hv:vs≠[])
  (h1:ws=[]->Q (.ref t) s)(h2:ws≠[]->Q (.ref s.heap.objs.size) { s with heap:=s.heap.push { cls:=.type "tuple",data:=.seq (vs++ws).toArray } })
  (hsz:vs.length+ws.length<=sizeLine):wpAny (model prog w) A (binaryOp .Add (.ref t) (.ref b)) Q E s:=by
 obtain ⟨⟨cls,dd,data,sl⟩,ho,hc,n,hd⟩:=id ht
 obtain ⟨⟨Ik,C',data2,yu⟩,uq,n5,n2,hd2⟩:=id hb
 simp only at hc hd n5 hd2
 subst hc hd n5 hd2
 have e:vs.toArray++ws.toArray=(vs++ws).toArray:=by simp
 by_cases hw:ws=[]
 .exact concat_meets ⟨_,ho,rfl⟩ ⟨_,uq,rfl⟩ ID IM Jk Jq (Jg _ _)
   (tuple_addW1 t b vs.toArray ws.toArray n n2 dd C' sl yu (by simpa using hv) (by simp [hw])) ⟨ho,uq,h1 hw⟩
 .refine concat_meets ⟨_,ho,rfl⟩ ⟨_,uq,rfl⟩ ID IM Jk Jq (Jg _ _)
   (tuple_addW2 t b vs.toArray ws.toArray n n2 dd C' sl yu (by simpa using hv) (by simpa using hw) (by rw [dE,dE];exact hsz)) ⟨ho,uq,?_⟩
  rw [e]
  exact h2 hw
def bC(n d:Nat):Option Int->Nat
 | none=>d
 | some v=>if v<0 then (v+(n:Int)).toNat else min v.toNat n
theorem mG(n d k:Nat):bC n d (some (k:Int))=min k n:=by
 show (if (k:Int)<0 then ((k:Int)+(n:Int)).toNat else min (k:Int).toNat n)=min k n
 rw [if_neg (by ext),Jd]
theorem b7F(n d:Nat)(hd:d<=n)(o:Option Int):bC n d o<=n:=by
 cases o with
 | none=>exact hd
 | some v =>
  show (if v<0 then (v+(n:Int)).toNat else min v.toNat n)<=n
  by_cases hv:v<0
  .rw [if_pos hv];ext hv
  .rw [if_neg hv];exact Nat.min_le_right _ _
theorem Qi(v:Int)(n d:Nat):(if v<0 then max (v+(n:Int)) 0 else min v (n:Int))=((bC n d (some v):Nat):Int):=by
 show (if v<0 then max (v+(n:Int)) 0 else min v (n:Int))=(((if v<0 then (v+(n:Int)).toNat else min v.toNat n):Nat):Int)
 by_cases hv:v<0
 .simp only [if_pos hv];ext
 .simp only [if_neg hv];ext hv
theorem b09(lo hi:Option Int)(n:Nat):Jh lo hi 1 (n:Int)=(((bC n 0 lo:Nat):Int),((bC n n hi:Nat):Int)):=by
 have h1:¬((1:Int)<0):=by decide
 unfold Jh
 simp only [h1,if_false]
 refine Dc ?_ ?_
 .cases lo with
  | none=>rfl
  | some v=>exact Qi v n 0
 .cases hi with
  | none=>rfl
  | some v=>exact Qi v n n
theorem b0O(i j:Nat):DR (i:Int) (j:Int) 1=j-i:=by
 unfold DR
 have h1:(1:Int)>0:=by decide
 simp only [h1,if_true,Int.ediv_one]
 split<;>lia
theorem RG(p:IsPart v o)(h:Q o s):wpAny (model prog w) A (Builtin.Slice.slicePartIndex v) Q E s:=by
 cases p with
 | none=>exact slicePart_none h
 | int i t=>exact slicePart_int h
theorem a5M{lo hi:Option Int}{n:Nat}(hs:s.heap.IsSliceOf sl vl vu .none)(pl:IsPart vl lo)(pu:IsPart vu hi)
  (h:Q (((bC n 0 lo:Nat):Int),1,bC n n hi-bC n 0 lo) s):wpAny (model prog w) A (OM (.ref sl) (pure (n:Int))) Q E s:=by
 obtain ⟨os,uk,wx,zW⟩:=id hs
 unfold OM Builtin.Slice.sliceFields
 refine aB (aB (ly uk zW (x:=vl) rfl (aB (ly uk zW (x:=vu) rfl (aB (ly uk zW (x:=.none) rfl (bI ?_)))))))
 refine aB (slicePart_none ?_)
 show wpAny _ _ (if ((1:Int)==0)=true then _ else _) _ _ s
 rw [if_neg (by decide)]
 refine aB (RG pl (aB (RG pu (aB (bI ?_)))))
 show wpAny _ _ (match Jh lo hi 1 (n:Int) with | (lo,hi)=>pure (lo,(1:Int),DR lo hi 1)) _ _ s
 rw [b09 lo hi n]
 show wpAny _ _ (pure (((bC n 0 lo:Nat):Int),(1:Int),DR ((bC n 0 lo:Nat):Int) ((bC n n hi:Nat):Int) 1)) _ _ s
 rw [b0O]
 exact bI h
theorem b3B(xs:Array Value)(i k:Nat):((ko k).filterMap λ(m:Nat)=>xs[((i:Int)+(m:Int)*1).toNat]?).toArray=((xs.toList.drop i).take k).toArray:=by
 have e:(λ(m:Nat)=>xs[((i:Int)+(m:Int)*1).toNat]?)=λm=>xs[i+m]?:=by
  funext m
  have:((i:Int)+(m:Int)*1).toNat=i+m:=by ext
  rw [this]
 rw [e]
 have:=pick_run xs i k
 rw [List.filterMap_map] at this
 have e2:((λx=>xs[x]?)∘λx=>i+x)=λm=>xs[i+m]?:=rfl
 rw [e2] at this
 rw [this]
theorem fB{items:Array Value}{lo hi:Option Int}(ht:IsTup s.heap t items)(hs:s.heap.IsSliceOf sl vl vu .none)(pl:IsPart vl lo)(pu:IsPart vu hi)
  (hw:¬(bC items.size 0 lo=0/\bC items.size items.size hi=items.size))
  (h:Q (.ref s.heap.objs.size) { s with heap:=s.heap.push { cls:=.type "tuple",data:=.seq ((items.toList.drop (bC items.size 0 lo)).take (bC items.size items.size hi-bC items.size 0 lo)).toArray } })
  (hsz:items.size<=sizeLine):wpAny (model prog w) A (getItem (.ref t) (.ref sl)) Q E s:=by
 have mK:sizeOk (.seq ((items.toList.drop (bC items.size 0 lo)).take (bC items.size items.size hi-bC items.size 0 lo)).toArray):=by
  show ((items.toList.drop (bC items.size 0 lo)).take (bC items.size items.size hi-bC items.size 0 lo)).toArray.size<=sizeLine
  rw [dE,gz,lD,gW]
  ext hsz
 have hj:bC items.size items.size hi<=items.size:=b7F _ _ (bp _) hi
 obtain ⟨os,uk,wx,zW⟩:=id hs
 have Af:s.TypeIs (.ref sl) "slice":=⟨os,uk,wx⟩
 unfold getItem
 try with_reducible refine sL ?_
 first | refine aB (bI ?_) | skip
 refine aB (wpAny_sequenceKey ht.typeIs (by decide) ?_)
 refine aB (wW (name:=qS "__getitem__") ht.typeIs D0
  (u5 D0 ht.typeIs entry_tuple_getitem ?_ (args_tuple_getitem _ _)))
 show wpAny _ _ (Builtin.Tuple.tupleItemsOf (.ref t) >>= _) _ _ s
 refine aB (tupleItemsOf_ ht ?_)
 refine aB (wpAny_typeOf Af ?_)
 rw [if_pos (by decide)]
 refine aB (a5M hs pl pu ?_)
 have XU:¬((((bC items.size 0 lo:Nat):Int)==0&&(1:Int)==1&&(bC items.size items.size hi-bC items.size 0 lo)==items.size)=true):=by
  intro q
  rw [AW,AW] at q
  have q1:((bC items.size 0 lo:Nat):Int)=0:=eq_of_beq q.1.1
  have q2:bC items.size items.size hi-bC items.size 0 lo=items.size:=eq_of_beq q.2
  exact hw ⟨by ext q1,by ext q1 q2⟩
 show wpAny _ _ (if (((bC items.size 0 lo:Nat):Int)==0&&(1:Int)==1&&(bC items.size items.size hi-bC items.size 0 lo)==items.size)=true then _ else _) _ _ s
 rw [if_neg XU,b3B]
 first
  | exact aB (m:=DP _) (u7 (bI ⟨_,rfl,bI h⟩) mK)
  | exact aB (m:=DP _) (u7 (aB (bI (bI ⟨_,rfl,bI h⟩))) mK)
  | exact aB (aB (m:=DP _) (u7 (bI (bI ⟨_,rfl,bI h⟩)) mK))
  | exact aB (aB (m:=DP _) (u7 (bI ⟨_,rfl,bI h⟩) mK))
end
end HT
namespace L2
open PySem PySem.Spec PyProof.Rows
abbrev TO:=St->Hp->(Option Int->Hp->Prop)->Prop
def PO(X:Cx)(e:Option Expr)(t:TO):Prop:=
 ∀(pins:List (Addr×Obj)) (s:Shared) (σ:St) (H:Hp) (Q:Option Int->Hp->Prop),Inv X pins σ H s->t σ H Q ->
  wpAny (model X.prog X.w) X.A (evalPart e X.env) (λu s'=>∃o H',Inv X pins σ H' s'/\IsPart u o/\Q o H') X.xe s
def b5z:TO:=λ_ H Q=>Q none H
def ye(t:TE):TO:=λσ H Q=>t σ H λx H1=>∃i,x=.int i/\Q (some i) H1
theorem intsAre_of:∀{us:List Value},aC (ns.map V.int) us->IntsAre us ns:=by
 induction ns with
 | nil=>intro us r;rw [wF] at r;cases r;exact .nil
 | cons n ns ih =>
  intro us r
  rw [fo] at r
  cases r with
  | cons r1 r2 =>
   obtain ⟨t,e⟩:=r1
   subst e
   exact .cons n t (ih r2)
section
variable {X:Cx}{e:Expr}{te:TE}{lo hi:Option Expr}{tl th:TO}{pos p2:Pos}
theorem b5Q:PO X none b5z:=by
 intro pins s σ H Q I h
 rw [evalPart_none]
 exact bI ⟨none,H,I,.none,h⟩
theorem b5P(h:PE X e te):PO X (some e) (ye te):=by
 intro pins s σ H Q I hw
 rw [evalPart_some]
 refine bE (h pins s σ H _ I hw) λu s1 ⟨x,H1,I1,r1,q1⟩=>?_
 obtain ⟨i,rfl,q⟩:=q1
 obtain ⟨t,rfl⟩:=r1
 exact ⟨some i,H1,I1,.int i t,q⟩
def vR(X:Cx)(r:V->Option Int->Option Int->Hp->VK->Prop):Prop:=
 ∀(pins:List (Addr×Obj)) (s:Shared) (σ:St) (H:Hp) (x:V) (v vl vu:Value) (lo hi:Option Int) (sl:Addr) (Q:VK),Inv X pins σ H s->RelV x v->s.heap.IsSliceOf sl vl vu .none->IsPart vl lo->IsPart vu hi->r x lo hi H Q ->
  ∃T id,typeLookup (.type T) "__getitem__" = pure (some (.builtin id))/\s.TypeIs v T/\wpAny (model X.prog X.w) X.A (getItem v (.ref sl)) (EP X pins σ Q) X.xe s
theorem vR.or(h:vR X r)(h':vR X r'):vR X (λx lo hi H Q=>r x lo hi H Q\/r' x lo hi H Q):=by
 intro pins s σ H x v vl vu lo hi sl Q I rx hs pl pu q
 rcases q with q | q
 .exact h pins s σ H x v vl vu lo hi sl Q I rx hs pl pu q
 .exact h' pins s σ H x v vl vu lo hi sl Q I rx hs pl pu q
def Tf(r:V->Option Int->Option Int->Hp->VK->Prop)(te:TE)(tl th:TO):TE:=λσ H Q=>te σ H λx H1=>tl σ H1 λl H2=>th σ H2 λu H3=>r x l u H3 Q
theorem b3E(hr:vR X r)(he:PE X e te)(hl:PO X lo tl)(hu:PO X hi th):PE X (.Subscript e (.Slice lo hi none p2) pos) (Tf r te tl th):=by
 intro pins s σ H Q I h
 refine Subscript_ (bE (he pins s σ H _ I h) λv s1 ⟨x,H1,I1,r1,q1⟩=>?_)
 refine wpAny_Slice (bE (hl pins s1 σ H1 _ I1 q1) λvl s2 ⟨l,H2,I2,pl,q2⟩=>bE (hu pins s2 σ H2 _ I2 q2) λvu s3 ⟨u,H3,I3,pu,q3⟩=>?_)
 rw [evalPart_none]
 refine bI ?_
 have I4:Inv X pins σ H3 { s3 with heap:=s3.heap.push { cls:=.type "slice",data:=.fields #[vl,vu,.none] } }:=I3.kept (t':=s3.toks) λb ob q=>bR _ q
 obtain ⟨T,id,hT,ht,hg⟩:=hr pins { s3 with heap:=s3.heap.push { cls:=.type "slice",data:=.fields #[vl,vu,.none] } } σ H3 x v vl vu l u s3.heap.objs.size Q I4 r1 (Heap.IsSliceOf.new ..) pl pu q3
 show wpAny (model X.prog X.w) X.A (subscriptTail e (.Slice lo hi none p2) v (.ref s3.heap.objs.size)) (EP X pins σ Q) X.xe { s3 with heap:=s3.heap.push { cls:=.type "slice",data:=.fields #[vl,vu,.none] } }
 exact tail_any (ops:=[.ref s3.heap.objs.size,v]) ht hT hg (by with_unfolding_all rfl)
def km(xs:List V)(lo hi:Option Int):List V:=(xs.drop (HT.bC xs.length 0 lo)).take (HT.bC xs.length xs.length hi-HT.bC xs.length 0 lo)
theorem RU(xs:List V)(lo hi:Option Int):(km xs lo hi).length<=xs.length:=by
 unfold km
 rw [gz,lD]
 ext
def Gh(K:aM):V->Option Int->Option Int->Hp->VK->Prop:=λx lo hi H Q=>∃a xs,x=.ref a/\fq K H a xs /\
 ¬(HT.bC xs.length 0 lo=0/\HT.bC xs.length xs.length hi=xs.length)/\∀p,H p=none->Q (.ref p) (upd H p (.tup (km xs lo hi)))
theorem b7C:vR X (Gh X.K):=by
 intro pins s σ H x v vl vu lo hi sl Q I rx hs pl pu h
 obtain ⟨a,xs,rfl,hx,hw,q⟩:=h
 cases rx
 obtain ⟨ar,r,ht,hz⟩:=I.tuple hx
 have hlen:ar.toArray.size=xs.length:=by rw [dE];exact r.length.symm
 refine ⟨"tuple",_,D0.lookup,ht.typeIs,?_⟩
 refine HT.fB ht hs pl pu (by rw [hlen];exact hw) ?_ (by rw [hlen];exact hz)
 rw [hlen]
 refine ⟨.ref s.heap.objs.size,_,I.laid (t':=s.toks) (o:=.tup (km xs lo hi)) (λb ob q=>bR _ q) (bp _) ?_,rfl,q _ (I.bt.fresh (bp _))⟩
 exact ⟨fm (RU xs lo hi) hz,_,(r.drop (HT.bC xs.length 0 lo)).take (HT.bC xs.length xs.length hi-HT.bC xs.length 0 lo),IsTup.new _ _⟩
def yD(K:aM):R2:=λx y H Q=>∃a b xs ys,x=.ref a/\y=.ref b/\fq K H a xs/\fq K H b ys/\xs≠[]/\xs.length+ys.length<=sizeLine /\
 (ys=[]->Q (.ref a) H)/\(ys≠[]->∀p,H p=none->Q (.ref p) (upd H p (.tup (xs++ys))))
theorem aC.d9(r:aC xs us):us=[]↔xs=[]:=by
 cases r with
 | nil=>simp
 | cons _ _=>simp
theorem qA:gu X (binaryOp .Add) (yD X.K):=by
 intro pins s σ H x y v u Q I rx ry h
 obtain ⟨a,b,xs,ys,rfl,rfl,ha,hb,hx,hz,q1,q2⟩:=h
 cases rx
 cases ry
 obtain ⟨ar,r1,p1,_⟩:=I.tuple ha
 obtain ⟨cj,r2,p2,_⟩:=I.tuple hb
 refine HT.qR p1 p2 (λz=>hx (r1.d9.mp z)) (λz=>⟨.ref a,H,I,rfl,q1 (r2.d9.mp z)⟩) (λz=>?_) (by rw [<-r1.length,<-r2.length];exact hz)
 refine ⟨.ref s.heap.objs.size,_,I.laid (t':=s.toks) (o:=.tup (xs++ys)) (λb ob q=>bR _ q) (bp _) ?_,rfl,q2 (λw=>z (r2.d9.mpr w)) _ (I.bt.fresh (bp _))⟩
 exact ⟨by rw [cO];exact hz,_,r1.append r2,IsTup.new _ _⟩
end
end L2
namespace L2
open PySem PySem.Spec PyProof.Rows
def lZ(n:Nat)(i:Int):Option Nat:=if 0<=i then (if i<n then some i.toNat else none) else if -(n:Int)<=i then some (i+n).toNat else none
def dF{α:Type}(xs:List α)(i:Int):Option α:=(lZ xs.length i).bind λj=>xs[j]?
theorem Qf(h:lZ n i=some j):seqIndex? i n=some j/\j<n /\ -(n:Int)<=i/\i<n:=by
 unfold lZ at h
 by_cases h0:0<=i
 .rw [if_pos h0] at h
  by_cases h1:i<n
  .rw [if_pos h1] at h
   have e:i.toNat=j:=cG h
   exact ⟨by rw [seqIndex_of h0 h1,e],by ext h0 h1 e,by ext h0,h1⟩
  .rw [if_neg h1] at h;cases h
 .rw [if_neg h0] at h
  by_cases h1:-(n:Int)<=i
  .rw [if_pos h1] at h
   have e:(i+n).toNat=j:=cG h
   exact ⟨by rw [seqIndex_neg (by ext h0) h1,e],by ext h0 h1 e,h1,by ext h0⟩
  .rw [if_neg h1] at h;cases h
theorem Kl{α:Type}{xs:List α}{i:Int}{v:α}(h:dF xs i=some v):∃j,seqIndex? i xs.length=some j/\xs[j]?=some v/\j<xs.length /\ -(xs.length:Int)<=i/\i<xs.length:=by
 unfold dF at h
 cases e:lZ xs.length i with
 | none=>rw [e] at h;cases h
 | some j =>
  rw [e] at h
  obtain ⟨h1,h2,h3,h4⟩:=Qf e
  exact ⟨j,h1,h,h2,h3,h4⟩
def Qm(b:Expr):Prop:=∀o i,subscripted b false o i=operate [o,i] (getItem o i)
def rR(X:Cx)(r:R2):Prop:=
 ∀(value slice:Expr) (pins:List (Addr×Obj)) (s:Shared) (σ:St) (H:Hp) (x y:V) (v u:Value) (Q:VK),Inv X pins σ H s->RelV x v->RelV y u->r x y H Q ->
  subscripted slice false v u=operate [v,u] (getItem v u)->wpAny (model X.prog X.w) X.A (subscriptTail value slice v u) (EP X pins σ Q) X.xe s
def S1(X:Cx)(id:String)(r:V->List V->Hp->VK->Prop):Prop:=
 ∀(pins:List (Addr×Obj)) (s:Shared) (σ:St) (H:Hp) (x:V) (xs:List V) (v:Value) (us:List Value) (Q:VK),Inv X pins σ H s->RelV x v->aC xs us->r x xs H Q ->
  wpAny (model X.prog X.w) X.A (call (.builtin id) (v::us)) (EP X pins σ Q) X.xe s
section
variable {X:Cx}{a b:Expr}{ta tb:TE}{pos:Pos}
theorem rR.or(h:rR X r)(h':rR X r'):rR X (λx y H Q=>r x y H Q\/r' x y H Q):=by
 intro value slice pins s σ H x y v u Q I rx ry q hs
 rcases q with q | q
 .exact h value slice pins s σ H x y v u Q I rx ry q hs
 .exact h' value slice pins s σ H x y v u Q I rx ry q hs
theorem yL(hr:rR X r)(ha:PE X a ta)(hb:PE X b tb)(hs:Qm b):PE X (.Subscript a b pos) (yf r ta tb):=by
 intro pins s σ H Q I h
 exact Subscript_ (u9 ha hb I h λv u s2 x y H2 I2 rx ry q=>hr a b pins s2 σ H2 x y v u Q I2 rx ry q (hs _ _))
def yC(K:aM):R2:=λx y H Q=>∃p xs i v,x=.ref p/\y=.int i/\eN K H p xs/\dF xs i=some v/\Q v H
def yA(K:aM):R2:=λx y H Q=>∃p xs i v,x=.ref p/\y=.int i/\fq K H p xs/\dF xs i=some v/\Q v H
def yB:R2:=λx y H Q=>∃z i c,x=.str z/\y=.int i/\z.length<=sizeLine/\dF z.cps.toList i=some c/\Q (.str ⟨#[c]⟩) H
theorem qF:rR X (yC X.K):=by
 intro value slice pins s σ H x y v u Q I rx ry h hs
 obtain ⟨p,xs,i,z,rfl,rfl,hq,he,q⟩:=h
 cases rx
 obtain ⟨t,rfl⟩:=ry
 obtain ⟨ar,r,pl,hz⟩:=I.list hq
 obtain ⟨j,h1,h2,h3,h4,h5⟩:=Kl he
 obtain ⟨w,ew,yw⟩:=r.get h2
 have hl:=r.length
 have hn:=xk
 have fin:EP X pins σ Q w s:=⟨z,H,I,yw,q⟩
 by_cases h0:0<=i
 .have hj:i.toNat=j:=by
   rw [seqIndex_of h0 h5] at h1
   exact cG h1
  exact item_listR pl.isList h0 (by ext hz h5 hn) (by rw [hj];simpa using ew) fin hs
 .have hj:(i+(ar.toArray.size:Int)).toNat=j:=by
   rw [seqIndex_neg (Df.mp ‹_›) h4] at h1
   rw [dE,<-hl]
   exact cG h1
  exact subscriptTail_builtinR (x:=w) pl.isList.typeIs slot_list_getitem.lookup
   (wpAny_getItem_list_neg (Q:=λr s'=>r=w/\EP X pins σ Q r s') pl.isList (Df.mp ‹_›) (by rw [dE]<;>lia) (by lia) (by rw [hj];simpa using ew) ⟨rfl,fin⟩) hs
theorem ue:rR X (yA X.K):=by
 intro value slice pins s σ H x y v u Q I rx ry h hs
 obtain ⟨p,xs,i,z,rfl,rfl,hq,he,q⟩:=h
 cases rx
 obtain ⟨t,rfl⟩:=ry
 obtain ⟨ar,r,pl,hz⟩:=I.tuple hq
 obtain ⟨j,h1,h2,h3,h4,h5⟩:=Kl he
 obtain ⟨w,ew,yw⟩:=r.get h2
 have hl:=r.length
 have hn:=xk
 have fin:EP X pins σ Q w s:=⟨z,H,I,yw,q⟩
 exact subscriptTail_builtinR (x:=w) pl.typeIs D0.lookup
  (getItem_tuple (j:=j) (Q:=λr s'=>r=w/\EP X pins σ Q r s') pl (by (clear he hs h1 h2 h5 ew;omega)) (by (clear he hs h1 h2 h4 ew;omega)) (by rw [dE,<-hl];exact h1) (by simpa using ew) ⟨rfl,fin⟩) hs
theorem b8h:rR X yB:=by
 intro value slice pins s σ H x y v u Q I rx ry h hs
 obtain ⟨z,i,c,rfl,rfl,hz,he,q⟩:=h
 obtain ⟨t,rfl⟩:=rx
 obtain ⟨t',rfl⟩:=ry
 obtain ⟨j,h1,h2,h3,h4,h5⟩:=Kl he
 have hl:z.cps.toList.length=z.length:=by simp [Str.length]
 rw [hl] at h1 h4 h5
 have hn:=xk
 exact tail_any (typeIs_str s z t) slot_str_getitem.lookup (getItem_str (c:=c) (by
  have e1:decide (i < -(2^63:Int))=false:=decide_eq_false (by lia)
  have e2:decide (i≥2^63)=false:=decide_eq_false (by lia)
  rw [e1,e2,Bool.or_false]) (by rw [h1];simpa using h2) ⟨.str ⟨#[c]⟩,H,I.tok _,⟨_,rfl⟩,q⟩) hs
def Ux(K:aM):R2:=λx y H Q=>yC K x y H Q\/yA K x y H Q\/yB x y H Q
theorem b8i:rR X (Ux X.K):=qF.or (ue.or b8h)
theorem b00(ar:List Value)(n j:Nat)(u:Value):fO (·.setIfInBounds j u) { cls:=.type "list",data:=.seq ar.toArray n }={ cls:=.type "list",data:=.seq (ar.set j u).toArray n }:=by
 simp [fO]
theorem Inv.lst(I:Inv X pins σ H s)(h:H p=some (.lst xs)):
  ∃(ar:List Value) (n:Nat),aC xs ar/\s.heap.get? p=some { cls:=.type "list",data:=.seq ar.toArray n }/\xs.length<=sizeLine:=by
 obtain ⟨z,ar,n,r,e⟩:=I.bt p _ h
 exact ⟨ar,n,r,e,z⟩
theorem Inv.ub{pins:List (Addr×Obj)}{σ:St}{H:Hp}{s:Shared}{p:Addr}{xs ys:List V}{ar its':List Value}{n n':Nat}{f:Obj->Obj}(I:Inv X pins σ H s)(h:H p=some (.lst xs))
  (ho:s.heap.get? p=some { cls:=.type "list",data:=.seq ar.toArray n })(hf:f { cls:=.type "list",data:=.seq ar.toArray n }={ cls:=.type "list",data:=.seq its'.toArray n' })(r:aC ys its')(hz:ys.length<=sizeLine)(t:Nat):
  Inv X pins σ (upd H p (.lst ys)) { s with heap:=s.heap.update p f,toks:=t }:=by
 have e:(s.heap.update p f).get? p=some { cls:=.type "list",data:=.seq its'.toArray n' }:=by
  rw [Of f ho (by rw [hf]<;>rfl),hf]
 refine I.write (x:=p) (e:=p) (by rw [h];trivial) (.inl rfl) (λb u hb q=>(DK _ _ (og hb)).trans q) ⟨_,e⟩ ?_
 exact ⟨hz,its',n',r,e⟩
def yz:V->V->V->Hp->(Hp->Prop)->Prop:=λo i v H Q=>∃p xs k j,o=.ref p/\i=.int k/\H p=some (.lst xs)/\lZ xs.length k=some j/\Q (upd H p (.lst (xs.set j v)))
theorem b3l:Cg X yz:=by
 intro pins s σ H o i v ov iv u Q I ro ri rv h
 obtain ⟨p,xs,k,j,rfl,rfl,hp,hj,q⟩:=h
 cases ro
 obtain ⟨t,rfl⟩:=ri
 obtain ⟨ar,n,r,ho,hz⟩:=I.lst hp
 obtain ⟨h1,h2,h3,h4⟩:=Qf hj
 have hl:=r.length
 have hn:=xk
 have I':Inv X pins σ (upd H p (.lst (xs.set j v))) { s with heap:=s.heap.update p (fO (·.setIfInBounds j u)) }:=
  I.ub hp ho (b00 ar n j u) (r.set rv j) (by rw [List.length_set];exact hz) s.toks
 by_cases h0:0<=k
 .have hk:k.toNat=j:=by
   rw [seqIndex_of h0 h4] at h1
   exact cG h1
  exact PySem.W.ki_setAt ho h0 (by lia) (by rw [dE,<-hl];exact h4) (by rw [hk];exact ⟨_,I',q⟩)
 .have hk:(k+(ar.toArray.size:Int)).toNat=j:=by
   rw [seqIndex_neg (Df.mp ‹_›) h3] at h1
   rw [dE,<-hl]
   exact cG h1
  exact PySem.W.ki_setBack ho (Df.mp ‹_›) (by rw [dE,<-hl];exact h3) (by lia) (by rw [hk];exact ⟨_,I',q⟩)
theorem a8A(lo hi:Option Int)(n:Nat):(sliceBounds lo hi none n).1=((HT.bC n 0 lo:Nat):Int)/\(sliceBounds lo hi none n).2.1=((HT.bC n n hi:Nat):Int)/\(sliceBounds lo hi none n).2.2=1:=by
 refine ⟨?_,?_,rfl⟩
 .cases lo with
  | none=>simp [sliceBounds,HT.bC]
  | some i =>
   simp only [sliceBounds,HT.bC,N9,show (1:Int)>0 by decide,if_true]
   by_cases h:i<0
   .simp only [h,if_true]<;>lia
   .simp only [h,if_false]<;>lia
 .cases hi with
  | none=>simp [sliceBounds,HT.bC]
  | some i =>
   simp only [sliceBounds,HT.bC,N9,show (1:Int)>0 by decide,if_true]
   by_cases h:i<0
   .simp only [h,if_true]<;>omega
   .simp only [h,if_false]<;>omega
theorem a7H(ar:List Value)(lo hi:Option Int):slicePick ar.toArray lo hi none=((ar.drop (HT.bC ar.length 0 lo)).take (HT.bC ar.length ar.length hi-HT.bC ar.length 0 lo)).toArray:=by
 obtain ⟨h1,h2,h3⟩:=a8A lo hi ar.toArray.size
 unfold slicePick
 rw [h1,h2,h3]
 simp only [sliceRange_one,pick_run,dE]<;>rfl
def Gi(K:aM):V->Option Int->Option Int->Hp->VK->Prop:=λx lo hi H Q=>∃a xs,x=.ref a/\eN K H a xs/\∀p,H p=none->Q (.ref p) (upd H p (.lst (km xs lo hi)))
theorem qy:vR X (Gi X.K):=by
 intro pins s σ H x v vl vu lo hi sl Q I rx hs pl pu h
 obtain ⟨a,xs,rfl,hx,q⟩:=h
 cases rx
 obtain ⟨ar,r,ht,hz⟩:=I.list hx
 have hlen:=r.length
 refine ⟨"list",_,slot_list_getitem.lookup,ht.isList.typeIs,?_⟩
 refine wpAny_getItem_list_slice ht.isList hs pl pu .none (by simp) ?_ (by rw [dE]<;>lia)
 rw [a7H,<-hlen]
 refine ⟨.ref s.heap.objs.size,_,I.laid (t':=s.toks) (o:=.lst (km xs lo hi)) (λb ob q=>bR _ q) (bp _) ?_,rfl,q _ (I.bt.fresh (bp _))⟩
 exact ⟨fm (RU xs lo hi) hz,_,0,(r.drop (HT.bC xs.length 0 lo)).take (HT.bC xs.length xs.length hi-HT.bC xs.length 0 lo),fN _ rfl⟩
theorem a88:pB X (.builtin "len") (λxs H Q=>∃p ys,xs=[.ref p]/\(eN X.K H p ys\/fq X.K H p ys)/\Q (.int ys.length) H):=by
 intro pins s σ H xs us Q I r h
 obtain ⟨p,ys,rfl,hq,q⟩:=h
 obtain ⟨u,rfl,rx⟩:=vals1 r
 cases rx
 have hn:=xk
 rcases hq with hq | hq
 .obtain ⟨ar,r',pl,hz⟩:=I.list hq
  have hlen:=r'.length
  exact Calls.call_len_list pl.isList (by simp only [dE]<;>lia) ⟨.int ys.length,H,I.tok _,⟨s.toks+1,by rw [dE,hlen]⟩,q⟩
 .obtain ⟨ar,r',pl,hz⟩:=I.tuple hq
  have hlen:=r'.length
  exact len_tuple pl (by simp only [dE]<;>omega) ⟨.int ys.length,H,I.tok _,⟨s.toks+1,by rw [dE,hlen]⟩,q⟩
theorem a79:pB X (.type "tuple") (λxs H Q=>∃p ys,xs=[.ref p]/\((eN X.K H p ys/\∀l,H l=none->Q (.ref l) (upd H l (.tup ys)))\/(fq X.K H p ys/\Q (.ref p) H))):=by
 intro pins s σ H xs us Q I r h
 obtain ⟨p,ys,rfl,h⟩:=h
 obtain ⟨u,rfl,rx⟩:=vals1 r
 cases rx
 rcases h with ⟨hq,q⟩ | ⟨hq,q⟩
 .obtain ⟨ar,r',pl,hz⟩:=I.list hq
  have hlen:=r'.length
  refine call_tuple_list pl.isList (λh' kp=>?_) (by simp only [dE]<;>omega)
  have I1:Inv X pins σ H { s with heap:=h' }:=I.kept (t':=s.toks) kp
  have I2:Inv X pins σ (upd H h'.objs.size (.tup ys)) { s with heap:=h'.push { cls:=.type "tuple",data:=.seq ar.toArray } }:=
   I1.laid (t':=s.toks) (λb o e=>bR _ e) (bp _) (show cQ X.prog X.w _ _ _ (.tup ys) from ⟨hz,ar,r',IsTup.new _ _⟩)
  exact ⟨.ref h'.objs.size,_,I2,rfl,q _ (I1.bt.fresh (bp _))⟩
 .obtain ⟨ar,r',pl,hz⟩:=I.tuple hq
  exact call_tuple_same pl ⟨.ref p,H,I,rfl,q⟩
def FR(K:aM)(T:String)(x:V)(H:Hp):Prop:=match x with
 | .str _=>T = "str"
 | .int _=>T = "int"
 | .ref p=>(T = "list" /\ ∃xs,eN K H p xs)\/(T = "tuple" /\ ∃o,K.lookup p=some o/\o.cls=.type "tuple" /\ o.dict=none) \/
   (T = "dict" /\ ((∃bG,H p=some (.dK bG))\/∃bG,H p=some (.dT bG)))\/(T = "set" /\ ∃S n,H p=some (.set S n))
 | _=>False
theorem PU{pins:List (Addr×Obj)}{σ:St}{H:Hp}{s:Shared}{T:String}{x:V}{v:Value}(I:Inv X pins σ H s)(r:RelV x v)(ty:FR X.K T x H):
  s.TypeIs v T/\∀a,v=.ref a->∃ob,s.heap.get? a=some ob/\ob.dict=none:=by
 cases x with
 | str z =>
  obtain ⟨t,rfl⟩:=r
  cases (show T = "str" from ty)
  exact ⟨typeIs_str s z t,λ_ e=>nomatch e⟩
 | int i =>
  obtain ⟨t,rfl⟩:=r
  cases (show T = "int" from ty)
  exact ⟨typeIs_int s i t,λ_ e=>nomatch e⟩
 | ref p =>
  cases r
  rcases ty with ⟨rfl,xs,hq⟩ | ⟨rfl,o,hk,hc,hd⟩ | ⟨rfl,hk⟩ | ⟨rfl,S,n,hk⟩
  .obtain ⟨ar,_,pl,_⟩:=I.list hq
   refine ⟨pl.isList.typeIs,λa e=>?_⟩
   cases e
   obtain ⟨o,n,e,c,hd,_⟩:=pl
   exact ⟨o,e,hd⟩
  .refine ⟨⟨o,I.ud p o hk,hc⟩,λa e=>?_⟩
   cases e
   exact ⟨o,I.ud _ o hk,hd⟩
  .have z:∃o,s.heap.get? p=some o/\o.ExactDict:=by
    rcases hk with ⟨bG,hk⟩ | ⟨bG,hk⟩
    .obtain ⟨_,_,_,_,o,_,_,e,ex,_⟩:=I.bt p _ hk
     exact ⟨o,e,ex⟩
    .obtain ⟨_,_,_,_,o,_,_,e,ex,_⟩:=I.bt p _ hk
     exact ⟨o,e,ex⟩
   obtain ⟨o,e,ex⟩:=z
   refine ⟨⟨o,e,ex.1⟩,λa e2=>?_⟩
   cases e2
   exact ⟨o,e,ex.2.1⟩
  .obtain ⟨o,_,_,_,e,ex,_⟩:=I.bt p _ hk
   refine ⟨⟨o,e,ex.1⟩,λa e2=>?_⟩
   cases e2
   exact ⟨o,e,ex.2.1⟩
 | _=>exact jR ty
def F4(K:aM)(T:String)(r:V->List V->Hp->VK->Prop)(to:TE):TE:=λσ H Q=>to σ H λx H1=>FR K T x H1/\r x [] H1 Q
def Ti(K:aM)(T:String)(r:V->List V->Hp->VK->Prop)(to:TE)(t:TA):TE:=λσ H Q=>to σ H λx H1=>FR K T x H1/\t σ H1 λxs H2=>r x xs H2 Q
variable {o e:Expr}{es:List Expr}{to:TE}{t:TA}{name:Str}{apos aZ:Pos}{T id:String}{r:V->List V->Hp->VK->Prop}
theorem b7V(pa:PlainAttrs T)(slot:Slot T name id)(ug:typeOf (.builtin id)=pure (.type "method_descriptor"))(hm:S1 X id r)(ho:PE X o to)
  (cN:attributeBase o name X.env (eval o X.env)=eval o X.env:=by rfl)(cM:(apos.endLine==aZ.line)=true:=by rfl):PE X (.Call (.Attribute o name apos) [] [] aZ) (F4 X.K T r to):=by
 intro pins s σ H Q I h
 refine wpAny_Call_method0_late cN cM (bE (ho pins s σ H _ I h) λv s1 ⟨x,H1,I1,r1,ty,q1⟩=>?_)
 obtain ⟨h1,h2⟩:=PU I1 r1 ty
 exact ⟨T,id,pa,slot,ug,h1,h2,Oi rfl (PySem.evalArgs_none (hm pins s1 σ H1 x [] v [] Q I1 r1 .nil q1))⟩
theorem Pa(pa:PlainAttrs T)(slot:Slot T name id)(ug:typeOf (.builtin id)=pure (.type "method_descriptor"))(hm:S1 X id r)(ho:PE X o to)(ha:PA X (e::es) t)
  (cN:attributeBase o name X.env (eval o X.env)=eval o X.env:=by rfl)
  (jv:((backTo aZ (starEach (e::es) X.env)).all (λx=>!x.1)&&(backToKw aZ (keywordEach [] X.env)).all (λx=>x.1.isSome)
   && decide ((e::es).length+([]:List Keyword).length+(if ([]:List Keyword).isEmpty then 0 else 1)<30))=true:=by rfl)
  (cM:(apos.endLine==aZ.line)=true:=by rfl)(hs:starEach (e::es) X.env=(false,eval e X.env)::starEach es X.env:=by rfl)(uj:(backTo aZ (starEach es X.env)).any (·.1)=false:=by rfl):
  PE X (.Call (.Attribute o name apos) (e::es) [] aZ) (Ti X.K T r to t):=by
 intro pins s σ H Q I h
 refine wpAny_Call_method_late cN jv cM rfl (bE (ho pins s σ H _ I h) λv s1 ⟨x,H1,I1,r1,ty,q1⟩=>?_)
 obtain ⟨h1,h2⟩:=PU I1 r1 ty
 refine ⟨T,id,pa,slot,ug,h1,h2,?_⟩
 have hA:=ha aZ pins s1 σ H1 _ I1 q1
 rw [hs] at hA ⊢
 refine Oi (by show (false||(backTo aZ (starEach es X.env)).any (·.1))=false;rw [uj]<;>rfl) (Calls.evalArgs_plain ?_)
 exact bE hA λus s2 ⟨vs,H2,I2,r2,q2⟩=>hm pins s2 σ H2 x vs v us Q I2 r1 r2 q2
end
end L2
namespace L2
open PySem PySem.Spec PyProof.Rows
def MI(X:Cx)(id:String)(r:V->List V->Hp->VK->Prop):Prop:=
 ∀(pins:List (Addr×Obj)) (s:Shared) (σ:St) (H:Hp) (x:V) (xs:List V) (v:Value) (us:List Value) (Q:VK),Inv X pins σ H s->RelV x v->aC xs us->r x xs H Q ->
  wpAny (model X.prog X.w) X.A (call (.builtin id) (v::us)) (EP X pins σ Q) X.xe s
theorem aC.one:∀{x:V} {us:List Value},aC [x] us->∃u,us=[u]/\RelV x u
 | _,_,.cons r .nil=>⟨_,rfl,r⟩
theorem aC.zero:∀{us:List Value},aC [] us->us=[]
 | _,.nil=>rfl
theorem aC.dropLast(h:aC xs us):aC xs.dropLast us.dropLast:=by
 induction h with
 | nil=>exact .nil
 | cons r t ih =>
  cases t with
  | nil=>exact .nil
  | cons q t'=>exact .cons r ih
theorem b03{α:Type}(l:List α):l.eraseIdx (l.length-1)=l.dropLast:=by
 induction l with
 | nil=>rfl
 | cons a r ih =>
  cases r with
  | nil=>rfl
  | cons b r =>
   have e:(a::b::r).length-1=((b::r).length-1)+1:=by
    have h1:(a::b::r).length=r.length+2:=rfl
    have h2:(b::r).length=r.length+1:=rfl
    assumption
   rw [e,List.eraseIdx_cons_succ,ih]
   all_goals rfl
section
variable {X:Cx}{pins:List (Addr×Obj)}{σ:St}{H:Hp}{s:Shared}{l b:Addr}{xs ys zs:List V}
theorem Inv.uc{ar its':List Value}{n:Nat}{t':Nat}(I:Inv X pins σ H s)(hH:H l=some (.lst xs))
  (e:s.heap.get? l=some { cls:=.type "list",data:=.seq ar.toArray n })(hf:f ar.toArray=its'.toArray)(hv:aC ys its')(hz:ys.length<=sizeLine):
  Inv X pins σ (upd H l (.lst ys)) { s with heap:=s.heap.update l (fO f),toks:=t' }:=by
 have q:=PySem.IsL.update e f
 rw [hf] at q
 refine I.write (x:=l) (e:=l) (by rw [hH];exact trivial) (.inl rfl) (λb' u hb hu=>(DK s.heap (fO f) (og hb)).trans hu) ⟨_,q⟩ ?_
 exact ⟨hz,its',_,hv,q⟩
theorem Inv.GI(I:Inv X pins σ H s)(hv:aC ys ar)(hz:ys.length<=sizeLine):
  Inv X pins σ (upd H s.heap.objs.size (.lst ys)) { s with heap:=s.heap.push { cls:=.type "list",data:=.seq ar.toArray },toks:=t' }:=
 I.laid (λ_ _ q=>bR _ q) (bp _) ⟨hz,ar,0,hv,fN _ rfl⟩
theorem Inv.fresh(I:Inv X pins σ H s):H s.heap.objs.size=none:=I.bt.fresh (bp _)
theorem Inv.nk(I:Inv X pins σ H s)(hH:H l=some (.lst xs)):xs.length<=sizeLine/\∃(ar:List Value) (n:Nat),aC xs ar/\xs.length=ar.length/\s.heap.get? l=some { cls:=.type "list",data:=.seq ar.toArray n }:=by
 obtain ⟨z,ar,n,r,e⟩:=I.bt l _ hH
 exact ⟨z,ar,n,r,r.length,e⟩
theorem b3O(h:n<=sizeLine):Jf n=false:=by
 unfold Jf
 exact decide_eq_false (Nat.not_lt.mpr ‹_›)
end
section
variable {X:Cx}
def b5J:V->List V->Hp->VK->Prop:=λx vs H Q=>∃l xs y,x=.ref l/\vs=[y]/\H l=some (.lst xs)/\xs.length<sizeLine/\Q .bz (upd H l (.lst (xs++[y])))
theorem b15:MI X "list.append" b5J:=by
 intro pins s σ H x vs v us Q I rx rv h
 obtain ⟨l,xs,y,rfl,rfl,hH,hz,q⟩:=h
 cases rx
 obtain ⟨u,rfl,ru⟩:=rv.one
 obtain ⟨z,ar,n,r,hl,e⟩:=I.nk hH
 refine call_meets Oe ⟨_,e,rfl⟩ F.entry_list_append (F.args_list_append_2 _ _) (PySem.list_append l ar.toArray n u (by rw [dE];lia)) ⟨e,?_⟩
 refine ⟨.bz,_,I.uc (its':=ar++[u]) hH e (by simp) (r.append (.cons ru .nil)) ?_,rfl,q⟩
 rw [cO,AU]
 assumption
def b5I:V->List V->Hp->VK->Prop:=λx vs H Q=>∃l b xs zs,x=.ref l/\vs=[.ref b]/\H l=some (.lst xs)/\H b=some (.lst zs)/\xs.length+zs.length<=sizeLine/\Q .bz (upd H l (.lst (xs++zs)))
theorem b14:MI X "list.extend" b5I:=by
 intro pins s σ H x vs v us Q I rx rv h
 obtain ⟨l,b,xs,zs,rfl,rfl,hH,hB,hz,q⟩:=h
 cases rx
 obtain ⟨u,rfl,ru⟩:=rv.one
 cases ru
 obtain ⟨z,ar,n,r,hl,e⟩:=I.nk hH
 obtain ⟨z2,cj,n2,r2,eJ,e2⟩:=I.nk hB
 have hsz:ar.toArray.size+cj.toArray.size<=sizeLine:=by rw [dE,dE];lia
 have zK:¬(!ar.toArray.isEmpty&&Jf (ar.toArray.size+cj.toArray.size))=true:=by
  rw [b3O hsz,Bool.and_false]
  exact nJ
 refine call_meets Od ⟨_,e,rfl⟩ F.entry_list_extend (F.args_list_extend_2 _ _)
  (AutoSeq1.list_extend_list_list_0 l ar.toArray n b cj.toArray n2 zK (by rw [dE];exact S7 ‹_›) (fm ‹_› (by decide))) ⟨e,e2,?_⟩
 refine ⟨.bz,_,I.uc (its':=ar++cj) hH e (by simp) (r.append r2) ?_,rfl,q⟩
 rw [cO]
 assumption
def Gj:V->List V->Hp->VK->Prop:=λx vs H Q=>∃l xs y,x=.ref l/\vs=[]/\H l=some (.lst xs)/\xs[xs.length-1]?=some y/\Q y (upd H l (.lst xs.dropLast))
theorem b74:MI X "list.pop" Gj:=by
 intro pins s σ H x vs v us Q I rx rv h
 obtain ⟨l,xs,y,rfl,rfl,hH,hy,q⟩:=h
 cases rx
 have XH:=rv.zero
 subst XH
 obtain ⟨z,ar,n,r,hl,e⟩:=I.nk hH
 obtain ⟨u,hu,ru⟩:=r.get hy
 have XE:ar.toArray[ar.toArray.size-1]?=some u:=by
  show ar.toArray[ar.length-1]?=some u
  rw [<-sR,<-hl]
  exact hu
 refine call_meets OI ⟨_,e,rfl⟩ F.entry_list_pop (F.args_list_pop_1 _) (MeetsSeq.list_pop_last l ar.toArray n u XE (by rw [dE];lia)) ⟨e,?_⟩
 refine ⟨y,_,I.uc (its':=ar.dropLast) hH e ?_ r.dropLast ?_,ru,q⟩
 .show ar.toArray.eraseIdxIfInBounds (ar.toArray.size-1)=ar.dropLast.toArray
  rw [dE,List.eraseIdxIfInBounds_toArray,b03]
 .rw [List.length_dropLast]
  exact S6 ‹_›
def Gk:R2:=λx y H Q=>∃l b xs zs,x=.ref l/\y=.ref b/\H l=some (.lst xs)/\H b=some (.lst zs)/\xs.length+zs.length<=sizeLine/\∀p,H p=none->Q (.ref p) (upd H p (.lst (xs++zs)))
theorem tX:gu X (binaryOp .Add) Gk:=by
 intro pins s σ H x y v u Q I rx ry h
 obtain ⟨l,b,xs,zs,rfl,rfl,hH,hB,hz,q⟩:=h
 cases rx
 cases ry
 obtain ⟨z,ar,n,r,hl,e⟩:=I.nk hH
 obtain ⟨z2,cj,n2,r2,eJ,e2⟩:=I.nk hB
 refine PySem.P.add_list e e2 ?_ (by rw [dE,dE];omega)
 have ea:ar.toArray++cj.toArray=(ar++cj).toArray:=by simp
 rw [ea]
 exact ⟨.ref _,_,I.GI (t':=s.toks) (r.append r2) (by rw [cO];assumption),rfl,q _ I.fresh⟩
end
section
variable {prog:Program}{w:World}{A:Around}{E:Value->Shared->Prop}{s:Shared}
end
section
variable {X:Cx}
end
end L2
namespace S4
open PySem PySem.W PySem.Calls PyProof.Rows
theorem a6x:∀(ns:List Int) (vs:List Value),WellAll P h vs (ns.map WData.int)->IntsAre vs ns:=by
 intro ns
 induction ns with
 | nil =>
  intro vs w
  rw [wF] at w
  cases w
  exact .nil
 | cons n ns ih =>
  intro vs w
  rw [fo] at w
  cases w with
  | cons a b =>
   cases a
   exact .cons _ _ (ih _ b)
theorem b1J{l:OpenLaw}{n:Nat}(hn:l.most=some n){h:Heap}
  (gP:l.row.toRowW.claim.pre args=true)(G2:WellAll P h vals args):
  ∃a vs ns,vals=[eI a]/\args=[WData.list (ns.map WData.int)]/\h.get? a=some { cls:=.type "list",data:=.seq vs.toArray }/\IntsAre vs ns/\ns.length<=n:=by
 have XM:WShape.hasAll [] args [.list .int]=true:=(pre_splitW gP).1
 have hc:l.pre.holds [] { args:=args }=true:=(pre_splitW gP).2
 obtain ⟨d,r,rfl,h1,h2⟩:=hasAllW_cons XM
 obtain rfl:=hasAllW_nil h2
 obtain ⟨xs,rfl,h3⟩:=hasW_list h1
 obtain ⟨ns,rfl⟩:=items_int h3
 have hlen:ns.length<=n:=by
  unfold OpenLaw.pre at hc
  have h4:(WTm.not (.lt (.lit (.int (n:Int))) (.len (.arg 0)))).holds [] { args:=[.list (ns.map .int)] }=true:=by
   have h4:=(holds_andW hc).1
   rw [hn] at h4
   exact h4
  have h5:=condW_of h4 (w_not (w_lt w_lit (w_len_list (w_arg rfl))))
  rw [aX] at h5
  refine IC λq=>?_
  have q':(n:Int)<((ns.length:Nat):Int):=by exact Int.ofNat_lt.mpr ‹_›
  first
   | (rw [decide_eq_true q'] at h5;exact absurd h5 (by decide))
   | (simp at h5;omega)
 cases G2 with
 | cons w1 w2 =>
  cases w2
  cases w1 with
  | list ho jw=>exact ⟨_,_,ns,rfl,rfl,ho,a6x ns _ jw,hlen⟩
theorem b1T(l:OpenLaw)(args:List WData):l.row.toRowW.claim.post args (.bool true) args=true:=
 postW_of (r:=l.row.toRowW) (X:=(true==true))
  (show WShape.has [] (.bool true) .bool=true by first | rfl | decide | simp [WShape.has,WShape.arms,WShape.armsAll])
  (show (WTm.eq .res (.lit (.bool true))).value [] { args:=args,res:=some (.bool true),after:=args }=some (.bool (true==true)) from w_eq_bool (w_res rfl) w_lit) rfl
theorem kq{l:OpenLaw}{n:Nat}{loose:List Str}{d:DefRec}
  (hn:l.most=some n)(z7:d.params.defaults=[])
  (call:∀(w:World) (cK aO:Shared) (mg mb:Str->Option Value) (fa:Addr) (o:Obj) (pm cd doc:Value) (a:Addr) (vs:List Value) (ns:List Int),
   Ground q loose [] XP w cK mg mb aO.heap->YP w aO.heap ->
   aO.heap.get? fa=some o->o.data=.func (docDef d.name d.params d.body d.scope pm cd doc)->aO.heap.CodeRec cd d.name->mg d.name=some (.ref fa) ->
   aO.heap.get? a=some { cls:=.type "list",data:=.seq vs.toArray }->IntsAre vs ns->ns.length<=n->aO.gens=#[] ->
   codeAny (model l.prog w) callerA (.call (.ref fa) ⟨[.ref a],[]⟩) (λr s'=>r=.ok (.ret (.bool true))/\OldK aO.heap s'.heap/\s'.os=aO.os/\AllBare s'.gens) aO):
  WalkO q loose XP YP l.row.toRowW d [] (λf vs=>Io f vs):=by
 intro w cK aO mg mb G Y fa o pm cd doc dV kV ho hd dC hD zJ hg args vals as gP X2 hrd G2 CV
 obtain rfl:dV=.none:=Dflts.none hD z7
 obtain rfl:kV=.none:=Dflts.noKw hD
 obtain ⟨a,vs,ns,rfl,rfl,uo,hints,hlen⟩:=b1J hn gP G2
 refine enter_call (Dg (call w cK aO mg mb fa o pm cd doc a vs ns G Y ho (fd_plain hd) dC zJ uo hints hlen hg) λr s' hq=>?_)
 obtain ⟨rfl,h2,h3,h4⟩:=hq
 exact ⟨.inl ⟨.bool true,.bool true,[],rfl,λ_=>rfl,.bool true,b1T l _,λ_=>⟨Jc,λ_ hm=>(nomatch hm)⟩⟩,h2,h3,h4⟩
section
variable {prog:Program}{w:World}{A:Around}{E:Value->Shared->Prop}{s:Shared}{K:Frag}
end
end S4
namespace L2
open PySem PySem.Spec PyProof.Rows
theorem BG:∀{vs:List Value} {ns:List Int},IntsAre vs ns->aC (ns.map V.int) vs
 | _,_,.nil=>.nil
 | _,_,.cons n t h=>.cons ⟨t,rfl⟩ (BG h)
theorem Ri{α:Type}{c:Prop}[Decidable c]{a b:α}(h:(if c then some a else none)=some b):c/\a=b:=by
 by_cases hc:c
 .rw [if_pos hc] at h;exact ⟨hc,cG h⟩
 .rw [if_neg hc] at h;cases h
def qE:Str:="dealt.<locals>.<lambda>"
def Tb(K:aM)(H:Hp):Prop:=∀c P,om K "dealt" = some (c,P)->H P=some (.tab qE)
def Eh(K:aM)(ts:List Addr):Bool:=match om K "dealt" with
 | some (c,P)=>N8 K c P&&(K.lookup P).isNone&&ts.contains P
 | none=>true
theorem b3X{P:Program}{w:World}{K:aM}{mg mb:Str->Option Value}{CX:oF}{k:Nat}{fa a:Addr}{fd:FuncData}{x:Str}{sp:Sp}{aO:Shared}{vs:List Value}{ns:List Int}{ts:List Addr}
  (KX:K.In aO.heap)(wj:aO.heap.Ns mainGlobals mg)(hb:aO.heap.Ns builtinsNs mb)(C3:∀x:Str,x ≠ "__name__" -> mb x=bootBuiltins x)(Hm:aO.heap.NoLimit)(hg:aO.gens=#[])
  (Yf:∃bm ob,mg "__builtins__" = some (.ref bm)/\bm≠builtinsNs/\aO.heap.get? bm=some ob/\ob.cls=.type "module" /\ ob.dict=some builtinsNs/\ob.data=.plain)
  (hL:Eh K ts=true)(Af:∀P∈ts,aO.heap.get? P=some (wN #[]))
  (ha:aO.heap.get? a=some { cls:=.type "list",data:=.seq vs.toArray })(hi:IntsAre vs ns)(hl:ns.length<=sizeLine)(hr:cu k callerA)
  (F:∀base:Heap,K.In base->base.Ns mainGlobals mg->cH P w K mg base CX k fa fd [x] sp)(Ac:∀(s:Shared) (u:Value),BindsTo s fd ⟨[u],[]⟩ [(x,u)])
  (pT:∀H:Hp,Tb K H->eN K H a (ns.map V.int)->sp [.ref a] H (λv H'=>v=.bl true/\Tb K H') λ_ _ _=>False)
  (HM:∀H e s',CX [] H aO (λ_ _ _=>False) e s'->False):
  codeAny (model P w) callerA (.call (.ref fa) ⟨[.ref a],[]⟩) (λr s'=>r=.ok (.ret (.bool true))/\OldK aO.heap s'.heap/\s'.os=aO.os/\AllBare s'.gens) aO:=by
 have rv:=BG hi
 have GJ:=hi.length
 have tabs:∀c P,om K "dealt" = some (c,P)->N8 K c P=true/\K.lookup P=none/\aO.heap.get? P=some (wN #[]):=λc P e=>by
  unfold Eh at hL
  rw [e] at hL
  simp only [AW,Option.isNone_iff_eq_none,List.contains_iff_mem] at hL
  exact ⟨hL.1.1,hL.1.2,Af P hL.2⟩
 have core:∀H:Hp,Tb K H->eN K H a (ns.map V.int)->dG P w H aO.heap->(∀b,H b≠none->(b=a/\∃o xs,H b=some (.lr o (.lst xs)))\/∃c,om K "dealt" = some (c,b))->(H a≠none->K.lookup a=none) ->
   codeAny (model P w) callerA (.call (.ref fa) ⟨[.ref a],[]⟩) (λr s'=>r=.ok (.ret (.bool true))/\OldK aO.heap s'.heap/\s'.os=aO.os/\AllBare s'.gens) aO:=by
  intro H hO hS bt hA hK
  have jA:∀{b:Addr} {o:Obj},aO.heap.get? b=some o->H b=none->(ju aO.heap H).get? b=some o:=λe n=>b37 e n
  have M0:∀{b:Addr} {o:Obj},aO.heap.get? b=some o->(∀xs n,o.data≠.seq xs n)->(∀xs,o.data=.fields xs->o.cls≠.none)->H b=none:=λ{b o} e d d2=>by
   cases q:H b with
   | none=>rfl
   | some u =>
    rcases hA b (by rw [q];simp) with ⟨e',_⟩ | ⟨c,e'⟩
    .subst e'
     rw [ha] at e;cases e
     exact absurd rfl (d _ _)
    .rw [(tabs c b e').2.2] at e;cases e
     exact absurd rfl (d2 _ rfl)
  have CB:∀{b:Addr} {m:Str->Option Value},aO.heap.Ns b m->(ju aO.heap H).Ns b m:=λ{b m} ⟨o,es,ep,e,d,r⟩=>⟨o,es,ep,jA e (M0 e (λ_ _ z=>by rw [d] at z;cases z) λ_ z=>by rw [d] at z;cases z),d,r⟩
  have ND:K.In (ju aO.heap H):=λb o e=>jA (KX b o e) (by
   cases q:H b with
   | none=>rfl
   | some u =>
    rcases hA b (by rw [q];simp) with ⟨e',_⟩ | ⟨c,e'⟩
    .subst e'
     rw [hK (by rw [q];simp)] at e;cases e
    .rw [(tabs c b e').2.1] at e;cases e)
  have hM:Mod K mg (ju aO.heap H):=⟨ND,CB wj,⟨mb,CB hb,C3⟩,let ⟨mc,h1,h2⟩:=Hm;⟨mc,CB h1,h2⟩,let ⟨bm,ob,b1,b2,b3,b4,b5,b6⟩:=Yf;⟨bm,ob,b1,b2,jA b3 (M0 b3 (λ_ _ z=>by rw [b6] at z;cases z) λ_ z=>by rw [b6] at z;cases z),b4,b5,b6⟩⟩
  have e0:pS P w K mg (ju aO.heap H) callerA [] aO H:=⟨rfl,hM,λb o e=>b58 e,Nat.le_of_eq (b2q _ _),trivial,λb hb=>absurd (show b∈([]:List Addr) from hb) (by simp),bt,.of_eq hg⟩
  refine Dg ((F _ ND (CB wj)).run callerA [] aO H ⟨[.ref a],[]⟩ [.ref a] [.ref a] _ _ hr e0 (Ac aO (.ref a)) (.cons rfl .nil) (pT H hO hS)) λr s' h=>?_
  cases r with
  | error e=>exact (HM H e s' h).elim
  | ok fl =>
   cases fl with
   | next=>exact jR h
   | brk=>exact jR h
   | cont=>exact jR h
   | ret u =>
    obtain ⟨v,H',os,bare,un,zI,r',q,qT⟩:=h
    subst q
    obtain rfl:u=mh true:=r'
    have old:∀b o,aO.heap.get? b=some o->s'.heap.get? b=some o\/∃c ps,om K "dealt" = some (c,b)/\s'.heap.get? b=some (wN ps):=λb o e=>by
     cases q:H b with
     | none=>exact .inl (un.keep b o e q (by intro z;exact absurd (show b∈([]:List Addr) from z) (by simp)) (by simp))
     | some u =>
      rcases hA b (by rw [q];simp) with ⟨_,ob,xs,z⟩ | ⟨c,e'⟩
      .have z2:=un.iE b ob _ z
       obtain ⟨e1,_⟩:=bt b _ z
       obtain ⟨e2,_⟩:=zI b _ z2
       rw [e] at e1;cases e1
       exact .inl e2
      .obtain ⟨ps,e2,_⟩:=zI b _ (qT c b e')
       exact .inr ⟨c,ps,e',e2⟩
    refine ⟨rfl,⟨λb o e=>?_,λb o e=>?_⟩,os,bare⟩
    .rcases old b o e with z | ⟨c,ps,e',z⟩
     .exact .inl z
     .obtain ⟨t1,_,t3⟩:=tabs c b e'
      rw [t3] at e;cases e
      exact .inr (.inl ⟨((PySem.W.codeHd_of_K KX t1).tab t3).isCodeTable,rfl,#[],ps,rfl,by rw [Array.empty_append];exact z⟩)
    .rcases old b o e with z | ⟨c,ps,e',z⟩
     .exact ⟨o,z⟩
     .exact ⟨_,z⟩
 have MZ:∀(H:Hp) (b:Addr),(∃c,om K "dealt" = some (c,b))->cQ P w H aO.heap b (.tab qE):=λH b ⟨c,e⟩=>⟨#[],(tabs c b e).2.2,trivial,λpos cv h=>by simp [codeAmong] at h⟩
 have M3:∀c b,om K "dealt" = some (c,b)->b≠a:=λc b e z=>by
  have:=(tabs c b e).2.2
  rw [z,ha] at this
  cases this
 cases hk:K.lookup a with
 | some o =>
  have e:=KX a o hk
  rw [ha] at e
  cases e
  refine core (λb=>if (om K "dealt").map (·.2)=some b then some (.tab qE) else none) (λc b e=>if_pos (by rw [e];rfl)) (.inr ⟨_,vs.toArray,_,hk,rfl,rfl,rfl,by rw [dE,GJ];exact hl,by simpa using rv⟩) (λb u z=>?_) (λb z=>?_) λz=>?_
  .obtain ⟨hc,rfl⟩:=(Ri z)
   obtain ⟨⟨c,b'⟩,e,rfl⟩:=uV.mp hc
   exact MZ _ _ ⟨c,e⟩
  .by_cases hc:(om K "dealt").map (·.2)=some b
   .obtain ⟨⟨c,b'⟩,e,rfl⟩:=uV.mp hc
    exact .inr ⟨c,e⟩
   .exact absurd (if_neg hc) z
  .by_cases hc:(om K "dealt").map (·.2)=some a
   .obtain ⟨⟨c,b'⟩,e,e2⟩:=uV.mp hc
    exact absurd e2 (M3 c b' e)
   .exact absurd (if_neg hc) z
 | none =>
  refine core (λb=>if b=a then some (.lr { cls:=.type "list",data:=.seq vs.toArray } (.lst (ns.map V.int))) else if (om K "dealt").map (·.2)=some b then some (.tab qE) else none) (λc b e=>by show (if b=a then _ else _)=_;rw [if_neg (M3 c b e),if_pos (by rw [e];rfl)]) (.inl (.inr ⟨{ cls:=.type "list",data:=.seq vs.toArray },if_pos rfl⟩)) (λb u z=>?_) (λb z=>?_) λ_=>hk
  .by_cases hb:b=a
   .have z':=(if_pos hb).symm.trans z
    cases z'
    subst hb
    exact ⟨ha,by rw [aX];exact hl,vs,_,rv,ha⟩
   .obtain ⟨hc,rfl⟩:=Ri ((if_neg hb).symm.trans z)
    obtain ⟨⟨c,b'⟩,e,rfl⟩:=uV.mp hc
    exact MZ _ _ ⟨c,e⟩
  .by_cases hb:b=a
   .exact .inl ⟨hb,_,_,if_pos hb⟩
   .by_cases hc:(om K "dealt").map (·.2)=some b
    .obtain ⟨⟨c,b'⟩,e,rfl⟩:=uV.mp hc
     exact .inr ⟨c,e⟩
    .exact absurd ((if_neg hb).trans (if_neg hc)) z
end L2
namespace L2
open PySem PySem.Spec PyProof.Rows
theorem qt{l:Iw}{n k:Nat}{q:Program}{loose:List Str}{XP:(Str->Option Value)->Heap->Prop}{YP:World->Heap->Prop}{d:DefRec}{K:Params->aM}{CX:World->oF}{sp:World->Sp}{x:Str}{ts:List Addr}
  (hn:l.most=some n)(XW:n<=sizeLine)(z7:d.params.defaults=[])(hr:cu k callerA)
  (hY:∀(w:World) (h:Heap),YP w h->(K w.params).In h/\∀P∈ts,h.get? P=some (wN #[]))(hL:∀w:World,Eh (K w.params) ts=true)
  (F:∀(w:World) (mg:Str->Option Value) (fa:Addr) (h:Heap),(K w.params).In h->h.Ns mainGlobals mg->mg d.name=some (.ref fa) ->
   ∃fd:FuncData,(∀(s:Shared) (u:Value),BindsTo s fd ⟨[u],[]⟩ [(x,u)]) /\
    ∀base:Heap,(K w.params).In base->base.Ns mainGlobals mg->cH l.prog w (K w.params) mg base (CX w) k fa fd [x] (sp w))
  (pT:∀(w:World) (H:Hp) (a:Addr) (ns:List Int),ns.length<=n->Tb (K w.params) H->eN (K w.params) H a (ns.map V.int)->sp w [.ref a] H (λv H'=>v=.bl true/\Tb (K w.params) H') λ_ _ _=>False)
  (HM:∀(w:World) (H:Hp) (s:Shared) (e:Value) (s':Shared),CX w [] H s (λ_ _ _=>False) e s'->False):
  PySem.W.WalkO q loose XP YP l.row.toRowW d [] (λf vs=>Io f vs):=by
 refine S4.kq hn z7 λw cK aO mg mb fa o pm cd doc a vs ns G Y ho hd dC zJ uo hints hlen hg=>?_
 obtain ⟨KX,Af⟩:=hY w _ Y
 obtain ⟨fd,hb,hF⟩:=F w mg fa _ KX G.T.g zJ
 exact b3X KX G.T.g G.T.b G.T.builtins G.T.nolimit hg G.T.bmain (hL w) Af uo hints (fm hlen XW) hr hF hb (λH hO hS=>pT w H a ns hlen hO hS) λH e s'=>HM w H aO e s'
end L2
namespace L2
open PySem PySem.Spec PyProof.Rows
def lM(s:Stmt):Arguments:=match s with
 | .FunctionDef _ a _ _ _ _ _ _ _ _=>a
 | _=>{ posonlyargs:=[],args:=[],vararg:=none,kwonlyargs:=[],kw_defaults:=[],kwarg:=none,defaults:=[] }
def iL(s:Stmt):List Stmt:=match s with
 | .FunctionDef _ _ b _ _ _ _ _ _ _=>b
 | _=>[]
def fQ(s:Stmt):Scope:=match s with
 | .FunctionDef _ _ _ _ _ _ sc _ _ _=>sc
 | _=>{ kind:=.function,names:=[],isGenerator:=false,isCoroutine:=false }
abbrev jc:oF:=λ_ _ _ _ _ _=>False
abbrev E0:XK:=λ_ _ _=>False
theorem yO:JQ jc X E0:=λ_ _ _ _ _ _ _ h=>h.elim
structure tL(K:aM)(x qual:Str)(st:Stmt)(f:Addr)(fd:FuncData):Prop where
 ex:∃(oc:Value) (od:Option Addr) (kV doc pm:Value) (an:Option Addr) (dj ct:Value) (rZ:Array (Option Value)),
  fd=jQ x qual (lM st) (iL st) (fQ st) .none kV doc pm an dj ct/\K.lookup f=some ⟨oc,od,.func fd,rZ⟩/\Dz K dj qual=true
 kp:AI K (.ref f)=true
section
variable {P:Program}{w:World}{K:aM}{mg:Str->Option Value}{base:Heap}
theorem tL.ok{x qual:Str}{st:Stmt}{f:Addr}{fd:FuncData}{N ps:List Str}{k:Nat}{sp:Sp}(F:tL K x qual st f fd)(S:dv N ps (fQ st))(len:∀vs H Q E,sp vs H Q E->vs.length=ps.length)
  (dO:∀(dj:Value) (A:Around) (outer:List Env) (s:Shared) (H:Hp) (vs:List V) (Q:VK) (E:XK),cu k (A.deeper (envOfC qual (fQ st) s.heap.objs.size f dj))->sp vs H Q E ->
   ∃t,mZ (md jc P w K mg base N qual (fQ st) f dj A outer s H E).yV (iL st) t/\t { nx:=λ_ H'=>Q .bz H',rt:=Q } (start N vs) H):cH P w K mg base jc (k+1) f fd ps sp:=by
 obtain ⟨oc,od,kV,doc,pm,an,dj,ct,rZ,rfl,lk,dC⟩:=F.ex
 refine Ar lk dC S len λA outer s H vs Q E hr pT=>?_
 obtain ⟨t,h,q⟩:=dO dj A outer s H vs Q E hr pT
 exact ⟨t,h.yV,q⟩
theorem tL.binds{x qual:Str}{st:Stmt}{f:Addr}{fd:FuncData}{ps:List Str}(F:tL K x qual st f fd)
  (h:∀(kV doc pm:Value) (an:Option Addr) (dj ct:Value) (us:List Value),us.length=ps.length->bindArgs (jQ x qual (lM st) (iL st) (fQ st) .none kV doc pm an dj ct) ⟨us,[]⟩=pure (ps.zip us)):Binds K fd ps []:=by
 obtain ⟨oc,od,kV,doc,pm,an,dj,ct,rZ,rfl,lk,dC⟩:=F.ex
 exact .all (h kV doc pm an dj ct)
theorem Py{x qual:Str}{st:Stmt}{f:Addr}{oc:Value}{od an:Option Addr}{rZ:Array (Option Value)}{kV doc pm dj ct:Value}(l:K.lookup f=some ⟨oc,od,.func (jQ x qual (lM st) (iL st) (fQ st) .none kV doc pm an dj ct),rZ⟩)
  (c:Dz K dj qual=true)(k:AI K (.ref f)=true):tL K x qual st f (jQ x qual (lM st) (iL st) (fQ st) .none kV doc pm an dj ct):=⟨⟨oc,od,kV,doc,pm,an,dj,ct,rZ,rfl,l,c⟩,k⟩
end
section
variable {X:Cx}
end
def au(H H':Hp):Prop:=∀b o,H b=some o->H' b=some o
theorem au.refl(H:Hp):au H H:=λ_ _ h=>h
theorem au.trans(a:au H H1)(b:au H1 H2):au H H2:=λc o h=>b c o (a c o h)
theorem au.free(e:au H H')(h:H' l=Option.none):H l=Option.none:=by
 cases q:H l with
 | none=>rfl
 | some o =>
  rw [e l o q] at h
  cases h
end L2
set_option maxHeartbeats 4000000
namespace DL
open PySem PySem.Spec PyProof.Rows L2
section
variable {prog:Program}{w:World}{A:Around}{E:Value->Shared->Prop}{s:Shared}
theorem b4s{ws:List Value}(ht:IsTup s.heap t #[])(hb:IsTup s.heap b ws.toArray)(h1:Q (.ref b) s):wpAny (model prog w) A (binaryOp .Add (.ref t) (.ref b)) Q E s:=by
 obtain ⟨⟨cls,dd,data,sl⟩,ho,hc,n,hd⟩:=id ht
 obtain ⟨⟨Ik,C',data2,yu⟩,uq,n5,n2,hd2⟩:=id hb
 simp only at hc hd n5 hd2
 subst hc hd n5 hd2
 exact concat_meets ⟨_,ho,rfl⟩ ⟨_,uq,rfl⟩ ID IM Jk Jq (Jg _ _)
   (tuple_addW0 t b #[] ws.toArray n n2 dd C' sl yu rfl) ⟨ho,uq,h1⟩
end
section
variable {X:Cx}
noncomputable def yE(K:aM):R2:=λx y H Q=>∃a b ys,x=.ref a/\y=.ref b/\fq K H a []/\fq K H b ys/\Q (.ref b) H
theorem b53:gu X (binaryOp .Add) (yE X.K):=by
 intro pins s σ H x y v u Q I rx ry h
 obtain ⟨a,b,ys,rfl,rfl,ha,hb,q1⟩:=h
 cases rx
 cases ry
 obtain ⟨ar,r1,p1,_⟩:=I.tuple ha
 obtain ⟨cj,r2,p2,_⟩:=I.tuple hb
 cases r1
 exact b4s p1 p2 ⟨.ref b,H,I,rfl,q1⟩
end
end DL
namespace DL
open PySem PySem.Spec PyProof.Rows L2
inductive D where
 | bz | bl (b:Bool) | int (i:Int) | str (x:Str) | tup (ds:List D) | lst (ro:Bool) (ds:List D) | exc (n:Str) | fL (fz:Bool) (bG:List (Int×Int))
 deriving Inhabited
inductive Sl where
 | no | sh (d:D) | ow (ds:List D) | dw (bG:List (Int×Int))
 deriving Inhabited
noncomputable abbrev En:=List Sl
noncomputable def Sl.d:Sl->D
 | .no=>.bz
 | .sh d=>d
 | .ow ds=>.lst false ds
 | .dw bG=>.fL false bG
def Ij(p C:Addr)(h:Heap):Prop:=∃o,h.get? p=some o/\o.cls=.ref C
mutual
inductive Is (K:aM) (O:Addr->Prop) (H:Hp):V->D->Prop
 | bz:Is K O H .bz .bz
 | bl (b:Bool):Is K O H (.bl b) (.bl b)
 | int (i:Int):Is K O H (.int i) (.int i)
 | str (x:Str):Is K O H (.str x) (.str x)
 | tup {p:Addr} {xs:List V} {ds:List D} (ho:¬O p) (hp:Rd H p (.tup xs)) (hs:aN K O H xs ds):Is K O H (.ref p) (.tup ds)
 | nq {p:Addr} {xs:List V} {ds:List D} (hp:fq K (λ_=>none) p xs) (hs:aN K O H xs ds):Is K O H (.ref p) (.tup ds)
 | lst {p:Addr} {xs:List V} {ds:List D} (ho:¬O p) (hp:H p=some (.lst xs)) (hs:aN K O H xs ds):Is K O H (.ref p) (.lst false ds)
 | lW {p:Addr} {xs:List V} {ds:List D} (ho:¬O p) (hp:Rd H p (.lst xs)) (hs:aN K O H xs ds):Is K O H (.ref p) (.lst true ds)
 | lY {p:Addr} {xs:List V} {ds:List D} (hp:eN K (λ_=>none) p xs) (hs:aN K O H xs ds):Is K O H (.ref p) (.lst true ds)
 | exc {p C:Addr} {n:Str} (ho:¬O p) (hn:me K mainGlobals n=some (some (.ref C))) (hp:H p=some (.ext (Ij p C))):Is K O H (.ref p) (.exc n)
 | fL {p:Addr} {bG:List (Int×Int)} (ho:¬O p) (hp:H p=some (.dK (bG.map λq=>(.inl q.1,.int q.2)))):Is K O H (.ref p) (.fL false bG)
 | qQ {p:Addr} {bG:List (Int×Int)} {o:Obj} (ho:¬O p) (hp:H p=some (.lr o (.dK (bG.map λq=>(.inl q.1,.int q.2))))):Is K O H (.ref p) (.fL true bG)
inductive aN (K:aM) (O:Addr->Prop) (H:Hp):List V->List D->Prop
 | nil:aN K O H [] []
 | cons {x:V} {d:D} {xs:List V} {ds:List D} (h:Is K O H x d) (t:aN K O H xs ds):aN K O H (x::xs) (d::ds)
end
theorem PJ{O:Addr->Prop}{H H':Hp}(hH:∀q u,H q=some u->¬O q->H' q=some u){p:Addr}{u:HO}(ho:¬O p)(h:Rd H p u):Rd H' p u:=by
 rcases h with h | ⟨o,h⟩
 .exact .inl (hH p u h ho)
 .exact .inr ⟨o,hH p _ h ho⟩
theorem Qx(h:Rd H p u):H p≠none:=by
 rcases h with h | ⟨o,h⟩<;>rw [h]<;>exact λz=>nomatch z
theorem Bv{K:aM}{H:Hp}{p:Addr}{xs:List V}(h:eN K (λ_=>none) p xs):eN K H p xs:=by
 rcases h with (h | ⟨o,h⟩) | h
 .cases h
 .cases h
 .exact .inr h
theorem Bw{K:aM}{H:Hp}{p:Addr}{xs:List V}(h:fq K (λ_=>none) p xs):fq K H p xs:=by
 rcases h with (h | ⟨o,h⟩) | h
 .cases h
 .cases h
 .exact .inr h
section
variable {K:aM}{O O':Addr->Prop}{H H':Hp}
mutual
theorem Is.map(hO:∀q,H q≠none->¬O q->¬O' q)(hH:∀q u,H q=some u->¬O q->H' q=some u):∀{v:V} {d:D},Is K O H v d->Is K O' H' v d
 | _,_,.bz=>.bz
 | _,_,.bl b=>.bl b
 | _,_,.int i=>.int i
 | _,_,.str x=>.str x
 | _,_,.tup ho hp hs=>.tup (hO _ (Qx hp) ho) (PJ hH ho hp) (aN.map hO hH hs)
 | _,_,.nq hp hs=>.nq hp (aN.map hO hH hs)
 | _,_,.lst ho hp hs=>.lst (hO _ (by rw [hp];exact λz=>nomatch z) ho) (hH _ _ hp ho) (aN.map hO hH hs)
 | _,_,.lW ho hp hs=>.lW (hO _ (Qx hp) ho) (PJ hH ho hp) (aN.map hO hH hs)
 | _,_,.lY hp hs=>.lY hp (aN.map hO hH hs)
 | _,_,.exc ho hn hp=>.exc (hO _ (by rw [hp];exact λz=>nomatch z) ho) hn (hH _ _ hp ho)
 | _,_,.fL ho hp=>.fL (hO _ (by rw [hp];exact λz=>nomatch z) ho) (hH _ _ hp ho)
 | _,_,.qQ ho hp=>.qQ (hO _ (by rw [hp];exact λz=>nomatch z) ho) (hH _ _ hp ho)
theorem aN.map(hO:∀q,H q≠none->¬O q->¬O' q)(hH:∀q u,H q=some u->¬O q->H' q=some u):∀{v:List V} {d:List D},aN K O H v d->aN K O' H' v d
 | _,_,.nil=>.nil
 | _,_,.cons h t=>.cons (Is.map hO hH h) (aN.map hO hH t)
end
theorem Is.grow(s:au H H')(h:Is K O H v d):Is K O H' v d:=h.map (λ_ _ z=>z) λq u e _=>s q u e
theorem aN.grow(s:au H H')(h:aN K O H v d):aN K O H' v d:=h.map (λ_ _ z=>z) λq u e _=>s q u e
theorem Is.less(hO:∀q,O' q->O q)(h:Is K O H v d):Is K O' H v d:=h.map (λ_ _ z w=>z (hO _ w)) λ_ _ e _=>e
theorem aN.less(hO:∀q,O' q->O q)(h:aN K O H v d):aN K O' H v d:=h.map (λ_ _ z w=>z (hO _ w)) λ_ _ e _=>e
theorem aN.length:∀{v:List V} {d:List D},aN K O H v d->v.length=d.length
 | _,_,.nil=>rfl
 | _,_,.cons _ t=>by rw [gy,gy,aN.length t]
theorem aN.append:∀{v w:List V} {d e:List D},aN K O H v d->aN K O H w e->aN K O H (v++w) (d++e)
 | _,_,_,_,.nil,s=>s
 | _,_,_,_,.cons h t,s=>.cons h (aN.append t s)
theorem aN.get:∀{v:List V} {ds:List D} {i:Nat} {d:D},aN K O H v ds->ds[i]?=some d->∃x,v[i]?=some x/\Is K O H x d
 | _,_,_,_,.nil,e=>by simp at e
 | _,_,0,_,.cons h _,e=>by simp at e;subst e;exact ⟨_,rfl,h⟩
 | _,_,i+1,d,.cons _ t,e=>by
  obtain ⟨u,h1,h2⟩:=aN.get (i:=i) (d:=d) t (by simpa using e)
  exact ⟨u,by simpa using h1,h2⟩
theorem aN.uE:∀{v:List V} {ds:List D} {i:Nat} {x:V},aN K O H v ds->v[i]?=some x->∃d,ds[i]?=some d/\Is K O H x d
 | _,_,_,_,.nil,e=>by simp at e
 | _,_,0,_,.cons h _,e=>by simp at e;subst e;exact ⟨_,rfl,h⟩
 | _,_,i+1,d,.cons _ t,e=>by
  obtain ⟨u,h1,h2⟩:=aN.uE (i:=i) (x:=d) t (by simpa using e)
  exact ⟨u,by simpa using h1,h2⟩
theorem aN.take:∀{v:List V} {d:List D} (n:Nat),aN K O H v d->aN K O H (v.take n) (d.take n)
 | _,_,0,_=>.nil
 | _,_,_+1,.nil=>.nil
 | _,_,n+1,.cons h t=>.cons h (aN.take n t)
theorem aN.drop:∀{v:List V} {d:List D} (n:Nat),aN K O H v d->aN K O H (v.drop n) (d.drop n)
 | _,_,0,h=>h
 | _,_,_+1,.nil=>.nil
 | _,_,n+1,.cons _ t=>aN.drop n t
theorem aN.set(h:Is K O H x d):∀{v:List V} {ds:List D} (n:Nat),aN K O H v ds->aN K O H (v.set n x) (ds.set n d)
 | _,_,_,.nil=>.nil
 | _,_,0,.cons _ t=>.cons h t
 | _,_,n+1,.cons h' t=>.cons h' (aN.set h n t)
theorem aN.dF(h:aN K O H v ds)(e:L2.dF ds i=some d):∃x,L2.dF v i=some x/\Is K O H x d:=by
 unfold L2.dF at e ⊢
 rw [h.length]
 cases q:lZ ds.length i with
 | none=>rw [q] at e;cases e
 | some j =>
  rw [q] at e
  exact h.get e
theorem aN.dropLast(h:aN K O H v d):aN K O H v.dropLast d.dropLast:=by
 rw [Oc,Oc,h.length]
 exact h.take _
theorem aN.ints:∀(ns:List Int),aN K O H (ns.map V.int) (ns.map D.int)
 | []=>.nil
 | n::r=>.cons (.int n) (aN.ints r)
def Sq(K:aM)(H:Hp)(k:Bool)(p:Addr)(xs:List V):Prop:=if k=true then eN K H p xs else fq K H p xs
noncomputable def eO:D->Option (Bool×List D)
 | .tup ds=>some (false,ds)
 | .lst _ ds=>some (true,ds)
 | _=>none
theorem Is.seq(h:Is K O H v d)(e:eO d=some (k,ds)):∃p xs,v=.ref p/\Sq K H k p xs/\aN K O H xs ds:=by
 cases h with
 | tup ho hp hs=>cases e;exact ⟨_,_,rfl,.inl hp,hs⟩
 | nq hp hs=>cases e;exact ⟨_,_,rfl,Bw hp,hs⟩
 | lst ho hp hs=>cases e;exact ⟨_,_,rfl,.inl (.inl hp),hs⟩
 | lW ho hp hs=>cases e;exact ⟨_,_,rfl,.inl hp,hs⟩
 | lY hp hs=>cases e;exact ⟨_,_,rfl,Bv hp,hs⟩
 | _=>cases e
end
theorem Sq.grow{K:aM}{H H':Hp}{k:Bool}{p:Addr}{xs:List V}(s:au H H')(h:Sq K H k p xs):Sq K H' k p xs:=by
 cases k with
 | true =>
  rcases h with (h | ⟨o,h⟩) | h
  .exact .inl (.inl (s _ _ h))
  .exact .inl (.inr ⟨o,s _ _ h⟩)
  .exact .inr h
 | false =>
  rcases h with (h | ⟨o,h⟩) | h
  .exact .inl (.inl (s _ _ h))
  .exact .inl (.inr ⟨o,s _ _ h⟩)
  .exact .inr h
noncomputable def Sl.own:Sl->Prop
 | .ow _=>True
 | .dw _=>True
 | _=>False
noncomputable abbrev Ie(bG:List (Int×Int)):HO:=.dK (bG.map λq=>(.inl q.1,.int q.2))
def mE(σ:L2.St)(env:En)(p:Addr):Prop:=∃(i:Nat) (s:Sl),env[i]?=some s/\s.own/\σ[i]?=some (some (V.ref p))
abbrev OO(O:Addr->Prop)(σ:L2.St)(env:En)(q:Addr):Prop:=O q\/mE σ env q
theorem _root_.L2.Tb.grow{K:aM}{H H':Hp}(s:au H H')(h:Tb K H):Tb K H':=λc P e=>s _ _ (h c P e)
def qm(K:aM)(O:Addr->Prop)(H:Hp):Prop:=(∀q,O q->H q≠none)/\Tb K H
theorem qm.grow{K:aM}{O:Addr->Prop}{H H':Hp}(s:au H H')(h:qm K O H):qm K O H':=⟨λq hq hn=>h.1 q hq (s.free hn),h.2.grow s⟩
structure Rel(K:aM)(O:Addr->Prop)(B:Hp)(σ:L2.St)(H:Hp)(env:En):Prop where
 same:au B H
 gp:qm K O B
 len:σ.length=env.length
 sh:∀(i:Nat) (d:D),env[i]?=some (Sl.sh d)->∃v,σ[i]?=some (some v)/\Is K (OO O σ env) H v d
 ow:∀(i:Nat) (ds:List D),env[i]?=some (Sl.ow ds)->∃p xs,σ[i]?=some (some (V.ref p))/\B p=none/\H p=some (.lst xs)/\aN K (OO O σ env) H xs ds
 dw:∀(i:Nat) (bG:List (Int×Int)),env[i]?=some (Sl.dw bG)->∃p,σ[i]?=some (some (V.ref p))/\B p=none/\H p=some (Ie bG)
 sep:∀(i j:Nat) (ds es:Sl) (p:Addr),env[i]?=some ds->env[j]?=some es->σ[i]?=some (some (V.ref p))->σ[j]?=some (some (V.ref p))->ds.own->es.own->i=j
noncomputable def Res(K:aM)(O:Addr->Prop)(B H:Hp)(v:V):Sl->Prop
 | .no=>False
 | .sh d=>Is K O H v d
 | .ow ds=>∃p xs,v=.ref p/\B p=none/\H p=some (.lst xs)/\aN K (λq=>O q\/q=p) H xs ds
 | .dw bG=>∃p,v=.ref p/\B p=none/\H p=some (Ie bG)
section
variable {K:aM}{O:Addr->Prop}{B H H' H1:Hp}{σ:L2.St}{env:En}{v:V}{r:Sl}
theorem Rel.ad(R:Rel K O B σ H env){i:Nat}{s:Sl}(h:env[i]?=some s)(ho:s.own):∃p u,σ[i]?=some (some (V.ref p))/\B p=none/\H p=some u:=by
 cases s with
 | ow ds=>obtain ⟨p,xs,e1,e2,e3,_⟩:=R.ow i ds h;exact ⟨p,_,e1,e2,e3⟩
 | dw bG=>obtain ⟨p,e1,e2,e3⟩:=R.dw i bG h;exact ⟨p,_,e1,e2,e3⟩
 | no=>exact ho.elim
 | sh d=>exact ho.elim
theorem Rel.oo(R:Rel K O B σ H env)(h:OO O σ env q):H q≠none:=by
 rcases h with h | ⟨i,s,h1,ho,h2⟩
 .intro z
  exact R.gp.1 q h (R.same.free z)
 .obtain ⟨p,u,e1,_,e3⟩:=R.ad h1 ho
  rw [h2] at e1
  cases e1
  rw [e3];exact λz=>nomatch z
theorem Rel.dm(R:Rel K O B σ H env):qm K (OO O σ env) H:=⟨λ_=>R.oo,R.gp.2.grow R.same⟩
theorem Rel.grow(R:Rel K O B σ H env)(s:au H H'):Rel K O B σ H' env where
 same:=R.same.trans s
 gp:=R.gp
 len:=R.len
 sh:=λi d e=>let ⟨v,e1,h⟩:=R.sh i d e;⟨v,e1,h.grow s⟩
 ow:=λi ds e=>let ⟨p,xs,e1,e2,e3,h⟩:=R.ow i ds e;⟨p,xs,e1,e2,s _ _ e3,h.grow s⟩
 dw:=λi bG e=>let ⟨p,e1,e2,e3⟩:=R.dw i bG e;⟨p,e1,e2,s _ _ e3⟩
 sep:=R.sep
theorem Res.from(s:au H1 B)(h:Res K O B H v r):Res K O H1 H v r:=by
 cases r with
 | no=>exact h
 | sh d=>exact h
 | ow ds=>obtain ⟨p,xs,e1,e2,e3,h⟩:=h;exact ⟨p,xs,e1,s.free e2,e3,h⟩
 | dw bG=>obtain ⟨p,e1,e2,e3⟩:=h;exact ⟨p,e1,s.free e2,e3⟩
theorem Res.less(hO:∀q,O' q->O q)(h:Res K O B H v r):Res K O' B H v r:=by
 cases r with
 | no=>exact h
 | sh d=>exact Is.less hO h
 | ow ds=>obtain ⟨p,xs,e1,e2,e3,h⟩:=h;exact ⟨p,xs,e1,e2,e3,h.less λq z=>z.elim (λw=>.inl (hO _ w)) .inr⟩
 | dw bG=>exact h
theorem Res.is(hd:∀q,O q->B q≠none)(h:Res K O B H v r):Is K O H v r.d:=by
 cases r with
 | no=>exact h.elim
 | sh d=>exact h
 | ow ds =>
  obtain ⟨p,xs,rfl,e2,e3,h⟩:=h
  exact .lst (λz=>hd p z e2) e3 (h.less λ_=>.inl)
 | dw bG =>
  obtain ⟨p,rfl,e2,e3⟩:=h
  exact .fL (λz=>hd p z e2) e3
end
def EV(X:Cx)(e:Expr)(f:En->Option Sl):Prop:=
 ∃t:TE,PE X e t/\∀(O:Addr->Prop) (B:Hp) (σ:L2.St) (H:Hp) (env:En) (r:Sl) (Q:VK),Rel X.K O B σ H env->f env=some r ->
  (∀v H',au H H'->Res X.K (OO O σ env) H H' v r->Q v H')->t σ H Q
def BV(X:Cx)(e:Expr)(f:En->Option (Bool×List D)):Prop:=
 ∃t:TE,PE X e t/\∀(O:Addr->Prop) (B:Hp) (σ:L2.St) (H:Hp) (env:En) (k:Bool) (ds:List D) (Q:VK),Rel X.K O B σ H env->f env=some (k,ds) ->
  (∀p xs H',au H H'->Sq X.K H' k p xs->aN X.K (OO O σ env) H' xs ds->Q (.ref p) H')->t σ H Q
def AV(X:Cx)(es:List Expr)(f:En->Option (List D)):Prop:=
 ∃t:TA,PA X es t/\∀(O:Addr->Prop) (B:Hp) (σ:L2.St) (H:Hp) (env:En) (ds:List D) (Q:List V->Hp->Prop),Rel X.K O B σ H env->f env=some ds ->
  (∀vs H',au H H'->aN X.K (OO O σ env) H' vs ds->Q vs H')->t σ H Q
def TV(X:Cx)(e:Expr)(f:En->Option Bool):Prop:=
 ∃t:TT,PT X e t/\∀(O:Addr->Prop) (B:Hp) (σ:L2.St) (H:Hp) (env:En) (b:Bool) (Q:Bool->Hp->Prop),Rel X.K O B σ H env->f env=some b ->
  (∀H',au H H'->Q b H')->t σ H Q
def WV(X:Cx)(e:Expr)(f:En->Option Bool):Prop:=
 ∃t:TT,PW X e t/\∀(O:Addr->Prop) (B:Hp) (σ:L2.St) (H:Hp) (env:En) (b:Bool) (Q:Bool->Hp->Prop),Rel X.K O B σ H env->f env=some b ->
  (∀H',au H H'->Q b H')->t σ H Q
inductive Fl where
 | nx | bk | ct | rt (r:Sl)
def Gd(σ:L2.St)(env:En)(H:Hp)(aJ:L2.St)(ak:En)(H':Hp):Prop:=∀q u,H q=some u->¬mE σ env q->H' q=some u/\¬mE aJ ak q
theorem Gd.trans(a:Gd σ env H h8 bT H1)(b:Gd h8 bT H1 cJ bu H2):Gd σ env H cJ bu H2:=λq u e n =>
 let ⟨e1,n1⟩:=a q u e n
 b q u e1 n1
theorem Gd.from(s:au H H1)(b:Gd σ env H1 aJ ak H'):Gd σ env H aJ ak H':=λq u e n=>b q u (s _ _ e) n
theorem Gd.refl(s:au H H'):Gd σ env H σ env H':=λq u e n=>⟨s _ _ e,n⟩
noncomputable def dh(K:aM)(O:Addr->Prop)(B:Hp)(σ:L2.St)(H:Hp)(env:En)(D:Ends):Fl->En->Prop
 | .nx,ak=>∀aJ H',Rel K O B aJ H' ak->Gd σ env H aJ ak H'->D.nx aJ H'
 | .bk,ak=>∀aJ H',Rel K O B aJ H' ak->Gd σ env H aJ ak H'->D.bk aJ H'
 | .ct,ak=>∀aJ H',Rel K O B aJ H' ak->Gd σ env H aJ ak H'->D.ct aJ H'
 | .rt r,_=>∀v H',au B H'->Res K O B H' v r->D.rt v H'
theorem dh.from{K:aM}{O:Addr->Prop}{B:Hp}{σ h8:L2.St}{H H1:Hp}{env bT:En}{D:Ends}{fl:Fl}{ak:En}(g:Gd σ env H h8 bT H1)(h:dh K O B σ H env D fl ak):dh K O B h8 H1 bT D fl ak:=by
 cases fl with
 | nx=>exact λaJ H' R g'=>h aJ H' R (g.trans g')
 | bk=>exact λaJ H' R g'=>h aJ H' R (g.trans g')
 | ct=>exact λaJ H' R g'=>h aJ H' R (g.trans g')
 | rt r=>exact h
noncomputable abbrev SF:=En->Option (Fl×En)
def SV(X:Cx)(st:Stmt)(F:SF):Prop:=
 ∃t:TS,PS X st t/\∀(O:Addr->Prop) (B:Hp) (σ:L2.St) (H:Hp) (env:En) (fl:Fl) (ak:En) (D:Ends),Rel X.K O B σ H env->F env=some (fl,ak)->dh X.K O B σ H env D fl ak->t D σ H
def mY(X:Cx)(st:List Stmt)(F:SF):Prop:=
 ∃t:TS,mZ X st t/\∀(O:Addr->Prop) (B:Hp) (σ:L2.St) (H:Hp) (env:En) (fl:Fl) (ak:En) (D:Ends),Rel X.K O B σ H env->F env=some (fl,ak)->dh X.K O B σ H env D fl ak->t D σ H
section
variable {X:Cx}{a b c:Expr}{pos:Pos}{fa fb fc:En->Option Sl}
noncomputable def eC(d:D):En->Option Sl:=λ_=>some (.sh d)
theorem ai{i j pos}:EV X (.Constant (.int i) j pos) (eC (.int i)):=⟨_,b7U,λ_ _ _ _ _ _ _ _ e k=>by
 obtain rfl:=cG e
 exact k _ _ (au.refl _) (Is.int i)⟩
theorem D6{i j pos}:EV X (.Constant (.bool i) j pos) (eC (.bl i)):=⟨_,yM,λ_ _ _ _ _ _ _ _ e k=>by
 obtain rfl:=cG e
 exact k _ _ (au.refl _) (Is.bl i)⟩
theorem Bc{j pos}:EV X (.Constant .none j pos) (eC .bz):=⟨_,b7S,λ_ _ _ _ _ _ _ _ e k=>by
 obtain rfl:=cG e
 exact k _ _ (au.refl _) Is.bz⟩
noncomputable def Cz:Option Sl->Option Sl
 | some (.sh d)=>some (.sh d)
 | _=>none
theorem b3k(h:Cz o=some r):∃d,o=some (Sl.sh d)/\r=.sh d:=by
 cases o with
 | none=>cases h
 | some s=>cases s with
  | sh d=>cases h;exact ⟨d,rfl,rfl⟩
  | no=>cases h
  | ow ds=>cases h
  | dw ds=>cases h
noncomputable def eV(i:Nat):En->Option Sl:=λenv=>Cz env[i]?
theorem b8v(i:Nat)(hN:X.N[i]?=some x:=by rfl)(hv:jI X.env.scope x:=by first | exact cX rfl | exact bP (cX rfl) | exact bP (bP rfl))(hd:(x==("__debug__":Str))=false:=by decide)
  (dC:(x==("__classdict__":Str))=false:=by decide):EV X (.Name x pos) (eV i):=⟨_,vk hN hv hd dC,λO B σ H env r Q R e k=>by
 obtain ⟨d,e1,rfl⟩:=b3k e
 obtain ⟨v,e2,h⟩:=R.sh i d e1
 exact ⟨v,e2,k v H (au.refl _) h⟩⟩
noncomputable def vY:Option Sl->Option (Bool×List D)
 | some (.sh d)=>eO d
 | some (.ow ds)=>some (true,ds)
 | _=>none
noncomputable def bV(i:Nat):En->Option (Bool×List D):=λenv=>vY env[i]?
theorem b8K(i:Nat)(hN:X.N[i]?=some x:=by rfl)(hv:jI X.env.scope x:=by first | exact cX rfl | exact bP (cX rfl) | exact bP (bP rfl))(hd:(x==("__debug__":Str))=false:=by decide)
  (dC:(x==("__classdict__":Str))=false:=by decide):BV X (.Name x pos) (bV i):=⟨_,vk hN hv hd dC,λO B σ H env k ds Q R e q=>by
 unfold bV at e
 cases h:env[i]? with
 | none=>rw [h] at e;cases e
 | some s =>
  rw [h] at e
  cases s with
  | no=>cases e
  | sh d =>
   obtain ⟨v,e2,hv⟩:=R.sh i d h
   obtain ⟨p,xs,rfl,h1,h2⟩:=hv.seq (show eO d=some (k,ds) from e)
   exact ⟨_,e2,q p xs H (au.refl _) h1 h2⟩
  | dw es=>cases e
  | ow es =>
   obtain ⟨rfl,rfl⟩:true=k/\es=ds:=Prod.mk.inj (cG e)
   obtain ⟨p,xs,e2,_,e3,h2⟩:=R.ow i es h
   exact ⟨_,e2,q p xs H (au.refl _) (.inl (.inl e3)) h2⟩⟩
noncomputable def gx(f:En->Option Sl):En->Option (Bool×List D):=λenv=>(f env).bind λr=>eO r.d
theorem bind_some{α β:Type}{o:Option α}{f:α->Option β}{b:β}(h:o.bind f=some b):∃a,o=some a/\f a=some b:=by
 cases o with
 | none=>cases h
 | some a=>exact ⟨a,rfl,h⟩
theorem ik(h:EV X a fa):BV X a (gx fa):=by
 obtain ⟨t,ht,p⟩:=h
 refine ⟨t,ht,λO B σ H env k ds Q R e q=>?_⟩
 obtain ⟨r,e1,e2⟩:=bind_some e
 refine p O B σ H env r _ R e1 λv H' s h=>?_
 obtain ⟨p,xs,rfl,h1,h2⟩:=(h.is (λz=>R.oo)).seq e2
 exact q p xs H' s h1 h2
def iZ(X:Cx)(f:Value->Value->Sem Value)(g:D->D->Option Sl):Prop:=
 ∃r:R2,gu X f r/\∀(O:Addr->Prop) (H:Hp) (x y:V) (a b:D) (s:Sl) (Q:VK),(∀q,O q->H q≠none)->Is X.K O H x a->Is X.K O H y b->g a b=some s ->
  (∀v H',au H H'->Res X.K O H H' v s->Q v H')->r x y H Q
noncomputable def ae(g:D->D->Option Sl)(fa fb:En->Option Sl):En->Option Sl:=λenv=>(fa env).bind λx=>(fb env).bind λy=>g x.d y.d
theorem KJ(hg:∀(O:Addr->Prop) (H:Hp) (x y:V) (a b:D) (s:Sl) (Q:VK),(∀q,O q->H q≠none)->Is X.K O H x a->Is X.K O H y b->g a b=some s->(∀v H',au H H'->Res X.K O H H' v s->Q v H')->r x y H Q)(pa:∀(O:Addr->Prop) (B:Hp) (σ:L2.St) (H:Hp) (env:En) (r:Sl) (Q:VK),Rel X.K O B σ H env->fa env=some r->(∀v H',au H H'->Res X.K (OO O σ env) H H' v r->Q v H')->ta σ H Q)
  (pb:∀(O:Addr->Prop) (B:Hp) (σ:L2.St) (H:Hp) (env:En) (r:Sl) (Q:VK),Rel X.K O B σ H env->fb env=some r->(∀v H',au H H'->Res X.K (OO O σ env) H H' v r->Q v H')->tb σ H Q)
  (O:Addr->Prop)(B:Hp)(σ:L2.St)(H:Hp)(env:En)(s:Sl)(Q:VK)(R:Rel X.K O B σ H env)(e:ae g fa fb env=some s)
  (k:∀v H',au H H'->Res X.K (OO O σ env) H H' v s->Q v H'):yf r ta tb σ H Q:=by
 obtain ⟨x,e1,e⟩:=bind_some e
 obtain ⟨y,e2,e⟩:=bind_some e
 refine pa O B σ H env x _ R e1 λv H1 s1 h1=>?_
 refine pb O B σ H1 env y _ (R.grow s1) e2 λu H2 s2 h2=>?_
 have R2:=(R.grow s1).grow s2
 refine hg (OO O σ env) H2 v u x.d y.d s Q (λq=>R2.oo) ((h1.is λq=>R.oo).grow s2) (h2.is λq=>(R.grow s1).oo) e λw H3 s3 h3=>?_
 exact k w H3 ((s1.trans s2).trans s3) (h3.from (s1.trans s2))
theorem aD(ho:iZ X (binaryOp op) g)(ha:EV X a fa)(hb:EV X b fb):EV X (.BinOp a op b pos) (ae g fa fb):=by
 obtain ⟨r,hr,hg⟩:=ho
 obtain ⟨ta,pa,ka⟩:=ha
 obtain ⟨tb,pb,kb⟩:=hb
 exact ⟨_,yK hr pa pb,KJ hg ka kb⟩
theorem El(ho:iZ X (compareOp op) g)(ha:EV X a fa)(hb:EV X b fb)(hm:behindInMarks op b=false:=by exact P2 _):EV X (.Compare a [op] [b] pos) (ae g fa fb):=by
 obtain ⟨r,hr,hg⟩:=ho
 obtain ⟨ta,pa,ka⟩:=ha
 obtain ⟨tb,pb,kb⟩:=hb
 exact ⟨_,b5V hr pa pb hm,KJ hg ka kb⟩
noncomputable def mV:Option Sl->Option Bool
 | some (.sh (.bl b))=>some b
 | _=>none
theorem KH{b:Bool}(h:mV o=some b):o=some (Sl.sh (.bl b)):=by
 cases o with
 | none=>cases h
 | some s=>cases s with
  | no=>cases h
  | ow ds=>cases h
  | dw ds=>cases h
  | sh d=>cases d<;>cases h;rfl
noncomputable def bN(f:En->Option Sl):En->Option Bool:=λenv=>mV (f env)
theorem vi{K:aM}{O:Addr->Prop}{H:Hp}{v:V}{b:Bool}(h:Is K O H v (.bl b)):v=.bl b:=by cases h;rfl
theorem iI{K:aM}{O:Addr->Prop}{H:Hp}{v:V}{b:Int}(h:Is K O H v (.int b)):v=.int b:=by cases h;rfl
theorem JH{K:aM}{O:Addr->Prop}{H:Hp}{v:V}(h:Is K O H v .bz):v=.bz:=by cases h;rfl
theorem JI{K:aM}{O:Addr->Prop}{H:Hp}{v:V}{b:Str}(h:Is K O H v (.str b)):v=.str b:=by cases h;rfl
theorem bW(ho:iZ X (compareOp op) g)(ha:EV X a fa)(hb:EV X b fb)(hm:behindInMarks op b=false:=by exact P2 _):TV X (.Compare a [op] [b] pos) (bN (ae g fa fb)):=by
 obtain ⟨r,hr,hg⟩:=ho
 obtain ⟨ta,pa,ka⟩:=ha
 obtain ⟨tb,pb,kb⟩:=hb
 refine ⟨_,b5M hr pa pb hm,λO B σ H env k Q R e q=>?_⟩
 exact KJ hg ka kb O B σ H env _ _ R (KH e) λv H' s h=>⟨k,vi h,q H' s⟩
noncomputable def lT:D->Option Bool
 | .bz=>some false
 | .bl b=>some b
 | .int i=>some (i != 0)
 | .str y=>if y.length<=16777216 then some ((y.length:Int) != 0) else none
 | .tup ds=>some (!ds.isEmpty)
 | .lst _ ds=>some (!ds.isEmpty)
 | .exc _=>none
 | .fL _ _=>none
theorem aN.isEmpty{K:aM}{O:Addr->Prop}{H:Hp}{xs:List V}{ds:List D}(h:aN K O H xs ds):xs.isEmpty=ds.isEmpty:=by cases h<;>rfl
theorem b5w{K:aM}{O:Addr->Prop}{H:Hp}{v:V}{d:D}{b:Bool}(h:Is K O H v d)(e:lT d=some b):vP K v H b:=by
 cases h with
 | bz=>cases e;rfl
 | bl b=>cases e;rfl
 | int i=>cases e;rfl
 | str x =>
  unfold lT at e
  dsimp only at e
  by_cases hl:x.length<=16777216
  .rw [if_pos hl] at e;cases e;exact ⟨by rw [ij];exact hl,rfl⟩
  .rw [if_neg hl] at e;cases e
 | tup ho hp hs=>cases e;exact .inr (.inl ⟨_,.inl hp,by rw [hs.isEmpty]⟩)
 | nq hp hs=>cases e;exact .inr (.inl ⟨_,Bw hp,by rw [hs.isEmpty]⟩)
 | lst ho hp hs=>cases e;exact .inl ⟨_,.inl (.inl hp),by rw [hs.isEmpty]⟩
 | lW ho hp hs=>cases e;exact .inl ⟨_,.inl hp,by rw [hs.isEmpty]⟩
 | lY hp hs=>cases e;exact .inl ⟨_,Bv hp,by rw [hs.isEmpty]⟩
 | exc ho hn hp=>cases e
 | fL ho hp=>cases e
 | qQ ho hp=>cases e
noncomputable def cC(f:En->Option Sl):En->Option Bool:=λenv=>(f env).bind λr=>lT r.d
theorem jE(ha:EV X a fa)(he:∀whole,isTrue a X.env whole=(do let v <-whole;standAt a.pos;holding [v] (truthy v)):=by intro _;rfl):TV X a (cC fa):=by
 obtain ⟨ta,pa,ka⟩:=ha
 refine ⟨_,QS pa he,λO B σ H env k Q R e q=>?_⟩
 obtain ⟨r,e1,e2⟩:=bind_some e
 exact ka O B σ H env r _ R e1 λv H' s h=>⟨k,b5w (h.is λq=>R.oo) e2,q H' s⟩
noncomputable def A3(f:En->Option (Bool×List D)):En->Option Bool:=λenv=>(f env).bind λr=>some (!r.2.isEmpty)
theorem Qt{fa:En->Option (Bool×List D)}(ha:BV X a fa)(he:∀whole,isTrue a X.env whole=(do let v <-whole;standAt a.pos;holding [v] (truthy v)):=by intro _;rfl):TV X a (A3 fa):=by
 obtain ⟨ta,pa,ka⟩:=ha
 refine ⟨_,QS pa he,λO B σ H env k Q R e q=>?_⟩
 obtain ⟨⟨kk,ds⟩,e1,e2⟩:=bind_some e
 cases e2
 refine ka O B σ H env kk ds _ R e1 λp xs H' s h hs=>⟨_,?_,q H' s⟩
 cases kk with
 | true=>exact .inl ⟨xs,h,by rw [hs.isEmpty]⟩
 | false=>exact .inr (.inl ⟨xs,h,by rw [hs.isEmpty]⟩)
noncomputable def sV(f g:En->Option Bool):En->Option Bool:=λenv=>match f env with
 | some true=>g env
 | some false=>some false
 | none=>none
noncomputable def iy(f g:En->Option Bool):En->Option Bool:=λenv=>match f env with
 | some false=>g env
 | some true=>some true
 | none=>none
noncomputable def w9(f:En->Option Bool):En->Option Bool:=λenv=>(f env).map (!·)
variable {ga gb:En->Option Bool}{rest:List Expr}
theorem EF(ha:TV X a ga):WV X (.BoolOp .And [a] pos) ga:=let ⟨t,p,k⟩:=ha;⟨t,b5K p,k⟩
theorem Ez(ha:TV X a ga):WV X (.BoolOp .Or [a] pos) ga:=let ⟨t,p,k⟩:=ha;⟨t,b7I p,k⟩
theorem Ey(ha:TV X a ga)(hb:WV X (.BoolOp .And (b::rest) pos) gb):WV X (.BoolOp .And (a::b::rest) pos) (sV ga gb):=by
 obtain ⟨t,p,k⟩:=ha
 obtain ⟨u,p',k'⟩:=hb
 refine ⟨_,b7J p p',λO B σ H env d Q R e q=>?_⟩
 unfold sV at e
 cases h:ga env with
 | none=>rw [h] at e;cases e
 | some x =>
  rw [h] at e
  refine k O B σ H env x _ R h λH1 s1=>?_
  cases x with
  | true =>
   rw [if_pos rfl]
   exact k' O B σ H1 env d Q (R.grow s1) e λH2 s2=>q H2 (s1.trans s2)
  | false =>
   cases e
   rw [if_neg nJ]
   exact q H1 s1
theorem Ek(ha:TV X a ga)(hb:WV X (.BoolOp .Or (b::rest) pos) gb):WV X (.BoolOp .Or (a::b::rest) pos) (iy ga gb):=by
 obtain ⟨t,p,k⟩:=ha
 obtain ⟨u,p',k'⟩:=hb
 refine ⟨_,pw_or p p',λO B σ H env d Q R e q=>?_⟩
 unfold iy at e
 cases h:ga env with
 | none=>rw [h] at e;cases e
 | some x =>
  rw [h] at e
  refine k O B σ H env x _ R h λH1 s1=>?_
  cases x with
  | false =>
   rw [if_neg nJ]
   exact k' O B σ H1 env d Q (R.grow s1) e λH2 s2=>q H2 (s1.trans s2)
  | true =>
   cases e
   rw [if_pos rfl]
   exact q H1 s1
theorem jU(h:WV X a ga):TV X a ga:=let ⟨t,p,k⟩:=h;⟨t,p.pt,k⟩
theorem PR(ha:TV X a ga):TV X (.UnaryOp .Not a pos) (w9 ga):=by
 obtain ⟨t,p,k⟩:=ha
 refine ⟨_,b7K p,λO B σ H env d Q R e q=>?_⟩
 unfold w9 at e
 cases h:ga env with
 | none=>rw [h] at e;cases e
 | some x =>
  rw [h] at e
  cases e
  exact k O B σ H env x _ R h λH1 s1=>q H1 s1
noncomputable def ny(f g:En->Option Sl):En->Option Sl:=λenv=>match mV (f env) with
 | some true=>g env
 | some false=>some (.sh (.bl false))
 | none=>none
noncomputable def o9(f:En->Option Sl):En->Option Sl:=λenv=>(mV (f env)).map λb=>.sh (.bl !b)
theorem Pt(h:EV X a fa):EV X (.BoolOp op [a] pos) fa:=let ⟨t,p,k⟩:=h;⟨t,b7Q p,k⟩
theorem Pq(ha:EV X a fa)(hb:EV X (.BoolOp .And (b::rest) pos) fb):EV X (.BoolOp .And (a::b::rest) pos) (ny fa fb):=by
 obtain ⟨t,p,k⟩:=ha
 obtain ⟨u,p',k'⟩:=hb
 refine ⟨_,b7X p p',λO B σ H env r Q R e q=>?_⟩
 unfold ny at e
 cases h:mV (fa env) with
 | none=>rw [h] at e;cases e
 | some x =>
  rw [h] at e
  refine k O B σ H env _ _ R (KH h) λv H1 s1 r1=>⟨x,vi r1,?_⟩
  cases x with
  | true =>
   rw [if_pos rfl]
   exact k' O B σ H1 env r Q (R.grow s1) e λv2 H2 s2 r2=>q v2 H2 (s1.trans s2) (r2.from s1)
  | false =>
   obtain rfl:=cG e
   rw [if_neg nJ]
   exact q _ H1 s1 (Is.bl false)
theorem b8w(ha:EV X a fa):EV X (.UnaryOp .Not a pos) (o9 fa):=by
 obtain ⟨t,p,k⟩:=ha
 refine ⟨_,b7R p,λO B σ H env r Q R e q=>?_⟩
 unfold o9 at e
 cases h:mV (fa env) with
 | none=>rw [h] at e;cases e
 | some x =>
  rw [h] at e
  obtain rfl:=cG e
  exact k O B σ H env _ _ R (KH h) λv H1 s1 r1=>⟨x,vi r1,q _ H1 s1 (Is.bl _)⟩
noncomputable def gU(c:En->Option Bool)(f g:En->Option Sl):En->Option Sl:=λenv=>match c env with
 | some true=>f env
 | some false=>g env
 | none=>none
theorem jS(hc:TV X c ga)(ha:EV X a fa)(hb:EV X b fb):EV X (.IfExp c a b pos) (gU ga fa fb):=by
 obtain ⟨tc,pc,kc⟩:=hc
 obtain ⟨t,p,k⟩:=ha
 obtain ⟨u,p',k'⟩:=hb
 refine ⟨_,b3F pc p p',λO B σ H env r Q R e q=>?_⟩
 unfold gU at e
 cases h:ga env with
 | none=>rw [h] at e;cases e
 | some x =>
  rw [h] at e
  refine kc O B σ H env x _ R h λH1 s1=>?_
  cases x with
  | true =>
   rw [if_pos rfl]
   exact k O B σ H1 env r Q (R.grow s1) e λv2 H2 s2 r2=>q v2 H2 (s1.trans s2) (r2.from s1)
  | false =>
   rw [if_neg nJ]
   exact k' O B σ H1 env r Q (R.grow s1) e λv2 H2 s2 r2=>q v2 H2 (s1.trans s2) (r2.from s1)
noncomputable def uF:D->Option Sl
 | .int i=>some (.sh (.int (-i)))
 | _=>none
noncomputable def fD(f:En->Option Sl):En->Option Sl:=λenv=>(f env).bind λr=>uF r.d
theorem oz(ha:EV X a fa):EV X (.UnaryOp .USub a pos) (fD fa):=by
 obtain ⟨t,p,k⟩:=ha
 refine ⟨_,yJ b7o p,λO B σ H env r Q R e q=>?_⟩
 obtain ⟨x,e1,e2⟩:=bind_some e
 refine k O B σ H env x _ R e1 λv H1 s1 r1=>?_
 have hi:=r1.is λq=>R.oo
 cases hd:x.d with
 | int i =>
  rw [hd] at hi e2
  obtain rfl:=iI hi
  obtain rfl:=cG e2
  exact ⟨i,rfl,q _ H1 s1 (Is.int _)⟩
 | _=>rw [hd] at e2;cases e2
variable {e:Expr}{es:List Expr}
noncomputable def aa:En->Option (List D):=λ_=>some []
noncomputable def af(f:En->Option Sl)(g:En->Option (List D)):En->Option (List D):=λenv=>(f env).bind λr=>(g env).bind λds=>some (r.d::ds)
theorem ao:AV X [] aa:=⟨_,rm,λO B σ H env ds Q R e q=>by
 obtain rfl:=cG e
 exact q [] H (au.refl _) .nil⟩
theorem ag(ha:EV X e fe)(hb:AV X es fs)(hs:starEach (e::es) X.env=(false,eval e X.env)::starEach es X.env:=by rfl):AV X (e::es) (af fe fs):=by
 obtain ⟨t,p,k⟩:=ha
 obtain ⟨u,p',k'⟩:=hb
 refine ⟨_,qe p p' hs,λO B σ H env ds Q R e q=>?_⟩
 obtain ⟨r,e1,e2⟩:=bind_some e
 obtain ⟨gc,e4,e3⟩:=bind_some e2
 obtain rfl:=cG e3
 refine k O B σ H env r _ R e1 λv H1 s1 r1=>?_
 refine k' O B σ H1 env gc _ (R.grow s1) e4 λvs H2 s2 r2=>?_
 exact q _ H2 (s1.trans s2) (.cons ((r1.is λq=>R.oo).grow s2) r2)
theorem oD(h:H p=none)(o:HO):au H (upd H p o):=λb u q=>by rw [c5 (pI q h)];exact q
noncomputable def aP(f:En->Option (List D)):En->Option Sl:=λenv=>(f env).bind λds=>if ds.length<=16777216 then some (.sh (.tup ds)) else none
noncomputable def bq(f:En->Option (List D)):En->Option Sl:=λenv=>(f env).bind λds=>if ds.length<=16777216 then some (.ow ds) else none
theorem iu{α:Type}{c:Prop}[Decidable c]{x y:α}(h:(if c then some x else none)=some y):c/\x=y:=by
 by_cases hc:c
 .rw [if_pos hc] at h;exact ⟨hc,cG h⟩
 .rw [if_neg hc] at h;cases h
theorem EI{K:aM}{O:Addr->Prop}{H:Hp}{p:Addr}{xs:List V}{ds:List D}(hO:∀q,O q->H q≠none)(hp:H p=none)(h:aN K O H xs ds):Res K O H (upd H p (.tup xs)) (.ref p) (.sh (.tup ds)):=
 Is.tup (λz=>hO p z hp) (.inl pK) (h.grow (oD hp _))
theorem xp{K:aM}{O:Addr->Prop}{H:Hp}{p:Addr}{xs:List V}{ds:List D}(hp:H p=none)(h:aN K O H xs ds):Res K O H (upd H p (.lst xs)) (.ref p) (.ow ds):=
 ⟨p,xs,rfl,hp,pK,h.map (λq hq hn z=>z.elim hn λw=>hq (by rw [w];exact hp)) λq u e _=>oD hp _ q u e⟩
theorem dk{x1}(h:AV X es fs):EV X (.Tuple es x1 pos) (aP fs):=by
 obtain ⟨t,p,k⟩:=h
 refine ⟨_,b7P p,λO B σ H env r Q R e q=>?_⟩
 obtain ⟨ds,e1,e2⟩:=bind_some e
 obtain ⟨hl,rfl⟩:=iu e2
 refine k O B σ H env ds _ R e1 λvs H1 s1 r1=>⟨by rw [r1.length,ij];exact hl,λp hp=>?_⟩
 exact q _ _ (s1.trans (oD hp _)) ((EI (O:=OO O σ env) (H:=H1) (λ_ z=>(R.grow s1).oo z) hp r1).from s1)
theorem eZ(h:AV X es fs):EV X (.List es pos) (bq fs):=by
 obtain ⟨t,p,k⟩:=h
 refine ⟨_,b7T p,λO B σ H env r Q R e q=>?_⟩
 obtain ⟨ds,e1,e2⟩:=bind_some e
 obtain ⟨hl,rfl⟩:=iu e2
 refine k O B σ H env ds _ R e1 λvs H1 s1 r1=>⟨by rw [r1.length,ij];exact hl,λp hp=>?_⟩
 exact q _ _ (s1.trans (oD hp _)) ((xp hp r1).from s1)
noncomputable def av(f:En->Option (Bool×List D))(g:En->Option Sl):En->Option Sl:=λenv=>(f env).bind λx=>(g env).bind λy=>match y.d with
 | .int i=>(dF x.2 i).map .sh
 | _=>none
theorem az{fa:En->Option (Bool×List D)}(ha:BV X a fa)(hb:EV X b fb)(hs:Qm b:=by exact λ_ _=>rfl):EV X (.Subscript a b pos) (av fa fb):=by
 obtain ⟨t,p,k⟩:=ha
 obtain ⟨u,p',k'⟩:=hb
 refine ⟨_,yL b8i p p' hs,λO B σ H env r Q R e q=>?_⟩
 obtain ⟨⟨kk,ds⟩,e1,e2⟩:=bind_some e
 obtain ⟨y,e2,e3⟩:=bind_some e2
 refine k O B σ H env kk ds _ R e1 λl xs H1 s1 hq hx=>?_
 refine k' O B σ H1 env y _ (R.grow s1) e2 λw H2 s2 r2=>?_
 have hi:=r2.is λq=>(R.grow s1).oo
 cases hd:y.d with
 | int i =>
  rw [hd] at hi e3
  obtain rfl:=iI hi
  dsimp only at e3
  cases h:dF ds i with
  | none=>rw [h] at e3;cases e3
  | some d =>
   rw [h] at e3
   obtain rfl:=cG e3
   obtain ⟨v,h1,h2⟩:=(hx.grow s2).dF h
   have dH:=hq.grow s2
   have fin:=q v H2 (s1.trans s2) h2
   cases kk with
   | true=>exact .inl ⟨l,xs,i,v,rfl,rfl,dH,h1,fin⟩
   | false=>exact .inr (.inl ⟨l,xs,i,v,rfl,rfl,dH,h1,fin⟩)
 | _=>rw [hd] at e3;cases e3
end
noncomputable def LIM:Int:=10^250
theorem b6g(h1:-LIM<=j)(h2:j<=LIM):j.natAbs<2^900:=by
 have e:LIM<(2:Int)^900:=by unfold LIM;decide +kernel
 have e2:((2:Int)^900)=((2^900:Nat):Int):=by simp
 generalize (2^900:Nat)=m at *
 generalize LIM=l at *
 omega
theorem Ku(h1:-LIM<=j)(h2:j<=LIM):j.natAbs.log2<900:=by
 rcases Nat.eq_zero_or_pos j.natAbs with h0 | hp
 .rw [h0];decide
 .exact (Nat.log2_lt (uS hp)).mpr (b6g h1 h2)
theorem QL(h1:-LIM<=j)(h2:j<=LIM):Ov j<=900:=by
 have:=Ku h1 h2
 unfold Ov
 split<;>lia
def MulC(i j:Int):Prop:=(-(2^64)<i/\i<2^64)\/(-(2^64)<j/\j<2^64)\/((-LIM<=i/\i<=LIM)/\(-LIM<=j/\j<=LIM))
noncomputable instance (i j:Int):Decidable (MulC i j):=by unfold MulC;infer_instance
theorem MulC.ok(h:MulC i j):IntMulOk i j:=by
 rcases h with ⟨h1,h2⟩ | ⟨h1,h2⟩ | ⟨⟨h1,h2⟩,h3,h4⟩
 .exact .of_left (Dj h1 h2)
 .exact .of_right (Dj h1 h2)
 .exact mulOk_of_bits (QL h1 h2) (QL h3 h4) (by decide)
def DivC(_ j:Int):Prop:=0<j/\j<=LIM
noncomputable instance (i j:Int):Decidable (DivC i j):=by unfold DivC;infer_instance
def jK(_ j:Int):Prop:=0<j
noncomputable instance (i j:Int):Decidable (jK i j):=by unfold jK;infer_instance
def PowC(i j:Int):Prop:=0<=j/\j<=1000000/\i.natAbs<2^64
noncomputable instance (i j:Int):Decidable (PowC i j):=by unfold PowC;infer_instance
noncomputable def gI(C:Int->Int->Prop)[∀i j,Decidable (C i j)](h:Int->Int->Int):D->D->Option Sl
 | .int i,.int j=>if C i j then some (.sh (.int (h i j))) else none
 | _,_=>none
noncomputable def gB(h:Int->Int->Bool):D->D->Option Sl
 | .int i,.int j=>some (.sh (.bl (h i j)))
 | _,_=>none
section
variable {X:Cx}
theorem w4{f:Value->Value->Sem Value}{C:Int->Int->Prop}[∀i j,Decidable (C i j)]{h:Int->Int->Int}(ho:gu X f (rI C λi j=>.int (h i j))):iZ X f (gI C h):=by
 refine ⟨_,ho,λO H x y a b s Q hO hx hy e q=>?_⟩
 cases a with
 | int i=>cases b with
  | int j =>
   obtain ⟨hc,rfl⟩:=iu (show (if C i j then some (Sl.sh (.int (h i j))) else none)=some s from e)
   exact ⟨i,j,iI hx,iI hy,hc,q _ H (au.refl _) (Is.int _)⟩
  | _=>cases e
 | _=>cases e
theorem JG(ho:gu X f (tW λi j=>.bl (h i j))):iZ X f (gB h):=by
 refine ⟨_,ho,λO H x y a b s Q hO hx hy e q=>?_⟩
 cases a with
 | int i=>cases b with
  | int j =>
   obtain rfl:=cG (show some (Sl.sh (.bl (h i j)))=some s from e)
   exact ⟨i,j,iI hx,iI hy,q _ H (au.refl _) (Is.bl _)⟩
  | _=>cases e
 | _=>cases e
noncomputable def dr:D->D->Option Sl:=gI MulC λi j=>i*j
noncomputable def bH:D->D->Option Sl:=gI DivC λi j=>i/j
noncomputable def bF:D->D->Option Sl:=gI jK λi j=>i%j
noncomputable def eQ:D->D->Option Sl:=gI PowC λi j=>i^j.toNat
noncomputable def bL:D->D->Option Sl:=gI (λ_ _=>True) λi j=>i-j
noncomputable def fC:D->D->Option Sl:=gB λi j=>decide (i<j)
noncomputable def uG:D->D->Option Sl:=gB λi j=>decide (i<=j)
noncomputable def qN:D->D->Option Sl:=gB λi j=>decide (j<i)
noncomputable def YC:D->D->Option Sl:=gB λi j=>decide (j<=i)
theorem ku:iZ X (binaryOp .Mult) dr:=w4 (tZ λ_ _ _ _ _ _ _ (hc:MulC _ _) q=>mul_int q hc.ok)
theorem fK:iZ X (binaryOp .FloorDiv) bH:=w4 (tZ λi j _ _ _ _ _ (hc:DivC i j) q=>by
 have h1:(0:Int)<j:=hc.1
 have h2:=Ku (j:=j) (by have:(0:Int)<=LIM:=(by decide +kernel);ext h1 this) hc.2
 exact floordiv_int (by ext h1) (by rw [Ji i (by ext h1)];exact q) (.inl (OS (fm ‹_› (by decide)))))
theorem e8:iZ X (binaryOp .Mod) bF:=w4 (tZ λi j _ _ _ _ _ (hc:jK i j) q=>by
 have h1:(0:Int)<j:=hc
 exact mod_int' (by ext h1) (by rw [Int.fmod_eq_emod_of_nonneg i (by ext h1)];exact q))
theorem nM:iZ X (binaryOp .Pow) eQ:=w4 (tZ λ_ _ _ _ _ _ _ (hc:PowC _ _) q=>pow_int_small hc.1 hc.2.1 hc.2.2 q)
theorem gh:iZ X (binaryOp .Sub) bL:=w4 (tZ λ_ _ _ _ _ _ _ _ q=>sub_int q)
theorem gg:iZ X (compareOp .Lt) fC:=JG yR
theorem A6:iZ X (compareOp .LtE) uG:=JG yS
theorem vf:iZ X (compareOp .Gt) qN:=JG yT
noncomputable def bj:D->D->Option Sl
 | .int i,.int j=>some (.sh (.int (i+j)))
 | .lst false a,.lst false b=>if a.length+b.length<=16777216 then some (.ow (a++b)) else none
 | .tup a,.tup b=>if a.length+b.length<=16777216 then some (.sh (.tup (a++b))) else none
 | .str a,.str b=>if a.length+b.length<=16777216 then some (.sh (.str (a++b))) else none
 | _,_=>none
theorem Em{K:aM}{O:Addr->Prop}{H:Hp}{v:V}{ds:List D}(h:Is K O H v (.tup ds)):∃p xs,v=.ref p/\fq K H p xs/\aN K O H xs ds:=by
 obtain ⟨p,xs,e,h1,h2⟩:=h.seq (k:=false) rfl
 exact ⟨p,xs,e,h1,h2⟩
theorem b2i{K:aM}{O:Addr->Prop}{H:Hp}{v:V}{ds:List D}(h:Is K O H v (.lst false ds)):∃p xs,v=.ref p/\¬O p/\H p=some (.lst xs)/\aN K O H xs ds:=by
 cases h with
 | lst ho hp hs=>exact ⟨_,_,rfl,ho,hp,hs⟩
theorem aN.d9{K:aM}{O:Addr->Prop}{H:Hp}{xs:List V}{ds:List D}(h:aN K O H xs ds):xs=[]↔ds=[]:=by cases h<;>simp
theorem Rj{α:Type}{c:Prop}{d:Decidable c}{x y:α}(h:(@ite _ c d (some x) none)=some y):c/\x=y:=iu h
theorem et:iZ X (binaryOp .Add) bj:=by
 refine ⟨_,tY.or (tX.or (qA.or (lX.or b53))),λO H x y a b s Q hO hx hy e q=>?_⟩
 cases a with
 | int i=>cases b with
  | int j =>
   obtain rfl:=cG (show some (Sl.sh (.int (i+j)))=some s from e)
   exact .inl ⟨i,j,iI hx,iI hy,q _ H (au.refl _) (Is.int _)⟩
  | _=>cases e
 | lst r a=>cases r with
  | true=>cases b<;>cases e
  | false=>cases b with
   | lst r b=>cases r with
    | true=>cases e
    | false =>
     obtain ⟨hl,rfl⟩:=iu (show (if a.length+b.length<=16777216 then some (Sl.ow (a++b)) else none)=some s from e)
     obtain ⟨p1,xs,rfl,_,h1,i1⟩:=b2i hx
     obtain ⟨p2,ys,rfl,_,h2,i2⟩:=b2i hy
     exact .inr (.inl ⟨p1,p2,xs,ys,rfl,rfl,h1,h2,by rw [i1.length,i2.length,ij];exact hl,λp hp=>q _ _ (oD hp _) (xp hp (i1.append i2))⟩)
   | _=>cases e
 | tup a=>cases b with
  | tup b =>
   obtain ⟨hl,rfl⟩:=Rj (show (if a.length+b.length<=16777216 then some (Sl.sh (.tup (a++b))) else none)=some s from e)
   obtain ⟨p1,xs,rfl,h1,i1⟩:=Em hx
   obtain ⟨p2,ys,rfl,h2,i2⟩:=Em hy
   by_cases h0:a=[]
   .subst h0
    cases i1
    exact .inr (.inr (.inr (.inr ⟨p1,p2,ys,rfl,rfl,h1,h2,q _ H (au.refl _) hy⟩)))
   refine .inr (.inr (.inl ⟨p1,p2,xs,ys,rfl,rfl,h1,h2,λz=>h0 (i1.d9.mp z),by rw [i1.length,i2.length,ij];exact hl,λz=>?_,λz p hp=>q _ _ (oD hp _) (EI hO hp (i1.append i2))⟩))
   have z':=i2.d9.mp z
   subst z'
   rw [mQ] at q
   exact q _ H (au.refl _) hx
  | _=>cases e
 | str a=>cases b with
  | str b =>
   obtain ⟨hl,rfl⟩:=iu (show (if a.length+b.length<=16777216 then some (Sl.sh (.str (a++b))) else none)=some s from e)
   exact .inr (.inr (.inr (.inl ⟨a,b,JI hx,JI hy,by rw [ij];exact hl,q _ H (au.refl _) (Is.str _)⟩)))
  | _=>cases e
 | _=>cases e
theorem map_some{α β:Type}{o:Option α}{f:α->β}{b:β}(h:o.map f=some b):∃a,o=some a/\f a=b:=by
 cases o with
 | none=>cases h
 | some a=>exact ⟨a,rfl,cG h⟩
noncomputable def D.cL:D->Bool
 | .bz=>true
 | _=>false
theorem Qd{K:aM}{O:Addr->Prop}{H:Hp}{x:V}{a:D}(hx:Is K O H x a):decide (x=.bz)=a.cL:=by
 cases hx<;>simp [D.cL]
noncomputable def uH:D->D->Option Sl:=λa b=>if b.cL=true then some (.sh (.bl a.cL)) else none
noncomputable def Jy:D->D->Option Sl:=λa b=>if b.cL=true then some (.sh (.bl !a.cL)) else none
theorem QH{b:D}(h:b.cL=true):b=.bz:=by cases b<;>first | rfl | cases h
theorem b73:iZ X (compareOp .Is) uH:=by
 refine ⟨_,b7Z,λO H x y a b s Q hO hx hy e q=>?_⟩
 obtain ⟨hb,rfl⟩:=iu e
 rw [QH hb] at hy
 exact ⟨JH hy,by rw [Qd hx];exact q _ H (au.refl _) (Is.bl _)⟩
theorem b6a:iZ X (compareOp .IsNot) Jy:=by
 refine ⟨_,b52,λO H x y a b s Q hO hx hy e q=>?_⟩
 obtain ⟨hb,rfl⟩:=iu e
 rw [QH hb] at hy
 exact ⟨JH hy,by rw [Qd hx];exact q _ H (au.refl _) (Is.bl _)⟩
end
section
variable {X:Cx}{a b c:Expr}{pos p:Pos}{fa fb:En->Option Sl}{es:List Expr}{e:Expr}
def Js(X:Cx)(f:Value)(g:List D->Option Sl):Prop:=
 ∃r:List V->Hp->VK->Prop,pB X f r/\∀(O:Addr->Prop) (H:Hp) (xs:List V) (ds:List D) (s:Sl) (Q:VK),(∀q,O q->H q≠none)->aN X.K O H xs ds->g ds=some s ->
  (∀v H',au H H'->Res X.K O H H' v s->Q v H')->r xs H Q
noncomputable def vm(g:List D->Option Sl)(fs:En->Option (List D)):En->Option Sl:=λenv=>(fs env).bind g
theorem Bo{id:String}{x:Str}{g:List D->Option Sl}{fs:En->Option (List D)}(hc:Js X (.builtin id) g)(hg:Gl X x)(hm:X.mg x=none)(hv:bootBuiltins x=some (.builtin id))(ha:AV X (e::es) fs)(hn:x ≠ "__name__":=by decide)(j9:(x==("__debug__":Str))=false:=by decide)
  (he:starEach (e::es) X.env=(false,eval e X.env)::starEach es X.env:=by rfl)(dB:(backTo pos (starEach es X.env)).any (·.1)=false:=by rfl):
  EV X (.Call (.Name x p) (e::es) [] pos) (vm g fs):=by
 obtain ⟨r,hr,X9⟩:=hc
 obtain ⟨t,pt,k⟩:=ha
 refine ⟨_,xy hr hg hm hv pt hn j9 he dB,λO B σ H env s Q R e q=>?_⟩
 obtain ⟨ds,e1,e2⟩:=bind_some e
 refine k O B σ H env ds _ R e1 λvs H1 s1 r1=>?_
 exact X9 (OO O σ env) H1 vs ds s Q (λq=>(R.grow s1).oo) r1 e2 λv H2 s2 r2=>q v H2 (s1.trans s2) (r2.from s1)
noncomputable def A1:List D->Option Sl
 | [.int i,.int j]=>some (.sh (.int (if j<i then j else i)))
 | _=>none
noncomputable def xc:List D->Option Sl
 | [.int i,.int j]=>some (.sh (.int (if j>i then j else i)))
 | _=>none
theorem Rh{K:aM}{O:Addr->Prop}{H:Hp}{xs:List V}{i j:Int}(h:aN K O H xs [.int i,.int j]):xs=[.int i,.int j]:=by
 cases h with
 | cons h t=>cases t with
  | cons h' t=>cases t;rw [iI h,iI h']
theorem Ex{g:Int->Int->Option Sl}{ds:List D}{s:Sl}(e:(match ds with | [.int i,.int j]=>g i j | _=>none)=some s):∃i j,ds=[.int i,.int j]/\g i j=some s:=by
 split at e
 .exact ⟨_,_,rfl,e⟩
 .cases e
theorem Qh(hc:X.calm=true):Js X (.builtin "min") A1:=by
 refine ⟨_,b2N hc,λO H xs ds s Q hO h e q=>?_⟩
 obtain ⟨i,j,rfl,e⟩:=Ex (g:=λi j=>some (.sh (.int (if j<i then j else i)))) e
 obtain rfl:=cG e
 exact ⟨i,j,Rh h,q _ H (au.refl _) (Is.int _)⟩
theorem Ko(hc:X.calm=true):Js X (.builtin "max") xc:=by
 refine ⟨_,b2O hc,λO H xs ds s Q hO h e q=>?_⟩
 obtain ⟨i,j,rfl,e⟩:=Ex (g:=λi j=>some (.sh (.int (if j>i then j else i)))) e
 obtain rfl:=cG e
 exact ⟨i,j,Rh h,q _ H (au.refl _) (Is.int _)⟩
noncomputable def aQ(f:En->Option (Bool×List D)):En->Option Sl:=λenv=>(f env).map λx=>.sh (.int x.2.length)
noncomputable def Bg(f:En->Option (Bool×List D)):En->Option Sl:=λenv=>(f env).bind λx=>if x.1=true then some (.sh (.tup x.2)) else none
variable {ba:En->Option (Bool×List D)}
theorem cY(hg:Gl X "len")(hm:X.mg "len" = none)(ha:BV X a ba)(hs:starEach [a] X.env=[(false,eval a X.env)]:=by rfl):EV X (.Call (.Name "len" p) [a] [] pos) (aQ ba):=by
 obtain ⟨t,pt,k⟩:=ha
 refine ⟨_,xy a88 hg hm PySem.boot_len (qe pt rm hs) (by decide) (by decide) hs rfl,λO B σ H env s Q R e q=>?_⟩
 obtain ⟨⟨kk,ds⟩,e1,rfl⟩:=map_some e
 refine k O B σ H env kk ds _ R e1 λl xs H1 s1 hq hx=>⟨l,xs,rfl,?_,?_⟩
 .cases kk with
  | true=>exact .inl hq
  | false=>exact .inr hq
 .rw [hx.length]
  exact q _ H1 s1 (Is.int _)
theorem QE(hg:Gl X "tuple")(hm:X.mg "tuple" = none)(ha:BV X a ba)(hs:starEach [a] X.env=[(false,eval a X.env)]:=by rfl):EV X (.Call (.Name "tuple" p) [a] [] pos) (Bg ba):=by
 obtain ⟨t,pt,k⟩:=ha
 refine ⟨_,b1W a79 hg hm (by decide +kernel) (qe pt rm hs) (by decide) (by decide) hs rfl,λO B σ H env s Q R e q=>?_⟩
 obtain ⟨⟨kk,ds⟩,e1,e2⟩:=bind_some e
 obtain ⟨h1,rfl⟩:=iu e2
 refine k O B σ H env kk ds _ R e1 λl xs H1 s1 hq hx=>⟨l,xs,rfl,?_⟩
 cases (show kk=true from h1)
 exact .inl ⟨hq,λp hp=>q _ _ (s1.trans (oD hp _)) ((EI (O:=OO O σ env) (H:=H1) (λ_ z=>(R.grow s1).oo z) hp hx).from s1)⟩
end
section
variable {K:aM}{O:Addr->Prop}{B H H1:Hp}{σ:L2.St}{env:En}{v:V}{r:Sl}{i:Nat}
theorem b5Z(h:mE (σ.set i (some v)) (env.set i r) q):mE σ env q\/(r.own/\v=.ref q):=by
 obtain ⟨j,t,h1,ho,h2⟩:=h
 by_cases hj:i=j
 .subst hj
  rw [List.getElem?_set] at h1 h2
  rw [if_pos rfl] at h1 h2
  split at h1
  .cases h1
   split at h2
   .cases h2;exact .inr ⟨ho,rfl⟩
   .cases h2
  .cases h1
 .rw [gZ hj] at h1 h2
  exact .inl ⟨j,t,h1,ho,h2⟩
theorem Res.fresh(h:Res K O B H v r)(ho:r.own):∃p,v=.ref p/\B p=none/\H p≠none:=by
 cases r with
 | no=>exact ho.elim
 | sh d=>exact ho.elim
 | ow ds=>obtain ⟨p,xs,e1,e2,e3,_⟩:=h;exact ⟨p,e1,e2,by rw [e3];exact λz=>nomatch z⟩
 | dw bG=>obtain ⟨p,e1,e2,e3⟩:=h;exact ⟨p,e1,e2,by rw [e3];exact λz=>nomatch z⟩
theorem Rel.set(R:Rel K O B σ H env)(s:au H H1)(h:Res K (OO O σ env) H H1 v r)(hi:i<env.length):
  Rel K O B (σ.set i (some v)) H1 (env.set i r)/\Gd σ env H (σ.set i (some v)) (env.set i r) H1:=by
 have new:∀q,mE (σ.set i (some v)) (env.set i r) q->mE σ env q\/(H q=none/\r.own/\v=.ref q):=λq z=>by
  rcases b5Z z with z | ⟨ho,rfl⟩
  .exact .inl z
  .obtain ⟨p,e1,e2,_⟩:=h.fresh ho
   cases e1
   exact .inr ⟨e2,ho,rfl⟩
 have hO:∀q,H q≠none->¬OO O σ env q->¬OO O (σ.set i (some v)) (env.set i r) q:=λq hq hn z=>by
  rcases z with z | z
  .exact hn (.inl z)
  .rcases new q z with z | ⟨z,_⟩
   .exact hn (.inr z)
   .exact hq z
 have hH:∀q u,H q=some u->¬OO O σ env q->H1 q=some u:=λq u e _=>s q u e
 have j8:i<σ.length:=by rw [R.len];exact hi
 refine ⟨⟨R.same.trans s,R.gp,by simp [R.len],λj d e=>?_,λj ds e=>?_,λj bG e=>?_,λj k ds es p e1 e2 e3 e4 o1 o2=>?_⟩,λq u e n=>⟨s q u e,λz=>?_⟩⟩
 .by_cases hj:i=j
  .subst hj
   rw [iV hi] at e
   cases e
   refine ⟨v,by rw [iV j8],Is.less (O:=OO O σ env) (λq z=>z.elim .inl λz=>?_) h⟩
   rcases new q z with z | ⟨_,z,_⟩
   .exact .inr z
   .exact z.elim
  .rw [gZ hj] at e
   obtain ⟨w,e1,h1⟩:=R.sh j d e
   exact ⟨w,by rw [gZ hj];exact e1,h1.map hO hH⟩
 .by_cases hj:i=j
  .subst hj
   rw [iV hi] at e
   cases e
   obtain ⟨p,xs,rfl,e2,e3,h1⟩:=h
   refine ⟨p,xs,by rw [iV j8],R.same.free e2,e3,h1.less λq z=>?_⟩
   rcases z with z | z
   .exact .inl (.inl z)
   .rcases new q z with z | ⟨_,_,z⟩
    .exact .inl (.inr z)
    .cases z;exact .inr rfl
  .rw [gZ hj] at e
   obtain ⟨p,xs,e1,e2,e3,h1⟩:=R.ow j ds e
   exact ⟨p,xs,by rw [gZ hj];exact e1,e2,s _ _ e3,h1.map hO hH⟩
 .by_cases hj:i=j
  .subst hj
   rw [iV hi] at e
   cases e
   obtain ⟨p,rfl,e2,e3⟩:=h
   exact ⟨p,by rw [iV j8],R.same.free e2,e3⟩
  .rw [gZ hj] at e
   obtain ⟨p,e1,e2,e3⟩:=R.dw j bG e
   exact ⟨p,by rw [gZ hj];exact e1,e2,s _ _ e3⟩
 .have other:∀j t,j≠i->env[j]?=some t->t.own->σ[j]?=some (some (V.ref p))->r.own->v≠.ref p:=λj t hj e ho e' hr z=>by
   obtain ⟨p',rfl,e2,_⟩:=h.fresh hr
   cases z
   obtain ⟨p2,u,e5,_,e6⟩:=R.ad e ho
   rw [e'] at e5
   cases e5
   rw [e2] at e6
   cases e6
  by_cases hj:i=j
  .by_cases hk:i=k
   .rw [<-hj,<-hk]
   .subst hj
    rw [iV hi] at e1
    rw [iV j8] at e3
    rw [gZ hk] at e2 e4
    cases e1
    cases e3
    exact absurd rfl (other k es (og hk) e2 o2 e4 o1)
  .by_cases hk:i=k
   .subst hk
    rw [iV hi] at e2
    rw [iV j8] at e4
    rw [gZ hj] at e1 e3
    cases e2
    cases e4
    exact absurd rfl (other j ds (og hj) e1 o1 e3 o2)
   .rw [gZ hj] at e1 e3
    rw [gZ hk] at e2 e4
    exact R.sep j k ds es p e1 e2 e3 e4 o1 o2
 .rcases new q z with z | ⟨z,_⟩
  .exact n z
  .rw [e] at z;cases z
theorem Rel.S8{p:Addr}{u':HO}{t t':Sl}(R:Rel K O B σ H env)(he:env[i]?=some t)(ho:t.own)(l8:t'.own)(hs:σ[i]?=some (some (V.ref p)))
  (hx:(∀gc,t'=.ow gc->∃jk,u'=.lst jk/\aN K (OO O σ env) H jk gc)/\∀ze,t'=.dw ze->u'=Ie ze):
  Rel K O B σ (upd H p u') (env.set i t')/\Gd σ env H σ (env.set i t') (upd H p u'):=by
 have hi:i<env.length:=(lC.mp he).1
 have own:∀q,mE σ (env.set i t') q->mE σ env q:=λq ⟨j,es,e1,e3,e2⟩=>by
  by_cases hj:i=j
  .subst hj;exact ⟨i,t,he,ho,e2⟩
  .rw [gZ hj] at e1;exact ⟨j,es,e1,e3,e2⟩
 have yP:mE σ env p:=⟨i,t,he,ho,hs⟩
 obtain ⟨p0,u0,f1,f2,f3⟩:=R.ad he ho
 rw [hs] at f1
 cases f1
 have hO:∀q,H q≠none->¬OO O σ env q->¬OO O σ (env.set i t') q:=λq _ hn z=>hn (z.elim .inl λz=>.inr (own q z))
 have hH:∀q u,H q=some u->¬OO O σ env q->upd H p u' q=some u:=λq u e n=>by
  rw [c5 (λz=>n (.inr (by rw [z];exact yP)))]
  exact e
 refine ⟨⟨λq u e=>?_,R.gp,by simp [R.len],λj d e=>?_,λj es e=>?_,λj bG e=>?_,λj k es fs q e1 e2 e3 e4 o1 o2=>?_⟩,λq u e n=>⟨?_,λz=>n (own q z)⟩⟩
 .rw [c5 (pI e f2)];exact R.same q u e
 .by_cases hj:i=j
  .subst hj;rw [iV hi] at e;cases e;exact l8.elim
  .rw [gZ hj] at e
   obtain ⟨w,e1,h1⟩:=R.sh j d e
   exact ⟨w,e1,h1.map hO hH⟩
 .by_cases hj:i=j
  .subst hj
   rw [iV hi] at e
   cases e
   obtain ⟨jk,hu,jN⟩:=hx.1 _ rfl
   exact ⟨p,jk,hs,f2,by rw [pK,hu],jN.map hO hH⟩
  .rw [gZ hj] at e
   obtain ⟨p2,FN,e1,e2,e3,h1⟩:=R.ow j es e
   refine ⟨p2,FN,e1,e2,?_,h1.map hO hH⟩
   rw [c5 (λz=>hj (R.sep i j t _ p he e hs (by rw [e1,z]) ho trivial))]
   exact e3
 .by_cases hj:i=j
  .subst hj
   rw [iV hi] at e
   cases e
   exact ⟨p,hs,f2,by rw [pK,hx.2 _ rfl]⟩
  .rw [gZ hj] at e
   obtain ⟨p2,e1,e2,e3⟩:=R.dw j bG e
   refine ⟨p2,e1,e2,?_⟩
   rw [c5 (λz=>hj (R.sep i j t _ p he e hs (by rw [e1,z]) ho trivial))]
   exact e3
 .have fix:∀(j:Nat) (es:Sl),(env.set i t')[j]?=some es->es.own->∃gs:Sl,env[j]?=some gs/\gs.own:=λj es e o=>by
   by_cases hj:i=j
   .subst hj;exact ⟨t,he,ho⟩
   .rw [gZ hj] at e;exact ⟨es,e,o⟩
  obtain ⟨g1,h1,q1⟩:=fix j es e1 o1
  obtain ⟨g2,h2,q2⟩:=fix k fs e2 o2
  exact R.sep j k g1 g2 q h1 h2 e3 e4 q1 q2
 .rw [c5 (λz=>n (by rw [z];exact yP))];exact e
theorem Rel.wr(R:Rel K O B σ H env)(he:env[i]?=some (Sl.ow ds))(hs:σ[i]?=some (some (V.ref p)))(hx:aN K (OO O σ env) H jk gc):
  Rel K O B σ (upd H p (.lst jk)) (env.set i (.ow gc))/\Gd σ env H σ (env.set i (.ow gc)) (upd H p (.lst jk)):=
 R.S8 (t':=.ow gc) he trivial trivial hs (c32 (λ_ e=>by cases e;exact ⟨jk,rfl,hx⟩) λ_ e=>nomatch e)
theorem Rel.Ao{t:Sl}(R:Rel K O B σ H env)(he:env[i]?=some t)(ho:t.own):Rel K O B σ H (env.set i (.sh t.d))/\Gd σ env H σ (env.set i (.sh t.d)) H:=by
 have hi:i<env.length:=(lC.mp he).1
 obtain ⟨p,u0,f1,f2,f3⟩:=R.ad he ho
 have own:∀q,mE σ (env.set i (.sh t.d)) q->mE σ env q/\q≠p:=λq ⟨j,es,e1,o,e2⟩=>by
  by_cases hj:i=j
  .subst hj;rw [iV hi] at e1;cases e1;exact o.elim
  .rw [gZ hj] at e1
   exact ⟨⟨j,es,e1,o,e2⟩,λz=>hj (R.sep i j t es p he e1 f1 (by rw [e2,z]) ho o)⟩
 have less:∀q,OO O σ (env.set i (.sh t.d)) q->OO O σ env q:=λq z=>z.elim .inl λz=>.inr (own q z).1
 have np:¬OO O σ (env.set i (.sh t.d)) p:=λz=>z.elim (λz=>R.gp.1 p z f2) λz=>(own p z).2 rfl
 refine ⟨⟨R.same,R.gp,by simp [R.len],λj d e=>?_,λj es e=>?_,λj bG e=>?_,λj k es fs q e1 e2 e3 e4 o1 o2=>?_⟩,λq u e n=>⟨e,λz=>n (own q z).1⟩⟩
 .by_cases hj:i=j
  .subst hj
   rw [iV hi] at e
   cases e
   refine ⟨.ref p,f1,?_⟩
   cases t with
   | no=>exact ho.elim
   | sh d=>exact ho.elim
   | ow ds =>
    obtain ⟨p',xs,g1,g2,g3,g4⟩:=R.ow i ds he
    rw [f1] at g1;cases g1
    exact .lst np g3 (g4.less less)
   | dw bG =>
    obtain ⟨p',g1,g2,g3⟩:=R.dw i bG he
    rw [f1] at g1;cases g1
    exact .fL np g3
  .rw [gZ hj] at e
   obtain ⟨w,e1,h1⟩:=R.sh j d e
   exact ⟨w,e1,h1.less less⟩
 .by_cases hj:i=j
  .subst hj;rw [iV hi] at e;cases e
  .rw [gZ hj] at e
   obtain ⟨p2,FN,e1,e2,e3,h1⟩:=R.ow j es e
   exact ⟨p2,FN,e1,e2,e3,h1.less less⟩
 .by_cases hj:i=j
  .subst hj;rw [iV hi] at e;cases e
  .rw [gZ hj] at e
   exact R.dw j bG e
 .have fix:∀(j:Nat) (es:Sl),(env.set i (.sh t.d))[j]?=some es->es.own->env[j]?=some es:=λj es e o=>by
   by_cases hj:i=j
   .subst hj;rw [iV hi] at e;cases e;exact o.elim
   .rw [gZ hj] at e;exact e
  exact R.sep j k es fs q (fix j es e1 o1) (fix k fs e2 o2) e3 e4 o1 o2
theorem Rel.lr(R:Rel K O B σ H env)(he:env[i]?=some (Sl.ow ds)):Rel K O B σ H (env.set i (.sh (.lst false ds)))/\Gd σ env H σ (env.set i (.sh (.lst false ds))) H:=R.Ao he trivial
end
section
variable {X:Cx}{st:Stmt}{rest:List Stmt}{F G:SF}{a b c e:Expr}{fa:En->Option Sl}{ga:En->Option Bool}{pos:Pos}
noncomputable def cE:SF:=λenv=>some (.nx,env)
noncomputable def Ga:SF:=λenv=>some (.bk,env)
noncomputable def ah(F G:SF):SF:=λenv=>match F env with
 | some (.nx,bT)=>G bT
 | r=>r
theorem c9:mY X [] cE:=⟨_,b5O,λO B σ H env fl ak D R e q=>by
 cases (show some (Fl.nx,env)=some (fl,ak) from e)
 exact q σ H R (Gd.refl (au.refl _))⟩
theorem aI(h:SV X st F):mY X [st] F:=let ⟨t,p,k⟩:=h;⟨t,b5N p,k⟩
theorem aF(h:SV X st F)(h2:mY X rest G):mY X (st::rest) (ah F G):=by
 obtain ⟨t,p,k⟩:=h
 obtain ⟨u,p',k'⟩:=h2
 refine ⟨_,b3x p p',λO B σ H env fl ak D R e q=>?_⟩
 unfold ah at e
 cases hF:F env with
 | none=>rw [hF] at e;cases e
 | some x =>
  obtain ⟨f1,bT⟩:=x
  rw [hF] at e
  refine k O B σ H env f1 bT _ R hF ?_
  cases f1 with
  | nx=>exact λaJ H' R' g'=>k' O B aJ H' bT fl ak D R' e (q.from g')
  | bk=>cases e;exact q
  | ct=>cases e;exact q
  | rt r=>cases e;exact q
theorem b3h:SV X (.Break pos) Ga:=⟨_,b3z,λO B σ H env fl ak D R e q=>by
 cases (show some (Fl.bk,env)=some (fl,ak) from e)
 exact q σ H R (Gd.refl (au.refl _))⟩
noncomputable def bS(c:En->Option Bool)(F G:SF):SF:=λenv=>match c env with
 | some true=>F env
 | some false=>G env
 | none=>none
theorem cR(hc:TV X c ga)(ha:mY X sa F)(hb:mY X sb G):SV X (.If c sa sb pos) (bS ga F G):=by
 obtain ⟨tc,pc,kc⟩:=hc
 obtain ⟨t,p,k⟩:=ha
 obtain ⟨u,p',k'⟩:=hb
 refine ⟨_,yF pc p p',λO B σ H env fl ak D R e q=>?_⟩
 unfold bS at e
 cases h:ga env with
 | none=>rw [h] at e;cases e
 | some x =>
  rw [h] at e
  refine kc O B σ H env x _ R h λH1 s1=>?_
  cases x with
  | true =>
   rw [if_pos rfl]
   exact k O B σ H1 env fl ak D (R.grow s1) e (q.from (Gd.refl s1))
  | false =>
   rw [if_neg nJ]
   exact k' O B σ H1 env fl ak D (R.grow s1) e (q.from (Gd.refl s1))
noncomputable def aw(f:En->Option Sl):SF:=λenv=>(f env).map λr=>(.rt r,env)
theorem bf(h:EV X e fa):SV X (.Return (some e) pos) (aw fa):=by
 obtain ⟨t,p,k⟩:=h
 refine ⟨_,PF p,λO B σ H env fl ak D R e q=>?_⟩
 obtain ⟨r,e1,e2⟩:=map_some e
 cases e2
 exact k O B σ H env r _ R e1 λv H1 s1 r1=>q v H1 (R.same.trans s1) ((r1.from R.same).less λq z=>.inl z)
noncomputable def nK(i:Nat):SF:=λenv=>match env[i]? with
 | some (.ow ds)=>some (.rt (.ow ds),env)
 | some (.dw ds)=>some (.rt (.dw ds),env)
 | some (.sh d)=>some (.rt (.sh d),env)
 | _=>none
theorem b5B(i:Nat){x:Str}{p2:Pos}(hN:X.N[i]?=some x:=by rfl)(hv:jI X.env.scope x:=by first | exact cX rfl | exact bP (cX rfl) | exact bP (bP rfl))(hd:(x==("__debug__":Str))=false:=by decide)
  (dC:(x==("__classdict__":Str))=false:=by decide):SV X (.Return (some (.Name x p2)) pos) (nK i):=by
 refine ⟨_,PF (vk hN hv hd dC),λO B σ H env fl ak D R e q=>?_⟩
 unfold nK at e
 cases h:env[i]? with
 | none=>rw [h] at e;cases e
 | some s =>
  rw [h] at e
  cases s with
  | no=>cases e
  | sh d =>
   cases e
   obtain ⟨v,e2,hv⟩:=R.sh i d h
   exact ⟨v,e2,q v H R.same (Is.less (λq z=>.inl z) hv)⟩
  | ow ds =>
   cases e
   obtain ⟨p,xs,e1,e2,e3,h1⟩:=R.ow i ds h
   exact ⟨_,e1,q _ H R.same ⟨p,xs,rfl,e2,e3,h1.less λq z=>z.elim .inl λz=>.inr ⟨i,.ow ds,h,trivial,by rw [z];exact e1⟩⟩⟩
  | dw bG =>
   cases e
   obtain ⟨p,e1,e2,e3⟩:=R.dw i bG h
   exact ⟨_,e1,q _ H R.same ⟨p,rfl,e2,e3⟩⟩
noncomputable def de(i:Nat)(f:En->Option Sl):SF:=λenv=>(f env).bind λr=>if i<env.length then some (.nx,env.set i r) else none
theorem b7y(hN:X.N.Nodup)(hi:X.N[i]?=some x)(hx:Loc X.env.scope x)(he:EV X e fa)(hs:swapsWith e (some (.Name x pos')) pos.line X.env=pure false:=by rfl)(hf:X.fn x=true\/X.env.scope.names.lookup x=some .local:=by first | exact .inl rfl | exact .inr rfl | assumption):
  SV X (.Assign [.Name x pos'] e pos) (de i fa):=by
 obtain ⟨t,p,k⟩:=he
 refine ⟨_,JZ hN hi hx p hs hf,λO B σ H env fl ak D R e q=>?_⟩
 obtain ⟨r,e1,e2⟩:=bind_some e
 obtain ⟨hl,e3⟩:=iu e2
 cases e3
 refine k O B σ H env r _ R e1 λv H1 s1 r1=>?_
 obtain ⟨R',g'⟩:=R.set s1 r1 hl
 exact q _ H1 R' g'
noncomputable def aY(i:Nat)(f:En->Option Sl):SF:=λenv=>(f env).bind λr=>if i<env.length then some (.nx,env.set i (.sh r.d)) else none
theorem b5A(hN:X.N.Nodup)(hi:X.N[i]?=some x)(hx:Loc X.env.scope x)(he:EV X e fa)(hs:swapsWith e (some (.Name x pos')) pos.line X.env=pure false:=by rfl)(hf:X.fn x=true\/X.env.scope.names.lookup x=some .local:=by first | exact .inl rfl | exact .inr rfl | assumption):
  SV X (.Assign [.Name x pos'] e pos) (aY i fa):=by
 obtain ⟨t,p,k⟩:=he
 refine ⟨_,JZ hN hi hx p hs hf,λO B σ H env fl ak D R e q=>?_⟩
 obtain ⟨r,e1,e2⟩:=bind_some e
 obtain ⟨hl,e3⟩:=iu e2
 cases e3
 refine k O B σ H env r _ R e1 λv H1 s1 r1=>?_
 obtain ⟨R',g'⟩:=R.set (r:=.sh r.d) s1 (r1.is λq=>R.oo) hl
 exact q _ H1 R' g'
noncomputable def o6(i:Nat)(env:En):En:=match env[i]? with
 | some (.ow ds)=>env.set i (.sh (.lst false ds))
 | some (.dw ds)=>env.set i (.sh (.fL false ds))
 | _=>env
noncomputable def m9(i:Nat)(F:SF):SF:=λenv=>F (o6 i env)
theorem JR(i:Nat)(h:SV X st F):SV X st (m9 i F):=by
 obtain ⟨t,p,k⟩:=h
 refine ⟨t,p,λO B σ H env fl ak D R e q=>?_⟩
 unfold m9 o6 at e
 cases h:env[i]? with
 | none=>rw [h] at e;exact k O B σ H env fl ak D R e q
 | some s =>
  rw [h] at e
  cases s with
  | no=>exact k O B σ H env fl ak D R e q
  | sh d=>exact k O B σ H env fl ak D R e q
  | ow ds =>
   obtain ⟨R',g'⟩:=R.lr h
   exact k O B σ H _ fl ak D R' e (q.from g')
  | dw ds =>
   obtain ⟨R',g'⟩:=R.Ao h trivial
   exact k O B σ H _ fl ak D R' e (q.from g')
noncomputable def cF(i:Nat)(f:En->Option Sl):SF:=λenv=>match env[i]? with
 | some (.ow ds)=>(f env).bind λr=>if ds.length<16777216 then some (.nx,env.set i (.ow (ds++[r.d]))) else none
 | _=>none
theorem b1w{i:Nat}{x:Str}{p1 p2 aZ:Pos}(ha:EV X e fa)(hN:X.N[i]?=some x:=by rfl)(hv:jI X.env.scope x:=by first | exact cX rfl | exact bP (cX rfl) | exact bP (bP rfl))(hd:(x==("__debug__":Str))=false:=by decide)
  (dC:(x==("__classdict__":Str))=false:=by decide)(hs:starEach [e] X.env=[(false,eval e X.env)]:=by rfl)
  (cN:attributeBase (.Name x p1) "append" X.env (eval (.Name x p1) X.env)=eval (.Name x p1) X.env:=by rfl)
  (jv:((backTo aZ (starEach [e] X.env)).all (λx=>!x.1)&&(backToKw aZ (keywordEach [] X.env)).all (λx=>x.1.isSome)
   && decide ([e].length+([]:List Keyword).length+(if ([]:List Keyword).isEmpty then 0 else 1)<30))=true:=by rfl)
  (cM:(p2.endLine==aZ.line)=true:=by rfl)
  (uh:swapsWith (.Call (.Attribute (.Name x p1) "append" p2) [e] [] aZ) none pos.line X.env=pure false:=by rfl):
  SV X (.Expr (.Call (.Attribute (.Name x p1) "append" p2) [e] [] aZ) pos) (cF i fa):=by
 obtain ⟨t,p,k⟩:=ha
 refine ⟨_,Qw (Pa Jp Oe PySem.F.type_list_append b15 (vk hN hv hd dC) (qe p rm hs) cN jv cM hs rfl) uh,λO B σ H env fl ak D R e q=>?_⟩
 unfold cF at e
 cases h:env[i]? with
 | none=>rw [h] at e;cases e
 | some s =>
  rw [h] at e
  cases s with
  | no=>cases e
  | sh d=>cases e
  | dw bG=>cases e
  | ow ds =>
   obtain ⟨r,e1,e2⟩:=bind_some e
   obtain ⟨hl,e3⟩:=iu e2
   cases e3
   obtain ⟨l,xs,f1,f2,f3,f4⟩:=R.ow i ds h
   refine ⟨_,f1,.inl ⟨rfl,_,eN.of f3⟩,?_⟩
   refine k O B σ H env r _ R e1 λv H1 s1 r1=>⟨l,xs,v,rfl,rfl,s1 _ _ f3,by rw [f4.length,ij];exact hl,?_⟩
   obtain ⟨R',g'⟩:=(R.grow s1).wr h f1 ((f4.grow s1).append (.cons (r1.is λq=>R.oo) .nil))
   exact q _ _ R' (g'.from s1)
end
section
variable {X:Cx}{st:Stmt}{F:SF}{a b c e tg it:Expr}{fa:En->Option Sl}{ba:En->Option (Bool×List D)}{ga:En->Option Bool}{pos:Pos}
noncomputable abbrev GF:=D->En->Option En
def GV(X:Cx)(tg:Expr)(g:GF):Prop:=
 ∃t:TG,PG X tg t/\∀(O:Addr->Prop) (B:Hp) (σ:L2.St) (H:Hp) (env ak:En) (v:V) (d:D) (Q:L2.St->Hp->Prop),Rel X.K O B σ H env->Is X.K (OO O σ env) H v d->g d env=some ak ->
  (∀aJ H',Rel X.K O B aJ H' ak->Gd σ env H aJ ak H'->Q aJ H')->t v σ H Q
noncomputable def gN(i:Nat):GF:=λd env=>if i<env.length then some (env.set i (.sh d)) else none
theorem b6n(hN:X.N.Nodup)(hi:X.N[i]?=some x)(hx:Loc X.env.scope x)(hf:X.fn x=true\/X.env.scope.names.lookup x=some .local:=by first | exact .inl rfl | exact .inr rfl | assumption):GV X (.Name x pos) (gN i):=by
 refine ⟨_,b5T hN hi hx hf,λO B σ H env ak v d Q R h e q=>?_⟩
 obtain ⟨hl,rfl⟩:=iu e
 obtain ⟨R',g'⟩:=R.set (r:=.sh d) (au.refl _) h hl
 exact q _ H R' g'
noncomputable abbrev vV:=List D->En->Option En
def FH(X:Cx)(tg:List Expr)(g:vV):Prop:=
 ∃t:tK,Ci X tg t/\∀(O:Addr->Prop) (B:Hp) (σ:L2.St) (H:Hp) (env ak:En) (v:List V) (d:List D) (Q:L2.St->Hp->Prop),Rel X.K O B σ H env->aN X.K (OO O σ env) H v d->g d env=some ak ->
  (∀aJ H',Rel X.K O B aJ H' ak->Gd σ env H aJ ak H'->Q aJ H')->t v σ H Q
noncomputable def rk:vV:=λds env=>match ds with
 | []=>some env
 | _::_=>none
noncomputable def ir(g:GF)(u:vV):vV:=λds env=>match ds with
 | d::r=>(g d env).bind (u r)
 | []=>none
theorem vv:FH X [] rk:=by
 refine ⟨_,b5S,λO B σ H env ak v d Q R h e q=>?_⟩
 cases h with
 | nil=>cases e;exact ⟨rfl,q σ H R (Gd.refl (au.refl _))⟩
 | cons _ _=>cases e
theorem Gd.CI{K:aM}{O:Addr->Prop}{σ aJ:L2.St}{env ak:En}{H H':Hp}(g:Gd σ env H aJ ak H'){v:List V}{d:List D}(h:aN K (OO O σ env) H v d):aN K (OO O aJ ak) H' v d:=
 h.map (λq hq hn z=>by
  cases e:H q with
  | none=>exact hq e
  | some u =>
   obtain ⟨_,n'⟩:=g q u e λw=>hn (.inr w)
   exact z.elim (λw=>hn (.inl w)) n') λq u e n=>(g q u e λw=>n (.inr w)).1
theorem iW{es:List Expr}{g:GF}{u:vV}(h1:GV X e g)(h2:FH X es u)
  (hs:(assignEach (e::es) X.env).map (·.2)=assign e X.env::(assignEach es X.env).map (·.2):=by rfl):FH X (e::es) (ir g u):=by
 obtain ⟨t,p,k⟩:=h1
 obtain ⟨t',p',k'⟩:=h2
 refine ⟨_,b3C p p' hs,λO B σ H env ak v d Q R h e q=>?_⟩
 cases h with
 | nil=>cases e
 | cons h ht =>
  obtain ⟨bT,e1,e2⟩:=bind_some (show (g _ env).bind (u _)=some ak from e)
  refine ⟨_,_,rfl,k O B σ H env bT _ _ _ R h e1 λh8 H1 R1 g1=>?_⟩
  exact k' O B h8 H1 bT ak _ _ Q R1 (g1.CI ht) e2 λcJ H2 R2 g2=>q cJ H2 R2 (g1.trans g2)
noncomputable def gT(n:Nat)(u:vV):GF:=λd env=>match d with
 | .tup ds=>if ds.length=n then u ds env else none
 | _=>none
theorem vj{es:List Expr}{k n:Nat}{u:vV}(hc:X.calm=true)(h:FH X es u)(hn:(assignEach es X.env).length=n:=by rfl)(ui:(assignEach es X.env).findIdx? (·.1)=none:=by rfl):GV X (.Tuple es k pos) (gT n u):=by
 obtain ⟨t,p,k'⟩:=h
 refine ⟨_,b7N hc p hn ui,λO B σ H env ak v d Q R h e q=>?_⟩
 cases d with
 | tup ds =>
  have e':(if ds.length=n then u ds env else none)=some ak:=e
  by_cases hl:ds.length=n
  .rw [if_pos hl] at e'
   obtain ⟨a,xs,rfl,h1,h2⟩:=Em h
   exact ⟨a,xs,rfl,h1,by rw [h2.length];exact hl,k' O B σ H env ak xs ds Q R h2 e' q⟩
  .rw [if_neg hl] at e';cases e'
 | _=>cases e
noncomputable def forL(g:GF)(F:SF):List D->SF
 | [],env=>some (.nx,env)
 | d::ds,env=>match g d env with
  | none=>none
  | some bT=>match F bT with
   | some (.nx,bu)=>forL g F ds bu
   | some (.ct,bu)=>forL g F ds bu
   | some (.bk,bu)=>some (.nx,bu)
   | some (.rt r,bu)=>some (.rt r,bu)
   | none=>none
structure Left(K:aM)(O:Addr->Prop)(B:Hp)(qo:L2.St)(H0:Hp)(gk:En)(g:GF)(F:SF)(ds:List D)(fl:Fl)(ak:En)(i:Nat)(σ:L2.St)(H:Hp):Prop where
 ex:∃env,Rel K O B σ H env/\Gd qo gk H0 σ env H/\forL g F (ds.drop i) env=some (fl,ak)
theorem K5{g:GF}{qv:TG}{tb:TS}{O:Addr->Prop}{B:Hp}{qo:L2.St}{H0:Hp}{gk ak:En}{fl:Fl}{D:Ends}{ds:List DL.D}{xs:List V}{i:Nat}{x:V}{σ:L2.St}{H:Hp}
  (kg:∀(O:Addr->Prop) (B:Hp) (σ:L2.St) (H:Hp) (env ak:En) (v:V) (d:DL.D) (Q:L2.St->Hp->Prop),Rel X.K O B σ H env->Is X.K (OO O σ env) H v d->g d env=some ak ->
   (∀aJ H',Rel X.K O B aJ H' ak->Gd σ env H aJ ak H'->Q aJ H')->qv v σ H Q)
  (kb:∀(O:Addr->Prop) (B:Hp) (σ:L2.St) (H:Hp) (env:En) (fl:Fl) (ak:En) (D:Ends),Rel X.K O B σ H env->F env=some (fl,ak)->dh X.K O B σ H env D fl ak->tb D σ H)
  (hx:aN X.K (OO O qo gk) H0 xs ds)(hi:xs[i]?=some x)(q:dh X.K O B qo H0 gk D fl ak)(h:Left X.K O B qo H0 gk g F ds fl ak i σ H):
  qv x σ H λcJ H2=>tb { D with nx:=Left X.K O B qo H0 gk g F ds fl ak (i+1),ct:=Left X.K O B qo H0 gk g F ds fl ak (i+1),bk:=D.nx } cJ H2:=by
 obtain ⟨env,R,gd,e⟩:=h
 obtain ⟨d,hd,_⟩:=hx.uE hi
 have Hr:i<ds.length:=(lC.mp hd).1
 have zZ:ds.drop i=d::ds.drop (i+1):=by
  rw [mT Hr]
  rw [rf Hr] at hd
  rw [cG hd]
 obtain ⟨x',jN,XF⟩:=(gd.CI hx).get hd
 rw [hi] at jN
 cases jN
 rw [zZ,forL] at e
 cases hg:g d env with
 | none=>rw [hg] at e;cases e
 | some bT =>
  rw [hg] at e
  refine kg O B σ H env bT x d _ R XF hg λh8 H1 R1 g1=>?_
  dsimp only at e
  cases hF:F bT with
  | none=>rw [hF] at e;cases e
  | some y =>
   obtain ⟨f2,bu⟩:=y
   rw [hF] at e
   have go:=gd.trans g1
   refine kb O B h8 H1 bT f2 bu _ R1 hF ?_
   cases f2 with
   | nx=>exact λcJ H2 R2 g2=>⟨bu,R2,go.trans g2,e⟩
   | ct=>exact λcJ H2 R2 g2=>⟨bu,R2,go.trans g2,e⟩
   | bk=>cases e;exact λcJ H2 R2 g2=>q cJ H2 R2 (go.trans g2)
   | rt r=>cases e;exact q
theorem EY{D:Ends}{ds:List DL.D}{n:Nat}(hn:ds.length<=n)
  (q:dh X.K O B qo H0 gk D fl ak)(h:Left X.K O B qo H0 gk g F ds fl ak n σ H):D.nx σ H:=by
 obtain ⟨env,R,gd,e⟩:=h
 rw [qZ hn,forL] at e
 cases e
 exact q σ H R gd
noncomputable def eE(f:En->Option Sl)(g:GF)(F:SF):SF:=λenv=>(f env).bind λr=>(eO r.d).bind λx=>forL g F x.2 env
theorem Gd.sq{K:aM}{σ aJ:L2.St}{env ak:En}{H H':Hp}(gd:Gd σ env H aJ ak H'){k:Bool}{p:Addr}{xs:List V}(h:Sq K H k p xs)(hp:¬mE σ env p\/H p=none):Sq K H' k p xs:=by
 have rd:∀u,Rd H p u->Rd H' p u:=λu z=>by
  rcases z with z | ⟨o,z⟩
  .rcases hp with hp | hp
   .exact .inl (gd p _ z hp).1
   .rw [hp] at z;cases z
  .rcases hp with hp | hp
   .exact .inr ⟨o,(gd p _ z hp).1⟩
   .rw [hp] at z;cases z
 cases k with
 | true =>
  rcases h with h | h
  .exact .inl (rd _ h)
  .exact .inr h
 | false =>
  rcases h with h | h
  .exact .inl (rd _ h)
  .exact .inr h
theorem Is.m8{K:aM}{O:Addr->Prop}{H:Hp}{v:V}{d:D}{k:Bool}{ds:List D}(h:Is K O H v d)(e:eO d=some (k,ds)):∃p xs,v=.ref p/\Sq K H k p xs/\aN K O H xs ds/\(¬O p\/∀H',Sq K H' k p xs):=by
 cases h with
 | tup ho hp hs=>cases e;exact ⟨_,_,rfl,.inl hp,hs,.inl ho⟩
 | nq hp hs=>cases e;exact ⟨_,_,rfl,Bw hp,hs,.inr λ_=>Bw hp⟩
 | lst ho hp hs=>cases e;exact ⟨_,_,rfl,.inl (.inl hp),hs,.inl ho⟩
 | lW ho hp hs=>cases e;exact ⟨_,_,rfl,.inl hp,hs,.inl ho⟩
 | lY hp hs=>cases e;exact ⟨_,_,rfl,Bv hp,hs,.inr λ_=>Bv hp⟩
 | _=>cases e
noncomputable def GW(K:aM)(tl:TE):TI:=λσ H R=>tl σ H λx H1=>∃a,x=.ref a/\(((∃xs,eN K H1 a xs)/\R (Co K a) H1)\/((∃xs,fq K H1 a xs)/\R (Cm K a) H1))
theorem P7(hl:PE X l tl):PI X tg l (GW X.K tl):=by
 intro pins s σ H R I h
 refine bE (hl pins s σ H _ I h) λv s1 ⟨x,H1,I1,r1,q1⟩=>?_
 obtain ⟨a,e,q1⟩:=q1
 subst e
 cases r1
 rcases q1 with ⟨⟨xs,hq⟩,q⟩ | ⟨⟨xs,hq⟩,q⟩
 .obtain ⟨ar,rv,p,hz⟩:=I1.list hq
  refine wL p.isList ?_
  refine ⟨s1.heap.objs.size,[s1.heap.objs.size],_,_,H1,rfl,I1.kept (t':=s1.toks) λb o e=>bR _ e,b1i a _,⟨_,fN _ rfl,rfl,rfl⟩,λb hb=>?_,q⟩
  have e:b=s1.heap.objs.size:=by simpa using hb
  subst e
  exact I1.jy (bp _) (I1.bt.fresh (bp _))
 .obtain ⟨ar,rv,p,hz⟩:=I1.tuple hq
  refine qW (show s1.heap.IsTuple a ar.toArray from p) ?_
  refine ⟨s1.heap.objs.size,[s1.heap.objs.size],_,_,H1,rfl,I1.kept (t':=s1.toks) λb o e=>bR _ e,b0G a _,⟨_,fN _ rfl,rfl,rfl⟩,λb hb=>?_,q⟩
  have e:b=s1.heap.objs.size:=by simpa using hb
  subst e
  exact I1.jy (bp _) (I1.bt.fresh (bp _))
theorem nO(hp:PassesOwn (model X.prog X.w) X.A X.env X.xe)(hc:X.calm=true)(hi:EV X it fa)(hg:GV X tg g)(hb:mY X body F)
  (hs:∀x,foldedSetIterable it X.env x=pure x:=by intro _;rfl):SV X (.For tg it body [] pos) (eE fa g F):=by
 obtain ⟨ti,pi,ki⟩:=hi
 obtain ⟨qv,pg,kg⟩:=hg
 obtain ⟨tb,pb,kb⟩:=hb
 refine ⟨_,JY hp hc (P7 pi) pg pb hs,λO B σ H env fl ak D R e q=>?_⟩
 obtain ⟨r,e1,e2⟩:=bind_some e
 obtain ⟨⟨k,ds⟩,e4,e5⟩:=bind_some e2
 refine ki O B σ H env r _ R e1 λv H1 s1 r1=>?_
 obtain ⟨p,xs,rfl,h1,h2,h3⟩:=(r1.is λq=>R.oo).m8 e4
 refine ⟨p,rfl,?_⟩
 have q':dh X.K O B σ H1 env D fl ak:=q.from (Gd.refl s1)
 have keep:∀i cJ H2,Left X.K O B σ H1 env g F ds fl ak i cJ H2->Sq X.K H2 k p xs:=λi cJ H2 L=>by
  rcases h3 with h3 | h3
  .obtain ⟨bu,_,gd,_⟩:=L
   exact gd.sq h1 (.inl λz=>h3 (.inr z))
  .exact h3 H2
 cases k with
 | true =>
  refine .inl ⟨⟨xs,h1⟩,?_⟩
  exact b4c (xs:=xs) (Left X.K O B σ H1 env g F ds fl ak) ⟨env,R.grow s1,Gd.refl (au.refl _),e5⟩ (λi cJ H2 _ L=>keep i cJ H2 L) (λi x cJ H2 hx L=>K5 kg kb h2 hx q' L) (λcJ H2 L=>EY (by rw [h2.length];exact bp _) q' L)
 | false =>
  refine .inr ⟨⟨xs,h1⟩,?_⟩
  exact b6r (xs:=xs) (Left X.K O B σ H1 env g F ds fl ak) ⟨env,R.grow s1,Gd.refl (au.refl _),e5⟩ (λi cJ H2 _ L=>keep i cJ H2 L) (λi x cJ H2 hx L=>K5 kg kb h2 hx q' L) (λcJ H2 L=>EY (by rw [h2.length];exact bp _) q' L)
noncomputable def fx(lo:Int)(n:Nat):List D:=(ko n).map λ(k:Nat)=>D.int (lo+(k:Int))
def R62(i:Int):Prop:=-(2^62)<=i/\i<2^62
noncomputable instance (i:Int):Decidable (R62 i):=by unfold R62;infer_instance
noncomputable def qz:List D->Option (List D)
 | [.int j]=>if R62 j then some (fx 0 j.toNat) else none
 | _=>none
noncomputable def Ed(h:List D->Option (List D))(f:En->Option (List D))(g:GF)(F:SF):SF:=λenv=>(f env).bind λds=>(h ds).bind λis=>forL g F is env
theorem b5G{K:aM}{O:Addr->Prop}{H:Hp}(lo:Int)(n:Nat):aN K O H ((ko n).map λ(k:Nat)=>V.int (lo+(k:Int))) (fx lo n):=by
 have h:=aN.ints (K:=K) (O:=O) (H:=H) ((ko n).map λ(k:Nat)=>lo+(k:Int))
 rw [fM,fM] at h
 exact h
theorem QI{K:aM}{O:Addr->Prop}{H:Hp}{xs:List V}{i:Int}(h:aN K O H xs [.int i]):xs=[.int i]:=by
 cases h with
 | cons h t=>cases t;rw [iI h]
theorem b6s{tb:TS}{qv:TG}{g:GF}{lo:Int}{n:Nat}{O:Addr->Prop}{B:Hp}{σ:L2.St}{H:Hp}{env ak:En}{fl:Fl}{D:Ends}
  (kg:∀(O:Addr->Prop) (B:Hp) (σ:L2.St) (H:Hp) (env ak:En) (v:V) (d:DL.D) (Q:L2.St->Hp->Prop),Rel X.K O B σ H env->Is X.K (OO O σ env) H v d->g d env=some ak ->
   (∀aJ H',Rel X.K O B aJ H' ak->Gd σ env H aJ ak H'->Q aJ H')->qv v σ H Q)
  (kb:∀(O:Addr->Prop) (B:Hp) (σ:L2.St) (H:Hp) (env:En) (fl:Fl) (ak:En) (D:Ends),Rel X.K O B σ H env->F env=some (fl,ak)->dh X.K O B σ H env D fl ak->tb D σ H)
  (R:Rel X.K O B σ H env)(e:forL g F (fx lo n) env=some (fl,ak))(q:dh X.K O B σ H env D fl ak):
  ∃W:Nat->Nat->L2.St->Hp->Prop,(∃m,W 0 m σ H)/\∀i m σ H,W i m σ H ->
   ((nW lo n).stop i H/\D.nx σ H)\/((nW lo n).go i H/\∃N:L2.St->Hp->Prop,(∀aJ H',N aJ H'->∃m',m'<m/\W (i+1) m' aJ H')/\∀x H',(nW lo n).tP i H x H'->qv x σ H' λcJ H2=>tb { D with nx:=N,ct:=N,bk:=D.nx } cJ H2):=by
 refine b2t (Left X.K O B σ H env g F (fx lo n) fl ak) ⟨env,R,Gd.refl (au.refl _),e⟩ (λi cJ H2 hi L=>?_) (λcJ H2 L=>EY (by simp [fx]) q L)
 exact K5 kg kb (b5G lo n) (by simp [hi]) q L
theorem b3g{body:List Stmt}{g:GF}{fs:En->Option (List D)}{p:Pos}(hp:PassesOwn (model X.prog X.w) X.A X.env X.xe)(hc:X.calm=true)(uu:Gl X "range")(hm:X.mg "range" = none)(ha:AV X [a] fs)(hg:GV X tg g)(hb:mY X body F)
  (h1:starEach [a] X.env=[(false,eval a X.env)]:=by rfl)(hs:∀x,foldedSetIterable (.Call (.Name "range" p) [a] [] pos) X.env x=pure x:=by intro _;rfl){Gp:Pos}:
  SV X (.For tg (.Call (.Name "range" p) [a] [] pos) body [] Gp) (Ed qz fs g F):=by
 obtain ⟨ti,pi,ki⟩:=ha
 obtain ⟨qv,pg,kg⟩:=hg
 obtain ⟨tb,pb,kb⟩:=hb
 refine ⟨_,JY hp hc (b1V uu hm pi h1) pg pb hs,λO B σ H env fl ak D R e q=>?_⟩
 obtain ⟨ds,e1,e2⟩:=bind_some e
 obtain ⟨is,e2,e3⟩:=bind_some e2
 refine ki O B σ H env ds _ R e1 λvs H1 s1 r1=>?_
 unfold qz at e2
 split at e2
 .obtain ⟨⟨h1,h2⟩,rfl⟩:=iu e2
  exact ⟨_,QI r1,h1,h2,b6s kg kb (R.grow s1) e3 (q.from (Gd.refl s1))⟩
 .cases e2
noncomputable def qq(c:En->Option Bool)(F:SF):Nat->SF
 | 0,_=>none
 | n+1,env=>match c env with
  | none=>none
  | some false=>some (.nx,env)
  | some true=>match F env with
   | some (.nx,bu)=>qq c F n bu
   | some (.ct,bu)=>qq c F n bu
   | some (.bk,bu)=>some (.nx,bu)
   | some (.rt r,bu)=>some (.rt r,bu)
   | none=>none
noncomputable def Be(m:En->Nat)(c:En->Option Bool)(F:SF):SF:=λenv=>qq c F (m env) env
theorem K0(m:En->Nat)(hp:PassesOwn (model X.prog X.w) X.A X.env X.xe)(hc:TV X c ga)(hb:mY X body F):SV X (.While c body [] pos) (Be m ga F):=by
 obtain ⟨tc,pc,kc⟩:=hc
 obtain ⟨tb,pb,kb⟩:=hb
 refine ⟨_,b3y hp pc pb,λO B σ H env fl ak D R e q=>?_⟩
 refine ⟨λn h8 H1=>∃bT,Rel X.K O B h8 H1 bT/\Gd σ env H h8 bT H1/\qq ga F n bT=some (fl,ak),⟨m env,env,R,Gd.refl (au.refl _),e⟩,?_⟩
 rintro n h8 H1 ⟨bT,R1,g1,e1⟩
 cases n with
 | zero=>cases e1
 | succ n =>
  rw [qq] at e1
  cases h:ga bT with
  | none=>rw [h] at e1;cases e1
  | some x =>
   rw [h] at e1
   refine kc O B h8 H1 bT x _ R1 h λH2 s2=>?_
   cases x with
   | false =>
    rw [if_neg nJ]
    cases e1
    exact q h8 H2 (R1.grow s2) (g1.trans (Gd.refl s2))
   | true =>
    rw [if_pos rfl]
    refine ⟨λaJ H'=>∃bu,Rel X.K O B aJ H' bu/\Gd σ env H aJ bu H'/\qq ga F n bu=some (fl,ak),λaJ H' ⟨bu,a1,a2,a3⟩=>⟨n,u4 n,bu,a1,a2,a3⟩,?_⟩
    dsimp only at e1
    cases hF:F bT with
    | none=>rw [hF] at e1;cases e1
    | some y =>
     obtain ⟨f2,bu⟩:=y
     rw [hF] at e1
     have go:=g1.trans (Gd.refl s2)
     refine kb O B h8 H2 bT f2 bu _ (R1.grow s2) hF ?_
     cases f2 with
     | nx=>exact λcJ H3 R2 g2=>⟨bu,R2,go.trans g2,e1⟩
     | ct=>exact λcJ H3 R2 g2=>⟨bu,R2,go.trans g2,e1⟩
     | bk=>cases e1;exact λcJ H3 R2 g2=>q cJ H3 R2 (go.trans g2)
     | rt r=>cases e1;exact q
end
noncomputable def m7(K:aM)(n:Nat)(φ:List D->Option Sl):Sp:=λvs H Q _=>∃(O:Addr->Prop) (ds:List D) (r:Sl),qm K O H/\aN K O H vs ds/\vs.length=n/\φ ds=some r /\
 ∀v H',au H H'->Res K O H H' v r->Q v H'
noncomputable def pF(N:Nat)(ds:List D):En:=ds.map Sl.sh++iU (N-ds.length) Sl.no
noncomputable def aH(F:SF)(N:Nat)(ds:List D):Option Sl:=match F (pF N ds) with
 | some (.rt r,_)=>some r
 | some (.nx,_)=>some (.sh .bz)
 | _=>none
theorem b1M{K:aM}{O:Addr->Prop}{H:Hp}{N:List Str}{vs:List V}{ds:List D}(hO:qm K O H)(h:aN K O H vs ds):Rel K O H (start N vs) H (pF N.length ds):=by
 have hl:=h.length
 have CC:∀(i:Nat) (s:Sl),(pF N.length ds)[i]?=some s->s.own->False:=λi s e1 o=>by
  unfold pF at e1
  rw [OC] at e1
  split at e1
  .rw [uX] at e1
   obtain ⟨d,_,e⟩:=map_some e1
   cases e
   exact o
  .rw [DN] at e1
   split at e1
   .cases e1;exact o
   .cases e1
 have no:∀p,¬mE (start N vs) (pF N.length ds) p:=λp ⟨i,es,e1,o,_⟩=>CC i es e1 o
 refine ⟨au.refl _,hO,?_,λi d e=>?_,λi es e=>(CC i _ e trivial).elim,λi es e=>(CC i _ e trivial).elim,λi j es fs p e _ _ _ o _=>(CC i _ e o).elim⟩
 .simp [L2.start,pF,hl]
 .unfold pF at e
  rw [OC] at e
  split at e
  .rename_i hi
   rw [aX] at hi
   rw [uX] at e
   obtain ⟨d',e1,e2⟩:=map_some e
   cases e2
   obtain ⟨x,hx,hd⟩:=h.get e1
   refine ⟨x,?_,hd.less λq z=>z.elim id λz=>(no q z).elim⟩
   unfold L2.start
   rw [uW (by rw [aX,hl];exact hi),uX,hx]
   rfl
  .rw [DN] at e
   split at e
   .cases e
   .cases e
section
variable {P:Program}{w:World}{K:aM}{mg:Str->Option Value}{base:Heap}
theorem HX{x qual:Str}{st:Stmt}{f:Addr}{fd:FuncData}{N ps:List Str}{k:Nat}{F:SF}(Fn:tL K x qual st f fd)(S:dv N ps (fQ st))
  (dO:∀(dj:Value) (A:Around) (outer:List Env) (s:Shared) (H:Hp) (E:XK),cu k (A.deeper (envOfC qual (fQ st) s.heap.objs.size f dj)) ->
   mY (md jc P w K mg base N qual (fQ st) f dj A outer s H E).yV (iL st) F):cH P w K mg base jc (k+1) f fd ps (m7 K ps.length (aH F N.length)):=by
 refine Fn.ok S (λvs H Q E h=>?_) (λdj A outer s H vs Q E hr h=>?_)
 .obtain ⟨O,ds,r,_,_,hl,_⟩:=h
  exact hl
 obtain ⟨O,ds,r,hO,hi,hl,e,q⟩:=h
 obtain ⟨t,p,kk⟩:=dO dj A outer s H E hr
 refine ⟨t,p,?_⟩
 unfold aH at e
 cases hF:F (pF N.length ds) with
 | none=>rw [hF] at e;cases e
 | some y =>
  obtain ⟨fl,ak⟩:=y
  rw [hF] at e
  refine kk O H (start N vs) H (pF N.length ds) fl ak _ (b1M hO hi) hF ?_
  cases fl with
  | nx=>cases e;exact λaJ H' R' _=>q .bz H' R'.same Is.bz
  | bk=>cases e
  | ct=>cases e
  | rt r=>cases e;exact λv H' s h=>q v H' s h
end
section
variable {X:Cx}{k:Nat}{f:Addr}{fd:FuncData}{ps:List Str}{φ:List D->Option Sl}{x:Str}{p pos:Pos}{e:Expr}{es:List Expr}{fs:En->Option (List D)}
noncomputable def aA(n:Nat)(φ:List D->Option Sl)(fs:En->Option (List D)):En->Option Sl:=λenv=>(fs env).bind λds=>if ds.length=n then φ ds else none
theorem b2M(ka:∀(O:Addr->Prop) (B:Hp) (σ:L2.St) (H:Hp) (env:En) (ds:List D) (Q:List V->Hp->Prop),Rel X.K O B σ H env->fs env=some ds->(∀vs H',au H H'->aN X.K (OO O σ env) H' vs ds->Q vs H')->t σ H Q)
  (O:Addr->Prop)(B:Hp)(σ:L2.St)(H:Hp)(env:En)(r:Sl)(Q:VK)(R:Rel X.K O B σ H env)(e:aA n φ fs env=some r)(q:∀v H',au H H'->Res X.K (OO O σ env) H H' v r->Q v H'):O7 (m7 X.K n φ) [] E t σ H Q:=by
 obtain ⟨ds,e1,e2⟩:=bind_some e
 refine ka O B σ H env ds _ R e1 λvs H1 s1 r1=>?_
 by_cases hn:ds.length=n
 .rw [if_pos hn] at e2
  rw [mQ]
  refine ⟨OO O σ env,ds,r,(R.grow s1).dm,r1,by rw [r1.length,hn],e2,λv H2 s2 r2=>q v H2 (s1.trans s2) (r2.from s1)⟩
 .rw [if_neg hn] at e2;cases e2
theorem b6u(F:cH X.prog X.w X.K X.mg X.base jc k f fd ps (m7 X.K ps.length φ))(hr:cu k X.A)(hg:Gl X x)(hm:X.mg x=some (.ref f))(hk:AI X.K (.ref f)=true)(hb:Binds X.K fd ps [])
  (ha:AV X (e::es) fs)(j9:(x==("__debug__":Str))=false:=by decide)(he:starEach (e::es) X.env=(false,eval e X.env)::starEach es X.env:=by rfl)(dB:(backTo pos (starEach es X.env)).any (·.1)=false:=by rfl):
  EV X (.Call (.Name x p) (e::es) [] pos) (aA ps.length φ fs):=by
 obtain ⟨t,pt,ka⟩:=ha
 exact ⟨_,b5W F hr hg hm hk hb .nil yO pt j9 he dB,λO B σ H env r Q R e q=>b2M ka O B σ H env r Q R e q⟩
end
noncomputable def spT(K:aM):Sp:=λvs H Q _=>∃(a:Addr) (ns:List Int),vs=[.ref a]/\eN K H a (ns.map V.int)/\ns.length<=63/\Tb K H/\∀H',au H H'->Q (.bl true) H'
theorem b8b{P:Program}{w:World}{K:aM}{mg:Str->Option Value}{base:Heap}{k:Nat}{f:Addr}{fd:FuncData}{φ:List D->Option Sl}(F:cH P w K mg base jc k f fd ["script"] (m7 K 1 φ))
  (h:∀ns:List Int,ns.length<=63->φ [.lst true (ns.map D.int)]=some (Sl.sh (.bl true))):cH P w K mg base jc k f fd ["script"] (spT K):=by
 refine F.imp λvs H Q E q=>?_
 obtain ⟨a,ns,rfl,hs,hl,tb,q⟩:=q
 refine ⟨λ_=>False,[.lst true (ns.map D.int)],_,⟨λ_ z=>z.elim,tb⟩,.cons ?_ .nil,rfl,h ns hl,λv H' sm r=>?_⟩
 .rcases hs with hs | hs
  .exact .lW id hs (aN.ints ns)
  .exact .lY (.inr hs) (aN.ints ns)
 .have r':Is K (λ_=>False) H' v (.bl true):=r
  rw [vi r']
  exact q H' sm
theorem xZ{l:Iw}{q:Program}{loose:List Str}{XP:(Str->Option Value)->Heap->Prop}{YP:World->Heap->Prop}{d:DefRec}{K:Params->aM}{k:Nat}(hk:cu k callerA)(hn:l.most=some 63)(z7:d.params.defaults=[])
  {ts:List Addr}(hY:∀(w:World) (h:Heap),YP w h->(K w.params).In h/\∀P∈ts,h.get? P=some (wN #[]))(hL:∀w:World,Eh (K w.params) ts=true)
  (F:∀(w:World) (mg:Str->Option Value) (fa:Addr) (h:Heap),(K w.params).In h->h.Ns mainGlobals mg->mg d.name=some (.ref fa) ->
   ∃fd:FuncData,(∀(s:Shared) (u:Value),BindsTo s fd ⟨[u],[]⟩ [("script",u)])/\∀base:Heap,(K w.params).In base->base.Ns mainGlobals mg->cH l.prog w (K w.params) mg base jc k fa fd ["script"] (spT (K w.params))):
  PySem.W.WalkO q loose XP YP l.row.toRowW d [] (λf vs=>Io f vs):=
 L2.qt (n:=63) (k:=k) (x:="script") (CX:=λ_=>jc) (sp:=λw=>spT (K w.params)) hn (by decide) z7 hk hY hL F (λw _ a ns hl tb hS=>⟨a,ns,rfl,hS,hl,tb,λ_ sm=>⟨rfl,tb.grow sm⟩⟩) λ_ _ _ _ _ z=>z
section
variable {X:Cx}{a:Expr}{pos p p2:Pos}{fa:En->Option Sl}
def zo(K:aM)(T:String)(x:V)(H:Hp)(b:Bool):Prop:=match x with
 | .bz=>b=false
 | .bl _=>b=(T == "bool" || T == "int")
 | .int _=>b=(T == "int")
 | .str _=>b=(T == "str")
 | .ref p=>(b=(T == "list")/\∃xs,eN K H p xs)\/(b=(T == "tuple")/\∃xs,fq K H p xs)
 | _=>False
theorem b4u(hT:T = "int" \/ T = "bool" \/ T = "str" \/ T = "list" \/ T = "tuple"):
  pB X (.builtin "isinstance") (λxs H Q=>∃x b,xs=[x,.ty T]/\zo X.K T x H b/\Q (.bl b) H):=by
 intro pins s σ H xs us Q I r h
 obtain ⟨x,b,rfl,hx,q⟩:=h
 obtain ⟨u,w',rfl,r1,r2⟩:=vals2 r
 obtain rfl:w'=sQ T:=r2
 have yes:∀{Tx:String},s.TypeIs u Tx->isSubtype (.type Tx) (.type T)=pure true->typeOf (.type T)=pure (.type "type")->Q (.bl true) H->wpAny (model X.prog X.w) X.A (call (.builtin "isinstance") [u,.type T]) (EP X pins σ Q) X.xe s:=λh1 h2 h3 hq =>
  uP (isinstance_true h3 h2) ⟨h1,⟨.bl true,H,I,rfl,hq⟩⟩
 have fin:Q (.bl false) H->EP X pins σ Q (.bool false) { s with toks:=s.toks+1 }:=λhq=>⟨.bl false,H,I.tok _,rfl,hq⟩
 have ty:typeOf (.type T)=pure (.type "type"):=by rcases hT with rfl | rfl | rfl | rfl | rfl<;>rfl
 cases x with
 | bz =>
  obtain rfl:u=fY:=r1
  obtain rfl:b=false:=hx
  refine uP (isinstance_false_none ?_ ty ?_) (fin q)
  .rcases hT with rfl | rfl | rfl | rfl | rfl<;>decide +kernel
  .rcases hT with rfl | rfl | rfl | rfl | rfl<;>rfl
 | bl k =>
  obtain rfl:u=mh k:=r1
  rcases hT with rfl | rfl | rfl | rfl | rfl
  .obtain rfl:b=true:=hx
   exact yes (Tx:="bool") rfl rfl ty q
  .obtain rfl:b=true:=hx
   exact yes (Tx:="bool") rfl rfl ty q
  all_goals
   obtain rfl:b=false:=hx
   exact uP (isinstance_false_bool (by decide +kernel) ty (by rfl)) (fin q)
 | int i =>
  obtain ⟨t,rfl⟩:=r1
  rcases hT with rfl | rfl | rfl | rfl | rfl
  .obtain rfl:b=true:=hx
   exact yes (Tx:="int") (typeIs_int s i t) rfl ty q
  all_goals
   obtain rfl:b=false:=hx
   exact uP (isinstance_false_int (by decide +kernel) ty (by rfl)) (fin q)
 | str z =>
  obtain ⟨t,rfl⟩:=r1
  rcases hT with rfl | rfl | rfl | rfl | rfl
  rotate_left 2
  .obtain rfl:b=true:=hx
   exact yes (Tx:="str") (typeIs_str s z t) rfl ty q
  all_goals
   obtain rfl:b=false:=hx
   exact uP (isinstance_false_str (by decide +kernel) ty (by rfl)) (fin q)
 | ref l =>
  cases r1
  rcases hx with ⟨rfl,xs,hq⟩ | ⟨rfl,xs,hq⟩
  .obtain ⟨ar,_,pl,_⟩:=I.list hq
   have ug:=pl.isList.typeIs
   obtain ⟨o,n,e,c,_,_⟩:=pl
   rcases hT with rfl | rfl | rfl | rfl | rfl
   rotate_left 3
   .exact yes (Tx:="list") ug rfl ty q
   all_goals exact uP (isinstance_false_list (by decide +kernel) ty (by rfl)) ⟨⟨o,e,c⟩,fin q⟩
  .obtain ⟨ar,_,pl,_⟩:=I.tuple hq
   have ug:=pl.typeIs
   obtain ⟨o,e,c,_⟩:=pl
   rcases hT with rfl | rfl | rfl | rfl | rfl
   rotate_left 4
   .exact yes (Tx:="tuple") ug rfl ty q
   all_goals exact uP (isinstance_false_tuple (by decide +kernel) ty (by rfl)) ⟨⟨o,e,c⟩,fin q⟩
 | _=>exact jR hx
noncomputable def iB(T:String):D->Bool
 | .bz=>false
 | .bl _=>(T == "bool" || T == "int")
 | .int _=>(T == "int")
 | .str _=>(T == "str")
 | .tup _=>(T == "tuple")
 | .lst _ _=>(T == "list")
 | .exc _=>false
 | .fL _ _=>false
noncomputable def D.isExc:D->Bool
 | .exc _=>true
 | .fL _ _=>true
 | _=>false
noncomputable def jr(T:String)(d:D):Option Sl:=if d.isExc=true then none else some (.sh (.bl (iB T d)))
theorem b8k{K:aM}{O:Addr->Prop}{H:Hp}{T:String}{v:V}{d:D}(h:Is K O H v d)(ne:d.isExc=false):zo K T v H (iB T d):=by
 cases h with
 | bz=>rfl
 | bl b=>rfl
 | int i=>rfl
 | str x=>rfl
 | tup ho hp hs=>exact .inr ⟨rfl,_,.inl hp⟩
 | nq hp hs=>exact .inr ⟨rfl,_,Bw hp⟩
 | lst ho hp hs=>exact .inl ⟨rfl,_,.inl (.inl hp)⟩
 | lW ho hp hs=>exact .inl ⟨rfl,_,.inl hp⟩
 | lY hp hs=>exact .inl ⟨rfl,_,Bv hp⟩
 | exc ho hn hp=>cases ne
 | fL ho hp=>cases ne
 | qQ ho hp=>cases ne
noncomputable def qP(T:String)(f:En->Option Sl):En->Option Sl:=λenv=>(f env).bind λr=>jr T r.d
theorem Pr(hT:T = "int" \/ T = "bool" \/ T = "str" \/ T = "list" \/ T = "tuple")(hg:Gl X "isinstance")(hm:X.mg "isinstance" = none)(C1:Gl X x)(XZ:X.mg x=none)(hv:bootBuiltins x=some (.type T))(ha:EV X a fa)
  (hn:x ≠ "__name__":=by decide)(hd:(x==("__debug__":Str))=false:=by decide)
  (hs:starEach [a,.Name x p2] X.env=[(false,eval a X.env),(false,eval (.Name x p2) X.env)]:=by rfl)(gO:starEach [.Name x p2] X.env=[(false,eval (.Name x p2) X.env)]:=by rfl):
  EV X (.Call (.Name "isinstance" p) [a,.Name x p2] [] pos) (qP T fa):=by
 obtain ⟨t,pt,k⟩:=ha
 refine ⟨_,xy (b4u hT) hg hm (by decide +kernel) (qe pt (qe (b5X (v:=.ty T) C1 XZ hv rfl hn hd) rm gO) (by rw [hs,gO])) (by decide) (by decide) (by rw [hs,gO]) (by rw [gO];rfl),λO B σ H env s Q R e q=>?_⟩
 obtain ⟨r,e1,e2⟩:=bind_some e
 unfold jr at e2
 split at e2
 .cases e2
 .rename_i ne
  cases e2
  exact k O B σ H env r _ R e1 λv H1 s1 r1=>⟨v,_,rfl,b8k (r1.is λq=>R.oo) (by simpa using ne),q _ H1 s1 (Is.bl _)⟩
end
section
variable {X:Cx}{a b c e:Expr}{fa fb:En->Option Sl}{pos:Pos}
noncomputable def jY(i:Nat)(f:En->Option Sl):SF:=λenv=>match env[i]? with
 | some (.ow ds)=>(f env).bind λr=>match r.d with
  | .lst false es=>if ds.length+es.length<=16777216 then some (.nx,env.set i (.ow (ds++es))) else none
  | _=>none
 | _=>none
theorem b1v{i:Nat}{x:Str}{p1 p2 aZ:Pos}(ha:EV X e fa)(hN:X.N[i]?=some x:=by rfl)(hv:jI X.env.scope x:=by first | exact cX rfl | exact bP (cX rfl) | exact bP (bP rfl))(hd:(x==("__debug__":Str))=false:=by decide)
  (dC:(x==("__classdict__":Str))=false:=by decide)(hs:starEach [e] X.env=[(false,eval e X.env)]:=by rfl)
  (cN:attributeBase (.Name x p1) "extend" X.env (eval (.Name x p1) X.env)=eval (.Name x p1) X.env:=by rfl)
  (jv:((backTo aZ (starEach [e] X.env)).all (λx=>!x.1)&&(backToKw aZ (keywordEach [] X.env)).all (λx=>x.1.isSome)
   && decide ([e].length+([]:List Keyword).length+(if ([]:List Keyword).isEmpty then 0 else 1)<30))=true:=by rfl)
  (cM:(p2.endLine==aZ.line)=true:=by rfl)
  (uh:swapsWith (.Call (.Attribute (.Name x p1) "extend" p2) [e] [] aZ) none pos.line X.env=pure false:=by rfl):
  SV X (.Expr (.Call (.Attribute (.Name x p1) "extend" p2) [e] [] aZ) pos) (jY i fa):=by
 obtain ⟨t,p,k⟩:=ha
 refine ⟨_,Qw (Pa Jp Od PySem.F.type_list_extend b14 (vk hN hv hd dC) (qe p rm hs) cN jv cM hs rfl) uh,λO B σ H env fl ak D R e q=>?_⟩
 unfold jY at e
 cases h:env[i]? with
 | none=>rw [h] at e;cases e
 | some s =>
  rw [h] at e
  cases s with
  | no=>cases e
  | sh d=>cases e
  | dw ds=>cases e
  | ow ds =>
   obtain ⟨r,e1,e2⟩:=bind_some e
   obtain ⟨l,xs,f1,f2,f3,f4⟩:=R.ow i ds h
   refine ⟨_,f1,.inl ⟨rfl,_,eN.of f3⟩,?_⟩
   refine k O B σ H env r _ R e1 λv H1 s1 r1=>?_
   have hi:=r1.is λq=>R.oo
   cases hd:r.d with
   | lst ro es =>
    rw [hd] at hi e2
    cases ro with
    | true=>cases e2
    | false =>
     obtain ⟨hl,e3⟩:=iu (show (if ds.length+es.length<=16777216 then some (Fl.nx,env.set i (.ow (ds++es))) else none)=some (fl,ak) from e2)
     cases e3
     obtain ⟨b,zs,rfl,hb,g1,g2⟩:=b2i hi
     refine ⟨l,b,xs,zs,rfl,rfl,s1 _ _ f3,g1,by rw [f4.length,g2.length,ij];exact hl,?_⟩
     obtain ⟨R',g'⟩:=(R.grow s1).wr h f1 ((f4.grow s1).append g2)
     exact q _ _ R' (g'.from s1)
   | _=>rw [hd] at e2;cases e2
noncomputable def lU(i j:Nat):SF:=λenv=>match env[j]? with
 | some (.ow ds)=>(ds[ds.length-1]?).bind λd=>if i<env.length/\i≠j then some (.nx,(env.set j (.ow ds.dropLast)).set i (.sh d)) else none
 | _=>none
theorem b1s{i j:Nat}{x y:Str}{pos' p1 p2 aZ:Pos}(hN:X.N.Nodup)(hi:X.N[i]?=some x)(hx:Loc X.env.scope x)
  (HH:X.N[j]?=some y:=by rfl)(hv:jI X.env.scope y:=by first | exact cX rfl | exact bP (cX rfl) | exact bP (bP rfl))(hd:(y==("__debug__":Str))=false:=by decide)
  (dC:(y==("__classdict__":Str))=false:=by decide)
  (cN:attributeBase (.Name y p1) "pop" X.env (eval (.Name y p1) X.env)=eval (.Name y p1) X.env:=by rfl)
  (cM:(p2.endLine==aZ.line)=true:=by rfl)
  (hs:swapsWith (.Call (.Attribute (.Name y p1) "pop" p2) [] [] aZ) (some (.Name x pos')) pos.line X.env=pure false:=by rfl)(hf:X.fn x=true\/X.env.scope.names.lookup x=some .local:=by first | exact .inl rfl | exact .inr rfl | assumption):
  SV X (.Assign [.Name x pos'] (.Call (.Attribute (.Name y p1) "pop" p2) [] [] aZ) pos) (lU i j):=by
 refine ⟨_,JZ hN hi hx (b7V Jp OI PySem.F.type_list_pop b74 (vk HH hv hd dC) cN cM) hs hf,λO B σ H env fl ak D R e q=>?_⟩
 unfold lU at e
 cases h:env[j]? with
 | none=>rw [h] at e;cases e
 | some s =>
  rw [h] at e
  cases s with
  | no=>cases e
  | sh d=>cases e
  | dw ds=>cases e
  | ow ds =>
   obtain ⟨d,e1,e2⟩:=bind_some e
   obtain ⟨⟨hl,cw⟩,e3⟩:=Rj e2
   cases e3
   obtain ⟨l,xs,f1,f2,f3,f4⟩:=R.ow j ds h
   obtain ⟨v,zy,G6⟩:=f4.get e1
   obtain ⟨R',g'⟩:=R.wr h f1 f4.dropLast
   refine ⟨_,f1,.inl ⟨rfl,_,eN.of f3⟩,l,xs,v,rfl,rfl,f3,by rw [f4.length];exact zy,?_⟩
   have G5:aN X.K (OO O σ (env.set j (.ow ds.dropLast))) (upd H l (.lst xs.dropLast)) [v] [d]:=g'.CI (.cons G6 .nil)
   cases G5 with
   | cons G5 _ =>
    obtain ⟨R2,g2⟩:=R'.set (r:=.sh d) (i:=i) (au.refl _) G5 (by simp;exact hl)
    exact q _ _ R2 (g'.trans g2)
noncomputable def w6(i:Nat)(f g:En->Option Sl):SF:=λenv=>match env[i]? with
 | some (.ow ds)=>(f env).bind λr=>(g env).bind λk=>match k.d with
  | .int n=>(lZ ds.length n).bind λj=>some (.nx,env.set i (.ow (ds.set j r.d)))
  | _=>none
 | _=>none
theorem b5C{i:Nat}{x:Str}{p1 p2:Pos}(ha:EV X e fa)(hb:EV X b fb)(hN:X.N[i]?=some x:=by rfl)(hv:jI X.env.scope x:=by first | exact cX rfl | exact bP (cX rfl) | exact bP (bP rfl))(hd:(x==("__debug__":Str))=false:=by decide)
  (dC:(x==("__classdict__":Str))=false:=by decide)
  (js:∀v,assign (.Subscript (.Name x p1) b p2) X.env v=(do
   let ov <-holding [v] (eval (.Name x p1) X.env)
   let iv <-holding [v,ov] (eval b X.env)
   standAt p2
   holding [v,ov,iv] (setItem ov iv v)
   release [v,ov,iv] []):=by intro _;rfl)
  (hs:swapsWithSole [.Subscript (.Name x p1) b p2] e pos.line X.env=pure false:=by rfl)(hw:swappedStores [.Subscript (.Name x p1) b p2] e X.env=pure none:=by rfl)
  (h1:(assignEach [.Subscript (.Name x p1) b p2] X.env).map (·.2)=[assign (.Subscript (.Name x p1) b p2) X.env]:=by rfl):
  SV X (.Assign [.Subscript (.Name x p1) b p2] e pos) (w6 i fa fb):=by
 obtain ⟨t,p,k⟩:=ha
 obtain ⟨t',p',k'⟩:=hb
 refine ⟨_,b7L p (b7O (vk hN hv hd dC) p' b3l js) hs hw h1,λO B σ H env fl ak D R e q=>?_⟩
 unfold w6 at e
 cases h:env[i]? with
 | none=>rw [h] at e;cases e
 | some s =>
  rw [h] at e
  cases s with
  | no=>cases e
  | sh d=>cases e
  | dw ds=>cases e
  | ow ds =>
   obtain ⟨r,e1,e2⟩:=bind_some e
   obtain ⟨kk,e2,e3⟩:=bind_some e2
   obtain ⟨l,xs,f1,f2,f3,f4⟩:=R.ow i ds h
   refine k O B σ H env r _ R e1 λv H1 s1 r1=>⟨_,f1,?_⟩
   refine k' O B σ H1 env kk _ (R.grow s1) e2 λw H2 s2 r2=>?_
   have hi:=r2.is λq=>(R.grow s1).oo
   cases hd:kk.d with
   | int n =>
    rw [hd] at hi e3
    obtain rfl:=iI hi
    obtain ⟨j,e4,e5⟩:=bind_some (show (lZ ds.length n).bind (λj=>some (Fl.nx,env.set i (.ow (ds.set j r.d))))=some (fl,ak) from e3)
    cases e5
    have mH:=s1.trans s2
    refine ⟨l,xs,n,j,rfl,rfl,mH _ _ f3,by rw [f4.length];exact e4,?_⟩
    obtain ⟨R',g'⟩:=(R.grow mH).wr h f1 ((f4.grow mH).set ((r1.is λq=>R.oo).grow s2) j)
    exact q _ _ R' (g'.from mH)
   | _=>rw [hd] at e3;cases e3
def PP(X:Cx)(e:Option Expr)(f:En->Option (Option Int)):Prop:=
 ∃t:TO,PO X e t/\∀(O:Addr->Prop) (B:Hp) (σ:L2.St) (H:Hp) (env:En) (o:Option Int) (Q:Option Int->Hp->Prop),Rel X.K O B σ H env->f env=some o->(∀H',au H H'->Q o H')->t σ H Q
noncomputable def eG:En->Option (Option Int):=λ_=>some none
noncomputable def dZ(f:En->Option Sl):En->Option (Option Int):=λenv=>(f env).bind λr=>match r.d with
 | .int i=>some (some i)
 | _=>none
theorem fI:PP X none eG:=⟨_,b5Q,λO B σ H env o Q R e q=>by
 obtain rfl:=cG e
 exact q H (au.refl _)⟩
theorem fJ(h:EV X e fa):PP X (some e) (dZ fa):=by
 obtain ⟨t,p,k⟩:=h
 refine ⟨_,b5P p,λO B σ H env o Q R e q=>?_⟩
 obtain ⟨r,e1,e2⟩:=bind_some e
 refine k O B σ H env r _ R e1 λv H1 s1 r1=>?_
 have hi:=r1.is λq=>R.oo
 cases hd:r.d with
 | int i =>
  rw [hd] at hi e2
  obtain rfl:=cG e2
  exact ⟨i,iI hi,q H1 s1⟩
 | _=>rw [hd] at e2;cases e2
noncomputable def cutD(xs:List D)(lo hi:Option Int):List D:=(xs.drop (HT.bC xs.length 0 lo)).take (HT.bC xs.length xs.length hi-HT.bC xs.length 0 lo)
theorem aN.cut{K:aM}{O:Addr->Prop}{H:Hp}{xs:List V}{ds:List D}(h:aN K O H xs ds)(lo hi:Option Int):aN K O H (km xs lo hi) (cutD ds lo hi):=by
 unfold km cutD
 rw [h.length]
 exact (h.drop _).take _
noncomputable def ec(f:En->Option (Bool×List D))(lo hi:En->Option (Option Int)):En->Option Sl:=λenv=>(f env).bind λx=>(lo env).bind λl=>(hi env).bind λh =>
 if x.1=true then some (.ow (cutD x.2 l h)) else if ¬(HT.bC x.2.length 0 l=0/\HT.bC x.2.length x.2.length h=x.2.length) then some (.sh (.tup (cutD x.2 l h))) else none
theorem fH{ba:En->Option (Bool×List D)}{lo hi:Option Expr}{fl fh:En->Option (Option Int)}{p2:Pos}(ha:BV X a ba)(hl:PP X lo fl)(hh:PP X hi fh):EV X (.Subscript a (.Slice lo hi none p2) pos) (ec ba fl fh):=by
 obtain ⟨t,p,k⟩:=ha
 obtain ⟨tl,pl,kl⟩:=hl
 obtain ⟨th,ph,kh⟩:=hh
 refine ⟨_,b3E (qy.or b7C) p pl ph,λO B σ H env r Q R e q=>?_⟩
 obtain ⟨⟨kk,ds⟩,e1,e2⟩:=bind_some e
 obtain ⟨l,e2,e3⟩:=bind_some e2
 obtain ⟨h,e3,e4⟩:=bind_some e3
 refine k O B σ H env kk ds _ R e1 λpp xs H1 s1 hq hx=>?_
 refine kl O B σ H1 env l _ (R.grow s1) e2 λH2 s2=>?_
 refine kh O B σ H2 env h _ ((R.grow s1).grow s2) e3 λH3 s3=>?_
 have mH:=s1.trans (s2.trans s3)
 have dH:=hq.grow (s2.trans s3)
 have jN:=hx.grow (s2.trans s3)
 dsimp only at e4
 cases kk with
 | true =>
  rw [if_pos rfl] at e4
  obtain rfl:=cG e4
  exact .inl ⟨pp,xs,rfl,dH,λp hp=>q _ _ (mH.trans (oD hp _)) ((xp hp (jN.cut l h)).from mH)⟩
 | false =>
  rw [if_neg nJ] at e4
  obtain ⟨hw,rfl⟩:=iu e4
  exact .inr ⟨pp,xs,rfl,dH,by rw [jN.length];exact hw,λp hp=>q _ _ (mH.trans (oD hp _)) ((EI (O:=OO O σ env) (H:=H3) (λ_ z=>(R.grow mH).oo z) hp (jN.cut l h)).from mH)⟩
end
structure Def(K:aM)(mg:Str->Option Value)(x:Str)(st:Stmt)(ps:List Str)(f:Addr)(fd:FuncData):Prop where
 fn:tL K x x st f fd
 bd:Binds K fd ps []
 m:mg x=some (.ref f)
end DL
namespace DL
open PySem PySem.Spec PyProof.Rows L2
structure Fx(X:Cx)(N:List Str)(sc:Scope)(k:Nat)(full:Bool:=true):Prop where
 n:X.N=N
 sc:X.env.scope=sc
 calm:X.calm=true
 fn:full=true->∀x,X.fn x=true
 own:PassesOwn (model X.prog X.w) X.A X.env X.xe
 room:cu k X.A
 nd:N.Nodup
 top:full=true->X.stack=X.env::X.outer/\X.env.frame=some X.env.locals/\X.ex=[]
section
variable {X:Cx}{N:List Str}{sc:Scope}{k:Nat}{full:Bool}{pos p p1 p2 pos' aZ:Pos}{e a b:Expr}{fa fb:En->Option Sl}
theorem Fx.qu(h:Fx X N sc k full)(hv:jI sc x):jI X.env.scope x:=by rw [h.sc];exact hv
theorem Fx.loc(h:Fx X N sc k full)(hv:Loc sc x):Loc X.env.scope x:=by rw [h.sc];exact hv
theorem Fx.ix(h:Fx X N sc k full){i:Nat}{x:Str}(hN:N[i]?=some x):X.N[i]?=some x:=by rw [h.n];exact hN
theorem Fx.tT(h:Fx X N sc k full)(hf:full=true\/sc.names.lookup x=some .local):X.fn x=true\/X.env.scope.names.lookup x=some .local:=hf.elim (λe=>.inl (h.fn e x)) λe=>.inr (by rw [h.sc];exact e)
theorem Fx.ua(h:Fx X N sc k full):X.N.Nodup:=by rw [h.n];exact h.nd
theorem Fx.g(h:Fx X N sc k full)(hg:sc.names.lookup x=some .globalImplicit:=by rfl):Gl X x:=by
 show X.env.kindOf x=some .globalImplicit
 unfold Env.kindOf
 rw [h.sc]
 exact hg
theorem Fx.v(h:Fx X N sc k full)(i:Nat)(hN:N[i]?=some x:=by rfl)(hv:jI sc x:=by first | exact cX rfl | exact bP (cX rfl) | exact bP (bP rfl))(hd:(x==("__debug__":Str))=false:=by rfl)
  (dC:(x==("__classdict__":Str))=false:=by rfl):EV X (.Name x pos) (eV i):=b8v i (h.ix hN) (h.qu hv) hd dC
theorem Fx.bv(h:Fx X N sc k full)(i:Nat)(hN:N[i]?=some x:=by rfl)(hv:jI sc x:=by first | exact cX rfl | exact bP (cX rfl) | exact bP (bP rfl))(hd:(x==("__debug__":Str))=false:=by rfl)
  (dC:(x==("__classdict__":Str))=false:=by rfl):BV X (.Name x pos) (bV i):=b8K i (h.ix hN) (h.qu hv) hd dC
theorem Fx.tg(h:Fx X N sc k full)(i:Nat)(hN:N[i]?=some x:=by rfl)(hv:Loc sc x:=by first | exact cX rfl | exact bP rfl)(hf:full=true\/sc.names.lookup x=some .local:=by first | exact cX rfl | exact bP rfl):GV X (.Name x pos) (gN i):=b6n h.ua (h.ix hN) (h.loc hv) (h.tT hf)
theorem Fx.set(h:Fx X N sc k full)(i:Nat)(he:EV X e fa)(hN:N[i]?=some x:=by rfl)(hv:Loc sc x:=by first | exact cX rfl | exact bP rfl)
  (hs:swapsWith e (some (.Name x pos')) pos.line X.env=pure false:=by rfl)(hf:full=true\/sc.names.lookup x=some .local:=by first | exact cX rfl | exact bP rfl):SV X (.Assign [.Name x pos'] e pos) (de i fa):=b7y h.ua (h.ix hN) (h.loc hv) he hs (h.tT hf)
theorem Fx.aE(h:Fx X N sc k full)(i:Nat)(he:EV X e fa)(hN:N[i]?=some x:=by rfl)(hv:Loc sc x:=by first | exact cX rfl | exact bP rfl)
  (hs:swapsWith e (some (.Name x pos')) pos.line X.env=pure false:=by rfl)(hf:full=true\/sc.names.lookup x=some .local:=by first | exact cX rfl | exact bP rfl):SV X (.Assign [.Name x pos'] e pos) (aY i fa):=b5A h.ua (h.ix hN) (h.loc hv) he hs (h.tT hf)
theorem Fx.jZ(h:Fx X N sc k full)(i:Nat)(hN:N[i]?=some x:=by rfl)(hv:jI sc x:=by first | exact cX rfl | exact bP (cX rfl) | exact bP (bP rfl))(hd:(x==("__debug__":Str))=false:=by rfl)
  (dC:(x==("__classdict__":Str))=false:=by rfl):SV X (.Return (some (.Name x p2)) pos) (nK i):=b5B i (h.ix hN) (h.qu hv) hd dC
theorem Fx.app(h:Fx X N sc k full)(i:Nat)(ha:EV X e fa)(hN:N[i]?=some x:=by rfl)(hv:jI sc x:=by first | exact cX rfl | exact bP (cX rfl) | exact bP (bP rfl))(hd:(x==("__debug__":Str))=false:=by rfl)
  (dC:(x==("__classdict__":Str))=false:=by rfl)(hs:starEach [e] X.env=[(false,eval e X.env)]:=by rfl)
  (cN:attributeBase (.Name x p1) "append" X.env (eval (.Name x p1) X.env)=eval (.Name x p1) X.env:=by rfl)
  (jv:((backTo aZ (starEach [e] X.env)).all (λx=>!x.1)&&(backToKw aZ (keywordEach [] X.env)).all (λx=>x.1.isSome)
   && decide ([e].length+([]:List Keyword).length+(if ([]:List Keyword).isEmpty then 0 else 1)<30))=true:=by rfl)
  (cM:(p2.endLine==aZ.line)=true:=by rfl)
  (uh:swapsWith (.Call (.Attribute (.Name x p1) "append" p2) [e] [] aZ) none pos.line X.env=pure false:=by rfl):
  SV X (.Expr (.Call (.Attribute (.Name x p1) "append" p2) [e] [] aZ) pos) (cF i fa):=b1w ha (h.ix hN) (h.qu hv) hd dC hs cN jv cM uh
theorem Fx.ext(h:Fx X N sc k full)(i:Nat)(ha:EV X e fa)(hN:N[i]?=some x:=by rfl)(hv:jI sc x:=by first | exact cX rfl | exact bP (cX rfl) | exact bP (bP rfl))(hd:(x==("__debug__":Str))=false:=by rfl)
  (dC:(x==("__classdict__":Str))=false:=by rfl)(hs:starEach [e] X.env=[(false,eval e X.env)]:=by rfl)
  (cN:attributeBase (.Name x p1) "extend" X.env (eval (.Name x p1) X.env)=eval (.Name x p1) X.env:=by rfl)
  (jv:((backTo aZ (starEach [e] X.env)).all (λx=>!x.1)&&(backToKw aZ (keywordEach [] X.env)).all (λx=>x.1.isSome)
   && decide ([e].length+([]:List Keyword).length+(if ([]:List Keyword).isEmpty then 0 else 1)<30))=true:=by rfl)
  (cM:(p2.endLine==aZ.line)=true:=by rfl)
  (uh:swapsWith (.Call (.Attribute (.Name x p1) "extend" p2) [e] [] aZ) none pos.line X.env=pure false:=by rfl):
  SV X (.Expr (.Call (.Attribute (.Name x p1) "extend" p2) [e] [] aZ) pos) (jY i fa):=b1v ha (h.ix hN) (h.qu hv) hd dC hs cN jv cM uh
theorem Fx.pop(h:Fx X N sc k full)(i j:Nat){x y:Str}(hN:N[i]?=some x:=by rfl)(hx:Loc sc x:=by first | exact cX rfl | exact bP rfl)(HH:N[j]?=some y:=by rfl)(hv:jI sc y:=by first | exact cX rfl | exact bP (cX rfl) | exact bP (bP rfl))
  (hd:(y==("__debug__":Str))=false:=by rfl)(dC:(y==("__classdict__":Str))=false:=by rfl)
  (cN:attributeBase (.Name y p1) "pop" X.env (eval (.Name y p1) X.env)=eval (.Name y p1) X.env:=by rfl)
  (cM:(p2.endLine==aZ.line)=true:=by rfl)
  (hs:swapsWith (.Call (.Attribute (.Name y p1) "pop" p2) [] [] aZ) (some (.Name x pos')) pos.line X.env=pure false:=by rfl)(hf:full=true\/sc.names.lookup x=some .local:=by first | exact cX rfl | exact bP rfl):
  SV X (.Assign [.Name x pos'] (.Call (.Attribute (.Name y p1) "pop" p2) [] [] aZ) pos) (lU i j):=b1s h.ua (h.ix hN) (h.loc hx) (h.ix HH) (h.qu hv) hd dC cN cM hs (h.tT hf)
theorem Fx.item(h:Fx X N sc k full)(i:Nat){x:Str}(ha:EV X e fa)(hb:EV X b fb)(hN:N[i]?=some x:=by rfl)(hv:jI sc x:=by first | exact cX rfl | exact bP (cX rfl) | exact bP (bP rfl))(hd:(x==("__debug__":Str))=false:=by rfl)
  (dC:(x==("__classdict__":Str))=false:=by rfl)
  (js:∀v,assign (.Subscript (.Name x p1) b p2) X.env v=(do
   let ov <-holding [v] (eval (.Name x p1) X.env)
   let iv <-holding [v,ov] (eval b X.env)
   standAt p2
   holding [v,ov,iv] (setItem ov iv v)
   release [v,ov,iv] []):=by intro _;rfl)
  (hs:swapsWithSole [.Subscript (.Name x p1) b p2] e pos.line X.env=pure false:=by rfl)(hw:swappedStores [.Subscript (.Name x p1) b p2] e X.env=pure none:=by rfl)
  (h1:(assignEach [.Subscript (.Name x p1) b p2] X.env).map (·.2)=[assign (.Subscript (.Name x p1) b p2) X.env]:=by rfl):
  SV X (.Assign [.Subscript (.Name x p1) b p2] e pos) (w6 i fa fb):=b5C ha hb (h.ix hN) (h.qu hv) hd dC js hs hw h1
end
theorem zc{us:List Value}(h:us.length=0):us=[]:=by
 exact Jo.mp h
theorem O1{us:List Value}(h:us.length=1):∃a0,us=[a0]:=by
 cases us with
 | nil=>cases h
 | cons a r =>
  have:=zc (us:=r) (by simpa using h)
  exact ⟨a,by rw [this]⟩
theorem Pe{us:List Value}(h:us.length=2):∃a0 a1,us=[a0,a1]:=by
 cases us with
 | nil=>cases h
 | cons a r =>
  have:=O1 (us:=r) (by simpa using h)
  obtain ⟨b0,e⟩:=this
  exact ⟨a,b0,by rw [e]⟩
theorem Pf{us:List Value}(h:us.length=3):∃a0 a1 a2,us=[a0,a1,a2]:=by
 cases us with
 | nil=>cases h
 | cons a r =>
  have:=Pe (us:=r) (by simpa using h)
  obtain ⟨b0,b1,e⟩:=this
  exact ⟨a,b0,b1,by rw [e]⟩
theorem zb{us:List Value}(h:us.length=4):∃a0 a1 a2 a3,us=[a0,a1,a2,a3]:=by
 cases us with
 | nil=>cases h
 | cons a r =>
  have:=Pf (us:=r) (by simpa using h)
  obtain ⟨b0,b1,b2,e⟩:=this
  exact ⟨a,b0,b1,b2,by rw [e]⟩
section
variable {P:Program}{w:World}{K:aM}{mg:Str->Option Value}{base:Heap}
theorem HW{x qual:Str}{st:Stmt}{f:Addr}{fd:FuncData}{N ps:List Str}{k:Nat}{F:SF}(Fn:tL K x qual st f fd)(S:dv N ps (fQ st))
  (dO:∀X:Cx,X.prog=P->X.w=w->X.K=K->X.mg=mg->X.base=base->Fx X N (fQ st) k->mY X (iL st) F):cH P w K mg base jc (k+1) f fd ps (m7 K ps.length (aH F N.length)):=
 HX Fn S λdj A outer s H E hr=>dO _ rfl rfl rfl rfl rfl ⟨rfl,rfl,rfl,λ_ _=>rfl,N5,hr,S.nd,λ_=>⟨rfl,rfl,rfl⟩⟩
end
def Oz(P:Program)(w:World)(K:aM)(mg:Str->Option Value)(base:Heap)(x:Str)(st:Stmt)(ps:List Str)(j:Nat)(φ:List D->Option Sl):Prop:=∃f fd,Def K mg x st ps f fd/\cH P w K mg base jc j f fd ps (m7 K ps.length φ)
inductive Sx:Cx->Program->World->aM->(Str->Option Value)->Heap->Prop
 | mk (X:Cx):Sx X X.prog X.w X.K X.mg X.base
theorem Aq{P:Program}{w:World}{K:aM}{mg:Str->Option Value}{base:Heap}{x:Str}{st:Stmt}{f:Addr}{fd:FuncData}{N ps:List Str}{k:Nat}{F:SF}(D':Def K mg x st ps f fd)
  (dO:∀X:Cx,Sx X P w K mg base->Fx X N (fQ st) k->mY X (iL st) F)(S:dv N ps (fQ st):=by exact ⟨rfl,rfl,rfl,by decide +kernel,rfl,by decide +kernel,by decide +kernel⟩):cH P w K mg base jc (k+1) f fd ps (m7 K ps.length (aH F N.length)):=
 HW D'.fn S λX e1 e2 e3 e4 e5=>by subst e1 e2 e3 e4 e5;exact dO X (.mk X)
theorem aK{P:Program}{w:World}{K:aM}{mg:Str->Option Value}{base:Heap}{x:Str}{st:Stmt}{f:Addr}{fd:FuncData}{N ps:List Str}{k:Nat}{F:SF}(D':Def K mg x st ps f fd)
  (dO:∀X:Cx,Sx X P w K mg base->Fx X N (fQ st) k->mY X (iL st) F)(S:dv N ps (fQ st):=by exact ⟨rfl,rfl,rfl,by decide +kernel,rfl,by decide +kernel,by decide +kernel⟩):Oz P w K mg base x st ps (k+1) (aH F N.length):=
 ⟨f,fd,D',Aq D' dO S⟩
theorem nh{X X':Cx}{x:Str}{st:Stmt}{ps:List Str}{j:Nat}{φ:List D->Option Sl}(e1:X'.prog=X.prog)(e2:X'.w=X.w)(e3:X'.K=X.K)(e4:X'.mg=X.mg)(e5:X'.base=X.base)(O:Oz X.prog X.w X.K X.mg X.base x st ps j φ):Oz X'.prog X'.w X'.K X'.mg X'.base x st ps j φ:=by
 rw [e1,e2,e3,e4,e5];exact O
theorem Fx.cl{X:Cx}{N:List Str}{sc:Scope}{k j:Nat}{full:Bool}{x:Str}{st:Stmt}{ps:List Str}{φ:List D->Option Sl}{e:Expr}{es:List Expr}{fs:En->Option (List D)}{p pos:Pos}(h:Fx X N sc k full)(O:Oz X.prog X.w X.K X.mg X.base x st ps j φ)(ha:AV X (e::es) fs)(hj:j<=k:=by decide)(hg:sc.names.lookup x=some .globalImplicit:=by rfl)(j9:(x==("__debug__":Str))=false:=by decide)(he:starEach (e::es) X.env=(false,eval e X.env)::starEach es X.env:=by rfl)(dB:(backTo pos (starEach es X.env)).any (·.1)=false:=by rfl):
  EV X (.Call (.Name x p) (e::es) [] pos) (aA ps.length φ fs):=by
 obtain ⟨f,fd,D',F⟩:=O
 exact b6u F (h.room.mono hj) (h.g hg) D'.m D'.fn.kp D'.bd ha j9 he dB
structure FI(K:aM)(n:Str)(t:Stmt)(f:Addr)(od an:Option Addr)(sl:Array (Option Value))(oc kV dc pm cd ct:Value):Prop where
 a:me K mainGlobals n=some (some (.ref f))
 l:K.lookup f=some ⟨oc,od,.func (jQ n n (lM t) (iL t) (fQ t) .none kV dc pm an cd ct),sl⟩
 c:Dz K cd n=true
 k:AI K (.ref f)=true
section
variable {K:aM}{mg:Str->Option Value}{h:Heap}{n:Str}{t:Stmt}{f:Addr}{od an:Option Addr}{sl:Array (Option Value)}{oc kV dc pm cd ct:Value}{ps:List Str}
theorem CF(X:K.In h)(G:h.Ns mainGlobals mg)(i:FI K n t f od an sl oc kV dc pm cd ct)(hb:∀(kV doc pm:Value) (an:Option Addr) (dj ct:Value) (us:List Value),us.length=ps.length->bindArgs (jQ n n (lM t) (iL t) (fQ t) .none kV doc pm an dj ct) ⟨us,[]⟩=pure (ps.zip us)):Def K mg n t ps f (jQ n n (lM t) (iL t) (fQ t) .none kV dc pm an cd ct):=
 ⟨Py i.l i.c i.k,(Py i.l i.c i.k).binds hb,IL X G i.a⟩
theorem bA(X:K.In h)(G:h.Ns mainGlobals mg)(i:FI K n t f od an sl oc kV dc pm cd ct)(hb:∀(kV doc pm:Value) (an:Option Addr) (dj ct a0:Value),bindArgs (jQ n n (lM t) (iL t) (fQ t) .none kV doc pm an dj ct) ⟨[a0],[]⟩=pure (ps.zip [a0]):=by intros;rfl)(hl:ps.length=1:=by rfl):Def K mg n t ps f (jQ n n (lM t) (iL t) (fQ t) .none kV dc pm an cd ct):=
 CF X G i λ_ _ _ _ _ _ us hu=>by obtain ⟨_,rfl⟩:=O1 (hu.trans hl);exact hb ..
theorem df(X:K.In h)(G:h.Ns mainGlobals mg)(i:FI K n t f od an sl oc kV dc pm cd ct)(hb:∀(kV doc pm:Value) (an:Option Addr) (dj ct a0 a1:Value),bindArgs (jQ n n (lM t) (iL t) (fQ t) .none kV doc pm an dj ct) ⟨[a0,a1],[]⟩=pure (ps.zip [a0,a1]):=by intros;rfl)(hl:ps.length=2:=by rfl):Def K mg n t ps f (jQ n n (lM t) (iL t) (fQ t) .none kV dc pm an cd ct):=
 CF X G i λ_ _ _ _ _ _ us hu=>by obtain ⟨_,_,rfl⟩:=Pe (hu.trans hl);exact hb ..
theorem ni(X:K.In h)(G:h.Ns mainGlobals mg)(i:FI K n t f od an sl oc kV dc pm cd ct)(hb:∀(kV doc pm:Value) (an:Option Addr) (dj ct a0 a1 a2:Value),bindArgs (jQ n n (lM t) (iL t) (fQ t) .none kV doc pm an dj ct) ⟨[a0,a1,a2],[]⟩=pure (ps.zip [a0,a1,a2]):=by intros;rfl)(hl:ps.length=3:=by rfl):Def K mg n t ps f (jQ n n (lM t) (iL t) (fQ t) .none kV dc pm an cd ct):=
 CF X G i λ_ _ _ _ _ _ us hu=>by obtain ⟨_,_,_,rfl⟩:=Pf (hu.trans hl);exact hb ..
theorem qD(X:K.In h)(G:h.Ns mainGlobals mg)(i:FI K n t f od an sl oc kV dc pm cd ct)(hb:∀(kV doc pm:Value) (an:Option Addr) (dj ct a0 a1 a2 a3:Value),bindArgs (jQ n n (lM t) (iL t) (fQ t) .none kV doc pm an dj ct) ⟨[a0,a1,a2,a3],[]⟩=pure (ps.zip [a0,a1,a2,a3]):=by intros;rfl)(hl:ps.length=4:=by rfl):Def K mg n t ps f (jQ n n (lM t) (iL t) (fQ t) .none kV dc pm an cd ct):=
 CF X G i λ_ _ _ _ _ _ us hu=>by obtain ⟨_,_,_,_,rfl⟩:=zb (hu.trans hl);exact hb ..
end
end DL
namespace DL
open PySem L2
theorem b8p(i j:Int):bL (.int i) (.int j)=some (.sh (.int (i-j))):=rfl
end DL
namespace DL
open PySem PySem.Spec PyProof.Rows L2
def xh(K:aM)(O:Addr->Prop)(J:It)(H:Hp)(ds:List D):Prop:=
 ∀(O':Addr->Prop) (H2:Hp),(∀q u,H q=some u->¬O q->H2 q=some u/\¬O' q)->(∀q,O' q->H2 q≠none) ->
  ∀i:Nat,(∀d,ds[i]?=some d->J.go i H2/\∀x H3,J.tP i H2 x H3->au H2 H3/\Is K O' H3 x d)/\(ds.length<=i->J.stop i H2)
def IV(X:Cx)(tg it:Expr)(f:En->Option (List D)):Prop:=
 ∃wi:TI,PI X tg it wi/\∀(O:Addr->Prop) (B:Hp) (σ:L2.St) (H:Hp) (env:En) (ds:List D) (R:It->Hp->Prop),Rel X.K O B σ H env->f env=some ds ->
  (∀J H',au H H'->xh X.K (OO O σ env) J H' ds->R J H')->wi σ H R
theorem Kc{K:aM}{O:Addr->Prop}{H H2:Hp}{k:Bool}{p:Addr}{xs:List V}(kp:∀q u,H q=some u->¬O q->H2 q=some u)(h:Sq K H k p xs)(hp:¬O p):Sq K H2 k p xs:=by
 cases k with
 | true =>
  rcases h with (h | ⟨o,h⟩) | h
  .exact .inl (.inl (kp _ _ h hp))
  .exact .inl (.inr ⟨o,kp _ _ h hp⟩)
  .exact .inr h
 | false =>
  rcases h with (h | ⟨o,h⟩) | h
  .exact .inl (.inl (kp _ _ h hp))
  .exact .inl (.inr ⟨o,kp _ _ h hp⟩)
  .exact .inr h
noncomputable def fW(f:En->Option Sl):En->Option (List D):=λenv=>(f env).bind λr=>(eO r.d).map (·.2)
section
variable {X:Cx}{tg it:Expr}{fa:En->Option Sl}
theorem qc(hi:EV X it fa):IV X tg it (fW fa):=by
 obtain ⟨ti,pi,ki⟩:=hi
 refine ⟨_,P7 pi,λO B σ H env ds R Rl e q=>?_⟩
 obtain ⟨r,e1,e2⟩:=bind_some e
 obtain ⟨⟨k,gc⟩,e4,e5⟩:=map_some e2
 cases e5
 refine ki O B σ H env r _ Rl e1 λv H1 s1 r1=>?_
 obtain ⟨p,xs,rfl,h1,h2,h3⟩:=(r1.is λq=>Rl.oo).m8 e4
 refine ⟨p,rfl,?_⟩
 have key:∀(O':Addr->Prop) (H2:Hp),(∀q u,H1 q=some u->¬OO O σ env q->H2 q=some u/\¬O' q)->Sq X.K H2 k p xs/\aN X.K O' H2 xs gc:=λO' H2 kp=>by
  refine ⟨?_,h2.map (λq hq hn=>?_) λq u e n=>(kp q u e n).1⟩
  .rcases h3 with h3 | h3
   .exact Kc (λq u e n=>(kp q u e n).1) h1 h3
   .exact h3 H2
  .cases e:H1 q with
   | none=>exact (hq e).elim
   | some u=>exact (kp q u e hn).2
 cases k with
 | true =>
  refine .inl ⟨⟨xs,h1⟩,q _ H1 s1 λO' H2 kp hO i=>⟨λd hd=>?_,λhl=>?_⟩⟩
  .obtain ⟨hq,hs⟩:=key O' H2 kp
   obtain ⟨x,hx,oZ⟩:=hs.get hd
   refine ⟨⟨xs,x,hq,hx⟩,λy H3 hy=>?_⟩
   obtain ⟨rfl,hy⟩:=hy
   have:=hy xs hq
   rw [hx] at this
   cases this
   exact ⟨au.refl _,oZ⟩
  .obtain ⟨hq,hs⟩:=key O' H2 kp
   exact ⟨xs,hq,by rw [hs.length];exact hl⟩
 | false =>
  refine .inr ⟨⟨xs,h1⟩,q _ H1 s1 λO' H2 kp hO i=>⟨λd hd=>?_,λhl=>?_⟩⟩
  .obtain ⟨hq,hs⟩:=key O' H2 kp
   obtain ⟨x,hx,oZ⟩:=hs.get hd
   refine ⟨⟨xs,x,hq,hx⟩,λy H3 hy=>?_⟩
   obtain ⟨rfl,hy⟩:=hy
   have:=hy xs hq
   rw [hx] at this
   cases this
   exact ⟨au.refl _,oZ⟩
  .obtain ⟨hq,hs⟩:=key O' H2 kp
   exact ⟨xs,hq,by rw [hs.length];exact hl⟩
theorem b3s{K:aM}{O:Addr->Prop}{H:Hp}(lo:Int)(n:Nat):xh K O (nW lo n) H (fx lo n):=λO' H2 _ _ i=>by
 refine ⟨λd hd=>?_,λhl=>show n<=i by simpa [fx] using hl⟩
 unfold fx at hd
 rw [uX] at hd
 obtain ⟨k,hk,rfl⟩:=map_some hd
 obtain ⟨hi,rfl⟩:=lC.mp hk
 rw [List.length_range] at hi
 refine ⟨hi,λx H3 hy=>?_⟩
 obtain ⟨rfl,rfl⟩:=hy
 rw [List.getElem_range]
 exact ⟨au.refl _,Is.int _⟩
noncomputable def kf(h:List D->Option (List D))(f:En->Option (List D)):En->Option (List D):=λenv=>(f env).bind h
noncomputable def Ec(f:En->Option (List D))(g:GF)(F:SF):SF:=λenv=>(f env).bind λds=>forL g F ds env
theorem Qq(hp:PassesOwn (model X.prog X.w) X.A X.env X.xe)(hc:X.calm=true)(hi:IV X tg it fi)(hg:GV X tg g)(hb:mY X body F)
  (hs:∀x,foldedSetIterable it X.env x=pure x:=by intro _;rfl):SV X (.For tg it body [] pos) (Ec fi g F):=by
 obtain ⟨wi,pi,ki⟩:=hi
 obtain ⟨qv,pg,kg⟩:=hg
 obtain ⟨tb,pb,kb⟩:=hb
 refine ⟨_,JY hp hc pi pg pb hs,λO B σ H env fl ak D R e q=>?_⟩
 obtain ⟨ds,e1,e2⟩:=bind_some e
 refine ki O B σ H env ds _ R e1 λJ H1 s1 wk=>?_
 have q':dh X.K O B σ H1 env D fl ak:=q.from (Gd.refl s1)
 refine ⟨λi m cJ H2=>m=ds.length-i/\i<=ds.length/\Left X.K O B σ H1 env g F ds fl ak i cJ H2,⟨ds.length,by simp,nG _,⟨env,R.grow s1,Gd.refl (au.refl _),e2⟩⟩,?_⟩
 rintro i m cJ H2 ⟨rfl,hi,L⟩
 obtain ⟨bu,R2,gd,ee⟩:=id L
 have w:=wk (OO O cJ bu) H2 (λa u ea na=>by
  obtain ⟨h1,h2⟩:=gd a u ea λz=>na (.inr z)
  exact ⟨h1,λz=>z.elim (λz=>na (.inl z)) h2⟩) (λa=>R2.oo) i
 by_cases be:i<ds.length
 .obtain ⟨go,yl⟩:=w.1 ds[i] (by simp [be])
  refine .inr ⟨go,Left X.K O B σ H1 env g F ds fl ak (i+1),λaJ H' p'=>⟨ds.length-(i+1),by ext be,rfl,be,p'⟩,λx H3 hy=>?_⟩
  obtain ⟨s3,hx⟩:=yl x H3 hy
  have zZ:ds.drop i=ds[i]::ds.drop (i+1):=mT be
  rw [zZ,forL] at ee
  cases Hu:g ds[i] bu with
  | none=>rw [Hu] at ee;cases ee
  | some l' =>
   rw [Hu] at ee
   refine kg O B cJ H3 bu l' x ds[i] _ (R2.grow s3) hx Hu λS5 H4 R4 g4=>?_
   dsimp only at ee
   cases hF:F l' with
   | none=>rw [hF] at ee;cases ee
   | some y =>
    obtain ⟨f2,fX⟩:=y
    rw [hF] at ee
    have HN:=gd.trans ((Gd.refl s3).trans g4)
    refine kb O B S5 H4 l' f2 fX _ R4 hF ?_
    cases f2 with
    | nx=>exact λFK H5 R5 g5=>⟨fX,R5,HN.trans g5,ee⟩
    | ct=>exact λFK H5 R5 g5=>⟨fX,R5,HN.trans g5,ee⟩
    | bk=>cases ee;exact λFK H5 R5 g5=>q' FK H5 R5 (HN.trans g5)
    | rt r=>cases ee;exact q'
 .exact .inl ⟨w.2 (by ext be),EY (by ext be) q' L⟩
end
noncomputable def rl(bZ sc:Scope):Scope:=
 { bZ with names:=bZ.names.map λ(n,k)=>if (k==.free&&sc.kind==.function&&sc.names.lookup n==some .cell) then (n,.cell) else (n,k) }
theorem K'{sc:Scope}:∀{names:List (Str×NameKind)} {x:Str} {k:NameKind},names.lookup x=some k ->
  (names.map λ(n,k)=>if (k==nH&&sc.kind==.function&&sc.names.lookup n==some .cell) then (n,uT) else (n,k)).lookup x=some (if (k==nH&&sc.kind==.function&&sc.names.lookup x==some .cell) then uT else k)
 | [],_,_,h=>by simp at h
 | (n,k')::r,x,k,h=>by
  have ih:=@K' sc r x k
  show List.lookup x ((if (k'==nH&&sc.kind==.function&&sc.names.lookup n==some .cell)=true then (n,uT) else (n,k'))::_)=_
  cases hx:x==n with
  | true =>
   simp only [nE,hx] at h
   cases h
   have e:x=n:=by simpa using hx
   subst e
   split<;>simp [nE]
  | false =>
   simp only [nE,hx] at h
   split
   .simp only [nE,hx];exact ih h
   .simp only [nE,hx];exact ih h
theorem b01{sc:Scope}:∀{names:List (Str×NameKind)} {x:Str} {k:NameKind},
  (names.map λ(n,k)=>if (k==nH&&sc.kind==.function&&sc.names.lookup n==some .cell) then (n,uT) else (n,k)).lookup x=some k->∃k',names.lookup x=some k'/\k=if (k'==nH&&sc.kind==.function&&sc.names.lookup x==some .cell) then uT else k'
 | names,x,k,h=>by
  cases e:names.lookup x with
  | some k'=>have:=K' (sc:=sc) e;rw [h] at this;exact ⟨k',rfl,cG this⟩
  | none =>
   exfalso
   induction names with
   | nil=>simp at h
   | cons y r ih =>
    obtain ⟨n,k'⟩:=y
    have h':List.lookup x ((if (k'==nH&&sc.kind==.function&&sc.names.lookup n==some .cell)=true then (n,uT) else (n,k'))::(r.map λ(n,k)=>if (k==nH&&sc.kind==.function&&sc.names.lookup n==some .cell) then (n,uT) else (n,k)))=some k:=h
    cases hx:x==n with
    | true=>simp [nE,hx] at e
    | false =>
     simp only [nE,hx] at e
     apply ih _ e
     split at h'
     .simpa only [nE,hx] using h'
     .simpa only [nE,hx] using h'
noncomputable def eS(cells:List (Str×Addr)):List (Str×NameKind)->List (Str×Addr)->List (Str×Addr)
 | [],acc=>acc
 | (n,k)::r,acc=>eS cells r (if k==.free then (n,(cells.lookup n).getD 0)::acc else acc)
theorem Lw:∀(names:List (Str×NameKind)) (acc:List (Str×Addr)),(∀y∈names,y.2=.free->∃c,env.cells.lookup y.1=some c) ->
  (forIn names acc λ(x:Str×NameKind) r=>(if (x.2==.free)=true then do let a <-cellOf env x.1;pure (p6 ((x.1,a)::r)) else pure (p6 r):Sem (ForInStep (List (Str×Addr)))))=pure (eS env.cells names acc)
 | [],acc,_=>rfl
 | (n,k)::r,acc,h=>by
  rw [DE]
  have hr:∀y∈r,y.2=.free->∃c,env.cells.lookup y.1=some c:=λy hy=>h y (a9 _ hy)
  cases hk:k==nH with
  | true =>
   have ek:k=.free:=by simpa using hk
   obtain ⟨c,hc⟩:=h (n,k) aR ek
   replace hc:env.cells.lookup n=some c:=hc
   have uw:cellOf env n=pure c:=by unfold cellOf;rw [hc]
   simp only [if_true]
   rw [uw]
   simp only [pure_bind]
   rw [Lw r _ hr]
   conv=>rhs;unfold eS
   rw [hk,hc]
   rfl
  | false =>
   simp only [uY,if_false,pure_bind]
   rw [Lw r _ hr]
   conv=>rhs;unfold eS
   rw [hk]
   rfl
theorem a78(h:∀y∈sc.names,y.2=.free->∃c,env.cells.lookup y.1=some c):closureFor sc env=pure (eS env.cells sc.names []):=by
 unfold closureFor
 rw [<-Lw sc.names [] h]
 show (forIn sc.names [] _ >>= λcs=>pure cs)=_
 rw [bind_pure]
theorem QY:∀(names:List (Str×NameKind)) (acc:List (Str×Addr)) {c:Addr},(eS cells names acc).lookup x=some c->acc.lookup x=some c\/((x,nH)∈names/\c=(cells.lookup x).getD 0)
 | [],acc,c,h=>.inl h
 | (n,k)::r,acc,c,h=>by
  unfold eS at h
  rcases QY r _ h with h1 | ⟨h,e⟩
  .clear h
   have h:=h1
   clear h1
   cases hk:k==nH with
   | false=>rw [hk] at h;exact .inl (by simpa using h)
   | true =>
    rw [hk] at h
    simp only [if_true] at h
    have ek:k=.free:=by simpa using hk
    cases hx:x==n with
    | true =>
     simp only [nE,hx] at h
     have e:x=n:=by simpa using hx
     subst e ek
     exact .inr ⟨aR,(cG h).symm⟩
    | false =>
     simp only [nE,hx] at h
     exact .inl h
  .exact .inr ⟨a9 _ h,e⟩
theorem Rr:∀(names:List (Str×NameKind)) (acc:List (Str×Addr)),((∃c,acc.lookup x=some c)\/(x,nH)∈names)->∃c,(eS cells names acc).lookup x=some c
 | [],acc,h=>h.elim id λz=>nomatch z
 | (n,k)::r,acc,h=>by
  unfold eS
  refine Rr r _ ?_
  cases hk:k==nH with
  | false =>
   rcases h with h | h
   .exact .inl (by simpa using h)
   .rcases br.mp h with e | h
    .cases e;simp at hk
    .exact .inr h
  | true =>
   simp only [if_true]
   cases hx:x==n with
   | true=>exact .inl ⟨_,by simp only [nE,hx];rfl⟩
   | false =>
    rcases h with ⟨c,h⟩ | h
    .exact .inl ⟨c,by simp only [nE,hx];exact h⟩
    .rcases br.mp h with e | h
     .cases e;simp at hx
     .exact .inr h
structure cI(N:List Str)(sc:Scope)(N':List Str)(caps:List Nat)(nt:Nat)(bZ:Scope):Prop where
 kind:bZ.kind=.function
 loc:∀y∈bZ.names,y.2=.local->bZ.names.lookup y.1=some .local
 oT:∀y∈bZ.names,y.2≠.cell
 free:∀y∈bZ.names,y.2=.free->sc.names.lookup y.1=some .cell\/sc.names.lookup y.1=some .free
 nd:N'.Nodup
 len:N'.length=nt+caps.length
 cap:caps.map (λi=>N[i]?)=(N'.drop nt).map some
 fr:∀x∈N'.drop nt,bZ.names.lookup x=some .free
theorem LY{names:List (Str×NameKind)}{x:Str}(h:names.lookup x=some k):(x,k)∈names:=wZ h
noncomputable def iG:List Nat->En->Option En
 | [],_=>some []
 | i::is,env=>match env[i]? with
  | some (.sh d)=>(iG is env).map (Sl.sh d::·)
  | _=>none
noncomputable def ot(g:GF)(fc:En->Option Bool)(fe:En->Option Sl):List D->En->Option (List D)
 | [],_=>some []
 | d::ds,e=>(g d e).bind λe1=>(fc e1).bind λb=>if b=true then (fe e1).bind λr=>(ot g fc fe ds e1).bind λrs=>some (r.d::rs) else ot g fc fe ds e1
noncomputable def il(fi:En->Option (List D))(caps:List Nat)(nt:Nat)(g:GF)(fc:En->Option Bool)(fe:En->Option Sl):En->Option Sl:=λenv =>
 (fi env).bind λds=>(iG caps env).bind λcs=>if ds.length<=16777216 then (ot g fc fe ds (iU nt Sl.no++cs)).map Sl.ow else none
noncomputable def dD:List Nat->L2.St->L2.St
 | [],_=>[]
 | i::is,σ=>(σ[i]?).getD none::dD is σ
theorem Qg{K:aM}{O:Addr->Prop}{B:Hp}{σ:L2.St}{H:Hp}{env:En}(R:Rel K O B σ H env):∀{caps:List Nat} {cs:En},iG caps env=some cs->cs.length=caps.length/\(dD caps σ).length=caps.length /\
  ∀(j:Nat) (s:Sl),cs[j]?=some s->∃(d:D) (v:V) (i:Nat),s=Sl.sh d/\(dD caps σ)[j]?=some (some v)/\Is K (OO O σ env) H v d/\caps[j]?=some i/\σ[i]?=some (some v)
 | [],cs,e=>by cases e;exact ⟨rfl,rfl,λj s h=>by simp at h⟩
 | i::is,cs,e=>by
  unfold iG at e
  cases h:env[i]? with
  | none=>rw [h] at e;cases e
  | some s =>
   rw [h] at e
   cases s with
   | no=>cases e
   | ow ds=>cases e
   | dw ds=>cases e
   | sh d =>
    obtain ⟨cs',e1,rfl⟩:=map_some (show (iG is env).map (Sl.sh d::·)=some cs from e)
    obtain ⟨l1,l2,ih⟩:=Qg R e1
    obtain ⟨v,hv,hi⟩:=R.sh i d h
    refine ⟨by simp [l1],by simp [dD,l2],λj s hj=>?_⟩
    cases j with
    | zero=>simp at hj;subst hj;exact ⟨d,v,i,rfl,by simp [dD,hv],hi,rfl,hv⟩
    | succ j =>
     obtain ⟨d',v',i',a1,a2,a3,a4,a5⟩:=ih j s (by simpa using hj)
     exact ⟨d',v',i',a1,by simpa [dD] using a2,a3,by simpa using a4,a5⟩
def Cq(X:Cx)(ifs:List Expr)(f:En->Option Bool):Prop:=
 ∃t:TT,(∀(pins:List (Addr×Obj)) (s:Shared) (σ:L2.St) (H:Hp) (Q:Bool->Hp->Prop),Inv X pins σ H s->t σ H Q ->
   wpAny (model X.prog X.w) X.A (forIn ifs true λc r=>if r=true then do let ok <-isTrue c X.env (eval c X.env);pure (p6 ok) else pure (p6 r)) (TP X pins σ Q) X.xe s) /\
  ∀(O:Addr->Prop) (B:Hp) (σ:L2.St) (H:Hp) (env:En) (b:Bool) (Q:Bool->Hp->Prop),Rel X.K O B σ H env->f env=some b->(∀H',au H H'->Q b H')->t σ H Q
noncomputable def nL:En->Option Bool:=λ_=>some true
theorem pE:Cq X [] nL:=⟨λ_ H Q=>Q true H,λpins s σ H Q I h=>wpAny_tests_nil ⟨H,I,h⟩,λO B σ H env b Q R e q=>by cases e;exact q H (au.refl _)⟩
theorem b8n(h:TV X c f):Cq X [c] f:=by
 obtain ⟨t,p,k⟩:=h
 exact ⟨t,λpins s σ H Q I h=>wpAny_tests_one (p pins s σ H Q I h),k⟩
section
variable {prog:Program}{w:World}{A:Around}{R:Result->Shared->Prop}{s:Shared}
theorem a9O{elt target iter:Expr}{ifs:List Expr}{scope:Scope}{pos:Pos}{it acc:Value}{env:Env}(I:Nat->Shared->Prop){N:Value->Shared->Prop}(hN:∀x s',N x s'->False)
  (turn:∀n s,I n s->wpAny (model prog w) A (pyNext it) (λr aO=>match r with
   | none=>R (.ok .next) aO
   | some v=>wpAny (model prog w) A (letOwnedTupleGo target it v) (λ_ rX=>wpAny (model prog w) A (assign target env v) (λ_ jW =>
     wpAny (model prog w) A (forIn ifs true λc r=>if r=true then do let ok <-isTrue c env (eval c env);pure (p6 ok) else pure (p6 r)) (λok oI =>
      if ok=true then wpAny (model prog w) A (eval elt env) (λx yo =>
       wpAny (model prog w) A (call (.builtin "list.append") [acc,x]) (λ_ yn=>∃m,m<n/\I m yn) N yo) N oI
      else ∃m,m<n/\I m oI) N jW) N rX) N aO) N s)
  (n:Nat)(h:I n s):
  codeAny (model prog w) A (.compLoop (.ListComp elt [⟨target,iter,ifs,0⟩] scope pos) 0 it acc env) R s:=by
 refine codeAny_loop rfl I (λn s hI=>?_) n h
 show wpAny _ A ((compTurn (.ListComp elt [⟨target,iter,ifs,0⟩] scope pos) 0 it acc env).onRaise (λx=>do noteFrame x env;theTreesLotGoes x)) _ _ s
 refine wpAny_noted ?_
 rw [compTurn_list]
 have no:∀{P:Value->Shared->Prop} (x:Value) (s':Shared),N x s'->P x s':=λx s' z=>(hN x s' z).elim
 refine aB (IE (aB (mR (turn n s hI) (λr aO h₁=>?_) no)))
 cases r with
 | none=>exact bI h₁
 | some v =>
  refine aB (mR h₁ (λ_ rX zw=>?_) no)
  refine aB (mR zw (λ_ jW GZ=>aB (mR GZ (λok oI zu=>?_) no)) no)
  cases ok with
  | false=>exact bI ⟨rfl,zu⟩
  | true =>
   exact aB (aB (mR zu (λx yo GY=>aB (mR GY (λ_ yn GX=>bI (bI ⟨rfl,GX⟩)) no)) no))
end
section
variable {X:Cx}{N N':List Str}{sc bZ:Scope}{k:Nat}{full:Bool}{elt iter tg:Expr}{ifs:List Expr}{pos:Pos}{fi:En->Option (List D)}{caps:List Nat}{nt:Nat}{g:GF}{fc:En->Option Bool}{fe:En->Option Sl}
noncomputable def sI(X:Cx)(N':List Str)(bZ:Scope)(ex:List Addr)(s:Shared)(H:Hp):Cx where
 prog:=X.prog
 w:=X.w
 K:=X.K
 mg:=X.mg
 base:=X.base
 A:=X.A
 N:=N'
 cK:=s
 pR:=H
 env:=compEnvC bZ (eS X.env.cells bZ.names []) s.heap.objs.size X.env
 outer:=X.stack
 stack:=X.stack
 ex:=ex
 fn:=λ_=>false
 calm:=true
 pn:=[]
 xe:=λ_ _=>False
theorem sZ(C:cI N sc N' caps nt bZ)(n0:X.env.scope=sc){pins:List (Addr×Obj)}{σ:L2.St}{H:Hp}{s:Shared}(I:Inv X pins σ H s){x:Str}{c:Addr}(h:(eS X.env.cells bZ.names []).lookup x=some c):X.env.cells.lookup x=some c:=by
 rcases QY _ _ h with h | ⟨h,e⟩
 .simp at h
 .obtain ⟨c',sD⟩:=I.ok.has x (by
   show X.env.scope.names.lookup x=_\/X.env.scope.names.lookup x=_
   rw [n0]
   exact C.free _ h rfl)
  rw [sD] at e
  rw [e];exact sD
theorem Ph(h:bZ.names.lookup x=some .free):∃c,(eS X.env.cells bZ.names []).lookup x=some c:=Rr _ _ (.inr (LY h))
theorem b4v(C:cI N sc N' caps nt bZ)(n0:X.env.scope=sc)(hc:X.calm=true){pins:List (Addr×Obj)}{σ:L2.St}{H:Hp}{s s3:Shared}{fp:List Addr}(I:Inv X pins σ H s)(I3:Inv X pins σ H s3)
  (hf:∀b∈fp,cV X pins H b)(zV:∀b∈fp,∃o,s3.heap.get? b=some o)(hs:s3.heap.objs.size=s.heap.objs.size+1):(sI X N' bZ (s.heap.objs.size::fp) s3 H).Ok:=by
 have small:∀x c,X.env.cells.lookup x=some c->c<s.heap.objs.size:=λx c e=>by
  obtain ⟨v,z⟩:=I.cell x c e
  exact z.lt
 have kd:∀x,((sI X N' bZ (s.heap.objs.size::fp) s3 H).env.kindOf x=some .cell\/(sI X N' bZ (s.heap.objs.size::fp) s3 H).env.kindOf x=some .free)->bZ.names.lookup x=some .free:=λx h=>by
  have h':∃k,(rl bZ X.env.scope).names.lookup x=some k/\(k=.cell\/k=.free):=h.elim (λz=>⟨_,z,.inl rfl⟩) λz=>⟨_,z,.inr rfl⟩
  obtain ⟨k,e,hk⟩:=h'
  obtain ⟨k',e1,e2⟩:=b01 e
  have nc:k'≠.cell:=C.oT _ (LY e1)
  by_cases sC:(k'==nH&&X.env.scope.kind==.function&&X.env.scope.names.lookup x==some .cell)=true
  .have:k'=.free:=by
    have:=(AW _ _▸(AW _ _▸sC).1).1
    simpa using this
   rw [e1,this]
  .rw [if_neg sC] at e2
   subst e2
   rcases hk with rfl | rfl
   .exact (nc rfl).elim
   .exact e1
 refine ⟨I.ok.mod,C.kind,I.ok.glob,I.ok.blt,bp _,λx y c h1 h2=>I.ok.inj x y c (sZ C n0 I h1) (sZ C n0 I h2),λx h=>Ph (kd x h),λ_ _ (z:false=true) _=>(nomatch z),λ_=>I.ok.hd hc,I.ok.frames,.inl rfl,λb hb=>⟨?_,λx c e=>?_⟩,λb o e=>?_,?_,λb o e hb=>?_,λb hb su=>?_,I3.stack,λb hb=>I.mF b hb⟩
 .show b≠s3.heap.objs.size
  rcases br.mp hb with rfl | hb
  .rw [hs];exact ei (u4 _)
  .obtain ⟨o,e⟩:=zV b hb
   exact ei (bY e)
 .have e':=sZ C n0 I e
  rcases br.mp hb with rfl | hb
  .exact ei (small x c e')
  .exact (hf b hb).2.2.2.2.1 x c e'
 .exact I3.bs b o e
 .exact fm I.ok.q9 I3.sz
 .have lt:b<X.base.objs.size:=bY e
  have h0:=I.ok.q9
  have h1:=I.sz
  rcases br.mp hb with rfl | hb
  .exact absurd (jB lt (fm h0 h1)) (pZ _)
  .rcases (hf b hb).2.2.2.1 with z | z
   .exact I.ok.oR b o e z
   .exact absurd (jB lt (fm h0 z)) (pZ _)
 .rcases br.mp hb with rfl | hb
  .obtain ⟨_,o,ho,_⟩:=I.stack.mem su
   exact absurd (bY ho) (pZ _)
  .rcases br.mp (I.gE b su) with z | z
   .exact (hf b hb).2.1 z
   .exact (hf b hb).2.2.1 z
theorem EN{α:Type}{n j:Nat}{x y:α}{l:List α}(h:(iU n x++l)[j]?=some y):y=x\/(n<=j/\l[j-n]?=some y):=by
 by_cases hj:j<n
 .rw [uW (by simpa using hj),DN,if_pos hj] at h
  exact .inl (cG h).symm
 .rw [rg (by simpa using hj),DX] at h
  exact .inr ⟨by ext hj,h⟩
theorem b2R(C:cI N sc N' caps nt bZ)(n0:X.env.scope=sc)(hN:X.N=N)(hc:X.calm=true){pins:List (Addr×Obj)}{σ:L2.St}{H:Hp}{s s3 s4:Shared}{fp:List Addr}(I:Inv X pins σ H s)(I3:Inv X pins σ H s3)
  (hf:∀b∈fp,cV X pins H b)(zV:∀b∈fp,∃o,s3.heap.get? b=some o)(hs:s3.heap.objs.size=s.heap.objs.size+1)
  (uk:s4.os=s3.os)(hg:s4.gens=s3.gens)(hk:∀b o,s3.heap.get? b=some o->s4.heap.get? b=some o)(wj:s4.heap.Ns s3.heap.objs.size λ_=>none):
  Inv (sI X N' bZ (s.heap.objs.size::fp) s3 H) [] (iU nt none++dD caps σ) H s4:=by
 have sl:∀(caps:List Nat) (σ:L2.St),(dD caps σ).length=caps.length:=λcaps σ=>by
  induction caps with
  | nil=>rfl
  | cons i r ih=>simp [dD,ih]
 have sg:∀(caps:List Nat) (σ:L2.St) (j:Nat) (v:V),(dD caps σ)[j]?=some (some v)->∃i,caps[j]?=some i/\σ[i]?=some (some v):=λcaps σ=>by
  induction caps with
  | nil=>intro j v h;simp [dD] at h
  | cons i r ih =>
   intro j v h
   cases j with
   | zero =>
    have h':(σ[i]?).getD none=some v:=by simpa [dD] using h
    refine ⟨i,rfl,?_⟩
    cases e:σ[i]? with
    | none=>rw [e] at h';cases h'
    | some o=>rw [e] at h';exact congrArg some h'
   | succ j =>
    obtain ⟨i',e1,e2⟩:=ih j v (by simpa [dD] using h)
    exact ⟨i',by simpa using e1,e2⟩
 refine ⟨b4v C n0 hc I I3 hf zV hs,uk,by rw [hg];exact I3.bare,Un.kept hk,⟨_,wj,λi x v h1 h2 h3=>?_⟩,λx c e=>?_,I3.bt.fresh (bp _),λx c e=>I3.eL x c (sZ C n0 I e),λp hp=>absurd (show p∈([]:List (Addr×Obj)) from hp) (by simp),I3.bt.kept hk,?_⟩
 .have h1:N'[i]?=some x:=h1
  rcases EN h2 with z | ⟨hi,h2⟩
  .cases z
  .obtain ⟨i',e1,e2⟩:=sg caps σ _ v h2
   have hd:(N'.drop nt)[i-nt]?=some x:=by rw [List.getElem?_drop,Nat.add_sub_cancel' hi];exact h1
   have hm:=congrArg (λl=>l[i-nt]?) C.cap
   simp only [uX,e1,hd,wQ] at hm
   have Yt:X.N[i']?=some x:=by rw [hN];exact cG hm
   have Hv:=C.fr x (IT hd)
   have fA:=C.free _ (LY Hv) rfl
   obtain ⟨m,hn,hl⟩:=I3.loc
   obtain ⟨u,r,l⟩:=hl i' x v Yt e2 (by rw [n0];exact .inr fA)
   refine ⟨u,r,.inr ⟨?_,?_⟩⟩
   .have e:=K' (sc:=X.env.scope) Hv
    show (rl bZ X.env.scope).names.lookup x=_\/(rl bZ X.env.scope).names.lookup x=_
    have e':(rl bZ X.env.scope).names.lookup x=_:=e
    rw [e']
    split
    .exact .inl rfl
    .exact .inr rfl
   .rcases l with ⟨k,_⟩ | ⟨k,c,e,z⟩
    .exfalso
     have k:X.env.scope.names.lookup x=some .local:=k
     rw [n0] at k
     dsimp only at fA
     rw [k] at fA
     rcases fA with z | z<;>cases z
    .obtain ⟨c',sD⟩:=Ph (X:=X) Hv
     have:=sZ C n0 I sD
     rw [e] at this
     cases this
     exact ⟨c,sD,z.keeps hk⟩
 .obtain ⟨v,z⟩:=I3.cell x c (sZ C n0 I e)
  exact ⟨v,z.keeps hk⟩
 .show (iU nt none++dD caps σ).length=N'.length
  rw [cO,DX,sl,C.len]
theorem b3a(r:aC xs us):xs.length=us.length:=r.length
theorem b2Q{pins pl:List (Addr×Obj)}{σ aJ:L2.St}{H2 H':Hp}{s2 s3 s1:Shared}{fp:List Addr}{h':Heap}{xs:List V}{ys:List Value}(I2:Inv X pins σ H2 s2)(CP:s3.os=s2.os)(Ah:∀b o,s2.heap.get? b=some o->s3.heap.get? b=some o)
  (hsz:s3.heap.objs.size=s2.heap.objs.size+1)(f2:∀b∈fp,cV X pins H2 b)(I':Inv (sI X N' bZ (s2.heap.objs.size::fp) s3 H2) pl aJ H' s1)(sb:AO s3.heap.objs.size s1.heap h')
  (hn:H' s2.heap.objs.size=none)(hl:∃n,s1.heap.get? s2.heap.objs.size=some { cls:=.type "list",data:=.seq ys.toArray n })(hv:aC xs ys)(hz:xs.length<=sizeLine):
  Inv X pins σ (upd H' s2.heap.objs.size (.lst xs)) { s1 with heap:=h' }:=by
 have WN:∀b,b<s3.heap.objs.size->b≠s3.heap.objs.size:=λb h=>ei h
 have y7:∀b,b<s2.heap.objs.size->b≠s2.heap.objs.size:=λb h=>ei h
 have out:∀b o,s2.heap.get? b=some o->b∉fp->b∉s2.heap.objs.size::fp:=λb o e n z=>(br.mp z).elim (y7 b (bY e)) n
 have hC:H' s3.heap.objs.size=none:=I'.free
 have up:∀b o,s2.heap.get? b=some o->∀o',s1.heap.get? b=some o'->h'.get? b=some o':=λb o e o' e'=>(sb.2 b (WN b (bY (Ah b o e)))).trans e'
 have r6:∀b u,H' b=some u->b≠s2.heap.objs.size:=λb u e z=>by rw [z,hn] at e;cases e
 have u:=I'.base
 refine I2.AB (s':={ s1 with heap:=h' }) (ch:=fp) (I'.os.trans CP) ⟨λb o e n hb hx=>?_,λb o e n hb hx=>?_,λb o e n hx=>?_,λb o e hx=>?_,λb zs e=>?_,λb o v e=>?_,λb ps e=>?_⟩ (λb v e=>?_) I'.bare (λb hb=>?_)
 .exact up b o e o (u.keep b o (Ah b o e) n hb (out b o e hx))
 .obtain ⟨sl,e1⟩:=u.slot b o (Ah b o e) n hb (out b o e hx)
  exact ⟨sl,up b o e _ e1⟩
 .rw [c5 (y7 b (bY e))]
  exact u.free b o (Ah b o e) n (out b o e hx)
 .obtain ⟨o',e1⟩:=u.there b o (Ah b o e) (out b o e hx)
  exact ⟨o',up b o e _ e1⟩
 .have:=u.jl b zs e
  rw [c5 (r6 b _ this)];exact this
 .have:=u.iE b o v e
  rw [c5 (r6 b _ this)];exact this
 .obtain ⟨more,this⟩:=u.jm b ps e
  exact ⟨more,by rw [c5 (r6 b _ this)];exact this⟩
 .by_cases hb:b=s2.heap.objs.size
  .subst hb
   rw [pK] at e
   cases e
   obtain ⟨n,e1⟩:=hl
   exact ⟨hz,ys,n,hv,(sb.2 _ (by rw [hsz];exact ei (u4 _))).trans e1⟩
  .rw [c5 hb] at e
   refine (I'.bt b v e).jX (λc w hc q=>(sb.2 c ?_).trans q) (λc _ _ q=>by rw [c5 (r6 c _ q)];exact q) λc zs q=>by rw [c5 (r6 c _ q)];exact q
   rintro rfl
   rcases hc with z | z
   .rw [<-z,hC] at e;cases e
   .rw [hC] at z;cases z
 .obtain ⟨_,g1,_,g3,g4,g5⟩:=f2 b hb
  exact ⟨g3,g1,g4,g5⟩
theorem Rt(h:Fx X N sc k full)(C:cI N sc N' caps nt bZ){wi:TI}(pi:PI X tg iter wi)(ki:∀(O:Addr->Prop) (B:Hp) (σ:L2.St) (H:Hp) (env:En) (ds:List D) (R:It->Hp->Prop),Rel X.K O B σ H env->fi env=some ds->(∀J H',au H H'->xh X.K (OO O σ env) J H' ds->R J H')->wi σ H R)
  (hb:∀X':Cx,X'.prog=X.prog->X'.w=X.w->X'.K=X.K->X'.mg=X.mg->X'.base=X.base->Fx X' N' (rl bZ sc) k false->GV X' tg g/\Cq X' ifs fc/\EV X' elt fe)
  (su:∀x,foldedSetIterable iter X.env x=pure x){pins:List (Addr×Obj)}{s:Shared}{σ:L2.St}{H:Hp}(I:Inv X pins σ H s){O:Addr->Prop}{B:Hp}{env:En}{r:Sl}(R:Rel X.K O B σ H env)(e:il fi caps nt g fc fe env=some r)
  {use:Option (Value->Sem Unit)}{QQ:Value->Shared->Prop}
  (fin:∀(C0 p:Addr) (H':Hp) (s':Shared),(∃m,s'.heap.Ns C0 m)->cV X pins H' C0->(∀h',AO C0 s'.heap h'->Inv X pins σ H' { s' with heap:=h' })->au H H'->Res X.K (OO O σ env) H H' (.ref p) r ->
   compPost (model X.prog X.w) X.A X.xe use QQ (.ref p) C0 (.ok .next) s'):
  wpAny (model X.prog X.w) X.A (comprehension (.ListComp elt [⟨tg,iter,ifs,0⟩] bZ pos) bZ X.env (firstIterPos [⟨tg,iter,ifs,0⟩] pos) (newList []) (firstAsync [⟨tg,iter,ifs,0⟩]) (firstIter [⟨tg,iter,ifs,0⟩] X.env) use) QQ X.xe s:=by
 obtain ⟨ds,e1,e2⟩:=bind_some e
 obtain ⟨cs,e3,e4⟩:=bind_some e2
 by_cases hlen:ds.length<=16777216
 case neg=>rw [if_neg hlen] at e4;cases e4
 rw [if_pos hlen] at e4
 obtain ⟨rs,e5,rfl⟩:=map_some e4
 have Aa:closureFor bZ X.env=pure (eS X.env.cells bZ.names []):=a78 λy hy hf=>I.ok.has y.1 (by
  show X.env.scope.names.lookup y.1=_\/X.env.scope.names.lookup y.1=_
  rw [h.sc]
  exact C.free y hy hf)
 have XR:=pi pins s σ H (λJ H'=>au H H'/\xh X.K (OO O σ env) J H' ds) I (ki O B σ H env ds _ R e1 λJ H' s' wk=>⟨s',wk⟩)
 refine wpAny_comprehension_free (use:=use) rfl su Aa C.kind C.loc (bE XR λxv s1 h1=>bE h1 λGQ s2 h2=>?_)
 obtain ⟨it,fp,tn,J,H2,rfl,I2,T,ft,f2,mH,wk⟩:=h2
 refine u7 (wpAny_newFunctionEnv C.oT (by intro y hy;simp at hy) (λh₁ l9 l6=>?_) C.kind)
 dsimp only at l9 l6 ⊢
 generalize HL:s2.heap.push { cls:=.type "list",dict:=none,data:=.seq ([]:List Value).toArray }=H3 at l9 l6 ⊢
 have hsz:H3.objs.size=s2.heap.objs.size+1:=by rw [<-HL,nC]
 have zh:∀b o,s2.heap.get? b=some o->H3.get? b=some o:=λb o e=>by rw [<-HL];exact bR _ e
 have CH:∀b o,H3.get? b=some o->h₁.get? b=some o:=λb o e=>l6.extBut b o (ei (bY e)) (bR _ e)
 have I3:Inv X pins σ H2 { s2 with heap:=H3 }:=I2.kept (t':=s2.toks) zh
 have yX:∀b∈fp,b<s2.heap.objs.size:=λb hb=>by obtain ⟨o,eo,_⟩:=T.obj 0 _ ft b hb;exact bY eo
 have r6:∀b∈fp,b≠s2.heap.objs.size:=λb hb=>ei (yX b hb)
 have zV:∀b∈fp,∃o,H3.get? b=some o:=λb hb=>by obtain ⟨o,eo,_⟩:=T.obj 0 _ ft b hb;exact ⟨o,zh b o eo⟩
 have R2:=R.grow mH
 obtain ⟨lc,ls,cg⟩:=Qg R2 e3
 generalize lq:sI X N' bZ (s2.heap.objs.size::fp) { s2 with heap:=H3 } H2=X'
 have I4:∀t,Inv X' [] (iU nt none++dD caps σ) H2 { s2 with heap:=h₁,toks:=t }:=λt=>by
  rw [<-lq]
  exact b2R (s3:={ s2 with heap:=H3 }) (s4:={ s2 with heap:=h₁,toks:=t }) C h.sc h.n h.calm I2 I3 f2 zV hsz rfl rfl CH (by simpa using l9)
 have hP:X'.prog=X.prog:=by rw [<-lq];rfl
 have hW:X'.w=X.w:=by rw [<-lq];rfl
 have hK:X'.K=X.K:=by rw [<-lq];rfl
 have hE:X'.env=compEnvC bZ (eS X.env.cells bZ.names []) H3.objs.size X.env:=by rw [<-lq];rfl
 have hA:X'.A=X.A:=by rw [<-lq];rfl
 have hx:X'.xe=λ_ _=>False:=by rw [<-lq];rfl
 have HC:X'.calm=true:=by rw [<-lq];rfl
 have uz:=hb X' hP hW hK (by rw [<-lq];rfl) (by rw [<-lq];rfl) ⟨by rw [<-lq];rfl,by rw [hE];show rl bZ X.env.scope=_;rw [h.sc],HC,λz=>(nomatch z),by rw [hx];exact N5,by rw [hA];exact h.room,C.nd,λz=>(nomatch z)⟩
 obtain ⟨⟨qv,pg,kg⟩,⟨tc,pc,kc⟩,te,pe,ke⟩:=uz
 have HV:∀{H':Hp} {pl:List (Addr×Obj)},(∀b∈fp,H' b=none)->(∀p∈pl,∀b∈fp,p.1≠b)->∀b∈fp,cV X' pl H' b:=λ{H' pl} hn dB b hb=>by
  obtain ⟨_,g1,g2,g3,g4,g5⟩:=f2 b hb
  rw [<-lq]
  refine ⟨hn b hb,ei (jB (yX b hb) (by show s2.heap.objs.size<=H3.objs.size;rw [hsz];exact uO _)),λz=>?_,.inl (a9 _ hb),λx c e=>g4 x c (sZ C h.sc I2 e),λp hp=>dB p (by simpa [sI] using hp) b hb⟩
  rcases br.mp (I2.gE b z) with z | z
  .exact g1 z
  .exact g2 z
 have R0:Rel X'.K (OO O σ env) H2 (iU nt none++dD caps σ) H2 (iU nt Sl.no++cs):=by
  have qC:∀(i:Nat) (es:Sl),(iU nt Sl.no++cs)[i]?=some es->es.own->False:=λi es e o=>by
   rcases EN e with z | ⟨_,z⟩
   .cases z;exact o
   .obtain ⟨d,_,_,z,_⟩:=cg _ _ z
    cases z;exact o
  have noOwn:∀p,¬mE (iU nt none++dD caps σ) (iU nt Sl.no++cs) p:=λp ⟨i,es,e,o,_⟩=>qC i es e o
  rw [hK]
  refine ⟨au.refl _,R2.dm,by simp [lc,ls],λi d e=>?_,λi es e=>(qC i _ e trivial).elim,λi es e=>(qC i _ e trivial).elim,λi j es fs p e _ _ _ o=>(qC i es e o).elim⟩
  rcases EN e with z | ⟨hi,z⟩
  .cases z
  .obtain ⟨d',v,i',z1,z2,z3,_⟩:=cg _ _ z
   cases z1
   refine ⟨v,?_,z3.less λp hp=>hp.elim id λz=>(noOwn p z).elim⟩
   rw [rg (by simpa using hi),DX]
   exact z2
 have loop:∀t,codeAny (model X.prog X.w) X.A (.compLoop (.ListComp elt [⟨tg,iter,ifs,0⟩] bZ pos) 0 (.ref it) (.ref s2.heap.objs.size) (compEnvC bZ (eS X.env.cells bZ.names []) H3.objs.size X.env))
   (compPost (model X.prog X.w) X.A X.xe use QQ (.ref s2.heap.objs.size) H3.objs.size) { s2 with heap:=h₁,toks:=t }:=λt=>by
  refine a9O (N:=λ_ _=>False) (λn s'=>∃(i:Nat) (aJ:L2.St) (H':Hp) (ak:En) (ys:List Value) (xs:List V) (rY CA:List D),n=ds.length-i/\i<=ds.length/\Inv X' [] aJ H' s'/\tn i s'.heap/\(∀b∈fp,H' b=none)/\H' s2.heap.objs.size=none /\
    s'.heap.PlainList s2.heap.objs.size ys.toArray/\aC xs ys/\Rel X'.K (OO O σ env) H2 aJ H' ak/\Gd (iU nt none++dD caps σ) (iU nt Sl.no++cs) H2 aJ ak H' /\
    aN X'.K (OO (OO O σ env) aJ ak) H' xs rY/\ot g fc fe (ds.drop i) ak=some CA/\rY++CA=rs/\rY.length<=i) (λ_ _ z=>z) ?_ ds.length
   ⟨0,_,H2,_,[],[],[],rs,by simp,nG _,I4 t,T.keep _ _ _ ft (λb _ o e=>CH b o (zh b o e)),λb hb=>(f2 b hb).1,I2.bt.fresh (bp _),⟨_,CH _ _ (by rw [<-HL];exact fN _ rfl)⟩,.nil,R0,Gd.refl (au.refl _),.nil,by simpa using e5,rfl,bp _⟩
  rintro n s3 ⟨i,jd,xX,l',ys,xs,rY,CA,rfl,hi,J3,kZ,Ap,HE,MU,vx,R3,NN,zp,AA,CQ,sf⟩
  have yI:Inv X' (rp [s2.heap.objs.size] s3.heap) jd xX s3:=by
   refine J3.fy λp hp=>?_
   obtain ⟨hb,e⟩:=Lb hp
   have hb:p.1=s2.heap.objs.size:=by simpa using hb
   obtain ⟨n,en⟩:=MU
   rw [hb,en] at e
   refine ⟨by rw [hb,en];exact e,by rw [hb];exact HE,?_,λz=>?_,λv z=>?_⟩
   .rw [hb,hE]
    show s2.heap.objs.size≠H3.objs.size
    rw [hsz]
    exact ei (u4 _)
   .rw [hb,<-lq] at z
    obtain ⟨_,o,ho,_⟩:=I2.stack.mem z
    exact absurd (bY ho) (pZ _)
   .rw [<-cG e] at z;cases z
  have apart:∀p∈rp [s2.heap.objs.size] s3.heap,∀b∈fp,p.1≠b:=λp hp b hb z=>by
   have e:p.1=s2.heap.objs.size:=by simpa using (Lb hp).1
   exact r6 b hb (z.symm.trans e)
  have pA:∀{pl:List (Addr×Obj)} {aJ:L2.St} {H':Hp} {s':Shared},Inv X' pl aJ H' s'->(∀p∈rp [s2.heap.objs.size] s3.heap,p∈pl)->s'.heap.PlainList s2.heap.objs.size ys.toArray/\H' s2.heap.objs.size=none:=λ{pl aJ H' s'} J js=>by
   obtain ⟨n,en⟩:=MU
   obtain ⟨q1,q2,_⟩:=J.pin _ (fF _ (js _ (BA (fp:=[s2.heap.objs.size]) (by simp) en)))
   exact ⟨⟨n,q1⟩,q2⟩
  have w:=wk (OO (OO O σ env) jd l') xX (λa u ea na=>by
   obtain ⟨h1,h2⟩:=NN a u ea λ⟨i,es,e,o,_⟩=>by
    rcases EN e with z | ⟨_,z⟩
    .cases z;exact o
    .obtain ⟨d,_,_,z,_⟩:=cg _ _ z
     cases z;exact o
   exact ⟨h1,λz=>z.elim na h2⟩) (λa=>R3.oo) i
  by_cases be:i<ds.length
  .obtain ⟨go,yl⟩:=w.1 ds[i] (by simp [be])
   have zZ:ds.drop i=ds[i]::ds.drop (i+1):=mT be
   rw [zZ,ot] at AA
   obtain ⟨fX,c1,c2⟩:=bind_some AA
   obtain ⟨b,c2,c3⟩:=bind_some c2
   have ti:=T.item X' hP hW hK HC i _ s3 jd xX (λ_ _=>False) yI (HV Ap apart) kZ go
   rw [hA] at ti
   refine bE ti λr s4 ⟨u,hr,h4⟩=>?_
   subst hr
   refine bE h4 λ_ s5 ⟨x,H5,I5,r5,y5,tV,HU⟩=>?_
   obtain ⟨Ge,XG⟩:=yl x H5 y5
   have ML:=I5.pinned (HV HU apart) (T.obj _ _ tV)
   have r9:∀{aJ:L2.St} {H':Hp} {s':Shared},Inv X' (rp [s2.heap.objs.size] s3.heap++rp fp s5.heap) aJ H' s'->tn (i+1) s'.heap/\∀b∈fp,H' b=none:=λ{aJ H' s'} J=>by
    refine ⟨T.keep _ _ _ tV λb hb o e=>(J.pin (b,o) (fF _ (fF _ (BA hb e)))).1,λb hb=>?_⟩
    obtain ⟨o,e,_⟩:=T.obj _ _ tV b hb
    exact (J.pin (b,o) (fF _ (fF _ (BA hb e)))).2.1
   have MV:=pg _ s5 jd H5 x u _ ML r5 (kg (OO O σ env) H2 jd H5 l' fX x ds[i] (λkY H6=>Rel X'.K (OO O σ env) H2 kY H6 fX/\Gd jd l' H5 kY fX H6) (R3.grow Ge) (hK▸XG) c1 λkY H6 R6 g6=>⟨R6,g6⟩)
   rw [hP,hW,hA,hE,hx] at MV
   refine bE MV λ_ s6 ⟨kY,H6,I6,R6,g6⟩=>?_
   have MX:=pc _ s6 kY H6 (λb' H'=>b'=b/\au H6 H') I6 (kc (OO O σ env) H2 kY H6 fX b _ R6 c2 λH' s'=>⟨rfl,s'⟩)
   rw [hP,hW,hA,hE,hx] at MX
   refine bE MX λok s7 ⟨H7,I7,bt,Gc⟩=>?_
   subst bt
   have R7:=R6.grow Gc
   have NM:=NN.trans ((Gd.refl Ge).trans (g6.trans (Gd.refl Gc)))
   have M':aN X'.K (OO (OO O σ env) kY fX) H7 xs rY:=((Gd.refl Ge).trans (g6.trans (Gd.refl Gc))).CI zp
   cases ok with
   | false =>
    rw [if_neg nJ] at c3 ⊢
    obtain ⟨Tn,YG⟩:=r9 I7
    obtain ⟨Vg,Yk⟩:=pA I7 λp hp=>gf _ hp
    exact ⟨ds.length-(i+1),by ext be,i+1,kY,H7,fX,ys,xs,rY,CA,rfl,be,I7.fy (λ_ z=>nomatch z),Tn,YG,Yk,Vg,vx,R7,NM,M',c3,CQ,by ext sf⟩
   | true =>
    rw [if_pos rfl] at c3 ⊢
    obtain ⟨r,d3,d4⟩:=bind_some c3
    obtain ⟨Ut,d5,d6⟩:=bind_some d4
    clear c3 d4 AA
    obtain rfl:=cG d6
    have MW:=pe _ s7 kY H7 (λv H'=>au H7 H'/\Is X'.K (OO (OO O σ env) kY fX) H' v r.d) I7 (ke (OO O σ env) H2 kY H7 fX r _ R7 d3 λv H' s' rr=>⟨s',rr.is λp=>R7.oo⟩)
    rw [hP,hW,hA,hE,hx] at MW
    refine bE MW λy s8 ⟨v,H8,I8,ry,Gb,hv⟩=>?_
    obtain ⟨Tj,YF⟩:=r9 I8
    obtain ⟨Vf,NB⟩:=pA I8 λp hp=>gf _ hp
    have XD:ys.length=rY.length:=by rw [<-b3a vx,zp.length]
    refine wpAny_list_append_plain (hsz:=by rw [dE,XD,ij];ext hlen sf be) Vf λh' Ve MS=>?_
    have J8:Inv X' [] kY H8 s8:=I8.fy λ_ z=>nomatch z
    have J9:Inv X' [] kY H8 { s8 with heap:=h' }:=J8.turned (t':=s8.toks) (it:=s2.heap.objs.size) (λb o hb e=>(MS.2 b hb).trans e) NB
     (by rw [hE];show s2.heap.objs.size≠H3.objs.size;rw [hsz];exact ei (u4 _)) (.inl (by rw [<-lq];exact aR))
     (λx c e=>by
      rw [hE] at e
      obtain ⟨_,z⟩:=I2.cell x c (sZ C h.sc I2 e)
      exact ei z.lt) (λp hp=>by rw [<-lq] at hp;exact absurd hp (by simp [sI]))
    refine ⟨ds.length-(i+1),by ext be,i+1,kY,H8,fX,ys++[y],xs++[v],rY++[r.d],Ut,rfl,be,J9,T.keep _ _ _ Tj λb hb o e=>(MS.2 b (r6 b hb)).trans e,YF,NB,by simpa using Ve,vx.append (.cons ry .nil),R7.grow Gb,NM.trans (Gd.refl Gb),(M'.grow Gb).append (.cons hv .nil),d5,by rw [<-CQ];simp,by simp;assumption⟩
  .have Hr:i=ds.length:=by ext hi be
   have td:=T.done X' hP hW hK HC i _ s3 jd xX (λ_ _=>False) yI (HV Ap apart) kZ (w.2 (by ext be))
   rw [hA] at td
   refine bE td λr s4 ⟨hr,Cr⟩=>?_
   subst hr
   obtain ⟨Vh,o4⟩:=pA Cr λp hp=>hp
   rw [qZ (by ext be),ot] at AA
   obtain rfl:=cG AA
   rw [mQ] at CQ
   subst CQ
   obtain ⟨m4,Np,_⟩:=Cr.loc
   rw [hE] at Np
   obtain ⟨n4,YQ⟩:=Vh
   rw [<-lq] at Cr
   have C5:H2 s2.heap.objs.size=none:=I2.bt.fresh (bp _)
   have uv:s2.heap.objs.size<=H3.objs.size:=by rw [hsz];exact uO _
   have Yx:xX H3.objs.size=none:=Cr.free
   have aV:H3.objs.size≠s2.heap.objs.size:=by rw [hsz];exact Nat.succ_ne_self _
   refine fin H3.objs.size s2.heap.objs.size (upd xX s2.heap.objs.size (.lst xs)) s4 ⟨m4,Np⟩ (I2.jy uv (by rw [c5 aV];exact Yx)) (λh' sb=>b2Q (s3:={ s2 with heap:=H3 }) (ys:=ys) I2 rfl zh hsz f2 Cr sb o4 ⟨n4,YQ⟩ vx (by rw [zp.length,ij];ext hlen hi sf)) ?_ ⟨_,xs,rfl,mH.free C5,pK,?_⟩
   .intro b o e
    have e2:=mH b o e
    rw [c5 (pI e2 C5)]
    exact R3.same b o e2
   .rw [hK] at zp
    refine zp.map (λp hp hn z=>hn (.inl (z.elim id λz=>?_))) λp u e _=>by rw [c5 (pI e o4)];exact e
    rw [z,o4] at hp
    exact (hp rfl).elim
 exact codeAny_compStart_list (loop _) (T.self _ 0 _ _ _ (T.keep _ _ _ ft (λb _ o e=>CH b o (zh b o e))) (loop _))
theorem vt(h:Fx X N sc k full)(C:cI N sc N' caps nt bZ)(hi:IV X tg iter fi)
  (hb:∀X':Cx,X'.prog=X.prog->X'.w=X.w->X'.K=X.K->X'.mg=X.mg->X'.base=X.base->Fx X' N' (rl bZ sc) k false->GV X' tg g/\Cq X' ifs fc/\EV X' elt fe)
  (su:∀x,foldedSetIterable iter X.env x=pure x:=by intro _;rfl):EV X (.ListComp elt [⟨tg,iter,ifs,0⟩] bZ pos) (il fi caps nt g fc fe):=by
 obtain ⟨wi,pi,ki⟩:=hi
 refine ⟨λσ H Q=>∃O B env r,Rel X.K O B σ H env/\il fi caps nt g fc fe env=some r/\∀v H',au H H'->Res X.K (OO O σ env) H H' v r->Q v H',?_,λO B σ H env r Q R e q=>⟨O,B,env,r,R,e,q⟩⟩
 rintro pins s σ H Q I ⟨O,B,env,r,R,e,q⟩
 rw [eval_ListComp]
 exact Rt h C pi ki hb su I R e (use:=none) λC0 p H' s' ⟨m,hn⟩ _ hI sm rr=>⟨m,hn,λh' sb=>⟨.ref p,H',hI h' sb,rfl,q _ H' sm rr⟩⟩
theorem Bk{i:Nat}{x:Str}{pos' yr:Pos}(b:Bool)(h:Fx X N sc k full)(C:cI N sc N' caps nt bZ)(hi:IV X tg iter fi)
  (hb:∀X':Cx,X'.prog=X.prog->X'.w=X.w->X'.K=X.K->X'.mg=X.mg->X'.base=X.base->Fx X' N' (rl bZ sc) k false->GV X' tg g/\Cq X' ifs fc/\EV X' elt fe)
  (hN:N[i]?=some x:=by rfl)(hv:Loc sc x:=by first | exact cX rfl | exact bP rfl)(hf:full=true\/sc.names.lookup x=some .local:=by first | exact cX rfl | exact bP rfl)(h1:(sc.names.lookup x==some .local)=true:=by rfl)(h2:(pos'.line==pos.line)=true:=by rfl)(h3:(bZ.names.any λ(n,k)=>n==x&&(k==.local||k==.cell))=false:=by rfl)
  (su:∀x,foldedSetIterable iter X.env x=pure x:=by intro _;rfl):SV X (.Assign [.Name x pos'] (.ListComp elt [⟨tg,iter,ifs,0⟩] bZ pos) yr) (bif b then de i (il fi caps nt g fc fe) else aY i (il fi caps nt g fc fe)):=by
 obtain ⟨wi,pi,ki⟩:=hi
 refine ⟨λD σ H=>∃O B env fl ak,Rel X.K O B σ H env/\(bif b then de i (il fi caps nt g fc fe) else aY i (il fi caps nt g fc fe)) env=some (fl,ak)/\dh X.K O B σ H env D fl ak,?_,λO B σ H env fl ak D R e q=>⟨O,B,env,fl,ak,R,e,q⟩⟩
 rintro pins s σ H D I ⟨O,B,env,fl,ak,R,e,q⟩
 obtain ⟨r,e1,hl,sx,t,rfl,ht⟩:∃r,il fi caps nt g fc fe env=some r/\i<env.length/\fl=.nx/\∃t,ak=env.set i t/\(t=r\/t=.sh r.d):=by
  cases b with
  | true =>
   dsimp only [cond] at e
   obtain ⟨r,e1,e2⟩:=bind_some e
   obtain ⟨hl,e3⟩:=iu e2
   cases e3
   exact ⟨r,e1,hl,rfl,_,rfl,.inl rfl⟩
  | false =>
   dsimp only [cond] at e
   obtain ⟨r,e1,e2⟩:=bind_some e
   obtain ⟨hl,e3⟩:=iu e2
   cases e3
   exact ⟨r,e1,hl,rfl,_,rfl,.inr rfl⟩
 subst sx
 have hs:swapsWith (.ListComp elt [⟨tg,iter,ifs,0⟩] bZ pos) (some (.Name x pos')) yr.line X.env=pure true:=by
  have hk:X.env.blockKind=.function:=by unfold Env.blockKind;rw [I.ok.kind];rfl
  have oY:X.env.kindOf x=sc.names.lookup x:=by unfold Env.kindOf;rw [h.sc]
  unfold swapsWith
  dsimp only
  rw [hk,oY,h1,show (pos'.line==(Expr.ListComp elt [⟨tg,iter,ifs,0⟩] bZ pos).pos.line)=true from h2,h3]
  rfl
 rw [exec_Assign_Name_used _ _ _ _ hs]
 refine aB (IE (aB ?_))
 show wpAny _ _ (comprehension _ bZ X.env _ (newList []) _ _ (some (assign (.Name x pos') X.env)) >>= λ_=>pure ()) _ _ _
 refine aB (Rt h C pi ki hb su I R e1 (use:=some (assign (.Name x pos') X.env)) λC0 p H' s' ⟨m,hn⟩ qL hI sm rr=>?_)
 have I':Inv X pins σ H' s':=hI s'.heap (Heap.SameBut.refl _ _)
 refine wpAny_assign_Name (Rg (v:=.ref p) I' h.ua (h.ix hN) (h.loc hv) rfl (λs2 I2 ⟨a,sb,ha⟩=>?_) (h.tT hf))
 have Yj:C0≠a:=λz=>by
  rcases ha with ha | ha
  .exact qL.2.1 (z.trans ha)
  .exact qL.2.2.2.2.1 x a ha z.symm
 obtain ⟨o,es,ep,ho,rest⟩:=hn
 refine ⟨m,⟨o,es,ep,(sb.2 C0 Yj).trans ho,rest⟩,λh' Uq=>?_⟩
 refine bI (bI ?_)
 have I3:Inv X pins (σ.set i (some (.ref p))) H' { s2 with heap:=h' }:=I2.turned (t':=s2.toks) (it:=C0) (λb o hb e=>(Uq.2 b hb).trans e) qL.1 qL.2.1 qL.2.2.2.1 qL.2.2.2.2.1 qL.2.2.2.2.2
 have hr:Res X.K (OO O σ env) H H' (.ref p) t:=by
  rcases ht with rfl | rfl
  .exact rr
  .exact rr.is λq=>R.oo
 obtain ⟨R',g'⟩:=R.set sm hr hl
 exact ⟨_,H',I3,q _ H' R' g'⟩
end
end DL
namespace DL
open PySem PySem.Spec PyProof.Rows L2
section
variable {X:Cx}{pins:List (Addr×Obj)}{σ:L2.St}{H:Hp}{s:Shared}
theorem b3n(I:Inv X pins σ H s)(hA:A'.handled=none)(hq:Sq X.K H k p xs)
  (h:∀(ar:List Value) (h2:Heap) (St:Nat->Heap->Prop),aC xs ar->Walks X.prog X.w A' s.heap.objs.size [s.heap.objs.size,p] [s.heap.objs.size] ar.length (λi v=>ar[i]?=some v) St->St 0 h2 ->
   (∀b o,s.heap.get? b=some o->h2.get? b=some o)->(∀b∈[s.heap.objs.size,p],b<h2.objs.size)->Q (.ref s.heap.objs.size) { s with heap:=h2 }):wpAny (model X.prog X.w) A' (pyIter (.ref p)) Q E s:=by
 cases k with
 | true =>
  obtain ⟨ar,rv,pl,hz⟩:=I.list (show eN X.K H p xs from hq)
  have be:p<s.heap.objs.size:=by obtain ⟨o,n,e,_⟩:=pl;exact bY e
  refine wL pl.isList ?_
  have W:=Walks.list (prog:=X.prog) (w:=X.w) hA s.heap.objs.size p (ei be) ar.toArray
  refine h ar _ (λi h=>h.IsListIter s.heap.objs.size p i/\h.IsList p ar.toArray) rv (by simpa using W) ⟨⟨_,fN _ rfl,rfl,rfl⟩,pl.isList.push _⟩ (λb o e=>bR _ e) λb hb=>?_
  rw [nC]
  rcases br.mp hb with rfl | hb
  .exact u4 _
  .rw [bQ.mp hb];exact Nat.lt_succ_of_lt be
 | false =>
  obtain ⟨ar,rv,pl,hz⟩:=I.tuple (show fq X.K H p xs from hq)
  have bw:s.heap.IsTuple p ar.toArray:=pl
  have be:p<s.heap.objs.size:=by obtain ⟨o,e,_⟩:=pl;exact bY e
  refine qW bw ?_
  have W:=Walks.tuple (prog:=X.prog) (w:=X.w) hA s.heap.objs.size p (ei be) ar.toArray
  refine h ar _ (λi h=>h.IsTupleIter s.heap.objs.size p i/\h.IsTuple p ar.toArray) rv (by simpa using W) ⟨⟨_,fN _ rfl,rfl,rfl⟩,?_⟩ (λb o e=>bR _ e) λb hb=>?_
  .obtain ⟨o,e,r⟩:=bw
   exact ⟨o,bR _ e,r⟩
  .rw [nC]
   rcases br.mp hb with rfl | hb
   .exact u4 _
   .rw [bQ.mp hb];exact Nat.lt_succ_of_lt be
theorem b08(I:Inv X pins σ H s){h2 h':Heap}{tk:Nat}(k1:∀b o,s.heap.get? b=some o->h2.get? b=some o)(k2:∀b o,b∉[s.heap.objs.size]->h2.get? b=some o->h'.get? b=some o):Inv X pins σ H { s with heap:=h',toks:=tk }:=
 I.kept λb o e=>k2 b o (λz=>absurd (bY e) (by rw [bQ.mp z];exact pZ _)) (k1 b o e)
end
noncomputable def rj:List D->Option (List Int)
 | []=>some []
 | .int i::ds=>(rj ds).map (i::·)
 | _::_=>none
theorem K6:∀(ns:List Int),rj (ns.map D.int)=some ns
 | []=>rfl
 | n::r=>by rw [fo,rj,K6 r];rfl
theorem Lx:∀{ds:List D} {ns:List Int},rj ds=some ns->ds=ns.map D.int
 | [],ns,e=>by cases e;rfl
 | .int i::ds,ns,e=>by
  obtain ⟨r,e1,rfl⟩:=map_some (show (rj ds).map (i::·)=some ns from e)
  rw [Lx e1];rfl
 | .bz::_,_,e=>by cases e
 | .bl _::_,_,e=>by cases e
 | .str _::_,_,e=>by cases e
 | .tup _::_,_,e=>by cases e
 | .lst _ _::_,_,e=>by cases e
theorem K7{K:aM}{O:Addr->Prop}{H:Hp}:∀{xs:List V} {ns:List Int},aN K O H xs (ns.map D.int)->xs=ns.map V.int
 | _,[],.nil=>rfl
 | _,n::r,.cons h t=>by rw [iI h,K7 t];rfl
theorem b3b{ns:List Int}(r:aC (ns.map V.int) ar){i:Nat}(h:ar[i]?=some v):∃t,v=.int (ns.getD i 0) t:=by
 have hl:=r.length
 have hi:=(lC.mp h).1
 have Nu:i<ns.length:=by rw [aX] at hl;ext hl hi
 obtain ⟨u,hu,ru⟩:=r.get (show (ns.map V.int)[i]?=some (.int ns[i]) by simp [Nu])
 rw [h] at hu
 cases hu
 obtain ⟨t,e⟩:=ru
 exact ⟨t,by rw [e];simp [Nu]⟩
section
variable {X:Cx}{a:Expr}{p pos:Pos}{ba:En->Option (Bool×List D)}
theorem preSum_eq(ns:List Int):∀j,j<=ns.length->preSum (λi=>ns.getD i 0) j=(ns.take j).sum
 | 0,_=>rfl
 | j+1,h=>by
  have hj:j<ns.length:=h
  rw [preSum,preSum_eq ns j (AQ hj),<-List.take_append_getElem hj,DD]
  simp [hj]
theorem b1P(ns:List Bool):(ko ns.length).all (λi=>ns.getD i false)=ns.all id:=by
 rw [Bool.eq_iff_iff,IB,IB]
 constructor
 .intro h x hx
  obtain ⟨i,hi,rfl⟩:=pz.mp hx
  have:=h i (sN.mpr hi)
  simpa [hi] using this
 .intro h i hi
  have hi:=sN.mp hi
  have:=h ns[i] (nD hi)
  simpa [hi] using this
theorem b2L(hc:X.calm=true):pB X (.builtin "sum") (λxs H Q=>∃p k ns,xs=[.ref p]/\Sq X.K H k p (mP V.int ns)/\Q (.int ns.sum) H):=by
 intro pins s σ H xs us Q I r h
 obtain ⟨p,k,ns,rfl,hq,q⟩:=h
 obtain ⟨u,rfl,ru⟩:=r.one
 cases ru
 refine call_sum_walkAnyS (b3n (A':=X.A.in1) I (I.ok.hd hc) hq λar h2 St rv W To k1 qL=>?_)
 refine ⟨_,_,_,_,_,_,_,λi=>ns.getD i 0,rfl,W.toS,To,qL,λi v hv=>b3b rv hv,λs' t' M=>?_⟩
 have hl:ar.length=ns.length:=by rw [<-rv.length];simp
 have e:preSum (λi=>ns.getD i 0) ar.length=ns.sum:=by rw [hl,preSum_eq ns _ (bp _)];simp
 rw [e]
 obtain ⟨h',g',d',t2,o'⟩:=s'
 obtain ⟨m1,m2,m3,m4,m5⟩:=M
 have m2:g'=s.gens:=m2
 have m3:d'=s.drawn:=m3
 have m4:o'=s.os:=m4
 subst m2 m3 m4
 exact ⟨.int ns.sum,H,b08 I k1 m1,⟨t',rfl⟩,q⟩
noncomputable def o8(f:En->Option (Bool×List D)):En->Option Sl:=λenv=>(f env).bind λx=>(rj x.2).map λns=>.sh (.int ns.sum)
theorem Pu(hg:Gl X "sum")(hm:X.mg "sum" = none)(hc:X.calm=true)(ha:BV X a ba)(hs:starEach [a] X.env=[(false,eval a X.env)]:=by rfl):EV X (.Call (.Name "sum" p) [a] [] pos) (o8 ba):=by
 obtain ⟨t,pt,k⟩:=ha
 refine ⟨_,xy (b2L hc) hg hm (by decide +kernel) (qe pt rm hs) (by decide) (by decide) hs rfl,λO B σ H env s Q R e q=>?_⟩
 obtain ⟨⟨kk,ds⟩,e1,e2⟩:=bind_some e
 obtain ⟨ns,e3,rfl⟩:=map_some e2
 have N1:=Lx e3
 dsimp only at N1
 subst N1
 refine k O B σ H env kk _ _ R e1 λl xs H1 s1 hq hx=>⟨l,kk,ns,rfl,?_,q _ H1 s1 (Is.int _)⟩
 rw [<-K7 hx];exact hq
end
end DL
namespace DL
open PySem PySem.Spec PyProof.Rows L2
noncomputable def eW:List (Option Bool)->Option (List Bool)
 | []=>some []
 | some b::r=>(eW r).map (b::·)
 | none::_=>none
@[simp] noncomputable def c8:D->Option Bool
 | .exc _=>none
 | .fL _ _=>none
 | _=>some false
@[simp] noncomputable def eqT(f:Option (D->D->Option Bool))(d d':D):Option Bool:=match d with
 | .int i=>match d' with
  | .int j=>some (decide (i=j))
  | .bl j=>some (decide (i=(if j then 1 else 0)))
  | x=>c8 x
 | .bl i=>match d' with
  | .bl j=>some (decide (i=j))
  | .int j=>some (decide ((if i then 1 else 0)=j))
  | x=>c8 x
 | .str i=>match d' with
  | .str j=>some (decide (i=j))
  | x=>c8 x
 | .bz=>match d' with
  | .bz=>some true
  | x=>c8 x
 | .tup a=>match d' with
  | .tup b=>f.bind λg=>(eW (kn g a b)).map λbs=>bs.all id&&decide (a.length=b.length)
  | x=>c8 x
 | .lst _ a=>match d' with
  | .lst _ b=>f.bind λg=>if a.length=b.length then (eW (kn g a b)).map λbs=>bs.all id else some false
  | x=>c8 x
 | _=>none
@[simp] noncomputable def yG:Nat->Option (D->D->Option Bool)
 | 0=>none
 | n+1=>some (eqT (yG n))
noncomputable def bg(n:Nat):D->D->Option Bool:=eqT (yG n)
theorem Bl:∀{os:List (Option Bool)} {bs:List Bool},eW os=some bs->os.length=bs.length/\∀(i:Nat) (b:Bool),bs[i]?=some b->os[i]?=some (some b)
 | [],bs,e=>by cases e;exact ⟨rfl,λi b h=>by simp at h⟩
 | some b::r,bs,e=>by
  obtain ⟨bs',e1,rfl⟩:=map_some (show (eW r).map (b::·)=some bs from e)
  obtain ⟨l,ih⟩:=Bl e1
  refine ⟨by simp [l],λi c h=>?_⟩
  cases i with
  | zero=>simpa using h
  | succ i=>simpa using ih i c (by simpa using h)
 | none::_,bs,e=>by cases e
theorem all_range{bs:List Bool}{n:Nat}(h:bs.length=n):(ko n).all (λi=>bs.getD i false)=bs.all id:=by rw [<-h];exact b1P bs
section
variable {X:Cx}{pins:List (Addr×Obj)}{σ:L2.St}{H:Hp}{s:Shared}{O O':Addr->Prop}
noncomputable def Cp(K:aM)(O:Addr->Prop)(H:Hp)(v:V):D->Prop
 | .bz=>v=.bz
 | .bl b=>v=.bl b
 | .int i=>v=.int i
 | .str x=>v=.str x
 | .tup ds=>∃p xs,v=.ref p/\fq K H p xs/\aN K O H xs ds
 | .lst _ ds=>∃p xs,v=.ref p/\eN K H p xs/\aN K O H xs ds
 | .exc _=>True
 | .fL _ _=>True
theorem Is.nZ{K:aM}{v:V}{d:D}(h:Is K O H v d):Cp K O H v d:=by
 cases d with
 | bz=>exact JH h
 | bl b=>exact vi h
 | int i=>exact iI h
 | str x=>exact JI h
 | tup ds=>exact Em h
 | lst r ds =>
  obtain ⟨p,xs,e,h1,h2⟩:=h.seq (k:=true) (ds:=ds) rfl
  exact ⟨p,xs,e,h1,h2⟩
 | exc n=>trivial
 | fL n m=>trivial
theorem E3(I:Inv X pins σ H s)(h:fq X.K H p xs)(h':eN X.K H p ys):False:=by
 obtain ⟨_,_,⟨o,e1,c1,_⟩,_⟩:=I.tuple h
 obtain ⟨_,_,⟨o',_,e2,c2,_⟩,_⟩:=I.list h'
 rw [e1] at e2
 cases e2
 rw [c1] at c2
 injection c2 with c3
 exact absurd c3 (by decide)
theorem zip_get{n:Nat}{i:Nat}{o:Option Bool}(h:(kn (bg n) a b)[i]?=some o):∃x y,a[i]?=some x/\b[i]?=some y/\bg n x y=o:=by
 rw [IX] at h
 cases ha:a[i]? with
 | none=>rw [ha] at h;simp at h
 | some x =>
  cases hb:b[i]? with
  | none=>rw [ha,hb] at h;simp at h
  | some y=>rw [ha,hb] at h;exact ⟨x,y,rfl,rfl,by simpa using h⟩
theorem QD(I:Inv X pins σ H s):∀(n:Nat) {v:V} {d d':D} {b:Bool},Is X.K O H v d->Is X.K O' H v d'->bg n d d'=some b->b=true:=by
 intro n
 induction n with
 | zero =>
  intro v d d' b h h' e
  have h:=h.nZ
  have h':=h'.nZ
  cases d<;>cases d'<;>simp only [Cp] at h h'<;>simp only [bg,eqT,c8,yG,N7,oh,dJ,reduceCtorEq] at e<;>first
   | (subst h;cases h';exact e.symm)
   | (subst h;cases h';rw [<-e];simp;done)
   | (subst h;cases h';done)
   | (subst h;obtain ⟨_,_,h',_⟩:=h';cases h';done)
   | (subst h';obtain ⟨_,_,h,_⟩:=h;cases h;done)
   | (obtain ⟨_,_,rfl,h,_⟩:=h;obtain ⟨_,_,hr,h',_⟩:=h';cases hr;first | exact (E3 I h h').elim | exact (E3 I h' h).elim)
 | succ n ih =>
  intro v d d' b h h' e
  have key:∀{xs:List V} {ds gc:List D} {bs:List Bool},aN X.K O H xs ds->aN X.K O' H xs gc->eW (kn (bg n) ds gc)=some bs->bs.all id=true:=λ{xs ds gc bs} a1 a2 ea=>by
   obtain ⟨_,g⟩:=Bl ea
   rw [IB]
   intro c hc
   obtain ⟨i,hi,rfl⟩:=pz.mp hc
   obtain ⟨x,y,ex,ey,YI⟩:=zip_get (g i _ (rf hi))
   obtain ⟨z,ez,iz⟩:=a1.get ex
   obtain ⟨z',NO,Xy⟩:=a2.get ey
   rw [ez] at NO
   cases NO
   exact ih iz Xy YI
  have h:=h.nZ
  have h':=h'.nZ
  cases d<;>cases d'<;>simp only [Cp] at h h'<;>simp only [bg,eqT,c8,yG,N7,oh,dJ,reduceCtorEq] at e<;>first
   | (subst h;cases h';exact e.symm)
   | (subst h;cases h';rw [<-e];simp;done)
   | (subst h;cases h';done)
   | (subst h;obtain ⟨_,_,h',_⟩:=h';cases h';done)
   | (subst h';obtain ⟨_,_,h,_⟩:=h;cases h;done)
   | (obtain ⟨_,_,rfl,h,_⟩:=h;obtain ⟨_,_,hr,h',_⟩:=h';cases hr;first | exact (E3 I h h').elim | exact (E3 I h' h).elim)
   | skip
  .obtain ⟨_,xs,rfl,h,a1⟩:=h
   obtain ⟨_,ys,hr,h',a2⟩:=h'
   cases hr
   cases I.fR h h'
   obtain ⟨bs,e1,rfl⟩:=map_some e
   rw [key a1 a2 e1,<-a1.length,<-a2.length]
   simp
  .obtain ⟨_,xs,rfl,h,a1⟩:=h
   obtain ⟨_,ys,hr,h',a2⟩:=h'
   cases hr
   cases I.gJ h h'
   rw [if_pos (by rw [<-a1.length,<-a2.length])] at e
   obtain ⟨bs,e1,rfl⟩:=map_some e
   exact key a1 a2 e1
theorem Qv{xs:List V}{ar:List Value}{O:Addr->Prop}{K:aM}{ds:List D}(r:aC xs ar)(a:aN K O H xs ds){j:Nat}(h:j<ar.toArray.size):∃d v,ds[j]?=some d/\Is K O H v d/\RelV v ar.toArray[j]:=by
 have hj:j<ar.length:=by simpa using h
 have hl:=r.length
 obtain ⟨d,hd,hv⟩:=a.uE (i:=j) (x:=xs[j]'(by ext hj hl)) (rf (by ext hj hl))
 obtain ⟨u,hu,ru⟩:=r.get (i:=j) (x:=xs[j]'(by ext hj hl)) (rf (by ext hj hl))
 rw [rf hj] at hu
 refine ⟨d,_,hd,hv,?_⟩
 rw [List.getElem_toArray,cG hu]
 exact ru
open PySem.SeqAt in
theorem Px(I:Inv X pins σ H s)(hu:A.units<cLine)(h:Cp X.K O H v d)(h':Cp X.K O' H v' d')(r:RelV v u)(r':RelV v' u')(e:bg n d d'=some b)
  (hn:(∀a c,d=.tup a->d'=.tup c->False)/\∀a c r r',d=.lst r a->d'=.lst r' c->False):EqAt A s u u' b/\RcAt A s u u' b/\RcNeAt A s u u' (!b):=by
 cases d with
 | bz =>
  cases d' with
  | bz =>
   subst h;obtain rfl:u=fY:=r
   subst h';obtain rfl:u'=fY:=r'
   simp only [bg,eqT,c8,dJ] at e
   subst e
   exact ⟨EqAt.same _,RcAt.none_none,RcNeAt.none_none⟩
  | bl k' =>
   subst h;obtain rfl:u=fY:=r
   subst h';obtain rfl:u'=mh k':=r'
   simp only [bg,eqT,c8,dJ] at e
   subst e
   exact ⟨EqAt.none_bool k',RcAt.none_bool k',RcNeAt.none_bool k'⟩
  | int k' =>
   subst h;obtain rfl:u=fY:=r
   subst h';obtain ⟨t',rfl⟩:=r'
   simp only [bg,eqT,c8,dJ] at e
   subst e
   exact ⟨EqAt.none_int k' t',RcAt.none_int k' t',RcNeAt.none_int k' t'⟩
  | str k' =>
   subst h;obtain rfl:u=fY:=r
   subst h';obtain ⟨t',rfl⟩:=r'
   simp only [bg,eqT,c8,dJ] at e
   subst e
   exact ⟨EqAt.none_str k' t',RcAt.none_str k' t',RcNeAt.none_str k' t'⟩
  | tup gc =>
   subst h;obtain rfl:u=fY:=r
   obtain ⟨p',jk,rfl,dH,_⟩:=h';obtain ⟨its',_,bw,_⟩:=I.tuple dH;obtain rfl:u'=eI p':=r';replace bw:s.heap.IsTuple p' its'.toArray:=bw
   simp only [bg,eqT,c8,dJ] at e
   subst e
   exact ⟨EqAt.none_tuple bw hu,RcAt.none_tuple bw hu,RcNeAt.none_tuple bw hu⟩
  | lst oK gc =>
   subst h;obtain rfl:u=fY:=r
   obtain ⟨p',jk,rfl,dH,_⟩:=h';obtain ⟨its',_,bw,_⟩:=I.list dH;obtain rfl:u'=eI p':=r';replace bw:=bw.isList
   simp only [bg,eqT,c8,dJ] at e
   subst e
   exact ⟨EqAt.none_list bw hu,RcAt.none_list bw hu,RcNeAt.none_list bw hu⟩
  | exc n'=>simp [bg] at e
  | fL n' m'=>simp [bg] at e
 | bl k =>
  cases d' with
  | bz =>
   subst h;obtain rfl:u=mh k:=r
   subst h';obtain rfl:u'=fY:=r'
   simp only [bg,eqT,c8,dJ] at e
   subst e
   exact ⟨EqAt.bool_none k,RcAt.bool_none k,RcNeAt.bool_none k⟩
  | bl k' =>
   subst h;obtain rfl:u=mh k:=r
   subst h';obtain rfl:u'=mh k':=r'
   simp only [bg,eqT,c8,dJ] at e
   subst e
   exact ⟨EqAt.bool_bool k k',RcAt.bool_bool k k',RcNeAt.bool_bool k k'⟩
  | int k' =>
   subst h;obtain rfl:u=mh k:=r
   subst h';obtain ⟨t',rfl⟩:=r'
   simp only [bg,eqT,c8,dJ] at e
   subst e
   exact ⟨EqAt.bool_int k k' t',RcAt.bool_int k k' t',RcNeAt.bool_int k k' t'⟩
  | str k' =>
   subst h;obtain rfl:u=mh k:=r
   subst h';obtain ⟨t',rfl⟩:=r'
   simp only [bg,eqT,c8,dJ] at e
   subst e
   exact ⟨EqAt.bool_str k k' t',RcAt.bool_str k k' t',RcNeAt.bool_str k k' t'⟩
  | tup gc =>
   subst h;obtain rfl:u=mh k:=r
   obtain ⟨p',jk,rfl,dH,_⟩:=h';obtain ⟨its',_,bw,_⟩:=I.tuple dH;obtain rfl:u'=eI p':=r';replace bw:s.heap.IsTuple p' its'.toArray:=bw
   simp only [bg,eqT,c8,dJ] at e
   subst e
   exact ⟨EqAt.bool_tuple k bw hu,RcAt.bool_tuple k bw hu,RcNeAt.bool_tuple k bw hu⟩
  | lst oK gc =>
   subst h;obtain rfl:u=mh k:=r
   obtain ⟨p',jk,rfl,dH,_⟩:=h';obtain ⟨its',_,bw,_⟩:=I.list dH;obtain rfl:u'=eI p':=r';replace bw:=bw.isList
   simp only [bg,eqT,c8,dJ] at e
   subst e
   exact ⟨EqAt.bool_list k bw hu,RcAt.bool_list k bw hu,RcNeAt.bool_list k bw hu⟩
  | exc n'=>simp [bg] at e
  | fL n' m'=>simp [bg] at e
 | int k =>
  cases d' with
  | bz =>
   subst h;obtain ⟨t,rfl⟩:=r
   subst h';obtain rfl:u'=fY:=r'
   simp only [bg,eqT,c8,dJ] at e
   subst e
   exact ⟨EqAt.int_none k t,RcAt.int_none k t,RcNeAt.int_none k t⟩
  | bl k' =>
   subst h;obtain ⟨t,rfl⟩:=r
   subst h';obtain rfl:u'=mh k':=r'
   simp only [bg,eqT,c8,dJ] at e
   subst e
   exact ⟨EqAt.int_bool k t k',RcAt.int_bool k t k',RcNeAt.int_bool k t k'⟩
  | int k' =>
   subst h;obtain ⟨t,rfl⟩:=r
   subst h';obtain ⟨t',rfl⟩:=r'
   simp only [bg,eqT,c8,dJ] at e
   subst e
   exact ⟨EqAt.int_int k t k' t',RcAt.int_int k t k' t',RcNeAt.int_int k t k' t'⟩
  | str k' =>
   subst h;obtain ⟨t,rfl⟩:=r
   subst h';obtain ⟨t',rfl⟩:=r'
   simp only [bg,eqT,c8,dJ] at e
   subst e
   exact ⟨EqAt.int_str k t k' t',RcAt.int_str k t k' t',RcNeAt.int_str k t k' t'⟩
  | tup gc =>
   subst h;obtain ⟨t,rfl⟩:=r
   obtain ⟨p',jk,rfl,dH,_⟩:=h';obtain ⟨its',_,bw,_⟩:=I.tuple dH;obtain rfl:u'=eI p':=r';replace bw:s.heap.IsTuple p' its'.toArray:=bw
   simp only [bg,eqT,c8,dJ] at e
   subst e
   exact ⟨EqAt.int_tuple k t bw hu,RcAt.int_tuple k t bw hu,RcNeAt.int_tuple k t bw hu⟩
  | lst oK gc =>
   subst h;obtain ⟨t,rfl⟩:=r
   obtain ⟨p',jk,rfl,dH,_⟩:=h';obtain ⟨its',_,bw,_⟩:=I.list dH;obtain rfl:u'=eI p':=r';replace bw:=bw.isList
   simp only [bg,eqT,c8,dJ] at e
   subst e
   exact ⟨EqAt.int_list k t bw hu,RcAt.int_list k t bw hu,RcNeAt.int_list k t bw hu⟩
  | exc n'=>simp [bg] at e
  | fL n' m'=>simp [bg] at e
 | str k =>
  cases d' with
  | bz =>
   subst h;obtain ⟨t,rfl⟩:=r
   subst h';obtain rfl:u'=fY:=r'
   simp only [bg,eqT,c8,dJ] at e
   subst e
   exact ⟨EqAt.str_none k t,RcAt.str_none k t,RcNeAt.str_none k t⟩
  | bl k' =>
   subst h;obtain ⟨t,rfl⟩:=r
   subst h';obtain rfl:u'=mh k':=r'
   simp only [bg,eqT,c8,dJ] at e
   subst e
   exact ⟨EqAt.str_bool k t k',RcAt.str_bool k t k',RcNeAt.str_bool k t k'⟩
  | int k' =>
   subst h;obtain ⟨t,rfl⟩:=r
   subst h';obtain ⟨t',rfl⟩:=r'
   simp only [bg,eqT,c8,dJ] at e
   subst e
   exact ⟨EqAt.str_int k t k' t',RcAt.str_int k t k' t',RcNeAt.str_int k t k' t'⟩
  | str k' =>
   subst h;obtain ⟨t,rfl⟩:=r
   subst h';obtain ⟨t',rfl⟩:=r'
   simp only [bg,eqT,c8,dJ] at e
   subst e
   exact ⟨EqAt.str_str k t k' t',RcAt.str_str k t k' t',RcNeAt.str_str k t k' t'⟩
  | tup gc =>
   subst h;obtain ⟨t,rfl⟩:=r
   obtain ⟨p',jk,rfl,dH,_⟩:=h';obtain ⟨its',_,bw,_⟩:=I.tuple dH;obtain rfl:u'=eI p':=r';replace bw:s.heap.IsTuple p' its'.toArray:=bw
   simp only [bg,eqT,c8,dJ] at e
   subst e
   exact ⟨EqAt.str_tuple k t bw hu,RcAt.str_tuple k t bw hu,RcNeAt.str_tuple k t bw hu⟩
  | lst oK gc =>
   subst h;obtain ⟨t,rfl⟩:=r
   obtain ⟨p',jk,rfl,dH,_⟩:=h';obtain ⟨its',_,bw,_⟩:=I.list dH;obtain rfl:u'=eI p':=r';replace bw:=bw.isList
   simp only [bg,eqT,c8,dJ] at e
   subst e
   exact ⟨EqAt.str_list k t bw hu,RcAt.str_list k t bw hu,RcNeAt.str_list k t bw hu⟩
  | exc n'=>simp [bg] at e
  | fL n' m'=>simp [bg] at e
 | tup ds =>
  cases d' with
  | bz =>
   obtain ⟨p,xs,rfl,hq,_⟩:=h;obtain ⟨ar,_,pl,_⟩:=I.tuple hq;obtain rfl:u=eI p:=r;replace pl:s.heap.IsTuple p ar.toArray:=pl
   subst h';obtain rfl:u'=fY:=r'
   simp only [bg,eqT,c8,dJ] at e
   subst e
   exact ⟨EqAt.tuple_none pl hu,RcAt.tuple_none pl hu,RcNeAt.tuple_none pl hu⟩
  | bl k' =>
   obtain ⟨p,xs,rfl,hq,_⟩:=h;obtain ⟨ar,_,pl,_⟩:=I.tuple hq;obtain rfl:u=eI p:=r;replace pl:s.heap.IsTuple p ar.toArray:=pl
   subst h';obtain rfl:u'=mh k':=r'
   simp only [bg,eqT,c8,dJ] at e
   subst e
   exact ⟨EqAt.tuple_bool k' pl hu,RcAt.tuple_bool k' pl hu,RcNeAt.tuple_bool k' pl hu⟩
  | int k' =>
   obtain ⟨p,xs,rfl,hq,_⟩:=h;obtain ⟨ar,_,pl,_⟩:=I.tuple hq;obtain rfl:u=eI p:=r;replace pl:s.heap.IsTuple p ar.toArray:=pl
   subst h';obtain ⟨t',rfl⟩:=r'
   simp only [bg,eqT,c8,dJ] at e
   subst e
   exact ⟨EqAt.tuple_int k' t' pl hu,RcAt.tuple_int k' t' pl hu,RcNeAt.tuple_int k' t' pl hu⟩
  | str k' =>
   obtain ⟨p,xs,rfl,hq,_⟩:=h;obtain ⟨ar,_,pl,_⟩:=I.tuple hq;obtain rfl:u=eI p:=r;replace pl:s.heap.IsTuple p ar.toArray:=pl
   subst h';obtain ⟨t',rfl⟩:=r'
   simp only [bg,eqT,c8,dJ] at e
   subst e
   exact ⟨EqAt.tuple_str k' t' pl hu,RcAt.tuple_str k' t' pl hu,RcNeAt.tuple_str k' t' pl hu⟩
  | tup gc=>exact (hn.1 _ _ rfl rfl).elim
  | lst oK gc =>
   obtain ⟨p,xs,rfl,hq,_⟩:=h;obtain ⟨ar,_,pl,_⟩:=I.tuple hq;obtain rfl:u=eI p:=r;replace pl:s.heap.IsTuple p ar.toArray:=pl
   obtain ⟨p',jk,rfl,dH,_⟩:=h';obtain ⟨its',_,bw,_⟩:=I.list dH;obtain rfl:u'=eI p':=r';replace bw:=bw.isList
   simp only [bg,eqT,c8,dJ] at e
   subst e
   exact ⟨EqAt.tuple_list pl bw hu,RcAt.tuple_list pl bw hu,RcNeAt.tuple_list pl bw hu⟩
  | exc n'=>simp [bg] at e
  | fL n' m'=>simp [bg] at e
 | lst ro ds =>
  cases d' with
  | bz =>
   obtain ⟨p,xs,rfl,hq,_⟩:=h;obtain ⟨ar,_,pl,_⟩:=I.list hq;obtain rfl:u=eI p:=r;replace pl:=pl.isList
   subst h';obtain rfl:u'=fY:=r'
   simp only [bg,eqT,c8,dJ] at e
   subst e
   exact ⟨EqAt.list_none pl hu,RcAt.list_none pl hu,RcNeAt.list_none pl hu⟩
  | bl k' =>
   obtain ⟨p,xs,rfl,hq,_⟩:=h;obtain ⟨ar,_,pl,_⟩:=I.list hq;obtain rfl:u=eI p:=r;replace pl:=pl.isList
   subst h';obtain rfl:u'=mh k':=r'
   simp only [bg,eqT,c8,dJ] at e
   subst e
   exact ⟨EqAt.list_bool k' pl hu,RcAt.list_bool k' pl hu,RcNeAt.list_bool k' pl hu⟩
  | int k' =>
   obtain ⟨p,xs,rfl,hq,_⟩:=h;obtain ⟨ar,_,pl,_⟩:=I.list hq;obtain rfl:u=eI p:=r;replace pl:=pl.isList
   subst h';obtain ⟨t',rfl⟩:=r'
   simp only [bg,eqT,c8,dJ] at e
   subst e
   exact ⟨EqAt.list_int k' t' pl hu,RcAt.list_int k' t' pl hu,RcNeAt.list_int k' t' pl hu⟩
  | str k' =>
   obtain ⟨p,xs,rfl,hq,_⟩:=h;obtain ⟨ar,_,pl,_⟩:=I.list hq;obtain rfl:u=eI p:=r;replace pl:=pl.isList
   subst h';obtain ⟨t',rfl⟩:=r'
   simp only [bg,eqT,c8,dJ] at e
   subst e
   exact ⟨EqAt.list_str k' t' pl hu,RcAt.list_str k' t' pl hu,RcNeAt.list_str k' t' pl hu⟩
  | tup gc =>
   obtain ⟨p,xs,rfl,hq,_⟩:=h;obtain ⟨ar,_,pl,_⟩:=I.list hq;obtain rfl:u=eI p:=r;replace pl:=pl.isList
   obtain ⟨p',jk,rfl,dH,_⟩:=h';obtain ⟨its',_,bw,_⟩:=I.tuple dH;obtain rfl:u'=eI p':=r';replace bw:s.heap.IsTuple p' its'.toArray:=bw
   simp only [bg,eqT,c8,dJ] at e
   subst e
   exact ⟨EqAt.list_tuple pl bw hu,RcAt.list_tuple pl bw hu,RcNeAt.list_tuple pl bw hu⟩
  | lst oK gc=>exact (hn.2 _ _ _ _ rfl rfl).elim
  | exc n'=>simp [bg] at e
  | fL n' m'=>simp [bg] at e
 | exc n=>cases d'<;>simp [bg] at e
 | fL n m=>cases d'<;>simp [bg] at e
open PySem.SeqAt in
theorem Pp(I:Inv X pins σ H s):∀(n:Nat) {A:Around} {u u':Value} {v v':V} {d d':D} {b:Bool},A.units+n<cLine->Is X.K O H v d->Is X.K O' H v' d'->RelV v u->RelV v' u'->bg n d d'=some b ->
  EqAt A s u u' b/\RcAt A s u u' b/\RcNeAt A s u u' (!b):=by
 intro n
 induction n with
 | zero =>
  intro A u u' v v' d d' b hu h h' r r' e
  refine Px I ‹_› h.nZ h'.nZ r r' e ⟨?_,?_⟩
  .rintro a c rfl rfl;simp [bg] at e
  .rintro a c ro oK rfl rfl;simp [bg] at e
 | succ n ih =>
  intro A u u' v v' d d' b hu h h' r r' e
  have elems:∀{xs ys:List V} {ar cj:List Value} {ds es:List D} {bs:List Bool},aC xs ar->aC ys cj->aN X.K O H xs ds->aN X.K O' H ys es->eW (kn (bg n) ds es)=some bs ->
    ∀j (h1:j<ar.toArray.size) (h2:j<cj.toArray.size),EqAt A.in1 s ar.toArray[j] cj.toArray[j] (bs.getD j false):=λ{xs ys ar cj ds es bs} rx ry ax ay ea j h1 h2=>by
   obtain ⟨d1,v1,e1,i1,r1⟩:=Qv rx ax h1
   obtain ⟨d2,v2,e2,i2,r2⟩:=Qv ry ay h2
   obtain ⟨hl,g⟩:=Bl ea
   have hz:(kn (bg n) ds es)[j]?=some (bg n d1 d2):=by rw [IX,e1,e2]
   have hj:j<bs.length:=by rw [<-hl];exact (lC.mp hz).1
   have:=g j bs[j] (rf hj)
   rw [hz] at this
   have e3:bs.getD j false=bs[j]:=by simp [hj]
   rw [e3]
   exact (ih (A:=A.in1) (by show A.units+1+n<_;ext hu) i1 i2 r1 r2 (cG this)).1
  by_cases ht:∃a c,d=.tup a/\d'=.tup c
  .obtain ⟨ds,es,rfl,rfl⟩:=ht
   obtain ⟨bs,e1,rfl⟩:=map_some (show (eW (kn (bg n) ds es)).map (λbs=>bs.all id&&decide (ds.length=es.length))=some b from e)
   obtain ⟨p,xs,rfl,hq,ax⟩:=h.nZ
   obtain ⟨p',ys,rfl,dH,ay⟩:=h'.nZ
   obtain ⟨ar,rx,pl,_⟩:=I.tuple hq
   obtain ⟨cj,ry,bw,_⟩:=I.tuple dH
   obtain rfl:u=eI p:=r
   obtain rfl:u'=eI p':=r'
   have pl:s.heap.IsTuple p ar.toArray:=pl
   have bw:s.heap.IsTuple p' cj.toArray:=bw
   have hlen:bs.length=min ds.length es.length:=by rw [<-(Bl e1).1,I9]
   have l1:ar.toArray.size=ds.length:=by rw [dE,<-rx.length,ax.length]
   have l2:cj.toArray.size=es.length:=by rw [dE,<-ry.length,ay.length]
   have val:((ko (min ar.toArray.size cj.toArray.size)).all (λj=>bs.getD j false)&&ar.toArray.size==cj.toArray.size)=(bs.all id&&decide (ds.length=es.length)):=by
    rw [l1,l2,all_range hlen]
    rfl
   have rc:=RcAt.tuples pl bw (by ext hu) (elems rx ry ax ay e1)
   have rn:=RcNeAt.tuples pl bw (by ext hu) (elems rx ry ax ay e1)
   rw [val] at rc rn
   refine ⟨?_,rc,rn⟩
   by_cases hp:p=p'
   .subst hp
    have:=QD I (n+1) h h' (show bg (n+1) (.tup ds) (.tup es)=some (bs.all id&&decide (ds.length=es.length)) by show (eW (kn (bg n) ds es)).map (λbs=>bs.all id&&decide (ds.length=es.length))=_;rw [e1];rfl)
    rw [this]
    exact EqAt.same _
   .exact .of_refs hp rc
  by_cases hl:∃a c ro oK,d=.lst ro a/\d'=.lst oK c
  .obtain ⟨ds,es,ro,oK,rfl,rfl⟩:=hl
   have e0:=e
   replace e:(if ds.length=es.length then (eW (kn (bg n) ds es)).map λbs=>bs.all id else some false)=some b:=e
   obtain ⟨p,xs,rfl,hq,ax⟩:=h.nZ
   obtain ⟨p',ys,rfl,dH,ay⟩:=h'.nZ
   obtain ⟨ar,rx,pl,_⟩:=I.list hq
   obtain ⟨cj,ry,bw,_⟩:=I.list dH
   obtain rfl:u=eI p:=r
   obtain rfl:u'=eI p':=r'
   have l1:ar.toArray.size=ds.length:=by rw [dE,<-rx.length,ax.length]
   have l2:cj.toArray.size=es.length:=by rw [dE,<-ry.length,ay.length]
   have fin:RcAt A s (.ref p) (.ref p') b->RcNeAt A s (.ref p) (.ref p') (!b)->EqAt A s (.ref p) (.ref p') b/\RcAt A s (.ref p) (.ref p') b/\RcNeAt A s (.ref p) (.ref p') (!b):=λrc rn=>by
    refine ⟨?_,rc,rn⟩
    by_cases hp:p=p'
    .subst hp
     rw [QD I (n+1) h h' e0]
     exact EqAt.same _
    .exact .of_refs hp rc
   by_cases hlen:ds.length=es.length
   .rw [if_pos hlen] at e
    obtain ⟨bs,e1,rfl⟩:=map_some e
    have ux:bs.length=ds.length:=by rw [<-(Bl e1).1,I9];ext hlen
    have rc:=RcAt.lists pl.isList bw.isList (by ext l1 l2 hlen) (by ext hu) (elems rx ry ax ay e1)
    have rn:=RcNeAt.lists pl.isList bw.isList (by ext l1 l2 hlen) (by ext hu) (elems rx ry ax ay e1)
    rw [l1,all_range ux] at rc rn
    exact fin rc rn
   .rw [if_neg hlen] at e
    cases e
    have aV:(ar.toArray.size != cj.toArray.size)=true:=by rw [l1,l2];simpa using hlen
    exact fin (RcAt.lists_lengths pl.isList bw.isList aV (by ext hu)) (RcNeAt.lists_lengths pl.isList bw.isList aV (by ext hu))
  refine Px I (by ext hu) h.nZ h'.nZ r r' e ⟨λa c e1 e2=>ht ⟨a,c,e1,e2⟩,λa c ro oK e1 e2=>hl ⟨a,c,ro,oK,e1,e2⟩⟩
noncomputable def cZ:D->D->Option Sl:=λa b=>(bg 8 a b).map λk=>.sh (.bl k)
noncomputable def iD:D->D->Option Sl:=λa b=>(bg 8 a b).map λk=>.sh (.bl !k)
theorem mW(hu:X.A.units+8<cLine):iZ X (compareOp .Eq) cZ:=by
 refine ⟨λx y H Q=>∃O O' a b k,Is X.K O H x a/\Is X.K O' H y b/\bg 8 a b=some k/\Q (.bl k) H,?_,λO H x y a b s Q hO hx hy e q=>?_⟩
 .intro pins s σ H x y v u Q I rx ry h
  obtain ⟨O,O',a,b,k,hx,hy,e,q⟩:=h
  exact (Pp I 8 hu hx hy rx ry e).2.1 _ _ _ _ ⟨.bl k,H,I,rfl,q⟩
 .obtain ⟨k,e1,rfl⟩:=map_some e
  exact ⟨O,O,a,b,k,hx,hy,e1,q _ H (au.refl _) (Is.bl _)⟩
theorem Es(hu:X.A.units+8<cLine):iZ X (compareOp .NotEq) iD:=by
 refine ⟨λx y H Q=>∃O O' a b k,Is X.K O H x a/\Is X.K O' H y b/\bg 8 a b=some k/\Q (.bl !k) H,?_,λO H x y a b s Q hO hx hy e q=>?_⟩
 .intro pins s σ H x y v u Q I rx ry h
  obtain ⟨O,O',a,b,k,hx,hy,e,q⟩:=h
  exact (Pp I 8 hu hx hy rx ry e).2.2 _ _ _ _ ⟨.bl _,H,I,rfl,q⟩
 .obtain ⟨k,e1,rfl⟩:=map_some e
  exact ⟨O,O,a,b,k,hx,hy,e1,q _ H (au.refl _) (Is.bl _)⟩
end
theorem Fx.u8{X:Cx}{N:List Str}{sc:Scope}{k:Nat}{full:Bool}(h:Fx X N sc k full):X.A.units+8<cLine:=by have:=h.room.un;ext this
end DL
namespace DL
open PySem PySem.Spec PyProof.Rows L2
theorem b1h{P:Program}{w:World}{K:aM}{tg:Expr}(it:Addr)(lo:Int)(n:Nat):Turn P w K tg (nW lo n) [it] it (λi h=>IsLongIter h it (lo+(i:Nat)*1) ((n:Int)-(i:Nat)) 1) where
 mem:=by simp
 obj:=λi h st b hb=>by
  have e:b=it:=by simpa using hb
  subst e
  exact ⟨_,st,λv z=>by
   have z':Dq _=wy v:=z
   cases z'⟩
 keep:=λi h h' st k=>k it (by simp) _ st
 item:=by
  intro X hP hw hK hc i pins s σ H E I hf st hg
  subst hP hw hK
  obtain ⟨f0,f1,f2,f3,f4,f5⟩:=hf it (by simp)
  have W:=Walks.longrange (prog:=X.prog) (w:=X.w) (I.ok.hd hc) it lo 1 n
  refine W.item i s _ _ hg st λv h' tk hv aj kk=>?_
  obtain ⟨t,rfl⟩:=hv
  have I1:Inv X pins σ H { s with heap:=h',toks:=tk }:=I.turned (λb o hb e=>kk b o (by simpa using hb) e) f0 f1 f3 f4 f5
  refine ⟨_,rfl,Ej (s:={ s with heap:=h',toks:=tk }) (n:="longrange_iterator") aj rfl rfl (by decide) ⟨.int (lo+i),H,I1,⟨t,?_⟩,⟨rfl,rfl⟩,aj,λb hb=>(hf b hb).1⟩⟩
  rw [wH]
 done:=by
  intro X hP hw hK hc i pins s σ H E I hf st hg
  subst hP hw hK
  obtain ⟨f0,f1,f2,f3,f4,f5⟩:=hf it (by simp)
  exact wpAny_pyNext_long_end (I.ok.hd hc) st (by have:n<=i:=hg;ext this) λh' eb=>⟨rfl,I.turned (t':=s.toks) (λb o hb e=>eb b o hb e) f0 f1 f3 f4 f5⟩
 self:=λ_ _ _ _ _ st h=>wpAny_pyIter_longiter st h
section
variable {X:Cx}{tg:Expr}
theorem b1O{pins:List (Addr×Obj)}{σ:L2.St}{H:Hp}{s:Shared}{R:It->Hp->Prop}{E:Value->Shared->Prop}{lo hi:Int}{t u v:Tok}{tk:Nat}(I:Inv X pins σ H s)
  (q:R (nW lo (hi-lo).toNat) H):wpAny (model X.prog X.w) X.A (pyIter (.ref s.heap.objs.size)) (MH X pins σ tg R) E { s with heap:=s.heap.push { cls:=.type "range",data:=.fields #[.int lo t,.int hi u,.int 1 v] },toks:=tk }:=by
 have I1:Inv X pins σ H { s with heap:=s.heap.push { cls:=.type "range",data:=.fields #[.int lo t,.int hi u,.int 1 v] },toks:=tk }:=I.kept λb o e=>bR _ e
 have e1:lo+((0:Nat):Int)*1=lo:=by simp
 have e2:(((hi-lo).toNat:Nat):Int)-((0:Nat):Int)=Om lo hi 1:=by rw [rangeSize_one];split<;>lia
 have fin:∀b∈[(s.heap.push { cls:=.type "range",data:=.fields #[.int lo t,.int hi u,.int 1 v] }).objs.size],cV X pins H b:=λb hb=>by
  have e:b=(s.heap.push { cls:=.type "range",data:=.fields #[.int lo t,.int hi u,.int 1 v] }).objs.size:=by simpa using hb
  subst e
  exact I1.jy (bp _) (I1.bt.fresh (bp _))
 by_cases Nk:Builtin.Range.small lo hi 1=true
 .refine wpAny_pyIter_range (Iq ..) Nk ?_
  refine ⟨_,[(s.heap.push { cls:=.type "range",data:=.fields #[.int lo t,.int hi u,.int 1 v] }).objs.size],_,_,H,rfl,I1.kept (t':=tk) λb o e=>bR _ e,RO _ lo (hi-lo).toNat,?_,fin,q⟩
  show IsRangeIter _ _ (lo+((0:Nat):Int)*1) ((((hi-lo).toNat:Nat):Int)-((0:Nat):Int)) 1
  rw [e1,e2]
  exact fN _ rfl
 .refine wpAny_pyIter_longrange (Iq ..) (by simpa using Nk) ?_
  refine ⟨_,[(s.heap.push { cls:=.type "range",data:=.fields #[.int lo t,.int hi u,.int 1 v] }).objs.size],_,_,H,rfl,I1.kept (t':=tk) λb o e=>bR _ e,b1h _ lo (hi-lo).toNat,?_,fin,q⟩
  show IsLongIter _ _ (lo+((0:Nat):Int)*1) ((((hi-lo).toNat:Nat):Int)-((0:Nat):Int)) 1
  rw [e1,e2]
  exact fN _ rfl
noncomputable def b8o(ta:TA):TI:=λσ H R=>ta σ H λvs H1=>∃j:Int,vs=[.int j]/\R (nW 0 j.toNat) H1
theorem b0Q(hg:Gl X "range")(hm:X.mg "range" = none)(ha:PA X [a] ta)(hs:starEach [a] X.env=[(false,eval a X.env)]:=by rfl):PI X tg (.Call (.Name "range" p) [a] [] pos) (b8o ta):=by
 intro pins s σ H R I h
 refine Call_ (s9 I hg hm boot_range (AX (bE (ha pos pins s σ H _ I h) λus s1 ⟨vs,H1,I1,r1,q1⟩=>?_) hs rfl))
 obtain ⟨j,e,q⟩:=q1
 subst e
 cases r1 with
 | cons r rr =>
  cases rr
  obtain ⟨t,rfl⟩:=r
  exact call_range_1 (b1O I1 (by simpa using q))
noncomputable def D9:List D->Option (List D)
 | [.int j]=>some (fx 0 j.toNat)
 | _=>none
theorem b30(uu:Gl X "range")(hm:X.mg "range" = none)(ha:AV X [a] fs)(h1:starEach [a] X.env=[(false,eval a X.env)]:=by rfl):IV X tg (.Call (.Name "range" p) [a] [] pos) (kf D9 fs):=by
 obtain ⟨ti,pi,ki⟩:=ha
 refine ⟨_,b0Q uu hm pi h1,λO B σ H env ds R Rl e q=>?_⟩
 obtain ⟨as,e1,e2⟩:=bind_some e
 refine ki O B σ H env as _ Rl e1 λvs H1 s1 r1=>?_
 unfold D9 at e2
 split at e2
 .cases e2
  exact ⟨_,QI r1,q _ H1 s1 (b3s _ _)⟩
 .cases e2
end
end DL
namespace DL
open PySem PySem.Spec PyProof.Rows L2
noncomputable def lV(b:Bool):String:=if b then "list_iterator" else "tuple_iterator"
def fw(b:Bool)(h:Heap)(it l:Addr)(k:Nat):Prop:=match b with
 | true=>h.IsListIter it l k
 | false=>h.IsTupleIter it l k
def gF(b:Bool)(h:Heap)(l:Addr)(items:Array Value):Prop:=match b with
 | true=>h.IsList l items
 | false=>h.IsTuple l items
theorem fw.keep(x:fw b h it l k)(e:∀o,h.get? it=some o->h'.get? it=some o):fw b h' it l k:=by
 cases b with
 | true=>obtain ⟨o,ho,r⟩:=x;exact ⟨o,e _ ho,r⟩
 | false=>obtain ⟨o,ho,r⟩:=x;exact ⟨o,e _ ho,r⟩
theorem gF.keep(x:gF b h l items)(e:∀o,h.get? l=some o->h'.get? l=some o):gF b h' l items:=by
 cases b with
 | true=>obtain ⟨o,ho,r⟩:=x;exact ⟨o,e _ ho,r⟩
 | false=>obtain ⟨o,ho,r⟩:=x;exact ⟨o,e _ ho,r⟩
theorem fw.lt(x:fw b h it l k):it<h.objs.size:=by
 cases b with
 | true=>obtain ⟨o,ho,r⟩:=x;exact bY ho
 | false=>obtain ⟨o,ho,r⟩:=x;exact bY ho
theorem gF.lt(x:gF b h l items):l<h.objs.size:=by
 cases b with
 | true=>obtain ⟨o,ho,r⟩:=x;exact bY ho
 | false=>obtain ⟨o,ho,r⟩:=x;exact bY ho
theorem fw.jo(x:fw b h it l k):∃o,h.get? it=some o/\∀v,o.data≠.cell v:=by
 cases b with
 | true=>obtain ⟨o,ho,_,d⟩:=x;exact ⟨o,ho,λv z=>by rw [d] at z;cases z⟩
 | false=>obtain ⟨o,ho,_,d⟩:=x;exact ⟨o,ho,λv z=>by rw [d] at z;cases z⟩
section
variable {prog:Program}{w:World}{A:Around}{E:Value->Shared->Prop}{s:Shared}
theorem E2(hit:fw b s.heap it l i)(hl:gF b s.heap l items)(hx:items[i]?=some x)
  (hQ:∀h',fw b h' it l (i+1)->AO it s.heap h'->Q x { s with heap:=h' }):wpAny (model prog w) A (sS (.ref it)) Q E s:=by
 cases b with
 | true=>exact wpAny_nextOf_list_item hit hl hx hQ
 | false =>
  have gR:s.heap.IsTupleIter it l i:=hit
  obtain ⟨o,ho,hc,hd⟩:=id gR
  obtain ⟨ol,Hg,_,nl,wu⟩:=(show s.heap.IsTuple l items from hl)
  unfold sS
  refine aB (wW (name:=qS "__next__") gR.typeIs D2 (u5 D2 gR.typeIs OQ ?_ (OJ _)))
  show wpAny _ _ (field (.ref it) 0 >>= _) _ _ s
  refine aB (ly ho hd (x:=.ref l) rfl ?_)
  show wpAny _ _ (if (eI l==fY)=true then _ else _) _ _ s
  rw [if_neg (show ¬((eI l==fY)=true) from nJ)]
  show wpAny _ _ (field (.ref it) 1 >>= _) _ _ s
  refine aB (ly ho hd (x:=.int i 0) rfl ?_)
  show wpAny _ _ (seqItems? (.ref l) >>= _) _ _ s
  refine aB (sM Hg wu ?_)
  simp only [Jd,hx]
  refine aB (wpAny_setField ho hd (by simp) (bI ⟨x,rfl,bI (hQ _ ?_ (Ou ..))⟩))
  exact ⟨_,Of _ ho (Obj.isFreed_of_fields (Obj.data_mapFields hd _)),(Obj.cls_mapFields ..).trans hc,by rw [Obj.data_mapFields hd];simp [rawInt]⟩
theorem EJ(hh:A.handled=none)(hit:fw b s.heap it l i)(hl:gF b s.heap l items)(hx:items[i]?=none)
  (hE:∀h' e,Heap.ExtBut it s.heap h'->(∃o,h'.get? e=some o/\o.cls=.type "StopIteration")->E (.ref e) { s with heap:=h' }):wpAny (model prog w) A (sS (.ref it)) Q E s:=by
 cases b with
 | true=>exact wpAny_nextOf_list_end hh hit hl hx hE
 | false =>
  have gR:s.heap.IsTupleIter it l i:=hit
  obtain ⟨o,ho,hc,hd⟩:=id gR
  obtain ⟨ol,Hg,_,nl,wu⟩:=(show s.heap.IsTuple l items from hl)
  unfold sS
  refine aB (wW (name:=qS "__next__") gR.typeIs D2 (u5 D2 gR.typeIs OQ ?_ (OJ _)))
  show wpAny _ _ (field (.ref it) 0 >>= _) _ _ s
  refine aB (ly ho hd (x:=.ref l) rfl ?_)
  show wpAny _ _ (if (eI l==fY)=true then _ else _) _ _ s
  rw [if_neg (show ¬((eI l==fY)=true) from nJ)]
  show wpAny _ _ (field (.ref it) 1 >>= _) _ _ s
  refine aB (ly ho hd (x:=.int i 0) rfl ?_)
  show wpAny _ _ (seqItems? (.ref l) >>= _) _ _ s
  refine aB (sM Hg wu ?_)
  simp only [Jd,hx]
  refine aB (wI (aB (wpAny_setField ho hd (by simp) ?_)))
  show wpAny _ _ (newExc (.type "StopIteration") [] >>= _) _ _ _
  refine aB ?_
  simp only [newExc,newTuple]
  refine aB (u7 ?_ (by size_fits))
  refine aB (m:=firstArgMember _ _) (wpAny_of_eq (a:=fY) (by first | rfl | (simp only [firstArgMember];rfl)) ?_)
  refine u7 ?_ (by size_fits)
  simp only [raiseNew]
  refine aB (wpAny_handled ?_)
  first | rw [show A.in1.handled=none from hh] | rw [hh]
  refine aB (bI (wpAny_throw ?_))
  exact hE _ _ (((Ou ..).extBut.push _).push _) ⟨_,fN _ rfl,rfl⟩
structure FD(z TI TO i1 i2 l1 l2:Addr):Prop where
 a1:TI≠z
 a2:TO≠z
 a3:i1≠z
 a4:i2≠z
 a6:TO≠i1
 a7:TO≠i2
 a8:i1≠i2
 b1:l1≠z
 b2:l1≠TO
 b3:l1≠i1
 b4:l1≠i2
 c1:l2≠z
 c2:l2≠TO
 c3:l2≠i1
 c4:l2≠i2
theorem b28{b1 b2:Bool}{z TI TO i1 i2 l1 l2:Addr}{k1 k2:Nat}{xs ys:Array Value}{x y a b:Value}{Q:Option Value->Shared->Prop}(D:FD z TI TO i1 i2 l1 l2)
  (hz:IsZip s.heap z TI TO .none)(nu:IsPair s.heap TI (.ref i1) (.ref i2))(n8:IsPair s.heap TO a b)(h1:fw b1 s.heap i1 l1 k1)(h2:fw b2 s.heap i2 l2 k2)(gQ:gF b1 s.heap l1 xs)(eJ:gF b2 s.heap l2 ys)(hx:xs[k1]?=some x)(hy:ys[k2]?=some y)
  (hQ:∀h',IsZip h' z TI TO (rawInt s.heap.objs.size)->IsPair h' TO x y->fw b1 h' i1 l1 (k1+1)->fw b2 h' i2 l2 (k2+1)->IsPair h' s.heap.objs.size x y->h'.objs.size=s.heap.objs.size+1 ->
   (∀c o,c≠z->c≠TO->c≠i1->c≠i2->s.heap.get? c=some o->h'.get? c=some o)->Q (some (.ref s.heap.objs.size)) { s with heap:=h' }):wpAny (model prog w) A (pyNext (.ref z)) Q E s:=by
 have hT:s.TypeIs (.ref z) "zip":=⟨_,hz,rfl⟩
 unfold pyNext
 refine aB (AH (wW (name:=qS "__next__") hT DC (u5 DC hT F.entry_zip_next ?_ (F.args_zip_next_1 _))))
 show wpAny _ _ (field (.ref z) 2 >>= _) _ _ _
 refine aB (ly hz rfl (x:=.bool false) rfl ?_)
 show wpAny _ _ (field (.ref z) 3 >>= _) _ _ _
 refine aB (ly hz rfl (x:=.ref TI) rfl (aB (sM nu rfl ?_)))
 show wpAny _ _ (D1 (.ref z) >>= _) _ _ _
 refine aB ?_
 unfold D1
 refine aB (ly hz rfl (x:=.none) rfl (bI ?_))
 simp only [if_true]
 refine aB (wI (aB (ly hz rfl (x:=.ref TO) rfl (aB (wM hz (by simp) λg1 sd s1=>?_)))))
 replace sd:IsZip g1 z TI TO .ellipsis:=sd
 refine aB ?_
 simp only [Dt,Iv,DE,List.forIn_nil]
 refine aB (aB (Di ?_))
 show wpAny _ _ (sS (.ref i1) >>= _) _ _ _
 refine aB (E2 (h1.keep λo e=>s1.extBut _ _ D.a3 e) (gQ.keep λo e=>s1.extBut _ _ D.b1 e) hx λg2 NK s2=>bI ?_)
 have t2:IsPair g2 TO a b:=s2.extBut _ _ D.a6 (s1.extBut _ _ D.a2 n8)
 refine aB (sM t2 rfl (aB (IS t2 λg3 t3 s3=>?_)))
 replace t3:IsPair g3 TO x b:=t3
 refine aB (Dp (bI (aB (aB (Di ?_)))))
 show wpAny _ _ (sS (.ref i2) >>= _) _ _ _
 refine aB (E2 (h2.keep λo e=>s3.extBut _ _ D.a7.symm (s2.extBut _ _ D.a8.symm (s1.extBut _ _ D.a4 e))) (eJ.keep λo e=>s3.extBut _ _ D.c2 (s2.extBut _ _ D.c3 (s1.extBut _ _ D.c1 e))) hy λg4 Yy s4=>bI ?_)
 have t4:IsPair g4 TO x b:=s4.extBut _ _ D.a7 t3
 refine aB (sM t4 rfl (aB (IS t4 λg5 t5 s5=>?_)))
 replace t5:IsPair g5 TO x y:=t5
 refine aB (Dp (bI (bI (aB (sM t5 rfl (aB (IG ?_)))))))
 have hsz:g5.objs.size=s.heap.objs.size:=by rw [s5.1,s4.1,s3.1,s2.1,s1.1]
 have Nf:IsZip g5 z TI TO .ellipsis:=s5.extBut _ _ D.a2.symm (s4.extBut _ _ D.a4.symm (s3.extBut _ _ D.a2.symm (s2.extBut _ _ D.a3.symm sd)))
 have k5:∀c o,c≠z->c≠TO->c≠i1->c≠i2->s.heap.get? c=some o->g5.get? c=some o:=λc o c1 c2 c3 c4 e=>s5.extBut _ _ c2 (s4.extBut _ _ c4 (s3.extBut _ _ c2 (s2.extBut _ _ c3 (s1.extBut _ _ c1 e))))
 have j1:fw b1 g5 i1 l1 (k1+1):=NK.keep λo e=>s5.extBut _ _ D.a6.symm (s4.extBut _ _ D.a8 (s3.extBut _ _ D.a6.symm e))
 have j2:fw b2 g5 i2 l2 (k2+1):=Yy.keep λo e=>s5.extBut _ _ D.a7.symm e
 have zx:z<g5.objs.size:=bY Nf
 show wpAny _ _ (OV (.ref z) (.ref g5.objs.size) >>= _) _ _ _
 refine aB ?_
 unfold OV
 have XC:IsZip (g5.push { cls:=.type "tuple",data:=.seq #[x,y] }) z TI TO .ellipsis:=bR _ Nf
 refine aB (wM XC (by simp) λg7 G1 s7=>?_)
 replace G1:IsZip g7 z TI TO (rawInt g5.objs.size):=G1
 refine wM G1 (by simp) λg8 CM s8=>?_
 replace CM:IsZip g8 z TI TO (rawInt g5.objs.size):=CM
 have up:∀c o,c≠z->g5.get? c=some o->g8.get? c=some o:=λc o c1 e=>s8.extBut _ _ c1 (s7.extBut _ _ c1 (bR _ e))
 have t8:IsPair g8 g5.objs.size x y:=s8.extBut _ _ (uS zx) (s7.extBut _ _ (uS zx) (fN _ rfl))
 have z8:g8.objs.size=g5.objs.size+1:=by rw [s8.1,s7.1,nC]
 rw [hsz] at CM t8 z8
 refine bI ⟨_,rfl,bI ?_⟩
 show Q (some (.ref g5.objs.size)) _
 rw [hsz]
 exact hQ g8 CM (up _ _ D.a2 t5) (j1.keep λo e=>up _ o D.a3 e) (j2.keep λo e=>up _ o D.a4 e) t8 z8 λc o c1 c2 c3 c4 e=>up c o c1 (k5 c o c1 c2 c3 c4 e)
theorem b5r{b1 b2:Bool}{z TI TO i1 i2 l1 l2:Addr}{k1 k2:Nat}{xs ys:Array Value}{a b:Value}{Q:Option Value->Shared->Prop}(hh:A.handled=none)(D:FD z TI TO i1 i2 l1 l2)
  (hz:IsZip s.heap z TI TO .none)(nu:IsPair s.heap TI (.ref i1) (.ref i2))(n8:IsPair s.heap TO a b)(h1:fw b1 s.heap i1 l1 k1)(h2:fw b2 s.heap i2 l2 k2)(gQ:gF b1 s.heap l1 xs)(eJ:gF b2 s.heap l2 ys)(Hy:xs[k1]?=none\/ys[k2]?=none)
  (hQ:∀h',(∀c o,c≠z->c≠TO->c≠i1->c≠i2->s.heap.get? c=some o->h'.get? c=some o)->Q none { s with heap:=h' }):wpAny (model prog w) A (pyNext (.ref z)) Q E s:=by
 have hT:s.TypeIs (.ref z) "zip":=⟨_,hz,rfl⟩
 unfold pyNext
 have fin:∀(h':Heap) (e:Addr),(∀c o,c≠z->c≠TO->c≠i1->c≠i2->s.heap.get? c=some o->h'.get? c=some o)->(∃o,h'.get? e=some o/\o.cls=.type "StopIteration") ->
   wpAny (model prog w) A (isInstance (.ref e) (.type "StopIteration") >>= λb=>if b=true then pure none else throw (.ref e)) Q E { s with heap:=h' }:=λh' e hk ⟨o,ho,hc⟩ =>
  aB (wpAny_isInstance (T:="StopIteration") (b:=true) ⟨o,ho,hc⟩ isSubtype_stop (bI (hQ _ hk)))
 refine aB (AH (wW (name:=qS "__next__") hT DC (u5 DC hT F.entry_zip_next ?_ (F.args_zip_next_1 _))))
 show wpAny _ _ (field (.ref z) 2 >>= _) _ _ _
 refine aB (ly hz rfl (x:=.bool false) rfl ?_)
 show wpAny _ _ (field (.ref z) 3 >>= _) _ _ _
 refine aB (ly hz rfl (x:=.ref TI) rfl (aB (sM nu rfl ?_)))
 show wpAny _ _ (D1 (.ref z) >>= _) _ _ _
 refine aB ?_
 unfold D1
 refine aB (ly hz rfl (x:=.none) rfl (bI ?_))
 simp only [if_true]
 refine aB (wI (aB (ly hz rfl (x:=.ref TO) rfl (aB (wM hz (by simp) λg1 sd s1=>?_)))))
 replace sd:IsZip g1 z TI TO .ellipsis:=sd
 refine aB ?_
 simp only [Dt,Iv,DE,List.forIn_nil]
 refine aB (aB (Di ?_))
 show wpAny _ _ (sS (.ref i1) >>= _) _ _ _
 cases hx:xs[k1]? with
 | none =>
  refine aB (EJ hh (h1.keep λo e=>s1.extBut _ _ D.a3 e) (gQ.keep λo e=>s1.extBut _ _ D.b1 e) hx λg2 e s2 he=>?_)
  obtain ⟨oe,um,uw⟩:=he
  have v8:IsZip g2 z TI TO .ellipsis:=s2 _ _ D.a3.symm sd
  have Hx:e≠z:=λx=>by subst x;rw [v8] at um;cases um;simp at uw
  exact wM v8 (by simp) λg3 _ s3=>fin g3 e (λc o c1 _ c3 _ x=>s3.extBut _ _ c1 (s2 _ _ c3 (s1.extBut _ _ c1 x))) ⟨oe,s3.extBut _ _ Hx um,uw⟩
 | some x =>
  have hy:ys[k2]?=none:=by rcases Hy with h | h;rw [hx] at h;cases h;exact h
  refine aB (E2 (h1.keep λo e=>s1.extBut _ _ D.a3 e) (gQ.keep λo e=>s1.extBut _ _ D.b1 e) hx λg2 NK s2=>bI ?_)
  have t2:IsPair g2 TO a b:=s2.extBut _ _ D.a6 (s1.extBut _ _ D.a2 n8)
  refine aB (sM t2 rfl (aB (IS t2 λg3 t3 s3=>?_)))
  refine aB (Dp (bI (aB (aB (Di ?_)))))
  show wpAny _ _ (sS (.ref i2) >>= _) _ _ _
  refine aB (EJ hh (h2.keep λo e=>s3.extBut _ _ D.a7.symm (s2.extBut _ _ D.a8.symm (s1.extBut _ _ D.a4 e))) (eJ.keep λo e=>s3.extBut _ _ D.c2 (s2.extBut _ _ D.c3 (s1.extBut _ _ D.c1 e))) hy λg4 e s4 he=>?_)
  obtain ⟨oe,um,uw⟩:=he
  have Ng:IsZip g4 z TI TO .ellipsis:=s4 _ _ D.a4.symm (s3.extBut _ _ D.a2.symm (s2.extBut _ _ D.a3.symm sd))
  have Hx:e≠z:=λx=>by subst x;rw [Ng] at um;cases um;simp at uw
  exact wM Ng (by simp) λg5 _ s5=>fin g5 e (λc o c1 c2 c3 c4 x=>s5.extBut _ _ c1 (s4 _ _ c4 (s3.extBut _ _ c2 (s2.extBut _ _ c3 (s1.extBut _ _ c1 x))))) ⟨oe,s5.extBut _ _ Hx um,uw⟩
end
end DL
namespace DL
open PySem PySem.Spec PyProof.Rows L2
section
variable {X:Cx}{pins:List (Addr×Obj)}{σ:L2.St}{H:Hp}{s:Shared}
theorem xt{t':Nat}{h':Heap}{ch:List Addr}(I:Inv X pins σ H s)(hf:∀b∈ch,cV X pins H b)(k:∀b o,b∉ch->s.heap.get? b=some o->h'.get? b=some o):Inv X pins σ H { s with heap:=h',toks:=t' }:=by
 have yY:∀b u,H b=some u->b∉ch:=λb u e z=>by rw [(hf b z).1] at e;cases e
 refine I.step (g':=s.gens) (d':=s.drawn) (ch:=ch) (λb hb=>?_) (λb o _ _ hc e _=>k b o hc e) (λb o _ _ hc e _=>⟨o.slots,k b o hc e⟩) (λ_ _ _ _ n=>n)
  (λb o hc e=>⟨o,k b o hc e⟩) (λ_ _ e=>e) (λ_ _ _ e=>e) (λb ps e=>⟨#[],by rw [e];simp⟩) (λm hm=>?_) (λb u e=>?_) I.bare
 .obtain ⟨_,h1,_,h3,h4,h5⟩:=hf b hb
  exact ⟨h3,h1,h4,h5⟩
 .obtain ⟨o,es,ep,ho,r⟩:=hm
  exact ⟨o,es,ep,k _ o (λz=>(hf _ z).2.1 rfl) ho,r⟩
 .refine (I.bt b u e).jX (λc v hc q=>k c v ?_ q) (λ_ _ _ q=>q) λ_ _ q=>q
  rcases hc with z | z
  .rw [z];exact yY b u e
  .exact yY c _ z
theorem ou(I:Inv X pins σ H s)(h:Sq X.K H b l xs):∃ar:List Value,aC xs ar/\gF b s.heap l ar.toArray:=by
 cases b with
 | true=>obtain ⟨ar,r,p,_⟩:=I.list h;exact ⟨ar,r,p.isList⟩
 | false=>obtain ⟨ar,r,p,_⟩:=I.tuple h;exact ⟨ar,r,p⟩
theorem J0(I:Inv X pins σ H s)(h:Sq X.K H b l xs)(h':Sq X.K H b l ys):xs=ys:=by
 cases b with
 | true=>exact I.gJ h h'
 | false=>exact I.fR h h'
end
noncomputable def MJ(K:aM)(b1 b2:Bool)(l1 l2:Addr):It:=
 ⟨λi H=>∃xs ys x y,Sq K H b1 l1 xs/\Sq K H b2 l2 ys/\xs[i]?=some x/\ys[i]?=some y,
 λi H v H'=>∃p x y,v=.ref p/\H p=none/\H'=upd H p (.tup [x,y])/\(∀xs,Sq K H b1 l1 xs->xs[i]?=some x)/\(∀ys,Sq K H b2 l2 ys->ys[i]?=some y),
 λi H=>∃xs ys,Sq K H b1 l1 xs/\Sq K H b2 l2 ys/\(xs.length<=i\/ys.length<=i)⟩
theorem RV{h:Heap}{c:Addr}{o p:Obj}(hc:c<h.objs.size)(e:(h.push p).get? c=some o):h.get? c=some o:=by
 have q:(h.objs.push p)[c]?=h.objs[c]?:=by rw [Array.getElem?_push,if_neg (ei hc)]
 unfold Heap.get? Heap.push at e
 unfold Heap.get?
 rw [<-q];exact e
theorem b5s(h1:l1<n)(h2:l2<n):FD (n+4) (n+2) (n+3) n (n+1) l1 l2:=by
 have Z:=zipApart_new h1 h2
 exact ⟨Z.1,Z.2,Z.3,Z.4,Z.8,Z.9,Z.10,Z.11,Z.12,Z.13,Z.14,Z.15,Z.16,Z.17,Z.18⟩
theorem b3d{P:Program}{w:World}{K:aM}{elts:List Expr}{kk:Nat}{pos:Pos}{b1 b2:Bool}{z TI TO i1 i2 l1 l2:Addr}(D:FD z TI TO i1 i2 l1 l2)(d1:TI≠TO)(d2:TI≠i1)(d3:TI≠i2):
  Turn P w K (.Tuple elts kk pos) (MJ K b1 b2 l1 l2) [z,TI,TO,i1,i2] z (λi h=>IsZip h z TI TO .none/\IsPair h TI (.ref i1) (.ref i2)/\(∃a b,IsPair h TO a b)/\fw b1 h i1 l1 i/\fw b2 h i2 l2 i) where
 mem:=by simp
 obj:=λi h ⟨hz,nu,⟨a,b,n8⟩,h1,h2⟩ c hc=>by
  simp only [br,gq,or_false] at hc
  rcases hc with rfl | rfl | rfl | rfl | rfl
  .exact ⟨_,hz,λv q=>nomatch (show Dq _=wy v from q)⟩
  .exact ⟨_,nu,λv q=>nomatch (show Data.seq _ _=wy v from q)⟩
  .exact ⟨_,n8,λv q=>nomatch (show Data.seq _ _=wy v from q)⟩
  .exact h1.jo
  .exact h2.jo
 keep:=λi h h' ⟨hz,nu,⟨a,b,n8⟩,h1,h2⟩ k=>⟨k z (by simp) _ hz,k TI (by simp) _ nu,⟨a,b,k TO (by simp) _ n8⟩,h1.keep λo e=>k i1 (by simp) o e,h2.keep λo e=>k i2 (by simp) o e⟩
 item:=by
  intro X hP hw hK hc i pins s σ H E I hf ⟨hz,nu,⟨a,b,n8⟩,h1,h2⟩ hg
  subst hP hw hK
  obtain ⟨xs,ys,x,y,q1,q2,hx,hy⟩:=hg
  obtain ⟨zj,r1,p1⟩:=ou I q1
  obtain ⟨cj,r2,p2⟩:=ou I q2
  obtain ⟨u1,CO,Us⟩:=r1.get hx
  obtain ⟨u2,G8,Ur⟩:=r2.get hy
  refine b28 D hz nu n8 h1 h2 p1 p2 (by simpa using CO) (by simpa using G8) λh' z8 t8 j1 j2 nw sz kp=>?_
  refine ⟨_,rfl,wpAny_letOwnedTupleGo_zip (s:={ s with heap:=h' }) z8 λh9 z9 sb=>?_⟩
  have fresh:H s.heap.objs.size=none:=I.bt.fresh (bp _)
  have be:∀c∈[z,TO,i1,i2],c<s.heap.objs.size:=λc hc=>by
   simp only [br,gq,or_false] at hc
   rcases hc with rfl | rfl | rfl | rfl
   .exact bY hz
   .exact bY n8
   .exact h1.lt
   .exact h2.lt
  have up:∀c o,c∉[z,TO,i1,i2]->s.heap.get? c=some o->h9.get? c=some o:=λc o hc e=>by
   simp only [br,gq,or_false,not_or] at hc
   exact sb.extBut _ _ hc.1 (kp c o hc.1 hc.2.1 hc.2.2.1 hc.2.2.2 e)
  have nz:s.heap.objs.size≠z:=uS (be z (by simp))
  have Gv:IsPair h9 s.heap.objs.size u1 u2:=sb.extBut _ _ nz nw
  have I1:Inv X pins σ (upd H s.heap.objs.size (.tup [x,y])) { s with heap:=s.heap.push { cls:=.type "tuple",data:=.seq #[u1,u2] },toks:=s.toks }:=
   I.laid (λb o e=>bR _ e) (bp _) ⟨by simp [sizeLine],[u1,u2],.cons Us (.cons Ur .nil),⟨_,fN _ rfl,rfl,_,rfl⟩⟩
  have I2:Inv X pins σ (upd H s.heap.objs.size (.tup [x,y])) { s with heap:=h9,toks:=s.toks }:=xt (s:={ s with heap:=s.heap.push { cls:=.type "tuple",data:=.seq #[u1,u2] },toks:=s.toks }) (ch:=[z,TO,i1,i2]) (t':=s.toks) I1 (λc hc=>by
    obtain ⟨f0,f1,f2,f3,f4,f5⟩:=hf c (by simp only [br,gq,or_false] at hc ⊢;grind)
    exact ⟨by rw [c5 (ei (be c hc))];exact f0,f1,f2,f3,f4,f5⟩) λc o hc e=>by
   by_cases hs:c<s.heap.objs.size
   .exact up c o hc (RV hs e)
   .have wx:c=s.heap.objs.size:=by
     have:=bY e
     rw [nC] at this
     exact DB (Nat.lt_succ_iff.mp this) (IC hs)
    subst wx
    have e2:(s.heap.push { cls:=.type "tuple",data:=.seq #[u1,u2] }).get? s.heap.objs.size=some _:=fN _ rfl
    rw [e2] at e;cases e
    exact Gv
  refine ⟨.ref s.heap.objs.size,_,I2,rfl,⟨_,x,y,rfl,fresh,rfl,λzs uf=>by rw [J0 I uf q1];exact hx,λzs uf=>by rw [J0 I uf q2];exact hy⟩,⟨z9,up TI _ (by simp [d1,d2,d3,D.a1]) nu,⟨u1,u2,sb.extBut _ _ D.a2 t8⟩,j1.keep λo e=>sb.extBut _ _ D.a3 e,j2.keep λo e=>sb.extBut _ _ D.a4 e⟩,λc hc=>?_⟩
  rw [c5 ?_]
  .exact (hf c hc).1
  .simp only [br,gq,or_false] at hc
   rcases hc with rfl | rfl | rfl | rfl | rfl
   .exact ei (be _ (by simp))
   .exact ei (bY nu)
   .exact ei (be _ (by simp))
   .exact ei (be _ (by simp))
   .exact ei (be _ (by simp))
 done:=by
  intro X hP hw hK hc i pins s σ H E I hf ⟨hz,nu,⟨a,b,n8⟩,h1,h2⟩ hg
  subst hP hw hK
  obtain ⟨xs,ys,q1,q2,hl⟩:=hg
  obtain ⟨zj,r1,p1⟩:=ou I q1
  obtain ⟨cj,r2,p2⟩:=ou I q2
  have e1:=r1.length
  have e2:=r2.length
  refine b5r (I.ok.hd hc) D hz nu n8 h1 h2 p1 p2 ?_ λh' kp=>⟨rfl,xt (ch:=[z,TO,i1,i2]) (t':=s.toks) I (λc hc=>hf c (by simp only [br,gq,or_false] at hc ⊢;grind)) λc o hc e=>?_⟩
  .rcases hl with hl | hl
   .exact .inl (by simp;ext e1 hl)
   .exact .inr (by simp;ext e2 hl)
  .simp only [br,gq,or_false,not_or] at hc
   exact kp c o hc.1 hc.2.1 hc.2.2.1 hc.2.2.2 e
 self:=λ_ _ _ _ _ st h=>wpAny_pyIter_zip st.1 h
noncomputable abbrev Cu(b1:Bool)(h:Heap)(l1:Addr):Heap:=h.push { cls:=.type (lV b1),data:=.fields #[.ref l1,.int 0 0] }
noncomputable abbrev Ct(b1 b2:Bool)(h:Heap)(l1 l2:Addr):Heap:=(Cu b1 h l1).push { cls:=.type (lV b2),data:=.fields #[.ref l2,.int 0 0] }
noncomputable abbrev Cs(b1 b2:Bool)(h:Heap)(l1 l2:Addr):Heap:=(Ct b1 b2 h l1 l2).push { cls:=.type "tuple",data:=.seq #[.ref h.objs.size,.ref (Cu b1 h l1).objs.size] }
noncomputable abbrev rS(b1 b2:Bool)(h:Heap)(l1 l2:Addr):Heap:=(Cs b1 b2 h l1 l2).push { cls:=.type "tuple",data:=.seq #[.none,.none] }
noncomputable abbrev oH(b1 b2:Bool)(h:Heap)(l1 l2:Addr):Heap:=(rS b1 b2 h l1 l2).push { cls:=.type "zip",data:=.fields #[.none,.bool false,.bool false,.ref (Ct b1 b2 h l1 l2).objs.size,.ref (Cs b1 b2 h l1 l2).objs.size] }
theorem a8O(l1 l2:Addr)(xs ys:Array Value):Meets (Builtin.«zip.__new__» ⟨[.type "zip",.ref l1,.ref l2],[]⟩) (λ_ R s=>s.heap.IsList l1 xs/\s.heap.IsList l2 ys/\R (.ok (.ret (.ref (rS true true s.heap l1 l2).objs.size))) { s with heap:=oH true true s.heap l1 l2 }):=
 .of_wp λprog w A R s h=>by
  obtain ⟨hp,g,d,tk,os⟩:=s;obtain ⟨gQ,eJ,h⟩:=h
  have js:=sub_zip
  have uD:Dm (qV ⟨hp,g,d,tk,os⟩) l1 xs:=gQ
  have uC:Dm (qV ⟨hp.push { cls:=.type "list_iterator",data:=.fields #[.ref l1,.int 0 0] },g,d,tk,os⟩) l2 ys:=N6 eJ _
  wp_walk using wL uD,wL uC
  exact ⟨_,rfl,h⟩
theorem a8P(l1 l2:Addr)(xs ys:Array Value):Meets (Builtin.«zip.__new__» ⟨[.type "zip",.ref l1,.ref l2],[]⟩) (λ_ R s=>s.heap.IsList l1 xs/\s.heap.IsTuple l2 ys/\R (.ok (.ret (.ref (rS true false s.heap l1 l2).objs.size))) { s with heap:=oH true false s.heap l1 l2 }):=
 .of_wp λprog w A R s h=>by
  obtain ⟨hp,g,d,tk,os⟩:=s;obtain ⟨gQ,eJ,h⟩:=h
  have js:=sub_zip
  have uD:Dm (qV ⟨hp,g,d,tk,os⟩) l1 xs:=gQ
  have uC:AN (qV ⟨hp.push { cls:=.type "list_iterator",data:=.fields #[.ref l1,.int 0 0] },g,d,tk,os⟩) l2 ys:=gF.keep (b:=false) eJ λo e=>bR _ e
  wp_walk using wL uD,qW uC
  exact ⟨_,rfl,h⟩
theorem a8Q(l1 l2:Addr)(xs ys:Array Value):Meets (Builtin.«zip.__new__» ⟨[.type "zip",.ref l1,.ref l2],[]⟩) (λ_ R s=>s.heap.IsTuple l1 xs/\s.heap.IsList l2 ys/\R (.ok (.ret (.ref (rS false true s.heap l1 l2).objs.size))) { s with heap:=oH false true s.heap l1 l2 }):=
 .of_wp λprog w A R s h=>by
  obtain ⟨hp,g,d,tk,os⟩:=s;obtain ⟨gQ,eJ,h⟩:=h
  have js:=sub_zip
  have uD:AN (qV ⟨hp,g,d,tk,os⟩) l1 xs:=gQ
  have uC:Dm (qV ⟨hp.push { cls:=.type "tuple_iterator",data:=.fields #[.ref l1,.int 0 0] },g,d,tk,os⟩) l2 ys:=N6 eJ _
  wp_walk using qW uD,wL uC
  exact ⟨_,rfl,h⟩
theorem a8R(l1 l2:Addr)(xs ys:Array Value):Meets (Builtin.«zip.__new__» ⟨[.type "zip",.ref l1,.ref l2],[]⟩) (λ_ R s=>s.heap.IsTuple l1 xs/\s.heap.IsTuple l2 ys/\R (.ok (.ret (.ref (rS false false s.heap l1 l2).objs.size))) { s with heap:=oH false false s.heap l1 l2 }):=
 .of_wp λprog w A R s h=>by
  obtain ⟨hp,g,d,tk,os⟩:=s;obtain ⟨gQ,eJ,h⟩:=h
  have js:=sub_zip
  have uD:AN (qV ⟨hp,g,d,tk,os⟩) l1 xs:=gQ
  have uC:AN (qV ⟨hp.push { cls:=.type "tuple_iterator",data:=.fields #[.ref l1,.int 0 0] },g,d,tk,os⟩) l2 ys:=gF.keep (b:=false) eJ λo e=>bR _ e
  wp_walk using qW uD,qW uC
  exact ⟨_,rfl,h⟩
theorem b0Z(b1 b2:Bool)(l1 l2:Addr)(xs ys:Array Value):Meets (Builtin.«zip.__new__» ⟨[.type "zip",.ref l1,.ref l2],[]⟩) (λ_ R s=>gF b1 s.heap l1 xs/\gF b2 s.heap l2 ys/\R (.ok (.ret (.ref (rS b1 b2 s.heap l1 l2).objs.size))) { s with heap:=oH b1 b2 s.heap l1 l2 }):=by
 cases b1<;>cases b2
 .exact a8R l1 l2 xs ys
 .exact a8Q l1 l2 xs ys
 .exact a8P l1 l2 xs ys
 .exact a8O l1 l2 xs ys
section
variable {prog:Program}{w:World}{A:Around}{E:Value->Shared->Prop}{s:Shared}
theorem Kb(e:h.get? it=some { cls:=.type (lV b),data:=.fields #[.ref l,.int 0 0] }):fw b h it l 0:=by
 cases b with
 | true=>exact ⟨_,e,rfl,rfl⟩
 | false=>exact ⟨_,e,rfl,rfl⟩
theorem b2K(gQ:gF b1 s.heap l1 xs)(eJ:gF b2 s.heap l2 ys)
  (h:∀h',IsZip h' (s.heap.objs.size+4) (s.heap.objs.size+2) (s.heap.objs.size+3) .none->IsPair h' (s.heap.objs.size+2) (.ref s.heap.objs.size) (.ref (s.heap.objs.size+1)) ->
   IsPair h' (s.heap.objs.size+3) .none .none->fw b1 h' s.heap.objs.size l1 0->fw b2 h' (s.heap.objs.size+1) l2 0->h'.objs.size=s.heap.objs.size+5 ->
   (∀c o,s.heap.get? c=some o->h'.get? c=some o)->Q (.ref (s.heap.objs.size+4)) { s with heap:=h' }):
  wpAny (model prog w) A (call (.type "zip") [.ref l1,.ref l2]) Q E s:=by
 refine callType_new F.called_zip (by decide) (F.typeCall_zip_2 _ _) (F.newCall_zip_2 _ _) (λobj=>F.args_object_init_3 obj _ _) F.entry_zip_new (b0Z b1 b2 l1 l2 xs ys) ⟨gQ,eJ,?_⟩
 have z1:(Cu b1 s.heap l1).objs.size=s.heap.objs.size+1:=nC ..
 have z2:(Ct b1 b2 s.heap l1 l2).objs.size=s.heap.objs.size+2:=by rw [nC,z1]
 have z3:(Cs b1 b2 s.heap l1 l2).objs.size=s.heap.objs.size+3:=by rw [nC,z2]
 have z4:(rS b1 b2 s.heap l1 l2).objs.size=s.heap.objs.size+4:=by rw [nC,z3]
 have z5:(oH b1 b2 s.heap l1 l2).objs.size=s.heap.objs.size+5:=by rw [nC,z4]
 have g5:(oH b1 b2 s.heap l1 l2).get? (rS b1 b2 s.heap l1 l2).objs.size=some _:=fN _ rfl
 have g4:(oH b1 b2 s.heap l1 l2).get? (Cs b1 b2 s.heap l1 l2).objs.size=some _:=bR _ (fN _ rfl)
 have g3:(oH b1 b2 s.heap l1 l2).get? (Ct b1 b2 s.heap l1 l2).objs.size=some _:=bR _ (bR _ (fN _ rfl))
 have g2:(oH b1 b2 s.heap l1 l2).get? (Cu b1 s.heap l1).objs.size=some _:=bR _ (bR _ (bR _ (fN _ rfl)))
 have g1:(oH b1 b2 s.heap l1 l2).get? s.heap.objs.size=some _:=bR _ (bR _ (bR _ (bR _ (fN _ rfl))))
 show _/\_
 rw [z2,z3,z4] at g5
 rw [z1,z2] at g3
 rw [z3] at g4
 rw [z1] at g2
 rw [z4]
 exact ⟨⟨_,g5,rfl⟩,h _ g5 g3 g4 (Kb g1) (Kb g2) z5 λc o x =>
  bR _ (bR _ (bR _ (bR _ (bR _ x))))⟩
end
section
variable {X:Cx}{elts:List Expr}{kk:Nat}{tp:Pos}
noncomputable def GU(K:aM)(ta:TA):TI:=λσ H R=>ta σ H λvs H1=>∃b1 b2 l1 l2 xs ys,vs=[.ref l1,.ref l2]/\Sq K H1 b1 l1 xs/\Sq K H1 b2 l2 ys/\R (MJ K b1 b2 l1 l2) H1
theorem b7M{a b:Expr}{ta:TA}{p pos:Pos}(hg:Gl X "zip")(hm:X.mg "zip" = none)(ha:PA X [a,b] ta)(hs:starEach [a,b] X.env=[(false,eval a X.env),(false,eval b X.env)]:=by rfl)(gO:starEach [b] X.env=[(false,eval b X.env)]:=by rfl):
  PI X (.Tuple elts kk tp) (.Call (.Name "zip" p) [a,b] [] pos) (GU X.K ta):=by
 intro pins s σ H R I h
 refine Call_ (s9 I hg hm boot_zip (AX (bE (ha pos pins s σ H _ I h) λus s1 ⟨vs,H1,I1,r1,q1⟩=>?_) (by rw [hs,gO]) (by rw [gO];rfl)))
 obtain ⟨b1,b2,l1,l2,xs,ys,e,q1,q2,q⟩:=q1
 subst e
 cases r1 with
 | cons r rr =>
  cases rr with
  | cons r' rr =>
   cases rr
   cases r
   cases r'
   obtain ⟨zj,Uu,p1⟩:=ou I1 q1
   obtain ⟨cj,rr2,p2⟩:=ou I1 q2
   refine b2K p1 p2 λh' z0 t0 o0 j1 j2 sz kp=>?_
   refine wpAny_pyIter_zip (s:={ s1 with heap:=h' }) z0 ?_
   have M6:=p1.lt
   have y7:=p2.lt
   have D:=b5s M6 y7
   have Z:=zipApart_new M6 y7
   have ge:∀c∈[s1.heap.objs.size+4,s1.heap.objs.size+2,s1.heap.objs.size+3,s1.heap.objs.size,s1.heap.objs.size+1],s1.heap.objs.size<=c:=λc hc=>by
    simp only [br,gq,or_false] at hc
    rcases hc with rfl | rfl | rfl | rfl | rfl
    .exact sT _ _
    .exact sT _ _
    .exact sT _ _
    .exact bp _
    .exact sT _ _
   exact ⟨_,_,_,_,H1,rfl,I1.kept (t':=s1.toks) kp,b3d D Z.5 Z.6 Z.7,⟨z0,t0,⟨_,_,o0⟩,j1,j2⟩,λc hc=>I1.jy (ge c hc) (I1.bt.fresh (ge c hc)),q⟩
noncomputable def lQ(a b:List D):List D:=kn (λd e=>D.tup [d,e]) a b
noncomputable def qp:List D->Option (List D)
 | [a,b]=>(eO a).bind λp=>(eO b).map λq=>lQ p.2 q.2
 | _=>none
theorem b27{K:aM}{O:Addr->Prop}{H:Hp}{b1 b2:Bool}{l1 l2:Addr}{xs ys:List V}{as bs:List D}(h1:Sq K H b1 l1 xs)(i1:aN K O H xs as)(n1:¬O l1\/∀H',Sq K H' b1 l1 xs)(h2:Sq K H b2 l2 ys)(i2:aN K O H ys bs)(n2:¬O l2\/∀H',Sq K H' b2 l2 ys):
  xh K O (MJ K b1 b2 l1 l2) H (lQ as bs):=λO' H2 kp hO i=>by
 have key:∀{b:Bool} {l:Addr} {zs:List V} {cs:List D},Sq K H b l zs->aN K O H zs cs->(¬O l\/∀H',Sq K H' b l zs)->Sq K H2 b l zs/\aN K O' H2 zs cs:=λ{b l zs cs} h1 i1 n1=>by
  refine ⟨?_,i1.map (λq hq hn=>?_) λq u e n=>(kp q u e n).1⟩
  .rcases n1 with h3 | h3
   .exact Kc (λq u e n=>(kp q u e n).1) h1 h3
   .exact h3 H2
  .cases e:H q with
   | none=>exact (hq e).elim
   | some u=>exact (kp q u e hn).2
 obtain ⟨p1,s1⟩:=key h1 i1 n1
 obtain ⟨p2,s2⟩:=key h2 i2 n2
 refine ⟨λd hd=>?_,λhl=>⟨xs,ys,p1,p2,?_⟩⟩
 .unfold lQ at hd
  rw [IX] at hd
  cases ea:as[i]? with
  | none=>simp [ea] at hd
  | some da =>
   cases eb:bs[i]? with
   | none=>simp [ea,eb] at hd
   | some db =>
    simp only [ea,eb] at hd
    cases hd
    obtain ⟨x,hx,dx⟩:=s1.get ea
    obtain ⟨y,hy,dy⟩:=s2.get eb
    refine ⟨⟨xs,ys,x,y,p1,p2,hx,hy⟩,λv H3 hv=>?_⟩
    obtain ⟨p,x',y',rfl,hp,rfl,f1,f2⟩:=hv
    have e1:=f1 xs p1
    have e2:=f2 ys p2
    rw [hx] at e1;cases e1
    rw [hy] at e2;cases e2
    have sm:au H2 (upd H2 p (.tup [x,y])):=λq u e=>by rw [c5 (pI e hp)];exact e
    exact ⟨sm,.tup (λz=>hO p z hp) (.inl pK) (.cons (dx.grow sm) (.cons (dy.grow sm) .nil))⟩
 .have e1:=s1.length
  have e2:=s2.length
  simp only [lQ,I9] at hl
  ext e1 e2 hl
theorem b8j{a b:Expr}{fs:En->Option (List D)}{p pos:Pos}(uu:Gl X "zip")(hm:X.mg "zip" = none)(ha:AV X [a,b] fs)(h1:starEach [a,b] X.env=[(false,eval a X.env),(false,eval b X.env)]:=by rfl)
  (h2:starEach [b] X.env=[(false,eval b X.env)]:=by rfl):IV X (.Tuple elts kk tp) (.Call (.Name "zip" p) [a,b] [] pos) (kf qp fs):=by
 obtain ⟨ti,pi,ki⟩:=ha
 refine ⟨_,b7M uu hm pi h1 h2,λO B σ H env ds R Rl e q=>?_⟩
 obtain ⟨as,e1,e2⟩:=bind_some e
 refine ki O B σ H env as _ Rl e1 λvs H1 s1 r1=>?_
 unfold qp at e2
 split at e2
 .rename_i da db
  obtain ⟨⟨k1,as⟩,ea,e2⟩:=bind_some e2
  obtain ⟨⟨k2,bs⟩,eb,e2⟩:=map_some e2
  cases e2
  cases r1 with
  | cons ra rr =>
   cases rr with
   | cons rb rr =>
    cases rr
    obtain ⟨l1,xs,rfl,g1,i1,n1⟩:=ra.m8 ea
    obtain ⟨l2,ys,rfl,g2,i2,n2⟩:=rb.m8 eb
    exact ⟨k1,k2,l1,l2,xs,ys,rfl,g1,g2,q _ H1 s1 (b27 g1 i1 n1 g2 i2 n2)⟩
 .cases e2
end
end DL
namespace DL
open PySem PySem.Spec PyProof.Rows L2
theorem a9L(l:Addr)(items:Array Value)(n:Nat)(fL:Option Addr)(sl:Array (Option Value)):
  Meets (Builtin.«enumerate.__new__» ⟨[.type "enumerate",.ref l],[]⟩) (λ_ R s=>s.heap.get? l=some { cls:=.type "tuple",dict:=fL,data:=.seq items n,slots:=sl } /\
   R (.ok (.ret (.ref (s.heap.push { cls:=.type (lV false),data:=.fields #[.ref l,.int 0 0] }).objs.size)))
    { s with heap:=(s.heap.push { cls:=.type (lV false),data:=.fields #[.ref l,.int 0 0] }).push { cls:=.type "enumerate",data:=.fields #[.none,.bool false,.ref s.heap.objs.size,rawInt 0,.none,.none] } }):=
 .of_wp λprog w A R s h=>by
  obtain ⟨hp,g,d,tk,os⟩:=s;obtain ⟨hl,h⟩:=h
  have sub:=sub_enumerate
  have hL:AN (qV ⟨hp,g,d,tk,os⟩) l items:=⟨_,hl,rfl,n,rfl⟩
  wp_walk using DO hl
  refine wpAny_stack_any λst=>bI ?_
  split
  .rename_i c _ _ _ _ _
   cases (c==sQ "enumerate")
   .wp_walk using DO hl,qW hL
    exact ⟨_,rfl,h⟩
   .wp_walk using DO hl,qW hL
    exact ⟨_,rfl,h⟩
  .wp_walk using DO hl,qW hL
   exact ⟨_,rfl,h⟩
section
variable {prog:Program}{w:World}{A:Around}{E:Value->Shared->Prop}{s:Shared}
theorem b2B(hL:gF b s.heap l items)
  (h:∀h',IsEnum h' (s.heap.objs.size+1) s.heap.objs.size 0 .none->fw b h' s.heap.objs.size l 0->h'.objs.size=s.heap.objs.size+2 ->
   (∀c o,s.heap.get? c=some o->h'.get? c=some o)->Q (.ref (s.heap.objs.size+1)) { s with heap:=h' }):
  wpAny (model prog w) A (call (.type "enumerate") [.ref l]) Q E s:=by
 cases b with
 | true=>exact call_enumerate_list hL h
 | false =>
  obtain ⟨⟨c,fL,dt,sl⟩,hl,hc,n,hd⟩:=(show s.heap.IsTuple l items from hL)
  replace hc:c=.type "tuple":=hc
  replace hd:dt=.seq items n:=hd
  subst hc hd
  refine callType_new F.called_enumerate (by decide) (F.typeCall_enumerate_1 _) (F.newCall_enumerate_1 _) (λobj=>F.args_object_init_2 obj _) F.entry_enumerate_new (a9L l items n fL sl) ⟨hl,?_⟩
  have hz:(s.heap.push { cls:=.type (lV false),data:=.fields #[.ref l,.int 0 0] }).objs.size=s.heap.objs.size+1:=nC ..
  show _/\_
  rw [hz]
  have he:=fN (s.heap.push { cls:=.type (lV false),data:=.fields #[.ref l,.int 0 0] })
    (o:={ cls:=.type "enumerate",data:=.fields #[.none,.bool false,.ref s.heap.objs.size,rawInt 0,.none,.none] }) rfl
  rw [hz] at he
  exact ⟨⟨_,he,rfl⟩,h _ he (Kb (bR _ (fN _ rfl))) (by rw [nC,hz]) λb o x=>bR _ (bR _ x)⟩
theorem b04(hh:A.handled=none)(it l:Addr)(aV:l≠it)(items:Array Value):
  Draws prog w A it [it,l] items.size (λi v=>items[i]?=some v) (λi h=>fw b h it l i/\gF b h l items) where
 live:=λ_ _ st=>let ⟨o,ho,_⟩:=st.1.jo;⟨o,ho⟩
 frame:=λ_ _ _ st hk=>⟨st.1.keep λo e=>hk it (by simp) o e,st.2.keep λo e=>hk l (by simp) o e⟩
 item:=λi s Q E hi st hQ=>by
  refine E2 st.1 st.2 (x:=items[i]) (by simp [hi]) λh' gR lj=>?_
  exact hQ _ h' s.toks (by simp [hi]) ⟨gR,st.2.keep λo e=>lj.extBut _ _ aV e⟩ lj
 done:=λs Q E st hE=>EJ hh st.1 st.2 (by simp) hE
theorem b4j{b:Bool}{i:Nat}(hh:A.handled=none)
  (he:IsEnum s.heap e it i old)(hit:fw b s.heap it l i)(hl:gF b s.heap l items)(hx:items[i]?=none)
  (hQ:∀h',Heap.ExtBut it s.heap h'->Q none { s with heap:=h' }):wpAny (model prog w) A (pyNext (.ref e)) Q E s:=by
 have hT:s.TypeIs (.ref e) "enumerate":=⟨_,he,rfl⟩
 unfold pyNext
 refine aB (AH (wW (name:=qS "__next__") hT Ob (u5 Ob hT F.entry_enumerate_next ?_ (F.args_enumerate_next_1 _))))
 show wpAny _ _ (field (.ref e) 2 >>= _) _ _ _
 refine aB (ly he rfl (x:=.ref it) rfl ?_)
 refine aB (EJ hh hit hl hx λh' x Yd jN=>?_)
 obtain ⟨o,ho,hc⟩:=jN
 exact aB (wpAny_isInstance (T:="StopIteration") (b:=true) ⟨o,ho,hc⟩ isSubtype_stop (bI (hQ _ Yd)))
theorem b6w(he:IsEnum h e it i old)(hl:gF b h l items):e≠l:=λz=>by
 subst z
 have q:∃o,h.get? e=some o/\∃xs n,o.data=.seq xs n:=by
  cases b with
  | true=>obtain ⟨o,ho,_,n,hd⟩:=hl;exact ⟨o,ho,_,n,hd⟩
  | false=>obtain ⟨o,ho,_,n,hd⟩:=hl;exact ⟨o,ho,_,n,hd⟩
 obtain ⟨o,ho,xs,n,hd⟩:=q
 have:=he.symm.trans ho
 cases this
 cases hd
theorem zm(hi:fw b h it l i)(hl:gF b h l items):l≠it:=λz=>by
 subst z
 cases b with
 | true=>obtain ⟨o,ho,_,n,hd⟩:=hl;obtain ⟨o',l8,_,oZ⟩:=hi;rw [ho] at l8;cases l8;rw [hd] at oZ;cases oZ
 | false=>obtain ⟨o,ho,_,n,hd⟩:=hl;obtain ⟨o',l8,_,oZ⟩:=hi;rw [ho] at l8;cases l8;rw [hd] at oZ;cases oZ
end
noncomputable def MK(K:aM)(b:Bool)(l:Addr):It:=
 ⟨λi H=>∃xs x,Sq K H b l xs/\xs[i]?=some x,
 λi H v H'=>∃p x,v=.ref p/\H p=none/\H'=upd H p (.tup [.int i,x])/\∀xs,Sq K H b l xs->xs[i]?=some x,
 λi H=>∃xs,Sq K H b l xs/\xs.length<=i⟩
theorem b1j{P:Program}{w:World}{K:aM}{elts:List Expr}{kk:Nat}{pos:Pos}{b:Bool}{e it l:Addr}(d1:e≠it):Turn P w K (.Tuple elts kk pos) (MK K b l) [e,it] e (λi h=>(∃old,IsEnum h e it (i:Int) old)/\fw b h it l i) where
 mem:=by simp
 obj:=λi h ⟨⟨old,he⟩,hit⟩ c hc=>by
  simp only [br,gq,or_false] at hc
  rcases hc with rfl | rfl
  .exact ⟨_,he,λv q=>nomatch (show Dq _=wy v from q)⟩
  .exact hit.jo
 keep:=λi h h' ⟨⟨old,he⟩,hit⟩ k=>⟨⟨old,k e (by simp) _ he⟩,hit.keep λo x=>k it (by simp) o x⟩
 item:=by
  intro X hP hw hK hc i pins s σ H E I hf ⟨⟨old,he⟩,hit⟩ hg
  subst hP hw hK
  obtain ⟨xs,x,q1,hx⟩:=hg
  obtain ⟨ar,r1,p1⟩:=ou I q1
  obtain ⟨u,hu,ru⟩:=r1.get hx
  refine wpAny_pyNext_enum_itemD (b04 (A:=X.A.in1) (I.ok.hd hc) it l (zm hit p1) ar.toArray) he ⟨hit,p1⟩ (by have:=lC.mp hu;simpa using this.1) d1 (by simp [d1,b6w he p1]) λx' h' tk jN sy gR ht sz kp=>?_
  have NQ:u=x':=by simpa [hu] using jN
  subst NQ
  refine ⟨_,rfl,wpAny_letOwnedTupleGo_enum (s:={ s with heap:=h',toks:=tk+1 }) sy λh9 Yc sb=>?_⟩
  have fresh:H s.heap.objs.size=none:=I.bt.fresh (bp _)
  have be:∀c∈[e,it],c<s.heap.objs.size:=λc hc=>by
   simp only [br,gq,or_false] at hc
   rcases hc with rfl | rfl
   .exact bY he
   .exact hit.lt
  have up:∀c o,c∉[e,it]->s.heap.get? c=some o->h9.get? c=some o:=λc o hc x=>by
   simp only [br,gq,or_false,not_or] at hc
   exact sb.extBut _ _ hc.1 (kp c o hc.1 hc.2 x)
  have ne:s.heap.objs.size≠e:=uS (be e (by simp))
  have Gv:h9.get? s.heap.objs.size=some { cls:=.type "tuple",data:=.seq #[.int i tk,u] }:=sb.extBut _ _ ne ht
  have I1:Inv X pins σ (upd H s.heap.objs.size (.tup [.int i,x])) { s with heap:=s.heap.push { cls:=.type "tuple",data:=.seq #[.int i tk,u] },toks:=tk+1 }:=
   I.laid (λb o e=>bR _ e) (bp _) ⟨by simp [sizeLine],[.int i tk,u],.cons ⟨_,rfl⟩ (.cons ru .nil),⟨_,fN _ rfl,rfl,_,rfl⟩⟩
  have I2:Inv X pins σ (upd H s.heap.objs.size (.tup [.int i,x])) { s with heap:=h9,toks:=tk+1 }:=xt (s:={ s with heap:=s.heap.push { cls:=.type "tuple",data:=.seq #[.int i tk,u] },toks:=tk+1 }) (ch:=[e,it]) (t':=tk+1) I1 (λc hc=>by
    obtain ⟨f0,f1,f2,f3,f4,f5⟩:=hf c hc
    exact ⟨by rw [c5 (ei (be c hc))];exact f0,f1,f2,f3,f4,f5⟩) λc o hc y=>by
   by_cases hs:c<s.heap.objs.size
   .exact up c o hc (RV hs y)
   .have wx:c=s.heap.objs.size:=by
     have:=bY y
     rw [nC] at this
     exact DB (Nat.lt_succ_iff.mp this) (IC hs)
    subst wx
    have e2:(s.heap.push { cls:=.type "tuple",data:=.seq #[.int i tk,u] }).get? s.heap.objs.size=some _:=fN _ rfl
    rw [e2] at y;cases y
    exact Gv
  refine ⟨.ref s.heap.objs.size,_,I2,rfl,⟨_,x,rfl,fresh,rfl,λzs uf=>by rw [J0 I uf q1];exact hx⟩,⟨⟨_,Yc⟩,fw.keep gR.1 λo y=>sb.extBut _ _ d1.symm y⟩,λc hc=>?_⟩
  rw [c5 (ei (be c hc))]
  exact (hf c hc).1
 done:=by
  intro X hP hw hK hc i pins s σ H E I hf ⟨⟨old,he⟩,hit⟩ hg
  subst hP hw hK
  obtain ⟨xs,q1,hl⟩:=hg
  obtain ⟨ar,r1,p1⟩:=ou I q1
  have e1:=r1.length
  refine b4j (I.ok.hd hc) he hit p1 (by simp;ext hl e1) λh' kp=>⟨rfl,xt (ch:=[e,it]) (t':=s.toks) I hf λc o hc y=>?_⟩
  simp only [br,gq,or_false,not_or] at hc
  exact kp c o hc.2 y
 self:=λ_ _ _ _ _ st h=>by
  obtain ⟨⟨old,he⟩,_⟩:=st
  exact wpAny_pyIter_enum he h
section
variable {X:Cx}{elts:List Expr}{kk:Nat}{tp:Pos}
noncomputable def zt(K:aM)(ta:TA):TI:=λσ H R=>ta σ H λvs H1=>∃b l xs,vs=[.ref l]/\Sq K H1 b l xs/\R (MK K b l) H1
theorem b5R{a:Expr}{ta:TA}{p pos:Pos}(hg:Gl X "enumerate")(hm:X.mg "enumerate" = none)(ha:PA X [a] ta)(hs:starEach [a] X.env=[(false,eval a X.env)]:=by rfl)(hn:starEach [] X.env=[]:=by rfl):
  PI X (.Tuple elts kk tp) (.Call (.Name "enumerate" p) [a] [] pos) (zt X.K ta):=by
 intro pins s σ H R I h
 refine Call_ (s9 I hg hm boot_enumerate (AX (bE (ha pos pins s σ H _ I h) λus s1 ⟨vs,H1,I1,r1,q1⟩=>?_) (by rw [hs,hn]) (by rw [hn];rfl)))
 obtain ⟨b,l,xs,e,q1,q⟩:=q1
 subst e
 cases r1 with
 | cons r rr =>
  cases rr
  cases r
  obtain ⟨ar,Uu,p1⟩:=ou I1 q1
  refine b2B p1 λh' z0 j1 sz kp=>?_
  refine wpAny_pyIter_enum (s:={ s1 with heap:=h' }) z0 ?_
  have ge:∀c∈[s1.heap.objs.size+1,s1.heap.objs.size],s1.heap.objs.size<=c:=λc hc=>by
   simp only [br,gq,or_false] at hc
   rcases hc with rfl | rfl
   .exact sT _ _
   .exact bp _
  exact ⟨_,_,_,_,H1,rfl,I1.kept (t':=s1.toks) kp,b1j (Nat.succ_ne_self _),⟨⟨_,z0⟩,j1⟩,λc hc=>I1.jy (ge c hc) (I1.bt.fresh (ge c hc)),q⟩
noncomputable def pD(ds:List D):List D:=ds.zipIdx.map λp=>D.tup [.int p.2,p.1]
noncomputable def xg:List D->Option (List D)
 | [.lst _ ds]=>some (pD ds)
 | [.tup ds]=>some (pD ds)
 | _=>none
theorem Rw{K:aM}{O:Addr->Prop}{H:Hp}{b:Bool}{l:Addr}{xs:List V}{as:List D}(h1:Sq K H b l xs)(i1:aN K O H xs as)(n1:¬O l\/∀H',Sq K H' b l xs):
  xh K O (MK K b l) H (pD as):=λO' H2 kp hO i=>by
 have p1:Sq K H2 b l xs:=by
  rcases n1 with h3 | h3
  .exact Kc (λq u e n=>(kp q u e n).1) h1 h3
  .exact h3 H2
 have s1:aN K O' H2 xs as:=i1.map (λq hq hn=>by
  cases e:H q with
  | none=>exact (hq e).elim
  | some u=>exact (kp q u e hn).2) λq u e n=>(kp q u e n).1
 refine ⟨λd hd=>?_,λhl=>⟨xs,p1,?_⟩⟩
 .unfold pD at hd
  rw [uX,List.getElem?_zipIdx] at hd
  cases ea:as[i]? with
  | none=>simp [ea] at hd
  | some da =>
   simp only [ea,wQ,sP] at hd
   cases hd
   obtain ⟨x,hx,dx⟩:=s1.get ea
   refine ⟨⟨xs,x,p1,hx⟩,λv H3 hv=>?_⟩
   obtain ⟨p,x',rfl,hp,rfl,f1⟩:=hv
   have e1:=f1 xs p1
   rw [hx] at e1;cases e1
   have sm:au H2 (upd H2 p (.tup [.int i,x])):=λq u e=>by rw [c5 (pI e hp)];exact e
   exact ⟨sm,.tup (λz=>hO p z hp) (.inl pK) (.cons (.int _) (.cons (dx.grow sm) .nil))⟩
 .have e1:=s1.length
  simp only [pD,aX,OH] at hl
  ext e1 hl
theorem Qe{a:Expr}{fs:En->Option (List D)}{p pos:Pos}(uu:Gl X "enumerate")(hm:X.mg "enumerate" = none)(ha:AV X [a] fs)(h1:starEach [a] X.env=[(false,eval a X.env)]:=by rfl)
  (h2:starEach [] X.env=[]:=by rfl):IV X (.Tuple elts kk tp) (.Call (.Name "enumerate" p) [a] [] pos) (kf xg fs):=by
 obtain ⟨ti,pi,ki⟩:=ha
 refine ⟨_,b5R uu hm pi h1 h2,λO B σ H env ds R Rl e q=>?_⟩
 obtain ⟨as,e1,e2⟩:=bind_some e
 refine ki O B σ H env as _ Rl e1 λvs H1 s1 r1=>?_
 unfold xg at e2
 split at e2
 .rename_i ro da
  cases e2
  cases r1 with
  | cons ra rr =>
   cases rr
   obtain ⟨l1,xs,rfl,g1,i1,n1⟩:=ra.m8 (k:=true) (ds:=da) rfl
   exact ⟨true,l1,xs,rfl,g1,q _ H1 s1 (Rw g1 i1 n1)⟩
 .rename_i da
  cases e2
  cases r1 with
  | cons ra rr =>
   cases rr
   obtain ⟨l1,xs,rfl,g1,i1,n1⟩:=ra.m8 (k:=false) (ds:=da) rfl
   exact ⟨false,l1,xs,rfl,g1,q _ H1 s1 (Rw g1 i1 n1)⟩
 .cases e2
end
end DL
namespace SO
local macro_rules
| `(tactic| obtain $p:rcasesPatMed:=$e:term)=>do
 let n:=(p.raw.find? (·.isToken "|")).isNone
 if n && (p.raw.find? (·.isToken ",")).isSome then `(tactic| first | (refine Classical.byContradiction fun hn=>?_; rcases $e:term with $p:rcasesPatMed; refine hn ?_; clear hn) | rcases $e:term with $p:rcasesPatMed)
 else Lean.Macro.throwUnsupported
section pure
variable {α:Type}
def eD(κ:α->Int)(l:List α):Prop:=l.Pairwise λx y=>κ x<κ y
structure Inv(κ:α->Int)(la lb out:List α)(ia ib:Nat):Prop where
 perm:out.Perm (la.take ia++lb.take ib)
 fj:eD κ out
 lo:∀x∈out,(∀y∈la.drop ia,κ x<κ y)/\∀y∈lb.drop ib,κ x<κ y
variable {κ:α->Int}{la lb out:List α}{ia ib:Nat}
theorem Inv.sym(h:Inv κ la lb out ia ib):Inv κ lb la out ib ia:=⟨h.perm.trans AS,h.fj,λx hx=>⟨(h.lo x hx).2,(h.lo x hx).1⟩⟩
theorem xA(h:eD κ l)(i:Nat):eD κ (l.drop i):=h.sublist (List.drop_sublist ..)
theorem KY(h:eD κ l)(i:Nat):eD κ (l.take i):=h.sublist (List.take_sublist ..)
theorem Ld(h:eD κ l)(i:Nat):∀x∈l.take i,∀y∈l.drop i,κ x<κ y:=by
 have:eD κ (l.take i++l.drop i):=by rw [mS];exact h
 exact (gr.mp this).2.2
theorem Inv.a(h:Inv κ la lb out ia ib)(sa:eD κ la)(k:Nat)(hk:∀x∈(la.drop ia).take k,∀y∈lb.drop ib,κ x<κ y):Inv κ la lb (out++(la.drop ia).take k) (ia+k) ib:=by
 refine ⟨?_,gr.mpr ⟨h.fj,KY (xA sa ia) k,λx hx y hy=>(h.lo x hx).1 y (qY hy)⟩,λx hx=>?_⟩
 .rw [List.take_add,fG]
  refine (h.perm.append_right _).trans ?_
  rw [fG]
  exact AS.append_left _
 .rw [<-List.drop_drop]
  rcases bU.mp hx with hx | hx
  .exact ⟨λy hy=>(h.lo x hx).1 y (qX hy),(h.lo x hx).2⟩
  .exact ⟨λy hy=>Ld (xA sa ia) k x hx y hy,hk x hx⟩
theorem Inv.last(h:Inv κ la lb out ia ib)(sa:eD κ la)(sb:eD κ lb)(hm:∀x∈lb.drop ib,∀y∈la.drop ia,κ x<κ y):eD κ (out++lb.drop ib++la.drop ia)/\(out++lb.drop ib++la.drop ia).Perm (la++lb):=by
 refine ⟨gr.mpr ⟨gr.mpr ⟨h.fj,xA sb ib,λx hx=>(h.lo x hx).2⟩,xA sa ia,λx hx y hy=>?_⟩,?_⟩
 .rcases bU.mp hx with hx | hx
  .exact (h.lo x hx).1 y hy
  .exact hm x hx y hy
 .have e:la++lb=(la.take ia++la.drop ia)++(lb.take ib++lb.drop ib):=by rw [mS,mS]
  rw [e,fG]
  refine (h.perm.append_right _).trans ?_
  simp only [fG]
  refine IW _ ?_
  refine AS.trans ?_
  simp only [fG]
  refine (AS).trans ?_
  simp only [fG]
  refine IW _ ?_
  exact Dy _
theorem Inv.done(h:Inv κ la lb out ia ib)(sa:eD κ la)(sb:eD κ lb)(hm:∀x∈la.drop ia,∀y∈lb.drop ib,κ x<κ y):eD κ (out++la.drop ia++lb.drop ib)/\(out++la.drop ia++lb.drop ib).Perm (la++lb):=
 have q:=h.sym.last sb sa hm
 ⟨q.1,q.2.trans AS⟩
theorem zq:Inv κ la lb [] 0 0:=⟨by simp,Jc,λx hx=>nomatch hx⟩
theorem b2d(sa:eD κ A)(sb:eD κ B)(h1:∀x∈A.take k,∀y∈B,κ x<κ y)(h2:∀x∈B.drop m,∀y∈A,κ y<κ x)(sm:eD κ M)(pm:M.Perm (A.drop k++B.take m)):
  eD κ (A.take k++M++B.drop m)/\(A.take k++M++B.drop m).Perm (A++B):=by
 constructor
 .refine gr.mpr ⟨gr.mpr ⟨KY sa k,sm,λx hx y hy=>?_⟩,xA sb m,λx hx y hy=>?_⟩
  .rcases bU.mp (pm.mem_iff.mp hy) with hy | hy
   .exact Ld sa k x hx y hy
   .exact h1 x hx y (qY hy)
  .rcases bU.mp hx with hx | hx
   .exact h1 x hx y (qX hy)
   .rcases bU.mp (pm.mem_iff.mp hx) with hx | hx
    .exact h2 y hy x (qX hx)
    .exact Ld sb m x hx y hy
 .have e:A++B=(A.take k++A.drop k)++(B.take m++B.drop m):=by rw [mS,mS]
  rw [e,fG]
  simp only [fG]
  refine IW _ ?_
  rw [<-fG]
  exact pm.append_right _
theorem jx(m:List α):∀(xs:Array α) (o n:Nat) (k:Nat),o+n+m.length<=xs.size->((m.zipIdx n).foldl (λa p=>a.setIfInBounds (o+p.2) p.1) xs)[k]?=if o+n<=k/\k<o+n+m.length then m[k-(o+n)]? else xs[k]?:=by
 induction m with
 | nil=>intro xs o n k h;simp only [Iv,List.foldl_nil,List.length_nil];rw [if_neg (by ext)]
 | cons x m ih =>
  intro xs o n k h
  simp only [gy] at h
  rw [Dt,wO,ih _ o (n+1) k (by simp only [Array.size_setIfInBounds];ext h)]
  simp only [gy]
  by_cases c:o+(n+1)<=k/\k<o+(n+1)+m.length
  .rw [if_pos c,if_pos (by ext c),show k-(o+n)=(k-(o+(n+1)))+1 by ext c,List.getElem?_cons_succ]
  .rw [if_neg c,Array.getElem?_setIfInBounds]
   by_cases c2:o+n=k
   .subst c2
    rw [if_pos rfl,if_pos (by ext h),if_pos (by ext)]
    simp
   .rw [if_neg c2,if_neg (by ext c c2)]
theorem b0H{P A S m:List α}{xs:Array α}(e:xs.toList=P++A++S)(hl:m.length=A.length):(m.zipIdx.foldl (λa p=>a.setIfInBounds (P.length+p.2) p.1) xs).toList=P++m++S:=by
 have hs:xs.size=P.length+A.length+S.length:=by rw [<-gW,e];simp;ext
 refine List.ext_getElem? λk=>?_
 rw [sR,jx m xs P.length 0 k (by ext hl hs),Nat.add_zero,<-sR,e]
 by_cases h1:k<P.length
 .rw [if_neg (by ext h1),fG,fG,uW h1,uW h1]
 .by_cases h2:k<P.length+m.length
  .rw [if_pos ⟨by ext h1,h2⟩,fG,rg (by ext h1),uW (by ext h1 h2)]
  .rw [if_neg (by ext h2),rg (by simp;ext hl h2),rg (by simp;ext h2)]
   simp [hl]
noncomputable def kR:Nat->List (List α)->List (Nat×Nat×Nat)->Prop
 | _,[],[]=>True
 | o,R::Rs,p::ps=>p.1=o/\p.2.1=R.length/\kR (o+R.length) Rs ps
 | _,_,_=>False
theorem kR.len:∀{o:Nat} {Rs:List (List α)} {ps:List (Nat×Nat×Nat)},kR o Rs ps->ps.length=Rs.length
 | _,[],[],_=>rfl
 | _,R::Rs,p::ps,h=>by simp [h.2.2.len]
theorem kR.app:∀{o:Nat} {Rs Ss:List (List α)} {ps qs:List (Nat×Nat×Nat)},kR o Rs ps->kR (o+Rs.flatten.length) Ss qs->kR o (Rs++Ss) (ps++qs)
 | o,[],Ss,[],qs,_,h=>by simpa using h
 | o,R::Rs,Ss,p::ps,qs,h,k=>⟨h.1,h.2.1,h.2.2.app (by rw [Dw,cO,<-IK] at k;exact k)⟩
theorem kR.split:∀{o:Nat} {Rs Ss:List (List α)} {ps:List (Nat×Nat×Nat)},kR o (Rs++Ss) ps->kR o Rs (ps.take Rs.length)/\kR (o+Rs.flatten.length) Ss (ps.drop Rs.length)
 | o,[],Ss,ps,h=>⟨trivial,by simpa using h⟩
 | o,R::Rs,Ss,p::ps,h=>by
  obtain ⟨k1,k2⟩:=kR.split (Rs:=Rs) h.2.2
  refine ⟨⟨h.1,h.2.1,k1⟩,?_⟩
  rw [Dw,cO,<-IK]
  exact k2
end pure
open PySem PyProof.Rows
noncomputable def a9J:Bool → Keyed → Array Keyed → Nat → Nat → Nat → StateT SortSt Sem (Option Nat):=sortPriv% PySem.Builtin.gallop
noncomputable def b3R:Array Keyed → Array Keyed → StateT SortSt Sem (Array Keyed):=sortPriv% PySem.Builtin.mergeLo
noncomputable def b3S:Array Keyed → Array Keyed → StateT SortSt Sem (Array Keyed):=sortPriv% PySem.Builtin.mergeHi
noncomputable def setG':Nat → StateT SortSt Sem Unit:=sortPriv% PySem.Builtin.setMinGallop
section
variable {prog:Program}{w:World}{A:Around}{E:Value->Shared->Prop}{s:Shared}
theorem xn{σ α:Type}{M:Model}{m:StateT σ Sem α}{Q:α->σ->Prop}{st:σ}(h:wpS M A E s m Q st):wpAny M A (m st) (λr s'=>s'=s/\Q r.1 r.2) E s:=h
structure Ask(prog:Program)(w:World)(s:Shared)(kd:SortKind)(κ:Keyed->Int)(C:Keyed->Prop):Prop where
 lt:∀{x y:Keyed},C x->C y->κ x≠κ y->∀{A:Around} {E:Value->Shared->Prop} {Q:Bool->Shared->Prop},Q (decide (κ x<κ y)) s->wpAny (model prog w) A (keyLt' kd x.1 y.1) Q E s
variable {kd:SortKind}{κ:Keyed->Int}{C:Keyed->Prop}
theorem y6(hk:Ask prog w s kd κ C){st:SortSt}{Q:Option Bool->SortSt->Prop}(hd:kindOf st=kd)(hx:C x)(hy:C y)(aV:κ x≠κ y)(h:Q (some (decide (κ x<κ y))) st):wpS (model prog w) A E s (lt' x y) Q st:=by
 rw [lt'_eq]
 refine aS (pd ?_)
 rw [hd]
 exact aS (wpS_lift (AH (hk.lt hx hy aV ⟨rfl,bo h⟩)))
theorem g0{Q:Keyed->SortSt->Prop}{st:SortSt}(hi:i<arr.size)(h:Q arr[i] st):wpS (model prog w) A E s (elem' arr i) Q st:=by
 rw [elem'_eq,getElem?_pos arr i hi]
 exact bo h
noncomputable def kv(κ:Keyed->Int)(arr:Array Keyed)(i:Nat):Int:=match arr[i]? with
 | some p=>κ p
 | none=>0
theorem ip(h:i<arr.size):kv κ arr i=κ arr[i]:=by unfold kv;rw [getElem?_pos arr i h]
theorem A4(h:xs[i]?=ys[j]?):kv κ xs i=kv κ ys j:=by unfold kv;rw [h]
theorem bey(hk:Ask prog w s kd κ C){st:SortSt}(hd:kindOf st=kd){Q:Option Bool->SortSt->Prop}(hC:C key)(hj:j<arr.size)(hx:C arr[j])(aV:κ arr[j]≠κ key)(h:Q (some (decide (kv κ arr j<κ key))) st):
  wpS (model prog w) A E s (elem' arr j >>= λx=>if left=true then lt' x key else lt' key x >>= λr=>pure (Im (λx=>!x) r)) Q st:=by
 refine aS (g0 hj ?_)
 rw [ip hj] at h
 cases left with
 | true =>
  rw [if_pos rfl]
  exact y6 hk hd hx hC aV h
 | false =>
  rw [if_neg (by decide)]
  refine aS (y6 hk hd hC hx (og aV) (bo ?_))
  have e:(!decide (κ key<κ arr[j]))=decide (κ arr[j]<κ key):=by
   by_cases c:κ key<κ arr[j]
   .rw [decide_eq_true c,decide_eq_false (by ext hj c)];rfl
   .rw [decide_eq_false c,decide_eq_true (by ext hj aV c)];rfl
  rw [wQ,e]
  exact h
theorem C8(hk:Ask prog w s kd κ C){st:SortSt}(hd:kindOf st=kd){Q:Option Nat->SortSt->Prop}(hC:C key)(hn:base+n<=arr.size)(hh:hint<n)
  (hA:∀j (h:j<arr.size),base<=j->j<base+n->C arr[j]/\κ arr[j]≠κ key)(hs:∀i j,i<j->j<n->kv κ arr (base+i)<kv κ arr (base+j))
  (h:∀k,k<=n->(∀i,i<k->kv κ arr (base+i)<κ key)->(∀i,k<=i->i<n->κ key<kv κ arr (base+i))->Q (some k) st):wpS (model prog w) A E s (a9J left key arr base n hint) Q st:=by
 have ask:∀i,i<n->∀{Q:Option Bool->SortSt->Prop},Q (some (decide (kv κ arr (base+i)<κ key))) st->wpS (model prog w) A E s (elem' arr (base+i) >>= λx=>if left=true then lt' x key else lt' key x >>= λr=>pure (Im (λx=>!x) r)) Q st:=λi hi Q hQ =>
  have hj:base+i<arr.size:=by ext hn hi
  bey hk hd hC hj (hA _ hj (by ext) (by ext hi)).1 (hA _ hj (by ext) (by ext hi)).2 hQ
 have ne:∀i,i<n->kv κ arr (base+i)≠κ key:=λi hi=>by
  have hj:base+i<arr.size:=by ext hn hi
  rw [ip hj]
  exact (hA _ hj (by ext) (by ext hi)).2
 have dn:∀i j,i<=j->j<n->kv κ arr (base+j)<κ key->kv κ arr (base+i)<κ key:=λi j h1 h2 h3=>by
  by_cases c:i=j
  .subst c;exact h3
  .have:=hs i j (by ext h1 c) h2;ext h3 this
 have up:∀i j,i<=j->j<n->κ key<kv κ arr (base+i)->κ key<kv κ arr (base+j):=λi j h1 h2 h3=>by
  by_cases c:i=j
  .subst c;exact h3
  .have:=hs i j (by ext h1 c) h2;ext h3 this
 unfold wpS
 wp_delta
 wp_delta
 wp_delta
 refine xn (Q:=Q) (aS (ask hint hh ?_))
 dsimp only
 have tail:∀lo hi:Nat,lo<=hi->hi<=n->(∀i,i<lo->kv κ arr (base+i)<κ key)->(∀i,hi<=i->i<n->κ key<kv κ arr (base+i)) ->
   wpS (model prog w) A E s (forIn [0:n] ((none,lo,hi):Option (Option Nat)×Nat×Nat) (λx q=>if q.2.1≥q.2.2 then pure (Dx (none,q.2.1,q.2.2)) else
    (elem' arr (base+(q.2.1+(q.2.2-q.2.1)/2)) >>= λx=>if left=true then lt' x key else lt' key x >>= λr=>pure (Im (λx=>!x) r)) >>= λr=>match r with
     | some more=>if more=true then pure (p6 (none,q.2.1+(q.2.2-q.2.1)/2+1,q.2.2)) else pure (p6 (none,q.2.1,q.2.1+(q.2.2-q.2.1)/2))
     | x=>pure (Dx (some none,q.2.1,q.2.2)))) (λq aj=>aj=st/\∃k,q.1=none/\q.2.2=k/\k<=n/\(∀i,i<k->kv κ arr (base+i)<κ key)/\∀i,k<=i->i<n->κ key<kv κ arr (base+i)) st:=λlo hi h1 h2 h3 h4=>by
  refine lx (λx q aj=>aj=st/\∃l r,q=(none,l,r)/\l<=r/\r<=n/\r-l<=n-x/\(∀i,i<l->kv κ arr (base+i)<κ key)/\∀i,r<=i->i<n->κ key<kv κ arr (base+i)) (λx q aj _ hx hI=>?_) (λq aj hI=>?_) ⟨rfl,lo,hi,rfl,h1,h2,by ext h2,h3,h4⟩
  .obtain ⟨rfl,l,r,rfl,j1,j2,j3,j4,j5⟩:=hI
   dsimp only
   by_cases c:l≥r
   .rw [if_pos c]
    obtain rfl:l=r:=by ext j1 c
    exact bo ⟨rfl,l,rfl,rfl,j2,j4,j5⟩
   .rw [if_neg c]
    refine aS (ask _ (by lia) ?_)
    dsimp only
    by_cases c2:kv κ arr (base+(l+(r-l)/2))<κ key
    .rw [if_pos (decide_eq_true c2)]
     exact bo ⟨rfl,_,_,rfl,by lia,‹_›,by ext j3,λi hi=>dn i _ (by ext hi) (by lia) c2,j5⟩
    .rw [if_neg (by simpa using c2)]
     have:=ne (l+(r-l)/2) (by lia)
     exact bo ⟨rfl,_,_,rfl,by ext,by lia,by lia,j4,λi hi h'=>up _ i hi h' (by ext c2 this)⟩
  .obtain ⟨rfl,l,r,rfl,j1,j2,j3,j4,j5⟩:=hI
   obtain rfl:l=r:=by ext j1 j3
   exact ⟨rfl,l,rfl,rfl,j2,j4,j5⟩
 by_cases c:kv κ arr (base+hint)<κ key
 .rw [if_pos (decide_eq_true c)]
  refine aS (lu (lx (λx q aj=>aj=st/\∃l o,q=(none,l,o)/\l<o/\x+1<=o/\hint+l<n/\kv κ arr (base+(hint+l))<κ key) (Q:=λq aj=>aj=st/\∃l o,q=(none,l,o)/\l<o/\hint+l<n/\kv κ arr (base+(hint+l))<κ key/\(o<n-hint->κ key<kv κ arr (base+(hint+o)))) (λx q aj _ hx hI=>?_) (λq aj hI=>?_) ⟨rfl,0,1,rfl,by decide,by decide,‹_›,c⟩) λq aj hI=>?_)
  .obtain ⟨rfl,l,o,rfl,j1,j2,j3,j4⟩:=hI
   dsimp only
   by_cases c1:o≥n-hint
   .rw [if_pos c1]
    exact bo ⟨rfl,l,o,rfl,j1,j3,j4,λz=>absurd z (by ext c1)⟩
   .rw [if_neg c1]
    refine aS (ask (hint+o) (by ext c1) ?_)
    dsimp only
    by_cases c2:kv κ arr (base+(hint+o))<κ key
    .rw [if_neg (by simpa using c2)]
     exact bo ⟨rfl,o,2*o+1,rfl,by ext,by ext j2,by ext c1,c2⟩
    .rw [if_pos (by simpa using c2)]
     have:=ne (hint+o) (by ext c1)
     exact bo ⟨rfl,l,o,rfl,j1,j3,j4,λ_=>by ext c2 this⟩
  .obtain ⟨rfl,l,o,rfl,j1,j2,j3,j4⟩:=hI
   exact ⟨rfl,l,o,rfl,j1,j3,j4,λz=>absurd z (by ext j2)⟩
  .obtain ⟨rfl,l,o,rfl,j1,j3,j4,j5⟩:=hI
   dsimp only
   refine aS (lu (tail (hint+l+1) (hint+min o (n-hint)) (by ext j1 j3) (by ext hh) (λi hi=>dn i _ (by ext hi) j3 j4) λi hi h'=>?_) λq aj hI=>?_)
   .by_cases c1:o<n-hint
    .exact up (hint+o) i (by ext hi c1) h' (j5 c1)
    .ext hi h' c1
   .obtain ⟨rfl,k,e1,rfl,k1,k2,k3⟩:=hI
    rw [e1]
    exact bo (h _ k1 k2 k3)
 .rw [if_neg (by simpa using c)]
  have c0:=ne hint hh
  refine aS (lu (lx (λx q aj=>aj=st/\∃l o,q=(none,l,o)/\l<o/\x+1<=o/\l<=hint/\κ key<kv κ arr (base+(hint-l))) (Q:=λq aj=>aj=st/\∃l o,q=(none,l,o)/\l<o/\l<=hint/\κ key<kv κ arr (base+(hint-l))/\(o<hint+1->kv κ arr (base+(hint-o))<κ key)) (λx q aj _ hx hI=>?_) (λq aj hI=>?_) ⟨rfl,0,1,rfl,by decide,by decide,by ext,by rw [Nat.sub_zero];ext c c0⟩) λq aj hI=>?_)
  .obtain ⟨rfl,l,o,rfl,j1,j2,j3,j4⟩:=hI
   dsimp only
   by_cases c1:o≥hint+1
   .rw [if_pos c1]
    exact bo ⟨rfl,l,o,rfl,j1,j3,j4,λz=>absurd z (by ext c1)⟩
   .rw [if_neg c1]
    refine aS (ask (hint-o) (by ext hh) ?_)
    dsimp only
    by_cases c2:kv κ arr (base+(hint-o))<κ key
    .rw [if_pos (decide_eq_true c2)]
     exact bo ⟨rfl,l,o,rfl,j1,j3,j4,λ_=>c2⟩
    .rw [if_neg (by simpa using c2)]
     have:=ne (hint-o) (by ext hh)
     exact bo ⟨rfl,o,2*o+1,rfl,by ext,by ext j2,by ext c1,by ext c2 this⟩
  .obtain ⟨rfl,l,o,rfl,j1,j2,j3,j4⟩:=hI
   exact ⟨rfl,l,o,rfl,j1,j3,j4,λz=>absurd z (by ext hh j2)⟩
  .obtain ⟨rfl,l,o,rfl,j1,j3,j4,j5⟩:=hI
   dsimp only
   refine aS (lu (tail (hint+1-min o (hint+1)) (hint-l) (by ext j1) (by ext hh) (λi hi=>?_) λi hi h'=>up _ i hi h' j4) λq aj hI=>?_)
   .by_cases c1:o<hint+1
    .exact dn i (hint-o) (by ext hi) (by ext hh) (j5 c1)
    .ext hi c1
   .obtain ⟨rfl,k,e1,rfl,k1,k2,k3⟩:=hI
    rw [e1]
    exact bo (h _ k1 k2 k3)
end
section
variable {κ:Keyed->Int}
theorem Kw{a:Array Keyed}{i k:Nat}(h:x∈(a.toList.drop i).take k):∃j,∃hj:j<a.size,i<=j/\j<i+k/\x=a[j]:=by
 obtain ⟨n,hn,e⟩:=pz.mp h
 simp only [gz,lD,gW] at hn
 refine ⟨i+n,by ext hn:1,by ext:1,by ext hn:1,?_⟩
 rw [<-e]
 simp
theorem Bp{a:Array Keyed}{i:Nat}(h:x∈a.toList.drop i):∃j,∃hj:j<a.size,i<=j/\x=a[j]:=by
 obtain ⟨n,hn,e⟩:=pz.mp h
 simp only [lD,gW] at hn
 refine ⟨i+n,by ext hn:1,by ext:1,?_⟩
 rw [<-e]
 simp
theorem fS(h:eD κ a.toList)(h1:i<j)(h2:j<a.size):kv κ a i<kv κ a j:=by
 rw [ip (by ext h1 h2:1),ip h2]
 have:=wX.mp h i j (by simp;ext h1 h2:1) (by simpa using h2) h1
 simpa using this
theorem QT(a:Array Keyed)(i k:Nat):(a.extract i (i+k)).toList=(a.toList.drop i).take k:=by
 rw [DW,DQ,Jm]
theorem E6(a:Array Keyed)(i:Nat):(a.extract i a.size).toList=a.toList.drop i:=by
 rw [DW,DQ]
 exact DJ (by simp)
theorem KP{a:Array Keyed}{i:Nat}(h:i<a.size):(a.toList.drop i).take 1=[a[i]]:=by
 rw [mT (by simpa using h)]
 simp
end
noncomputable abbrev sg(st:SortSt)(g:Nat):SortSt:=AG (kindOf st) (arrOf st) (pendingOf st) g (failedOf st)
section
variable {prog:Program}{w:World}{A:Around}{E:Value->Shared->Prop}{s:Shared}{kd:SortKind}{κ:Keyed->Int}{C:Keyed->Prop}
theorem Ee{st:SortSt}{Q:Unit->SortSt->Prop}(h:Q () (sg st g)):wpS (model prog w) A E s (setG' g) Q st:=by
 show wpS _ _ _ _ (modify _) _ _
 exact uN h
theorem w5{st:SortSt}{Q:Unit->SortSt->Prop}(h:Q () st):wpS (model prog w) A E s (liftM (rule t):StateT SortSt Sem Unit) Q st:=wpS_lift (wI ⟨rfl,h⟩)
structure gi(κ:Keyed->Int)(C:Keyed->Prop)(a b:Array Keyed):Prop where
 sa:eD κ a.toList
 sb:eD κ b.toList
 ca:∀x∈a.toList,C x
 cb:∀x∈b.toList,C x
 ne:∀x∈a.toList,∀y∈b.toList,κ x≠κ y
variable {a b:Array Keyed}
theorem gi.CK(T:gi κ C a b)(h:i<a.size):C a[i]:=T.ca _ (by simp)
theorem gi.CJ(T:gi κ C a b)(h:i<b.size):C b[i]:=T.cb _ (by simp)
theorem gi.v7(T:gi κ C a b)(hi:i<a.size)(hj:j<b.size):κ a[i]≠κ b[j]:=T.ne _ (by simp) _ (by simp)
theorem Am(hk:Ask prog w s kd κ C)(T:gi κ C a b){st:SortSt}(hd:kindOf st=kd){Q:Option Nat->SortSt->Prop}(hi:i<a.size)(hj:j<b.size)
  (h:∀k,i+k<=a.size->(∀x∈(a.toList.drop i).take k,∀y∈b.toList.drop j,κ x<κ y)->(∀y∈a.toList.drop (i+k),κ b[j]<κ y)->Q (some k) st):wpS (model prog w) A E s (a9J l b[j] a i (a.size-i) 0) Q st:=by
 refine C8 hk hd (T.CJ hj) (by ext hi) (by ext hi) (λn hn _ _=>⟨T.CK hn,T.v7 hn hj⟩) (λx y h1 h2=>fS T.sa (by ext h1) (by ext h2)) λk k1 k2 k3=>h k (by ext hi k1) (λx hx y hy=>?_) λy hy=>?_
 .obtain ⟨n,hn,n1,n2,rfl⟩:=Kw hx
  obtain ⟨m,hm,m1,rfl⟩:=Bp hy
  have e:=k2 (n-i) (by ext n1 n2)
  rw [show i+(n-i)=n by ext n1,ip hn] at e
  by_cases c:j=m
  .subst c;exact e
  .have:=fS T.sb (show j<m by ext m1 c) hm
   rw [ip hj,ip hm] at this
   ext hn hm hj e this
 .obtain ⟨n,hn,n1,rfl⟩:=Bp hy
  have e:=k3 (n-i) (by ext n1) (by ext hn n1)
  rw [show i+(n-i)=n by ext n1,ip hn] at e
  exact e
theorem gi.sym(T:gi κ C a b):gi κ C b a:=⟨T.sb,T.sa,T.cb,T.ca,λx hx y hy z=>T.ne y hy x hx z.symm⟩
theorem Inv.oN{out:Array Keyed}{ia ib:Nat}(h:Inv κ a.toList b.toList out.toList ia ib)(T:gi κ C a b)(hi:ia<a.size)(hk:∀y∈b.toList.drop ib,κ a[ia]<κ y):Inv κ a.toList b.toList (out.push a[ia]).toList (ia+1) ib:=by
 rw [Dv,<-KP hi]
 refine h.a T.sa 1 λx hx y hy=>?_
 rw [KP hi,bQ] at hx
 rw [hx]
 exact hk y hy
theorem Inv.oM{out:Array Keyed}{ia ib:Nat}(h:Inv κ a.toList b.toList out.toList ia ib)(T:gi κ C a b)(hi:ib<b.size)(hk:∀y∈a.toList.drop ia,κ b[ib]<κ y):Inv κ a.toList b.toList (out.push b[ib]).toList ia (ib+1):=(h.sym.oN T.sym hi hk).sym
theorem Inv.yv(h:Inv κ a.toList b.toList out.toList ia ib)(T:gi κ C a b)(k:Nat)(hk:∀x∈(a.toList.drop ia).take k,∀y∈b.toList.drop ib,κ x<κ y):Inv κ a.toList b.toList (out++a.extract ia (ia+k)).toList (ia+k) ib:=by
 rw [pq,QT]
 exact h.a T.sa k hk
theorem Inv.F9(h:Inv κ a.toList b.toList out.toList ia ib)(T:gi κ C a b)(k:Nat)(hk:∀x∈(b.toList.drop ib).take k,∀y∈a.toList.drop ia,κ x<κ y):Inv κ a.toList b.toList (out++b.extract ib (ib+k)).toList ia (ib+k):=(h.sym.yv T.sym k hk).sym
theorem EG(T:gi κ C a b)(hi:i<a.size)(hj:j<b.size)(h:κ b[j]<κ a[i]):∀y∈a.toList.drop i,κ b[j]<κ y:=λy hy=>by
 obtain ⟨n,hn,n1,rfl⟩:=Bp hy
 by_cases c:i=n
 .subst c;exact h
 .have:=fS T.sa (show i<n by ext n1 c) hn
  rw [ip hi,ip hn] at this
  ext hj hn hi h this
def Mg(κ:Keyed->Int)(a b r:Array Keyed):Prop:=eD κ r.toList/\r.toList.Perm (a.toList++b.toList)
theorem Inv.gH(h:Inv κ a.toList b.toList out.toList ia ib)(T:gi κ C a b)(hm:ia=a.size\/ib=b.size):Mg κ a b (out++a.extract ia a.size++b.extract ib b.size):=by
 unfold Mg
 rw [pq,pq,E6,E6]
 refine h.done T.sa T.sb λx hx y hy=>?_
 obtain ⟨n,hn,n1,rfl⟩:=Bp hx
 obtain ⟨m,hm,m1,rfl⟩:=Bp hy
 lia
theorem Inv.jq(h:Inv κ a.toList b.toList out.toList ia ib)(T:gi κ C a b)(hm:∀x∈b.toList,∀y∈a.toList.drop (a.size-1),κ x<κ y)(hi:ia+1=a.size):Mg κ a b (out++b.extract ib b.size++a.extract ia a.size):=by
 unfold Mg
 rw [pq,pq,E6,E6]
 exact h.last T.sa T.sb λx hx y hy=>hm x (qX hx) y (by rw [<-hi];exact hy)
theorem Ex{n:Nat}(h:2<=n)(h':¬n-1=1):2<=n-1:=by ext h h'
theorem b7p(h:¬m=1)(h':¬m=0):2<=m:=by ext h h'
theorem zl{β γ:Type}{M:Model}{c:γ->Prop}[∀v,Decidable (c v)]{x y:γ->StateT SortSt Sem β}{Q:β->SortSt->Prop}{st:SortSt}(u:γ->γ)(hx:∀v,x v=y (u v))(h:∀u,wpS M A E s (y u) Q st):∀v,wpS M A E s (if c v then x v else y v) Q st:=λv=>by
 rw [hx]
 split<;>exact h _
theorem Eg{β γ δ:Type}{M:Model}{c:Prop}[Decidable c]{R:γ->δ->Prop}{x y:γ->δ->StateT SortSt Sem β}{Q:β->SortSt->Prop}{st:SortSt}(P:γ->δ->Prop)(hF:∀u v,P u v->wpS M A E s (y u v) Q st)
  (h1:∀u v,R u v->(∀u v,P u v->wpS M A E s (y u v) Q st)->c->wpS M A E s (x u v) Q st)(h2:∀u v,R u v->¬c->P u v):∀u v,R u v->wpS M A E s (if c then x u v else y u v) Q st:=λu v hR=>by
 by_cases hc:c
 .rw [if_pos hc];exact h1 u v hR hF hc
 .rw [if_neg hc];exact hF u v (h2 u v hR hc)
theorem qG{β:Type}{M:Model}{c:Prop}[Decidable c]{x y:StateT SortSt Sem β}{Q:β->SortSt->Prop}{st:SortSt}(h1:c->wpS M A E s x Q st)(h2:¬c->wpS M A E s y Q st):wpS M A E s (if c then x else y) Q st:=by
 split
 .exact h1 ‹_›
 .exact h2 ‹_›
theorem jM{β:Type}{M:Model}{m n:Nat}{x y:StateT SortSt Sem β}{Q:β->SortSt->Prop}{st:SortSt}(h1:m=n->wpS M A E s x Q st)(h2:¬m=n->wpS M A E s y Q st):wpS M A E s (if (m==n)=true then x else y) Q st:=qG (λc=>h1 (eq_of_beq c)) λc=>h2 λz=>c (beq_of_eq z)
theorem Nd{β:Type}{M:Model}{p:Prop}[Decidable p]{x y:StateT SortSt Sem β}{Q:β->SortSt->Prop}{st:SortSt}(h1:p->wpS M A E s x Q st)(h2:¬p->wpS M A E s y Q st):wpS M A E s (if decide p=true then x else y) Q st:=qG (λc=>h1 (of_decide_eq_true c)) λc=>h2 λz=>c (decide_eq_true z)
theorem NZ{ji jh jg je ρ:Type}{st:SortSt}{P R:ji->jh->jg->je->Prop}{G:Option ρ×ji×jh×jg×je->SortSt->Prop}(k:∀g v0 v1 v2 v3,P v0 v1 v2 v3->R v0 v1 v2 v3->G (none,v0,v1,v2,v3) (sg st g)):∀(q:Option ρ×ji×jh×jg×je) (aj:SortSt),(∃g,aj=sg st g)/\(∃v0 v1 v2 v3,q=(none,v0,v1,v2,v3)/\P v0 v1 v2 v3/\R v0 v1 v2 v3)->G q aj:=by
 rintro q aj ⟨⟨g,rfl⟩,v0,v1,v2,v3,rfl,p,r⟩
 exact k g v0 v1 v2 v3 p r
theorem NY{ji jh jg je lO ρ:Type}{st:SortSt}{P R:ji->jh->jg->je->lO->Prop}{G:Option ρ×ji×jh×jg×je×lO->SortSt->Prop}(k:∀g v0 v1 v2 v3 v4,P v0 v1 v2 v3 v4->R v0 v1 v2 v3 v4->G (none,v0,v1,v2,v3,v4) (sg st g)):∀(q:Option ρ×ji×jh×jg×je×lO) (aj:SortSt),(∃g,aj=sg st g)/\(∃v0 v1 v2 v3 v4,q=(none,v0,v1,v2,v3,v4)/\P v0 v1 v2 v3 v4/\R v0 v1 v2 v3 v4)->G q aj:=by
 rintro q aj ⟨⟨g,rfl⟩,v0,v1,v2,v3,v4,rfl,p,r⟩
 exact k g v0 v1 v2 v3 v4 p r
theorem NW{ji jh jg je lO ρ:Type}{st:SortSt}{P R:ji->jh->jg->je->lO->Prop}{M:ρ->Prop}{G:Option ρ×ji×jh×jg×je×lO->SortSt->Prop}(h:∀g r t,M r->G (some r,t) (sg st g))(k:∀g v0 v1 v2 v3 v4,P v0 v1 v2 v3 v4->R v0 v1 v2 v3 v4->G (none,v0,v1,v2,v3,v4) (sg st g)):∀(q:Option ρ×ji×jh×jg×je×lO) (aj:SortSt),(∃g,aj=sg st g)/\((∃r,q.1=some r/\M r)\/∃v0 v1 v2 v3 v4,q=(none,v0,v1,v2,v3,v4)/\P v0 v1 v2 v3 v4/\R v0 v1 v2 v3 v4)->G q aj:=by
 rintro ⟨q,t⟩ aj ⟨⟨g,rfl⟩,⟨r,e,m⟩ | ⟨v0,v1,v2,v3,v4,e,p,r⟩⟩
 .cases e
  exact h g r t m
 .cases e
  exact k g v0 v1 v2 v3 v4 p r
theorem NX{ji jh jg je lO tO ρ:Type}{st:SortSt}{P R:ji->jh->jg->je->lO->tO->Prop}{G:Option ρ×ji×jh×jg×je×lO×tO->SortSt->Prop}(k:∀g v0 v1 v2 v3 v4 v5,P v0 v1 v2 v3 v4 v5->R v0 v1 v2 v3 v4 v5->G (none,v0,v1,v2,v3,v4,v5) (sg st g)):∀(q:Option ρ×ji×jh×jg×je×lO×tO) (aj:SortSt),(∃g,aj=sg st g)/\(∃v0 v1 v2 v3 v4 v5,q=(none,v0,v1,v2,v3,v4,v5)/\P v0 v1 v2 v3 v4 v5/\R v0 v1 v2 v3 v4 v5)->G q aj:=by
 rintro q aj ⟨⟨g,rfl⟩,v0,v1,v2,v3,v4,v5,rfl,p,r⟩
 exact k g v0 v1 v2 v3 v4 v5 p r
theorem NV{ji jh jg je lO tO ρ:Type}{st:SortSt}{P R:ji->jh->jg->je->lO->tO->Prop}{M:ρ->Prop}{G:Option ρ×ji×jh×jg×je×lO×tO->SortSt->Prop}(h:∀g r t,M r->G (some r,t) (sg st g))(k:∀g v0 v1 v2 v3 v4 v5,P v0 v1 v2 v3 v4 v5->R v0 v1 v2 v3 v4 v5->G (none,v0,v1,v2,v3,v4,v5) (sg st g)):∀(q:Option ρ×ji×jh×jg×je×lO×tO) (aj:SortSt),(∃g,aj=sg st g)/\((∃r,q.1=some r/\M r)\/∃v0 v1 v2 v3 v4 v5,q=(none,v0,v1,v2,v3,v4,v5)/\P v0 v1 v2 v3 v4 v5/\R v0 v1 v2 v3 v4 v5)->G q aj:=by
 rintro ⟨q,t⟩ aj ⟨⟨g,rfl⟩,⟨r,e,m⟩ | ⟨v0,v1,v2,v3,v4,v5,e,p,r⟩⟩
 .cases e
  exact h g r t m
 .cases e
  exact k g v0 v1 v2 v3 v4 v5 p r
structure J(κ:Keyed->Int)(a b out:Array Keyed)(ia ib:Nat):Prop where
 inv:Inv κ a.toList b.toList out.toList ia ib
 la:ia+1<a.size
 lb:ib<b.size
theorem WK(hk:Ask prog w s kd κ C)(T:gi κ C a b){st:SortSt}(hd:kindOf st=kd){Q:Array Keyed->SortSt->Prop}(ha:0<a.size)(hb:0<b.size)(h0:κ b[0]<κ a[0])(hm:∀x∈b.toList,∀y∈a.toList.drop (a.size-1),κ x<κ y)
  (h:∀r g,Mg κ a b r->Q r (sg st g)):wpS (model prog w) A E s (b3R a b) Q st:=by
 unfold wpS
 wp_delta
 wp_delta
 wp_delta
 refine xn (Q:=Q) (aS (w5 (aS (g0 hb ?_))))
 dsimp only
 have i0:Inv κ a.toList b.toList (#[b[0]]:Array Keyed).toList 0 1:=(zq (κ:=κ) (la:=a.toList) (lb:=b.toList)).oM (out:=#[]) T hb (EG T ha hb h0)
 refine jM (λc1=>?_) λc1=>?_
 .exact bo (h _ (gallopOf st) (i0.gH T (.inr c1)))
 refine jM (λc2=>?_) λc2=>?_
 .exact bo (h _ (gallopOf st) (i0.jq T hm c2))
 refine aS (pd ?_)
 refine aS (lu (lx (λx q aj=>(∃g,aj=sg st g)/\∃out ia ib mg,q=(none,out,ia,ib,mg)/\J κ a b out ia ib/\x+1<=ia+ib) (Q:=λq aj=>(∃g,aj=sg st g)/\∃r,q.1=some r/\Mg κ a b r) (λx q aj _ hx hI=>?_) (λq aj hI=>?_) ⟨⟨gallopOf st,rfl⟩,_,_,_,_,rfl,⟨i0,by ext ha c2,by ext hb c1⟩,by decide⟩) λq aj hI=>?_)
 .revert q aj
  refine NZ λg out ia ib mg hJ hp=>?_
  dsimp only
  refine aS (lu (lx (λx q aj=>(∃g,aj=sg st g)/\∃fU iT l5 ac bc,q=(none,fU,iT,l5,ac,bc)/\J κ a b fU iT l5/\ia+ib+x<=iT+l5) (Q:=λq aj=>(∃g,aj=sg st g)/\((∃r,q.1=some r/\Mg κ a b r)\/∃fU iT l5 ac bc,q=(none,fU,iT,l5,ac,bc)/\J κ a b fU iT l5/\ia+ib+1<=iT+l5)) (λx q aj _ hx hI=>?_) (λq aj hI=>?_) ⟨⟨_,rfl⟩,_,_,_,_,_,rfl,hJ,by ext⟩) λq aj hI=>?_)
  .revert q aj
   refine NY λg out ia ib ac bc hJ hp=>?_
   dsimp only
   refine aS (g0 hJ.lb (aS (g0 (u6 hJ.la) (aS (y6 hk hd (T.CJ hJ.lb) (T.CK _) (og (T.v7 _ hJ.lb)) ?_)))))
   dsimp only
   have la:=hJ.la
   have lb:=hJ.lb
   refine Nd (λc=>?_) λc=>?_
   .refine aS (g0 hJ.lb ?_)
    have i2:=hJ.inv.oM T hJ.lb (EG T (by ext la) lb c)
    refine jM (λd1=>?_) λd1=>?_
    .exact bo ⟨⟨_,rfl⟩,.inl ⟨_,rfl,i2.gH T (.inr d1)⟩⟩
    refine qG (λd2=>?_) λd2=>?_
    .exact bo ⟨⟨_,rfl⟩,.inr ⟨_,_,_,_,_,rfl,⟨i2,la,by ext lb d1⟩,by ext hp⟩⟩
    .exact bo ⟨⟨_,rfl⟩,_,_,_,_,_,rfl,⟨i2,la,by ext lb d1⟩,by ext hp⟩
   .refine aS (g0 (u6 hJ.la) ?_)
    have aV:=T.v7 (u6 hJ.la) hJ.lb
    have i2:=hJ.inv.oN T (u6 hJ.la) (EG T.sym lb (by ext la) (by ext la lb c aV))
    refine jM (λd1=>?_) λd1=>?_
    .exact bo ⟨⟨_,rfl⟩,.inl ⟨_,rfl,i2.jq T hm d1⟩⟩
    refine qG (λd2=>?_) λd2=>?_
    .exact bo ⟨⟨_,rfl⟩,.inr ⟨_,_,_,_,_,rfl,⟨i2,by ext la d1,lb⟩,by ext hp⟩⟩
    .exact bo ⟨⟨_,rfl⟩,_,_,_,_,_,rfl,⟨i2,by ext la d1,lb⟩,by ext hp⟩
  .obtain ⟨hg,out,ia,ib,ac,bc,rfl,hJ,hp⟩:=hI
   exact ⟨hg,.inr ⟨_,_,_,_,_,rfl,hJ,by ext hb hp⟩⟩
  .revert q aj
   refine NW (λg r _ hr=>bo ⟨⟨_,rfl⟩,_,rfl,hr⟩) λg fU iT l5 ac bc HI zH=>?_
   dsimp only
   refine aS (w5 ?_)
   refine aS (lu (lx (λx q aj=>(∃g,aj=sg st g)/\∃out ja jb mg ac bc,q=(none,out,ja,jb,mg,ac,bc)/\J κ a b out ja jb/\iT+l5<=ja+jb) (Q:=λq aj=>(∃g,aj=sg st g)/\((∃r,q.1=some r/\Mg κ a b r)\/∃out ja jb mg ac bc,q=(none,out,ja,jb,mg,ac,bc)/\J κ a b out ja jb/\iT+l5<=ja+jb)) (λx q aj _ hx hI=>?_) (λq aj hI=>?_) ⟨⟨_,rfl⟩,_,_,_,_,_,_,rfl,HI,by ext⟩) λq aj hI=>?_)
   .revert q aj
    refine NX λg out ja jb mg ac bc hJ hp=>?_
    dsimp only
    have la:=hJ.la
    have lb:=hJ.lb
    revert mg
    refine zl (λmg=>mg-1) (λ_=>rfl) λmg=>?_
    refine aS (Ee (aS (g0 lb (aS ?_))))
    refine Am hk T ?_ (u6 la) lb λk k1 k2 k3=>?_
    .exact hd
    dsimp only
    have hR:Inv κ a.toList b.toList out.toList ja jb/\(k=0->∀y∈a.toList.drop ja,κ b[jb]<κ y)/\(k=0->ja+1<a.size)/\iT+l5<=ja+jb/\ja+k<=a.size/\(∀x∈(a.toList.drop ja).take k,∀y∈b.toList.drop jb,κ x<κ y)/\∀y∈a.toList.drop (ja+k),κ b[jb]<κ y:=⟨hJ.inv,λz=>by rw [z] at k3;exact k3,λ_=>la,hp,k1,k2,k3⟩
    clear hJ la hp k1 k2 k3
    revert out ja
    refine Eg (λo j=>Inv κ a.toList b.toList o.toList j jb/\j+1<a.size/\(∀y∈a.toList.drop j,κ b[jb]<κ y)/\iT+l5<=j+jb) ?_ (λout ja hR hF d0=>?_) λout ja hR d0=>⟨hR.1,hR.2.2.1 (uU d0),hR.2.1 (uU d0),hR.2.2.2.1⟩
    .rintro o j ⟨i1,hj,k3,hp⟩
     have CZ:=u6 hj
     refine aS (g0 lb ?_)
     have i2:=i1.oM T lb k3
     refine jM (λd3=>?_) λd3=>?_
     .exact bo ⟨⟨_,rfl⟩,.inl ⟨_,rfl,i2.gH T (.inr d3)⟩⟩
     have l2:jb+1<b.size:=AR lb d3
     refine aS (g0 CZ (aS ?_))
     refine Am hk T.sym ?_ l2 CZ λm m1 m2 m3=>?_
     .exact hd
     dsimp only
     have hR:Inv κ a.toList b.toList (o.push b[jb]).toList j (jb+1)/\(m=0->∀y∈b.toList.drop (jb+1),κ a[j]<κ y)/\jb+1<b.size/\iT+l5<=j+(jb+1)/\jb+1+m<=b.size/\(∀x∈(b.toList.drop (jb+1)).take m,∀y∈a.toList.drop j,κ x<κ y)/\∀y∈b.toList.drop (jb+1+m),κ a[j]<κ y:=⟨i2,λz=>by rw [z] at m3;exact m3,l2,Nat.le_succ_of_le hp,m1,m2,m3⟩
     clear i2 l2 m1 m2 m3
     generalize o.push b[jb]=o2 at hR ⊢
     generalize jb+1=j2 at hR ⊢
     revert o2 j2
     refine Eg (λp q=>Inv κ a.toList b.toList p.toList j q/\q<b.size/\(∀y∈b.toList.drop q,κ a[j]<κ y)/\iT+l5<=j+q) ?_ (λo2 j2 hR hF d4=>?_) λout ja hR d0=>⟨hR.1,hR.2.2.1,hR.2.1 (uU d0),hR.2.2.2.1⟩
     .rintro p q ⟨i3,hq,m3,hp⟩
      refine aS (g0 CZ ?_)
      have i4:=i3.oN T CZ m3
      refine jM (λd6=>?_) λd6=>?_
      .exact bo ⟨⟨_,rfl⟩,.inl ⟨_,rfl,i4.jq T hm d6⟩⟩
      have hJ:J κ a b (p.push a[j]) (j+1) q:=⟨i4,AR hj d6,hq⟩
      have wg:iT+l5<=j+1+q:=fm hp (IQ (uO j) q)
      refine qG (λd7=>?_) λd7=>?_
      .exact bo ⟨⟨_,rfl⟩,.inr ⟨_,_,_,_,_,_,rfl,hJ,wg⟩⟩
      .exact bo ⟨⟨_,rfl⟩,_,_,_,_,_,_,rfl,hJ,wg⟩
     .obtain ⟨i2,_,l2,hp,m1,m2,m3⟩:=hR
      have i3:=i2.F9 T m m2
      refine jM (λd5=>?_) λd5=>?_
      .exact bo ⟨⟨_,rfl⟩,.inl ⟨_,rfl,i3.gH T (.inr d5)⟩⟩
      exact hF _ _ ⟨i3,AR m1 d5,m3,fm hp (Nat.add_le_add_left (sT j2 m) j)⟩
    .obtain ⟨i0,_,la,hp,k1,k2,k3⟩:=hR
     have i1:=i0.yv T k k2
     refine jM (λd1=>?_) λd1=>?_
     .exact bo ⟨⟨_,rfl⟩,.inl ⟨_,rfl,i1.jq T hm d1⟩⟩
     refine jM (λd2=>?_) λd2=>?_
     .exact bo ⟨⟨_,rfl⟩,.inl ⟨_,rfl,i1.gH T (.inl d2)⟩⟩
     exact hF _ _ ⟨i1,AR (AR k1 d2) d1,k3,fm hp (IQ (sT ja k) jb)⟩
   .obtain ⟨hg,out,ja,jb,mg,ac,bc,rfl,hJ,hp⟩:=hI
    exact ⟨hg,.inr ⟨_,_,_,_,_,_,rfl,hJ,‹_›⟩⟩
   .revert q aj
    refine NV (λg r _ hr=>bo ⟨⟨_,rfl⟩,_,rfl,hr⟩) λg out ja jb mg ac bc hJ hp=>?_
    .dsimp only
     exact aS (Ee (bo ⟨⟨_,rfl⟩,_,_,_,_,rfl,hJ,by lia⟩))
 .obtain ⟨_,out,ia,ib,mg,rfl,hJ,hp⟩:=hI
  have la:=hJ.la
  have lb:=hJ.lb
  ext _ hb hp la lb
 .obtain ⟨⟨g,rfl⟩,r,e,hr⟩:=hI
  rw [e]
  exact bo (h _ _ hr)
end
section
variable {prog:Program}{w:World}{A:Around}{E:Value->Shared->Prop}{s:Shared}{kd:SortKind}{κ:Keyed->Int}{C:Keyed->Prop}{a b:Array Keyed}
noncomputable def ng(κ:Keyed->Int)(x:Keyed):Int:=-κ x
theorem dq:eD (ng κ) l.reverse↔eD κ l:=by
 unfold eD
 rw [List.pairwise_reverse]
 constructor<;>exact λh=>h.imp λz=>by unfold ng at *;ext z
theorem qa(l:List Keyed)(h:n<=l.length):l.reverse.drop (l.length-n)=(l.take n).reverse:=by
 rw [List.reverse_take]
theorem Pb(l:List Keyed)(h:n<=l.length)(hk:k<=n):(l.reverse.drop (l.length-n)).take (n-k)=((l.take n).drop k).reverse:=by
 rw [qa l h,List.reverse_drop,gz,II h]
theorem E5(a:Array Keyed)(n:Nat):(a.extract 0 n).toList=a.toList.take n:=by
 rw [DW,DQ]
 rfl
theorem K4(a:Array Keyed)(i n:Nat):(a.extract i n).toList=(a.toList.take n).drop i:=by
 rw [DW,DQ,IF]
structure H(κ:Keyed->Int)(a b out:Array Keyed)(na nb:Nat):Prop where
 inv:Inv (ng κ) a.toList.reverse b.toList.reverse out.toList (a.toList.length-na) (b.toList.length-nb)
 la:na<=a.toList.length
 lb:nb<=b.toList.length
variable {out:Array Keyed}{na nb:Nat}
theorem H.sym(h:H κ a b out na nb):H κ b a out nb na:=⟨h.inv.sym,h.lb,h.la⟩
theorem H.seg(h:H κ a b out na nb)(T:gi κ C a b)(hk:k<=na)(hx:∀x∈(a.toList.take na).drop k,∀y∈b.toList.take nb,κ y<κ x):H κ a b (out++(a.extract k na).reverse) k nb:=by
 have la:=h.la
 refine ⟨?_,by ext hk la,h.lb⟩
 have i:=h.inv.a (dq.mpr T.sa) (na-k) λx jN y hy=>?_
 .rw [Pb _ h.la hk,show a.toList.length-na+(na-k)=a.toList.length-k by ext hk la] at i
  rw [pq,DV,K4]
  exact i
 .rw [Pb _ h.la hk] at jN
  rw [qa _ h.lb] at hy
  have:=hx x (wJ.mp jN) y (wJ.mp hy)
  unfold ng
  ext this
theorem H.push(h:H κ a b out na nb)(T:gi κ C a b)(h0:0<na)(hn:na-1<a.size)(hx:∀y∈b.toList.take nb,κ y<κ a[na-1]):H κ a b (out.push a[na-1]) (na-1) nb:=by
 have la:=h.la
 rw [gW] at la
 have e:(a.toList.take na).drop (na-1)=[a[na-1]]:=by
  rw [IF,show na-(na-1)=1 by ext h0,KP hn]
 have:=h.seg T (k:=na-1) (by ext) λx jN y hy=>by
  rw [e,bQ] at jN
  rw [jN]
  exact hx y hy
 have e2:out++(a.extract (na-1) na).reverse=out.push a[na-1]:=by
  apply Array.toList_inj.mp
  rw [pq,DV,K4,e,Dv]
  rfl
 rw [e2] at this
 exact this
theorem H.y0(h:H κ a b out na nb)(T:gi κ C a b)(hm:na=0\/nb=0):Mg κ a b (a.extract 0 na++b.extract 0 nb++out.reverse):=by
 have q:=h.inv.last (dq.mpr T.sa) (dq.mpr T.sb) λx hx y hy=>by
  rw [qa _ h.lb,wJ] at hx
  rw [qa _ h.la,wJ] at hy
  rcases hm with rfl | rfl
  .rw [List.take_zero] at hy;cases hy
  .rw [List.take_zero] at hx;cases hx
 have e:(a.extract 0 na++b.extract 0 nb++out.reverse).toList=(out.toList++b.toList.reverse.drop (b.toList.length-nb)++a.toList.reverse.drop (a.toList.length-na)).reverse:=by
  rw [qa _ h.lb,qa _ h.la,pq,pq,DV,E5,E5]
  simp
 unfold Mg
 rw [e]
 refine ⟨?_,?_⟩
 .have:=q.1
  rw [<-OB (as:=out.toList++_++_)] at this
  exact dq.mp this
 .refine (wK _).trans (q.2.trans ?_)
  exact (wK _).append (wK _)
theorem H.CG(h:H κ a b out na nb)(T:gi κ C a b)(hm:∀x∈b.toList.take nb,∀y∈a.toList,κ x<κ y):Mg κ a b (b.extract 0 nb++a.extract 0 na++out.reverse):=by
 have q:=h.inv.done (dq.mpr T.sa) (dq.mpr T.sb) λx hx y hy=>by
  rw [qa _ h.la,wJ] at hx
  rw [qa _ h.lb,wJ] at hy
  have:=hm y hy x (qY hx)
  unfold ng
  ext this
 have e:(b.extract 0 nb++a.extract 0 na++out.reverse).toList=(out.toList++a.toList.reverse.drop (a.toList.length-na)++b.toList.reverse.drop (b.toList.length-nb)).reverse:=by
  rw [qa _ h.lb,qa _ h.la,pq,pq,DV,E5,E5]
  simp
 unfold Mg
 rw [e]
 refine ⟨?_,?_⟩
 .have:=q.1
  rw [<-OB (as:=out.toList++_++_)] at this
  exact dq.mp this
 .refine (wK _).trans (q.2.trans ?_)
  exact (wK _).append (wK _)
theorem J1(h:x∈a.toList.take n):∃j,∃hj:j<a.size,j<n/\x=a[j]:=by
 obtain ⟨j,hj,_,j2,e⟩:=Kw (i:=0) (k:=n) (by rw [DG];exact h)
 exact ⟨j,hj,by ext j2,e⟩
theorem JA(T:gi κ C a b)(hi:i<a.size)(hj:j<b.size)(h:κ b[j]<κ a[i]):∀y∈b.toList.take (j+1),κ y<κ a[i]:=λy hy=>by
 obtain ⟨m,hm,m1,rfl⟩:=J1 hy
 by_cases c:m=j
 .subst c;exact h
 .have:=fS T.sb (show m<j by ext m1 c) hj
  rw [ip hm,ip hj] at this
  ext hm hi hj h this
theorem Ak(hk:Ask prog w s kd κ C)(T:gi κ C a b){st:SortSt}(hd:kindOf st=kd){Q:Option Nat->SortSt->Prop}(hn:n<=a.size)(h0:0<n)(hj:j<b.size)
  (h:∀k,k<=n->(∀x∈(a.toList.take n).drop k,∀y∈b.toList.take (j+1),κ y<κ x)->(∀y∈a.toList.take k,κ y<κ b[j])->Q (some k) st):wpS (model prog w) A E s (a9J l b[j] a 0 n (n-1)) Q st:=by
 refine C8 hk hd (T.CJ hj) (by ext hn) (by ext h0) (λn hn _ _=>⟨T.CK hn,T.v7 hn hj⟩) (λx y h1 h2=>fS T.sa (by ext h1) (by ext hn h2)) λk k1 k2 k3=>h k ‹_› (λx hx=>?_) λy hy=>?_
 .rw [IF] at hx
  obtain ⟨m,hm,m1,m2,rfl⟩:=Kw hx
  have e:=k3 m ‹_› (by ext k1 m2)
  rw [sP,ip hm] at e
  exact JA T hm hj e
 .obtain ⟨m,hm,m1,rfl⟩:=J1 hy
  have e:=k2 m ‹_›
  rw [sP,ip hm] at e
  exact e
theorem WL(hk:Ask prog w s kd κ C)(T:gi κ C a b){st:SortSt}(hd:kindOf st=kd){Q:Array Keyed->SortSt->Prop}(ha:0<a.size)(hb:0<b.size)(h0:κ b[0]<κ a[0])(hm:∀x∈b.toList,κ x<κ a[a.size-1])
  (h:∀r g,Mg κ a b r->Q r (sg st g)):wpS (model prog w) A E s (b3S a b) Q st:=by
 unfold wpS
 wp_delta
 wp_delta
 wp_delta
 refine xn (Q:=Q) (aS (w5 (aS (g0 (show a.size-1<a.size by ext ha) ?_))))
 dsimp only
 have hz:H κ a b #[] a.size b.size:=⟨by rw [gW,gW,AM,AM];exact zq,by simp,by simp⟩
 have i0:H κ a b #[a[a.size-1]] (a.size-1) b.size:=hz.push T ha (by ext ha) λy hy=>hm y (qY hy)
 have hf:∀x∈b.toList.take 1,∀y∈a.toList,κ x<κ y:=λx hx y hy=>by
  obtain ⟨m,hm,m1,rfl⟩:=J1 hx
  obtain rfl:m=0:=by ext m1
  exact EG T ha hb h0 y (by rw [DG];exact hy)
 refine jM (λc1=>?_) λc1=>?_
 .exact bo (h _ (gallopOf st) (i0.y0 T (.inl c1)))
 refine jM (λc2=>?_) λc2=>?_
 .exact bo (h _ (gallopOf st) (i0.CG T (by rw [c2];exact hf)))
 refine aS (pd ?_)
 refine aS (lu (lx (λx q aj=>(∃g,aj=sg st g)/\∃na nb out mg,q=(none,na,nb,out,mg)/\H κ a b out na nb/\1<=na/\2<=nb/\na+nb+x+1<=a.size+b.size) (Q:=λq aj=>(∃g,aj=sg st g)/\∃r,q.1=some r/\Mg κ a b r) (λx q aj _ hx hI=>?_) (λq aj hI=>?_) ⟨⟨gallopOf st,rfl⟩,_,_,_,_,rfl,i0,by ext ha c1,by ext hb c2,by ext ha⟩) λq aj hI=>?_)
 .revert q aj
  refine NZ λg na nb out mg hJ hS=>?_
  have ga:=hS.1
  have gb:=hS.2.1
  have hp:=hS.2.2
  clear hS
  dsimp only
  refine aS (lu (lx (λx q aj=>(∃g,aj=sg st g)/\∃mJ mI fU ac bc,q=(none,mJ,mI,fU,ac,bc)/\H κ a b fU mJ mI/\1<=mJ/\2<=mI/\mJ+mI+x<=na+nb) (Q:=λq aj=>(∃g,aj=sg st g)/\((∃r,q.1=some r/\Mg κ a b r)\/∃mJ mI fU ac bc,q=(none,mJ,mI,fU,ac,bc)/\H κ a b fU mJ mI/\1<=mJ/\2<=mI/\mJ+mI+1<=na+nb)) (λx q aj _ hx hI=>?_) (λq aj hI=>?_) ⟨⟨_,rfl⟩,_,_,_,_,_,rfl,hJ,ga,gb,by ext⟩) λq aj hI=>?_)
  .revert q aj
   refine NY λg na nb out ac bc hJ hS=>?_
   have ga:=hS.1
   have gb:=hS.2.1
   have hp:=hS.2.2
   clear hS
   dsimp only
   have la:=hJ.la
   have lb:=hJ.lb
   rw [gW] at la lb
   have xa:na-1<a.size:=by ext ga la
   have xb:nb-1<b.size:=by ext gb lb
   refine aS (g0 xb (aS (g0 xa (aS (y6 hk hd (T.CJ xb) (T.CK xa) (og (T.v7 xa xb)) ?_)))))
   dsimp only
   refine Nd (λc=>?_) λc=>?_
   .refine aS (g0 xa ?_)
    have i2:=hJ.push T ‹_› xa (by have:=JA T xa xb c;rw [show nb-1+1=nb by ext gb] at this;exact this)
    refine jM (λd1=>?_) λd1=>?_
    .exact bo ⟨⟨_,rfl⟩,.inl ⟨_,rfl,i2.y0 T (.inl d1)⟩⟩
    refine qG (λd2=>?_) λd2=>?_
    .exact bo ⟨⟨_,rfl⟩,.inr ⟨_,_,_,_,_,rfl,i2,by ext d1,‹_›,by ext hp d1⟩⟩
    .exact bo ⟨⟨_,rfl⟩,_,_,_,_,_,rfl,i2,by ext d1,‹_›,by ext hp d1⟩
   .refine aS (g0 xb ?_)
    have aV:=T.v7 xa xb
    have i2:=(hJ.sym.push T.sym (by ext gb) xb (by have:=JA T.sym xb xa (by ext xa xb c aV);rw [show na-1+1=na by ext ga] at this;exact this)).sym
    refine jM (λd1=>?_) λd1=>?_
    .exact bo ⟨⟨_,rfl⟩,.inl ⟨_,rfl,i2.CG T (by rw [d1];exact hf)⟩⟩
    refine qG (λd2=>?_) λd2=>?_
    .exact bo ⟨⟨_,rfl⟩,.inr ⟨_,_,_,_,_,rfl,i2,‹_›,by ext gb d1,by ext gb hp⟩⟩
    .exact bo ⟨⟨_,rfl⟩,_,_,_,_,_,rfl,i2,‹_›,by ext gb d1,by ext gb hp⟩
  .obtain ⟨hg,na,nb,out,ac,bc,rfl,hJ,ga,gb,hp⟩:=hI
   exact ⟨hg,.inr ⟨_,_,_,_,_,rfl,hJ,ga,gb,by ext ha hb hp⟩⟩
  .revert q aj
   refine NW (λg r _ hr=>bo ⟨⟨_,rfl⟩,_,rfl,hr⟩) λg mJ mI fU ac bc HI hS=>?_
   have YB:=hS.1
   have YA:=hS.2.1
   have zH:=hS.2.2
   clear hS
   dsimp only
   refine aS (w5 ?_)
   refine aS (lu (lx (λx q aj=>(∃g,aj=sg st g)/\∃ja jb out mg ac bc,q=(none,ja,jb,out,mg,ac,bc)/\H κ a b out ja jb/\1<=ja/\2<=jb/\ja+jb<=mJ+mI) (Q:=λq aj=>(∃g,aj=sg st g)/\((∃r,q.1=some r/\Mg κ a b r)\/∃ja jb out mg ac bc,q=(none,ja,jb,out,mg,ac,bc)/\H κ a b out ja jb/\1<=ja/\2<=jb/\ja+jb<=mJ+mI)) (λx q aj _ hx hI=>?_) (λq aj hI=>?_) ⟨⟨_,rfl⟩,_,_,_,_,_,_,rfl,HI,YB,YA,by ext⟩) λq aj hI=>?_)
   .revert q aj
    refine NX λg ja jb out mg ac bc hJ hS=>?_
    have ga:=hS.1
    have gb:=hS.2.1
    have hp:=hS.2.2
    clear hS
    dsimp only
    have la:=hJ.la
    have lb:=hJ.lb
    rw [gW] at la lb
    have xb:jb-1<b.size:=by ext gb lb
    revert mg
    refine zl (λmg=>mg-1) (λ_=>rfl) λmg=>?_
    refine aS (Ee (aS (g0 xb (aS ?_))))
    refine Ak hk T ?_ la ga xb λk k1 k2 k3=>?_
    .exact hd
    dsimp only
    have jj:jb-1+1=jb:=Nat.sub_add_cancel (Nat.le_of_succ_le gb)
    rw [jj] at k2
    have hR:H κ a b out ja jb/\(ja-k=0->1<=ja/\ja<=k)/\k<=ja/\(∀x∈(a.toList.take ja).drop k,∀y∈b.toList.take jb,κ y<κ x):=⟨hJ,λz=>⟨ga,OE z⟩,k1,k2⟩
    have X4:k<=a.size:=fm k1 la
    have XQ:k+jb<=mJ+mI:=fm (IQ k1 jb) hp
    clear hJ k2 la ga hp k1
    generalize ja-k=cnt at hR ⊢
    revert out ja
    refine Eg (λn o=>H κ a b o n jb/\n=k/\1<=n) ?_ (λja out hR hF d0=>?_) λja out hR d0=>⟨hR.1,DB (hR.2.1 (uU d0)).2 hR.2.2.1,(hR.2.1 (uU d0)).1⟩
    .rintro n o ⟨i1,rfl,hn⟩
     have xa:n-1<a.size:=jB (Nat.sub_lt hn Nat.one_pos) X4
     refine aS (g0 xb ?_)
     have i2:=(i1.sym.push T.sym (Nat.lt_of_succ_le (Nat.le_of_succ_le gb)) xb k3).sym
     refine jM (λd3=>?_) λd3=>?_
     .exact bo ⟨⟨_,rfl⟩,.inl ⟨_,rfl,i2.CG T (by rw [d3];exact hf)⟩⟩
     have g2:2<=jb-1:=Ex gb d3
     have g3:jb-1<=b.size:=AQ xb
     refine aS (g0 xa (aS ?_))
     refine Ak hk T.sym ?_ g3 (u6 g2) xa λm m1 m2 m3=>?_
     .exact hd
     dsimp only
     rw [Nat.sub_add_cancel hn] at m2
     have hR:H κ a b (o.push b[jb-1]) n (jb-1)/\(jb-1-m=0->2<=jb-1/\jb-1<=m)/\m<=jb-1/\(∀x∈(b.toList.take (jb-1)).drop m,∀y∈a.toList.take n,κ y<κ x):=⟨i2,λz=>⟨g2,OE z⟩,m1,m2⟩
     have Nl:n-1+m<=mJ+mI:=fm (Nat.add_le_add (Nat.sub_le n 1) (fm m1 (Nat.sub_le jb 1))) XQ
     clear i2 g2 g3 m1 m2
     generalize jb-1-m=cnt2 at hR ⊢
     generalize o.push b[jb-1]=o2 at hR ⊢
     generalize jb-1=j2 at hR ⊢
     revert o2 j2
     refine Eg (λp q=>H κ a b p n q/\q=m/\2<=q) ?_ (λo2 j2 hR hF d4=>?_) λout ja hR d0=>⟨hR.1,DB (hR.2.1 (uU d0)).2 hR.2.2.1,(hR.2.1 (uU d0)).1⟩
     .rintro p q ⟨i3,rfl,hq⟩
      refine aS (g0 xa ?_)
      have i4:=i3.push T hn xa m3
      refine jM (λd6=>?_) λd6=>?_
      .exact bo ⟨⟨_,rfl⟩,.inl ⟨_,rfl,i4.y0 T (.inl d6)⟩⟩
      have h6:1<=n-1:=Nat.pos_of_ne_zero d6
      refine qG (λd7=>?_) λd7=>?_
      .exact bo ⟨⟨_,rfl⟩,.inr ⟨_,_,_,_,_,_,rfl,i4,h6,hq,Nl⟩⟩
      .exact bo ⟨⟨_,rfl⟩,_,_,_,_,_,_,rfl,i4,h6,hq,Nl⟩
     .obtain ⟨i2,_,m1,m2⟩:=hR
      have i3:=(i2.sym.seg T.sym m1 m2).sym
      refine jM (λd5=>?_) λd5=>?_
      .exact bo ⟨⟨_,rfl⟩,.inl ⟨_,rfl,i3.CG T (by rw [d5];exact hf)⟩⟩
      refine jM (λd8=>?_) λd8=>?_
      .exact bo ⟨⟨_,rfl⟩,.inl ⟨_,rfl,i3.y0 T (.inr d8)⟩⟩
      exact hF _ _ ⟨i3,rfl,b7p d5 d8⟩
    .obtain ⟨hJ,_,k1,k2⟩:=hR
     have i1:=hJ.seg T k1 k2
     refine jM (λd1=>?_) λd1=>?_
     .exact bo ⟨⟨_,rfl⟩,.inl ⟨_,rfl,i1.y0 T (.inl d1)⟩⟩
     exact hF _ _ ⟨i1,rfl,Nat.pos_of_ne_zero d1⟩
   .obtain ⟨hg,ja,jb,out,mg,ac,bc,rfl,hJ,ga,gb,hp⟩:=hI
    exact ⟨hg,.inr ⟨_,_,_,_,_,_,rfl,hJ,ga,gb,‹_›⟩⟩
   .revert q aj
    refine NV (λg r _ hr=>bo ⟨⟨_,rfl⟩,_,rfl,hr⟩) λg ja jb out mg ac bc hJ hS=>?_
    have ga:=hS.1
    have gb:=hS.2.1
    have hp:=hS.2.2
    clear hS
    .dsimp only
     exact aS (Ee (bo ⟨⟨_,rfl⟩,_,_,_,_,rfl,hJ,ga,gb,by lia⟩))
 .obtain ⟨_,na,nb,out,mg,rfl,hJ,ga,gb,hp⟩:=hI
  ext _ hp
 .obtain ⟨⟨g,rfl⟩,r,e,hr⟩:=hI
  rw [e]
  exact bo (h _ _ hr)
end
section
variable {prog:Program}{w:World}{A:Around}{E:Value->Shared->Prop}{s:Shared}{kd:SortKind}{κ:Keyed->Int}{C:Keyed->Prop}
theorem b5t{σ:Type}{M:Model}{Q:PUnit->σ->Prop}{st aj:σ}(h:Q ⟨⟩ aj):wpS M A E s (set aj:StateT σ Sem PUnit) Q st:=by
 unfold wpS
 rw [StateT.run_set]
 exact bI ⟨rfl,h⟩
theorem QB(e:arr.toList=P++R++S)(h:i<R.length):kv κ arr (P.length+i)=κ R[i]:=by
 unfold kv
 have:arr[P.length+i]?=some R[i]:=by
  rw [<-sR,e,fG,rg (by ext),uW (by ext h)]
  simp [h]
 rw [this]
def tN(κ:Keyed->Int)(l:List Keyed):Prop:=(l.map κ).Nodup
theorem tN.ne{arr:Array Keyed}(h:tN κ arr.toList){i j:Nat}(hi:i<arr.size)(hj:j<arr.size)(cw:i≠j):κ arr[i]≠κ arr[j]:=λz=>by
 refine cw ((List.getElem_inj (h₀:=by simpa using hi) (h₁:=by simpa using hj) h).mp ?_)
 simpa using z
theorem tN.app(h:tN κ (l++m)):∀x∈l,∀y∈m,κ x≠κ y:=λx hx y hy z=>by
 unfold tN at h
 rw [ej,Jb] at h
 exact h.2.2 _ (cS.mpr ⟨x,hx,rfl⟩) _ (cS.mpr ⟨y,hy,rfl⟩) z
theorem EO{R:List Keyed}(h:eD κ R){i j:Nat}(cw:i<j)(hj:j<R.length):κ (R[i]'(by ext cw hj))<κ R[j]:=wX.mp h i j (by ext cw hj) hj cw
theorem WM(hk:Ask prog w s kd κ C){st:SortSt}(hd:kindOf st=kd)(hf:failedOf st=none){Q:Bool->SortSt->Prop}(e:(arrOf st).toList=P++R1++R2++S)(hC:∀x∈(arrOf st).toList,C x)(hD:tN κ (arrOf st).toList)
  (s1:eD κ R1)(s2:eD κ R2)(n1:R1≠[])(n2:R2≠[])(e1:(pendingOf st)[i]?=some (P.length,R1.length,pw))(e2:(pendingOf st)[i+1]?=some (P.length+R1.length,R2.length,p2))
  (h:∀aj R,kindOf aj=kd->failedOf aj=none->(arrOf aj).toList=P++R++S->eD κ R->R.Perm (R1++R2)->pendingOf aj=((pendingOf st).setIfInBounds i (P.length,R1.length+R2.length,pw)).eraseIdxIfInBounds (i+1)->Q true aj):wpS (model prog w) A E s (mergeAt' i) Q st:=by
 have l1:=pj.mpr n1
 have l2:=pj.mpr n2
 have hz:(arrOf st).size=P.length+R1.length+R2.length+S.length:=by rw [<-gW,e];simp only [cO]
 have eA:(arrOf st).toList=P++R1++(R2++S):=by rw [e,fG]
 have eB:(arrOf st).toList=(P++R1)++R2++S:=e
 have lB:(P++R1).length=P.length+R1.length:=cO ..
 have kA:∀j (hj:j<R1.length),kv κ (arrOf st) (P.length+j)=κ R1[j]:=λj hj=>QB eA hj
 have kB:∀j (hj:j<R2.length),kv κ (arrOf st) (P.length+R1.length+j)=κ R2[j]:=λj hj=>by rw [<-lB];exact QB eB hj
 have b0:P.length+R1.length<(arrOf st).size:=by ext l2 hz:1
 have M8:κ (arrOf st)[P.length+R1.length]=κ R2[0]:=by rw [<-ip (κ:=κ) b0,<-kB 0 l2];rfl
 have aL:P.length+R1.length-1<(arrOf st).size:=by ext b0:1
 have M9:κ (arrOf st)[P.length+R1.length-1]=κ R1[R1.length-1]:=by rw [<-ip (κ:=κ) aL,<-kA _ (by ext l1:1)];congr 1;ext l1:1
 have C7:∀j (hj:j<(arrOf st).size),C (arrOf st)[j]:=λj hj=>hC _ (by simp)
 have z1:P.length+R1.length<=(arrOf st).size:=by ext b0:1
 have z2:P.length+R1.length+R2.length<=(arrOf st).size:=by ext hz:1
 have plain:(∀x∈R1,∀y∈R2,κ x<κ y)->eD κ (R1++R2):=λz=>gr.mpr ⟨s1,s2,z⟩
 unfold wpS
 wp_delta
 wp_delta
 wp_delta
 refine xn (Q:=Q) (aS (pd ?_))
 rw [e1,e2]
 dsimp only
 refine aS (b5t (aS (g0 b0 (aS ?_))))
 refine C8 hk ?_ (C7 _ b0) z1 l1 (λj hj h1 h2=>⟨C7 j hj,hD.ne hj b0 (by ext h2:1)⟩) (λx y hx hy=>by rw [kA _ (by ext hx hy:1),kA _ hy];exact EO s1 hx hy) λk k1 k2 k3=>?_
 .exact hd
 dsimp only
 have c2:∀x∈R1.take k,∀y∈R2,κ x<κ y:=λx hx y hy=>by
  obtain ⟨j,hj,rfl⟩:=pz.mp hx
  obtain ⟨m,hm,rfl⟩:=pz.mp hy
  rw [gz] at hj
  have:=k2 j (by ext hj:1)
  rw [kA j (by ext hj:1),M8] at this
  rw [Du]
  by_cases c:m=0
  .subst c;exact this
  .have:=EO s2 (show 0<m by ext c:1) hm
   lia
 by_cases d1:R1.length-k=0
 .rw [if_pos (by simpa using d1)]
  refine bo (h _ (R1++R2) hd hf (by show (arrOf st).toList=_;rw [e];simp) (plain ?_) (Dy _) rfl)
  rw [DJ (by ext d1:1)] at c2
  exact c2
 rw [if_neg (by simpa using d1)]
 have ek:P.length+k+(R1.length-k)-1=P.length+R1.length-1:=by ext k1:1
 rw [ek]
 refine aS (g0 aL (aS ?_))
 refine C8 hk ?_ (C7 _ aL) z2 (by ext l2:1) (λj hj h1 h2=>⟨C7 j hj,hD.ne hj aL (by ext l1 h1:1)⟩) (λx y hx hy=>by rw [kB _ (by ext hx hy:1),kB _ hy];exact EO s2 hx hy) λm m1 m2 m3=>?_
 .exact hd
 dsimp only
 have c3:∀x∈R2.drop m,∀y∈R1,κ y<κ x:=λx hx y hy=>by
  obtain ⟨j,hj,rfl⟩:=pz.mp hx
  obtain ⟨n,hn,rfl⟩:=pz.mp hy
  rw [lD] at hj
  have:=m3 (m+j) (by ext:1) (by ext hj:1)
  rw [kB _ (by ext hj:1),M9] at this
  rw [List.getElem_drop]
  by_cases c:n=R1.length-1
  .subst c;exact this
  .have:=EO s1 (show n<R1.length-1 by ext hn c:1) (by ext l1:1)
   lia
 by_cases d2:m=0
 .rw [if_pos (by simpa using d2)]
  refine bo (h _ (R1++R2) hd hf (by show (arrOf st).toList=_;rw [e];simp) (plain λx hx y hy=>c3 y (by rw [d2];exact hy) x hx) (Dy _) rfl)
 rw [if_neg (by simpa using d2)]
 have eX:((arrOf st).extract (P.length+k) (P.length+R1.length)).toList=R1.drop k:=by
  rw [K4,eA,OL (by simp),<-lB,IA,List.drop_append,qZ (by ext:1),IH]
  congr 1
  ext:1
 have eY:((arrOf st).extract (P.length+R1.length) (P.length+R1.length+m)).toList=R2.take m:=by
  rw [QT,eB,fG,<-lB,List.drop_append,List.drop_length,IH,AM,DG,OL m1]
 have zX:((arrOf st).extract (P.length+k) (P.length+R1.length)).size=R1.length-k:=by rw [<-gW,eX,lD]
 have zY:((arrOf st).extract (P.length+R1.length) (P.length+R1.length+m)).size=m:=by rw [<-gW,eY,gz];ext m1:1
 have Yw:∀x∈R1,C x:=λx hx=>hC x (by rw [e];simp [hx])
 have Yv:∀x∈R2,C x:=λx hx=>hC x (by rw [e];simp [hx])
 have aV:∀x∈R1,∀y∈R2,κ x≠κ y:=λx hx y hy=>by
  rw [eA] at hD
  exact hD.app x (by simp [hx]) y (by simp [hy])
 have T:gi κ C ((arrOf st).extract (P.length+k) (P.length+R1.length)) ((arrOf st).extract (P.length+R1.length) (P.length+R1.length+m)):=by
  refine ⟨?_,?_,?_,?_,?_⟩
  .rw [eX];exact xA s1 k
  .rw [eY];exact KY s2 m
  .rw [eX];exact λx hx=>Yw x (qX hx)
  .rw [eY];exact λx hx=>Yv x (qY hx)
  .rw [eX,eY];exact λx hx y hy=>aV x (qX hx) y (qY hy)
 have gX:∀j (hj:j<((arrOf st).extract (P.length+k) (P.length+R1.length)).size),κ ((arrOf st).extract (P.length+k) (P.length+R1.length))[j]=κ (R1[k+j]'(by ext zX hj:1)):=λj hj=>by
  rw [<-OA]
  simp only [eX,List.getElem_drop]
 have gY:∀j (hj:j<((arrOf st).extract (P.length+R1.length) (P.length+R1.length+m)).size),κ ((arrOf st).extract (P.length+R1.length) (P.length+R1.length+m))[j]=κ (R2[j]'(by ext m1 zY hj:1)):=λj hj=>by
  rw [<-OA]
  simp only [eY,Du]
 have pX:0<((arrOf st).extract (P.length+k) (P.length+R1.length)).size:=by ext d1 zX:1
 have pY:0<((arrOf st).extract (P.length+R1.length) (P.length+R1.length+m)).size:=by ext d2 zY:1
 have h0:κ ((arrOf st).extract (P.length+R1.length) (P.length+R1.length+m))[0]<κ ((arrOf st).extract (P.length+k) (P.length+R1.length))[0]:=by
  rw [gX 0 pX,gY 0 pY]
  have:=k3 k (bp _) (by ext zX pX:1)
  rw [kA k (by ext zX pX:1),M8] at this
  exact this
 have mM:∀x∈((arrOf st).extract (P.length+R1.length) (P.length+R1.length+m)).toList,κ x<κ R1[R1.length-1]:=λx hx=>by
  rw [eY] at hx
  obtain ⟨j,hj,rfl⟩:=pz.mp hx
  rw [gz] at hj
  have:=m2 j (by ext m1 zY hj:1)
  rw [kB j (by ext m1 zY hj:1),M9] at this
  rw [Du]
  exact this
 have rest:∀(r:Array Keyed) (g:Nat),Mg κ ((arrOf st).extract (P.length+k) (P.length+R1.length)) ((arrOf st).extract (P.length+R1.length) (P.length+R1.length+m)) r->Q true (AG (kindOf st) (r.toList.zipIdx.foldl (λa x=>match x with | (p,j)=>a.setIfInBounds (P.length+k+j) p) (arrOf st)) (((pendingOf st).setIfInBounds i (P.length,R1.length+R2.length,pw)).eraseIdxIfInBounds (i+1)) g (failedOf st)):=λr g hM=>by
  unfold Mg at hM
  rw [eX,eY] at hM
  obtain ⟨q1,q2⟩:=b2d s1 s2 c2 c3 hM.1 hM.2
  refine h _ (R1.take k++r.toList++R2.drop m) hd hf ?_ q1 q2 rfl
  have hl:r.toList.length=(R1.drop k++R2.take m).length:=hM.2.length_eq
  have eP:(arrOf st).toList=(P++R1.take k)++(R1.drop k++R2.take m)++(R2.drop m++S):=by
   rw [e]
   have x1:R1=R1.take k++R1.drop k:=(mS ..).symm
   have x2:R2=R2.take m++R2.drop m:=(mS ..).symm
   generalize R1.take k=u at *
   generalize R1.drop k=u2 at *
   generalize R2.take m=v at *
   generalize R2.drop m=v2 at *
   rw [x1,x2]
   simp only [fG]
  have lP:(P++R1.take k).length=P.length+k:=by rw [cO,gz];ext hz lB k1:1
  have:=b0H eP hl
  rw [lP] at this
  show (r.toList.zipIdx.foldl (λa x=>a.setIfInBounds (P.length+k+x.2) x.1) (arrOf st)).toList=_
  rw [this]
  simp only [fG]
 by_cases d3:R1.length-k<=m
 .rw [if_pos d3]
  refine aS ?_
  refine WK hk T ?_ pX pY h0 (λx hx y hy=>?_) λr g hM=>?_
  .exact hd
  .rw [eX,zX,List.drop_drop,show k+(R1.length-k-1)=R1.length-1 by ext l1 hz lB zX pX:1,mT (by ext l1 hz lB:1),show R1.length-1+1=R1.length by ext l1 hz lB:1,List.drop_length,bQ] at hy
   rw [hy]
   exact mM x hx
  .refine aS (uN (aS (pd (bo ?_))))
   have:=rest r g hM
   show Q (failedOf st).isNone _
   rw [hf]
   exact this
 .rw [if_neg d3]
  refine aS ?_
  refine WL hk T ?_ pX pY h0 (λx hx=>?_) λr g hM=>?_
  .exact hd
  .rw [gX _ (by ext zX pX:1)]
   have:=mM x hx
   simp only [zX,show k+(R1.length-k-1)=R1.length-1 by ext l1 hz lB zX pX:1]
   exact this
  .refine aS (uN (aS (pd (bo ?_))))
   have:=rest r g hM
   show Q (failedOf st).isNone _
   rw [hf]
   exact this
end
section
variable {prog:Program}{w:World}{A:Around}{E:Value->Shared->Prop}{s:Shared}{kd:SortKind}{κ:Keyed->Int}{C:Keyed->Prop}
structure Bs(κ:Keyed->Int)(C:Keyed->Prop)(kd:SortKind)(st:SortSt)(lo:Nat)(aj:SortSt):Prop where
 perm:(arrOf aj).Perm (arrOf st)
 ahead:∀k,k<lo->(arrOf aj)[k]?=(arrOf st)[k]?
 rest:aj=setArr st (arrOf aj)
theorem Bs.refl{st:SortSt}{lo:Nat}:Bs κ C kd st lo st:=⟨sU _,λ_ _=>rfl,rfl⟩
theorem Bs.put{st aj:SortSt}{lo:Nat}(h:Bs κ C kd st lo aj){xs:Array Keyed}(hp:xs.Perm (arrOf aj))(ha:∀k,k<lo->xs[k]?=(arrOf aj)[k]?):Bs κ C kd st lo (setArr aj xs):=
 ⟨hp.trans h.perm,λk hk=>(ha k hk).trans (h.ahead k hk),by rw [h.rest]⟩
structure Al(κ:Keyed->Int)(C:Keyed->Prop)(kd:SortKind)(st:SortSt):Prop where
 kind:kindOf st=kd
 all:∀x∈(arrOf st).toList,C x
 dst:tN κ (arrOf st).toList
theorem Al.of{st aj:SortSt}(h:Al κ C kd st)(hp:(arrOf aj).Perm (arrOf st))(hk:kindOf aj=kd):Al κ C kd aj:=
 have p:=wV.mp hp
 ⟨hk,λx hx=>h.all x (p.mem_iff.mp hx),(p.map κ).nodup_iff.mpr h.dst⟩
theorem Al.bs{st aj:SortSt}{lo:Nat}(h:Al κ C kd st)(b:Bs κ C kd st lo aj):Al κ C kd aj:=h.of b.perm (by rw [b.rest];exact h.kind)
theorem Al.ne{st:SortSt}(h:Al κ C kd st)(hi:i<(arrOf st).size)(hj:j<(arrOf st).size)(cw:i≠j):kv κ (arrOf st) i≠kv κ (arrOf st) j:=by
 rw [ip hi,ip hj]
 exact h.dst.ne hi hj cw
theorem A5(hk:Ask prog w s kd κ C){st:SortSt}(hA:Al κ C kd st){Q:Option Bool->SortSt->Prop}(hi:i<(arrOf st).size)(hj:j<(arrOf st).size)(cw:i≠j)(h:Q (some (decide (kv κ (arrOf st) i<kv κ (arrOf st) j))) st):wpS (model prog w) A E s (ltAt' i j) Q st:=by
 rw [ltAt'_eq]
 refine aS (pd ?_)
 show wpS _ _ _ _ (do let p <-elem' (arrOf st) i;let q <-elem' (arrOf st) j;lt' p q) Q st
 refine aS (g0 hi (aS (g0 hj ?_)))
 rw [ip hi,ip hj] at h
 exact y6 hk hA.kind (hA.all _ (by simp)) (hA.all _ (by simp)) (hA.dst.ne hi hj cw) h
def Up(κ:Keyed->Int)(xs:Array Keyed)(lo k:Nat):Prop:=∀i j,i<j->j<k->kv κ xs (lo+i)<kv κ xs (lo+j)
def Dn(κ:Keyed->Int)(xs:Array Keyed)(lo k:Nat):Prop:=∀i j,i<j->j<k->kv κ xs (lo+j)<kv κ xs (lo+i)
theorem Up.next{lo x:Nat}(h:Up κ xs lo x)(hx:1<=x)(hl:kv κ xs (lo+(x-1))<kv κ xs (lo+x)):Up κ xs lo (x+1):=λi j cw hj=>by
 by_cases c:j<x
 .exact h i j cw c
 .obtain rfl:j=x:=by ext hj c
  by_cases d:i=j-1
  .subst d;exact hl
  .have:=h i (j-1) (by ext cw d) (by ext hx);ext hl this
theorem Dn.next{lo x:Nat}(h:Dn κ xs lo x)(hx:1<=x)(hl:kv κ xs (lo+x)<kv κ xs (lo+(x-1))):Dn κ xs lo (x+1):=λi j cw hj=>by
 by_cases c:j<x
 .exact h i j cw c
 .obtain rfl:j=x:=by ext hj c
  by_cases d:i=j-1
  .subst d;exact hl
  .have:=h i (j-1) (by ext cw d) (by ext hx);ext hl this
theorem Ba(hk:Ask prog w s kd κ C){st:SortSt}(hA:Al κ C kd st){lo a nrem:Nat}{Q:Option (Option Nat)×Nat->SortSt->Prop}(hn:lo+nrem<=(arrOf st).size)(ha:1<=a)(Nz:a<=nrem)(hu:Up κ (arrOf st) lo a)
  (h:∀n,a<=n->n<=nrem->Up κ (arrOf st) lo n->(n=nrem\/n<nrem/\kv κ (arrOf st) (lo+n)<kv κ (arrOf st) (lo+(n-1)))->Q (none,n) st):
  wpS (model prog w) A E s (forIn [a:nrem] ((none,a):Option (Option Nat)×Nat) λ_ q=>ltAt' (lo+q.2) (lo+q.2-1) >>= λr=>match r with
   | some b=>if b=true then pure (Dx (none,q.2)) else pure (p6 (none,q.2+1))
   | x=>pure (Dx (some none,q.2))) Q st:=by
 refine lx (λx c aj=>aj=st/\c=(none,x)/\Up κ (arrOf st) lo x) (λx c aj h1 h2 hI=>?_) (λc aj hI=>?_) ⟨rfl,rfl,hu⟩
 .obtain ⟨rfl,rfl,zB⟩:=hI
  dsimp only
  rw [show lo+x-1=lo+(x-1) by ext ha h1]
  refine aS (A5 hk hA (by ext h2 hn) (by ext h2 hn) (by ext ha h1) ?_)
  dsimp only
  by_cases c:kv κ (arrOf aj) (lo+x)<kv κ (arrOf aj) (lo+(x-1))
  .rw [if_pos (decide_eq_true c)]
   exact bo (h x h1 (by ext h2) zB (.inr ⟨h2,c⟩))
  .rw [if_neg (by simpa using c)]
   have:=hA.ne (i:=lo+x) (j:=lo+(x-1)) (by ext h2 hn) (by ext h2 hn) (by ext ha h1)
   exact bo ⟨rfl,rfl,zB.next (by ext ha h1) (by ext c this)⟩
 .obtain ⟨rfl,rfl,zB⟩:=hI
  rw [show max a nrem=nrem by ext Nz] at zB ⊢
  exact h nrem Nz (bp _) zB (.inl rfl)
theorem Pz{xs:Array Keyed}{lo n:Nat}(hn:lo+n<=xs.size)(k:Nat):kv κ (mirror xs lo (lo+n) ((lo+n-lo)/2)) (lo+k)=if k<n then kv κ xs (lo+(n-1-k)) else kv κ xs (lo+k):=by
 have e:=I0 (i:=lo) hn (lo+k)
 by_cases h:k<n
 .rw [if_pos (by ext h),show lo+(lo+n)-1-(lo+k)=lo+(n-1-k) by ext h] at e
  rw [if_pos h];exact A4 e
 .rw [if_neg (by ext h)] at e
  rw [if_neg h];exact A4 e
theorem Ii(hk:Ask prog w s kd κ C){st:SortSt}(hA:Al κ C kd st){lo nrem:Nat}{Q:Option Nat->SortSt->Prop}(hn:lo+nrem<=(arrOf st).size)(h1:1<=nrem)
  (h:∀m aj,Bs κ C kd st lo aj->1<=m->m<=nrem->Up κ (arrOf aj) lo m->Q (some m) aj):wpS (model prog w) A E s (countRun' lo nrem) Q st:=by
 unfold wpS
 wp_delta
 wp_delta
 wp_delta
 refine xn (Q:=Q) (aS ?_)
 refine Ba hk hA hn (bp 1) h1 (λi j _ _=>by lia) λn n1 n2 hu Hf=>?_
 dsimp only
 by_cases c1:n=nrem
 .rw [if_pos (by simpa using c1)]
  exact bo (h n st Bs.refl n1 n2 hu)
 rw [if_neg (by simpa using c1)]
 have be:kv κ (arrOf st) (lo+n)<kv κ (arrOf st) (lo+(n-1)):=by ext Hf c1
 by_cases c2:n>1
 .rw [if_pos c2,show lo+n-1=lo+(n-1) by ext c2]
  refine aS (A5 hk hA (by ext hn h1) (by ext hn n2 c2) (by ext c2) ?_)
  dsimp only
  have h0:=hu 0 (n-1) (by ext c2) (by ext c2)
  rw [Nat.add_zero] at h0
  rw [if_pos (decide_eq_true h0)]
  exact bo (h n st Bs.refl n1 n2 hu)
 rw [if_neg c2]
 obtain rfl:n=1:=by ext n1 c2
 refine aS (w5 ?_)
 refine aS (lu (lx (λx c aj=>aj=st/\c=(none,x,0)/\Dn κ (arrOf st) lo x) (Q:=λc aj=>aj=st/\∃x,c=(none,x,0)/\2<=x/\x<=nrem/\Dn κ (arrOf st) lo x) (λx c aj g1 g2 hI=>?_) (λc aj hI=>?_) ⟨rfl,rfl,λi j cw hj=>?_⟩) λc aj hI=>?_)
 .obtain ⟨rfl,rfl,hs⟩:=hI
  dsimp only
  rw [show lo+x-1=lo+(x-1) by ext g1]
  have aV:=hA.ne (i:=lo+x) (j:=lo+(x-1)) (by ext g2 hn) (by ext g2 hn) (by ext g1)
  refine aS (A5 hk hA (by ext g2 hn) (by ext g2 hn) (by ext g1) ?_)
  dsimp only
  by_cases c:kv κ (arrOf aj) (lo+x)<kv κ (arrOf aj) (lo+(x-1))
  .rw [if_pos (decide_eq_true c),if_neg (by decide)]
   exact bo ⟨rfl,rfl,hs.next (by ext g1) c⟩
  .rw [if_neg (by simpa using c)]
   refine aS (A5 hk hA (by ext g2 hn) (by ext g2 hn) (by ext g1) ?_)
   dsimp only
   rw [if_pos (decide_eq_true (by ext aV c))]
   exact bo ⟨rfl,x,rfl,‹_›,by ext g2,hs⟩
 .obtain ⟨rfl,rfl,hs⟩:=hI
  rw [show max (1+1) nrem=nrem by ext c1 Hf] at hs ⊢
  exact ⟨rfl,nrem,rfl,by ext c1 Hf,by ext,hs⟩
 .obtain ⟨rfl,rfl⟩:i=0/\j=1:=by ext cw hj
  exact be
 .obtain ⟨rfl,x,rfl,x1,x2,hs⟩:=hI
  dsimp only
  rw [if_neg (by decide)]
  refine aS (wpS_reverse ?_)
  have hb:Bs κ C kd aj lo (setArr aj (mirror (arrOf aj) lo (lo+x) ((lo+x-lo)/2))):=Bs.refl.put (qU _ _ _ _) λk hk=>by
   have e:=I0 (xs:=arrOf aj) (i:=lo) (j:=lo+x) (by ext hn x2) k
   rw [if_neg (by ext hk)] at e
   exact e
  refine aS ?_
  refine Ba hk (hA.bs hb) ?_ (by ext x1) x2 (λi j cw hj=>?_) λm m1 m2 hm _=>bo (h m _ hb (by ext x1 m1) m2 hm)
  .show lo+nrem<=(mirror (arrOf aj) lo (lo+x) ((lo+x-lo)/2)).size
   rw [Dl]
   exact hn
  .show kv κ (mirror (arrOf aj) lo (lo+x) ((lo+x-lo)/2)) (lo+i)<kv κ (mirror (arrOf aj) lo (lo+x) ((lo+x-lo)/2)) (lo+j)
   rw [Pz (by ext hn x2),Pz (by ext hn x2),if_pos (by ext cw hj),if_pos hj]
   exact hs _ _ (by ext cw hj) (by ext hj)
theorem Jr(hk:Ask prog w s kd κ C){st:SortSt}(hA:Al κ C kd st){lo n ok:Nat}{Q:Bool->SortSt->Prop}(hn:lo+n<=(arrOf st).size)(bt:1<=ok)(XS:ok<=n)(hs:Up κ (arrOf st) lo ok)
  (h:∀aj,Bs κ C kd st lo aj->Up κ (arrOf aj) lo n->Q true aj):wpS (model prog w) A E s (binarySort' lo n ok) Q st:=by
 rw [binarySort'_eq]
 refine aS (lu (lx (λk c aj=>c=(none,())/\Bs κ C kd st lo aj/\Up κ (arrOf aj) lo k) (Q:=λc aj=>c=(none,())/\Bs κ C kd st lo aj/\Up κ (arrOf aj) lo n) (λk c aj g1 g2 hI=>?_) (λc aj hI=>?_) ⟨rfl,Bs.refl,?_⟩) λc aj hI=>?_)
 .obtain ⟨rfl,o5,lj⟩:=hI
  have NJ:=hA.bs o5
  have hsz:(arrOf aj).size=(arrOf st).size:=o5.perm.size_eq
  refine aS (lu (lx (λx c ft=>ft=aj/\∃l r,c=(none,l,r)/\l<=r/\r<=k/\r-l<=k-x/\(∀i,i<l->kv κ (arrOf aj) (lo+i)<kv κ (arrOf aj) (lo+k))/\∀i,r<=i->i<k->kv κ (arrOf aj) (lo+k)<kv κ (arrOf aj) (lo+i))
   (Q:=λc ft=>ft=aj/\∃l r,c=(none,l,r)/\l<=k/\(∀i,i<l->kv κ (arrOf aj) (lo+i)<kv κ (arrOf aj) (lo+k))/\∀i,l<=i->i<k->kv κ (arrOf aj) (lo+k)<kv κ (arrOf aj) (lo+i)) (λx c ft f1 f2 hJ=>?_) (λc ft hJ=>?_) ⟨rfl,0,k,rfl,by ext,by ext,by ext,λi z=>by contradiction,λi z1 z2=>by ext z1 z2⟩) λc ft hJ=>?_)
  .obtain ⟨rfl,l,r,rfl,j1,j2,j3,j4,j5⟩:=hJ
   dsimp only
   by_cases uv:l≥r
   .rw [if_pos uv]
    obtain rfl:l=r:=by ext j1 uv
    exact bo ⟨rfl,l,l,rfl,j2,j4,j5⟩
   .rw [if_neg uv]
    refine aS (A5 hk NJ (by ext hn g2 hsz) (by lia) (by lia) ?_)
    dsimp only
    have aV:=NJ.ne (i:=lo+k) (j:=lo+(l+r)/2) (by ext hn g2 hsz) (by lia) (by lia)
    by_cases hl:kv κ (arrOf ft) (lo+k)<kv κ (arrOf ft) (lo+(l+r)/2)
    .rw [if_pos (decide_eq_true hl)]
     refine bo ⟨rfl,l,(l+r)/2,rfl,by lia,by lia,by lia,j4,λi z1 z2=>?_⟩
     by_cases hi:i=(l+r)/2
     .subst hi;exact hl
     .have:=lj ((l+r)/2) i (by ext z1 hi) z2;ext hl this
    .rw [if_neg (by simpa using hl)]
     refine bo ⟨rfl,(l+r)/2+1,r,rfl,by lia,‹_›,by lia,λi z1=>?_,j5⟩
     by_cases hi:i=(l+r)/2
     .subst hi;ext aV hl
     .have:=lj i ((l+r)/2) (by ext z1 hi) (by lia);ext hl this
  .obtain ⟨rfl,l,r,rfl,j1,j2,j3,j4,j5⟩:=hJ
   obtain rfl:l=r:=by ext j1 j3
   exact ⟨rfl,l,l,rfl,j2,j4,j5⟩
  .obtain ⟨rfl,l,r,rfl,j2,j4,j5⟩:=hJ
   show wpS _ _ _ _ (do moveDown' (lo+k) (lo+l);pure (p6 (none,()))) _ _
   rw [moveDown'_eq]
   have X3:lo+k<(arrOf ft).size:=by ext hn g2 hsz
   have C3:=getElem?_bubble X3 (lo+k-(lo+l)) (by ext)
   refine aS (uN (bo ⟨rfl,o5.put (bubble_perm _ _ _) λq hq=>?_,λi j cw hj=>?_⟩))
   .have e:=C3 q
    rw [if_neg (by ext hq),if_neg (by ext hq)] at e
    exact e
   have kb:∀m,kv κ (bubble (arrOf ft) (lo+k) (lo+k-(lo+l))) (lo+m)=if m=l then kv κ (arrOf ft) (lo+k) else if l<m/\m<=k then kv κ (arrOf ft) (lo+(m-1)) else kv κ (arrOf ft) (lo+m):=λm=>by
    have e:=C3 (lo+m)
    by_cases c1:m=l
    .rw [if_pos (by ext j2 c1)] at e;rw [if_pos c1];exact A4 e
    .rw [if_neg (by ext j2 c1)] at e;rw [if_neg c1]
     by_cases c2:l<m/\m<=k
     .rw [if_pos (by ext c2),show lo+m-1=lo+(m-1) by ext c2] at e;rw [if_pos c2];exact A4 e
     .rw [if_neg (by ext c2)] at e;rw [if_neg c2];exact A4 e
   show kv κ (bubble (arrOf ft) (lo+k) (lo+k-(lo+l))) (lo+i)<kv κ (bubble (arrOf ft) (lo+k) (lo+k-(lo+l))) (lo+j)
   rw [kb,kb]
   repeat' split
   all_goals first
    | (exfalso;lia)
    | exact j4 _ (by lia)
    | exact j5 _ (by lia) (by ext cw hj)
    | exact lj _ _ (by lia) (by lia)
 .obtain ⟨hc,o5,lj⟩:=hI
  rw [show max (max ok 1) n=n by ext bt XS] at lj
  exact ⟨hc,o5,lj⟩
 .rw [show max ok 1=ok by ext bt];exact hs
 .obtain ⟨rfl,o5,lj⟩:=hI
  exact bo (h aj o5 lj)
end
section
variable {prog:Program}{w:World}{A:Around}{E:Value->Shared->Prop}{s:Shared}{kd:SortKind}{κ:Keyed->Int}{C:Keyed->Prop}
structure St(κ:Keyed->Int)(C:Keyed->Prop)(kd:SortKind)(a₀:Array Keyed)(st:SortSt)(Rs:List (List Keyed)):Prop where
 perm:(arrOf st).Perm a₀
 kind:kindOf st=kd
 failed:failedOf st=none
 pre:(arrOf st).toList.take Rs.flatten.length=Rs.flatten
 le:Rs.flatten.length<=a₀.size
 vZ:kR 0 Rs (pendingOf st).toList
 run:∀R∈Rs,R≠[]/\eD κ R
variable {a₀:Array Keyed}
structure Kn(κ:Keyed->Int)(C:Keyed->Prop)(a₀:Array Keyed):Prop where
 all:∀x∈a₀.toList,C x
 dst:tN κ a₀.toList
theorem St.al{st:SortSt}(h:St κ C kd a₀ st Rs)(k:Kn κ C a₀):Al κ C kd st:=
 have p:=wV.mp h.perm
 ⟨h.kind,λx hx=>k.all x (p.mem_iff.mp hx),(p.map κ).nodup_iff.mpr k.dst⟩
theorem St.cnt{st:SortSt}(h:St κ C kd a₀ st Rs):(pendingOf st).size=Rs.length:=by rw [<-gW];exact h.vZ.len
theorem JF(hk:Ask prog w s kd κ C)(k:Kn κ C a₀){st:SortSt}(h:St κ C kd a₀ st (Xs++R1::R2::Ys))(hi:i=Xs.length){Q:Bool->SortSt->Prop}
  (hQ:∀aj R,St κ C kd a₀ aj (Xs++R::Ys)->(Xs++R::Ys).flatten.length=(Xs++R1::R2::Ys).flatten.length->(arrOf aj).toList.drop (Xs++R1::R2::Ys).flatten.length=(arrOf st).toList.drop (Xs++R1::R2::Ys).flatten.length->Q true aj):wpS (model prog w) A E s (mergeAt' i) Q st:=by
 have hz:(arrOf st).size=a₀.size:=h.perm.size_eq
 have eF:(Xs++R1::R2::Ys).flatten=Xs.flatten++R1++R2++Ys.flatten:=by simp
 have al:=h.al k
 have r1:=h.run R1 (by simp)
 have r2:=h.run R2 (by simp)
 obtain ⟨q1,q2⟩:=h.vZ.split
 rw [sP] at q2
 have Hb:=h.vZ.len
 generalize hp:(pendingOf st).toList=ps at *
 obtain ⟨u,v,pv,e3⟩:∃u v pv,ps.drop Xs.length=u::v::pv:=by
  match hd:ps.drop Xs.length,q2 with
  | u::v::pv,_=>exact ⟨u,v,pv,rfl⟩
 rw [e3] at q2
 obtain ⟨u1,u2,v1,v2,q3⟩:=q2
 have Ib:ps=ps.take Xs.length++u::v::pv:=by rw [<-e3,mS]
 have lt:(ps.take Xs.length).length=Xs.length:=by rw [gz,Hb,cO];ext
 have g1:(pendingOf st)[i]?=some (Xs.flatten.length,R1.length,u.2.2):=by
  rw [<-sR,hp,Ib,rg (by ext hi lt),lt,hi,AM]
  show some u=_
  rw [<-u1,<-u2]
 have g2:(pendingOf st)[i+1]?=some (Xs.flatten.length+R1.length,R2.length,v.2.2):=by
  rw [<-sR,hp,Ib,rg (by ext hi lt),lt,hi,Jm]
  show some v=_
  rw [<-v1,<-v2]
 have eA:(arrOf st).toList=Xs.flatten++R1++R2++(Ys.flatten++(arrOf st).toList.drop (Xs++R1::R2::Ys).flatten.length):=by
  have:=mS (Xs++R1::R2::Ys).flatten.length (arrOf st).toList
  rw [h.pre] at this
  rw [<-fG,<-eF]
  exact this.symm
 refine WM hk h.kind h.failed eA al.all al.dst r1.2 r2.2 r1.1 r2.1 g1 g2 λaj R a1 a2 a3 a4 a5 a6=>?_
 have lR:R.length=R1.length+R2.length:=by rw [a5.length_eq,cO]
 have Ic:(Xs++R::Ys).flatten=Xs.flatten++R++Ys.flatten:=by simp
 have lF:(Xs++R::Ys).flatten.length=(Xs++R1::R2::Ys).flatten.length:=by rw [eF,Ic];simp only [cO];ext lR
 refine hQ aj R ⟨?_,a1,a2,?_,by rw [lF];exact h.le,?_,λS hS=>?_⟩ lF ?_
 .refine Array.Perm.trans (wV.mpr ?_) h.perm
  generalize (arrOf st).toList.drop (Xs++R1::R2::Ys).flatten.length=D at *
  rw [a3,eA]
  refine List.Perm.append_right _ ?_
  rw [fG Xs.flatten]
  exact a5.append_left _
 .rw [a3,Ic,<-fG,List.take_left]
 .have e6:(pendingOf aj).toList=ps.take Xs.length++(Xs.flatten.length,R1.length+R2.length,u.2.2)::pv:=by
   rw [a6,Array.toList_eraseIdxIfInBounds,Array.toList_setIfInBounds,hp,hi]
   conv=>lhs;rw [Ib]
   rw [List.set_append_right _ _ (by ext lt),lt,AM,List.set_cons_zero,List.eraseIdx_append_of_length_le (by ext lt),lt,Jm]
   rfl
  rw [e6]
  refine q1.app ?_
  rw [sP]
  refine ⟨rfl,lR.symm,?_⟩
  rw [lR,<-IK]
  exact q3
 .rcases bU.mp hS with hS | hS
  .exact h.run S (gf _ hS)
  .rcases br.mp hS with rfl | hS
   .refine ⟨λz=>?_,a4⟩
    rw [z] at lR
    have:=pj.mpr r1.1
    simp at lR
    ext lR this
   .exact h.run S (fF _ (by simp [hS]))
 .generalize (arrOf st).toList.drop (Xs++R1::R2::Ys).flatten.length=D at *
  rw [<-lF,a3,Ic,<-fG,List.drop_left]
theorem PK{Rs:List (List Keyed)}(h:2<=Rs.length):∃Xs R1 R2,Rs=Xs++R1::R2::[]/\Xs.length=Rs.length-2:=by
 refine ⟨Rs.take (Rs.length-2),Rs[Rs.length-2],Rs[Rs.length-1],?_,by rw [gz];ext:1⟩
 conv=>lhs;rw [<-mS (Rs.length-2) Rs]
 congr 1
 rw [mT (by ext h:1),mT (by ext h:1),qZ (by ext:1)]
 simp only [show Rs.length-2+1=Rs.length-1 by ext h:1]
theorem b7B{Rs:List (List Keyed)}(h:3<=Rs.length):∃Xs R1 R2 R3,Rs=Xs++R1::R2::[R3]/\Xs.length=Rs.length-3:=by
 refine ⟨Rs.take (Rs.length-3),Rs[Rs.length-3],Rs[Rs.length-2],Rs[Rs.length-1],?_,by rw [gz];ext:1⟩
 conv=>lhs;rw [<-mS (Rs.length-3) Rs]
 congr 1
 rw [mT (by ext h:1),mT (by ext h:1),mT (by ext h:1),qZ (by ext:1)]
 simp only [show Rs.length-3+1=Rs.length-2 by ext h:1,show Rs.length-2+1=Rs.length-1 by ext h:1]
theorem b5u{xs:Array Keyed}{lo n:Nat}(h:Up κ xs lo n)(hn:lo+n<=xs.size):eD κ ((xs.toList.drop lo).take n):=by
 refine wX.mpr λi j hi hj cw=>?_
 simp only [gz,lD,gW] at hi hj
 have:=h i j cw (by ext hj:1)
 rw [ip (by ext hi:1),ip (by ext hj:1)] at this
 simpa using this
theorem b07{xs ys:Array Keyed}{n:Nat}(h:∀k,k<n->xs[k]?=ys[k]?):xs.toList.take n=ys.toList.take n:=by
 refine List.ext_getElem? λk=>?_
 rw [OG,OG,sR,sR]
 split
 .exact h k ‹_›
 .rfl
theorem b4d{Rs:List (List Keyed)}(h:∀R∈Rs,R≠[]):Rs.length<=Rs.flatten.length:=by
 induction Rs with
 | nil=>exact bp _
 | cons R Rs ih =>
  have:=ih λS hS=>h S (by simp [hS])
  have:=pj.mpr (h R (by simp))
  rw [Dw,cO,gy]
  lia
theorem St.push{st:SortSt}(h:St κ C kd a₀ st Rs){aj:SortSt}(e1:arrOf aj=arrOf st)(e2:kindOf aj=kindOf st)(e3:failedOf aj=failedOf st)(hq:kR 0 Rs q)(e4:(pendingOf aj).toList=q++[(Rs.flatten.length,n,0)])
  (hn:1<=n)(hl:Rs.flatten.length+n<=a₀.size)(hs:eD κ (((arrOf st).toList.drop Rs.flatten.length).take n)):St κ C kd a₀ aj (Rs++[((arrOf st).toList.drop Rs.flatten.length).take n]):=by
 have hz:(arrOf st).toList.length=a₀.size:=by rw [gW];exact h.perm.size_eq
 have ln:(((arrOf st).toList.drop Rs.flatten.length).take n).length=n:=by rw [gz,lD];ext hl hz
 have eF:(Rs++[((arrOf st).toList.drop Rs.flatten.length).take n]).flatten=Rs.flatten++((arrOf st).toList.drop Rs.flatten.length).take n:=by simp
 have lF:(Rs++[((arrOf st).toList.drop Rs.flatten.length).take n]).flatten.length=Rs.flatten.length+n:=by rw [eF,cO,ln]
 refine ⟨by rw [e1];exact h.perm,by rw [e2];exact h.kind,by rw [e3];exact h.failed,?_,by rw [lF];exact hl,?_,λR hR=>?_⟩
 .rw [lF,e1,List.take_add,h.pre,eF]
 .rw [e4]
  refine hq.app ⟨?_,ln.symm,trivial⟩
  exact (sP _).symm
 .rcases bU.mp hR with hR | hR
  .exact h.run R hR
  .rw [bQ.mp hR]
   refine ⟨λz=>?_,hs⟩
   rw [z] at ln
   simp at ln
   ext hn ln
theorem kR.mod{α:Type}(f:Nat×Nat×Nat->Nat×Nat×Nat)(hf:∀x,(f x).1=x.1/\(f x).2.1=x.2.1):∀{o:Nat} {Rs:List (List α)} {ps:List (Nat×Nat×Nat)} (i:Nat),kR o Rs ps->kR o Rs (ps.modify i f)
 | _,[],[],i,_=>by cases i<;>exact trivial
 | o,R::Rs,p::ps,0,h=>⟨by rw [(hf p).1];exact h.1,by rw [(hf p).2];exact h.2.1,h.2.2⟩
 | o,R::Rs,p::ps,i+1,h=>⟨h.1,h.2.1,h.2.2.mod f hf i⟩
theorem St.weigh{st:SortSt}(h:St κ C kd a₀ st Rs){aj:SortSt}(hb:Bs κ C kd st Rs.flatten.length aj):St κ C kd a₀ aj Rs:=
 ⟨hb.perm.trans h.perm,by rw [hb.rest];exact h.kind,by rw [hb.rest];exact h.failed,by rw [b07 hb.ahead];exact h.pre,h.le,by rw [hb.rest];exact h.vZ,h.run⟩
theorem zi{β γ:Type}{M:Model}{c:γ->Prop}[∀v,Decidable (c v)]{R:γ->SortSt->Prop}{x y:γ->StateT SortSt Sem β}{Q:β->SortSt->Prop}(P:γ->SortSt->Prop)(hF:∀u st,P u st->wpS M A E s (y u) Q st)
  (h1:∀u st,R u st->(∀u st,P u st->wpS M A E s (y u) Q st)->c u->wpS M A E s (x u) Q st)(h2:∀u st,R u st->¬c u->P u st):∀u st,R u st->wpS M A E s (if c u then x u else y u) Q st:=λu st hR=>qG (h1 u st hR hF) λz=>hF u st (h2 u st hR z)
theorem yy(hk:Ask prog w s kd κ C)(k:Kn κ C a₀){st:SortSt}{Q:Unit->SortSt->Prop}(h:St κ C kd a₀ st [])(h2:2<=a₀.size)
  (hQ:∀aj,(arrOf aj).Perm a₀->failedOf aj=none->eD κ (arrOf aj).toList->Q () aj):wpS (model prog w) A E s sortRuns' Q st:=by
 unfold wpS
 wp_delta
 wp_delta
 wp_delta
 refine xn (Q:=Q) (aS (pd ?_))
 dsimp only
 have hz:(arrOf st).size=a₀.size:=h.perm.size_eq
 simp only [hz]
 refine aS (lu (lx (λx c aj=>∃Rs:List (List Keyed),c=(none,Rs.flatten.length)/\St κ C kd a₀ aj Rs/\x<=Rs.flatten.length) (Q:=λc aj=>∃Rs:List (List Keyed),c=(none,Rs.flatten.length)/\St κ C kd a₀ aj Rs/\Rs.flatten.length=a₀.size) (λx c aj _ hx hI=>?_) (λc aj hI=>?_) ⟨[],rfl,h,bp _⟩) λc aj hI=>?_)
 .obtain ⟨Rs,rfl,hS,hp⟩:=hI
  dsimp only
  have hle:=hS.le
  by_cases c1:Rs.flatten.length≥a₀.size
  .rw [if_pos c1]
   exact bo ⟨Rs,rfl,hS,by ext hle c1⟩
  rw [if_neg c1]
  have v9:(arrOf aj).size=a₀.size:=hS.perm.size_eq
  refine aS ?_
  refine Ii hk (hS.al k) (by ext c1 v9) (by ext c1) λm ft hb m1 m2 hu=>?_
  dsimp only
  have S2:=hS.weigh hb
  have v8:(arrOf ft).size=a₀.size:=S2.perm.size_eq
  generalize (sortPriv% PySem.Builtin.minRun) a₀.size a₀.size 0 = mr
  have hR:St κ C kd a₀ ft Rs/\Rs.flatten.length+m<=a₀.size/\1<=m/\Up κ (arrOf ft) Rs.flatten.length m:=⟨S2,by ext c1 m2,m1,hu⟩
  clear hb m1 m2 hu S2 v8
  revert m ft
  refine zi (λn kZ=>St κ C kd a₀ kZ Rs/\Rs.flatten.length+n<=a₀.size/\1<=n/\Up κ (arrOf kZ) Rs.flatten.length n) ?_ (λm ft hR hF c2=>?_) λ_ _ hR _=>hR
  .rintro n kZ ⟨S3,n2,n1,G7⟩
   have Nh:(arrOf kZ).size=a₀.size:=S3.perm.size_eq
   have CP:=b5u G7 (by ext n2 Nh)
   have l3:(((arrOf kZ).toList.drop Rs.flatten.length).take n).length=n:=by rw [gz,lD,gW];ext n2 Nh
   refine aS (pd ?_)
   cases hbk:(pendingOf kZ).back? with
   | none =>
    dsimp only
    refine aS (uN (bo ⟨Rs++[((arrOf kZ).toList.drop Rs.flatten.length).take n],?_,S3.push rfl rfl rfl S3.vZ (Dv ..) n1 n2 CP,?_⟩))
    .rw [DU,cO,DI,l3]
    .rw [DU,cO,DI,l3]
     ext hp n1
   | some p =>
    obtain ⟨s1,GC,p3⟩:=p
    dsimp only
    refine aS (lu (lx (λx c aj=>c=(none,())/\∃Ts:List (List Keyed),St κ C kd a₀ aj Ts/\Ts.flatten.length=Rs.flatten.length/\(arrOf aj).toList.drop Rs.flatten.length=(arrOf kZ).toList.drop Rs.flatten.length) (Q:=λc aj=>c=(none,())/\∃Ts:List (List Keyed),St κ C kd a₀ aj Ts/\Ts.flatten.length=Rs.flatten.length/\(arrOf aj).toList.drop Rs.flatten.length=(arrOf kZ).toList.drop Rs.flatten.length) (λx c aj _ hx hI=>?_) (λc aj hI=>hI) ⟨rfl,Rs,S3,rfl,rfl⟩) λc aj hI=>?_)
    .obtain ⟨rfl,Ts,hT,hl,ha⟩:=hI
     refine aS (pd ?_)
     have hc:=hT.cnt
     simp only [hc]
     by_cases c3:Ts.length>1
     .rw [if_pos c3]
      cases hg:(pendingOf aj)[Ts.length-2]? with
      | none=>exact bo ⟨rfl,Ts,hT,hl,ha⟩
      | some p =>
       obtain ⟨p1,p2,p3⟩:=p
       dsimp only
       split
       .exact bo ⟨rfl,Ts,hT,hl,ha⟩
       .obtain ⟨Xs,R1,R2,rfl,hX⟩:=PK (Rs:=Ts) (by ext c3)
        refine aS ?_
        refine JF hk k hT hX.symm λyp R Ag wm o4=>?_
        rw [if_neg (by decide)]
        exact bo ⟨rfl,_,Ag,wm.trans hl,by rw [hl] at o4;exact o4.trans ha⟩
     .rw [if_neg c3]
      exact bo ⟨rfl,Ts,hT,hl,ha⟩
    .obtain ⟨rfl,Ts,hT,hl,ha⟩:=hI
     dsimp only
     refine aS (uN (aS (uN (bo ⟨Ts++[((arrOf aj).toList.drop Ts.flatten.length).take n],?_,hT.push rfl rfl rfl (hT.vZ.mod (λx=>(x.1,x.2.1,power' a₀.size (2*s1+GC) (2*s1+GC+GC+n) a₀.size)) (λ_=>⟨rfl,rfl⟩) ((pendingOf aj).size-1)) (by rw [hl];exact (Dv ..).trans (by rw [Array.toList_modify];rfl)) n1 (by ext n2 hl) (by rw [hl,ha];exact CP),?_⟩))))
     .rw [DU,cO,DI,hl,ha,l3]
     .rw [DU,cO,DI,hl,ha,l3]
      ext hp n1
  .obtain ⟨S2,m2,m1,hu⟩:=hR
   have v8:(arrOf ft).size=a₀.size:=S2.perm.size_eq
   refine aS (w5 (aS ?_))
   generalize sF:min (a₀.size-Rs.flatten.length) mr=n
   refine Jr hk (S2.al k) (by ext c1 v8 sF) m1 (by ext c2 m2 sF) hu λkZ Yg G7=>?_
   rw [if_neg (by decide)]
   exact hF _ _ ⟨S2.weigh Yg,by ext c1 sF,by ext c1 c2 sF,G7⟩
 .obtain ⟨Rs,rfl,hS,hp⟩:=hI
  have hle:=hS.le
  exact ⟨Rs,rfl,hS,by ext hp hle⟩
 .obtain ⟨Rs,rfl,hS,hp⟩:=hI
  dsimp only
  have hr:Rs.length<=a₀.size:=by rw [<-hp];exact b4d λR hR=>(hS.run R hR).1
  refine aS (lu (lx (λx c aj=>c=(none,())/\∃Rs:List (List Keyed),St κ C kd a₀ aj Rs/\Rs.flatten.length=a₀.size/\Rs.length<=max 1 (a₀.size-x)) (Q:=λc aj=>c=(none,())/\∃Rs:List (List Keyed),St κ C kd a₀ aj Rs/\Rs.flatten.length=a₀.size/\Rs.length<=1) (λx c aj _ hx hI=>?_) (λc aj hI=>?_) ⟨rfl,Rs,hS,hp,by ext hr⟩) λc aj hI=>?_)
  .obtain ⟨rfl,Rs,hS,hp,hl⟩:=hI
   refine aS (pd ?_)
   have hc:=hS.cnt
   simp only [hc]
   by_cases c1:Rs.length<=1
   .rw [if_pos c1]
    exact bo ⟨rfl,Rs,hS,hp,c1⟩
   rw [if_neg c1]
   refine aS ?_
   have key:∀j,(j=Rs.length-2\/(3<=Rs.length/\j=Rs.length-3))->∀{Q:Bool->SortSt->Prop},(∀aj Ts,St κ C kd a₀ aj Ts->Ts.flatten.length=Rs.flatten.length->Ts.length+1=Rs.length->Q true aj)->wpS (model prog w) A E s (mergeAt' j) Q aj:=λj hj Q hq=>by
    rcases hj with rfl | ⟨h3,rfl⟩
    .obtain ⟨Xs,R1,R2,rfl,hX⟩:=PK (Rs:=Rs) (by ext c1)
     exact JF hk k hS hX.symm λyp R Ag wm _=>hq yp _ Ag wm (by simp)
    .obtain ⟨Xs,R1,R2,R3,rfl,hX⟩:=b7B (Rs:=Rs) (by ext h3)
     exact JF hk k hS hX.symm λyp R Ag wm _=>hq yp _ Ag wm (by simp)
   refine key _ ?_ λyp Ts hT h1 h2=>?_
   .by_cases c2:Rs.length-2>0
    .rw [if_pos c2]
     split
     .exact .inr ⟨by ext c2,by ext⟩
     .exact .inl rfl
    .rw [if_neg c2]
     exact .inl rfl
   .rw [if_neg (by decide)]
    exact bo ⟨rfl,Ts,hT,by ext hp h1,by ext hl h2⟩
  .obtain ⟨rfl,Rs,hS,hp,hl⟩:=hI
   exact ⟨rfl,Rs,hS,hp,by ext hl⟩
  .obtain ⟨rfl,Rs,hS,hp,hl⟩:=hI
   refine bo (hQ _ hS.perm hS.failed ?_)
   have e:(arrOf aj).toList=Rs.flatten:=by
    have:=hS.pre
    rw [DJ (by rw [gW,hS.perm.size_eq];ext hp)] at this
    exact this
   rw [e]
   match Rs,hl,hS.run,hp with
   | [],_,_,hp=>exact Jc
   | [R],_,hr,_ =>
    rw [Dw,List.flatten_nil,mQ]
    exact (hr R (by simp)).2
end
end SO
noncomputable def lE:Nat:=1600000
namespace TS
open PySem PyProof.Rows
noncomputable abbrev kTup:Bool → SortKind:=sortPriv% PySem.Builtin.KeyKind.tuples
theorem b6h(x y:Value):keyLt' (kTup true) x y=(do
  let us <-DH x
  let vs <-DH y
  for ((p,q),i) in (us.toList.zip vs.toList).zipIdx do
   if !(<-eqBool p q) then return <-oneLt' (true&&i==0) p q
  return decide (us.size<vs.size)):=rfl
section
variable {prog:Program}{w:World}{A:Around}{E:Value->Shared->Prop}{s:Shared}
theorem b3U(hx:s.heap.get? x=some ox)(dx:ox.data=.seq (lz a t::us).toArray n)
  (hy:s.heap.get? y=some oy)(dy:oy.data=.seq (lz b u::vs).toArray m)(aV:a≠b)(h:Q (decide (a<b)) s):wpAny (model prog w) A (keyLt' (kTup true) (.ref x) (.ref y)) Q E s:=by
 rw [b6h]
 refine aB (wD hx dx (aB (wD hy dy ?_)))
 dsimp only
 rw [List.zip_cons_cons,Dt,DE]
 refine aB (aB ?_)
 dsimp only
 refine aB (wpAny_eqBool_int ?_)
 rw [if_pos (by simp [aV])]
 exact aB (oneLt_int (bI (bI (bI h))))
noncomputable def kI(ky:Value->Int)(xs:Array Keyed)(i:Nat):Int:=match xs[i]? with
 | some p=>ky p.1
 | none=>0
structure TB(a₀:Array Keyed)(st:SortSt):Prop where
 perm:(arrOf st).Perm a₀
 kind:kindOf st=kTup true
 failed:failedOf st=none
 pend:pendingOf st=#[]
def Ck(s:Shared)(ky:Value->Int)(a₀:Array Keyed):Prop:=∀p∈a₀.toList,∃x o t us n,p.1=.ref x/\s.heap.get? x=some o/\o.data=.seq (lz (ky p.1) t::us).toArray n
def vW(ky:Value->Int)(a₀:Array Keyed):Prop:=(a₀.toList.map λp=>ky p.1).Nodup
variable {ky:Value->Int}{a₀:Array Keyed}
def FG(ky:Value->Int)(xs:Array Keyed)(k:Nat):Prop:=∀i j,i<j->j<k->kI ky xs i<kI ky xs j
theorem yx{st:SortSt}{Q:Unit->SortSt->Prop}(hk:Ck s ky a₀)(hd:vW ky a₀)(hB:TB a₀ st)(h2:2<=a₀.size)(c7:a₀.size<lE)
  (h:∀aj,(arrOf aj).Perm a₀->failedOf aj=none->FG ky (arrOf aj) a₀.size->Q () aj):wpS (model prog w) A E s sortRuns' Q st:=by
 refine SO.yy (kd:=kTup true) (κ:=λp=>ky p.1) (C:=λp=>∃x o t us n,p.1=.ref x/\s.heap.get? x=some o/\o.data=.seq (lz (ky p.1) t::us).toArray n) ⟨λ{x y} cx cy aV=>?_⟩ ⟨hk,hd⟩ ⟨hB.perm,hB.kind,hB.failed,rfl,nG _,by rw [hB.pend];trivial,λR hR=>nomatch hR⟩ h2 λaj p f i=>h aj p f λa b jP hb=>?_
 .rcases cx with ⟨x1,o,t,us,n,e1,e2,e3⟩
  rcases cy with ⟨y1,o',t',us',n',f1,f2,f3⟩
  intro A E Q hQ
  generalize ky x.1=kx at *
  generalize ky y.1=kz at *
  rw [e1,f1]
  exact b3U e2 e3 f2 f3 aV hQ
 .exact SO.fS i jP (by rw [p.size_eq];exact hb)
def TupAt(s:Shared)(ky:Value->Int)(v:Value):Prop:=∃x o t us n,v=.ref x/\s.heap.get? x=some o/\o.cls=.type "tuple" /\ o.data=.seq (lz (ky v) t::us).toArray n
theorem b8s(vs:List Value)(hv:∀v∈vs,TupAt s ky v)(h:∀ts:List Tok,ts.length=vs.length->Q (kn (λv t=>some (lz (ky v) t)) vs ts) s):wpAny (model prog w) A (vs.mapM firstOfTuple') Q E s:=by
 induction vs generalizing Q with
 | nil=>rw [List.mapM_nil];exact bI (h [] rfl)
 | cons v vs ih =>
  rw [List.mapM_cons]
  obtain ⟨x,o,t,us,n,e1,e2,e3,e4⟩:=hv v aR
  have ht:s.TypeIs v "tuple":=by rw [e1];exact ⟨o,e2,e3⟩
  have one:wpAny (model prog w) A (firstOfTuple' v) (λr s'=>s'=s/\r=some (lz (ky v) t)) E s:=by
   show wpAny _ _ (typeOf v >>= λT=>if (T != sQ "tuple")=true then pure none else DH v >>= λus=>pure us[0]?) _ _ _
   refine aB (wpAny_typeOf ht ?_)
   rw [if_neg (by simp)]
   have li:wpAny (model prog w) A (DH (.ref x)) (λus s'=>wpAny (model prog w) A (pure us[0]?) (λr s'=>s'=s/\r=some (lz (ky v) t)) E s') E s:=wD e2 e4 (bI ⟨rfl,rfl⟩)
   rw [<-e1] at li
   exact aB li
  refine aB (mR one (λr s' hr=>?_) λ_ _ z=>z)
  obtain ⟨rfl,rfl⟩:=hr
  exact aB (ih (λu hu=>hv u (a9 _ hu)) λts hl=>bI (h (t::ts) (by simp [hl])))
theorem zf(vs:List Value){Q:SortKind->Shared->Prop}(aV:vs≠[])(hv:∀v∈vs,TupAt s ky v)(h:Q (kTup true) s):wpAny (model prog w) A (keyKind' vs.toArray) Q E s:=by
 rw [keyKind'_eq,List.mapM_toArray,map_eq_pure_bind]
 refine aB (aB (b8s vs hv λts hl=>bI ?_))
 have hi:∀(us:List Value) (ts:List Tok),ts.length=us.length->(kn (λv t=>some (lz (ky v) t)) us ts).all (·.isSome)=true/\∃ws ns,(kn (λv t=>some (lz (ky v) t)) us ts).filterMap id=ws/\IntsAre ws ns/\ws.length=us.length:=λus=>by
  induction us with
  | nil=>intro ts _;exact ⟨by simp,[],[],by simp,.nil,rfl⟩
  | cons u us ih =>
   intro ts hl
   cases ts with
   | nil=>simp at hl
   | cons t ts =>
    obtain ⟨h1,ws,ns,h2,h3,h4⟩:=ih ts (by simpa using hl)
    exact ⟨by simpa using h1,_::ws,_::ns,by simp [h2],.cons (ky u) t h3,by simp [h4]⟩
 obtain ⟨h1,ws,ns,h2,h3,h4⟩:=hi vs ts hl
 rw [if_pos (by simpa using h1)]
 refine aB (wI (aB ?_))
 have e:(kn (λv t=>some (lz (ky v) t)) vs ts).toArray.filterMap id=ws.toArray:=by simp [h2]
 rw [e,oneTypeOnly'_eq,List.mapM_toArray,mapM_typeOf_ints h3]
 have Hi:ws≠[]:=λz=>by rw [z] at h4;exact aV (Jo.mp h4.symm)
 cases ws with
 | nil=>exact absurd rfl Hi
 | cons a ws =>
  simp only [map_pure,pure_bind]
  have jw:((mP (λ_=>sQ "int") (a::ws)).toArray.all λx=>x==sQ "int")=true:=by simp
  have h0:(mP (λ_=>sQ "int") (a::ws)).toArray[0]?=some (sQ "int"):=by simp
  rw [h0]
  simp only [jw,if_true]
  exact bI (bI h)
theorem b7Y{vs:List Value}{xs:Array Keyed}(hp:xs.Perm (pairsOf vs))(hi:FG ky xs (pairsOf vs).size):(xs.map (·.2)).toList.Perm vs/\(xs.map (·.2)).toList.Pairwise λx y=>ky x<ky y:=by
 have dB:=wV.mp hp
 have hz:(vs.zip vs).map (·.2)=vs:=by rw [Iz];exact bp _
 have j7:∀p∈xs.toList,p.1=p.2:=λp zH=>by
  have:=dB.mem_iff.mp zH
  rw [DF] at this
  have key:∀(us:List Value) (p:Value×Value),p∈us.zip us->p.1=p.2:=λus=>by
   induction us with
   | nil=>intro p z;cases z
   | cons u us ih =>
    intro p z
    rcases br.mp z with rfl | z
    .rfl
    .exact ih p z
  exact key vs p this
 rw [Array.toList_map]
 refine ⟨by have:=dB.map (·.2);rw [DF,hz] at this;exact this,?_⟩
 rw [pW,wX]
 intro i j h1 h2 cw
 have hsz:xs.size=(pairsOf vs).size:=hp.size_eq
 have g:∀k (hk:k<xs.toList.length),kI ky xs k=ky (xs.toList[k]).2:=λk hk=>by
  have X5:k<xs.size:=by simpa using hk
  unfold kI
  rw [getElem?_pos _ k X5]
  have:=j7 xs.toList[k] (nD hk)
  show ky (xs[k]).1=_
  rw [<-this]
  simp
 rw [<-g i h1,<-g j h2]
 exact hi i j cw (by rw [<-hsz];simpa using h2)
theorem yt(zN:s.heap.get? l0=some (seqObj "list" vs.toArray n))(hv:∀v∈vs,TupAt s ky v)(hd:(vs.map ky).Nodup)(c7:vs.length<lE)
  (h:∀out:Array Value,out.toList.Perm vs->(out.toList.Pairwise λx y=>ky x<ky y)->P (.done (.ret .none)) { s with heap:=sortedHeap s.heap l0 vs out }):wpAny (model prog w) A (Builtin.«list.sort» ⟨[.ref l0],[]⟩) P E s:=by
 have be:l0<s.heap.objs.size:=bY zN
 obtain ⟨k1,wo⟩:∃k1,(s.heap.update l0 (fO λ_=>#[])).get? l0=some (seqObj "list" #[] k1):=⟨_,DA zN λ_=>#[]⟩
 rw [list_sort_plain]
 have hZ:vs.length<=sizeLine:=by rw [ij];unfold lE at c7;ext c7
 have NC:vs.toArray.size<=sizeLine:=by rw [dE];exact hZ
 have Yl:vs.toArray.toList.length<=sizeLine:=NC
 refine aB (wD zN rfl (aB (wU (hsz:=NC) zN rfl (aB (Dk wo rfl (aB (IG (hsz:=Yl) (aB (Dh (sL ?_))))))))))
 have gQ:(((s.heap.update l0 (fO λ_=>#[])).push (seqObj "tuple" vs.toArray 0)).push (seqObj "list" #[] 0)).get? l0=some (seqObj "list" #[] k1):=bR _ (bR _ wo)
 have up:∀b o,b≠l0->s.heap.get? b=some o->(((s.heap.update l0 (fO λ_=>#[])).push (seqObj "tuple" vs.toArray 0)).push (seqObj "list" #[] 0)).get? b=some o:=λb o hb e =>
  bR _ (bR _ ((DK _ _ (og hb)).trans e))
 have zy:∀v∈vs,TupAt { s with heap:=((s.heap.update l0 (fO λ_=>#[])).push (seqObj "tuple" vs.toArray 0)).push (seqObj "list" #[] 0) } ky v:=λv zz=>by
  obtain ⟨x,o,t,us,m,e1,e2,e3,e4⟩:=hv v zz
  have hx:x≠l0:=λz=>by
   rw [z,zN] at e2
   cases e2
   have:("list":String) = "tuple":=Value.type.inj e3
   exact absurd this (by decide)
  exact ⟨x,o,t,us,m,e1,up x o hx e2,e3,e4⟩
 dsimp only
 show wpAny _ _ _ _ _ { s with heap:=((s.heap.update l0 (fO λ_=>#[])).push (seqObj "tuple" vs.toArray 0)).push (seqObj "list" #[] 0) }
 generalize hS:({ s with heap:=((s.heap.update l0 (fO λ_=>#[])).push (seqObj "tuple" vs.toArray 0)).push (seqObj "list" #[] 0) }:Shared)=S at zy ⊢
 have Yo:S.heap=((s.heap.update l0 (fO λ_=>#[])).push (seqObj "tuple" vs.toArray 0)).push (seqObj "list" #[] 0):=by rw [<-hS]
 have eJ:S.heap.get? l0=some (seqObj "list" #[] k1):=by rw [Yo];exact gQ
 have ends:∀st:SortSt,(arrOf st).Perm (pairsOf vs)->failedOf st=none->FG ky (arrOf st) (pairsOf vs).size ->
   wpAny (model prog w) A (do
    let touched:=(<-seqEpoch l0) != k1
    Builtin.List.listUpdate (.ref l0) λ_=>(arrOf st).map (·.2)
    if let some e:=failedOf st then rule "list.sort.comparison-raised";throw e
    if touched then rule "list.sort.modified";raiseError "ValueError" "list modified during sort"
    ret .none) P E S:=λst hp hf hi=>by
  obtain ⟨o1,o2⟩:=b7Y hp hi
  refine aB (Dk eJ rfl (aB (wU eJ rfl ?_ (hsz2:=?_))))
  .rw [hf]
   simp only [bne_self_eq_false,uY,if_false]
   refine bI ?_
   have:=h _ o1 o2
   rw [<-hS]
   exact this
  .rw [Array.size_map,hp.size_eq,Dr,ij];unfold lE at c7;ext c7
 have zP:Ck S ky (pairsOf vs):=λp hp=>by
  rw [DF] at hp
  obtain ⟨x,o,t,us,m,e1,e2,e3,e4⟩:=zy p.1 (wR hp).1
  exact ⟨x,o,t,us,m,e1,e2,e4⟩
 have z6:vW ky (pairsOf vs):=by
  unfold vW
  rw [DF,show (vs.zip vs).map (λp=>ky p.1)=((vs.zip vs).map (·.1)).map ky by rw [fM];rfl,List.map_fst_zip (bp _)]
  exact hd
 have hsz:vs.toArray.size=vs.length:=by simp
 by_cases h2:vs.toArray.size<2
 .rw [if_pos h2]
  refine aB (bI ?_)
  rw [if_pos h2,StateT.run_pure]
  refine aB (bI ?_)
  exact ends (AG general' (pairsOf vs) #[] 7 none) (sU _) rfl λi j cw hj=>by rw [Dr] at hj;ext hsz h2 cw hj
 .rw [if_neg h2]
  refine aB (zf vs (λz=>by rw [z] at hsz;simp at h2;simp [z] at h2) zy ?_)
  rw [if_neg h2]
  refine aB (mR (yx (a₀:=pairsOf vs) (st:=AG (kTup true) (pairsOf vs) #[] 7 none) (Q:=λ_ aj=>(arrOf aj).Perm (pairsOf vs)/\failedOf aj=none/\FG ky (arrOf aj) (pairsOf vs).size) zP z6 ⟨sU _,rfl,rfl,rfl⟩ (by rw [Dr];ext hsz h2) (by rw [Dr];exact c7) λaj a b c=>⟨a,b,c⟩) (λr s' hr=>?_) λ_ _ z=>z)
  obtain ⟨rfl,p1,p2,p3⟩:=hr
  exact ends r.2 p1 p2 p3
theorem qx(hl:s.heap.IsList l vs.toArray)(hv:∀v∈vs,TupAt s ky v)(hd:(vs.map ky).Nodup)(c7:vs.length<lE)
  (h:∀out:Array Value,out.toList.Perm vs->(out.toList.Pairwise λx y=>ky x<ky y)->Q (.ref (s.heap.objs.size+1)) { s with heap:=sortedAll s.heap vs out }):wpAny (model prog w) A (call (.builtin "sorted") [.ref l]) Q E s:=by
 refine Calls.call_function_entry kind_sorted plain_sorted entry_sorted (args_sorted1 _) ?_
 unfold Builtin.«sorted»
 have hZ:vs.length<=sizeLine:=by rw [ij];unfold lE at c7;ext c7
 refine aB (m:=checkCount "sorted" 1 1 _) (bI (aB (collect_list (hsz:=hZ) hl (aB (Dh (hsz:=hZ) ?_)))))
 have z1:((s.heap.push (seqObj "list" #[] 0)).update s.heap.objs.size (fO (·++vs.toArray))).objs.size=s.heap.objs.size+1:=(Iy ..).trans (De _ _)
 have z2:(((s.heap.push (seqObj "list" #[] 0)).update s.heap.objs.size (fO (·++vs.toArray))).push (seqObj "list" vs.toArray 0)).get? (s.heap.objs.size+1)=some (seqObj "list" vs.toArray 0):=by
  rw [<-z1]
  exact fN _ rfl
 have up:∀b o,s.heap.get? b=some o->(((s.heap.push (seqObj "list" #[] 0)).update s.heap.objs.size (fO (·++vs.toArray))).push (seqObj "list" vs.toArray 0)).get? b=some o:=λb o e =>
  bR _ ((DK _ _ (uS (bY e))).trans (bR _ e))
 show wpAny _ _ _ _ _ { s with heap:=((s.heap.push (seqObj "list" #[] 0)).update s.heap.objs.size (fO (·++vs.toArray))).push (seqObj "list" vs.toArray 0) }
 rw [z1]
 have G6:∀v∈vs,TupAt { s with heap:=((s.heap.push (seqObj "list" #[] 0)).update s.heap.objs.size (fO (·++vs.toArray))).push (seqObj "list" vs.toArray 0) } ky v:=λv zz=>by
  obtain ⟨x,o,t,us,m,e1,e2,e3,e4⟩:=hv v zz
  exact ⟨x,o,t,us,m,e1,up x o e2,e3,e4⟩
 refine aB (sL (u5 slot_list_sort ⟨_,z2,rfl⟩ entry_list_sort (yt z2 G6 hd c7 λout o1 o2=>⟨_,rfl,?_⟩) (args_list_sort _)))
 exact bI ⟨_,rfl,h out o1 o2⟩
end
end TS
namespace DL
open PySem PySem.Spec PyProof.Rows L2
theorem Ro{α β:Type}{f:α->β}{l:List β}{ts:List α}(h:l.Perm (ts.map f)):∃us:List α,us.Perm ts/\us.map f=l:=by
 generalize e:ts.map f=m at h
 induction h generalizing ts with
 | nil=>exact ⟨[],by rw [Ot.mp e],rfl⟩
 | cons x _ ih =>
  cases ts with
  | nil=>cases e
  | cons t ts =>
   cases e
   obtain ⟨us,h1,h2⟩:=ih rfl
   exact ⟨t::us,h1.cons t,by rw [fo,h2]⟩
 | swap x y l =>
  match ts,e with
  | a::b::ts,e =>
   cases e
   exact ⟨b::a::ts,List.Perm.swap _ _ _,rfl⟩
 | trans _ _ XB GS =>
  obtain ⟨us,h1,h2⟩:=GS e
  obtain ⟨ws,h3,h4⟩:=XB h2
  exact ⟨ws,h3.trans h1,h4⟩
noncomputable def xj(s:Shared):Value->Int
 | .ref x=>match s.heap.get? x with
  | some o=>match o.data with
   | .seq xs _=>match xs[0]? with
    | some (lz a _)=>a
    | _=>0
   | _=>0
  | _=>0
 | _=>0
section
variable {X:Cx}
theorem a9Q:pB X (.builtin "sorted") (λxs H Q=>∃(p:Addr) (ts:List (Addr×Int×D)),xs=[.ref p]/\Sq X.K H true p (ts.map λt=>V.ref t.1)/\(∀t∈ts,∃zs,fq X.K H t.1 (.int t.2.1::zs))/\(ts.map (·.2.1)).Nodup/\ts.length<lE /\
  ∀(us:List (Addr×Int×D)) (a:Addr),us.Perm ts->(us.Pairwise λx y=>x.2.1<y.2.1)->H a=none->Q (.ref a) (upd H a (.lst (us.map λt=>V.ref t.1)))):=by
 intro pins s σ H xs vs Q I r h
 obtain ⟨p,ts,rfl,hq,Ni,oV,c7,q⟩:=h
 obtain ⟨u,rfl,ru⟩:=r.one
 cases ru
 obtain ⟨ar,rv,pl⟩:=ou (b:=true) I hq
 have hits:ar=ts.map λt=>eI t.1:=by
  clear pl hq Ni oV c7 q
  induction ts generalizing ar with
  | nil=>cases rv;rfl
  | cons t ts ih =>
   cases rv with
   | cons a b =>
    cases a
    rw [fo,ih _ b]
 subst hits
 have CY:∀t∈ts,TS.TupAt s (xj s) (.ref t.1)/\xj s (.ref t.1)=t.2.1:=λt ht=>by
  obtain ⟨zs,hz⟩:=Ni t ht
  obtain ⟨ws,yw,pt,_⟩:=I.tuple hz
  obtain ⟨o,ho,hc,n,hd⟩:=(show s.heap.IsTuple t.1 ws.toArray from pt)
  cases yw with
  | cons a b =>
   obtain ⟨tk,rfl⟩:=a
   have e:xj s (.ref t.1)=t.2.1:=by
    unfold xj
    dsimp only
    rw [ho]
    dsimp only
    rw [hd]
    rfl
   exact ⟨⟨t.1,o,tk,_,n,rfl,ho,hc,by rw [e];exact hd⟩,e⟩
 have Hk:(ts.map λt=>eI t.1).map (xj s)=ts.map (·.2.1):=by
  rw [fM]
  exact IZ λt ht=>(CY t ht).2
 refine TS.qx (ky:=xj s) pl (λv hv=>?_) (by rw [Hk];exact oV) (by rw [aX];exact c7) λout o1 o2=>?_
 .obtain ⟨t,ht,rfl⟩:=cS.mp hv
  exact (CY t ht).1
 .obtain ⟨us,u1,u2⟩:=Ro o1
  have u3:us.Pairwise λx y=>x.2.1<y.2.1:=by
   rw [<-u2,pW] at o2
   refine o2.imp_of_mem λ{x y} hx hy z=>?_
   rwa [(CY x (u1.subset hx)).2,(CY y (u1.subset hy)).2] at z
  obtain ⟨e,he⟩:=sortedAll_at s.heap (ts.map λt=>eI t.1) out
  have fr:H (s.heap.objs.size+1)=none:=I.bt.fresh (uO _)
  refine ⟨.ref (s.heap.objs.size+1),_,I.laid (o:=.lst (us.map λt=>V.ref t.1)) (t':=s.toks) (λb o e=>sortedAll_old e) (uO _) ⟨?_,out.toList,e,?_,?_⟩,rfl,q us _ u1 u3 fr⟩
  .rw [aX,u1.length_eq,ij];unfold lE at c7;ext c7
  .rw [<-u2]
   clear u1 u3 u2
   induction us with
   | nil=>exact .nil
   | cons t us ih=>exact .cons rfl ih
  .simpa using he
noncomputable def zg:D->Option (Int×D)
 | .tup (.int k::ds)=>some (k,.tup (.int k::ds))
 | _=>none
noncomputable def A0:List D->Option (List (Int×D))
 | []=>some []
 | d::ds=>(zg d).bind λk=>(A0 ds).map λks=>k::ks
noncomputable def w8(ds:List D):Option (List D):=(A0 ds).bind λks=>if (ks.map (·.1)).Nodup/\ks.length<lE then some ((ks.mergeSort λa b=>decide (a.1<=b.1)).map (·.2)) else none
noncomputable def ER(f:En->Option Sl):En->Option Sl:=λenv=>(f env).bind λr=>match r.d with
 | .lst _ ds=>(w8 ds).map Sl.ow
 | _=>none
theorem RY:∀{l m:List (Int×D)},l.Perm m->(l.map (·.1)).Nodup->(l.Pairwise λa b=>a.1<=b.1)->(m.Pairwise λa b=>a.1<=b.1)->l=m
 | [],m,h,_,_,_=>(List.nil_perm.mp h).symm
 | a::l,[],h,_,_,_=>by have:=h.length_eq;simp at this
 | a::l,b::m,h,hn,hl,hm=>by
  have jP:a=b:=by
   have h1:a∈b::m:=h.subset aR
   have h2:b∈a::l:=h.symm.subset aR
   have e:a.1=b.1:=by
    have k1:b.1<=a.1:=by
     rcases br.mp h1 with z | z
     .rw [z];exact aW _
     .exact (dg.mp hm).1 a z
    have k2:a.1<=b.1:=by
     rcases br.mp h2 with z | z
     .rw [z];exact aW _
     .exact (dg.mp hl).1 b z
    ext k1 k2
   rcases br.mp h2 with z | z
   .exact z.symm
   .have:=(uQ.mp hn).1
    exact absurd (cS.mpr ⟨b,z,e.symm⟩) this
  subst jP
  rw [RY (h.cons_inv) (uQ.mp hn).2 (dg.mp hl).2 (dg.mp hm).2]
theorem b2v(hg:Gl X "sorted")(hm:X.mg "sorted" = none)(he:EV X e fa)(hs:starEach [e] X.env=[(false,eval e X.env)]:=by rfl):EV X (.Call (.Name "sorted" p) [e] [] pos) (ER fa):=by
 obtain ⟨t,pt,k⟩:=he
 refine ⟨_,xy a9Q hg hm (by decide +kernel) (qe pt rm hs) (by decide) (by decide) hs rfl,λO B σ H env s Q R e q=>?_⟩
 obtain ⟨r,e1,e2⟩:=bind_some e
 refine k O B σ H env r _ R e1 λv H1 s1 r1=>?_
 have hi:=r1.is λq=>R.oo
 cases hd:r.d with
 | lst b ds =>
  rw [hd] at e2 hi
  obtain ⟨rs,e3,rfl⟩:=map_some (show (w8 ds).map Sl.ow=some s from e2)
  obtain ⟨ks,e4,e5⟩:=bind_some e3
  obtain ⟨⟨oV,c7⟩,rfl⟩:=iu e5
  obtain ⟨a,xs,rfl,h2,h3⟩:=hi.seq (k:=true) rfl
  have lay:∀{xs:List V} {ds:List D} {ks:List (Int×D)},aN X.K (OO O σ env) H1 xs ds->A0 ds=some ks->∃ts:List (Addr×Int×D),xs=ts.map (λt=>V.ref t.1)/\ks=ts.map (λt=>t.2)/\∀t∈ts,Is X.K (OO O σ env) H1 (.ref t.1) t.2.2/\∃zs,fq X.K H1 t.1 (.int t.2.1::zs):=λ{xs ds ks} hI=>by
   intro hk
   induction ds generalizing xs ks with
   | nil=>cases hI;cases hk;exact ⟨[],rfl,rfl,λ_ z=>nomatch z⟩
   | cons d ds ih =>
    cases hI with
    | cons i1 i2 =>
     rename_i x jk
     obtain ⟨kd,f1,f2⟩:=bind_some hk
     obtain ⟨ks',f3,f4⟩:=map_some f2
     obtain ⟨ts,g1,g2,g3⟩:=ih i2 f3
     obtain ⟨kk,rest,rfl,rfl⟩:∃kk rest,d=.tup (.int kk::rest)/\kd=(kk,d):=by
      unfold zg at f1
      split at f1
      .cases f1;exact ⟨_,_,rfl,rfl⟩
      .cases f1
     obtain ⟨ad,zs,rfl,hz,uf⟩:=i1.seq (k:=false) rfl
     cases uf with
     | cons z1 z2 =>
      obtain rfl:=iI z1
      refine ⟨(ad,kk,.tup (.int kk::rest))::ts,by rw [g1];rfl,by rw [<-f4,g2];rfl,λt ht=>?_⟩
      rcases br.mp ht with rfl | ht
      .exact ⟨i1,_,hz⟩
      .exact g3 t ht
  obtain ⟨ts,rfl,rfl,g3⟩:=lay h3 e4
  rw [fM] at oV
  rw [aX] at c7
  refine ⟨a,ts,rfl,h2,λt ht=>(g3 t ht).2,oV,c7,λus c u1 u2 hc=>?_⟩
  have j7:us.map (λt=>t.2)=(ts.map λt=>t.2).mergeSort λa b=>decide (a.1<=b.1):=by
   refine RY ((u1.map _).trans (DT _ _).symm) ?_ ?_ ?_
   .rw [fM];exact (u1.map _).nodup_iff.mpr oV
   .rw [pW];exact u2.imp λ{x y} z=>AL z
   .have:=Jl (le:=λa b:Int×D=>decide (a.1<=b.1)) (λa b c h1 h2=>by simp at *;ext h1 h2) (λa b=>by simp;ext) (ts.map λt=>t.2)
    exact this.imp λ{x y} z=>by simpa using z
  rw [<-j7,fM] at q
  refine q _ _ (s1.trans (oD hc _)) ((xp hc ?_).from s1)
  have conv:∀ws:List (Addr×Int×D),(∀t∈ws,Is X.K (OO O σ env) H1 (.ref t.1) t.2.2)->aN X.K (OO O σ env) H1 (ws.map λt=>V.ref t.1) (ws.map λt=>t.2.2):=λws=>by
   induction ws with
   | nil=>exact λ_=>.nil
   | cons w ws ih=>exact λhw=>.cons (hw w aR) (ih λz hz=>hw z (a9 _ hz))
  exact conv us λt ht=>(g3 t (u1.subset ht)).1
 | _=>rw [hd] at e2;cases e2
end
end DL
namespace DL
open PySem PySem.Spec PyProof.Rows L2
section
variable {X:Cx}
def nX(_ j:Int):Prop:=j≠0 /\ -LIM<=j/\j<=LIM
noncomputable instance (i j:Int):Decidable (nX i j):=by unfold nX;infer_instance
noncomputable def D7:D->D->Option Sl:=gI nX Int.fdiv
theorem QC:iZ X (binaryOp .FloorDiv) D7:=w4 (tZ λi j _ _ _ _ _ (hc:nX i j) q=>by
 have h1:j≠0:=hc.1
 exact floordiv_int h1 q (.inl (OS (by have:=Ku (j:=j) hc.2.1 hc.2.2;exact fm ‹_› (by decide)))))
theorem b8t(hb:b≠0)(h1:-B<=a)(h2:a<=B):-B<=a.fdiv b/\a.fdiv b<=B:=by
 rcases Int.lt_or_gt_of_ne hb with h | h
 .rw [<-Int.neg_fdiv_neg,Ji _ (by ext h)]
  have hB:0<=B:=by ext h1 h2
  refine ⟨OD (by ext h) ?_,sO (Int.ediv_le_ediv (by ext h) (show -a<=B by ext h1)) (Int.ediv_le_self _ hB)⟩
  have:=nI (show 1 <= -b by ext h) hB
  rw [Ip]
  ext h2 this
 .rw [Ji _ (by ext h)]
  have hB:0<=B:=by ext h1 h2
  refine ⟨OD h ?_,sO (Int.ediv_le_ediv h h2) (Int.ediv_le_self _ hB)⟩
  have:=nI (show 1<=b by assumption) hB
  rw [Ip]
  ext h1 this
end
end DL
namespace DL
open PySem PySem.Spec PyProof.Rows L2
section
variable {prog:Program}{w:World}{A:Around}{E:Value->Shared->Prop}{s:Shared}{a₀:Array Keyed}
end
section
variable {X:Cx}{pins:List (Addr×Obj)}{s:Shared}{σ:L2.St}{H:Hp}
theorem x9(I:Inv X pins σ H s)(hf:cV X pins H a)(new:cQ X.prog X.w (upd H a o) s.heap a o):Inv X pins σ (upd H a o) s:=by
 have ne:∀b u,H b=some u->b≠a:=λb u e z=>by rw [z,hf.1] at e;cases e
 refine I.step (g':=s.gens) (t':=s.toks) (d':=s.drawn) (ch:=[a]) (h':=s.heap) (H':=upd H a o) (λb hb=>?_) (λb o _ _ _ e _=>e) (λb o _ _ _ e _=>⟨o.slots,e⟩) (λb o hc e n=>by rw [c5 (by simpa using hc)];exact n) (λb o _ e=>⟨o,e⟩)
  (λb xs e=>by rw [c5 (ne b _ e)];exact e) (λb o u e=>by rw [c5 (ne b _ e)];exact e) (λb ps e=>⟨#[],by rw [c5 (ne b _ e),e];simp⟩) (λm hm=>hm) (λb u e=>?_) I.bare
 .obtain rfl:b=a:=by simpa using hb
  exact ⟨hf.2.2.2.1,hf.2.1,hf.2.2.2.2.1,hf.2.2.2.2.2⟩
 .by_cases hb:b=a
  .subst hb
   rw [pK] at e
   cases e
   exact new
  .rw [c5 hb] at e
   exact (I.bt b u e).jX (λ_ _ _ q=>q) (λc _ _ q=>by rw [c5 (ne c _ q)];exact q) λc xs q=>by rw [c5 (ne c _ q)];exact q
theorem b4t(F:cH X.prog X.w X.K X.mg X.base jc k f fd ps (m7 X.K ps.length φ))(h1:ps.length=1)(hr:cu k A')(hA:A'.frames=X.A.frames)(hb:Binds X.K fd ps [])
  (I:Inv X pins σ H s)(rx:RelV x v)(hO:qm X.K O H)(hx:Is X.K O H x d)(e:φ [d]=some (.sh (.int n))):
  wpAny (model X.prog X.w) A' (call (.ref f) [v]) (λu s'=>∃t H',u=.int n t/\Inv X pins σ H' s'/\au H H'/\∀b o,s.heap.get? b=some o->cV X pins H b->s'.heap.get? b=some o/\cV X pins H' b) E s:=by
 have e0:=I.gk
 have E0:pS X.prog X.w X.K X.mg X.base A' X.stack s H:=⟨hA.trans e0.frames,e0.mod,e0.bs,e0.q9,e0.gj,e0.uI,e0.bt,e0.bare⟩
 refine wpAny_call (Dg (F.run A' X.stack s H ⟨[v],[]⟩ [v] [x] (λu H'=>u=.int n/\au H H') (λ_ _ _=>False) hr E0 (hb s [v] I.ud (by simp [h1])) (.cons rx .nil) ⟨O,[d],.sh (.int n),hO,.cons hx .nil,by simp [h1],e,λv' H' sm r=>⟨iI r,sm⟩⟩) λr s' hq=>?_)
 cases r with
 | error e=>exact jR hq
 | ok fl =>
  cases fl with
  | ret u =>
   obtain ⟨v',H',os,bare,un,bt,rv,rfl,sm⟩:=hq
   obtain ⟨t,rfl⟩:=rv
   obtain ⟨hh,g,d',t',Gr⟩:=s'
   obtain rfl:Gr=s.os:=os
   refine ⟨t,H',rfl,I.call (h':=hh) (g':=g) (d':=d') (t':=t') (ch:=[]) un bt bare (λb z=>absurd z (by simp)),sm,λb o eb hf=>?_⟩
   have WH:b∉n9 X.stack:=λz=>by
    rcases br.mp (I.gE b z) with z | z
    .exact hf.2.1 z
    .exact hf.2.2.1 z
   exact ⟨un.keep b o eb hf.1 WH (by simp),un.free b o eb hf.1 (by simp),hf.2⟩
  | next=>exact jR hq
  | brk=>exact jR hq
  | cont=>exact jR hq
end
end DL
namespace DL
open PySem PySem.Spec PyProof.Rows L2
section
variable {X:Cx}
theorem BG:∀{us:List Value} {ns:List Int},IntsAre us ns->aC (ns.map V.int) us
 | _,_,.nil=>.nil
 | _,_,.cons n t h=>.cons ⟨t,rfl⟩ (BG h)
theorem a87:pB X (.builtin "sorted") (λxs H Q=>∃(p:Addr) (ns:List Int),xs=[.ref p]/\Sq X.K H true p (ns.map V.int)/\ns.length<64 /\
  ∀(ms:List Int) (a:Addr),ms.Perm ns->ms.Pairwise (·<=·)->H a=none->Q (.ref a) (upd H a (.lst (ms.map V.int)))):=by
 intro pins s σ H xs vs Q I r h
 obtain ⟨p,ns,rfl,hq,c7,q⟩:=h
 obtain ⟨u,rfl,ru⟩:=r.one
 cases ru
 obtain ⟨ar,rv,pl⟩:=ou (b:=true) I hq
 have hl:ar.length=ns.length:=by rw [<-rv.length,aX]
 refine sorted_ints pl (intsAre_of rv) (by ext c7 hl) λout ms o1 o2 o3=>?_
 obtain ⟨e,he⟩:=sortedAll_at s.heap ar out
 have fr:H (s.heap.objs.size+1)=none:=I.bt.fresh (uO _)
 refine ⟨.ref (s.heap.objs.size+1),_,I.laid (o:=.lst (ms.map V.int)) (t':=s.toks) (λb o e=>sortedAll_old e) (uO _) ⟨?_,out.toList,e,BG o1,?_⟩,rfl,q ms _ o2 o3 fr⟩
 .rw [aX,o2.length_eq,ij];ext c7
 .simpa using he
noncomputable def sortI(ds:List D):Option (List D):=(rj ds).bind λns=>if ns.length<64 then some ((ns.mergeSort λa b=>decide (a<=b)).map D.int) else none
noncomputable def Bn(f:En->Option Sl):En->Option Sl:=λenv=>(f env).bind λr=>match r.d with
 | .lst _ ds=>(sortI ds).map Sl.ow
 | _=>none
theorem LK:∀{l m:List Int},l.Perm m->l.Pairwise (·<=·)->m.Pairwise (·<=·)->l=m
 | [],m,h,_,_=>(List.nil_perm.mp h).symm
 | a::l,[],h,_,_=>by have:=h.length_eq;simp at this
 | a::l,b::m,h,hl,hm=>by
  have jP:a=b:=by
   have h1:a∈b::m:=h.subset aR
   have h2:b∈a::l:=h.symm.subset aR
   have k1:b<=a:=by
    rcases br.mp h1 with z | z
    .rw [z];exact aW _
    .exact (dg.mp hm).1 a z
   have k2:a<=b:=by
    rcases br.mp h2 with z | z
    .rw [z];exact aW _
    .exact (dg.mp hl).1 b z
   ext k1 k2
  subst jP
  rw [LK h.cons_inv (dg.mp hl).2 (dg.mp hm).2]
theorem QU(ns:List Int):(ns.mergeSort λa b=>decide (a<=b)).Pairwise (·<=·):=by
 have:=Jl (le:=λa b:Int=>decide (a<=b)) (λa b c h1 h2=>by simp at *;ext h1 h2) (λa b=>by simp;ext) ns
 exact this.imp λ{x y} z=>by simpa using z
theorem Rz(hg:Gl X "sorted")(hm:X.mg "sorted" = none)(he:EV X e fa)(hs:starEach [e] X.env=[(false,eval e X.env)]:=by rfl):EV X (.Call (.Name "sorted" p) [e] [] pos) (Bn fa):=by
 obtain ⟨t,pt,k⟩:=he
 refine ⟨_,xy a87 hg hm (by decide +kernel) (qe pt rm hs) (by decide) (by decide) hs rfl,λO B σ H env s Q R e q=>?_⟩
 obtain ⟨r,e1,e2⟩:=bind_some e
 refine k O B σ H env r _ R e1 λv H1 s1 r1=>?_
 have hi:=r1.is λq=>R.oo
 cases hd:r.d with
 | lst b ds =>
  rw [hd] at e2 hi
  obtain ⟨rs,e3,rfl⟩:=map_some (show (sortI ds).map Sl.ow=some s from e2)
  obtain ⟨ns,e4,e5⟩:=bind_some e3
  obtain ⟨c7,rfl⟩:=iu e5
  have YU:=Lx e4
  subst YU
  obtain ⟨a,xs,rfl,h2,h3⟩:=hi.seq (k:=true) rfl
  have ex:=K7 h3
  subst ex
  refine ⟨a,ns,rfl,h2,c7,λms c u1 u2 hc=>?_⟩
  have j7:ms=ns.mergeSort λa b=>decide (a<=b):=LK (u1.trans (DT _ _).symm) u2 (QU ns)
  rw [<-j7] at q
  refine q _ _ (s1.trans (oD hc _)) ((xp hc ?_).from s1)
  have conv:∀ws:List Int,aN X.K (OO O σ env) H1 (ws.map V.int) (ws.map D.int):=λws=>by
   induction ws with
   | nil=>exact .nil
   | cons w ws ih=>exact .cons (Is.int _) ih
  exact conv ms
 | _=>rw [hd] at e2;cases e2
end
end DL
namespace DL
open PySem PySem.Spec PyProof.Rows L2
section
variable {X:Cx}{N:List Str}{sc:Scope}{k:Nat}{full:Bool}{pos pos' p1 p2 p3 p4:Pos}{e c:Expr}{fa:En->Option Sl}{ga:En->Option Bool}
noncomputable def iA(i:Nat)(f:En->Option Sl):SF:=λenv=>match env[i]? with
 | some (.sh (.int m))=>match f env with
  | some (.sh (.int n))=>some (.nx,env.set i (.sh (.int (m+n))))
  | _=>none
 | _=>none
theorem Rp(h:iA i f env=some y):∃m n,env[i]?=some (.sh (.int m))/\f env=some (.sh (.int n))/\y=(.nx,env.set i (.sh (.int (m+n)))):=by
 unfold iA at h
 split at h
 .rename_i m e1
  split at h
  .rename_i n e2
   cases h
   exact ⟨m,n,e1,e2,rfl⟩
  .cases h
 .cases h
theorem Fx.aug(h:Fx X N sc k full)(i:Nat)(he:EV X e fa)(hN:N[i]?=some x:=by rfl)(hv:Loc sc x:=by first | exact cX rfl | exact bP rfl)
  (hf:full=true\/sc.names.lookup x=some .local:=by first | exact cX rfl | exact bP rfl):SV X (.AugAssign (.Name x pos') .Add e pos) (iA i fa):=by
 obtain ⟨t,p,kk⟩:=he
 refine ⟨_,PD h.ua (h.ix hN) (h.loc hv) p b8m (h.tT hf),λO B σ H env fl ak D R e q=>?_⟩
 obtain ⟨m,n,hi,e1,e2⟩:=Rp e
 cases e2
 obtain ⟨v,e3,hv⟩:=R.sh i _ hi
 obtain rfl:=iI hv
 refine ⟨_,e3,kk O B σ H env _ _ R e1 λv H1 s1 r1=>?_⟩
 obtain rfl:=iI r1
 refine ⟨m,n,rfl,rfl,?_⟩
 obtain ⟨R',g'⟩:=R.set (v:=.int (m+n)) (r:=.sh (.int (m+n))) s1 (Is.int (m+n)) (lC.mp hi).1
 exact q _ H1 R' g'
end
end DL
namespace DL
open PySem L2
def Wo{α:Type}(o:Option α)(Q:α->Prop):Prop:=∃a,o=some a/\Q a
section
variable {α β:Type}
theorem a0i{a:α}{Q:α->Prop}:Wo (some a) Q↔Q a:=⟨λ⟨_,e,h⟩=>by cases e;exact h,λh=>⟨a,rfl,h⟩⟩
theorem a0u:Wo (none:Option α) Q↔False:=⟨λ⟨_,e,_⟩=>(nomatch e),jR⟩
theorem a0r{o:Option α}{f:α->Option β}{Q:β->Prop}:Wo (o.bind f) Q↔Wo o λa=>Wo (f a) Q:=by
 cases o with
 | none=>simp [Wo]
 | some a=>simp [Wo]
theorem a3x{o:Option α}{f:α->β}{Q:β->Prop}:Wo (o.map f) Q↔Wo o λa=>Q (f a):=by
 cases o with
 | none=>simp [Wo]
 | some a=>simp [Wo]
theorem kD{c:Prop}[Decidable c]{a:α}{Q:α->Prop}:Wo (if c then some a else none) Q↔c/\Q a:=by
 by_cases h:c
 .rw [if_pos h,a0i];exact ⟨λz=>⟨h,z⟩,λz=>z.2⟩
 .rw [if_neg h,a0u];exact ⟨jR,λz=>h z.1⟩
theorem Wo.mono{o:Option α}{P Q:α->Prop}(h:Wo o P)(k:∀a,P a->Q a):Wo o Q:=let ⟨a,e,p⟩:=h;⟨a,e,k a p⟩
theorem Wo.eq{o:Option α}{a:α}(h:Wo o λx=>x=a):o=some a:=let ⟨_,e,p⟩:=h;by rw [e,p]
theorem qd{o:Option α}{P Q:α->Prop}(k:∀a,P a↔Q a):Wo o P↔Wo o Q:=⟨λh=>h.mono λa=>(k a).mp,λh=>h.mono λa=>(k a).mpr⟩
end
noncomputable def oJ(G:SF)(Q:Fl×En->Prop):Fl×En->Prop
 | (.nx,e)=>Wo (G e) Q
 | p=>Q p
theorem a9o:oJ G Q (.nx,e)↔Wo (G e) Q:=fE
theorem b1I:oJ G Q (.bk,e)↔Q (.bk,e):=fE
theorem b1H:oJ G Q (.ct,e)↔Q (.ct,e):=fE
theorem b1G:oJ G Q (.rt r,e)↔Q (.rt r,e):=fE
theorem Wo_seq:Wo (ah F G env) Q↔Wo (F env) (oJ G Q):=by
 unfold ah
 cases h:F env with
 | none=>simp [Wo]
 | some p =>
  obtain ⟨fl,e⟩:=p
  rw [a0i]
  cases fl with
  | nx=>exact fE
  | bk=>rw [b1I];exact a0i
  | ct=>rw [b1H];exact a0i
  | rt r=>rw [b1G];exact a0i
theorem a3e:Wo (bS c F G env) Q↔Wo (c env) λb=>(b=true->Wo (F env) Q)/\(b=false->Wo (G env) Q):=by
 unfold bS
 cases h:c env with
 | none=>simp [Wo]
 | some b=>cases b<;>simp [a0i]
theorem b6S:Wo (cE env) Q↔Q (.nx,env):=a0i
theorem Wo_bk:Wo (Ga env) Q↔Q (.bk,env):=a0i
theorem b8W:Wo (aw f env) Q↔Wo (f env) λr=>Q (.rt r,env):=a3x
theorem b8V:Wo (de i f env) Q↔Wo (f env) λr=>i<env.length/\Q (.nx,env.set i r):=by
 unfold de;rw [a0r];simp only [kD]
theorem b2T:Wo (aY i f env) Q↔Wo (f env) λr=>i<env.length/\Q (.nx,env.set i (.sh r.d)):=by
 unfold aY;rw [a0r];simp only [kD]
noncomputable def kr:Option Sl->(Sl->Prop)->Prop
 | some (.sh d),Q=>Q (.sh d)
 | _,_=>False
theorem b6J:kr (some (.sh d)) Q↔Q (.sh d):=fE
theorem Wo_eV:Wo (eV i env) Q↔kr env[i]? Q:=by
 unfold eV
 cases env[i]? with
 | none=>simp [Cz,kr,Wo]
 | some s=>cases s<;>simp [Cz,kr,Wo]
theorem Wo_eC:Wo (eC d env) Q↔Q (.sh d):=a0i
theorem b9d:Wo (ae g fa fb env) Q↔Wo (fa env) λx=>Wo (fb env) λy=>Wo (g x.d y.d) Q:=by
 unfold ae;rw [a0r];simp only [a0r]
theorem b80:Wo (fD f env) Q↔Wo (f env) λx=>Wo (uF x.d) Q:=a0r
theorem b6Y:Wo (uF (.int i)) Q↔Q (.sh (.int (-i))):=a0i
theorem b62:Wo (bj (.int i) (.int j)) Q↔Q (.sh (.int (i+j))):=a0i
theorem b6W:Wo (bL (.int i) (.int j)) Q↔Q (.sh (.int (i-j))):=by rw [b8p,a0i]
theorem b6Z:Wo (dr (.int i) (.int j)) Q↔MulC i j/\Q (.sh (.int (i*j))):=kD
theorem b61:Wo (bH (.int i) (.int j)) Q↔DivC i j/\Q (.sh (.int (i/j))):=kD
theorem b4G:Wo (D7 (.int i) (.int j)) Q↔nX i j/\Q (.sh (.int (i.fdiv j))):=kD
theorem b60:Wo (bF (.int i) (.int j)) Q↔0<j/\Q (.sh (.int (i%j))):=kD
theorem b6X:Wo (eQ (.int i) (.int j)) Q↔PowC i j/\Q (.sh (.int (i^j.toNat))):=kD
theorem b83:Wo (fC (.int i) (.int j)) Q↔Q (.sh (.bl (decide (i<j)))):=a0i
theorem b84:Wo (uG (.int i) (.int j)) Q↔Q (.sh (.bl (decide (i<=j)))):=a0i
theorem b85:Wo (qN (.int i) (.int j)) Q↔Q (.sh (.bl (decide (j<i)))):=a0i
theorem b86:Wo (YC (.int i) (.int j)) Q↔Q (.sh (.bl (decide (j<=i)))):=a0i
theorem b87:Wo (cZ (.int i) (.int j)) Q↔Q (.sh (.bl (decide (i=j)))):=a0i
theorem b82:Wo (iD (.int i) (.int j)) Q↔Q (.sh (.bl (!decide (i=j)))):=a0i
theorem b81:Wo (uH a .bz) Q↔Q (.sh (.bl a.cL)):=a0i
theorem b6T:Wo (Jy a .bz) Q↔Q (.sh (.bl (!a.cL))):=a0i
theorem b8S:Wo (bN f env) Q↔Wo (f env) λr=>Wo (mV (some r)) Q:=by
 unfold bN
 cases f env with
 | none=>simp [mV,Wo]
 | some r=>rw [a0i]
theorem b9g:Wo (mV (some (.sh (.bl b)))) Q↔Q b:=a0i
theorem b6N:Wo (cC f env) Q↔Wo (f env) λr=>Wo (lT r.d) Q:=a0r
theorem b6M:Wo (lT (.bl b)) Q↔Q b:=a0i
theorem b6L:Wo (lT (.lst r ds)) Q↔Q (!ds.isEmpty):=a0i
theorem b4B:Wo (A3 f env) Q↔Wo (f env) λr=>Q (!r.2.isEmpty):=by
 unfold A3;rw [a0r];simp only [a0i]
theorem b6P:Wo (sV f g env) Q↔Wo (f env) λb=>(b=true->Wo (g env) Q)/\(b=false->Q false):=by
 unfold sV
 cases f env with
 | none=>simp [Wo]
 | some b=>cases b<;>simp [a0i]
theorem b8R:Wo (iy f g env) Q↔Wo (f env) λb=>(b=true->Q true)/\(b=false->Wo (g env) Q):=by
 unfold iy
 cases f env with
 | none=>simp [Wo]
 | some b=>cases b<;>simp [a0i]
theorem b6O:Wo (w9 f env) Q↔Wo (f env) λb=>Q (!b):=a3x
theorem b7d:Wo (ny f g env) Q↔Wo (f env) λr=>Wo (mV (some r)) λb=>(b=true->Wo (g env) Q)/\(b=false->Q (.sh (.bl false))):=by
 unfold ny
 cases f env with
 | none=>simp [Wo,mV]
 | some r =>
  rw [a0i]
  cases mV (some r) with
  | none=>simp [Wo]
  | some b=>cases b<;>simp [a0i]
theorem b69:Wo (o9 f env) Q↔Wo (f env) λr=>Wo (mV (some r)) λb=>Q (.sh (.bl !b)):=by
 unfold o9
 cases f env with
 | none=>simp [Wo,mV]
 | some r=>rw [a0i,a3x]
theorem b9c:Wo (gU c f g env) Q↔Wo (c env) λb=>(b=true->Wo (f env) Q)/\(b=false->Wo (g env) Q):=by
 unfold gU
 cases c env with
 | none=>simp [Wo]
 | some b=>cases b<;>simp [a0i]
theorem b7h:Wo (aa env) Q↔Q []:=a0i
theorem b4O:Wo (af f g env) Q↔Wo (f env) λr=>Wo (g env) λds=>Q (r.d::ds):=by
 unfold af;rw [a0r];simp only [a0r,a0i]
theorem b67:Wo (aP f env) Q↔Wo (f env) λds=>ds.length<=16777216/\Q (.sh (.tup ds)):=by
 unfold aP;rw [a0r];simp only [kD]
theorem b7a:Wo (bq f env) Q↔Wo (f env) λds=>ds.length<=16777216/\Q (.ow ds):=by
 unfold bq;rw [a0r];simp only [kD]
noncomputable def jC:Option Sl->(Bool×List D->Prop)->Prop
 | some (.sh (.tup ds)),Q=>Q (false,ds)
 | some (.sh (.lst _ ds)),Q=>Q (true,ds)
 | some (.ow ds),Q=>Q (true,ds)
 | _,_=>False
theorem b8N:jC (some (.sh (.tup ds))) Q↔Q (false,ds):=fE
theorem b8P:jC (some (.sh (.lst r ds))) Q↔Q (true,ds):=fE
theorem b8O:jC (some (.ow ds)) Q↔Q (true,ds):=fE
theorem Wo_bV:Wo (bV i env) Q↔jC env[i]? Q:=by
 unfold bV
 cases env[i]? with
 | none=>simp [vY,jC,Wo]
 | some s=>cases s with
  | no=>simp [vY,jC,Wo]
  | dw ds=>simp [vY,jC,Wo]
  | ow ds=>simp [vY,jC,Wo]
  | sh d=>cases d<;>simp [vY,jC,Wo,eO]
theorem b9e:Wo (gx f env) Q↔Wo (f env) λr=>Wo (eO r.d) Q:=a0r
theorem b8T:Wo (eO (.tup ds)) Q↔Q (false,ds):=a0i
theorem b8U:Wo (eO (.lst r ds)) Q↔Q (true,ds):=a0i
theorem b7b:Wo (aQ f env) Q↔Wo (f env) λx=>Q (.sh (.int x.2.length)):=a3x
theorem b2X:Wo (Bg f env) Q↔Wo (f env) λx=>x.1=true/\Q (.sh (.tup x.2)):=by
 unfold Bg;rw [a0r];simp only [kD]
def GP(xs:List D)(d:D)(Q:Sl->Prop):Prop:=match d with
 | .int i=>Wo (dF xs i) λd=>Q (.sh d)
 | _=>False
theorem ixQ_i:GP xs (.int i) Q↔Wo (dF xs i) λd=>Q (.sh d):=fE
theorem b9b:Wo (av f g env) Q↔Wo (f env) λx=>Wo (g env) λy=>GP x.2 y.d Q:=by
 unfold av
 rw [a0r]
 refine qd λx=>?_
 rw [a0r]
 refine qd λy=>?_
 unfold GP
 cases y.d<;>simp [a3x,a0u]
theorem du{α:Type}{xs:List α}{n:Nat}:dF xs (n:Int)=xs[n]?:=by
 unfold dF lZ
 rw [if_pos (by ext)]
 by_cases h:n<xs.length
 .rw [if_pos (by ext h)];simp
 .rw [if_neg (by ext h),List.getElem?_eq_none (by ext h)];rfl
theorem atI_0{α:Type}{x:α}{xs:List α}:dF (x::xs) 0=some x:=du (n:=0)
theorem atI_1{α:Type}{x y:α}{xs:List α}:dF (x::y::xs) 1=some y:=du (n:=1)
theorem atI_2{α:Type}{x y z:α}{xs:List α}:dF (x::y::z::xs) 2=some z:=du (n:=2)
theorem atI_3{α:Type}{x y z u:α}{xs:List α}:dF (x::y::z::u::xs) 3=some u:=du (n:=3)
theorem b4K:Wo (aA n φ fs env) Q↔Wo (fs env) λds=>ds.length=n/\Wo (φ ds) Q:=by
 unfold aA
 rw [a0r]
 have h:∀ds:List D,Wo (if ds.length=n then φ ds else none) Q↔ds.length=n/\Wo (φ ds) Q:=λds=>by
  by_cases h:ds.length=n<;>simp [h,a0u]
 simp only [h]
theorem b2Z:Wo (vm g fs env) Q↔Wo (fs env) λds=>Wo (g ds) Q:=a0r
theorem b4M:Wo (A1 [.int i,.int j]) Q↔Q (.sh (.int (min i j))):=by
 have:(if j<i then j else i)=min i j:=by simp only [Int.min_def];split<;>split<;>lia
 unfold A1;rw [a0i,this]
theorem b4N:Wo (xc [.int i,.int j]) Q↔Q (.sh (.int (max i j))):=by
 have:(if j>i then j else i)=max i j:=by simp only [Int.max_def];split<;>split<;>lia
 unfold xc;rw [a0i,this]
theorem b7c:Wo (qP T f env) Q↔Wo (f env) λr=>Wo (jr T r.d) Q:=a0r
theorem b33:Wo (jr T (.bz)) Q↔Q (.sh (.bl (iB T (.bz)))):=a0i
theorem b6l:Wo (jr T (.bl b)) Q↔Q (.sh (.bl (iB T (.bl b)))):=a0i
theorem b35:Wo (jr T (.int i)) Q↔Q (.sh (.bl (iB T (.int i)))):=a0i
theorem b32:Wo (jr T (.str x)) Q↔Q (.sh (.bl (iB T (.str x)))):=a0i
theorem b31:Wo (jr T (.tup ds)) Q↔Q (.sh (.bl (iB T (.tup ds)))):=a0i
theorem b34:Wo (jr T (.lst r ds)) Q↔Q (.sh (.bl (iB T (.lst r ds)))):=a0i
noncomputable def aG(Q:Sl->Prop):Fl×En->Prop
 | (.rt r,_)=>Q r
 | (.nx,_)=>Q (.sh .bz)
 | _=>False
theorem b6y:aG Q (.rt r,e)↔Q r:=fE
theorem bJ:Wo (aH F N ds) Q↔Wo (F (pF N ds)) (aG Q):=by
 unfold aH
 cases F (pF N ds) with
 | none=>simp [Wo]
 | some p =>
  obtain ⟨fl,e⟩:=p
  rw [a0i]
  cases fl<;>simp [a0i,a0u,aG]
theorem b88:Wo (eE f g F env) Q↔Wo (f env) λr=>Wo (eO r.d) λx=>Wo (forL g F x.2 env) Q:=by
 unfold eE;rw [a0r];simp only [a0r]
theorem b63:Wo (Ed h f g F env) Q↔Wo (f env) λds=>Wo (h ds) λis=>Wo (forL g F is env) Q:=by
 unfold Ed;rw [a0r];simp only [a0r]
theorem b6Q:Wo (qz [.int j]) Q↔R62 j/\Q (fx 0 j.toNat):=kD
noncomputable def vg(I:En->Prop)(Q:Fl×En->Prop):Fl×En->Prop
 | (.nx,e)=>I e
 | (.ct,e)=>I e
 | (.bk,e)=>Q (.nx,e)
 | (.rt r,e)=>Q (.rt r,e)
theorem b3e:vg I Q (.nx,e)↔I e:=fE
theorem b3f:vg I Q (.bk,e)↔Q (.nx,e):=fE
theorem mq{α:Type}(enc:α->D)(I:List α->En->Prop)(xs:List α)(turn:∀pre a post env,xs=pre++a::post->I pre env->Wo (g (enc a) env) λe=>Wo (F e) (vg (I (pre++[a])) Q))
  (done:∀env,I xs env->Q (.nx,env)):∀{env:En},I [] env->Wo (forL g F (xs.map enc) env) Q:=by
 have key:∀(post pre:List α) (env:En),xs=pre++post->I pre env->Wo (forL g F (post.map enc) env) Q:=by
  intro post
  induction post with
  | nil =>
   intro pre env e h
   rw [mQ] at e
   subst e
   exact ⟨_,rfl,done env h⟩
  | cons a post ih =>
   intro pre env e h
   obtain ⟨e1,h1,p,h2,h3⟩:=turn pre a post env e h
   rw [fo]
   unfold forL
   rw [h1]
   dsimp only
   rw [h2]
   obtain ⟨fl,e2⟩:=p
   cases fl with
   | nx=>exact ih (pre++[a]) e2 (by rw [e,fG];rfl) h3
   | ct=>exact ih (pre++[a]) e2 (by rw [e,fG];rfl) h3
   | bk=>exact ⟨_,rfl,h3⟩
   | rt r=>exact ⟨_,rfl,h3⟩
 exact λ{env} h=>key xs [] env rfl h
theorem b5H(lo:Int)(n:Nat)(I:Nat->En->Prop)(turn:∀(k:Nat) env,k<n->I k env->Wo (g (.int (lo+k)) env) λe=>Wo (F e) (vg (I (k+1)) Q))
  (done:∀env,I n env->Q (.nx,env))(h:I 0 env):Wo (forL g F (fx lo n) env) Q:=by
 unfold fx
 refine mq (λ(k:Nat)=>D.int (lo+(k:Int))) (λpre env=>I pre.length env) (ko n) (λpre a post env e h=>?_) (λenv h=>done env (by simpa using h)) h
 have hl:=congrArg mi e
 have ha:(ko n)[pre.length]?=some a:=by rw [e];simp
 simp at hl
 rw [List.getElem?_range (by ext hl)] at ha
 cases ha
 simpa using turn pre.length env (by ext hl) h
theorem Wo_gN:Wo (gN i d env) Q↔i<env.length/\Q (env.set i (.sh d)):=kD
theorem Wo_gT:Wo (gT n u (.tup ds) env) Q↔ds.length=n/\Wo (u ds env) Q:=by
 unfold gT
 by_cases h:ds.length=n<;>simp [h,a0u]
theorem b4E:Wo (rk [] env) Q↔Q env:=a0i
theorem b2V:Wo (ir g u (d::ds) env) Q↔Wo (g d env) λe=>Wo (u ds e) Q:=a0r
noncomputable def cp:Option Sl->(List D->Prop)->Prop
 | some (.ow ds),Q=>Q ds
 | _,_=>False
theorem b8Q:cp (some (.ow ds)) Q↔Q ds:=fE
theorem b9h:Wo (cF i f env) Q↔cp env[i]? λds=>Wo (f env) λr=>ds.length<16777216/\Q (.nx,env.set i (.ow (ds++[r.d]))):=by
 unfold cF
 cases env[i]? with
 | none=>simp [a0u,cp]
 | some s=>cases s with
  | no=>simp [a0u,cp]
  | dw d=>simp [a0u,cp]
  | sh d=>simp [a0u,cp]
  | ow ds=>dsimp only [cp];rw [a0r];simp only [kD]
def uJ(env:En)(i:Nat)(ds:List D)(d:D)(Q:Fl×En->Prop):Prop:=match d with
 | .lst false es=>ds.length+es.length<=16777216/\Q (.nx,env.set i (.ow (ds++es)))
 | _=>False
theorem b8u:uJ env i ds (.lst false es) Q↔ds.length+es.length<=16777216/\Q (.nx,env.set i (.ow (ds++es))):=fE
theorem b89:Wo (jY i f env) Q↔cp env[i]? λds=>Wo (f env) λr=>uJ env i ds r.d Q:=by
 unfold jY
 cases env[i]? with
 | none=>simp [a0u,cp]
 | some s=>cases s with
  | no=>simp [a0u,cp]
  | dw d=>simp [a0u,cp]
  | sh d=>simp [a0u,cp]
  | ow ds =>
   dsimp only [cp];rw [a0r]
   refine qd λr=>?_
   unfold uJ
   cases r.d with
   | lst ro es=>cases ro<;>simp [kD,a0u]
   | _=>simp [a0u]
theorem b8X:Wo (lU i j env) Q↔cp env[j]? λds=>Wo ds[ds.length-1]? λd=>(i<env.length/\i≠j)/\Q (.nx,(env.set j (.ow ds.dropLast)).set i (.sh d)):=by
 unfold lU
 cases env[j]? with
 | none=>simp [a0u,cp]
 | some s=>cases s with
  | no=>simp [a0u,cp]
  | dw d=>simp [a0u,cp]
  | sh d=>simp [a0u,cp]
  | ow ds=>dsimp only [cp];rw [a0r];simp only [kD]
def Jz(env:En)(i:Nat)(ds:List D)(d:D)(k:D)(Q:Fl×En->Prop):Prop:=match k with
 | .int n=>Wo (lZ ds.length n) λj=>Q (.nx,env.set i (.ow (ds.set j d)))
 | _=>False
theorem b6j:Jz env i ds d (.int n) Q↔Wo (lZ ds.length n) λj=>Q (.nx,env.set i (.ow (ds.set j d))):=fE
theorem b6U:Wo (w6 i f g env) Q↔cp env[i]? λds=>Wo (f env) λr=>Wo (g env) λk=>Jz env i ds r.d k.d Q:=by
 unfold w6
 cases env[i]? with
 | none=>simp [a0u,cp]
 | some s=>cases s with
  | no=>simp [a0u,cp]
  | dw d=>simp [a0u,cp]
  | sh d=>simp [a0u,cp]
  | ow ds =>
   dsimp only [cp];rw [a0r]
   refine qd λr=>?_
   rw [a0r]
   refine qd λk=>?_
   unfold Jz
   cases k.d<;>simp [a0r,a0i,a0u]
theorem JK:Wo (m9 i F env) Q↔Wo (F (o6 i env)) Q:=fE
theorem Jx(h:env[i]?=some (.ow ds)):o6 i env=env.set i (.sh (.lst false ds)):=by unfold o6;rw [h]
noncomputable def D3(env:En):Option Sl->(Fl×En->Prop)->Prop
 | some (.ow ds),Q=>Q (.rt (.ow ds),env)
 | some (.dw ds),Q=>Q (.rt (.dw ds),env)
 | some (.sh d),Q=>Q (.rt (.sh d),env)
 | _,_=>False
theorem b6K:D3 env (some (.ow ds)) Q↔Q (.rt (.ow ds),env):=fE
theorem b6R:Wo (nK i env) Q↔D3 env env[i]? Q:=by
 unfold nK
 cases env[i]? with
 | none=>simp [a0u,D3]
 | some s=>cases s<;>simp [a0u,a0i,D3]
theorem b8Z:Wo (eG env) Q↔Q none:=a0i
def pQ(d:D)(Q:Option Int->Prop):Prop:=match d with
 | .int i=>Q (some i)
 | _=>False
theorem pQ_i:pQ (.int i) Q↔Q (some i):=fE
theorem b8Y:Wo (dZ f env) Q↔Wo (f env) λr=>pQ r.d Q:=by
 unfold dZ
 rw [a0r]
 refine qd λr=>?_
 unfold pQ
 cases r.d<;>simp [a0i,a0u]
theorem b9a:Wo (ec f lo hi env) Q↔Wo (f env) λx=>Wo (lo env) λl=>Wo (hi env) λh =>
  (x.1=true->Q (.ow (cutD x.2 l h)))/\(x.1=false->¬(HT.bC x.2.length 0 l=0/\HT.bC x.2.length x.2.length h=x.2.length)/\Q (.sh (.tup (cutD x.2 l h)))):=by
 unfold ec
 rw [a0r]
 simp only [a0r]
 have h:∀(x:Bool×List D) (l h:Option Int),Wo (if x.1=true then some (Sl.ow (cutD x.2 l h)) else if ¬(HT.bC x.2.length 0 l=0/\HT.bC x.2.length x.2.length h=x.2.length) then some (.sh (.tup (cutD x.2 l h))) else none) Q ↔
   (x.1=true->Q (.ow (cutD x.2 l h)))/\(x.1=false->¬(HT.bC x.2.length 0 l=0/\HT.bC x.2.length x.2.length h=x.2.length)/\Q (.sh (.tup (cutD x.2 l h)))):=λx l h=>by
  obtain ⟨k,ds⟩:=x
  cases k
  .simp only [uY,if_false,kD];simp
  .simp [a0i]
 simp only [h]
theorem Sl_sh:Sl.d (.sh d)=d:=rfl
theorem Sl_ow:Sl.d (.ow ds)=.lst false ds:=rfl
theorem b4H:Wo (bj (.lst false a) (.lst false b)) Q↔a.length+b.length<=16777216/\Q (.ow (a++b)):=kD
theorem a9G:iB "int" (.int i)=true:=rfl
theorem a8Y:iB "bool" (.int i)=false:=rfl
theorem tD{α β:Type}{f:α->β}{xs:List α}{i:Int}(z:α)(h0:0<=i)(h:i<xs.length):dF (xs.map f) i=some (f (xs.getD i.toNat z)):=by
 unfold dF lZ
 rw [aX,if_pos h0,if_pos h]
 have:i.toNat<xs.length:=by ext h0 h
 simp [this]
theorem a9V:Wo (forL g F [] env) Q↔Q (.nx,env):=a0i
theorem a9e:Wo (forL g F (d::ds) env) Q↔Wo (g d env) λe=>Wo (F e) (vg (λe=>Wo (forL g F ds e) Q) Q):=by
 rw [forL]
 cases g d env with
 | none=>simp [a0u]
 | some e =>
  rw [a0i]
  dsimp only
  cases F e with
  | none=>simp [a0u]
  | some p =>
   obtain ⟨fl,e2⟩:=p
   rw [a0i]
   cases fl<;>simp [vg,a0i]
theorem b2l:D.cL .bz=true:=rfl
theorem b36:D.cL (.bl b)=false:=rfl
theorem b2n:D.cL (.int i)=false:=rfl
theorem b2k:D.cL (.str x)=false:=rfl
theorem b2j:D.cL (.tup ds)=false:=rfl
theorem b2m:D.cL (.lst r ds)=false:=rfl
theorem Kk(xs:List Int){i:Int}(h0:0<=i)(h1:i<xs.length)(h:∀v∈xs,Q (.int v))(e:ds=xs.map D.int:=by rfl):Wo (dF ds i) Q:=by
 have hi:i.toNat<xs.length:=by ext h0 h1
 rw [e,tD 0 h0 h1,a0i,show xs.getD i.toNat 0=xs[i.toNat] by simp [hi]]
 exact h _ (nD hi)
theorem b7e:Wo (il fi caps nt g fc fe env) Q↔Wo (fi env) λds=>Wo (iG caps env) λcs=>ds.length<=16777216/\Wo (ot g fc fe ds (iU nt Sl.no++cs)) λrs=>Q (.ow rs):=by
 unfold il
 rw [a0r]
 refine qd λds=>?_
 rw [a0r]
 refine qd λcs=>?_
 by_cases h:ds.length<=16777216
 .rw [if_pos h,a3x];exact ⟨λz=>⟨h,z⟩,λz=>z.2⟩
 .rw [if_neg h,a0u];exact ⟨jR,λz=>h z.1⟩
theorem b7g:Wo (iG [] env) Q↔Q []:=a0i
theorem b7f:Wo (iG (i::is) env) Q↔kr env[i]? λs=>Wo (iG is env) λcs=>Q (s::cs):=by
 rw [iG]
 cases h:env[i]? with
 | none=>simp [a0u,kr]
 | some s=>cases s<;>simp [a0u,kr,a3x]
theorem rep0{l:En}:iU 0 Sl.no++l=l:=rfl
theorem rep1{l:En}:iU 1 Sl.no++l=Sl.no::l:=rfl
theorem rep2{l:En}:iU 2 Sl.no++l=Sl.no::Sl.no::l:=rfl
theorem rep3{l:En}:iU 3 Sl.no++l=Sl.no::Sl.no::Sl.no::l:=rfl
theorem rep4{l:En}:iU 4 Sl.no++l=Sl.no::Sl.no::Sl.no::Sl.no::l:=rfl
theorem b4A:Wo (nL env) Q↔Q true:=a0i
theorem b4L:Wo (ot g fc fe [] e) Q↔Q []:=a0i
theorem b65:Wo (fW f env) Q↔Wo (f env) λr=>Wo (eO r.d) λx=>Q x.2:=by
 unfold fW;rw [a0r];simp only [a3x]
theorem b66:Wo (kf h f env) Q↔Wo (f env) λds=>Wo (h ds) Q:=a0r
theorem b64:Wo (Ec f g F env) Q↔Wo (f env) λds=>Wo (forL g F ds env) Q:=a0r
theorem pG{α:Type}(enc:α->D)(f:α->D)(P:En->Prop)(xs:List α)
  (h:∀a∈xs,∀e,P e->Wo (g (enc a) e) λe1=>P e1/\Wo (fc e1) λb=>b=true/\Wo (fe e1) λr=>r.d=f a):∀{e:En},P e->ot g fc fe (xs.map enc) e=some (xs.map f):=by
 induction xs with
 | nil=>intro e _;rfl
 | cons a xs ih =>
  intro e he
  obtain ⟨e1,g1,p1,b,c1,rfl,r,f1,f2⟩:=h a aR e he
  rw [fo,ot,g1,oh,c1,oh,if_pos rfl,f1,oh,ih (λb hb=>h b (a9 _ hb)) p1,f2]
  rfl
theorem a9N{α:Type}(enc:α->D)(p:α->Bool)(f:α->D)(P:En->Prop)(xs:List α)
  (h:∀a∈xs,∀e,P e->Wo (g (enc a) e) λe1=>P e1/\Wo (fc e1) λb=>b=p a/\(p a=true->Wo (fe e1) λr=>r.d=f a)):∀{e:En},P e->ot g fc fe (xs.map enc) e=some ((xs.filter p).map f):=by
 induction xs with
 | nil=>intro e _;rfl
 | cons a xs ih =>
  intro e he
  obtain ⟨e1,g1,p1,b,c1,rfl,k⟩:=h a aR e he
  have Nc:=ih (λb hb=>h b (a9 _ hb)) p1
  rw [fo,ot,g1,oh,c1,oh]
  cases hp:p a with
  | true =>
   obtain ⟨r,f1,f2⟩:=k hp
   rw [if_pos rfl,f1,oh,Nc,f2,List.filter_cons_of_pos hp]
   rfl
  | false=>rw [if_neg nJ,Nc,List.filter_cons_of_neg (by simp [hp])]
theorem b68:Wo (o8 f env) Q↔Wo (f env) λx=>Wo (rj x.2) λns=>Q (.sh (.int ns.sum)):=by
 unfold o8;rw [a0r];simp only [a3x]
theorem b6V:Wo (rj (ns.map D.int)) Q↔Q ns:=by rw [K6,a0i]
theorem KG{α:Type}[DecidableEq α]{n:Nat}{enc:α->D}(h:∀x y,bg n (enc x) (enc y)=some (decide (x=y))):∀(xs ys:List α),∃bs,eW (kn (bg n) (xs.map enc) (ys.map enc))=some bs/\(bs.all id&&decide (xs.length=ys.length))=decide (xs=ys)
 | [],[]=>⟨[],rfl,rfl⟩
 | [],y::ys=>⟨[],rfl,by simp⟩
 | x::xs,[]=>⟨[],rfl,by simp⟩
 | x::xs,y::ys=>by
  obtain ⟨bs,e,k⟩:=KG h xs ys
  refine ⟨decide (x=y)::bs,?_,?_⟩
  .simp only [fo,Oh,h,eW,e,wQ]
  .rw [List.all_cons,Bool.and_assoc]
   have:decide ((x::xs).length=(y::ys).length)=decide (xs.length=ys.length):=by simp
   rw [this,k]
   simp only [id,List.cons.injEq,Bool.decide_and]
theorem P'{α:Type}[DecidableEq α]{n:Nat}{enc:α->D}(h:∀x y,bg n (enc x) (enc y)=some (decide (x=y)))(xs ys:List α):bg (n+1) (.tup (xs.map enc)) (.tup (ys.map enc))=some (decide (xs=ys)):=by
 obtain ⟨bs,e,k⟩:=KG h xs ys
 show (eW (kn (bg n) (xs.map enc) (ys.map enc))).map (λbs=>bs.all id&&decide ((xs.map enc).length=(ys.map enc).length))=_
 simp only [e,wQ,aX,k]
theorem b6v{α:Type}[DecidableEq α]{n:Nat}{enc:α->D}(h:∀x y,bg n (enc x) (enc y)=some (decide (x=y)))(xs ys:List α){r r':Bool}:bg (n+1) (.lst r (xs.map enc)) (.lst r' (ys.map enc))=some (decide (xs=ys)):=by
 obtain ⟨bs,e,k⟩:=KG h xs ys
 show (if (xs.map enc).length=(ys.map enc).length then (eW (kn (bg n) (xs.map enc) (ys.map enc))).map λbs=>bs.all id else some false)=_
 simp only [aX]
 by_cases hl:xs.length=ys.length
 .rw [if_pos hl,e,<-k];simp [hl]
 .rw [if_neg hl]
  have:xs≠ys:=λz=>hl (by rw [z])
  simp [this]
theorem EE(P:D->Prop)(hi:i<env.length)
  (hc:Wo (c env) λb=>(b=true->Wo (f env) λr=>P r.d)/\(b=false->∃d,env[i]?=some (.sh d)/\P d))(h:∀d,P d->Q (.nx,env.set i (.sh d))):Wo (bS c (aY i f) cE env) Q:=by
 rw [a3e]
 refine hc.mono λb hb=>⟨λe=>?_,λe=>?_⟩
 .rw [b2T]
  exact (hb.1 e).mono λr hr=>⟨hi,h _ hr⟩
 .obtain ⟨d,e1,e2⟩:=hb.2 e
  rw [b6S]
  have:=h d e2
  rwa [show env.set i (.sh d)=env by
   obtain ⟨h1,h2⟩:=lC.mp e1
   rw [<-h2,List.set_getElem_self]] at this
theorem dW{α:Type}{xs:List α}{x:α}:dF (xs++[x]) (-1)=some x:=by
 unfold dF lZ
 rw [if_neg (by decide),if_pos (by rw [cO,AU];ext),cO,AU]
 have:(-1+((xs.length+1:Nat):Int)).toNat=xs.length:=by ext
 rw [this]
 simp
theorem Bz(I:Nat->En->Prop)(turn:∀n env,I n env->Wo (c env) λb=>(b=true->Wo (F env) (vg (λe=>∃m,m<n/\I m e) Q))/\(b=false->Q (.nx,env))):
  ∀(fuel n:Nat) {env:En},n<fuel->I n env->Wo (qq c F fuel env) Q
 | 0,n,env,h,_=>absurd h (Nat.not_lt_zero _)
 | fuel+1,n,env,h,hI=>by
  obtain ⟨b,e1,h1,h2⟩:=turn n env hI
  rw [qq,e1]
  cases b with
  | false=>exact ⟨_,rfl,h2 rfl⟩
  | true =>
   obtain ⟨⟨fl,e2⟩,e3,h3⟩:=h1 rfl
   dsimp only
   rw [e3]
   cases fl with
   | nx=>obtain ⟨m,hm,HJ⟩:=h3;exact Bz I turn fuel m (by ext h hm) HJ
   | ct=>obtain ⟨m,hm,HJ⟩:=h3;exact Bz I turn fuel m (by ext h hm) HJ
   | bk=>exact ⟨_,rfl,h3⟩
   | rt r=>exact ⟨_,rfl,h3⟩
theorem KE:Wo (Be m c F env) Q↔Wo (qq c F (m env) env) Q:=fE
noncomputable def jz{α:Type}(xs:List α)(lo hi:Option Int):List α:=(xs.drop (HT.bC xs.length 0 lo)).take (HT.bC xs.length xs.length hi-HT.bC xs.length 0 lo)
theorem Bm{α:Type}{f:α->D}(xs:List α)(lo hi:Option Int):cutD (xs.map f) lo hi=(jz xs lo hi).map f:=by
 unfold cutD jz
 rw [aX,<-List.map_drop,<-List.map_take]
theorem b4r{α:Type}(xs:List α)(lo hi:Option Int):(jz xs lo hi).length<=xs.length:=by
 unfold jz
 rw [gz,lD]
 ext
theorem b4C:Wo (D9 [.int j]) Q↔Q (fx 0 j.toNat):=a0i
theorem b4z:Wo (qp [.lst r a,.lst r' b]) Q↔Q (lQ a b):=a0i
def A8(i:Nat)(env:En)(a b:Sl)(Q:Fl×En->Prop):Prop:=match a,b with
 | .sh (.int m),.sh (.int n)=>Q (.nx,env.set i (.sh (.int (m+n))))
 | _,_=>False
theorem b8M:A8 i env (.sh (.int m)) (.sh (.int n)) Q↔Q (.nx,env.set i (.sh (.int (m+n)))):=fE
theorem b9f:Wo (iA i f env) Q↔kr env[i]? λa=>Wo (f env) λr=>A8 i env a r Q:=by
 constructor
 .rintro ⟨y,e,h⟩
  obtain ⟨m,n,e1,e2,rfl⟩:=Rp e
  rw [e1];exact ⟨_,e2,h⟩
 .intro h
  cases hi:env[i]? with
  | none=>rw [hi] at h;exact h.elim
  | some s =>
   rw [hi] at h
   cases s with
   | no=>exact h.elim
   | ow ds=>exact h.elim
   | dw ds=>exact h.elim
   | sh d =>
    obtain ⟨r,e1,h⟩:=h
    cases d with
    | int m =>
     cases r with
     | sh d2 =>
      cases d2 with
      | int n=>exact ⟨_,by unfold iA;rw [hi,e1],h⟩
      | _=>exact h.elim
     | _=>exact h.elim
    | _=>exact h.elim
theorem b4I:Wo (xg [.tup ds]) Q↔Q (pD ds):=a0i
theorem b4J:Wo (xg [.lst r ds]) Q↔Q (pD ds):=a0i
def F8(d:D)(Q:Sl->Prop):Prop:=match d with
 | .lst _ ds=>Wo (sortI ds) λrs=>Q (.ow rs)
 | _=>False
theorem siQ_l:F8 (.lst r ds) Q↔Wo (sortI ds) λrs=>Q (.ow rs):=fE
theorem a9W:Wo (Bn f env) Q↔Wo (f env) λr=>F8 r.d Q:=by
 unfold Bn
 rw [a0r]
 refine qd λr=>?_
 cases r.d<;>simp [F8,a0u,a3x]
def F7(d:D)(Q:Sl->Prop):Prop:=match d with
 | .lst _ ds=>Wo (w8 ds) λrs=>Q (.ow rs)
 | _=>False
theorem srQ_l:F7 (.lst r ds) Q↔Wo (w8 ds) λrs=>Q (.ow rs):=fE
theorem b1a:Wo (ER f env) Q↔Wo (f env) λr=>F7 r.d Q:=by
 unfold ER
 rw [a0r]
 refine qd λr=>?_
 cases r.d<;>simp [F7,a0u,a3x]
end DL
namespace DL
theorem sX(h1:-A<=a)(h2:a<=A)(h3:-B<=b)(h4:b<=B):-(A*B)<=a*b/\a*b<=A*B:=by
 have hA:0<=A:=by ext h1 h2
 have hB:0<=B:=by ext h3 h4
 have e1:(A-a)*(B+b)=A*B+A*b-a*B-a*b:=by grind
 have e2:(A+a)*(B-b)=A*B-A*b+a*B-a*b:=by grind
 have e3:(A-a)*(B-b)=A*B-A*b-a*B+a*b:=by grind
 have e4:(A+a)*(B+b)=A*B+A*b+a*B+a*b:=by grind
 have f1:=oq (show 0<=A-a by ext h2) (show 0<=B+b by ext h3)
 have f2:=oq (show 0<=A+a by ext h1) (show 0<=B-b by ext h4)
 have f3:=oq (show 0<=A-a by ext h2) (show 0<=B-b by ext h4)
 have f4:=oq (show 0<=A+a by ext h1) (show 0<=B+b by ext h3)
 ext e1 e2 e3 e4 f1 f2 f3 f4
theorem tB(h:-(10^250)<=i)(h2:i<=10^250)(h3:-(10^250)<=j)(h4:j<=10^250):MulC i j:=.inr (.inr ⟨⟨h,h2⟩,h3,h4⟩)
theorem Kp(h:0<j)(h2:j<=10^250):DivC i j:=⟨h,h2⟩
theorem QF{a b:Int}(hb:0<b):a/b*b<=a/\a<(a/b+1)*b:=by
 have h1:=Int.emod_add_mul_ediv a b
 have h2:=px a (Int.ne_of_gt hb)
 have h3:=pf a hb
 generalize a/b=q at *
 exact ⟨by grind,by grind⟩
end DL
namespace DL
open PySem PySem.Spec PyProof.Rows L2
section
variable {P:Program}{w:World}{K:aM}{mg:Str->Option Value}{base:Heap}{N:List Str}{qual:Str}{scope:Scope}{f:Addr}{cd:Value}{A:Around}{outer:List Env}{s:Shared}{H:Hp}{E:XK}
end
end DL
namespace DL
open PySem PySem.Spec PyProof.Rows L2
section
variable {X:Cx}{W:L2.St->Hp->Value->Prop}{e a b c:Expr}{es:List Expr}{st:Stmt}{rest sa sb:List Stmt}{F G:SF}{r r':RF}{re:En->Option Str}{fa:En->Option Sl}{ga:En->Option Bool}{fs:En->Option (List D)}{pos p aZ np:Pos}
noncomputable def Et:SF:=λ_=>none
theorem Q9:SV X st Et:=⟨λ_ _ _=>False,λ_ _ _ _ _ _ h=>h.elim,λ_ _ _ _ _ _ _ _ _ e _=>by cases e⟩
end
section
variable {X:Cx}{W:L2.St->Hp->Value->Prop}{e:Expr}{es:List Expr}{fs:En->Option (List D)}{pos p aZ np:Pos}{x:Str}{C:Addr}
end
section
variable {P:Program}{w:World}{K:aM}{mg:Str->Option Value}{base:Heap}
end
end DL
namespace DL
open PySem PySem.Spec PyProof.Rows L2
section
variable {X:Cx}{pins:List (Addr×Obj)}{σ:L2.St}{H:Hp}{s:Shared}{h':Heap}
end
end DL
namespace DL
open PySem PySem.Spec PyProof.Rows L2
section
variable {X:Cx}{N:List Str}{sc:Scope}{k i:Nat}{n Cn:Str}{hc:Value}{body MQ:List Stmt}{b0:Stmt}{Fb Fh:SF}{rb:RF}{hit:Str->Bool}{np iC pos:Pos}
end
end DL
namespace DL
open PySem PySem.W PySem.Spec PySem.Calls PyProof.Rows L2 PySem.Builtin.ObjectAttr PySem.Builtin PySem.Builtin.Getset_descriptor
section
variable {prog:Program}{w:World}{A:Around}{E:Value->Shared->Prop}{s:Shared}{K:Frag}{x C:Addr}
end
section
variable {X:Cx}{a:Expr}{pos p p2:Pos}{fa:En->Option Sl}
end
section
variable {X:Cx}{N:List Str}{sc:Scope}{pos p p1 p2 pos' aZ:Pos}{e a b:Expr}{fa fb:En->Option Sl}
end
theorem b2U:Wo (Et env) Q↔False:=a0u
end DL
namespace DL
open PySem PySem.Spec PyProof.Rows L2
theorem b6t{P:Program}{w:World}{K:aM}{mg:Str->Option Value}{base:Heap}{k n:Nat}{f:Addr}{fd:FuncData}{ps:List Str}{φ:List D->Option Sl}(h:∀ds r,φ ds=some r->False):cH P w K mg base jc k f fd ps (m7 K n φ):=
 ⟨λvs H Q E q=>by obtain ⟨O,ds,r,_,_,_,e,_⟩:=q;exact (h ds r e).elim,λA outer s H args us vs Q E _ _ _ _ q=>by obtain ⟨O,ds,r,_,_,_,e,_⟩:=q;exact (h ds r e).elim⟩
section
variable {X:Cx}{W:L2.St->Hp->Value->Prop}{it tg:Expr}{re:En->Option Str}{pos:Pos}
noncomputable def D8:D->D->Option Sl
 | .bl a,.bl b=>some (.sh (.bl (decide (a≠b))))
 | _,_=>none
theorem b51:gu X (compareOp .IsNot) (λx y H Q=>∃a b,x=.bl a/\y=.bl b/\Q (.bl (decide (a≠b))) H):=by
 intro pins s σ H x y v u Q I rx ry h
 obtain ⟨a,b,rfl,rfl,q⟩:=h
 cases rx
 cases ry
 cases a<;>cases b<;>exact bI ⟨.bl _,H,I,rfl,q⟩
theorem b59:iZ X (compareOp .IsNot) D8:=by
 refine ⟨_,b51,λO H x y a b s Q hO hx hy e q=>?_⟩
 unfold D8 at e
 split at e
 .cases e
  exact ⟨_,_,vi hx,vi hy,q _ H (au.refl _) (Is.bl _)⟩
 .cases e
end
theorem b5Y{P:Program}{w:World}{K:aM}{mg:Str->Option Value}{base:Heap}{x:Str}{st:Stmt}{ps:List Str}{j:Nat}{f:Addr}{fd:FuncData}(D':Def K mg x st ps f fd):Oz P w K mg base x st ps j λ_=>none:=⟨f,fd,D',b6t λ_ _ z=>nomatch z⟩
end DL
namespace DL
open PySem PySem.Spec PyProof.Rows L2
section
variable {prog:Program}{w:World}{A:Around}{R:Result->Shared->Prop}{I:Addr}{fp wr:List Addr}{n:Nat}{P:Nat->Value->Prop}{St:Nat->Heap->Prop}
end
section
variable {X:Cx}{a b:Expr}{ba:En->Option (Bool×List D)}{fa fb:En->Option Sl}{p pos:Pos}{W:L2.St->Hp->Value->Prop}{re:En->Option Str}
end
theorem b4F:Wo (D8 (.bl a) (.bl b)) Q↔Q (.sh (.bl (decide (a≠b)))):=a0i
end DL
namespace DL
open PySem PySem.Spec PyProof.Rows L2
section
variable {X X':Cx}
def MM(mg:Str->Option Value)(x:Str)(n:Int):Prop:=∃t,mg x=some (.int n t)
theorem b4g(hg:Gl X x)(hm:MM X.mg x n)(hd:(x==("__debug__":Str))=false:=by decide):EV X (.Name x pos) (eC (.int n)):=by
 obtain ⟨t,hm⟩:=hm
 refine ⟨_,b5U (v:=.int n) hg hm ⟨t,rfl⟩ hd,λO B σ H env s Q R e q=>?_⟩
 cases e
 exact q _ H (au.refl _) (Is.int _)
end
section
variable {X:Cx}{N:List Str}{sc:Scope}{k:Nat}{full:Bool}{pos pos':Pos}{e:Expr}{fa:En->Option Sl}
noncomputable def Ea(C:Int->Int->Prop)[∀i j,Decidable (C i j)](g:Int->Int->Int)(i:Nat)(f:En->Option Sl):SF:=λenv=>match env[i]? with
 | some (.sh (.int m))=>match f env with
  | some (.sh (.int n))=>if C m n then some (.nx,env.set i (.sh (.int (g m n)))) else none
  | _=>none
 | _=>none
theorem b0M{C:Int->Int->Prop}[∀i j,Decidable (C i j)]{g:Int->Int->Int}{i:Nat}{f:En->Option Sl}{env:En}{y:Fl×En}(h:Ea C g i f env=some y):∃m n,env[i]?=some (.sh (.int m))/\f env=some (.sh (.int n))/\C m n/\y=(.nx,env.set i (.sh (.int (g m n)))):=by
 unfold Ea at h
 split at h
 .rename_i m e1
  split at h
  .rename_i n e2
   obtain ⟨hc,h⟩:=iu h
   exact ⟨m,n,e1,e2,hc,h.symm⟩
  .cases h
 .cases h
noncomputable instance (i j:Int):Decidable (kX i j):=by unfold kX;infer_instance
noncomputable def Eb:Nat->(En->Option Sl)->SF:=Ea kX λi j=>i*j
theorem Xz:MG X .Mult (λx y H Q=>∃i j,x=.int i/\y=.int j/\kX i j/\Q (.int (i*j)) H):=λpins s σ H x y v u Q I r1 r2 h=>b6m pins s σ H x y v u Q I r1 r2 h
theorem Fx.J5(h:Fx X N sc k full)(i:Nat)(he:EV X e fa)(hN:N[i]?=some x:=by rfl)(hv:Loc sc x:=by first | exact cX rfl | exact bP rfl)
  (hf:full=true\/sc.names.lookup x=some .local:=by first | exact cX rfl | exact bP rfl):SV X (.AugAssign (.Name x pos') .Mult e pos) (Eb i fa):=by
 obtain ⟨t,p,kk⟩:=he
 refine ⟨_,PD h.ua (h.ix hN) (h.loc hv) p Xz (h.tT hf),λO B σ H env fl ak D R e q=>?_⟩
 obtain ⟨m,n,hi,e1,hc,e2⟩:=b0M e
 cases e2
 obtain ⟨v,e3,hv⟩:=R.sh i _ hi
 obtain rfl:=iI hv
 refine ⟨_,e3,kk O B σ H env _ _ R e1 λv H1 s1 r1=>?_⟩
 obtain rfl:=iI r1
 refine ⟨m,n,rfl,rfl,hc,?_⟩
 obtain ⟨R',g'⟩:=R.set (v:=.int (m*n)) (r:=.sh (.int (m*n))) s1 (Is.int (m*n)) (lC.mp hi).1
 exact q _ H1 R' g'
end
end DL
namespace TS
open PySem PyProof.Rows
section
variable {prog:Program}{w:World}{A:Around}{E:Value->Shared->Prop}{s:Shared}
end
end TS
namespace KS
open PySem PySem.W PyProof.Rows
noncomputable def go{α:Type}(cmp:Nat->Nat->Bool):KasT α->α
 | .ret a=>a
 | .ask i j k=>go cmp (k (cmp i j))
theorem xo{α β:Type}(cmp:Nat->Nat->Bool)(f:α->KasT β):∀t:KasT α,go cmp (t.bind f)=go cmp (f (go cmp t))
 | .ret a=>rfl
 | .ask i j k=>xo cmp f (k (cmp i j))
section
variable (K:Nat->Int)
noncomputable def kI(p:Array Nat)(i:Nat):Int:=K (p.getD i 0)
def rQ(p:Array Nat)(k:Nat):Prop:=∀i j,i<=j->j<k->kI K p i<=kI K p j
def Cj(p:Array Nat)(k:Nat):Prop:=∀i j,i<=j->j<k->kI K p j<=kI K p i
noncomputable abbrev eR(i j:Nat):Bool:=decide (K i<K j)
variable {K}
theorem AZ(h:p[i]?=q[j]?):kI K p i=kI K q j:=by
 unfold kI
 rw [OP,OP,h]
theorem JJ(hj:j<=p.size)(k:Nat):kI K (mirror p i j ((j-i)/2)) k=if i<=k/\k<j then kI K p (i+j-1-k) else kI K p k:=by
 have e:=I0 (i:=i) hj k
 by_cases h1:i<=k/\k<j
 .rw [if_pos h1] at e ⊢;exact AZ e
 .rw [if_neg h1] at e ⊢;exact AZ e
theorem Bh(hj:j<=p.size)(he:∀k,i<=k->k<j->kI K p k=kI K p (j-1))(k:Nat):kI K (mirror p i j ((j-i)/2)) k=kI K p k:=by
 rw [JJ hj]
 split
 .rw [he _ (by omega) (by omega),he k (by omega) (by omega)]
 .rfl
theorem bD:∀(f n:Nat),1<=n->rQ K p n->∃m,go (eR K) (kas_asc p f n)=m/\n<=m/\m<=n+f/\rQ K p m/\(m=n+f\/kI K p m<kI K p (m-1))
 | 0,n,_,hs=>⟨n,rfl,by ext,by ext,hs,.inl rfl⟩
 | f+1,n,hn,hs=>by
  unfold kas_asc
  show ∃m,go (eR K) (if decide (kI K p n<kI K p (n-1))=true then .ret n else kas_asc p f (n+1))=m/\_
  by_cases c:kI K p n<kI K p (n-1)
  .rw [if_pos (decide_eq_true c)]
   exact ⟨n,rfl,by ext,by ext,hs,.inr c⟩
  .rw [if_neg (by simpa using c)]
   obtain ⟨m,e,m1,m2,m3,m4⟩:=bD f (n+1) (by ext) λi j cw hj=>by
    by_cases d:j<n
    .exact hs i j cw d
    .obtain rfl:j=n:=by ext hj d
     by_cases d2:i=j
     .subst d2;exact aW _
     .have:=hs i (j-1) (by ext cw d2) (by ext hn);ext c this
   exact ⟨m,e,by ext m1,by ext m2,m3,m4.elim (λz=>.inl (by ext z)) .inr⟩
theorem desc:∀(f:Nat) (p:Array Nat) (n q:Nat),1<=n->n+f<=p.size->Cj K p n->q+1<=n->(∀i,n-(q+1)<=i->i<n->kI K p i=kI K p (n-1)) ->
  ∃p' m q',go (eR K) (sJ f p n q)=(p',m,q')/\p'.Perm p/\n<=m/\m<=n+f/\Cj K p' m/\q'+1<=m/\∀i,m-(q'+1)<=i->i<m->kI K p' i=kI K p' (m-1)
 | 0,p,n,q,_,_,hs,hq,he=>⟨p,n,q,rfl,sU _,by ext,by ext,hs,hq,he⟩
 | f+1,p,n,q,hn,hz,hs,hq,he=>by
  have next:∀p':Array Nat,(∀k,kI K p' k=kI K p k)->kI K p n<=kI K p (n-1)->Cj K p' (n+1):=λp' hk hl i j cw hj=>by
   rw [hk,hk]
   by_cases d:j<n
   .exact hs i j cw d
   .obtain rfl:j=n:=by ext hj d
    by_cases d2:i=j
    .subst d2;exact aW _
    .have:=hs i (j-1) (by ext cw d2) (by ext hn);ext hl this
  unfold sJ
  show ∃p' m q',go (eR K) (if decide (kI K p n<kI K p (n-1))=true then (if q>0 then sJ f (mO p (n-(q+1)) n) (n+1) 0 else sJ f p (n+1) 0) else .ask (p.getD (n-1) 0) (p.getD n 0) λd=>if d=true then .ret (p,n,q) else sJ f p (n+1) (q+1))=(p',m,q')/\_
  by_cases c:kI K p n<kI K p (n-1)
  .rw [if_pos (decide_eq_true c)]
   by_cases cq:q>0
   .rw [if_pos cq]
    obtain ⟨p',m,q',e,k1,k2,k3,k4,k5,k6⟩:=desc f (mO p (n-(q+1)) n) (n+1) 0 (by ext) (by unfold mO;rw [Dl];ext hz) (next _ (Bh (by ext hz) he) (by ext c)) (by ext) λi h1 h2=>by congr 1;ext h1 h2
    exact ⟨p',m,q',e,k1.trans (qU _ _ _ _),by ext k2,by ext k3,k4,k5,k6⟩
   .rw [if_neg cq]
    obtain ⟨p',m,q',e,k1,k2,k3,k4,k5,k6⟩:=desc f p (n+1) 0 (by ext) (by ext hz) (next _ (λ_=>rfl) (by ext c)) (by ext) λi h1 h2=>by congr 1;ext h1 h2
    exact ⟨p',m,q',e,k1,by ext k2,by ext k3,k4,k5,k6⟩
  .rw [if_neg (by simpa using c)]
   show ∃p' m q',go (eR K) (if decide (kI K p (n-1)<kI K p n)=true then .ret (p,n,q) else sJ f p (n+1) (q+1))=(p',m,q')/\_
   by_cases c2:kI K p (n-1)<kI K p n
   .rw [if_pos (decide_eq_true c2)]
    exact ⟨p,n,q,rfl,sU _,by ext,by ext,hs,hq,he⟩
   .rw [if_neg (by simpa using c2)]
    have heq:kI K p n=kI K p (n-1):=by ext c c2
    obtain ⟨p',m,q',e,k1,k2,k3,k4,k5,k6⟩:=desc f p (n+1) (q+1) (by ext) (by ext hz) (next _ (λ_=>rfl) (by ext c2)) (by ext hq) λi h1 h2=>by
     rw [show n+1-1=n by ext]
     by_cases d:i=n
     .subst d;rfl
     .rw [heq];exact he i (by ext h1) (by ext h2 d)
    exact ⟨p',m,q',e,k1,by ext k2,by ext k3,k4,k5,k6⟩
theorem PN(h1:1<=n)(hn:n<=nrem)(hz:nrem<=p.size)(hs:Cj K p n):∃m p',go (eR K) (kas_tail3 n nrem p)=(m,p')/\p'.Perm p/\1<=m/\m<=nrem/\rQ K p' m:=by
 unfold kas_tail3
 rw [xo]
 obtain ⟨m,e,m1,m2,m3,_⟩:=bD (K:=K) (p:=mO p 0 n) (nrem-n) n h1 λi j cw hj=>by
  unfold mO
  rw [JJ (by ext hn hz),JJ (by ext hn hz),if_pos (by ext cw hj),if_pos (by ext hj)]
  exact hs _ _ (by ext cw) (by ext hj)
 rw [e]
 exact ⟨m,_,rfl,qU _ _ _ _,by ext h1 m1,by ext hn m2,m3⟩
theorem O2(hn:n+1<=nrem)(hz:nrem<=p.size)(hs:Cj K p (n+1)):∃m p',go (eR K) (AK n nrem p)=(m,p')/\p'.Perm p/\1<=m/\m<=nrem/\rQ K p' m:=by
 unfold AK
 rw [xo]
 obtain ⟨p',m,q',e,k1,k2,k3,k4,k5,k6⟩:=desc (K:=K) (nrem-(n+1)) p (n+1) 0 (by ext) (by ext hn hz) hs (by ext) λi h1 h2=>by congr 1;ext h1 h2
 have v9:p'.size=p.size:=k1.size_eq
 rw [e]
 dsimp only
 by_cases c:q'>0
 .rw [if_pos c]
  obtain ⟨a,b,e2,j1,j2,j3,j4⟩:=PN (K:=K) (p:=mO p' (m-(q'+1)) m) (n:=m) (nrem:=nrem) (by ext k5) (by ext hn k3) (by unfold mO;rw [Dl];ext hz v9) λi j cw hj=>by
   unfold mO
   rw [Bh (by ext hn hz k3 v9) k6,Bh (by ext hn hz k3 v9) k6]
   exact k4 i j cw hj
  exact ⟨a,b,e2,j1.trans ((qU _ _ _ _).trans k1),j2,j3,j4⟩
 .rw [if_neg c]
  obtain ⟨a,b,e2,j1,j2,j3,j4⟩:=PN (K:=K) (p:=p') (n:=m) (nrem:=nrem) (by ext k5) (by ext hn k3) (by ext hz v9) k4
  exact ⟨a,b,e2,j1.trans k1,j2,j3,j4⟩
theorem cnt(h1:1<=nrem)(hz:nrem<=p.size):∃m p',go (eR K) (kas_count nrem p)=(m,p')/\p'.Perm p/\1<=m/\m<=nrem/\rQ K p' m:=by
 unfold kas_count
 rw [xo]
 obtain ⟨n,e,n1,n2,n3,n4⟩:=bD (K:=K) (p:=p) (nrem-1) 1 (by ext) λi j cw hj=>by
  obtain rfl:i=j:=by ext cw hj
  exact aW _
 rw [e]
 by_cases c:n=nrem
 .rw [if_pos (by simpa using c)]
  exact ⟨n,p,rfl,sU _,n1,by ext c,n3⟩
 rw [if_neg (by simpa using c)]
 have be:kI K p n<kI K p (n-1):=n4.resolve_left (by ext h1 c)
 by_cases c2:n>1
 .rw [if_pos c2]
  show ∃m p',go (eR K) (if decide (kI K p 0<kI K p (n-1))=true then .ret (n,p) else AK n nrem (mO p 0 n))=(m,p')/\_
  by_cases c3:kI K p 0<kI K p (n-1)
  .rw [if_pos (decide_eq_true c3)]
   exact ⟨n,p,rfl,sU _,n1,by ext h1 n2,n3⟩
  .rw [if_neg (by simpa using c3)]
   have jw:∀k,0<=k->k<n->kI K p k=kI K p (n-1):=λk _ hk=>by
    have:=n3 0 k (by ext) hk
    have:=n3 k (n-1) (by ext hk) (by ext c2)
    lia
   obtain ⟨a,b,e2,j1,j2,j3,j4⟩:=O2 (K:=K) (p:=mO p 0 n) (n:=n) (nrem:=nrem) (by ext h1 n2 c) (by unfold mO;rw [Dl];ext hz) λi j cw hj=>by
    unfold mO
    rw [Bh (by ext h1 hz n2) jw,Bh (by ext h1 hz n2) jw]
    by_cases d:j<n
    .rw [jw i (by ext) (by ext cw d),jw j (by ext) d];exact aW _
    .obtain rfl:j=n:=by ext hj d
     by_cases d2:i=j
     .subst d2;exact aW _
     .rw [jw i (by ext) (by ext cw d2)];ext be
   exact ⟨a,b,e2,j1.trans (qU _ _ _ _),j2,j3,j4⟩
 .rw [if_neg c2]
  obtain rfl:n=1:=by ext n1 c2
  exact O2 (K:=K) (by ext h1 c) hz λi j cw hj=>by
   by_cases d:i=j
   .subst d;exact aW _
   .obtain ⟨rfl,rfl⟩:i=0/\j=1:=by ext cw hj d
    exact AL be
theorem J4(hs:rQ K p k):∀(f l r:Nat),l<=r->r<=k->r-l<=f->(∀i,i<l->kI K p i<=kI K p k)->(∀i,r<=i->i<k->kI K p k<kI K p i) ->
  ∃m,go (eR K) (wz p k f l r)=m/\m<=k/\(∀i,i<m->kI K p i<=kI K p k)/\∀i,m<=i->i<k->kI K p k<kI K p i
 | 0,l,r,h1,h2,h3,h4,h5=>by
  obtain rfl:l=r:=by ext h1 h3
  exact ⟨l,rfl,h2,h4,h5⟩
 | f+1,l,r,h1,h2,h3,h4,h5=>by
  unfold wz
  by_cases c:l≥r
  .rw [if_pos c]
   obtain rfl:l=r:=by ext h1 c
   exact ⟨l,rfl,h2,h4,h5⟩
  .rw [if_neg c]
   show ∃m,go (eR K) (if decide (kI K p k<kI K p ((l+r)/2))=true then wz p k f l ((l+r)/2) else wz p k f ((l+r)/2+1) r)=m/\_
   by_cases c2:kI K p k<kI K p ((l+r)/2)
   .rw [if_pos (decide_eq_true c2)]
    exact J4 hs f l _ (by lia) (by lia) (by lia) h4 λi z1 z2=>by
     have:=hs ((l+r)/2) i z1 z2;ext c2 this
   .rw [if_neg (by simpa using c2)]
    exact J4 hs f _ r (by lia) (by ext h2) (by lia) (λi z=>by
     have:=hs i ((l+r)/2) (by ext z) (by lia);ext c2 this) h5
theorem bin:∀(f:Nat) (p:Array Nat) (k:Nat),1<=k->k+f<=p.size->rQ K p k->∃p',go (eR K) (kas_bin f p k)=p'/\p'.Perm p/\rQ K p' (k+f)
 | 0,p,k,_,_,hs=>⟨p,rfl,sU _,hs⟩
 | f+1,p,k,hk,hz,hs=>by
  unfold kas_bin
  rw [xo]
  obtain ⟨l,e,l1,l2,l3⟩:=J4 (K:=K) hs k 0 k (by ext) (by ext) (by ext) (λi z=>by ext z) λi z1 z2=>by ext z1 z2
  rw [e]
  have hb:=getElem?_bubble (xs:=p) (src:=k) (by ext hz) (k-l) (by ext)
  rw [show k-(k-l)=l by ext l1] at hb
  have kb:∀m,kI K (bubble p k (k-l)) m=if m=l then kI K p k else if l<m/\m<=k then kI K p (m-1) else kI K p m:=λm=>by
   have e:=hb m
   by_cases c1:m=l
   .rw [if_pos c1] at e ⊢;exact AZ e
   .rw [if_neg c1] at e ⊢
    by_cases c2:l<m/\m<=k
    .rw [if_pos c2] at e ⊢;exact AZ e
    .rw [if_neg c2] at e ⊢;exact AZ e
  obtain ⟨p',e',j1,j2⟩:=bin f (bubble p k (k-l)) (k+1) (by ext) (by rw [bubble_size];ext hz) λi j cw hj=>by
   rw [kb,kb]
   repeat' split
   all_goals first
    | (exfalso;lia)
    | exact aW _
    | exact l2 _ (by lia)
    | exact AL (l3 _ (by lia) (by lia))
    | exact hs _ _ (by lia) (by lia)
  exact ⟨p',e',j1.trans (bubble_perm _ _ _),by rw [show k+(f+1)=k+1+f by ext];exact j2⟩
noncomputable def ord(K:Nat->Int)(n:Nat):List Nat:=(go (eR K) (AE n)).toList
theorem dN(K:Nat->Int)(n:Nat)(h:1<=n):(ord K n).Perm (ko n)/\(ord K n).Pairwise λi j=>K i<=K j:=by
 have key:∃p',go (eR K) (AE n)=p'/\p'.Perm (Iu (ko n))/\rQ K p' n:=by
  unfold AE
  rw [xo]
  obtain ⟨m,p,e,k1,k2,k3,k4⟩:=cnt (K:=K) (p:=Iu (ko n)) (nrem:=n) h (by simp)
  rw [e]
  dsimp only
  have hz:p.size=n:=by rw [k1.size_eq];simp
  by_cases c:m<n
  .rw [if_pos c]
   obtain ⟨p',e',j1,j2⟩:=bin (K:=K) (n-max m 1) p (max m 1) (by ext) (by ext hz c) (by rw [show max m 1=m by ext k2];exact k4)
   exact ⟨p',e',j1.trans k1,by rw [show max m 1+(n-max m 1)=n by ext c] at j2;exact j2⟩
  .rw [if_neg c]
   obtain rfl:m=n:=by ext k3 c
   exact ⟨p,rfl,k1,k4⟩
 obtain ⟨p,e,k1,k2⟩:=key
 unfold ord
 rw [e]
 refine ⟨wV.mp k1,wX.mpr λi j hi hj cw=>?_⟩
 have hz:p.size=n:=by rw [k1.size_eq];simp
 simp only [gW] at hi hj
 have:=k2 i j (by ext cw) (by ext hj hz)
 unfold kI at this
 simpa [hi,hj] using this
end
end KS
namespace KS
open PySem PySem.W PyProof.Rows
noncomputable def Ok{α:Type}(n:Nat)(R:α->Prop):KasT α->Prop
 | .ret a=>R a
 | .ask i j k=>i<n/\j<n/\∀b,Ok n R (k b)
theorem Ok.bind{α β:Type}{n:Nat}{R:α->Prop}{S:β->Prop}{f:α->KasT β}(hf:∀a,R a->Ok n S (f a)):∀{t:KasT α},Ok n R t->Ok n S (t.bind f)
 | .ret a,h=>hf a h
 | .ask i j k,h=>⟨h.1,h.2.1,λb=>Ok.bind hf (h.2.2 b)⟩
theorem rT{α:Type}{n:Nat}{cm:Nat->Nat->(Bool->Shared->Prop)->Shared->Prop}{cmp:Nat->Nat->Bool}{s:Shared}(h:∀i j,i<n->j<n->∀Q,Q (cmp i j) s->cm i j Q s){R:α->Prop}{Q:α->Shared->Prop}:∀{t:KasT α},Ok n R t->Q (go cmp t) s->t.kasWp cm Q s
 | .ret _,_,q=>q
 | .ask i j k,o,q=>h i j o.1 o.2.1 _ (rT h (o.2.2 (cmp i j)) q)
section
variable {n:Nat}
def En(n:Nat)(p:Array Nat):Prop:=∀k,p.getD k 0<n
theorem En.perm(h0:0<n)(h:En n p)(e:q.Perm p):En n q:=λk=>by
 by_cases hk:k<q.size
 .have hm:q[k]∈p.toList:=(wV.mp e).mem_iff.mp (by simp)
  obtain ⟨i,hi,e2⟩:=pz.mp hm
  have:=h i
  rw [gW] at hi
  simp only [Dd,hi,hk,dite_true] at this ⊢
  simp at e2
  have e3:q[k]=p[i]:=e2.symm
  show q[k]<n
  rw [e3]
  exact this
 .simp [Dd,hk,h0]
theorem J2{p:Array Nat}(h:En n p):∀f m,Ok n (λ_=>True) (kas_asc p f m)
 | 0,m=>trivial
 | f+1,m=>by
  unfold kas_asc
  refine ⟨h _,h _,λb=>?_⟩
  dsimp only
  split
  .trivial
  .exact J2 h f (m+1)
theorem EK(h0:0<n):∀f (p:Array Nat) m q,En n p->Ok n (λr=>En n r.1) (sJ f p m q)
 | 0,p,m,q,h=>h
 | f+1,p,m,q,h=>by
  unfold sJ
  refine ⟨h _,h _,λb=>?_⟩
  dsimp only
  split
  .split
   .exact EK h0 f _ _ _ (h.perm h0 (qU _ _ _ _))
   .exact EK h0 f _ _ _ h
  .refine ⟨h _,h _,λb=>?_⟩
   dsimp only
   split
   .exact h
   .exact EK h0 f _ _ _ h
theorem QP(h0:0<n)(h:En n p)(a b:Nat):Ok n (λr=>En n r.2) (kas_tail3 a b p):=by
 unfold kas_tail3
 have e:En n (mO p 0 a):=h.perm h0 (qU _ _ _ _)
 exact (J2 e _ _).bind λm _=>(show Ok n (λr:Nat×Array Nat=>En n r.2) (.ret (m,mO p 0 a)) from e)
theorem QO(h0:0<n)(h:En n p)(a b:Nat):Ok n (λr=>En n r.2) (AK a b p):=by
 unfold AK
 refine (EK h0 _ _ _ _ h).bind λr hr=>?_
 split
 .exact QP h0 (hr.perm h0 (qU _ _ _ _)) _ _
 .exact QP h0 hr _ _
theorem b3N(h0:0<n)(h:En n p)(b:Nat):Ok n (λr=>En n r.2) (kas_count b p):=by
 unfold kas_count
 refine (J2 h _ _).bind λm _=>?_
 split
 .exact h
 .split
  .refine ⟨h _,h _,λb=>?_⟩
   dsimp only
   split
   .exact h
   .exact QO h0 (h.perm h0 (qU _ _ _ _)) _ _
  .exact QO h0 h _ _
theorem KO{p:Array Nat}(h:En n p)(k:Nat):∀f l r,Ok n (λ_=>True) (wz p k f l r)
 | 0,l,r=>trivial
 | f+1,l,r=>by
  unfold wz
  split
  .trivial
  .refine ⟨h _,h _,λb=>?_⟩
   dsimp only
   split
   .exact KO h k f _ _
   .exact KO h k f _ _
theorem P6(h0:0<n):∀f (p:Array Nat) k,En n p->Ok n (λ_=>True) (kas_bin f p k)
 | 0,p,k,h=>trivial
 | f+1,p,k,h=>by
  unfold kas_bin
  exact (KO h k _ _ _).bind λl _=>P6 h0 f _ _ (h.perm h0 (bubble_perm _ _ _))
theorem qB(h0:0<n):Ok n (λ_=>True) (AE n):=by
 unfold AE
 have e:En n (Iu (ko n)):=λk=>by
  by_cases hk:k<n
  .simp [Dd,hk]
  .simp [Dd,hk,h0]
 refine (b3N h0 e n).bind λr hr=>?_
 split
 .exact P6 h0 _ _ _ hr
 .trivial
end
end KS
namespace PT
open PySem PySem.W PyProof.Rows
section
variable {prog:Program}{w:World}{A:Around}{E:Value->Shared->Prop}{s:Shared}
end
end PT
namespace DL
open PySem PySem.Spec PyProof.Rows L2
section
variable {X:Cx}
end
end DL
namespace DL
open PySem PySem.W PySem.Spec PyProof.Rows L2
noncomputable def cc{α:Type}(kz:List Int)(d:α)(vs:List α):List α:=if vs.length<2 then vs else (KS.ord (λi=>kz.getD i 0) vs.length).map λi=>vs.getD i d
theorem Lc{α:Type}(kz:List Int)(d:α)(vs:List α):(cc kz d vs).Perm vs:=by
 unfold cc
 split
 .exact Dy _
 .rename_i hn
  have h:=(KS.dN (λi=>kz.getD i 0) vs.length (by ext hn)).1.map λi=>vs.getD i d
  refine h.trans ?_
  have:(ko vs.length).map (λi=>vs.getD i d)=vs:=by
   refine List.ext_getElem (by simp) λi h1 h2=>?_
   simp at h1
   simp [h1]
  rw [this]
theorem KR:∀{xs:List V} {vs:List Value},aC xs vs->∀i (h1:i<xs.length) (h2:i<vs.length),RelV xs[i] vs[i]
 | _::_,_::_,.cons a b,0,_,_=>a
 | _::_,_::_,.cons a b,i+1,h1,h2=>KR b i (by simpa using h1) (by simpa using h2)
theorem Kr{K:aM}{O:Addr->Prop}{H:Hp}:∀{xs:List V} {ds:List D},aN K O H xs ds->∀i (h1:i<xs.length) (h2:i<ds.length),Is K O H xs[i] ds[i]
 | _::_,_::_,.cons a b,0,_,_=>a
 | _::_,_::_,.cons a b,i+1,h1,h2=>Kr b i (by simpa using h1) (by simpa using h2)
theorem ints_get:∀{vs:List Value} {ns:List Int},IntsAre vs ns->∀i,i<vs.length->∃t,vs.getD i fY=.int (ns.getD i 0) t
 | _,_,.cons n t h,0,_=>⟨t,rfl⟩
 | _,_,.cons n t h,i+1,hi=>by
  obtain ⟨t',e⟩:=ints_get h i (by simpa using hi)
  exact ⟨t',by simpa using e⟩
theorem b3G(rv:aC xs vs)(hl:vs.length=xs.length):aC (cc kz (.int 0) xs) (cc kz fY vs):=by
 unfold cc
 by_cases h2:xs.length<2
 .rw [if_pos h2,if_pos (by ext hl h2:1)];exact rv
 rw [if_neg h2,if_neg (by ext hl h2:1),hl]
 have hm:∀i∈KS.ord (λi=>kz.getD i 0) xs.length,i<xs.length:=λi hi=>sN.mp ((KS.dN (λi=>kz.getD i 0) xs.length (by ext h2:1)).1.mem_iff.mp hi)
 generalize KS.ord (λi=>kz.getD i 0) xs.length=os at *
 induction os with
 | nil=>exact .nil
 | cons i os ih =>
  have hi:=hm i (aR ..)
  refine .cons ?_ (ih λj hj=>hm j (a9 _ hj))
  have:=KR rv i hi (by ext hl hi:1)
  simpa [hi,show i<vs.length by ext hl hi:1] using this
section
variable {X:Cx}{pins:List (Addr×Obj)}{s:Shared}{σ:L2.St}{H:Hp}
theorem zk{α β:Type}{c:Prop}[Decidable c]{M:Model}{A:Around}{a b:Sem α}{f:α->Sem β}{Q:β->Shared->Prop}{E:Value->Shared->Prop}{s:Shared}(h:wpAny M A ((if c then a else b) >>= f) Q E s):wpAny M A (if c then a >>= f else b >>= f) Q E s:=by
 by_cases hc:c
 .rw [if_pos hc] at h ⊢;exact h
 .rw [if_neg hc] at h ⊢;exact h
theorem b1L{k:Nat}{f it:Addr}(hr:cu (k+1) X.A)(I:Inv X pins σ H s){xs:List V}{kz:List Int}(qK:kz.length=xs.length)(c7:xs.length<64)
  (HB:∀{A':Around} {Q':List Value->Shared->Prop} {E':Value->Shared->Prop},A'.handled=X.A.handled->(∀h' tk vs,(∀b o,s.heap.get? b=some o->h'.get? b=some o)->s.heap.objs.size<=h'.objs.size->aC xs vs->Q' vs { s with heap:=h',toks:=tk })->wpAny (model X.prog X.w) A' (collect (.ref it)) Q' E' s)
  (Ho:∀(H1:Hp) (s1:Shared) (j:Nat) (v:Value) (x:V),Inv X pins σ H1 s1->au H H1->RelV x v->xs[j]?=some x->wpAny (model X.prog X.w) X.A.in1.in1 (call (.ref f) [v]) (λu s'=>∃t H',u=.int (kz.getD j 0) t/\Inv X pins σ H' s'/\au H1 H'/\∀b o,s1.heap.get? b=some o->cV X pins H1 b->s'.heap.get? b=some o/\cV X pins H' b) (λ_ _=>False) s1)
  {Q:VK}(q:∀a H',au H H'->H' a=none->Q (.ref a) (upd H' a (.lst (cc kz (.int 0) xs)))):
  wpAny (model X.prog X.w) X.A (call (.builtin "sorted") [.ref it] [(qS "key",.ref f)]) (EP X pins σ Q) X.xe s:=by
 refine call_function_entry_kw kind_sorted plain_sorted entry_sorted (ksk_s1 _ _) ?_
 unfold Builtin.«sorted»
 refine aB (m:=checkCount "sorted" 1 1 _) (bI (aB (HB rfl λhC ya vs kC zC rv=>?_)))
 have qI:vs.length=xs.length:=rv.length.symm
 have hZ:vs.length<=sizeLine:=by rw [ij];ext c7 qI:1
 refine aB (Dh ?_ hZ)
 obtain ⟨hL,Au⟩:∃hL,hL=hC.push (seqObj "list" vs.toArray 0):=⟨_,rfl⟩
 have gL:hL.get? hC.objs.size=some (seqObj "list" vs.toArray 0):=by rw [Au];exact fN _ rfl
 have zL:hL.objs.size=hC.objs.size+1:=by rw [Au,De]
 have kL:∀b o,s.heap.get? b=some o->hL.get? b=some o:=λb o e=>by rw [Au];exact bR _ (kC b o e)
 show wpAny _ _ _ _ _ { s with heap:=hC.push (seqObj "list" vs.toArray 0),toks:=ya }
 rw [<-Au]
 clear Au kC
 generalize ha:hC.objs.size=a at *
 refine aB (sL (wpAny_call_entry_kw slot_list_sort ⟨_,gL,rfl⟩ entry_list_sort ?_ (ksk_l1 _ _)))
 show wpAny (model X.prog X.w) X.A.in1.in1 (Builtin.«list.sort» ⟨[.ref a],[(qS "key",.ref f)]⟩) _ _ _
 rw [ksk_t1]
 unfold ksk_tree
 have fa:cV X pins H a:=I.jy (by ext zC:1) (I.bt.fresh (by ext zC:1))
 refine aB (wD gL rfl (aB (wU gL rfl ?_ (by rw [dE];exact hZ) (nG _))))
 obtain ⟨c1,g1⟩:∃c1,(hL.update a (fO λ_=>(#[]:Array Value))).get? a=some (seqObj "list" #[] c1):=⟨_,DA gL λ_=>#[]⟩
 obtain ⟨hU,eU⟩:∃hU,hU=hL.update a (fO λ_=>(#[]:Array Value)):=⟨_,rfl⟩
 rw [<-eU] at g1
 have zU:hU.objs.size=a+1:=by rw [eU,Iy,zL]
 have kU:∀b o,s.heap.get? b=some o->hU.get? b=some o:=λb o e=>by
  have be:b<s.heap.objs.size:=bY e
  rw [eU,wY _ _ _ _ (ei (jB be zC))]
  exact kL b o e
 show wpAny _ _ _ _ _ { s with toks:=ya,heap:=hL.update a (fO λ_=>(#[]:Array Value)) }
 rw [<-eU]
 clear eU kL gL zL
 refine aB (Dk g1 rfl (aB (IG (aB (Dh (sL ?_) (nG _))) (by show vs.toArray.size<=_;rw [dE];exact hZ))))
 obtain ⟨hK,eK⟩:∃hK,hK=(hU.push (seqObj "tuple" vs.toArray 0)).push (seqObj "list" #[] 0):=⟨_,rfl⟩
 have zT:(hU.push (seqObj "tuple" vs.toArray 0)).objs.size=a+2:=by rw [De,zU]
 have gK:hK.get? (a+2)=some (seqObj "list" #[] 0):=by rw [eK,<-zT];exact fN _ rfl
 have gA:hK.get? a=some (seqObj "list" #[] c1):=by rw [eK];exact bR _ (bR _ g1)
 have kK:∀b o,s.heap.get? b=some o->hK.get? b=some o:=λb o e=>by rw [eK];exact bR _ (bR _ (kU b o e))
 show wpAny _ _ _ _ _ { s with toks:=ya,heap:=(hU.push (seqObj "tuple" vs.toArray 0)).push (seqObj "list" #[] 0) }
 rw [<-eK]
 show wpAny _ _ (ksk_rest a (.ref f) false vs.toArray c1 (.ref (hU.push (seqObj "tuple" vs.toArray 0)).objs.size)) _ _ _
 rw [zT]
 clear eK zT g1 kU zU
 generalize hk:a+2=kS at *
 have fk:cV X pins H kS:=I.jy (by ext zC hk:1) (I.bt.fresh (by ext zC hk:1))
 have M1:kS≠a:=by ext hk:1
 have I3:Inv X pins σ H { s with toks:=ya,heap:=hK }:=I.kept (t':=ya) kK
 unfold ksk_rest
 refine aB (wI ?_)
 rw [List.forIn_toArray]
 refine aB (ksk_fold (λi s'=>∃H' kA c,Inv X pins σ H' s'/\au H H'/\cV X pins H' kS/\cV X pins H' a/\s'.heap.get? kS=some (seqObj "list" kA c)/\s'.heap.get? a=some (seqObj "list" #[] c1)/\IntsAre kA.toList (kz.take i)) vs 0 _ ⟨H,#[],0,I3,au.refl _,fk,fa,gK,gA,.nil⟩ (λj x s' hj hI=>?_) λs' hI=>?_)
 .obtain ⟨H1,kA,c,I1,sm,f1,f2,g3,g4,ia⟩:=hI
  rw [sP] at ia ⊢
  obtain ⟨zQ,X6⟩:=lC.mp hj
  have Nt:j<xs.length:=by ext qI zQ:1
  have rx:RelV xs[j] x:=by rw [<-X6];exact KR rv j Nt zQ
  obtain ⟨kv,N0⟩:∃kv,kv=kz.getD j 0:=⟨_,rfl⟩
  have ek:kz.take (j+1)=kz.take j++[kv]:=by rw [List.take_succ,rf (by ext qK qI zQ:1),N0];simp [show j<kz.length by ext qK qI zQ:1]
  have ck:=Ho H1 s' j x xs[j] I1 sm rx (rf Nt)
  rw [<-N0] at ck
  refine aB (AH (mR ck (λu s2 he=>?_) λ_ _ z=>z.elim))
  .obtain ⟨t,H2,rfl,I2,Tp,kp⟩:=he
   dsimp only
   obtain ⟨g5,f5⟩:=kp kS _ g3 f1
   obtain ⟨g6,f6⟩:=kp a _ g4 f2
   have hz:kA.size<=64:=by
    have:=ia.length
    rw [gW,gz] at this
    ext c7 qI zQ this:1
   refine aB (wU g5 rfl (bI ⟨rfl,?_⟩) (by rw [ij];ext hz:1) (by rw [Array.size_push,ij];ext hz:1))
   obtain ⟨c2,g7⟩:∃c2,(s2.heap.update kS (fO (·.push (.int kv t)))).get? kS=some (seqObj "list" (kA.push (.int kv t)) c2):=⟨_,DA g5 (·.push (.int kv t))⟩
   have M7:∀b o,b∉[kS]->s2.heap.get? b=some o->(s2.heap.update kS (fO (·.push (.int kv t)))).get? b=some o:=λb o hb e=>by
    rw [wY _ _ _ _ (by simpa using hb)]
    exact e
   refine ⟨H2,kA.push (.int kv t),c2,xt (ch:=[kS]) (t':=s2.toks) I2 (λb hb=>by rw [bQ.mp hb];exact f5) M7,sm.trans Tp,f5,f6,g7,M7 a _ (by simpa using M1.symm) g6,?_⟩
   rw [ek,show (kA.push (lz kv t)).toList=kA.toList++[lz kv t] by simp]
   exact ksk_snoc ia
 .obtain ⟨H1,kA,c,I1,sm,f1,f2,g3,g4,ia⟩:=hI
  have iT:IntsAre kA.toList kz:=by rw [sP,qI,<-qK,IA] at ia;exact ia
  have zM:kA.toList.length=vs.length:=by rw [iT.length,qK,qI]
  have Hq:kA.size=vs.length:=by rw [<-gW];exact zM
  refine aB (wD g3 rfl ?_)
  unfold ksk_end
  dsimp only
  rw [if_neg (by decide)]
  have runK:∀{E:Value->Shared->Prop},wpAny (model X.prog X.w) X.A.in1.in1 (if vs.toArray.size<2 then pure general' else keyKind' kA) (λkind s2=>s2=s'/\wpAny (model X.prog X.w) X.A.in1.in1 ((if vs.toArray.size<2 then pure () else sortRuns').run (AG kind (if false=true then (kA.zip vs.toArray).reverse else kA.zip vs.toArray) #[] 7 none)) (λr s2=>s2=s'/\(arrOf r.2).map (·.2)=(cc kz fY vs).toArray/\failedOf r.2=none) E s') E s':=λ{E}=>by
   rw [if_neg (show ¬(false=true) by decide)]
   by_cases h2:vs.length<2
   .rw [if_pos (by simpa using h2),if_pos (by simpa using h2)]
    refine bI ⟨rfl,bI ⟨rfl,?_,rfl⟩⟩
    show (kA.zip vs.toArray).map (·.2)=_
    rw [show cc kz fY vs=vs by unfold cc;rw [if_pos h2],Array.map_snd_zip (by simp;ext Hq:1)]
   rw [if_neg (by simpa using h2),if_neg (by simpa using h2),ksk_kind iT (by ext Hq h2:1)]
   refine bI ⟨rfl,?_⟩
   have:=kat_run (prog:=X.prog) (w:=X.w) (A:=X.A.in1.in1) (E:=E) (s:=s') (ks:=kA.toList) (vs:=vs) (κ:=oneType') (Q:=λaj s2=>s2=s'/\(arrOf aj).map (·.2)=(cc kz fY vs).toArray/\failedOf aj=none) (G:=λp s2=>s2=s'/\p.toList=KS.ord (λi=>kz.getD i 0) vs.length) zM (by ext h2:1) (by ext c7 qI:1) (λp aj s2 hz ha hf hp=>⟨hp.1,by
    rw [kat_snds zM ha,hp.2]
    unfold cc
    rw [if_neg (by ext h2:1)],hf⟩) (KS.rT (n:=vs.length) (cmp:=KS.eR λi=>kz.getD i 0) (λi j hi hj C hC=>by
     unfold kas_ask
     obtain ⟨t1,e1⟩:=ints_get iT i (by ext zM hi:1)
     obtain ⟨t2,e2⟩:=ints_get iT j (by ext zM hj:1)
     rw [e1,e2]
     exact kat_lt_int hC) (KS.qB (by ext h2:1)) ⟨rfl,rfl⟩)
   rw [Array.toArray_toList] at this
   exact this
  refine zk (aB (mR runK (λkind s2 hq=>?_) λ_ _ e=>e))
  obtain ⟨rfl,run⟩:=hq
  refine aB (mR run ?_ λ_ _ e=>e)
  rintro ⟨⟨⟩,aj⟩ s2 ⟨rfl,hp,hf⟩
  dsimp only at hp hf ⊢
  unfold ksk_tail
  dsimp only
  rw [hp,hf]
  have jt:(cc kz fY vs).toArray.size=vs.length:=by rw [dE];exact (Lc kz _ vs).length_eq
  generalize Yq:(cc kz fY vs).toArray=out at *
  have WR:∀b o,b∉[kS,a]->s2.heap.get? b=some o->(s2.heap.update kS (fO λ_=>(#[]:Array Value))).get? b=some o:=λb o hb e=>by
   rw [wY _ _ _ _ (by simp at hb;exact hb.1)]
   exact e
  have g5:(s2.heap.update kS (fO λ_=>(#[]:Array Value))).get? a=some (seqObj "list" #[] c1):=by
   rw [wY _ _ _ _ M1.symm]
   exact g4
  refine aB (wU g3 rfl (aB (Dp (aB (Dk g5 rfl (aB (wU g5 rfl ?_ (nG _) ?_)))))) (by rw [Hq];exact hZ) (nG _))
  .simp only [bne_self_eq_false,uY,if_false]
   obtain ⟨c2,g6⟩:∃c2,((s2.heap.update kS (fO λ_=>(#[]:Array Value))).update a (fO λ_=>out)).get? a=some (seqObj "list" out c2):=⟨_,DA g5 λ_=>out⟩
   refine bI ⟨_,rfl,bI ⟨_,rfl,?_⟩⟩
   have I5:Inv X pins σ H1 { s2 with heap:=(s2.heap.update kS (fO λ_=>(#[]:Array Value))).update a (fO λ_=>out),toks:=s2.toks }:=xt (ch:=[kS,a]) (t':=s2.toks) I1 (λb hb=>by
    rcases br.mp hb with rfl | hb
    .exact f1
    .rw [bQ.mp hb];exact f2) λb o hb e=>by
     rw [wY _ _ _ _ (by simp at hb;exact hb.2)]
     exact WR b o hb e
   refine ⟨.ref a,_,x9 (o:=.lst (cc kz (.int 0) xs)) I5 f2 ⟨by rw [(Lc kz _ xs).length_eq,ij];ext c7:1,out.toList,c2,?_,by simpa using g6⟩,rfl,q a H1 sm f2.1⟩
   rw [<-Yq]
   exact b3G rv (by ext qI:1)
  .simp only [uY,if_false]
   rw [jt]
   ext hZ:1
theorem b1K(F:cH X.prog X.w X.K X.mg X.base jc k f fd ps (m7 X.K ps.length φ))(h1:ps.length=1)(hr:cu (k+1) X.A)(hb:Binds X.K fd ps [])
  (I:Inv X pins σ H s)(hq:Sq X.K H true p xs)(hO:qm X.K O H)(ix:aN X.K O H xs ds)(ek:ds.map (λd=>φ [d])=kz.map λk=>some (.sh (.int k)))(c7:xs.length<64)(q:∀a H',au H H'->H' a=none->Q (.ref a) (upd H' a (.lst (cc kz (.int 0) xs)))):
  wpAny (model X.prog X.w) X.A (call (.builtin "sorted") [.ref p] [(qS "key",.ref f)]) (EP X pins σ Q) X.xe s:=by
 obtain ⟨vs,rv,pl⟩:=ou (b:=true) I hq
 have Hn:ds.length=xs.length:=ix.length.symm
 have qK:kz.length=xs.length:=by have:=congrArg mi ek;rw [aX,aX] at this;ext Hn this
 have XN:cu k X.A.in1.in1:=⟨hr.hd,by have:=hr.dp;show X.A.depth+3*k+5<_;ext this,by have:=hr.un;show X.A.units+1+1+16*k+200<_;ext this⟩
 refine b1L hr I qK c7 (λ_ h=>collect_list pl (h _ s.toks vs (λb o e=>?_) ?_ rv) ?_) (λH1 s1 j v x I1 sm rx hx=>?_) q
 .rw [wY _ _ _ _ (ei (bY e))]
  exact bR _ e
 .rw [Iy,De];ext
 .have:=rv.length;rw [ij];ext c7 this
 .obtain ⟨hj,rfl⟩:=lC.mp hx
  have ev:φ [ds[j]]=some (.sh (.int (kz.getD j 0))):=by
   have:=congrArg (λl=>l[j]?) ek
   simp [show j<ds.length by ext Hn hj,show j<kz.length by ext qK hj] at this
   simp [show j<kz.length by ext qK hj,this]
  exact b4t F h1 XN rfl hb I1 (O:=O) rx (hO.grow sm) ((Kr ix j hj (by ext Hn qK hj)).grow sm) ev
noncomputable def j6(φ:List D->Option Sl):List D->Option (List Int)
 | []=>some []
 | d::ds=>match φ [d] with
  | some (.sh (.int k))=>(j6 φ ds).map λks=>k::ks
  | _=>none
theorem QJ:∀{ds:List D} {kz:List Int},j6 φ ds=some kz->ds.map (λd=>φ [d])=kz.map λk=>some (.sh (.int k))
 | [],kz,h=>by cases h;rfl
 | d::ds,kz,h=>by
  unfold j6 at h
  split at h
  .rename_i k e
   obtain ⟨ks,e2,rfl⟩:=map_some h
   rw [fo,fo,e,QJ e2]
  .cases h
noncomputable def b7v(K:aM)(φ:List D->Option Sl)(te:TE):TE:=λσ H Q=>te σ H λxv H1=>∃(O:Addr->Prop) (p:Addr) (xs:List V) (ds:List D) (kz:List Int),xv=.ref p/\Sq K H1 true p xs/\qm K O H1/\aN K O H1 xs ds/\ds.map (λd=>φ [d])=kz.map (λk=>some (.sh (.int k)))/\xs.length<64 /\
 ∀a H',au H1 H'->H' a=none->Q (.ref a) (upd H' a (.lst (cc kz (.int 0) xs)))
theorem b3D{k:Nat}{f:Addr}{fd:FuncData}{ps:List Str}{φ:List D->Option Sl}{e:Expr}{te:TE}{x:Str}{p pos kp np:Pos}(F:cH X.prog X.w X.K X.mg X.base jc k f fd ps (m7 X.K ps.length φ))(h1:ps.length=1)(hr:cu (k+1) X.A)(zS:Gl X x)(Hj:X.mg x=some (.ref f))(hb:Binds X.K fd ps [])
  (hg:Gl X "sorted")(hm:X.mg "sorted" = none)(he:PE X e te)(hs:starEach [e] X.env=[(false,eval e X.env)]:=by rfl)(j9:(x==("__debug__":Str))=false:=by decide):PE X (.Call (.Name "sorted" p) [e] [⟨some "key",.Name x np,kp⟩] pos) (b7v X.K φ te):=by
 intro pins s σ H Q I h
 refine DZ (s9 I hg hm boot_sorted ?_)
 refine callWith_builtin_kwB (first:=[]) (by rw [hs];rfl) rfl ?_
 rw [hs]
 refine evalArgs_kwB rfl ?_
 refine Oo (bE (he pins s σ H _ I h) λu s1 ⟨xv,H1,I1,r1,q1⟩=>Oa ?_)
 refine kws_cons (Kt I1 zS Hj (kws_nil ?_) j9)
 obtain ⟨O,p,xs,ds,kz,rfl,hq,hO,ix,ek,c7,q⟩:=q1
 cases r1
 exact b1K F h1 hr hb I1 hq hO ix ek c7 q
noncomputable def qw(φ:List D->Option Sl):D->Option Sl
 | .lst _ ds=>(j6 φ ds).bind λkz=>if ds.length<64 then some (.ow (cc kz .bz ds)) else none
 | _=>none
noncomputable def Bf(φ:List D->Option Sl)(f:En->Option Sl):En->Option Sl:=λenv=>(f env).bind λr=>qw φ r.d
theorem b3H{K:aM}{O:Addr->Prop}{H:Hp}{kz:List Int}{xs:List V}{ds:List D}(hi:aN K O H xs ds):aN K O H (cc kz (.int 0) xs) (cc kz .bz ds):=by
 have hl:ds.length=xs.length:=hi.length.symm
 unfold cc
 by_cases h2:xs.length<2
 .rw [if_pos h2,if_pos (by ext hl h2:1)];exact hi
 rw [if_neg h2,if_neg (by ext hl h2:1),hl]
 have hm:∀i∈KS.ord (λi=>kz.getD i 0) xs.length,i<xs.length:=λi hi=>sN.mp ((KS.dN (λi=>kz.getD i 0) xs.length (by ext h2:1)).1.mem_iff.mp hi)
 generalize KS.ord (λi=>kz.getD i 0) xs.length=os at *
 induction os with
 | nil=>exact .nil
 | cons i os ih =>
  have hj:=hm i (aR ..)
  refine .cons ?_ (ih λj hj=>hm j (a9 _ hj))
  have:=Kr hi i hj (by ext hl hj:1)
  simpa [hj,show i<ds.length by ext hl hj:1] using this
theorem b4f{k:Nat}{f:Addr}{fd:FuncData}{ps:List Str}{φ:List D->Option Sl}{e:Expr}{fa:En->Option Sl}{x:Str}{p pos kp np:Pos}(F:cH X.prog X.w X.K X.mg X.base jc k f fd ps (m7 X.K ps.length φ))(h1:ps.length=1)(hr:cu (k+1) X.A)(zS:Gl X x)(Hj:X.mg x=some (.ref f))(hb:Binds X.K fd ps [])
  (hg:Gl X "sorted")(hm:X.mg "sorted" = none)(he:EV X e fa)(hs:starEach [e] X.env=[(false,eval e X.env)]:=by rfl)(j9:(x==("__debug__":Str))=false:=by decide):EV X (.Call (.Name "sorted" p) [e] [⟨some "key",.Name x np,kp⟩] pos) (Bf φ fa):=by
 obtain ⟨t,pt,kk⟩:=he
 refine ⟨_,b3D F h1 hr zS Hj hb hg hm pt hs j9,λO B σ H env s Q R e q=>?_⟩
 obtain ⟨r,e1,e2⟩:=bind_some e
 refine kk O B σ H env r _ R e1 λv H1 s1 r1=>?_
 have hi:=r1.is λq=>R.oo
 unfold qw at e2
 split at e2
 .rename_i ro ds hd
  rw [hd] at hi
  obtain ⟨kz,e3,e4⟩:=bind_some e2
  obtain ⟨c7,rfl⟩:=iu e4
  obtain ⟨a,xs,rfl,g2,g3⟩:=hi.seq (k:=true) rfl
  have hl:ds.length=xs.length:=g3.length.symm
  refine ⟨OO O σ env,a,xs,ds,kz,rfl,g2,(R.grow s1).dm,g3,QJ e3,by ext c7 hl,λc H2 s2 hc=>?_⟩
  refine q _ _ ((s1.trans s2).trans (oD hc _)) ((xp hc ?_).from (s1.trans s2))
  exact (b3H g3).grow s2
 .cases e2
theorem b2Y(e:f env=some (.sh (.lst r ds)))(hk:j6 φ ds=some kz)(c7:ds.length<64):Wo (Bf φ f env) Q↔Q (.ow (cc kz .bz ds)):=by
 unfold Bf
 rw [e,oh]
 show Wo ((j6 φ ds).bind _) Q↔_
 rw [hk,oh,if_pos c7,a0i]
end
section
variable {X:Cx}{tg:Expr}
end
theorem Fx.qw{X:Cx}{N:List Str}{sc:Scope}{k j:Nat}{full:Bool}{x:Str}{st:Stmt}{ps:List Str}{φ:List D->Option Sl}{e:Expr}{fa:En->Option Sl}{p pos kp np:Pos}(h:Fx X N sc k full)(O:Oz X.prog X.w X.K X.mg X.base x st ps j φ)(hm:X.mg "sorted" = none)(he:EV X e fa)(hj:j+1<=k:=by decide)(h1:ps.length=1:=by rfl)(zS:sc.names.lookup x=some .globalImplicit:=by rfl)(hg:sc.names.lookup ("sorted":Str)=some .globalImplicit:=by rfl)
  (hs:starEach [e] X.env=[(false,eval e X.env)]:=by rfl)(j9:(x==("__debug__":Str))=false:=by decide):EV X (.Call (.Name "sorted" p) [e] [⟨some "key",.Name x np,kp⟩] pos) (Bf φ fa):=by
 obtain ⟨f,fd,D',F⟩:=O
 exact b4f F h1 (h.room.mono hj) (h.g zS) D'.m D'.bd (h.g hg) hm he hs j9
end DL
namespace My
open PySem L2 DL
noncomputable def top(i:Nat):Stmt:=PySem.Challenge.pw_offerhouse_k70_whole_hull_of_sellers.main.body.getD i (.Pass ⟨0,0,0,0⟩)
noncomputable abbrev RJ:Stmt:=top 7
noncomputable abbrev LP{α:Type}(Y:Str->Stmt->List Str->α):α:=Y "line_at" RJ ["line","low","x"]
noncomputable def Lg:SF:=
 (aw (ae bj (av (bV 0) (eC (.int 0))) (ae dr (av (bV 0) (eC (.int 1))) (ae bL (eV 2) (eV 1)))))
noncomputable def tE:List D->Option Sl:=aH Lg 3
theorem nS:Wo (tE [a0,a1,a2]) Q↔Wo (Lg [.sh a0,.sh a1,.sh a2]) (aG Q):=bJ
noncomputable abbrev RQ:Stmt:=top 14
noncomputable abbrev Ly{α:Type}(Y:Str->Stmt->List Str->α):α:=Y "drawn_to" RQ ["row","x"]
noncomputable def LL:SF:=
 (aw (aA 3 tE (af (aP (af (av (bV 0) (eC (.int 2))) (af (av (bV 0) (eC (.int 3))) aa))) (af (av (bV 0) (eC (.int 0))) (af (eV 1) aa)))))
noncomputable def rK:List D->Option Sl:=aH LL 2
theorem mD:Wo (rK [a0,a1]) Q↔Wo (LL [.sh a0,.sh a1]) (aG Q):=bJ
noncomputable abbrev Sf:Stmt:=top 19
noncomputable abbrev LB{α:Type}(Y:Str->Stmt->List Str->α):α:=Y "place_of" Sf ["form","x"]
noncomputable def RP:En->Nat:=λ_=>1000000
noncomputable def Lp:SF:=
 (ah (aY 2 (eC (.int 0)))
 (ah (aY 3 (aQ (bV 0)))
 (ah (Be RP (bN (ae fC (eV 2) (eV 3)))
 (ah (aY 4 (ae bH (ae bj (eV 2) (eV 3)) (eC (.int 2))))
 (bS (bN (ae fC (av (gx (av (bV 0) (eV 4))) (eC (.int 1))) (eV 1)))
 (aY 2 (ae bj (eV 4) (eC (.int 1)))) (aY 3 (eV 4)))))
 (aw (eV 2)))))
noncomputable def xT:List D->Option Sl:=aH Lp 5
theorem my:Wo (xT [a0,a1]) Q↔Wo (Lp [.sh a0,.sh a1,.no,.no,.no]) (aG Q):=bJ
noncomputable abbrev RH:Stmt:=top 18
noncomputable abbrev LM{α:Type}(Y:Str->Stmt->List Str->α):α:=Y "cost_at" RH ["form","x"]
noncomputable def Le:SF:=
 (ah (aY 2 (aA 2 xT (af (eV 0) (af (eV 1) aa))))
 (ah (bS (iy (bN (ae cZ (eV 2) (aQ (bV 0)))) (bN (ae fC (eV 1) (av (gx (av (bV 0) (eV 2))) (eC (.int 0))))))
 (aw (eC .bz)) cE)
 (aw (aA 2 rK (af (av (bV 0) (eV 2)) (af (eV 1) aa))))))
noncomputable def qk:List D->Option Sl:=aH Le 3
theorem nU:Wo (qk [a0,a1]) Q↔Wo (Le [.sh a0,.sh a1,.no]) (aG Q):=bJ
noncomputable abbrev Sb:Stmt:=top 59
noncomputable abbrev L4{α:Type}(Y:Str->Stmt->List Str->α):α:=Y "_law_whole" Sb ["found"]
noncomputable def LV:SF:=
 (aw (ny (qP "int" (eV 0)) (o9 (qP "bool" (eV 0)))))
noncomputable def xQ:List D->Option Sl:=aH LV 1
theorem kM:Wo (xQ [a0]) Q↔Wo (LV [.sh a0]) (aG Q):=bJ
noncomputable abbrev Sg:Stmt:=top 20
noncomputable abbrev LC{α:Type}(Y:Str->Stmt->List Str->α):α:=Y "spans_of" Sg ["form"]
noncomputable def Lq:SF:=
 (ah (de 1 (bq aa))
 (ah (eE (eV 0) (gN 2)
 (bS (sV (A3 (bV 1)) (bN (ae cZ (ae bj (av (gx (av (bV 1) (fD (eC (.int 1))))) (eC (.int 1))) (eC (.int 1))) (av (bV 2) (eC (.int 0))))))
 (ah (lU 3 1)
 (cF 1 (aP (af (av (bV 3) (eC (.int 0))) (af (av (bV 2) (eC (.int 1))) aa))))) (cF 1 (aP (af (av (bV 2) (eC (.int 0))) (af (av (bV 2) (eC (.int 1))) aa))))))
 (aw (Bg (bV 1)))))
noncomputable def qj:List D->Option Sl:=aH Lq 4
theorem mx:Wo (qj [a0]) Q↔Wo (Lq [.sh a0,.no,.no,.no]) (aG Q):=bJ
noncomputable abbrev RZ:Stmt:=top 13
noncomputable abbrev LZ{α:Type}(Y:Str->Stmt->List Str->α):α:=Y "holds_one" RZ ["row"]
noncomputable def L7:SF:=
 (aw (ae cZ (av (bV 0) (eC (.int 0))) (av (bV 0) (eC (.int 1)))))
noncomputable def rF:List D->Option Sl:=aH L7 1
theorem kQ:Wo (rF [a0]) Q↔Wo (L7 [.sh a0]) (aG Q):=bJ
noncomputable abbrev Q7:Stmt:=top 17
noncomputable abbrev Kg{α:Type}(Y:Str->Stmt->List Str->α):α:=Y "plain" Q7 ["row"]
noncomputable def Ki:SF:=
 (aw (gU (cC (aA 1 rF (af (eV 0) aa))) (aP (af (av (bV 0) (eC (.int 0))) (af (av (bV 0) (eC (.int 1))) (af (av (bV 0) (eC (.int 2))) (af (eC (.int 0)) aa))))) (eV 0)))
noncomputable def rD:List D->Option Sl:=aH Ki 1
theorem rN:Wo (rD [a0]) Q↔Wo (Ki [.sh a0]) (aG Q):=bJ
noncomputable abbrev Sv:Stmt:=top 16
noncomputable abbrev Mf{α:Type}(Y:Str->Stmt->List Str->α):α:=Y "laid_beside" Sv ["ahead","row"]
noncomputable def L':SF:=
 (ah (aY 2 (gU (cC (aA 1 rF (af (eV 0) aa))) (ae bL (av (bV 1) (eC (.int 2))) (av (bV 0) (eC (.int 2)))) (av (bV 0) (eC (.int 3)))))
 (ah (bS (bN (ae iD (av (bV 1) (eC (.int 2))) (aA 3 tE (af (aP (af (av (bV 0) (eC (.int 2))) (af (eV 2) aa))) (af (av (bV 0) (eC (.int 0))) (af (av (bV 1) (eC (.int 0))) aa))))))
 (aw (bq (af (eV 0) (af (aA 1 rD (af (eV 1) aa)) aa)))) cE)
 (ah (bS (iy (cC (aA 1 rF (af (eV 1) aa))) (bN (ae cZ (av (bV 1) (eC (.int 3))) (eV 2))))
 (aw (bq (af (aP (af (av (bV 0) (eC (.int 0))) (af (av (bV 1) (eC (.int 1))) (af (av (bV 0) (eC (.int 2))) (af (eV 2) aa))))) aa))) cE)
 (ah (aY 3 (aA 1 rD (af (aP (af (ae bj (av (bV 1) (eC (.int 0))) (eC (.int 1))) (af (av (bV 1) (eC (.int 1))) (af (ae bj (av (bV 1) (eC (.int 2))) (av (bV 1) (eC (.int 3)))) (af (av (bV 1) (eC (.int 3))) aa))))) aa)))
 (aw (bq (af (aP (af (av (bV 0) (eC (.int 0))) (af (av (bV 1) (eC (.int 0))) (af (av (bV 0) (eC (.int 2))) (af (eV 2) aa))))) (af (eV 3) aa))))))))
noncomputable def Ca:List D->Option Sl:=aH L' 4
theorem iQ:Wo (Ca [a0,a1]) Q↔Wo (L' [.sh a0,.sh a1,.no,.no]) (aG Q):=bJ
noncomputable abbrev Qo:Stmt:=top 15
noncomputable abbrev JU{α:Type}(Y:Str->Stmt->List Str->α):α:=Y "laid" Qo ["rows"]
noncomputable def JO:SF:=
 (ah (de 1 (bq aa))
 (ah (eE (eV 0) (gN 2)
 (bS (sV (A3 (bV 1)) (bN (ae cZ (ae bj (av (gx (av (bV 1) (fD (eC (.int 1))))) (eC (.int 1))) (eC (.int 1))) (av (bV 2) (eC (.int 0))))))
 (ah (lU 3 1)
 (jY 1 (aA 2 Ca (af (eV 3) (af (eV 2) aa))))) (cF 1 (aA 1 rD (af (eV 2) aa)))))
 (aw (Bg (bV 1)))))
noncomputable def mn:List D->Option Sl:=aH JO 4
theorem vM:Wo (mn [a0]) Q↔Wo (JO [.sh a0,.no,.no,.no]) (aG Q):=bJ
noncomputable abbrev SS:Stmt:=top 9
noncomputable abbrev Mu{α:Type}(Y:Str->Stmt->List Str->α):α:=Y "span_or_none" SS ["first","last"]
noncomputable def MA:SF:=
 (aw (gU (bN (ae uG (eV 0) (eV 1))) (aP (af (eV 0) (af (eV 1) aa))) (eC .bz)))
noncomputable def xW:List D->Option Sl:=aH MA 2
theorem g9:Wo (xW [a0,a1]) Q↔Wo (MA [.sh a0,.sh a1]) (aG Q):=bJ
noncomputable abbrev O6:Stmt:=top 5
noncomputable abbrev tS{α:Type}(Y:Str->Stmt->List Str->α):α:=Y "up" O6 ["a","b"]
noncomputable def vU:SF:=
 (aw (fD (ae bH (fD (eV 0)) (eV 1))))
noncomputable def Bd:List D->Option Sl:=aH vU 2
theorem MC:Wo (Bd [a0,a1]) Q↔Wo (vU [.sh a0,.sh a1]) (aG Q):=bJ
noncomputable abbrev QA:Stmt:=top 6
noncomputable abbrev JS{α:Type}(Y:Str->Stmt->List Str->α):α:=Y "down" QA ["a","b"]
noncomputable def JM:SF:=
 (aw (ae bH (eV 0) (eV 1)))
noncomputable def Bt:List D->Option Sl:=aH JM 2
theorem vO:Wo (Bt [a0,a1]) Q↔Wo (JM [.sh a0,.sh a1]) (aG Q):=bJ
noncomputable abbrev Se:Stmt:=top 8
noncomputable abbrev L6{α:Type}(Y:Str->Stmt->List Str->α):α:=Y "no_dearer" Se ["one","other","low","high"]
noncomputable def LX:SF:=
 (ah (aY 4 (ae bL (av (bV 0) (eC (.int 0))) (av (bV 1) (eC (.int 0)))))
 (ah (aY 5 (ae bL (av (bV 0) (eC (.int 1))) (av (bV 1) (eC (.int 1)))))
 (ah (bS (bN (ae qN (eV 5) (eC (.int 0))))
 (aw (aA 2 xW (af (eV 2) (af (vm A1 (af (eV 3) (af (ae bj (eV 2) (aA 2 Bt (af (fD (eV 4)) (af (eV 5) aa)))) aa))) aa)))) cE)
 (ah (bS (bN (ae fC (eV 5) (eC (.int 0))))
 (aw (aA 2 xW (af (vm xc (af (eV 2) (af (ae bj (eV 2) (aA 2 Bd (af (eV 4) (af (fD (eV 5)) aa)))) aa))) (af (eV 3) aa)))) cE)
 (aw (gU (bN (ae qN (eV 4) (eC (.int 0)))) (eC .bz) (aP (af (eV 2) (af (eV 3) aa)))))))))
noncomputable def xS:List D->Option Sl:=aH LX 6
theorem kH:Wo (xS [a0,a1,a2,a3]) Q↔Wo (LX [.sh a0,.sh a1,.sh a2,.sh a3,.no,.no]) (aG Q):=bJ
noncomputable abbrev Su:Stmt:=top 35
noncomputable abbrev Me{α:Type}(Y:Str->Stmt->List Str->α):α:=Y "amounts_for" Su ["form","price"]
noncomputable def L9:SF:=
 (ah (aY 2 (il (fW (eV 0)) [1] 1 (gN 0) nL (aA 4 xS (af (aP (af (av (bV 0) (eC (.int 2))) (af (av (bV 0) (eC (.int 3))) aa))) (af (aP (af (eV 1) (af (eC (.int 0)) aa))) (af (av (bV 0) (eC (.int 0))) (af (av (bV 0) (eC (.int 1))) aa)))))))
 (aw (aA 1 qj (af (aA 1 mn (af (il (fW (eV 2)) [] 1 (gN 0) (bN (ae Jy (eV 0) (eC .bz))) (aP (af (av (bV 0) (eC (.int 0))) (af (av (bV 0) (eC (.int 1))) (af (eC (.int 0)) (af (eC (.int 0)) aa)))))) aa)) aa))))
noncomputable def B':List D->Option Sl:=aH L9 3
theorem iR:Wo (B' [a0,a1]) Q↔Wo (L9 [.sh a0,.sh a1,.no]) (aG Q):=bJ
noncomputable abbrev Sd:Stmt:=top 27
noncomputable abbrev L5{α:Type}(Y:Str->Stmt->List Str->α):α:=Y "line_from" Sd ["row","low"]
noncomputable def LW:SF:=
 (aw (aP (af (aA 2 rK (af (eV 0) (af (eV 1) aa))) (af (av (bV 0) (eC (.int 3))) aa))))
noncomputable def xR:List D->Option Sl:=aH LW 2
theorem kJ:Wo (xR [a0,a1]) Q↔Wo (LW [.sh a0,.sh a1]) (aG Q):=bJ
noncomputable abbrev PM:Stmt:=top 26
noncomputable abbrev JC{α:Type}(Y:Str->Stmt->List Str->α):α:=Y "met" PM ["one","other"]
noncomputable def PV:En->Nat:=λ_=>1000000
noncomputable def Jv:SF:=
 (ah (de 2 (bq aa))
 (ah (aY 3 (eC (.int 0)))
 (ah (aY 4 (eC (.int 0)))
 (ah (Be PV (sV (bN (ae fC (eV 3) (aQ (bV 0)))) (bN (ae fC (eV 4) (aQ (bV 1)))))
 (ah (aY 5 (av (bV 0) (eV 3)))
 (ah (aY 6 (av (bV 1) (eV 4)))
 (ah (aY 7 (vm xc (af (av (bV 5) (eC (.int 0))) (af (av (bV 6) (eC (.int 0))) aa))))
 (ah (aY 8 (vm A1 (af (av (bV 5) (eC (.int 1))) (af (av (bV 6) (eC (.int 1))) aa))))
 (ah (bS (bN (ae uG (eV 7) (eV 8)))
 (cF 2 (aP (af (eV 7) (af (eV 8) (af (aA 2 xR (af (eV 5) (af (eV 7) aa))) (af (aA 2 xR (af (eV 6) (af (eV 7) aa))) aa)))))) cE)
 (bS (bN (ae fC (av (bV 5) (eC (.int 1))) (av (bV 6) (eC (.int 1)))))
 (iA 3 (eC (.int 1))) (iA 4 (eC (.int 1))))))))))
 (nK 2)))))
noncomputable def xr:List D->Option Sl:=aH Jv 9
theorem Cb:Wo (xr [a0,a1]) Q↔Wo (Jv [.sh a0,.sh a1,.no,.no,.no,.no,.no,.no,.no]) (aG Q):=bJ
noncomputable abbrev Qp:Stmt:=top 25
noncomputable abbrev JV{α:Type}(Y:Str->Stmt->List Str->α):α:=Y "plus" Qp ["one","other"]
noncomputable def JP:SF:=
 (aw (aA 1 mn (af (il (fW (aA 2 xr (af (eV 0) (af (eV 1) aa)))) [] 4 (gT 4 (ir (gN 0) (ir (gN 1) (ir (gN 2) (ir (gN 3) rk))))) nL (aP (af (eV 0) (af (eV 1) (af (ae bj (av (bV 2) (eC (.int 0))) (av (bV 3) (eC (.int 0)))) (af (ae bj (av (bV 2) (eC (.int 1))) (av (bV 3) (eC (.int 1)))) aa)))))) aa)))
noncomputable def Bu:List D->Option Sl:=aH JP 2
theorem vL:Wo (Bu [a0,a1]) Q↔Wo (JP [.sh a0,.sh a1]) (aG Q):=bJ
noncomputable abbrev Q8:Stmt:=top 28
noncomputable abbrev Kh{α:Type}(Y:Str->Stmt->List Str->α):α:=Y "times" Q8 ["form","many"]
noncomputable def Kj:SF:=
 (aw (aA 1 mn (af (il (fW (eV 0)) [1] 1 (gN 0) nL (aP (af (av (bV 0) (eC (.int 0))) (af (av (bV 0) (eC (.int 1))) (af (ae dr (av (bV 0) (eC (.int 2))) (eV 1)) (af (ae dr (av (bV 0) (eC (.int 3))) (eV 1)) aa)))))) aa)))
noncomputable def xE:List D->Option Sl:=aH Kj 2
theorem rM:Wo (xE [a0,a1]) Q↔Wo (Kj [.sh a0,.sh a1]) (aG Q):=bJ
noncomputable abbrev SE:Stmt:=top 11
noncomputable abbrev Mq{α:Type}(Y:Str->Stmt->List Str->α):α:=Y "stretch_on" SE ["line","low","first","last"]
noncomputable def Mn:SF:=
 (aw (aP (af (eV 2) (af (eV 3) (af (aA 3 tE (af (eV 0) (af (eV 1) (af (eV 2) aa)))) (af (av (bV 0) (eC (.int 1))) aa))))))
noncomputable def tI:List D->Option Sl:=aH Mn 4
theorem jF:Wo (tI [a0,a1,a2,a3]) Q↔Wo (Mn [.sh a0,.sh a1,.sh a2,.sh a3]) (aG Q):=bJ
noncomputable abbrev SD:Stmt:=top 10
noncomputable abbrev Mp{α:Type}(Y:Str->Stmt->List Str->α):α:=Y "lower_line" SD ["one","other","low","high"]
noncomputable def Mm:SF:=
 (ah (aY 4 (aA 4 xS (af (eV 0) (af (eV 1) (af (eV 2) (af (eV 3) aa))))))
 (ah (bS (bN (ae uH (eV 4) (eC .bz)))
 (aw (bq (af (aA 4 tI (af (eV 1) (af (eV 2) (af (eV 2) (af (eV 3) aa))))) aa))) cE)
 (ah (de 5 (bq aa))
 (ah (bS (bN (ae fC (eV 2) (av (bV 4) (eC (.int 0)))))
 (cF 5 (aA 4 tI (af (eV 1) (af (eV 2) (af (eV 2) (af (ae bL (av (bV 4) (eC (.int 0))) (eC (.int 1))) aa)))))) cE)
 (ah (cF 5 (aA 4 tI (af (eV 0) (af (eV 2) (af (av (bV 4) (eC (.int 0))) (af (av (bV 4) (eC (.int 1))) aa))))))
 (ah (bS (bN (ae fC (av (bV 4) (eC (.int 1))) (eV 3)))
 (cF 5 (aA 4 tI (af (eV 1) (af (eV 2) (af (ae bj (av (bV 4) (eC (.int 1))) (eC (.int 1))) (af (eV 3) aa)))))) cE)
 (nK 5)))))))
noncomputable def B9:List D->Option Sl:=aH Mm 6
theorem jG:Wo (B9 [a0,a1,a2,a3]) Q↔Wo (Mm [.sh a0,.sh a1,.sh a2,.sh a3,.no,.no]) (aG Q):=bJ
noncomputable abbrev SX:Stmt:=top 34
noncomputable abbrev Mj{α:Type}(Y:Str->Stmt->List Str->α):α:=Y "lesser_rows" SX ["one","other"]
noncomputable def Mc:SF:=
 (ah (de 2 (bq aa))
 (ah (eE (aA 2 xr (af (eV 0) (af (eV 1) aa))) (gT 4 (ir (gN 3) (ir (gN 4) (ir (gN 5) (ir (gN 6) rk)))))
 (jY 2 (aA 4 B9 (af (eV 5) (af (eV 6) (af (eV 3) (af (eV 4) aa)))))))
 (nK 2)))
noncomputable def B1:List D->Option Sl:=aH Mc 7
theorem iN:Wo (B1 [a0,a1]) Q↔Wo (Mc [.sh a0,.sh a1,.no,.no,.no,.no,.no]) (aG Q):=bJ
noncomputable abbrev PL:Stmt:=top 29
noncomputable abbrev JB{α:Type}(Y:Str->Stmt->List Str->α):α:=Y "cut" PL ["row","low","high"]
noncomputable def Jt:SF:=
 (aw (aP (af (eV 1) (af (eV 2) (af (aA 2 rK (af (eV 0) (af (eV 1) aa))) (af (av (bV 0) (eC (.int 3))) aa))))))
noncomputable def xq:List D->Option Sl:=aH Jt 3
theorem Cd:Wo (xq [a0,a1,a2]) Q↔Wo (Jt [.sh a0,.sh a1,.sh a2]) (aG Q):=bJ
noncomputable abbrev RM:Stmt:=top 30
noncomputable abbrev LI{α:Type}(Y:Str->Stmt->List Str->α):α:=Y "outside" RM ["form","spans"]
noncomputable def RE:En->Nat:=λ_=>1000000
noncomputable def Li:SF:=
 (ah (de 2 (bq aa))
 (ah (aY 3 (eC (.int 0)))
 (ah (eE (eV 0) (gN 4)
 (ah (aY 5 (av (bV 4) (eC (.int 0))))
 (ah (Be RE (sV (bN (ae fC (eV 3) (aQ (bV 1)))) (bN (ae uG (av (gx (av (bV 1) (eV 3))) (eC (.int 0))) (av (bV 4) (eC (.int 1))))))
 (ah (bS (bN (ae fC (eV 5) (av (gx (av (bV 1) (eV 3))) (eC (.int 0)))))
 (cF 2 (aA 3 xq (af (eV 4) (af (eV 5) (af (ae bL (av (gx (av (bV 1) (eV 3))) (eC (.int 0))) (eC (.int 1))) aa))))) cE)
 (ah (aY 5 (vm xc (af (eV 5) (af (ae bj (av (gx (av (bV 1) (eV 3))) (eC (.int 1))) (eC (.int 1))) aa))))
 (ah (bS (bN (ae qN (av (gx (av (bV 1) (eV 3))) (eC (.int 1))) (av (bV 4) (eC (.int 1)))))
 Ga cE)
 (iA 3 (eC (.int 1)))))))
 (bS (bN (ae uG (eV 5) (av (bV 4) (eC (.int 1)))))
 (cF 2 (aA 3 xq (af (eV 4) (af (eV 5) (af (av (bV 4) (eC (.int 1))) aa))))) cE))))
 (nK 2))))
noncomputable def xC:List D->Option Sl:=aH Li 6
theorem nQ:Wo (xC [a0,a1]) Q↔Wo (Li [.sh a0,.sh a1,.no,.no,.no,.no]) (aG Q):=bJ
noncomputable abbrev QW:Stmt:=top 32
noncomputable abbrev Ke{α:Type}(Y:Str->Stmt->List Str->α):α:=Y "least" QW ["one","other"]
noncomputable def Kz:SF:=
 (ah (aY 2 (ae bj (aA 2 xC (af (eV 0) (af (aA 1 qj (af (eV 1) aa)) aa))) (aA 2 xC (af (eV 1) (af (aA 1 qj (af (eV 0) aa)) aa)))))
 (aw (aA 1 mn (af (ER (ae bj (aA 2 B1 (af (eV 0) (af (eV 1) aa))) (eV 2))) aa))))
noncomputable def iX:List D->Option Sl:=aH Kz 3
theorem rO:Wo (iX [a0,a1]) Q↔Wo (Kz [.sh a0,.sh a1,.no]) (aG Q):=bJ
noncomputable abbrev RT:Stmt:=top 33
noncomputable abbrev cU{α:Type}(Y:Str->Stmt->List Str->α):α:=Y "least_of" RT ["forms"]
noncomputable def B0:List D->Option Sl:=λ_=>none
noncomputable def RW:SF:=
 (ah (bS (bN (ae fC (aQ (bV 0)) (eC (.int 2))))
 (aw (gU (cC (eV 0)) (av (bV 0) (eC (.int 0))) (aP aa))) cE)
 (ah (aY 1 (ae bH (aQ (bV 0)) (eC (.int 2))))
 (aw (aA 2 iX (af (aA 1 B0 (af (ec (bV 0) eG (dZ (eV 1))) aa)) (af (aA 1 B0 (af (ec (bV 0) (dZ (eV 1)) eG) aa)) aa))))))
noncomputable def xF:List D->Option Sl:=aH RW 2
theorem a8n:Wo (xF [a0]) Q↔Wo (RW [.sh a0,.no]) (aG Q):=bJ
noncomputable def RX:SF:=
 (ah (bS (bN (ae fC (aQ (bV 0)) (eC (.int 2))))
 (aw (gU (cC (eV 0)) (av (bV 0) (eC (.int 0))) (aP aa))) cE)
 (ah (aY 1 (ae bH (aQ (bV 0)) (eC (.int 2))))
 (aw (aA 2 iX (af (aA 1 xF (af (ec (bV 0) eG (dZ (eV 1))) aa)) (af (aA 1 xF (af (ec (bV 0) (dZ (eV 1)) eG) aa)) aa))))))
noncomputable def xG:List D->Option Sl:=aH RX 2
theorem a8m:Wo (xG [a0]) Q↔Wo (RX [.sh a0,.no]) (aG Q):=bJ
noncomputable def SG:SF:=
 (ah (bS (bN (ae fC (aQ (bV 0)) (eC (.int 2))))
 (aw (gU (cC (eV 0)) (av (bV 0) (eC (.int 0))) (aP aa))) cE)
 (ah (aY 1 (ae bH (aQ (bV 0)) (eC (.int 2))))
 (aw (aA 2 iX (af (aA 1 xG (af (ec (bV 0) eG (dZ (eV 1))) aa)) (af (aA 1 xG (af (ec (bV 0) (dZ (eV 1)) eG) aa)) aa))))))
noncomputable def xH:List D->Option Sl:=aH SG 2
theorem a8l:Wo (xH [a0]) Q↔Wo (SG [.sh a0,.no]) (aG Q):=bJ
noncomputable def SH:SF:=
 (ah (bS (bN (ae fC (aQ (bV 0)) (eC (.int 2))))
 (aw (gU (cC (eV 0)) (av (bV 0) (eC (.int 0))) (aP aa))) cE)
 (ah (aY 1 (ae bH (aQ (bV 0)) (eC (.int 2))))
 (aw (aA 2 iX (af (aA 1 xH (af (ec (bV 0) eG (dZ (eV 1))) aa)) (af (aA 1 xH (af (ec (bV 0) (dZ (eV 1)) eG) aa)) aa))))))
noncomputable def xI:List D->Option Sl:=aH SH 2
theorem a8k:Wo (xI [a0]) Q↔Wo (SH [.sh a0,.no]) (aG Q):=bJ
noncomputable def SI:SF:=
 (ah (bS (bN (ae fC (aQ (bV 0)) (eC (.int 2))))
 (aw (gU (cC (eV 0)) (av (bV 0) (eC (.int 0))) (aP aa))) cE)
 (ah (aY 1 (ae bH (aQ (bV 0)) (eC (.int 2))))
 (aw (aA 2 iX (af (aA 1 xI (af (ec (bV 0) eG (dZ (eV 1))) aa)) (af (aA 1 xI (af (ec (bV 0) (dZ (eV 1)) eG) aa)) aa))))))
noncomputable def xJ:List D->Option Sl:=aH SI 2
theorem a8j:Wo (xJ [a0]) Q↔Wo (SI [.sh a0,.no]) (aG Q):=bJ
noncomputable def SJ:SF:=
 (ah (bS (bN (ae fC (aQ (bV 0)) (eC (.int 2))))
 (aw (gU (cC (eV 0)) (av (bV 0) (eC (.int 0))) (aP aa))) cE)
 (ah (aY 1 (ae bH (aQ (bV 0)) (eC (.int 2))))
 (aw (aA 2 iX (af (aA 1 xJ (af (ec (bV 0) eG (dZ (eV 1))) aa)) (af (aA 1 xJ (af (ec (bV 0) (dZ (eV 1)) eG) aa)) aa))))))
noncomputable def xK:List D->Option Sl:=aH SJ 2
theorem a8i:Wo (xK [a0]) Q↔Wo (SJ [.sh a0,.no]) (aG Q):=bJ
noncomputable def SK:SF:=
 (ah (bS (bN (ae fC (aQ (bV 0)) (eC (.int 2))))
 (aw (gU (cC (eV 0)) (av (bV 0) (eC (.int 0))) (aP aa))) cE)
 (ah (aY 1 (ae bH (aQ (bV 0)) (eC (.int 2))))
 (aw (aA 2 iX (af (aA 1 xK (af (ec (bV 0) eG (dZ (eV 1))) aa)) (af (aA 1 xK (af (ec (bV 0) (dZ (eV 1)) eG) aa)) aa))))))
noncomputable def xM:List D->Option Sl:=aH SK 2
theorem a8h:Wo (xM [a0]) Q↔Wo (SK [.sh a0,.no]) (aG Q):=bJ
noncomputable def SM:SF:=
 (ah (bS (bN (ae fC (aQ (bV 0)) (eC (.int 2))))
 (aw (gU (cC (eV 0)) (av (bV 0) (eC (.int 0))) (aP aa))) cE)
 (ah (aY 1 (ae bH (aQ (bV 0)) (eC (.int 2))))
 (aw (aA 2 iX (af (aA 1 xM (af (ec (bV 0) eG (dZ (eV 1))) aa)) (af (aA 1 xM (af (ec (bV 0) (dZ (eV 1)) eG) aa)) aa))))))
noncomputable def vI:List D->Option Sl:=aH SM 2
theorem a8g:Wo (vI [a0]) Q↔Wo (SM [.sh a0,.no]) (aG Q):=bJ
noncomputable def SN:SF:=
 (ah (bS (bN (ae fC (aQ (bV 0)) (eC (.int 2))))
 (aw (gU (cC (eV 0)) (av (bV 0) (eC (.int 0))) (aP aa))) cE)
 (ah (aY 1 (ae bH (aQ (bV 0)) (eC (.int 2))))
 (aw (aA 2 iX (af (aA 1 vI (af (ec (bV 0) eG (dZ (eV 1))) aa)) (af (aA 1 vI (af (ec (bV 0) (dZ (eV 1)) eG) aa)) aa))))))
noncomputable def tJ:List D->Option Sl:=aH SN 2
theorem Sy:Wo (tJ [a0]) Q↔Wo (SN [.sh a0,.no]) (aG Q):=bJ
noncomputable def Sm:SF:=
 (ah (bS (bN (ae fC (aQ (bV 0)) (eC (.int 2))))
 (aw (gU (cC (eV 0)) (av (bV 0) (eC (.int 0))) (aP aa))) cE)
 (ah (aY 1 (ae bH (aQ (bV 0)) (eC (.int 2))))
 (aw (aA 2 iX (af (aA 1 tJ (af (ec (bV 0) eG (dZ (eV 1))) aa)) (af (aA 1 tJ (af (ec (bV 0) (dZ (eV 1)) eG) aa)) aa))))))
noncomputable def rG:List D->Option Sl:=aH Sm 2
theorem MB:Wo (rG [a0]) Q↔Wo (Sm [.sh a0,.no]) (aG Q):=bJ
noncomputable def Sn:SF:=
 (ah (bS (bN (ae fC (aQ (bV 0)) (eC (.int 2))))
 (aw (gU (cC (eV 0)) (av (bV 0) (eC (.int 0))) (aP aa))) cE)
 (ah (aY 1 (ae bH (aQ (bV 0)) (eC (.int 2))))
 (aw (aA 2 iX (af (aA 1 rG (af (ec (bV 0) eG (dZ (eV 1))) aa)) (af (aA 1 rG (af (ec (bV 0) (dZ (eV 1)) eG) aa)) aa))))))
noncomputable def rH:List D->Option Sl:=aH Sn 2
theorem Fq:Wo (rH [a0]) Q↔Wo (Sn [.sh a0,.no]) (aG Q):=bJ
noncomputable def So:SF:=
 (ah (bS (bN (ae fC (aQ (bV 0)) (eC (.int 2))))
 (aw (gU (cC (eV 0)) (av (bV 0) (eC (.int 0))) (aP aa))) cE)
 (ah (aY 1 (ae bH (aQ (bV 0)) (eC (.int 2))))
 (aw (aA 2 iX (af (aA 1 rH (af (ec (bV 0) eG (dZ (eV 1))) aa)) (af (aA 1 rH (af (ec (bV 0) (dZ (eV 1)) eG) aa)) aa))))))
noncomputable def rJ:List D->Option Sl:=aH So 2
theorem Ft:Wo (rJ [a0]) Q↔Wo (So [.sh a0,.no]) (aG Q):=bJ
noncomputable def Sr:SF:=
 (ah (bS (bN (ae fC (aQ (bV 0)) (eC (.int 2))))
 (aw (gU (cC (eV 0)) (av (bV 0) (eC (.int 0))) (aP aa))) cE)
 (ah (aY 1 (ae bH (aQ (bV 0)) (eC (.int 2))))
 (aw (aA 2 iX (af (aA 1 rJ (af (ec (bV 0) eG (dZ (eV 1))) aa)) (af (aA 1 rJ (af (ec (bV 0) (dZ (eV 1)) eG) aa)) aa))))))
noncomputable def rE:List D->Option Sl:=aH Sr 2
theorem Fu:Wo (rE [a0]) Q↔Wo (Sr [.sh a0,.no]) (aG Q):=bJ
noncomputable def Mz:SF:=
 (ah (bS (bN (ae fC (aQ (bV 0)) (eC (.int 2))))
 (aw (gU (cC (eV 0)) (av (bV 0) (eC (.int 0))) (aP aa))) cE)
 (ah (aY 1 (ae bH (aQ (bV 0)) (eC (.int 2))))
 (aw (aA 2 iX (af (aA 1 rE (af (ec (bV 0) eG (dZ (eV 1))) aa)) (af (aA 1 rE (af (ec (bV 0) (dZ (eV 1)) eG) aa)) aa))))))
noncomputable def pL:List D->Option Sl:=aH Mz 2
theorem bB:Wo (pL [a0]) Q↔Wo (Mz [.sh a0,.no]) (aG Q):=bJ
noncomputable abbrev RK:Stmt:=top 38
noncomputable abbrev LQ{α:Type}(Y:Str->Stmt->List Str->α):α:=Y "loss_of" RK ["x","cost","low","high"]
noncomputable def Lh:SF:=
 (aw (aA 1 mn (af (bq (af (aP (af (eV 2) (af (eV 3) (af (ae bL (eV 1) (ae dr (eV 2) (eV 0))) (af (fD (eV 0)) aa))))) aa)) aa)))
noncomputable def vG:List D->Option Sl:=aH Lh 4
theorem nR:Wo (vG [a0,a1,a2,a3]) Q↔Wo (Lh [.sh a0,.sh a1,.sh a2,.sh a3]) (aG Q):=bJ
noncomputable abbrev RL:Stmt:=top 23
noncomputable abbrev LH{α:Type}(Y:Str->Stmt->List Str->α):α:=Y "offered" RL ["form"]
noncomputable def E9:SF:=
 (ah (bS (bN (ae cZ (aQ (bV 0)) (eC (.int 0))))
 Et cE)
 (aw (eV 0)))
noncomputable def tF:List D->Option Sl:=aH E9 1
theorem iY:Wo (tF [a0]) Q↔Wo (E9 [.sh a0]) (aG Q):=bJ
noncomputable abbrev QV:Stmt:=top 37
noncomputable abbrev Kd{α:Type}(Y:Str->Stmt->List Str->α):α:=Y "gains" QV ["form","low","high"]
noncomputable def Ky:SF:=
 (ah (de 3 (bq aa))
 (ah (eE (aA 1 tF (af (eV 0) aa)) (gN 4)
 (ah (cF 3 (aA 4 vG (af (av (bV 4) (eC (.int 0))) (af (av (bV 4) (eC (.int 2))) (af (eV 1) (af (eV 2) aa))))))
 (cF 3 (aA 4 vG (af (av (bV 4) (eC (.int 1))) (af (aA 2 rK (af (eV 4) (af (av (bV 4) (eC (.int 1))) aa))) (af (eV 1) (af (eV 2) aa))))))))
 (m9 3 (aw (aA 2 xE (af (aA 1 pL (af (eV 3) aa)) (af (fD (eC (.int 1))) aa)))))))
noncomputable def oB:List D->Option Sl:=aH Ky 5
theorem rP:Wo (oB [a0,a1,a2]) Q↔Wo (Ky [.sh a0,.sh a1,.sh a2,.no,.no]) (aG Q):=bJ
noncomputable abbrev SY:Stmt:=top 22
noncomputable abbrev Mk{α:Type}(Y:Str->Stmt->List Str->α):α:=Y "most_amount" SY ["form"]
noncomputable def Md:SF:=
 (aw (av (gx (av (gx (aA 1 tF (af (eV 0) aa))) (fD (eC (.int 1))))) (eC (.int 1))))
noncomputable def xN:List D->Option Sl:=aH Md 1
theorem iM:Wo (xN [a0]) Q↔Wo (Md [.sh a0]) (aG Q):=bJ
noncomputable abbrev SQ:Stmt:=top 21
noncomputable abbrev Mr{α:Type}(Y:Str->Stmt->List Str->α):α:=Y "least_amount" SQ ["form"]
noncomputable def Mx:SF:=
 (aw (av (gx (av (gx (aA 1 tF (af (eV 0) aa))) (eC (.int 0)))) (eC (.int 0))))
noncomputable def xV:List D->Option Sl:=aH Mx 1
theorem h7:Wo (xV [a0]) Q↔Wo (Mx [.sh a0]) (aG Q):=bJ
noncomputable abbrev Qn:Stmt:=top 40
noncomputable abbrev JT{α:Type}(Y:Str->Stmt->List Str->α):α:=Y "hull" Qn ["form","low","high"]
noncomputable def JN:SF:=
 (aw (aA 3 oB (af (aA 3 oB (af (eV 0) (af (eV 1) (af (eV 2) aa)))) (af (aA 1 xV (af (eV 0) aa)) (af (aA 1 xN (af (eV 0) aa)) aa)))))
noncomputable def pJ:List D->Option Sl:=aH JN 3
theorem vN:Wo (pJ [a0,a1,a2]) Q↔Wo (JN [.sh a0,.sh a1,.sh a2]) (aG Q):=bJ
noncomputable abbrev Sj:Stmt:=top 43
noncomputable abbrev LG{α:Type}(Y:Str->Stmt->List Str->α):α:=Y "touching" Sj ["form","low","high"]
noncomputable def Lu:SF:=
 (aw (aA 2 B' (af (aA 2 Bu (af (eV 0) (af (aA 2 xE (af (aA 3 pJ (af (eV 0) (af (eV 1) (af (eV 2) aa)))) (af (fD (eC (.int 1))) aa))) aa))) (af (eC (.int 0)) aa))))
noncomputable def BJ:List D->Option Sl:=aH Lu 3
theorem mv:Wo (BJ [a0,a1,a2]) Q↔Wo (Lu [.sh a0,.sh a1,.sh a2]) (aG Q):=bJ
noncomputable abbrev S0:Stmt:=top 50
noncomputable abbrev Mw{α:Type}(Y:Str->Stmt->List Str->α):α:=Y "how_many_picks" S0 ["forms"]
noncomputable def Mv:SF:=
 (ah (aY 1 (eC (.int 1)))
 (ah (eE (eV 0) (gN 2)
 (Eb 1 (aQ (bV 2))))
 (aw (eV 1))))
noncomputable def xU:List D->Option Sl:=aH Mv 3
theorem f':Wo (xU [a0]) Q↔Wo (Mv [.sh a0,.no,.no]) (aG Q):=bJ
noncomputable abbrev Q6:Stmt:=top 49
noncomputable abbrev Kf{α:Type}(Y:Str->Stmt->List Str->α):α:=Y "picks" Q6 ["forms"]
noncomputable def EC:SF:=
 (ah (bS (bN (ae qN (aA 1 xU (af (eV 0) aa)) (eC (.int 100))))
 Et cE)
 (ah (bS (bN (ae cZ (aA 1 xU (af (eV 0) aa)) (eC (.int 0))))
 (aw (bq aa)) cE)
 (ah (aY 1 (bq (af (bq aa) aa)))
 (ah (eE (eV 0) (gN 2)
 (ah (de 3 (bq aa))
 (ah (eE (eV 1) (gN 4)
 (jY 3 (il (fW (eV 2)) [4] 1 (gN 0) nL (ae bj (eV 1) (bq (af (eV 0) aa))))))
 (m9 3 (aY 1 (eV 3))))))
 (aw (eV 1))))))
noncomputable def xD:List D->Option Sl:=aH EC 5
theorem mX:Wo (xD [a0]) Q↔Wo (EC [.sh a0,.no,.no,.no,.no]) (aG Q):=bJ
noncomputable abbrev RN:Stmt:=top 47
noncomputable abbrev LJ{α:Type}(Y:Str->Stmt->List Str->α):α:=Y "step_of" RN ["row"]
noncomputable def Lj:SF:=
 (aw (av (bV 0) (eC (.int 3))))
noncomputable def tG:List D->Option Sl:=aH Lj 1
theorem nP:Wo (tG [a0]) Q↔Wo (Lj [.sh a0]) (aG Q):=bJ
noncomputable abbrev Rc:Stmt:=top 46
noncomputable abbrev K2{α:Type}(Y:Str->Stmt->List Str->α):α:=Y "poured" Rc ["rows"]
noncomputable def KC:SF:=
 (ah (aY 1 (o8 (gx (il (fW (eV 0)) [] 1 (gN 0) nL (av (bV 0) (eC (.int 0)))))))
 (ah (aY 2 (o8 (gx (il (fW (eV 0)) [] 1 (gN 0) nL (av (bV 0) (eC (.int 2)))))))
 (ah (de 3 (bq (af (aP (af (eV 1) (af (eV 1) (af (eV 2) (af (eC (.int 0)) aa))))) aa)))
 (ah (eE (Bf tG (eV 0)) (gN 4)
 (ah (aY 5 (ae bL (av (bV 4) (eC (.int 1))) (av (bV 4) (eC (.int 0)))))
 (ah (bS (bN (ae qN (eV 5) (eC (.int 0))))
 (cF 3 (aP (af (ae bj (eV 1) (eC (.int 1))) (af (ae bj (eV 1) (eV 5)) (af (ae bj (eV 2) (av (bV 4) (eC (.int 3)))) (af (av (bV 4) (eC (.int 3))) aa)))))) cE)
 (ah (iA 1 (eV 5))
 (iA 2 (ae dr (av (bV 4) (eC (.int 3))) (eV 5)))))))
 (m9 3 (aw (aA 1 mn (af (eV 3) aa))))))))
noncomputable def vy:List D->Option Sl:=aH KC 6
theorem pO:Wo (vy [a0]) Q↔Wo (KC [.sh a0,.no,.no,.no,.no,.no]) (aG Q):=bJ
noncomputable abbrev SR:Stmt:=top 48
noncomputable abbrev Mt{α:Type}(Y:Str->Stmt->List Str->α):α:=Y "least_poured" SR ["forms"]
noncomputable def Fm:SF:=
 (aw (aA 1 pL (af (il (fW (aA 1 xD (af (eV 0) aa))) [] 1 (gN 0) nL (aA 1 vy (af (eV 0) aa))) aa)))
noncomputable def B3:List D->Option Sl:=aH Fm 1
theorem dX:Wo (B3 [a0]) Q↔Wo (Fm [.sh a0]) (aG Q):=bJ
noncomputable abbrev Rb:Stmt:=top 52
noncomputable abbrev K1{α:Type}(Y:Str->Stmt->List Str->α):α:=Y "joined" Rb ["forms"]
noncomputable def KA:SF:=
 (aw (aA 1 B3 (af (eV 0) aa)))
noncomputable def tH:List D->Option Sl:=aH KA 1
theorem pP:Wo (tH [a0]) Q↔Wo (KA [.sh a0]) (aG Q):=bJ
noncomputable abbrev SU:Stmt:=top 65
noncomputable abbrev Mi{α:Type}(Y:Str->Stmt->List Str->α):α:=Y "_law_choices" SU ["forms"]
noncomputable def Mb:SF:=
 (ah (aY 1 (eC (.int 1)))
 (ah (eE (eV 0) (gN 2)
 (aY 1 (ae dr (eV 1) (aQ (bV 2)))))
 (aw (eV 1))))
noncomputable def BZ:List D->Option Sl:=aH Mb 3
theorem iO:Wo (BZ [a0]) Q↔Wo (Mb [.sh a0,.no,.no]) (aG Q):=bJ
noncomputable abbrev Si:Stmt:=top 42
noncomputable abbrev LF{α:Type}(Y:Str->Stmt->List Str->α):α:=Y "steps_of" Si ["form"]
noncomputable def Lr:SF:=
 (ah (de 1 (bq aa))
 (ah (Ec (kf xg (af (eV 0) aa)) (gT 2 (ir (gN 2) (ir (gN 3) rk)))
 (ah (bS (bN (ae qN (eV 2) (eC (.int 0))))
 (cF 1 (ae bL (av (bV 3) (eC (.int 2))) (aA 2 rK (af (av (bV 0) (ae bL (eV 2) (eC (.int 1)))) (af (av (gx (av (bV 0) (ae bL (eV 2) (eC (.int 1))))) (eC (.int 1))) aa))))) cE)
 (bS (w9 (cC (aA 1 rF (af (eV 3) aa))))
 (cF 1 (av (bV 3) (eC (.int 3)))) cE)))
 (nK 1)))
noncomputable def BI:List D->Option Sl:=aH Lr 4
theorem mw:Wo (BI [a0]) Q↔Wo (Lr [.sh a0,.no,.no,.no]) (aG Q):=bJ
noncomputable abbrev Rf:Stmt:=top 41
noncomputable abbrev KL{α:Type}(Y:Str->Stmt->List Str->α):α:=Y "rising" Rf ["form"]
noncomputable def KD:SF:=
 (ah (aY 1 (aA 1 BI (af (eV 0) aa)))
 (aw (ny (ae uG (aQ (gx (aA 1 qj (af (eV 0) aa)))) (eC (.int 1))) (ae cZ (eV 1) (Bn (eV 1))))))
noncomputable def BY:List D->Option Sl:=aH KD 2
theorem pN:Wo (BY [a0]) Q↔Wo (KD [.sh a0,.no]) (aG Q):=bJ
noncomputable abbrev Sz:Stmt:=top 64
noncomputable abbrev Mo{α:Type}(Y:Str->Stmt->List Str->α):α:=Y "_law_beyond" Sz ["cell"]
noncomputable def Ml:SF:=
 (ah (bS (bN (ae cZ (ae bF (eV 0) (eC (.int 2))) (eC (.int 0))))
 (aw (eC (.int 0))) cE)
 (aw (ae bF (ae bH (eV 0) (eC (.int 2))) (eC (.int 50)))))
noncomputable def vK:List D->Option Sl:=aH Ml 1
theorem jH:Wo (vK [a0]) Q↔Wo (Ml [.sh a0]) (aG Q):=bJ
noncomputable abbrev Sw:Stmt:=top 54
noncomputable abbrev Mh{α:Type}(Y:Str->Stmt->List Str->α):α:=Y "_law_cell_at" Sw ["script","k"]
noncomputable def Ma:SF:=
 (ah (bS (bN (ae fC (eV 1) (aQ (bV 0))))
 (aw (av (bV 0) (eV 1))) cE)
 (aw (eC (.int 0))))
noncomputable def vH:List D->Option Sl:=aH Ma 2
theorem iP:Wo (vH [a0,a1]) Q↔Wo (Ma [.sh a0,.sh a1]) (aG Q):=bJ
noncomputable abbrev RR:Stmt:=top 61
noncomputable abbrev Lz{α:Type}(Y:Str->Stmt->List Str->α):α:=Y "_law_ends" RR ["every"]
noncomputable def Ln:SF:=
 (ah (de 1 (bq aa))
 (ah (eE (eV 0) (gT 4 (ir (gN 2) (ir (gN 3) (ir (gN 4) (ir (gN 5) rk)))))
 (ah (cF 1 (aP (af (eV 2) (af (eV 4) aa))))
 (cF 1 (aP (af (eV 3) (af (ae bj (eV 4) (ae dr (eV 5) (ae bL (eV 3) (eV 2)))) aa))))))
 (nK 1)))
noncomputable def BH:List D->Option Sl:=aH Ln 6
theorem mC:Wo (BH [a0]) Q↔Wo (Ln [.sh a0,.no,.no,.no,.no,.no]) (aG Q):=bJ
noncomputable abbrev R9:Stmt:=top 62
noncomputable abbrev L1{α:Type}(Y:Str->Stmt->List Str->α):α:=Y "_law_price" R9 ["every","m"]
noncomputable def LR:SF:=
 (ah (aY 2 (aA 1 BH (af (eV 0) aa)))
 (ah (aY 3 (av (bV 2) (ae bF (eV 1) (aQ (bV 2)))))
 (ah (aY 4 (av (bV 2) (ae bF (ae bH (eV 1) (eC (.int 64))) (aQ (bV 2)))))
 (ah (de 5 (bq (af (av (gx (av (bV 0) (ae bF (eV 1) (aQ (bV 0))))) (eC (.int 3))) (af (ae bj (av (gx (av (bV 0) (ae bF (eV 1) (aQ (bV 0))))) (eC (.int 3))) (eC (.int 1))) (af (ae bL (ae bF (ae bH (eV 1) (eC (.int 8))) (eC (.int 41))) (eC (.int 20))) (af (ae bL (ae bF (eV 1) (ae eQ (eC (.int 10)) (eC (.int 50)))) (ae dr (eC (.int 5)) (ae eQ (eC (.int 10)) (eC (.int 49))))) aa))))))
 (ah (bS (bN (ae iD (av (bV 3) (eC (.int 0))) (av (bV 4) (eC (.int 0)))))
 (ah (cF 5 (ae D7 (ae bL (av (bV 3) (eC (.int 1))) (av (bV 4) (eC (.int 1)))) (ae bL (av (bV 3) (eC (.int 0))) (av (bV 4) (eC (.int 0))))))
 (cF 5 (ae bj (ae D7 (ae bL (av (bV 3) (eC (.int 1))) (av (bV 4) (eC (.int 1)))) (ae bL (av (bV 3) (eC (.int 0))) (av (bV 4) (eC (.int 0))))) (eC (.int 1))))) cE)
 (aw (av (bV 5) (ae bF (ae bH (eV 1) (eC (.int 4096))) (aQ (bV 5))))))))))
noncomputable def vC:List D->Option Sl:=aH LR 6
theorem kO:Wo (vC [a0,a1]) Q↔Wo (LR [.sh a0,.sh a1,.no,.no,.no,.no]) (aG Q):=bJ
noncomputable abbrev R8:Stmt:=top 55
noncomputable abbrev L0{α:Type}(Y:Str->Stmt->List Str->α):α:=Y "_law_mixed" R8 ["cell","k"]
noncomputable def L8:SF:=
 (ah (aY 2 (ae dr (ae bj (ae bF (eV 0) (ae eQ (eC (.int 10)) (eC (.int 60)))) (eC (.int 3))) (ae bj (eC (.int 16180339887498948482045868343656381177203)) (ae dr (ae dr (eC (.int 2)) (eV 1)) (eV 1)))))
 (ah (aY 2 (ae bj (eV 2) (ae dr (eC (.int 6151)) (eV 1))))
 (aw (ae bF (ae dr (eV 2) (eV 2)) (ae bj (ae eQ (eC (.int 10)) (eC (.int 60))) (eC (.int 33)))))))
noncomputable def oE:List D->Option Sl:=aH L8 3
theorem kP:Wo (oE [a0,a1]) Q↔Wo (L8 [.sh a0,.sh a1,.no]) (aG Q):=bJ
noncomputable abbrev RI:Stmt:=top 57
noncomputable abbrev LN{α:Type}(Y:Str->Stmt->List Str->α):α:=Y "_law_row" RI ["at","m","ahead"]
noncomputable def Lf:SF:=
 (ah (aY 3 (ae bj (eV 0) (av (gx (bq (af (eC (.int 0)) (af (eC (.int 0)) (af (eC (.int 1)) (af (ae bj (eC (.int 1)) (ae bF (eV 1) (eC (.int 7)))) (af (ae bF (eV 1) (ae eQ (eC (.int 10)) (eC (.int 40)))) aa))))))) (ae bF (ae bH (eV 1) (eC (.int 8))) (eC (.int 5))))))
 (ah (aY 1 (aA 2 oE (af (eV 1) (af (eC (.int 61)) aa))))
 (ah (aY 4 (av (gx (bq (af (eC (.int 0)) (af (eC (.int 1)) (af (ae bF (eV 1) (eC (.int 6))) (af (ae bF (eV 1) (ae eQ (eC (.int 10)) (eC (.int 40)))) aa)))))) (ae bF (ae bH (eV 1) (eC (.int 16))) (eC (.int 4)))))
 (ah (aY 1 (aA 2 oE (af (eV 1) (af (eC (.int 62)) aa))))
 (ah (aY 5 (ae bL (ae bF (ae bH (eV 1) (eC (.int 4))) (eC (.int 41))) (eC (.int 20))))
 (ah (bS (bN (ae cZ (ae bF (eV 1) (eC (.int 4))) (eC (.int 0))))
 (aY 5 (ae bL (ae bF (ae bH (eV 1) (eC (.int 4))) (ae eQ (eC (.int 10)) (eC (.int 45)))) (ae dr (eC (.int 5)) (ae eQ (eC (.int 10)) (eC (.int 44)))))) cE)
 (ah (bS (bN (ae cZ (ae bF (eV 1) (eC (.int 4))) (eC (.int 1))))
 (aY 5 (ae bj (av (bV 2) (eC (.int 2))) (ae dr (av (bV 2) (eC (.int 3))) (ae bL (eV 3) (av (bV 2) (eC (.int 0))))))) cE)
 (ah (aY 1 (aA 2 oE (af (eV 1) (af (eC (.int 63)) aa))))
 (ah (aY 6 (ae bL (ae bF (ae bH (eV 1) (eC (.int 3))) (eC (.int 7))) (eC (.int 3))))
 (ah (bS (bN (ae cZ (ae bF (eV 1) (eC (.int 3))) (eC (.int 0))))
 (aY 6 (ae bL (ae bF (ae bH (eV 1) (eC (.int 3))) (ae eQ (eC (.int 10)) (eC (.int 30)))) (ae dr (eC (.int 5)) (ae eQ (eC (.int 10)) (eC (.int 29)))))) cE)
 (aw (aP (af (eV 3) (af (ae bj (eV 3) (eV 4)) (af (eV 5) (af (eV 6) aa))))))))))))))))
noncomputable def xB:List D->Option Sl:=aH Lf 7
theorem nT:Wo (xB [a0,a1,a2]) Q↔Wo (Lf [.sh a0,.sh a1,.sh a2,.no,.no,.no,.no]) (aG Q):=bJ
noncomputable abbrev RS:Stmt:=top 58
noncomputable abbrev LA{α:Type}(Y:Str->Stmt->List Str->α):α:=Y "_law_rows" RS ["m","many"]
noncomputable def Lo:SF:=
 (ah (aY 2 (ae bL (ae bF (ae bH (eV 0) (eC (.int 5))) (eC (.int 41))) (eC (.int 20))))
 (ah (bS (bN (ae cZ (ae bF (eV 0) (eC (.int 5))) (eC (.int 0))))
 (aY 2 (ae bL (ae bF (ae bH (eV 0) (eC (.int 5))) (ae eQ (eC (.int 10)) (eC (.int 45)))) (ae dr (eC (.int 5)) (ae eQ (eC (.int 10)) (eC (.int 44)))))) cE)
 (ah (de 3 (bq aa))
 (ah (aY 4 (aP (af (eC (.int 0)) (af (eC (.int 0)) (af (eC (.int 0)) (af (eC (.int 1)) aa))))))
 (ah (Ed qz (af (eV 1) aa) (gN 5)
 (ah (aY 0 (aA 2 oE (af (eV 0) (af (ae bj (eC (.int 70)) (eV 5)) aa))))
 (ah (aY 4 (aA 3 xB (af (eV 2) (af (eV 0) (af (eV 4) aa)))))
 (ah (cF 3 (eV 4))
 (aY 2 (ae bj (av (bV 4) (eC (.int 1))) (eC (.int 1))))))))
 (nK 3))))))
noncomputable def rL:List D->Option Sl:=aH Lo 6
theorem mz:Wo (rL [a0,a1]) Q↔Wo (Lo [.sh a0,.sh a1,.no,.no,.no,.no]) (aG Q):=bJ
noncomputable abbrev Sa:Stmt:=top 56
noncomputable abbrev L3{α:Type}(Y:Str->Stmt->List Str->α):α:=Y "_law_seeds" Sa ["cells","most"]
noncomputable def LU:SF:=
 (ah (de 2 (il (kf D9 (af (eV 1) aa)) [] 1 (gN 0) nL (aA 2 oE (af (eV 0) (af (eC (.int 40)) aa)))))
 (ah (Ec (kf xg (af (eV 0) aa)) (gT 2 (ir (gN 3) (ir (gN 4) rk)))
 (ah (aY 5 (ae bF (eV 3) (eV 1)))
 (w6 2 (aA 2 oE (af (ae bj (av (bV 2) (eV 5)) (ae bF (eV 4) (ae eQ (eC (.int 10)) (eC (.int 60))))) (af (ae bF (eV 3) (eC (.int 37))) aa))) (eV 5))))
 (nK 2)))
noncomputable def xP:List D->Option Sl:=aH LU 6
theorem kN:Wo (xP [a0,a1]) Q↔Wo (LU [.sh a0,.sh a1,.no,.no,.no,.no]) (aG Q):=bJ
noncomputable abbrev Bb:Stmt:=top 66
noncomputable abbrev yc{α:Type}(Y:Str->Stmt->List Str->α):α:=Y "law" Bb ["script"]
noncomputable def Ju:SF:=
 (ah (aY 1 (av (gx (bq (af (bq (af (eC (.int 3)) (af (eC (.int 3)) aa))) (af (bq (af (eC (.int 2)) (af (eC (.int 2)) (af (eC (.int 2)) aa)))) (af (bq (af (eC (.int 3)) (af (eC (.int 1)) aa))) (af (bq (af (eC (.int 1)) (af (eC (.int 2)) (af (eC (.int 1)) aa)))) aa)))))) (ae bF (aA 2 vH (af (eV 0) (af (eC (.int 0)) aa))) (eC (.int 4)))))
 (ah (aY 2 (aA 2 xP (af (ec (bV 0) (dZ (eC (.int 1))) eG) (af (aQ (bV 1)) aa))))
 (ah (aY 3 (il (kf qp (af (eV 2) (af (eV 1) aa))) [] 2 (gT 2 (ir (gN 0) (ir (gN 1) rk))) nL (aA 2 rL (af (eV 0) (af (eV 1) aa)))))
 (ah (aY 4 (il (fW (eV 3)) [] 1 (gN 0) nL (aA 1 mn (af (eV 0) aa))))
 (ah (aY 5 (Bn (bq (af (aA 2 vC (af (av (bV 3) (eC (.int 0))) (af (aA 2 oE (af (av (bV 2) (eC (.int 0))) (af (eC (.int 98)) aa))) aa))) (af (aA 2 vC (af (av (bV 3) (fD (eC (.int 1)))) (af (aA 2 oE (af (av (bV 2) (fD (eC (.int 1)))) (af (eC (.int 99)) aa))) aa))) aa)))))
 (ah (aY 6 (ae bL (av (bV 5) (eC (.int 0))) (aA 1 vK (af (aA 2 vH (af (eV 0) (af (eC (.int 1)) aa))) aa))))
 (ah (aY 7 (ae bj (av (bV 5) (eC (.int 1))) (aA 1 vK (af (aA 2 vH (af (eV 0) (af (eC (.int 2)) aa))) aa))))
 (ah (aY 8 (aA 1 tH (af (eV 4) aa)))
 (ah (aY 9 (aA 3 pJ (af (eV 8) (af (eV 6) (af (eV 7) aa)))))
 (ah (bS (iy (bN (ae D8 (aA 1 BY (af (eV 9) aa)) (eC (.bl true)))) (bN (ae iD (aA 3 oB (af (eV 9) (af (eV 6) (af (eV 7) aa)))) (aA 3 oB (af (eV 8) (af (eV 6) (af (eV 7) aa)))))))
 (aw (eC (.bl false))) cE)
 (ah (aY 10 (il (fW (eV 4)) [6,7] 1 (gN 0) nL (aA 3 pJ (af (eV 0) (af (eV 1) (af (eV 2) aa))))))
 (ah (bS (bN (ae qN (aA 1 BZ (af (eV 10) aa)) (eC (.int 24))))
 (aw (eC (.bl true))) cE)
 (ah (aY 11 (aA 1 tH (af (eV 10) aa)))
 (ah (eE (aA 3 BJ (af (eV 8) (af (eV 6) (af (eV 7) aa)))) (gT 2 (ir (gN 12) (ir (gN 13) rk)))
 (eE (bq (af (eV 12) (af (eV 13) aa))) (gN 14)
 (bS (iy (w9 (cC (aA 1 xQ (af (aA 2 qk (af (eV 8) (af (eV 14) aa))) aa)))) (bN (ae iD (aA 2 qk (af (eV 11) (af (eV 14) aa))) (aA 2 qk (af (eV 8) (af (eV 14) aa))))))
 (aw (eC (.bl false))) cE)))
 (aw (ae cZ (eV 11) (eV 9)))))))))))))))))
noncomputable def EL:List D->Option Sl:=aH Ju 15
theorem Cc:Wo (EL [a0]) Q↔Wo (Ju [.sh a0,.no,.no,.no,.no,.no,.no,.no,.no,.no,.no,.no,.no,.no,.no]) (aG Q):=bJ
section
variable {P:Program}{w:World}{K:aM}{mg:Str->Option Value}{base:Heap}
variable (z_max:mg "max" = none)
variable (z_min:mg "min" = none)
variable (z_tuple:mg "tuple" = none)
variable (z_len:mg "len" = none)
variable (z_sorted:mg "sorted" = none)
variable (z_enumerate:mg "enumerate" = none)
variable (z_sum:mg "sum" = none)
variable (z_MOST_PICKS:MM mg "MOST_PICKS" 100)
variable (z_range:mg "range" = none)
variable (z_isinstance:mg "isinstance" = none)
variable (z_bool:mg "bool" = none)
variable (z_int:mg "int" = none)
variable (z_zip:mg "zip" = none)
theorem b0W(D':LP (Def K mg) a d):LP (Oz P w K mg base) 1 tE:=aK (N:=["line","low","x"]) D' λX r h=>by
 cases r
 exact (aI (bf (aD et (az (h.bv 0) ai) (aD ku (az (h.bv 0) ai) (aD gh (h.v 2) (h.v 1))))))
variable (qg:LP (Oz P w K mg base) 1 tE)
include qg in
theorem a9w(D':Ly (Def K mg) a d):Ly (Oz P w K mg base) 2 rK:=aK (N:=["row","x"]) D' λX r h=>by
 cases r
 exact (aI (bf (h.cl qg (ag (dk (ag (az (h.bv 0) ai) (ag (az (h.bv 0) ai) ao))) (ag (az (h.bv 0) ai) (ag (h.v 1) ao))))))
variable (lN:Ly (Oz P w K mg base) 2 rK)
include z_len in
theorem a9t(D':LB (Def K mg) a d):LB (Oz P w K mg base) 1 xT:=aK (N:=["form","x","first","behind","middle"]) D' λX r h=>by
 cases r
 exact (aF (h.aE 2 ai) (aF (h.aE 3 (cY h.g z_len (h.bv 0))) (aF (K0 RP h.own (bW gg (h.v 2) (h.v 3)) (aF (h.aE 4 (aD fK (aD et (h.v 2) (h.v 3)) ai)) (aI (cR (bW gg (az (ik (az (h.bv 0) (h.v 4))) ai) (h.v 1)) (aI (h.aE 2 (aD et (h.v 4) ai))) (aI (h.aE 3 (h.v 4))))))) (aI (bf (h.v 2))))))
variable (Fj:LB (Oz P w K mg base) 1 xT)
include z_len lN Fj in
theorem b0Y(D':LM (Def K mg) a d):LM (Oz P w K mg base) 3 qk:=aK (N:=["form","x","place"]) D' λX r h=>by
 cases r
 exact (aF (h.aE 2 (h.cl Fj (ag (h.v 0) (ag (h.v 1) ao)))) (aF (cR (jU (Ek (bW (mW h.u8) (h.v 2) (cY h.g z_len (h.bv 0))) (Ez (bW gg (h.v 1) (az (ik (az (h.bv 0) (h.v 2))) ai))))) (aI (bf Bc)) c9) (aI (bf (h.cl lN (ag (az (h.bv 0) (h.v 2)) (ag (h.v 1) ao)))))))
variable (xu:LM (Oz P w K mg base) 3 qk)
include z_isinstance z_bool z_int in
theorem a8I(D':L4 (Def K mg) a d):L4 (Oz P w K mg base) 1 xQ:=aK (N:=["found"]) D' λX r h=>by
 cases r
 exact (aI (bf (Pq (Pr (cX rfl) h.g z_isinstance h.g z_int (by decide +kernel) (h.v 0)) (Pt (b8w (Pr (bP (cX rfl)) h.g z_isinstance h.g z_bool (by decide +kernel) (h.v 0)))))))
variable (Fe:L4 (Oz P w K mg base) 1 xQ)
include z_tuple in
theorem a9s(D':LC (Def K mg) a d):LC (Oz P w K mg base) 1 qj:=aK (N:=["form","spans","row","ahead"]) D' λX r h=>by
 cases r
 exact (aF (h.set 1 (eZ ao)) (aF (nO h.own h.calm (h.v 0) (h.tg 2) (aI (cR (jU (Ey (Qt (h.bv 1)) (EF (bW (mW h.u8) (aD et (az (ik (az (h.bv 1) (oz ai))) ai) ai) (az (h.bv 2) ai))))) (aF (h.pop 3 1) (aI (h.app 1 (dk (ag (az (h.bv 3) ai) (ag (az (h.bv 2) ai) ao)))))) (aI (h.app 1 (dk (ag (az (h.bv 2) ai) (ag (az (h.bv 2) ai) ao)))))))) (aI (bf (QE h.g z_tuple (h.bv 1))))))
variable (pH:LC (Oz P w K mg base) 1 qj)
theorem a8M(D':LZ (Def K mg) a d):LZ (Oz P w K mg base) 1 rF:=aK (N:=["row"]) D' λX r h=>by
 cases r
 exact (aI (bf (El (mW h.u8) (az (h.bv 0) ai) (az (h.bv 0) ai))))
variable (pM:LZ (Oz P w K mg base) 1 rF)
include pM in
theorem b3J(D':Kg (Def K mg) a d):Kg (Oz P w K mg base) 2 rD:=aK (N:=["row"]) D' λX r h=>by
 cases r
 exact (aI (bf (jS (jE (h.cl pM (ag (h.v 0) ao))) (dk (ag (az (h.bv 0) ai) (ag (az (h.bv 0) ai) (ag (az (h.bv 0) ai) (ag ai ao))))) (h.v 0))))
variable (tf:Kg (Oz P w K mg base) 2 rD)
include qg pM tf in
theorem a68(D':Mf (Def K mg) a d):Mf (Oz P w K mg base) 3 Ca:=aK (N:=["ahead","row","step","rest"]) D' λX r h=>by
 cases r
 exact (aF (h.aE 2 (jS (jE (h.cl pM (ag (h.v 0) ao))) (aD gh (az (h.bv 1) ai) (az (h.bv 0) ai)) (az (h.bv 0) ai))) (aF (cR (bW (Es h.u8) (az (h.bv 1) ai) (h.cl qg (ag (dk (ag (az (h.bv 0) ai) (ag (h.v 2) ao))) (ag (az (h.bv 0) ai) (ag (az (h.bv 1) ai) ao))))) (aI (bf (eZ (ag (h.v 0) (ag (h.cl tf (ag (h.v 1) ao)) ao))))) c9) (aF (cR (jU (Ek (jE (h.cl pM (ag (h.v 1) ao))) (Ez (bW (mW h.u8) (az (h.bv 1) ai) (h.v 2))))) (aI (bf (eZ (ag (dk (ag (az (h.bv 0) ai) (ag (az (h.bv 1) ai) (ag (az (h.bv 0) ai) (ag (h.v 2) ao))))) ao)))) c9) (aF (h.aE 3 (h.cl tf (ag (dk (ag (aD et (az (h.bv 1) ai) ai) (ag (az (h.bv 1) ai) (ag (aD et (az (h.bv 1) ai) (az (h.bv 1) ai)) (ag (az (h.bv 1) ai) ao))))) ao))) (aI (bf (eZ (ag (dk (ag (az (h.bv 0) ai) (ag (az (h.bv 1) ai) (ag (az (h.bv 0) ai) (ag (h.v 2) ao))))) (ag (h.v 3) ao)))))))))
variable (Fy:Mf (Oz P w K mg base) 3 Ca)
include z_tuple tf Fy in
theorem b55(D':JU (Def K mg) a d):JU (Oz P w K mg base) 4 mn:=aK (N:=["rows","made","row","ahead"]) D' λX r h=>by
 cases r
 exact (aF (h.set 1 (eZ ao)) (aF (nO h.own h.calm (h.v 0) (h.tg 2) (aI (cR (jU (Ey (Qt (h.bv 1)) (EF (bW (mW h.u8) (aD et (az (ik (az (h.bv 1) (oz ai))) ai) ai) (az (h.bv 2) ai))))) (aF (h.pop 3 1) (aI (h.ext 1 (h.cl Fy (ag (h.v 3) (ag (h.v 2) ao)))))) (aI (h.app 1 (h.cl tf (ag (h.v 2) ao))))))) (aI (bf (QE h.g z_tuple (h.bv 1))))))
variable (iq:JU (Oz P w K mg base) 4 mn)
theorem a6h(D':Mu (Def K mg) a d):Mu (Oz P w K mg base) 1 xW:=aK (N:=["first","last"]) D' λX r h=>by
 cases r
 exact (aI (bf (jS (bW A6 (h.v 0) (h.v 1)) (dk (ag (h.v 0) (ag (h.v 1) ao))) Bc)))
variable (B8:Mu (Oz P w K mg base) 1 xW)
theorem yU(D':tS (Def K mg) a d):tS (Oz P w K mg base) 1 Bd:=aK (N:=["a","b"]) D' λX r h=>by
 cases r
 exact (aI (bf (oz (aD fK (oz (h.v 0)) (h.v 1)))))
variable (O_up:tS (Oz P w K mg base) 1 Bd)
theorem b57(D':JS (Def K mg) a d):JS (Oz P w K mg base) 1 Bt:=aK (N:=["a","b"]) D' λX r h=>by
 cases r
 exact (aI (bf (aD fK (h.v 0) (h.v 1))))
variable (Eu:JS (Oz P w K mg base) 1 Bt)
include z_max z_min B8 O_up Eu in
theorem a8G(D':L6 (Def K mg) a d):L6 (Oz P w K mg base) 2 xS:=aK (N:=["one","other","low","high","above","slope"]) D' λX r h=>by
 cases r
 exact (aF (h.aE 4 (aD gh (az (h.bv 0) ai) (az (h.bv 1) ai))) (aF (h.aE 5 (aD gh (az (h.bv 0) ai) (az (h.bv 1) ai))) (aF (cR (bW vf (h.v 5) ai) (aI (bf (h.cl B8 (ag (h.v 2) (ag (Bo (Qh h.calm) h.g z_min (by decide +kernel) (ag (h.v 3) (ag (aD et (h.v 2) (h.cl Eu (ag (oz (h.v 4)) (ag (h.v 5) ao)))) ao))) ao))))) c9) (aF (cR (bW gg (h.v 5) ai) (aI (bf (h.cl B8 (ag (Bo (Ko h.calm) h.g z_max (by decide +kernel) (ag (h.v 2) (ag (aD et (h.v 2) (h.cl O_up (ag (h.v 4) (ag (oz (h.v 5)) ao)))) ao))) (ag (h.v 3) ao))))) c9) (aI (bf (jS (bW vf (h.v 4) ai) Bc (dk (ag (h.v 2) (ag (h.v 3) ao))))))))))
variable (vE:L6 (Oz P w K mg base) 2 xS)
include pH iq vE in
theorem a69(D':Me (Def K mg) a d):Me (Oz P w K mg base) 5 B':=aK (N:=["form","price","found"]) D' λX r h=>by
 cases r
 exact (aF (Bk (i:=2) false (N':=["row","price"]) (caps:=[1]) (nt:=1) h ⟨rfl,by decide +kernel,by decide +kernel,by decide +kernel,by decide +kernel,rfl,rfl,by decide +kernel⟩ (qc (h.v 0)) (λX1 dU dS dR dQ dP h1=>⟨(h1.tg 0),pE,(h1.cl (nh dU dS dR dQ dP vE) (ag (dk (ag (az (h1.bv 0) ai) (ag (az (h1.bv 0) ai) ao))) (ag (dk (ag (h1.v 1) (ag ai ao))) (ag (az (h1.bv 0) ai) (ag (az (h1.bv 0) ai) ao)))))⟩)) (aI (bf (h.cl pH (ag (h.cl iq (ag (vt (N':=["span"]) (caps:=[]) (nt:=1) h ⟨rfl,by decide +kernel,by decide +kernel,by decide +kernel,by decide +kernel,rfl,rfl,by decide +kernel⟩ (qc (h.v 2)) (λX1 dU dS dR dQ dP h1=>⟨(h1.tg 0),(b8n (bW b6a (h1.v 0) Bc)),(dk (ag (az (h1.bv 0) ai) (ag (az (h1.bv 0) ai) (ag ai (ag ai ao)))))⟩)) ao)) ao)))))
variable (Fw:Me (Oz P w K mg base) 5 B')
include lN in
theorem a8H(D':L5 (Def K mg) a d):L5 (Oz P w K mg base) 3 xR:=aK (N:=["row","low"]) D' λX r h=>by
 cases r
 exact (aI (bf (dk (ag (h.cl lN (ag (h.v 0) (ag (h.v 1) ao))) (ag (az (h.bv 0) ai) ao)))))
variable (BW:L5 (Oz P w K mg base) 3 xR)
include z_max z_min z_len BW in
theorem b70(D':JC (Def K mg) a d):JC (Oz P w K mg base) 4 xr:=aK (N:=["one","other","parts","first","second","mine","yours","low","high"]) D' λX r h=>by
 cases r
 exact (aF (h.set 2 (eZ ao)) (aF (h.aE 3 ai) (aF (h.aE 4 ai) (aF (K0 PV h.own (jU (Ey (bW gg (h.v 3) (cY h.g z_len (h.bv 0))) (EF (bW gg (h.v 4) (cY h.g z_len (h.bv 1)))))) (aF (h.aE 5 (az (h.bv 0) (h.v 3))) (aF (h.aE 6 (az (h.bv 1) (h.v 4))) (aF (h.aE 7 (Bo (Ko h.calm) h.g z_max (by decide +kernel) (ag (az (h.bv 5) ai) (ag (az (h.bv 6) ai) ao)))) (aF (h.aE 8 (Bo (Qh h.calm) h.g z_min (by decide +kernel) (ag (az (h.bv 5) ai) (ag (az (h.bv 6) ai) ao)))) (aF (cR (bW A6 (h.v 7) (h.v 8)) (aI (h.app 2 (dk (ag (h.v 7) (ag (h.v 8) (ag (h.cl BW (ag (h.v 5) (ag (h.v 7) ao))) (ag (h.cl BW (ag (h.v 6) (ag (h.v 7) ao))) ao))))))) c9) (aI (cR (bW gg (az (h.bv 5) ai) (az (h.bv 6) ai)) (aI (h.aug 3 ai)) (aI (h.aug 4 ai)))))))))) (aI (h.jZ 2))))))
variable (vh:JC (Oz P w K mg base) 4 xr)
include iq vh in
theorem b54(D':JV (Def K mg) a d):JV (Oz P w K mg base) 5 Bu:=aK (N:=["one","other"]) D' λX r h=>by
 cases r
 exact (aI (bf (h.cl iq (ag (vt (N':=["low","high","mine","yours"]) (caps:=[]) (nt:=4) h ⟨rfl,by decide +kernel,by decide +kernel,by decide +kernel,by decide +kernel,rfl,rfl,by decide +kernel⟩ (qc (h.cl vh (ag (h.v 0) (ag (h.v 1) ao)))) (λX1 dU dS dR dQ dP h1=>⟨(vj (n:=4) h1.calm (iW (h1.tg 0) (iW (h1.tg 1) (iW (h1.tg 2) (iW (h1.tg 3) vv))))),pE,(dk (ag (h1.v 0) (ag (h1.v 1) (ag (aD et (az (h1.bv 2) ai) (az (h1.bv 3) ai)) (ag (aD et (az (h1.bv 2) ai) (az (h1.bv 3) ai)) ao)))))⟩)) ao))))
variable (Ew:JV (Oz P w K mg base) 5 Bu)
include iq in
theorem b3I(D':Kh (Def K mg) a d):Kh (Oz P w K mg base) 5 xE:=aK (N:=["form","many"]) D' λX r h=>by
 cases r
 exact (aI (bf (h.cl iq (ag (vt (N':=["row","many"]) (caps:=[1]) (nt:=1) h ⟨rfl,by decide +kernel,by decide +kernel,by decide +kernel,by decide +kernel,rfl,rfl,by decide +kernel⟩ (qc (h.v 0)) (λX1 dU dS dR dQ dP h1=>⟨(h1.tg 0),pE,(dk (ag (az (h1.bv 0) ai) (ag (az (h1.bv 0) ai) (ag (aD ku (az (h1.bv 0) ai) (h1.v 1)) (ag (aD ku (az (h1.bv 0) ai) (h1.v 1)) ao)))))⟩)) ao))))
variable (vo:Kh (Oz P w K mg base) 5 xE)
include qg in
theorem a7P(D':Mq (Def K mg) a d):Mq (Oz P w K mg base) 2 tI:=aK (N:=["line","low","first","last"]) D' λX r h=>by
 cases r
 exact (aI (bf (dk (ag (h.v 2) (ag (h.v 3) (ag (h.cl qg (ag (h.v 0) (ag (h.v 1) (ag (h.v 2) ao)))) (ag (az (h.bv 0) ai) ao)))))))
variable (vD:Mq (Oz P w K mg base) 2 tI)
include vE vD in
theorem a7R(D':Mp (Def K mg) a d):Mp (Oz P w K mg base) 3 B9:=aK (N:=["one","other","low","high","span","rows"]) D' λX r h=>by
 cases r
 exact (aF (h.aE 4 (h.cl vE (ag (h.v 0) (ag (h.v 1) (ag (h.v 2) (ag (h.v 3) ao)))))) (aF (cR (bW b73 (h.v 4) Bc) (aI (bf (eZ (ag (h.cl vD (ag (h.v 1) (ag (h.v 2) (ag (h.v 2) (ag (h.v 3) ao))))) ao)))) c9) (aF (h.set 5 (eZ ao)) (aF (cR (bW gg (h.v 2) (az (h.bv 4) ai)) (aI (h.app 5 (h.cl vD (ag (h.v 1) (ag (h.v 2) (ag (h.v 2) (ag (aD gh (az (h.bv 4) ai) ai) ao))))))) c9) (aF (h.app 5 (h.cl vD (ag (h.v 0) (ag (h.v 2) (ag (az (h.bv 4) ai) (ag (az (h.bv 4) ai) ao)))))) (aF (cR (bW gg (az (h.bv 4) ai) (h.v 3)) (aI (h.app 5 (h.cl vD (ag (h.v 1) (ag (h.v 2) (ag (aD et (az (h.bv 4) ai) ai) (ag (h.v 3) ao))))))) c9) (aI (h.jZ 5))))))))
variable (Fv:Mp (Oz P w K mg base) 3 B9)
include vh Fv in
theorem a6V(D':Mj (Def K mg) a d):Mj (Oz P w K mg base) 5 B1:=aK (N:=["one","other","rows","low","high","mine","yours"]) D' λX r h=>by
 cases r
 exact (aF (h.set 2 (eZ ao)) (aF (nO h.own h.calm (h.cl vh (ag (h.v 0) (ag (h.v 1) ao))) (vj (n:=4) h.calm (iW (h.tg 3) (iW (h.tg 4) (iW (h.tg 5) (iW (h.tg 6) vv))))) (aI (h.ext 2 (h.cl Fv (ag (h.v 5) (ag (h.v 6) (ag (h.v 3) (ag (h.v 4) ao)))))))) (aI (h.jZ 2))))
variable (FA:Mj (Oz P w K mg base) 5 B1)
include lN in
theorem b72(D':JB (Def K mg) a d):JB (Oz P w K mg base) 3 xq:=aK (N:=["row","low","high"]) D' λX r h=>by
 cases r
 exact (aI (bf (dk (ag (h.v 1) (ag (h.v 2) (ag (h.cl lN (ag (h.v 0) (ag (h.v 1) ao))) (ag (az (h.bv 0) ai) ao)))))))
variable (A2:JB (Oz P w K mg base) 3 xq)
include z_max z_len A2 in
theorem b0T(D':LI (Def K mg) a d):LI (Oz P w K mg base) 4 xC:=aK (N:=["form","spans","rows","place","row","low"]) D' λX r h=>by
 cases r
 exact (aF (h.set 2 (eZ ao)) (aF (h.aE 3 ai) (aF (nO h.own h.calm (h.v 0) (h.tg 4) (aF (h.aE 5 (az (h.bv 4) ai)) (aF (K0 RE h.own (jU (Ey (bW gg (h.v 3) (cY h.g z_len (h.bv 1))) (EF (bW A6 (az (ik (az (h.bv 1) (h.v 3))) ai) (az (h.bv 4) ai))))) (aF (cR (bW gg (h.v 5) (az (ik (az (h.bv 1) (h.v 3))) ai)) (aI (h.app 2 (h.cl A2 (ag (h.v 4) (ag (h.v 5) (ag (aD gh (az (ik (az (h.bv 1) (h.v 3))) ai) ai) ao)))))) c9) (aF (h.aE 5 (Bo (Ko h.calm) h.g z_max (by decide +kernel) (ag (h.v 5) (ag (aD et (az (ik (az (h.bv 1) (h.v 3))) ai) ai) ao)))) (aF (cR (bW vf (az (ik (az (h.bv 1) (h.v 3))) ai) (az (h.bv 4) ai)) (aI b3h) c9) (aI (h.aug 3 ai)))))) (aI (cR (bW A6 (h.v 5) (az (h.bv 4) ai)) (aI (h.app 2 (h.cl A2 (ag (h.v 4) (ag (h.v 5) (ag (az (h.bv 4) ai) ao)))))) c9))))) (aI (h.jZ 2)))))
variable (BC:LI (Oz P w K mg base) 4 xC)
include z_sorted pH iq FA BC in
theorem b3L(D':Ke (Def K mg) a d):Ke (Oz P w K mg base) 6 iX:=aK (N:=["one","other","alone"]) D' λX r h=>by
 cases r
 exact (aF (h.aE 2 (aD et (h.cl BC (ag (h.v 0) (ag (h.cl pH (ag (h.v 1) ao)) ao))) (h.cl BC (ag (h.v 1) (ag (h.cl pH (ag (h.v 0) ao)) ao))))) (aI (bf (h.cl iq (ag (b2v h.g z_sorted (aD et (h.cl FA (ag (h.v 0) (ag (h.v 1) ao))) (h.v 2))) ao)))))
variable (c6:Ke (Oz P w K mg base) 6 iX)
theorem a65(D':cU (Def K mg) a d):cU (Oz P w K mg base) 1 B0:=b5Y D'
variable (O_least_of__0:cU (Oz P w K mg base) 1 B0)
include z_len c6 O_least_of__0 in
theorem a64(D':cU (Def K mg) a d):cU (Oz P w K mg base) 7 xF:=aK (N:=["forms","half"]) D' λX r h=>by
 cases r
 exact (aF (cR (bW gg (cY h.g z_len (h.bv 0)) ai) (aI (bf (jS (jE (h.v 0)) (az (h.bv 0) ai) (dk ao)))) c9) (aF (h.aE 1 (aD fK (cY h.g z_len (h.bv 0)) ai)) (aI (bf (h.cl c6 (ag (h.cl O_least_of__0 (ag (fH (h.bv 0) fI (fJ (h.v 1))) ao)) (ag (h.cl O_least_of__0 (ag (fH (h.bv 0) (fJ (h.v 1)) fI) ao)) ao)))))))
variable (BK:cU (Oz P w K mg base) 7 xF)
include z_len c6 BK in
theorem a63(D':cU (Def K mg) a d):cU (Oz P w K mg base) 8 xG:=aK (N:=["forms","half"]) D' λX r h=>by
 cases r
 exact (aF (cR (bW gg (cY h.g z_len (h.bv 0)) ai) (aI (bf (jS (jE (h.v 0)) (az (h.bv 0) ai) (dk ao)))) c9) (aF (h.aE 1 (aD fK (cY h.g z_len (h.bv 0)) ai)) (aI (bf (h.cl c6 (ag (h.cl BK (ag (fH (h.bv 0) fI (fJ (h.v 1))) ao)) (ag (h.cl BK (ag (fH (h.bv 0) (fJ (h.v 1)) fI) ao)) ao)))))))
variable (BL:cU (Oz P w K mg base) 8 xG)
include z_len c6 BL in
theorem a62(D':cU (Def K mg) a d):cU (Oz P w K mg base) 9 xH:=aK (N:=["forms","half"]) D' λX r h=>by
 cases r
 exact (aF (cR (bW gg (cY h.g z_len (h.bv 0)) ai) (aI (bf (jS (jE (h.v 0)) (az (h.bv 0) ai) (dk ao)))) c9) (aF (h.aE 1 (aD fK (cY h.g z_len (h.bv 0)) ai)) (aI (bf (h.cl c6 (ag (h.cl BL (ag (fH (h.bv 0) fI (fJ (h.v 1))) ao)) (ag (h.cl BL (ag (fH (h.bv 0) (fJ (h.v 1)) fI) ao)) ao)))))))
variable (BM:cU (Oz P w K mg base) 9 xH)
include z_len c6 BM in
theorem a61(D':cU (Def K mg) a d):cU (Oz P w K mg base) 10 xI:=aK (N:=["forms","half"]) D' λX r h=>by
 cases r
 exact (aF (cR (bW gg (cY h.g z_len (h.bv 0)) ai) (aI (bf (jS (jE (h.v 0)) (az (h.bv 0) ai) (dk ao)))) c9) (aF (h.aE 1 (aD fK (cY h.g z_len (h.bv 0)) ai)) (aI (bf (h.cl c6 (ag (h.cl BM (ag (fH (h.bv 0) fI (fJ (h.v 1))) ao)) (ag (h.cl BM (ag (fH (h.bv 0) (fJ (h.v 1)) fI) ao)) ao)))))))
variable (BN:cU (Oz P w K mg base) 10 xI)
include z_len c6 BN in
theorem a60(D':cU (Def K mg) a d):cU (Oz P w K mg base) 11 xJ:=aK (N:=["forms","half"]) D' λX r h=>by
 cases r
 exact (aF (cR (bW gg (cY h.g z_len (h.bv 0)) ai) (aI (bf (jS (jE (h.v 0)) (az (h.bv 0) ai) (dk ao)))) c9) (aF (h.aE 1 (aD fK (cY h.g z_len (h.bv 0)) ai)) (aI (bf (h.cl c6 (ag (h.cl BN (ag (fH (h.bv 0) fI (fJ (h.v 1))) ao)) (ag (h.cl BN (ag (fH (h.bv 0) (fJ (h.v 1)) fI) ao)) ao)))))))
variable (BO:cU (Oz P w K mg base) 11 xJ)
include z_len c6 BO in
theorem a6Z(D':cU (Def K mg) a d):cU (Oz P w K mg base) 12 xK:=aK (N:=["forms","half"]) D' λX r h=>by
 cases r
 exact (aF (cR (bW gg (cY h.g z_len (h.bv 0)) ai) (aI (bf (jS (jE (h.v 0)) (az (h.bv 0) ai) (dk ao)))) c9) (aF (h.aE 1 (aD fK (cY h.g z_len (h.bv 0)) ai)) (aI (bf (h.cl c6 (ag (h.cl BO (ag (fH (h.bv 0) fI (fJ (h.v 1))) ao)) (ag (h.cl BO (ag (fH (h.bv 0) (fJ (h.v 1)) fI) ao)) ao)))))))
variable (BP:cU (Oz P w K mg base) 12 xK)
include z_len c6 BP in
theorem a6Y(D':cU (Def K mg) a d):cU (Oz P w K mg base) 13 xM:=aK (N:=["forms","half"]) D' λX r h=>by
 cases r
 exact (aF (cR (bW gg (cY h.g z_len (h.bv 0)) ai) (aI (bf (jS (jE (h.v 0)) (az (h.bv 0) ai) (dk ao)))) c9) (aF (h.aE 1 (aD fK (cY h.g z_len (h.bv 0)) ai)) (aI (bf (h.cl c6 (ag (h.cl BP (ag (fH (h.bv 0) fI (fJ (h.v 1))) ao)) (ag (h.cl BP (ag (fH (h.bv 0) (fJ (h.v 1)) fI) ao)) ao)))))))
variable (BQ:cU (Oz P w K mg base) 13 xM)
include z_len c6 BQ in
theorem a6X(D':cU (Def K mg) a d):cU (Oz P w K mg base) 14 vI:=aK (N:=["forms","half"]) D' λX r h=>by
 cases r
 exact (aF (cR (bW gg (cY h.g z_len (h.bv 0)) ai) (aI (bf (jS (jE (h.v 0)) (az (h.bv 0) ai) (dk ao)))) c9) (aF (h.aE 1 (aD fK (cY h.g z_len (h.bv 0)) ai)) (aI (bf (h.cl c6 (ag (h.cl BQ (ag (fH (h.bv 0) fI (fJ (h.v 1))) ao)) (ag (h.cl BQ (ag (fH (h.bv 0) (fJ (h.v 1)) fI) ao)) ao)))))))
variable (BR:cU (Oz P w K mg base) 14 vI)
include z_len c6 BR in
theorem a6W(D':cU (Def K mg) a d):cU (Oz P w K mg base) 15 tJ:=aK (N:=["forms","half"]) D' λX r h=>by
 cases r
 exact (aF (cR (bW gg (cY h.g z_len (h.bv 0)) ai) (aI (bf (jS (jE (h.v 0)) (az (h.bv 0) ai) (dk ao)))) c9) (aF (h.aE 1 (aD fK (cY h.g z_len (h.bv 0)) ai)) (aI (bf (h.cl c6 (ag (h.cl BR (ag (fH (h.bv 0) fI (fJ (h.v 1))) ao)) (ag (h.cl BR (ag (fH (h.bv 0) (fJ (h.v 1)) fI) ao)) ao)))))))
variable (BS:cU (Oz P w K mg base) 15 tJ)
include z_len c6 BS in
theorem a6n(D':cU (Def K mg) a d):cU (Oz P w K mg base) 16 rG:=aK (N:=["forms","half"]) D' λX r h=>by
 cases r
 exact (aF (cR (bW gg (cY h.g z_len (h.bv 0)) ai) (aI (bf (jS (jE (h.v 0)) (az (h.bv 0) ai) (dk ao)))) c9) (aF (h.aE 1 (aD fK (cY h.g z_len (h.bv 0)) ai)) (aI (bf (h.cl c6 (ag (h.cl BS (ag (fH (h.bv 0) fI (fJ (h.v 1))) ao)) (ag (h.cl BS (ag (fH (h.bv 0) (fJ (h.v 1)) fI) ao)) ao)))))))
variable (B4:cU (Oz P w K mg base) 16 rG)
include z_len c6 B4 in
theorem a6m(D':cU (Def K mg) a d):cU (Oz P w K mg base) 17 rH:=aK (N:=["forms","half"]) D' λX r h=>by
 cases r
 exact (aF (cR (bW gg (cY h.g z_len (h.bv 0)) ai) (aI (bf (jS (jE (h.v 0)) (az (h.bv 0) ai) (dk ao)))) c9) (aF (h.aE 1 (aD fK (cY h.g z_len (h.bv 0)) ai)) (aI (bf (h.cl c6 (ag (h.cl B4 (ag (fH (h.bv 0) fI (fJ (h.v 1))) ao)) (ag (h.cl B4 (ag (fH (h.bv 0) (fJ (h.v 1)) fI) ao)) ao)))))))
variable (B5:cU (Oz P w K mg base) 17 rH)
include z_len c6 B5 in
theorem a6l(D':cU (Def K mg) a d):cU (Oz P w K mg base) 18 rJ:=aK (N:=["forms","half"]) D' λX r h=>by
 cases r
 exact (aF (cR (bW gg (cY h.g z_len (h.bv 0)) ai) (aI (bf (jS (jE (h.v 0)) (az (h.bv 0) ai) (dk ao)))) c9) (aF (h.aE 1 (aD fK (cY h.g z_len (h.bv 0)) ai)) (aI (bf (h.cl c6 (ag (h.cl B5 (ag (fH (h.bv 0) fI (fJ (h.v 1))) ao)) (ag (h.cl B5 (ag (fH (h.bv 0) (fJ (h.v 1)) fI) ao)) ao)))))))
variable (B6:cU (Oz P w K mg base) 18 rJ)
include z_len c6 B6 in
theorem a6k(D':cU (Def K mg) a d):cU (Oz P w K mg base) 19 rE:=aK (N:=["forms","half"]) D' λX r h=>by
 cases r
 exact (aF (cR (bW gg (cY h.g z_len (h.bv 0)) ai) (aI (bf (jS (jE (h.v 0)) (az (h.bv 0) ai) (dk ao)))) c9) (aF (h.aE 1 (aD fK (cY h.g z_len (h.bv 0)) ai)) (aI (bf (h.cl c6 (ag (h.cl B6 (ag (fH (h.bv 0) fI (fJ (h.v 1))) ao)) (ag (h.cl B6 (ag (fH (h.bv 0) (fJ (h.v 1)) fI) ao)) ao)))))))
variable (B7:cU (Oz P w K mg base) 19 rE)
include z_len c6 B7 in
theorem a6j(D':cU (Def K mg) a d):cU (Oz P w K mg base) 20 pL:=aK (N:=["forms","half"]) D' λX r h=>by
 cases r
 exact (aF (cR (bW gg (cY h.g z_len (h.bv 0)) ai) (aI (bf (jS (jE (h.v 0)) (az (h.bv 0) ai) (dk ao)))) c9) (aF (h.aE 1 (aD fK (cY h.g z_len (h.bv 0)) ai)) (aI (bf (h.cl c6 (ag (h.cl B7 (ag (fH (h.bv 0) fI (fJ (h.v 1))) ao)) (ag (h.cl B7 (ag (fH (h.bv 0) (fJ (h.v 1)) fI) ao)) ao)))))))
variable (vJ:cU (Oz P w K mg base) 20 pL)
include iq in
theorem b0V(D':LQ (Def K mg) a d):LQ (Oz P w K mg base) 5 vG:=aK (N:=["x","cost","low","high"]) D' λX r h=>by
 cases r
 exact (aI (bf (h.cl iq (ag (eZ (ag (dk (ag (h.v 2) (ag (h.v 3) (ag (aD gh (h.v 1) (aD ku (h.v 2) (h.v 0))) (ag (oz (h.v 0)) ao))))) ao)) ao))))
variable (BB:LQ (Oz P w K mg base) 5 vG)
include z_len in
theorem b0U(D':LH (Def K mg) a d):LH (Oz P w K mg base) 1 tF:=aK (N:=["form"]) D' λX r h=>by
 cases r
 exact (aF (cR (bW (mW h.u8) (cY h.g z_len (h.bv 0)) ai) (aI Q9) c9) (aI (bf (h.v 0))))
variable (qh:LH (Oz P w K mg base) 1 tF)
include lN vo vJ BB qh in
theorem b3M(D':Kd (Def K mg) a d):Kd (Oz P w K mg base) 21 oB:=aK (N:=["form","low","high","losses","row"]) D' λX r h=>by
 cases r
 exact (aF (h.set 3 (eZ ao)) (aF (nO h.own h.calm (h.cl qh (ag (h.v 0) ao)) (h.tg 4) (aF (h.app 3 (h.cl BB (ag (az (h.bv 4) ai) (ag (az (h.bv 4) ai) (ag (h.v 1) (ag (h.v 2) ao)))))) (aI (h.app 3 (h.cl BB (ag (az (h.bv 4) ai) (ag (h.cl lN (ag (h.v 4) (ag (az (h.bv 4) ai) ao))) (ag (h.v 1) (ag (h.v 2) ao))))))))) (aI (JR 3 (bf (h.cl vo (ag (h.cl vJ (ag (h.v 3) ao)) (ag (oz ai) ao))))))))
variable (rz:Kd (Oz P w K mg base) 21 oB)
include qh in
theorem a6U(D':Mk (Def K mg) a d):Mk (Oz P w K mg base) 2 xN:=aK (N:=["form"]) D' λX r h=>by
 cases r
 exact (aI (bf (az (ik (az (ik (h.cl qh (ag (h.v 0) ao))) (oz ai))) ai)))
variable (FC:Mk (Oz P w K mg base) 2 xN)
include qh in
theorem a6o(D':Mr (Def K mg) a d):Mr (Oz P w K mg base) 2 xV:=aK (N:=["form"]) D' λX r h=>by
 cases r
 exact (aI (bf (az (ik (az (ik (h.cl qh (ag (h.v 0) ao))) ai)) ai)))
variable (Fo:Mr (Oz P w K mg base) 2 xV)
include rz FC Fo in
theorem b56(D':JT (Def K mg) a d):JT (Oz P w K mg base) 22 pJ:=aK (N:=["form","low","high"]) D' λX r h=>by
 cases r
 exact (aI (bf (h.cl rz (ag (h.cl rz (ag (h.v 0) (ag (h.v 1) (ag (h.v 2) ao)))) (ag (h.cl Fo (ag (h.v 0) ao)) (ag (h.cl FC (ag (h.v 0) ao)) ao))))))
variable (sY:JT (Oz P w K mg base) 22 pJ)
include Fw Ew vo sY in
theorem a9q(D':LG (Def K mg) a d):LG (Oz P w K mg base) 23 BJ:=aK (N:=["form","low","high"]) D' λX r h=>by
 cases r
 exact (aI (bf (h.cl Fw (ag (h.cl Ew (ag (h.v 0) (ag (h.cl vo (ag (h.cl sY (ag (h.v 0) (ag (h.v 1) (ag (h.v 2) ao)))) (ag (oz ai) ao))) ao))) (ag ai ao)))))
variable (Ff:LG (Oz P w K mg base) 23 BJ)
include z_len in
theorem a5o(D':Mw (Def K mg) a d):Mw (Oz P w K mg base) 1 xU:=aK (N:=["forms","many","form"]) D' λX r h=>by
 cases r
 exact (aF (h.aE 1 ai) (aF (nO h.own h.calm (h.v 0) (h.tg 2) (aI (h.J5 1 (cY h.g z_len (h.bv 2))))) (aI (bf (h.v 1)))))
variable (B2:Mw (Oz P w K mg base) 1 xU)
include z_MOST_PICKS B2 in
theorem b3K(D':Kf (Def K mg) a d):Kf (Oz P w K mg base) 2 xD:=aK (N:=["forms","ways","form","longer","rows"]) D' λX r h=>by
 cases r
 exact (aF (cR (bW vf (h.cl B2 (ag (h.v 0) ao)) (b4g h.g z_MOST_PICKS)) (aI Q9) c9) (aF (cR (bW (mW h.u8) (h.cl B2 (ag (h.v 0) ao)) ai) (aI (bf (eZ ao))) c9) (aF (h.aE 1 (eZ (ag (eZ ao) ao))) (aF (nO h.own h.calm (h.v 0) (h.tg 2) (aF (h.set 3 (eZ ao)) (aF (nO h.own h.calm (h.v 1) (h.tg 4) (aI (h.ext 3 (vt (N':=["row","rows"]) (caps:=[4]) (nt:=1) h ⟨rfl,by decide +kernel,by decide +kernel,by decide +kernel,by decide +kernel,rfl,rfl,by decide +kernel⟩ (qc (h.v 2)) (λX1 dU dS dR dQ dP h1=>⟨(h1.tg 0),pE,(aD et (h1.v 1) (eZ (ag (h1.v 0) ao)))⟩))))) (aI (JR 3 (h.aE 1 (h.v 3))))))) (aI (bf (h.v 1)))))))
variable (ED:Kf (Oz P w K mg base) 2 xD)
theorem b0S(D':LJ (Def K mg) a d):LJ (Oz P w K mg base) 1 tG:=aK (N:=["row"]) D' λX r h=>by
 cases r
 exact (aI (bf (az (h.bv 0) ai)))
variable (E4:LJ (Oz P w K mg base) 1 tG)
include z_sorted z_sum iq E4 in
theorem b1Y(D':K2 (Def K mg) a d):K2 (Oz P w K mg base) 6 vy:=aK (N:=["rows","low","price","made","row","more"]) D' λX r h=>by
 cases r
 exact (aF (h.aE 1 (Pu h.g z_sum h.calm (ik (vt (N':=["row"]) (caps:=[]) (nt:=1) h ⟨rfl,by decide +kernel,by decide +kernel,by decide +kernel,by decide +kernel,rfl,rfl,by decide +kernel⟩ (qc (h.v 0)) (λX1 dU dS dR dQ dP h1=>⟨(h1.tg 0),pE,(az (h1.bv 0) ai)⟩))))) (aF (h.aE 2 (Pu h.g z_sum h.calm (ik (vt (N':=["row"]) (caps:=[]) (nt:=1) h ⟨rfl,by decide +kernel,by decide +kernel,by decide +kernel,by decide +kernel,rfl,rfl,by decide +kernel⟩ (qc (h.v 0)) (λX1 dU dS dR dQ dP h1=>⟨(h1.tg 0),pE,(az (h1.bv 0) ai)⟩))))) (aF (h.set 3 (eZ (ag (dk (ag (h.v 1) (ag (h.v 1) (ag (h.v 2) (ag ai ao))))) ao))) (aF (nO h.own h.calm (h.qw E4 z_sorted (h.v 0)) (h.tg 4) (aF (h.aE 5 (aD gh (az (h.bv 4) ai) (az (h.bv 4) ai))) (aF (cR (bW vf (h.v 5) ai) (aI (h.app 3 (dk (ag (aD et (h.v 1) ai) (ag (aD et (h.v 1) (h.v 5)) (ag (aD et (h.v 2) (az (h.bv 4) ai)) (ag (az (h.bv 4) ai) ao))))))) c9) (aF (h.aug 1 (h.v 5)) (aI (h.aug 2 (aD ku (az (h.bv 4) ai) (h.v 5)))))))) (aI (JR 3 (bf (h.cl iq (ag (h.v 3) ao)))))))))
variable (EW:K2 (Oz P w K mg base) 6 vy)
include vJ ED EW in
theorem a6i(D':Mt (Def K mg) a d):Mt (Oz P w K mg base) 21 B3:=aK (N:=["forms"]) D' λX r h=>by
 cases r
 exact (aI (bf (h.cl vJ (ag (vt (N':=["rows"]) (caps:=[]) (nt:=1) h ⟨rfl,by decide +kernel,by decide +kernel,by decide +kernel,by decide +kernel,rfl,rfl,by decide +kernel⟩ (qc (h.cl ED (ag (h.v 0) ao))) (λX1 dU dS dR dQ dP h1=>⟨(h1.tg 0),pE,(h1.cl (nh dU dS dR dQ dP EW) (ag (h1.v 0) ao))⟩)) ao))))
variable (Fp:Mt (Oz P w K mg base) 21 B3)
include Fp in
theorem b1Z(D':K1 (Def K mg) a d):K1 (Oz P w K mg base) 22 tH:=aK (N:=["forms"]) D' λX r h=>by
 cases r
 exact (aI (bf (h.cl Fp (ag (h.v 0) ao))))
variable (By:K1 (Oz P w K mg base) 22 tH)
include z_len in
theorem a66(D':Mi (Def K mg) a d):Mi (Oz P w K mg base) 1 BZ:=aK (N:=["forms","count","form"]) D' λX r h=>by
 cases r
 exact (aF (h.aE 1 ai) (aF (nO h.own h.calm (h.v 0) (h.tg 2) (aI (h.aE 1 (aD ku (h.v 1) (cY h.g z_len (h.bv 2)))))) (aI (bf (h.v 1)))))
variable (Fz:Mi (Oz P w K mg base) 1 BZ)
include z_enumerate lN pM in
theorem a9r(D':LF (Def K mg) a d):LF (Oz P w K mg base) 3 BI:=aK (N:=["form","steps","place","row"]) D' λX r h=>by
 cases r
 exact (aF (h.set 1 (eZ ao)) (aF (Qq h.own h.calm (Qe h.g z_enumerate (ag (h.v 0) ao)) (vj (n:=2) h.calm (iW (h.tg 2) (iW (h.tg 3) vv))) (aF (cR (bW vf (h.v 2) ai) (aI (h.app 1 (aD gh (az (h.bv 3) ai) (h.cl lN (ag (az (h.bv 0) (aD gh (h.v 2) ai)) (ag (az (ik (az (h.bv 0) (aD gh (h.v 2) ai))) ai) ao)))))) c9) (aI (cR (PR (jE (h.cl pM (ag (h.v 3) ao)))) (aI (h.app 1 (az (h.bv 3) ai))) c9)))) (aI (h.jZ 1))))
variable (Fk:LF (Oz P w K mg base) 3 BI)
include z_len z_sorted pH Fk in
theorem b1X(D':KL (Def K mg) a d):KL (Oz P w K mg base) 4 BY:=aK (N:=["form","steps"]) D' λX r h=>by
 cases r
 exact (aF (h.aE 1 (h.cl Fk (ag (h.v 0) ao))) (aI (bf (Pq (El A6 (cY h.g z_len (ik (h.cl pH (ag (h.v 0) ao)))) ai) (Pt (El (mW h.u8) (h.v 1) (Rz h.g z_sorted (h.v 1))))))))
variable (EX:KL (Oz P w K mg base) 4 BY)
theorem a7S(D':Mo (Def K mg) a d):Mo (Oz P w K mg base) 1 vK:=aK (N:=["cell"]) D' λX r h=>by
 cases r
 exact (aF (cR (bW (mW h.u8) (aD e8 (h.v 0) ai) ai) (aI (bf ai)) c9) (aI (bf (aD e8 (aD fK (h.v 0) ai) ai))))
variable (BX:Mo (Oz P w K mg base) 1 vK)
include z_len in
theorem a67(D':Mh (Def K mg) a d):Mh (Oz P w K mg base) 1 vH:=aK (N:=["script","k"]) D' λX r h=>by
 cases r
 exact (aF (cR (bW gg (h.v 1) (cY h.g z_len (h.bv 0))) (aI (bf (az (h.bv 0) (h.v 1)))) c9) (aI (bf ai)))
variable (xO:Mh (Oz P w K mg base) 1 vH)
theorem a9v(D':Lz (Def K mg) a d):Lz (Oz P w K mg base) 1 BH:=aK (N:=["every","told","low","high","price","step"]) D' λX r h=>by
 cases r
 exact (aF (h.set 1 (eZ ao)) (aF (nO h.own h.calm (h.v 0) (vj (n:=4) h.calm (iW (h.tg 2) (iW (h.tg 3) (iW (h.tg 4) (iW (h.tg 5) vv))))) (aF (h.app 1 (dk (ag (h.v 2) (ag (h.v 4) ao)))) (aI (h.app 1 (dk (ag (h.v 3) (ag (aD et (h.v 4) (aD ku (h.v 5) (aD gh (h.v 3) (h.v 2)))) ao))))))) (aI (h.jZ 1))))
variable (Fg:Lz (Oz P w K mg base) 1 BH)
include z_len Fg in
theorem a8K(D':L1 (Def K mg) a d):L1 (Oz P w K mg base) 2 vC:=aK (N:=["every","m","ends","one","two","told"]) D' λX r h=>by
 cases r
 exact (aF (h.aE 2 (h.cl Fg (ag (h.v 0) ao))) (aF (h.aE 3 (az (h.bv 2) (aD e8 (h.v 1) (cY h.g z_len (h.bv 2))))) (aF (h.aE 4 (az (h.bv 2) (aD e8 (aD fK (h.v 1) ai) (cY h.g z_len (h.bv 2))))) (aF (h.set 5 (eZ (ag (az (ik (az (h.bv 0) (aD e8 (h.v 1) (cY h.g z_len (h.bv 0))))) ai) (ag (aD et (az (ik (az (h.bv 0) (aD e8 (h.v 1) (cY h.g z_len (h.bv 0))))) ai) ai) (ag (aD gh (aD e8 (aD fK (h.v 1) ai) ai) ai) (ag (aD gh (aD e8 (h.v 1) (aD nM ai ai)) (aD ku ai (aD nM ai ai))) ao)))))) (aF (cR (bW (Es h.u8) (az (h.bv 3) ai) (az (h.bv 4) ai)) (aF (h.app 5 (aD QC (aD gh (az (h.bv 3) ai) (az (h.bv 4) ai)) (aD gh (az (h.bv 3) ai) (az (h.bv 4) ai)))) (aI (h.app 5 (aD et (aD QC (aD gh (az (h.bv 3) ai) (az (h.bv 4) ai)) (aD gh (az (h.bv 3) ai) (az (h.bv 4) ai))) ai)))) c9) (aI (bf (az (h.bv 5) (aD e8 (aD fK (h.v 1) ai) (cY h.g z_len (h.bv 5)))))))))))
variable (BU:L1 (Oz P w K mg base) 2 vC)
theorem a8L(D':L0 (Def K mg) a d):L0 (Oz P w K mg base) 1 oE:=aK (N:=["cell","k","big"]) D' λX r h=>by
 cases r
 exact (aF (h.aE 2 (aD ku (aD et (aD e8 (h.v 0) (aD nM ai ai)) ai) (aD et ai (aD ku (aD ku ai (h.v 1)) (h.v 1))))) (aF (h.aE 2 (aD et (h.v 2) (aD ku ai (h.v 1)))) (aI (bf (aD e8 (aD ku (h.v 2) (h.v 2)) (aD et (aD nM ai ai) ai))))))
variable (kF:L0 (Oz P w K mg base) 1 oE)
include kF in
theorem b0X(D':LN (Def K mg) a d):LN (Oz P w K mg base) 2 xB:=aK (N:=["at","m","ahead","low","wide","price","step"]) D' λX r h=>by
 cases r
 exact (aF (h.aE 3 (aD et (h.v 0) (az (ik (eZ (ag ai (ag ai (ag ai (ag (aD et ai (aD e8 (h.v 1) ai)) (ag (aD e8 (h.v 1) (aD nM ai ai)) ao))))))) (aD e8 (aD fK (h.v 1) ai) ai)))) (aF (h.aE 1 (h.cl kF (ag (h.v 1) (ag ai ao)))) (aF (h.aE 4 (az (ik (eZ (ag ai (ag ai (ag (aD e8 (h.v 1) ai) (ag (aD e8 (h.v 1) (aD nM ai ai)) ao)))))) (aD e8 (aD fK (h.v 1) ai) ai))) (aF (h.aE 1 (h.cl kF (ag (h.v 1) (ag ai ao)))) (aF (h.aE 5 (aD gh (aD e8 (aD fK (h.v 1) ai) ai) ai)) (aF (cR (bW (mW h.u8) (aD e8 (h.v 1) ai) ai) (aI (h.aE 5 (aD gh (aD e8 (aD fK (h.v 1) ai) (aD nM ai ai)) (aD ku ai (aD nM ai ai))))) c9) (aF (cR (bW (mW h.u8) (aD e8 (h.v 1) ai) ai) (aI (h.aE 5 (aD et (az (h.bv 2) ai) (aD ku (az (h.bv 2) ai) (aD gh (h.v 3) (az (h.bv 2) ai)))))) c9) (aF (h.aE 1 (h.cl kF (ag (h.v 1) (ag ai ao)))) (aF (h.aE 6 (aD gh (aD e8 (aD fK (h.v 1) ai) ai) ai)) (aF (cR (bW (mW h.u8) (aD e8 (h.v 1) ai) ai) (aI (h.aE 6 (aD gh (aD e8 (aD fK (h.v 1) ai) (aD nM ai ai)) (aD ku ai (aD nM ai ai))))) c9) (aI (bf (dk (ag (h.v 3) (ag (aD et (h.v 3) (h.v 4)) (ag (h.v 5) (ag (h.v 6) ao)))))))))))))))))
variable (Fc:LN (Oz P w K mg base) 2 xB)
include z_range kF Fc in
theorem a9u(D':LA (Def K mg) a d):LA (Oz P w K mg base) 3 rL:=aK (N:=["m","many","at","rows","ahead","k"]) D' λX r h=>by
 cases r
 exact (aF (h.aE 2 (aD gh (aD e8 (aD fK (h.v 0) ai) ai) ai)) (aF (cR (bW (mW h.u8) (aD e8 (h.v 0) ai) ai) (aI (h.aE 2 (aD gh (aD e8 (aD fK (h.v 0) ai) (aD nM ai ai)) (aD ku ai (aD nM ai ai))))) c9) (aF (h.set 3 (eZ ao)) (aF (h.aE 4 (dk (ag ai (ag ai (ag ai (ag ai ao)))))) (aF (b3g h.own h.calm h.g z_range (ag (h.v 1) ao) (h.tg 5) (aF (h.aE 0 (h.cl kF (ag (h.v 0) (ag (aD et ai (h.v 5)) ao)))) (aF (h.aE 4 (h.cl Fc (ag (h.v 2) (ag (h.v 0) (ag (h.v 4) ao))))) (aF (h.app 3 (h.v 4)) (aI (h.aE 2 (aD et (az (h.bv 4) ai) ai))))))) (aI (h.jZ 3)))))))
variable (Fi:LA (Oz P w K mg base) 3 rL)
include z_enumerate z_range kF in
theorem a8J(D':L3 (Def K mg) a d):L3 (Oz P w K mg base) 2 xP:=aK (N:=["cells","most","seeds","k","cell","at"]) D' λX r h=>by
 cases r
 exact (aF (Bk (i:=2) true (N':=["k"]) (caps:=[]) (nt:=1) h ⟨rfl,by decide +kernel,by decide +kernel,by decide +kernel,by decide +kernel,rfl,rfl,by decide +kernel⟩ (b30 h.g z_range (ag (h.v 1) ao)) (λX1 dU dS dR dQ dP h1=>⟨(h1.tg 0),pE,(h1.cl (nh dU dS dR dQ dP kF) (ag (h1.v 0) (ag ai ao)))⟩)) (aF (Qq h.own h.calm (Qe h.g z_enumerate (ag (h.v 0) ao)) (vj (n:=2) h.calm (iW (h.tg 3) (iW (h.tg 4) vv))) (aF (h.aE 5 (aD e8 (h.v 3) (h.v 1))) (aI (h.item 2 (h.cl kF (ag (aD et (az (h.bv 2) (h.v 5)) (aD e8 (h.v 4) (aD nM ai ai))) (ag (aD e8 (h.v 3) ai) ao))) (h.v 5))))) (aI (h.jZ 2))))
variable (Fd:L3 (Oz P w K mg base) 2 xP)
include z_len z_sorted z_zip xu Fe iq rz sY Ff By Fz EX BX xO BU kF Fi Fd in
theorem b71(D':yc (Def K mg) a d):cH P w K mg base jc 24 a d ["script"] (m7 K 1 EL):=Aq (N:=["script","counts","seeds","every","forms","ends","low","high","whole","found","hulls","together","first","last","x"]) D' λX r h=>by
 cases r
 exact (aF (h.aE 1 (az (ik (eZ (ag (eZ (ag ai (ag ai ao))) (ag (eZ (ag ai (ag ai (ag ai ao)))) (ag (eZ (ag ai (ag ai ao))) (ag (eZ (ag ai (ag ai (ag ai ao)))) ao)))))) (aD e8 (h.cl xO (ag (h.v 0) (ag ai ao))) ai))) (aF (h.aE 2 (h.cl Fd (ag (fH (h.bv 0) (fJ ai) fI) (ag (cY h.g z_len (h.bv 1)) ao)))) (aF (Bk (i:=3) false (N':=["seed","many"]) (caps:=[]) (nt:=2) h ⟨rfl,by decide +kernel,by decide +kernel,by decide +kernel,by decide +kernel,rfl,rfl,by decide +kernel⟩ (b8j h.g z_zip (ag (h.v 2) (ag (h.v 1) ao))) (λX1 dU dS dR dQ dP h1=>⟨(vj (n:=2) h1.calm (iW (h1.tg 0) (iW (h1.tg 1) vv))),pE,(h1.cl (nh dU dS dR dQ dP Fi) (ag (h1.v 0) (ag (h1.v 1) ao)))⟩)) (aF (Bk (i:=4) false (N':=["rows"]) (caps:=[]) (nt:=1) h ⟨rfl,by decide +kernel,by decide +kernel,by decide +kernel,by decide +kernel,rfl,rfl,by decide +kernel⟩ (qc (h.v 3)) (λX1 dU dS dR dQ dP h1=>⟨(h1.tg 0),pE,(h1.cl (nh dU dS dR dQ dP iq) (ag (h1.v 0) ao))⟩)) (aF (h.aE 5 (Rz h.g z_sorted (eZ (ag (h.cl BU (ag (az (h.bv 3) ai) (ag (h.cl kF (ag (az (h.bv 2) ai) (ag ai ao))) ao))) (ag (h.cl BU (ag (az (h.bv 3) (oz ai)) (ag (h.cl kF (ag (az (h.bv 2) (oz ai)) (ag ai ao))) ao))) ao))))) (aF (h.aE 6 (aD gh (az (h.bv 5) ai) (h.cl BX (ag (h.cl xO (ag (h.v 0) (ag ai ao))) ao)))) (aF (h.aE 7 (aD et (az (h.bv 5) ai) (h.cl BX (ag (h.cl xO (ag (h.v 0) (ag ai ao))) ao)))) (aF (h.aE 8 (h.cl By (ag (h.v 4) ao))) (aF (h.aE 9 (h.cl sY (ag (h.v 8) (ag (h.v 6) (ag (h.v 7) ao))))) (aF (cR (jU (Ek (bW b59 (h.cl EX (ag (h.v 9) ao)) D6) (Ez (bW (Es h.u8) (h.cl rz (ag (h.v 9) (ag (h.v 6) (ag (h.v 7) ao)))) (h.cl rz (ag (h.v 8) (ag (h.v 6) (ag (h.v 7) ao)))))))) (aI (bf D6)) c9) (aF (Bk (i:=10) false (N':=["form","low","high"]) (caps:=[6,7]) (nt:=1) h ⟨rfl,by decide +kernel,by decide +kernel,by decide +kernel,by decide +kernel,rfl,rfl,by decide +kernel⟩ (qc (h.v 4)) (λX1 dU dS dR dQ dP h1=>⟨(h1.tg 0),pE,(h1.cl (nh dU dS dR dQ dP sY) (ag (h1.v 0) (ag (h1.v 1) (ag (h1.v 2) ao))))⟩)) (aF (cR (bW vf (h.cl Fz (ag (h.v 10) ao)) ai) (aI (bf D6)) c9) (aF (h.aE 11 (h.cl By (ag (h.v 10) ao))) (aF (nO h.own h.calm (h.cl Ff (ag (h.v 8) (ag (h.v 6) (ag (h.v 7) ao)))) (vj (n:=2) h.calm (iW (h.tg 12) (iW (h.tg 13) vv))) (aI (nO h.own h.calm (eZ (ag (h.v 12) (ag (h.v 13) ao))) (h.tg 14) (aI (cR (jU (Ek (PR (jE (h.cl Fe (ag (h.cl xu (ag (h.v 8) (ag (h.v 14) ao))) ao)))) (Ez (bW (Es h.u8) (h.cl xu (ag (h.v 11) (ag (h.v 14) ao))) (h.cl xu (ag (h.v 8) (ag (h.v 14) ao))))))) (aI (bf D6)) c9))))) (aI (bf (El (mW h.u8) (h.v 11) (h.v 9))))))))))))))))))
end
theorem all_mk{l:Iw}{w:World}{K:aM}{h:Heap}{mg:Str->Option Value}{fa:Addr}(X:K.In h)(G:h.Ns mainGlobals mg)(Yb:mg "law" = some (.ref fa))
  (i1:FI K "line_at" RJ f1 od1 an1 sl1 oc1 kV1 dc1 pm1 cd1 ct1)
  (i2:FI K "drawn_to" RQ f2 od2 an2 yu oc2 kV2 dc2 pm2 cd2 ct2)
  (i3:FI K "place_of" Sf f3 od3 an3 sl3 oc3 kV3 dc3 pm3 cd3 ct3)
  (i4:FI K "cost_at" RH f4 od4 an4 sl4 oc4 kV4 dc4 pm4 cd4 ct4)
  (i5:FI K "_law_whole" Sb f5 od5 an5 sl5 oc5 kV5 dc5 pm5 cd5 ct5)
  (i6:FI K "spans_of" Sg f6 od6 an6 sl6 oc6 kV6 dc6 pm6 cd6 ct6)
  (i7:FI K "holds_one" RZ f7 od7 an7 sl7 oc7 kV7 dc7 pm7 cd7 ct7)
  (i8:FI K "plain" Q7 f8 od8 an8 sl8 oc8 kV8 dc8 pm8 cd8 ct8)
  (i9:FI K "laid_beside" Sv f9 od9 an9 sl9 oc9 kV9 dc9 pm9 cd9 ct9)
  (i10:FI K "laid" Qo f10 VY an10 Um WG Xx Zy Vd cd10 ct10)
  (i11:FI K "span_or_none" SS f11 VX an11 Ul WE Xw Zx Vc cd11 ct11)
  (i12:FI K "up" O6 f12 VW an12 Uk WD Xv Zw Vb cd12 ct12)
  (i13:FI K "down" QA f13 VV an13 Uj WC Xu Zv Va cd13 ct13)
  (i14:FI K "no_dearer" Se f14 VU an14 Ui WB Xt Zu U' cd14 ct14)
  (i15:FI K "amounts_for" Su f15 VT an15 Uh WA Xr Zt U9 cd15 Z')
  (i16:FI K "line_from" Sd f16 VS an16 Ug Wz Xq Zs U8 cd16 Z9)
  (i17:FI K "met" PM f17 VR an17 Ue Wy Xp Zr U7 cd17 Z8)
  (i18:FI K "plus" Qp f18 VQ an18 Ud Wx Xo Zq U6 cd18 Z7)
  (i19:FI K "times" Q8 f19 VP an19 Uc Ww Xn Zp U5 cd19 Z6)
  (i20:FI K "stretch_on" SE f20 VO an20 Ub Wv Xm Zo U4 cd20 Z5)
  (i21:FI K "lower_line" SD f21 VN an21 Ua Wu Xl Zn U3 cd21 Z4)
  (i22:FI K "lesser_rows" SX f22 VM an22 T' Wt Xk Zm U2 cd22 Z3)
  (i23:FI K "cut" PL f23 VL an23 T9 Ws Xj Zl U1 cd23 Z2)
  (i24:FI K "outside" RM f24 VJ an24 T8 Wr Xi Zk U0 cd24 Z1)
  (i25:FI K "least" QW f25 VI an25 T7 Wq Xh Zj UZ cd25 Z0)
  (i26:FI K "least_of" RT f26 VH an26 T6 Wp Xg Zi UY cd26 ZZ)
  (i27:FI K "loss_of" RK f27 VG an27 T5 Wn Xf Zh UX cd27 ZY)
  (i28:FI K "offered" RL f28 VF an28 T4 Wm Xe Zg UW cd28 ZX)
  (i29:FI K "gains" QV f29 VE an29 T3 Wl Xd Zf UU cd29 ZW)
  (i30:FI K "most_amount" SY f30 VD an30 T2 Wk Xc Ze UT cd30 ZV)
  (i31:FI K "least_amount" SQ f31 VC an31 T1 Wj Xb Zd US cd31 ZU)
  (i32:FI K "hull" Qn f32 VB an32 TZ Wi Xa Zc UR cd32 ZT)
  (i33:FI K "touching" Sj f33 VA an33 TY Wh W' Zb UQ cd33 ZS)
  (i34:FI K "how_many_picks" S0 f34 Vz an34 TX Wg W9 Za UP cd34 ZR)
  (i35:FI K "picks" Q6 f35 Vy an35 TU Wf W8 Y' UO cd35 ZQ)
  (i36:FI K "step_of" RN f36 Vx an36 TR We W7 Y9 UN cd36 ZP)
  (i37:FI K "poured" Rc f37 Vw an37 TQ Wc W6 Y8 UM cd37 ZO)
  (i38:FI K "least_poured" SR f38 Vv an38 TN Wb W5 Y7 UL cd38 ZN)
  (i39:FI K "joined" Rb f39 Vu an39 TM Wa W4 Y6 UK cd39 ZM)
  (i40:FI K "_law_choices" SU f40 Vt an40 TL V' W3 Y5 UJ cd40 ZL)
  (i41:FI K "steps_of" Si f41 Vs an41 TK V9 W2 Y4 UI cd41 ZK)
  (i42:FI K "rising" Rf f42 Vr an42 TJ V8 W1 Y3 UH cd42 ZJ)
  (i43:FI K "_law_beyond" Sz f43 Vq an43 TH V7 W0 Y2 UG cd43 ZI)
  (i44:FI K "_law_cell_at" Sw f44 Vp an44 TF V6 WZ Y1 UE cd44 ZH)
  (i45:FI K "_law_ends" RR f45 Vo an45 TC V5 WY Y0 UD cd45 ZG)
  (i46:FI K "_law_price" R9 f46 Vn an46 Tz V4 WX YZ UC cd46 ZF)
  (i47:FI K "_law_mixed" R8 f47 Vm an47 Tw V3 WW YY UB cd47 ZE)
  (i48:FI K "_law_row" RI f48 Vl an48 Tv V2 WU YX UA cd48 ZD)
  (i49:FI K "_law_rows" RS f49 Vk an49 Tu V1 WT YW Uz cd49 ZC)
  (i50:FI K "_law_seeds" Sa f50 Vj an50 Tr V0 WS YV Uy cd50 ZA)
  (i51:FI K "law" Bb f51 Vi J6 Tq VZ GO Ig Gq Il Ih)
  (zmax:me K mainGlobals "max" = some none)
  (zmin:me K mainGlobals "min" = some none)
  (ztuple:me K mainGlobals "tuple" = some none)
  (zlen:me K mainGlobals "len" = some none)
  (zsorted:me K mainGlobals "sorted" = some none)
  (zenumerate:me K mainGlobals "enumerate" = some none)
  (zsum:me K mainGlobals "sum" = some none)
  (zMOST_PICKS:∃t,me K mainGlobals "MOST_PICKS" = some (some (.int 100 t)))
  (zrange:me K mainGlobals "range" = some none)
  (zisinstance:me K mainGlobals "isinstance" = some none)
  (zbool:me K mainGlobals "bool" = some none)
  (zint:me K mainGlobals "int" = some none)
  (zzip:me K mainGlobals "zip" = some none)
  (fin:∀ns:List Int,ns.length<=63->EL [.lst true (ns.map D.int)]=some (.sh (.bl true))):
  ∃fd:FuncData,(∀(s:Shared) (v:Value),BindsTo s fd ⟨[v],[]⟩ [("script",v)])/\∀base:Heap,K.In base->base.Ns mainGlobals mg->cH l.prog w K mg base jc 24 fa fd ["script"] (spT K):=by
 have e:=Yb.symm.trans (IL X G i51.a)
 cases e
 have z_max:=oi X G zmax
 have z_min:=oi X G zmin
 have z_tuple:=oi X G ztuple
 have z_len:=oi X G zlen
 have z_sorted:=oi X G zsorted
 have z_enumerate:=oi X G zenumerate
 have z_sum:=oi X G zsum
 have z_MOST_PICKS:MM mg "MOST_PICKS" 100:=zMOST_PICKS.imp λ_ q=>IL X G q
 have z_range:=oi X G zrange
 have z_isinstance:=oi X G zisinstance
 have z_bool:=oi X G zbool
 have z_int:=oi X G zint
 have z_zip:=oi X G zzip
 refine ⟨jQ "law" "law" (lM Bb) (iL Bb) (fQ Bb) .none GO Ig Gq J6 Il Ih,λs v=>.of_eq rfl,λbase _ _=>?_⟩
 have qg:=b0W (P:=l.prog) (w:=w) (base:=base) (ni X G i1)
 have lN:=a9w qg (df X G i2)
 have Fj:=a9t (P:=l.prog) (w:=w) (base:=base) z_len (df X G i3)
 have xu:=b0Y z_len lN Fj (df X G i4)
 have Fe:=a8I (P:=l.prog) (w:=w) (base:=base) z_isinstance z_bool z_int (bA X G i5)
 have pH:=a9s (P:=l.prog) (w:=w) (base:=base) z_tuple (bA X G i6)
 have pM:=a8M (P:=l.prog) (w:=w) (base:=base) (bA X G i7)
 have tf:=b3J pM (bA X G i8)
 have Fy:=a68 qg pM tf (df X G i9)
 have iq:=b55 z_tuple tf Fy (bA X G i10)
 have B8:=a6h (P:=l.prog) (w:=w) (base:=base) (df X G i11)
 have O_up:=yU (P:=l.prog) (w:=w) (base:=base) (df X G i12)
 have Eu:=b57 (P:=l.prog) (w:=w) (base:=base) (df X G i13)
 have vE:=a8G z_max z_min B8 O_up Eu (qD X G i14)
 have Fw:=a69 pH iq vE (df X G i15)
 have BW:=a8H lN (df X G i16)
 have vh:=b70 z_max z_min z_len BW (df X G i17)
 have Ew:=b54 iq vh (df X G i18)
 have vo:=b3I iq (df X G i19)
 have vD:=a7P qg (qD X G i20)
 have Fv:=a7R vE vD (qD X G i21)
 have FA:=a6V vh Fv (df X G i22)
 have A2:=b72 lN (ni X G i23)
 have BC:=b0T z_max z_len A2 (df X G i24)
 have c6:=b3L z_sorted pH iq FA BC (df X G i25)
 have O_least_of__0:=a65 (P:=l.prog) (w:=w) (base:=base) (bA X G i26)
 have BK:=a64 z_len c6 O_least_of__0 (bA X G i26)
 have BL:=a63 z_len c6 BK (bA X G i26)
 have BM:=a62 z_len c6 BL (bA X G i26)
 have BN:=a61 z_len c6 BM (bA X G i26)
 have BO:=a60 z_len c6 BN (bA X G i26)
 have BP:=a6Z z_len c6 BO (bA X G i26)
 have BQ:=a6Y z_len c6 BP (bA X G i26)
 have BR:=a6X z_len c6 BQ (bA X G i26)
 have BS:=a6W z_len c6 BR (bA X G i26)
 have B4:=a6n z_len c6 BS (bA X G i26)
 have B5:=a6m z_len c6 B4 (bA X G i26)
 have B6:=a6l z_len c6 B5 (bA X G i26)
 have B7:=a6k z_len c6 B6 (bA X G i26)
 have vJ:=a6j z_len c6 B7 (bA X G i26)
 have BB:=b0V iq (qD X G i27)
 have qh:=b0U (P:=l.prog) (w:=w) (base:=base) z_len (bA X G i28)
 have rz:=b3M lN vo vJ BB qh (ni X G i29)
 have FC:=a6U qh (bA X G i30)
 have Fo:=a6o qh (bA X G i31)
 have sY:=b56 rz FC Fo (ni X G i32)
 have Ff:=a9q Fw Ew vo sY (ni X G i33)
 have B2:=a5o (P:=l.prog) (w:=w) (base:=base) z_len (bA X G i34)
 have ED:=b3K z_MOST_PICKS B2 (bA X G i35)
 have E4:=b0S (P:=l.prog) (w:=w) (base:=base) (bA X G i36)
 have EW:=b1Y z_sorted z_sum iq E4 (bA X G i37)
 have Fp:=a6i vJ ED EW (bA X G i38)
 have By:=b1Z Fp (bA X G i39)
 have Fz:=a66 (P:=l.prog) (w:=w) (base:=base) z_len (bA X G i40)
 have Fk:=a9r z_enumerate lN pM (bA X G i41)
 have EX:=b1X z_len z_sorted pH Fk (bA X G i42)
 have BX:=a7S (P:=l.prog) (w:=w) (base:=base) (bA X G i43)
 have xO:=a67 (P:=l.prog) (w:=w) (base:=base) z_len (df X G i44)
 have Fg:=a9v (P:=l.prog) (w:=w) (base:=base) (bA X G i45)
 have BU:=a8K z_len Fg (df X G i46)
 have kF:=a8L (P:=l.prog) (w:=w) (base:=base) (df X G i47)
 have Fc:=b0X kF (ni X G i48)
 have Fi:=a9u z_range kF Fc (df X G i49)
 have Fd:=a8J z_enumerate z_range kF (df X G i50)
 have O_law:=b71 z_len z_sorted z_zip xu Fe iq rz sY Ff By Fz EX BX xO BU kF Fi Fd (bA X G i51)
 exact b8b O_law fin
end My
open PySem L2 DL
def vcNames:String:="a0i a0u a0r a3x a9o b1I b1H b1G Wo_seq b6S Wo_bk b8W b8V b2T b9f b8M b6J Wo_eV Wo_eC b9d b80 b6Y b62 b6W b6Z b61 b4G a9W siQ_l b60 b6X b83 b84 b85 b86 b87 b82 b7e b7g b7f rep0 rep1 rep2 rep3 rep4 b4A b4L b65 b66 b64 b68 b6V b81 b6T b2l b36 b2n b2k b2j b2m b8S b9g b6N b6M b6L b4B b6P b8R b6O b7d b69 b9c b7h b4O b67 b7a b8N b8P b8O Wo_bV b9e b8T b8U b7b b2X ixQ_i b9b atI_0 atI_1 atI_2 atI_3 b4K b2Z b4M b4N b7c b6y b88 b63 a9V a9e b6Q b4C b3e b3f Wo_gN Wo_gT b4E b2V b8Q b9h b8u b89 b8X b6j b6U b6K b6R b8Z pQ_i b8Y b9a b4z b4J b4I srQ_l b1a b4H Sl_sh Sl_ow List.getElem?_cons_zero List.getElem?_cons_succ List.set_cons_zero List.set_cons_succ List.length_cons List.length_nil a9G a8Y decide_eq_true_eq decide_eq_false_iff_not Bool.not_eq_true' Bool.not_eq_false' Bool.not_true Bool.not_false true_and and_true forall_const Bool.true_eq_false Bool.false_eq_true false_implies reduceCtorEq implies_true true_implies Int.reduceToNat Nat.reduceAdd Nat.reduceLT Nat.reduceLeDiff Nat.reduceSub Int.reduceLT Int.reduceLE Int.reduceEq Int.cast_ofNat_Int not_true_eq_false not_false_eq_true"
local macro_rules | `(tactic| walk_at "vc")=>do
 let ls ← ((vcNames.splitOn " ") ++ ["a3e","b4F","b2U","b33","b6l","b35","b32","b31","b34"]).toArray.mapM fun s=>`(Lean.Parser.Tactic.simpLemma| $(Lean.mkIdent s.toName):ident)
 `(tactic| first | simp only [$ls,*] | dsimp only | skip)
local macro_rules | `(tactic| walk_at "v1")=>do
 let ls ← (vcNames.splitOn " ").toArray.mapM fun s=>`(Lean.Parser.Tactic.simpLemma| $(Lean.mkIdent s.toName):ident)
 `(tactic| first | simp only [$ls,*] | dsimp only | skip)
local macro_rules | `(tactic| walk_at "sc")=>`(tactic| first | omega | (simp only [DivC,PowC,MulC,LIM,R62]; omega) | rfl | decide)
local macro_rules | `(tactic| walk_at "go")=>`(tactic| (walk_at "vc"; repeat' first | apply c32 | intro _); all_goals try (walk_at "sc"))
local macro_rules | `(tactic| walk_at "sp")=>`(tactic| (repeat' first | apply And.intro | intro _); all_goals first | (exfalso; omega) | walk_at "sc" | ((repeat apply Exists.intro); rfl) | skip)
local macro_rules | `(tactic| walk_at "st")=>`(tactic| repeat (refine And.intro ?_ ?_; · first | (simp only [DivC,PowC,MulC,LIM,R62]; omega) | omega))
namespace My
theorem b6z(i:Int):xQ [.int i]=some (.sh (.bl true)):=by
 refine Wo.eq (kM.mpr ?_)
 unfold LV
 walk_at "go"
noncomputable abbrev Row:=Int×Int×Int×Int
noncomputable def Row.d(r:Row):D:=.tup [.int r.1,.int r.2.1,.int r.2.2.1,.int r.2.2.2]
theorem cP(r:Row):Row.d r=.tup [.int r.1,.int r.2.1,.int r.2.2.1,.int r.2.2.2]:=rfl
noncomputable def Row.at(r:Row)(x:Int):Int:=r.2.2.1+r.2.2.2*(x-r.1)
def rh(r:Row):Prop:=r.1<=r.2.1/\(r.1=r.2.1->r.2.2.2=0)
def qb(a r:Row):Prop:=a.2.1<r.1/\(r.1=a.2.1+1->a.1<a.2.1/\r.2.2.1≠a.at r.1)
noncomputable def aU(R:Row->Row->Prop):List Row->Prop
 | a::b::rs=>R a b/\aU R (b::rs)
 | _=>True
theorem aU.snoc{R:Row->Row->Prop}{r:Row}:∀{rs:List Row},aU R rs->(∀a,rs.getLast?=some a->R a r)->aU R (rs++[r])
 | [],_,_=>trivial
 | [a],_,h=>⟨h a rfl,trivial⟩
 | a::b::rs,h,k=>⟨h.1,h.2.snoc (rs:=b::rs) λc hc=>k c (by simpa using hc)⟩
theorem aU.tail{R:Row->Row->Prop}{r:Row}{rs:List Row}(h:aU R (r::rs)):aU R rs:=by
 cases rs with
 | nil=>trivial
 | cons q rs=>exact h.2
def Canon(rs:List Row):Prop:=(∀r∈rs,rh r)/\aU qb rs
def aq(B:Int)(r:Row):Prop:=(-B<=r.1/\r.1<=B)/\(-B<=r.2.1/\r.2.1<=B)/\(-B<=r.2.2.1/\r.2.2.1<=B)/\(-B<=r.2.2.2/\r.2.2.2<=B)
noncomputable def look:List Row->Int->Option Int
 | [],_=>none
 | r::rs,x=>if r.1<=x/\x<=r.2.1 then some (r.at x) else look rs x
noncomputable def As:Option Int->D
 | none=>.bz
 | some i=>.int i
def bK(rs:List Row):Prop:=(∀r∈rs,r.1<=r.2.1)/\rs.Pairwise λa b=>a.2.1<b.1
theorem Canon.bD:∀{rs:List Row},Canon rs->bK rs
 | [],_=>⟨λ_ z=>(nomatch z),.nil⟩
 | [r],h=>⟨λq hq=>(h.1 q hq).1,p7 _ _⟩
 | r::q::rs,h=>by
  obtain ⟨i1,i2⟩:=Canon.bD (rs:=q::rs) ⟨λa ha=>h.1 a (a9 _ ha),h.2.2⟩
  refine ⟨λa ha=>(h.1 a ha).1,dg.mpr ⟨λa ha=>?_,i2⟩⟩
  have h1:=h.2.1.1
  rcases br.mp ha with rfl | ha
  .exact h1
  .have:=(dg.mp i2).1 a ha
   have:=i1 q aR
   lia
theorem K9{x:Int}{post:List Row}:∀{pre:List Row},(∀q∈pre,q.2.1<x)->look (pre++post) x=look post x
 | [],_=>rfl
 | r::pre,h=>by
  have:=h r aR
  rw [List.cons_append,look,if_neg (by ext this)]
  exact K9 λq hq=>h q (a9 _ hq)
theorem E7{x:Int}:∀{rs:List Row},(∀q∈rs,x<q.1\/q.2.1<x)->look rs x=none
 | [],_=>rfl
 | r::rs,h=>by
  have:=h r aR
  rw [look,if_neg (by ext this)]
  exact E7 λq hq=>h q (a9 _ hq)
theorem rB{x c:Int}:∀{rs:List Row},look rs x=some c->∃r∈rs,r.1<=x/\x<=r.2.1/\c=r.at x
 | [],h=>by cases h
 | r::rs,h=>by
  rw [look] at h
  split at h
  .exact ⟨r,aR,by lia,by lia,(cG h).symm⟩
  .obtain ⟨q,hq,k⟩:=rB h
   exact ⟨q,a9 _ hq,k⟩
theorem kE{rs:List Row}(h:bK rs){r:Row}(hr:r∈rs){x:Int}(h1:r.1<=x)(h2:x<=r.2.1):look rs x=some (r.at x):=by
 obtain ⟨pre,post,rfl⟩:=OF hr
 rw [K9 λq hq=>?_,look,if_pos ⟨h1,h2⟩]
 have:=(gr.mp h.2).2.2 q hq r aR
 ext h1 this
def Val(rs:List Row)(x c:Int):Prop:=∃r∈rs,r.1<=x/\x<=r.2.1/\c=r.at x
theorem iK{rs:List Row}(h:bK rs){x c:Int}:look rs x=some c↔Val rs x c:=
 ⟨rB,λ⟨r,hr,h1,h2,e⟩=>by rw [kE h hr h1 h2,e]⟩
theorem Val.app{rs qs:List Row}{x c:Int}:Val (rs++qs) x c↔Val rs x c\/Val qs x c:=by
 unfold Val
 constructor
 .rintro ⟨r,hr,h⟩
  rcases bU.mp hr with hr | hr
  .exact .inl ⟨r,hr,h⟩
  .exact .inr ⟨r,hr,h⟩
 .rintro (⟨r,hr,h⟩ | ⟨r,hr,h⟩)
  .exact ⟨r,gf _ hr,h⟩
  .exact ⟨r,fF _ hr,h⟩
theorem Val.one{r:Row}{x c:Int}:Val [r] x c↔r.1<=x/\x<=r.2.1/\c=r.at x:=by
 unfold Val
 simp
theorem Val.two{r q:Row}{x c:Int}:Val [r,q] x c↔(r.1<=x/\x<=r.2.1/\c=r.at x)\/(q.1<=x/\x<=q.2.1/\c=q.at x):=by
 unfold Val
 simp
noncomputable def total(rs:List Row):Int:=(rs.map λr=>r.2.1-r.1+1).sum
theorem vz(rs qs:List Row):total (rs++qs)=total rs+total qs:=by unfold total;rw [ej,DD]
theorem aU.append{R:Row->Row->Prop}:∀{rs qs:List Row},aU R rs->aU R qs->(∀a b,rs.getLast?=some a->qs.head?=some b->R a b)->aU R (rs++qs)
 | [],_,_,h,_=>h
 | [a],[],_,_,_=>trivial
 | [a],b::qs,_,h,k=>⟨k a b rfl rfl,h⟩
 | a::b::rs,qs,h,h',k=>⟨h.1,aU.append (rs:=b::rs) h.2 h' λc d hc hd=>k c d (by simpa using hc) hd⟩
theorem aU.left{R:Row->Row->Prop}:∀{rs qs:List Row},aU R (rs++qs)->aU R rs
 | [],_,_=>trivial
 | [a],_,_=>trivial
 | a::b::rs,qs,h=>⟨h.1,aU.left (rs:=b::rs) h.2⟩
theorem aU.mid{R:Row->Row->Prop}{b:Row}:∀{rs:List Row},aU R (rs++[b])->∀a,rs.getLast?=some a->R a b
 | [],_,a,h=>by cases h
 | [a],h,c,hc=>by cases hc;exact h.1
 | a::c::rs,h,d,hd=>aU.mid (rs:=c::rs) h.2 d (by simpa using hd)
theorem aU.get{R:Row->Row->Prop}:∀{rs:List Row},aU R rs->∀(k:Nat) (h:k+1<rs.length),R (rs[k]'(by ext h:1)) rs[k+1]
 | [],_,k,h=>absurd h (by simp)
 | [a],_,k,h=>absurd h (by simp)
 | a::b::rs,h,0,_=>h.1
 | a::b::rs,h,k+1,hk=>aU.get (rs:=b::rs) h.2 k (by simpa using hk)
theorem KI{rs:List Row}{n:Nat}(h:n<rs.length):dF (rs.map Row.d) (n:Int)=some (Row.d rs[n]):=by
 rw [DL.du];simp [h]
theorem aq.mono{A B:Int}{r:Row}(h:aq A r)(jP:A<=B):aq B r:=by unfold aq at *;ext h jP
theorem P9{n:Nat}(x y:Row):bg (n+1) x.d y.d=some (decide (x=y)):=by
 obtain ⟨a,b,c,d⟩:=x
 obtain ⟨a',b',c',d'⟩:=y
 simp only [Row.d,bg,eqT,yG,oh,Oh,List.zipWith_nil_left,eW,wQ,List.all_cons,List.all_nil,gy,List.length_nil,id]
 simp [Bool.and_assoc]
noncomputable def gG(c k:Int):Int:=((c%10^60+3)*(16180339887498948482045868343656381177203+2*k*k)+6151*k)*((c%10^60+3)*(16180339887498948482045868343656381177203+2*k*k)+6151*k)%(10^60+33)
theorem tu(c k:Int):0<=gG c k/\gG c k<10^60+33:=⟨px _ (by decide),pf _ (by decide)⟩
theorem tm(c k:Int)(h0:0<=k)(h1:k<=10^6):oE [.int c,.int k]=some (.sh (.int (gG c k))):=by
 refine Wo.eq (kP.mpr ?_)
 unfold L8 gG
 have m1:=px c (show (10^60:Int)≠0 by decide)
 have m2:=pf c (show (0:Int)<10^60 by decide)
 have k1:0<=2*k*k:=oq (by ext h0) h0
 have k2:2*k*k<=2*10^6*10^6:=Int.mul_le_mul (by ext h1) h1 h0 (by ext)
 walk_at "vc"
 generalize c%10^60=a at *
 generalize 2*k*k=q at *
 have b1:=sX (a:=a+3) (b:=16180339887498948482045868343656381177203+q) (A:=10^61) (B:=10^42) (by ext m1) (by ext m2) (by lia) (by lia)
 have b2:MulC (a+3) (16180339887498948482045868343656381177203+q):=tB (by ext m1) (by ext m2) (by lia) (by lia)
 generalize (a+3)*(16180339887498948482045868343656381177203+q)=b at *
 have b3:MulC (b+6151*k) (b+6151*k):=tB (by lia) (by lia) (by lia) (by lia)
 have b4:MulC 2 k:=.inr (.inl (by ext h0 h1))
 have b5:MulC (2*k) k:=.inr (.inl (by ext h0 h1))
 have b6:MulC 6151 k:=.inr (.inl (by ext h0 h1))
 have b7:PowC 10 60:=by decide
 simp [b2,b3,b4,b5,b6,b7,jK]
theorem b2A(cs:List Int):pD (cs.map D.int)=cs.zipIdx.map λp=>D.tup [.int p.2,.int p.1]:=by
 unfold pD
 rw [List.zipIdx_map,fM]
 rfl
theorem b1b{α:Type}{cs:List α}{pre post:List (α×Nat)}{a:α×Nat}(e:cs.zipIdx=pre++a::post):a.2=pre.length/\pre.length<cs.length:=by
 have h:=congrArg (λl=>l[pre.length]?) e
 have hl:=congrArg mi e
 simp at h hl
 obtain ⟨x,_,h⟩:=h
 exact ⟨by rw [<-h],by ext hl⟩
theorem b6C(cs:List Int)(most:Int)(h0:1<=most)(h1:most<=1000)(hl:cs.length<=1000){r:Bool}:∃ss:List Int,xP [.lst r (cs.map D.int),.int most]=some (.ow (ss.map D.int))/\(ss.length:Int)=most/\∀s∈ss,0<=s/\s<10^60+33:=by
 have key:Wo (xP [.lst r (cs.map D.int),.int most]) λs=>∃ss:List Int,s=.ow (ss.map D.int)/\(ss.length:Int)=most/\∀v∈ss,0<=v/\v<10^60+33:=by
  refine kN.mpr ?_
  unfold LU
  walk_at "vc"
  unfold fx
  rw [pG (λ(k:Nat)=>D.int (0+(k:Int))) (λk=>.int (gG k 40)) (λe=>∃j,e=[j]) (ko most.toNat) (λk _ e he=>by
   obtain ⟨j,rfl⟩:=he
   walk_at "vc"
   rw [Int.zero_add,tm _ _ (by decide) (by decide)]
   walk_at "vc"
   exact ⟨_,rfl⟩) ⟨_,rfl⟩]
  walk_at "vc"
  rw [b2A,aX,List.length_range]
  refine ⟨by ext h1,?_⟩
  refine mq (λp:Int×Nat=>D.tup [.int p.2,.int p.1]) (λpre env=>∃x3 x4 x5,∃ss:List Int,env=[.sh (.lst r (cs.map D.int)),.sh (.int most),.ow (ss.map D.int),x3,x4,x5]/\(ss.length:Int)=most/\∀v∈ss,0<=v/\v<10^60+33) cs.zipIdx (λpre a post env e h=>?_) (λenv h=>?_)
   ⟨_,_,_,(ko most.toNat).map λ(k:Nat)=>gG k 40,by rw [fM];rfl,by simp;ext h0,λv hv=>by obtain ⟨k,_,rfl⟩:=cS.mp hv;exact tu _ _⟩
  .obtain ⟨x3,x4,x5,ss,rfl,hs,hv⟩:=h
   obtain ⟨ea,hp⟩:=b1b e
   obtain ⟨c,n⟩:=a
   have m1:=px (n:Int) (show most≠0 by ext h0)
   have m2:=pf (n:Int) (show 0<most by ext h0)
   have m3:=px (n:Int) (show (37:Int)≠0 by ext)
   have m4:=pf (n:Int) (show (0:Int)<37 by ext)
   walk_at "vc"
   generalize (n:Int)%most=j at *
   rw [tD 0 m1 (by ext hs m2)]
   walk_at "vc"
   rw [tm _ _ m3 (by lia)]
   walk_at "vc"
   have hj:lZ (ss.map D.int).length j=some j.toNat:=by
    unfold lZ
    rw [if_pos m1,aX,if_pos (by ext hs m2)]
   rw [hj]
   walk_at "vc"
   refine ⟨by walk_at "sc",by walk_at "sc",by walk_at "sc",?_⟩
   refine ⟨_,_,_,ss.set j.toNat (gG _ _),by rw [List.map_set],by rw [List.length_set];exact hs,λv zz=>?_⟩
   rcases List.mem_or_eq_of_mem_set zz with h | h
   .exact hv v h
   .rw [h];exact tu _ _
  .obtain ⟨x3,x4,x5,ss,rfl,hs,hv⟩:=h
   walk_at "vc"
   exact ⟨ss,rfl,hs,hv⟩
 obtain ⟨s,e,l,rfl,h⟩:=key
 exact ⟨l,e,h⟩
theorem b8C{at_ m:Int}{a:Row}(hm:0<=m/\m<10^60+33)(h1:-(10^46)<=at_/\at_<=10^46)(h2:-(10^46)<=a.1/\a.1<=10^46)(h3:-(10^30)<=a.2.2.2/\a.2.2.2<=10^30):
  ∃l w p s:Int,xB [.int at_,.int m,a.d]=some (.sh (Row.d (l,l+w,p,s)))/\(at_<=l/\l<=at_+10^40)/\(0<=w/\w<=10^40)/\((-(10^45)<=p/\p<=10^45)\/p=a.at l)/\(-(10^30)<=s/\s<=10^30):=by
 have key:Wo (xB [.int at_,.int m,a.d]) λo=>∃l w p s:Int,o=.sh (Row.d (l,l+w,p,s))/\(at_<=l/\l<=at_+10^40)/\(0<=w/\w<=10^40)/\((-(10^45)<=p/\p<=10^45)\/p=a.at l)/\(-(10^30)<=s/\s<=10^30):=by
  refine nT.mpr ?_
  unfold Lf
  walk_at "v1"
  walk_at "st"
  refine Kk [0,0,1,1+m%7,m%10^40] (px _ (by decide)) (pf _ (by decide)) λg hg=>?_
  have hg:0<=g/\g<=10^40:=by simp at hg;lia
  walk_at "v1"
  rw [tm _ _ (by decide) (by decide)]
  walk_at "v1"
  have q1:=tu m 61
  generalize gG m 61=m1 at *
  walk_at "st"
  refine Kk [0,1,m1%6,m1%10^40] (px _ (by decide)) (pf _ (by decide)) λw hw=>?_
  have hw:0<=w/\w<=10^40:=by simp at hw;lia
  walk_at "v1"
  rw [tm _ _ (by decide) (by decide)]
  walk_at "v1"
  have q2:=tu m1 62
  generalize gG m1 62=m2 at *
  walk_at "st"
  refine EE (λd=>∃p:Int,d=.int p /\ -(10^45)<=p/\p<=10^45) (by simp) ?_ λd hd=>?_
  .walk_at "vc"
   simp [DivC,PowC,MulC,jK,LIM]
   lia
  obtain ⟨p,rfl,hp⟩:=hd
  walk_at "v1"
  refine EE (λd=>∃p:Int,d=.int p/\((-(10^45)<=p/\p<=10^45)\/p=a.at (at_+g))) (by simp) ?_ λd hd=>?_
  .have hmul:MulC a.2.2.2 (at_+g-a.1):=tB (by ext h3) (by ext h3) (by ext h1 h2 hg) (by ext h1 h2 hg)
   rw [cP a]
   walk_at "vc"
   simp [hmul,Row.at,jK]
   lia
  obtain ⟨p',rfl,zH⟩:=hd
  walk_at "v1"
  rw [tm _ _ (by decide) (by decide)]
  walk_at "v1"
  have q3:=tu m2 63
  generalize gG m2 63=m3 at *
  walk_at "st"
  refine EE (λd=>∃s:Int,d=.int s /\ -(10^30)<=s/\s<=10^30) (by simp) ?_ λd hd=>?_
  .walk_at "vc"
   simp [DivC,PowC,MulC,jK,LIM]
   lia
  obtain ⟨s,rfl,hs⟩:=hd
  walk_at "vc"
  exact ⟨at_+g,w,p',s,rfl,by ext hg,hw,zH,hs⟩
 obtain ⟨o,e,l,w,p,s,rfl,h⟩:=key
 exact ⟨l,w,p,s,e,h⟩
def m6(r:Row):Prop:=(-(10^46)<=r.1/\r.1<=10^46)/\(-(10^46)<=r.2.1/\r.2.1<=10^46)/\(-(10^79)<=r.2.2.1/\r.2.2.1<=10^79)/\(-(10^30)<=r.2.2.2/\r.2.2.2<=10^30)
theorem b4y{rs:List Row}{r:Row}(h:bK rs)(hr:r.1<=r.2.1)(hl:∀q∈rs,q.2.1<r.1):bK (rs++[r]):=by
 refine ⟨λq hq=>?_,gr.mpr ⟨h.2,p7 _ _,λa ha b hb=>?_⟩⟩
 .rcases bU.mp hq with h' | h'
  .exact h.1 q h'
  .rw [bQ.mp h'];exact hr
 .rw [bQ.mp hb];exact hl a ha
theorem b6G{m many:Int}(hm:0<=m/\m<10^60+33)(h0:0<=many)(h1:many<=10):∃rs:List Row,rL [.int m,.int many]=some (.ow (rs.map Row.d))/\(rs.length:Int)=many/\bK rs/\∀r∈rs,m6 r:=by
 have key:Wo (rL [.int m,.int many]) λo=>∃rs:List Row,o=.ow (rs.map Row.d)/\(rs.length:Int)=many/\bK rs/\∀r∈rs,m6 r:=by
  refine mz.mpr ?_
  unfold Lo
  walk_at "v1"
  walk_at "st"
  refine EE (λd=>∃a:Int,d=.int a /\ -(10^45)<=a/\a<=10^45) (by simp) ?_ λd hd=>?_
  .walk_at "vc"
   simp [DivC,PowC,MulC,jK,LIM]
   lia
  obtain ⟨at0,rfl,ha0⟩:=hd
  walk_at "v1"
  refine ⟨by walk_at "sc",?_⟩
  refine b5H _ _ (λk env=>∃x6,∃(rs:List Row) (a:Row) (at_ m:Int),env=[.sh (.int m),.sh (.int many),.sh (.int at_),.ow (rs.map Row.d),.sh a.d,x6]/\rs.length=k/\bK rs/\(0<=m/\m<10^60+33)/\(-(10^45)<=at_/\at_<=10^45+k*10^41)/\(∀r∈rs,r.2.1<at_) /\
   (-(10^46)<=a.1/\a.1<=10^46)/\(-(10^30)<=a.2.2.2/\a.2.2.2<=10^30)/\(-(k*10^77)<=a.2.2.1/\a.2.2.1<=k*10^77)/\∀r∈rs,m6 r) (λk env hk h=>?_) (λenv h=>?_)
   ⟨_,[],(0,0,0,1),at0,m,rfl,rfl,⟨λ_ z=>(nomatch z),.nil⟩,hm,by lia,λ_ z=>(nomatch z),by decide,by decide,by simp,λ_ z=>(nomatch z)⟩
  .obtain ⟨x6,rs,a,at_,m,rfl,hl,hA,hm,n6,be,uB,o4,HE,hb⟩:=h
   have Nr:(k:Int)<10:=by ext h1 hk
   walk_at "v1"
   rw [tm _ _ (by ext) (by ext Nr)]
   walk_at "v1"
   have q1:=tu m (70+(0+(k:Int)))
   generalize gG m (70+(0+(k:Int)))=m1 at *
   obtain ⟨l,w,p,s,er,eJ,hw,hp,hs⟩:=b8C (at_:=at_) (a:=a) q1 (by lia) uB o4
   rw [er]
   walk_at "vc"
   rw [cP]
   walk_at "vc"
   rw [aX]
   have pU:-((k+1)*10^77)<=p/\p<=(k+1)*10^77:=by
    rcases hp with h | h
    .lia
    .have:=sX (a:=a.2.2.2) (b:=l-a.1) (A:=10^30) (B:=3*10^46) (by ext o4) (by ext o4) (by ext n6 uB eJ) (by lia)
     unfold Row.at at h
     lia
   refine ⟨by ext hl Nr,?_⟩
   refine ⟨_,rs++[(l,l+w,p,s)],(l,l+w,p,s),l+w+1,m1,by rw [ej];rfl,by simp [hl],b4y hA (by dsimp only;ext hw) (λq hq=>by have:=be q hq;dsimp only;ext eJ this),q1,by push_cast;lia,λr hr=>?_,by dsimp only;lia,hs,by push_cast;exact pU,λr hr=>?_⟩
   .rcases bU.mp hr with h | h
    .have:=be r h;ext eJ hw this
    .rw [bQ.mp h];dsimp only;ext
   .rcases bU.mp hr with h | h
    .exact hb r h
    .rw [bQ.mp h];unfold m6;dsimp only;lia
  .obtain ⟨x6,rs,a,at_,m,rfl,hl,hA,hm,n6,be,uB,o4,HE,hb⟩:=h
   walk_at "vc"
   exact ⟨rs,rfl,by ext h0 hl,hA,hb⟩
 obtain ⟨o,e,rs,rfl,h⟩:=key
 exact ⟨rs,e,h⟩
theorem JL{p s l x:Int}(h1:-(10^250)<=s)(h2:s<=10^250)(h3:-(10^250)<=x-l)(h4:x-l<=10^250):tE [.tup [.int p,.int s],.int l,.int x]=some (.sh (.int (p+s*(x-l)))):=by
 refine Wo.eq (nS.mpr ?_)
 unfold Lg
 walk_at "go"
theorem Bj{r:Row}{x:Int}(h1:-(10^250)<=r.2.2.2)(h2:r.2.2.2<=10^250)(h3:-(10^250)<=x-r.1)(h4:x-r.1<=10^250):rK [r.d,.int x]=some (.sh (.int (r.at x))):=by
 refine Wo.eq (mD.mpr ?_)
 unfold LL
 rw [cP r]
 walk_at "vc"
 rw [JL h1 h2 h3 h4]
 walk_at "vc"
 rfl
theorem b8G{a b:Int}(h:0<b)(h2:b<=10^250):Bt [.int a,.int b]=some (.sh (.int (a/b))):=by
 refine Wo.eq (vO.mpr ?_)
 unfold JM
 walk_at "go"
theorem Ia{a b:Int}(h:0<b)(h2:b<=10^250):Bd [.int a,.int b]=some (.sh (.int (-(-a/b)))):=by
 refine Wo.eq (MC.mpr ?_)
 unfold vU
 walk_at "go"
noncomputable def gS:Option (Int×Int)->D
 | none=>.bz
 | some (a,b)=>.tup [.int a,.int b]
noncomputable def vX(a b:Int):Option (Int×Int):=if a<=b then some (a,b) else none
theorem OX(a b:Int):xW [.int a,.int b]=some (.sh (gS (vX a b))):=by
 refine Wo.eq (g9.mpr ?_)
 unfold MA
 walk_at "go"
 all_goals simp [vX,gS, *]
noncomputable def nd(a s low high:Int):Option (Int×Int):=if 0<s then vX low (min high (low+(-a)/s)) else if s<0 then vX (max low (low + -((-a)/(-s)))) high else if 0<a then none else some (low,high)
theorem Av{p1 s1 p2 s2 low high:Int}(h:-(10^250)<=s1-s2)(h2:s1-s2<=10^250):
  xS [.tup [.int p1,.int s1],.tup [.int p2,.int s2],.int low,.int high]=some (.sh (gS (nd (p1-p2) (s1-s2) low high))):=by
 refine Wo.eq (kH.mpr ?_)
 unfold LX
 walk_at "vc"
 refine ⟨λhs=>?_,λhs=>⟨λgO=>?_,λgO=>⟨λha=>?_,λha=>?_⟩⟩⟩
 .rw [b8G hs h2]
  walk_at "vc"
  rw [OX]
  walk_at "vc"
  rw [nd,if_pos hs]
 .rw [Ia (by ext gO) (by ext h)]
  walk_at "vc"
  rw [OX]
  walk_at "vc"
  rw [nd,if_neg hs,if_pos gO]
 .rw [nd,if_neg hs,if_neg gO,if_pos ha];rfl
 .rw [nd,if_neg hs,if_neg gO,if_neg ha];rfl
theorem J'{a s low high:Int}(nr:low<=high):match nd a s low high with
  | none=>∀x,low<=x->x<=high->0<a+s*(x-low)
  | some (f,l)=>(low<=f/\f<=l/\l<=high/\(f=low\/l=high))/\∀x,low<=x->x<=high->(a+s*(x-low)<=0↔f<=x/\x<=l):=by
 unfold nd
 by_cases hs:0<s
 .rw [if_pos hs]
  obtain ⟨f1,f2⟩:=QF (a:=-a) hs
  generalize (-a)/s=q at *
  have key:∀x,a+s*(x-low)<=0↔x-low<=q:=λx=>by
   constructor
   .intro h
    rcases Ir q (x-low) with h' | h'
    .have:=nI (show q+1<=x-low by ext h') (AL hs)
     grind
    .exact h'
   .intro h
    have:=nI h (AL hs)
    grind
  unfold vX
  by_cases hm:low<=min high (low+q)
  .rw [if_pos hm]
   refine ⟨⟨by ext,by ext hm,by ext,.inl rfl⟩,λx h1 h2=>?_⟩
   rw [key]
   ext h1 h2
  .rw [if_neg hm]
   intro x h1 h2
   have:=not_congr (key x)
   ext nr hm h1 this
 .rw [if_neg hs]
  by_cases gO:s<0
  .rw [if_pos gO]
   obtain ⟨f1,f2⟩:=QF (a:=-a) (b:=-s) (by ext gO)
   generalize (-a)/(-s)=q at *
   have key:∀x,a+s*(x-low)<=0 ↔ -q<=x-low:=λx=>by
    constructor
    .intro h
     rcases Ir (x-low) (-q) with h' | h'
     .have:=nI (show x-low+1 <= -q by ext h') (show 0 <= -s by ext gO)
      grind
     .exact h'
    .intro h
     have:=nI h (show 0 <= -s by ext gO)
     grind
   unfold vX
   by_cases hm:max low (low + -q)<=high
   .rw [if_pos hm]
    refine ⟨⟨by ext,by ext hm,by ext,.inr rfl⟩,λx h1 h2=>?_⟩
    rw [key]
    ext h1 h2
   .rw [if_neg hm]
    intro x h1 h2
    have:=not_congr (key x)
    ext nr hm h2 this
  .rw [if_neg gO]
   have:s=0:=by ext hs gO
   subst this
   by_cases ha:0<a
   .rw [if_pos ha];intro x _ _;ext ha
   .rw [if_neg ha];exact ⟨⟨by ext,by ext nr,by ext,.inl rfl⟩,λx h1 h2=>by ext ha h1 h2⟩
theorem D5{p s l f g:Int}(h1:-(10^250)<=s)(h2:s<=10^250)(h3:-(10^250)<=f-l)(h4:f-l<=10^250):tI [.tup [.int p,.int s],.int l,.int f,.int g]=some (.sh (.tup [.int f,.int g,.int (p+s*(f-l)),.int s])):=by
 refine Wo.eq (jF.mpr ?_)
 unfold Mn
 walk_at "vc"
 rw [JL h1 h2 h3 h4]
 walk_at "go"
noncomputable def gD(p s l f g:Int):Row:=(f,g,p+s*(f-l),s)
noncomputable def oU(p1 s1 p2 s2 low high:Int):List Row:=match nd (p1-p2) (s1-s2) low high with
 | none=>[gD p2 s2 low low high]
 | some (f,l)=>(if low<f then [gD p2 s2 low low (f-1)] else [])++[gD p1 s1 low f l]++(if l<high then [gD p2 s2 low (l+1) high] else [])
theorem b8D{p1 s1 p2 s2 low high:Int}(nr:low<=high)(hw:high-low<=10^200)(h1:-(10^200)<=s1)(h2:s1<=10^200)(h3:-(10^200)<=s2)(h4:s2<=10^200):
  B9 [.tup [.int p1,.int s1],.tup [.int p2,.int s2],.int low,.int high]=some (.ow ((oU p1 s1 p2 s2 low high).map Row.d)):=by
 refine Wo.eq (jG.mpr ?_)
 unfold Mm
 walk_at "vc"
 rw [Av (by ext h1 h4) (by ext h2 h3)]
 have sp:=J' (a:=p1-p2) (s:=s1-s2) (low:=low) (high:=high) nr
 unfold oU
 cases oV:nd (p1-p2) (s1-s2) low high with
 | none =>
  dsimp only [gS]
  walk_at "vc"
  rw [D5 (by ext h3) (by ext h4) (by ext) (by ext)]
  walk_at "vc"
  rfl
 | some fl =>
  obtain ⟨f,l⟩:=fl
  rw [oV] at sp
  obtain ⟨⟨q1,q2,q3,q4⟩,q5⟩:=sp
  dsimp only [gS]
  walk_at "vc"
  rw [D5 (by ext h3) (by ext h4) (by ext) (by ext),D5 (by ext h1) (by ext h2) (by ext q1) (by ext hw q2 q3),D5 (by ext h3) (by ext h4) (by ext q1 q2) (by ext hw q3)]
  walk_at "vc"
  refine ⟨λa=>?_,λa=>?_⟩<;>(repeat' first | apply c32 | intro _)<;>simp [*,Row.d,gD]
theorem D4(r:Row):rF [r.d]=some (.sh (.bl (decide (r.1=r.2.1)))):=by
 refine Wo.eq (kQ.mpr ?_)
 unfold L7
 rw [cP r]
 walk_at "go"
noncomputable def fP(r:Row):Row:=if r.1=r.2.1 then (r.1,r.2.1,r.2.2.1,0) else r
theorem ET(r:Row):rD [r.d]=some (.sh (fP r).d):=by
 refine Wo.eq (rN.mpr ?_)
 unfold Ki
 walk_at "vc"
 rw [D4]
 walk_at "vc"
 unfold fP
 refine ⟨λh=>?_,λh=>?_⟩
 .rw [if_pos h,cP]
  walk_at "vc"
  rfl
 .rw [if_neg h]
noncomputable def lJ(a r:Row):Int:=if a.1=a.2.1 then r.2.2.1-a.2.2.1 else a.2.2.2
noncomputable def lL(a r:Row):List Row:=if r.2.2.1≠a.2.2.1+lJ a r*(r.1-a.1) then [a,fP r] else if r.1=r.2.1\/r.2.2.2=lJ a r then [(a.1,r.2.1,a.2.2.1,lJ a r)] else
 [(a.1,r.1,a.2.2.1,lJ a r),fP (r.1+1,r.2.1,r.2.2.1+r.2.2.2,r.2.2.2)]
theorem b4q{a r:Row}(ha:aq (3*10^180) a)(hr:aq (10^180) r):Ca [a.d,r.d]=some (.ow ((lL a r).map Row.d)):=by
 refine Wo.eq (iQ.mpr ?_)
 unfold L'
 walk_at "v1"
 rw [D4]
 unfold aq at ha hr
 have ui:Wo (some (Sl.sh (D.bl (decide (a.1=a.2.1))))) λUw=>Wo (lT Uw.d) λb=>True:=⟨_,rfl,_,rfl,trivial⟩
 have wc:-(10^200)<=lJ a r/\lJ a r<=10^200:=by unfold lJ;split<;>omega
 rw [cP a,cP r]
 walk_at "v1"
 have fin:∀{st:Int},st=lJ a r->Wo (ah (bS (bN (ae iD (av (bV 1) (eC (.int 2))) (aA 3 tE (af (aP (af (av (bV 0) (eC (.int 2))) (af (eV 2) aa))) (af (av (bV 0) (eC (.int 0))) (af (av (bV 1) (eC (.int 0))) aa))))))
   (aw (bq (af (eV 0) (af (aA 1 rD (af (eV 1) aa)) aa)))) cE)
   (ah (bS (iy (cC (aA 1 rF (af (eV 1) aa))) (bN (ae cZ (av (bV 1) (eC (.int 3))) (eV 2))))
   (aw (bq (af (aP (af (av (bV 0) (eC (.int 0))) (af (av (bV 1) (eC (.int 1))) (af (av (bV 0) (eC (.int 2))) (af (eV 2) aa))))) aa))) cE)
   (ah (aY 3 (aA 1 rD (af (aP (af (ae bj (av (bV 1) (eC (.int 0))) (eC (.int 1))) (af (av (bV 1) (eC (.int 1))) (af (ae bj (av (bV 1) (eC (.int 2))) (av (bV 1) (eC (.int 3)))) (af (av (bV 1) (eC (.int 3))) aa))))) aa)))
   (aw (bq (af (aP (af (av (bV 0) (eC (.int 0))) (af (av (bV 1) (eC (.int 0))) (af (av (bV 0) (eC (.int 2))) (af (eV 2) aa))))) (af (eV 3) aa)))))) [.sh (.tup [.int a.1,.int a.2.1,.int a.2.2.1,.int a.2.2.2]),.sh (.tup [.int r.1,.int r.2.1,.int r.2.2.1,.int r.2.2.2]),.sh (.int st),.no])
   (aG λx=>x=.ow ((lL a r).map Row.d)):=by
  rintro st rfl
  walk_at "vc"
  rw [JL (by ext wc) (by ext wc) (by ext ha hr) (by ext ha hr),<-cP r,ET,D4]
  have e2:=ET (r.1+1,r.2.1,r.2.2.1+r.2.2.2,r.2.2.2)
  rw [cP] at e2
  dsimp only at e2
  rw [e2]
  walk_at "vc"
  unfold lL
  refine ⟨λh=>?_,λh=>⟨λh1=>?_,λh1=>⟨λh2=>?_,λh2=>?_⟩⟩⟩
  .rw [if_pos h];rfl
  .rw [if_neg (by simpa using h),if_pos (.inl h1)];rfl
  .rw [if_neg (by simpa using h),if_pos (.inr h2)];rfl
  .rw [if_neg (by simpa using h),if_neg (by simp [h1,h2])];rfl
 refine ⟨λh=>?_,λh=>?_⟩
 .exact Wo_seq.mp (fin (by unfold lJ;rw [if_pos h]))
 .exact Wo_seq.mp (fin (by unfold lJ;rw [if_neg h]))
theorem Q2{a r:Row}(ha:rh a)(hr:r.1<=r.2.1)(hn:r.1=a.2.1+1):(∀q∈lL a r,rh q)/\aU qb (lL a r)/\(∀x c,Val (lL a r) x c↔(a.1<=x/\x<=a.2.1/\c=a.at x)\/(r.1<=x/\x<=r.2.1/\c=r.at x)) /\
  total (lL a r)=(a.2.1-a.1+1)+(r.2.1-r.1+1)/\(∃q,(lL a r).head?=some q/\q.1=a.1/\q.2.2.1=a.2.2.1)/\(∃q,(lL a r).getLast?=some q/\q.2.1=r.2.1)/\(lL a r).length<=2:=by
 obtain ⟨a0,a1,a2,a3⟩:=a
 obtain ⟨r0,r1,r2,r3⟩:=r
 unfold rh at ha
 dsimp only at ha hr hn
 have dB:∀r:Row,r.1<=r.2.1->rh (fP r)/\(fP r).1=r.1/\(fP r).2.1=r.2.1/\(fP r).2.2.1=r.2.2.1/\∀x,r.1<=x->x<=r.2.1->(fP r).at x=r.at x:=λr h=>by
  unfold fP
  split
  .rename_i e
   refine ⟨⟨by dsimp only;ext h,λ_=>rfl⟩,rfl,rfl,rfl,λx h1 h2=>?_⟩
   have:x=r.1:=by ext e h1 h2
   unfold Row.at
   dsimp only
   rw [this];simp
  .rename_i e
   exact ⟨⟨h,λz=>absurd z e⟩,rfl,rfl,rfl,λ_ _ _=>rfl⟩
 generalize hs:lJ (a0,a1,a2,a3) (r0,r1,r2,r3)=s
 have zE:a0=a1->s=r2-a2:=λe=>by rw [<-hs];unfold lJ;dsimp only;rw [if_pos e]
 have gO:a0≠a1->s=a3:=λe=>by rw [<-hs];unfold lJ;dsimp only;rw [if_neg e]
 unfold lL
 dsimp only
 rw [hs]
 by_cases aV:r2≠a2+s*(r0-a0)
 .rw [if_pos aV]
  have NL:a0≠a1:=λe=>aV (by rw [zE e,hn,<-e];grind)
  have hs:=gO NL
  obtain ⟨p1,p2,p3,p4,p5⟩:=dB (r0,r1,r2,r3) hr
  dsimp only at p2 p3 p4 p5
  refine ⟨λq hq=>?_,⟨⟨by rw [p2];dsimp only;ext hn,λ_=>⟨by dsimp only;ext ha NL,?_⟩⟩,trivial⟩,λx c=>?_,?_,⟨_,rfl,rfl,rfl⟩,⟨_,rfl,p3⟩,by simp⟩
  .simp at hq
   rcases hq with rfl | rfl
   .exact ha
   .exact p1
  .rw [p4,p2]
   unfold Row.at
   dsimp only
   rw [<-hs];exact aV
  .rw [Val.two,p2,p3]
   constructor
   .rintro (h | ⟨h1,h2,h3⟩)
    .exact .inl h
    .exact .inr ⟨h1,h2,by rw [h3,p5 x h1 h2]⟩
   .rintro (h | ⟨h1,h2,h3⟩)
    .exact .inl h
    .exact .inr ⟨h1,h2,by rw [h3,p5 x h1 h2]⟩
  .unfold total
   simp [p2,p3]
 .have he:r2=a2+s*(r0-a0):=Classical.not_not.mp aV
  rw [if_neg aV]
  have va:∀x,a0<=x->x<=a1->a2+s*(x-a0)=a2+a3*(x-a0):=λx h1 h2=>by
   by_cases e:a0=a1
   .have:x=a0:=by ext h1 h2 e
    rw [this];simp
   .rw [gO e]
  by_cases hj:r0=r1\/r3=s
  .rw [if_pos hj]
   have vr:∀x,r0<=x->x<=r1->a2+s*(x-a0)=r2+r3*(x-r0):=λx h1 h2=>by
    have e1:a2+s*(x-a0)=r2+s*(x-r0):=by rw [he];grind
    rw [e1]
    rcases hj with e | e
    .have:x=r0:=by ext h1 h2 e
     rw [this];simp
    .rw [e]
   refine ⟨λq hq=>?_,trivial,λx c=>?_,?_,⟨_,rfl,rfl,rfl⟩,⟨_,rfl,rfl⟩,by simp⟩
   .simp at hq
    subst hq
    exact ⟨by dsimp only;ext ha hr hn,λz=>by dsimp only at z;ext ha hr hn z⟩
   .rw [Val.one]
    unfold Row.at
    dsimp only
    constructor
    .rintro ⟨h1,h2,h3⟩
     by_cases hx:x<=a1
     .exact .inl ⟨h1,hx,by rw [h3];exact va x h1 hx⟩
     .exact .inr ⟨by ext hn hx,h2,by rw [h3];exact vr x (by ext hn hx) h2⟩
    .rintro (⟨h1,h2,h3⟩ | ⟨h1,h2,h3⟩)
     .exact ⟨h1,by ext hr hn h2,by rw [h3];exact (va x h1 h2).symm⟩
     .exact ⟨by ext ha hn h1,h2,by rw [h3];exact (vr x h1 h2).symm⟩
   .unfold total
    simp
    ext hn
  .rw [if_neg hj]
   have X8:r0≠r1:=λe=>hj (.inl e)
   have X7:r3≠s:=λe=>hj (.inr e)
   obtain ⟨p1,p2,p3,p4,p5⟩:=dB (r0+1,r1,r2+r3,r3) (by dsimp only;ext hr X8)
   dsimp only at p2 p3 p4 p5
   have vp:∀x,Row.at (r0+1,r1,r2+r3,r3) x=r2+r3*(x-r0):=λx=>by unfold Row.at;dsimp only;grind
   refine ⟨λq hq=>?_,⟨⟨by rw [p2];dsimp only;ext,λ_=>⟨by dsimp only;ext ha hn,?_⟩⟩,trivial⟩,λx c=>?_,?_,⟨_,rfl,rfl,rfl⟩,⟨_,rfl,p3⟩,by simp⟩
   .simp at hq
    rcases hq with rfl | rfl
    .exact ⟨by dsimp only;ext ha hn,λz=>by dsimp only at z;ext ha hn z⟩
    .exact p1
   .rw [p4,p2]
    unfold Row.at
    dsimp only
    have:a2+s*(r0+1-a0)=r2+s:=by rw [he];grind
    rw [this]
    ext X7
   .rw [Val.two,p2,p3]
    unfold Row.at at vp p5 ⊢
    dsimp only at vp p5 ⊢
    constructor
    .rintro (⟨h1,h2,h3⟩ | ⟨h1,h2,h3⟩)
     .by_cases hx:x<=a1
      .exact .inl ⟨h1,hx,by rw [h3];exact va x h1 hx⟩
      .have:x=r0:=by ext hn h2 hx
       exact .inr ⟨by ext hn hx,by ext hr h2,by rw [h3,this,<-he];simp⟩
     .refine .inr ⟨by ext h1,h2,?_⟩
      rw [p5 x h1 h2,vp] at h3
      exact h3
    .rintro (⟨h1,h2,h3⟩ | ⟨h1,h2,h3⟩)
     .exact .inl ⟨h1,by ext hn h2,by rw [h3];exact (va x h1 h2).symm⟩
     .by_cases hx:x=r0
      .exact .inl ⟨by ext ha hn hx,by ext hx,by rw [h3,hx,<-he];simp⟩
      .refine .inr ⟨by ext h1 hx,h2,?_⟩
       rw [p5 x (by ext h1 hx) h2,vp]
       exact h3
   .unfold total
    simp [p2,p3]
    ext hn
theorem b2S{a r:Row}(ha:aq (3*10^180) a/\(-(2*10^180)<=a.2.2.1/\a.2.2.1<=2*10^180))(hr:aq (10^180) r):∀q∈lL a r,aq (3*10^180) q/\(-(2*10^180)<=q.2.2.1/\q.2.2.1<=2*10^180):=by
 unfold aq at *
 have hs:-(3*10^180)<=lJ a r/\lJ a r<=3*10^180:=by unfold lJ;split<;>omega
 have hp:∀z:Row,((fP z).1=z.1/\(fP z).2.1=z.2.1/\(fP z).2.2.1=z.2.2.1/\((fP z).2.2.2=z.2.2.2\/(fP z).2.2.2=0)):=λz=>by unfold fP;split<;>simp
 intro q hq
 unfold lL at hq
 split at hq
 .simp at hq
  rcases hq with rfl | rfl
  .exact ha
  .have:=hp r;ext hr this
 .split at hq
  .simp at hq
   subst hq
   dsimp only
   ext ha hr hs
  .simp at hq
   rcases hq with rfl | rfl
   .dsimp only;ext ha hr hs
   .have:=hp (r.1+1,r.2.1,r.2.2.1+r.2.2.2,r.2.2.2)
    dsimp only at this
    ext hr this
theorem b3A{r:Row}(h:r.1<=r.2.1):rh (fP r)/\(fP r).1=r.1/\(fP r).2.1=r.2.1/\(fP r).2.2.1=r.2.2.1/\∀x,r.1<=x->x<=r.2.1->(fP r).at x=r.at x:=by
 unfold fP
 split
 .rename_i e
  refine ⟨⟨by dsimp only;ext h,λ_=>rfl⟩,rfl,rfl,rfl,λx h1 h2=>?_⟩
  have:x=r.1:=by ext e h1 h2
  unfold Row.at
  dsimp only
  rw [this];simp
 .rename_i e
  exact ⟨⟨h,λz=>absurd z e⟩,rfl,rfl,rfl,λ_ _ _=>rfl⟩
structure Laid(pre ms:List Row):Prop where
 canon:Canon ms
 val:∀x c,Val ms x c↔Val pre x c
 total:total ms=total pre
 last:∀a r,ms.getLast?=some a->pre.getLast?=some r->a.2.1=r.2.1
 none:ms=[]↔pre=[]
 len:ms.length<=pre.length
 bd:∀q∈ms,aq (3*10^180) q/\(-(2*10^180)<=q.2.2.1/\q.2.2.1<=2*10^180)
theorem Laid.append{pre ms:List Row}{r:Row}(h:Laid pre ms)(hr:r.1<=r.2.1)(hb:aq (10^180) r)(hf:∀a,ms.getLast?=some a->a.2.1<r.1/\a.2.1+1≠r.1):Laid (pre++[r]) (ms++[fP r]):=by
 obtain ⟨p1,p2,p3,p4,p5⟩:=b3A hr
 refine ⟨⟨λq hq=>?_,h.canon.2.snoc λa ha=>?_⟩,λx c=>?_,?_,λa q ha hq=>?_,by simp,by simp;exact h.len,λq hq=>?_⟩
 .rcases bU.mp hq with hq | hq
  .exact h.canon.1 q hq
  .rw [bQ.mp hq];exact p1
 .have:=hf a ha
  exact ⟨by rw [p2];ext this,λz=>by rw [p2] at z;ext this z⟩
 .rw [Val.app,Val.app,h.val x c,Val.one,Val.one,p2,p3]
  constructor
  .rintro (h | ⟨h1,h2,h3⟩)
   .exact .inl h
   .exact .inr ⟨h1,h2,by rw [h3,p5 x h1 h2]⟩
  .rintro (h | ⟨h1,h2,h3⟩)
   .exact .inl h
   .exact .inr ⟨h1,h2,by rw [h3,p5 x h1 h2]⟩
 .rw [vz,vz,h.total]
  unfold My.total
  simp [p2,p3]
 .simp at ha hq
  subst ha hq
  exact p3
 .rcases bU.mp hq with hq | hq
  .exact h.bd q hq
  .rw [bQ.mp hq]
   have:(fP r).2.2.2=r.2.2.2\/(fP r).2.2.2=0:=by unfold fP;split<;>simp
   unfold aq at *
   ext hb p2 p3 p4 this
theorem Laid.vd{pre ms:List Row}{a r:Row}(h:Laid pre (ms++[a]))(hr:r.1<=r.2.1)(hb:aq (10^180) r)(hn:a.2.1+1=r.1):Laid (pre++[r]) (ms++lL a r):=by
 obtain ⟨b1,b2,b3,b4,⟨q1,b5,b6,b7⟩,⟨q2,b8,b9⟩,b10⟩:=Q2 (h.canon.1 a (by simp)) hr hn.symm
 have aV:lL a r≠[]:=λz=>by rw [z] at b5;cases b5
 refine ⟨⟨λq hq=>?_,h.canon.2.left.append b2 λc d hc hd=>?_⟩,λx c=>?_,?_,λc q hc hq=>?_,by simp [aV],?_,λq hq=>?_⟩
 .rcases bU.mp hq with hq | hq
  .exact h.canon.1 q (by simp [hq])
  .exact b1 q hq
 .rw [b5] at hd
  cases hd
  have:=h.canon.2.mid c hc
  unfold qb at this ⊢
  rw [b6,b7]
  exact this
 .rw [Val.app,Val.app,Val.one,b3,<-h.val,Val.app,Val.one,or_assoc]
 .have e:=h.total
  rw [vz] at e
  rw [vz,vz,b4,<-e]
  unfold My.total
  simp
  ext
 .rw [List.getLast?_append,b8] at hc
  simp at hc hq
  subst hc hq
  exact b9
 .have:=h.len
  simp at this ⊢
  ext b10 this
 .rcases bU.mp hq with hq | hq
  .exact h.bd q (by simp [hq])
  .exact b2S (h.bd a (by simp)) hb q hq
theorem vn{rows:List Row}(ha:bK rows)(hb:∀r∈rows,aq (10^180) r)(hl:rows.length<=8000000){ro:Bool}:∃fs:List Row,mn [.lst ro (rows.map Row.d)]=some (.sh (.tup (fs.map Row.d)))/\Laid rows fs:=by
 have key:Wo (mn [.lst ro (rows.map Row.d)]) λs=>∃fs:List Row,s=.sh (.tup (fs.map Row.d))/\Laid rows fs:=by
  refine vM.mpr ?_
  unfold JO
  walk_at "vc"
  refine mq Row.d (λpre env=>∃x2 x3,∃ms:List Row,env=[.sh (.lst ro (rows.map Row.d)),.ow (ms.map Row.d),x2,x3]/\Laid pre ms) rows (λpre r post env e h=>?_) (λenv h=>?_)
   ⟨_,_,[],rfl,⟨⟨λ_ z=>(nomatch z),trivial⟩,λ_ _=>fE,rfl,λ_ _ z=>(nomatch z),fE,bp _,λ_ z=>(nomatch z)⟩⟩
  .obtain ⟨x2,x3,ms,rfl,h⟩:=h
   have hr:r∈rows:=by rw [e];simp
   have mL:=ha.1 r hr
   have CS:=hb r hr
   have hlen:ms.length<=8000000:=fm h.len (fm (by rw [e];simp) hl)
   have gP:∀q,pre.getLast?=some q->q.2.1<r.1:=λq hq=>by
    have:=ha.2
    rw [e] at this
    exact (gr.mp this).2.2 q (Oy hq) r aR
   rcases IU ms with rfl | ⟨ns,a,e2⟩
   .walk_at "vc"
    simp only [wF,List.isEmpty_nil,Bool.not_true,uY,false_implies,true_implies,true_and]
    rw [ET]
    walk_at "vc"
    have:=h.append mL CS (λ_ z=>nomatch z)
    exact ⟨_,_,[fP r],rfl,this⟩
   .have e2:ms=ns++[a]:=by simpa using e2
    subst e2
    have zF:pre≠[]:=λz=>by have:=h.none.mpr z;simp at this
    obtain ⟨q,hq⟩:∃q,pre.getLast?=some q:=⟨pre.getLast zF,List.getLast?_eq_some_getLast zF⟩
    have mM:=h.last a q (by simp) hq
    have be:=gP q hq
    walk_at "vc"
    have em:(mP Row.d (ns++[a])).isEmpty=false:=by simp
    rw [em,ej,fo,wF,DL.dW,cP a,cP r]
    walk_at "vc"
    refine ⟨λhe=>?_,λhe=>?_⟩
    .have ed:(mP Row.d ns++[D.tup [D.int a.1,D.int a.2.1,D.int a.2.2.1,D.int a.2.2.2]])[(mP Row.d ns++[D.tup [D.int a.1,D.int a.2.1,D.int a.2.2.1,D.int a.2.2.2]]).length-1]?=some (D.tup [D.int a.1,D.int a.2.1,D.int a.2.2.1,D.int a.2.2.2]):=by simp
     rw [ed,Ox]
     walk_at "vc"
     rw [<-cP a,<-cP r,b4q (h.bd a (by simp)).1 CS]
     walk_at "vc"
     have hb2:=(Q2 (h.canon.1 a (by simp)) mL he.symm).2.2.2.2.2.2
     simp at hlen
     refine ⟨by decide,by simp;lia,_,_,ns++lL a r,by rw [ej],h.vd mL CS he⟩
    .rw [<-cP a,<-cP r,ET]
     walk_at "vc"
     simp at hlen
     refine ⟨by simp;lia,_,_,ns++[a]++[fP r],by rw [ej,ej];rfl,h.append mL CS λc hc=>?_⟩
     simp at hc
     subst hc
     exact ⟨by ext mM be,he⟩
  .obtain ⟨x2,x3,ms,rfl,h⟩:=h
   walk_at "vc"
   exact ⟨ms,rfl,h⟩
 obtain ⟨s,e,fs,rfl,h⟩:=key
 exact ⟨fs,e,h⟩
noncomputable def fap(a b:Row):Int:=if a.1≠b.1 then min a.1 b.1 else if a.2.2.1≠b.2.2.1 then a.1 else if a.2.2.2≠b.2.2.2 then a.1+1 else min a.2.1 b.2.1+1
noncomputable def fu:List Row->List Row->Option Int
 | [],[]=>none
 | [],b::_=>some b.1
 | a::_,[]=>some a.1
 | a::as,b::bs=>if a=b then fu as bs else some (fap a b)
theorem Canon.tail{r:Row}{rs:List Row}(h:Canon (r::rs)):Canon rs:=⟨λq hq=>h.1 q (a9 _ hq),h.2.tail⟩
theorem kG{r:Row}{rs:List Row}(h:Canon (r::rs)){y:Int}(hy:y<r.1):look (r::rs) y=none:=by
 have ha:=h.bD
 refine E7 λq hq=>.inl ?_
 rcases br.mp hq with rfl | hq
 .exact hy
 .have:=(dg.mp ha.2).1 q hq
  have:=ha.1 r aR
  lia
theorem jD{r:Row}{rs:List Row}{y:Int}(h1:r.1<=y)(h2:y<=r.2.1):look (r::rs) y=some (r.at y):=by
 rw [look,if_pos ⟨h1,h2⟩]
theorem BD{r:Row}{rs:List Row}{y:Int}(h:r.2.1<y):look (r::rs) y=look rs y:=by
 rw [look,if_neg (by ext h)]
theorem E8{r:Row}{rs:List Row}(h:Canon (r::rs)){y:Int}(hy:y<=r.2.1):look rs y=none:=by
 have ha:=h.bD
 refine E7 λq hq=>.inl ?_
 have:=(dg.mp ha.2).1 q hq
 ext hy this
theorem Rm{r:Row}{rs:List Row}(h:Canon (r::rs)):look (r::rs) (r.2.1+1)≠some (r.at (r.2.1+1))/\(r.1=r.2.1->look (r::rs) (r.2.1+1)=none):=by
 rw [BD (by ext)]
 cases rs with
 | nil=>exact ⟨λz=>(nomatch z),λ_=>rfl⟩
 | cons q qs =>
  have hf:qb r q:=h.2.1
  have hq:=h.tail.1 q aR
  unfold qb at hf
  unfold rh at hq
  by_cases hl:q.1=r.2.1+1
  .obtain ⟨g1,g2⟩:=hf.2 hl
   rw [jD (by ext hl) (by ext hq hl)]
   refine ⟨λz=>g2 ?_,λz=>absurd z (by ext g1)⟩
   have z:=cG z
   rw [<-hl] at z
   rw [<-z]
   unfold Row.at
   rw [wC,wB,wA]
  .rw [kG h.tail (by ext hf hl)]
   exact ⟨λz=>(nomatch z),λ_=>rfl⟩
theorem b5F{a b:Row}(h1:a.1=b.1)(h2:a.2.1=b.2.1)(h3:a.2.2.1=b.2.2.1)(h4:a.2.2.2=b.2.2.2):a=b:=Dc h1 (Dc h2 (Dc h3 h4))
theorem b4e{a b:Row}{as bs:List Row}(ha:Canon (a::as))(hb:Canon (b::bs))(aV:a≠b):look (a::as) (fap a b)≠look (b::bs) (fap a b)/\∀y,y<fap a b->look (a::as) y=look (b::bs) y:=by
 have oa:=ha.1 a aR
 have ob:=hb.1 b aR
 obtain ⟨na,WJ⟩:=Rm ha
 obtain ⟨nb,WI⟩:=Rm hb
 unfold rh at oa ob
 unfold fap
 by_cases h1:a.1=b.1
 .rw [if_neg (by simpa using h1)]
  by_cases h2:a.2.2.1=b.2.2.1
  .rw [if_neg (by simpa using h2)]
   by_cases h3:a.2.2.2=b.2.2.2
   .rw [if_neg (by simpa using h3)]
    have C9:∀y,a.at y=b.at y:=λy=>by unfold Row.at;rw [h1,h2,h3]
    have h4:a.2.1≠b.2.1:=λz=>aV (b5F h1 z h2 h3)
    rcases Int.lt_or_lt_of_ne h4 with h | h
    .rw [show min a.2.1 b.2.1+1=a.2.1+1 by ext h]
     refine ⟨?_,λy hy=>?_⟩
     .rw [jD (r:=b) (by ext oa h1) (by ext h),<-C9]
      exact na
     .by_cases hl:y<a.1
      .rw [kG ha hl,kG hb (by ext h1 hl)]
      .rw [jD (r:=a) (by ext hl) (by ext hy),jD (r:=b) (by ext h1 hl) (by ext h hy),C9]
    .rw [show min a.2.1 b.2.1+1=b.2.1+1 by ext h]
     refine ⟨?_,λy hy=>?_⟩
     .rw [jD (r:=a) (by ext ob h1) (by ext h),C9]
      exact λz=>nb z.symm
     .by_cases hl:y<a.1
      .rw [kG ha hl,kG hb (by ext h1 hl)]
      .rw [jD (r:=a) (by ext hl) (by ext h hy),jD (r:=b) (by ext h1 hl) (by ext hy),C9]
   .rw [if_pos (by simpa using h3)]
    refine ⟨?_,λy hy=>?_⟩
    .by_cases sa:a.1=a.2.1
     .have wc:b.1<b.2.1:=by ext oa ob h3 sa
      have e:=WJ sa
      rw [<-sa] at e
      rw [e,jD (r:=b) (by ext h1) (by ext h1 wc)]
      exact λz=>(nomatch z)
     .by_cases sb:b.1=b.2.1
      .have e:=WI sb
       rw [<-sb,<-h1] at e
       rw [e,jD (r:=a) (by ext) (by ext oa sa)]
       exact λz=>(nomatch z)
      .rw [jD (r:=a) (by ext) (by ext oa sa),jD (r:=b) (by ext h1) (by ext ob h1 sb)]
       intro z
       have z:=cG z
       unfold Row.at at z
       rw [<-h1,show a.1+1-a.1=1 by ext,wH,wH] at z
       ext h2 h3 z
    .by_cases hl:y<a.1
     .rw [kG ha hl,kG hb (by ext h1 hl)]
     .have:y=a.1:=by ext hy hl
      subst this
      rw [jD (r:=a) (by ext) (by ext oa),jD (r:=b) (by ext h1) (by ext ob h1)]
      unfold Row.at
      rw [<-h1,h2]
      simp
  .rw [if_pos (by simpa using h2)]
   refine ⟨?_,λy hy=>by rw [kG ha hy,kG hb (by ext h1 hy)]⟩
   rw [jD (r:=a) (by ext) (by ext oa),jD (r:=b) (by ext h1) (by ext ob h1)]
   intro z
   have z:=cG z
   unfold Row.at at z
   rw [<-h1,wC,wB,wB] at z
   ext h2 z
 .rw [if_pos (by simpa using h1)]
  rcases Int.lt_or_lt_of_ne h1 with h | h
  .rw [show min a.1 b.1=a.1 by ext h]
   refine ⟨?_,λy hy=>by rw [kG ha hy,kG hb (by ext h hy)]⟩
   rw [jD (r:=a) (by ext) (by ext oa),kG hb (by ext h)]
   exact λz=>(nomatch z)
  .rw [show min a.1 b.1=b.1 by ext h]
   refine ⟨?_,λy hy=>by rw [kG ha (by ext h hy),kG hb hy]⟩
   rw [jD (r:=b) (by ext) (by ext ob),kG ha (by ext h)]
   exact λz=>(nomatch z)
theorem mN:∀{A B:List Row},fu A B=none↔A=B
 | [],[]=>by simp [fu]
 | [],b::_=>by simp [fu]
 | a::_,[]=>by simp [fu]
 | a::as,b::bs=>by
  unfold fu
  by_cases h:a=b
  .rw [if_pos h,mN,h];simp
  .rw [if_neg h];simp [h]
theorem Qb:∀{A B:List Row},Canon A->Canon B->∀{x:Int},fu A B=some x->look A x≠look B x/\∀y,y<x->look A y=look B y
 | [],[],_,_,x,h=>by cases h
 | [],b::bs,_,hb,x,h=>by
  obtain rfl:=cG h
  have ob:=hb.1 b aR
  refine ⟨?_,λy hy=>by rw [kG hb hy];rfl⟩
  rw [jD (aW _) ob.1]
  exact λz=>(nomatch z)
 | a::as,[],ha,_,x,h=>by
  obtain rfl:=cG h
  have oa:=ha.1 a aR
  refine ⟨?_,λy hy=>by rw [kG ha hy];rfl⟩
  rw [jD (aW _) oa.1]
  exact λz=>(nomatch z)
 | a::as,b::bs,ha,hb,x,h=>by
  unfold fu at h
  by_cases e:a=b
  .subst e
   rw [if_pos rfl] at h
   obtain ⟨h1,h2⟩:=Qb ha.tail hb.tail h
   have hx:a.2.1<x:=by
    rcases Ir a.2.1 x with z | z
    .exact z
    .exact absurd (by rw [E8 ha z,E8 hb z]) h1
   refine ⟨by rw [BD hx,BD hx];exact h1,λy hy=>?_⟩
   by_cases hl:a.2.1<y
   .rw [BD hl,BD hl];exact h2 y hy
   .rw [look,look,E8 ha (by ext hl),E8 hb (by ext hl)]
  .rw [if_neg e] at h
   obtain rfl:=cG h
   exact b4e ha hb e
theorem Lv{A B:List Row}(ha:Canon A)(hb:Canon B)(h:∀x,look A x=look B x):A=B:=by
 cases e:fu A B with
 | none=>exact mN.mp e
 | some x=>exact absurd (h x) (Qb ha hb e).1
structure Met where
 lo:Int
 hi:Int
 a:Row
 b:Row
noncomputable def bh:List Row->List Row->List Met
 | a::as,b::bs=>(if max a.1 b.1<=min a.2.1 b.2.1 then [⟨max a.1 b.1,min a.2.1 b.2.1,a,b⟩] else [])++(if a.2.1<b.2.1 then bh as (b::bs) else bh (a::as) bs)
 | _,_=>[]
termination_by as bs=>as.length+bs.length
theorem Br{bs:List Row}:bh [] bs=[]:=by rw [bh];simp
theorem BE{as:List Row}:bh as []=[]:=by rw [bh];simp
theorem xx{a b:Row}{as bs:List Row}:bh (a::as) (b::bs)=(if max a.1 b.1<=min a.2.1 b.2.1 then [⟨max a.1 b.1,min a.2.1 b.2.1,a,b⟩] else [])++(if a.2.1<b.2.1 then bh as (b::bs) else bh (a::as) bs):=by rw [bh]
theorem lK{m:Met}:∀{n:Nat} {A B:List Row},A.length+B.length<=n->m∈bh A B->m.a∈A/\m.b∈B/\m.lo=max m.a.1 m.b.1/\m.hi=min m.a.2.1 m.b.2.1/\m.lo<=m.hi
 | n,[],B,_,h=>by rw [Br] at h;cases h
 | n,a::as,[],_,h=>by rw [BE] at h;cases h
 | 0,a::as,b::bs,hn,_=>absurd hn (by simp)
 | n+1,a::as,b::bs,hn,h=>by
  rw [xx] at h
  rcases bU.mp h with h | h
  .split at h
   .simp at h;subst h;simp;lia
   .cases h
  .split at h
   .obtain ⟨h1,h2,h3⟩:=lK (n:=n) (by simp at hn ⊢;ext hn) h
    exact ⟨a9 _ h1,h2,h3⟩
   .obtain ⟨h1,h2,h3⟩:=lK (n:=n) (by simp at hn ⊢;ext hn) h
    exact ⟨h1,a9 _ h2,h3⟩
theorem Bq:∀{n:Nat} {A B:List Row},A.length+B.length<=n->bK A->bK B->(bh A B).Pairwise λm k=>m.hi<k.lo
 | n,[],B,_,_,_=>by rw [Br];exact .nil
 | n,a::as,[],_,_,_=>by rw [BE];exact .nil
 | 0,a::as,b::bs,hn,_,_=>absurd hn (by simp)
 | n+1,a::as,b::bs,hn,ha,hb=>by
  have ta:bK as:=⟨λq hq=>ha.1 q (a9 _ hq),(dg.mp ha.2).2⟩
  have tb:bK bs:=⟨λq hq=>hb.1 q (a9 _ hq),(dg.mp hb.2).2⟩
  rw [xx]
  refine gr.mpr ⟨?_,?_,λm hm k hk=>?_⟩
  .split<;>simp
  .split
   .exact Bq (n:=n) (by simp at hn ⊢;ext hn) ta hb
   .exact Bq (n:=n) (by simp at hn ⊢;ext hn) ha tb
  .have em:m.hi=min a.2.1 b.2.1:=by
    split at hm
    .simp at hm;subst hm;rfl
    .cases hm
   split at hk
   .obtain ⟨h1,h2,h3,_⟩:=lK (bp _) hk
    have:=(dg.mp ha.2).1 _ h1
    ext em h3 this
   .obtain ⟨h1,h2,h3,_⟩:=lK (bp _) hk
    have:=(dg.mp hb.2).1 _ h2
    ext em h3 this
theorem EZ{x:Int}{a' b':Row}:∀{n:Nat} {A B:List Row},A.length+B.length<=n->bK A->bK B->a'∈A->b'∈B->a'.1<=x->x<=a'.2.1->b'.1<=x->x<=b'.2.1->∃m∈bh A B,m.a=a'/\m.b=b'/\m.lo<=x/\x<=m.hi
 | n,[],B,_,_,_,h,_,_,_,_,_=>by cases h
 | n,a::as,[],_,_,_,_,h,_,_,_,_=>by cases h
 | 0,a::as,b::bs,hn,_,_,_,_,_,_,_,_=>absurd hn (by simp)
 | n+1,a::as,b::bs,hn,ha,hb,h1,h2,x1,x2,x3,x4=>by
  have ta:bK as:=⟨λq hq=>ha.1 q (a9 _ hq),(dg.mp ha.2).2⟩
  have tb:bK bs:=⟨λq hq=>hb.1 q (a9 _ hq),(dg.mp hb.2).2⟩
  rw [xx]
  by_cases hh:a'=a/\b'=b
  .obtain ⟨rfl,rfl⟩:=hh
   refine ⟨⟨max a'.1 b'.1,min a'.2.1 b'.2.1,a',b'⟩,?_,rfl,rfl,by dsimp only;ext x1 x3,by dsimp only;ext x2 x4⟩
   rw [if_pos (by ext x1 x2 x3 x4)];simp
  .have rest:∃m∈(if a.2.1<b.2.1 then bh as (b::bs) else bh (a::as) bs),m.a=a'/\m.b=b'/\m.lo<=x/\x<=m.hi:=by
    split
    .rename_i be
     have nv:a'∈as:=by
      rcases br.mp h1 with e | e
      .rcases br.mp h2 with e2 | e2
       .exact absurd ⟨e,e2⟩ hh
       .have:=(dg.mp hb.2).1 _ e2
        subst e;ext _ x2 x3 this be
      .exact e
     exact EZ (n:=n) (by simp at hn ⊢;ext hn) ta hb nv h2 x1 x2 x3 x4
    .rename_i be
     have Ai:b'∈bs:=by
      rcases br.mp h2 with e | e
      .rcases br.mp h1 with e2 | e2
       .exact absurd ⟨e2,e⟩ hh
       .have:=(dg.mp ha.2).1 _ e2
        subst e;ext _ x1 x4 this be
      .exact e
     exact EZ (n:=n) (by simp at hn ⊢;ext hn) ha tb h1 Ai x1 x2 x3 x4
   obtain ⟨m,hm,k⟩:=rest
   exact ⟨m,fF _ hm,k⟩
theorem E1:∀{n:Nat} {A B:List Row},A.length+B.length<=n->(bh A B).length<=A.length+B.length
 | n,[],B,_=>by rw [Br];simp
 | n,a::as,[],_=>by rw [BE];simp
 | 0,a::as,b::bs,hn=>absurd hn (by simp)
 | n+1,a::as,b::bs,hn=>by
  rw [xx,cO]
  have h1:(if max a.1 b.1<=min a.2.1 b.2.1 then [(⟨max a.1 b.1,min a.2.1 b.2.1,a,b⟩:Met)] else []).length<=1:=by split<;>simp
  by_cases hc:a.2.1<b.2.1
  .have:=E1 (n:=n) (A:=as) (B:=b::bs) (by simp at hn ⊢;ext hn)
   rw [if_pos hc]
   simp at this ⊢;ext h1 this
  .have:=E1 (n:=n) (A:=a::as) (B:=bs) (by simp at hn ⊢;ext hn)
   rw [if_neg hc]
   simp at this ⊢;ext h1 this
theorem b3Q{A B:List Row}(ha:bK A)(hb:bK B)(g:Met->Row)(hg:∀m,(g m).1=m.lo/\(g m).2.1=m.hi)(f:Int->Int->Int)(hf:∀m∈bh A B,∀x,(g m).at x=f (m.a.at x) (m.b.at x)):
  bK ((bh A B).map g)/\∀x c,Val ((bh A B).map g) x c↔∃p q,Val A x p/\Val B x q/\c=f p q:=by
 refine ⟨⟨λr hr=>?_,?_⟩,λx c=>⟨λ⟨r,hr,h1,h2,h3⟩=>?_,λ⟨p,q,⟨a,HG,a1,a2,a3⟩,⟨b,uA,b1,b2,b3⟩,e⟩=>?_⟩⟩
 .obtain ⟨m,hm,rfl⟩:=cS.mp hr
  have:=lK (bp _) hm
  have:=hg m
  lia
 .rw [pW]
  refine (Bq (bp _) ha hb).imp λ{m k} h=>?_
  have:=hg m;have:=hg k;lia
 .obtain ⟨m,hm,rfl⟩:=cS.mp hr
  obtain ⟨k1,k2,k3,k4,k5⟩:=lK (bp _) hm
  obtain ⟨g1,g2⟩:=hg m
  rw [hf m hm] at h3
  exact ⟨_,_,⟨m.a,k1,by ext h1 k3 g1,by ext h2 k4 g2,rfl⟩,⟨m.b,k2,by ext h1 k3 g1,by ext h2 k4 g2,rfl⟩,h3⟩
 .obtain ⟨m,hm,rfl,rfl,m1,m2⟩:=EZ (x:=x) (bp _) ha hb HG uA a1 a2 b1 b2
  obtain ⟨g1,g2⟩:=hg m
  exact ⟨g m,cS.mpr ⟨m,hm,rfl⟩,by ext m1 g1,by ext m2 g2,by rw [hf m hm,e,a3,b3]⟩
theorem b4i(A B:List Row):cZ (.tup (A.map Row.d)) (.tup (B.map Row.d))=some (.sh (.bl (decide (A=B)))):=by
 unfold cZ
 rw [P' (n:=7) (enc:=Row.d) (λx y=>P9 x y)]
 rfl
theorem b3P(A B:List Row):iD (.tup (A.map Row.d)) (.tup (B.map Row.d))=some (.sh (.bl (decide (A≠B)))):=by
 unfold iD
 rw [P' (n:=7) (enc:=Row.d) (λx y=>P9 x y)]
 simp
theorem Kv{rs:List Row}(h:bK rs){x:Int}{o:Option Int}(k:∀c,Val rs x c↔o=some c):look rs x=o:=by
 cases o with
 | some c=>exact (iK h).mpr ((k c).mpr rfl)
 | none =>
  cases e:look rs x with
  | none=>rfl
  | some c=>exact nomatch (k c).mp ((iK h).mp e)
theorem vw{rs:List Row}(h:bK rs){x c:Int}:Val rs x c↔look rs x=some c:=(iK h).symm
theorem b3T{A:List Row}(ha:bK A)(g:Row->Row)(hg:∀r,(g r).1=r.1/\(g r).2.1=r.2.1)(f:Int->Int)(hf:∀r x,(g r).at x=f (r.at x)):
  bK (A.map g)/\∀x c,Val (A.map g) x c↔(look A x).map f=some c:=by
 refine ⟨⟨λr hr=>?_,?_⟩,λx c=>?_⟩
 .obtain ⟨q,hq,rfl⟩:=cS.mp hr
  have:=hg q;have:=ha.1 q hq;lia
 .rw [pW]
  refine ha.2.imp λ{a b} h=>?_
  have:=hg a;have:=hg b;lia
 .constructor
  .rintro ⟨r,hr,h1,h2,h3⟩
   obtain ⟨q,hq,rfl⟩:=cS.mp hr
   have:=hg q
   rw [kE ha hq (by ext h1 this) (by ext h2 this),h3,hf];rfl
  .intro h
   obtain ⟨p,e,rfl⟩:=uV.mp h
   obtain ⟨q,hq,h1,h2,rfl⟩:=rB e
   have:=hg q
   exact ⟨g q,cS.mpr ⟨q,hq,rfl⟩,by ext h1 this,by ext h2 this,by rw [hf]⟩
noncomputable def sW(r:Row)(x:Int):D:=.tup [.int (r.at x),.int r.2.2.2]
theorem Eo(r:Row)(x:Int):sW r x=.tup [.int (r.at x),.int r.2.2.2]:=rfl
noncomputable def Met.d(m:Met):D:=.tup [.int m.lo,.int m.hi,sW m.a m.lo,sW m.b m.lo]
theorem Pg(m:Met):Met.d m=.tup [.int m.lo,.int m.hi,sW m.a m.lo,sW m.b m.lo]:=rfl
theorem Pl{r:Row}{x:Int}(h1:-(10^250)<=r.2.2.2)(h2:r.2.2.2<=10^250)(h3:-(10^250)<=x-r.1)(h4:x-r.1<=10^250):xR [r.d,.int x]=some (.sh (sW r x)):=by
 refine Wo.eq (kJ.mpr ?_)
 unfold LW
 walk_at "vc"
 rw [Bj h1 h2 h3 h4,cP]
 walk_at "vc"
 rfl
theorem O4{A B:List Row}(ha:∀r∈A,aq (10^200) r)(hb:∀r∈B,aq (10^200) r)(l1:A.length<=400000)(l2:B.length<=400000):xr [.tup (A.map Row.d),.tup (B.map Row.d)]=some (.ow ((bh A B).map Met.d)):=by
 refine Wo.eq (Cb.mpr ?_)
 unfold Jv
 walk_at "v1"
 rw [KE]
 refine Bz (λn env=>∃x5 x6 x7 x8,∃(f s:Nat) (ms:List Met),env=[.sh (.tup (A.map Row.d)),.sh (.tup (B.map Row.d)),.ow (ms.map Met.d),.sh (.int f),.sh (.int s),x5,x6,x7,x8]/\n=(A.length-f)+(B.length-s)/\f<=A.length/\s<=B.length/\ms.length<=f+s/\ms++bh (A.drop f) (B.drop s)=bh A B) (λn env h=>?_) _ (A.length+B.length) (show A.length+B.length<1000000 by ext l1 l2) ⟨_,_,_,_,0,0,[],rfl,by simp,by simp,by simp,by simp,rfl⟩
 obtain ⟨x5,x6,x7,x8,f,s,ms,rfl,rfl,hf,hs,ur,e⟩:=h
 walk_at "v1"
 rw [aX,aX]
 refine ⟨λh1=>⟨λh2=>?_,λh2=>?_⟩,λh1=>?_⟩
 .have nv:f<A.length:=by ext h1
  have Ai:s<B.length:=by ext h2
  have d1:A.drop f=A[f]::A.drop (f+1):=mT nv
  have d2:B.drop s=B[s]::B.drop (s+1):=mT Ai
  have b1:=ha A[f] (nD nv)
  have b2:=hb B[s] (nD Ai)
  rw [KI nv,KI Ai]
  generalize A[f]=a at *
  generalize B[s]=b at *
  rw [d1,d2,xx] at e
  unfold aq at b1 b2
  have ea:=Pl (r:=a) (x:=max a.1 b.1) (by ext b1) (by ext b1) (by ext) (by ext b1 b2)
  have eb:=Pl (r:=b) (x:=max a.1 b.1) (by ext b2) (by ext b2) (by ext) (by ext b1 b2)
  rw [cP] at ea eb
  rw [cP,cP]
  walk_at "v1"
  rw [a3e]
  walk_at "v1"
  rw [ea,eb]
  walk_at "v1"
  rw [aX]
  refine ⟨λhc=>⟨by ext l1 l2 ur h1 h2,?_⟩,λhc=>?_⟩
  .rw [if_pos hc] at e
   rw [a3e]
   walk_at "vc"
   refine ⟨λh3=>?_,λh3=>?_⟩
   .rw [if_pos h3,<-d2] at e
    exact ⟨(A.length-(f+1))+(B.length-s),by ext h1,_,_,_,_,f+1,s,ms++[⟨max a.1 b.1,min a.2.1 b.2.1,a,b⟩],by rw [ej];rfl,rfl,by ext h1,hs,by simp;ext ur,by rw [fG];exact e⟩
   .rw [if_neg h3,<-d1] at e
    exact ⟨(A.length-f)+(B.length-(s+1)),by ext h2,_,_,_,_,f,s+1,ms++[⟨max a.1 b.1,min a.2.1 b.2.1,a,b⟩],by rw [ej];rfl,rfl,hf,by ext h2,by simp;ext ur,by rw [fG];exact e⟩
  .rw [if_neg hc,IH] at e
   rw [a3e]
   walk_at "vc"
   refine ⟨λh3=>?_,λh3=>?_⟩
   .rw [if_pos h3,<-d2] at e
    exact ⟨(A.length-(f+1))+(B.length-s),by ext h1,_,_,_,_,f+1,s,ms,rfl,rfl,by ext h1,hs,by ext ur,e⟩
   .rw [if_neg h3,<-d1] at e
    exact ⟨(A.length-f)+(B.length-(s+1)),by ext h2,_,_,_,_,f,s+1,ms,rfl,rfl,hf,by ext h2,by ext ur,e⟩
 .have:B.drop s=[]:=qZ (by ext h2)
  rw [this,BE,mQ] at e
  rw [e]
 .have:A.drop f=[]:=qZ (by ext h1)
  rw [this,Br,mQ] at e
  rw [e]
noncomputable abbrev Span:=Int×Int
def fg(ss:List Span)(x:Int):Prop:=∃s∈ss,s.1<=x/\x<=s.2
noncomputable def Span.d(s:Span):D:=.tup [.int s.1,.int s.2]
theorem xm(s:Span):Span.d s=.tup [.int s.1,.int s.2]:=rfl
structure aT(pre:List Row)(ss:List Span):Prop where
 ok:∀s∈ss,s.1<=s.2
 apart:ss.Pairwise λa b=>a.2+1<b.1
 eH:∀x,fg ss x↔∃r∈pre,r.1<=x/\x<=r.2.1
 last:ss.getLast?.map (·.2)=pre.getLast?.map (·.2.1)
 head:ss.head?.map (·.1)=pre.head?.map (·.1)
 sum:(ss.map λs=>s.2-s.1+1).sum=total pre
 sub:∀r∈pre,∃s∈ss,s.1<=r.1/\r.2.1<=s.2
 len:ss.length<=pre.length
 ends:∀s∈ss,(∃r∈pre,r.1=s.1)/\∃r∈pre,r.2.1=s.2
theorem aT.nil:aT [] []:=⟨λ_ z=>(nomatch z),.nil,λx=>⟨λ⟨_,z,_⟩=>(nomatch z),λ⟨_,z,_⟩=>(nomatch z)⟩,rfl,rfl,rfl,λ_ z=>(nomatch z),bp _,λ_ z=>(nomatch z)⟩
theorem fg.app{a b:List Span}{x:Int}:fg (a++b) x↔fg a x\/fg b x:=by
 unfold fg
 constructor
 .rintro ⟨s,hs,h⟩
  rcases bU.mp hs with hs | hs
  .exact .inl ⟨s,hs,h⟩
  .exact .inr ⟨s,hs,h⟩
 .rintro (⟨s,hs,h⟩ | ⟨s,hs,h⟩)
  .exact ⟨s,gf _ hs,h⟩
  .exact ⟨s,fF _ hs,h⟩
theorem fg.one{s:Span}{x:Int}:fg [s] x↔s.1<=x/\x<=s.2:=by unfold fg;simp
theorem Qa{pre:List Row}{r:Row}{x:Int}:(∃q∈pre++[r],q.1<=x/\x<=q.2.1)↔(∃q∈pre,q.1<=x/\x<=q.2.1)\/(r.1<=x/\x<=r.2.1):=by
 constructor
 .rintro ⟨q,hq,h⟩
  rcases bU.mp hq with hq | hq
  .exact .inl ⟨q,hq,h⟩
  .rw [bQ.mp hq] at h;exact .inr h
 .rintro (⟨q,hq,h⟩ | h)
  .exact ⟨q,gf _ hq,h⟩
  .exact ⟨r,by simp,h⟩
theorem aT.more{pre:List Row}{ss:List Span}{r:Row}(h:aT pre ss)(hr:r.1<=r.2.1)(hf:∀a,ss.getLast?=some a->a.2+1<r.1):aT (pre++[r]) (ss++[(r.1,r.2.1)]):=by
 have hb:∀s∈ss,s.2+1<r.1:=λs hs=>by
  rcases IU ss with rfl | ⟨ts,t,e⟩
  .cases hs
  .have e:ss=ts++[t]:=by simpa using e
   subst e
   have h1:=hf t (by simp)
   rcases bU.mp hs with hs | hs
   .have:=(gr.mp h.apart).2.2 s hs t (by simp)
    have:=h.ok t (by simp)
    omega
   .rw [bQ.mp hs];exact h1
 refine ⟨λs hs=>?_,gr.mpr ⟨h.apart,p7 _ _,λa ha b uA=>?_⟩,λx=>?_,by simp,?_,?_,λq hq=>?_,by have:=h.len;simp;ext this,λs hs=>?_⟩
 .rcases bU.mp hs with hs | hs
  .exact h.ok s hs
  .rw [bQ.mp hs];exact hr
 .rw [bQ.mp uA];exact hb a ha
 .rw [fg.app,fg.one,Qa,h.eH]
 .have:=h.head
  cases ss with
  | nil=>cases pre with
   | nil=>rfl
   | cons q qs=>simp at this
  | cons s ts=>cases pre with
   | nil=>simp at this
   | cons q qs=>simpa using this
 .rw [ej,DD,h.sum,vz];unfold total;simp
 .rcases bU.mp hq with hq | hq
  .obtain ⟨s,hs,k⟩:=h.sub q hq
   exact ⟨s,gf _ hs,k⟩
  .rw [bQ.mp hq];exact ⟨_,fF _ aR,aW _,aW _⟩
 .rcases bU.mp hs with hs | hs
  .obtain ⟨⟨a,ha,e1⟩,⟨b,hb,e2⟩⟩:=h.ends s hs
   exact ⟨⟨a,gf _ ha,e1⟩,⟨b,gf _ hb,e2⟩⟩
  .rw [bQ.mp hs];exact ⟨⟨r,by simp,rfl⟩,⟨r,by simp,rfl⟩⟩
theorem aT.glue{pre:List Row}{ss:List Span}{s:Span}{r:Row}(h:aT pre (ss++[s]))(hr:r.1<=r.2.1)(hn:s.2+1=r.1):aT (pre++[r]) (ss++[(s.1,r.2.1)]):=by
 have hs:=h.ok s (by simp)
 have hp:=(gr.mp h.apart)
 refine ⟨λt ht=>?_,gr.mpr ⟨hp.1,p7 _ _,λa ha b uA=>?_⟩,λx=>?_,by simp,?_,?_,λq hq=>?_,by have:=h.len;simp at this ⊢;ext this,λt ht=>?_⟩
 .rcases bU.mp ht with ht | ht
  .exact h.ok t (by simp [ht])
  .rw [bQ.mp ht];show s.1<=r.2.1;ext hr hn hs
 .rw [bQ.mp uA];exact hp.2.2 a ha s (by simp)
 .have:=h.eH x
  rw [fg.app,fg.one] at this ⊢
  rw [Qa,<-this]
  dsimp only
  constructor
  .rintro (h | h)
   .exact .inl (.inl h)
   .by_cases hx:x<=s.2
    .exact .inl (.inr ⟨h.1,hx⟩)
    .exact .inr ⟨by ext hn hx,h.2⟩
  .rintro ((h | h) | h)
   .exact .inl h
   .exact .inr ⟨h.1,by ext hr hn h⟩
   .exact .inr ⟨by ext hn hs h,h.2⟩
 .have:=h.head
  cases pre with
  | nil=>cases ss<;>simp at this
  | cons q qs=>cases ss with
   | nil=>simpa using this
   | cons t ts=>simpa using this
 .have:=h.sum
  rw [ej,DD] at this ⊢
  rw [vz,<-this]
  unfold total
  simp
  ext hn
 .rcases bU.mp hq with hq | hq
  .obtain ⟨t,ht,k1,k2⟩:=h.sub q hq
   rcases bU.mp ht with ht | ht
   .exact ⟨t,gf _ ht,k1,k2⟩
   .rw [bQ.mp ht] at k1 k2
    exact ⟨_,fF _ aR,k1,by dsimp only;ext hr hn k2⟩
  .rw [bQ.mp hq];exact ⟨_,fF _ aR,by dsimp only;ext hn hs,aW _⟩
 .rcases bU.mp ht with ht | ht
  .obtain ⟨⟨a,ha,e1⟩,⟨b,hb,e2⟩⟩:=h.ends t (by simp [ht])
   exact ⟨⟨a,gf _ ha,e1⟩,⟨b,gf _ hb,e2⟩⟩
  .rw [bQ.mp ht]
   obtain ⟨⟨a,ha,e1⟩,_⟩:=h.ends s (by simp)
   exact ⟨⟨a,gf _ ha,e1⟩,⟨r,by simp,rfl⟩⟩
theorem EU{rs:List Row}(ha:bK rs)(hl:rs.length<=8000000):∃ss:List Span,qj [.tup (rs.map Row.d)]=some (.sh (.tup (ss.map Span.d)))/\aT rs ss:=by
 have key:Wo (qj [.tup (rs.map Row.d)]) λs=>∃ss:List Span,s=.sh (.tup (ss.map Span.d))/\aT rs ss:=by
  refine mx.mpr ?_
  unfold Lq
  walk_at "vc"
  refine mq Row.d (λpre env=>∃x2 x3,∃ss:List Span,env=[.sh (.tup (rs.map Row.d)),.ow (ss.map Span.d),x2,x3]/\aT pre ss) rs (λpre r post env e h=>?_) (λenv h=>?_) ⟨_,_,[],rfl,aT.nil⟩
  .obtain ⟨x2,x3,ss,rfl,h⟩:=h
   have hr:r∈rs:=by rw [e];simp
   have mL:=ha.1 r hr
   have hlen:ss.length<=8000000:=fm h.len (fm (by rw [e];simp) hl)
   rcases IU ss with rfl | ⟨ts,a,e2⟩
   .rw [cP r]
    walk_at "vc"
    simp only [wF,List.isEmpty_nil,Bool.not_true,uY,false_implies,true_implies,true_and]
    walk_at "vc"
    exact ⟨_,_,[(r.1,r.2.1)],rfl,h.more mL (λ_ z=>nomatch z)⟩
   .have e2:ss=ts++[a]:=by simpa using e2
    subst e2
    have be:a.2<r.1:=by
     have j8:=h.last
     cases hq:pre.getLast? with
     | none=>rw [hq] at j8;simp at j8
     | some q =>
      rw [hq] at j8
      simp at j8
      have:=ha.2
      rw [e] at this
      have:=(gr.mp this).2.2 q (Oy hq) r aR
      ext j8 this
    walk_at "vc"
    have em:(mP Span.d (ts++[a])).isEmpty=false:=by simp
    rw [em,ej,fo,wF,DL.dW,xm a,cP r]
    walk_at "vc"
    simp at hlen
    refine ⟨λhe=>?_,λhe=>?_⟩
    .have ed:(mP Span.d ts++[D.tup [D.int a.1,D.int a.2]])[(mP Span.d ts++[D.tup [D.int a.1,D.int a.2]]).length-1]?=some (D.tup [D.int a.1,D.int a.2]):=by simp
     rw [ed,Ox]
     walk_at "vc"
     refine ⟨by decide,by simp;lia,_,_,ts++[(a.1,r.2.1)],by rw [ej];rfl,h.glue mL he⟩
    .refine ⟨by simp;lia,_,_,ts++[a]++[(r.1,r.2.1)],by rw [ej,ej];rfl,h.more mL λc hc=>?_⟩
     simp at hc
     subst hc
     ext be he
  .obtain ⟨x2,x3,ss,rfl,h⟩:=h
   walk_at "vc"
   exact ⟨ss,rfl,h⟩
 obtain ⟨s,e,fs,rfl,h⟩:=key
 exact ⟨fs,e,h⟩
noncomputable def iF(r:Row)(lo hi:Int):Row:=(lo,hi,r.at lo,r.2.2.2)
theorem Bi{r:Row}{lo hi x:Int}:(iF r lo hi).at x=r.at x:=by unfold iF Row.at;dsimp only;grind
def nV(ss:List Span):Prop:=(∀s∈ss,s.1<=s.2)/\ss.Pairwise λa b=>a.2<b.1
noncomputable def lI(r:Row)(low:Int):List Row:=if low<=r.2.1 then [iF r low r.2.1] else []
noncomputable def ml(r:Row)(low to:Int):List Row:=if low<to then [iF r low (to-1)] else []
noncomputable def bO(r:Row)(low:Int):List Span->List Row×List Span
 | []=>(lI r low,[])
 | s::ss=>if s.1<=r.2.1 then
   (if s.2>r.2.1 then (ml r low s.1++lI r (max low (s.2+1)),s::ss) else (ml r low s.1++(bO r (max low (s.2+1)) ss).1,(bO r (max low (s.2+1)) ss).2))
  else (lI r low,s::ss)
noncomputable def bX:List Row->List Span->List Row
 | [],_=>[]
 | r::rs,ss=>(bO r r.1 ss).1++bX rs (bO r r.1 ss).2
theorem Rn{r:Row}:∀{ss:List Span} {low:Int},r.1<=low->nV ss ->
  (∀q∈(bO r low ss).1,low<=q.1/\q.1<=q.2.1/\q.2.1<=r.2.1/\∀x,q.at x=r.at x)/\((bO r low ss).1.Pairwise λa b=>a.2.1<b.1) /\
  (∀x,(∃q∈(bO r low ss).1,q.1<=x/\x<=q.2.1)↔low<=x/\x<=r.2.1/\¬fg ss x)/\(bO r low ss).2 <:+ ss/\(∀x,r.2.1<x->(fg ss x↔fg (bO r low ss).2 x))/\(bO r low ss).1.length+(bO r low ss).2.length<=ss.length+1
 | [],low,hl,_=>by
  unfold bO lI
  dsimp only
  have hI:∀x,¬fg [] x:=λx ⟨s,h,_⟩=>nomatch h
  split
  .refine ⟨λq hq=>?_,p7 _ _,λx=>?_,uZ _,λ_ _=>fE,by simp⟩
   .simp at hq;subst hq;exact ⟨aW _,by unfold iF;dsimp only;lia,aW _,λx=>Bi⟩
   .simp [iF,hI]
  .refine ⟨λq hq=>(nomatch hq),.nil,λx=>?_,uZ _,λ_ _=>fE,by simp⟩
   simp;lia
 | s::ss,low,hl,hs=>by
  have zE:=hs.1 s aR
  have ht:nV ss:=⟨λq hq=>hs.1 q (a9 _ hq),(dg.mp hs.2).2⟩
  have hp:=(dg.mp hs.2).1
  have hI:∀x,fg (s::ss) x↔(s.1<=x/\x<=s.2)\/fg ss x:=λx=>by unfold fg;simp
  have oX:∀x,x<=s.2->¬fg ss x:=λx hx ⟨t,XJ,h1,h2⟩=>by have:=hp t XJ;ext hx h1 this
  have lp:∀lo,(∀q∈lI r lo,q.1=lo/\q.2.1=r.2.1/\lo<=r.2.1/\∀x,q.at x=r.at x)/\(lI r lo).length<=1/\(∀x,(∃q∈lI r lo,q.1<=x/\x<=q.2.1)↔lo<=x/\x<=r.2.1):=λlo=>by
   unfold lI
   split
   .refine ⟨λq hq=>?_,by simp,λx=>by simp [iF]⟩
    simp at hq;subst hq;exact ⟨rfl,rfl,by assumption,λx=>Bi⟩
   .exact ⟨λq hq=>(nomatch hq),by simp,λx=>by simp;lia⟩
  have fp:(∀q∈ml r low s.1,q.1=low/\q.2.1=s.1-1/\low<s.1/\∀x,q.at x=r.at x)/\(ml r low s.1).length<=1/\(∀x,(∃q∈ml r low s.1,q.1<=x/\x<=q.2.1)↔low<=x/\x<s.1):=by
   unfold ml
   split
   .refine ⟨λq hq=>?_,by simp,λx=>by simp [iF];ext⟩
    simp at hq;subst hq;exact ⟨rfl,rfl,by assumption,λx=>Bi⟩
   .exact ⟨λq hq=>(nomatch hq),by simp,λx=>by simp;lia⟩
  have pw:∀(L:List Row),L.length<=1->L.Pairwise λa b=>a.2.1<b.1:=λL hL=>by
   match L,hL with
   | [],_=>exact .nil
   | [_],_=>exact p7 _ _
  obtain ⟨f1,f2,f3⟩:=fp
  have app:∀(L M:List Row) x,(∃q∈L++M,q.1<=x/\x<=q.2.1)↔(∃q∈L,q.1<=x/\x<=q.2.1)\/(∃q∈M,q.1<=x/\x<=q.2.1):=λL M x=>by
   constructor
   .rintro ⟨q,hq,k⟩
    rcases bU.mp hq with h | h
    .exact .inl ⟨q,h,k⟩
    .exact .inr ⟨q,h,k⟩
   .rintro (⟨q,hq,k⟩ | ⟨q,hq,k⟩)
    .exact ⟨q,gf _ hq,k⟩
    .exact ⟨q,fF _ hq,k⟩
  unfold bO
  by_cases c1:s.1<=r.2.1
  .rw [if_pos c1]
   by_cases c2:s.2>r.2.1
   .rw [if_pos c2]
    dsimp only
    obtain ⟨l1,l2,l3⟩:=lp (max low (s.2+1))
    refine ⟨λq hq=>?_,gr.mpr ⟨pw _ f2,pw _ l2,λa ha b hb=>?_⟩,λx=>?_,uZ _,λ_ _=>fE,?_⟩
    .rcases bU.mp hq with h | h
     .obtain ⟨e1,e2,e3,e4⟩:=f1 q h;exact ⟨by ext e1,by ext e1 e2 e3,by ext c1 e2,e4⟩
     .obtain ⟨e1,e2,e3,e4⟩:=l1 q h;ext _ c2 e3
    .obtain ⟨e1,e2,e3,e4⟩:=l1 b hb;ext c2 e3
    .rw [app,f3,l3,hI]
     have:=oX x
     constructor
     .rintro (h | h)
      .exact ⟨by ext h,by ext c1 h,λz=>z.elim (by ext h) (this (by ext c1 c2 h))⟩
      .ext _ c2 h
     .intro ⟨h1,h2,h3⟩
      by_cases hx:x<s.1
      .exact .inl ⟨h1,hx⟩
      .exact absurd (.inl ⟨by ext hx,by ext c2 h2⟩) h3
    .have e:((ml r low s.1++lI r (max low (s.2+1)))).length<=1:=by
      have:lI r (max low (s.2+1))=[]:=by unfold lI;rw [if_neg (by ext c2)]
      rw [this];simpa using f2
     simp at e ⊢;ext e
   .rw [if_neg c2]
    dsimp only
    obtain ⟨i1,i2,i3,i4,i5,i6⟩:=Rn (r:=r) (ss:=ss) (low:=max low (s.2+1)) (by ext hl) ht
    refine ⟨λq hq=>?_,gr.mpr ⟨pw _ f2,i2,λa ha b hb=>?_⟩,λx=>?_,i4.trans (List.suffix_cons _ _),λx hx=>?_,?_⟩
    .rcases bU.mp hq with h | h
     .obtain ⟨e1,e2,e3,e4⟩:=f1 q h;exact ⟨by ext e1,by ext e1 e2 e3,by ext c1 e2,e4⟩
     .obtain ⟨e1,e2,e3,e4⟩:=i1 q h;exact ⟨by ext e1,e2,e3,e4⟩
    .obtain ⟨e1,e2,e3,e4⟩:=f1 a ha;have g1:=(i1 b hb).1;show a.2.1<b.1;ext zE e2 g1
    .rw [app,f3,i3,hI]
     have:=oX x
     constructor
     .rintro (h | ⟨h1,h2,h3⟩)
      .exact ⟨by ext h,by ext c1 h,λz=>z.elim (by ext h) (this (by ext zE h))⟩
      .exact ⟨by ext h1,h2,λz=>z.elim (by ext h1) h3⟩
     .intro ⟨h1,h2,h3⟩
      by_cases hx:x<s.1
      .exact .inl ⟨h1,hx⟩
      .have h4:¬x<=s.2:=λz=>h3 (.inl ⟨by ext hx,z⟩)
       exact .inr ⟨by ext h1 h4,h2,λz=>h3 (.inr z)⟩
    .rw [hI,<-i5 x hx]
     exact ⟨λz=>z.elim (by lia) id,.inr⟩
    .simp at i6 ⊢;ext f2 i6
  .rw [if_neg c1]
   dsimp only
   obtain ⟨l1,l2,l3⟩:=lp low
   refine ⟨λq hq=>?_,pw _ l2,λx=>?_,uZ _,λ_ _=>fE,by simp;ext l2⟩
   .obtain ⟨e1,e2,e3,e4⟩:=l1 q hq;exact ⟨by ext e1,by ext e1 e2 e3,by ext e2,e4⟩
   .rw [l3,hI]
    have:=oX x
    constructor
    .intro h
     exact ⟨h.1,h.2,λz=>z.elim (by ext c1 h) (this (by ext zE c1 h))⟩
    .intro h;exact ⟨h.1,h.2.1⟩
theorem BF:∀{rs:List Row} {ss:List Span},bK rs->nV ss->bK (bX rs ss)/\(∀q∈bX rs ss,∃r∈rs,r.1<=q.1/\q.2.1<=r.2.1/\q.2.2.1=r.at q.1/\q.2.2.2=r.2.2.2)/\(∀x c,Val (bX rs ss) x c↔Val rs x c/\¬fg ss x)/\(bX rs ss).length<=rs.length+ss.length
 | [],ss,_,_=>⟨⟨λ_ z=>(nomatch z),.nil⟩,λ_ z=>(nomatch z),λx c=>⟨λ⟨_,z,_⟩=>(nomatch z),λ⟨⟨_,z,_⟩,_⟩=>(nomatch z)⟩,by simp [bX]⟩
 | r::rs,ss,ha,hs=>by
  have ta:bK rs:=⟨λq hq=>ha.1 q (a9 _ hq),(dg.mp ha.2).2⟩
  have hp:=(dg.mp ha.2).1
  obtain ⟨i1,i2,i3,i4,i5,i6⟩:=Rn (r:=r) (ss:=ss) (aW _) hs
  unfold bX
  generalize (bO r r.1 ss).1=P at *
  generalize (bO r r.1 ss).2=tt at *
  have lj:nV tt:=⟨λq hq=>hs.1 q (i4.subset hq),hs.2.sublist i4.sublist⟩
  obtain ⟨j1,j2,j3,j4⟩:=BF ta lj
  refine ⟨⟨λq hq=>?_,gr.mpr ⟨i2,j1.2,λa Yh b hb=>?_⟩⟩,λq hq=>?_,λx c=>?_,?_⟩
  .rcases bU.mp hq with h | h
   .exact (i1 q h).2.1
   .exact j1.1 q h
  .obtain ⟨q,hq,k1,k2,_⟩:=j2 b hb
   have:=hp q hq
   have:=i1 a Yh
   show a.2.1<b.1
   lia
  .rcases bU.mp hq with h | h
   .obtain ⟨k1,k2,k3,k4⟩:=i1 q h
    refine ⟨r,aR,k1,k3,?_,?_⟩
    .rw [<-k4];unfold Row.at;rw [wC,wB,wA]
    .have e1:=k4 q.1
     have e2:=k4 (q.1+1)
     unfold Row.at at e1 e2
     grind
   .obtain ⟨r',sj,k⟩:=j2 q h
    exact ⟨r',a9 _ sj,k⟩
  .rw [Val.app,j3]
   have e0:Val (r::rs) x c↔(r.1<=x/\x<=r.2.1/\c=r.at x)\/Val rs x c:=by unfold Val;simp
   have eP:Val P x c↔(r.1<=x/\x<=r.2.1/\¬fg ss x)/\c=r.at x:=by
    rw [<-i3 x]
    constructor
    .rintro ⟨q,hq,h1,h2,h3⟩
     exact ⟨⟨q,hq,h1,h2⟩,by rw [h3,(i1 q hq).2.2.2]⟩
    .rintro ⟨⟨q,hq,h1,h2⟩,h3⟩
     exact ⟨q,hq,h1,h2,by rw [h3,(i1 q hq).2.2.2]⟩
   rw [eP,e0]
   have zd:Val rs x c->r.2.1<x:=λ⟨q,hq,h1,_⟩=>by have:=hp q hq;ext h1 this
   constructor
   .rintro (⟨⟨h1,h2,h3⟩,h4⟩ | ⟨h1,h2⟩)
    .exact ⟨.inl ⟨h1,h2,h4⟩,h3⟩
    .exact ⟨.inr h1,λz=>h2 ((i5 x (zd h1)).mp z)⟩
   .rintro ⟨⟨h1,h2,h3⟩ | h1,h4⟩
    .exact .inl ⟨⟨h1,h2,h4⟩,h3⟩
    .exact .inr ⟨h1,λz=>h4 ((i5 x (zd h1)).mpr z)⟩
  .simp at i6 j4 ⊢;ext i6 j4
theorem O3{r:Row}{lo hi:Int}(h1:-(10^250)<=r.2.2.2)(h2:r.2.2.2<=10^250)(h3:-(10^250)<=lo-r.1)(h4:lo-r.1<=10^250):xq [r.d,.int lo,.int hi]=some (.sh (iF r lo hi).d):=by
 refine Wo.eq (Cd.mpr ?_)
 unfold Jt
 walk_at "vc"
 rw [Bj h1 h2 h3 h4,cP]
 walk_at "vc"
 rfl
theorem b4x{ss:List Span}{n:Nat}(h:n<ss.length):dF (ss.map Span.d) (n:Int)=some (Span.d ss[n]):=by
 rw [DL.du];simp [h]
def FJ(s:Span):Prop:=(-(10^200)<=s.1/\s.1<=10^200)/\(-(10^200)<=s.2/\s.2<=10^200)
theorem Ru{rs:List Row}{ss:List Span}(hb:∀r∈rs,aq (10^200) r)(hs:∀s∈ss,FJ s)(l1:rs.length<=400000)(l2:ss.length<=400000):xC [.tup (rs.map Row.d),.tup (ss.map Span.d)]=some (.ow ((bX rs ss).map Row.d)):=by
 refine Wo.eq (nQ.mpr ?_)
 unfold Li
 walk_at "v1"
 refine mq Row.d (λpre env=>∃x4 x5,∃(done post:List Row) (pl:Nat),env=[.sh (.tup (rs.map Row.d)),.sh (.tup (ss.map Span.d)),.ow (done.map Row.d),.sh (.int pl),x4,x5]/\rs=pre++post/\pl<=ss.length/\done.length<=2*pre.length+pl/\done++bX post (ss.drop pl)=bX rs ss) rs (λpre r post env e h=>?_) (λenv h=>?_) ⟨_,_,[],rs,0,rfl,rfl,by simp,by simp,rfl⟩
 .obtain ⟨x4,x5,done,oP,pl,rfl,e0,dB,wu,jt⟩:=h
  obtain rfl:oP=r::post:=List.append_cancel_left (e0.symm.trans e)
  have gP:pre.length<=400000:=by have:=congrArg mi e;simp at this;ext l1 this
  have ie:=hb r (by rw [e];simp)
  unfold aq at ie
  rw [cP r]
  walk_at "v1"
  rw [KE,<-cP r]
  refine Wo.mono (P:=λy=>y.1=.nx/\∃(d3:List Row) (p3:Nat) (lw:Int),y.2=[.sh (.tup (rs.map Row.d)),.sh (.tup (ss.map Span.d)),.ow (d3.map Row.d),.sh (.int p3),.sh r.d,.sh (.int lw)]/\p3<=ss.length/\d3.length<=2*pre.length+p3+1/\(-(10^200)<=lw/\lw<=10^200+1)/\d3++lI r lw=done++(bO r r.1 (ss.drop pl)).1/\ss.drop p3=(bO r r.1 (ss.drop pl)).2) ?_ (λy hy=>?_)
  .refine Bz (λn env=>∃(d2:List Row) (p2:Nat) (lw:Int),env=[.sh (.tup (rs.map Row.d)),.sh (.tup (ss.map Span.d)),.ow (d2.map Row.d),.sh (.int p2),.sh r.d,.sh (.int lw)]/\n=ss.length-p2/\p2<=ss.length/\d2.length<=2*pre.length+p2/\(-(10^200)<=lw/\lw<=10^200+1)/\d2++(bO r lw (ss.drop p2)).1=done++(bO r r.1 (ss.drop pl)).1/\(bO r lw (ss.drop p2)).2=(bO r r.1 (ss.drop pl)).2) (λn env h=>?_) _ (ss.length-pl) (show ss.length-pl<1000000 by ext l2) ⟨done,pl,r.1,rfl,rfl,dB,wu,by ext ie,rfl,rfl⟩
   obtain ⟨d2,p2,lw,rfl,rfl,pU,hd2,qH,o1,o2⟩:=h
   have o7:=λhi=>O3 (r:=r) (lo:=lw) (hi:=hi) (by ext ie) (by ext ie) (by ext ie qH) (by ext ie qH)
   rw [cP] at o7 ⊢
   walk_at "v1"
   rw [aX]
   refine ⟨λh1=>?_,λh1=>?_⟩
   .have nv:p2<ss.length:=by ext h1
    have dd:ss.drop p2=ss[p2]::ss.drop (p2+1):=mT nv
    have ux:=hs ss[p2] (nD nv)
    have n6:=b4x nv
    rw [n6]
    generalize ss[p2]=s at *
    unfold FJ at ux
    rw [dd,bO] at o1 o2
    rw [xm]
    walk_at "v1"
    refine ⟨λh2=>?_,λh2=>?_⟩
    .rw [if_pos h2] at o1 o2
     walk_at "v1"
     rw [xm] at n6
     refine Wo.mono (P:=λy=>y=(.nx,[.sh (.tup (rs.map Row.d)),.sh (.tup (ss.map Span.d)),.ow ((d2++ml r lw s.1).map Row.d),.sh (.int p2),.sh (.tup [.int r.1,.int r.2.1,.int r.2.2.1,.int r.2.2.2]),.sh (.int lw)])) ?_ (λy hy=>?_)
     .walk_at "vc"
      rw [n6]
      walk_at "vc"
      rw [o7]
      walk_at "vc"
      rw [aX]
      unfold ml
      refine ⟨λh=>⟨by ext l2 gP hd2 h1,?_⟩,λh=>?_⟩
      .rw [if_pos h,ej];rfl
      .rw [if_neg h,mQ]
     .subst hy
      have sx:(ml r lw s.1).length<=1:=by unfold ml;split<;>simp
      walk_at "v1"
      rw [n6]
      walk_at "v1"
      rw [a3e]
      walk_at "vc"
      rw [n6]
      walk_at "vc"
      refine ⟨λh3=>?_,λh3=>?_⟩
      .rw [if_pos h3] at o1 o2
       exact ⟨d2++ml r lw s.1,p2,max lw (s.2+1),rfl,pU,by simp;ext hd2 sx,by ext qH ux,by rw [fG];exact o1,by rw [dd];exact o2⟩
      .rw [if_neg h3] at o1 o2
       exact ⟨ss.length-(p2+1),by ext h1,d2++ml r lw s.1,p2+1,max lw (s.2+1),rfl,rfl,by ext h1,by simp;ext hd2 sx,by ext qH ux,by rw [fG];exact o1,o2⟩
    .rw [if_neg h2] at o1 o2
     exact ⟨d2,p2,lw,rfl,pU,by ext hd2,qH,o1,by rw [dd];exact o2⟩
   .have dd:ss.drop p2=[]:=qZ (by ext h1)
    rw [dd,bO] at o1 o2
    exact ⟨d2,p2,lw,rfl,pU,by ext hd2,qH,o1,by rw [dd];exact o2⟩
  .obtain ⟨fl,ak⟩:=y
   obtain ⟨h1,d3,p3,lw,h2,wg,HA,qH,o1,o2⟩:=hy
   dsimp only at h1 h2
   subst h1 h2
   have o7:=O3 (r:=r) (lo:=lw) (hi:=r.2.1) (by ext ie) (by ext ie) (by ext ie qH) (by ext ie qH)
   rw [cP] at o7 ⊢
   walk_at "vc"
   rw [o7]
   walk_at "vc"
   rw [aX]
   rw [bX,<-o2,<-fG,<-o1] at jt
   refine ⟨λh=>⟨by ext l2 gP wg HA,_,_,d3++[iF r lw r.2.1],post,p3,by rw [ej];rfl,by rw [e];simp,wg,by simp;ext HA,?_⟩,λh=>⟨_,_,d3,post,p3,rfl,by rw [e];simp,wg,by simp;ext HA,?_⟩⟩
   .rw [lI,if_pos h] at jt
    exact jt
   .rw [lI,if_neg h,mQ] at jt
    exact jt
 .obtain ⟨x4,x5,done,oP,pl,rfl,e0,dB,wu,jt⟩:=h
  have:oP=[]:=by simpa using e0
  subst this
  walk_at "vc"
  rw [<-jt];simp [bX]
theorem qf{c:En->Option Bool}{F:SF}{env:En}{Q:Fl×En->Prop}(hc:Wo (c env) λb=>b=false)(h:Q (.nx,env)):Wo (bS c F cE env) Q:=by
 rw [a3e]
 exact hc.mono λb hb=>⟨λz=>(by rw [hb] at z;cases z),λ_=>(by rw [b6S];exact h)⟩
noncomputable abbrev kW:=Int×Int
noncomputable def kW.at(l:kW)(low x:Int):Int:=l.1+l.2*(x-low)
noncomputable def dY:Int->List Row->Int->Prop
 | at_,[],e=>at_=e
 | at_,r::rs,e=>r.1=at_/\at_<=r.2.1/\dY (r.2.1+1) rs e
theorem dY.le:∀{rs:List Row} {a e:Int},dY a rs e->a<=e
 | [],_,_,h=>Int.le_of_eq h
 | r::rs,a,e,h=>by have:=h.2.2.le;have:=h.2.1;lia
theorem dY.mem:∀{rs:List Row} {a e:Int} {r:Row},dY a rs e->r∈rs->a<=r.1/\r.1<=r.2.1/\r.2.1<e
 | [],_,_,_,_,h=>nomatch h
 | r::rs,a,e,q,h,k=>by
  obtain ⟨h1,h2,h3⟩:=h
  have:=h3.le
  rcases br.mp k with rfl | k
  .ext h1 h2 this
  .have:=h3.mem k;ext h2 this
noncomputable def j0(l:kW)(low:Int)(r:Row):List Row:=oU r.2.2.1 r.2.2.2 (l.at low r.1) l.2 r.1 r.2.1
theorem b5L{l:kW}{low:Int}{r:Row}(h:r.1<=r.2.1):dY r.1 (j0 l low r) (r.2.1+1)/\(∀q∈j0 l low r,(q.2.2.2=r.2.2.2\/q.2.2.2=l.2)/\r.1<=q.1/\q.2.1<=r.2.1/\∀x,q.1<=x->x<=q.2.1->q.at x=min (r.at x) (l.at low x)) /\
  (j0 l low r).length<=2/\((∀x,r.1<=x->x<=r.2.1->r.at x<=l.at low x)->(j0 l low r).length=1)/\((∀x,r.1<=x->x<=r.2.1->l.at low x<r.at x)->(j0 l low r).length=1):=by
 obtain ⟨f,g,c,s⟩:=r
 dsimp only at h
 have sp:=J' (a:=c-l.at low f) (s:=s-l.2) (low:=f) (high:=g) h
 have gap:∀x,c-l.at low f+(s-l.2)*(x-f)=Row.at (f,g,c,s) x-l.at low x:=λx=>by unfold Row.at kW.at;dsimp only;grind
 have v1:∀a b x,Row.at (gD c s f a b) x=Row.at (f,g,c,s) x:=λa b x=>by unfold Row.at gD;dsimp only;grind
 have v2:∀a b x,Row.at (gD (l.at low f) l.2 f a b) x=l.at low x:=λa b x=>by unfold Row.at gD kW.at;dsimp only;grind
 simp only [gap] at sp
 unfold j0 oU
 dsimp only
 cases oV:nd (c-l.at low f) (s-l.2) f g with
 | none =>
  rw [oV] at sp
  refine ⟨⟨rfl,h,rfl⟩,λq hq=>?_,by simp,λ_=>rfl,λ_=>rfl⟩
  obtain rfl:=bQ.mp hq
  refine ⟨.inr rfl,aW _,aW _,λx h1 h2=>?_⟩
  rw [v2]
  have:=sp x h1 h2
  ext this
 | some fl =>
  obtain ⟨a,b⟩:=fl
  rw [oV] at sp
  obtain ⟨⟨q1,q2,q3,q4⟩,q5⟩:=sp
  have A:∀x,a<=x->x<=b->Row.at (gD c s f a b) x=min (Row.at (f,g,c,s) x) (l.at low x):=λx h1 h2=>by
   rw [v1];have:=(q5 x (by ext q1 h1) (by ext q3 h2)).mpr ⟨h1,h2⟩;ext this
  have B:∀a' b' x,f<=x->x<=g->¬(a<=x/\x<=b)->Row.at (gD (l.at low f) l.2 f a' b') x=min (Row.at (f,g,c,s) x) (l.at low x):=λa' b' x h1 h2 h3=>by
   rw [v2];have:=(not_congr (q5 x h1 h2)).mpr h3;ext this
  dsimp only
  by_cases hf:f<a
  .have hl:¬b<g:=by ext q4 hf
   rw [if_pos hf,if_neg hl]
   refine ⟨⟨rfl,by show f<=a-1;ext hf,⟨by show a=a-1+1;ext,by show a-1+1<=b;ext q2,by show b+1=g+1;ext q3 hl⟩⟩,λq hq=>?_,by simp,λz=>?_,λz=>?_⟩
   .simp at hq
    rcases hq with rfl | rfl
    .exact ⟨.inr rfl,aW _,by show a-1<=g;ext q2 q3,λx h1 h2=>B _ _ x h1 (by have:x<=a-1:=h2;ext q2 q3 this) (by have:x<=a-1:=h2;ext this)⟩
    .exact ⟨.inl rfl,by show f<=a;ext q1,by show b<=g;ext q3,λx h1 h2=>A x h1 h2⟩
   .exfalso;have:=(not_congr (q5 f (by ext) (by ext h))).mpr (by ext hf);have:=z f (by ext) (by ext h);lia
   .exfalso;have:=(q5 a (by ext q1) (by ext q2 q3)).mpr (by ext q2);have:=z a (by ext q1) (by ext q2 q3);lia
  .have CW:a=f:=by ext q1 hf
   rw [if_neg hf]
   by_cases hl:b<g
   .rw [if_pos hl]
    refine ⟨⟨CW,by show f<=b;ext q1 q2,⟨rfl,by show b+1<=g;ext hl,rfl⟩⟩,λq hq=>?_,by simp,λz=>?_,λz=>?_⟩
    .simp at hq
     rcases hq with rfl | rfl
     .exact ⟨.inl rfl,by show f<=a;ext q1,by show b<=g;ext q3,λx h1 h2=>A x h1 h2⟩
     .exact ⟨.inr rfl,by show f<=b+1;ext q1 q2,aW _,λx h1 h2=>B _ _ x (by have:b+1<=x:=h1;ext q1 q2 this) h2 (by have:b+1<=x:=h1;ext this)⟩
    .exfalso;have:=(not_congr (q5 g (by ext h) (by ext))).mpr (by ext hl);have:=z g (by ext h) (by ext);lia
    .exfalso;have:=(q5 a (by ext q1) (by ext h hf)).mpr (by ext q2);have:=z a (by ext q1) (by ext h hf);lia
   .rw [if_neg hl]
    refine ⟨⟨CW,by show f<=b;ext h hl,by show b+1=g+1;ext q3 hl⟩,λq hq=>?_,by simp,λ_=>rfl,λ_=>rfl⟩
    simp at hq
    subst hq
    exact ⟨.inl rfl,by show f<=a;ext q1,by show b<=g;ext q3,λx h1 h2=>A x h1 h2⟩
theorem dY.eH:∀{rs:List Row} {a e x:Int},dY a rs e->a<=x->x<e->∃q∈rs,q.1<=x/\x<=q.2.1
 | [],a,e,x,h,h1,h2=>by have:a=e:=h;ext _ h1 h2 this
 | r::rs,a,e,x,⟨h1,h2,h3⟩,k1,k2=>by
  by_cases hx:x<=r.2.1
  .exact ⟨r,aR,by ext h1 k1,hx⟩
  .obtain ⟨q,hq,k⟩:=h3.eH (x:=x) (by ext hx) k2
   exact ⟨q,a9 _ hq,k⟩
theorem dY.bD:∀{rs:List Row} {a e:Int},dY a rs e->rs.Pairwise λp q=>p.2.1<q.1
 | [],_,_,_=>.nil
 | r::rs,a,e,⟨h1,h2,h3⟩=>dg.mpr ⟨λq hq=>by have:=h3.mem hq;ext this,h3.bD⟩
def kj(a b:Row):Prop:=a.2.1<b.1\/b.2.1<a.1
theorem Rk:∀rs:List Row,A0 (rs.map Row.d)=some (rs.map λr=>(r.1,Row.d r))
 | []=>rfl
 | r::rs=>by
  rw [fo,A0,Rk rs]
  rfl
theorem b1D{rs:List Row}(hv:∀r∈rs,r.1<=r.2.1)(hd:rs.Pairwise kj)(c7:rs.length<lE):∃ts:List Row,w8 (rs.map Row.d)=some (ts.map Row.d)/\bK ts/\(∀x c,Val ts x c↔Val rs x c)/\ts.Perm rs:=by
 have aV:(rs.map (·.1)).Nodup:=by
  rw [List.Nodup,pW]
  refine hd.imp_of_mem λ{a b} ha hb h=>?_
  have:=hv a ha;have:=hv b hb
  unfold kj at h
  lia
 obtain ⟨ts,t1,t2⟩:=Ro (DT (rs.map λr=>(r.1,Row.d r)) λa b=>decide (a.1<=b.1))
 have hle:ts.Pairwise λa b=>a.1<=b.1:=by
  have:=Jl (le:=λa b:Int×D=>decide (a.1<=b.1)) (λa b c h1 h2=>by simp at *;ext h1 h2) (λa b=>by simp;ext) (rs.map λr=>(r.1,Row.d r))
  rw [<-t2,pW] at this
  exact this.imp λ{x y} z=>by simpa using z
 have Ye:ts.Pairwise kj:=(t1.pairwise_iff (λ{a b} h=>by unfold kj at *;ext h)).mpr hd
 have G3:∀r∈ts,r.1<=r.2.1:=λr hr=>hv r (t1.subset hr)
 refine ⟨ts,?_,⟨G3,?_⟩,λx c=>?_,t1⟩
 .unfold w8
  rw [Rk,oh,if_pos ⟨by rw [fM];exact aV,by rw [aX];exact c7⟩,<-t2,fM]
  rfl
 .refine (hle.and Ye).imp_of_mem λ{a b} ha hb h=>?_
  have:=G3 a ha;have:=G3 b hb
  obtain ⟨h1,h2⟩:=h
  unfold kj at h2
  ext this h1 h2
 .unfold Val
  exact ⟨λ⟨r,hr,k⟩=>⟨r,t1.subset hr,k⟩,λ⟨r,hr,k⟩=>⟨r,t1.symm.subset hr,k⟩⟩
noncomputable def fV(m:Met):List Row:=oU (m.a.at m.lo) m.a.2.2.2 (m.b.at m.lo) m.b.2.2.2 m.lo m.hi
theorem tq{m:Met}(h:m.lo<=m.hi):dY m.lo (fV m) (m.hi+1)/\(∀q∈fV m,(q.2.2.2=m.a.2.2.2\/q.2.2.2=m.b.2.2.2)/\m.lo<=q.1/\q.2.1<=m.hi/\∀x,q.1<=x->x<=q.2.1->q.at x=min (m.a.at x) (m.b.at x))/\(fV m).length<=2:=by
 obtain ⟨h1,h2,h3,_⟩:=b5L (l:=(m.b.at m.lo,m.b.2.2.2)) (low:=m.lo) (r:=(m.lo,m.hi,m.a.at m.lo,m.a.2.2.2)) h
 have e0:j0 (m.b.at m.lo,m.b.2.2.2) m.lo (m.lo,m.hi,m.a.at m.lo,m.a.2.2.2)=fV m:=by
  unfold j0 fV kW.at
  dsimp only
  rw [wC,wB,wA]
 rw [e0] at h1 h2 h3
 refine ⟨h1,λq hq=>?_,h3⟩
 obtain ⟨k1,k2,k3,k4⟩:=h2 q hq
 refine ⟨k1,k2,k3,λx x1 x2=>?_⟩
 rw [k4 x x1 x2]
 have e1:Row.at (m.lo,m.hi,m.a.at m.lo,m.a.2.2.2) x=m.a.at x:=Bi (r:=m.a) (lo:=m.lo) (hi:=m.hi)
 have e2:kW.at (m.b.at m.lo,m.b.2.2.2) m.lo x=m.b.at x:=Bi (r:=m.b) (lo:=m.lo) (hi:=m.hi)
 rw [e1,e2]
noncomputable def gM(A B:List Row):List Row:=(bh A B).flatMap fV
theorem KN{A B:List Row}{q:Row}(h:q∈gM A B):∃m∈bh A B,q∈fV m/\m.a∈A/\m.b∈B/\m.lo=max m.a.1 m.b.1/\m.hi=min m.a.2.1 m.b.2.1/\m.lo<=q.1/\q.1<=q.2.1/\q.2.1<=m.hi/\(q.2.2.2=m.a.2.2.2\/q.2.2.2=m.b.2.2.2)/\∀x,q.1<=x->x<=q.2.1->q.at x=min (m.a.at x) (m.b.at x):=by
 obtain ⟨m,hm,hq⟩:=iH.mp h
 obtain ⟨k1,k2,k3,k4,k5⟩:=lK (bp _) hm
 obtain ⟨c1,c2,_⟩:=tq k5
 have:=c1.mem hq
 obtain ⟨d1,d2,d3,d4⟩:=c2 q hq
 exact ⟨m,hm,hq,k1,k2,k3,k4,d2,this.2.1,d3,d1,d4⟩
theorem b3V{A B:List Row}(ha:bK A)(hb:bK B):bK (gM A B)/\∀x c,Val (gM A B) x c↔∃p q,look A x=some p/\look B x=some q/\c=min p q:=by
 refine ⟨⟨λq hq=>?_,?_⟩,λx c=>⟨λ⟨q,hq,h1,h2,h3⟩=>?_,λ⟨p,q,h1,h2,h3⟩=>?_⟩⟩
 .obtain ⟨m,_,_,_,_,_,_,_,k,_⟩:=KN hq;exact k
 .unfold gM
  rw [List.pairwise_flatMap]
  refine ⟨λm hm=>?_,?_⟩
  .exact (tq (lK (bp _) hm).2.2.2.2).1.bD
  .refine (Bq (bp _) ha hb).imp_of_mem λ{m k} hm hk h x hx y hy=>?_
   have c1:=(tq (lK (bp _) hm).2.2.2.2).1.mem hx
   have c2:=(tq (lK (bp _) hk).2.2.2.2).1.mem hy
   show x.2.1<y.1
   ext h c1 c2
 .obtain ⟨m,hm,_,k1,k2,k3,k4,k5,k6,k7,_,k8⟩:=KN hq
  exact ⟨_,_,kE ha k1 (by ext h1 k3 k5) (by ext h2 k4 k7),kE hb k2 (by ext h1 k3 k5) (by ext h2 k4 k7),by rw [h3,k8 x h1 h2]⟩
 .obtain ⟨a,HG,a1,a2,rfl⟩:=rB h1
  obtain ⟨b,uA,b1,b2,rfl⟩:=rB h2
  obtain ⟨m,hm,rfl,rfl,m1,m2⟩:=EZ (x:=x) (bp _) ha hb HG uA a1 a2 b1 b2
  obtain ⟨c1,c2,_⟩:=tq (lK (bp _) hm).2.2.2.2
  obtain ⟨q,hq,q1,q2⟩:=c1.eH (x:=x) m1 (by ext m2)
  exact ⟨q,iH.mpr ⟨m,hm,hq⟩,q1,q2,by rw [h3,(c2 q hq).2.2.2 x q1 q2]⟩
theorem b3W(A B:List Row):(gM A B).length<=2*(bh A B).length:=by
 unfold gM
 have:∀ms:List Met,(∀m∈ms,m.lo<=m.hi)->(ms.flatMap fV).length<=2*ms.length:=λms=>by
  induction ms with
  | nil=>intro _;simp
  | cons m ms ih =>
   intro h
   have:=ih λk hk=>h k (a9 _ hk)
   have:=(tq (h m aR)).2.2
   rw [q8,cO,gy]
   lia
 exact this _ λm hm=>(lK (bp _) hm).2.2.2.2
theorem La:∀{n:Nat} {A B:List Row},A.length+B.length<=n->(bh A B).length=0\/(bh A B).length+1<=A.length+B.length
 | n,[],B,_=>by rw [Br];exact .inl rfl
 | n,a::as,[],_=>by rw [BE];exact .inl rfl
 | 0,a::as,b::bs,hn=>absurd hn (by simp)
 | n+1,a::as,b::bs,hn=>by
  rw [xx,cO]
  have h1:(if max a.1 b.1<=min a.2.1 b.2.1 then [(⟨max a.1 b.1,min a.2.1 b.2.1,a,b⟩:Met)] else []).length<=1:=by split<;>simp
  by_cases hc:a.2.1<b.2.1
  .have:=La (n:=n) (A:=as) (B:=b::bs) (by simp at hn ⊢;ext hn)
   rw [if_pos hc]
   simp only [gy] at this ⊢;ext h1 this
  .have:=La (n:=n) (A:=a::as) (B:=bs) (by simp at hn ⊢;ext hn)
   rw [if_neg hc]
   simp only [gy] at this ⊢;ext h1 this
theorem b4p{A B:List Row}(ha:∀r∈A,aq (10^180) r)(hb:∀r∈B,aq (10^180) r)(l1:A.length<=400000)(l2:B.length<=400000):B1 [.tup (A.map Row.d),.tup (B.map Row.d)]=some (.ow ((gM A B).map Row.d)):=by
 refine Wo.eq (iN.mpr ?_)
 unfold Mc
 walk_at "v1"
 rw [O4 (λr hr=>(ha r hr).mono (by decide)) (λr hr=>(hb r hr).mono (by decide)) (by ext l1) (by ext l2)]
 walk_at "v1"
 have ur:=E1 (A:=A) (B:=B) (bp _)
 refine mq Met.d (λpre env=>∃x3 x4 x5 x6,env=[.sh (.tup (A.map Row.d)),.sh (.tup (B.map Row.d)),.ow ((pre.flatMap fV).map Row.d),x3,x4,x5,x6]) (bh A B) (λpre m post env e h=>?_) (λenv h=>?_) ⟨_,_,_,_,rfl⟩
 .obtain ⟨x3,x4,x5,x6,rfl⟩:=h
  have hm:m∈bh A B:=by rw [e];simp
  obtain ⟨k1,k2,k3,k4,k5⟩:=lK (bp _) hm
  have b1:=ha _ k1
  have b2:=hb _ k2
  unfold aq at b1 b2
  have dB:(pre.flatMap fV).length<=2*pre.length:=by
   have:∀ms:List Met,(∀m∈ms,m.lo<=m.hi)->(ms.flatMap fV).length<=2*ms.length:=λms=>by
    induction ms with
    | nil=>intro _;simp
    | cons m ms ih =>
     intro h
     have:=ih λk hk=>h k (a9 _ hk)
     have:=(tq (h m aR)).2.2
     rw [q8,cO,gy]
     omega
   exact this _ λk hk=>(lK (A:=A) (B:=B) (bp _) (by rw [e];simp [hk])).2.2.2.2
  have Hc:pre.length<=800000:=by have:=congrArg mi e;simp at this;ext l1 l2 ur this
  have el:=b8D (p1:=m.a.at m.lo) (s1:=m.a.2.2.2) (p2:=m.b.at m.lo) (s2:=m.b.2.2.2) k5 (by ext k3 k4 b2) (by ext b1) (by ext b1) (by ext b2) (by ext b2)
  rw [Pg,Eo,Eo]
  walk_at "v1"
  rw [el]
  walk_at "v1"
  have eJ:=(tq k5).2.2
  refine ⟨?_,.sh (.int m.lo),.sh (.int m.hi),.sh (sW m.a m.lo),.sh (sW m.b m.lo),?_⟩
  .rw [aX,aX]
   show (pre.flatMap fV).length+(fV m).length<=_
   ext dB Hc eJ
  .rw [DS,ej]
   simp only [q8,List.flatMap_nil,mQ]
   rfl
 .obtain ⟨x3,x4,x5,x6,rfl⟩:=h
  walk_at "vc"
  rfl
theorem QN:∀{xs ys:List Int},xs.Nodup->xs ⊆ ys->xs.length<=ys.length
 | [],_,_,_=>nG _
 | x::xs,ys,h,s=>by
  obtain ⟨h1,h2⟩:=uQ.mp h
  have hx:=s (aR ..)
  have k:=QN h2 (ys:=ys.erase x) λy hy=>by
   have:y≠x:=λz=>h1 (z▸hy)
   exact (Ow this).mpr (s (a9 _ hy))
  rw [OR hx] at k
  have:=Og hx
  rw [gy]
  ext k this
theorem K8{r q:Row}{lo:Int}(h:q∈lI r lo):q.2.1=r.2.1:=by
 unfold lI at h
 split at h
 .rw [bQ.mp h];rfl
 .exact absurd h gq
theorem RA{r q:Row}{lo to:Int}(h:q∈ml r lo to):q.2.1=to-1:=by
 unfold ml at h
 split at h
 .rw [bQ.mp h];rfl
 .exact absurd h gq
theorem QR{r q:Row}:∀{ss:List Span} {low:Int},(q∈(bO r low ss).1->q.2.1=r.2.1\/∃s∈ss,q.2.1=s.1-1)/\(bO r low ss).2 <:+ ss
 | [],low=>⟨λh=>.inl (K8 h),uZ _⟩
 | s::ss,low=>by
  unfold bO
  split
  .split
   .refine ⟨λh=>?_,uZ _⟩
    rcases bU.mp h with h | h
    .exact .inr ⟨s,aR ..,RA h⟩
    .exact .inl (K8 h)
   .obtain ⟨i1,i2⟩:=QR (r:=r) (q:=q) (ss:=ss) (low:=max low (s.2+1))
    refine ⟨λh=>?_,i2.trans (List.suffix_cons _ _)⟩
    rcases bU.mp h with h | h
    .exact .inr ⟨s,aR ..,RA h⟩
    .rcases i1 h with k | ⟨t,ht,k⟩
     .exact .inl k
     .exact .inr ⟨t,a9 _ ht,k⟩
  .exact ⟨λh=>.inl (K8 h),uZ _⟩
theorem KQ{q:Row}:∀{rs:List Row} {ss:List Span},q∈bX rs ss->(∃r∈rs,q.2.1=r.2.1)\/∃s∈ss,q.2.1=s.1-1
 | [],_,h=>absurd h gq
 | r::rs,ss,h=>by
  obtain ⟨i1,i2⟩:=QR (r:=r) (q:=q) (ss:=ss) (low:=r.1)
  rcases bU.mp (show q∈(bO r r.1 ss).1++bX rs (bO r r.1 ss).2 from h) with h | h
  .rcases i1 h with k | k
   .exact .inl ⟨r,aR ..,k⟩
   .exact .inr k
  .rcases KQ h with ⟨z,hz,k⟩ | ⟨s,hs,k⟩
   .exact .inl ⟨z,a9 _ hz,k⟩
   .exact .inr ⟨s,i2.subset hs,k⟩
theorem b6e{A B:List Row}(ca:bK A)(cb:bK B){sa sb:List Span}(SA:aT A sa)(SB:aT B sb):(bh A B).length+(bX A sb).length+(bX B sa).length<=2*(A.length+B.length):=by
 have A9:∀{L:List Row} {ss:List Span},aT L ss->nV ss:=λ{L ss} S=>⟨S.ok,S.apart.imp λ{a b} h=>by ext h⟩
 obtain ⟨a1,a2,a3,a4⟩:=BF ca (A9 SB)
 obtain ⟨b1,b2,b3,b4⟩:=BF cb (A9 SA)
 have mm:=λm (h:m∈bh A B)=>lK (A:=A) (B:=B) (bp _) h
 have ma:=Bq (A:=A) (B:=B) (bp _) ca cb
 have key:=QN (xs:=(bh A B).map Met.hi++((bX A sb).map (λr=>r.2.1)++(bX B sa).map λr=>r.2.1)) (ys:=(A.map (λr=>r.2.1)++B.map λr=>r.2.1)++(A.map (λr=>r.1-1)++B.map λr=>r.1-1)) ?_ ?_
 .simp only [cO,aX] at key
  ext key
 .have bD:∀{L:List Row},bK L->(L.map λr=>r.2.1).Nodup:=λ{L} h=>by
   unfold List.Nodup
   rw [pW]
   refine h.2.imp_of_mem λ{x y} hx hy z e=>?_
   have:=h.1 y hy
   ext z e this
  refine Jb.mpr ⟨?_,Jb.mpr ⟨bD a1,bD b1,?_⟩,?_⟩
  .unfold List.Nodup
   rw [pW]
   refine ma.imp_of_mem λ{x y} hx hy z e=>?_
   have:=(mm y hy).2.2.2.2
   ext z e this
  .intro x hx y hy e
   obtain ⟨p,hp,rfl⟩:=cS.mp hx
   obtain ⟨q,hq,rfl⟩:=cS.mp hy
   have k1:=(a3 p.2.1 _).mp ⟨p,hp,a1.1 p hp,aW _,rfl⟩
   have k2:=(b3 q.2.1 _).mp ⟨q,hq,b1.1 q hq,aW _,rfl⟩
   obtain ⟨r,hr,r1,r2,_⟩:=k1.1
   exact k2.2 ((SA.eH _).mpr ⟨r,hr,by ext e r1,by ext e r2⟩)
  .intro x hx y hy e
   obtain ⟨m,hm,rfl⟩:=cS.mp hx
   obtain ⟨i1,i2,i3,i4,i5⟩:=mm m hm
   rcases bU.mp hy with hy | hy
   .obtain ⟨q,hq,rfl⟩:=cS.mp hy
    have k2:=(a3 q.2.1 _).mp ⟨q,hq,a1.1 q hq,aW _,rfl⟩
    exact k2.2 ((SB.eH _).mpr ⟨m.b,i2,by ext i3 i5 e,by ext i4 e⟩)
   .obtain ⟨q,hq,rfl⟩:=cS.mp hy
    have k2:=(b3 q.2.1 _).mp ⟨q,hq,b1.1 q hq,aW _,rfl⟩
    exact k2.2 ((SA.eH _).mpr ⟨m.a,i1,by ext i3 i5 e,by ext i4 e⟩)
 .intro x hx
  have CL:∀{r:Row},(r∈A\/r∈B)->r.2.1∈(A.map (λr=>r.2.1)++B.map λr=>r.2.1)++(A.map (λr=>r.1-1)++B.map λr=>r.1-1):=λ{r} h=>by
   refine gf _ ?_
   rcases h with h | h
   .exact gf _ (cS.mpr ⟨r,h,rfl⟩)
   .exact fF _ (cS.mpr ⟨r,h,rfl⟩)
  have Na:∀{r:Row},(r∈A\/r∈B)->r.1-1∈(A.map (λr=>r.2.1)++B.map λr=>r.2.1)++(A.map (λr=>r.1-1)++B.map λr=>r.1-1):=λ{r} h=>by
   refine fF _ ?_
   rcases h with h | h
   .exact gf _ (cS.mpr ⟨r,h,rfl⟩)
   .exact fF _ (cS.mpr ⟨r,h,rfl⟩)
  rcases bU.mp hx with hx | hx
  .obtain ⟨m,hm,rfl⟩:=cS.mp hx
   obtain ⟨i1,i2,i3,i4,i5⟩:=mm m hm
   by_cases c:m.a.2.1<=m.b.2.1
   .rw [show m.hi=m.a.2.1 by ext i4 c];exact CL (.inl i1)
   .rw [show m.hi=m.b.2.1 by ext i4 c];exact CL (.inr i2)
  .rcases bU.mp hx with hx | hx
   .obtain ⟨q,hq,rfl⟩:=cS.mp hx
    rcases KQ hq with ⟨r,hr,k⟩ | ⟨s,hs,k⟩
    .rw [k];exact CL (.inl hr)
    .obtain ⟨⟨r1,h1,e1⟩,_⟩:=SB.ends s hs
     rw [k,show s.1=r1.1 by ext e1];exact Na (.inr h1)
   .obtain ⟨q,hq,rfl⟩:=cS.mp hx
    rcases KQ hq with ⟨r,hr,k⟩ | ⟨s,hs,k⟩
    .rw [k];exact CL (.inr hr)
    .obtain ⟨⟨r1,h1,e1⟩,_⟩:=SA.ends s hs
     rw [k,show s.1=r1.1 by ext e1];exact Na (.inl h1)
noncomputable def nj:Option Int->Option Int->Option Int
 | some a,some b=>some (min a b)
 | some a,none=>some a
 | none,b=>b
theorem KW{A:List Row}(ha:bK A){x:Int}:(∃r∈A,r.1<=x/\x<=r.2.1)↔look A x≠none:=by
 constructor
 .rintro ⟨r,hr,h1,h2⟩
  rw [kE ha hr h1 h2];exact λz=>nomatch z
 .intro h
  cases e:look A x with
  | none=>exact absurd e h
  | some c=>obtain ⟨r,hr,h1,h2,_⟩:=rB e;exact ⟨r,hr,h1,h2⟩
theorem Qj{A B:List Row}{V C:Int}(ca:bK A)(cb:bK B)(ha:∀r∈A,aq (10^180) r)(hb:∀r∈B,aq (10^180) r)(hV:V<=10^180)(hC:C<=10^180)
  (va:∀x c,look A x=some c->(-V<=x/\x<=V)/\(-C<=c/\c<=C))(vb:∀x c,look B x=some c->(-V<=x/\x<=V)/\(-C<=c/\c<=C))(hl:4*(A.length+B.length)<=lE):
  ∃fs:List Row,iX [.tup (A.map Row.d),.tup (B.map Row.d)]=some (.sh (.tup (fs.map Row.d)))/\Canon fs/\(∀x,look fs x=nj (look A x) (look B x))/\fs.length<=3*(A.length+B.length):=by
 have hN:lE<=1600000/\0<lE:=by decide
 obtain ⟨sa,ea,SA⟩:=EU ca (by ext hl hN)
 obtain ⟨sb,eb,SB⟩:=EU cb (by ext hl hN)
 have OW:∀{L:List Row} {ss:List Span},aT L ss->(∀r∈L,aq (10^180) r)->∀s∈ss,FJ s:=λ{L ss} S hL s hs=>by
  obtain ⟨⟨r1,h1,e1⟩,⟨r2,h2,e2⟩⟩:=S.ends s hs
  have k1:=hL r1 h1
  have k2:=hL r2 h2
  unfold aq at k1 k2
  unfold FJ
  ext e1 e2 k1 k2
 have A9:∀{L:List Row} {ss:List Span},aT L ss->nV ss:=λ{L ss} S=>⟨S.ok,S.apart.imp λ{a b} h=>by ext h⟩
 have oa:=Ru (rs:=A) (ss:=sb) (λr hr=>(ha r hr).mono (by decide)) (OW SB hb) (by ext hl hN) (by have:=SB.len;ext hl hN this)
 have ob:=Ru (rs:=B) (ss:=sa) (λr hr=>(hb r hr).mono (by decide)) (OW SA ha) (by ext hl hN) (by have:=SA.len;ext hl hN this)
 obtain ⟨a1,a2,a3,a4⟩:=BF ca (A9 SB)
 obtain ⟨b1,b2,b3,b4⟩:=BF cb (A9 SA)
 obtain ⟨c1,c2⟩:=b3V ca cb
 have la:=SA.len
 have lb:=SB.len
 have ll:=b3W A B
 have lm:=La (A:=A) (B:=B) (bp _)
 have Nb:∀x,fg sa x↔look A x≠none:=λx=>(SA.eH x).trans (KW ca)
 have GR:∀x,fg sb x↔look B x≠none:=λx=>(SB.eH x).trans (KW cb)
 have MO:∀r∈gM A B++(bX A sb++bX B sa),r.1<=r.2.1:=λr hr=>by
  rcases bU.mp hr with h | h
  .exact c1.1 r h
  .exact (bU.mp h).elim (a1.1 r) (b1.1 r)
 have apart:∀{L M:List Row},(∀r∈L,r.1<=r.2.1)->(∀r∈M,r.1<=r.2.1)->(∀x c d,Val L x c->Val M x d->False)->∀a∈L,∀b∈M,kj a b:=λ{L M} hL hM hx a Ae b sE=>by
  have h1:=hL a Ae
  have h2:=hM b sE
  by_cases h:a.2.1<b.1\/b.2.1<a.1
  .exact h
  .exact (hx (max a.1 b.1) _ _ ⟨a,Ae,by ext,by ext h1 h,rfl⟩ ⟨b,sE,by ext,by ext h2 h,rfl⟩).elim
 have own:∀{L:List Row},bK L->L.Pairwise kj:=λ{L} h=>h.2.imp λ{a b} z=>.inl z
 have Hz:(gM A B++(bX A sb++bX B sa)).Pairwise kj:=by
  refine gr.mpr ⟨own c1,gr.mpr ⟨own a1,own b1,apart a1.1 b1.1 λx c d h1 h2=>?_⟩,λa Ae b sE=>?_⟩
  .obtain ⟨k1,k2⟩:=(a3 x c).mp h1
   obtain ⟨k3,k4⟩:=(b3 x d).mp h2
   rw [GR,vw cb] at *
   exact k2 (by rw [k3];exact λz=>nomatch z)
  .rcases bU.mp sE with sE | sE
   .refine apart c1.1 a1.1 (λx c d h1 h2=>?_) a Ae b sE
    obtain ⟨p,q,k1,k2,_⟩:=(c2 x c).mp h1
    obtain ⟨_,k4⟩:=(a3 x d).mp h2
    exact k4 ((GR x).mpr (by rw [k2];exact λz=>nomatch z))
   .refine apart c1.1 b1.1 (λx c d h1 h2=>?_) a Ae b sE
    obtain ⟨p,q,k1,k2,_⟩:=(c2 x c).mp h1
    obtain ⟨_,k4⟩:=(b3 x d).mp h2
    exact k4 ((Nb x).mpr (by rw [k1];exact λz=>nomatch z))
 have mo:=b6e ca cb SA SB
 have c7:(gM A B++(bX A sb++bX B sa)).length<lE:=by
  rw [cO,cO]
  ext hl hN ll lm mo
 obtain ⟨ts,es,Zz,S',Gm⟩:=b1D MO Hz c7
 have G4:∀x c,Val (gM A B++(bX A sb++bX B sa)) x c↔nj (look A x) (look B x)=some c:=λx c=>by
  rw [Val.app,Val.app,c2,a3,b3,Nb,GR,vw ca,vw cb]
  cases look A x with
  | none=>cases look B x<;>simp [nj]
  | some a=>cases look B x<;>simp [nj,eq_comm]
 have uz:∀r∈ts,aq (10^180) r:=λr hr=>by
  have sj:=Gm.subset hr
  have hle:=MO r sj
  rcases bU.mp sj with h | h
  .obtain ⟨m,_,_,k1,k2,k3,k4,k5,k6,k7,k8,k9⟩:=KN h
   have q1:=ha _ k1
   have q2:=hb _ k2
   have v1:=va _ _ (kE ca k1 (x:=r.1) (by ext k3 k5) (by ext hle k4 k7))
   have v2:=vb _ _ (kE cb k2 (x:=r.1) (by ext k3 k5) (by ext hle k4 k7))
   have e1:r.at r.1=r.2.2.1:=by unfold Row.at;simp
   have e2:=k9 r.1 (aW _) hle
   rw [e1] at e2
   unfold aq at *
   ext hV hC hle k4 k7 k8 q1 q2 v1 v2 e2
  .have key:∀{L:List Row} {q:Row},bK L->(∀r∈L,aq (10^180) r)->(∀x c,look L x=some c->(-V<=x/\x<=V)/\(-C<=c/\c<=C))->(∃r∈L,r.1<=q.1/\q.2.1<=r.2.1/\q.2.2.1=r.at q.1/\q.2.2.2=r.2.2.2)->q.1<=q.2.1->aq (10^180) q:=λ{L q} hA hL hv ⟨z,hz,k1,k2,k3,k4⟩ hq=>by
    have q1:=hL z hz
    have v1:=hv _ _ (kE hA hz (x:=q.1) (by ext k1) (by ext hq k2))
    unfold aq at *
    rw [k3,k4]
    ext hC hq k1 k2 q1 v1
   rcases bU.mp h with h | h
   .exact key ca ha va (a2 r h) hle
   .exact key cb hb vb (b2 r h) hle
 obtain ⟨fs,ef,L⟩:=vn Zz uz (by rw [Gm.length_eq];ext hN c7) (ro:=false)
 have lk:∀x,look fs x=nj (look A x) (look B x):=λx=>Kv L.canon.bD λc=>by rw [L.val,S',G4]
 refine ⟨fs,?_,L.canon,lk,?_⟩
 .refine Wo.eq (rO.mpr ?_)
  unfold Kz
  walk_at "vc"
  rw [eb,ea]
  walk_at "vc"
  rw [oa,ob]
  walk_at "vc"
  rw [b4p (λr hr=>(ha r hr).mono (by decide)) (λr hr=>(hb r hr).mono (by decide)) (by ext hl hN) (by ext hl hN)]
  walk_at "vc"
  rw [<-ej,<-ej,es]
  walk_at "vc"
  rw [ef]
  walk_at "vc"
  simp only [aX,cO]
  ext hl hN ll mo
 .have:=L.len
  have:=Gm.length_eq
  rw [cO,cO] at this
  lia
theorem rA{fs:List Row}(h:Canon fs){B C:Int}(hC:0<=C)(hb:∀x c,look fs x=some c->(-B<=x/\x<=B)/\(-C<=c/\c<=C)):∀r∈fs,(-B<=r.1/\r.1<=B)/\(-B<=r.2.1/\r.2.1<=B)/\(-C<=r.2.2.1/\r.2.2.1<=C)/\(-(2*C)<=r.2.2.2/\r.2.2.2<=2*C):=λr hr=>by
 have ok:=h.1 r hr
 unfold rh at ok
 have l1:=kE h.bD hr (x:=r.1) (aW _) ok.1
 have l2:=kE h.bD hr (x:=r.2.1) ok.1 (aW _)
 have b1:=hb _ _ l1
 have b2:=hb _ _ l2
 have e1:r.at r.1=r.2.2.1:=by unfold Row.at;simp
 rw [e1] at b1
 refine ⟨b1.1,b2.1,b1.2,?_⟩
 by_cases hs:r.1=r.2.1
 .rw [ok.2 hs];ext hC
 .have l3:=kE h.bD hr (x:=r.1+1) (by ext) (by ext ok hs)
  have b3:=hb _ _ l3
  have e3:r.at (r.1+1)=r.2.2.1+r.2.2.2:=by unfold Row.at;rw [show r.1+1-r.1=1 by ext,wH]
  rw [e3] at b3
  ext b1 b3
noncomputable def Gl(φ:List D->Option Sl):SF:=
 (ah (bS (bN (ae fC (aQ (bV 0)) (eC (.int 2))))
 (aw (gU (cC (eV 0)) (av (bV 0) (eC (.int 0))) (aP aa))) cE)
 (ah (aY 1 (ae bH (aQ (bV 0)) (eC (.int 2))))
 (aw (aA 2 iX (af (aA 1 φ (af (ec (bV 0) eG (dZ (eV 1))) aa)) (af (aA 1 φ (af (ec (bV 0) (dZ (eV 1)) eG) aa)) aa))))))
theorem Pk{α:Type}(xs:List α){k:Nat}(h:k<=xs.length):jz xs none (some (k:Int))=xs.take k:=by
 unfold jz
 have e1:HT.bC xs.length 0 none=0:=rfl
 have e2:HT.bC xs.length xs.length (some (k:Int))=min k xs.length:=HT.mG _ _ k
 rw [e1,e2,DG,Nat.sub_zero,II h]
theorem Pj{α:Type}(xs:List α){k:Nat}(h:k<=xs.length):jz xs (some (k:Int)) none=xs.drop k:=by
 unfold jz
 have e1:HT.bC xs.length 0 (some (k:Int))=min k xs.length:=HT.mG _ _ k
 have e2:HT.bC xs.length xs.length none=xs.length:=rfl
 rw [e1,e2,II h,DJ]
 rw [lD]
 ext
structure FV(V C:Int)(f:List Row):Prop where
 canon:Canon f
 bd:∀x c,look f x=some c->(-V<=x/\x<=V)/\(-C<=c/\c<=C)
theorem FV.row{V C:Int}{f:List Row}(h:FV V C f)(hV:V<=10^180)(hC:0<=C/\2*C<=10^180):∀r∈f,aq (10^180) r:=λr hr=>by
 have:=rA h.canon hC.1 h.bd r hr
 unfold aq
 ext hV hC this
def kT(Fs:List (List Row))(f:List Row):Prop:=∀x v,look f x=some v↔(∃g∈Fs,look g x=some v)/\∀g∈Fs,∀w,look g x=some w->v<=w
theorem kT.fv{V C:Int}{Fs:List (List Row)}{f:List Row}(h:kT Fs f)(cf:Canon f)(hF:∀g∈Fs,FV V C g):FV V C f:=⟨cf,λx c e=>by
 obtain ⟨⟨g,hg,k⟩,_⟩:=(h x c).mp e
 exact (hF g hg).bd x c k⟩
theorem kT.merge{Fs Gs:List (List Row)}{a b f:List Row}(ha:kT Fs a)(hb:kT Gs b)(lk:∀x,look f x=nj (look a x) (look b x)):kT (Fs++Gs) f:=λx v=>by
 rw [lk]
 have no:∀{Hs:List (List Row)} {h:List Row},kT Hs h->look h x=none->∀g∈Hs,look g x=none:=λ{Hs h} hh e=>by
  have key:∀Ks:List (List Row),(∀g∈Ks,g∈Hs)->(∃g∈Ks,look g x≠none)->∃v,(∃g∈Ks,look g x=some v)/\∀g∈Ks,∀w,look g x=some w->v<=w:=λKs=>by
   induction Ks with
   | nil=>rintro _ ⟨g,hg,_⟩;cases hg
   | cons k Ks ih =>
    intro hs hex
    by_cases hK:∃g∈Ks,look g x≠none
    .obtain ⟨v,⟨g,hg,e1⟩,m⟩:=ih (λg hg=>hs g (a9 _ hg)) hK
     cases ek:look k x with
     | none=>exact ⟨v,⟨g,a9 _ hg,e1⟩,λq hq w hw=>by
       rcases br.mp hq with rfl | hq
       .rw [ek] at hw;cases hw
       .exact m q hq w hw⟩
     | some u =>
      by_cases zA:u<=v
      .exact ⟨u,⟨k,aR ..,ek⟩,λq hq w hw=>by
        rcases br.mp hq with rfl | hq
        .rw [ek] at hw;cases hw;exact aW _
        .exact sO zA (m q hq w hw)⟩
      .exact ⟨v,⟨g,a9 _ hg,e1⟩,λq hq w hw=>by
        rcases br.mp hq with rfl | hq
        .rw [ek] at hw;cases hw;ext zA
        .exact m q hq w hw⟩
    .obtain ⟨g,hg,e1⟩:=hex
     rcases br.mp hg with rfl | hg
     .cases ek:look g x with
      | none=>exact absurd ek e1
      | some u=>exact ⟨u,⟨g,aR ..,ek⟩,λq hq w hw=>by
        rcases br.mp hq with rfl | hq
        .rw [ek] at hw;cases hw;exact aW _
        .exact absurd ⟨q,hq,by rw [hw];exact λz=>nomatch z⟩ hK⟩
     .exact absurd ⟨g,hg,e1⟩ hK
  intro g hg
  refine OU λz=>?_
  obtain ⟨v,hv⟩:=key Hs (λ_ h=>h) ⟨g,hg,z⟩
  rw [(hh x v).mpr hv] at e
  cases e
 cases ea:look a x with
 | none =>
  have n1:=no ha ea
  show look b x=some v↔_
  rw [hb x v]
  constructor
  .rintro ⟨⟨g,hg,e⟩,m⟩
   exact ⟨⟨g,fF _ hg,e⟩,λq hq w hw=>(bU.mp hq).elim (λz=>by rw [n1 q z] at hw;cases hw) λz=>m q z w hw⟩
  .rintro ⟨⟨g,hg,e⟩,m⟩
   exact ⟨(bU.mp hg).elim (λz=>by rw [n1 g z] at e;cases e) λz=>⟨g,z,e⟩,λq hq=>m q (fF _ hq)⟩
 | some u =>
  obtain ⟨⟨g1,C2,e1⟩,m1⟩:=(ha x u).mp ea
  cases eb:look b x with
  | none =>
   have n2:=no hb eb
   show some u=some v↔_
   constructor
   .intro z
    cases z
    exact ⟨⟨g1,gf _ C2,e1⟩,λq hq w hw=>(bU.mp hq).elim (λz=>m1 q z w hw) λz=>by rw [n2 q z] at hw;cases hw⟩
   .rintro ⟨⟨g,hg,e⟩,m⟩
    rcases bU.mp hg with z | z
    .have k1:=m g1 (gf _ C2) u e1
     have k2:=m1 g z v e
     rw [show u=v by ext k1 k2]
    .rw [n2 g z] at e;cases e
  | some t =>
   obtain ⟨⟨g2,C1,e2⟩,m2⟩:=(hb x t).mp eb
   show some (min u t)=some v↔_
   constructor
   .intro z
    cases z
    refine ⟨?_,λq hq w hw=>?_⟩
    .by_cases c:u<=t
     .exact ⟨g1,gf _ C2,by rw [e1,show min u t=u by ext c]⟩
     .exact ⟨g2,fF _ C1,by rw [e2,show min u t=t by ext c]⟩
    .rcases bU.mp hq with z | z
     .have:=m1 q z w hw;ext this
     .have:=m2 q z w hw;ext this
   .rintro ⟨⟨g,hg,e⟩,m⟩
    have k1:=m g1 (gf _ C2) u e1
    have k2:=m g2 (fF _ C1) t e2
    congr 1
    rcases bU.mp hg with z | z
    .have:=m1 g z v e;ext k1 k2 this
    .have:=m2 g z v e;ext k1 k2 this
def vT(φ:List D->Option Sl)(K n m:Nat):Prop:=∀{V C:Int} {Fs:List (List Row)} {r:Bool},V<=10^180->0<=C/\2*C<=10^180->(∀f∈Fs,FV V C f/\f.length<=K)->Fs≠[]->Fs.length<=n->∃fs:List Row,φ [.lst r (Fs.map λf=>.tup (f.map Row.d))]=some (.sh (.tup (fs.map Row.d)))/\Canon fs/\kT Fs fs/\fs.length<=m
theorem EH{φ ψ:List D->Option Sl}{K:Nat}(W:∀{a0:D} {Q:Sl->Prop},Wo (ψ [a0]) Q↔Wo (Gl φ [.sh a0,.no]) (aG Q)):vT ψ K 1 K:=λ{V C Fs r} hV hC hF aV hl=>by
 match Fs,aV,hl with
 | [f],_,_ =>
  refine ⟨f,Wo.eq (W.mpr ?_),(hF f (aR ..)).1.canon,λx v=>?_,(hF f (aR ..)).2⟩
  .unfold Gl
   dsimp only [mP]
   walk_at "vc"
   exact λz=>nomatch z
  .exact ⟨λe=>⟨⟨f,aR ..,e⟩,λg hg w hw=>by rw [bQ.mp hg] at hw;rw [e] at hw;cases hw;exact aW _⟩,λ⟨⟨g,hg,e⟩,_⟩=>by rw [bQ.mp hg] at e;exact e⟩
theorem oC{φ ψ:List D->Option Sl}{K n m:Nat}(hn:n<=1000)(hm:8*m<=lE)(XY:K<=6*m)(h:vT φ K n m)(W:∀{a0:D} {Q:Sl->Prop},Wo (ψ [a0]) Q↔Wo (Gl φ [.sh a0,.no]) (aG Q)):vT ψ K (2*n) (6*m):=λ{V C Fs r} hV hC hF aV hl=>by
 by_cases hlen:Fs.length<2
 .have iC:=pj.mpr aV
  obtain ⟨fs,e,c,k,l⟩:=EH W hV hC hF aV (by ext hlen) (r:=r)
  exact ⟨fs,e,c,k,by ext XY l⟩
 .obtain ⟨k,hk⟩:∃k:Nat,(Fs.length:Int)/2=k:=⟨((Fs.length:Int)/2).toNat,by lia⟩
  have wo:1<=k:=by lia
  have oY:k<Fs.length:=by lia
  have nA:Fs.take k≠[]:=p8 (by rw [gz];ext wo oY)
  have nB:Fs.drop k≠[]:=p8 (by rw [lD];ext oY)
  have NH:∀f∈Fs.take k,FV V C f/\f.length<=K:=λf hf=>hF f (qY hf)
  have NG:∀f∈Fs.drop k,FV V C f/\f.length<=K:=λf hf=>hF f (qX hf)
  obtain ⟨A,ea,cA,mA,lA⟩:=h (r:=false) hV hC NH nA (by rw [gz];lia)
  obtain ⟨B,eb,cB,mB,lB⟩:=h (r:=false) hV hC NG nB (by rw [lD];lia)
  have vA:=mA.fv cA λf hf=>(NH f hf).1
  have vB:=mB.fv cB λf hf=>(NG f hf).1
  obtain ⟨fs,ef,cf,lk,lf⟩:=Qj (V:=V) (C:=C) cA.bD cB.bD (vA.row hV hC) (vB.row hV hC) hV (by ext hC) vA.bd vB.bd (by ext hm lA lB)
  have mf:=mA.merge mB lk
  rw [mS] at mf
  refine ⟨fs,Wo.eq (W.mpr ?_),cf,mf,by ext lA lB lf⟩
  unfold Gl
  walk_at "v1"
  refine qf ?_ ?_
  .walk_at "vc"
   rw [aX]
   ext hlen
  walk_at "v1"
  rw [aX,hk,Bm,Bm,Pk _ (by ext oY),Pj _ (by ext oY)]
  walk_at "v1"
  refine ⟨Kp (by decide) (by decide),?_⟩
  rw [ea]
  walk_at "v1"
  rw [eb]
  walk_at "v1"
  rw [ef]
  walk_at "vc"
noncomputable def fl:List (Int×Int)->Int->Int
 | [],_=>0
 | p::L,t=>if t<=p.2 then p.1*t else p.1*p.2+fl L (t-p.2)
noncomputable def gl:List (Int×Int)->Int->Int
 | [],_=>0
 | p::L,l=>p.2*min 0 (p.1-l)+gl L l
noncomputable def tw:List (Int×Int)->Int
 | []=>0
 | p::L=>p.2+tw L
def Wd(L:List (Int×Int)):Prop:=∀p∈L,0<=p.2
theorem Wd.tl{p:Int×Int}{L:List (Int×Int)}(h:Wd (p::L)):0<=p.2/\Wd L:=⟨h p (aR ..),λq hq=>h q (a9 _ hq)⟩
theorem Ef:∀{L:List (Int×Int)},Wd L->0<=tw L
 | [],_=>aW _
 | p::L,h=>by have:=Ef h.tl.2;have:=h.tl.1;unfold tw;lia
theorem Qc{l:Int}:∀{L:List (Int×Int)},(∀p∈L,l<=p.1)->gl L l=0
 | [],_=>rfl
 | p::L,h=>by
  have:=h p (aR ..)
  unfold gl
  rw [Qc λq hq=>h q (a9 _ hq),show min 0 (p.1-l)=0 by ext this]
  simp
def Up(L:List (Int×Int)):Prop:=L.Pairwise λa b=>a.1<=b.1
theorem OY:∀{L:List (Int×Int)},L≠[]->Wd L->Up L->∀{t:Int},0<=t->t<=tw L->∃p∈L,fl L t=p.1*t+gl L p.1
 | [],h,_,_,_,_,_=>(h rfl).elim
 | p::L,_,h,hu,t,h0,h1=>by
  obtain ⟨CO,G8⟩:=dg.mp hu
  have nv:t<=p.2+tw L:=h1
  by_cases ht:t<=p.2
  .refine ⟨p,aR ..,?_⟩
   unfold fl
   rw [if_pos ht,Qc (l:=p.1)]
   .ext
   .intro q hq
    rcases br.mp hq with rfl | hq
    .exact aW _
    .exact CO q hq
  .have hn:L≠[]:=λz=>by subst z;simp [tw] at nv;ext ht nv
   obtain ⟨q,hq,e⟩:=OY hn h.tl.2 G8 (t:=t-p.2) (by ext ht) (by ext nv)
   refine ⟨q,a9 _ hq,?_⟩
   have XO:=CO q hq
   unfold fl gl
   rw [if_neg ht,e,show min 0 (p.1-q.1)=p.1-q.1 by ext XO,AF,AF,AJ p.2 p.1,AJ p.2 q.1]
   ext
noncomputable def cs:List (Int×Int)->Int
 | []=>0
 | p::L=>p.1*p.2+cs L
theorem Kq{L:List (Int×Int)}(h:Wd L):fl L 0=0:=by
 cases L with
 | nil=>rfl
 | cons r P=>unfold fl;rw [if_pos h.tl.1];simp
theorem b7q(L M:List (Int×Int)):tw (L++M)=tw L+tw M:=by
 induction L with
 | nil=>show tw M=0+tw M;ext
 | cons p L ih=>show p.2+tw (L++M)=p.2+tw L+tw M;ext ih
theorem b8J(L M:List (Int×Int)):cs (L++M)=cs L+cs M:=by
 induction L with
 | nil=>show cs M=0+cs M;ext
 | cons p L ih=>show p.1*p.2+cs (L++M)=p.1*p.2+cs L+cs M;ext ih
noncomputable def jL(q:Int×Int)(x p:Int):List Row:=if q.2>0 then [(x+1,x+q.2,p+q.1,q.1)] else []
noncomputable def mk:List (Int×Int)->Int->Int->List Row
 | [],_,_=>[]
 | q::L,x,p=>jL q x p++mk L (x+q.2) (p+q.1*q.2)
theorem PY:∀(L:List (Int×Int)) (q:Int×Int) (x p:Int),mk (L++[q]) x p=mk L x p++jL q (x+tw L) (p+cs L)
 | [],q,x,p=>by show jL q x p++[]=[]++jL q (x+0) (p+0);simp
 | r::L,q,x,p=>by
  show jL r x p++mk (L++[q]) (x+r.2) (p+r.1*r.2)=(jL r x p++mk L (x+r.2) (p+r.1*r.2))++jL q (x+(r.2+tw L)) (p+(r.1*r.2+cs L))
  rw [PY L q,fG,show x+r.2+tw L=x+(r.2+tw L) by ext,show p+r.1*r.2+cs L=p+(r.1*r.2+cs L) by ext]
theorem Qu{A B:List Row}{x c:Int}:Val (A++B) x c↔Val A x c\/Val B x c:=by
 unfold Val
 constructor
 .rintro ⟨r,hr,h⟩
  rcases bU.mp hr with hr | hr
  .exact .inl ⟨r,hr,h⟩
  .exact .inr ⟨r,hr,h⟩
 .rintro (⟨r,hr,h⟩ | ⟨r,hr,h⟩)
  .exact ⟨r,gf _ hr,h⟩
  .exact ⟨r,fF _ hr,h⟩
theorem b6d{q:Int×Int}{x p y c:Int}:Val (jL q x p) y c↔x<y/\y<=x+q.2/\c=p+q.1*(y-x):=by
 unfold jL Val
 have e:∀y,Row.at (x+1,x+q.2,p+q.1,q.1) y=p+q.1*(y-x):=λy=>by
  show p+q.1+q.1*(y-(x+1))=_
  rw [show y-(x+1)=(y-x)-1 by ext,AF,wH]
  ext
 split
 .constructor
  .rintro ⟨r,hr,h1,h2,h3⟩
   rw [bQ.mp hr] at h1 h2 h3
   rw [e] at h3
   dsimp only at h1 h2
   exact ⟨by ext h1,h2,h3⟩
  .rintro ⟨h1,h2,h3⟩
   exact ⟨_,bQ.mpr rfl,by dsimp only;ext h1,h2,by rw [e];exact h3⟩
 .constructor
  .rintro ⟨r,hr,_⟩
   exact absurd hr (gq)
  .rintro ⟨h1,h2,h3⟩
   lia
theorem P1:∀{L:List (Int×Int)},Wd L->∀{x p y c:Int},Val (mk L x p) y c↔x<y/\y<=x+tw L/\c=p+fl L (y-x)
 | [],_,x,p,y,c=>by
  constructor
  .rintro ⟨r,hr,_⟩
   exact absurd hr (gq)
  .rintro ⟨h1,h2,h3⟩
   have:y<=x+0:=h2
   ext _ h1 this
 | q::L,h,x,p,y,c=>by
  have hq:=h.tl.1
  have hP:=Ef h.tl.2
  show Val (jL q x p++mk L (x+q.2) (p+q.1*q.2)) y c↔x<y/\y<=x+(q.2+tw L)/\_
  rw [Qu,b6d,P1 h.tl.2,show fl (q::L) (y-x)=if y-x<=q.2 then q.1*(y-x) else q.1*q.2+fl L (y-x-q.2) from rfl]
  by_cases hy:y-x<=q.2
  .rw [if_pos hy]
   constructor
   .rintro (⟨h1,h2,h3⟩ | ⟨h1,h2,h3⟩)
    .exact ⟨h1,by ext hP hy,h3⟩
    .ext hy h1
   .rintro ⟨h1,h2,h3⟩
    exact .inl ⟨h1,by ext hy,h3⟩
  .rw [if_neg hy,show y-(x+q.2)=y-x-q.2 by ext]
   constructor
   .rintro (⟨h1,h2,h3⟩ | ⟨h1,h2,h3⟩)
    .ext hy h2
    .exact ⟨by ext hq hy,by ext h2,by ext h3⟩
   .rintro ⟨h1,h2,h3⟩
    exact .inr ⟨by ext hy,by ext h2,by ext h3⟩
noncomputable def Sh:List (List Row)->Int->Int->Prop
 | [],x,c=>x=0/\c=0
 | F::Fs,x,c=>∃y cy z cz,Val F y cy/\Sh Fs z cz/\y+z=x/\cy+cz=c
def Jn(Fs:List (List Row))(x c:Int):Prop:=Sh Fs x c/\∀c',Sh Fs x c'->c<=c'
noncomputable def St:List (Int×Int)->Int->Int->Prop
 | [],t,k=>t=0/\k=0
 | q::L,t,k=>∃a u v,(0<=a/\a<=q.2)/\St L u v/\a+u=t/\q.1*a+v=k
theorem St.gp:∀{L:List (Int×Int)} {t k:Int},St L t k->0<=t/\t<=tw L
 | [],t,k,h=>by unfold tw;have:=h.1;ext this
 | q::L,t,k,⟨a,u,v,ha,h,e,_⟩=>by have:=St.gp h;unfold tw;ext ha e this
theorem St.ge:∀{L:List (Int×Int)} {t k:Int},St L t k->∀l,l*t+gl L l<=k
 | [],t,k,⟨h1,h2⟩,l=>by subst h1 h2;unfold gl;simp
 | q::L,t,k,⟨a,u,v,ha,h,e1,e2⟩,l=>by
  have i:=St.ge h l
  subst e1 e2
  unfold gl
  have m:q.2*min 0 (q.1-l)<=(q.1-l)*a:=by
   by_cases hs:0<=q.1-l
   .rw [Int.min_eq_left hs,wB]
    exact oq hs ha.1
   .rw [Int.min_eq_right (by ext hs),AJ]
    exact OK (by ext hs) ha.2
  rw [wG]
  rw [nF] at m
  ext i m
theorem St.fl:∀{L:List (Int×Int)},Wd L->∀{t:Int},0<=t->t<=tw L->St L t (fl L t)
 | [],_,t,h0,h1=>⟨by unfold tw at h1;ext h0 h1,rfl⟩
 | q::L,h,t,h0,h1=>by
  obtain ⟨hq,hL⟩:=h.tl
  unfold My.fl
  unfold tw at h1
  by_cases ht:t<=q.2
  .rw [if_pos ht]
   have:=St.fl hL (t:=0) (aW _) (Ef hL)
   rw [Kq hL] at this
   exact ⟨t,0,0,⟨h0,ht⟩,this,by ext,by ext⟩
  .rw [if_neg ht]
   exact ⟨q.2,t-q.2,_,⟨hq,aW _⟩,St.fl hL (by ext ht) (by ext h1),by ext,rfl⟩
theorem St.perm{L M:List (Int×Int)}(h:L.Perm M):∀{t k:Int},St L t k->St M t k:=by
 induction h with
 | nil=>exact id
 | cons q _ ih=>rintro t k ⟨a,u,v,ha,h,e1,e2⟩;exact ⟨a,u,v,ha,ih h,e1,e2⟩
 | swap q p L =>
  rintro t k ⟨a,u,v,ha,⟨b,u',v',hb,h,rfl,rfl⟩,rfl,rfl⟩
  exact ⟨b,a+u',p.1*a+v',hb,⟨a,u',v',ha,h,rfl,rfl⟩,by ext,by ext⟩
 | trans _ _ i1 i2=>intro t k h;exact i2 (i1 h)
theorem St.least{L:List (Int×Int)}(hn:L≠[])(hw:Wd L)(hu:Up L){t k:Int}(h:St L t k):My.fl L t<=k:=by
 obtain ⟨d1,d2⟩:=h.gp
 obtain ⟨p,_,e⟩:=OY hn hw hu d1 d2
 have:=h.ge p.1
 ext e this
noncomputable def tQ(r:Row):Int:=r.2.1-r.1
noncomputable def pk(r:Row):Int×Int:=(r.2.2.2,tQ r)
noncomputable def X0(R:List Row):Int:=(R.map λr=>r.1).sum
noncomputable def P0(R:List Row):Int:=(R.map λr=>r.2.2.1).sum
noncomputable def one(R:List Row):List (List Row):=R.map λr=>[r]
theorem fT:∀{R:List Row} {x c:Int},Sh (one R) x c↔St (R.map pk) (x-X0 R) (c-P0 R)
 | [],x,c=>by unfold one X0 P0;simp [Sh,St]
 | r::R,x,c=>by
  have ih:=@fT R
  constructor
  .rintro ⟨y,cy,z,cz,⟨q,hq,h1,h2,h3⟩,h,e1,e2⟩
   rw [bQ.mp hq] at h1 h2 h3
   refine ⟨y-r.1,z-X0 R,cz-P0 R,⟨by ext h1,by show _<=tQ r;unfold tQ;ext h2⟩,ih.mp h,?_,?_⟩
   .unfold X0;rw [fo,oj];ext e1
   .unfold P0;rw [fo,oj]
    show r.2.2.2*(y-r.1)+_=_
    unfold Row.at at h3
    ext h3 e2
  .rintro ⟨a,u,v,ha,h,e1,e2⟩
   have C6:a<=tQ r:=ha.2
   unfold tQ at C6
   unfold X0 at e1
   unfold P0 at e2
   rw [fo,oj] at e1 e2
   refine ⟨r.1+a,r.2.2.1+r.2.2.2*a,X0 R+u,P0 R+v,⟨r,bQ.mpr rfl,by ext ha,by ext C6,?_⟩,ih.mpr ?_,?_,?_⟩
   .unfold Row.at
    rw [show r.1+a-r.1=a by ext]
   .rw [show X0 R+u-X0 R=u by ext,show P0 R+v-P0 R=v by ext];exact h
   .unfold X0;ext e1
   .unfold P0
    have e2:r.2.2.2*a+v=c-(r.2.2.1+(R.map λr=>r.2.2.1).sum):=e2
    ext e2
noncomputable def prod:List (List Row)->List (List Row)
 | []=>[[]]
 | F::Fs=>F.flatMap λr=>(prod Fs).map λR=>r::R
theorem cD:∀{Fs:List (List Row)} {x c:Int},Sh Fs x c↔∃R∈prod Fs,Sh (one R) x c
 | [],x,c=>by unfold prod;simp [one,Sh]
 | F::Fs,x,c=>by
  constructor
  .rintro ⟨y,cy,z,cz,⟨r,hr,h1,h2,h3⟩,h,e1,e2⟩
   obtain ⟨R,hR,k⟩:=cD.mp h
   exact ⟨r::R,iH.mpr ⟨r,hr,cS.mpr ⟨R,hR,rfl⟩⟩,y,cy,z,cz,⟨r,bQ.mpr rfl,h1,h2,h3⟩,k,e1,e2⟩
  .rintro ⟨S,hS,k⟩
   obtain ⟨r,hr,hS⟩:=iH.mp hS
   obtain ⟨R,hR,rfl⟩:=cS.mp hS
   obtain ⟨y,cy,z,cz,⟨q,hq,h1,h2,h3⟩,h,e1,e2⟩:=k
   rw [bQ.mp hq] at h1 h2 h3
   exact ⟨y,cy,z,cz,⟨r,hr,h1,h2,h3⟩,cD.mpr ⟨R,hR,h⟩,e1,e2⟩
theorem KU:∀{Fs:List (List Row)} {R:List Row},R∈prod Fs->R.length=Fs.length/\∀r∈R,∃F∈Fs,r∈F
 | [],R,h=>by
  rw [bQ.mp h]
  exact ⟨rfl,λr z=>nomatch z⟩
 | F::Fs,S,h=>by
  obtain ⟨r,hr,hS⟩:=iH.mp h
  obtain ⟨R,hR,rfl⟩:=cS.mp hS
  obtain ⟨i1,i2⟩:=KU hR
  refine ⟨by simp [i1],λq hq=>?_⟩
  rcases br.mp hq with rfl | hq
  .exact ⟨F,aR ..,hr⟩
  .obtain ⟨G,hG,k⟩:=i2 q hq
   exact ⟨G,a9 _ hG,k⟩
theorem b6i{Fs:List (List Row)}{φ:List Row->List Row}{f:List Row}(hp:∀R∈prod Fs,∀x c,look (φ R) x=some c↔Jn (one R) x c)(hx:∀R∈prod Fs,∀x c,Sh (one R) x c->∃m,Jn (one R) x m)
  (hm:∀x v,look f x=some v↔(∃R∈prod Fs,look (φ R) x=some v)/\∀R∈prod Fs,∀w,look (φ R) x=some w->v<=w)(x c:Int):look f x=some c↔Jn Fs x c:=by
 rw [hm]
 constructor
 .rintro ⟨⟨R,hR,e⟩,m⟩
  refine ⟨cD.mpr ⟨R,hR,((hp R hR x c).mp e).1⟩,λc' h'=>?_⟩
  obtain ⟨S,hS,k⟩:=cD.mp h'
  obtain ⟨v,hv⟩:=hx S hS x c' k
  have:=m S hS v ((hp S hS x v).mpr hv)
  have:=hv.2 c' k
  lia
 .rintro ⟨h,m⟩
  obtain ⟨R,hR,k⟩:=cD.mp h
  refine ⟨⟨R,hR,(hp R hR x c).mpr ⟨k,λc' h'=>m c' (cD.mpr ⟨R,hR,h'⟩)⟩⟩,λS hS w e=>m w (cD.mpr ⟨S,hS,((hp S hS x w).mp e).1⟩)⟩
def Ce(q:Int×Int):Prop:=(-(2*10^130)<=q.1/\q.1<=2*10^130)/\(0<=q.2/\q.2<=2*10^60)/\(-(2*10^130)<=q.1*q.2/\q.1*q.2<=2*10^130)
def SW(L:List (Int×Int)):Prop:=∀q∈L,Ce q
theorem SW.wd{L:List (Int×Int)}(h:SW L):Wd L:=λq hq=>(h q hq).2.1.1
theorem SW.tl{p:Int×Int}{L:List (Int×Int)}(h:SW (p::L)):Ce p/\SW L:=⟨h p (aR ..),λq hq=>h q (a9 _ hq)⟩
theorem JD:∀{L:List (Int×Int)},SW L->0<=tw L/\tw L<=L.length*(2*10^60)
 | [],_=>by show 0<=(0:Int)/\(0:Int)<=_;simp
 | p::L,h=>by
  have:=JD h.tl.2
  have hq:=h.tl.1
  unfold Ce at hq
  show 0<=p.2+tw L/\p.2+tw L<=((L.length+1:Nat):Int)*(2*10^60)
  omega
theorem xl:∀{L:List (Int×Int)},SW L->∀{x p:Int} {r:Row},r∈mk L x p->(x<r.1/\r.1<=r.2.1/\r.2.1<=x+tw L)/\(-(L.length*(2*10^130))<=r.2.2.1-p/\r.2.2.1-p<=L.length*(2*10^130))/\(-(2*10^130)<=r.2.2.2/\r.2.2.2<=2*10^130)
 | [],_,x,p,r,hr=>absurd hr gq
 | q::L,h,x,p,r,hr=>by
  have hq:=h.tl.1
  unfold Ce at hq
  have hP:=(JD h.tl.2).1
  have hm:=hq.2.2
  show _/\(-(((L.length+1:Nat):Int)*(2*10^130))<=_/\_<=((L.length+1:Nat):Int)*(2*10^130))/\_
  rw [show tw (q::L)=q.2+tw L from rfl]
  rcases bU.mp (show r∈jL q x p++mk L (x+q.2) (p+q.1*q.2) from hr) with hr | hr
  .unfold jL at hr
   split at hr
   .rw [bQ.mp hr]
    dsimp only
    omega
   .exact absurd hr gq
  .have:=xl h.tl.2 hr
   generalize q.1*q.2=z at *
   omega
theorem PZ:∀{L:List (Int×Int)},SW L->∀(x p:Int),bK (mk L x p)
 | [],_,x,p=>⟨λ_ z=>absurd z gq,.nil⟩
 | q::L,h,x,p=>by
  refine ⟨λr hr=>(xl h hr).1.2.1,?_⟩
  show (jL q x p++mk L (x+q.2) (p+q.1*q.2)).Pairwise _
  refine gr.mpr ⟨?_,(PZ h.tl.2 _ _).2,λa ha b hb=>?_⟩
  .unfold jL
   split
   .exact p7 _ _
   .exact .nil
  .have:=(xl h.tl.2 hb).1.1
   unfold jL at ha
   split at ha
   .rw [bQ.mp ha]
    exact this
   .exact absurd ha gq
noncomputable def r8(L:List (Int×Int))(x p:Int):List Row:=(x,x,p,0)::mk L x p
theorem b6c{L:List (Int×Int)}(h:SW L)(x p:Int):bK (r8 L x p):=by
 refine ⟨λr hr=>?_,dg.mpr ⟨λr hr=>(xl h hr).1.1,(PZ h x p).2⟩⟩
 rcases br.mp hr with rfl | hr
 .exact aW _
 .exact (xl h hr).1.2.1
theorem b6b{L:List (Int×Int)}(h:Wd L){x p y c:Int}:Val (r8 L x p) y c↔x<=y/\y<=x+tw L/\c=p+fl L (y-x):=by
 have hP:=Ef h
 rw [show r8 L x p=[(x,x,p,0)]++mk L x p from rfl,Qu,P1 h]
 have e:Val [(x,x,p,0)] y c↔y=x/\c=p:=by
  unfold Val
  constructor
  .rintro ⟨r,hr,h1,h2,h3⟩
   rw [bQ.mp hr] at h1 h2 h3
   unfold Row.at at h3
   dsimp only at h1 h2 h3
   exact ⟨by ext h1 h2,by ext h3⟩
  .rintro ⟨rfl,rfl⟩
   exact ⟨_,bQ.mpr rfl,aW _,aW _,by unfold Row.at;simp⟩
 rw [e]
 constructor
 .rintro (⟨rfl,rfl⟩ | ⟨h1,h2,h3⟩)
  .refine ⟨aW _,by ext hP,?_⟩
   rw [wC,Kq h]
   ext
  .exact ⟨by ext h1,h2,h3⟩
 .rintro ⟨h1,h2,h3⟩
  by_cases hy:y=x
  .subst hy
   rw [wC,Kq h] at h3
   exact .inl ⟨rfl,by ext h3⟩
  .exact .inr ⟨by ext h1 hy,h2,h3⟩
theorem b4l(r:Row):tG [r.d]=some (.sh (.int r.2.2.2)):=by
 refine Wo.eq (nP.mpr ?_)
 unfold Lj
 rw [cP]
 walk_at "vc"
def PB(r:Row):Prop:=r.1<=r.2.1/\(-(10^60)<=r.1/\r.2.1<=10^60)/\(-(10^130)<=r.2.2.1/\r.2.2.1<=10^130)/\(-(10^130)<=r.at r.2.1/\r.at r.2.1<=10^130)/\(-(2*10^130)<=r.2.2.2/\r.2.2.2<=2*10^130)
theorem QK:∀(R:List Row),j6 tG (R.map Row.d)=some (R.map λr=>r.2.2.2)
 | []=>rfl
 | r::R=>by
  show (match tG [r.d] with | some (.sh (.int k))=>(j6 tG (R.map Row.d)).map λks=>k::ks | _=>none)=_
  rw [b4l,QK R]
  rfl
noncomputable def fj(R:List Row):List Row:=cc (R.map λr=>r.2.2.2) (0,0,0,0) R
theorem yq(R:List Row):cc (R.map λr=>r.2.2.2) D.bz (R.map Row.d)=(fj R).map Row.d:=by
 unfold fj cc
 rw [aX]
 by_cases h2:R.length<2
 .rw [if_pos h2,if_pos h2]
 rw [if_neg h2,if_neg h2,fM]
 refine IZ λi hi=>?_
 have hi:i<R.length:=sN.mp ((KS.dN (λi=>(R.map λr=>r.2.2.2).getD i 0) R.length (by ext h2)).1.mem_iff.mp hi)
 simp [hi]
theorem Bx(R:List Row):(fj R).Perm R:=Lc _ _ R
theorem b7A(R:List Row):Up ((fj R).map pk):=by
 unfold fj cc Up
 by_cases h2:R.length<2
 .rw [if_pos h2]
  cases R with
  | nil=>exact .nil
  | cons a t =>
   cases t with
   | nil=>exact p7 _ _
   | cons b t=>simp at h2;ext _ h2
 rw [if_neg h2,fM,pW]
 have S:=KS.dN (λi=>(R.map λr=>r.2.2.2).getD i 0) R.length (by ext h2)
 refine List.Pairwise.imp_of_mem (λ{i j} hi hj h=>?_) S.2
 have hi:i<R.length:=sN.mp (S.1.mem_iff.mp hi)
 have hj:j<R.length:=sN.mp (S.1.mem_iff.mp hj)
 simp [hi,hj] at h
 simpa [pk,hi,hj] using h
theorem PB.sw{R:List Row}(h:∀r∈R,PB r):SW (R.map pk):=λq hq=>by
 obtain ⟨r,hr,rfl⟩:=cS.mp hq
 have:=h r hr
 unfold PB at this
 unfold Ce pk tQ
 dsimp only
 unfold Row.at at this
 ext this
theorem O9:∀{R:List Row},(∀r∈R,PB r)->(-(R.length*10^60)<=X0 R/\X0 R<=R.length*10^60)/\(-(R.length*10^130)<=P0 R/\P0 R<=R.length*10^130)
 | [],_=>by simp [X0,P0]
 | r::R,h=>by
  have ih:=O9 λq hq=>h q (a9 _ hq)
  have:=h r (aR ..)
  unfold PB at this
  unfold X0 P0 at *
  simp only [fo,oj,gy]
  omega
theorem b75{L:List (Int×Int)}(h:SW L)(hl:L.length<=6){x p:Int}(hx:-(10^62)<=x/\x<=10^62)(hp:-(10^132)<=p/\p<=10^132):∀r∈r8 L x p,aq (10^180) r:=λr hr=>by
 have ht:=JD h
 unfold aq
 rcases br.mp hr with rfl | hr
 .dsimp only
  ext hx hp
 .have:=xl h hr
  omega
theorem Ep:∀(L:List (Int×Int)) (x p:Int),(mk L x p).length<=L.length
 | [],_,_=>bp _
 | q::L,x,p=>by
  have:=Ep L (x+q.2) (p+q.1*q.2)
  show (jL q x p++mk L (x+q.2) (p+q.1*q.2)).length<=L.length+1
  rw [cO]
  unfold jL
  split<;>simp<;>ext this
theorem b8y{R:List Row}(h:∀r∈R,PB r)(h6:R.length<=6){ro:Bool}:∃fs:List Row,vy [.lst ro (R.map Row.d)]=some (.sh (.tup (fs.map Row.d)))/\Laid (r8 ((fj R).map pk) (X0 R) (P0 R)) fs:=by
 have hs:∀r∈fj R,PB r:=λr hr=>h r ((Bx R).mem_iff.mp hr)
 have hS:=PB.sw hs
 have j8:(fj R).length=R.length:=(Bx R).length_eq
 have hx:=O9 h
 obtain ⟨fs,ef,LD⟩:=vn (b6c hS (X0 R) (P0 R)) (b75 hS (by rw [aX];ext h6 j8) (by lia) (by lia)) (by
  have:=Ep ((fj R).map pk) (X0 R) (P0 R)
  rw [aX] at this
  show _+1<=_
  ext h6 j8 this) (ro:=false)
 refine ⟨fs,?_,LD⟩
 refine Wo.eq (pO.mpr ?_)
 unfold KC
 walk_at "v1"
 rw [pG Row.d (λr=>.int r.1) (λe=>∃x0,e=[x0]) R (λr hr e he=>?_) ⟨_,rfl⟩]
 .rw [show R.map (λr=>D.int r.1)=(R.map λr=>r.1).map D.int by rw [fM];rfl]
  walk_at "v1"
  refine ⟨by rw [aX];ext h6,by rw [aX];ext h6,?_⟩
  rw [pG Row.d (λr=>.int r.2.2.1) (λe=>∃x0,e=[x0]) R (λr hr e he=>?_) ⟨_,rfl⟩]
  .rw [show R.map (λr=>D.int r.2.2.1)=(R.map λr=>r.2.2.1).map D.int by rw [fM];rfl]
   walk_at "v1"
   rw [b2Y (r:=ro) (ds:=R.map Row.d) (by rfl) (QK R) (by rw [aX];ext h6),yq R]
   walk_at "v1"
   rw [show (R.map λr=>r.1).sum=X0 R from rfl,show (R.map λr=>r.2.2.1).sum=P0 R from rfl]
   refine mq Row.d (λpre env=>∃x4 x5,env=[.sh (.lst ro (R.map Row.d)),.sh (.int (X0 R+tw (pre.map pk))),.sh (.int (P0 R+cs (pre.map pk))),.ow ((r8 (pre.map pk) (X0 R) (P0 R)).map Row.d),x4,x5]) (fj R) (λpre r post env e hI=>?_) (λenv hI=>?_) ⟨.no,.no,?_⟩
   .obtain ⟨x4,x5,rfl⟩:=hI
    have hr:=hs r (by rw [e];simp)
    have dB:pre.length<=6:=by rw [<-j8,e,cO] at h6;ext h6
    have Nq:=Ep (pre.map pk) (X0 R) (P0 R)
    rw [aX] at Nq
    unfold PB at hr
    have hm:MulC r.2.2.2 (r.2.1-r.1):=tB (by ext hr) (by ext hr) (by ext hr) (by ext hr)
    rw [cP]
    walk_at "v1"
    rw [ej,IY,b7q,b8J]
    unfold r8
    rw [PY]
    generalize hM:mk (pre.map pk) (X0 R) (P0 R)=M at *
    generalize tw (pre.map pk)=T at *
    generalize cs (pre.map pk)=C at *
    rw [show tw [pk r]=r.2.1-r.1 by show (r.2.1-r.1)+0=_;ext,show cs [pk r]=r.2.2.2*(r.2.1-r.1) by show r.2.2.2*(r.2.1-r.1)+0=_;ext]
    unfold jL pk tQ
    dsimp only
    generalize hW:r.2.1-r.1=W at *
    refine Wo.mono (P:=λq=>q=(.nx,[.sh (.lst ro (R.map Row.d)),.sh (.int (X0 R+T)),.sh (.int (P0 R+C)),.ow (((X0 R,X0 R,P0 R,0)::(M++if W>0 then [(X0 R+T+1,X0 R+T+W,P0 R+C+r.2.2.2,r.2.2.2)] else [])).map Row.d),.sh r.d,.sh (.int W)])) ?_ λq hq=>?_
    .rw [a3e,cP r]
     walk_at "vc"
     refine ⟨λh=>?_,λh=>?_⟩
     .rw [if_pos h]
      refine ⟨by rw [aX,gy];ext dB Nq,?_⟩
      rw [<-List.cons_append,ej (l₂:=[(X0 R+T+1,X0 R+T+W,P0 R+C+r.2.2.2,r.2.2.2)])]
      rfl
     .rw [if_neg h,mQ]
    subst hq
    rw [cP r]
    walk_at "vc"
    rw [show X0 R+(T+W)=X0 R+T+W by ext,show P0 R+(C+r.2.2.2*W)=P0 R+C+r.2.2.2*W by ext]
    exact ⟨hm,_,_,rfl⟩
   .obtain ⟨x4,x5,rfl⟩:=hI
    walk_at "v1"
    rw [JK,Jx (by rfl)]
    walk_at "v1"
    rw [ef]
    walk_at "vc"
   .show _=[_,Sl.sh (D.int (X0 R+0)),Sl.sh (D.int (P0 R+0)),Sl.ow [Row.d (X0 R,X0 R,P0 R,0)],_,_]
    rw [wA,wA]
    rfl
  .obtain ⟨x0,rfl⟩:=he
   rw [cP]
   walk_at "vc"
   exact ⟨_,rfl⟩
 .obtain ⟨x0,rfl⟩:=he
  rw [cP]
  walk_at "vc"
  exact ⟨_,rfl⟩
theorem yN{r:Row}(h:PB r){y:Int}(h1:r.1<=y)(h2:y<=r.2.1):-(10^130)<=r.at y/\r.at y<=10^130:=by
 unfold PB at h
 unfold Row.at at *
 by_cases hs:0<=r.2.2.2
 .have:=oq hs (show 0<=y-r.1 by ext h1)
  have:=oq hs (show 0<=r.2.1-y by ext h2)
  simp only [AF] at *
  omega
 .have:=oq (show 0 <= -r.2.2.2 by ext hs) (show 0<=y-r.1 by ext h1)
  have:=oq (show 0 <= -r.2.2.2 by ext hs) (show 0<=r.2.1-y by ext h2)
  simp only [Ip,AF] at *
  omega
theorem Pc:∀{R:List Row},(∀r∈R,PB r)->∀{x c:Int},Sh (one R) x c->(-(R.length*10^60)<=x/\x<=R.length*10^60)/\(-(R.length*10^130)<=c/\c<=R.length*10^130)
 | [],_,x,c,h=>by
  obtain ⟨rfl,rfl⟩:=h
  simp
 | r::R,hb,x,c,⟨y,cy,z,cz,⟨q,hq,k1,k2,k3⟩,h,e1,e2⟩=>by
  have i:=Pc (λq hq=>hb q (a9 _ hq)) h
  have hr:=hb r (aR ..)
  rw [bQ.mp hq] at k1 k2 k3
  have a:=yN hr k1 k2
  unfold PB at hr
  rw [gy]
  omega
theorem b6D{R:List Row}(h:∀r∈R,PB r)(h6:R.length<=6){ro:Bool}:∃fs:List Row,vy [.lst ro (R.map Row.d)]=some (.sh (.tup (fs.map Row.d)))/\Canon fs/\fs.length<=R.length+1/\(∀x c,look fs x=some c↔Jn (one R) x c)/\∀x c,Sh (one R) x c->∃m,Jn (one R) x m:=by
 obtain ⟨fs,ef,LD⟩:=b8y h h6 (ro:=ro)
 have hs:∀r∈fj R,PB r:=λr hr=>h r ((Bx R).mem_iff.mp hr)
 have hS:=PB.sw hs
 have j8:(fj R).length=R.length:=(Bx R).length_eq
 have lst:∀{t k:Int},St ((fj R).map pk) t k->fl ((fj R).map pk) t<=k:=λ{t k} hk=>by
  by_cases aV:(fj R).map pk=[]
  .rw [aV] at hk ⊢
   obtain ⟨_,rfl⟩:=hk
   exact aW _
  .exact hk.least aV hS.wd (b7A R)
 have hp:((fj R).map pk).Perm (R.map pk):=(Bx R).map pk
 have j:∀x c,Jn (one R) x c↔X0 R<=x/\x<=X0 R+tw ((fj R).map pk)/\c=P0 R+fl ((fj R).map pk) (x-X0 R):=λx c=>by
  constructor
  .rintro ⟨k,m⟩
   have k':=(fT.mp k).perm hp.symm
   have d:=k'.gp
   have f:=St.fl hS.wd d.1 d.2
   have:=m (P0 R+fl ((fj R).map pk) (x-X0 R)) (fT.mpr (by rw [show P0 R+fl ((fj R).map pk) (x-X0 R)-P0 R=fl ((fj R).map pk) (x-X0 R) by ext];exact f.perm hp))
   have:=lst k'
   exact ⟨by ext d,by ext d,by lia⟩
  .rintro ⟨k1,k2,rfl⟩
   refine ⟨fT.mpr (by rw [show P0 R+fl ((fj R).map pk) (x-X0 R)-P0 R=fl ((fj R).map pk) (x-X0 R) by ext];exact (St.fl hS.wd (by ext k1) (by ext k2)).perm hp),λc' k=>?_⟩
   have:=lst ((fT.mp k).perm hp.symm)
   ext this
 refine ⟨fs,ef,LD.canon,?_,λx c=>?_,λx c k=>?_⟩
 .have:=LD.len
  have l2:=Ep ((fj R).map pk) (X0 R) (P0 R)
  rw [aX] at l2
  have l3:(r8 ((fj R).map pk) (X0 R) (P0 R)).length=(mk ((fj R).map pk) (X0 R) (P0 R)).length+1:=rfl
  ext j8 this l2 l3
 .rw [iK LD.canon.bD,LD.val,b6b hS.wd,j]
 .have d:=((fT.mp k).perm hp.symm).gp
  exact ⟨_,(j x _).mpr ⟨by ext d,by ext d,rfl⟩⟩
theorem A7{i:Nat}{m n:Int}{f:En->Option Sl}{env:En}{Q:Fl×En->Prop}(e1:env[i]?=some (.sh (.int m)))(e2:f env=some (.sh (.int n)))(hc:kX m n)(h:Q (.nx,env.set i (.sh (.int (m*n))))):Wo (Eb i f env) Q:=
 ⟨_,by unfold Eb Ea;rw [e1];dsimp only;rw [e2];dsimp only;rw [if_pos hc],h⟩
noncomputable def gm(R:List Row):D:=.lst false (R.map Row.d)
noncomputable def dI(F:List Row):D:=.tup (F.map Row.d)
noncomputable def np(Fs:List (List Row)):Nat:=(Fs.map mi).foldl (·*·) 1
theorem Ka(Fs:List (List Row))(F:List Row):np (Fs++[F])=np Fs*F.length:=by
 unfold np;rw [ej,Ja];rfl
theorem Qk{Fs:List (List Row)}(h:∀F∈Fs,F.length<=900000){ro:Bool}:xU [.lst ro (Fs.map dI)]=some (.sh (.int (np Fs))):=by
 refine Wo.eq (f'.mpr ?_)
 unfold Mv
 walk_at "v1"
 refine mq dI (λpre env=>∃x2,env=[.sh (.lst ro (Fs.map dI)),.sh (.int (np pre)),x2]) Fs (λpre F post env e hI=>?_) (λenv hI=>?_) ⟨_,rfl⟩
 .obtain ⟨x2,rfl⟩:=hI
  have hF:=h F (by rw [e];simp)
  rw [show dI F=.tup (F.map Row.d) from rfl]
  walk_at "v1"
  refine A7 (m:=np pre) (n:=F.length) rfl (by show some (Sl.sh (.int ((F.map Row.d).length:Int)))=_;rw [aX]) (.inr ⟨by ext,by ext hF⟩) ?_
  rw [Ka,Int.natCast_mul]
  exact ⟨_,rfl⟩
 .obtain ⟨x2,rfl⟩:=hI
  walk_at "vc"
noncomputable def nY(W:List (List Row))(F:List Row):List (List Row):=W.flatMap λR=>F.map λr=>R++[r]
noncomputable def k0(Fs:List (List Row)):List (List Row):=Fs.foldl nY [[]]
theorem b3v(Fs:List (List Row))(F:List Row):k0 (Fs++[F])=nY (k0 Fs) F:=by
 unfold k0;rw [Ja];rfl
theorem b3w(W:List (List Row))(R F:List Row):nY (W++[R]) F=nY W F++F.map λr=>R++[r]:=by
 unfold nY
 rw [DS]
 simp
theorem EM(F:List Row):∀W:List (List Row),(nY W F).length=W.length*F.length
 | []=>by unfold nY;simp
 | R::W=>by
  have:=EM F W
  unfold nY at *
  rw [q8,cO,this,aX,gy,Nat.add_mul]
  ext
theorem PH:∀{Fs:List (List Row)} {W:List (List Row)} {R:List Row},R∈Fs.foldl nY W↔∃A∈W,∃B∈prod Fs,R=A++B
 | [],W,R=>by
  unfold prod
  simp
 | F::Fs,W,R=>by
  rw [wO,PH]
  constructor
  .rintro ⟨A,hA,B,hB,rfl⟩
   obtain ⟨C,hC,hA⟩:=iH.mp hA
   obtain ⟨r,hr,rfl⟩:=cS.mp hA
   exact ⟨C,hC,r::B,iH.mpr ⟨r,hr,cS.mpr ⟨B,hB,rfl⟩⟩,by simp⟩
  .rintro ⟨A,hA,B,hB,rfl⟩
   obtain ⟨r,hr,hB⟩:=iH.mp hB
   obtain ⟨C,hC,rfl⟩:=cS.mp hB
   exact ⟨A++[r],iH.mpr ⟨A,hA,cS.mpr ⟨r,hr,rfl⟩⟩,C,hC,by simp⟩
theorem cW{Fs:List (List Row)}{R:List Row}:R∈k0 Fs↔R∈prod Fs:=by
 unfold k0
 rw [PH]
 constructor
 .rintro ⟨A,hA,B,hB,rfl⟩
  rw [bQ.mp hA]
  exact hB
 .intro h
  exact ⟨[],bQ.mpr rfl,R,h,rfl⟩
theorem Lm:∀(l:List Nat) (a:Nat),l.foldl (·*·) a=a*l.foldl (·*·) 1
 | [],a=>by simp
 | x::l,a=>by
  rw [wO,wO,Lm l (a*x),Lm l (1*x),Nat.one_mul,IJ]
theorem Er(A B:List (List Row)):np (A++B)=np A*np B:=by
 unfold np
 rw [ej,Ja,Lm]
theorem b4n{Fs:List (List Row)}(sx:Fs.length<=100)(hp:np Fs<=100)(h0:np Fs≠0){ro:Bool}:xD [.lst ro (Fs.map dI)]=some (.sh (.lst false ((k0 Fs).map gm)))/\(k0 Fs).length=np Fs:=by
 have oO:∀{pre post:List (List Row)},Fs=pre++post->np pre<=100/\np pre≠0:=λ{pre post} e=>by
  rw [e,Er] at hp h0
  have a:np pre≠0:=λz=>h0 (by rw [z,Nat.zero_mul])
  have b:np post≠0:=λz=>h0 (by rw [z,Nat.mul_zero])
  exact ⟨fm (Nat.le_mul_of_pos_right _ (by ext b)) hp,a⟩
 have one_le:∀{pre post:List (List Row)} {F:List Row},Fs=pre++F::post->np pre*F.length<=100/\F.length<=100:=λ{pre post F} e=>by
  have e':Fs=(pre++[F])++post:=by rw [e];simp
  have k:=oO e'
  rw [Ka] at k
  refine ⟨k.1,fm (Nat.le_mul_of_pos_left _ ?_) k.1⟩
  have:=(oO e).2
  ext this
 have hlen:∀F∈Fs,F.length<=900000:=λF hF=>by
  obtain ⟨pre,post,e⟩:=OF hF
  have:=(one_le e).2
  ext this
 have pl:∀{pre post:List (List Row)},Fs=pre++post->(k0 pre).length=np pre:=λ{pre}=>by
  intro post _
  have key:∀(l:List (List Row)) (W:List (List Row)),(l.foldl nY W).length=W.length*np l:=λl=>by
   induction l with
   | nil=>intro W;unfold np;simp
   | cons F l ih =>
    intro W
    rw [wO,ih,EM,IJ,show F::l=[F]++l from rfl,Er,show np [F]=F.length by unfold np;simp]
  unfold k0
  rw [key]
  simp
 have em:=Qk hlen (ro:=ro)
 refine ⟨?_,pl (pre:=Fs) (post:=[]) (by simp)⟩
 refine Wo.eq (mX.mpr ?_)
 unfold EC
 walk_at "v1"
 refine qf ?_ ?_
 .walk_at "vc"
  rw [em]
  walk_at "vc"
  ext hp
 walk_at "v1"
 refine qf ?_ ?_
 .walk_at "vc"
  rw [em]
  walk_at "vc"
  ext h0
 walk_at "v1"
 refine mq dI (λpre env=>∃x2 x3 x4,env=[.sh (.lst ro (Fs.map dI)),.sh (.lst false ((k0 pre).map gm)),x2,x3,x4]) Fs (λpre F post env e hI=>?_) (λenv hI=>?_) ⟨_,_,_,rfl⟩
 .obtain ⟨x2,x3,x4,rfl⟩:=hI
  have k1:=one_le e
  have k2:=pl e
  rw [show dI F=.tup (F.map Row.d) from rfl]
  walk_at "v1"
  refine mq gm (λW env=>∃x4,env=[.sh (.lst ro (Fs.map dI)),.sh (.lst false ((k0 pre).map gm)),.sh (.tup (F.map Row.d)),.ow ((nY W F).map gm),x4]) (k0 pre) (λW R MT env e' h=>?_) (λenv h=>?_) ⟨_,rfl⟩
  .obtain ⟨x4,rfl⟩:=h
   have hW:=EM F W
   have Yn:W.length<=np pre:=by rw [<-k2,e',cO];ext
   have Ym:W.length*F.length<=np pre*F.length:=Nat.mul_le_mul_right _ Yn
   rw [show gm R=.lst false (R.map Row.d) from rfl]
   walk_at "v1"
   rw [pG Row.d (λr=>gm (R++[r])) (λe=>∃x0,e=[x0,.sh (.lst false (R.map Row.d))]) F (λr hr e he=>?_) ⟨_,rfl⟩]
   .rw [aX,a0i]
    walk_at "v1"
    refine ⟨by ext k1,by rw [aX,aX,hW];ext k1 Ym,_,by rw [b3w,ej,fM];rfl⟩
   .obtain ⟨x0,rfl⟩:=he
    walk_at "vc"
    have hR:R.length=pre.length:=(KU (cW.mp (by rw [e'];simp))).1
    have:=congrArg mi e
    rw [cO] at this
    refine ⟨⟨_,rfl⟩,by rw [aX];lia,?_⟩
    unfold gm
    rw [ej]
    rfl
  .obtain ⟨x4,rfl⟩:=h
   rw [a9o,JK,Jx (by rfl)]
   walk_at "vc"
   rw [<-b3v]
   exact ⟨_,_,_,rfl⟩
 .obtain ⟨x2,x3,x4,rfl⟩:=hI
  walk_at "vc"
theorem FV.pb{f:List Row}(h:FV (10^60) (10^130) f):∀r∈f,PB r:=λr hr=>by
 have k:=rA h.canon (by decide) h.bd r hr
 have o:=h.canon.bD.1 r hr
 have v:=(h.bd r.2.1 _ (kE h.canon.bD hr o (aW _))).2
 unfold PB
 ext k o v
theorem b77:pL [.lst false []]=some (.sh (.tup [])):=by
 refine Wo.eq (bB.mpr ?_)
 unfold Mz
 walk_at "vc"
 exact λz=>nomatch z
theorem Lk{Fs:List (List Row)}{K n m:Nat}(h4:Fs.length<=4)(hK:Fs.length+1<=K)(hF:∀F∈Fs,FV (10^60) (10^130) F)(hlen:∀F∈Fs,F.length<=900000)(hp:np Fs<=n)(hn:n<=100)(LO:vT pL K n m){ro:Bool}:
  ∃f:List Row,tH [.lst ro (Fs.map dI)]=some (.sh (.tup (f.map Row.d)))/\Canon f/\f.length<=m/\(∀x c,look f x=some c↔Jn Fs x c)/\∀x c,Sh Fs x c->∃m,Jn Fs x m:=by
 have t7:∀R:List Row,∃f:List Row,(R.length<=6/\∀r∈R,PB r)->vy [.lst false (R.map Row.d)]=some (.sh (.tup (f.map Row.d)))/\Canon f/\f.length<=R.length+1/\(∀x c,look f x=some c↔Jn (one R) x c)/\∀x c,Sh (one R) x c->∃m,Jn (one R) x m:=λR=>by
  by_cases h:R.length<=6/\∀r∈R,PB r
  .obtain ⟨f,e⟩:=b6D h.2 h.1 (ro:=false)
   exact ⟨f,λ_=>e⟩
  .exact ⟨[],λz=>absurd z h⟩
 obtain ⟨ff,qM⟩:=DM t7
 have hR:∀R∈prod Fs,(R.length<=6/\∀r∈R,PB r)/\R.length=Fs.length:=λR hR=>by
  obtain ⟨l,k⟩:=KU hR
  exact ⟨⟨by ext h4 l,λr hr=>by obtain ⟨F,sF,sj⟩:=k r hr;exact (hF F sF).pb r sj⟩,l⟩
 have wrap:∀{f:List Row},B3 [.lst ro (Fs.map dI)]=some (.sh (.tup (f.map Row.d)))->tH [.lst ro (Fs.map dI)]=some (.sh (.tup (f.map Row.d))):=λ{f} e=>by
  refine Wo.eq (pP.mpr ?_)
  unfold KA
  walk_at "v1"
  rw [e]
  walk_at "vc"
 have YJ:∀x c,Sh Fs x c->∃R∈prod Fs,∃v,look (ff R) x=some v:=λx c h=>by
  obtain ⟨R,gw,k⟩:=cD.mp h
  obtain ⟨_,_,_,e4,e5⟩:=qM R (hR R gw).1
  obtain ⟨v,hv⟩:=e5 x c k
  exact ⟨R,gw,v,(e4 x v).mpr hv⟩
 by_cases h0:np Fs=0
 .have em:=Qk hlen (ro:=ro)
  rw [h0] at em
  have none_:∀R,R∉prod Fs:=λR gw=>by
   have key:∀(l:List (List Row)) (W:List (List Row)),(l.foldl nY W).length=W.length*np l:=λl=>by
    induction l with
    | nil=>intro W;unfold np;simp
    | cons F l ih =>
     intro W
     rw [wO,ih,EM,IJ,show F::l=[F]++l from rfl,Er,show np [F]=F.length by unfold np;simp]
   have h1:=key Fs [[]]
   rw [h0,Nat.mul_zero] at h1
   have h2:=cW.mpr gw
   unfold k0 at h2
   rw [Jo.mp h1] at h2
   cases h2
  have yW:∀x c,¬Sh Fs x c:=λx c h=>by obtain ⟨R,gw,_⟩:=cD.mp h;exact none_ R gw
  refine ⟨[],wrap ?_,⟨λr z=>(nomatch z),trivial⟩,nG _,λx c=>⟨λz=>(nomatch z),λz=>absurd z.1 (yW x c)⟩,λx c h=>absurd h (yW x c)⟩
  refine Wo.eq (dX.mpr ?_)
  unfold Fm
  walk_at "v1"
  have ep:xD [.lst ro (Fs.map dI)]=some (.ow []):=by
   refine Wo.eq (mX.mpr ?_)
   unfold EC
   walk_at "v1"
   refine qf ?_ ?_
   .walk_at "vc"
    rw [em]
    walk_at "vc"
   walk_at "v1"
   rw [a3e]
   walk_at "vc"
   rw [em]
   walk_at "vc"
  rw [ep]
  walk_at "vc"
  rw [b77]
  walk_at "vc"
  rfl
 .obtain ⟨ep,dB⟩:=b4n (ro:=ro) (by ext h4) (by ext hp hn) h0
  have aV:(k0 Fs).map ff≠[]:=p8 (by rw [aX,dB];ext h0)
  have Yu:∀f∈(k0 Fs).map ff,FV (4*10^60) (4*10^130) f/\f.length<=K:=λf hf=>by
   obtain ⟨R,gw,rfl⟩:=cS.mp hf
   have gw:=cW.mp gw
   obtain ⟨k,l⟩:=hR R gw
   obtain ⟨_,e2,e3,e4,_⟩:=qM R k
   refine ⟨⟨e2,λx c h=>?_⟩,by ext hK l e3⟩
   have b:=Pc k.2 ((e4 x c).mp h).1
   have wm:R.length<=4:=by ext h4 l
   lia
  obtain ⟨fs,e,c,mf,lf⟩:=LO (V:=4*10^60) (C:=4*10^130) (r:=false) (by decide) (by decide) Yu aV (by rw [aX,dB];exact hp)
  have M5:∀x v,look fs x=some v↔(∃R∈prod Fs,look (ff R) x=some v)/\∀R∈prod Fs,∀w,look (ff R) x=some w->v<=w:=λx v=>by
   rw [mf x v]
   constructor
   .rintro ⟨⟨g,hg,e⟩,k⟩
    obtain ⟨R,gw,rfl⟩:=cS.mp hg
    exact ⟨⟨R,cW.mp gw,e⟩,λS hS w hw=>k _ (cS.mpr ⟨S,cW.mpr hS,rfl⟩) w hw⟩
   .rintro ⟨⟨R,gw,e⟩,k⟩
    refine ⟨⟨ff R,cS.mpr ⟨R,cW.mpr gw,rfl⟩,e⟩,λg hg w hw=>?_⟩
    obtain ⟨S,hS,rfl⟩:=cS.mp hg
    exact k S (cW.mp hS) w hw
  have jj:=b6i (φ:=ff) (f:=fs) (λR gw=>(qM R (hR R gw).1).2.2.2.1) (λR gw=>(qM R (hR R gw).1).2.2.2.2) M5
  refine ⟨fs,wrap ?_,c,lf,jj,λx v h=>?_⟩
  .refine Wo.eq (dX.mpr ?_)
   unfold Fm
   walk_at "v1"
   rw [ep]
   walk_at "v1"
   rw [pG gm (λR=>.tup ((ff R).map Row.d)) (λe=>∃x0,e=[x0]) (k0 Fs) (λR gw e he=>?_) ⟨_,rfl⟩]
   .walk_at "v1"
    rw [fM] at e
    rw [aX,dB]
    refine ⟨by ext hp hn,?_⟩
    rw [show (λR=>D.tup ((ff R).map Row.d))=(λf:List Row=>D.tup (f.map Row.d))∘ff from rfl,e]
    walk_at "vc"
   .obtain ⟨x0,rfl⟩:=he
    rw [show gm R=.lst false (R.map Row.d) from rfl]
    walk_at "vc"
    rw [(qM R (hR R (cW.mp gw)).1).1]
    walk_at "vc"
    exact ⟨_,rfl⟩
  .-- rW least over rW picks is there
   have key:∀(l:List (List Row)),(∃R∈l,∃v,look (ff R) x=some v)->∃v,(∃R∈l,look (ff R) x=some v)/\∀R∈l,∀w,look (ff R) x=some w->v<=w:=λl=>by
    induction l with
    | nil=>rintro ⟨R,z,_⟩;cases z
    | cons S l ih =>
     rintro ⟨R,gw,v,e⟩
     by_cases hl:∃R∈l,∃v,look (ff R) x=some v
     .obtain ⟨v,⟨T,hT,eT⟩,k⟩:=ih hl
      cases hS:look (ff S) x with
      | none=>exact ⟨v,⟨T,a9 _ hT,eT⟩,λQ hQ w hw=>by
        rcases br.mp hQ with rfl | hQ
        .rw [hS] at hw;cases hw
        .exact k Q hQ w hw⟩
      | some u =>
       by_cases zA:u<=v
       .exact ⟨u,⟨S,aR ..,hS⟩,λQ hQ w hw=>by
         rcases br.mp hQ with rfl | hQ
         .rw [hS] at hw;cases hw;exact aW _
         .have:=k Q hQ w hw;ext zA this⟩
       .exact ⟨v,⟨T,a9 _ hT,eT⟩,λQ hQ w hw=>by
         rcases br.mp hQ with rfl | hQ
         .rw [hS] at hw;cases hw;ext zA
         .exact k Q hQ w hw⟩
     .rcases br.mp gw with rfl | gw
      .exact ⟨v,⟨R,aR ..,e⟩,λQ hQ w hw=>by
        rcases br.mp hQ with rfl | hQ
        .rw [e] at hw;cases hw;exact aW _
        .exact absurd ⟨Q,hQ,w,hw⟩ hl⟩
      .exact absurd ⟨R,gw,v,e⟩ hl
   obtain ⟨w,hw⟩:=key (prod Fs) (YJ x v h)
   exact ⟨w,(jj x w).mp ((M5 x w).mpr hw)⟩
theorem Km{rs:List Row}{n:Nat}(h:n<rs.length):dF (rs.map Row.d) (n:Int)=some (Row.d rs[n]):=by
 rw [DL.du];simp [h]
theorem b6E{rs:List Row}(ha:bK rs)(hl:rs.length<=900000)(x:Int):∃n:Nat,xT [.tup (rs.map Row.d),.int x]=some (.sh (.int n))/\n<=rs.length/\(∀i (h:i<rs.length),i<n->rs[i].2.1<x)/\(∀i (h:i<rs.length),n<=i->x<=rs[i].2.1):=by
 have mono:∀i j (hi:i<rs.length) (hj:j<rs.length),i<=j->rs[i].2.1<=rs[j].2.1:=λi j hi hj h=>by
  rcases Nat.lt_or_eq_of_le h with h | rfl
  .have:=(wX.mp ha.2) i j hi hj h
   have:=ha.1 _ (nD hj)
   lia
  .exact aW _
 have key:Wo (xT [.tup (rs.map Row.d),.int x]) λs=>∃n:Nat,s=.sh (.int n)/\n<=rs.length/\(∀i (h:i<rs.length),i<n->rs[i].2.1<x)/\(∀i (h:i<rs.length),n<=i->x<=rs[i].2.1):=by
  refine my.mpr ?_
  unfold Lp
  walk_at "vc"
  rw [aX,KE]
  refine Bz (λm env=>∃x4,∃f b:Nat,env=[.sh (.tup (rs.map Row.d)),.sh (.int x),.sh (.int f),.sh (.int b),x4]/\m=b-f/\f<=b/\b<=rs.length/\(∀i (h:i<rs.length),i<f->rs[i].2.1<x)/\(∀i (h:i<rs.length),b<=i->x<=rs[i].2.1)) (λm env h=>?_) _ rs.length
   (show rs.length<1000000 by ext hl) ⟨_,0,rs.length,rfl,by simp,by simp,bp _,λi h z=>absurd z (Nat.not_lt_zero _),λi h z=>absurd h (by ext z)⟩
  obtain ⟨x4,f,b,rfl,rfl,h1,h2,h3,h4⟩:=h
  walk_at "vc"
  refine ⟨λbe=>?_,λuv=>⟨f,rfl,by ext h1 h2,h3,λi h z=>h4 i h (by ext uv z)⟩⟩
  have hm:((f:Int)+b)/2=(((f+b)/2:Nat):Int):=by lia
  have oW:(f+b)/2<rs.length:=by lia
  rw [hm,Km oW,cP]
  walk_at "vc"
  refine ⟨by walk_at "sc",λhc=>?_,λhc=>?_⟩
  .exact ⟨b-((f+b)/2+1),by lia,_,(f+b)/2+1,b,rfl,rfl,by lia,h2,λi h z=>Int.lt_of_le_of_lt (mono i ((f+b)/2) h oW (by ext z)) hc,h4⟩
  .exact ⟨(f+b)/2-f,by lia,_,f,(f+b)/2,rfl,rfl,by lia,by ext oW,h3,λi h z=>sO (by ext oW hc) (mono ((f+b)/2) i oW h z)⟩
 obtain ⟨s,e,n,rfl,h⟩:=key
 exact ⟨n,e,h⟩
theorem Q0{rs:List Row}(ha:bK rs)(hl:rs.length<=900000)(hb:∀r∈rs,aq (10^180) r){x:Int}(hx:-(10^180)<=x/\x<=10^180):qk [.tup (rs.map Row.d),.int x]=some (.sh (As (look rs x))):=by
 refine Wo.eq (nU.mpr ?_)
 unfold Le
 walk_at "vc"
 obtain ⟨n,en,hn,h1,h2⟩:=b6E ha hl x
 rw [en]
 walk_at "vc"
 rw [aX]
 have split:rs=rs.take n++rs.drop n:=(mS n rs).symm
 have gP:∀q∈rs.take n,q.2.1<x:=λq hq=>by
  obtain ⟨i,hi,rfl⟩:=pz.mp hq
  rw [gz] at hi
  rw [Du]
  exact h1 i (by ext hi) (by ext hi)
 have lk:look rs x=look (rs.drop n) x:=by
  have:=K9 (x:=x) (post:=rs.drop n) gP
  rwa [<-split] at this
 refine ⟨λhe=>?_,λhe=>?_⟩
 .have:rs.drop n=[]:=qZ (by ext he)
  rw [lk,this];rfl
 .have be:n<rs.length:=by ext hn he
  have hd:rs.drop n=rs[n]::rs.drop (n+1):=mT be
  have hr:=hb rs[n] (nD be)
  have hle:=h2 n be (bp _)
  unfold aq at hr
  rw [Km be,cP]
  walk_at "vc"
  refine ⟨λCN=>?_,λCN=>?_⟩
  .rw [lk,E7];rfl
   intro q hq
   rw [hd] at hq
   rcases br.mp hq with rfl | hq
   .exact .inl CN
   .have hp:=ha.2
    rw [split,hd] at hp
    have:=(dg.mp (gr.mp hp).2.1).1 q hq
    have:=ha.1 rs[n] (nD be)
    exact .inl (by omega)
  .rw [<-cP,Bj (by ext be hr) (by ext be hr) (by ext be CN) (by ext be hx hr)]
   walk_at "vc"
   rw [lk,hd,look,if_pos ⟨by ext be CN,hle⟩]
   rfl
noncomputable def di(l:Int×Int)(x:Int):Int:=l.1+l.2*x
theorem RD{k l:Int×Int}{p q x:Int}(h1:p<=x)(h2:x<=q)(a1:di l p<=di k p)(a2:di l q<=di k q):di l x<=di k x:=by
 unfold di at *
 have e:∀y,(k.1+k.2*y)-(l.1+l.2*y)=(k.1-l.1)+(k.2-l.2)*y:=λy=>by grind
 have b1:0<=(k.1-l.1)+(k.2-l.2)*p:=by rw [<-e];ext a1
 have b2:0<=(k.1-l.1)+(k.2-l.2)*q:=by rw [<-e];ext a2
 have b3:0<=(k.1-l.1)+(k.2-l.2)*x:=by
  by_cases hs:0<=k.2-l.2
  .have:(k.2-l.2)*p<=(k.2-l.2)*x:=nI h1 hs
   ext b1 this
  .have:(k.2-l.2)*q<=(k.2-l.2)*x:=OK (by ext hs) h2
   ext b2 this
 rw [<-e] at b3
 ext b3
theorem b2z{Ls:List (Int×Int)}{a b r:Row}{l:Int×Int}(jP:qb a b)(hb:b.1=a.2.1+1)(ie:b.1<=r.1)(hl:l∈Ls)(uB:a.1<=a.2.1)
  (up:∀k∈Ls,a.at a.1<=di k a.1/\a.at a.2.1<=di k a.2.1/\b.at b.1<=di k b.1/\r.at r.1<=di k r.1)(w1:∃k∈Ls,a.at a.2.1=di k a.2.1)(w2:∃k∈Ls,b.at b.1=di k b.1)(e1:a.at a.1=di l a.1)(e2:r.at r.1=di l r.1):False:=by
 obtain ⟨h1,h2⟩:=jP.2 hb
 have at1:a.at a.2.1=di l a.2.1:=by
  obtain ⟨k,hk,e⟩:=w1
  have:=RD (k:=k) (l:=l) (p:=a.1) (q:=r.1) (x:=a.2.1) uB (by ext hb ie) (by rw [<-e1];exact (up k hk).1) (by rw [<-e2];exact (up k hk).2.2.2)
  have:=(up l hl).2.1
  omega
 have at2:b.at b.1=di l b.1:=by
  obtain ⟨k,hk,e⟩:=w2
  have:=RD (k:=k) (l:=l) (p:=a.1) (q:=r.1) (x:=b.1) (by ext hb h1) ie (by rw [<-e1];exact (up k hk).1) (by rw [<-e2];exact (up k hk).2.2.2)
  have:=(up l hl).2.2.1
  omega
 have C5:b.at b.1=b.2.2.1:=by unfold Row.at;simp
 refine h2 ?_
 rw [<-C5,at2]
 have hs:a.2.2.2=l.2:=by
  unfold Row.at di at e1 at1
  have d:(a.2.2.2-l.2)*(a.2.1-a.1)=0:=by grind
  rcases Int.mul_eq_zero.mp d with z | z<;>omega
 unfold Row.at di at *
 rw [hs] at e1 ⊢
 grind
theorem P8{Ls:List (Int×Int)}:∀{fs:List Row} {M:List (Int×Int)},aU qb fs->aU (λa b=>b.1=a.2.1+1) fs->(∀r∈fs,r.1<=r.2.1)->(∀l∈M,l∈Ls) ->
  (∀r∈fs,∀k∈Ls,r.at r.1<=di k r.1/\r.at r.2.1<=di k r.2.1)->(∀r∈fs,(∃k∈Ls,r.at r.1=di k r.1)/\∃k∈Ls,r.at r.2.1=di k r.2.1)->(∀r∈fs,∃l∈M,r.at r.1=di l r.1)->fs.length<=M.length
 | [],M,_,_,_,_,_,_,_=>nG _
 | a::fs,M,hF,hC,ho,hM,up,wt,Q1=>by
  obtain ⟨l,hl,el⟩:=Q1 a (aR ..)
  have hlen:(M.erase l).length=M.length-1:=OR hl
  have iC:0<M.length:=Og hl
  have sF:aU qb fs:=by cases fs with | nil=>exact trivial | cons b fs=>exact hF.2
  have NI:aU (λa b=>b.1=a.2.1+1) fs:=by cases fs with | nil=>exact trivial | cons b fs=>exact hC.2
  have ih:=P8 (Ls:=Ls) (fs:=fs) (M:=M.erase l) sF NI (λr hr=>ho r (a9 _ hr)) (λk hk=>hM k (List.mem_of_mem_erase hk)) (λr hr=>up r (a9 _ hr)) (λr hr=>wt r (a9 _ hr)) (λr hr=>by
   obtain ⟨k,hk,ek⟩:=Q1 r (a9 _ hr)
   have aV:k≠l:=λz=>by
    subst z
    cases fs with
    | nil=>cases hr
    | cons b fs =>
     have ie:b.1<=r.1:=by
      rcases br.mp hr with rfl | sj
      .exact aW _
      .have He:∀{gs:List Row} {b:Row},aU (λa b=>b.1=a.2.1+1) (b::gs)->(∀r∈b::gs,r.1<=r.2.1)->∀r∈gs,b.1<=r.1:=by
        intro gs
        induction gs with
        | nil=>intro b _ _ r hr;cases hr
        | cons c gs GS =>
         intro b hL ho r hr
         have Ny:=hL.1
         have C4:=ho b (aR ..)
         rcases br.mp hr with rfl | hr
         .ext C4 Ny
         .have:=GS hL.2 (λx hx=>ho x (a9 _ hx)) r hr
          ext Ny C4 this
       exact He NI (λx hx=>ho x (a9 _ hx)) r sj
     have mb:b∈a::b::fs:=a9 _ (aR ..)
     exact b2z (Ls:=Ls) hF.1 hC.1 ie (hM k hl) (ho a (aR ..)) (λq hq=>⟨(up a (aR ..) q hq).1,(up a (aR ..) q hq).2,(up b mb q hq).1,(up r (a9 _ hr) q hq).1⟩) (wt a (aR ..)).2 (wt b mb).1 el ek
   exact ⟨k,(Ow aV).mpr hk,ek⟩)
  rw [gy]
  ext hlen iC ih
noncomputable def oA(price:Int)(r:Row):List Row:=match nd (r.2.2.1-price) r.2.2.2 r.1 r.2.1 with
 | none=>[]
 | some (f,l)=>[(f,l,0,0)]
theorem vF{price:Int}{r:Row}(hr:r.1<=r.2.1):(∀q∈oA price r,r.1<=q.1/\q.1<=q.2.1/\q.2.1<=r.2.1/\q.2.2=(0,0))/\(oA price r).length<=1/\∀x,(∃q∈oA price r,q.1<=x/\x<=q.2.1)↔r.1<=x/\x<=r.2.1/\r.at x<=price:=by
 have sp:=J' (a:=r.2.2.1-price) (s:=r.2.2.2) (low:=r.1) (high:=r.2.1) hr
 unfold oA
 cases e:nd (r.2.2.1-price) r.2.2.2 r.1 r.2.1 with
 | none =>
  rw [e] at sp
  dsimp only at sp ⊢
  refine ⟨λq hq=>(nomatch hq),by simp,λx=>⟨λ⟨q,hq,_⟩=>(nomatch hq),λ⟨h1,h2,h3⟩=>?_⟩⟩
  have:=sp x h1 h2
  unfold Row.at at h3
  generalize r.2.2.2*(x-r.1)=z at *
  ext _ h3 this
 | some y =>
  obtain ⟨f,l⟩:=y
  rw [e] at sp
  dsimp only at sp ⊢
  obtain ⟨⟨s1,s2,s3,_⟩,s4⟩:=sp
  refine ⟨λq hq=>?_,by simp,λx=>?_⟩
  .rw [bQ.mp hq];exact ⟨s1,s2,s3,rfl⟩
  .simp
   have e1:r.at x<=price↔r.2.2.1-price+r.2.2.2*(x-r.1)<=0:=by unfold Row.at;generalize r.2.2.2*(x-r.1)=z;ext
   rw [e1]
   constructor
   .rintro ⟨h1,h2⟩
    exact ⟨by ext s1 h1,by ext s3 h2,(s4 x (by ext s1 h1) (by ext s3 h2)).mpr ⟨h1,h2⟩⟩
   .rintro ⟨h1,h2,h3⟩
    exact (s4 x h1 h2).mp h3
theorem a9R{rs:List Row}(ha:bK rs)(price:Int):bK (rs.flatMap (oA price))/\∀x,(∃q∈rs.flatMap (oA price),q.1<=x/\x<=q.2.1)↔∃c,look rs x=some c/\c<=price:=by
 refine ⟨⟨λq hq=>?_,?_⟩,λx=>?_⟩
 .obtain ⟨r,hr,k⟩:=iH.mp hq
  exact ((vF (ha.1 r hr)).1 q k).2.1
 .have:∀{rs:List Row},bK rs->(rs.flatMap (oA price)).Pairwise λa b=>a.2.1<b.1:=λ{rs} h=>by
   induction rs with
   | nil=>exact .nil
   | cons r rs ih =>
    have ta:bK rs:=⟨λq hq=>h.1 q (a9 _ hq),(dg.mp h.2).2⟩
    rw [q8]
    have sp:=vF (price:=price) (h.1 r aR)
    refine gr.mpr ⟨?_,ih ta,λa ha b hb=>?_⟩
    .have:=sp.2.1
     match oA price r,this with
     | [],_=>exact .nil
     | [_],_=>exact p7 _ _
    .obtain ⟨q,hq,k⟩:=iH.mp hb
     have k1:=(vF (h.1 q (a9 _ hq))).1 b k
     have k2:=sp.1 a ha
     have k3:=(dg.mp h.2).1 q hq
     show a.2.1<b.1
     omega
  exact this ha
 .constructor
  .rintro ⟨q,hq,h1,h2⟩
   obtain ⟨r,hr,k⟩:=iH.mp hq
   obtain ⟨k1,k2,k3⟩:=((vF (ha.1 r hr)).2.2 x).mp ⟨q,k,h1,h2⟩
   exact ⟨_,kE ha hr k1 k2,k3⟩
  .rintro ⟨c,h1,h2⟩
   obtain ⟨r,hr,k1,k2,rfl⟩:=rB h1
   obtain ⟨q,hq,k3,k4⟩:=((vF (price:=price) (ha.1 r hr)).2.2 x).mpr ⟨k1,k2,h2⟩
   exact ⟨q,iH.mpr ⟨r,hr,hq⟩,k3,k4⟩
noncomputable def yQ(o:Option (Int×Int)):Row:=match o with
 | none=>(0,0,0,0)
 | some (f,l)=>(f,l,0,0)
theorem Rx(price:Int):∀rs:List Row,((rs.map λr=>nd (r.2.2.1-price) (r.2.2.2-0) r.1 r.2.1).filter Option.isSome).map (λo=>(yQ o).d)=(rs.flatMap (oA price)).map Row.d
 | []=>rfl
 | r::rs=>by
  rw [fo,q8,ej,<-Rx price rs]
  unfold oA
  rw [Int.sub_zero]
  cases nd (r.2.2.1-price) r.2.2.2 r.1 r.2.1 with
  | none=>rfl
  | some y=>rfl
theorem Ay{rs:List Row}(ha:bK rs)(hb:∀r∈rs,aq (10^178) r)(hl:rs.length<=10000)(price:Int):∃ss:List Span,B' [.tup (rs.map Row.d),.int price]=some (.sh (.tup (ss.map Span.d)))/\(∀s∈ss,s.1<=s.2)/\(ss.Pairwise λa b=>a.2+1<b.1)/\(∀x,fg ss x↔∃c,look rs x=some c/\c<=price)/\ss.length<=rs.length/\∀s∈ss,(-(10^178)<=s.1/\s.1<=10^178)/\(-(10^178)<=s.2/\s.2<=10^178):=by
 obtain ⟨b1,b2⟩:=a9R ha price
 have hlen:∀rs:List Row,(∀r∈rs,r.1<=r.2.1)->(rs.flatMap (oA price)).length<=rs.length:=λrs=>by
  induction rs with
  | nil=>intro _;simp
  | cons r rs ih =>
   intro h
   have:=ih λq hq=>h q (a9 _ hq)
   have:=(vF (price:=price) (h r aR)).2.1
   rw [q8,cO,gy]
   omega
 have Hl:=hlen rs ha.1
 have bin:∀q∈rs.flatMap (oA price),(-(10^178)<=q.1/\q.1<=10^178)/\(-(10^178)<=q.2.1/\q.2.1<=10^178)/\q.2.2=(0,0):=λq hq=>by
  obtain ⟨r,hr,k⟩:=iH.mp hq
  have h1:=hb r hr
  unfold aq at h1
  obtain ⟨k1,k2,k3,k4⟩:=(vF (ha.1 r hr)).1 q k
  exact ⟨by ext h1 k1 k2 k3,by ext h1 k1 k2 k3,k4⟩
 obtain ⟨fs,ef,L⟩:=vn b1 (λq hq=>by
  obtain ⟨k1,k2,k3⟩:=bin q hq
  have z1:q.2.2.1=0:=congrArg Prod.fst k3
  have z2:q.2.2.2=0:=congrArg Prod.snd k3
  unfold aq
  ext k1 k2 z1 z2) (by ext hl Hl) (ro:=false)
 have sx:=L.len
 obtain ⟨ss,es,S⟩:=EU L.canon.bD (by ext hl Hl sx)
 have eH:∀x,fg ss x↔∃c,look rs x=some c/\c<=price:=λx=>by
  rw [S.eH,<-b2]
  constructor
  .rintro ⟨r,hr,h1,h2⟩
   obtain ⟨q,hq,k1,k2,_⟩:=(L.val x (r.at x)).mp ⟨r,hr,h1,h2,rfl⟩
   exact ⟨q,hq,k1,k2⟩
  .rintro ⟨r,hr,h1,h2⟩
   obtain ⟨q,hq,k1,k2,_⟩:=(L.val x (r.at x)).mpr ⟨r,hr,h1,h2,rfl⟩
   exact ⟨q,hq,k1,k2⟩
 refine ⟨ss,?_,S.ok,S.apart,eH,by have:=S.len;ext Hl sx this,λs hs=>?_⟩
 .refine Wo.eq (iR.mpr ?_)
  unfold L9
  walk_at "vc"
  rw [pG Row.d (λr=>gS (nd (r.2.2.1-price) (r.2.2.2-0) r.1 r.2.1)) (λe=>∃x0,e=[x0,.sh (.int price)]) rs (λr hr e he=>?_) ⟨_,rfl⟩]
  .rw [aX]
   walk_at "vc"
   rw [show rs.map (λr=>gS (nd (r.2.2.1-price) (r.2.2.2-0) r.1 r.2.1))=(rs.map λr=>nd (r.2.2.1-price) (r.2.2.2-0) r.1 r.2.1).map gS by rw [fM];rfl]
   rw [a9N gS Option.isSome (λo=>(yQ o).d) (λe=>∃x0,e=[x0]) _ (λo ho e he=>?_) ⟨_,rfl⟩]
   .rw [Rx,aX,aX]
    walk_at "vc"
    rw [ef]
    walk_at "vc"
    rw [es]
    walk_at "vc"
    ext hl
   .obtain ⟨x0,rfl⟩:=he
    cases o with
    | none =>
     dsimp only [gS]
     walk_at "vc"
     exact ⟨⟨_,rfl⟩,rfl,λz=>nomatch z⟩
    | some y =>
     obtain ⟨f,l⟩:=y
     dsimp only [gS]
     walk_at "vc"
     exact ⟨⟨_,rfl⟩,rfl,λ_=>rfl⟩
  .obtain ⟨x0,rfl⟩:=he
   have h1:=hb r hr
   unfold aq at h1
   rw [cP r]
   walk_at "vc"
   rw [Av (by ext h1) (by ext h1)]
   walk_at "vc"
   exact ⟨_,rfl⟩
 .have lj:=S.ok s hs
  have key:∀x,fg ss x -> -(10^178)<=x/\x<=10^178:=λx hx=>by
   obtain ⟨c,hc,_⟩:=(eH x).mp hx
   obtain ⟨r,hr,k1,k2,_⟩:=rB hc
   have h1:=hb r hr
   unfold aq at h1
   ext k1 k2 h1
  exact ⟨key s.1 ⟨s,hs,aW _,lj⟩,key s.2 ⟨s,hs,lj,aW _⟩⟩
def bM(rs:List Row)(p g:Int):Prop:=(∃x c,Val rs x c/\g=p*x-c)/\∀x c,Val rs x c->p*x-c<=g
theorem bM.uniq{rs:List Row}{p g g':Int}(h:bM rs p g)(h':bM rs p g'):g=g':=by
 obtain ⟨⟨x,c,v,e⟩,k⟩:=h
 obtain ⟨⟨x',c',v',e'⟩,k'⟩:=h'
 have:=k _ _ v'
 have:=k' _ _ v
 omega
theorem K3(ns:List Int)(k:Int)(hk:0<=k){r:Bool}:vH [.lst r (ns.map D.int),.int k]=some (.sh (.int (ns.getD k.toNat 0))):=by
 refine Wo.eq (iP.mpr ?_)
 unfold Ma
 walk_at "vc"
 rw [aX]
 refine ⟨λh=>?_,λh=>?_⟩
 .rw [tD 0 hk h]
  walk_at "vc"
 .have:ns.length<=k.toNat:=by ext h
  simp [this]
noncomputable def pC(rs:List Row):List Span:=rs.flatMap λr=>[(r.1,r.2.2.1),(r.2.1,r.at r.2.1)]
theorem Ll:∀rs:List Row,(pC rs).length=2*rs.length
 | []=>rfl
 | r::rs=>by
  have:=Ll rs
  unfold pC at *
  rw [q8,cO,this]
  simp
  ext
theorem Rv{rs:List Row}(ha:bK rs){q:Span}(h:q∈pC rs):Val rs q.1 q.2:=by
 obtain ⟨r,hr,k⟩:=iH.mp h
 have ok:=ha.1 r hr
 simp at k
 rcases k with rfl | rfl
 .exact ⟨r,hr,aW _,ok,by unfold Row.at;simp⟩
 .exact ⟨r,hr,ok,aW _,rfl⟩
theorem b8L{r:Row}(h:m6 r){x:Int}(h1:r.1<=x)(h2:x<=r.2.1):-(2*10^79)<=r.at x/\r.at x<=2*10^79:=by
 unfold m6 at h
 have e2:=sX (a:=r.2.2.2) (b:=x-r.1) (A:=10^30) (B:=2*10^46) (by ext h) (by ext h) (by ext h1) (by ext h h2)
 unfold Row.at
 omega
theorem JX{rs:List Row}(hb:∀r∈rs,m6 r){x c:Int}(h:Val rs x c):(-(10^46)<=x/\x<=10^46)/\(-(2*10^79)<=c/\c<=2*10^79):=by
 obtain ⟨r,hr,h1,h2,rfl⟩:=h
 have b:=hb r hr
 refine ⟨?_,b8L b h1 h2⟩
 unfold m6 at b
 ext h1 h2 b
theorem b8F{rs:List Row}(hb:∀r∈rs,m6 r)(hl:rs.length<=100){ro:Bool}:BH [.lst ro (rs.map Row.d)]=some (.ow ((pC rs).map Span.d)):=by
 refine Wo.eq (mC.mpr ?_)
 unfold Ln
 walk_at "v1"
 refine mq Row.d (λpre env=>∃x2 x3 x4 x5,env=[.sh (.lst ro (rs.map Row.d)),.ow ((pC pre).map Span.d),x2,x3,x4,x5]) rs (λpre r post env e h=>?_) (λenv h=>?_) ⟨_,_,_,_,rfl⟩
 .obtain ⟨x2,x3,x4,x5,rfl⟩:=h
  have hr:=hb r (by rw [e];simp)
  unfold m6 at hr
  have hm:MulC r.2.2.2 (r.2.1-r.1):=tB (by ext hr) (by ext hr) (by ext hr) (by ext hr)
  have dB:pre.length<100:=by have:=congrArg mi e;simp at this;ext hl this
  have:=Ll pre
  rw [cP r]
  walk_at "vc"
  simp only [cO,aX,AU]
  refine ⟨by ext dB this,hm,by ext dB this,.sh (.int r.1),.sh (.int r.2.1),.sh (.int r.2.2.1),.sh (.int r.2.2.2),?_⟩
  unfold pC
  rw [DS,ej]
  simp [Span.d,Row.at]
 .obtain ⟨x2,x3,x4,x5,rfl⟩:=h
  walk_at "vc"
theorem PX{rs:List Span}{i:Int}(i1:0<=i)(i2:i<rs.length):∃r∈rs,dF (rs.map Span.d) i=some r.d:=by
 refine ⟨rs.getD i.toNat (0,0),?_,tD (0,0) i1 i2⟩
 have h:i.toNat<rs.length:=by ext i1 i2
 have:rs.getD i.toNat (0,0)=rs[i.toNat]:=by simp [h]
 rw [this];exact nD h
theorem rw_at{rs:List Row}{i:Int}(i1:0<=i)(i2:i<rs.length):∃r∈rs,dF (rs.map Row.d) i=some r.d:=by
 refine ⟨rs.getD i.toNat (0,0,0,0),?_,tD (0,0,0,0) i1 i2⟩
 have h:i.toNat<rs.length:=by ext i1 i2
 have:rs.getD i.toNat (0,0,0,0)=rs[i.toNat]:=by simp [h]
 rw [this];exact nD h
theorem Ql{rs:List Row}(ha:bK rs)(hb:∀r∈rs,m6 r)(hl:rs.length<=100)(aV:rs≠[]){m:Int}(hm:0<=m){ro:Bool}:∃p:Int,vC [.lst ro (rs.map Row.d),.int m]=some (.sh (.int p)) /\ -(10^80)<=p/\p<=10^80:=by
 have key:Wo (vC [.lst ro (rs.map Row.d),.int m]) λs=>∃p:Int,s=.sh (.int p) /\ -(10^80)<=p/\p<=10^80:=by
  refine kO.mpr ?_
  unfold LR
  have gQ:0<rs.length:=pj.mpr aV
  have eJ:=Ll rs
  obtain ⟨a,uB,ea⟩:=PX (rs:=pC rs) (i:=m%(pC rs).length) (px _ (by ext gQ eJ)) (pf _ (by ext gQ eJ))
  obtain ⟨b,C4,eb⟩:=PX (rs:=pC rs) (i:=m/64%(pC rs).length) (px _ (by ext gQ eJ)) (pf _ (by ext gQ eJ))
  obtain ⟨r,hr,er⟩:=rw_at (rs:=rs) (i:=m%rs.length) (px _ (by ext gQ)) (pf _ (by ext gQ))
  have va:=JX hb (Rv ha uB)
  have vb:=JX hb (Rv ha C4)
  have vr:=hb r hr
  unfold m6 at vr
  walk_at "v1"
  rw [b8F hb hl]
  walk_at "v1"
  simp only [aX]
  walk_at "st"
  rw [ea,a0i]
  walk_at "v1"
  walk_at "st"
  rw [eb,a0i]
  walk_at "v1"
  rw [er,cP r]
  walk_at "v1"
  walk_at "st"
  refine Wo.mono (P:=λq=>∃ps:List Int,q=(.nx,[.sh (.lst ro (rs.map Row.d)),.sh (.int m),.sh (.lst false ((pC rs).map Span.d)),.sh a.d,.sh b.d,.ow (ps.map D.int)])/\0<ps.length/\∀p∈ps,-(10^80)<=p/\p<=10^80) ?_ λq hq=>?_
  .rw [a3e,xm a,xm b]
   walk_at "vc"
   refine ⟨λhn=>?_,λ_=>⟨[r.2.2.2,r.2.2.2+1,m/8%41-20,m%10^50-5*10^49],rfl,by simp,λp hp=>by simp at hp;omega⟩⟩
   have hd:nX (a.2-b.2) (a.1-b.1):=⟨by ext hn,by unfold LIM;ext va vb,by unfold LIM;ext va vb⟩
   have hq:=b8t (a:=a.2-b.2) (b:=a.1-b.1) (B:=4*10^79) (by ext hn) (by ext va vb) (by ext va vb)
   generalize (a.2-b.2).fdiv (a.1-b.1)=q at *
   refine ⟨hd,hd,by simp,[r.2.2.2,r.2.2.2+1,m/8%41-20,m%10^50-5*10^49,q,q+1],rfl,by simp,λp hp=>by simp at hp;omega⟩
  .obtain ⟨ps,rfl,zG,pU⟩:=hq
   walk_at "v1"
   rw [aX]
   walk_at "st"
   refine Kk ps (px _ (by ext zG)) (pf _ (by ext zG)) λv hv=>?_
   walk_at "vc"
   exact ⟨v,rfl,pU v hv⟩
 obtain ⟨s,e,p,rfl,h⟩:=key
 exact ⟨p,e,h⟩
noncomputable def ve:Option Int->Option Int->Option Int
 | some a,some b=>some (a+b)
 | _,_=>none
noncomputable def p9(m:Met):Row:=(m.lo,m.hi,m.a.at m.lo+m.b.at m.lo,m.a.2.2.2+m.b.2.2.2)
theorem b1U{A B:List Row}(ha:bK A)(hb:bK B):bK ((bh A B).map p9)/\∀x c,Val ((bh A B).map p9) x c↔ve (look A x) (look B x)=some c:=by
 obtain ⟨h1,h2⟩:=b3Q ha hb p9 (λm=>⟨rfl,rfl⟩) (·+·) λm _ x=>by unfold p9 Row.at;dsimp only;grind
 refine ⟨h1,λx c=>?_⟩
 rw [h2]
 constructor
 .rintro ⟨p,q,k1,k2,rfl⟩
  rw [vw ha] at k1
  rw [vw hb] at k2
  rw [k1,k2];rfl
 .intro h
  cases e1:look A x with
  | none=>rw [e1] at h;cases h
  | some p =>
   cases e2:look B x with
   | none=>rw [e1,e2] at h;cases h
   | some q =>
    rw [e1,e2] at h
    exact ⟨p,q,(vw ha).mpr e1,(vw hb).mpr e2,(cG h).symm⟩
theorem Po{A B:List Row}{V C:Int}(ca:bK A)(cb:bK B)(ha:∀r∈A,aq (10^178) r)(hb:∀r∈B,aq (10^178) r)(hC:C<=10^178)(va:∀x c,look A x=some c -> -C<=c/\c<=C)(vb:∀x c,look B x=some c -> -C<=c/\c<=C)(l1:A.length<=10000)(l2:B.length<=10000):
  ∃fs:List Row,Bu [.tup (A.map Row.d),.tup (B.map Row.d)]=some (.sh (.tup (fs.map Row.d)))/\Laid ((bh A B).map p9) fs/\(∀x,look fs x=ve (look A x) (look B x))/\fs.length<=A.length+B.length:=by
 obtain ⟨p1,p2⟩:=b1U ca cb
 have hlen:=E1 (A:=A) (B:=B) (bp _)
 have uz:∀r∈(bh A B).map p9,aq (10^180) r:=λr hr=>by
  obtain ⟨m,hm,rfl⟩:=cS.mp hr
  obtain ⟨k1,k2,k3,k4,k5⟩:=lK (bp _) hm
  have q1:=ha _ k1
  have q2:=hb _ k2
  have r1:=va _ _ (kE ca k1 (x:=m.lo) (by ext k3) (by ext k4 k5))
  have r2:=vb _ _ (kE cb k2 (x:=m.lo) (by ext k3) (by ext k4 k5))
  unfold aq at q1 q2
  unfold p9 aq
  dsimp only
  ext hC k3 k4 q1 q2 r1 r2
 obtain ⟨fs,ef,L⟩:=vn p1 uz (by rw [aX];ext l1 l2 hlen) (ro:=false)
 refine ⟨fs,?_,L,λx=>Kv L.canon.bD λc=>by rw [L.val,p2],by have:=L.len;rw [aX] at this;ext hlen this⟩
 refine Wo.eq (vL.mpr ?_)
 unfold JP
 walk_at "vc"
 rw [O4 (λr hr=>(ha r hr).mono (by decide)) (λr hr=>(hb r hr).mono (by decide)) (by ext l1) (by ext l2)]
 walk_at "vc"
 rw [pG Met.d (λm=>(p9 m).d) (λe=>∃x0 x1 x2 x3,e=[x0,x1,x2,x3]) (bh A B) (λm _ e he=>?_) ⟨_,_,_,_,rfl⟩]
 .rw [aX]
  walk_at "vc"
  rw [show (bh A B).map (λm=>(p9 m).d)=((bh A B).map p9).map Row.d by rw [fM];rfl,ef]
  walk_at "vc"
  ext l1 l2 hlen
 .obtain ⟨x0,x1,x2,x3,rfl⟩:=he
  rw [Pg,Eo,Eo]
  walk_at "vc"
  exact ⟨⟨_,_,_,_,rfl⟩,rfl⟩
structure dA(lo hi:Int)(Ls:List (Int×Int))(fs:List Row):Prop where
 canon:Canon fs
 val:∀p v,look fs p=some v↔(lo<=p/\p<=hi)/\(∃l∈Ls,v=di l p)/\∀l∈Ls,v<=di l p
theorem PC(p:Int):∀{Ls:List (Int×Int)},Ls≠[]->∃l∈Ls,∀k∈Ls,di l p<=di k p
 | [],h=>absurd rfl h
 | [a],_=>⟨a,aR ..,λk hk=>by rw [bQ.mp hk];exact aW _⟩
 | a::b::Ls,_=>by
  obtain ⟨l,hl,h⟩:=PC p (Ls:=b::Ls) (by simp)
  by_cases NA:di a p<=di l p
  .refine ⟨a,aR ..,λk hk=>?_⟩
   rcases br.mp hk with rfl | hk
   .exact aW _
   .exact sO NA (h k hk)
  .refine ⟨l,a9 _ hl,λk hk=>?_⟩
   rcases br.mp hk with rfl | hk
   .ext NA
   .exact h k hk
theorem dA.has{lo hi:Int}{Ls:List (Int×Int)}{fs:List Row}(E:dA lo hi Ls fs)(aV:Ls≠[]){p:Int}(h1:lo<=p)(h2:p<=hi):∃v,look fs p=some v:=by
 obtain ⟨l,hl,h⟩:=PC p aV
 exact ⟨_,(E.val p _).mpr ⟨⟨h1,h2⟩,⟨l,hl,rfl⟩,h⟩⟩
theorem RC:∀{fs:List Row},bK fs->(∀r∈fs,∀s∈fs,∀p,r.1<=p->p<=s.2.1->∃q∈fs,q.1<=p/\p<=q.2.1)->aU (λa b=>b.1=a.2.1+1) fs
 | [],_,_=>trivial
 | [a],_,_=>trivial
 | a::b::fs,ha,h=>by
  have jP:=(dg.mp ha.2).1
  have hb:=jP b (aR ..)
  have ux:=(dg.mp (dg.mp ha.2).2).1
  have o1:=ha.1 a (aR ..)
  have o2:=ha.1 b (a9 _ (aR ..))
  refine ⟨?_,RC (fs:=b::fs) ⟨λr hr=>ha.1 r (a9 _ hr),(dg.mp ha.2).2⟩ λr hr s hs p h1 h2=>?_⟩
  .refine OU λz=>?_
   obtain ⟨q,hq,k1,k2⟩:=h a (aR ..) b (a9 _ (aR ..)) (a.2.1+1) (by ext o1) (by ext hb o2)
   rcases br.mp hq with rfl | hq
   .ext k2
   .rcases br.mp hq with rfl | hq
    .ext k1 hb z
    .have:=ux q hq
     ext hb o2 k1 this
  .obtain ⟨q,hq,k1,k2⟩:=h r (a9 _ hr) s (a9 _ hs) p h1 h2
   rcases br.mp hq with rfl | hq
   .have:=jP r hr
    ext _ h1 k2 this
   .exact ⟨q,hq,k1,k2⟩
theorem dA.row{lo hi:Int}{Ls:List (Int×Int)}{fs:List Row}(E:dA lo hi Ls fs){r:Row}(hr:r∈fs){x:Int}(h1:r.1<=x)(h2:x<=r.2.1):(lo<=x/\x<=hi)/\(∃l∈Ls,r.at x=di l x)/\∀l∈Ls,r.at x<=di l x:=(E.val x _).mp (kE E.canon.bD hr h1 h2)
theorem dA.len{lo hi:Int}{Ls:List (Int×Int)}{fs:List Row}(E:dA lo hi Ls fs)(aV:Ls≠[]):fs.length<=Ls.length:=by
 have ho:=E.canon.bD.1
 refine P8 (Ls:=Ls) (M:=Ls) E.canon.2 (RC E.canon.bD λr hr s hs p h1 h2=>?_) ho (λ_ h=>h) (λr hr k hk=>⟨(E.row hr (aW _) (ho r hr)).2.2 k hk,(E.row hr (ho r hr) (aW _)).2.2 k hk⟩)
  (λr hr=>⟨(E.row hr (aW _) (ho r hr)).2.1,(E.row hr (ho r hr) (aW _)).2.1⟩) λr hr=>(E.row hr (aW _) (ho r hr)).2.1
 obtain ⟨v,hv⟩:=E.has aV (p:=p) (sO (E.row hr (aW _) (ho r hr)).1.1 h1) (sO h2 (E.row hs (ho s hs) (aW _)).1.2)
 obtain ⟨q,hq,k1,k2,_⟩:=rB hv
 exact ⟨q,hq,k1,k2⟩
def gv(l:Int×Int):Prop:=(-(10^131)<=l.1/\l.1<=10^131)/\(-(10^83)<=l.2/\l.2<=10^83)
theorem za{l:Int×Int}(h:gv l){p:Int}(hp:-(10^83)<=p/\p<=10^83):-(10^167)<=di l p/\di l p<=10^167:=by
 unfold gv at h
 unfold di
 have hm:=sX (a:=l.2) (b:=p) (A:=10^83) (B:=10^83) (by ext h) (by ext h) (by ext hp) (by ext hp)
 have e:(10^83:Int)*10^83=10^166:=by decide +kernel
 rw [e] at hm
 ext h hm
theorem dA.vals{lo hi:Int}{Ls:List (Int×Int)}{fs:List Row}(E:dA lo hi Ls fs)(hb:∀l∈Ls,gv l)(h1:-(10^83)<=lo)(h2:hi<=10^83):∀x c,look fs x=some c->(-(10^83)<=x/\x<=10^83)/\(-(10^167)<=c/\c<=10^167):=λx c h=>by
 obtain ⟨k1,⟨l,hl,rfl⟩,_⟩:=(E.val x c).mp h
 exact ⟨by ext h1 h2 k1,za (hb l hl) (by ext h1 h2 k1)⟩
theorem dA.bd{lo hi:Int}{Ls:List (Int×Int)}{fs:List Row}(E:dA lo hi Ls fs)(hb:∀l∈Ls,gv l)(h1:-(10^83)<=lo)(h2:hi<=10^83):∀r∈fs,aq (10^180) r:=λr hr=>by
 have:=rA E.canon (B:=10^83) (C:=10^167) (by decide) (E.vals hb h1 h2) r hr
 unfold aq
 ext this
theorem b6F{lo hi:Int}{Ls Ms:List (Int×Int)}{A B:List Row}(EA:dA lo hi Ls A)(EB:dA lo hi Ms B)(hL:∀l∈Ls,gv l)(hM:∀l∈Ms,gv l)(n1:Ls≠[])(n2:Ms≠[])(h1:-(10^83)<=lo)(h2:hi<=10^83)(hl:Ls.length+Ms.length<=16384):
  ∃fs:List Row,iX [.tup (A.map Row.d),.tup (B.map Row.d)]=some (.sh (.tup (fs.map Row.d)))/\dA lo hi (Ls++Ms) fs:=by
 have la:=EA.len n1
 have lb:=EB.len n2
 obtain ⟨fs,e,c,lk,_⟩:=Qj (V:=10^83) (C:=10^167) EA.canon.bD EB.canon.bD (EA.bd hL h1 h2) (EB.bd hM h1 h2) (by decide) (by decide) (EA.vals hL h1 h2) (EB.vals hM h1 h2) (by unfold lE;omega)
 refine ⟨fs,e,c,λp v=>?_⟩
 rw [lk]
 by_cases hp:lo<=p/\p<=hi
 .obtain ⟨a,ha⟩:=EA.has n1 hp.1 hp.2
  obtain ⟨b,hb⟩:=EB.has n2 hp.1 hp.2
  obtain ⟨_,⟨l,hl,a1⟩,a2⟩:=(EA.val p a).mp ha
  obtain ⟨_,⟨m,hm,b1⟩,b2⟩:=(EB.val p b).mp hb
  rw [ha,hb]
  show some (min a b)=some v↔_
  constructor
  .intro z
   cases z
   refine ⟨hp,?_,λk hk=>?_⟩
   .by_cases jP:a<=b
    .exact ⟨l,gf _ hl,by ext a1 jP⟩
    .exact ⟨m,fF _ hm,by ext b1 jP⟩
   .rcases bU.mp hk with hk | hk
    .have:=a2 k hk;ext this
    .have:=b2 k hk;ext this
  .rintro ⟨_,⟨k,hk,rfl⟩,h⟩
   have i1:=h l (gf _ hl)
   have i2:=h m (fF _ hm)
   congr 1
   rcases bU.mp hk with hk | hk
   .have:=a2 k hk;ext a1 b1 i1 i2 this
   .have:=b2 k hk;ext a1 b1 i1 i2 this
 .have ha:look A p=none:=by
   cases q:look A p with
   | none=>rfl
   | some a=>exact absurd ((EA.val p a).mp q).1 hp
  have hb:look B p=none:=by
   cases q:look B p with
   | none=>rfl
   | some a=>exact absurd ((EB.val p a).mp q).1 hp
  rw [ha,hb]
  exact ⟨λz=>(nomatch z),λz=>absurd z.1 hp⟩
def FF(φ:List D->Option Sl)(n:Nat):Prop:=∀{lo hi:Int} {ff:Int×Int->List Row} {Ls:List (Int×Int)} {r:Bool},-(10^83)<=lo->hi<=10^83->(∀l∈Ls,gv l/\dA lo hi [l] (ff l))->Ls≠[]->Ls.length<=n->∃fs:List Row,φ [.lst r (Ls.map λl=>.tup ((ff l).map Row.d))]=some (.sh (.tup (fs.map Row.d)))/\dA lo hi Ls fs
theorem P5{φ:List D->Option Sl}{ψ:List D->Option Sl}(W:∀{a0:D} {Q:Sl->Prop},Wo (ψ [a0]) Q↔Wo (Gl φ [.sh a0,.no]) (aG Q)):FF ψ 1:=λ{lo hi ff Ls r} h1 h2 hf aV hl=>by
 match Ls,aV,hl with
 | [l],_,_ =>
  refine ⟨ff l,Wo.eq (W.mpr ?_),(hf l (aR ..)).2⟩
  unfold Gl
  dsimp only [mP]
  walk_at "vc"
  exact λz=>nomatch z
theorem nN{φ ψ:List D->Option Sl}{n:Nat}(hn:n<=8192)(h:FF φ n)(W:∀{a0:D} {Q:Sl->Prop},Wo (ψ [a0]) Q↔Wo (Gl φ [.sh a0,.no]) (aG Q)):FF ψ (2*n):=λ{lo hi ff Ls r} h1 h2 hf aV hl=>by
 by_cases hlen:Ls.length<2
 .have iC:=pj.mpr aV
  exact P5 W h1 h2 hf aV (by ext hlen)
 .obtain ⟨k,hk⟩:∃k:Nat,(Ls.length:Int)/2=k:=⟨((Ls.length:Int)/2).toNat,by omega⟩
  have wo:1<=k:=by omega
  have oY:k<Ls.length:=by omega
  have nA:Ls.take k≠[]:=p8 (by rw [gz];ext wo oY)
  have nB:Ls.drop k≠[]:=p8 (by rw [lD];ext oY)
  obtain ⟨A,ea,EA⟩:=h (r:=false) h1 h2 (Ls:=Ls.take k) (λl jO=>hf l (qY jO)) nA (by rw [gz];omega)
  obtain ⟨B,eb,EB⟩:=h (r:=false) h1 h2 (Ls:=Ls.drop k) (λl jO=>hf l (qX jO)) nB (by rw [lD];omega)
  obtain ⟨fs,ef,E⟩:=b6F EA EB (λl jO=>(hf l (qY jO)).1) (λl jO=>(hf l (qX jO)).1) nA nB h1 h2 (by rw [gz,lD];omega)
  rw [mS] at E
  refine ⟨fs,Wo.eq (W.mpr ?_),E⟩
  unfold Gl
  walk_at "v1"
  refine qf ?_ ?_
  .walk_at "vc"
   rw [aX]
   ext hlen
  walk_at "v1"
  rw [aX,hk,Bm,Bm,Pk _ (by ext oY),Pj _ (by ext oY)]
  walk_at "v1"
  refine ⟨Kp (by decide) (by decide),?_⟩
  rw [ea]
  walk_at "v1"
  rw [eb]
  walk_at "v1"
  rw [ef]
  walk_at "vc"
theorem y9:FF pL 8192:=
 (nN (n:=4096) (by decide) (nN (n:=2048) (by decide) (nN (n:=1024) (by decide) (nN (n:=512) (by decide) (nN (n:=256) (by decide) (nN (n:=128) (by decide) (nN (n:=64) (by decide) (nN (n:=32) (by decide) (nN (n:=16) (by decide) (nN (n:=8) (by decide) (nN (n:=4) (by decide) (nN (n:=2) (by decide) (nN (n:=1) (by decide) (P5 (φ:=B0) a8n) (φ:=xF) a8m) (φ:=xG) a8l) (φ:=xH) a8k) (φ:=xI) a8j) (φ:=xJ) a8i) (φ:=xK) a8h) (φ:=xM) a8g) (φ:=vI) Sy) (φ:=tJ) MB) (φ:=rG) Fq) (φ:=rH) Ft) (φ:=rJ) Fu) (φ:=rE) bB)
theorem b8E{x c lo hi:Int}(h:lo<=hi)(hx:-(10^83)<=x/\x<=10^83)(hc:-(10^131)<=c/\c<=10^131)(h1:-(10^83)<=lo)(h2:hi<=10^83):∃fs:List Row,vG [.int x,.int c,.int lo,.int hi]=some (.sh (.tup (fs.map Row.d)))/\dA lo hi [(c,-x)] fs:=by
 have hm:=sX (a:=lo) (b:=x) (A:=10^83) (B:=10^83) (by ext h1) (by ext h h2) (by ext hx) (by ext hx)
 have e:(10^83:Int)*10^83=10^166:=by decide +kernel
 rw [e] at hm
 obtain ⟨fs,ef,L⟩:=vn (rows:=[(lo,hi,c-lo*x,-x)]) ⟨λr hr=>by rw [bQ.mp hr];exact h,p7 _ _⟩ (λr hr=>by rw [bQ.mp hr];unfold aq;dsimp only;ext h hx hc h1 h2 hm) (by simp) (ro:=false)
 refine ⟨fs,?_,L.canon,λp v=>?_⟩
 .refine Wo.eq (nR.mpr ?_)
  unfold Lh
  walk_at "vc"
  refine ⟨tB (by ext h1) (by ext h h2) (by ext hx) (by ext hx),?_⟩
  rw [show [D.tup [D.int lo,D.int hi,D.int (c-lo*x),D.int (-x)]]=([(lo,hi,c-lo*x,-x)]:List Row).map Row.d from rfl,ef]
  walk_at "vc"
 .rw [iK L.canon.bD,L.val]
  have n6:∀y,Row.at (lo,hi,c-lo*x,-x) y=di (c,-x) y:=λy=>by unfold Row.at di;dsimp only;grind
  constructor
  .rintro ⟨r,hr,k1,k2,rfl⟩
   rw [bQ.mp hr] at *
   exact ⟨⟨k1,k2⟩,⟨_,bQ.mpr rfl,n6 p⟩,λl hl=>by rw [bQ.mp hl,n6 p];exact aW _⟩
  .rintro ⟨hp,⟨l,hl,rfl⟩,_⟩
   rw [bQ.mp hl]
   exact ⟨_,bQ.mpr rfl,hp.1,hp.2,(n6 p).symm⟩
noncomputable def rq(n:Int)(r:Row):Row:=(r.1,r.2.1,r.2.2.1*n,r.2.2.2*n)
theorem b0I{A:List Row}(ha:bK A)(n:Int):bK (A.map (rq n))/\∀x c,Val (A.map (rq n)) x c↔(look A x).map (·*n)=some c:=
 b3T ha (rq n) (λ_=>⟨rfl,rfl⟩) (·*n) λr x=>by unfold rq Row.at;dsimp only;grind
theorem O5{A:List Row}(cA:Canon A)(ha:∀r∈A,aq (10^180) r)(l1:A.length<=900000):∃fs:List Row,xE [.tup (A.map Row.d),.int (-1)]=some (.sh (.tup (fs.map Row.d)))/\Canon fs/\(∀x,look fs x=(look A x).map (·*(-1)))/\fs.length<=A.length:=by
 obtain ⟨p1,p2⟩:=b0I cA.bD (-1)
 have uz:∀r∈A.map (rq (-1)),aq (10^180) r:=λr hr=>by
  obtain ⟨q,hq,rfl⟩:=cS.mp hr
  have hb:=ha q hq
  unfold aq at hb
  unfold rq aq
  dsimp only
  ext hb
 obtain ⟨fs,ef,L⟩:=vn p1 uz (by rw [aX];ext l1) (ro:=false)
 refine ⟨fs,?_,L.canon,λx=>Kv L.canon.bD λc=>by rw [L.val,p2],by have:=L.len;rw [aX] at this;exact this⟩
 refine Wo.eq (rM.mpr ?_)
 unfold Kj
 walk_at "vc"
 rw [pG Row.d (λr=>(rq (-1) r).d) (λe=>∃x0,e=[x0,.sh (.int (-1))]) A (λr hr e he=>?_) ⟨_,rfl⟩]
 .rw [aX]
  walk_at "vc"
  rw [show A.map (λr=>(rq (-1) r).d)=(A.map (rq (-1))).map Row.d by rw [fM];rfl,ef]
  walk_at "vc"
  ext l1
 .obtain ⟨x0,rfl⟩:=he
  have hb:=ha r hr
  unfold aq at hb
  rw [cP r]
  walk_at "vc"
  exact ⟨⟨_,rfl⟩,tB (by ext hb) (by ext hb) (by ext) (by ext),tB (by ext hb) (by ext hb) (by ext) (by ext),rfl⟩
noncomputable def mj(r:Row):List (Int×Int):=[(r.2.2.1,-r.1),(r.at r.2.1,-r.2.1)]
theorem xw:∀fs:List Row,(fs.flatMap mj).length=2*fs.length
 | []=>rfl
 | r::fs=>by
  rw [q8,cO,xw fs]
  show 2+2*fs.length=2*(fs.length+1)
  ext
theorem b6H{fs:List Row}(aV:fs≠[])(hl:fs.length<=4096)(hb:∀r∈fs,((-(10^83)<=r.1/\r.1<=10^83)/\(-(10^83)<=r.2.1/\r.2.1<=10^83))/\(-(10^131)<=r.2.2.1/\r.2.2.1<=10^131)/\(-(10^131)<=r.at r.2.1/\r.at r.2.1<=10^131)/\(-(10^150)<=r.2.2.2/\r.2.2.2<=10^150)){lo hi:Int}(h:lo<=hi)(h1:-(10^83)<=lo)(h2:hi<=10^83):
  ∃A gs:List Row,oB [.tup (fs.map Row.d),.int lo,.int hi]=some (.sh (.tup (gs.map Row.d)))/\Canon gs/\dA lo hi (fs.flatMap mj) A/\(∀p,look gs p=(look A p).map (·*(-1)))/\gs.length<=A.length:=by
 have one:∀l:Int×Int,∃A:List Row,gv l->vG [.int (-l.2),.int l.1,.int lo,.int hi]=some (.sh (.tup (A.map Row.d)))/\dA lo hi [l] A:=λl=>by
  by_cases hB:gv l
  .have o5:=hB
   unfold gv at o5
   obtain ⟨A,e,E⟩:=b8E (x:=-l.2) (c:=l.1) h (by ext o5) (by ext o5) h1 h2
   rw [Int.neg_neg] at E
   exact ⟨A,λ_=>⟨e,E⟩⟩
  .exact ⟨[],λz=>absurd z hB⟩
 obtain ⟨ff,qM⟩:=DM one
 have Ab:∀l∈fs.flatMap mj,gv l:=λl jO=>by
  obtain ⟨r,hr,jO⟩:=iH.mp jO
  have:=hb r hr
  unfold mj at jO
  simp only [br,gq,or_false] at jO
  unfold gv
  rcases jO with rfl | rfl<;>dsimp only<;>ext this
 have hlen:=xw fs
 have iC:=pj.mpr aV
 obtain ⟨A,ea,EA⟩:=y9 (ff:=ff) (Ls:=fs.flatMap mj) (r:=false) h1 h2 (λl jO=>⟨Ab l jO,(qM l (Ab l jO)).2⟩) (p8 (by ext hlen iC)) (by omega)
 obtain ⟨gs,eg,cg,lg,ll⟩:=O5 EA.canon (EA.bd Ab h1 h2) (by have:=EA.len (p8 (by ext hlen iC));omega)
 refine ⟨A,gs,Wo.eq (rP.mpr ?_),cg,EA,lg,ll⟩
 unfold Ky
 walk_at "v1"
 rw [show tF [.tup (fs.map Row.d)]=some (.sh (.tup (fs.map Row.d))) from Wo.eq (iY.mpr (by
  unfold E9
  walk_at "v1"
  refine qf ?_ ?_
  .walk_at "vc"
   rw [aX]
   ext iC
  walk_at "vc"))]
 walk_at "v1"
 refine mq Row.d (λpre env=>∃x4,env=[.sh (.tup (fs.map Row.d)),.sh (.int lo),.sh (.int hi),.ow ((pre.flatMap mj).map λl=>.tup ((ff l).map Row.d)),x4]) fs (λpre r post env e h=>?_) (λenv h=>?_) ⟨_,rfl⟩
 .obtain ⟨x4,rfl⟩:=h
  have hr:r∈fs:=by rw [e];simp
  have hp:pre.length<fs.length:=by rw [e];simp
  have dB:=xw pre
  have ie:=hb r hr
  have l1:=(qM (r.2.2.1,-r.1) (Ab _ (iH.mpr ⟨r,hr,aR ..⟩))).1
  have l2:=(qM (r.at r.2.1,-r.2.1) (Ab _ (iH.mpr ⟨r,hr,a9 _ (aR ..)⟩))).1
  dsimp only at l1 l2
  rw [Int.neg_neg] at l1 l2
  rw [cP]
  walk_at "v1"
  rw [l1]
  walk_at "v1"
  rw [<-cP,Bj (r:=r) (x:=r.2.1) (by ext ie) (by ext ie) (by ext ie) (by ext ie)]
  walk_at "v1"
  rw [l2]
  walk_at "v1"
  rw [cO,aX]
  have hE:((pre++[r]).flatMap mj).map (λl=>D.tup ((ff l).map Row.d))=(pre.flatMap mj).map (λl=>D.tup ((ff l).map Row.d))++[D.tup ((ff (r.2.2.1,-r.1)).map Row.d)]++[D.tup ((ff (r.at r.2.1,-r.2.1)).map Row.d)]:=by
   rw [DS,ej]
   simp [mj]
  rw [hE]
  exact ⟨by omega,by show _+1<_;omega,_,rfl⟩
 .obtain ⟨x4,rfl⟩:=h
  rw [a9o,JK,Jx (by rfl)]
  walk_at "v1"
  rw [ea]
  walk_at "v1"
  rw [eg]
  walk_at "vc"
theorem b6o{fs A gs:List Row}{lo hi:Int}(E:dA lo hi (fs.flatMap mj) A)(lg:∀p,look gs p=(look A p).map (·*(-1)))(ha:bK fs)(aV:fs≠[]){p:Int}(h1:lo<=p)(h2:p<=hi):∃g:Int,look gs p=some g/\bM fs p g:=by
 have hn:fs.flatMap mj≠[]:=p8 (by rw [xw];have:=pj.mpr aV;ext this)
 obtain ⟨v,hv⟩:=E.has hn h1 h2
 obtain ⟨_,⟨l,hl,e⟩,m⟩:=(E.val p v).mp hv
 refine ⟨v*(-1),by rw [lg,hv];rfl,?_,λx c h=>?_⟩
 .obtain ⟨r,hr,hl⟩:=iH.mp hl
  have ho:=ha.1 r hr
  unfold mj at hl
  simp only [br,gq,or_false] at hl
  rcases hl with rfl | rfl
  .exact ⟨r.1,r.at r.1,⟨r,hr,aW _,ho,rfl⟩,by rw [e];unfold di Row.at;dsimp only;grind⟩
  .exact ⟨r.2.1,r.at r.2.1,⟨r,hr,ho,aW _,rfl⟩,by rw [e];unfold di;dsimp only;grind⟩
 .obtain ⟨r,hr,k1,k2,rfl⟩:=h
  have m1:=m (r.2.2.1,-r.1) (iH.mpr ⟨r,hr,by unfold mj;simp⟩)
  have m2:=m (r.at r.2.1,-r.2.1) (iH.mpr ⟨r,hr,by unfold mj;simp⟩)
  clear m e hv
  unfold di Row.at at *
  dsimp only at m1 m2
  by_cases hs:r.2.2.2<=p
  .have:=oq (show 0<=p-r.2.2.2 by ext hs) (show 0<=r.2.1-x by ext k2)
   grind
  .have:=oq (show 0<=r.2.2.2-p by ext hs) (show 0<=x-r.1 by ext k1)
   grind
theorem b1C{gs:List Row}{ss:List Span}{lo hi:Int}(S:aT gs ss)(h:lo<=hi)(eH:∀x,fg ss x↔lo<=x/\x<=hi):ss=[(lo,hi)]:=by
 have pt:∀s∈ss,lo<=s.1/\s.2<=hi/\s.1<=s.2:=λs hs=>by
  have o:=S.ok s hs
  exact ⟨((eH s.1).mp ⟨s,hs,aW _,o⟩).1,((eH s.2).mp ⟨s,hs,o,aW _⟩).2,o⟩
 match ss,S.apart,eH,pt with
 | [],_,eH,_=>obtain ⟨s,hs,_⟩:=(eH lo).mpr ⟨aW _,h⟩;cases hs
 | [s],_,eH,pt =>
  obtain ⟨a,ha,k1,_⟩:=(eH lo).mpr ⟨aW _,h⟩
  obtain ⟨b,hb,_,k2⟩:=(eH hi).mpr ⟨h,aW _⟩
  rw [bQ.mp ha] at k1
  rw [bQ.mp hb] at k2
  have:=pt s (aR ..)
  have e1:s.1=lo:=by ext k1 this
  have e2:s.2=hi:=by ext k2 this
  rw [<-e1,<-e2]
 | s::t::ss,ap,eH,pt =>
  have ui:=(dg.mp ap).1
  have p1:=pt s (aR ..)
  have p2:=pt t (a9 _ (aR ..))
  have q1:=ui t (aR ..)
  obtain ⟨c,hc,k1,k2⟩:=(eH (s.2+1)).mpr ⟨by ext p1,by ext p2 q1⟩
  rcases br.mp hc with rfl | hc
  .ext _ k2
  .have:=ui c hc
   ext _ k1 this
theorem QZ(c:Int):∃b:Int,vK [.int c]=some (.sh (.int b))/\0<=b/\b<50:=by
 have key:Wo (vK [.int c]) λs=>∃b:Int,s=.sh (.int b)/\0<=b/\b<50:=by
  refine jH.mpr ?_
  unfold Ml
  walk_at "vc"
  exact ⟨λ_=>⟨0,rfl,by decide,by decide⟩,λ_=>⟨Kp (by decide) (by decide),_,rfl,by omega,by omega⟩⟩
 obtain ⟨s,e,b,rfl,h⟩:=key
 exact ⟨b,e,h⟩
theorem b3j(a b:Int):sortI [.int a,.int b]=some [.int (min a b),.int (max a b)]:=by
 have e:[a,b].mergeSort (λa b=>decide (a<=b))=[min a b,max a b]:=by
  by_cases h:a<=b
  .rw [Int.min_eq_left h,Int.max_eq_right h]
   simp [List.mergeSort,OT,List.merge,h]
  .rw [Int.min_eq_right (by ext h),Int.max_eq_left (by ext h)]
   simp [List.mergeSort,OT,List.merge,h]
 show some (mP D.int ([a,b].mergeSort λa b=>decide (a<=b)))=_
 rw [e]
 rfl
theorem Pn{fs:List Row}(aV:fs≠[]):tF [.tup (fs.map Row.d)]=some (.sh (.tup (fs.map Row.d))):=by
 have iC:=pj.mpr aV
 refine Wo.eq (iY.mpr ?_)
 unfold E9
 walk_at "v1"
 refine qf ?_ ?_
 .walk_at "vc"
  rw [aX]
  ext iC
 walk_at "vc"
theorem Ax{r:Row}{rs:List Row}:xV [.tup ((r::rs).map Row.d)]=some (.sh (.int r.1)):=by
 refine Wo.eq (h7.mpr ?_)
 unfold Mx
 walk_at "vc"
 rw [Pn (by simp)]
 walk_at "vc"
 rw [show dF ((r::rs).map Row.d) 0=some r.d from Km (rs:=r::rs) (n:=0) (by simp),a0i,cP]
 walk_at "vc"
theorem Aw{rs:List Row}{q:Row}:xN [.tup ((rs++[q]).map Row.d)]=some (.sh (.int q.2.1)):=by
 refine Wo.eq (iM.mpr ?_)
 unfold Md
 walk_at "vc"
 rw [Pn (by simp)]
 walk_at "vc"
 rw [show dF ((rs++[q]).map Row.d) (-1)=some q.d by rw [ej];exact dW,a0i,cP]
 walk_at "vc"
theorem b6x{fs:List Row}(ha:bK fs)(aV:fs≠[]):∃a b,xV [.tup (fs.map Row.d)]=some (.sh (.int a))/\xN [.tup (fs.map Row.d)]=some (.sh (.int b))/\(∃c,Val fs a c)/\(∃c,Val fs b c)/\a<=b/\∀x c,Val fs x c->a<=x/\x<=b:=by
 obtain ⟨r,rs,e1⟩:∃r rs,fs=r::rs:=by
  cases fs with
  | nil=>exact absurd rfl aV
  | cons r rs=>exact ⟨r,rs,rfl⟩
 obtain ⟨us,q,e2⟩:∃us q,fs=us++[q]:=⟨fs.dropLast,fs.getLast aV,(Jj aV).symm⟩
 have hr:r∈fs:=by rw [e1];simp
 have hq:q∈fs:=by rw [e2];simp
 have lo:∀z∈fs,r.1<=z.1:=λz hz=>by
  rw [e1] at hz
  rcases br.mp hz with rfl | hz
  .exact aW _
  .have h2:=ha.2
   rw [e1] at h2
   have:=(dg.mp h2).1 z hz
   have:=ha.1 r hr
   omega
 have up:∀z∈fs,z.2.1<=q.2.1:=λz hz=>by
  rw [e2] at hz
  rcases bU.mp hz with hz | hz
  .have h2:=ha.2
   rw [e2] at h2
   have:=(gr.mp h2).2.2 z hz q (by simp)
   have:=ha.1 q hq
   omega
  .rw [bQ.mp hz];exact aW _
 refine ⟨r.1,q.2.1,by rw [e1];exact Ax,by rw [e2];exact Aw,⟨_,r,hr,aW _,ha.1 r hr,rfl⟩,⟨_,q,hq,ha.1 q hq,aW _,rfl⟩,?_,λx c h=>?_⟩
 .have:=lo q hq
  have:=ha.1 q hq
  omega
 .obtain ⟨z,hz,h1,h2,_⟩:=h
  have:=lo z hz
  have:=up z hz
  omega
noncomputable def own(r:Row):List Int:=if r.1=r.2.1 then [] else [r.2.2.2]
noncomputable def conn(a r:Row):Int:=r.2.2.1-a.at a.2.1
noncomputable def iJ:Row->List Row->List Int
 | _,[]=>[]
 | a,r::rs=>conn a r::(own r++iJ r rs)
noncomputable def eM:List Row->List Int
 | []=>[]
 | r::rs=>own r++iJ r rs
theorem Sk{a r:Row}:∀{rs:List Row} {b:Row},iJ b (rs++[a]++[r])=iJ b (rs++[a])++conn a r::own r
 | [],b=>by simp [iJ]
 | q::rs,b=>by
  have:=Sk (a:=a) (r:=r) (rs:=rs) (b:=q)
  show conn b q::(own q++iJ q (rs++[a]++[r]))=conn b q::(own q++iJ q (rs++[a]))++conn a r::own r
  rw [this]
  simp
theorem a9l{a r:Row}{rs:List Row}:eM (rs++[a]++[r])=eM (rs++[a])++conn a r::own r:=by
 cases rs with
 | nil=>simp [eM,iJ]
 | cons q rs =>
  have:=Sk (a:=a) (r:=r) (rs:=rs) (b:=q)
  show own q++iJ q (rs++[a]++[r])=own q++iJ q (rs++[a])++conn a r::own r
  rw [this]
  simp
theorem enum_rows(rs:List Row):pD (rs.map Row.d)=rs.zipIdx.map λp=>D.tup [.int p.2,p.1.d]:=by
 unfold pD
 rw [List.zipIdx_map,fM]
 rfl
theorem b1c{α:Type}{cs:List α}{pre post:List (α×Nat)}{a:α×Nat}(e:cs.zipIdx=pre++a::post):a.2=pre.length/\cs[pre.length]?=some a.1:=by
 have h:=congrArg (λl=>l[pre.length]?) e
 simp at h
 obtain ⟨x,h1,h⟩:=h
 rw [<-h]
 exact ⟨rfl,h1⟩
theorem b6B{fs:List Row}(hb:∀r∈fs,aq (10^180) r)(hl:fs.length<=1000):BI [.tup (fs.map Row.d)]=some (.ow ((eM fs).map D.int)):=by
 refine Wo.eq (mw.mpr ?_)
 unfold Lr
 walk_at "v1"
 rw [enum_rows]
 have GK:∀(rs:List Row),(eM rs).length<=2*rs.length:=λrs=>by
  have key:∀(rs:List Row) (a:Row),(iJ a rs).length<=2*rs.length:=λrs=>by
   induction rs with
   | nil=>intro a;simp [iJ]
   | cons r rs ih =>
    intro a
    have:=ih r
    simp only [iJ,gy,cO,own]
    split<;>simp<;>ext this
  cases rs with
  | nil=>simp [eM]
  | cons r rs =>
   have:=key rs r
   simp only [eM,gy,cO,own]
   split<;>simp<;>ext this
 refine mq (λp:Row×Nat=>D.tup [.int p.2,p.1.d]) (λpre env=>∃x2 x3,env=[.sh (.tup (fs.map Row.d)),.ow ((eM (fs.take pre.length)).map D.int),x2,x3]) fs.zipIdx (λpre a post env e h=>?_) (λenv h=>?_) ⟨_,_,rfl⟩
 .obtain ⟨x2,x3,rfl⟩:=h
  obtain ⟨ea,hr⟩:=b1c e
  obtain ⟨r,n⟩:=a
  dsimp only at ea hr
  subst ea
  rw [cO,AU]
  generalize pre.length=n at *
  have hn:n<fs.length:=(lC.mp hr).1
  have ie:=hb r (IT hr)
  have ht:fs.take (n+1)=fs.take n++[r]:=by rw [List.take_add_one,hr];rfl
  have eJ:=GK (fs.take n)
  rw [gz] at eJ
  dsimp only
  walk_at "v1"
  refine Wo.mono (P:=λq=>∃ps:List Int,q=(.nx,[.sh (.tup (fs.map Row.d)),.ow (ps.map D.int),.sh (.int n),.sh r.d])/\ps.length<=10000/\ps++own r=eM (fs.take (n+1))) ?_ λq hq=>?_
  .rw [a3e]
   walk_at "vc"
   refine ⟨λhp=>?_,λhp=>?_⟩
   .have sk:n-1<fs.length:=by ext hn
    have Ad:=hb fs[n-1] (nD sk)
    unfold aq at Ad ie
    rw [show ((n:Int)-1)=((n-1:Nat):Int) by ext hp,KI sk]
    have ed:=Bj (r:=fs[n-1]) (x:=fs[n-1].2.1) (by ext sk Ad) (by ext sk Ad) (by ext sk Ad) (by ext sk Ad)
    walk_at "vc"
    rw [cP r,cP fs[n-1]]
    rw [cP fs[n-1]] at ed
    walk_at "vc"
    rw [ed]
    walk_at "vc"
    rw [aX]
    refine ⟨by ext hl eJ sk,eM (fs.take n)++[conn fs[n-1] r],by rw [ej];rfl,by simp;omega,?_⟩
    have XI:fs.take n=fs.take (n-1)++[fs[n-1]]:=by
     conv=>lhs;rw [show n=n-1+1 by ext hp]
     rw [List.take_add_one,rf sk];rfl
    rw [ht,XI,a9l]
    simp
   .have:n=0:=by ext hp
    subst this
    refine ⟨[],by simp [eM],by simp,?_⟩
    rw [ht]
    simp [eM,iJ]
  .obtain ⟨ps,rfl,dB,Hb⟩:=hq
   walk_at "v1"
   rw [a3e]
   walk_at "vc"
   rw [D4]
   walk_at "vc"
   rw [<-Hb]
   unfold own
   refine ⟨λh=>?_,λh=>?_⟩
   .rw [cP r]
    walk_at "vc"
    rw [aX]
    refine ⟨by ext dB,_,_,by rw [if_neg h,ej];rfl⟩
   .exact ⟨_,_,by rw [if_pos h,mQ]⟩
 .obtain ⟨x2,x3,rfl⟩:=h
  walk_at "vc"
  rw [OH,IA]
noncomputable def fZ:List Int->Prop
 | []=>True
 | [_]=>True
 | a::b::l=>a<=b/\fZ (b::l)
theorem mU:∀{l:List Int},fZ l↔l.Pairwise (·<=·)
 | []=>by simp [fZ]
 | [a]=>by simp [fZ]
 | a::b::l=>by
  rw [fZ,mU (l:=b::l),dg (l:=b::l)]
  constructor
  .rintro ⟨h1,h2⟩
   refine ⟨λc hc=>?_,h2⟩
   rcases br.mp hc with rfl | hc
   .exact h1
   .exact sO h1 ((dg.mp h2).1 c hc)
  .rintro ⟨h1,h2⟩
   exact ⟨h1 b aR,h2⟩
def Conv(fs:List Row):Prop:=∀x c0 c1 c2,Val fs x c0->Val fs (x+1) c1->Val fs (x+2) c2->2*c1<=c0+c2
noncomputable def Jw:List Row->Prop
 | []=>True
 | [_]=>True
 | a::r::rs=>r.1=a.2.1+1/\Jw (r::rs)
theorem Val.cons{r:Row}{rs:List Row}{x c:Int}:Val (r::rs) x c↔(r.1<=x/\x<=r.2.1/\c=r.at x)\/Val rs x c:=by
 unfold Val
 simp only [br,exists_eq_or_imp]
theorem tj(r:Row)(x:Int):r.at (x+1)=r.at x+r.2.2.2:=by unfold Row.at;grind
theorem xi(r:Row):r.at r.1=r.2.2.1:=by unfold Row.at;simp
theorem Ry:∀{fs:List Row},Canon fs->Jw fs->(fZ (eM fs)↔Conv fs)
 | [],_,_=>by
  simp only [eM,fZ,true_iff]
  intro x c0 c1 c2 h
  obtain ⟨_,z,_⟩:=h
  cases z
 | [r],hc,_=>by
  have e:fZ (eM [r]):=by
   simp only [eM,iJ,mQ,own]
   split<;>trivial
  simp only [e,true_iff]
  intro x c0 c1 c2 h0 h1 h2
  rw [Val.one] at h0 h1 h2
  have e1:=tj r x
  have e2:=tj r (x+1)
  rw [show x+1+1=x+2 by ext] at e2
  ext h0 h1 h2 e1 e2
 | r::q::rs,hc,ht=>by
  have Yi:=hc.bD
  have n5:Canon (q::rs):=⟨λz hz=>hc.1 z (a9 _ hz),hc.2.tail⟩
  have ih:=Ry n5 ht.2
  have YH:qb r q:=hc.2.get 0 (by simp)
  have ic:q.1=r.2.1+1:=ht.1
  have sf:r.1<r.2.1:=(YH.2 ic).1
  have l7:=(hc.1 q (by simp)).1
  have qJ:∀z∈rs,q.2.1<z.1:=(dg.mp n5.bD.2).1
  have Hd:own r=[r.2.2.2]:=if_neg (by ext sf)
  have y8:q.1=q.2.1->rs=[]:=λz=>by
   cases rs with
   | nil=>rfl
   | cons w ws =>
    have f2:qb q w:=n5.2.get 0 (by simp)
    have:=(f2.2 ht.2.1).1
    ext _ z this
  have e0:eM (r::q::rs)=r.2.2.2::conn r q::eM (q::rs):=by
   show own r++conn r q::(own q++iJ q rs)=_
   rw [Hd]
   rfl
  have hd:fZ (conn r q::eM (q::rs))↔(q.1≠q.2.1->conn r q<=q.2.2.2)/\fZ (eM (q::rs)):=by
   by_cases z:q.1=q.2.1
   .have:=y8 z
    subst this
    have:eM [q]=[]:=by simp [eM,iJ,own,z]
    rw [this]
    simp [fZ,z]
   .have:eM (q::rs)=q.2.2.2::iJ q rs:=by simp [eM,own,z]
    rw [this,fZ]
    simp [z]
  have lo:∀{x c},Val (q::rs) x c->q.1<=x:=λ{x c} h=>by
   rcases Val.cons.mp h with h | ⟨w,hw,h1,_⟩
   .exact h.1
   .have:=qJ w hw;ext l7 h1 this
  rw [e0,fZ,hd,ih]
  constructor
  .rintro ⟨h1,h2,h3⟩ x c0 c1 c2 v0 v1 v2
   unfold conn at h1 h2
   rcases Val.cons.mp v0 with v0 | v0
   .by_cases hx:x+2<=r.2.1
    .have w1:c1=r.at (x+1):=by
      rcases Val.cons.mp v1 with v | v
      .exact v.2.2
      .have:=lo v;ext ic hx this
     have w2:c2=r.at (x+2):=by
      rcases Val.cons.mp v2 with v | v
      .exact v.2.2
      .have:=lo v;ext ic hx this
     have e1:=tj r x
     have e2:=tj r (x+1)
     rw [show x+1+1=x+2 by ext] at e2
     ext v0 w1 w2 e1 e2
    .by_cases wa:x+1=r.2.1
     .have w1:c1=r.at (x+1):=by
       rcases Val.cons.mp v1 with v | v
       .exact v.2.2
       .have:=lo v;ext ic wa this
      have w2:c2=q.2.2.1:=by
       rcases Val.cons.mp v2 with v | v
       .ext wa v
       .rcases Val.cons.mp v with v | ⟨w,hw,k1,_⟩
        .rw [v.2.2,show x+2=q.1 by ext ic wa,xi]
        .have:=qJ w hw;ext ic l7 wa k1 this
      have e1:=tj r x
      rw [<-wa] at h1
      ext h1 v0 w1 w2 e1
     .have se:x=r.2.1:=by ext v0 hx wa
      have w1:c1=q.2.2.1:=by
       rcases Val.cons.mp v1 with v | v
       .ext se v
       .rcases Val.cons.mp v with v | ⟨w,hw,k1,_⟩
        .rw [v.2.2,show x+1=q.1 by ext ic se,xi]
        .have:=qJ w hw;ext ic l7 se k1 this
      have w2:q.1≠q.2.1/\c2=q.at (x+2):=by
       rcases Val.cons.mp v2 with v | v
       .ext se v
       .rcases Val.cons.mp v with v | ⟨w,hw,k1,k2,k3⟩
        .exact ⟨by ext ic se v,v.2.2⟩
        .exfalso
         by_cases z:q.1=q.2.1
         .rw [y8 z] at hw;cases hw
         .have:=qJ w hw;ext ic l7 se k1 z this
      have e2:=tj q q.1
      rw [xi,show q.1+1=x+2 by ext ic se] at e2
      have:=h2 w2.1
      rw [se] at v0
      ext v0 w1 w2 e2 this
   .have l0:=lo v0
    have w1:Val (q::rs) (x+1) c1:=by
     rcases Val.cons.mp v1 with v | v
     .ext _ ic l0 v
     .exact v
    have w2:Val (q::rs) (x+2) c2:=by
     rcases Val.cons.mp v2 with v | v
     .ext _ ic l0 v
     .exact v
    exact h3 x c0 c1 c2 v0 w1 w2
  .intro h
   have vr:∀x,r.1<=x->x<=r.2.1->Val (r::q::rs) x (r.at x):=λx h1 h2=>Val.cons.mpr (.inl ⟨h1,h2,rfl⟩)
   have vq:∀x,q.1<=x->x<=q.2.1->Val (r::q::rs) x (q.at x):=λx h1 h2=>Val.cons.mpr (.inr (Val.cons.mpr (.inl ⟨h1,h2,rfl⟩)))
   refine ⟨?_,λaV=>?_,λx c0 c1 c2 v0 v1 v2=>h x c0 c1 c2 (Val.cons.mpr (.inr v0)) (Val.cons.mpr (.inr v1)) (Val.cons.mpr (.inr v2))⟩
   .have:=h (r.2.1-1) _ _ _ (vr _ (by ext sf) (by ext)) (vr _ (by ext sf) (by ext)) (vq _ (by ext ic) (by ext ic l7))
    have e1:=tj r (r.2.1-1)
    rw [show r.2.1-1+2=q.1 by ext ic,xi] at this
    unfold conn
    rw [show r.2.1-1+1=r.2.1 by ext] at this e1
    ext this e1
   .have:=h r.2.1 _ _ _ (vr _ (by ext sf) (by ext)) (vq _ (by ext ic) (by ext ic l7)) (vq _ (by ext ic) (by ext ic l7 aV))
    have e2:=tj q q.1
    rw [show r.2.1+1=q.1 by ext ic,show r.2.1+2=q.1+1 by ext ic,xi] at this
    rw [xi] at e2
    unfold conn
    ext this e2
theorem Ra:∀{fs:List Row},bK fs->(∀x y z,x<=y->y<=z->(∃r∈fs,r.1<=x/\x<=r.2.1)->(∃r∈fs,r.1<=z/\z<=r.2.1)->∃r∈fs,r.1<=y/\y<=r.2.1)->Jw fs
 | [],_,_=>trivial
 | [_],_,_=>trivial
 | r::q::rs,ha,h=>by
  obtain ⟨p1,p2⟩:=dg.mp ha.2
  have C6:bK (q::rs):=⟨λz hz=>ha.1 z (a9 _ hz),p2⟩
  have hr:=ha.1 r (by simp)
  have hq:=ha.1 q (by simp)
  have Ha:=p1 q (by simp)
  have low:∀w∈q::rs,q.1<=w.1:=λw hw=>by
   rcases br.mp hw with rfl | hw
   .exact aW _
   .have:=(dg.mp p2).1 w hw;ext hq this
  refine ⟨?_,Ra C6 λx y z h1 h2 hx hz=>?_⟩
  .obtain ⟨w,hw,k1,k2⟩:=h r.2.1 (r.2.1+1) q.1 (by ext) (by ext Ha) ⟨r,by simp,hr,aW _⟩ ⟨q,by simp,aW _,hq⟩
   rcases br.mp hw with rfl | hw
   .ext k2
   .have:=low w hw;ext Ha k1 this
  .obtain ⟨u,hu,k1,k2⟩:=hx
   obtain ⟨v,hv,k3,k4⟩:=hz
   obtain ⟨w,hw,k5,k6⟩:=h x y z h1 h2 ⟨u,a9 _ hu,k1,k2⟩ ⟨v,a9 _ hv,k3,k4⟩
   rcases br.mp hw with rfl | hw
   .have:=low u hu;ext _ h1 k1 k6 Ha this
   .exact ⟨w,hw,k5,k6⟩
theorem b4D{ds:List D}{i:Int}{Q:D->Prop}(h0:0<=i)(h1:i<ds.length)(h:∀d∈ds,Q d):Wo (dF ds i) Q:=by
 obtain ⟨n,rfl⟩:=Ol h0
 have hn:n<ds.length:=by ext h1
 have:=tD (f:=λd:D=>d) (xs:=ds) (ds[n]) h0 (by simpa using hn)
 rw [List.map_id'] at this
 refine ⟨ds[n],?_,h _ (nD _)⟩
 rw [this]
 simp [hn]
open Classical in
noncomputable def gn(F:List Row)(p:Int):Int:=if h:∃g,bM F p g then choose h else 0
theorem Ei{F:List Row}{p g:Int}(h:bM F p g):gn F p=g:=by
 have hx:∃g,bM F p g:=⟨g,h⟩
 unfold gn
 rw [dif_pos hx]
 exact (Classical.choose_spec hx).uniq h
structure Gn(lo hi:Int)(fs gs:List Row):Prop where
 canon:Canon gs
 at_:∀p g,look gs p=some g↔(lo<=p/\p<=hi)/\bM fs p g
 ex:∀p,lo<=p->p<=hi->bM fs p (gn fs p)
theorem ES{fs:List Row}{V C:Int}(F:FV V C fs)(hV:V<=10^83)(hC:0<=C/\C<=10^131)(aV:fs≠[])(hl:fs.length<=4096){lo hi:Int}(h:lo<=hi)(h1:-(10^83)<=lo)(h2:hi<=10^83):
  ∃gs:List Row,oB [.tup (fs.map Row.d),.int lo,.int hi]=some (.sh (.tup (gs.map Row.d)))/\gs.length<=2*fs.length/\Gn lo hi fs gs:=by
 have hb:=rA F.canon hC.1 F.bd
 obtain ⟨A,gs,e,cg,E,lg,ll⟩:=b6H aV hl (λr hr=>by
  have k:=hb r hr
  have v:=F.bd r.2.1 _ (kE F.canon.bD hr (F.canon.bD.1 r hr) (aW _))
  ext hV hC k v) h h1 h2
 have ne2:fs.flatMap mj≠[]:=p8 (by rw [xw];have:=pj.mpr aV;ext this)
 have lA:=E.len ne2
 rw [xw] at lA
 have ex:∀p,lo<=p->p<=hi->∃g,look gs p=some g/\bM fs p g:=λp p1 p2=>b6o E lg F.canon.bD aV p1 p2
 refine ⟨gs,e,by ext ll lA,cg,λp g=>⟨λk=>?_,λk=>?_⟩,λp p1 p2=>?_⟩
 .have hp:lo<=p/\p<=hi:=by
   have k':=k
   rw [lg] at k'
   cases hA:look A p with
   | none=>rw [hA] at k';cases k'
   | some v=>exact ((E.val p v).mp hA).1
  obtain ⟨g',k',i⟩:=ex p hp.1 hp.2
  rw [k] at k'
  cases k'
  exact ⟨hp,i⟩
 .obtain ⟨g',k',i⟩:=ex p k.1.1 k.1.2
  rw [k',k.2.uniq i]
 .obtain ⟨g,_,i⟩:=ex p p1 p2
  rw [Ei i]
  exact i
theorem Gn.gn{lo hi:Int}{fs gs:List Row}(G:Gn lo hi fs gs){p:Int}(p1:lo<=p)(p2:p<=hi):look gs p=some (gn fs p):=(G.at_ p _).mpr ⟨⟨p1,p2⟩,G.ex p p1 p2⟩
structure HF(fs:List Row)(lo hi a b:Int)(H:List Row):Prop where
 fv:FV (10^47) (10^130) H
 len:H.length<=24
 gp:∀x h,look H x=some h->a<=x/\x<=b
 at_:∀x,a<=x->x<=b->∃h,look H x=some h/\(∃p,lo<=p/\p<=hi/\h=p*x-gn fs p)/\∀p,lo<=p->p<=hi->p*x-gn fs p<=h
 ga:∀p,lo<=p->p<=hi->bM fs p (gn fs p)
 la:∃c,Val fs a c
 lb:∃c,Val fs b c
 ab:a<=b
 all:∀x c,Val fs x c->a<=x/\x<=b
theorem Pm{fs gs:List Row}(F:FV (10^47) (10^80) fs)(aV:fs≠[]){lo hi:Int}(nr:lo<=hi)(h1:-(2*10^80)<=lo)(h2:hi<=2*10^80)(eg:oB [.tup (fs.map Row.d),.int lo,.int hi]=some (.sh (.tup (gs.map Row.d))))(G:Gn lo hi fs gs)(lg:gs.length<=12):
  ∃(H:List Row) (a b:Int),pJ [.tup (fs.map Row.d),.int lo,.int hi]=some (.sh (.tup (H.map Row.d)))/\HF fs lo hi a b H/\H.length<=2*gs.length:=by
 obtain ⟨a,b,ea,eb,⟨ca,va⟩,⟨cb,vb⟩,jP,hx⟩:=b6x F.canon.bD aV
 have ba:=(F.bd a ca ((iK F.canon.bD).mpr va)).1
 have bb:=(F.bd b cb ((iK F.canon.bD).mpr vb)).1
 have ee:(2*10^80:Int)*10^47=2*10^127:=by decide +kernel
 have hg:FV (2*10^80) (3*10^127) gs:=⟨G.canon,λp g k=>by
  obtain ⟨kp,⟨x,c,v,e⟩,_⟩:=(G.at_ p g).mp k
  have bx:=F.bd x c ((iK F.canon.bD).mpr v)
  have m:=sX (a:=p) (b:=x) (A:=2*10^80) (B:=10^47) (by ext h1 kp) (by ext h2 kp) (by ext bx) (by ext bx)
  rw [ee] at m
  ext h1 h2 kp e bx m⟩
 have Yz:gs≠[]:=λz=>by
  have:=G.gn (aW lo) nr
  rw [z] at this
  cases this
 obtain ⟨H,eh,lH,GH⟩:=ES hg (by decide) (by decide) Yz (by omega) jP (by ext ba) (by ext bb)
 have spec:∀x h,look H x=some h->(a<=x/\x<=b)/\(∃p,lo<=p/\p<=hi/\h=p*x-gn fs p)/\∀p,lo<=p->p<=hi->p*x-gn fs p<=h:=λx h k=>by
  obtain ⟨k1,⟨p,g,v,e⟩,k3⟩:=(GH.at_ x h).mp k
  obtain ⟨kp,ig⟩:=(G.at_ p g).mp ((iK G.canon.bD).mpr v)
  refine ⟨k1,⟨p,kp.1,kp.2,by rw [Ei ig,e,AJ]⟩,λp' p1 p2=>?_⟩
  have:=k3 p' _ ((iK G.canon.bD).mp (G.gn p1 p2))
  rw [AJ] at this
  exact this
 refine ⟨H,a,b,?_,⟨⟨GH.canon,λx h k=>?_⟩,by ext lg lH,λx h k=>(spec x h k).1,λx x1 x2=>⟨_,GH.gn x1 x2,(spec x _ (GH.gn x1 x2)).2⟩,G.ex,⟨ca,va⟩,⟨cb,vb⟩,jP,hx⟩,lH⟩
 .refine Wo.eq (vN.mpr ?_)
  unfold JN
  walk_at "vc"
  rw [eg]
  walk_at "vc"
  rw [ea]
  walk_at "vc"
  rw [eb]
  walk_at "vc"
  rw [eh]
  walk_at "vc"
 .obtain ⟨kx,⟨p,p1,p2,e⟩,_⟩:=spec x h k
  have b2:=hg.bd p _ (G.gn p1 p2)
  have m:=sX (a:=p) (b:=x) (A:=2*10^80) (B:=10^47) (by ext b2) (by ext b2) (by ext ba kx) (by ext bb kx)
  rw [ee] at m
  ext ba bb kx e b2 m
theorem HF.row{fs H:List Row}{lo hi a b:Int}(F:HF fs lo hi a b H):∀r∈H,aq (10^180) r:=F.fv.row (by decide) (by decide)
theorem HF.back{fs H:List Row}{lo hi a b:Int}(F:HF fs lo hi a b H){p:Int}(p1:lo<=p)(p2:p<=hi):bM H p (gn fs p):=by
 obtain ⟨⟨x,c,v,e⟩,k⟩:=F.ga p p1 p2
 refine ⟨⟨x,c,?_,e⟩,λy d w=>?_⟩
 .have hx:=F.all x c v
  obtain ⟨h,eh,⟨p',q1,q2,e'⟩,m⟩:=F.at_ x hx.1 hx.2
  have i1:=m p p1 p2
  have i2:=(F.ga p' q1 q2).2 x c v
  have:h=c:=by ext e e' i1 i2
  rw [<-this]
  exact (iK F.fv.canon.bD).mp eh
 .have w:=(iK F.fv.canon.bD).mpr w
  have hy:=F.gp y d w
  obtain ⟨h,eh,_,m⟩:=F.at_ y hy.1 hy.2
  rw [w] at eh
  cases eh
  have:=m p p1 p2
  ext this
theorem HF.gains{fs gs H:List Row}{lo hi a b:Int}(F:HF fs lo hi a b H)(G:Gn lo hi fs gs)(nr:lo<=hi)(h1:-(10^83)<=lo)(h2:hi<=10^83):oB [.tup (H.map Row.d),.int lo,.int hi]=some (.sh (.tup (gs.map Row.d))):=by
 have aV:H≠[]:=λz=>by
  obtain ⟨h,e,_⟩:=F.at_ a (aW _) F.ab
  rw [z] at e
  cases e
 have:=F.len
 obtain ⟨gs',e,_,G'⟩:=ES F.fv (by decide) (by decide) aV (by omega) nr h1 h2
 rw [e,Lv G'.canon G.canon λp=>?_]
 by_cases hp:lo<=p/\p<=hi
 .rw [G.gn hp.1 hp.2,G'.gn hp.1 hp.2,Ei (F.back hp.1 hp.2)]
 .have o:∀{fs gs:List Row},Gn lo hi fs gs->look gs p=none:=λ{fs gs} G=>by
   cases q:look gs p with
   | none=>rfl
   | some v=>exact absurd ((G.at_ p v).mp q).1 hp
  rw [o G,o G']
theorem HF.spec{fs H:List Row}{lo hi a b:Int}(F:HF fs lo hi a b H){x h:Int}(e:look H x=some h):(∃p,lo<=p/\p<=hi/\h=p*x-gn fs p)/\∀p,lo<=p->p<=hi->p*x-gn fs p<=h:=by
 have d:=F.gp x h e
 obtain ⟨h',e',k⟩:=F.at_ x d.1 d.2
 rw [e] at e'
 cases e'
 exact k
theorem HF.conv{fs H:List Row}{lo hi a b:Int}(F:HF fs lo hi a b H):Conv H:=λx c0 c1 c2 v0 v1 v2=>by
 rw [<-iK F.fv.canon.bD] at v0 v1 v2
 obtain ⟨⟨p,p1,p2,k⟩,_⟩:=F.spec v1
 have i0:=(F.spec v0).2 p p1 p2
 have i2:=(F.spec v2).2 p p1 p2
 rw [wG] at k i2
 ext k i0 i2
theorem HF.eH{fs H:List Row}{lo hi a b:Int}(F:HF fs lo hi a b H)(x:Int):(∃r∈H,r.1<=x/\x<=r.2.1)↔a<=x/\x<=b:=by
 rw [KW F.fv.canon.bD]
 constructor
 .intro z
  cases hq:look H x with
  | none=>exact absurd hq z
  | some v=>exact F.gp x v hq
 .rintro ⟨h1,h2⟩
  obtain ⟨v,hv,_⟩:=F.at_ x h1 h2
  rw [hv]
  exact λz=>nomatch z
theorem HF.btw{fs H:List Row}{lo hi a b:Int}(F:HF fs lo hi a b H)(x y z:Int)(h1:x<=y)(h2:y<=z)(k1:∃r∈H,r.1<=x/\x<=r.2.1)(k2:∃r∈H,r.1<=z/\z<=r.2.1):∃r∈H,r.1<=y/\y<=r.2.1:=by
 rw [F.eH] at *
 ext h1 h2 k1 k2
theorem HF.spans{fs H:List Row}{lo hi a b:Int}(F:HF fs lo hi a b H):qj [.tup (H.map Row.d)]=some (.sh (.tup [.tup [.int a,.int b]])):=by
 have:=F.len
 obtain ⟨sp,NR,SP⟩:=EU F.fv.canon.bD (by ext this)
 have pT:sp=[(a,b)]:=b1C SP F.ab λx=>(SP.eH x).trans (F.eH x)
 rw [pT] at NR
 exact NR
theorem a9m(rs:List Row):(eM rs).length<=2*rs.length:=by
 have key:∀(rs:List Row) (a:Row),(iJ a rs).length<=2*rs.length:=λrs=>by
  induction rs with
  | nil=>intro a;simp [iJ]
  | cons r rs ih =>
   intro a
   have:=ih r
   simp only [iJ,gy,cO,own]
   split<;>simp<;>ext this
 cases rs with
 | nil=>simp [eM]
 | cons r rs =>
  have:=key rs r
  simp only [eM,gy,cO,own]
  split<;>simp<;>ext this
theorem HF.Uv{fs H:List Row}{lo hi a b:Int}(F:HF fs lo hi a b H):BY [.tup (H.map Row.d)]=some (.sh (.bl true)):=by
 have hl:=F.len
 have YK:=b6B F.row (by ext hl)
 have wb:(eM H).length<64:=by have:=a9m H;ext hl this
 refine Wo.eq (pN.mpr ?_)
 unfold KD
 walk_at "v1"
 rw [YK]
 walk_at "v1"
 rw [F.spans]
 walk_at "vc"
 unfold sortI
 rw [K6]
 show Wo (if (eM H).length<64 then some (((eM H).mergeSort λa b=>decide (a<=b)).map D.int) else none) _
 rw [if_pos wb]
 walk_at "vc"
 have YM:∀x y:Int,bg 7 (.int x) (.int y)=some (decide (x=y)):=λx y=>rfl
 have e1:∀(A B:List Int) {r r':Bool},cZ (.lst r (A.map D.int)) (.lst r' (B.map D.int))=some (.sh (.bl (decide (A=B)))):=λA B {r r'}=>by
  unfold cZ
  rw [b6v (enc:=D.int) YM]
  rfl
 rw [e1]
 walk_at "vc"
 have ha:=(Ry F.fv.canon (Ra F.fv.canon.bD F.btw)).mpr F.conv
 have h4:eM H=(eM H).mergeSort (λa b=>decide (a<=b)):=LK (DT _ _).symm (mU.mp ha) (QU _)
 rw [<-h4]
 simp
def Tt(fs H:List Row)(p y:Int):Prop:=look H y=some (p*y-gn fs p)
theorem HF.some{fs H:List Row}{lo hi a b:Int}(F:HF fs lo hi a b H){p:Int}(p1:lo<=p)(p2:p<=hi):∃y,Tt fs H p y:=by
 obtain ⟨⟨x,c,v,e⟩,_⟩:=F.back p1 p2
 exact ⟨x,by unfold Tt;rw [(iK F.fv.canon.bD).mpr v];congr 1;ext e⟩
theorem HF.jV{fs H:List Row}{lo hi a b:Int}(F:HF fs lo hi a b H){p y:Int}(p1:lo<=p)(p2:p<=hi)(y1:a<=y)(y2:y<=b)(h:∀q,lo<=q->q<=hi->q*y-gn fs q<=p*y-gn fs p):Tt fs H p y:=by
 obtain ⟨h',e,⟨q,q1,q2,eq⟩,m⟩:=F.at_ y y1 y2
 have i1:=m p p1 p2
 have i2:=h q q1 q2
 unfold Tt
 rw [e]
 congr 1
 ext eq i1 i2
theorem HF.other{fs H:List Row}{lo hi a b:Int}(F:HF fs lo hi a b H){p q y:Int}(q1:lo<=q)(q2:q<=hi)(t:Tt fs H p y):gn fs p+(q-p)*y<=gn fs q:=by
 have:=(F.spec t).2 q q1 q2
 rw [nF]
 ext this
theorem HF.mid{fs H:List Row}{lo hi a b:Int}(F:HF fs lo hi a b H){p x y z:Int}(p1:lo<=p)(p2:p<=hi)(tx:Tt fs H p x)(tz:Tt fs H p z)(h1:x<=y)(h2:y<=z):Tt fs H p y:=by
 have dx:=F.gp _ _ tx
 have dz:=F.gp _ _ tz
 refine F.jV p1 p2 (by ext h1 dx) (by ext h2 dz) λq q1 q2=>?_
 have i1:=F.other q1 q2 tx
 have i2:=F.other q1 q2 tz
 by_cases h:p<=q
 .have:=nI h2 (show 0<=q-p by ext h)
  rw [nF,nF] at this
  rw [nF] at i2
  ext i2 this
 .have:=nI h1 (show 0<=p-q by ext h)
  rw [nF,nF] at this
  rw [nF] at i1
  ext i1 this
theorem HF.next{fs H:List Row}{lo hi a b:Int}(F:HF fs lo hi a b H){p:Int}(p1:lo<=p)(p2:p+1<=hi):∃y,Tt fs H p y/\Tt fs H (p+1) y:=by
 obtain ⟨x,tx⟩:=F.some p1 (by ext p2)
 obtain ⟨z,tz⟩:=F.some (p:=p+1) (by ext p1) p2
 have hx:=F.other (q:=p+1) (by ext p1) p2 tx
 have hz:=F.other (q:=p) p1 (by ext p2) tz
 rw [show p+1-p=1 by ext,Int.one_mul] at hx
 rw [show p-(p+1) = -1 by ext,Int.neg_one_mul] at hz
 have dx:=F.gp _ _ tx
 have dz:=F.gp _ _ tz
 obtain ⟨w,hw⟩:∃w,w=gn fs (p+1)-gn fs p:=⟨_,rfl⟩
 have key:∀q,lo<=q->q<=hi->q*w-gn fs q<=p*w-gn fs p:=λq q1 q2=>by
  by_cases h:p+1<=q
  .have i:=F.other q1 q2 tz
   have:=nI (show w<=z by ext hz hw) (show 0<=q-(p+1) by ext h)
   have e:(q-(p+1))*w=q*w-p*w-w:=by grind
   ext hw i this e
  .have i:=F.other q1 q2 tx
   have:=nI (show x<=w by ext hx hw) (show 0<=p-q by ext h)
   have e:(p-q)*w=p*w-q*w:=nF ..
   have e':(q-p)*x = -((p-q)*x):=by grind
   ext i this e e'
 refine ⟨w,F.jV p1 (by ext p2) (by ext hx dx hw) (by ext hz dz hw) key,F.jV (by ext p1) p2 (by ext hx dx hw) (by ext hz dz hw) λq q1 q2=>?_⟩
 have:=key q q1 q2
 rw [Int.add_mul]
 ext hw this
theorem HF.low{fs H:List Row}{lo hi a b:Int}(F:HF fs lo hi a b H)(h:lo<=hi):Tt fs H lo a:=by
 obtain ⟨x,tx⟩:=F.some (aW lo) h
 have dx:=F.gp _ _ tx
 refine F.jV (aW lo) h (aW a) F.ab λq q1 q2=>?_
 have i:=F.other q1 q2 tx
 have:=nI dx.1 (show 0<=q-lo by ext q1)
 rw [nF] at *
 rw [nF] at this
 ext i this
theorem HF.high{fs H:List Row}{lo hi a b:Int}(F:HF fs lo hi a b H)(h:lo<=hi):Tt fs H hi b:=by
 obtain ⟨x,tx⟩:=F.some h (aW hi)
 have dx:=F.gp _ _ tx
 refine F.jV h (aW hi) F.ab (aW b) λq q1 q2=>?_
 have i:=F.other q1 q2 tx
 have:=nI dx.2 (show 0<=hi-q by ext q2)
 rw [nF] at *
 rw [nF] at this
 ext i this
noncomputable abbrev HQ:=List Row×List Row×Int×Int
def dG(lo hi:Int)(q:HQ):Prop:=HF q.1 lo hi q.2.2.1 q.2.2.2 q.2.1
noncomputable def TS:List HQ->Int->Int->Prop
 | [],_,x=>x=0
 | q::qs,p,x=>∃y z,Tt q.1 q.2.1 p y/\TS qs p z/\y+z=x
theorem JW{lo hi p:Int}(p1:lo<=p)(p2:p<=hi):∀{qs:List HQ},(∀q∈qs,dG lo hi q)->∀{x y z:Int},TS qs p x->TS qs p z->x<=y->y<=z->TS qs p y
 | [],_,x,y,z,hx,hz,h1,h2=>by have hx:x=0:=hx;have hz:z=0:=hz;show y=0;ext h1 h2 hx hz
 | q::qs,hq,x,y,z,⟨x1,x',t1,s1,e1⟩,⟨z1,z',t2,s2,e2⟩,h1,h2=>by
  have F:=hq q (aR ..)
  by_cases h:y<=z1+x'
  .exact ⟨y-x',x',F.mid p1 p2 t1 t2 (by ext e1 h1) (by ext h),s1,by ext⟩
  .exact ⟨z1,y-z1,t2,JW p1 p2 (λr hr=>hq r (a9 _ hr)) s1 s2 (by ext h) (by ext e2 h2),by ext⟩
theorem Qs{lo hi p:Int}(p1:lo<=p)(p2:p+1<=hi):∀{qs:List HQ},(∀q∈qs,dG lo hi q)->∃w,TS qs p w/\TS qs (p+1) w
 | [],_=>⟨0,rfl,rfl⟩
 | q::qs,hq=>by
  obtain ⟨y,t1,t2⟩:=HF.next (hq q (aR ..)) p1 p2
  obtain ⟨w,s1,s2⟩:=Qs p1 p2 λr hr=>hq r (a9 _ hr)
  exact ⟨y+w,⟨y,w,t1,s1,rfl⟩,⟨y,w,t2,s2,rfl⟩⟩
noncomputable def sA(qs:List HQ):Int:=(qs.map λq=>q.2.2.1).sum
noncomputable def sB(qs:List HQ):Int:=(qs.map λq=>q.2.2.2).sum
noncomputable def sG(Fs:List (List Row))(p:Int):Int:=(Fs.map λF=>gn F p).sum
theorem PQ{lo hi:Int}(h:lo<=hi):∀{qs:List HQ},(∀q∈qs,dG lo hi q)->TS qs lo (sA qs)
 | [],_=>rfl
 | q::qs,hq=>⟨_,_,HF.low (hq q (aR ..)) h,PQ h λr hr=>hq r (a9 _ hr),by simp [sA]⟩
theorem Qr{lo hi:Int}(h:lo<=hi):∀{qs:List HQ},(∀q∈qs,dG lo hi q)->TS qs hi (sB qs)
 | [],_=>rfl
 | q::qs,hq=>⟨_,_,HF.high (hq q (aR ..)) h,Qr h λr hr=>hq r (a9 _ hr),by simp [sB]⟩
theorem b7s{lo hi:Int}{qs:List HQ}(hq:∀q∈qs,dG lo hi q)(h:lo<=hi):∀(n:Nat),lo+n<=hi->∀{x z:Int},TS qs (lo+n) z->sA qs<=x->x<=z->∃p,lo<=p/\p<=hi/\TS qs p x:=λn=>by
 induction n with
 | zero =>
  intro hn x z t h1 h2
  rw [Int.natCast_zero,wA] at t
  exact ⟨lo,aW _,h,JW (aW _) h hq (PQ h hq) t h1 h2⟩
 | succ n ih =>
  intro hn x z t h1 h2
  rw [Int.natCast_succ,<-Int.add_assoc] at t hn
  obtain ⟨w,s1,s2⟩:=Qs (by ext) hn hq
  by_cases hx:x<=w
  .exact ih (by ext hn) s1 h1 hx
  .exact ⟨lo+n+1,by ext,by ext hn,JW (by ext) (by ext hn) hq s2 t (by ext hx) h2⟩
theorem O8{p:Int}{lo hi:Int}:∀{qs:List HQ},(∀q∈qs,dG lo hi q)->∀{x:Int},TS qs p x->Sh (qs.map λq=>q.2.1) x (p*x-sG (qs.map λq=>q.1) p)
 | [],_,x,h=>by have h:x=0:=h;subst h;exact ⟨rfl,by simp [sG]⟩
 | q::qs,hq,x,⟨y,z,t,s,e⟩=>by
  refine ⟨y,_,z,_,(iK (HF.fv (hq q (aR ..))).canon.bD).mp t,O8 (λr hr=>hq r (a9 _ hr)) s,e,?_⟩
  rw [<-e,wG]
  simp only [sG,fo,oj]
  ext
theorem JE{p lo hi:Int}(p1:lo<=p)(p2:p<=hi):∀{qs:List HQ},(∀q∈qs,dG lo hi q)->∀{x d:Int},Sh (qs.map λq=>q.2.1) x d->p*x-sG (qs.map λq=>q.1) p<=d/\sA qs<=x/\x<=sB qs
 | [],_,x,d,h=>by obtain ⟨rfl,rfl⟩:=h;simp [sG,sA,sB]
 | q::qs,hq,x,d,h=>by
  obtain ⟨y,cy,z,cz,v,k,e1,e2⟩:=h
  have F:=hq q (aR ..)
  have v:=(iK (HF.fv F).canon.bD).mpr v
  have i1:=(HF.spec F v).2 p p1 p2
  have i2:=HF.gp F _ _ v
  have i3:=JE p1 p2 (λr hr=>hq r (a9 _ hr)) k
  rw [<-e1,wG]
  simp only [sG,sA,sB,fo,oj] at *
  ext e2 i1 i2 i3
theorem a9I{qs:List HQ}{f H:List Row}{lo hi:Int}(hq:∀q∈qs,dG lo hi q)(h:lo<=hi)(W:HF f lo hi (sA qs) (sB qs) H)(hg:∀p,lo<=p->p<=hi->gn f p=sG (qs.map λq=>q.1) p)(x c:Int):look H x=some c↔Jn (qs.map λq=>q.2.1) x c:=by
 have up:∀{x c},look H x=some c->Jn (qs.map λq=>q.2.1) x c:=λ{x c} k=>by
  have d:=W.gp x c k
  obtain ⟨⟨p,p1,p2,e⟩,m⟩:=W.spec k
  have ge:∀c',Sh (qs.map λq=>q.2.1) x c'->c<=c':=λc' s=>by
   have:=(JE p1 p2 hq s).1
   rw [e,hg p p1 p2]
   exact this
  obtain ⟨n,hn⟩:=Ol (show 0<=hi-lo by ext h)
  have t:=Qr h hq
  rw [show hi=lo+n by ext hn] at t
  obtain ⟨q,q1,q2,tx⟩:=b7s hq h n (by ext hn) t d.1 d.2
  have s:=O8 hq tx
  have i1:=ge _ s
  have i2:=m q q1 q2
  rw [hg q q1 q2] at i2
  have:c=q*x-sG (qs.map λq=>q.1) q:=by ext i1 i2
  rw [this] at ge ⊢
  exact ⟨s,ge⟩
 refine ⟨up,λj=>?_⟩
 have d:=(JE (aW lo) h hq j.1).2
 obtain ⟨c',k,_⟩:=W.at_ x d.1 d.2
 have j':=up k
 rw [k]
 congr 1
 have:=j.2 _ j'.1
 have:=j'.2 _ j.1
 omega
theorem QG{p:Int}:∀{Fs:List (List Row)},(∀F∈Fs,bM F p (gn F p))->(∃x c,Sh Fs x c/\sG Fs p=p*x-c)/\∀x c,Sh Fs x c->p*x-c<=sG Fs p
 | [],_=>⟨⟨0,0,⟨rfl,rfl⟩,by simp [sG]⟩,λx c h=>by obtain ⟨rfl,rfl⟩:=h;simp [sG]⟩
 | F::Fs,h=>by
  obtain ⟨⟨y,cy,v,e⟩,k⟩:=h F (aR ..)
  obtain ⟨⟨z,cz,v',e'⟩,k'⟩:=QG (Fs:=Fs) λr hr=>h r (a9 _ hr)
  refine ⟨⟨y+z,cy+cz,⟨y,cy,z,cz,v,v',rfl,rfl⟩,?_⟩,λx c hs=>?_⟩
  .simp only [sG,fo,oj,wG] at *;ext e e'
  .obtain ⟨a,ca,b,cb,u,u',rfl,rfl⟩:=hs
   have i1:=k _ _ u
   have i2:=k' _ _ u'
   simp only [sG,fo,oj,wG] at *;ext i1 i2
theorem b3i{Fs:List (List Row)}{f:List Row}(jn:∀x c,Val f x c↔Jn Fs x c)(ex:∀x c,Sh Fs x c->∃m,Jn Fs x m){p:Int}(hG:∀F∈Fs,bM F p (gn F p)):bM f p (sG Fs p):=by
 obtain ⟨⟨x,c,s,e⟩,k⟩:=QG hG
 obtain ⟨m,hm⟩:=ex x c s
 have i1:=hm.2 _ s
 have i2:=k _ _ hm.1
 exact ⟨⟨x,m,(jn x m).mpr hm,by ext e i1 i2⟩,λy d h=>k y d ((jn y d).mp h).1⟩
theorem Qy{lo hi:Int}:∀{qs:List HQ},(∀q∈qs,dG lo hi q)->(∃c,Sh (qs.map λq=>q.1) (sA qs) c)/\(∃c,Sh (qs.map λq=>q.1) (sB qs) c)/\∀x c,Sh (qs.map λq=>q.1) x c->sA qs<=x/\x<=sB qs
 | [],_=>⟨⟨0,rfl,rfl⟩,⟨0,rfl,rfl⟩,λx c h=>by obtain ⟨rfl,rfl⟩:=h;simp [sA,sB]⟩
 | q::qs,hq=>by
  have F:=hq q (aR ..)
  obtain ⟨⟨c1,s1⟩,⟨c2,s2⟩,k⟩:=Qy λr hr=>hq r (a9 _ hr)
  obtain ⟨d1,v1⟩:=HF.la F
  obtain ⟨d2,v2⟩:=HF.lb F
  refine ⟨⟨_,_,_,_,_,v1,s1,by simp [sA],rfl⟩,⟨_,_,_,_,_,v2,s2,by simp [sB],rfl⟩,λx c h=>?_⟩
  obtain ⟨a,ca,b,cb,u,u',rfl,rfl⟩:=h
  have i1:=HF.all F _ _ u
  have i2:=k _ _ u'
  simp only [sA,sB,fo,oj] at *
  ext i1 i2
theorem Aj{lo hi:Int}:∀{Fs:List (List Row)},Fs≠[]->Fs.length<=3->(∀F∈Fs,∃G,Gn lo hi F G/\G.length<=2*F.length/\F.length<=4/\FV (2*10^80) (3*10^127) G) ->
  ∃S:List Row,FV (2*10^80) (Fs.length*(3*10^127)) S/\S.length<=2*(Fs.map mi).sum/\(∀p,lo<=p->p<=hi->look S p=some (sG Fs p))/\∀p g,look S p=some g->lo<=p/\p<=hi
 | [],h,_,_=>absurd rfl h
 | [F],_,_,hF=>by
  obtain ⟨G,g,l,_,v⟩:=hF F (aR ..)
  exact ⟨G,⟨v.canon,λx c k=>by have:=v.bd x c k;simpa using this⟩,by simpa using l,λp p1 p2=>by rw [g.gn p1 p2];simp [sG],λp c k=>((g.at_ p c).mp k).1⟩
 | F::F'::Fs,_,hl,hF=>by
  obtain ⟨G,g,l,l4,v⟩:=hF F (aR ..)
  obtain ⟨S,vS,lS,iS,oS⟩:=Aj (Fs:=F'::Fs) (λz=>nomatch z) (by simp at hl ⊢;ext hl) λr hr=>hF r (a9 _ hr)
  have jO:(F'::Fs).length<=2:=by simp at hl ⊢;ext hl
  generalize F'::Fs=Gs at *
  have lG:(Gs.map mi).sum<=100:=by
   have:∀{Gs:List (List Row)},(∀F∈Gs,F.length<=4)->(Gs.map mi).sum<=4*Gs.length:=λ{Gs} h=>by
    induction Gs with
    | nil=>simp
    | cons a r ih =>
     have:=ih λx hx=>h x (a9 _ hx)
     have:=h a (aR ..)
     simp only [fo,oj,gy]
     omega
   have:=this (Gs:=Gs) λF h=>by obtain ⟨_,_,_,k,_⟩:=hF F (a9 _ h);exact k
   ext jO this
  obtain ⟨fs,e,L,lk,lf⟩:=Po (V:=0) (C:=2*(3*10^127)) v.canon.bD vS.canon.bD (λr hr=>by have:=rA v.canon (by decide) v.bd r hr;unfold aq;ext this) (λr hr=>by have:=rA vS.canon (by omega) vS.bd r hr;unfold aq;omega) (by decide) (λx c k=>by have:=v.bd x c k;ext this) (λx c k=>by have:=vS.bd x c k;omega) (by ext l l4) (by ext lS lG)
  have inv:∀p c,look fs p=some c->∃a b,look G p=some a/\look S p=some b/\c=a+b:=λp c k=>by
   rw [lk] at k
   cases ka:look G p with
   | none=>rw [ka] at k;cases k
   | some a =>
    cases kb:look S p with
    | none=>rw [ka,kb] at k;cases k
    | some b=>rw [ka,kb] at k;exact ⟨a,b,rfl,rfl,(cG k).symm⟩
  refine ⟨fs,⟨L.canon,λx c k=>?_⟩,?_,λp p1 p2=>?_,λp c k=>?_⟩
  .obtain ⟨a,b,ka,kb,rfl⟩:=inv x c k
   have i1:=v.bd x a ka
   have i2:=vS.bd x b kb
   rw [gy]
   omega
  .rw [fo,oj]
   ext l lS lf
  .rw [lk,g.gn p1 p2,iS p p1 p2]
   simp [sG,ve]
  .obtain ⟨a,b,ka,kb,rfl⟩:=inv p c k
   exact oS p b kb
noncomputable abbrev QQ:=List Row×List Row
structure jJ(q:QQ):Prop where
 bD:bK q.1
 bd:∀r∈q.1,m6 r
 laid:Laid q.1 q.2
 ne:q.1≠[]
 len:q.1.length<=4
theorem jJ.fv{q:QQ}(h:jJ q):FV (10^46) (2*10^79) q.2:=⟨h.laid.canon,λx c e=>JX h.bd ((h.laid.val x c).mp ((iK h.laid.canon.bD).mp e))⟩
theorem jJ.YD{q:QQ}(h:jJ q):FV (10^60) (10^130) q.2:=⟨h.fv.canon,λx c e=>by have:=h.fv.bd x c e;ext this⟩
theorem P4{g:Int×Nat->QQ}:∀{ps:List (Int×Nat)},(∀p∈ps,(g p).2.length<=p.2)->np ((ps.map g).map λq=>q.2)<=(ps.map λp=>p.2).foldr (·*·) 1
 | [],_=>bp _
 | p::ps,h=>by
  rw [fo,fo,fo,List.foldr_cons,show ((g p).2::mP (λq=>q.2) (mP g ps))=[(g p).2]++(ps.map g).map λq=>q.2 from rfl,Er]
  exact Nat.mul_le_mul (by unfold np;simpa using h p (aR ..)) (P4 λq hq=>h q (a9 _ hq))
theorem b8z{m:Int}{n:Nat}(hm:0<=m/\m<10^60+33)(h0:1<=n)(h1:n<=4):∃q:QQ,rL [.int m,.int n]=some (.ow (q.1.map Row.d))/\mn [gm q.1]=some (.sh (dI q.2))/\jJ q/\q.2.length<=n:=by
 obtain ⟨rs,er,mL,hA,hB⟩:=b6G hm (many:=n) (by ext) (by ext h1)
 obtain ⟨fs,ef,L⟩:=vn hA (λr hr=>by have:=hB r hr;unfold m6 at this;unfold aq;ext this) (by ext h1 mL) (ro:=false)
 have:=L.len
 exact ⟨(rs,fs),er,ef,⟨hA,hB,L,λz=>by subst z;simp at mL;ext h0 mL,by show rs.length<=4;ext h1 mL⟩,by show fs.length<=n;ext mL this⟩
theorem GG:vT pL 3 16 3888:=
 oC (n:=8) (m:=648) (by decide) (by decide) (by decide) (oC (n:=4) (m:=108) (by decide) (by decide) (by decide) (oC (n:=2) (m:=18) (by decide) (by decide) (by decide) (oC (n:=1) (m:=3) (by decide) (by decide) (by decide) (EH (φ:=tJ) MB) (φ:=rG) Fq) (φ:=rH) Ft) (φ:=rJ) Fu) (φ:=rE) bB
theorem WO:vT pL 4 8 864:=
 oC (n:=4) (m:=144) (by decide) (by decide) (by decide) (oC (n:=2) (m:=24) (by decide) (by decide) (by decide) (oC (n:=1) (m:=4) (by decide) (by decide) (by decide) (EH (φ:=rG) Fq) (φ:=rH) Ft) (φ:=rJ) Fu) (φ:=rE) bB
theorem Qz:∀{qs:List QQ},(∀q∈qs,jJ q)->∀{x c:Int},Sh (qs.map λq=>q.2) x c->(-(qs.length*10^46)<=x/\x<=qs.length*10^46)/\(-(qs.length*(2*10^79))<=c/\c<=qs.length*(2*10^79))
 | [],_,x,c,h=>by obtain ⟨rfl,rfl⟩:=h;exact ⟨⟨by decide,by decide⟩,by decide,by decide⟩
 | q::qs,hq,x,c,h=>by
  obtain ⟨y,cy,z,cz,v,k,e1,e2⟩:=h
  have b:=(hq q (aR ..)).fv.bd y cy ((iK (hq q (aR ..)).laid.canon.bD).mpr v)
  have i:=Qz (λr hr=>hq r (a9 _ hr)) k
  rw [gy]
  generalize qs.length=n at *
  omega
theorem Pd:∀{qs:List QQ},(∀q∈qs,jJ q)->∃x c,Sh (qs.map λq=>q.2) x c
 | [],_=>⟨0,0,rfl,rfl⟩
 | q::qs,h=>by
  have hq:=h q (aR ..)
  obtain ⟨x,c,k⟩:=Pd λr hr=>h r (a9 _ hr)
  obtain ⟨r,hr⟩:=List.exists_mem_of_ne_nil _ hq.ne
  exact ⟨r.1+x,_,r.1,r.at r.1,x,c,(hq.laid.val _ _).mpr ⟨r,hr,aW _,hq.bD.1 r hr,rfl⟩,k,rfl,rfl⟩
structure tM(qs:List QQ)(f:List Row):Prop where
 hq:∀q∈qs,jJ q
 hl:qs.length<=3
 canon:Canon f
 len:f.length<=3888
 jn:∀x c,look f x=some c↔Jn (qs.map λq=>q.2) x c
 ex:∀x c,Sh (qs.map λq=>q.2) x c->∃m,Jn (qs.map λq=>q.2) x m
theorem tM.val{qs:List QQ}{f:List Row}(F:tM qs f)(x c:Int):Val f x c↔Jn (qs.map λq=>q.2) x c:=by rw [<-F.jn,iK F.canon.bD]
theorem zip_rows{α β:Type}{f:α->D}{g:β->D}(xs:List α)(ys:List β):lQ (xs.map f) (ys.map g)=(xs.zip ys).map λp=>.tup [f p.1,g p.2]:=by
 unfold lQ
 rw [List.zipWith_map,List.zip,List.map_zipWith]
noncomputable def FL:List (List Nat):=[[3,3],[2,2,2],[3,1],[1,2,1]]
theorem xY:∀zs∈FL,2<=zs.length/\zs.length<=3/\(zs.length<=2/\zs.foldr (·*·) 1<=16\/zs.foldr (·*·) 1<=8)/\∀n∈zs,1<=n/\n<=4:=by decide
theorem b6I{qs:List QQ}(hq:∀q∈qs,jJ q)(hl:qs.length<=3)(hp:qs.length<=2/\np (qs.map λq=>q.2)<=16\/np (qs.map λq=>q.2)<=8):∃f:List Row,tH [.lst false ((qs.map λq=>q.2).map dI)]=some (.sh (.tup (f.map Row.d)))/\tM qs f:=by
 have hF:∀F∈qs.map λq=>q.2,FV (10^60) (10^130) F:=λF h=>by obtain ⟨q,dH,rfl⟩:=cS.mp h;exact (hq q dH).YD
 have hL:∀F∈qs.map λq=>q.2,F.length<=900000:=λF h=>by obtain ⟨q,dH,rfl⟩:=cS.mp h;have:=(hq q dH).laid.len;have:=(hq q dH).len;omega
 rcases hp with ⟨h2,hp⟩ | hp
 .obtain ⟨f,ef,cf,lf,jf,xf⟩:=Lk (Fs:=qs.map λq=>q.2) (K:=3) (n:=16) (by rw [aX];ext h2) (by rw [aX];ext h2) hF hL hp (by decide) (λ{V C Fs r} a b c d e=>GG a b c d e) (ro:=false)
  exact ⟨f,ef,hq,hl,cf,lf,jf,xf⟩
 .obtain ⟨f,ef,cf,lf,jf,xf⟩:=Lk (Fs:=qs.map λq=>q.2) (K:=4) (n:=8) (by rw [aX];ext hl) (by rw [aX];ext hl) hF hL hp (by decide) (λ{V C Fs r} a b c d e=>WO a b c d e) (ro:=false)
  exact ⟨f,ef,hq,hl,cf,by omega,jf,xf⟩
theorem GD:vT pL 4 32 31104:=
 oC (n:=16) (m:=5184) (by decide) (by decide) (by decide) (oC (n:=8) (m:=864) (by decide) (by decide) (by decide) (oC (n:=4) (m:=144) (by decide) (by decide) (by decide) (oC (n:=2) (m:=24) (by decide) (by decide) (by decide) (oC (n:=1) (m:=4) (by decide) (by decide) (by decide) (EH (φ:=vI) Sy) (φ:=tJ) MB) (φ:=rG) Fq) (φ:=rH) Ft) (φ:=rJ) Fu) (φ:=rE) bB
theorem Gn.fv{fs gs:List Row}{lo hi:Int}(F:FV (10^47) (10^80) fs)(h1:-(2*10^80)<=lo)(h2:hi<=2*10^80)(G:Gn lo hi fs gs):FV (2*10^80) (3*10^127) gs:=⟨G.canon,λp g k=>by
 obtain ⟨kp,⟨x,c,v,e⟩,_⟩:=(G.at_ p g).mp k
 have bx:=F.bd x c ((iK F.canon.bD).mpr v)
 have ee:(2*10^80:Int)*10^47=2*10^127:=by decide +kernel
 have m:=sX (a:=p) (b:=x) (A:=2*10^80) (B:=10^47) (by ext h1 kp) (by ext h2 kp) (by ext bx) (by ext bx)
 rw [ee] at m
 ext h1 h2 kp e bx m⟩
theorem jJ.HS{q:QQ}(h:jJ q):FV (10^47) (10^80) q.2:=⟨h.fv.canon,λx c e=>by have:=h.fv.bd x c e;ext this⟩
theorem jJ.ne2{q:QQ}(h:jJ q):q.2≠[]:=λz=>h.ne (h.laid.none.mp z)
theorem b4m{q:QQ}(hq:jJ q)(hl:q.2.length<=3){lo hi:Int}(h:lo<=hi)(h1:-(2*10^80)<=lo)(h2:hi<=2*10^80):∃t:HQ,t.1=q.2/\pJ [dI q.2,.int lo,.int hi]=some (.sh (dI t.2.1))/\dG lo hi t/\∃G,Gn lo hi q.2 G/\G.length<=2*q.2.length/\q.2.length<=4/\FV (2*10^80) (3*10^127) G:=by
 obtain ⟨G,eg,lg,g⟩:=ES hq.HS (by decide) (by decide) hq.ne2 (by omega) h (by ext h1) (by ext h2)
 obtain ⟨H,a,b,eh,F,_⟩:=Pm hq.HS hq.ne2 h h1 h2 eg g (by ext hl lg)
 exact ⟨(q.2,H,a,b),rfl,eh,F,G,g,lg,by ext hl,g.fv hq.HS h1 h2⟩
theorem tM.fv{qs:List QQ}{f:List Row}(F:tM qs f):FV (10^47) (10^80) f:=⟨F.canon,λx c h=>by
 have:=Qz F.hq ((F.jn x c).mp h).1
 have:=F.hl
 omega⟩
theorem tM.ne{qs:List QQ}{f:List Row}(F:tM qs f):f≠[]:=λz=>by
 obtain ⟨x,c,h⟩:=Pd F.hq
 obtain ⟨m,hm⟩:=F.ex x c h
 have:=(F.jn x m).mpr hm
 rw [z] at this
 cases this
theorem Az{qs:List QQ}{f:List Row}(F:tM qs f)(aV:qs≠[])(hs:((qs.map λq=>q.2).map mi).sum<=6){lo hi:Int}(h:lo<=hi)(h1:-(2*10^80)<=lo)(h2:hi<=2*10^80){ts:List HQ}(ht:ts.map (λt=>t.1)=qs.map λq=>q.2)(hT:∀t∈ts,dG lo hi t)
  (hG:∀q∈qs,∃G,Gn lo hi q.2 G/\G.length<=2*q.2.length/\q.2.length<=4/\FV (2*10^80) (3*10^127) G):
  ∃gs H:List Row,oB [.tup (f.map Row.d),.int lo,.int hi]=some (.sh (.tup (gs.map Row.d)))/\pJ [.tup (f.map Row.d),.int lo,.int hi]=some (.sh (.tup (H.map Row.d)))/\Gn lo hi f gs/\HF f lo hi (sA ts) (sB ts) H/\∀x c,look H x=some c↔Jn (ts.map λt=>t.2.1) x c:=by
 have hFl:=F.len
 obtain ⟨gs,eg,_,g⟩:=ES F.fv (by decide) (by decide) F.ne (by omega) h (by ext h1) (by ext h2)
 obtain ⟨S,vS,lS,iS,oS⟩:=Aj (lo:=lo) (hi:=hi) (Fs:=qs.map λq=>q.2) (λz=>aV (Ot.mp z)) (by rw [aX];exact F.hl) λG hF=>by
  obtain ⟨q,hq,rfl⟩:=cS.mp hF
  exact hG q hq
 have Nv:∀p,lo<=p->p<=hi->gn f p=sG (qs.map λq=>q.2) p:=λp p1 p2=>Ei (b3i F.val F.ex λG hF=>by
  obtain ⟨q,hq,rfl⟩:=cS.mp hF
  obtain ⟨_,g,_⟩:=hG q hq
  exact g.ex p p1 p2)
 have es:gs=S:=Lv g.canon vS.canon λp=>by
  by_cases hp:lo<=p/\p<=hi
  .rw [g.gn hp.1 hp.2,iS p hp.1 hp.2,Nv p hp.1 hp.2]
  .have h1:look gs p=none:=by
    cases q:look gs p with
    | none=>rfl
    | some v=>exact absurd ((g.at_ p v).mp q).1 hp
   have h2:look S p=none:=by
    cases q:look S p with
    | none=>rfl
    | some v=>exact absurd (oS p v q) hp
   rw [h1,h2]
 obtain ⟨H,a,b,eh,W,_⟩:=Pm F.fv F.ne h h1 h2 eg g (by rw [es];ext hs lS)
 obtain ⟨⟨c1,s1⟩,⟨c2,s2⟩,k⟩:=Qy hT
 rw [ht] at s1 s2 k
 have ea:a=sA ts:=by
  obtain ⟨m,hm⟩:=F.ex _ _ s1
  have i1:=W.all _ _ ((F.val _ _).mpr hm)
  obtain ⟨c,v⟩:=W.la
  have i2:=k _ _ ((F.val _ _).mp v).1
  ext i1 i2
 have eb:b=sB ts:=by
  obtain ⟨m,hm⟩:=F.ex _ _ s2
  have i1:=W.all _ _ ((F.val _ _).mpr hm)
  obtain ⟨c,v⟩:=W.lb
  have i2:=k _ _ ((F.val _ _).mp v).1
  ext i1 i2
 subst ea eb
 exact ⟨gs,H,eg,eh,g,W,a9I hT h W λp p1 p2=>by rw [Nv p p1 p2,<-ht]⟩
theorem b2G{Fs:List (List Row)}(h:∀F∈Fs,F.length<=900000){ro:Bool}:BZ [.lst ro (Fs.map dI)]=some (.sh (.int (np Fs))):=by
 refine Wo.eq (iO.mpr ?_)
 unfold Mb
 walk_at "v1"
 refine mq dI (λpre env=>∃x2,env=[.sh (.lst ro (Fs.map dI)),.sh (.int (np pre)),x2]) Fs (λpre F post env e hI=>?_) (λenv hI=>?_) ⟨_,rfl⟩
 .obtain ⟨x2,rfl⟩:=hI
  have hF:=h F (by rw [e];simp)
  rw [show dI F=.tup (F.map Row.d) from rfl]
  walk_at "v1"
  rw [aX]
  rw [Ka,Int.natCast_mul]
  exact ⟨.inr (.inl ⟨by ext,by ext hF⟩),_,rfl⟩
 .obtain ⟨x2,rfl⟩:=hI
  walk_at "vc"
theorem b6A{fs H:List Row}{lo hi a b:Int}(F:FV (10^47) (10^80) fs)(hl:fs.length<=4096)(eh:pJ [.tup (fs.map Row.d),.int lo,.int hi]=some (.sh (.tup (H.map Row.d))))(W:HF fs lo hi a b H):∃ss:List Span,BJ [.tup (fs.map Row.d),.int lo,.int hi]=some (.sh (.tup (ss.map Span.d)))/\(∀s∈ss,s.1<=s.2)/\(∀x,fg ss x->∃c,look fs x=some c/\look H x=some c):=by
 have lh:=W.len
 obtain ⟨N,en,cn,ln,nl⟩:=O5 W.fv.canon W.row (by ext lh)
 have Nn:∀x c,look N x=some c->(-(10^47)<=x/\x<=10^47)/\(-(10^130)<=c/\c<=10^130):=λx c h=>by
  rw [ln] at h
  obtain ⟨d,hd,rfl⟩:=uV.mp h
  have:=W.fv.bd x d hd
  ext this
 have Yr:=rA cn (B:=10^47) (C:=10^130) (by decide) Nn
 have Ya:=rA F.canon (by decide) F.bd
 obtain ⟨S,es,LS,lS,sl⟩:=Po (V:=0) (C:=10^130) F.canon.bD cn.bD (λr hr=>by have:=Ya r hr;unfold aq;ext this) (λr hr=>by have:=Yr r hr;unfold aq;ext this) (by decide) (λx c h=>by have:=F.bd x c h;ext this) (λx c h=>(Nn x c h).2) (by omega) (by ext lh nl)
 have inv:∀x c,look S x=some c->∃u v,look fs x=some u/\look H x=some v/\c=u-v:=λx c k=>by
  rw [lS,ln] at k
  cases e1:look fs x with
  | none=>rw [e1] at k;cases k
  | some u =>
   cases e2:look H x with
   | none=>rw [e1,e2] at k;cases k
   | some v =>
    rw [e1,e2] at k
    have k:u+v*(-1)=c:=cG k
    exact ⟨u,v,rfl,rfl,by ext k⟩
 have Yp:=rA LS.canon (B:=10^47) (C:=10^131) (by decide) λx c k=>by
  obtain ⟨u,v,e1,e2,rfl⟩:=inv x c k
  have:=F.bd x u e1
  have:=W.fv.bd x v e2
  omega
 obtain ⟨ss,e,ok,_,eH,_,_⟩:=Ay LS.canon.bD (λr hr=>by have:=Yp r hr;unfold aq;ext this) (by omega) 0
 refine ⟨ss,?_,ok,λx hx=>?_⟩
 .refine Wo.eq (mv.mpr ?_)
  unfold Lu
  walk_at "vc"
  rw [eh]
  walk_at "vc"
  rw [en]
  walk_at "vc"
  rw [es]
  walk_at "vc"
  rw [e]
  walk_at "vc"
 .obtain ⟨c,k,hc⟩:=(eH x).mp hx
  obtain ⟨u,v,e1,e2,rfl⟩:=inv x c k
  obtain ⟨⟨p,p1,p2,e⟩,_⟩:=W.spec e2
  have:=(W.ga p p1 p2).2 x u ((iK F.canon.bD).mp e1)
  have:u=v:=by ext hc e this
  subst this
  exact ⟨u,e1,e2⟩
theorem fin(ns:List Int)(wj:ns.length<=63):EL [.lst true (ns.map D.int)]=some (.sh (.bl true)):=by
 refine Wo.eq (Cc.mpr ?_)
 unfold Ju
 walk_at "v1"
 rw [K3 _ _ (by decide)]
 walk_at "v1"
 refine b4D (by lia) (by simp;lia) λd hd=>?_
 obtain ⟨zs,hz,rfl⟩:∃zs∈FL,d=.lst false (zs.map λ(n:Nat)=>D.int n):=by
  simp only [br,gq,or_false] at hd
  rcases hd with rfl | rfl | rfl | rfl
  .exact ⟨[3,3],by decide,rfl⟩
  .exact ⟨[2,2,2],by decide,rfl⟩
  .exact ⟨[3,1],by decide,rfl⟩
  .exact ⟨[1,2,1],by decide,rfl⟩
 obtain ⟨z1,z2,z3,z4⟩:=xY zs hz
 have z5:∀zs∈FL,zs.sum<=6/\∀n∈zs,n<=3:=by decide
 have z5:=z5 zs hz
 walk_at "v1"
 rw [Bm,aX]
 obtain ⟨ss,es,wb,wc⟩:=b6C (jz ns (some 1) none) zs.length (by ext z1) (by ext z2) (by have:=b4r ns (some 1) none;ext wj this) (r:=false)
 have zD:ss.length=zs.length:=by ext wb
 rw [es]
 walk_at "v1"
 have t7:∀p:Int×Nat,∃q:QQ,((0<=p.1/\p.1<10^60+33)/\1<=p.2/\p.2<=4)->rL [.int p.1,.int p.2]=some (.ow (q.1.map Row.d))/\mn [gm q.1]=some (.sh (dI q.2))/\jJ q/\q.2.length<=p.2:=λp=>by
  by_cases h:(0<=p.1/\p.1<10^60+33)/\1<=p.2/\p.2<=4
  .obtain ⟨q,k⟩:=b8z h.1 h.2.1 h.2.2
   exact ⟨q,λ_=>k⟩
  .exact ⟨([],[]),λz=>absurd z h⟩
 obtain ⟨g,hg⟩:=DM t7
 have wq:∀p∈ss.zip zs,rL [.int p.1,.int p.2]=some (.ow ((g p).1.map Row.d))/\mn [gm (g p).1]=some (.sh (dI (g p).2))/\jJ (g p)/\(g p).2.length<=p.2:=λp hp=>by
  have:=wR hp
  exact hg p ⟨wc _ this.1,z4 _ this.2⟩
 have G0:(ss.zip zs).length=zs.length:=by rw [List.length_zip];ext wb
 rw [zip_rows,pG (λp:Int×Nat=>D.tup [.int p.1,.int p.2]) (λp=>gm (g p).1) (λe=>∃x y,e=[x,y]) (ss.zip zs) (λp hp e he=>by
  obtain ⟨x,y,rfl⟩:=he
  walk_at "v1"
  rw [(wq p hp).1]
  walk_at "vc"
  exact ⟨⟨_,_,rfl⟩,rfl⟩) ⟨_,_,rfl⟩]
 refine ⟨by rw [aX];ext z2 G0,?_⟩
 rw [a0i]
 refine ⟨by rw [aX];ext z2 G0,?_⟩
 rw [pG (λp:Int×Nat=>gm (g p).1) (λp=>dI (g p).2) (λe=>∃x,e=[x]) (ss.zip zs) (λp hp e he=>by
  obtain ⟨x,rfl⟩:=he
  walk_at "v1"
  rw [(wq p hp).2.1]
  walk_at "vc"
  exact ⟨_,rfl⟩) ⟨_,rfl⟩]
 generalize we:(ss.zip zs).map g=qs
 have e1:((ss.zip zs).map λp=>gm (g p).1)=qs.map λq=>gm q.1:=by rw [<-we,fM];rfl
 have e2:((ss.zip zs).map λp=>dI (g p).2)=(qs.map λq=>q.2).map dI:=by rw [<-we,fM,fM];rfl
 have hq:∀q∈qs,jJ q/\q.2.length<=3:=λq h=>by
  rw [<-we] at h
  obtain ⟨p,hp,rfl⟩:=cS.mp h
  have:=z5.2 _ (wR hp).2
  exact ⟨(wq p hp).2.2.1,by have:=(wq p hp).2.2.2;lia⟩
 have hl:qs.length=zs.length:=by rw [<-we,aX];exact G0
 have hp:np (qs.map λq=>q.2)<=zs.foldr (·*·) 1:=by
  have:=P4 (g:=g) (ps:=ss.zip zs) λp hp=>(wq p hp).2.2.2
  rw [we,Iz (by ext wb)] at this
  exact this
 have G9:((qs.map λq=>q.2).map mi).sum<=6:=by
  have key:∀ps:List (Int×Nat),(∀p∈ps,(g p).2.length<=p.2)->(((ps.map g).map λq=>q.2).map mi).sum<=(ps.map λp=>p.2).sum:=λps h=>by
   induction ps with
   | nil=>simp
   | cons p ps ih =>
    have i1:=ih λr hr=>h r (a9 _ hr)
    have i2:=h p (aR ..)
    simp only [fo,oj]
    ext i1 i2
  have:=key (ss.zip zs) λp hp=>(wq p hp).2.2.2
  rw [we,Iz (by ext wb)] at this
  have:=z5.1
  lia
 obtain ⟨f,ef,F⟩:=b6I (λq h=>(hq q h).1) (by ext z2 hl) (by ext z3 hl hp)
 have aV:qs≠[]:=p8 (by ext z1 hl)
 obtain ⟨q0,qr,NU⟩:∃q0 qr,qs=q0::qr:=by
  cases qs with
  | nil=>exact absurd rfl aV
  | cons a r=>exact ⟨a,r,rfl⟩
 obtain ⟨qi,ql,NT⟩:∃us q,qs=us++[q]:=⟨qs.dropLast,qs.getLast aV,(Jj aV).symm⟩
 obtain ⟨s0,sr,NS⟩:∃s0 sr,ss=s0::sr:=by
  cases ss with
  | nil=>simp at zD;ext _ z1 zD
  | cons a r=>exact ⟨a,r,rfl⟩
 have Nj:ss≠[]:=by rw [NS];exact λz=>nomatch z
 obtain ⟨si,sl,YL⟩:∃us q,ss=us++[q]:=⟨ss.dropLast,ss.getLast Nj,(Jj Nj).symm⟩
 rw [e1,e2]
 walk_at "v1"
 have a0:dF (qs.map λq=>gm q.1) 0=some (gm q0.1):=by
  rw [NU,tD (f:=λq:QQ=>gm q.1) (xs:=q0::qr) (i:=0) q0 (by decide) (by simp)];rfl
 have a1:dF (qs.map λq=>gm q.1) (-1)=some (gm ql.1):=by rw [NT,ej,IY];exact dW
 have b0:dF (ss.map D.int) 0=some (.int s0):=by
  rw [NS,tD (f:=D.int) (xs:=s0::sr) (i:=0) s0 (by decide) (by simp)];rfl
 have b1:dF (ss.map D.int) (-1)=some (.int sl):=by rw [YL,ej,IY];exact dW
 have CU:=(hq q0 (by rw [NU];simp)).1
 have CT:=(hq ql (by rw [NT];simp)).1
 obtain ⟨p1,YO,zG⟩:=Ql CU.bD CU.bd (by have:=CU.len;ext this) CU.ne (tu s0 98).1 (ro:=false)
 obtain ⟨p2,YN,pU⟩:=Ql CT.bD CT.bd (by have:=CT.len;ext this) CT.ne (tu sl 99).1 (ro:=false)
 obtain ⟨c1,YS,Nx⟩:=QZ (ns.getD 1 0)
 obtain ⟨c2,YR,n5⟩:=QZ (ns.getD 2 0)
 rw [a0,a0i,b0,a0i,tm _ _ (by decide) (by decide),a0i,show gm q0.1=.lst false (q0.1.map Row.d) from rfl]
 walk_at "v1"
 rw [YO,a0i,a1,a0i,b1,a0i,tm _ _ (by decide) (by decide),a0i,show gm ql.1=.lst false (ql.1.map Row.d) from rfl]
 walk_at "v1"
 rw [YN]
 walk_at "v1"
 rw [b3j]
 walk_at "v1"
 rw [K3 _ _ (by decide)]
 walk_at "v1"
 rw [YS]
 walk_at "v1"
 rw [K3 _ _ (by decide)]
 walk_at "v1"
 rw [YR]
 walk_at "v1"
 have nr:min p1 p2-c1<=max p1 p2+c2:=by ext Nx n5
 have CV:-(2*10^80)<=min p1 p2-c1:=by ext zG pU Nx
 have Ht:max p1 p2+c2<=2*10^80:=by ext zG pU n5
 generalize zW:[D.int (min p1 p2),D.int (max p1 p2)]=ds
 generalize min p1 p2-c1=lo at *
 generalize max p1 p2+c2=hi at *
 rw [ef]
 walk_at "v1"
 have FT:∀q:QQ,∃t:HQ,(jJ q/\q.2.length<=3)->t.1=q.2/\pJ [dI q.2,.int lo,.int hi]=some (.sh (dI t.2.1))/\dG lo hi t/\∃G,Gn lo hi q.2 G/\G.length<=2*q.2.length/\q.2.length<=4/\FV (2*10^80) (3*10^127) G:=λq=>by
  by_cases h:jJ q/\q.2.length<=3
  .obtain ⟨t,k⟩:=b4m h.1 h.2 nr CV Ht
   exact ⟨t,λ_=>k⟩
  .exact ⟨([],[],0,0),λz=>absurd z h⟩
 obtain ⟨t,ht⟩:=DM FT
 have hT:∀u∈qs.map t,dG lo hi u:=λu hu=>by
  obtain ⟨q,h,rfl⟩:=cS.mp hu
  exact (ht q (hq q h)).2.2.1
 obtain ⟨gs,H,eg,eh,G,W,jn⟩:=Az F aV G9 nr CV Ht (ts:=qs.map t) (by
  rw [fM]
  exact IZ λq h=>(ht q (hq q h)).1) hT λq h=>(ht q (hq q h)).2.2.2
 have CW:=F.len
 rw [eh]
 walk_at "v1"
 refine qf ?_ ?_
 .walk_at "vc"
  rw [W.Uv]
  walk_at "vc"
  rw [W.gains G nr (by ext CV) (by ext Ht)]
  walk_at "vc"
  rw [eg]
  walk_at "vc"
  rw [b3P]
  walk_at "vc"
  simp
 walk_at "v1"
 refine ⟨by rw [aX,aX];ext z2 hl,?_⟩
 rw [fM,pG (dI∘λq:QQ=>q.2) (λq=>dI (t q).2.1) (λe=>∃x,e=[x,.sh (.int lo),.sh (.int hi)]) qs (λq dH e he=>by
  obtain ⟨x,rfl⟩:=he
  rw [show (dI∘λq:QQ=>q.2) q=dI q.2 from rfl]
  walk_at "v1"
  rw [(ht q (hq q dH)).2.1]
  walk_at "vc"
  exact ⟨_,rfl⟩) ⟨_,rfl⟩]
 walk_at "v1"
 rw [show qs.map (λq=>dI (t q).2.1)=((qs.map t).map λt=>t.2.1).map dI by rw [fM,fM];rfl]
 have HK:∀K∈(qs.map t).map λt=>t.2.1,FV (10^60) (10^130) K/\K.length<=900000:=λK hK=>by
  obtain ⟨u,hu,rfl⟩:=cS.mp hK
  have k:=hT u hu
  exact ⟨⟨(HF.fv k).canon,λx c e=>by have:=(HF.fv k).bd x c e;ext this⟩,by have:=HF.len k;ext this⟩
 have NF:((qs.map t).map λt=>t.2.1).length<=3:=by rw [aX,aX];ext z2 hl
 generalize (qs.map t).map (λt=>t.2.1)=Hs at *
 rw [a3e]
 walk_at "v1"
 rw [b2G λK h=>(HK K h).2]
 walk_at "v1"
 intro hc
 have hc:np Hs<=32:=by ext hc
 obtain ⟨T,eT,cT,_,jT,_⟩:=Lk (Fs:=Hs) (K:=4) (n:=32) (by ext NF) (by ext NF) (λK h=>(HK K h).1) (λK h=>(HK K h).2) hc (by decide) (λ{V C Fs r} a b c d e=>GD a b c d e) (ro:=false)
 have YT:T=H:=Lv cT W.fv.canon λx=>by
  cases k:look H x with
  | some c=>exact (jT x c).mpr ((jn x c).mp k)
  | none =>
   cases k':look T x with
   | none=>rfl
   | some c=>rw [(jn x c).mpr ((jT x c).mp k')] at k;cases k
 subst YT
 obtain ⟨us,eu,ok,eH⟩:=b6A F.fv (by lia) eh W
 walk_at "v1"
 rw [eT]
 walk_at "v1"
 rw [eu]
 walk_at "v1"
 have MN:∀x,fg us x->∀(e0 e1 e2 e3 e4 e5 e6 e7 e9 N4 N3 N2:Sl),Wo (iy (w9 (cC (aA 1 xQ (af (aA 2 qk (af (eV 8) (af (eV 14) aa))) aa)))) (bN (ae iD (aA 2 qk (af (eV 11) (af (eV 14) aa))) (aA 2 qk (af (eV 8) (af (eV 14) aa))))) [e0,e1,e2,e3,e4,e5,e6,e7,.sh (.tup (f.map Row.d)),e9,N4,.sh (.tup (T.map Row.d)),N3,N2,.sh (.int x)]) (λb=>b=false):=λx hx e0 e1 e2 e3 e4 e5 e6 e7 e9 N4 N3 N2=>by
  obtain ⟨c,k1,k2⟩:=eH x hx
  have xb:=F.fv.bd x c k1
  have h1:=Q0 F.canon.bD (by ext CW) (F.fv.row (by decide) (by decide)) (x:=x) (by ext xb)
  have h2:=Q0 W.fv.canon.bD (by have:=W.len;ext this) W.row (x:=x) (by ext xb)
  rw [k1] at h1
  rw [k2] at h2
  dsimp only [As] at h1 h2
  walk_at "vc"
  rw [h1]
  walk_at "vc"
  rw [b6z]
  walk_at "vc"
  rw [h2]
  walk_at "vc"
 refine mq Span.d (λ_ env=>∃FQ FP FO,env=[.sh (.lst true (ns.map D.int)),.sh (.lst false (zs.map λ(n:Nat)=>D.int n)),.sh (.lst false (ss.map D.int)),.sh (.lst false (qs.map λq=>gm q.1)),.sh (.lst false (qs.map (dI∘λq=>q.2))),.sh (.lst false ds),.sh (.int lo),.sh (.int hi),.sh (.tup (f.map Row.d)),.sh (.tup (T.map Row.d)),.sh (.lst false (Hs.map dI)),.sh (.tup (T.map Row.d)),FQ,FP,FO]) us (λpre s post env e h=>?_) (λenv h=>?_) ⟨_,_,_,rfl⟩
 .obtain ⟨FQ,FP,FO,rfl⟩:=h
  have hs:s∈us:=by rw [e];simp
  have bt:=ok s hs
  rw [xm s]
  walk_at "v1"
  refine qf (MN _ ⟨s,hs,aW _,bt⟩ _ _ _ _ _ _ _ _ _ _ _ _) ?_
  walk_at "v1"
  refine qf (MN _ ⟨s,hs,bt,aW _⟩ _ _ _ _ _ _ _ _ _ _ _ _) ?_
  walk_at "v1"
  exact ⟨_,_,_,rfl⟩
 .obtain ⟨FQ,FP,FO,rfl⟩:=h
  walk_at "v1"
  rw [b4i]
  walk_at "v1"
  simp
end My
namespace PySem.W.Fast
theorem tw5569238710665257103:True:=trivial
theorem tw3599046506109819064:True:=trivial
theorem tw17943556138676762089:True:=trivial
theorem tw13765040617228118173:True:=trivial
theorem tw15018859311488186945:True:=trivial
theorem tw4462042116642290012:True:=trivial
theorem tw909101323657264711:True:=trivial
theorem tw16795548574200799561:True:=trivial
theorem tw9871566189359214203:True:=trivial
theorem tw7276258754161977072:True:=trivial
theorem tw12791267550876807125:True:=trivial
theorem tw16948868168883574418:True:=trivial
theorem tw16623284959859168966:True:=trivial
theorem tw9328717825132970262:True:=trivial
theorem tw1714787611819856070:True:=trivial
theorem tw7790180757393878519:True:=trivial
theorem tw11628293227330182322:True:=trivial
theorem tw14017049989614052458:True:=trivial
theorem tw1833461313271164771:True:=trivial
theorem tw10272432424618015350:True:=trivial
theorem tw16033648906575011847:True:=trivial
theorem tw6946063758542756271:True:=trivial
theorem tw15431325053609442151:True:=trivial
theorem tw5895720715167658605:True:=trivial
theorem tw16523683780462329398:True:=trivial
theorem tw3490606735284746721:True:=trivial
theorem tw7367146394518183736:True:=trivial
theorem tw4075898599651674394:True:=trivial
theorem tw7971449019185828086:True:=trivial
theorem tw3239104780345420871:True:=trivial
theorem tw7426200307247909613:True:=trivial
theorem tw17769726679606667568:True:=trivial
theorem tw7070219298523884914:True:=trivial
theorem tw12416664613241558203:True:=trivial
theorem tw6776675520909634824:True:=trivial
theorem tw11662264284737193797:True:=trivial
theorem tw754018745669575822:True:=trivial
theorem tw5949636298943093082:True:=trivial
theorem tw2337446049953808075:True:=trivial
theorem tw8845843752367487405:True:=trivial
theorem tw7408189651529990794:True:=trivial
theorem tw12040959119846678433:True:=trivial
theorem tw17988550229503375736:True:=trivial
theorem tw997590991439261233:True:=trivial
theorem tw861511825266580307:True:=trivial
theorem tw10726305466747056447:True:=trivial
theorem tw1718126626076057394:True:=trivial
theorem tw13757285655573558747:True:=trivial
theorem tw6275770667146825211:True:=trivial
theorem tw17697813683133053755:True:=trivial
theorem tw2629148628135082081:True:=trivial
theorem tw204517705785708001:True:=trivial
theorem tw3426485318422000166:True:=trivial
theorem tw5333489903778450235:True:=trivial
theorem tw5207520909561826945:True:=trivial
theorem tw11740285505528045074:True:=trivial
theorem tw814033804653505605:True:=trivial
theorem tw5334617444117075172:True:=trivial
theorem tw15407775010941742715:True:=trivial
theorem tw2626565273447152083:True:=trivial
theorem tw16867759184934215009:True:=trivial
theorem tw4729824811469794275:True:=trivial
theorem tw8944552163571643214:True:=trivial
theorem tw17646592620068118625:True:=trivial
theorem tw17988398380194711330:True:=trivial
theorem tw6571274492961861005:True:=trivial
theorem tw9007743649213425101:True:=trivial
theorem tw14465740913441702138:True:=trivial
theorem tw2984837119678193866:True:=trivial
theorem tw3692377814795647990:True:=trivial
theorem tw3715927873014976900:True:=trivial
theorem tw8828759979945666808:True:=trivial
theorem tw12762382738854213051:True:=trivial
theorem tw6691727844223847457:True:=trivial
theorem tw11819957027971622975:True:=trivial
theorem tw3201799217656337598:True:=trivial
theorem tw12027267068058848333:True:=trivial
theorem tw5352389910753905876:True:=trivial
theorem tw16640161984858678113:True:=trivial
theorem tw18348590412694673749:True:=trivial
theorem tw3593424765866975804:True:=trivial
theorem tw11760202396902435551:True:=trivial
theorem tw16456070730621048132:True:=trivial
theorem tw9850999483051635836:True:=trivial
theorem tw13406868672871076688:True:=trivial
theorem tw17154276527938729641:True:=trivial
theorem tw8161028900231596389:True:=trivial
theorem tw6913598312144092551:True:=trivial
theorem tw9343064315732952587:True:=trivial
theorem tw7931744841318857101:True:=trivial
theorem tw5610514059456472240:True:=trivial
theorem tw8872166842363104528:True:=trivial
theorem tw5892940668960662674:True:=trivial
theorem tw3335437855750144700:True:=trivial
theorem tw11602733544666214540:True:=trivial
theorem tw5478282453389111142:True:=trivial
theorem tw17167728798039093852:True:=trivial
theorem tw5645916033233050559:True:=trivial
theorem tw18395300081978950711:True:=trivial
theorem tw15071126601751143486:True:=trivial
theorem tw4878051815323118145:True:=trivial
theorem tw17680868345076376508:True:=trivial
theorem tw3459594747381278642:True:=trivial
theorem tw677079356078269879:True:=trivial
theorem tw18163629063625654808:True:=trivial
theorem tw13253571754614883437:True:=trivial
theorem tw6200237908723131290:True:=trivial
theorem tw11093731859149641461:True:=trivial
theorem tw3487839435461716630:True:=trivial
theorem tw7683960756368377396:True:=trivial
theorem tw17287419883174324376:True:=trivial
theorem tw14573307231722879787:True:=trivial
theorem tw11216268083269461334:True:=trivial
theorem tw18193604833475574666:True:=trivial
theorem tw10920852675138488419:True:=trivial
theorem tw18065956120363214216:True:=trivial
theorem tw1668947846729874149:True:=trivial
theorem tw17400262812061485185:True:=trivial
theorem tw15674558216368167308:True:=trivial
theorem tw7597822266061532670:True:=trivial
theorem tw4534060621414567760:True:=trivial
theorem tw8121993395219070781:True:=trivial
theorem tw9705574465387841332:True:=trivial
theorem tw13216405794242276509:True:=trivial
theorem tw6197424153318377956:True:=trivial
theorem tw10613499620796433467:True:=trivial
theorem tw11697811034517777879:True:=trivial
theorem tw11364177102920535520:True:=trivial
theorem tw2421719177670036521:True:=trivial
theorem tw10871414764240896315:True:=trivial
theorem tw4214728901535341718:True:=trivial
theorem tw6888324339255790673:True:=trivial
theorem tw15654091709067181222:True:=trivial
theorem tw17896955280356613737:True:=trivial
theorem tw17961658423760574717:True:=trivial
theorem tw9061580459831689380:True:=trivial
theorem tw2334429956101686155:True:=trivial
theorem tw2432438184962306948:True:=trivial
theorem tw16834704155206441838:True:=trivial
theorem tw8473968308060249118:True:=trivial
theorem tw15212256603212450446:True:=trivial
theorem tw15465550745112362183:True:=trivial
theorem tw11063774409729436737:True:=trivial
theorem tw6724357810638499102:True:=trivial
theorem tw9283067394432963833:True:=trivial
theorem tw10796454960477219180:True:=trivial
theorem tw5586521147750245977:True:=trivial
theorem tw14858840918669420449:True:=trivial
theorem tw16876105265453254635:True:=trivial
theorem tw16072564534583811323:True:=trivial
theorem tw1771541902477448710:True:=trivial
theorem tw18392635154456098814:True:=trivial
theorem tw15409368091307110175:True:=trivial
theorem tw781307403522107290:True:=trivial
theorem tw1231784525885529957:True:=trivial
theorem tw17007978792869331176:True:=trivial
theorem tw5539774517308163847:True:=trivial
theorem tw16508400490744159744:True:=trivial
theorem tw9397043113897206478:True:=trivial
theorem tw12375919882706331821:True:=trivial
theorem tw7396464717586538925:True:=trivial
theorem tw16128300074415323733:True:=trivial
theorem tw11627938369719568692:True:=trivial
theorem tw286619145791014219:True:=trivial
theorem tw8342255908677291684:True:=trivial
theorem tw17026760949259093269:True:=trivial
theorem tw5314978625869388947:True:=trivial
theorem tw13611342221379117354:True:=trivial
theorem tw12707548273588322415:True:=trivial
theorem tw13003014941553639823:True:=trivial
theorem tw4980394356133560837:True:=trivial
theorem tw1955195560221460961:True:=trivial
theorem tw14833378230948109788:True:=trivial
theorem tw9667453922843255999:True:=trivial
theorem tw3974284668765277808:True:=trivial
theorem tw9790630140815974137:True:=trivial
theorem tw6530610324867448115:True:=trivial
theorem tw10038289114428836191:True:=trivial
theorem tw11481258062362744783:True:=trivial
theorem tw8608841396080064901:True:=trivial
theorem tw8479871301947365323:True:=trivial
theorem tw500912878145944694:True:=trivial
theorem tw1872036564261292360:True:=trivial
theorem tw12385552649866957558:True:=trivial
theorem tw991453071681469385:True:=trivial
theorem tw4370807415190805379:True:=trivial
theorem tw17242328037356104116:True:=trivial
theorem tw16346712068747149804:True:=trivial
theorem tw3030538007047988520:True:=trivial
theorem tw5739763792283757544:True:=trivial
theorem tw12041360798614532090:True:=trivial
theorem tw12788137564335188236:True:=trivial
theorem tw16880239689278299359:True:=trivial
theorem tw8063272897227316655:True:=trivial
theorem tw15532639136368180833:True:=trivial
theorem tw7106767254928211044:True:=trivial
theorem tw13665394098113611763:True:=trivial
theorem tw11648793622203684767:True:=trivial
theorem tw3993101420664075308:True:=trivial
theorem tw13866692997322696811:True:=trivial
theorem tw2250990742395024953:True:=trivial
theorem tw6121558149314551790:True:=trivial
theorem tw6586752715811298734:True:=trivial
theorem tw2350833047025184589:True:=trivial
theorem tw1990115789611312196:True:=trivial
theorem tw5971651696127852488:True:=trivial
theorem tw4410182145950886815:True:=trivial
theorem tw16712074558619625129:True:=trivial
theorem tw7394610270930630277:True:=trivial
theorem tw12369805864474019175:True:=trivial
theorem tw4074681392625281202:True:=trivial
theorem tw9230960272731796598:True:=trivial
theorem tw4258617675192787364:True:=trivial
theorem tw742658900755697013:True:=trivial
theorem tw15982702154743235548:True:=trivial
theorem tw2012193268122974388:True:=trivial
theorem tw337611055952194474:True:=trivial
theorem tw15720117907135242922:True:=trivial
theorem tw12518695900111506077:True:=trivial
theorem tw10327046811348488586:True:=trivial
theorem tw1417857472554989632:True:=trivial
theorem tw15108430669716819794:True:=trivial
theorem tw10460051098050859156:True:=trivial
theorem tw453604162346652126:True:=trivial
theorem tw12909446089019912404:True:=trivial
theorem tw2548437216318584704:True:=trivial
theorem tw17746943582857978184:True:=trivial
theorem tw17518142994986772819:True:=trivial
theorem tw367894577506535640:True:=trivial
theorem tw11302080837079043597:True:=trivial
theorem tw16977901438305676538:True:=trivial
theorem tw3247661952222807189:True:=trivial
theorem tw4803300420547129336:True:=trivial
theorem tw12134521284902021619:True:=trivial
theorem tw16771717076022174037:True:=trivial
theorem tw12557822279224712141:True:=trivial
theorem tw16357135413662824186:True:=trivial
theorem tw4145635345819583865:True:=trivial
theorem tw6963428792833678291:True:=trivial
theorem tw13027516088422064824:True:=trivial
theorem tw7537719901494062770:True:=trivial
theorem tw11208305214130334402:True:=trivial
theorem tw4352824292761331083:True:=trivial
theorem tw9229495841606298860:True:=trivial
theorem tw16022822993000200779:True:=trivial
theorem tw12522256030877759237:True:=trivial
theorem tw1666587415283601879:True:=trivial
theorem tw17473435879944484793:True:=trivial
theorem tw8436517325337164344:True:=trivial
theorem tw7789842476298153563:True:=trivial
theorem tw16728918979753181408:True:=trivial
theorem tw13816250075380586798:True:=trivial
theorem tw6122624959818198214:True:=trivial
theorem tw15931392362692198158:True:=trivial
theorem tw4908581294967291517:True:=trivial
theorem tw11826902806123874924:True:=trivial
theorem tw8040928194254607416:True:=trivial
theorem tw12776962151097226450:True:=trivial
theorem tw15633233917842080944:True:=trivial
theorem tw11050325969299056491:True:=trivial
theorem tw14601347023968025836:True:=trivial
theorem tw12513816305240389142:True:=trivial
theorem tw9537345799759380934:True:=trivial
theorem tw11567253931485162650:True:=trivial
theorem tw7033070735631162645:True:=trivial
theorem tw15105993297739377189:True:=trivial
theorem tw8043856403851850747:True:=trivial
theorem tw6615456965982058833:True:=trivial
theorem tw2916299530582695093:True:=trivial
theorem tw5683522527136569748:True:=trivial
theorem tw15170588613405766968:True:=trivial
theorem tw9545047449027567547:True:=trivial
theorem tw2668612313640802877:True:=trivial
theorem tw10788547720883347100:True:=trivial
theorem tw8299263131094591710:True:=trivial
theorem tw6772163730183057357:True:=trivial
theorem tw2749670594292810829:True:=trivial
theorem tw10719838621323472640:True:=trivial
theorem tw11907676382272451443:True:=trivial
theorem tw4855968749156142477:True:=trivial
theorem tw5400202880867841341:True:=trivial
theorem tw637680565079233104:True:=trivial
theorem tw9450879052218247893:True:=trivial
theorem tw13236855322690387610:True:=trivial
theorem tw12544815515512493842:True:=trivial
theorem tw6269104117148807681:True:=trivial
theorem tw10792439336946583071:True:=trivial
theorem tw10924784648225253020:True:=trivial
theorem tw9142612621615867971:True:=trivial
theorem tw2246113778398858777:True:=trivial
theorem tw18075937015205586614:True:=trivial
theorem tw17191733641955583008:True:=trivial
theorem tw3016501383922226633:True:=trivial
theorem tw10589701030658995551:True:=trivial
theorem tw5770638054650139892:True:=trivial
theorem tw350642481522886678:True:=trivial
theorem tw8599797566374961648:True:=trivial
theorem tw14787912375388121297:True:=trivial
theorem tw12928830373772237860:True:=trivial
theorem tw3103447787783661519:True:=trivial
theorem tw2621856847752130044:True:=trivial
theorem tw12993967287314183547:True:=trivial
theorem tw5743869261724288509:True:=trivial
theorem tw119716836101967945:True:=trivial
theorem tw12385585491811965903:True:=trivial
theorem tw10159442113094156533:True:=trivial
theorem tw15452864153383006871:True:=trivial
theorem tw9279132586748595340:True:=trivial
theorem tw14348028814367315414:True:=trivial
theorem tw13645560751378828717:True:=trivial
theorem tw18436657520728038375:True:=trivial
theorem tw3020190816636571444:True:=trivial
theorem tw4960017589228954030:True:=trivial
theorem tw11345068585397628018:True:=trivial
theorem tw15248031737534801610:True:=trivial
theorem tw18180303547387031273:True:=trivial
theorem tw2944027507272522508:True:=trivial
theorem tw6365802469463208827:True:=trivial
theorem tw6940346095924708571:True:=trivial
theorem tw8514393223059434799:True:=trivial
theorem tw14279529844029647266:True:=trivial
theorem tw298878344554861652:True:=trivial
theorem tw17402710485941940173:True:=trivial
theorem tw11916085546970103454:True:=trivial
theorem tw2039012886946709581:True:=trivial
theorem tw2438218990996138733:True:=trivial
theorem tw1478765180182070580:True:=trivial
theorem tw127928546809090381:True:=trivial
theorem tw1125188202141567311:True:=trivial
theorem tw7772803197823518637:True:=trivial
theorem tw2657725725531828278:True:=trivial
theorem tw11401237793000875068:True:=trivial
theorem tw5231295983893947432:True:=trivial
theorem tw6437088978817314796:True:=trivial
theorem tw14997055085516513599:True:=trivial
theorem tw384574867509640483:True:=trivial
theorem tw907962558658422616:True:=trivial
theorem tw4114632575240729347:True:=trivial
theorem tw11819539985024762063:True:=trivial
theorem tw5570772467851124821:True:=trivial
theorem tw14958948649602589504:True:=trivial
theorem tw3491959980456932440:True:=trivial
theorem tw16601149286720687479:True:=trivial
theorem tw16650885888266120289:True:=trivial
theorem tw5321180424324434929:True:=trivial
theorem tw9490374124587115210:True:=trivial
theorem tw9556769331082326801:True:=trivial
theorem tw14356068470864226771:True:=trivial
theorem tw15339818636325979903:True:=trivial
theorem tw14627071466737460189:True:=trivial
theorem tw919018547785499499:True:=trivial
theorem tw2217368934134410805:True:=trivial
theorem tw11361922750306462390:True:=trivial
theorem tw12587673439188676608:True:=trivial
theorem tw5607133293776703252:True:=trivial
theorem tw4988643977843581832:True:=trivial
theorem tw16835686027839428903:True:=trivial
theorem tw6626852613405943562:True:=trivial
theorem tw5411664680954725925:True:=trivial
theorem tw9870861367109062447:True:=trivial
theorem tw12827817396400932320:True:=trivial
theorem tw7580742714794094133:True:=trivial
theorem tw15549898045341235152:True:=trivial
theorem tw18157547678013617032:True:=trivial
theorem tw16365988262804113494:True:=trivial
theorem tw17300723907683360877:True:=trivial
theorem tw2659993625773024650:True:=trivial
theorem tw6081802536347214:True:=trivial
end PySem.W.Fast
open PySem PySem.W PyProof.Rows
set_option maxRecDepth 100000 in
set_option maxHeartbeats 0 in
theorem PySem.Challenge.cw_offerhouse_k70_whole_hull_of_sellers_holds : PySem.Challenge.rw_offerhouse_k70_whole_hull_of_sellers.Holds := by
  w_on; o_law; k_head; (case hw => w_witness2)
  k_fill
  refine DL.xZ (l := PySem.Challenge.rw_offerhouse_k70_whole_hull_of_sellers) (k := 24) ⟨rfl, by decide, by decide⟩ rfl rfl (ts := []) (fun w h Y => ⟨PySem.W.kIn_of Y, fun _ z => nomatch z⟩) (fun w => by kernel_rfl) ?F
  case F =>
    intro w mg fa h KX G zJ
    refine' My.all_mk KX G zJ ?i1 ?i2 ?i3 ?i4 ?i5 ?i6 ?i7 ?i8 ?i9 ?i10 ?i11 ?i12 ?i13 ?i14 ?i15 ?i16 ?i17 ?i18 ?i19 ?i20 ?i21 ?i22 ?i23 ?i24 ?i25 ?i26 ?i27 ?i28 ?i29 ?i30 ?i31 ?i32 ?i33 ?i34 ?i35 ?i36 ?i37 ?i38 ?i39 ?i40 ?i41 ?i42 ?i43 ?i44 ?i45 ?i46 ?i47 ?i48 ?i49 ?i50 ?i51 ?zmax ?zmin ?ztuple ?zlen ?zsorted ?zenumerate ?zsum ?zMOST_PICKS ?zrange ?zisinstance ?zbool ?zint ?zzip ?fin
    (case i1 => constructor <;> k_is)
    (case i2 => constructor <;> k_is)
    (case i3 => constructor <;> k_is)
    (case i4 => constructor <;> k_is)
    (case i5 => constructor <;> k_is)
    (case i6 => constructor <;> k_is)
    (case i7 => constructor <;> k_is)
    (case i8 => constructor <;> k_is)
    (case i9 => constructor <;> k_is)
    (case i10 => constructor <;> k_is)
    (case i11 => constructor <;> k_is)
    (case i12 => constructor <;> k_is)
    (case i13 => constructor <;> k_is)
    (case i14 => constructor <;> k_is)
    (case i15 => constructor <;> k_is)
    (case i16 => constructor <;> k_is)
    (case i17 => constructor <;> k_is)
    (case i18 => constructor <;> k_is)
    (case i19 => constructor <;> k_is)
    (case i20 => constructor <;> k_is)
    (case i21 => constructor <;> k_is)
    (case i22 => constructor <;> k_is)
    (case i23 => constructor <;> k_is)
    (case i24 => constructor <;> k_is)
    (case i25 => constructor <;> k_is)
    (case i26 => constructor <;> k_is)
    (case i27 => constructor <;> k_is)
    (case i28 => constructor <;> k_is)
    (case i29 => constructor <;> k_is)
    (case i30 => constructor <;> k_is)
    (case i31 => constructor <;> k_is)
    (case i32 => constructor <;> k_is)
    (case i33 => constructor <;> k_is)
    (case i34 => constructor <;> k_is)
    (case i35 => constructor <;> k_is)
    (case i36 => constructor <;> k_is)
    (case i37 => constructor <;> k_is)
    (case i38 => constructor <;> k_is)
    (case i39 => constructor <;> k_is)
    (case i40 => constructor <;> k_is)
    (case i41 => constructor <;> k_is)
    (case i42 => constructor <;> k_is)
    (case i43 => constructor <;> k_is)
    (case i44 => constructor <;> k_is)
    (case i45 => constructor <;> k_is)
    (case i46 => constructor <;> k_is)
    (case i47 => constructor <;> k_is)
    (case i48 => constructor <;> k_is)
    (case i49 => constructor <;> k_is)
    (case i50 => constructor <;> k_is)
    (case i51 => constructor <;> k_is)
    (case zmax => k_is)
    (case zmin => k_is)
    (case ztuple => k_is)
    (case zlen => k_is)
    (case zsorted => k_is)
    (case zenumerate => k_is)
    (case zsum => k_is)
    (case zMOST_PICKS => exact ⟨_, by k_is⟩)
    (case zrange => k_is)
    (case zisinstance => k_is)
    (case zbool => k_is)
    (case zint => k_is)
    (case zzip => k_is)
    (case fin => exact My.fin)
