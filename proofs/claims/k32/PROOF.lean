import PyProof.Rows.All
import Wide.All
import OpenK.AllK
import Wide.FinOn
import Lean
import PyProof.EqAt
import PyProof.EqKinds
import PyProof.TupleCall
import PySem.Challenge.RW_offerhouse_k32_leaves_cost
set_option Elab.async false
set_option linter.all false
set_option synthInstance.maxSize 10000
set_option synthInstance.maxHeartbeats 60000
namespace QA
inductive E | v (i:Nat) | k (n:Nat) | i (z:Int) | u (b:Bool) (x y:E) | a (x y:E) | s (x y:E) | n (x:E) | m (s:Bool) (n:Nat) (z:Int) (x:E) | c (x:E)
inductive F | le (d t:Bool) (x y:E) | eq (t:Bool) (x y:E) | ff | no (f:F) | an (f g:F) | or (f g:F) | im (f g:F) | io (f g:F)
structure C where
  i:List Int
  n:List Nat
noncomputable def gi:List Int->Nat->Int
  | [],_=>0
  | x::_,0=>x
  | _::l,i+1=>gi l i
noncomputable def gn:List Nat->Nat->Nat
  | [],_=>0
  | x::_,0=>x
  | _::l,i+1=>gn l i
noncomputable def den (c:C):E->Nat × Int
  | .v i=>(gn c.n i,gi c.i i)
  | .k n=>(n,0)
  | .i z=>(0,z)
  | .u b x y=>(cond b (max (den c x).1 (den c y).1) (min (den c x).1 (den c y).1),cond b (max (den c x).2 (den c y).2) (min (den c x).2 (den c y).2))
  | .a x y=>((den c x).1+(den c y).1,(den c x).2+(den c y).2)
  | .s x y=>((den c x).1 - (den c y).1,(den c x).2 - (den c y).2)
  | .n x=>(0,- (den c x).2)
  | .m s n z x=>(cond s (n * (den c x).1) ((den c x).1 * n),cond s (z * (den c x).2) ((den c x).2 * z))
  | .c x=>((den c x).2.toNat,((den c x).1:Int))
noncomputable def dF (c:C):F->Prop
  | .le d t x y=>cond d (cond t ((den c x).1 < (den c y).1) ((den c x).2 < (den c y).2)) (cond t ((den c x).1<=(den c y).1) ((den c x).2<=(den c y).2))
  | .eq t x y=>cond t ((den c x).1=(den c y).1) ((den c x).2=(den c y).2)
  | .ff=>False
  | .no f=>¬ dF c f
  | .an f g=>dF c f/\dF c g
  | .or f g=>dF c f ∨ dF c g
  | .im f g=>dF c f->dF c g
  | .io f g=>(dF c f ↔ dF c g)
noncomputable def ev (r:Nat->Int):List Int->Int
  | []=>0
  | c::l=>c * r 0+ev (λi=>r (i+1)) l
noncomputable def ad:List Int->List Int->List Int
  | [],m=>m
  | x::l,[]=>x::l
  | x::l,y::m=>Int.add x y::ad l m
noncomputable def sc (k:Int):List Int->List Int
  | []=>[]
  | x::l=>Int.mul k x::sc k l
theorem ev_ad:∀ (l m:List Int) (r:Nat->Int),ev r (ad l m)=ev r l+ev r m
  | [],m,r=>(Int.zero_add _).symm
  | x::l,[],r=>(Int.add_zero _).symm
  | x::l,y::m,r=>by
    show (x+y) * r 0+ev _ (ad l m)=(x * r 0+ev _ l)+(y * r 0+ev _ m)
    rw [ev_ad l m,Int.add_mul];omega
theorem ev_sc (k:Int):∀ (l:List Int) (r:Nat->Int),ev r (sc k l)=k * ev r l
  | [],r=>(Int.mul_zero k).symm
  | x::l,r=>by
    show k * x * r 0+ev _ (sc k l)=k * (x * r 0+ev _ l)
    rw [ev_sc k l,Int.mul_add,Int.mul_assoc]
noncomputable def zz:List Int->List Int
  | []=>[]
  | k::l=>k::0::0::l
noncomputable def ui:Nat->List Int
  | 0=>[0,1]
  | i+1=>zz (ui i)
noncomputable def un:Nat->List Int
  | 0=>[0,0,1]
  | i+1=>zz (un i)
noncomputable def rr (c:C):Nat->Nat->Int
  | j,0=>gi c.i j
  | j,1=>(gn c.n j:Int)
  | j,i+2=>rr c (j+1) i
noncomputable def rho (c:C) (j:Nat):Nat->Int
  | 0=>1
  | i+1=>rr c j i
theorem ev_zz {c:C} {j:Nat}:∀ l,ev (rho c j) (zz l)=ev (rho c (j+1)) l
  | []=>rfl
  | k::l=>by
    show k * 1+(0 * _+(0 * _+ev _ l))=k * 1+ev _ l
    rw [Int.zero_mul,Int.zero_mul,Int.zero_add,Int.zero_add];rfl
theorem ev_ui {c:C}:∀ (i j:Nat),ev (rho c j) (ui i)=gi c.i (j+i)
  | 0,j=>by show 0 * _+(1 * gi c.i j+0)=gi c.i j;omega
  | i+1,j=>by show ev _ (zz _)=_;rw [ev_zz,ev_ui i];congr 1;omega
theorem ev_un {c:C}:∀ (i j:Nat),ev (rho c j) (un i)=(gn c.n (j+i):Int)
  | 0,j=>by show 0 * _+(0 * _+(1 * (gn c.n j:Int)+0))=(gn c.n j:Int);omega
  | i+1,j=>by show ev _ (zz _)=_;rw [ev_zz,ev_un i];congr 2;omega
noncomputable def ge (k:Int) (x y:List Int):List Int:=ad [k] (ad y (sc (-1) x))
theorem ev_ge {c:C} {k:Int} {x y:List Int}:ev (rho c 0) (ge k x y)=k+ev (rho c 0) y - ev (rho c 0) x:=by
  unfold ge;rw [ev_ad,ev_ad,ev_sc];show k * 1+0+_=_;omega
noncomputable def Al (r:Nat->Int) (l:List (List Int)):Prop:=∀ x∈l,0<=ev r x
theorem al_c {r:Nat->Int} {x:List Int} {l:List (List Int)} (h:0<=ev r x) (hl:Al r l):Al r (x::l):=List.forall_mem_cons.mpr ⟨h,hl⟩
theorem al_n {r:Nat->Int}:Al r []:=λ_ h=>nomatch h
theorem al_a {r:Nat->Int} {l m:List (List Int)} (h:Al r l) (hl:Al r m):Al r (l++m):=λx hx=>(List.mem_append.mp hx).elim (h x) (hl x)
noncomputable abbrev A:=List Int × List (List Int)
noncomputable def G (c:C) (P:List A) (v:Int):Prop:=∃ q∈P,ev (rho c 0) q.1=v/\Al (rho c 0) q.2
noncomputable def cp (P Q:List A) (f:List Int->List Int->List A):List A:=P.flatMap λp=>Q.flatMap λq=>(f p.1 q.1).map λr=>(r.1,r.2++(p.2++q.2))
theorem cp_ok {c:C} {P Q:List A} {f:List Int->List Int->List A} {x y v:Int} (hx:G c P x) (hy:G c Q y) (hf:∀ l m,ev (rho c 0) l=x->ev (rho c 0) m=y->G c (f l m) v):G c (cp P Q f) v:=by
  obtain ⟨p,p1,p2,p3⟩:=hx;obtain ⟨q,q1,q2,q3⟩:=hy;obtain ⟨r,r1,r2,r3⟩:=hf _ _ p2 q2
  exact ⟨_,List.mem_flatMap.mpr ⟨p,p1,List.mem_flatMap.mpr ⟨q,q1,List.mem_map.mpr ⟨r,r1,rfl⟩⟩⟩,r2,al_a r3 (al_a p3 q3)⟩
noncomputable def e0:List A:=[([],[])]
noncomputable def li:E->Bool->List A
  | .v i,t=>[(cond t (un i) (ui i),[])]
  | .k n,t=>[(cond t [(n:Int)] [],[])]
  | .i z,t=>[(cond t [] [z],[])]
  | .u b x y,t=>cp (li x t) (li y t) λl m=>[(cond b l m,[ge 0 m l]),(cond b m l,[ge 0 l m])]
  | .a x y,t=>cp (li x t) (li y t) λl m=>[(ad l m,[])]
  | .s x y,t=>cp (li x t) (li y t) λl m=>(ge 0 m l,cond t [ge 0 m l] [])::cond t [([],[ge 0 l m])] []
  | .n x,t=>cp (li x t) e0 λl _=>[(cond t [] (sc (-1) l),[])]
  | .m _ n z x,t=>cp (li x t) e0 λl _=>[(sc (cond t (n:Int) z) l,[])]
  | .c x,t=>cp (li x (!t)) e0 λl _=>(l,cond t [l] [])::cond t [([],[ge 0 l []])] []
noncomputable def va (c:C) (t:Bool) (e:E):Int:=cond t ((den c e).1:Int) (den c e).2
theorem g1 {c:C} {l:List Int} {v:Int} {L:List A} {k:List (List Int)} (h:ev (rho c 0) l=v) (hk:Al (rho c 0) k):G c ((l,k)::L) v:=⟨_,List.mem_cons_self ..,h,hk⟩
theorem g2 {c:C} {q:A} {v:Int} {L:List A} (h:G c L v):G c (q::L) v:=h.elim λx hx=>⟨x,List.mem_cons_of_mem _ hx.1,hx.2⟩
theorem ge_1 {c:C} {l m:List Int} {x y:Int} (hx:ev (rho c 0) l=x) (hy:ev (rho c 0) m=y) (h:y<=x):Al (rho c 0) [ge 0 m l]:=al_c (by rw [ev_ge];omega) al_n
theorem li_ok {c:C} (e:E):∀ (t:Bool),G c (li e t) (va c t e):=by
  have z0:G c e0 0:=g1 rfl al_n
  have k1:∀ k,ev (rho c 0) [k]=k:=λk=>by show k * 1+0=k;omega
  induction e with
  | v i=>intro t;cases t <;> exact g1 ((by first | exact ev_ui i 0 | exact ev_un i 0:ev _ _=_).trans (by rw [Nat.zero_add];rfl)) al_n
  | k n=>intro t;cases t;exact g1 rfl al_n;exact g1 (k1 _) al_n
  | i z=>intro t;cases t;exact g1 (k1 _) al_n;exact g1 rfl al_n
  | u b x y hx hy =>
    intro t;refine cp_ok (hx t) (hy t) λl m e1 e2=>?_
    rcases Int.le_total (va c t y) (va c t x) with h | h
    · refine g1 ?_ (ge_1 e1 e2 h)
      cases t <;> cases b <;> (show ev _ _=_;simp only [cond_true,cond_false];first | rw [e1] | rw [e2]) <;> (simp only [va,den,cond_true,cond_false] at *;omega)
    · refine g2 (g1 ?_ (ge_1 e2 e1 h))
      cases t <;> cases b <;> (show ev _ _=_;simp only [cond_true,cond_false];first | rw [e1] | rw [e2]) <;> (simp only [va,den,cond_true,cond_false] at *;omega)
  | a x y hx hy =>
    intro t;refine cp_ok (hx t) (hy t) λl m e1 e2=>g1 ?_ al_n
    rw [ev_ad,e1,e2];cases t <;> simp only [va,den,cond_true,cond_false];omega
  | s x y hx hy =>
    intro t;refine cp_ok (hx t) (hy t) λl m e1 e2=>?_
    cases t with
    | false=>exact g1 (by rw [ev_ge,e1,e2];simp only [va,den,cond_false];omega) al_n
    | true =>
      rcases Int.le_total (va c true y) (va c true x) with h | h
      · exact g1 (by rw [ev_ge,e1,e2];simp only [va,den,cond_true] at *;omega) (ge_1 e1 e2 h)
      · exact g2 (g1 (by show (0:Int)=_;simp only [va,den,cond_true] at *;omega) (ge_1 e2 e1 h))
  | n x hx =>
    intro t;refine cp_ok (hx t) z0 λl m e1 e2=>g1 ?_ al_n
    cases t with
    | false=>show ev _ (sc _ _)=_;rw [ev_sc,e1];simp only [va,den,cond_false];omega
    | true=>rfl
  | m s n z x hx =>
    intro t;refine cp_ok (hx t) z0 λl m e1 e2=>g1 ?_ al_n
    rw [ev_sc,e1];cases t <;> cases s <;> simp only [va,den,cond_true,cond_false,Int.natCast_mul,Int.mul_comm]
  | c x hx =>
    intro t;refine cp_ok (hx (!t)) z0 λl m e1 e2=>?_
    cases t with
    | false=>exact g1 e1 al_n
    | true =>
      rcases Int.le_total 0 (va c false x) with h | h
      · exact g1 (by rw [e1];simp only [va,den,cond_true,cond_false,Bool.not_true] at *;omega) (al_c (by rw [e1];exact h) al_n)
      · exact g2 (g1 (by show (0:Int)=_;simp only [va,den,cond_true,cond_false] at *;omega) (ge_1 rfl e1 h))
noncomputable def sg:Int->Ordering
  | .ofNat 0=>.eq
  | .ofNat _=>.gt
  | .negSucc _=>.lt
noncomputable abbrev B:=Int × Int × List Int
structure P3 where
  p:List B
  n:List B
  z:List (List Int)
noncomputable def p1 (k a:Int) (r:List Int) (q:P3):Ordering->P3
  | .eq=>⟨q.p,q.n,(k::r)::q.z⟩
  | .gt=>⟨(a,k,r)::q.p,q.n,q.z⟩
  | .lt=>⟨q.p,(Int.neg a,k,r)::q.n,q.z⟩
noncomputable def ex:Nat->List Int->Int × List Int
  | _,[]=>(0,[])
  | 0,a::l=>(a,l)
  | j+1,a::l=>((ex j l).1,a::(ex j l).2)
noncomputable def p2 (j:Nat) (q:P3):List Int->P3
  | []=>q
  | k::l=>p1 k (ex j l).1 (ex j l).2 q (sg (ex j l).1)
noncomputable def pt (j:Nat):List (List Int)->P3
  | []=>⟨[],[],[]⟩
  | x::l=>p2 j (pt j l) x
noncomputable def ct (q:P3):Bool:=Nat.ble (Nat.mul q.p.length q.n.length) (Nat.succ (Nat.add q.p.length q.n.length))
noncomputable def bs (l:List (List Int)):Nat->Nat->Nat
  | 0,_=>0
  | n+1,j=>cond (ct (pt j l)) j (bs l n (j+1))
noncomputable def gc:List Int->Nat
  | []=>0
  | x::l=>Nat.gcd x.natAbs (gc l)
noncomputable def dv (g:Int):List Int->List Int
  | []=>[]
  | x::l=>x / g::dv g l
noncomputable def t1 (k:Int) (l:List Int):Nat->List Int
  | 0=>[k]
  | 1=>k::l
  | g+2=>k / ((g+2:Nat):Int)::dv ((g+2:Nat):Int) l
noncomputable def tg:List Int->List Int
  | []=>[]
  | k::l=>t1 k l (gc l)
noncomputable def co (a b:B):List Int:=tg (ad (sc b.1 (a.2.1::a.2.2)) (sc a.1 (b.2.1::b.2.2)))
noncomputable def cr (n:List B) (z:List (List Int)) (p:List B):List (List Int):=(p.flatMap λa=>n.map λb=>co a b)++z
noncomputable def f1:List Int->Bool
  | [.negSucc _]=>true
  | _=>false
noncomputable def f0 (l:List (List Int)) (j:Nat) (f:List (List Int)->Bool):Bool:=f (cr (pt j l).n (pt j l).z (pt j l).p)
noncomputable def fm:Nat->List (List Int)->Bool
  | 0,l=>l.any f1
  | n+1,l=>l.any f1 || (Nat.ble l.length 300 && f0 l (bs l (n+1) 0) (fm n))
noncomputable def dr:Nat->(Nat->Int)->Nat->Int
  | 0,r,i=>r (i+1)
  | _+1,r,0=>r 0
  | j+1,r,i+1=>dr j (λi=>r (i+1)) i
theorem ex_ok:∀ (j:Nat) (l:List Int) (r:Nat->Int),ev r l=(ex j l).1 * r j+ev (dr j r) (ex j l).2
  | 0,[],r=>by show 0=0 * _+0;rw [Int.zero_mul];rfl
  | j+1,[],r=>by show 0=0 * _+0;rw [Int.zero_mul];rfl
  | 0,a::l,r=>rfl
  | j+1,a::l,r=>by
    show a * r 0+ev _ l=(ex j l).1 * r (j+1)+(a * r 0+ev (dr j λi=>r (i+1)) (ex j l).2)
    rw [ex_ok j l];exact Int.add_left_comm ..
noncomputable def sh (j:Nat) (r:Nat->Int):Nat->Int
  | 0=>r 0
  | i+1=>dr j (λi=>r (i+1)) i
theorem ev_cut {r:Nat->Int} {j:Nat} {k:Int} {l:List Int}:ev r (k::l)=(ex j l).1 * r (j+1)+ev (sh j r) (k::(ex j l).2):=by
  show k * r 0+ev _ l=(ex j l).1 * r (j+1)+(k * r 0+ev (dr j λi=>r (i+1)) (ex j l).2)
  rw [ex_ok j l];exact Int.add_left_comm ..
noncomputable def Bp (r:Nat->Int) (y:Int) (a:B):Prop:=0 < a.1/\0<=a.1 * y+ev r (a.2.1::a.2.2)
noncomputable def P0 (r:Nat->Int) (j:Nat) (q:P3):Prop:=(∀ a∈q.p,Bp (sh j r) (r (j+1)) a)/\(∀ a∈q.n,Bp (sh j r) (-r (j+1)) a)/\Al (sh j r) q.z
theorem sg_ok (a:Int):(sg a=.eq/\a=0) ∨ (sg a=.gt/\0 < a) ∨ (sg a=.lt/\a < 0):=by
  match a with
  | .ofNat 0=>exact .inl ⟨rfl,rfl⟩
  | .ofNat (n+1)=>exact .inr (.inl ⟨rfl,Int.natCast_pos.mpr (Nat.succ_pos n)⟩)
  | .negSucc _=>exact .inr (.inr ⟨rfl,by omega⟩)
theorem p2_ok {r:Nat->Int} {j:Nat} {q:P3} (h:P0 r j q):∀ {x:List Int},0<=ev r x->P0 r j (p2 j q x)
  | [],_=>h
  | k::l,hx=>by
    rw [ev_cut (j:=j)] at hx
    show P0 r j (p1 k (ex j l).1 (ex j l).2 q (sg (ex j l).1))
    rcases sg_ok (ex j l).1 with ⟨e,g⟩ | ⟨e,g⟩ | ⟨e,g⟩ <;> rw [e]
    · exact ⟨h.1,h.2.1,al_c (by rw [g,Int.zero_mul,Int.zero_add] at hx;exact hx) h.2.2⟩
    · exact ⟨List.forall_mem_cons.mpr ⟨⟨g,hx⟩,h.1⟩,h.2⟩
    · exact ⟨h.1,List.forall_mem_cons.mpr ⟨⟨Int.neg_pos_of_neg g,by show 0<=-(ex j l).1 * -r (j+1)+_;rw [Int.neg_mul_neg];exact hx⟩,h.2.1⟩,h.2.2⟩
theorem pt_ok {r:Nat->Int} (j:Nat):∀ {l:List (List Int)},Al r l->P0 r j (pt j l)
  | [],_=>⟨λ_ h=>(nomatch h),λ_ h=>(nomatch h),al_n⟩
  | x::l,h=>p2_ok (pt_ok j λy hy=>h y (List.mem_cons_of_mem _ hy)) (h x (List.mem_cons_self ..))
theorem gc_dv:∀ (l:List Int) (g:Nat) (r:Nat->Int),g ∣ gc l->ev r l=g * ev r (dv g l)
  | [],g,r,_=>(Int.mul_zero _).symm
  | x::l,g,r,h=>by
    have h3:(g:Int) * (x / g)=x:=Int.mul_ediv_cancel' (Int.ofNat_dvd_left.mpr (Nat.dvd_trans h (Nat.gcd_dvd_left ..)))
    show x * _+ev _ l=g * (x / g * _+ev _ (dv g l))
    rw [gc_dv l g _ (Nat.dvd_trans h (Nat.gcd_dvd_right ..)),Int.mul_add,← Int.mul_assoc,h3]
theorem t1_ok {r:Nat->Int} (hr:r 0=1) {k:Int} {l:List Int} (h:0<=ev r (k::l)):∀ {g},g=gc l->0<=ev r (t1 k l g)
  | 0,e=>by
    have h:0<=k * r 0+ev _ l:=h
    rw [gc_dv l 0 _ (by rw [e];exact Nat.dvd_refl _),Int.natCast_zero,Int.zero_mul] at h;exact h
  | 1,e=>h
  | g+2,e=>by
    have h:0<=k * r 0+ev _ l:=h
    show 0<=k / ((g+2:Nat):Int) * r 0+ev _ (dv ((g+2:Nat):Int) l)
    rw [gc_dv l (g+2) _ (by rw [e];exact Nat.dvd_refl _),hr,Int.mul_one] at h
    rw [hr,Int.mul_one]
    have hg:0 < ((g+2:Nat):Int):=by omega
    generalize ((g+2:Nat):Int)=d at *
    generalize ev _ (dv d l)=y at *
    have:-y<=k / d:=(Int.le_ediv_iff_mul_le hg).mpr (by rw [Int.neg_mul,Int.mul_comm];omega)
    omega
theorem co_ok {r:Nat->Int} (hr:r 0=1) {y:Int} {a b:B} (h1:Bp r y a) (h2:Bp r (-y) b):0<=ev r (co a b):=by
  refine t1_ok hr ?_ rfl
  show 0<=ev r (ad (sc b.1 (a.2.1::a.2.2)) (sc a.1 (b.2.1::b.2.2)))
  rw [ev_ad,ev_sc,ev_sc]
  have e1:=Int.mul_nonneg (Int.le_of_lt h2.1) h1.2
  have e2:=Int.mul_nonneg (Int.le_of_lt h1.1) h2.2
  rw [Int.mul_add] at e1 e2
  have:a.1 * (b.1 * -y)=- (b.1 * (a.1 * y)):=by rw [Int.mul_neg,Int.mul_neg,Int.mul_left_comm]
  omega
theorem f1_ok {r:Nat->Int} (hr:r 0=1) {l:List (List Int)} (h:Al r l):¬ l.any f1=true:=λk=>by
  obtain ⟨x,h1,h2⟩:=List.any_eq_true.mp k
  have:=h x h1
  unfold f1 at h2;split at h2
  · have t:0<=_ * r 0+0:=this
    rw [hr] at t;omega
  · cases h2
theorem fm_ok:∀ (n:Nat) {r:Nat->Int} {l:List (List Int)},r 0=1->Al r l->¬ fm n l=true
  | 0,r,l,hr,h=>f1_ok hr h
  | n+1,r,l,hr,h=>λk=>by
    rcases Bool.or_eq_true_iff.mp k with k | k
    · exact f1_ok hr h k
    · obtain ⟨i,j,m⟩:=pt_ok (bs l (n+1) 0) h
      refine fm_ok n (r:=sh _ r) hr (al_a (λx hx=>?_) m) (Bool.and_eq_true_iff.mp k).2
      obtain ⟨a,a1,a2⟩:=List.mem_flatMap.mp hx
      obtain ⟨b,b1,rfl⟩:=List.mem_map.mp a2
      exact co_ok (r:=sh _ r) hr (i a a1) (j b b1)
noncomputable abbrev T:=List (Bool × F)
noncomputable def al (t:Bool) (x y:E) (cs:List (List Int)) (k:List Int->List Int->List (List Int)->Bool):Bool:=(li x t).all λp=>(li y t).all λq=>k p.1 q.1 (p.2++(q.2++cs))
noncomputable def tb (w:Nat):Nat->T->List (List Int)->Bool
  | 0,_,_=>false
  | n+1,[],cs=>fm w cs
  | n+1,(b,f)::r,cs=>match f with
    | .le d t x y=>al t x y cs λl m cs=>tb w n r (cond b (ge (cond d (-1) 0) l m) (ge (cond d 0 (-1)) m l)::cs)
    | .eq t x y=>al t x y cs λl m cs=>cond b (tb w n r (ge 0 l m::ge 0 m l::cs)) (tb w n r (ge (-1) l m::cs) && tb w n r (ge (-1) m l::cs))
    | .ff=>cond b true (tb w n r cs)
    | .no f=>tb w n ((!b,f)::r) cs
    | .an f g=>cond b (tb w n ((true,f)::(true,g)::r) cs) (tb w n ((false,f)::r) cs && tb w n ((false,g)::r) cs)
    | .or f g=>cond b (tb w n ((true,f)::r) cs && tb w n ((true,g)::r) cs) (tb w n ((false,f)::(false,g)::r) cs)
    | .im f g=>cond b (tb w n ((false,f)::r) cs && tb w n ((true,g)::r) cs) (tb w n ((true,f)::(false,g)::r) cs)
    | .io f g=>tb w n ((b,g)::(true,f)::r) cs && tb w n ((!b,g)::(false,f)::r) cs
noncomputable def hd (c:C) (q:Bool × F):Prop:=cond q.1 (dF c q.2) (¬ dF c q.2)
theorem al_ok {c:C} {t:Bool} {x y:E} {cs:List (List Int)} {k:List Int->List Int->List (List Int)->Bool} (h:al t x y cs k=true) (hc:Al (rho c 0) cs):∃ l m d,ev (rho c 0) l=va c t x/\ev (rho c 0) m=va c t y/\Al (rho c 0) d/\k l m d=true:=by
  obtain ⟨p,p1,p2,p3⟩:=li_ok (c:=c) x t;obtain ⟨q,q1,q2,q3⟩:=li_ok (c:=c) y t
  exact ⟨_,_,_,p2,q2,al_a p3 (al_a q3 hc),List.all_eq_true.mp (List.all_eq_true.mp h p p1) q q1⟩
theorem tb_ok {c:C} {w:Nat}:∀ (n:Nat) {r:T} {cs:List (List Int)},Al (rho c 0) cs->(∀ q∈r,hd c q)->¬ tb w n r cs=true
  | 0,_,_,_,_=>nofun
  | n+1,[],cs,hc,hr=>fm_ok w rfl hc
  | n+1,(b,f)::r,cs,hc,hr=>λh=>by
    obtain ⟨hq,hr'⟩:=List.forall_mem_cons.mp hr
    have I:∀ {p q},hd c p->hd c q->tb w n (p::q::r) cs=true->False:=λh1 h2 h3=>tb_ok n hc (List.forall_mem_cons.mpr ⟨h1,List.forall_mem_cons.mpr ⟨h2,hr'⟩⟩) h3
    have J:∀ {p},hd c p->tb w n (p::r) cs=true->False:=λh1 h3=>tb_ok n hc (List.forall_mem_cons.mpr ⟨h1,hr'⟩) h3
    cases f with
    | le d t x y =>
      have h:al t x y cs (λl m cs=>tb w n r (cond b (ge (cond d (-1) 0) l m) (ge (cond d 0 (-1)) m l)::cs))=true:=h
      obtain ⟨l,m,e,h1,h2,he,h3⟩:=al_ok h hc
      refine tb_ok n (al_c ?_ he) hr' h3
      cases b <;> cases t <;> cases d <;> (show 0<=ev _ (ge _ _ _);rw [ev_ge,h1,h2];simp only [hd,dF,va,cond_true,cond_false] at *;omega)
    | eq t x y =>
      have h:al t x y cs (λl m cs=>cond b (tb w n r (ge 0 l m::ge 0 m l::cs)) (tb w n r (ge (-1) l m::cs) && tb w n r (ge (-1) m l::cs)))=true:=h
      obtain ⟨l,m,e,h1,h2,he,h3⟩:=al_ok h hc
      cases b with
      | true =>
        refine tb_ok n (al_c ?_ (al_c ?_ he)) hr' h3 <;>
        cases t <;> (rw [ev_ge,h1,h2];simp only [hd,dF,va,cond_true,cond_false] at *;omega)
      | false =>
        obtain ⟨h4,h5⟩:=Bool.and_eq_true_iff.mp h3
        rcases Int.lt_or_lt_of_ne (a:=ev (rho c 0) l) (b:=ev (rho c 0) m) (by rw [h1,h2];cases t <;> (simp only [hd,dF,va,cond_true,cond_false] at *;omega)) with g | g
        · exact tb_ok n (al_c (by rw [ev_ge];omega) he) hr' h4
        · exact tb_ok n (al_c (by rw [ev_ge];omega) he) hr' h5
    | ff =>
      cases b with
      | true=>exact hq
      | false=>exact tb_ok n hc hr' h
    | no f =>
      cases b with
      | true=>exact J (p:=(false,f)) hq h
      | false=>exact J (p:=(true,f)) (Classical.not_not.mp hq) h
    | an f g =>
      cases b with
      | true=>exact I (p:=(true,f)) (q:=(true,g)) hq.1 hq.2 h
      | false =>
        obtain ⟨h4,h5⟩:=Bool.and_eq_true_iff.mp h
        by_cases k:dF c f
        · exact J (p:=(false,g)) (λz=>hq ⟨k,z⟩) h5
        · exact J (p:=(false,f)) k h4
    | or f g =>
      cases b with
      | false=>exact I (p:=(false,f)) (q:=(false,g)) (λz=>hq (.inl z)) (λz=>hq (.inr z)) h
      | true =>
        obtain ⟨h4,h5⟩:=Bool.and_eq_true_iff.mp h
        rcases (hq:dF c f ∨ dF c g) with k | k
        · exact J (p:=(true,f)) k h4
        · exact J (p:=(true,g)) k h5
    | im f g =>
      cases b with
      | false=>exact I (p:=(true,f)) (q:=(false,g)) (Classical.byContradiction λz=>hq λy=>(z y).elim) (λz=>hq λ_=>z) h
      | true =>
        obtain ⟨h4,h5⟩:=Bool.and_eq_true_iff.mp h
        by_cases k:dF c f
        · exact J (p:=(true,g)) (hq k) h5
        · exact J (p:=(false,f)) k h4
    | io f g =>
      obtain ⟨h4,h5⟩:=Bool.and_eq_true_iff.mp h
      by_cases k:dF c f
      · refine I (p:=(b,g)) (q:=(true,f)) ?_ k h4
        cases b with
        | true=>exact hq.mp k
        | false=>exact λz=>hq ⟨λ_=>z,λ_=>k⟩
      · refine I (p:=(!b,g)) (q:=(false,f)) ?_ k h5
        cases b with
        | true=>exact λz=>k (hq.mpr z)
        | false=>exact Classical.byContradiction λz=>hq ⟨λy=>(k y).elim,λy=>(z y).elim⟩
noncomputable def mx:E->Nat
  | .v i=>i+1
  | .a x y=>(mx x).max (mx y)
  | .s x y=>(mx x).max (mx y)
  | .u _ x y=>(mx x).max (mx y)
  | .m _ _ _ x=>mx x
  | .n x=>mx x
  | .c x=>mx x
  | _=>0
noncomputable def mF:F->Nat
  | .le _ _ x y=>(mx x).max (mx y)
  | .eq _ x y=>(mx x).max (mx y)
  | .ff=>0
  | .no f=>mF f
  | .an f g=>(mF f).max (mF g)
  | .or f g=>(mF f).max (mF g)
  | .im f g=>(mF f).max (mF g)
  | .io f g=>(mF f).max (mF g)
noncomputable def nz:Nat->List (List Int)
  | 0=>[]
  | i+1=>un i::nz i
theorem nz_ok {c:C}:∀ n,Al (rho c 0) (nz n)
  | 0=>al_n
  | n+1=>al_c (by rw [ev_un];exact Int.natCast_nonneg _) (nz_ok n)
noncomputable def ok (f:F):Bool:=tb (mF f+mF f) 400 [(false,f)] (nz (mF f))
noncomputable abbrev Wit (c:C) (f:F):Prop:=ok f=true->dF c f
theorem R {c:C} {f:F}:Wit c f:=λh=>Classical.byContradiction λk=>tb_ok 400 (nz_ok _) (r:=[(false,f)]) (List.forall_mem_cons.mpr ⟨k,λ_ h=>absurd h List.not_mem_nil⟩) h
class AI (e:Int) (l:List Int) (l':outParam (List Int)) (n:outParam Nat):Prop
instance:AI e [] [e] 0:=⟨⟩
instance (priority:=low) [AI e l l' n]:AI e (d::l) (d::l') (.succ n):=⟨⟩
instance:AI e (e::l) (e::l) 0:=⟨⟩
class AN (e:Nat) (l:List Nat) (l':outParam (List Nat)) (n:outParam Nat):Prop
instance:AN e [] [e] 0:=⟨⟩
instance (priority:=low) [AN e l l' n]:AN e (d::l) (d::l') (.succ n):=⟨⟩
instance:AN e (e::l) (e::l) 0:=⟨⟩
class RI (e:Int) (c:C) (c':outParam C) (x:outParam E):Prop
class RN (e:Nat) (c:C) (c':outParam C) (x:outParam E):Prop
instance (priority:=low) [AI e i i' k]:RI e ⟨i,n⟩ ⟨i',n⟩ (.v k):=⟨⟩
instance (priority:=low) [AN e n n' k]:RN e ⟨i,n⟩ ⟨i,n'⟩ (.v k):=⟨⟩
class LN (e:Nat):Prop
instance:LN 0:=⟨⟩
instance:LN 1:=⟨⟩
instance:LN 1000:=⟨⟩
instance:LN 1000000:=⟨⟩
instance:LN 140:=⟨⟩
instance:LN 16:=⟨⟩
instance:LN 16777216:=⟨⟩
instance:LN 2:=⟨⟩
instance:LN 200:=⟨⟩
instance:LN 24:=⟨⟩
instance:LN 250:=⟨⟩
instance:LN 3:=⟨⟩
instance:LN 38:=⟨⟩
instance:LN 39:=⟨⟩
instance:LN 40:=⟨⟩
instance:LN 41:=⟨⟩
instance:LN 42:=⟨⟩
instance:LN 43:=⟨⟩
instance:LN 45:=⟨⟩
instance:LN 5:=⟨⟩
instance:LN 52:=⟨⟩
instance:LN 6:=⟨⟩
instance:LN 60:=⟨⟩
instance:LN 63:=⟨⟩
instance:LN 64:=⟨⟩
instance:LN 8:=⟨⟩
instance:LN 80:=⟨⟩
instance:LN 9:=⟨⟩
instance:LN 900000:=⟨⟩
class LI (e:Int):Prop
instance:LI 0:=⟨⟩
instance:LI 1:=⟨⟩
instance:LI 10:=⟨⟩
instance:LI 1000:=⟨⟩
instance:LI 2:=⟨⟩
instance:LI 200:=⟨⟩
instance:LI 3:=⟨⟩
instance:LI 33:=⟨⟩
instance:LI 4:=⟨⟩
instance:LI 40:=⟨⟩
instance:LI 5:=⟨⟩
instance:LI 6:=⟨⟩
instance:LI 60:=⟨⟩
instance:LI 72:=⟨⟩
instance:LI 76:=⟨⟩
instance:LI 7907:=⟨⟩
instance:LI 80:=⟨⟩
instance:LI 84:=⟨⟩
instance:LI 88:=⟨⟩
instance:LI 9:=⟨⟩
instance [LI a]:LI (-a):=⟨⟩
instance (priority:=500) [LN e]:RN e c c (.k e):=⟨⟩
instance (priority:=500) [LI e]:RI e c c (.i e):=⟨⟩
instance [LI a] [LN b]:RI (a ^ b) c c (.i (a ^ b)):=⟨⟩
instance [LN a] [LN b]:RN (a ^ b) c c (.k (a ^ b)):=⟨⟩
instance [RI a c d x] [RI b d e y]:RI (max a b) c e (.u true x y):=⟨⟩
instance [RI a c d x] [RI b d e y]:RI (min a b) c e (.u false x y):=⟨⟩
instance [RN a c d x] [RN b d e y]:RN (max a b) c e (.u true x y):=⟨⟩
instance [RN a c d x] [RN b d e y]:RN (min a b) c e (.u false x y):=⟨⟩
instance [RI a c d x] [RI b d e y]:RI (a+b) c e (.a x y):=⟨⟩
instance [RN a c d x] [RN b d e y]:RN (a+b) c e (.a x y):=⟨⟩
instance [RI a c d x] [RI b d e y]:RI (a - b) c e (.s x y):=⟨⟩
instance [RN a c d x] [RN b d e y]:RN (a - b) c e (.s x y):=⟨⟩
instance [RI a c d x]:RI (-a) c d (.n x):=⟨⟩
instance [LI a] [RI b c d y]:RI (a * b) c d (.m true 0 a y):=⟨⟩
instance [LI a] [RI b c d y]:RI (b * a) c d (.m false 0 a y):=⟨⟩
instance [LN a] [RN b c d y]:RN (a * b) c d (.m true a 0 y):=⟨⟩
instance [LN a] [RN b c d y]:RN (b * a) c d (.m false a 0 y):=⟨⟩
instance [RN a c d x]:RI (Nat.cast a) c d (.c x):=⟨⟩
instance [RI a c d x]:RN (Int.toNat a) c d (.c x):=⟨⟩

class RF (p:Prop) (c:C) (c':outParam C) (f:outParam F):Prop
instance {a b:Int} [RI a c d x] [RI b d e y]:RF (a<=b) c e (.le false false x y):=⟨⟩
instance {a b:Int} [RI a c d x] [RI b d e y]:RF (a < b) c e (.le true false x y):=⟨⟩
instance {a b:Int} [RI a c d x] [RI b d e y]:RF (b ≥ a) c e (.le false false x y):=⟨⟩
instance {a b:Int} [RI a c d x] [RI b d e y]:RF (b > a) c e (.le true false x y):=⟨⟩
instance {a b:Int} [RI a c d x] [RI b d e y]:RF (a=b) c e (.eq false x y):=⟨⟩
instance {a b:Int} [RI a c d x] [RI b d e y]:RF (a ≠ b) c e (.no (.eq false x y)):=⟨⟩
instance {a b:Nat} [RN a c d x] [RN b d e y]:RF (a<=b) c e (.le false true x y):=⟨⟩
instance {a b:Nat} [RN a c d x] [RN b d e y]:RF (a < b) c e (.le true true x y):=⟨⟩
instance {a b:Nat} [RN a c d x] [RN b d e y]:RF (b ≥ a) c e (.le false true x y):=⟨⟩
instance {a b:Nat} [RN a c d x] [RN b d e y]:RF (b > a) c e (.le true true x y):=⟨⟩
instance {a b:Nat} [RN a c d x] [RN b d e y]:RF (a=b) c e (.eq true x y):=⟨⟩
instance {a b:Nat} [RN a c d x] [RN b d e y]:RF (a ≠ b) c e (.no (.eq true x y)):=⟨⟩
instance:RF False c c .ff:=⟨⟩
instance [RF p c d f]:RF (¬p) c d (.no f):=⟨⟩
instance [RF p c d f] [RF q d e g]:RF (p/\q) c e (.an f g):=⟨⟩
instance [RF p c d f] [RF q d e g]:RF (p ∨ q) c e (.or f g):=⟨⟩
instance [RF p c d f] [RF q d e g]:RF (p->q) c e (.im f g):=⟨⟩
instance [RF p c d f] [RF q d e g]:RF (p ↔ q) c e (.io f g):=⟨⟩
theorem Rw (p:Prop) [RF p ⟨[],[]⟩ c f]:Wit c f:=R
end QA
local macro_rules
  | `(tactic| ext $ps:rintroPat*:$_:num)=>`(tactic| (refine id ?_;ext $ps*))
  | `(tactic| ext $ps:rintroPat*)=>do
    let mut ty ← `(_)
    let mut f:=false
    let mut hs:=#[]
    for p in ps do
      match p with
      | `(rintroPat| $h:ident)=>hs:=hs.push (← `($h:ident))
      | _=>f:=true
    for h in hs.reverse do ty ← `(type_of% $h->$ty)
    let t ← `(tactic| (refine (?g:$ty) $hs*;refine (QA.R:type_of% (QA.Rw (type_of% ?g))) ?_;decide +kernel))
    if f then `(tactic| (exfalso;$t)) else return t
set_option Elab.async false
set_option linter.all false
set_option maxRecDepth 100000
open And renaming intro->c1Y
open Array renaming length_toList->gh,getElem?_toList->sy,toList_append->rR,getElem?_eq_getElem->xZ,toList_push->va,perm_iff_toList_perm->DZ,getElem_toList->Bt,toList_extract->DM,toList_reverse->DK,getD->xK,toList_inj->Iy,toList_modify->Nc,append_assoc->MO
open Array.Perm renaming refl->MR
open Bool renaming false_ne_true->pV,and_eq_true->sF,noConfusion->wL,false_eq_true->xS,not_eq_true->DS,true_and->HQ
open Eq renaming trans->pR
open False renaming elim->l'
open ForInStep renaming yield->sA,done->Dz
open Iff renaming rfl->eR
open Int renaming toNat_natCast->xQ,mul_nonneg->wQ,mul_le_mul->wO,emod_lt_of_pos->By,emod_nonneg->Bf,zero_add->DC,not_le->Dt,add_zero->HK,mul_one->HZ
open List renaming getElem?_set_ne->dQ,mem_cons->cf,length_append->dz,size_toArray->dG,getElem?_set_self->kE,length_map->dF,mem_cons_of_mem->jo,getElem?_eq_getElem->mB,not_mem_nil->fT,map_cons->dE,mem_cons_self->kU,append_assoc->kD,length_cons->jX,getElem?_eq_some_iff->qK,length_take->mz,mem_singleton->nX,mem_append_right->ql,take_append_drop->qk,mem_append->nu,lookup_cons->nY,mem_iff_getElem->qm,replicate->mC,drop_eq_getElem_cons->sI,getElem?_append_right->t9,pairwise_append->qH,getElem?_map->qh,pairwise_cons->rQ,getElem?_append_left->wY,flatten_singleton->u9,map_append->qF,length_drop->rP,zip_cons_cons->tY,pairwise_iff_getElem->ya,flatten_append->ve,map_nil->pU,append_nil->sC,getElem?_replicate->yd,mem_of_mem_take->wZ,getElem_mem->tZ,drop_eq_nil_of_le->yb,zipWith->qI,range->o7,mem_append_left->yf,mem_of_mem_drop->ye,pairwise_singleton->BF,mem_map->rM,find?_cons->uY,take_of_length_le->Bw,perm_append_comm->Bv,getElem?_eq_none->Bu,extract_eq_take_drop->DX,reverse_perm->xY,length_eq_zero_iff->D4,countP_cons_of_pos->D3,mem_reverse->xW,lookup->tX,length_replicate->D2,getElem_take->BD,getD_eq_getElem?_getD->Jf,getElem?_append->D6,filterMap_cons->DJ,length_pos_iff->DI,map_map->wH,nodup_cons->Bj,countP_cons_of_neg->IF,zipWith_cons_cons->IZ,flatten_cons->DU,length_singleton->IY,getElem?_toArray->IX,take_append_of_le_length->Nl,cons_append->DR,length_tail->DQ,mem_of_getElem?->IW,map_eq_cons_iff->IT,of_mem_zip->DO,length->xO,length_zip->DN,length_eraseIdx_of_lt->Nm,getElem?_eq_none_iff->MZ,mem_range->DB,drop_zero->Dy,take_sublist->Ik,getElem?_set->Ij,ext_getElem?->Ih,getElem_drop->Ie,pairwise_map->Ic,filterMap_cons_some->MY,any_cons->Dv,filter_cons_of_pos->MV,filter_cons_of_neg->Na,all_eq_true->Iz,mem_filter->Iw,length_set->Ir,length_nil->Ip,dropLast_eq_take->M5,getElem?_zipWith->M4,nil_append->Io,reverse_reverse->Nh,drop_take->ID,length_zipWith->Nd,mem_filterMap->MN,getElem?_take->ML,all_cons->HR
open List.Pairwise renaming nil->t4
open List.Perm renaming refl->t8,append_left->D0,swap->MP
open Nat renaming le_refl->bX,ne_of_lt->dr,lt_of_lt_of_le->nr,le_trans->jZ,lt_succ_self->nZ,lt_succ_of_lt->qG,eq_zero_of_not_pos->wX,lt_irrefl->sH,lt_of_succ_lt->wN,zero_le->sr,lt_of_le_of_ne->Bz,le_of_lt->u5,le_succ->uW,add_sub_cancel_left->IH,not_lt_zero->Bh,le_add_right->DT,add_le_add_right->IU,ne_of_gt->Bq,lt_of_le_of_lt->Jb,eq_zero_or_pos->I9,zero_add->Bp,sub_self->Bo,pos_of_ne_zero->I0,le_of_succ_le->Ig,le_of_sub_eq_zero->M3,lt_or_ge->DD,add_le_add_left->Ng,add_assoc->HS,lt_trans->HL
open Ne renaming symm->jW
open Option renaming bind_some->sD,map_eq_some_iff->yc,map_some->xV,isSome_iff_exists->IP,getD_none->IA,isSome_map->MI,map->HW
open Option.some renaming injEq->dA,inj->dh
open Or renaming inr->bP,inl->cq
open PyProof.Rows renaming wpS_bind->bj,wpS_pure->bF,wpS_forRange->nV,slot_tuple_getitem->D7,wpS_mono->nU,callWith_type1->Je,wpS_modify->su,pairsOf_toList->xM,wpS_get->qg
open PyProof.Rows.F renaming plain_set_update_loop->IG,entry_set_update_loop->M'
open PyProof.Rows.SortSt renaming mk'->Be
open PySem renaming wpAny_bind->aM,wpAny_pure->bE,wpAny_newObj_type->sx,wpAny_mono->nG,wpAny_truthy_bool->t7,sizeLine_eq->pT,wpAny_holding->sG,mem_of_lookup->xT,wpAny_call_entry->wM,Builtin->b9o,wpAny_setField_rec->xR,wpAny_passesOwn->wK,call_isinstance->wU,fits_of_scanBound->xX,wpAny_callSpecial?_slot->D5,wpAny_setEntries_of->BA,codeAny_mono->u4,codeAny_builtin->xU,KeyKind->wW,wpAny_setState_of->BC,wpAny_askSetting->Bk,wpAny_Call_Name_kw->DH,wpAny_ite_split->Bg,wpAny_of_eq->wI,plainId_quiet->Bm,wpAny_execs_nil->DP,tupleKind_room_in1->Ja,wpAny_fieldsOf->Dx,wpAny_pyIter_list->Ii,intBits_le_64->Dw,wpAny_attempt->Du,strKind->DF,noFill_tuple_add->IB,wpAny_standAt->HV,seq_tuple_add->HU,wpAny_rule->Ds,Within->HP,call->HX
open PySem.Around renaming under_plainId->Br,under->HN
open PySem.Builtin.Int renaming intBits->Nf
open PySem.Builtin.List renaming listTooLong->IK,listLengthHint->Nk,listExtendWith->Nj,listSameRef->MX
open PySem.Builtin.Range renaming rangeSize->MW
open PySem.Builtin.Slice renaming slicePlaces->DY,sliceAdjust->IQ,sliceApplied->Nn
open PySem.Builtin.Tuple renaming tupleExact->DW
open PySem.Calls renaming Name_function_global->Ni,callWith_builtin->M8
open PySem.Code renaming isFrame->HM
open PySem.F renaming called_set->u7,args_tuple_add_2->IM,entry_tuple_add->IJ,plainAttrs_list->II,slot_tuple_add->IE,slot_list_append->M7,slot_list_extend->M6,slot_list_pop->MM
open PySem.Heap renaming get?_push_of_some->c8,lt_size->cE,get?_push_size->jY,size_push->nF,SameBut->rT,get?_update_other->Bx,get?_update_self->D1,ExtBut->DG
open PySem.Heap.SameBut renaming update->Nb,refl->MH
open PySem.IsRange renaming new->HY
open PySem.NameKind renaming free->qj,cell->wV
open PySem.Obj renaming mapSeq->o8,putSet->Dr
open PySem.PassesOwn renaming never->Bi
open PySem.SetTable renaming below->rS,grown->wR,sizeAbove->Im,Probe->MQ
open PySem.SetTable.below renaming go->MG
open PySem.SetTable.probe renaming go->Ib
open PySem.Str renaming empty->wG,ofString->DE
open PySem.Value renaming ref->cI,none->ma,bool->nW,isStrOf_shape->BB,isInt_shape->BE,type->tV,isStrOf->IC,int->Bc,str->Bb,isInt->Ia,float->H9
open PySem.W renaming Frag->aI,findIn->bh,nsIn->gg,mg_none_of->qi,fnOf->md,isFn->my,keepIn->pS,kia_one->rO,plainGet->sv,hasDictIn->t6,emptyDict->t5,tabIn->qJ,plainOver->vb,instObj->u3,makesIn->uZ,mg_of->tW,kitOne->uX,mroIn->u6,tabObj->xN,specialIn->DV,codeIn->Bn,plainGet_of->IS,callWith_K->Jc,lookIn->DA,methodObj->Il,cellsFrom_some->M9,takerIn->Iv,takesIn->Iu,OpenLaw->Iq,methodCall_KW->M0,kitx_list->MK,kitx_dict->MJ,handedIn->MU,codeHdIn->MS
open String renaming splitOnAux->MF
open Sum renaming inr->qE,inl->wF
open Sum.inr renaming inj->Bd
open True renaming intro->rN
theorem QK{a b c:Nat}(h:a+c<=b):a<=b:=jZ (DT _ _) h
theorem QJ{a b c:Nat}(h:a<=b):a-c<=b:=jZ (Nat.sub_le _ _) h
namespace L2
open PySem PySem.Spec PyProof.Rows
abbrev Key:=Sum Int Str
def yk:Key->Value->Bool
 | .inl k,v=>Ia k v
 | .inr x,v=>IC x v
def GJ(w:World):Key->Int
 | .inl k=>hashInt k
 | .inr x=>hashStr w x
theorem uk:∀{k:Key} {v:Value},yk k v=true->(∃i t,k=wF i/\v=Bc i t)\/(∃x t,k=qE x/\v=Bb x t)
 | .inl i,v,h=>by
  obtain ⟨t,e⟩:=BE (k:=i) (v:=v) h
  exact .inl ⟨i,t,rfl,e⟩
 | .inr x,v,h=>by
  obtain ⟨t,e⟩:=BB (x:=x) (v:=v) h
  exact .inr ⟨x,t,rfl,e⟩
theorem Yc(i:Int)(t:Tok):yk (.inl i) (.int i t)=true:=by simp [yk,Ia]
theorem Yd(x:Str)(t:Tok):yk (.inr x) (.str x t)=true:=by simp [yk,IC]
theorem UB(a b:Int):decide ((wF a:Key)=wF b)=(a==b):=by
 by_cases e:a=b
 .subst e;simp
 .have h:¬(wF a:Key)=wF b:=λq=>e (Sum.inl.inj q)
  rw [decide_eq_false h]
  exact (beq_eq_false_iff_ne.mpr e).symm
theorem Vo(a b:Str):decide ((qE a:Key)=qE b)=decide (a=b):=by
 by_cases e:a=b
 .subst e;simp
 .have h:¬(qE a:Key)=qE b:=λq=>e (Bd q)
  rw [decide_eq_false h,decide_eq_false e]
theorem UC(a:Int)(b:Str):decide ((wF a:Key)=qE b)=false:=decide_eq_false (λq=>nomatch q)
theorem UD(a:Str)(b:Int):decide ((qE a:Key)=wF b)=false:=decide_eq_false (λq=>nomatch q)
def pZ(prog:Program)(w:World):wW prog w Key where
 is:=yk
 hash:=GJ w
 inj:=λv a b ha hb=>by
  rcases uk ha with ⟨i,t,rfl,rfl⟩ | ⟨x,t,rfl,rfl⟩
  .rcases uk hb with ⟨j,u,rfl,e⟩ | ⟨y,u,rfl,e⟩
   .injection e with e1 _;rw [e1]
   .exact nomatch e
  .rcases uk hb with ⟨j,u,rfl,e⟩ | ⟨y,u,rfl,e⟩
   .exact nomatch e
   .injection e with e1 _;rw [e1]
 byValue:=λk v h=>by
  rcases uk h with ⟨i,t,rfl,rfl⟩ | ⟨x,t,rfl,rfl⟩<;>rfl
 pyHash:=λhv h=>by
  rcases uk hv with ⟨i,t,rfl,rfl⟩ | ⟨x,t,rfl,rfl⟩
  .exact wpAny_pyHash_int h
  .exact wpAny_pyHash_str h
 eqBool:=λhu hv h=>by
  rcases uk hu with ⟨i,t,rfl,rfl⟩ | ⟨x,t,rfl,rfl⟩
  .rcases uk hv with ⟨j,u,rfl,rfl⟩ | ⟨y,u,rfl,rfl⟩
   .rw [UB] at h;exact wpAny_eqBool_int h
   .rw [UC] at h;exact SeqAt.EqAt.int_str i t y u _ _ _ _ h
  .rcases uk hv with ⟨j,u,rfl,rfl⟩ | ⟨y,u,rfl,rfl⟩
   .rw [UD] at h;exact SeqAt.EqAt.str_int x t j u _ _ _ _ h
   .rw [Vo] at h;exact wpAny_eqBool_str h
 «strs»:=λk x t v h=>by
  rcases uk h with ⟨i,u,rfl,e⟩ | ⟨y,u,rfl,e⟩
  .exact nomatch e
  .injection e with e1 _
   subst e1
   cases v<;>rfl
theorem YZ(prog:Program)(w:World)(i:Int)(t:Tok):(pZ prog w).is (.inl i) (.int i t)=true:=Yc i t
theorem Y0(prog:Program)(w:World)(x:Str)(t:Tok):(pZ prog w).is (.inr x) (.str x t)=true:=Yd x t
end L2
namespace L2
open PySem PySem.Spec PyProof.Rows
inductive V where
 | bo | bl (b:Bool) | int (i:Int) | str (x:Str) | xP (b:Array UInt8) | wq (b:UInt64) | ref (a:Addr) | ty (n:String)
 deriving DecidableEq
def RelV:V->Value->Prop
 | .bo,u=>u=ma
 | .bl b,u=>u=nW b
 | .int i,u=>∃t,u=Bc i t
 | .str x,u=>∃t,u=Bb x t
 | .xP b,u=>∃t,u=Value.bytes b t
 | .wq b,u=>∃t,u=H9 b t
 | .ref a,u=>u=cI a
 | .ty n,u=>u=tV n
abbrev aB:List V->List Value->Prop:=Paired RelV
theorem aB.length(r:aB xs us):xs.length=us.length:=Paired.length r
theorem aB.get:∀{xs:List V} {us:List Value} {i:Nat} {x:V},aB xs us->xs[i]?=some x->∃u,us[i]?=some u/\RelV x u
 | _,_,_,_,.nil,e=>by simp at e
 | _,_,0,_,.cons r _,e=>by simp at e;subst e;exact ⟨_,rfl,r⟩
 | _,_,i+1,x,.cons _ t,e=>by
  obtain ⟨u,h1,h2⟩:=aB.get (i:=i) (x:=x) t (by simpa using e)
  exact ⟨u,by simpa using h1,h2⟩
theorem aB.set(r:RelV x u):∀{xs:List V} {us:List Value} (i:Nat),aB xs us->aB (xs.set i x) (us.set i u)
 | _,_,_,.nil=>.nil
 | _,_,0,.cons _ t=>.cons r t
 | _,_,i+1,.cons q t=>.cons q (aB.set r i t)
theorem aB.append:∀{xs ys:List V} {us ws:List Value},aB xs us->aB ys ws->aB (xs++ys) (us++ws)
 | _,_,_,_,.nil,s=>s
 | _,_,_,_,.cons r t,s=>.cons r (aB.append t s)
theorem aB.take:∀{xs:List V} {us:List Value} (n:Nat),aB xs us->aB (xs.take n) (us.take n)
 | _,_,0,_=>.nil
 | _,_,_+1,.nil=>.nil
 | _,_,n+1,.cons r t=>.cons r (aB.take n t)
theorem aB.drop:∀{xs:List V} {us:List Value} (n:Nat),aB xs us->aB (xs.drop n) (us.drop n)
 | _,_,0,r=>r
 | _,_,_+1,.nil=>.nil
 | _,_,n+1,.cons _ t=>aB.drop n t
theorem aB.none_of:∀{xs:List V} {us:List Value} {i:Nat},aB xs us->xs[i]?=none->us[i]?=none:=λ{xs us i} r e=>by
 have h1:=r.length
 have h2:xs.length<=i:=MZ.mp e
 exact MZ.mpr (by ext h1 h2)
def dP:Option V->Option Value->Prop
 | some v,some u=>RelV v u
 | none,none=>True
 | _,_=>False
def KV{κ:Type}:List (κ×V)->List (κ×Value)->Prop:=Paired λ(p:κ×V) (q:κ×Value)=>p.1=q.1/\RelV p.2 q.2
def kV:Key->V
 | .inl i=>.int i
 | .inr x=>.str x
inductive HO where
 /-- a list -/
 | lst (xs:List V)
 /-- a tuple (never changes) -/
 | tup (xs:List V)
 /-- a dict uB keys are ints and texts;one uB keys are tuples of ints and texts (the empty one is both) -/
 | dK (aA:List (Key×V)) | dT (aA:List (List Key×V))
 /-- a set of ints: av members,av size -/
 | set (S:Int->Bool) (n:Nat)
 /-- an instance of the class at C,av dict at dx,av attributes -/
 | ins (C dx:Addr) (fs:List (Str×V))
 /-- the dict of the instance at x -/
 | own (x:Addr)
 /-- the dict of an exception -/
 | xd (fs:List (Str×V))
 /-- a bound method,f of x -/
 | met (f x:Addr)
 /-- a range object lo,lo+1,.. below hi -/
 | Gj (lo hi:Int)
 /-- a yT QO is known to the object (the script;a dict while a loop walks it): read,never written while it is so -/
 | lU (o:Obj) (u:HO)
 /-- a code rj table -/
 | vB (ps:Array Value)
 /-- a code rj table uB codes are all called q,and are av own -/
 | tab (q:Str)
 /-- any other yT,by QM is true of av one object (a def of LW own: ZO a S n:=HO.ext λh=>..) -/
 | ext (φ:Heap->Prop)
def ownOf:HO->Option Addr
 | .own x=>some x
 | .lU _ (.own x)=>some x
 | _=>none
def Uv(q:Str)(o:Obj):Prop:=∃vs t,o.data=.fields vs/\vs[1]?=some (.str q t)
abbrev Hp:=Addr->Option HO
def upd(H:Hp)(a:Addr)(o:HO):Hp:=λb=>if b=a then some o else H b
theorem kX:upd H a o a=some o:=by unfold upd;rw [if_pos rfl]
theorem da(h:b≠a):upd H a o b=H b:=by unfold upd;rw [if_neg h]
theorem b3y{H:Hp}{a b:Addr}{o u:HO}(h:H a=some o)(h':H b=some u)(d:o≠u):a≠b:=by
 intro e;subst e;rw [h] at h';exact d (dh h')
theorem oF{H:Hp}{a b:Addr}{o:HO}(h:H a=some o)(h':H b=none):a≠b:=by
 intro e;subst e;rw [h] at h';cases h'
section
variable (P:Program)(w:World)
def bA(H:Hp)(h:Heap)(a:Addr):HO->Prop
 | .lst xs=>xs.length<=sizeLine/\∃(av:List Value) (n:Nat),aB xs av/\h.get? a=some { cls:=.type "list",data:=.seq av.toArray n }
 | .tup xs=>xs.length<=sizeLine/\∃av:List Value,aB xs av/\IsTup h a av.toArray
 | .dK aA=>aA.length<=sizeLine/\(a==sysModules)=false/\∃vs,KV aA vs/\h.DictOf (pZ P w) a vs
 | .dT aA=>aA.length<=sizeLine/\(a==sysModules)=false/\∃xs:List (List Key×Addr×Value),
   Paired (λ(p:List Key×V) (q:List Key×Addr×Value)=>p.1=q.1/\H q.2.1=some (.tup (p.1.map kV))/\RelV p.2 q.2.2) aA xs /\
   ∃o es ep,h.get? a=some o/\o.ExactDict/\o.data=.dict es ep/\es.toList=xs.map (entryOfKey (tupleKind (pZ P w)))/\(xs.map (·.1)).Nodup
 | .set S n=>h.SetOf (intKind P w) a S n
 | .ins C dx fs=>H dx=some (.own a)/\fs.length<=1000/\dx≠a/\h.get? a=some (u3 C dx) /\
   ∃mA,h.Ns1 dx mA/\(∀f,dP (fs.lookup f) (mA f))/\HP mA (fs.map (·.1))
 | .own _=>∃o,h.get? a=some o
 | .xd fs=>∃mA,h.Ns1 a mA/\∀f,dP (fs.lookup f) (mA f)
 | .Gj lo hi=>∃t u v,h.get? a=some { cls:=.type "range",data:=.fields #[.int lo t,.int hi u,.int 1 v] }
 | .lU o u=>h.get? a=some o/\bA H h a u
 | .vB ps=>h.get? a=some { cls:=.none,data:=.fields ps }
 | .tab q=>∃ps,h.get? a=some (xN ps)/\TriplesOk ps.toList/\∀pos cv,codeAmong pos ps.toList=some cv->∃c oc,cv=.ref c/\H c=some (.lU oc (.own a))/\Uv q oc
 | .met f x=>h.get? a=some (Il (.ref f) (.ref x))
 | .ext φ=>φ h/\(∃o,h.get? a=some o)/\∀h1 h2:Heap,φ h1->(∀o,h1.get? a=some o->h2.get? a=some o)->φ h2
def gj(H:Hp)(h:Heap):Prop:=∀a o,H a=some o->bA P w H h a o
end
section
variable {P:Program}{w:World}{H H':Hp}{h h':Heap}{a:Addr}{o:HO}
theorem bA.lt(x:bA P w H h a o):a<h.objs.size:=by
 cases o with
 | lst xs=>obtain ⟨_,_,_,_,e⟩:=x;exact cE e
 | tup xs=>obtain ⟨_,_,_,p⟩:=x;exact p.lt
 | dK aA=>obtain ⟨_,_,_,_,o,_,_,e,_⟩:=x;exact cE e
 | dT aA=>obtain ⟨_,_,_,_,o,_,_,e,_⟩:=x;exact cE e
 | set S n=>obtain ⟨o,_,_,_,e,_⟩:=x;exact cE e
 | ins C dx fs=>obtain ⟨_,_,_,e,_⟩:=x;exact cE e
 | own y=>obtain ⟨_,e⟩:=x;exact cE e
 | xd fs=>obtain ⟨_,⟨_,_,_,e,_⟩,_⟩:=x;exact cE e
 | Gj lo hi=>obtain ⟨_,_,_,e⟩:=x;exact cE e
 | lU ob u=>obtain ⟨e,_⟩:=x;exact cE e
 | vB ps=>exact cE (show h.get? a=some _ from x)
 | tab q=>obtain ⟨_,e,_⟩:=x;exact cE e
 | met f y=>exact cE (show h.get? a=some _ from x)
 | ext φ=>obtain ⟨_,⟨_,e⟩,_⟩:=x;exact cE e
theorem Paired.vR{α β:Type}{F G:α->β->Prop}:∀{Aa:List α} {z9:List β},Paired F Aa z9->(∀a b,F a b->G a b)->Paired G Aa z9
 | _,_,.nil,_=>.nil
 | _,_,.cons r t,f=>.cons (f _ _ r) (Paired.vR t f)
theorem bA.p6(x:bA P w H h a o)(k:∀b u,(b=a\/H b=some (.own a))->h.get? b=some u->h'.get? b=some u)
  (ho:∀b u,ownOf u=some a->H b=some u->H' b=some u)(ht:∀b xs,H b=some (.tup xs)->H' b=some (.tup xs)):bA P w H' h' a o:=by
 induction o with
 | lst xs=>obtain ⟨z,av,n,r,e⟩:=x;exact ⟨z,av,n,r,k _ _ (.inl rfl) e⟩
 | tup xs=>obtain ⟨z,av,r,ob,e,c⟩:=x;exact ⟨z,av,r,ob,k _ _ (.inl rfl) e,c⟩
 | dK aA=>obtain ⟨z,y,vs,r,ob,es,ep,e,c⟩:=x;exact ⟨z,y,vs,r,ob,es,ep,k _ _ (.inl rfl) e,c⟩
 | dT aA =>
  obtain ⟨z,y,xs,r,ob,es,ep,e,c⟩:=x
  exact ⟨z,y,xs,Paired.vR r λp q z=>⟨z.1,ht _ _ z.2.1,z.2.2⟩,ob,es,ep,k _ _ (.inl rfl) e,c⟩
 | set S n=>obtain ⟨ob,es,ep,t,e,c⟩:=x;exact ⟨ob,es,ep,t,k _ _ (.inl rfl) e,c⟩
 | ins C dx fs =>
  obtain ⟨d,z,ne,e,mA,⟨od,es,ep,e2,c⟩,r⟩:=x
  exact ⟨ho _ _ rfl d,z,ne,k _ _ (.inl rfl) e,mA,⟨od,es,ep,k _ _ (.inr d) e2,c⟩,r⟩
 | own y=>obtain ⟨ob,e⟩:=x;exact ⟨ob,k _ _ (.inl rfl) e⟩
 | xd fs=>obtain ⟨mA,⟨od,es,ep,e,c⟩,r⟩:=x;exact ⟨mA,⟨od,es,ep,k _ _ (.inl rfl) e,c⟩,r⟩
 | Gj lo hi=>obtain ⟨t,u,v,e⟩:=x;exact ⟨t,u,v,k _ _ (.inl rfl) e⟩
 | lU ob u ih=>obtain ⟨e,q⟩:=x;exact ⟨k _ _ (.inl rfl) e,ih q⟩
 | vB ps =>
  have e:h.get? a=some { cls:=.none,data:=.fields ps }:=x
  show h'.get? a=some { cls:=.none,data:=.fields ps }
  exact k a _ (.inl rfl) e
 | tab q =>
  obtain ⟨ps,e,ht,z⟩:=x
  exact ⟨ps,k _ _ (.inl rfl) e,ht,λpos cv hc=>let ⟨c,oc,e1,e2,e3⟩:=z pos cv hc;⟨c,oc,e1,ho _ _ rfl e2,e3⟩⟩
 | met f y =>
  have e:h.get? a=some (Il (.ref f) (.ref y)):=x
  show h'.get? a=some (Il (.ref f) (.ref y))
  exact k a _ (.inl rfl) e
 | ext φ=>obtain ⟨p,⟨o,e⟩,st⟩:=x;exact ⟨st _ _ p λo q=>k _ _ (.inl rfl) q,⟨o,k _ _ (.inl rfl) e⟩,st⟩
theorem gj.lt(x:gj P w H h)(e:H a=some o):a<h.objs.size:=(x a o e).lt
theorem gj.fresh(x:gj P w H h)(e:h.objs.size<=a):H a=none:=by
 cases q:H a with
 | none=>rfl
 | some u=>exact absurd (nr (x.lt q) e) (sH _)
theorem gj.kept(x:gj P w H h)(k:∀b u,h.get? b=some u->h'.get? b=some u):gj P w H h':=λa o e =>
 (x a o e).p6 (λb u _ q=>k b u q) (λ_ _ _ q=>q) λ_ _ q=>q
theorem gj.laid(x:gj P w H h)(k:∀b u,h.get? b=some u->h'.get? b=some u)(hp:h.objs.size<=a)(new:bA P w (upd H a o) h' a o):gj P w (upd H a o) h':=λb u e=>by
 have hn:=x.fresh hp
 by_cases hb:b=a
 .subst hb;rw [kX] at e;cases e;exact new
 .rw [da hb] at e
  exact (x b u e).p6 (λc v _ q=>k c v q) (λc _ _ q=>by rw [da (oF q hn)];exact q) λc xs q=>by rw [da (oF q hn)];exact q
end
def Rd(H:Hp)(a:Addr)(u:HO):Prop:=H a=some u\/∃o,H a=some (.lU o u)
theorem Rd.of(h:H a=some u):Rd H a u:=.inl h
theorem Rd.ok(r:Rd H a u)(x:gj P w H h):bA P w H h a u:=by
 rcases r with r | ⟨o,r⟩
 .exact x a u r
 .obtain ⟨_,q⟩:=x a _ r
  exact q
def CG:Option HO->Prop
 | some (.lst _)=>True
 | some (.dK _)=>True
 | some (.dT _)=>True
 | some (.set _ _)=>True
 | some (.ins _ _ _)=>True
 | some (.ext _)=>True
 | some (.tab _)=>True
 | _=>False
section
variable {P:Program}{w:World}{H:Hp}{h h':Heap}{x e:Addr}{o':HO}
theorem gj.write(ok:gj P w H h)(mu:CG (H x))(he:e=x\/H e=some (.own x))(k:∀b u,b≠e->h.get? b=some u->h'.get? b=some u)(xG:∃u,h'.get? e=some u)
  (new:bA P w (upd H x o') h' x o'):gj P w (upd H x o') h':=λb u q=>by
 have Gw:∀c y,H c=some (.own y)->c≠x:=λc y r z=>by subst z;rw [r] at mu;exact mu
 have Gv:∀c xs,H c=some (.tup xs)->c≠x:=λc xs r z=>by subst z;rw [r] at mu;exact mu
 have Gx:∀c y u,ownOf u=some y->H c=some u->c≠x:=λc y u hu r z=>by
  subst z;rw [r] at mu
  cases u with
  | own y=>exact mu
  | lU o v=>exact mu
  | _=>cases hu
 by_cases hb:b=x
 .subst hb;rw [kX] at q;cases q;exact new
 .rw [da hb] at q
  by_cases v9:b=e
  .have q':H b=some (.own x):=by
    rcases he with z | z
    .exact absurd (v9.trans z) hb
    .rw [v9];exact z
   rw [q] at q';cases q'
   obtain ⟨v,hv⟩:=xG
   exact ⟨v,by rw [v9];exact hv⟩
  .refine (ok b u q).p6 (λc v hc r=>k c v ?_ r) (λc u hu r=>by rw [da (Gx c b u hu r)];exact r) λc xs r=>by rw [da (Gv c xs r)];exact r
   rcases hc with rfl | hc
   .exact v9
   .rintro rfl
    rcases he with z | z
    .exact Gw c b hc z
    .rw [hc] at z;cases z;exact hb rfl
end
structure Un(fs ex:List Addr)(H H':Hp)(h h':Heap):Prop where
 keep:∀b o,h.get? b=some o->H b=none->b∉fs->b∉ex->h'.get? b=some o
 slot:∀b o,h.get? b=some o->H b=none->b∈fs->b∉ex->∃sl,h'.get? b=some { o with slots:=sl }
 free:∀b o,h.get? b=some o->H b=none->b∉ex->H' b=none
 there:∀b o,h.get? b=some o->b∉ex->∃o',h'.get? b=some o'
 iK:∀b xs,H b=some (.tup xs)->H' b=some (.tup xs)
 gU:∀b o u,H b=some (.lU o u)->H' b=some (.lU o u)
 iL:∀b ps,H b=some (.vB ps)->∃more,H' b=some (.vB (ps++more))
section
variable {fs tN ex MC:List Addr}{H H1 H2:Hp}{h h1 h2 h':Heap}{a x e:Addr}{o:HO}
theorem Un.any(u:Un fs ex H H1 h h1)(q:h.get? b=some ob)(n:H b=none)(hx:b∉ex):∃sl,h1.get? b=some { ob with slots:=sl }:=by
 by_cases hb:b∈fs
 .exact u.slot b ob q n hb hx
 .exact ⟨ob.slots,u.keep b ob q n hb hx⟩
theorem Un.trans(a:Un fs ex H H1 h h1)(b:Un fs ex H1 H2 h1 h2):Un fs ex H H2 h h2 where
 keep:=λc ob q n hc hx=>b.keep c ob (a.keep c ob q n hc hx) (a.free c ob q n hx) hc hx
 slot:=λc ob q n hc hx=>by
  obtain ⟨sl,e1⟩:=a.slot c ob q n hc hx
  obtain ⟨F7,e2⟩:=b.slot c _ e1 (a.free c ob q n hx) hc hx
  exact ⟨F7,e2⟩
 free:=λc ob q n hx=>by
  obtain ⟨o',e1⟩:=a.there c ob q hx
  exact b.free c o' e1 (a.free c ob q n hx) hx
 there:=λc ob q hx=>by
  obtain ⟨o',e1⟩:=a.there c ob q hx
  exact b.there c o' e1 hx
 iK:=λc xs q=>b.iK c xs (a.iK c xs q)
 gU:=λc ob xs q=>b.gU c ob xs (a.gU c ob xs q)
 iL:=λc ps q=>by
  obtain ⟨m1,e1⟩:=a.iL c ps q
  obtain ⟨m2,e2⟩:=b.iL c _ e1
  exact ⟨m1++m2,by rw [e2,MO]⟩
theorem Un.kept(k:∀b u,h.get? b=some u->h'.get? b=some u):Un fs ex H H h h':=
 ⟨λb ob q _ _ _=>k b ob q,λb ob q _ _ _=>⟨ob.slots,k b ob q⟩,λ_ _ _ n _=>n,λb ob q _=>⟨ob,k b ob q⟩,λ_ _ q=>q,λ_ _ _ q=>q,λ_ ps q=>⟨#[],by rw [q];simp⟩⟩
theorem Un.refl:Un fs ex H H h h:=Un.kept λ_ _ q=>q
theorem Un.laid(k:∀b u,h.get? b=some u->h'.get? b=some u)(hp:h.objs.size<=a)(hn:H a=none):Un fs ex H (upd H a o) h h' where
 keep:=λb u q _ _ _=>k b u q
 slot:=λb u q _ _ _=>⟨u.slots,k b u q⟩
 free:=λb u q n _=>by rw [da (dr (nr (cE q) hp))];exact n
 there:=λb u q _=>⟨u,k b u q⟩
 iK:=λb xs q=>by rw [da (oF q hn)];exact q
 gU:=λb u xs q=>by rw [da (oF q hn)];exact q
 iL:=λb ps q=>⟨#[],by rw [da (oF q hn),q];simp⟩
theorem Un.write(mu:CG (H x))(he:e=x\/H e=some (.own x))(k:∀b u,b≠e->h.get? b=some u->h'.get? b=some u)(xG:∃u,h'.get? e=some u):Un fs ex H (upd H x o) h h':=by
 have hx:∀b,H b=none->b≠x:=λb n z=>by subst z;rw [n] at mu;exact mu
 have hb:∀b,H b=none->b≠e:=λb n z=>by
  subst z
  rcases he with r | r
  .exact hx b n r
  .rw [n] at r;cases r
 have hm:∀b u,H b=some u->¬CG (some u)->b≠x:=λb u q nm z=>by subst z;rw [q] at mu;exact nm mu
 refine ⟨λb u q n _ _=>k b u (hb b n) q,λb u q n _ _=>⟨u.slots,k b u (hb b n) q⟩,λb u q n _=>by rw [da (hx b n)];exact n,λb u q _=>?_,
  λb xs q=>by rw [da (hm b _ q λz=>z)];exact q,λb u xs q=>by rw [da (hm b _ q λz=>z)];exact q,λb ps q=>⟨#[],by rw [da (hm b _ q λz=>z),q];simp⟩⟩
 by_cases v9:b=e
 .subst v9;exact xG
 .exact ⟨u,k b u v9 q⟩
theorem Un.mono(u:Un fs ex H H1 h h1)(hs:∀b∈fs,b∈tN)(hx:∀b∈ex,b∈MC):Un tN MC H H1 h h1:=
 ⟨λb ob q n hb he=>u.keep b ob q n (λz=>hb (hs b z)) λz=>he (hx b z),λ_ _ q n _ he=>u.any q n λz=>he (hx _ z),λb ob q n he=>u.free b ob q n λz=>he (hx b z),λb ob q he=>u.there b ob q λz=>he (hx b z),u.iK,u.gU,u.iL⟩
end
def CO(h:Heap)(H:Hp):List Addr:=(o7 h.objs.size).filter λa=>(H a).isSome
def mX(h:Heap)(H:Hp):Heap:=PySem.W.hideAll h (CO h H)
theorem X9(h:Heap)(H:Hp):(mX h H).objs.size=h.objs.size:=PySem.W.hideAll_size _ _
theorem WH(e:h.get? b=some o)(n:H b=none):(mX h H).get? b=some o:=
 PySem.W.hideAll_get _ e λhm=>by
  have q:(H b).isSome=true:=(Iw.mp hm).2
  rw [n] at q;simp at q
theorem VH(e:(mX h H).get? b=some o):h.get? b=some o/\H b=none:=by
 have e':h.get? b=some o:=PySem.W.of_hideAll (CO h H) e
 refine ⟨e',?_⟩
 cases q:H b with
 | none=>rfl
 | some x =>
  have hm:b∈CO h H:=Iw.mpr ⟨DB.mpr (cE e'),by simp [q]⟩
  have z:(mX h H).get? b=none:=PySem.W.hideAll_none (CO h H) hm
  rw [z] at e;cases e
def Vu(g h:Heap)(L:Addr):List (Addr×Obj):=(o7 h.objs.size).filterMap λa=>if a=L\/(g.get? a).isSome=true then none else (h.get? a).map λo=>(a,o)
def rest(g h:Heap)(L d:Addr):List (Addr×Obj):=(Vu g h L).filter λp=>decide (p.1≠d)
end L2
namespace L2
open PySem PySem.Spec PyProof.Rows
structure Mod(K:aI)(mg:Str->Option Value)(base:Heap):Prop where
 Ae:K.In base
 glob:base.Ns mainGlobals mg
 blt:∃mb,base.Ns builtinsNs mb/\∀x:Str,x ≠ "__name__" -> mb x=bootBuiltins x
 nolimit:base.NoLimit
 bmod:∃bm ob,mg "__builtins__" = some (.ref bm)/\bm≠builtinsNs/\base.get? bm=some ob/\ob.cls=.type "module" /\ ob.dict=some builtinsNs/\ob.data=.plain
structure Cx where
 prog:Program
 w:World
 K:aI
 mg:Str->Option Value
 base:Heap
 A:Around
 N:List Str
 cR:Shared
 r9:Hp
 env:Env
 outer:List Env
 stack:List Env
 ex:List Addr
 fn:Str->Bool
 calm:Bool
 pn:List (Addr×Obj)
 xe:Value->Shared->Prop
def qD(l:List Env):List Addr:=l.filterMap (·.frame)
abbrev Cx.fs(X:Cx):List Addr:=qD X.outer
def iJ(sc:Scope)(x:Str):Prop:=sc.names.lookup x=some .local\/sc.names.lookup x=some .cell\/sc.names.lookup x=some .free
def Loc(sc:Scope)(x:Str):Prop:=sc.names.lookup x=some .local\/sc.names.lookup x=some .cell
def Look(env:Env)(h:Heap)(m:Str->Option Value)(x:Str)(u:Value):Prop:=
 (env.kindOf x=some .local/\m x=some u)\/((env.kindOf x=some .cell\/env.kindOf x=some .free)/\∃c,env.cells.lookup x=some c/\h.IsCell c (some u))
structure Cx.Ok(X:Cx):Prop where
 mod:Mod X.K X.mg X.base
 kind:X.env.scope.kind=.function
 glob:X.env.globals=mainGlobals
 blt:X.env.builtins=builtinsNs
 above:X.cR.heap.objs.size<=X.env.locals
 inj:∀x y c,X.env.cells.lookup x=some c->X.env.cells.lookup y=some c->x=y
 has:∀x,(X.env.kindOf x=some .cell\/X.env.kindOf x=some .free)->∃c,X.env.cells.lookup x=some c
 Ba:∀x c,X.fn x=true->X.env.cells.lookup x=some c->X.cR.heap.objs.size<=c
 hd:X.calm=true->X.A.handled=none
 frames:X.A.frames=some X.stack
 CQ:X.stack=X.outer\/(X.stack=X.env::X.outer/\X.env.frame=some X.env.locals)
 MB:∀b∈X.ex,b≠X.env.locals/\∀x c,X.env.cells.lookup x=some c->c≠b
 bs:∀b o,X.base.get? b=some o->X.cR.heap.get? b=some o/\X.r9 b=none
 rL:X.base.objs.size<=X.cR.heap.objs.size
 rm:∀b o,X.base.get? b=some o->b∉X.ex
 tO:∀b∈X.ex,b∉X.fs
 iY:X.cR.heap.FunFrames X.base X.outer
 uU:∀b∈X.fs,X.r9 b=none
structure Inv(X:Cx)(pins:List (Addr×Obj))(σ:List (Option V))(H:Hp)(s:Shared):Prop where
 ok:X.Ok
 os:s.os=X.cR.os
 bare:AllBare s.gens
 base:Un X.fs X.ex X.r9 H X.cR.heap s.heap
 loc:∃m,s.heap.Ns X.env.locals m/\∀(i:Nat) (x:Str) (v:V),X.N[i]?=some x->σ[i]?=some (some v)->iJ X.env.scope x->∃u,RelV v u/\Look X.env s.heap m x u
 cell:∀x c,X.env.cells.lookup x=some c->∃v,s.heap.IsCell c v
 free:H X.env.locals=none
 dR:∀x c,X.env.cells.lookup x=some c->H c=none
 pin:∀p∈X.pn++pins,s.heap.get? p.1=some p.2/\H p.1=none/\p.1≠X.env.locals/\p.1∉X.fs/\∀v,p.2.data≠.cell v
 bq:gj X.prog X.w H s.heap
 len:σ.length=X.N.length
section
variable {X:Cx}{pins:List (Addr×Obj)}{σ:List (Option V)}{H H':Hp}{s:Shared}{h':Heap}
theorem Cx.Ok.Gz(ok:X.Ok)(e:X.base.get? b=some o):b∉X.fs:=λhb=>by
 have:=(ok.iY.mem hb).1
 rw [e] at this;cases this
theorem Inv.bs(I:Inv X pins σ H s):∀b o,X.base.get? b=some o->s.heap.get? b=some o/\H b=none:=λb o e =>
 ⟨I.base.keep b o (I.ok.bs b o e).1 (I.ok.bs b o e).2 (I.ok.Gz e) (I.ok.rm b o e),I.base.free b o (I.ok.bs b o e).1 (I.ok.bs b o e).2 (I.ok.rm b o e)⟩
theorem Inv.bk(I:Inv X pins σ H s):∀b o,X.base.get? b=some o->s.heap.get? b=some o:=λb o e=>(I.bs b o e).1
theorem Inv.mod(I:Inv X pins σ H s):Mod X.K X.mg X.base:=I.ok.mod
theorem Inv.jJ(I:Inv X pins σ H s):X.K.In s.heap:=I.ok.mod.Ae.keeps I.bk
theorem Inv.nolimit(I:Inv X pins σ H s):s.heap.NoLimit:=I.ok.mod.nolimit.keeps I.bk
theorem Inv.fr(I:Inv X pins σ H s):∃m,Fr X.base X.env.locals s.heap m:=
 let ⟨m,hn,_⟩:=I.loc
 ⟨m,hn,I.bk,jZ I.ok.rL I.ok.above⟩
theorem Inv.lt(I:Inv X pins σ H s):X.env.locals<s.heap.objs.size:=let ⟨_,hn,_⟩:=I.loc;hn.lt
theorem Inv.sz(I:Inv X pins σ H s):X.cR.heap.objs.size<=s.heap.objs.size:=jZ I.ok.above (u5 I.lt)
theorem Inv.Gy(I:Inv X pins σ H s){a:Addr}(h:s.heap.objs.size<=a):a∉X.fs:=λhb=>by
 obtain ⟨_,o,ho,_⟩:=I.ok.iY.mem hb
 exact absurd (nr (cE ho) (jZ I.sz h)) (sH _)
theorem Inv.wD(I:Inv X pins σ H s):∀x c,X.env.cells.lookup x=some c->c≠X.env.locals:=λx c e z=>by
 obtain ⟨v,o,ho,hd⟩:=I.cell x c e
 obtain ⟨m,⟨o',es,ep,k4,qC,_⟩,_⟩:=I.loc
 rw [z,k4] at ho;cases ho;rw [qC] at hd;cases hd
theorem Inv.iY(I:Inv X pins σ H s):s.heap.FunFrames X.base X.outer:=by
 have all:∀(l:List Env),(∀b∈qD l,b∈X.fs)->X.cR.heap.FunFrames X.base l->s.heap.FunFrames X.base l:=by
  intro l
  induction l with
  | nil=>intro _ _;trivial
  | cons env r ih =>
   intro hs hl
   obtain ⟨hk,⟨L,o,hf,hn,ho,hd⟩,hr⟩:=hl
   have hL:L∈X.fs:=hs L (by unfold qD;rw [DJ,hf];exact kU)
   obtain ⟨sl,e⟩:=I.base.slot L o ho (I.ok.uU L hL) hL λz=>I.ok.tO L z hL
   exact ⟨hk,⟨L,_,hf,hn,e,hd⟩,ih (λb hb=>hs b (by unfold qD;rw [DJ,hf];exact jo _ hb)) hr⟩
 exact all X.outer (λ_ hb=>hb) I.ok.iY
theorem Inv.stack(I:Inv X pins σ H s):s.heap.FunFrames X.base X.stack:=by
 rcases I.ok.CQ with e | ⟨e,hf⟩
 .rw [e];exact I.iY
 .rw [e]
  obtain ⟨m,hn,_⟩:=I.loc
  refine .cons (by rw [I.ok.kind];decide) hf hn ?_ I.iY
  exact Heap.get?_none_of_le (jZ I.ok.rL I.ok.above)
theorem Inv.mH(I:Inv X pins σ H s):∀b∈qD X.stack,b∈X.env.locals::X.fs:=λb hb=>by
 rcases I.ok.CQ with e | ⟨e,hf⟩
 .rw [e] at hb;exact jo _ hb
 .rw [e] at hb
  unfold qD at hb
  rw [DJ,hf] at hb
  exact hb
theorem Inv.pG(I:Inv X pins σ H s):∀b∈qD X.stack,H b=none:=λb hb=>by
 rcases cf.mp (I.mH b hb) with e | hb
 .rw [e];exact I.free
 .obtain ⟨_,o,ho,_⟩:=I.ok.iY.mem hb
  exact I.base.free b o ho (I.ok.uU b hb) λz=>I.ok.tO b z hb
theorem Inv.step{g':Array GenState}{t':Nat}{d':Drawn}{ch:List Addr}(I:Inv X pins σ H s)
  (si:∀b∈ch,(b∈X.ex\/X.cR.heap.objs.size<=b)/\b≠X.env.locals/\(∀x c,X.env.cells.lookup x=some c->c≠b)/\∀p∈X.pn++pins,p.1≠b)
  (keep:∀b o,b≠X.env.locals->b∉X.fs->b∉ch->s.heap.get? b=some o->H b=none->h'.get? b=some o)
  (slot:∀b o,b≠X.env.locals->b∈X.fs->b∉ch->s.heap.get? b=some o->H b=none->∃sl,h'.get? b=some { o with slots:=sl })(free:∀b o,b∉ch->s.heap.get? b=some o->H b=none->H' b=none)
  (there:∀b o,b∉ch->s.heap.get? b=some o->∃o',h'.get? b=some o')
  (iK:∀b xs,H b=some (.tup xs)->H' b=some (.tup xs))(gU:∀b o u,H b=some (.lU o u)->H' b=some (.lU o u))(iL:∀b ps,H b=some (.vB ps)->∃more,H' b=some (.vB (ps++more)))
  (ns:∀m,s.heap.Ns X.env.locals m->h'.Ns X.env.locals m)(bq:gj X.prog X.w H' h')(hg:AllBare g'):
  Inv X pins σ H' { s with heap:=h',gens:=g',drawn:=d',toks:=t' }:=by
 have L0:∀b o,X.cR.heap.get? b=some o->b≠X.env.locals:=λb o e=>dr (nr (cE e) I.ok.above)
 have CW:∀b o,X.cR.heap.get? b=some o->b∉X.ex->b∉ch:=λb o e hx hb=>by
  rcases (si b hb).1 with z | z
  .exact hx z
  .exact absurd (nr (cE e) z) (sH _)
 have cellK:∀x c,X.env.cells.lookup x=some c->∀v,s.heap.IsCell c v->h'.IsCell c v:=λx c e v ⟨o,ho,hd⟩=>by
  have zZ:c∉ch:=λz=>(si c z).2.2.1 x c e rfl
  by_cases hc:c∈X.fs
  .obtain ⟨sl,q⟩:=slot c o (I.wD x c e) hc zZ ho (I.dR x c e)
   exact ⟨_,q,hd⟩
  .exact ⟨o,keep c o (I.wD x c e) hc zZ ho (I.dR x c e),hd⟩
 refine ⟨I.ok,I.os,hg,⟨λb o e n hb hx=>?_,λb o e n hb hx=>?_,λb o e n hx=>?_,λb o e hx=>?_,λb xs e=>iK b xs (I.base.iK b xs e),λb o xs e=>gU b o xs (I.base.gU b o xs e),λb ps e=>?_⟩,?_,λx c e=>?_,?_,λx c e=>?_,λp hp=>?_,bq,I.len⟩
 .exact keep b o (L0 b o e) hb (CW b o e hx) (I.base.keep b o e n hb hx) (I.base.free b o e n hx)
 .obtain ⟨sl,e1⟩:=I.base.slot b o e n hb hx
  obtain ⟨F7,e2⟩:=slot b _ (L0 b o e) hb (CW b o e hx) e1 (I.base.free b o e n hx)
  exact ⟨F7,e2⟩
 .obtain ⟨o',e1⟩:=I.base.there b o e hx
  exact free b o' (CW b o e hx) e1 (I.base.free b o e n hx)
 .obtain ⟨o',e1⟩:=I.base.there b o e hx
  exact there b o' (CW b o e hx) e1
 .obtain ⟨m1,e1⟩:=I.base.iL b ps e
  obtain ⟨m2,e2⟩:=iL b _ e1
  exact ⟨m1++m2,by rw [e2,MO]⟩
 .obtain ⟨m,hn,hl⟩:=I.loc
  refine ⟨m,ns m hn,λi x v e1 e2 e3=>?_⟩
  obtain ⟨u,r,l⟩:=hl i x v e1 e2 e3
  refine ⟨u,r,?_⟩
  rcases l with l | ⟨k,c,e,z⟩
  .exact .inl l
  .exact .inr ⟨k,c,e,cellK x c e _ z⟩
 .obtain ⟨v,z⟩:=I.cell x c e
  exact ⟨v,cellK x c e v z⟩
 .obtain ⟨m,⟨o,_,_,ho,_⟩,_⟩:=I.loc
  exact free _ o (λz=>(si _ z).2.1 rfl) ho I.free
 .obtain ⟨v,o,ho,hd⟩:=I.cell x c e
  exact free c o (λz=>(si c z).2.2.1 x c e rfl) ho (I.dR x c e)
 .obtain ⟨e,n,ne,nf,d⟩:=I.pin p hp
  have zZ:p.1∉ch:=λz=>(si p.1 z).2.2.2 p hp rfl
  exact ⟨keep p.1 p.2 ne nf zZ e n,free p.1 p.2 zZ e n,ne,nf,d⟩
theorem Inv.un(I:Inv X pins σ H s)(u:Un X.fs [] H H' s.heap h')(bq:gj X.prog X.w H' h'):Inv X pins σ H' { s with heap:=h',toks:=t' }:=by
 obtain ⟨m,⟨o,es,ep,ho,r⟩,_⟩:=id I.loc
 obtain ⟨sl,hL⟩:=u.any ho I.free (by simp)
 exact I.step (g':=s.gens) (d':=s.drawn) (ch:=[]) (λ_ z=>nomatch z) (λb o _ hb _ e n=>u.keep b o e n hb (by simp)) (λb o _ hb _ e n=>u.slot b o e n hb (by simp)) (λb o _ e n=>u.free b o e n (by simp)) (λb o _ e=>u.there b o e (by simp)) u.iK u.gU u.iL (λm' hm=>by
  obtain ⟨o',tP,Hu,k4,r'⟩:=hm
  rw [ho] at k4;cases k4
  exact ⟨_,tP,Hu,hL,r'⟩) bq I.bare
theorem Inv.call(I:Inv X pins σ H s)(u:Un (qD X.stack) ch H H' s.heap h')(bq:gj X.prog X.w H' h')(hg:AllBare g')
  (si:∀b∈ch,(b∈X.ex\/X.cR.heap.objs.size<=b)/\b≠X.env.locals/\(∀x c,X.env.cells.lookup x=some c->c≠b)/\∀p∈X.pn++pins,p.1≠b):
  Inv X pins σ H' { s with heap:=h',gens:=g',drawn:=d',toks:=t' }:=by
 obtain ⟨m,⟨o,es,ep,ho,r⟩,_⟩:=id I.loc
 obtain ⟨sl,hL⟩:=u.any ho I.free λz=>(si _ z).2.1 rfl
 exact I.step (ch:=ch) si (λb o hL hb hc e n=>u.keep b o e n (λz=>(cf.mp (I.mH b z)).elim hL hb) hc) (λb o _ _ hc e n=>u.any e n hc) (λb o hc e n=>u.free b o e n hc) (λb o hc e=>u.there b o e hc) u.iK u.gU u.iL (λm' hm=>by
  obtain ⟨o',tP,Hu,k4,r'⟩:=hm
  rw [ho] at k4;cases k4
  exact ⟨_,tP,Hu,hL,r'⟩) bq hg
theorem Inv.turned(I:Inv X pins σ H s)(k:∀b o,b≠it->s.heap.get? b=some o->h'.get? b=some o)(hn:H it=none)(hL:it≠X.env.locals)
  (h1:it∈X.ex\/X.cR.heap.objs.size<=it)(h2:∀x c,X.env.cells.lookup x=some c->c≠it)(h3:∀p∈X.pn++pins,p.1≠it):Inv X pins σ H { s with heap:=h',toks:=t' }:=by
 have LZ:∀b u,H b=some u->b≠it:=λb u e z=>by rw [z,hn] at e;cases e
 refine I.step (g':=s.gens) (d':=s.drawn) (ch:=[it]) (λb hb=>?_) (λb o _ _ hc e _=>k b o (λz=>hc (by simp [z])) e) (λb o _ _ hc e _=>⟨o.slots,k b o (λz=>hc (by simp [z])) e⟩) (λ_ _ _ _ n=>n)
  (λb o hc e=>⟨o,k b o (λz=>hc (by simp [z])) e⟩) (λ_ _ e=>e) (λ_ _ _ e=>e) (λb ps e=>⟨#[],by rw [e];simp⟩) (λm hm=>?_) (λb u e=>?_) I.bare
 .have e:b=it:=by simpa using hb
  subst e
  exact ⟨h1,hL,h2,h3⟩
 .obtain ⟨o,es,ep,ho,r⟩:=hm
  exact ⟨o,es,ep,k _ o (jW hL) ho,r⟩
 .refine (I.bq b u e).p6 (λc v hc q=>k c v ?_ q) (λ_ _ _ q=>q) λ_ _ q=>q
  rcases hc with z | z
  .rw [z];exact LZ b u e
  .exact LZ c _ z
theorem Inv.tok(I:Inv X pins σ H s)(t:Nat):Inv X pins σ H { s with toks:=t }:=I.un (h':=s.heap) (t':=t) Un.refl I.bq
theorem Inv.kept(I:Inv X pins σ H s)(k:∀b u,s.heap.get? b=some u->h'.get? b=some u):Inv X pins σ H { s with heap:=h',toks:=t' }:=I.un (Un.kept k) (I.bq.kept k)
theorem Inv.laid{a:Addr}{o:HO}{t':Nat}(I:Inv X pins σ H s)(k:∀b u,s.heap.get? b=some u->h'.get? b=some u)(hp:s.heap.objs.size<=a)(new:bA X.prog X.w (upd H a o) h' a o):
  Inv X pins σ (upd H a o) { s with heap:=h',toks:=t' }:=I.un (Un.laid k hp (I.bq.fresh hp)) (I.bq.laid k hp new)
theorem Inv.write(I:Inv X pins σ H s)(mu:CG (H x))(he:e=x\/H e=some (.own x))(k:∀b u,b≠e->s.heap.get? b=some u->h'.get? b=some u)(xG:∃u,h'.get? e=some u)
  (new:bA X.prog X.w (upd H x o) h' x o):Inv X pins σ (upd H x o) { s with heap:=h',toks:=t' }:=I.un (Un.write mu he k xG) (I.bq.write mu he k xG new)
theorem Inv.gA(I:Inv X pins σ H s)(h:∀p∈zG,s.heap.get? p.1=some p.2/\H p.1=none/\p.1≠X.env.locals/\p.1∉X.fs/\∀v,p.2.data≠.cell v):Inv X zG σ H s:=
 ⟨I.ok,I.os,I.bare,I.base,I.loc,I.cell,I.free,I.dR,λp hp=>(nu.mp hp).elim (λz=>I.pin p (yf _ z)) (h p),I.bq,I.len⟩
theorem O3{N:List Str}(hN:N.Nodup){i j:Nat}{x:Str}(a:N[i]?=some x)(b:N[j]?=some x):i=j:=by
 obtain ⟨h1,e1⟩:=qK.mp a
 obtain ⟨h2,e2⟩:=qK.mp b
 exact (List.getElem_inj hN).mp (e1.trans e2.symm)
theorem PX(I:Inv X pins σ H s)(hN:X.N.Nodup)(hi:X.N[i]?=some x)(hx:Loc X.env.scope x)(r:RelV v u)
  (h:∀s',Inv X pins (σ.set i (some v)) H s'->(∃a,rT a s.heap s'.heap/\(a=X.env.locals\/X.env.cells.lookup x=some a))->Q () s')(hf:X.fn x=true\/X.env.scope.names.lookup x=some .local:=by first | exact .inl rfl | exact .inr rfl | assumption):wpAny M A (storeName X.env x u) Q E s:=by
 obtain ⟨m,hn,hl⟩:=id I.loc
 have He:(X.env.scope.kind==.class||(X.env.scope.kind==.module&&X.env.locals != X.env.globals))=false:=by rw [I.ok.kind];rfl
 have Ay:i<σ.length:=by rw [I.len];exact (qK.mp hi).1
 have wD:=I.wD
 have tracked:∀{a:Addr} {h':Heap},(∃o,s.heap.get? a=some o/\H a=none)->rT a s.heap h'->gj X.prog X.w H h':=λ{a h'} ha hs b ob e=>by
  obtain ⟨_,_,uR⟩:=ha
  refine (I.bq b ob e).p6 (λc w' hc q=>(hs.2 c ?_).trans q) (λ_ _ _ q=>q) λ_ _ q=>q
  rintro rfl
  rcases hc with rfl | hc
  .rw [uR] at e;cases e
  .rw [uR] at hc;cases hc
 rcases hx with hk | hk
 .refine wpAny_storeName_local hk hn (λh' SQ hs=>?_) He
  obtain ⟨oL,_,_,SK,_⟩:=id hn
  refine h _ ⟨I.ok,I.os,I.bare,⟨λb o e n hb hx=>?_,λb o e n hb hx=>?_,I.base.free,λb o e hx=>?_,I.base.iK,I.base.gU,I.base.iL⟩,⟨_,SQ,λj y v' e1 e2 e3=>?_⟩,λy c e=>?_,I.free,I.dR,λp hp=>?_,tracked ⟨oL,SK,I.free⟩ hs,by simpa using I.len⟩ ⟨_,hs,.inl rfl⟩
  .exact (hs.2 b (dr (nr (cE e) I.ok.above))).trans (I.base.keep b o e n hb hx)
  .obtain ⟨sl,e1⟩:=I.base.slot b o e n hb hx
   exact ⟨sl,(hs.2 b (dr (nr (cE e) I.ok.above))).trans e1⟩
  .obtain ⟨o',e1⟩:=I.base.there b o e hx
   exact ⟨o',(hs.2 b (dr (nr (cE e) I.ok.above))).trans e1⟩
  .by_cases hj:j=i
   .subst hj
    rw [hi] at e1;cases e1
    rw [kE Ay] at e2
    cases e2
    exact ⟨u,r,.inl ⟨hk,by simp⟩⟩
   .rw [dQ (jW hj)] at e2
    obtain ⟨u',r',q⟩:=hl j y v' e1 e2 e3
    refine ⟨u',r',?_⟩
    rcases q with ⟨k,e⟩ | ⟨k,c,e,z⟩
    .refine .inl ⟨k,?_⟩
     have:y≠x:=λe=>hj (O3 hN e1 (e▸hi))
     simp [this,e]
    .exact .inr ⟨k,c,e,z.sameBut hs (wD y c e)⟩
  .obtain ⟨w',z⟩:=I.cell y c e
   exact ⟨w',z.sameBut hs (wD y c e)⟩
  .obtain ⟨e,n,ne,nf,d⟩:=I.pin p hp
   exact ⟨(hs.2 p.1 ne).trans e,n,ne,nf,d⟩
 .have Ha:X.fn x=true:=by
   rcases hf with z | z
   .exact z
   .rw [z] at hk;cases hk
  obtain ⟨c,hc⟩:=I.ok.has x (.inl hk)
  obtain ⟨w',z⟩:=I.cell x c hc
  refine wpAny_storeName_cell I.ok.kind hk hc z (λh' uT hs=>?_)
  obtain ⟨oc,Mf,G2⟩:=id z
  refine h { s with heap:=h' } ⟨I.ok,I.os,I.bare,⟨λb o e n hb hx=>?_,λb o e n hb hx=>?_,I.base.free,λb o e hx=>?_,I.base.iK,I.base.gU,I.base.iL⟩,⟨m,hn.sameBut hs (jW (wD x c hc)),λj y v' e1 e2 e3=>?_⟩,λy c' e=>?_,I.free,I.dR,λp hp=>?_,tracked ⟨oc,Mf,I.dR x c hc⟩ hs,by simpa using I.len⟩ ⟨c,hs,.inr hc⟩
  .exact (hs.2 b (dr (nr (cE e) (I.ok.Ba x c Ha hc)))).trans (I.base.keep b o e n hb hx)
  .obtain ⟨sl,e1⟩:=I.base.slot b o e n hb hx
   exact ⟨sl,(hs.2 b (dr (nr (cE e) (I.ok.Ba x c Ha hc)))).trans e1⟩
  .obtain ⟨o',e1⟩:=I.base.there b o e hx
   exact ⟨o',(hs.2 b (dr (nr (cE e) (I.ok.Ba x c Ha hc)))).trans e1⟩
  .by_cases hj:j=i
   .subst hj
    rw [hi] at e1;cases e1
    rw [kE Ay] at e2
    cases e2
    exact ⟨u,r,.inr ⟨.inl hk,c,hc,uT⟩⟩
   .rw [dQ (jW hj)] at e2
    obtain ⟨u',r',q⟩:=hl j y v' e1 e2 e3
    refine ⟨u',r',?_⟩
    rcases q with q | ⟨k,c',e,z'⟩
    .exact .inl q
    .refine .inr ⟨k,c',e,z'.sameBut hs ?_⟩
     rintro rfl
     exact hj (O3 hN e1 (I.ok.inj _ _ _ e hc▸hi))
  .by_cases Mp:c'=c
   .subst Mp;exact ⟨_,uT⟩
   .obtain ⟨w2,z2⟩:=I.cell y c' e
    exact ⟨w2,z2.sameBut hs Mp⟩
  .obtain ⟨e,n,ne,nf,d⟩:=I.pin p hp
   refine ⟨(hs.2 p.1 ?_).trans e,n,ne,nf,d⟩
   intro q
   rw [q,Mf] at e
   have q':oc=p.2:=dh e
   exact d w' (by rw [<-q'];exact G2)
theorem J1(I:Inv X pins σ H s)(hN:X.N.Nodup)(hi:X.N[i]?=some x)(hx:Loc X.env.scope x)(r:RelV v u)
  (h:∀s',Inv X pins (σ.set i (some v)) H s'->Q () s')(hf:X.fn x=true\/X.env.scope.names.lookup x=some .local:=by first | exact .inl rfl | exact .inr rfl | assumption):wpAny M A (storeName X.env x u) Q E s:=
 PX I hN hi hx r (λs' I' _=>h s' I') hf
theorem Inv.A9(I:Inv X pins σ H s)(ho:s'.os=s.os)(u:Un (qD X.stack) ch H H' s.heap s'.heap)(bq:gj X.prog X.w H' s'.heap)(hg:AllBare s'.gens)
  (si:∀b∈ch,(b∈X.ex\/X.cR.heap.objs.size<=b)/\b≠X.env.locals/\(∀x c,X.env.cells.lookup x=some c->c≠b)/\∀p∈X.pn++pins,p.1≠b):Inv X pins σ H' s':=by
 obtain ⟨h',g',d',t',o'⟩:=s'
 have e:o'=s.os:=ho
 subst e
 exact I.call (g':=g') (t':=t') (d':=d') u bq hg si
end
abbrev XK:=Value->Option Addr->Hp->Prop
abbrev St:=List (Option V)
abbrev VK:=V->Hp->Prop
abbrev TE:=St->Hp->VK->Prop
abbrev TT:=St->Hp->(Bool->Hp->Prop)->Prop
abbrev TA:=St->Hp->(List V->Hp->Prop)->Prop
structure Ends where
 nx:St->Hp->Prop
 rt:VK
 bk:St->Hp->Prop:=λ_ _=>False
 ct:St->Hp->Prop:=λ_ _=>False
abbrev TS:=Ends->St->Hp->Prop
def EP(X:Cx)(pins:List (Addr×Obj))(σ:St)(Q:VK)(u:Value)(s':Shared):Prop:=∃v H',Inv X pins σ H' s'/\RelV v u/\Q v H'
def TP(X:Cx)(pins:List (Addr×Obj))(σ:St)(Q:Bool->Hp->Prop)(b:Bool)(s':Shared):Prop:=∃H',Inv X pins σ H' s'/\Q b H'
def AP(X:Cx)(pins:List (Addr×Obj))(σ:St)(Q:List V->Hp->Prop)(us:List Value)(s':Shared):Prop:=∃vs H',Inv X pins σ H' s'/\aB vs us/\Q vs H'
def SP(X:Cx)(pins:List (Addr×Obj))(D:Ends)(f:Flow)(s':Shared):Prop:=
 match f with
 | .next=>∃aX H',Inv X pins aX H' s'/\D.nx aX H'
 | .brk=>∃aX H',Inv X pins aX H' s'/\D.bk aX H'
 | .cont=>∃aX H',Inv X pins aX H' s'/\D.ct aX H'
 | .ret u=>∃v aX H',Inv X pins aX H' s'/\RelV v u/\D.rt v H'
def PE(X:Cx)(e:Expr)(t:TE):Prop:=
 ∀(pins:List (Addr×Obj)) (s:Shared) (σ:St) (H:Hp) (Q:VK),Inv X pins σ H s->t σ H Q->wpAny (model X.prog X.w) X.A (eval e X.env) (EP X pins σ Q) X.xe s
def PT(X:Cx)(e:Expr)(t:TT):Prop:=
 ∀(pins:List (Addr×Obj)) (s:Shared) (σ:St) (H:Hp) (Q:Bool->Hp->Prop),Inv X pins σ H s->t σ H Q->wpAny (model X.prog X.w) X.A (isTrue e X.env (eval e X.env)) (TP X pins σ Q) X.xe s
def PW(X:Cx)(e:Expr)(t:TT):Prop:=
 ∀(whole:Sem Value) (pins:List (Addr×Obj)) (s:Shared) (σ:St) (H:Hp) (Q:Bool->Hp->Prop),Inv X pins σ H s->t σ H Q->wpAny (model X.prog X.w) X.A (isTrue e X.env whole) (TP X pins σ Q) X.xe s
theorem PW.pt(h:PW X e t):PT X e t:=h _
def PA(X:Cx)(es:List Expr)(t:TA):Prop:=
 ∀(pos:Pos) (pins:List (Addr×Obj)) (s:Shared) (σ:St) (H:Hp) (Q:List V->Hp->Prop),Inv X pins σ H s->t σ H Q->wpAny (model X.prog X.w) X.A (spliced (backTo pos (starEach es X.env))) (AP X pins σ Q) X.xe s
def PS(X:Cx)(st:Stmt)(t:TS):Prop:=
 ∀(pins:List (Addr×Obj)) (s:Shared) (σ:St) (H:Hp) (D:Ends),Inv X pins σ H s->t D σ H->wpAny (model X.prog X.w) X.A (exec st X.env) (SP X pins D) X.xe s
def oG(X:Cx)(st:List Stmt)(t:TS):Prop:=
 ∀(pins:List (Addr×Obj)) (s:Shared) (σ:St) (H:Hp) (D:Ends),Inv X pins σ H s->t D σ H->wpAny (model X.prog X.w) X.A (execs st X.env) (SP X pins D) X.xe s
theorem bw{α:Type}{t:Sem α}{Q Q':α->Shared->Prop}{M:Model}{A:Around}{E:Value->Shared->Prop}{s:Shared}(h:wpAny M A t Q E s)(hQ:∀a s,Q a s->Q' a s):wpAny M A t Q' E s:=nG h hQ λ_ _ x=>x
end L2
namespace L2
open PySem PySem.Spec PyProof.Rows
section
variable {X:Cx}
def yW(i:Nat):TE:=λσ H Q=>∃v,σ[i]?=some (some v)/\Q v H
def tC(v:V):TE:=λ_ H Q=>Q v H
theorem rY{i:Nat}{x:Str}{pos:Pos}(hN:X.N[i]?=some x)(hv:iJ X.env.scope x)(hd:(x==("__debug__":Str))=false:=by decide)(cu:(x==("__classdict__":Str))=false:=by decide):PE X (.Name x pos) (yW i):=by
 intro pins s σ H Q I h
 obtain ⟨v,e,h⟩:=h
 obtain ⟨m,hn,hl⟩:=I.loc
 obtain ⟨u,r,l⟩:=hl i x v hN e hv
 have fin:EP X pins σ Q u s:=⟨v,H,I,r,h⟩
 rcases l with ⟨hk,hm⟩ | ⟨hk,c,hc,gQ⟩
 .exact wpAny_Name (wpAny_loadName_local I.ok.kind hk hn hm fin) hd
 .rcases hk with hk | hk
  .exact wpAny_Name (wpAny_loadName_cell I.ok.kind hk hc gQ fin) hd
  .exact wpAny_Name (wpAny_loadName_free I.ok.kind hk hc gQ fin cu) hd
theorem U8{i j pos}:PE X (.Constant (.int i) j pos) (tC (.int i)):=λ_ _ _ H _ I h=>wpAny_Constant_int ⟨.int i,H,I.tok _,⟨_,rfl⟩,h⟩
theorem zL{b j pos}:PE X (.Constant (.bool b) j pos) (tC (.bl b)):=λ_ _ _ H _ I h=>Constant_bool ⟨.bl b,H,I,rfl,h⟩
theorem U'{j pos}:PE X (.Constant .none j pos) (tC .bo):=λ_ _ _ H _ I h=>Constant_none ⟨.bo,H,I,rfl,h⟩
theorem Vc{x j pos}:PE X (.Constant (.str x) j pos) (tC (.str x)):=λ_ _ _ H _ I h=>Calls.Constant_str ⟨.str x,H,I.tok _,⟨_,rfl⟩,h⟩
def Gl(X:Cx)(x:Str):Prop:=X.env.kindOf x=some .globalImplicit
theorem JM{E:Value->Shared->Prop}{pins:List (Addr×Obj)}{s:Shared}{σ:St}{H:Hp}{x:Str}{u:Value}{pos:Pos}{Q:Value->Shared->Prop}(I:Inv X pins σ H s)(hg:Gl X x)(hm:X.mg x=some u)(h:Q u s)
  (hd:(x==("__debug__":Str))=false:=by decide):wpAny (model X.prog X.w) X.A (eval (.Name x pos) X.env) Q E s:=
 Ni I.ok.kind hg (Calls.loadGlobal_global (by rw [I.ok.glob];exact I.mod.glob.keeps I.bk) hm h) hd
theorem BQ{E:Value->Shared->Prop}{pins:List (Addr×Obj)}{s:Shared}{σ:St}{H:Hp}{x:Str}{u:Value}{pos:Pos}{Q:Value->Shared->Prop}(I:Inv X pins σ H s)(hg:Gl X x)(hm:X.mg x=none)(hv:bootBuiltins x=some u)(h:Q u s)
  (hn:x ≠ "__name__":=by decide)(hd:(x==("__debug__":Str))=false:=by decide):wpAny (model X.prog X.w) X.A (eval (.Name x pos) X.env) Q E s:=by
 obtain ⟨mb,h1,h2⟩:=I.mod.blt
 exact Ni I.ok.kind hg (Calls.loadGlobal_builtin (by rw [I.ok.glob];exact I.mod.glob.keeps I.bk) hm (by rw [I.ok.blt];exact h1.keeps I.bk) ((h2 x hn).trans hv) h) hd
theorem VL{x:Str}{v:V}{u:Value}{pos:Pos}(hg:Gl X x)(hm:X.mg x=none)(hv:bootBuiltins x=some u)(r:RelV v u)(hn:x ≠ "__name__":=by decide)(hd:(x==("__debug__":Str))=false:=by decide):PE X (.Name x pos) (tC v):=
 λ_ _ _ H _ I h=>BQ I hg hm hv ⟨v,H,I,r,h⟩ hn hd
variable {a b:Expr}{ta tb:TE}{pos:Pos}
def PC(X:Cx)(op:CmpOp)(a b:Expr)(t:TE):Prop:=
 ∀(pins:List (Addr×Obj)) (s:Shared) (σ:St) (H:Hp) (Q:VK),Inv X pins σ H s->t σ H Q ->
  wpAny (model X.prog X.w) X.A (eval a X.env) (λv aV=>wpAny (model X.prog X.w) X.A (eval b X.env) (λu cY=>wpAny (model X.prog X.w) X.A (compareOp op v u) (EP X pins σ Q) X.xe cY) X.xe aV) X.xe s
theorem XD(b:Expr)(h:op≠.In)(h2:op≠.NotIn):behindInMarks op b=false:=by
 have e1:(op==CmpOp.In)=false:=by cases op<;>first | rfl | exact absurd rfl h
 have e2:(op==CmpOp.NotIn)=false:=by cases op<;>first | rfl | exact absurd rfl h2
 cases b<;>simp [behindInMarks,e1,e2]
def tB(t:TE):TT:=λσ H Q=>t σ H λx H1=>∃c,x=.bl c/\Q c H1
theorem Vi(h:PC X op a b t)(h1:behindInMarks op b=false:=by first | exact XD _ (by decide) (by decide) | rfl):PT X (.Compare a [op] [b] pos) (tB t):=by
 intro pins s σ H Q I hw
 refine wpAny_isTrue_Compare1 (bw (h pins s σ H _ I hw) λv s1 h1=>bw h1 λu s2 h2=>bw h2 λc s3 ⟨x,H1,I1,r1,q1⟩=>?_) h1
 obtain ⟨d,rfl,q⟩:=q1
 cases r1
 exact t7 ⟨H1,I1,q⟩
variable {tA CP:TT}{rest:List Expr}
def F0(t u:TT):TT:=λσ H Q=>t σ H λc H1=>if c=true then u σ H1 Q else Q false H1
def QS(t u:TT):TT:=λσ H Q=>t σ H λc H1=>if c=true then Q true H1 else u σ H1 Q
def FT(t:TT):TT:=λσ H Q=>t σ H λc H1=>Q (!c) H1
theorem VW(ha:PT X a tA):PW X (.BoolOp .And [a] pos) tA:=by
 intro wh pins s σ H Q I h
 refine isTrue_and (bw (ha pins s σ H Q I h) λc s1 e=>?_)
 cases c with
 | true=>exact isTrue_and_nil e
 | false=>exact e
theorem Vm(ha:PT X a tA):PW X (.BoolOp .Or [a] pos) tA:=by
 intro wh pins s σ H Q I h
 refine isTrue_or (bw (ha pins s σ H Q I h) λc s1 e=>?_)
 cases c with
 | false=>exact isTrue_or_nil e
 | true=>exact e
theorem Vl(ha:PT X a tA)(hb:PW X (.BoolOp .And (b::rest) pos) CP):PW X (.BoolOp .And (a::b::rest) pos) (F0 tA CP):=by
 intro wh pins s σ H Q I h
 refine isTrue_and (bw (ha pins s σ H _ I h) λc s1 ⟨H1,I1,q1⟩=>?_)
 cases c with
 | true=>exact hb wh pins s1 σ H1 Q I1 q1
 | false=>exact ⟨H1,I1,q1⟩
theorem pw_or(ha:PT X a tA)(hb:PW X (.BoolOp .Or (b::rest) pos) CP):PW X (.BoolOp .Or (a::b::rest) pos) (QS tA CP):=by
 intro wh pins s σ H Q I h
 refine isTrue_or (bw (ha pins s σ H _ I h) λc s1 ⟨H1,I1,q1⟩=>?_)
 cases c with
 | true=>exact ⟨H1,I1,q1⟩
 | false=>exact hb wh pins s1 σ H1 Q I1 q1
theorem Vj(ha:PT X a tA):PT X (.UnaryOp .Not a pos) (FT tA):=by
 intro pins s σ H Q I h
 exact isTrue_not (ha pins s σ H (λc H1=>Q (!c) H1) I h)
def za(ta tb:TE):TE:=λσ H Q=>ta σ H λx H1=>∃c,x=.bl c/\if c=true then tb σ H1 Q else Q (.bl false) H1
def FR(ta tb:TE):TE:=λσ H Q=>ta σ H λx H1=>∃c,x=.bl c/\if c=true then Q (.bl true) H1 else tb σ H1 Q
def yZ(ta:TE):TE:=λσ H Q=>ta σ H λx H1=>∃c,x=.bl c/\Q (.bl (!c)) H1
theorem Vb{op}(h:PE X a t):PE X (.BoolOp op [a] pos) t:=λpins s σ H Q I hw=>BoolOp_one (h pins s σ H Q I hw)
theorem U5(ha:PE X a ta)(hb:PE X (.BoolOp .And (b::rest) pos) tb):PE X (.BoolOp .And (a::b::rest) pos) (za ta tb):=by
 intro pins s σ H Q I h
 refine BoolOp_and (bw (ha pins s σ H _ I h) λv s1 ⟨x,H1,I1,r1,q1⟩=>?_)
 obtain ⟨c,rfl,q1⟩:=q1
 cases r1
 refine t7 ?_
 cases c with
 | true=>exact hb pins s1 σ H1 Q I1 q1
 | false=>exact ⟨.bl false,H1,I1,rfl,q1⟩
theorem NH(ha:PE X a ta)(hb:PE X (.BoolOp .Or (b::rest) pos) tb):PE X (.BoolOp .Or (a::b::rest) pos) (FR ta tb):=by
 intro pins s σ H Q I h
 refine BoolOp_or (bw (ha pins s σ H _ I h) λv s1 ⟨x,H1,I1,r1,q1⟩=>?_)
 obtain ⟨c,rfl,q1⟩:=q1
 cases r1
 refine t7 ?_
 cases c with
 | false=>exact hb pins s1 σ H1 Q I1 q1
 | true=>exact ⟨.bl true,H1,I1,rfl,q1⟩
theorem Va(ha:PE X a ta):PE X (.UnaryOp .Not a pos) (yZ ta):=by
 intro pins s σ H Q I h
 refine UnaryOp_ (bw (ha pins s σ H _ I h) λv s1 ⟨x,H1,I1,r1,q1⟩=>?_)
 obtain ⟨c,rfl,q1⟩:=q1
 cases r1
 exact not_of (t7 ⟨.bl (!c),H1,I1,rfl,q1⟩)
def QT(t:TT)(ta tb:TE):TE:=λσ H Q=>t σ H λc H1=>if c=true then ta σ H1 Q else tb σ H1 Q
theorem XI(hc:PT X c tA)(ha:PE X a ta)(hb:PE X b tb):PE X (.IfExp c a b pos) (QT tA ta tb):=by
 intro pins s σ H Q I h
 refine wpAny_IfExp (bw (hc pins s σ H _ I h) λd s1 ⟨H1,I1,q1⟩=>?_)
 cases d with
 | true=>exact ha pins s1 σ H1 Q I1 q1
 | false=>exact hb pins s1 σ H1 Q I1 q1
end
end L2
namespace L2
open PySem PySem.Spec PyProof.Rows
def dU(K:aI)(H:Hp)(a:Addr)(xs:List V):Prop:=
 Rd H a (.lst xs) \/
  ∃(o:Obj) (av:Array Value) (n:Nat),K.lookup a=some o/\o.cls=.type "list" /\ o.dict=none/\o.data=.seq av n/\av.size<=sizeLine/\aB xs av.toList
def gc(K:aI)(H:Hp)(a:Addr)(xs:List V):Prop:=
 Rd H a (.tup xs) \/
  ∃(o:Obj) (av:Array Value) (n:Nat),K.lookup a=some o/\o.cls=.type "tuple" /\ o.data=.seq av n/\av.size<=sizeLine/\aB xs av.toList
def Jy:Value->Option V
 | .none=>some .bo
 | .bool b=>some (.bl b)
 | .int i _=>some (.int i)
 | .str x _=>some (.str x)
 | .bytes b _=>some (.xP b)
 | .float b _=>some (.wq b)
 | .ref a=>some (.ref a)
 | .type n=>some (.ty n)
 | _=>none
theorem RelV.abs(r:RelV x u):Jy u=some x:=by
 cases x with
 | bo=>cases r;rfl
 | bl _=>cases r;rfl
 | int _=>obtain ⟨t,rfl⟩:=r;rfl
 | str _=>obtain ⟨t,rfl⟩:=r;rfl
 | xP _=>obtain ⟨t,rfl⟩:=r;rfl
 | wq _=>obtain ⟨t,rfl⟩:=r;rfl
 | ref _=>cases r;rfl
 | ty _=>cases r;rfl
theorem RelV.inj(r:RelV x u)(q:RelV y u):x=y:=dh (r.abs.symm.trans q.abs)
theorem aB.inj:∀{xs ys:List V} {us:List Value},aB xs us->aB ys us->xs=ys
 | _,_,_,.nil,.nil=>rfl
 | _,_,_,.cons r t,.cons r' t'=>by rw [r.inj r',aB.inj t t']
section
variable {X:Cx}{pins:List (Addr×Obj)}{σ:St}{H:Hp}{s:Shared}{a:Addr}{xs ys:List V}
theorem dU.of{K:aI}(h:H a=some (.lst xs)):dU K H a xs:=.inl (.inl h)
theorem gc.of{K:aI}(h:H a=some (.tup xs)):gc K H a xs:=.inl (.inl h)
theorem Inv.list(I:Inv X pins σ H s)(h:dU X.K H a xs):∃av:List Value,aB xs av/\PlainL s.heap a av.toArray/\xs.length<=sizeLine:=by
 rcases h with h | ⟨o,av,n,hk,hc,hd,hs,hz,r⟩
 .obtain ⟨z,av,n,r,e⟩:=h.ok I.bq
  exact ⟨av,r,⟨_,n,e,rfl,rfl,rfl⟩,z⟩
 .refine ⟨av.toList,r,⟨o,n,I.jJ a o hk,hc,hd,by simpa using hs⟩,?_⟩
  have e:=r.length
  simp only [gh] at e
  ext hz e
theorem Inv.tuple(I:Inv X pins σ H s)(h:gc X.K H a xs):∃av:List Value,aB xs av/\IsTup s.heap a av.toArray/\xs.length<=sizeLine:=by
 rcases h with h | ⟨o,av,n,hk,hc,hs,hz,r⟩
 .obtain ⟨z,av,r,p⟩:=h.ok I.bq
  exact ⟨av,r,p,z⟩
 .refine ⟨av.toList,r,⟨o,I.jJ a o hk,hc,n,by simpa using hs⟩,?_⟩
  have e:=r.length
  simp only [gh] at e
  ext hz e
theorem Inv.nL(I:Inv X pins σ H s)(h:dU X.K H a xs)(h':dU X.K H a ys):xs=ys:=by
 obtain ⟨av,r,⟨o,n,e,_,_,d⟩,_⟩:=I.list h
 obtain ⟨its',r',⟨o',n',e',_,_,d'⟩,_⟩:=I.list h'
 rw [e] at e';cases e'
 rw [d] at d'
 injection d' with d1 _
 have:av=its':=by simpa using congrArg Array.toList d1
 subst this
 exact r.inj r'
theorem Inv.mw(I:Inv X pins σ H s)(h:gc X.K H a xs)(h':gc X.K H a ys):xs=ys:=by
 obtain ⟨av,r,⟨o,e,_,n,d⟩,_⟩:=I.tuple h
 obtain ⟨its',r',⟨o',e',_,n',d'⟩,_⟩:=I.tuple h'
 rw [e] at e';cases e'
 rw [d] at d'
 injection d' with d1 _
 have:av=its':=by simpa using congrArg Array.toList d1
 subst this
 exact r.inj r'
end
abbrev Cx.gk(X:Cx)(E:Value->Shared->Prop):Cx:={ X with xe:=E }
abbrev Cx.jm(X:Cx):Cx:=X.gk λ_ _=>False
theorem Cx.Ok.gk{X:Cx}(ok:X.Ok)(E:Value->Shared->Prop):(X.gk E).Ok:=
 ⟨ok.mod,ok.kind,ok.glob,ok.blt,ok.above,ok.inj,ok.has,ok.Ba,ok.hd,ok.frames,ok.CQ,ok.MB,ok.bs,ok.rL,ok.rm,ok.tO,ok.iY,ok.uU⟩
theorem Cx.Ok.cK{X:Cx}(ok:(X.gk E).Ok):X.Ok:=
 ⟨ok.mod,ok.kind,ok.glob,ok.blt,ok.above,ok.inj,ok.has,ok.Ba,ok.hd,ok.frames,ok.CQ,ok.MB,ok.bs,ok.rL,ok.rm,ok.tO,ok.iY,ok.uU⟩
section
variable {X:Cx}{pins:List (Addr×Obj)}{σ:St}{H:Hp}{s:Shared}{E:Value->Shared->Prop}
theorem Inv.gk(I:Inv X pins σ H s)(E:Value->Shared->Prop):Inv (X.gk E) pins σ H s:=⟨I.ok.gk E,I.os,I.bare,I.base,I.loc,I.cell,I.free,I.dR,I.pin,I.bq,I.len⟩
theorem Inv.cK(I:Inv (X.gk E) pins σ H s):Inv X pins σ H s:=⟨I.ok.cK,I.os,I.bare,I.base,I.loc,I.cell,I.free,I.dR,I.pin,I.bq,I.len⟩
theorem SP.cK(h:SP (X.gk E) pins D f s'):SP X pins D f s':=by
 cases f with
 | next=>obtain ⟨aX,H',I,q⟩:=h;exact ⟨aX,H',I.cK,q⟩
 | brk=>obtain ⟨aX,H',I,q⟩:=h;exact ⟨aX,H',I.cK,q⟩
 | cont=>obtain ⟨aX,H',I,q⟩:=h;exact ⟨aX,H',I.cK,q⟩
 | ret u=>obtain ⟨v,aX,H',I,r,q⟩:=h;exact ⟨v,aX,H',I.cK,r,q⟩
theorem PE.jm(h:PE X.jm e t):PE X e t:=λpins s σ H Q I hw =>
 nG (h pins s σ H Q (I.gk _) hw) (λ_ _ ⟨v,H',I',r,q⟩=>⟨v,H',I'.cK,r,q⟩) λ_ _ z=>l' z
theorem PT.jm(h:PT X.jm e t):PT X e t:=λpins s σ H Q I hw =>
 nG (h pins s σ H Q (I.gk _) hw) (λ_ _ ⟨H',I',q⟩=>⟨H',I'.cK,q⟩) λ_ _ z=>l' z
theorem oG.jm{st:List Stmt}{t:TS}(h:oG X.jm st t):oG X st t:=λpins s σ H D I hw =>
 nG (h pins s σ H D (I.gk _) hw) (λ_ _ q=>q.cK) λ_ _ z=>l' z
end
section
variable {X:Cx}{st:Stmt}{rest:List Stmt}{t u:TS}{e:Expr}{te:TE}{pos:Pos}
def y3:TS:=λD σ H=>D.nx σ H
def FP(t u:TS):TS:=λD σ H=>t { D with nx:=u D } σ H
theorem JY:oG X [] y3:=λ_ _ σ H _ I h=>DP ⟨σ,H,I,h⟩
theorem Kg(h1:PS X st t)(h2:oG X rest u):oG X (st::rest) (FP t u):=by
 intro pins s σ H D I h
 refine wpAny_execs_cons (bw (h1 pins s σ H { D with nx:=u D } I h) λf s1 q=>?_)
 cases f with
 | next =>
  obtain ⟨aX,H',I',q⟩:=q
  exact h2 pins s1 aX H' D I' q
 | ret v=>exact q
 | brk=>exact q
 | cont=>exact q
theorem VU(h1:PS X st t):oG X [st] t:=by
 intro pins s σ H D I h
 refine wpAny_execs_cons (bw (h1 pins s σ H D I h) λf s1 q=>?_)
 cases f with
 | next=>exact DP q
 | ret v=>exact q
 | brk=>exact q
 | cont=>exact q
theorem Inv.quiet{pins:List (Addr×Obj)}{σ:St}{H:Hp}{s:Shared}(I:Inv X pins σ H s):interactive X.env=false:=by simp [interactive,I.ok.kind]
def y6(te:TE):TS:=λD σ H=>te σ H λ_ H1=>D.nx σ H1
theorem JX(he:PE X e te)(hs:swapsWith e none pos.line X.env=pure false:=by rfl):PS X (.Expr e pos) (y6 te):=by
 intro pins s σ H D I h
 exact wpAny_Expr_any (bw (he pins s σ H _ I h) λv s1 ⟨x,H1,I1,r1,q1⟩=>⟨σ,H1,I1,q1⟩) I.quiet hs
def FQ(te:TE):TS:=λD σ H=>te σ H D.rt
theorem NQ(he:PE X e te):PS X (.Return (some e) pos) (FQ te):=by
 intro pins s σ H D I h
 exact wpAny_Return_some (bw (he pins s σ H _ I h) λv s1 ⟨x,H1,I1,r1,q1⟩=>⟨x,σ,H1,I1,r1,q1⟩)
def FV(c:TT)(t u:TS):TS:=λD σ H=>c σ H λb H1=>if b=true then t D σ H1 else u D σ H1
theorem zF(hc:PT X c tc)(ha:oG X a t)(hb:oG X b u):PS X (.If c a b pos) (FV tc t u):=by
 intro pins s σ H D I h
 refine wpAny_If (bw (hc pins s σ H _ I h) λd s1 ⟨H1,I1,q1⟩=>?_)
 cases d with
 | true=>exact ha pins s1 σ H1 D I1 q1
 | false=>exact hb pins s1 σ H1 D I1 q1
end
abbrev TG:=V->St->Hp->(St->Hp->Prop)->Prop
abbrev vp:=List V->St->Hp->(St->Hp->Prop)->Prop
def PG(X:Cx)(target:Expr)(t:TG):Prop:=
 ∀(pins:List (Addr×Obj)) (s:Shared) (σ:St) (H:Hp) (v:V) (u:Value) (Q:St->Hp->Prop),Inv X pins σ H s->RelV v u->t v σ H Q ->
  wpAny (model X.prog X.w) X.A (assign target X.env u) (λ_ s'=>∃aX H',Inv X pins aX H' s'/\Q aX H') X.xe s
def CF(X:Cx)(ts:List Expr)(t:vp):Prop:=
 ∀(pins:List (Addr×Obj)) (s:Shared) (σ:St) (H:Hp) (vs:List V) (us:List Value) (Q:St->Hp->Prop),Inv X pins σ H s->aB vs us->t vs σ H Q ->
  wpAny (model X.prog X.w) X.A (assignInOrder ((assignEach ts X.env).map (·.2)) us) (λ_ s'=>∃aX H',Inv X pins aX H' s'/\Q aX H') X.xe s
abbrev xn:=V->V->V->Hp->(Hp->Prop)->Prop
def CD(X:Cx)(t:xn):Prop:=
 ∀(pins:List (Addr×Obj)) (s:Shared) (σ:St) (H:Hp) (o i v:V) (ov iv u:Value) (Q:Hp->Prop),Inv X pins σ H s->RelV o ov->RelV i iv->RelV v u->t o i v H Q ->
  wpAny (model X.prog X.w) X.A (setItem ov iv u) (λ_ s'=>∃H',Inv X pins σ H' s'/\Q H') X.xe s
abbrev LB:=V->V->Hp->VK->Prop
def QF(X:Cx)(op:Operator)(t:LB):Prop:=
 ∀(pins:List (Addr×Obj)) (s:Shared) (σ:St) (H:Hp) (x y:V) (v u:Value) (Q:VK),Inv X pins σ H s->RelV x v->RelV y u->t x y H Q ->
  wpAny (model X.prog X.w) X.A (inplaceOp op v u) (EP X pins σ Q) X.xe s
section
variable {X:Cx}{pos:Pos}
def Nu(i:Nat):TG:=λv σ H Q=>Q (σ.set i (some v)) H
theorem VP(hN:X.N.Nodup)(hi:X.N[i]?=some x)(hx:Loc X.env.scope x)(hf:X.fn x=true\/X.env.scope.names.lookup x=some .local:=by first | exact .inl rfl | exact .inr rfl | assumption):PG X (.Name x pos) (Nu i):=by
 intro pins s σ H v u Q I r h
 exact wpAny_assign_Name (J1 I hN hi hx r (λs' I'=>⟨_,H,I',h⟩) hf)
def Ho:vp:=λvs σ H Q=>vs=[]/\Q σ H
def AN(t:TG)(u:vp):vp:=λvs σ H Q=>∃v r,vs=v::r/\t v σ H λaX H'=>u r aX H' Q
theorem VQ:CF X [] Ho:=by
 intro pins s σ H vs us Q I r h
 obtain ⟨e,h⟩:=h
 subst e
 cases r
 exact assignInOrder_nil ⟨σ,H,I,h⟩
theorem Xj{e:Expr}{es:List Expr}{t:TG}{u:vp}(h1:PG X e t)(h2:CF X es u)
  (hs:(assignEach (e::es) X.env).map (·.2)=assign e X.env::(assignEach es X.env).map (·.2):=by rfl):CF X (e::es) (AN t u):=by
 intro pins s σ H vs us Q I r h
 obtain ⟨v,vr,e1,h⟩:=h
 subst e1
 cases r with
 | cons r rr =>
  rw [hs]
  refine assignInOrder_cons (bw (h1 pins s σ H _ _ _ I r h) λ_ s1 ⟨kZ,H1,I1,q1⟩=>?_)
  exact h2 pins s1 kZ H1 _ _ Q I1 rr q1
def Hn(K:aI)(n:Nat)(t:vp):TG:=λv σ H Q=>∃a xs,v=.ref a/\gc K H a xs/\xs.length=n/\t xs σ H Q
theorem Vf{es:List Expr}{k:Nat}{t:vp}{n:Nat}(hc:X.calm=true)(h:CF X es t)
  (hn:(assignEach es X.env).length=n:=by rfl)(tD:(assignEach es X.env).findIdx? (·.1)=none:=by rfl):PG X (.Tuple es k pos) (Hn X.K n t):=by
 intro pins s σ H v u Q I r hw
 obtain ⟨a,xs,e1,hq,hl,hw⟩:=hw
 subst e1
 cases r
 obtain ⟨av,rv,ht,hz⟩:=I.tuple hq
 refine assign_Tuple_tuple (I.ok.hd hc) ht (by simp [hn,<-hl,rv.length]) tD λh' hx=>?_
 have I1:Inv X pins σ H { s with heap:=h' }:=I.kept (t':=s.toks) λb o e=>hx b o (dr (cE e)) e
 exact h pins _ σ H xs _ Q I1 (by simpa using rv) hw
def gS(to ti:TE)(t:xn):TG:=λv σ H Q=>to σ H λo H1=>ti σ H1 λi H2=>t o i v H2 λH3=>Q σ H3
theorem Ve{o i:Expr}{to ti:TE}{t:xn}(ho:PE X o to)(hi:PE X i ti)(hs:CD X t)
  (ha:∀v,assign (.Subscript o i pos) X.env v=(do
   let ov <-holding [v] (eval o X.env)
   let iv <-holding [v,ov] (eval i X.env)
   standAt pos
   holding [v,ov,iv] (setItem ov iv v)
   release [v,ov,iv] []):=by intro _;rfl):PG X (.Subscript o i pos) (gS to ti t):=by
 intro pins s σ H v u Q I r h
 rw [ha]
 refine aM (sG (bw (ho pins s σ H _ I h) λov s1 ⟨x,H1,I1,r1,q1⟩=>?_))
 refine aM (sG (bw (hi pins s1 σ H1 _ I1 q1) λiv s2 ⟨y,H2,I2,r2,q2⟩=>?_))
 refine aM (HV (aM (sG (bw (hs pins s2 σ H2 x y v ov iv u _ I2 r1 r2 r q2) λ_ s3 ⟨H3,I3,q3⟩=>?_))))
 exact wpAny_release ⟨σ,H3,I3,q3⟩
def y9(te:TE)(g:TG):TS:=λD σ H=>te σ H λx H1=>g x σ H1 D.nx
theorem Vg{tg e:Expr}{te:TE}{g:TG}(he:PE X e te)(hg:PG X tg g)(hs:swapsWithSole [tg] e pos.line X.env=pure false:=by rfl)(hw:swappedStores [tg] e X.env=pure none:=by rfl)
  (h1:(assignEach [tg] X.env).map (·.2)=[assign tg X.env]:=by rfl):PS X (.Assign [tg] e pos) (y9 te g):=by
 intro pins s σ H D I h
 refine wpAny_Assign_stores (bw (he pins s σ H _ I h) λv s1 ⟨x,H1,I1,r1,q1⟩=>?_) hs hw
 rw [h1]
 exact bw (hg pins s1 σ H1 x v _ I1 r1 q1) λ_ s2 q=>q
theorem Jz(hN:X.N.Nodup)(hi:X.N[i]?=some x)(hx:Loc X.env.scope x)(he:PE X e te)(hs:swapsWith e (some (.Name x pos')) pos.line X.env=pure false:=by rfl)(hf:X.fn x=true\/X.env.scope.names.lookup x=some .local:=by first | exact .inl rfl | exact .inr rfl | assumption):
  PS X (.Assign [.Name x pos'] e pos) (y9 te (Nu i)):=by
 intro pins s σ H D I h
 refine wpAny_Assign_Name (bw (he pins s σ H _ I h) λv s1 ⟨y,H1,I1,r1,q1⟩=>?_) hs
 exact J1 I1 hN hi hx r1 (λs2 I2=>⟨_,H1,I2,q1⟩) hf
def FZ(i:Nat)(te:TE)(ti:LB):TS:=λD σ H=>∃x,σ[i]?=some (some x)/\te σ H λy H1=>ti x y H1 λz H2=>D.nx (σ.set i (some z)) H2
theorem Vh(hN:X.N.Nodup)(hi:X.N[i]?=some x)(hx:Loc X.env.scope x)(he:PE X e te)(ho:QF X op ti)(hf:X.fn x=true\/X.env.scope.names.lookup x=some .local:=by first | exact .inl rfl | exact .inr rfl | assumption):
  PS X (.AugAssign (.Name x pos') op e pos) (FZ i te ti):=by
 intro pins s σ H D I h
 obtain ⟨v,e1,h⟩:=h
 obtain ⟨m,hn,hl⟩:=I.loc
 have qy:iJ X.env.scope x:=by rcases hx with k | k;exact .inl k;exact .inr (.inl k)
 obtain ⟨u,r,l⟩:=hl i x v hi e1 qy
 refine wpAny_AugAssign_Name ?_
 have go:wpAny (model X.prog X.w) X.A (eval e X.env) (λw cY=>wpAny (model X.prog X.w) X.A (inplaceOp op u w) (λr nI=>wpAny (model X.prog X.w) X.A (storeName X.env x r) (λ_=>SP X pins D .next) X.xe nI) X.xe cY) X.xe s:=by
  refine bw (he pins s σ H _ I h) λw s1 ⟨y,H1,I1,r1,q1⟩=>?_
  refine bw (ho pins s1 σ H1 v y u w _ I1 r r1 q1) λz s2 ⟨zv,H2,I2,r2,q2⟩=>?_
  exact J1 I2 hN hi hx r2 (λs3 I3=>⟨_,H2,I3,q2⟩) hf
 rcases l with ⟨hk,hm⟩ | ⟨hk,c,hc,gQ⟩
 .exact wpAny_loadName_local I.ok.kind hk hn hm go
 .rcases hk with hk | hk
  .exact wpAny_loadName_cell I.ok.kind hk hc gQ go
  .rcases hx with k | k
   .have:X.env.scope.names.lookup x=some .free:=hk
    rw [k] at this;cases this
   .have:X.env.scope.names.lookup x=some .free:=hk
    rw [k] at this;cases this
def Sj(f:Int->Int->Int):LB:=λx y H Q=>∃i j,x=.int i/\y=.int j/\Q (.int (f i j)) H
theorem Uu:QF X .Add (Sj λi j=>i+j):=by
 intro pins s σ H x y v u Q I r1 r2 h
 obtain ⟨i,j,e1,e2,q⟩:=h
 subst e1;subst e2
 obtain ⟨t,rfl⟩:=r1
 obtain ⟨t',rfl⟩:=r2
 exact iadd_int ⟨.int _,H,I.tok _,⟨_,rfl⟩,q⟩
end
section
variable {X:Cx}{pos:Pos}
def UX(c:TT)(tb:TS):TS:=λD σ H=>∃W:Nat->St->Hp->Prop,(∃m,W m σ H)/\∀m σ H,W m σ H ->
 c σ H λb H1=>if b=true then ∃N:St->Hp->Prop,(∀aX H',N aX H'->∃m',m'<m/\W m' aX H')/\tb { D with nx:=N,ct:=N,bk:=D.nx } σ H1 else D.nx σ H1
theorem Xl(hp:PassesOwn (model X.prog X.w) X.A X.env X.xe)(hc:PT X c tc)(hb:oG X body tb):PS X (.While c body [] pos) (UX tc tb):=by
 intro pins s σ H D I h
 obtain ⟨W,⟨m0,w0⟩,turn⟩:=h
 refine wpAny_While (codeAny_whileLoop (λn s'=>∃aX H',Inv X pins aX H' s'/\W n aX H') ?_ m0 ⟨σ,H,I,w0⟩)
 rintro n s1 ⟨kZ,H1,I1,w1⟩
 refine wK hp (bw (hc pins s1 kZ H1 _ I1 (turn n kZ H1 w1)) λb s2 ⟨H2,I2,q2⟩=>?_)
 cases b with
 | true =>
  obtain ⟨N,hN,q2⟩:=q2
  rw [if_pos rfl]
  refine wK hp (bw (hb pins s2 kZ H2 _ I2 q2) λf s3 q3=>?_)
  cases f with
  | next =>
   obtain ⟨mE,H3,I3,n3⟩:=q3
   obtain ⟨m',hm,w3⟩:=hN mE H3 n3
   exact ⟨m',hm,mE,H3,I3,w3⟩
  | cont =>
   obtain ⟨mE,H3,I3,n3⟩:=q3
   obtain ⟨m',hm,w3⟩:=hN mE H3 n3
   exact ⟨m',hm,mE,H3,I3,w3⟩
  | brk=>exact q3
  | ret v=>exact q3
 | false =>
  rw [if_neg pV]
  exact DP ⟨kZ,H2,I2,q2⟩
end
structure It where
 go:Nat->Hp->Prop
 vt:Nat->Hp->V->Hp->Prop
 stop:Nat->Hp->Prop
def ko(X:Cx)(pins:List (Addr×Obj))(H:Hp)(b:Addr):Prop:=
 H b=none/\b≠X.env.locals/\b∉X.fs/\(b∈X.ex\/X.cR.heap.objs.size<=b)/\(∀x c,X.env.cells.lookup x=some c->c≠b)/\∀p∈X.pn++pins,p.1≠b
theorem Inv.rG{X:Cx}{pins:List (Addr×Obj)}{σ:St}{H H':Hp}{s:Shared}{b:Addr}(I:Inv X pins σ H s)(hb:s.heap.objs.size<=b)(hn:H' b=none):ko X pins H' b:=by
 refine ⟨hn,Bq (nr I.lt hb),I.Gy hb,.inr (jZ I.sz hb),λx c e z=>?_,λp hp z=>?_⟩
 .obtain ⟨v,q⟩:=I.cell x c e
  exact absurd (nr q.lt (by rw [z];exact hb)) (sH _)
 .exact absurd (nr (cE (I.pin p hp).1) (by rw [z];exact hb)) (sH _)
structure Turn(P:Program)(w:World)(K:aI)(tg:Expr)(J:It)(fp:List Addr)(it:Addr)(tn:Nat->Heap->Prop):Prop where
 mem:it∈fp
 obj:∀i h,tn i h->∀b∈fp,∃o,h.get? b=some o/\∀v,o.data≠.cell v
 keep:∀i h h',tn i h->(∀b∈fp,∀o,h.get? b=some o->h'.get? b=some o)->tn i h'
 item:∀(X:Cx),X.prog=P->X.w=w->X.K=K->X.calm=true->∀(i:Nat) (pins:List (Addr×Obj)) (s:Shared) (σ:St) (H:Hp) (E:Value->Shared->Prop),Inv X pins σ H s->(∀b∈fp,ko X pins H b)->tn i s.heap->J.go i H ->
  wpAny (model P w) X.A (pyNext (.ref it)) (λr s1=>∃u,r=some u /\
   wpAny (model P w) X.A (letOwnedTupleGo tg (.ref it) u) (λ_ s2=>∃x H',Inv X pins σ H' s2/\RelV x u/\J.vt i H x H'/\tn (i+1) s2.heap/\∀b∈fp,H' b=none) E s1) E s
 done:∀(X:Cx),X.prog=P->X.w=w->X.K=K->X.calm=true->∀(i:Nat) (pins:List (Addr×Obj)) (s:Shared) (σ:St) (H:Hp) (E:Value->Shared->Prop),Inv X pins σ H s->(∀b∈fp,ko X pins H b)->tn i s.heap->J.stop i H ->
  wpAny (model P w) X.A (pyNext (.ref it)) (λr s1=>r=none/\Inv X pins σ H s1) E s
 self:∀(A:Around) (i:Nat) (s:Shared) (Q:Value->Shared->Prop) (E:Value->Shared->Prop),tn i s.heap->Q (.ref it) s->wpAny (model P w) A (pyIter (.ref it)) Q E s
abbrev TI:=St->Hp->(It->Hp->Prop)->Prop
def LC(X:Cx)(pins:List (Addr×Obj))(σ:St)(tg:Expr)(R:It->Hp->Prop)(GO:Value)(s2:Shared):Prop:=
 ∃(it:Addr) (fp:List Addr) (tn:Nat->Heap->Prop) (J:It) (H':Hp),GO=.ref it/\Inv X pins σ H' s2/\Turn X.prog X.w X.K tg J fp it tn/\tn 0 s2.heap/\(∀b∈fp,ko X pins H' b)/\R J H'
def PI(X:Cx)(tg iter:Expr)(wi:TI):Prop:=
 ∀(pins:List (Addr×Obj)) (s:Shared) (σ:St) (H:Hp) (R:It->Hp->Prop),Inv X pins σ H s->wi σ H R ->
  wpAny (model X.prog X.w) X.A (eval iter X.env) (λv s1=>wpAny (model X.prog X.w) X.A (pyIter v) (LC X pins σ tg R) X.xe s1) X.xe s
theorem D9(ho:s.heap.get? it=some o)(hc:o.cls=.type n)(hd:o.data=.fields vs)
  (hn:["enumerate","zip","dict_itemiterator","dict_reverseitemiterator","odict_iterator","itertools.zip_longest","itertools.pairwise"].contains n=false)(hQ:Q () s):wpAny M A (letOwnedTupleGo tg (.ref it) u) Q E s:=by
 unfold letOwnedTupleGo
 cases tg<;>first
  | exact bE hQ
  | (cases u<;>first
    | exact bE hQ
    | (refine aM (wpAny_load ho ?_)
       rw [hc,hd]
       show wpAny M A (if (["enumerate","zip","dict_itemiterator","dict_reverseitemiterator","odict_iterator","itertools.zip_longest","itertools.pairwise"].contains n&&vs[0]?==some (rawInt _))=true then _ else _) Q E s
       rw [if_neg (by intro h;rw [hn,Bool.false_and] at h;cases h)]
       exact bE hQ))
def CI(K:aI)(a:Addr):It:=
 ⟨λi H=>∃xs x,dU K H a xs/\xs[i]?=some x,λi H x H'=>H'=H/\∀xs,dU K H a xs->xs[i]?=some x,λi H=>∃xs,dU K H a xs/\xs.length<=i⟩
def CH(K:aI)(a:Addr):It:=
 ⟨λi H=>∃xs x,gc K H a xs/\xs[i]?=some x,λi H x H'=>H'=H/\∀xs,gc K H a xs->xs[i]?=some x,λi H=>∃xs,gc K H a xs/\xs.length<=i⟩
def qv(lo:Int)(n:Nat):It:=⟨λi _=>i<n,λi H x H'=>H'=H/\x=.int (lo+i),λi _=>n<=i⟩
theorem YX{P:Program}{w:World}{K:aI}{tg:Expr}(a it:Addr):Turn P w K tg (CI K a) [it] it (λi h=>h.IsListIter it a i) where
 mem:=by simp
 obj:=λi h st b hb=>by
  have e:b=it:=by simpa using hb
  subst e
  obtain ⟨o,e,c,d⟩:=st
  exact ⟨o,e,λv z=>by rw [d] at z;cases z⟩
 keep:=λi h h' st k=>st.at λo e=>k it (by simp) o e
 item:=by
  intro X hP hw hK hc i pins s σ H E I hf st hg
  subst hP hw hK
  obtain ⟨xs,x,hq,hx⟩:=hg
  obtain ⟨av,rv,p,hz⟩:=I.list hq
  obtain ⟨u,hu,ru⟩:=rv.get hx
  obtain ⟨f0,f1,f2,f3,f4,f5⟩:=hf it (by simp)
  refine wpAny_pyNext_list_item st p.isList (x:=u) (by simpa using hu) λh' ao sb=>?_
  have I1:Inv X pins σ H { s with heap:=h' }:=I.turned (t':=s.toks) (λb o hb e=>(sb.2 b hb).trans e) f0 f1 f3 f4 f5
  obtain ⟨o,e,c,d⟩:=id ao
  exact ⟨u,rfl,D9 (s:={ s with heap:=h' }) e c d (by decide) ⟨x,H,I1,ru,⟨rfl,λys hy=>by rw [I.nL hy hq];exact hx⟩,ao,λb hb=>(hf b hb).1⟩⟩
 done:=by
  intro X hP hw hK hc i pins s σ H E I hf st hg
  subst hP hw hK
  obtain ⟨xs,hq,hx⟩:=hg
  obtain ⟨av,rv,p,hz⟩:=I.list hq
  obtain ⟨f0,f1,f2,f3,f4,f5⟩:=hf it (by simp)
  have hl:=rv.length
  exact wpAny_pyNext_list_end (I.ok.hd hc) st p.isList (by simp;ext hx hl) λh' eb=>⟨rfl,I.turned (t':=s.toks) (λb o hb e=>eb b o hb e) f0 f1 f3 f4 f5⟩
 self:=λ_ _ _ _ _ st h=>wpAny_pyIter_listiter st h
theorem YD{P:Program}{w:World}{K:aI}{tg:Expr}(a it:Addr):Turn P w K tg (CH K a) [it] it (λi h=>h.IsTupleIter it a i) where
 mem:=by simp
 obj:=λi h st b hb=>by
  have e:b=it:=by simpa using hb
  subst e
  obtain ⟨o,e,c,d⟩:=st
  exact ⟨o,e,λv z=>by rw [d] at z;cases z⟩
 keep:=λi h h' st k=>st.at λo e=>k it (by simp) o e
 item:=by
  intro X hP hw hK hc i pins s σ H E I hf st hg
  subst hP hw hK
  obtain ⟨xs,x,hq,hx⟩:=hg
  obtain ⟨av,rv,p,hz⟩:=I.tuple hq
  obtain ⟨u,hu,ru⟩:=rv.get hx
  obtain ⟨f0,f1,f2,f3,f4,f5⟩:=hf it (by simp)
  refine wpAny_pyNext_tuple_item st (show s.heap.IsTuple a av.toArray from p) (x:=u) (by simpa using hu) λh' ao sb=>?_
  have I1:Inv X pins σ H { s with heap:=h' }:=I.turned (t':=s.toks) (λb o hb e=>(sb.2 b hb).trans e) f0 f1 f3 f4 f5
  obtain ⟨o,e,c,d⟩:=id ao
  exact ⟨u,rfl,D9 (s:={ s with heap:=h' }) e c d (by decide) ⟨x,H,I1,ru,⟨rfl,λys hy=>by rw [I.mw hy hq];exact hx⟩,ao,λb hb=>(hf b hb).1⟩⟩
 done:=by
  intro X hP hw hK hc i pins s σ H E I hf st hg
  subst hP hw hK
  obtain ⟨xs,hq,hx⟩:=hg
  obtain ⟨av,rv,p,hz⟩:=I.tuple hq
  obtain ⟨f0,f1,f2,f3,f4,f5⟩:=hf it (by simp)
  have hl:=rv.length
  exact wpAny_pyNext_tuple_end (I.ok.hd hc) st (show s.heap.IsTuple a av.toArray from p) (by simp;ext hx hl) λh' eb=>⟨rfl,I.turned (t':=s.toks) (λb o hb e=>eb b o hb e) f0 f1 f3 f4 f5⟩
 self:=λ_ _ _ _ _ st h=>wpAny_pyIter_tupleiter st h
theorem PR{P:Program}{w:World}{K:aI}{tg:Expr}(it:Addr)(lo:Int)(n:Nat):Turn P w K tg (qv lo n) [it] it (λi h=>IsRangeIter h it (lo+(i:Nat)*1) ((n:Int)-(i:Nat)) 1) where
 mem:=by simp
 obj:=λi h st b hb=>by
  have e:b=it:=by simpa using hb
  subst e
  exact ⟨_,st,λv z=>by
   have z':Data.fields _=Data.cell v:=z
   cases z'⟩
 keep:=λi h h' st k=>k it (by simp) _ st
 item:=by
  intro X hP hw hK hc i pins s σ H E I hf st hg
  subst hP hw hK
  obtain ⟨f0,f1,f2,f3,f4,f5⟩:=hf it (by simp)
  have W:=Walks.range (prog:=X.prog) (w:=X.w) (I.ok.hd hc) it lo 1 n
  refine W.item i s _ _ hg st λv h' tk hv ao kk=>?_
  obtain ⟨t,rfl⟩:=hv
  have I1:Inv X pins σ H { s with heap:=h',toks:=tk }:=I.turned (λb o hb e=>kk b o (by simpa using hb) e) f0 f1 f3 f4 f5
  refine ⟨_,rfl,D9 (s:={ s with heap:=h',toks:=tk }) (n:="range_iterator") ao rfl rfl (by decide) ⟨.int (lo+i),H,I1,⟨t,?_⟩,⟨rfl,rfl⟩,ao,λb hb=>(hf b hb).1⟩⟩
  rw [HZ]
 done:=by
  intro X hP hw hK hc i pins s σ H E I hf st hg
  subst hP hw hK
  obtain ⟨f0,f1,f2,f3,f4,f5⟩:=hf it (by simp)
  exact wpAny_pyNext_range_end (I.ok.hd hc) st (by have:n<=i:=hg;ext this) λh' eb=>⟨rfl,I.turned (t':=s.toks) (λb o hb e=>eb b o hb e) f0 f1 f3 f4 f5⟩
 self:=λ_ _ _ _ _ st h=>wpAny_pyIter_rangeiter st h
end L2
namespace L2
open PySem PySem.Spec PyProof.Rows
section
variable {X:Cx}{tg:Expr}
theorem Xp{pins:List (Addr×Obj)}{σ:St}{H:Hp}{s:Shared}{R:It->Hp->Prop}{E:Value->Shared->Prop}{lo hi:Int}{t u v:Tok}{tk:Nat}(I:Inv X pins σ H s)(h1:-(2^62)<=lo)(h2:lo<2^62)(h3:-(2^62)<=hi)(h4:hi<2^62)
  (q:R (qv lo (hi-lo).toNat) H):wpAny (model X.prog X.w) X.A (pyIter (.ref s.heap.objs.size)) (LC X pins σ tg R) E { s with heap:=s.heap.push { cls:=.type "range",data:=.fields #[.int lo t,.int hi u,.int 1 v] },toks:=tk }:=by
 refine wpAny_pyIter_range (HY ..) (small_one h1 h2 h3 h4) ?_
 have I1:Inv X pins σ H { s with heap:=s.heap.push { cls:=.type "range",data:=.fields #[.int lo t,.int hi u,.int 1 v] },toks:=tk }:=I.kept λb o e=>c8 _ e
 refine ⟨(s.heap.push { cls:=.type "range",data:=.fields #[.int lo t,.int hi u,.int 1 v] }).objs.size,[(s.heap.push { cls:=.type "range",data:=.fields #[.int lo t,.int hi u,.int 1 v] }).objs.size],_,_,H,rfl,
  I1.kept (t':=tk) λb o e=>c8 _ e,PR _ lo (hi-lo).toNat,?_,λb hb=>?_,q⟩
 .have e1:lo+((0:Nat):Int)*1=lo:=by simp
  have e2:(((hi-lo).toNat:Nat):Int)-((0:Nat):Int)=MW lo hi 1:=by rw [rangeSize_one];split<;>lia
  show IsRangeIter _ _ (lo+((0:Nat):Int)*1) ((((hi-lo).toNat:Nat):Int)-((0:Nat):Int)) 1
  rw [e1,e2]
  exact jY _ rfl
 .have e:b=(s.heap.push { cls:=.type "range",data:=.fields #[.int lo t,.int hi u,.int 1 v] }).objs.size:=by simpa using hb
  subst e
  exact I1.rG (bX _) (I1.bq.fresh (bX _))
def Ak(ta:TA):TI:=λσ H R=>ta σ H λvs H1=>∃j:Int,vs=[.int j] /\ -(2^62)<=j/\j<2^62/\R (qv 0 j.toNat) H1
theorem X4(hg:Gl X "range")(hm:X.mg "range" = none)(ha:PA X [a] ta)(hs:starEach [a] X.env=[(false,eval a X.env)]:=by rfl):PI X tg (.Call (.Name "range" p) [a] [] pos) (Ak ta):=by
 intro pins s σ H R I h
 refine Call_ (BQ I hg hm boot_range (Je (bw (ha pos pins s σ H _ I h) λus s1 ⟨vs,H1,I1,r1,q1⟩=>?_) hs rfl))
 obtain ⟨j,e,q1,q2,q⟩:=q1
 subst e
 cases r1 with
 | cons r rr =>
  cases rr
  obtain ⟨t,rfl⟩:=r
  exact call_range_1 (Xp I1 (by decide) (by decide) q1 q2 (by simpa using q))
def FW(wi:TI)(g:TG)(tb:TS):TS:=λD σ H=>wi σ H λJ H1=>∃W:Nat->Nat->St->Hp->Prop,(∃m,W 0 m σ H1)/\∀i m σ H,W i m σ H ->
 (J.stop i H/\D.nx σ H)\/(J.go i H/\∃N:St->Hp->Prop,(∀aX H',N aX H'->∃m',m'<m/\W (i+1) m' aX H')/\∀x H',J.vt i H x H'->g x σ H' λdg H2=>tb { D with nx:=N,ct:=N,bk:=D.nx } dg H2)
def ug(fp:List Addr)(h:Heap):List (Addr×Obj):=fp.filterMap λb=>(h.get? b).map λo=>(b,o)
theorem Cg(hb:b∈fp)(e:h.get? b=some o):(b,o)∈ug fp h:=MN.mpr ⟨b,hb,by rw [e];rfl⟩
theorem Ks(hp:p∈ug fp h):p.1∈fp/\h.get? p.1=some p.2:=by
 obtain ⟨b,hb,e⟩:=MN.mp hp
 cases q:h.get? b with
 | none=>rw [q] at e;cases e
 | some o =>
  rw [q] at e
  have e':(b,o)=p:=dh e
  subst e'
  exact ⟨hb,q⟩
theorem Inv.pinned{pins:List (Addr×Obj)}{σ:St}{H:Hp}{s:Shared}{fp:List Addr}(I:Inv X pins σ H s)(hf:∀b∈fp,ko X pins H b)(ho:∀b∈fp,∃o,s.heap.get? b=some o/\∀v,o.data≠.cell v):Inv X (pins++ug fp s.heap) σ H s:=
 I.gA λp hp=>(nu.mp hp).elim (λz=>I.pin p (ql _ z)) λz=>by
  obtain ⟨hb,e⟩:=Ks z
  obtain ⟨f0,f1,f2,_⟩:=hf p.1 hb
  obtain ⟨o,e',d⟩:=ho p.1 hb
  rw [e] at e';cases e'
  exact ⟨e,f0,f1,f2,d⟩
theorem Inv.kM{pins pl:List (Addr×Obj)}{σ:St}{H:Hp}{s:Shared}(I:Inv X (pins++pl) σ H s):Inv X pins σ H s:=I.gA λp hp=>I.pin p (ql _ (yf _ hp))
theorem NP(hp:PassesOwn (model X.prog X.w) X.A X.env X.xe)(hc:X.calm=true)(hi:PI X tg iter wi)(hg:PG X tg g)(hb:oG X body tb)
  (hs:∀x,foldedSetIterable iter X.env x=pure x:=by intro _;rfl):PS X (.For tg iter body [] pos) (FW wi g tb):=by
 intro pins s σ H D I h
 refine wpAny_For (bw (hi pins s σ H _ I h) λv s1 h1=>bw h1 λGO s2 h2=>?_) hs
 obtain ⟨it,fp,tn,J,H2,e,I2,T,js,f2,W,⟨m0,w0⟩,turn⟩:=h2
 subst e
 have vD:∀{H':Hp},(∀b∈fp,H' b=none)->∀b∈fp,ko X pins H' b:=λhn b hb=>⟨hn b hb,(f2 b hb).2⟩
 refine codeAny_forLoop_any (λn s'=>∃i aX H',Inv X pins aX H' s'/\tn i s'.heap/\(∀b∈fp,H' b=none)/\W i n aX H') ?_ m0 ⟨0,σ,H2,I2,js,λb hb=>(f2 b hb).1,w0⟩
 rintro n s3 ⟨i,mE,H3,I3,lj,AQ,w3⟩
 rcases turn i n mE H3 w3 with ⟨stop,qn⟩ | ⟨go,N,hN,step⟩
 .refine wK hp (bw (T.done X rfl rfl rfl hc i pins s3 mE H3 X.xe I3 (vD AQ) lj stop) λr s4 ⟨hr,I4⟩=>?_)
  subst hr
  exact DP ⟨mE,H3,I4,qn⟩
 .refine wK hp (bw (T.item X rfl rfl rfl hc i pins s3 mE H3 X.xe I3 (vD AQ) lj go) λr s4 ⟨u,hr,h4⟩=>?_)
  subst hr
  refine wK hp (bw h4 λ_ s5 ⟨x,H5,I5,r5,y5,vE,Hq⟩=>?_)
  have LG:=I5.pinned (vD Hq) (T.obj _ _ vE)
  refine wK hp (bw (hg _ s5 mE H5 x u _ LG r5 (step x H5 y5)) λ_ s6 ⟨oy,H6,I6,q6⟩=>?_)
  refine wK hp (bw (hb _ s6 oy H6 _ I6 q6) λf s7 q7=>?_)
  have again:∀{qQ:St} {H7:Hp},Inv X (pins++ug fp s5.heap) qQ H7 s7->N qQ H7->∃m,m<n/\∃i aX H',Inv X pins aX H' s7/\tn i s7.heap/\(∀b∈fp,H' b=none)/\W i m aX H':=λ{qQ H7} I7 n7=>by
   obtain ⟨m',hm,w7⟩:=hN qQ H7 n7
   refine ⟨m',hm,i+1,qQ,H7,I7.kM,T.keep _ _ _ vE λb hb o e=>(I7.pin (b,o) (ql _ (ql _ (Cg hb e)))).1,λb hb=>?_,w7⟩
   obtain ⟨o,e,d⟩:=T.obj _ _ vE b hb
   exact (I7.pin (b,o) (ql _ (ql _ (Cg hb e)))).2.1
  cases f with
  | next=>obtain ⟨qQ,H7,I7,n7⟩:=q7;exact again I7 n7
  | cont=>obtain ⟨qQ,H7,I7,n7⟩:=q7;exact again I7 n7
  | brk=>obtain ⟨qQ,H7,I7,q7⟩:=q7;exact ⟨qQ,H7,I7.kM,q7⟩
  | ret v=>obtain ⟨x7,qQ,H7,I7,r7,q7⟩:=q7;exact ⟨x7,qQ,H7,I7.kM,r7,q7⟩
end
theorem WE{K:aI}{a:Addr}{xs:List V}{g:TG}{tb:TS}{D:Ends}{σ:St}{H:Hp}(Pv:Nat->St->Hp->Prop)(h0:Pv 0 σ H)(hl:∀i σ H,i<=xs.length->Pv i σ H->dU K H a xs)
  (hs:∀i x σ H,xs[i]?=some x->Pv i σ H->g x σ H λdg H2=>tb { D with nx:=Pv (i+1),ct:=Pv (i+1),bk:=D.nx } dg H2)(hd:∀σ H,Pv xs.length σ H->D.nx σ H):
  ∃W:Nat->Nat->St->Hp->Prop,(∃m,W 0 m σ H)/\∀i m σ H,W i m σ H ->
   ((CI K a).stop i H/\D.nx σ H)\/((CI K a).go i H/\∃N:St->Hp->Prop,(∀aX H',N aX H'->∃m',m'<m/\W (i+1) m' aX H')/\∀x H',(CI K a).vt i H x H'->g x σ H' λdg H2=>tb { D with nx:=N,ct:=N,bk:=D.nx } dg H2):=by
 refine ⟨λi m σ H=>m=xs.length-i/\i<=xs.length/\Pv i σ H,⟨xs.length,by simp,sr _,h0⟩,?_⟩
 rintro i m σ H ⟨rfl,hi,p⟩
 have q:=hl i σ H hi p
 by_cases cn:i<xs.length
 .refine .inr ⟨⟨xs,xs[i],q,by simp [cn]⟩,Pv (i+1),λaX H' p'=>⟨xs.length-(i+1),by ext cn,rfl,cn,p'⟩,λx H' y=>?_⟩
  obtain ⟨e,y⟩:=y
  subst e
  exact hs i x σ _ (y xs q) p
 .have e:i=xs.length:=by ext hi cn
  subst e
  exact .inl ⟨⟨xs,q,bX _⟩,hd σ H p⟩
theorem V8{K:aI}{a:Addr}{xs:List V}{g:TG}{tb:TS}{D:Ends}{σ:St}{H:Hp}(Pv:Nat->St->Hp->Prop)(h0:Pv 0 σ H)(hl:∀i σ H,i<=xs.length->Pv i σ H->gc K H a xs)
  (hs:∀i x σ H,xs[i]?=some x->Pv i σ H->g x σ H λdg H2=>tb { D with nx:=Pv (i+1),ct:=Pv (i+1),bk:=D.nx } dg H2)(hd:∀σ H,Pv xs.length σ H->D.nx σ H):
  ∃W:Nat->Nat->St->Hp->Prop,(∃m,W 0 m σ H)/\∀i m σ H,W i m σ H ->
   ((CH K a).stop i H/\D.nx σ H)\/((CH K a).go i H/\∃N:St->Hp->Prop,(∀aX H',N aX H'->∃m',m'<m/\W (i+1) m' aX H')/\∀x H',(CH K a).vt i H x H'->g x σ H' λdg H2=>tb { D with nx:=N,ct:=N,bk:=D.nx } dg H2):=by
 refine ⟨λi m σ H=>m=xs.length-i/\i<=xs.length/\Pv i σ H,⟨xs.length,by simp,sr _,h0⟩,?_⟩
 rintro i m σ H ⟨rfl,hi,p⟩
 have q:=hl i σ H hi p
 by_cases cn:i<xs.length
 .refine .inr ⟨⟨xs,xs[i],q,by simp [cn]⟩,Pv (i+1),λaX H' p'=>⟨xs.length-(i+1),by ext cn,rfl,cn,p'⟩,λx H' y=>?_⟩
  obtain ⟨e,y⟩:=y
  subst e
  exact hs i x σ _ (y xs q) p
 .have e:i=xs.length:=by ext hi cn
  subst e
  exact .inl ⟨⟨xs,q,bX _⟩,hd σ H p⟩
theorem Yi{lo:Int}{n:Nat}{g:TG}{tb:TS}{D:Ends}{σ:St}{H:Hp}(Pv:Nat->St->Hp->Prop)(h0:Pv 0 σ H)
  (hs:∀i σ H,i<n->Pv i σ H->g (.int (lo+i)) σ H λdg H2=>tb { D with nx:=Pv (i+1),ct:=Pv (i+1),bk:=D.nx } dg H2)(hd:∀σ H,Pv n σ H->D.nx σ H):
  ∃W:Nat->Nat->St->Hp->Prop,(∃m,W 0 m σ H)/\∀i m σ H,W i m σ H ->
   ((qv lo n).stop i H/\D.nx σ H)\/((qv lo n).go i H/\∃N:St->Hp->Prop,(∀aX H',N aX H'->∃m',m'<m/\W (i+1) m' aX H')/\∀x H',(qv lo n).vt i H x H'->g x σ H' λdg H2=>tb { D with nx:=N,ct:=N,bk:=D.nx } dg H2):=by
 refine ⟨λi m σ H=>m=n-i/\i<=n/\Pv i σ H,⟨n,by simp,sr _,h0⟩,?_⟩
 rintro i m σ H ⟨rfl,hi,p⟩
 by_cases cn:i<n
 .refine .inr ⟨cn,Pv (i+1),λaX H' p'=>⟨n-(i+1),by ext cn,rfl,cn,p'⟩,λx H' y=>?_⟩
  obtain ⟨e,y⟩:=y
  subst e y
  exact hs i σ _ cn p
 .have e:i=n:=by ext hi cn
  subst e
  exact .inl ⟨bX _,hd σ H p⟩
end L2
namespace L2
open PySem PySem.Spec PyProof.Rows
abbrev R2:=V->V->Hp->VK->Prop
def jr(X:Cx)(f:Value->Value->Sem Value)(r:R2):Prop:=
 ∀(pins:List (Addr×Obj)) (s:Shared) (σ:St) (H:Hp) (x y:V) (v u:Value) (Q:VK),Inv X pins σ H s->RelV x v->RelV y u->r x y H Q ->
  wpAny (model X.prog X.w) X.A (f v u) (EP X pins σ Q) X.xe s
def Lz(X:Cx)(f:Value->Sem Value)(r:V->Hp->VK->Prop):Prop:=
 ∀(pins:List (Addr×Obj)) (s:Shared) (σ:St) (H:Hp) (x:V) (v:Value) (Q:VK),Inv X pins σ H s->RelV x v->r x H Q ->
  wpAny (model X.prog X.w) X.A (f v) (EP X pins σ Q) X.xe s
def cm(X:Cx)(f:Value)(r:List V->Hp->VK->Prop):Prop:=
 ∀(pins:List (Addr×Obj)) (s:Shared) (σ:St) (H:Hp) (xs:List V) (us:List Value) (Q:VK),Inv X pins σ H s->aB xs us->r xs H Q ->
  wpAny (model X.prog X.w) X.A (call f us) (EP X pins σ Q) X.xe s
def LA(X:Cx)(r:V->Hp->(Bool->Hp->Prop)->Prop):Prop:=
 ∀(pins:List (Addr×Obj)) (s:Shared) (σ:St) (H:Hp) (x:V) (v:Value) (Q:Bool->Hp->Prop),Inv X pins σ H s->RelV x v->r x H Q ->
  wpAny (model X.prog X.w) X.A (truthy v) (TP X pins σ Q) X.xe s
def yY(r:R2)(ta tb:TE):TE:=λσ H Q=>ta σ H λx H1=>tb σ H1 λy H2=>r x y H2 Q
def QP(r:V->Hp->VK->Prop)(ta:TE):TE:=λσ H Q=>ta σ H λx H1=>r x H1 Q
def rI(C:Int->Int->Prop)(g:Int->Int->V):R2:=λx y H Q=>∃i j,x=.int i/\y=.int j/\C i j/\Q (g i j) H
def vH(g:Int->Int->V):R2:=λx y H Q=>∃i j,x=.int i/\y=.int j/\Q (g i j) H
def rU(g:Int->V):V->Hp->VK->Prop:=λx H Q=>∃i,x=.int i/\Q (g i) H
section
variable {X:Cx}{a b c:Expr}{ta tb tc:TE}{pos:Pos}
theorem wJ(ha:PE X a ta)(hb:PE X b tb){pins:List (Addr×Obj)}{s:Shared}{σ:St}{H:Hp}{R:V->V->Hp->Prop}(I:Inv X pins σ H s)
  (h:ta σ H λx H1=>tb σ H1 λy H2=>R x y H2){Q:Value->Shared->Prop}{f:Value->Value->Sem Value}
  (hf:∀v u s2 x y H2,Inv X pins σ H2 s2->RelV x v->RelV y u->R x y H2->wpAny (model X.prog X.w) X.A (f v u) Q X.xe s2):
  wpAny (model X.prog X.w) X.A (eval a X.env) (λv aV=>wpAny (model X.prog X.w) X.A (eval b X.env) (λu cY=>wpAny (model X.prog X.w) X.A (f v u) Q X.xe cY) X.xe aV) X.xe s:=by
 refine bw (ha pins s σ H _ I h) λv s1 ⟨x,H1,I1,r1,q1⟩=>?_
 refine bw (hb pins s1 σ H1 _ I1 q1) λu s2 ⟨y,H2,I2,r2,q2⟩=>?_
 exact hf v u s2 x y H2 I2 r1 r2 q2
theorem zJ(ho:jr X (binaryOp op) r)(ha:PE X a ta)(hb:PE X b tb):PE X (.BinOp a op b pos) (yY r ta tb):=by
 intro pins s σ H Q I h
 exact wpAny_BinOp (wJ ha hb I h λv u s2 x y H2 I2 rx ry q=>ho pins s2 σ H2 x y v u Q I2 rx ry q)
theorem zI(ho:Lz X (unaryOp op) r)(ha:PE X a ta):PE X (.UnaryOp op a pos) (QP r ta):=by
 intro pins s σ H Q I h
 exact UnaryOp_ (bw (ha pins s σ H _ I h) λv s1 ⟨x,H1,I1,r1,q1⟩=>ho pins s1 σ H1 x v Q I1 r1 q1)
theorem zR{f:Value->Value->Sem Value}{C:Int->Int->Prop}{g:Int->Int->Int}
  (rule:∀(i j:Int) (t u:Tok) (s:Shared) (Q:Value->Shared->Prop) (E:Value->Shared->Prop),C i j->Q (.int (g i j) s.toks) { s with toks:=s.toks+1 }->wpAny (model X.prog X.w) X.A (f (.int i t) (.int j u)) Q E s):
  jr X f (rI C λi j=>.int (g i j)):=by
 intro pins s σ H x y v u Q I rx ry h
 obtain ⟨i,j,rfl,rfl,hc,q⟩:=h
 obtain ⟨t,rfl⟩:=rx
 obtain ⟨t',rfl⟩:=ry
 exact rule i j t t' s _ _ hc ⟨.int (g i j),H,I.tok _,⟨_,rfl⟩,q⟩
theorem Gu{f:Value->Value->Sem Value}{g:Int->Int->Int}
  (rule:∀(i j:Int) (t u:Tok) (s:Shared) (Q:Value->Shared->Prop) (E:Value->Shared->Prop),Q (.int (g i j) s.toks) { s with toks:=s.toks+1 }->wpAny (model X.prog X.w) X.A (f (.int i t) (.int j u)) Q E s):
  jr X f (vH λi j=>.int (g i j)):=by
 intro pins s σ H x y v u Q I rx ry h
 obtain ⟨i,j,rfl,rfl,q⟩:=h
 obtain ⟨t,rfl⟩:=rx
 obtain ⟨t',rfl⟩:=ry
 exact rule i j t t' s _ _ ⟨.int (g i j),H,I.tok _,⟨_,rfl⟩,q⟩
theorem vL{f:Value->Value->Sem Value}{g:Int->Int->Bool}
  (rule:∀(i j:Int) (t u:Tok) (s:Shared) (Q:Value->Shared->Prop) (E:Value->Shared->Prop),Q (.bool (g i j)) s->wpAny (model X.prog X.w) X.A (f (.int i t) (.int j u)) Q E s):
  jr X f (vH λi j=>.bl (g i j)):=by
 intro pins s σ H x y v u Q I rx ry h
 obtain ⟨i,j,rfl,rfl,q⟩:=h
 obtain ⟨t,rfl⟩:=rx
 obtain ⟨t',rfl⟩:=ry
 exact rule i j t t' s _ _ ⟨.bl (g i j),H,I,rfl,q⟩
def CM(i j:Int):Prop:=(-(2^64)<i/\i<2^64)\/(-(2^64)<j/\j<2^64)
theorem CM.ok(h:CM i j):IntMulOk i j:=by
 rcases h with ⟨h1,h2⟩ | ⟨h1,h2⟩
 .exact .of_left (Dw h1 h2)
 .exact .of_right (Dw h1 h2)
theorem vK:jr X (binaryOp .Add) (vH λi j=>.int (i+j)):=Gu λ_ _ _ _ _ _ _ q=>add_int q
theorem QN{f:Value->Sem Value}{g:Int->Int}
  (rule:∀(i:Int) (t:Tok) (s:Shared) (Q:Value->Shared->Prop) (E:Value->Shared->Prop),Q (.int (g i) s.toks) { s with toks:=s.toks+1 }->wpAny (model X.prog X.w) X.A (f (.int i t)) Q E s):
  Lz X f (rU λi=>.int (g i)):=by
 intro pins s σ H x v Q I rx h
 obtain ⟨i,rfl,q⟩:=h
 obtain ⟨t,rfl⟩:=rx
 exact rule i t s _ _ ⟨.int (g i),H,I.tok _,⟨_,rfl⟩,q⟩
theorem U0:Lz X (unaryOp .USub) (rU λi=>.int (-i)):=QN λ_ _ _ _ _ q=>neg_int q
end
section
variable {X:Cx}{a b c:Expr}{ta tb tc:TE}{pos:Pos}
theorem Uq{pins:List (Addr×Obj)}{σ:St}{H:Hp}{s:Shared}{Q:VK}{k k':Bool}(I:Inv X pins σ H s)(q:Q (.bl k) H)(e:k=k'):EP X pins σ Q (.bool k') s:=by
 subst e
 exact ⟨.bl k,H,I,rfl,q⟩
theorem zO:jr X (compareOp .Lt) (vH λi j=>.bl (decide (i<j))):=vL λ_ _ _ _ _ _ _ q=>lt_int q
theorem zP:jr X (compareOp .LtE) (vH λi j=>.bl (decide (i<=j))):=vL λ_ _ _ _ _ _ _ q=>le_int q
theorem zQ:jr X (compareOp .Gt) (vH λi j=>.bl (decide (j<i))):=vL λ_ _ _ _ _ _ _ q=>gt_int q
theorem U4:jr X (compareOp .Is) (λx y H Q=>y=.bo/\Q (.bl (decide (x=.bo))) H):=by
 intro pins s σ H x y v u Q I rx ry h
 obtain ⟨rfl,q⟩:=h
 cases ry
 refine is_none_gen (Uq I q ?_)
 cases x<;>first
  | (cases rx;rfl)
  | (obtain ⟨t,rfl⟩:=rx;rfl)
theorem jr.or(h:jr X f r)(h':jr X f r'):jr X f (λx y H Q=>r x y H Q\/r' x y H Q):=by
 intro pins s σ H x y v u Q I rx ry q
 rcases q with q | q
 .exact h pins s σ H x y v u Q I rx ry q
 .exact h' pins s σ H x y v u Q I rx ry q
theorem Og(b:Expr)(h:op≠.In:=by decide)(h2:op≠.NotIn:=by decide):behindInMarks op b=false:=by
 have e1:(op==CmpOp.In)=false:=by cases op<;>first | rfl | exact absurd rfl h
 have e2:(op==CmpOp.NotIn)=false:=by cases op<;>first | rfl | exact absurd rfl h2
 cases b<;>simp [behindInMarks,e1,e2]
theorem VN(ho:jr X (compareOp op) r)(ha:PE X a ta)(hb:PE X b tb)(hm:behindInMarks op b=false):PE X (.Compare a [op] [b] pos) (yY r ta tb):=by
 intro pins s σ H Q I h
 exact wpAny_Compare1 (wJ ha hb I h λv u s2 x y H2 I2 rx ry q=>ho pins s2 σ H2 x y v u Q I2 rx ry q) hm
def ND(t:TE):TT:=λσ H Q=>t σ H λx H'=>∃k,x=.bl k/\Q k H'
theorem VV(ho:jr X (compareOp op) r)(ha:PE X a ta)(hb:PE X b tb)(hm:behindInMarks op b=false):PT X (.Compare a [op] [b] pos) (ND (yY r ta tb)):=by
 intro pins s σ H Q I h
 refine wpAny_isTrue_Compare1 (bw (ha pins s σ H _ I h) λv s1 ⟨x,H1,I1,r1,q1⟩=>bw (hb pins s1 σ H1 _ I1 q1) λu s2 ⟨y,H2,I2,r2,q2⟩ =>
  bw (ho pins s2 σ H2 x y v u _ I2 r1 r2 q2) λc s3 ⟨z,H3,I3,r3,k,e,q3⟩=>?_) hm
 subst e
 cases r3
 exact t7 ⟨H3,I3,q3⟩
def NV(r r':R2)(ta tb tc:TE):TE:=λσ H Q=>ta σ H λx H1=>tb σ H1 λy H2=>r x y H2 λz H3=>∃k,z=.bl k /\
 (if k=true then tc σ H3 λw' H4=>r' y w' H4 Q else Q (.bl false) H3)
theorem XG(ho:jr X (compareOp op) r)(k4:jr X (compareOp rh) r')(ha:PE X a ta)(hb:PE X b tb)(hc:PE X c tc)
  (hm:lastMarks [op,rh] [b,c]=false:=by with_unfolding_all rfl):PE X (.Compare a [op,rh] [b,c] pos) (NV r r' ta tb tc):=by
 intro pins s σ H Q I h
 refine Compare_chain (bw (ha pins s σ H _ I h) λv s1 ⟨x,H1,I1,r1,q1⟩=>chain_link (bw (hb pins s1 σ H1 _ I1 q1) λu s2 ⟨y,H2,I2,r2,q2⟩ =>
  bw (ho pins s2 σ H2 x y v u _ I2 r1 r2 q2) λd s3 ⟨z,H3,I3,r3,k,e,q3⟩=>?_)) hm
 subst e
 cases r3
 refine t7 ?_
 cases k with
 | false=>exact ite_ff ⟨.bl false,H3,I3,rfl,q3⟩
 | true=>exact ite_tt (chain_last (bw (hc pins s3 σ H3 _ I3 q3) λw' s4 ⟨z',H4,I4,r4,q4⟩=>k4 pins s4 σ H4 y z' u w' Q I4 r2 r4 q4))
theorem Xm(ho:jr X (compareOp op) r)(k4:jr X (compareOp rh) r')(ha:PE X a ta)(hb:PE X b tb)(hc:PE X c tc)
  (hm:lastMarks [op,rh] [b,c]=false:=by with_unfolding_all rfl):PT X (.Compare a [op,rh] [b,c] pos) (ND (NV r r' ta tb tc)):=by
 intro pins s σ H Q I h
 refine isTrue_chain (bw (ha pins s σ H _ I h) λv s1 ⟨x,H1,I1,r1,q1⟩=>test_link (bw (hb pins s1 σ H1 _ I1 q1) λu s2 ⟨y,H2,I2,r2,q2⟩ =>
  bw (ho pins s2 σ H2 x y v u _ I2 r1 r2 q2) λd s3 ⟨z,H3,I3,r3,k,e,q3⟩=>?_)) hm
 subst e
 cases r3
 refine t7 ?_
 cases k with
 | false =>
  obtain ⟨k',e',q'⟩:=q3
  cases e'
  exact ite_ff ⟨H3,I3,q'⟩
 | true =>
  refine ite_tt (test_last (bw (hc pins s3 σ H3 _ I3 q3) λw' s4 ⟨z',H4,I4,r4,q4⟩=>bw (k4 pins s4 σ H4 y z' u w' _ I4 r2 r4 q4) λd' s5 ⟨z2,H5,I5,r5,k2,e2,q5⟩=>?_))
  subst e2
  cases r5
  exact t7 ⟨H5,I5,q5⟩
def xm(K:aI)(x:V)(H:Hp)(k:Bool):Prop:=
 match x with
 | .bo=>k=false
 | .bl b=>k=b
 | .int i=>k=(i != 0)
 | .str y=>y.length<=sizeLine/\k=((y.length:Int) != 0)
 | .xP y=>y.size<=sizeLine/\k=((y.size:Int) != 0)
 | .ref p=>(∃xs,dU K H p xs/\k=!xs.isEmpty)\/(∃xs,gc K H p xs/\k=!xs.isEmpty)\/∃aA,H p=some (.dK aA)/\k=!aA.isEmpty
 | _=>False
theorem YM{κ:Type}{aA:List (κ×V)}{vs:List (κ×Value)}(r:KV aA vs):(!vs.isEmpty)=!aA.isEmpty:=by
 cases r<;>rfl
theorem PH(r:aB xs av):(!av.toArray.isEmpty)=!xs.isEmpty:=by
 cases r<;>simp
theorem yq:(sizeLine:Nat)<2^63:=by rw [pT];decide
theorem UY:LA X (λx H Q=>∃k,xm X.K x H k/\Q k H):=by
 intro pins s σ H x v Q I rx h
 obtain ⟨k,e,q⟩:=h
 have hl:=yq
 have hs:sizeLine=16777216:=pT
 cases x with
 | bo =>
  cases rx
  have e':k=false:=e
  subst e'
  exact truthy_none ⟨H,I,q⟩
 | bl b =>
  cases rx
  have e':k=b:=e
  subst e'
  exact t7 ⟨H,I,q⟩
 | int i =>
  obtain ⟨t,rfl⟩:=rx
  have e':k=(i != 0):=e
  subst e'
  exact PySem.P.truthy_int ⟨H,I,q⟩
 | str y =>
  obtain ⟨t,rfl⟩:=rx
  obtain ⟨hy,e'⟩:y.length<=sizeLine/\k=((y.length:Int) != 0):=e
  subst e'
  exact PySem.P.truthy_str (by ext hs hy) ⟨H,I.tok _,q⟩
 | xP y =>
  obtain ⟨t,rfl⟩:=rx
  obtain ⟨hy,e'⟩:y.size<=sizeLine/\k=((y.size:Int) != 0):=e
  subst e'
  exact PySem.W.truthy_bytes (jZ ‹_› (by decide)) ⟨H,I.tok _,q⟩
 | ref p =>
  cases rx
  have e':(∃xs,dU X.K H p xs/\k=!xs.isEmpty)\/(∃xs,gc X.K H p xs/\k=!xs.isEmpty)\/∃aA,H p=some (.dK aA)/\k=!aA.isEmpty:=e
  rcases e' with ⟨xs,hx,e'⟩ | ⟨xs,hx,e'⟩ | ⟨aA,hx,e'⟩
  .subst e'
   obtain ⟨av,r,pl,hz⟩:=I.list hx
   have hlen:=r.length
   exact wpAny_truthy_list pl.isList (by simp only [dG];ext hs hz hlen) ⟨H,I.tok _,by rw [PH r];exact q⟩
  .subst e'
   obtain ⟨av,r,pl,hz⟩:=I.tuple hx
   have hlen:=r.length
   exact truthy_tuple pl (by simp only [dG];ext hs hz hlen) ⟨H,I.tok _,by rw [PH r];exact q⟩
  .subst e'
   obtain ⟨hz,hS,vs,r,m⟩:aA.length<=sizeLine/\(p==sysModules)=false/\∃vs,KV aA vs/\s.heap.DictOf (pZ X.prog X.w) p vs:=I.bq p _ hx
   have hlen:aA.length=vs.length:=Paired.length r
   exact wpAny_truthy_dict hS m (by ext hs hz hlen) ⟨H,I.tok _,by rw [YM r];exact q⟩
 | _=>exact (show False from e).elim
theorem Xn(ha:PE X a ta)(he:∀whole,isTrue a X.env whole=(do let v <-whole;standAt a.pos;holding [v] (truthy v))):
  PT X a (λσ H Q=>ta σ H λx H'=>∃k,xm X.K x H' k/\Q k H'):=by
 intro pins s σ H Q I h
 exact isTrue_plain (bw (ha pins s σ H _ I h) λv s1 ⟨x,H1,I1,r1,q1⟩=>UY pins s1 σ H1 x v Q I1 r1 q1) (he _)
theorem oN:jr X (binaryOp .Add) (λx y H Q=>∃i j,x=.str i/\y=.str j/\i.length+j.length<=sizeLine/\Q (.str (i++j)) H):=by
 intro pins s σ H x y v u Q I rx ry h
 obtain ⟨i,j,rfl,rfl,hz,q⟩:=h
 obtain ⟨t,rfl⟩:=rx
 obtain ⟨t',rfl⟩:=ry
 exact add_str (λt' tk=>⟨.str (i++j),H,I.tok _,⟨_,rfl⟩,q⟩) hz
theorem vals1(r:aB [x] us):∃u,us=[u]/\RelV x u:=by
 cases r with
 | cons r1 r2=>cases r2;exact ⟨_,rfl,r1⟩
theorem vals2(r:aB [x,y] us):∃u w',us=[u,w']/\RelV x u/\RelV y w':=by
 cases r with
 | cons r1 r2 =>
  cases r2 with
  | cons r3 r4=>cases r4;exact ⟨_,_,rfl,r1,r3⟩
theorem Xd(hc:X.calm=true):cm X (.builtin "max") (λxs H Q=>∃i j,xs=[.int i,.int j]/\Q (.int (if j>i then j else i)) H):=by
 intro pins s σ H xs us Q I r h
 obtain ⟨i,j,rfl,q⟩:=h
 obtain ⟨u,w',rfl,⟨t,rfl⟩,⟨t',rfl⟩⟩:=vals2 r
 refine max_two_ints (I.ok.hd hc) λh' tk k=>⟨_,H,I.kept k,?_,q⟩
 by_cases hj:j>i
 .rw [if_pos hj,if_pos hj];exact ⟨_,rfl⟩
 .rw [if_neg hj,if_neg hj];exact ⟨_,rfl⟩
theorem Xe(hc:X.calm=true):cm X (.builtin "min") (λxs H Q=>∃i j,xs=[.int i,.int j]/\Q (.int (if j<i then j else i)) H):=by
 intro pins s σ H xs us Q I r h
 obtain ⟨i,j,rfl,q⟩:=h
 obtain ⟨u,w',rfl,⟨t,rfl⟩,⟨t',rfl⟩⟩:=vals2 r
 refine min_two_ints (I.ok.hd hc) λh' tk k=>⟨_,H,I.kept k,?_,q⟩
 by_cases hj:j<i
 .rw [if_pos hj,if_pos hj];exact ⟨_,rfl⟩
 .rw [if_neg hj,if_neg hj];exact ⟨_,rfl⟩
end
end L2
namespace L2
open PySem PySem.Spec PyProof.Rows
structure pE(h:Heap)(x dx C:Addr)(mA:Str->Option Value):Prop where
 obj:h.get? x=some (u3 C dx)
 ns:h.Ns1 dx mA
 ne:dx≠x
theorem Ye{h:Heap}(n:h.Ns1 dx mA):∃od,h.get? dx=some od/\∀name,DA name od=some (mA name):=by
 obtain ⟨o,es,ep,ho,hd,hk,_,hm⟩:=n
 refine ⟨o,ho,λname=>?_⟩
 have e:=hm name
 unfold nsFind findBy at e
 rw [<-Array.find?_toList] at e
 unfold DA
 rw [hd]
 dsimp only
 split
 .rename_i y q
  rw [q] at e
  exact congrArg some e
 .rename_i q
  rw [q] at e
  have a:es.toList.any (·.refKey)=false:=by
   rw [List.any_eq_false]
   intro y hy
   obtain ⟨z,t,G7⟩:=hk y (Array.mem_toList_iff.mp hy)
   simp [DictEntry.refKey,G7]
  have a':¬es.toList.any (·.refKey)=true:=by rw [a];exact pV
  rw [if_neg a']
  exact congrArg some e
theorem pE.look(I:pE h x dx C mA):∃od,PySem.W.InstAt h x (u3 C dx) C (some od)/\∀name,DA name od=some (mA name):=
 let ⟨od,ho,hl⟩:=Ye I.ns
 ⟨od,⟨I.obj,rfl,rfl,ho⟩,hl⟩
section
variable {prog:Program}{w:World}{A:Around}{E:Value->Shared->Prop}{s:Shared}{K:aI}{x dx C f:Addr}{mA:Str->Option Value}{name:Str}{v:Value}
theorem V9(X:K.In s.heap)(I:pE s.heap x dx C mA)(hg:sv K C name=true)(hh:t6 K C=true)
  (ha:bh K (.ref C) name=some none)(hv:mA name=some v)(Dc:MU v=true)(h:Q v { s with toks:=s.toks+1 }):
  wpAny (model prog w) A (getAttr (.ref x) name expr) Q E s:=by
 obtain ⟨od,J,hl⟩:=I.look
 exact PySem.W.get_value X J (IS hg).1 (PySem.W.findObj_own hh ha rfl (by rw [hl,hv])) Dc h
theorem WG(X:K.In s.heap)(I:pE s.heap x dx C mA)(hg:sv K C name=true)
  (hf:bh K (.ref C) name=some (some (.ref f)))(ht:my K (.ref f)=true)(hv:mA name=none)(h:Q (.ref f,[.ref x]) s):
  wpAny (model prog w) A (getMethod (.ref x) name pl) Q E s:=by
 obtain ⟨od,J,hl⟩:=I.look
 exact PySem.W.method_fn X J (IS hg).1 (IS hg).2 hf (beq_iff_eq.mp ht) (by show (DA name od).map (·.isSome)=some false;rw [hl,hv];rfl) h
theorem V0(X:K.In s.heap)(I:pE s.heap x dx C mA)
  (hs:bh K (.ref C) "__setattr__" = some (some (.builtin "object.__setattr__")))(hp:vb K C=true)(ht:Iv K C name=some none)(hh:t6 K C=true)
  (hw:HP mA ns)(hsz:ns.length<=sizeLine)
  (h:∀h',pE h' x dx C (λy=>if y=name then some v else mA y)->rT dx s.heap h'->Q () { s with heap:=h',toks:=s.toks+2 }):
  wpAny (model prog w) A (setAttr (.ref x) name v) Q E s:=by
 obtain ⟨od,J,hl⟩:=I.look
 refine PySem.W.set_plain X J hs (PySem.W.osa_open (s:={ s with toks:=s.toks+1 }) (r:=none) X J hp ht λb=>?_)
 obtain ⟨cd,hc,qC⟩:=PySem.W.any_some hh
 have hx:s.heap.get? x=some ⟨.ref C,some dx,.plain,#[]⟩:=I.obj
 refine aM (bE (aM (aM (wpAny_loadPart hx (aM (PySem.W.Looks.here (s:={ s with toks:=s.toks+1 }) (PySem.W.looks_clsIn X hc) ?_))))))
 rw [qC]
 refine bE (a:=some dx) (aM (bE (aM ?_)))
 refine wpAny_nsSet1 (s:={ s with toks:=s.toks+1 }) I.ns λh' De nQ=>?_
 obtain ⟨oD,esD,epD,SM,SY,S1⟩:=De.count (PySem.Within.cons name v hw)
 refine aM (wpAny_lookBehind SM (by rw [SY];exact pastItsLine_dict (jZ S1 (by rw [jX];ext hsz))) ?_)
 exact bE (h _ ⟨(nQ.2 _ (jW I.ne)).trans I.obj,De,I.ne⟩ nQ)
theorem WO(X:K.In s.heap)(hm:uZ K C=true)
  (hi:bh K (.ref C) "__init__" = some (some (.ref f)))(hf:PySem.W.typeIn K (.ref f)=some (.type "function"))
  (h:codeAny (model prog w) (A.under (.builtin "type.__call__" ⟨.ref C::vs,kw⟩)) (.call (.ref f) ⟨.ref (s.heap.objs.size+1)::vs,kw⟩) (PySem.W.InitBack (s.heap.objs.size+1) R)
   { s with heap:=(s.heap.push t5).push (u3 C s.heap.objs.size) }):
  codeAny (model prog w) A (.call (.ref C) ⟨vs,kw⟩) R s:=by
 obtain ⟨hh,g,d,t,os⟩:=s
 exact PySem.W.make_core (PySem.W.makes_of X hm) (PySem.W.looks_findIn X hi) (λself=>PySem.W.bind_fn X self hf) (.inl rfl) h
end
def dJ(f:Str)(v:V):List (Str×V)->List (Str×V)
 | []=>[(f,v)]
 | (g,x)::r=>if g=f then (g,v)::r else (g,x)::dJ f v r
theorem Qg(f g:Str)(v:V):∀fs:List (Str×V),(dJ f v fs).lookup g=if g=f then some v else fs.lookup g
 | []=>by
  show tX g [(f,v)]=_
  by_cases h:g=f
  .have hb:(g==f)=true:=beq_iff_eq.mpr h
   simp only [tX,hb,if_pos h]
  .have hb:(g==f)=false:=beq_eq_false_iff_ne.mpr h
   simp only [tX,hb,if_neg h]
 | (k,x)::r=>by
  have ih:=Qg f g v r
  rw [show dJ f v ((k,x)::r)=(if k=f then (k,v)::r else (k,x)::dJ f v r) from rfl]
  by_cases hk:k=f
  .rw [if_pos hk]
   by_cases h:g=k
   .have hb:(g==k)=true:=beq_iff_eq.mpr h
    simp only [tX,hb,if_pos (h.trans hk)]
   .have hb:(g==k)=false:=beq_eq_false_iff_ne.mpr h
    simp only [tX,hb,if_neg (λe:g=f=>h (e.trans hk.symm))]
  .rw [if_neg hk]
   by_cases h:g=k
   .have hb:(g==k)=true:=beq_iff_eq.mpr h
    simp only [tX,hb,if_neg (λe:g=f=>hk (h.symm.trans e))]
   .have hb:(g==k)=false:=beq_eq_false_iff_ne.mpr h
    simp only [tX,hb]
    exact ih
theorem Kq(f:Str)(v:V):∀fs:List (Str×V),f∈(dJ f v fs).map (·.1)/\∀g,g∈fs.map (·.1)->g∈(dJ f v fs).map (·.1)
 | []=>⟨by simp [dJ],λg h=>by simp at h⟩
 | (k,x)::r=>by
  obtain ⟨i1,i2⟩:=Kq f v r
  rw [show dJ f v ((k,x)::r)=(if k=f then (k,v)::r else (k,x)::dJ f v r) from rfl]
  by_cases hk:k=f
  .rw [if_pos hk]
   subst hk
   exact ⟨by simp,λg h=>by simpa using h⟩
  .rw [if_neg hk]
   refine ⟨?_,λg h=>?_⟩
   .rw [dE]
    exact jo _ i1
   .rw [dE] at h ⊢
    rcases cf.mp h with e | e
    .exact cf.mpr (.inl e)
    .exact jo _ (i2 g e)
theorem Qd(f:Str)(v:V):∀fs:List (Str×V),(dJ f v fs).length<=fs.length+1
 | []=>by simp [dJ]
 | (k,x)::r=>by
  have ih:=Qd f v r
  rw [show dJ f v ((k,x)::r)=(if k=f then (k,v)::r else (k,x)::dJ f v r) from rfl]
  by_cases hk:k=f
  .rw [if_pos hk,jX,jX];ext
  .rw [if_neg hk,jX,jX];ext ih
theorem dP.some_of(r:dP (some v) o):∃u,o=some u/\RelV v u:=by
 cases o with
 | none=>exact (show False from r).elim
 | some u=>exact ⟨u,rfl,r⟩
theorem dP.none_of(r:dP none o):o=none:=by
 cases o with
 | none=>rfl
 | some u=>exact (show False from r).elim
theorem Yj(r:RelV v u):MU u=true:=by
 cases v with
 | bo=>cases (show u=ma from r);rfl
 | bl b=>cases (show u=nW b from r);rfl
 | int i=>obtain ⟨t,e⟩:=(show ∃t,u=Bc i t from r);cases e;rfl
 | str x=>obtain ⟨t,e⟩:=(show ∃t,u=Bb x t from r);cases e;rfl
 | xP b=>obtain ⟨t,e⟩:=(show ∃t,u=Value.bytes b t from r);cases e;rfl
 | wq b=>obtain ⟨t,e⟩:=(show ∃t,u=H9 b t from r);cases e;rfl
 | ref a=>cases (show u=cI a from r);rfl
 | ty n=>cases (show u=tV n from r);rfl
section
variable {P:Program}{w:World}{H H':Hp}{h h':Heap}{a C dx:Addr}{fs tN:List (Str×V)}
theorem EJ(bq:gj P w H h)(e:H a=some (.ins C dx fs)):∃mA,pE h a dx C mA/\(∀f,dP (fs.lookup f) (mA f))/\HP mA (fs.map (·.1))/\fs.length<=1000/\H dx=some (.own a):=by
 obtain ⟨d,z,ne,ob,mA,n,r,q⟩:=(show bA P w H h a (.ins C dx fs) from bq a _ e)
 exact ⟨mA,⟨ob,n,ne⟩,r,q,z,d⟩
end
structure oH(K:aI)(C:Addr):Prop where
 pg:sv K C wG=true
 hd:t6 K C=true
 po:vb K C=true
 sa:bh K (.ref C) "__setattr__" = some (some (.builtin "object.__setattr__"))
theorem oH.get{K:aI}{C:Addr}(c:oH K C)(f:Str):sv K C f=true:=c.pg
def ag(K:aI)(C:Addr)(f:Str):Prop:=bh K (.ref C) f=some none
theorem ag.yU{K:aI}{C:Addr}{f:Str}(n:ag K C f):Iv K C f=some none:=by
 unfold Iv
 rw [show bh K (.ref C) f=some none from n]
 rfl
structure Con(K:aI)(C:Addr)(f:Str)(v:V)(u:Value):Prop where
 at_:bh K (.ref C) f=some (some u)
 rel:RelV v u
 get:DV K u "__get__" = some none
 cp:PySem.W.copiedNames.contains f=false
structure bQ(K:aI)(C:Addr)(m:Str)(f:Addr):Prop where
 at_:bh K (.ref C) m=some (some (.ref f))
 fn:my K (.ref f)=true
 kp:pS K (.ref f)=true
section
variable {X:Cx}{pins:List (Addr×Obj)}{σ:St}{H:Hp}{s:Shared}{a C dx:Addr}{fs:List (Str×V)}{f:Str}{v:V}{A:Around}{E:Value->Shared->Prop}
theorem YJ(I:Inv X pins σ H s)(e:H a=some (.ins C dx fs))(c:oH X.K C)(n:ag X.K C f)(l:fs.lookup f=some v)
  (h:∀u s',Inv X pins σ H s'->RelV v u->Q u s'):wpAny (model X.prog X.w) A (getAttr (.ref a) f b) Q E s:=by
 obtain ⟨mA,O,r,_,_,_⟩:=EJ I.bq e
 obtain ⟨u,hu,ru⟩:=dP.some_of (v:=v) (o:=mA f) (by rw [<-l];exact r f)
 exact V9 I.jJ O (c.get f) c.hd n hu (Yj ru) (h u _ (I.tok _) ru)
theorem PF(I:Inv X pins σ H s)(e:H a=some (.ins C dx fs))(c:oH X.K C)(k:bQ X.K C m g)(l:fs.lookup m=none)
  (h:Q (.ref g,[.ref a]) s):wpAny (model X.prog X.w) A (getMethod (.ref a) m pl) Q E s:=by
 obtain ⟨mA,O,r,_,_,_⟩:=EJ I.bq e
 have hn:mA m=none:=dP.none_of (by rw [<-l];exact r m)
 exact WG I.jJ O (c.get m) k.at_ k.fn hn h
theorem YB(I:Inv X pins σ H s)(e:H a=some (.ins C dx fs))(c:oH X.K C)(n:ag X.K C f)(hl:fs.length<1000)(ry:RelV y u)
  (h:∀s',Inv X pins σ (upd H a (.ins C dx (dJ f y fs))) s'->Q () s'):wpAny (model X.prog X.w) A (setAttr (.ref a) f u) Q E s:=by
 obtain ⟨mA,O,r,wi,_,ho⟩:=EJ I.bq e
 have hz:(fs.map (·.1)).length<=sizeLine:=by rw [dF,pT];ext hl
 refine V0 I.jJ O c.sa c.po n.yU c.hd wi hz λh' O' sb=>h _ ?_
 have hd:∃o,h'.get? dx=some o:=let ⟨o,_,_,e',_⟩:=O'.ns;⟨o,e'⟩
 refine I.write (x:=a) (e:=dx) (by rw [e];exact rN) (.inr ho) (λb q hb z=>(sb.2 b hb).trans z) hd ?_
 refine ⟨by rw [da O.ne];exact ho,?_,O.ne,O'.obj,_,O'.ns,λg=>?_,λg hg=>?_⟩
 .have:=Qd f y fs;ext hl this
 .show dP ((dJ f y fs).lookup g) (if g=f then some u else mA g)
  rw [Qg]
  by_cases q:g=f
  .rw [if_pos q,if_pos q];exact ry
  .rw [if_neg q,if_neg q];exact r g
 .by_cases q:g=f
  .rw [q];exact (Kq f y fs).1
  .refine (Kq f y fs).2 g (wi g λz=>hg ?_)
   show (if g=f then some u else mA g)=none
   rw [if_neg q];exact z
theorem Inv.made(I:Inv X pins σ H s):Inv X pins σ (upd (upd H s.heap.objs.size (.own (s.heap.objs.size+1))) (s.heap.objs.size+1) (.ins C s.heap.objs.size []))
  { s with heap:=(s.heap.push t5).push (u3 C s.heap.objs.size) }:=by
 have e1:(s.heap.push t5).get? s.heap.objs.size=some t5:=jY s.heap rfl
 have e2:((s.heap.push t5).push (u3 C s.heap.objs.size)).get? (s.heap.objs.size+1)=some (u3 C s.heap.objs.size):=by
  have:=jY (s.heap.push t5) (o:=u3 C s.heap.objs.size) rfl
  rwa [nF] at this
 have e3:(s.heap.push t5).Ns s.heap.objs.size (λ_=>none):=⟨t5,#[],_,e1,rfl,(λe he=>absurd he (by simp)),λ_=>rfl⟩
 have I1:=I.laid (a:=s.heap.objs.size) (o:=.own (s.heap.objs.size+1)) (h':=s.heap.push t5) (t':=s.toks) (λb u q=>c8 _ q) (bX _) ⟨_,e1⟩
 refine I1.laid (a:=s.heap.objs.size+1) (o:=.ins C s.heap.objs.size []) (t':=s.toks) (λb u q=>c8 _ q) (Nat.le_of_eq (nF _ _)) ?_
 have ne:s.heap.objs.size≠s.heap.objs.size+1:=dr (nZ _)
 refine ⟨by rw [da ne,kX],sr _,ne,e2,λ_=>none,(Heap.Ns1.of_empty e3).at λo q=>c8 _ q,λ_=>rN,λy hy=>absurd rfl hy⟩
theorem Vw(hb:attributeBase e f env (eval e env)=eval e env)
  (h:wpAny (model prog w) A (eval e env) (λo aV=>wpAny (model prog w) A (getAttr o f true) Q E aV) E s):wpAny (model prog w) A (eval (.Attribute e f pos) env) Q E s:=
 Attribute_any_ h (by rw [arm_eval_Attribute,hb])
end
def FX(K:aI)(ta:TE)(f:Str):TE:=λσ H Q=>ta σ H λx H1=>∃a C dx fs v,x=.ref a/\H1 a=some (.ins C dx fs)/\oH K C/\ag K C f/\fs.lookup f=some v/\Q v H1
def Gb(K:aI)(ta tv:TE)(f:Str):TS:=λD σ H=>tv σ H λy H1=>ta σ H1 λx H2=>∃a C dx fs,x=.ref a/\H2 a=some (.ins C dx fs)/\oH K C/\ag K C f/\fs.length<1000 /\
 D.nx σ (upd H2 a (.ins C dx (dJ f y fs)))
section
variable {X:Cx}{o e value:Expr}{f:Str}{pos pos' FH:Pos}{ta tv:TE}
theorem U7(he:PE X e ta)(hb:attributeBase e f X.env (eval e X.env)=eval e X.env):PE X (.Attribute e f pos) (FX X.K ta f):=by
 intro pins s σ H Q I h
 refine Vw hb (bw (he pins s σ H _ I h) λu s1 ⟨x,H1,I1,rx,a,C,dx,fs,v,ex,ea,c,n,l,q⟩=>?_)
 subst ex
 obtain rfl:u=cI a:=rx
 exact YJ I1 ea c n l λu' s2 I2 ru=>⟨v,H1,I2,ru,q⟩
theorem NO(ha:PE X o ta)(hv:PE X value tv)(hs:swapsWith value (some (.Attribute o f pos')) pos.line X.env=pure false):PS X (.Assign [.Attribute o f pos'] value pos) (Gb X.K ta tv f):=by
 intro pins s σ H D I h
 refine plainObj_wpAny_Assign_Attribute (bw (hv pins s σ H _ I h) λu s1 ⟨y,H1,I1,ry,q⟩=>bw (ha pins s1 σ H1 _ I1 q) λov s2 ⟨x,H2,I2,rx,a,C,dx,fs,ex,ea,c,n,l,q2⟩=>?_) hs
 subst ex
 obtain rfl:ov=cI a:=rx
 exact YB I2 ea c n l ry λs3 I3=>⟨σ,_,I3,q2⟩
end
section
variable {X:Cx}{pins:List (Addr×Obj)}{σ:St}{H:Hp}{s:Shared}{A:Around}{E:Value->Shared->Prop}{Q:Value->Shared->Prop}{c:Value}{b:Bool}
inductive ji (K:aI) (H:Hp):V->Value->Prop where
 | bo:ji K H .bo (.type "NoneType")
 | bl (x:Bool):ji K H (.bl x) (.type "bool")
 | int (i:Int):ji K H (.int i) (.type "int")
 | str (x:Str):ji K H (.str x) (.type "str")
 | wq (x:UInt64):ji K H (.wq x) (.type "float")
 | lst {a:Addr} {xs:List V} (e:H a=some (.lst xs)):ji K H (.ref a) (.type "list")
 | lU {a:Addr} {o:Obj} {xs:List V} (e:H a=some (.lU o (.lst xs))):ji K H (.ref a) (.type "list")
 | tup {a:Addr} {xs:List V} (e:H a=some (.tup xs)):ji K H (.ref a) (.type "tuple")
 | dK {a:Addr} {aA:List (Key×V)} (e:H a=some (.dK aA)):ji K H (.ref a) (.type "dict")
 | dT {a:Addr} {aA:List (List Key×V)} (e:H a=some (.dT aA)):ji K H (.ref a) (.type "dict")
 | ins {a C dx:Addr} {fs:List (Str×V)} (e:H a=some (.ins C dx fs)) (cl:oH K C) (ha:bh K (.ref C) "__class__" = some (some (.builtin "object.__class__")))
   (hn:DV K (.builtin "object.__class__") "__get__" = some (some (.builtin "getset_descriptor.__get__"))) (Ma:Iu K (.builtin "object.__class__")=some true)
   (hm:u6 K C (.type "object")=some true):ji K H (.ref a) (.ref C)
theorem Yb(I:Inv X pins σ H s)(rx:RelV x u)(ty:ji X.K H x t)(e:uX X.K t c=some b)(h:∀tk,Q (.bool b) { s with toks:=tk }):
  wpAny (model X.prog X.w) A (call (.builtin "isinstance") [u,c]) Q E s:=by
 cases ty with
 | bo=>cases (show u=ma from rx);exact rO PySem.W.kitx_none I.jJ rN e (λz=>nomatch z) h
 | bl y=>cases (show u=nW y from rx);exact rO PySem.W.kitx_bool I.jJ rN e (λz=>nomatch z) h
 | int i=>obtain ⟨t,q⟩:=(show ∃t,u=Bc i t from rx);cases q;exact rO PySem.W.kitx_int I.jJ rN e (λz=>nomatch z) h
 | str y=>obtain ⟨t,q⟩:=(show ∃t,u=Bb y t from rx);cases q;exact rO PySem.W.kitx_str I.jJ rN e (λz=>nomatch z) h
 | wq y=>obtain ⟨t,q⟩:=(show ∃t,u=H9 y t from rx);cases q;exact rO PySem.W.kitx_float I.jJ rN e (λz=>nomatch z) h
 | @lst a xs ea =>
  cases (show u=cI a from rx)
  obtain ⟨_,_,n,_,h1⟩:=(show bA X.prog X.w H s.heap a (.lst xs) from I.bq a _ ea)
  exact rO MK I.jJ ⟨_,h1,rfl⟩ e (λz=>nomatch z) h
 | @lU a ob xs ea =>
  cases (show u=cI a from rx)
  obtain ⟨_,_,_,n,_,h1⟩:=(show bA X.prog X.w H s.heap a (.lU ob (.lst xs)) from I.bq a _ ea)
  exact rO MK I.jJ ⟨_,h1,rfl⟩ e (λz=>nomatch z) h
 | @tup a xs ea =>
  cases (show u=cI a from rx)
  obtain ⟨_,_,_,p⟩:=(show bA X.prog X.w H s.heap a (.tup xs) from I.bq a _ ea)
  obtain ⟨o,h1,h2,_⟩:=p
  exact rO PySem.W.kitx_tuple I.jJ ⟨o,h1,h2⟩ e (λz=>nomatch z) h
 | @dK a aA ea =>
  cases (show u=cI a from rx)
  obtain ⟨_,_,vs,_,p⟩:=(show bA X.prog X.w H s.heap a (.dK aA) from I.bq a _ ea)
  obtain ⟨o,es,ep,h1,h2,_⟩:=p
  exact rO MJ I.jJ ⟨o,h1,h2.1⟩ e (λz=>nomatch z) h
 | @dT a aA ea =>
  cases (show u=cI a from rx)
  obtain ⟨_,_,xs,_,o,es,ep,h1,h2,_⟩:=(show bA X.prog X.w H s.heap a (.dT aA) from I.bq a _ ea)
  exact rO MJ I.jJ ⟨o,h1,h2.1⟩ e (λz=>nomatch z) h
 | @ins a C dx fs ea cl ha hn Ma hm =>
  cases (show u=cI a from rx)
  obtain ⟨mA,O,_⟩:=EJ I.bq ea
  obtain ⟨od,J,_⟩:=O.look
  exact rO (PySem.W.kitx_own (cl.get _) cl.hd ha hn Ma hm) I.jJ J e (λz=>nomatch z) h
end
end L2
namespace L2
open PySem PySem.Spec PyProof.Rows
structure bS(k:Nat)(A:Around):Prop where
 hd:A.handled=none
 dp:A.depth+3*k+5<recursionLimit
 un:A.units+16*k+200<cLine
theorem bS.mono(r:bS k A)(h:j<=k):bS j A:=⟨r.hd,by have:=r.dp;ext h this,by have:=r.un;ext h this⟩
theorem bS.deeper(r:bS (k+1) A)(env:Env):bS k (A.deeper env):=
 ⟨r.hd,by have:=r.dp;show A.depth+1+3*k+5<_;ext this,by have:=r.un;show A.units+3+16*k+200<_;ext this⟩
theorem bS.in1(r:bS (k+1) A):bS k A.in1:=
 ⟨r.hd,by have:=r.dp;show A.depth+3*k+5<_;ext this,by have:=r.un;show A.units+1+16*k+200<_;ext this⟩
theorem YO{A:Around}{kw:List (Str×Value)}:(A.under (.builtin "type.__call__" ⟨.ref C::us,kw⟩)).depth=A.depth+1:=by
 first | rfl | simp [HN,Code.weight,Code.isCreation,Code.isGuard,Code.isCaller,Code.frames,HM,guardIds]
theorem YQ{A:Around}{kw:List (Str×Value)}:(A.under (.builtin "type.__call__" ⟨.ref C::us,kw⟩)).units=A.units+1:=by
 first | rfl | simp [HN,Code.cUnits,Code.frames,HM]
theorem bS.make(r:bS (k+1) A)(C:Addr)(us:List Value)(kw:List (Str×Value)):bS k (A.under (.builtin "type.__call__" ⟨.ref C::us,kw⟩)):=
 ⟨r.hd,by have:=r.dp;rw [YO];ext this,by have:=r.un;rw [YQ];ext this⟩
theorem bS.depth(r:bS k A):A.depth<recursionLimit:=by have:=r.dp;ext this
theorem bS.units(r:bS k A):A.units+64<cLine:=by have:=r.un;ext this
def y2:TA:=λ_ H Q=>Q [] H
def y8(ta:TE)(tr:TA):TA:=λσ H Q=>ta σ H λx H1=>tr σ H1 λxs H2=>Q (x::xs) H2
section
variable {X:Cx}{e:Expr}{es:List Expr}{te:TE}{t:TA}{pos:Pos}
theorem pf:PA X [] y2:=λ_ _ _ _ H Q I h=>Calls.spliced_nil ⟨[],H,I,.nil,h⟩
theorem oh(ha:PE X e te)(hr:PA X es t)(hs:starEach (e::es) X.env=(false,eval e X.env)::starEach es X.env:=by rfl):PA X (e::es) (y8 te t):=by
 intro pos pins s σ H Q I h
 rw [hs]
 show wpAny _ _ (spliced ((false,eval e X.env)::backTo pos (starEach es X.env))) _ _ s
 refine Calls.spliced_cons (bw (ha pins s σ H _ I h) λu s1 ⟨x,H1,I1,r1,q1⟩=>?_)
 exact bw (hr pos pins s1 σ H1 _ I1 q1) λus s2 ⟨xs,H2,I2,r2,q2⟩=>⟨x::xs,H2,I2,.cons r1 r2,q2⟩
def FO(t:TA):TE:=λσ H Q=>t σ H λxs H1=>xs.length<=sizeLine/\∀p,H1 p=none->Q (.ref p) (upd H1 p (.tup xs))
def FU(t:TA):TE:=λσ H Q=>t σ H λxs H1=>xs.length<=sizeLine/\∀p,H1 p=none->Q (.ref p) (upd H1 p (.lst xs))
theorem Vd{x1}(h:PA X es t):PE X (.Tuple es x1 pos) (FO t):=by
 intro pins s σ H Q I hq
 refine wpAny_Tuple_spliced (bw (h pos pins s σ H _ I hq) λus s1 ⟨xs,H1,I1,r,z,q⟩=>⟨by rw [<-r.length];exact z,?_⟩)
 have hf:H1 s1.heap.objs.size=none:=I1.bq.fresh (bX _)
 refine ⟨.ref s1.heap.objs.size,upd H1 s1.heap.objs.size (.tup xs),I1.laid (t':=s1.toks) (λb u e=>c8 _ e) (bX _) ?_,rfl,q _ hf⟩
 exact ⟨z,us,r,⟨_,jY _ rfl,rfl,_,rfl⟩⟩
theorem U9(h:PA X es t):PE X (.List es pos) (FU t):=by
 intro pins s σ H Q I hq
 refine wpAny_List_spliced (bw (h pos pins s σ H _ I hq) λus s1 ⟨xs,H1,I1,r,z,q⟩=>⟨by rw [<-r.length];exact z,?_⟩)
 have hf:H1 s1.heap.objs.size=none:=I1.bq.fresh (bX _)
 refine ⟨.ref s1.heap.objs.size,upd H1 s1.heap.objs.size (.lst xs),I1.laid (t':=s1.toks) (λb u e=>c8 _ e) (bX _) ?_,rfl,q _ hf⟩
 exact ⟨z,us,0,r,jY _ rfl⟩
end
abbrev Sp:=List V->Hp->VK->XK->Prop
abbrev qx:=List Env->Hp->Shared->XK->Value->Shared->Prop
structure mq(P:Program)(w:World)(K:aI)(mg:Str->Option Value)(base:Heap)(A:Around)(outer:List Env)(s:Shared)(H:Hp):Prop where
 frames:A.frames=some outer
 mod:Mod K mg base
 bs:∀b o,base.get? b=some o->s.heap.get? b=some o/\H b=none
 rL:base.objs.size<=s.heap.objs.size
 iY:s.heap.FunFrames base outer
 uU:∀b∈qD outer,H b=none
 bq:gj P w H s.heap
 bare:AllBare s.gens
def CE(outer:List Env)(P:Program)(w:World)(H:Hp)(s:Shared)(Q:VK)(u:Value)(s':Shared):Prop:=
 ∃v H',s'.os=s.os/\AllBare s'.gens/\Un (qD outer) [] H H' s.heap s'.heap/\gj P w H' s'.heap/\RelV v u/\Q v H'
def CR(CX:qx)(outer:List Env)(P:Program)(w:World)(H:Hp)(s:Shared)(Q:VK)(E:XK)(r:Result)(s':Shared):Prop:=
 match r with
 | .ok (.ret u)=>CE outer P w H s Q u s'
 | .ok _=>False
 | .error e=>CX outer H s E e s'
structure bY(P:Program)(w:World)(K:aI)(mg:Str->Option Value)(base:Heap)(CX:qx)(k:Nat)(f:Addr)(fd:FuncData)(ps:List Str)(sp:Sp):Prop where
 len:∀vs H Q E,sp vs H Q E->vs.length=ps.length
 run:∀(A:Around) (outer:List Env) (s:Shared) (H:Hp) (args:Args) (us:List Value) (vs:List V) (Q:VK) (E:XK),bS k A->mq P w K mg base A outer s H->BindsTo s fd args (ps.zip us)->aB vs us->sp vs H Q E ->
  codeAny (model P w) A (.call (.ref f) args) (CR CX outer P w H s Q E) s
theorem bY.mono{P:Program}{w:World}{K:aI}{mg:Str->Option Value}{base:Heap}{CX:qx}{j k:Nat}{f:Addr}{fd:FuncData}{ps:List Str}{sp:Sp}(F:bY P w K mg base CX j f fd ps sp)(h:j<=k):
  bY P w K mg base CX k f fd ps sp:=⟨F.len,λA outer s H args us vs Q E hr=>F.run A outer s H args us vs Q E (hr.mono h)⟩
theorem bY.imp{P:Program}{w:World}{K:aI}{mg:Str->Option Value}{base:Heap}{CX:qx}{k:Nat}{f:Addr}{fd:FuncData}{ps:List Str}{sp LM:Sp}(F:bY P w K mg base CX k f fd ps sp)
  (h:∀vs H Q E,LM vs H Q E->sp vs H Q E):bY P w K mg base CX k f fd ps LM:=
 ⟨λvs H Q E q=>F.len vs H Q E (h _ _ _ _ q),λA outer s H args us vs Q E hr he hb hv hs=>F.run A outer s H args us vs Q E hr he hb hv (h _ _ _ _ hs)⟩
theorem mq.make{P:Program}{w:World}{K:aI}{mg:Str->Option Value}{base:Heap}{A:Around}{outer:List Env}{s:Shared}{H:Hp}(e:mq P w K mg base A outer s H)(C:Addr)(us:List Value)(kw:List (Str×Value)):
  mq P w K mg base (A.under (.builtin "type.__call__" ⟨.ref C::us,kw⟩)) outer s H:=⟨by first | exact e.frames | (simpa [HN,Code.envs,HM,pushEnvs] using e.frames),e.mod,e.bs,e.rL,e.iY,e.uU,e.bq,e.bare⟩
theorem mq.in1{P:Program}{w:World}{K:aI}{mg:Str->Option Value}{base:Heap}{A:Around}{outer:List Env}{s:Shared}{H:Hp}(e:mq P w K mg base A outer s H):
  mq P w K mg base A.in1 outer s H:=⟨e.frames,e.mod,e.bs,e.rL,e.iY,e.uU,e.bq,e.bare⟩
section
variable {X:Cx}{pins:List (Addr×Obj)}{σ:St}{H:Hp}{s s':Shared}
theorem Inv.jL(I:Inv X pins σ H s):mq X.prog X.w X.K X.mg X.base X.A X.stack s H:=
 ⟨I.ok.frames,I.ok.mod,I.bs,jZ I.ok.rL I.sz,I.stack,I.pG,I.bq,I.bare⟩
theorem Inv.after(I:Inv X pins σ H s)(h:CE X.stack X.prog X.w H s Q u s'):EP X pins σ Q u s':=by
 obtain ⟨v,H',os,bare,un,bq,r,q⟩:=h
 obtain ⟨hh,g,d,t,Gs⟩:=s'
 obtain rfl:Gs=s.os:=os
 exact ⟨v,H',I.call (h':=hh) (g':=g) (d':=d) (t':=t) (ch:=[]) un bq bare (λb z=>absurd z (by simp)),r,q⟩
end
def NC(sp:Sp)(dvs:List V)(E:XK)(t:TA):TE:=λσ H Q=>t σ H λvs H1=>sp (vs++dvs) H1 Q E
def y4(C:Addr)(sp:Sp)(dvs:List V)(E:XK)(t:TA):TE:=λσ H Q=>t σ H λvs H1=>∀x dx,H1 x=none->H1 dx=none->dx≠x ->
 sp (.ref x::(vs++dvs)) (upd (upd H1 dx (.own x)) x (.ins C dx [])) (λv H2=>v=.bo/\Q (.ref x) H2) E
def Binds(K:aI)(fd:FuncData)(ps:List Str)(ds:List Value):Prop:=
 ∀(s:Shared) (us:List Value),K.In s.heap->(us++ds).length=ps.length->BindsTo s fd ⟨us,[]⟩ (ps.zip (us++ds))
theorem Binds.all{K:aI}{fd:FuncData}{ps:List Str}(h:∀us:List Value,us.length=ps.length->bindArgs fd ⟨us,[]⟩=pure (ps.zip us)):Binds K fd ps []:=λs us _ hl=>by
 rw [sC] at hl ⊢
 exact .of_eq (h us hl)
def BX(CX:qx)(X:Cx)(E:XK):Prop:=∀(pins:List (Addr×Obj)) (σ:St) (H:Hp) (s:Shared) (e:Value) (s':Shared),Inv X pins σ H s->CX X.stack H s E e s'->X.xe e s'
section
variable {X:Cx}{CX:qx}{k:Nat}{f C:Addr}{fd:FuncData}{ps:List Str}{sp:Sp}{dvs:List V}{ds:List Value}{E:XK}{x m:Str}{p pos apos:Pos}{e o:Expr}{es:List Expr}{ta:TE}{t:TA}
theorem JA{pins:List (Addr×Obj)}{σ:St}{H:Hp}{s:Shared}{Q:VK}{us:List Value}{vs:List V}(F:bY X.prog X.w X.K X.mg X.base CX k f fd ps sp)(hr:bS k X.A)(hb:Binds X.K fd ps ds)(hd:aB dvs ds)(hx:BX CX X E)
  (I:Inv X pins σ H s)(r:aB vs us)(h:sp (vs++dvs) H Q E):wpAny (model X.prog X.w) X.A (call (.ref f) us) (EP X pins σ Q) X.xe s:=by
 have r2:aB (vs++dvs) (us++ds):=r.append hd
 have hl:(us++ds).length=ps.length:=by rw [<-r2.length];exact F.len _ _ _ _ h
 refine wpAny_call (u4 (F.run X.A X.stack s H ⟨us,[]⟩ (us++ds) (vs++dvs) Q E hr I.jL (hb s us I.jJ hl) r2 h) λr s' hq=>?_)
 cases r with
 | error e=>exact hx pins σ H s e s' I hq
 | ok fl =>
  cases fl with
  | ret u=>exact I.after hq
  | next=>exact l' hq
  | brk=>exact l' hq
  | cont=>exact l' hq
theorem VM(F:bY X.prog X.w X.K X.mg X.base CX k f fd ps sp)(hr:bS k X.A)(hg:Gl X x)(hm:X.mg x=some (.ref f))(hk:pS X.K (.ref f)=true)(hb:Binds X.K fd ps ds)(hd:aB dvs ds)(hx:BX CX X E)
  (ha:PA X (e::es) t)(lT:(x==("__debug__":Str))=false:=by decide)(he:starEach (e::es) X.env=(false,eval e X.env)::starEach es X.env:=by rfl)(dY:(backTo pos (starEach es X.env)).any (·.1)=false:=by rfl):
  PE X (.Call (.Name x p) (e::es) [] pos) (NC sp dvs E t):=by
 intro pins s σ H Q I h
 refine DH (JM I hg hm ?_ lT)
 refine Jc (h₀:=X.base) I.ok.mod.Ae hk (bw (ha pos pins s σ H _ I h) λus s1 ⟨vs,H1,I1,r,q⟩=>⟨I1.jJ,?_⟩) he dY
 exact JA F hr hb hd hx I1 r q
structure Mk(K:aI)(C f:Addr):Prop where
 makes:uZ K C=true
 init:bh K (.ref C) "__init__" = some (some (.ref f))
 fn:my K (.ref f)=true
 kp:pS K (.ref C)=true
theorem Xt{pins:List (Addr×Obj)}{σ:St}{H:Hp}{s:Shared}{Q:VK}{us:List Value}{vs:List V}(M:Mk X.K C f)(F:bY X.prog X.w X.K X.mg X.base CX k f fd ps sp)(hr:bS (k+1) X.A)(hb:Binds X.K fd ps ds)(hd:aB dvs ds)
  (hx:BX CX X E)(I:Inv X pins σ H s)(r:aB vs us)
  (h:∀x dx,H x=none->H dx=none->dx≠x->sp (.ref x::(vs++dvs)) (upd (upd H dx (.own x)) x (.ins C dx [])) (λv H2=>v=.bo/\Q (.ref x) H2) E):
  wpAny (model X.prog X.w) X.A (call (.ref C) us) (EP X pins σ Q) X.xe s:=by
 have hq:=h (s.heap.objs.size+1) s.heap.objs.size (I.bq.fresh (uW _)) (I.bq.fresh (bX _)) (dr (nZ _))
 have I2:=Inv.made (C:=C) I
 have r2:aB (V.ref (s.heap.objs.size+1)::(vs++dvs)) (cI (s.heap.objs.size+1)::(us++ds)):=.cons rfl (r.append hd)
 have hl:(cI (s.heap.objs.size+1)::us++ds).length=ps.length:=by
  have e:=r2.length
  rw [F.len _ _ _ _ hq] at e
  exact e.symm
 refine wpAny_call (WO (f:=f) I.jJ M.makes M.init (beq_iff_eq.mp M.fn) (u4 (F.run _ X.stack _ _ ⟨cI (s.heap.objs.size+1)::us,[]⟩ (cI (s.heap.objs.size+1)::(us++ds)) _ _ E (hr.make C us [])
  (I2.jL.make C us []) (hb _ (cI (s.heap.objs.size+1)::us) I2.jJ hl) r2 hq) λr s' c6=>?_))
 cases r with
 | error e=>exact hx pins σ _ _ e s' I2 c6
 | ok fl =>
  cases fl with
  | ret u =>
   obtain ⟨v,H',I3,rv,ev,q3⟩:=I2.after c6
   subst ev
   exact ⟨rv,⟨V.ref (s.heap.objs.size+1),H',I3,rfl,q3⟩⟩
  | next=>exact l' c6
  | brk=>exact l' c6
  | cont=>exact l' c6
theorem Oy(M:Mk X.K C f)(F:bY X.prog X.w X.K X.mg X.base CX k f fd ps sp)(hr:bS (k+1) X.A)(hg:Gl X x)(hm:X.mg x=some (.ref C))(hb:Binds X.K fd ps ds)(hd:aB dvs ds)(hx:BX CX X E)
  (ha:PA X (e::es) t)(lT:(x==("__debug__":Str))=false:=by decide)(he:starEach (e::es) X.env=(false,eval e X.env)::starEach es X.env:=by rfl)(dY:(backTo pos (starEach es X.env)).any (·.1)=false:=by rfl):
  PE X (.Call (.Name x p) (e::es) [] pos) (y4 C sp dvs E t):=by
 intro pins s σ H Q I h
 refine DH (JM I hg hm ?_ lT)
 refine Jc (h₀:=X.base) I.ok.mod.Ae M.kp (bw (ha pos pins s σ H _ I h) λus s1 ⟨vs,H1,I1,r,q⟩=>⟨I1.jJ,?_⟩) he dY
 exact Xt M F hr hb hd hx I1 r q
end
section
variable {X:Cx}{CX:qx}{k:Nat}{f C:Addr}{fd:FuncData}{ps ks:List Str}{sp:Sp}{E:XK}{x m:Str}{p pos apos RY:Pos}{e o:Expr}{es:List Expr}{kws:List Keyword}{te ta:TE}{t tk:TA}{nm:Option Str}
structure LF(K:aI)(fd:FuncData)(ps ks:List Str)(g:List Value->List Value->List Value)(gV:List V->List V->List V):Prop where
 to:∀(s:Shared) (us ws:List Value),K.In s.heap->(g us ws).length=ps.length->BindsTo s fd ⟨us,ks.zip ws⟩ (ps.zip (g us ws))
 rel:∀{vs:List V} {us:List Value} {zs:List V} {ws:List Value},aB vs us->aB zs ws->aB (gV vs zs) (g us ws)
variable {g:List Value->List Value->List Value}{gV:List V->List V->List V}
end
structure cc(N P:List Str)(sc:Scope):Prop where
 kind:sc.kind=.function
 co:sc.isCoroutine=false
 gen:sc.isGenerator=false
 nd:N.Nodup
 pre:N.take P.length=P
 par:∀x∈P,sc.names.lookup x=some .local\/sc.names.lookup x=some .cell
 vO:∀y∈sc.names,y.2≠.free
theorem Pz{kindOf:Str->Option NameKind}{x:Str}:∀{binds:List (Str×Value)} {m:Str->Option Value},(∀v,(x,v)∉binds)->bindL kindOf binds m x=m x
 | [],_,_=>rfl
 | (n,v)::r,m,h=>by
  unfold bindL
  rw [Pz λw hw=>h w (jo _ hw)]
  split
  .have:x≠n:=by rintro rfl;exact h v kU
   simp [this]
  .rfl
theorem Px{kindOf:Str->Option NameKind}{x:Str}:∀{binds:List (Str×Value)} {m:Str->Option Value},(∀v,(x,v)∉binds)->bindC kindOf binds m x=m x
 | [],_,_=>rfl
 | (n,v)::r,m,h=>by
  unfold bindC
  rw [Px λw hw=>h w (jo _ hw)]
  split
  .rfl
  .have:x≠n:=by rintro rfl;exact h v kU
   simp [this]
theorem Py{kindOf:Str->Option NameKind}{x:Str}{v:Value}:∀{P:List Str} {vs:List Value} {i:Nat} {m:Str->Option Value},P.Nodup->P[i]?=some x->vs[i]?=some v->kindOf x=some .local ->
  bindL kindOf (P.zip vs) m x=some v
 | [],_,_,_,_,h,_,_=>by simp at h
 | _::_,[],_,_,_,_,h,_=>by simp at h
 | p::P,w::vs,0,m,nd,h1,h2,hk=>by
  simp at h1 h2;subst h1;subst h2
  show bindL kindOf ((p,w)::P.zip vs) m p=_
  unfold bindL
  rw [Pz λv hv=>(Bj.mp nd).1 (DO hv).1,if_pos hk]
  simp
 | p::P,w::vs,i+1,m,nd,h1,h2,hk=>by
  show bindL kindOf ((p,w)::P.zip vs) m x=_
  unfold bindL
  exact Py (i:=i) (Bj.mp nd).2 (by simpa using h1) (by simpa using h2) hk
theorem Pw{kindOf:Str->Option NameKind}{x:Str}{v:Value}:∀{P:List Str} {vs:List Value} {i:Nat} {m:Str->Option Value},P.Nodup->P[i]?=some x->vs[i]?=some v->kindOf x≠some .local ->
  bindC kindOf (P.zip vs) m x=some v
 | [],_,_,_,_,h,_,_=>by simp at h
 | _::_,[],_,_,_,_,h,_=>by simp at h
 | p::P,w::vs,0,m,nd,h1,h2,hk=>by
  simp at h1 h2;subst h1;subst h2
  show bindC kindOf ((p,w)::P.zip vs) m p=_
  unfold bindC
  rw [Px λv hv=>(Bj.mp nd).1 (DO hv).1,if_neg hk]
  simp
 | p::P,w::vs,i+1,m,nd,h1,h2,hk=>by
  show bindC kindOf ((p,w)::P.zip vs) m x=_
  unfold bindC
  exact Pw (i:=i) (Bj.mp nd).2 (by simpa using h1) (by simpa using h2) hk
def start(N:List Str)(vs:List V):St:=vs.map some++mC (N.length-vs.length) none
def nh(CX:qx)(P:Program)(w:World)(K:aI)(mg:Str->Option Value)(base:Heap)(N:List Str)(qual:Str)(scope:Scope)(f:Addr)(cd:Value)(A:Around)(outer:List Env)(s:Shared)(H:Hp)(E:XK):Cx where
 prog:=P
 w:=w
 K:=K
 mg:=mg
 base:=base
 A:=A.deeper (envOfC qual scope s.heap.objs.size f cd)
 N:=N
 cR:=s
 r9:=H
 env:=envOfC qual scope s.heap.objs.size f cd
 outer:=outer
 stack:=envOfC qual scope s.heap.objs.size f cd::outer
 ex:=[]
 calm:=true
 fn:=λ_=>true
 pn:=[]
 xe:=λe s'=>wpAny (model P w) (A.deeper (envOfC qual scope s.heap.objs.size f cd)) (leaving (envOfC qual scope s.heap.objs.size f cd) e) (λ_ zp=>CX outer H s E e zp) (λe' zp=>CX outer H s E e' zp) s'
theorem OT{sc:Scope}{n:Nat}{x:Str}(h:sc.names.lookup x=some .cell):∃c,(cellsFrom n sc.names []).lookup x=some c:=by
 have q:=M9 sc.names n [] (.inl h)
 exact IP.mp q
theorem Ya{CX:qx}{P:Program}{w:World}{K:aI}{mg:Str->Option Value}{base:Heap}{N ps:List Str}{qual:Str}{scope:Scope}{f:Addr}{cd:Value}{A:Around}{outer:List Env}{s s1:Shared}{H:Hp}{E:XK}{us:List Value}{vs:List V}
  (S:cc N ps scope)(hd:A.handled=none)(e0:mq P w K mg base A outer s H)(hl:vs.length=ps.length)(r:aB vs us)
  (x:InCallC s s.heap.objs.size (bindL (envOfC qual scope s.heap.objs.size f cd).kindOf (ps.zip us) λ_=>none) (cellsFrom (s.heap.objs.size+1) scope.names []) (bindC (envOfC qual scope s.heap.objs.size f cd).kindOf (ps.zip us) λ_=>none) s1):
  Inv (nh CX P w K mg base N qual scope f cd A outer s H E) [] (start N vs) H s1:=by
 have dY:ps.length<=N.length:=by have:=congrArg xO S.pre;rw [mz] at this;ext this
 obtain ⟨h1,tk,rfl,hk⟩:=x.done
 have GA:∀b:Addr,b∉(nh CX P w K mg base N qual scope f cd A outer s H E).ex:=λb z=>absurd (show b∈([]:List Addr) from z) (by simp)
 refine ⟨⟨e0.mod,S.kind,rfl,rfl,bX _,λy z c h1 h2=>?_,λy hy=>?_,λy c _ h=>?_,λ_=>hd,Around.frames_deeper e0.frames,.inr ⟨rfl,rfl⟩,λb z=>absurd z (GA b),e0.bs,e0.rL,λb _ _=>GA b,λb z=>absurd z (GA b),e0.iY,e0.uU⟩,
  rfl,e0.bare,Un.kept hk,⟨_,x.toInCall.ns,λi y v h1 h2 h3=>?_⟩,λy c h=>⟨_,x.cell y c h⟩,e0.bq.fresh (bX _),λy c h=>?_,λp hp=>absurd (show p∈([]:List (Addr×Obj)) from hp) (by simp),e0.bq.kept hk,?_⟩
 .exact name_of_addr x.apart (xT h1) (xT h2)
 .have hy:scope.names.lookup y=some .cell\/scope.names.lookup y=some .free:=hy
  rcases hy with hy | hy
  .exact OT hy
  .exact absurd rfl (S.vO _ (xT hy))
 .exact u5 (x.above y c (xT h))
 .have hi:i<vs.length:=by
   unfold start at h2
   by_cases hi:i<vs.length
   .exact hi
   .rw [t9 (by simpa using hi)] at h2
    rw [yd] at h2
    split at h2<;>cases h2
  have ha:vs[i]?=some v:=by
   unfold start at h2
   rw [wY (by simpa using hi),qh] at h2
   cases e:vs[i]? with
   | none=>rw [e] at h2;cases h2
   | some a=>rw [e] at h2;cases h2;rfl
  obtain ⟨u,hu,rv⟩:=r.get ha
  have hp:ps[i]?=some y:=by
   rw [<-S.pre,List.getElem?_take_of_lt (by ext hl hi)];exact h1
  have L3:ps.Nodup:=by rw [<-S.pre];exact S.nd.sublist (Ik _ _)
  refine ⟨u,rv,?_⟩
  rcases S.par y (IW hp) with k | k
  .exact .inl ⟨k,Py L3 hp hu k⟩
  .obtain ⟨c,e⟩:=OT (n:=s.heap.objs.size+1) k
   refine .inr ⟨.inl k,c,e,?_⟩
   have q:=x.cell y c e
   rw [Pw L3 hp hu (by show scope.names.lookup y≠_;rw [k];decide)] at q
   exact q
 .exact e0.bq.fresh (u5 (x.above y c (xT h)))
 .unfold start
  show _=N.length
  rw [dz,dF,D2]
  ext hl dY
theorem AU{CX:qx}{P:Program}{w:World}{K:aI}{mg:Str->Option Value}{base:Heap}{k:Nat}{f:Addr}{name qual:Str}{params:Arguments}{body:List Stmt}{scope:Scope}{dV kV doc pm cX ct oc:Value}{an od:Option Addr}
  {uH:Array (Option Value)}{N ps:List Str}{sp:Sp}(lk:K.lookup f=some ⟨oc,od,.func (md name qual params body scope dV kV doc pm an cX ct),uH⟩)(cu:Bn K cX qual=true)(S:cc N ps scope)
  (len:∀vs H Q E,sp vs H Q E->vs.length=ps.length)
  (b7:∀(A:Around) (outer:List Env) (s:Shared) (H:Hp) (vs:List V) (Q:VK) (E:XK),bS k (A.deeper (envOfC qual scope s.heap.objs.size f cX))->sp vs H Q E ->
   ∃t,oG (nh CX P w K mg base N qual scope f cX A outer s H E) body t/\t { nx:=λ_ H'=>Q .bo H',rt:=Q } (start N vs) H):
  bY P w K mg base CX (k+1) f (md name qual params body scope dV kV doc pm an cX ct) ps sp:=by
 refine ⟨len,λA outer s H args us vs Q E hr e0 hb r uM=>?_⟩
 have hl:=len _ _ _ _ uM
 have KX:K.In s.heap:=e0.mod.Ae.keeps λb o e=>(e0.bs b o e).1
 have lim:s.heap.NoLimit:=e0.mod.nolimit.keeps λb o e=>(e0.bs b o e).1
 have Ax:∀y∈ps.zip us,scope.names.lookup y.1=some .local\/(scope.names.lookup y.1=some .cell/\((cellsFrom (s.heap.objs.size+1) scope.names []).lookup y.1).isSome=true):=λ⟨n,v⟩ hy=>by
  rcases S.par n (DO hy).1 with q | q
  .exact .inl q
  .exact .inr ⟨q,M9 _ _ _ (.inl q)⟩
 refine codeAny_call_function hr.depth (KX _ _ lk) rfl S.co S.gen rfl (PySem.W.codeRec_of KX cu) (hb _ _ _ _ ?_)
 refine wpAny_newFunctionEnv_cells S.kind Ax λenv he s1 x=>?_
 subst he
 refine ⟨lim.keeps x.toInCall.keep,codeAny_func ?_⟩
 obtain ⟨t,ht,hq⟩:=b7 A outer s H vs Q E (hr.deeper _) uM
 have I:Inv (nh CX P w K mg base N qual scope f cX A outer s H E) [] (start N vs) H s1:=Ya S hr.hd e0 hl r x
 refine nG (ht [] s1 (start N vs) H _ I hq) (λfl s' hs=>?_) λe s' hs=>hs
 have fin:∀{aX:St} {H':Hp} {v:V} {u:Value},Inv (nh CX P w K mg base N qual scope f cX A outer s H E) [] aX H' s'->RelV v u->Q v H'->CE outer P w H s Q u s':=
  λ{aX H' v u} J rv q=>⟨v,H',J.os,J.bare,J.base,J.bq,rv,q⟩
 cases fl with
 | ret u =>
  obtain ⟨v,aX,H',J,rv,q⟩:=hs
  exact fin J rv q
 | next =>
  obtain ⟨aX,H',J,q⟩:=hs
  exact fin (v:=V.bo) (u:=ma) J rfl q
 | brk =>
  obtain ⟨_,_,_,q⟩:=hs
  exact l' q
 | cont =>
  obtain ⟨_,_,_,q⟩:=hs
  exact l' q
end L2
namespace L2
open PySem PySem.Spec PyProof.Rows
section
variable {X:Cx}{x:Str}{p pos:Pos}{e:Expr}{es:List Expr}{t:TA}{id T:String}{r:List V->Hp->VK->Prop}
def LK(r:List V->Hp->VK->Prop)(t:TA):TE:=λσ H Q=>t σ H λvs H1=>r vs H1 Q
theorem xk(hc:cm X (.builtin id) r)(hg:Gl X x)(hm:X.mg x=none)(hv:bootBuiltins x=some (.builtin id))(ha:PA X (e::es) t)(hn:x ≠ "__name__":=by decide)(lT:(x==("__debug__":Str))=false:=by decide)
  (he:starEach (e::es) X.env=(false,eval e X.env)::starEach es X.env:=by rfl)(dY:(backTo pos (starEach es X.env)).any (·.1)=false:=by rfl):PE X (.Call (.Name x p) (e::es) [] pos) (LK r t):=by
 intro pins s σ H Q I h
 refine DH (BQ I hg hm hv ?_ hn lT)
 exact PyProof.Rows.callWith_builtin1 (bw (ha pos pins s σ H _ I h) λus s1 ⟨vs,H1,I1,r1,q1⟩=>hc pins s1 σ H1 vs us Q I1 r1 q1) he dY
theorem yx(hc:cm X (.type T) r)(hg:Gl X x)(hm:X.mg x=none)(hv:bootBuiltins x=some (.type T))(ha:PA X (e::es) t)(hn:x ≠ "__name__":=by decide)(lT:(x==("__debug__":Str))=false:=by decide)
  (he:starEach (e::es) X.env=(false,eval e X.env)::starEach es X.env:=by rfl)(dY:(backTo pos (starEach es X.env)).any (·.1)=false:=by rfl):PE X (.Call (.Name x p) (e::es) [] pos) (LK r t):=by
 intro pins s σ H Q I h
 refine DH (BQ I hg hm hv ?_ hn lT)
 exact Je (bw (ha pos pins s σ H _ I h) λus s1 ⟨vs,H1,I1,r1,q1⟩=>hc pins s1 σ H1 vs us Q I1 r1 q1) he dY
end
end L2
namespace HT
open PySem PyProof.Rows
section
open PySem.SeqAt
open PySem.AutoSeq1 (wpAny_loadPart')
open PySem.MeetsSeq PySem.MeetsSeq2 PySem.MeetsSeq3
end
section
variable {prog:Program}{w:World}{A:Around}{E:Value->Shared->Prop}{s:Shared}
theorem tU(ht:IsTup s.heap t vs.toArray)(hb:IsTup s.heap b ws.toArray)(hv:vs≠[])
  (h1:ws=[]->Q (.ref t) s)(h2:ws≠[]->Q (.ref s.heap.objs.size) { s with heap:=s.heap.push { cls:=.type "tuple",data:=.seq (vs++ws).toArray } })
  (hsz:vs.length+ws.length<=sizeLine):wpAny (model prog w) A (binaryOp .Add (.ref t) (.ref b)) Q E s:=by
 obtain ⟨⟨cls,dd,data,sl⟩,ho,hc,n,hd⟩:=id ht
 obtain ⟨⟨HI,Dq,data2,zg⟩,v7,AG,n2,hd2⟩:=id hb
 simp only at hc hd AG hd2
 subst hc hd AG hd2
 have e:vs.toArray++ws.toArray=(vs++ws).toArray:=by simp
 by_cases hw:ws=[]
 .exact concat_meets ⟨_,ho,rfl⟩ ⟨_,v7,rfl⟩ IB HU IE IJ (IM _ _)
   (tuple_addW1 t b vs.toArray ws.toArray n n2 dd Dq sl zg (by simpa using hv) (by simp [hw])) ⟨ho,v7,h1 hw⟩
 .refine concat_meets ⟨_,ho,rfl⟩ ⟨_,v7,rfl⟩ IB HU IE IJ (IM _ _)
   (tuple_addW2 t b vs.toArray ws.toArray n n2 dd Dq sl zg (by simpa using hv) (by simpa using hw) (by rw [dG,dG];exact hsz)) ⟨ho,v7,?_⟩
  rw [e]
  exact h2 hw
def bZ(n d:Nat):Option Int->Nat
 | none=>d
 | some v=>if v<0 then (v+(n:Int)).toNat else min v.toNat n
theorem qZ(n d:Nat):bZ n d none=d:=rfl
theorem sY(n d k:Nat):bZ n d (some (k:Int))=min k n:=by
 show (if (k:Int)<0 then ((k:Int)+(n:Int)).toNat else min (k:Int).toNat n)=min k n
 rw [if_neg (by ext),xQ]
theorem UQ(n d:Nat)(hd:d<=n)(o:Option Int):bZ n d o<=n:=by
 cases o with
 | none=>exact hd
 | some v =>
  show (if v<0 then (v+(n:Int)).toNat else min v.toNat n)<=n
  by_cases hv:v<0
  .rw [if_pos hv];ext hv
  .rw [if_neg hv];exact Nat.min_le_right _ _
theorem Ou(v:Int)(n d:Nat):(if v<0 then max (v+(n:Int)) 0 else min v (n:Int))=((bZ n d (some v):Nat):Int):=by
 show (if v<0 then max (v+(n:Int)) 0 else min v (n:Int))=(((if v<0 then (v+(n:Int)).toNat else min v.toNat n):Nat):Int)
 by_cases hv:v<0
 .simp only [if_pos hv];ext
 .simp only [if_neg hv];ext hv
theorem YE(lo hi:Option Int)(n:Nat):IQ lo hi 1 (n:Int)=(((bZ n 0 lo:Nat):Int),((bZ n n hi:Nat):Int)):=by
 have h1:¬((1:Int)<0):=by decide
 unfold IQ
 simp only [h1,if_false]
 refine Prod.ext ?_ ?_
 .cases lo with
  | none=>rfl
  | some v=>exact Ou v n 0
 .cases hi with
  | none=>rfl
  | some v=>exact Ou v n n
theorem YA(i j:Nat):DY (i:Int) (j:Int) 1=j-i:=by
 unfold DY
 have h1:(1:Int)>0:=by decide
 simp only [h1,if_true,Int.ediv_one]
 split<;>lia
theorem PK(p:IsPart v o)(h:Q o s):wpAny (model prog w) A (Builtin.Slice.slicePartIndex v) Q E s:=by
 cases p with
 | none=>exact slicePart_none h
 | int i t=>exact slicePart_int h
theorem ZL{lo hi:Option Int}{n:Nat}(hs:s.heap.IsSliceOf sl vl vu .none)(pl:IsPart vl lo)(pu:IsPart vu hi)
  (h:Q (((bZ n 0 lo:Nat):Int),1,bZ n n hi-bZ n 0 lo) s):wpAny (model prog w) A (Nn (.ref sl) (pure (n:Int))) Q E s:=by
 obtain ⟨os,v3,Mo,Di⟩:=id hs
 unfold Nn Builtin.Slice.sliceFields
 refine aM (aM (wpAny_field v3 Di (x:=vl) rfl (aM (wpAny_field v3 Di (x:=vu) rfl (aM (wpAny_field v3 Di (x:=.none) rfl (bE ?_)))))))
 refine aM (slicePart_none ?_)
 show wpAny _ _ (if ((1:Int)==0)=true then _ else _) _ _ s
 rw [if_neg (by decide)]
 refine aM (PK pl (aM (PK pu (aM (bE ?_)))))
 show wpAny _ _ (match IQ lo hi 1 (n:Int) with | (lo,hi)=>pure (lo,(1:Int),DY lo hi 1)) _ _ s
 rw [YE lo hi n]
 show wpAny _ _ (pure (((bZ n 0 lo:Nat):Int),(1:Int),DY ((bZ n 0 lo:Nat):Int) ((bZ n n hi:Nat):Int) 1)) _ _ s
 rw [YA]
 exact bE h
theorem Xk(xs:Array Value)(i k:Nat):((o7 k).filterMap λ(m:Nat)=>xs[((i:Int)+(m:Int)*1).toNat]?).toArray=((xs.toList.drop i).take k).toArray:=by
 have e:(λ(m:Nat)=>xs[((i:Int)+(m:Int)*1).toNat]?)=λm=>xs[i+m]?:=by
  funext m
  have:((i:Int)+(m:Int)*1).toNat=i+m:=by ext
  rw [this]
 rw [e]
 have:=pick_run xs i k
 rw [List.filterMap_map] at this
 have e2:((λx=>xs[x]?)∘λx=>i+x)=λm=>xs[i+m]?:=rfl
 rw [e2] at this
 rw [this]
theorem gR{items:Array Value}{lo hi:Option Int}(ht:IsTup s.heap t items)(hs:s.heap.IsSliceOf sl vl vu .none)(pl:IsPart vl lo)(pu:IsPart vu hi)
  (hw:¬(bZ items.size 0 lo=0/\bZ items.size items.size hi=items.size))
  (h:Q (.ref s.heap.objs.size) { s with heap:=s.heap.push { cls:=.type "tuple",data:=.seq ((items.toList.drop (bZ items.size 0 lo)).take (bZ items.size items.size hi-bZ items.size 0 lo)).toArray } })
  (hsz:items.size<=sizeLine):wpAny (model prog w) A (getItem (.ref t) (.ref sl)) Q E s:=by
 have pL:sizeOk (.seq ((items.toList.drop (bZ items.size 0 lo)).take (bZ items.size items.size hi-bZ items.size 0 lo)).toArray):=by
  show ((items.toList.drop (bZ items.size 0 lo)).take (bZ items.size items.size hi-bZ items.size 0 lo)).toArray.size<=sizeLine
  rw [dG,mz,rP,gh]
  ext hsz
 have hj:bZ items.size items.size hi<=items.size:=UQ _ _ (bX _) hi
 obtain ⟨os,v3,Mo,Di⟩:=id hs
 have AI:s.TypeIs (.ref sl) "slice":=⟨os,v3,Mo⟩
 unfold getItem
 try with_reducible refine sG ?_
 first | refine aM (bE ?_) | skip
 refine aM (wpAny_sequenceKey ht.typeIs (by decide) ?_)
 refine aM (D5 (name:=DE "__getitem__") ht.typeIs D7
  (wM D7 ht.typeIs entry_tuple_getitem ?_ (args_tuple_getitem _ _)))
 show wpAny _ _ (Builtin.Tuple.tupleItemsOf (.ref t) >>= _) _ _ s
 refine aM (tupleItemsOf_ ht ?_)
 refine aM (wpAny_typeOf AI ?_)
 rw [if_pos (by decide)]
 refine aM (ZL hs pl pu ?_)
 have qB:¬((((bZ items.size 0 lo:Nat):Int)==0&&(1:Int)==1&&(bZ items.size items.size hi-bZ items.size 0 lo)==items.size)=true):=by
  intro q
  rw [sF,sF] at q
  have q1:((bZ items.size 0 lo:Nat):Int)=0:=eq_of_beq q.1.1
  have q2:bZ items.size items.size hi-bZ items.size 0 lo=items.size:=eq_of_beq q.2
  exact hw ⟨by ext q1,by ext q1 q2⟩
 show wpAny _ _ (if (((bZ items.size 0 lo:Nat):Int)==0&&(1:Int)==1&&(bZ items.size items.size hi-bZ items.size 0 lo)==items.size)=true then _ else _) _ _ s
 rw [if_neg qB,Xk]
 first
  | exact aM (m:=DW _) (sx (bE ⟨_,rfl,bE h⟩) pL)
  | exact aM (m:=DW _) (sx (aM (bE (bE ⟨_,rfl,bE h⟩))) pL)
  | exact aM (aM (m:=DW _) (sx (bE (bE ⟨_,rfl,bE h⟩)) pL))
  | exact aM (aM (m:=DW _) (sx (bE ⟨_,rfl,bE h⟩) pL))
end
end HT
namespace L2
open PySem PySem.Spec PyProof.Rows
abbrev TO:=St->Hp->(Option Int->Hp->Prop)->Prop
def PO(X:Cx)(e:Option Expr)(t:TO):Prop:=
 ∀(pins:List (Addr×Obj)) (s:Shared) (σ:St) (H:Hp) (Q:Option Int->Hp->Prop),Inv X pins σ H s->t σ H Q ->
  wpAny (model X.prog X.w) X.A (evalPart e X.env) (λu s'=>∃o H',Inv X pins σ H' s'/\IsPart u o/\Q o H') X.xe s
def WB:TO:=λ_ H Q=>Q none H
def yX(t:TE):TO:=λσ H Q=>t σ H λx H1=>∃i,x=.int i/\Q (some i) H1
section
variable {X:Cx}{e:Expr}{te:TE}{lo hi:Option Expr}{tl th:TO}{pos p2:Pos}
theorem VR:PO X none WB:=by
 intro pins s σ H Q I h
 rw [evalPart_none]
 exact bE ⟨none,H,I,.none,h⟩
theorem VS(h:PE X e te):PO X (some e) (yX te):=by
 intro pins s σ H Q I hw
 rw [evalPart_some]
 refine bw (h pins s σ H _ I hw) λu s1 ⟨x,H1,I1,r1,q1⟩=>?_
 obtain ⟨i,rfl,q⟩:=q1
 obtain ⟨t,rfl⟩:=r1
 exact ⟨some i,H1,I1,.int i t,q⟩
def xo(X:Cx)(r:V->Option Int->Option Int->Hp->VK->Prop):Prop:=
 ∀(pins:List (Addr×Obj)) (s:Shared) (σ:St) (H:Hp) (x:V) (v vl vu:Value) (lo hi:Option Int) (sl:Addr) (Q:VK),Inv X pins σ H s->RelV x v->s.heap.IsSliceOf sl vl vu .none->IsPart vl lo->IsPart vu hi->r x lo hi H Q ->
  ∃T id,typeLookup (.type T) "__getitem__" = pure (some (.builtin id))/\s.TypeIs v T/\wpAny (model X.prog X.w) X.A (getItem v (.ref sl)) (EP X pins σ Q) X.xe s
theorem xo.or(h:xo X r)(h':xo X r'):xo X (λx lo hi H Q=>r x lo hi H Q\/r' x lo hi H Q):=by
 intro pins s σ H x v vl vu lo hi sl Q I rx hs pl pu q
 rcases q with q | q
 .exact h pins s σ H x v vl vu lo hi sl Q I rx hs pl pu q
 .exact h' pins s σ H x v vl vu lo hi sl Q I rx hs pl pu q
def QR(r:V->Option Int->Option Int->Hp->VK->Prop)(te:TE)(tl th:TO):TE:=λσ H Q=>te σ H λx H1=>tl σ H1 λl H2=>th σ H2 λu H3=>r x l u H3 Q
theorem XM(hr:xo X r)(he:PE X e te)(hl:PO X lo tl)(hu:PO X hi th):PE X (.Subscript e (.Slice lo hi none p2) pos) (QR r te tl th):=by
 intro pins s σ H Q I h
 refine Subscript_ (bw (he pins s σ H _ I h) λv s1 ⟨x,H1,I1,r1,q1⟩=>?_)
 refine wpAny_Slice (bw (hl pins s1 σ H1 _ I1 q1) λvl s2 ⟨l,H2,I2,pl,q2⟩=>bw (hu pins s2 σ H2 _ I2 q2) λvu s3 ⟨u,H3,I3,pu,q3⟩=>?_)
 rw [evalPart_none]
 refine bE ?_
 have I4:Inv X pins σ H3 { s3 with heap:=s3.heap.push { cls:=.type "slice",data:=.fields #[vl,vu,.none] } }:=I3.kept (t':=s3.toks) λb ob q=>c8 _ q
 obtain ⟨T,id,hT,ht,hg⟩:=hr pins { s3 with heap:=s3.heap.push { cls:=.type "slice",data:=.fields #[vl,vu,.none] } } σ H3 x v vl vu l u s3.heap.objs.size Q I4 r1 (Heap.IsSliceOf.new ..) pl pu q3
 show wpAny (model X.prog X.w) X.A (subscriptTail e (.Slice lo hi none p2) v (.ref s3.heap.objs.size)) (EP X pins σ Q) X.xe { s3 with heap:=s3.heap.push { cls:=.type "slice",data:=.fields #[vl,vu,.none] } }
 exact tail_any (ops:=[.ref s3.heap.objs.size,v]) ht hT hg (by with_unfolding_all rfl)
def nS(xs:List V)(lo hi:Option Int):List V:=(xs.drop (HT.bZ xs.length 0 lo)).take (HT.bZ xs.length xs.length hi-HT.bZ xs.length 0 lo)
theorem Qc(xs:List V)(lo hi:Option Int):(nS xs lo hi).length<=xs.length:=by
 unfold nS
 rw [mz,rP]
 ext
def Gk(K:aI):V->Option Int->Option Int->Hp->VK->Prop:=λx lo hi H Q=>∃a xs,x=.ref a/\gc K H a xs /\
 ¬(HT.bZ xs.length 0 lo=0/\HT.bZ xs.length xs.length hi=xs.length)/\∀p,H p=none->Q (.ref p) (upd H p (.tup (nS xs lo hi)))
theorem US:xo X (Gk X.K):=by
 intro pins s σ H x v vl vu lo hi sl Q I rx hs pl pu h
 obtain ⟨a,xs,rfl,hx,hw,q⟩:=h
 cases rx
 obtain ⟨av,r,ht,hz⟩:=I.tuple hx
 have hlen:av.toArray.size=xs.length:=by rw [dG];exact r.length.symm
 refine ⟨"tuple",_,D7.lookup,ht.typeIs,?_⟩
 refine HT.gR ht hs pl pu (by rw [hlen];exact hw) ?_ (by rw [hlen];exact hz)
 rw [hlen]
 refine ⟨.ref s.heap.objs.size,_,I.laid (t':=s.toks) (o:=.tup (nS xs lo hi)) (λb ob q=>c8 _ q) (bX _) ?_,rfl,q _ (I.bq.fresh (bX _))⟩
 exact ⟨jZ (Qc xs lo hi) hz,_,(r.drop (HT.bZ xs.length 0 lo)).take (HT.bZ xs.length xs.length hi-HT.bZ xs.length 0 lo),IsTup.new _ _⟩
def zD(K:aI):R2:=λx y H Q=>∃a b xs ys,x=.ref a/\y=.ref b/\gc K H a xs/\gc K H b ys/\xs≠[]/\xs.length+ys.length<=sizeLine /\
 (ys=[]->Q (.ref a) H)/\(ys≠[]->∀p,H p=none->Q (.ref p) (upd H p (.tup (xs++ys))))
theorem aB.dX(r:aB xs us):us=[]↔xs=[]:=by
 cases r with
 | nil=>simp
 | cons _ _=>simp
theorem tf:jr X (binaryOp .Add) (zD X.K):=by
 intro pins s σ H x y v u Q I rx ry h
 obtain ⟨a,b,xs,ys,rfl,rfl,ha,hb,hx,hz,q1,q2⟩:=h
 cases rx
 cases ry
 obtain ⟨av,r1,p1,_⟩:=I.tuple ha
 obtain ⟨cZ,r2,p2,_⟩:=I.tuple hb
 refine HT.tU p1 p2 (λz=>hx (r1.dX.mp z)) (λz=>⟨.ref a,H,I,rfl,q1 (r2.dX.mp z)⟩) (λz=>?_) (by rw [<-r1.length,<-r2.length];exact hz)
 refine ⟨.ref s.heap.objs.size,_,I.laid (t':=s.toks) (o:=.tup (xs++ys)) (λb ob q=>c8 _ q) (bX _) ?_,rfl,q2 (λw=>z (r2.dX.mpr w)) _ (I.bq.fresh (bX _))⟩
 exact ⟨by rw [dz];exact hz,_,r1.append r2,IsTup.new _ _⟩
end
end L2
namespace L2
open PySem PySem.Spec PyProof.Rows
def lO(n:Nat)(i:Int):Option Nat:=if 0<=i then (if i<n then some i.toNat else none) else if -(n:Int)<=i then some (i+n).toNat else none
def dt{α:Type}(xs:List α)(i:Int):Option α:=(lO xs.length i).bind λj=>xs[j]?
theorem OG(h:lO n i=some j):seqIndex? i n=some j/\j<n /\ -(n:Int)<=i/\i<n:=by
 unfold lO at h
 by_cases h0:0<=i
 .rw [if_pos h0] at h
  by_cases h1:i<n
  .rw [if_pos h1] at h
   have e:i.toNat=j:=dh h
   exact ⟨by rw [seqIndex_of h0 h1,e],by ext h0 h1 e,by ext h0,h1⟩
  .rw [if_neg h1] at h;cases h
 .rw [if_neg h0] at h
  by_cases h1:-(n:Int)<=i
  .rw [if_pos h1] at h
   have e:(i+n).toNat=j:=dh h
   exact ⟨by rw [seqIndex_neg (by ext h0) h1,e],by ext h0 h1 e,h1,by ext h0⟩
  .rw [if_neg h1] at h;cases h
theorem JQ{α:Type}{xs:List α}{i:Int}{v:α}(h:dt xs i=some v):∃j,seqIndex? i xs.length=some j/\xs[j]?=some v/\j<xs.length /\ -(xs.length:Int)<=i/\i<xs.length:=by
 unfold dt at h
 cases e:lO xs.length i with
 | none=>rw [e] at h;cases h
 | some j =>
  rw [e] at h
  obtain ⟨h1,h2,h3,h4⟩:=OG e
  exact ⟨j,h1,h,h2,h3,h4⟩
theorem dZ{α:Type}{xs:List α}{j:Nat}{v:α}(h:xs[j]?=some v):dt xs (j:Int)=some v:=by
 have hj:j<xs.length:=(qK.mp h).1
 have e:lO xs.length (j:Int)=some j:=by
  unfold lO
  rw [if_pos (by ext),if_pos (by ext hj)];simp
 unfold dt;rw [e];exact h
theorem WR{α:Type}(xs:List α)(v:α):dt (xs++[v]) (-1)=some v:=by
 have hl:(xs++[v]).length=xs.length+1:=by simp
 have e:lO (xs++[v]).length (-1)=some xs.length:=by
  unfold lO
  rw [hl,if_neg (by decide),if_pos (by ext)]
  congr 1
  ext
 unfold dt
 rw [e]
 show (xs++[v])[xs.length]?=some v
 simp
def Oj(b:Expr):Prop:=∀o i,subscripted b false o i=operate [o,i] (getItem o i)
def ux(X:Cx)(r:R2):Prop:=
 ∀(value slice:Expr) (pins:List (Addr×Obj)) (s:Shared) (σ:St) (H:Hp) (x y:V) (v u:Value) (Q:VK),Inv X pins σ H s->RelV x v->RelV y u->r x y H Q ->
  subscripted slice false v u=operate [v,u] (getItem v u)->wpAny (model X.prog X.w) X.A (subscriptTail value slice v u) (EP X pins σ Q) X.xe s
def yK(X:Cx)(id:String)(r:V->List V->Hp->VK->Prop):Prop:=
 ∀(pins:List (Addr×Obj)) (s:Shared) (σ:St) (H:Hp) (x:V) (xs:List V) (v:Value) (us:List Value) (Q:VK),Inv X pins σ H s->RelV x v->aB xs us->r x xs H Q ->
  wpAny (model X.prog X.w) X.A (call (.builtin id) (v::us)) (EP X pins σ Q) X.xe s
section
variable {X:Cx}{a b:Expr}{ta tb:TE}{pos:Pos}
theorem ux.or(h:ux X r)(h':ux X r'):ux X (λx y H Q=>r x y H Q\/r' x y H Q):=by
 intro value slice pins s σ H x y v u Q I rx ry q hs
 rcases q with q | q
 .exact h value slice pins s σ H x y v u Q I rx ry q hs
 .exact h' value slice pins s σ H x y v u Q I rx ry q hs
theorem yK.or{id:String}{r r':V->List V->Hp->VK->Prop}(h:yK X id r)(h':yK X id r'):yK X id (λx xs H Q=>r x xs H Q\/r' x xs H Q):=by
 intro pins s σ H x xs v us Q I rx rs q
 rcases q with q | q
 .exact h pins s σ H x xs v us Q I rx rs q
 .exact h' pins s σ H x xs v us Q I rx rs q
theorem zK(hr:ux X r)(ha:PE X a ta)(hb:PE X b tb)(hs:Oj b):PE X (.Subscript a b pos) (yY r ta tb):=by
 intro pins s σ H Q I h
 exact Subscript_ (wJ ha hb I h λv u s2 x y H2 I2 rx ry q=>hr a b pins s2 σ H2 x y v u Q I2 rx ry q (hs _ _))
def zC(K:aI):R2:=λx y H Q=>∃p xs i v,x=.ref p/\y=.int i/\dU K H p xs/\dt xs i=some v/\Q v H
def zA(K:aI):R2:=λx y H Q=>∃p xs i v,x=.ref p/\y=.int i/\gc K H p xs/\dt xs i=some v/\Q v H
def zB:R2:=λx y H Q=>∃z i c,x=.str z/\y=.int i/\z.length<=sizeLine/\dt z.cps.toList i=some c/\Q (.str ⟨#[c]⟩) H
theorem tm:ux X (zC X.K):=by
 intro value slice pins s σ H x y v u Q I rx ry h hs
 obtain ⟨p,xs,i,z,rfl,rfl,hq,he,q⟩:=h
 cases rx
 obtain ⟨t,rfl⟩:=ry
 obtain ⟨av,r,pl,hz⟩:=I.list hq
 obtain ⟨j,h1,h2,h3,h4,h5⟩:=JQ he
 obtain ⟨w,ew,s9⟩:=r.get h2
 have hl:=r.length
 have hn:=yq
 have fin:EP X pins σ Q w s:=⟨z,H,I,s9,q⟩
 by_cases h0:0<=i
 .have hj:i.toNat=j:=by
   rw [seqIndex_of h0 h5] at h1
   exact dh h1
  exact item_listR pl.isList h0 (by ext hz h5 hn) (by rw [hj];simpa using ew) fin hs
 .have hj:(i+(av.toArray.size:Int)).toNat=j:=by
   rw [seqIndex_neg (Dt.mp ‹_›) h4] at h1
   rw [dG,<-hl]
   exact dh h1
  exact subscriptTail_builtinR (x:=w) pl.isList.typeIs slot_list_getitem.lookup
   (wpAny_getItem_list_neg (Q:=λr s'=>r=w/\EP X pins σ Q r s') pl.isList (Dt.mp ‹_›) (by rw [dG]<;>lia) (by lia) (by rw [hj];simpa using ew) ⟨rfl,fin⟩) hs
theorem vV:ux X (zA X.K):=by
 intro value slice pins s σ H x y v u Q I rx ry h hs
 obtain ⟨p,xs,i,z,rfl,rfl,hq,he,q⟩:=h
 cases rx
 obtain ⟨t,rfl⟩:=ry
 obtain ⟨av,r,pl,hz⟩:=I.tuple hq
 obtain ⟨j,h1,h2,h3,h4,h5⟩:=JQ he
 obtain ⟨w,ew,s9⟩:=r.get h2
 have hl:=r.length
 have hn:=yq
 have fin:EP X pins σ Q w s:=⟨z,H,I,s9,q⟩
 exact subscriptTail_builtinR (x:=w) pl.typeIs D7.lookup
  (getItem_tuple (j:=j) (Q:=λr s'=>r=w/\EP X pins σ Q r s') pl (by (clear he hs h1 h2 h5 ew;omega)) (by (clear he hs h1 h2 h4 ew;omega)) (by rw [dG,<-hl];exact h1) (by simpa using ew) ⟨rfl,fin⟩) hs
theorem Uz:ux X zB:=by
 intro value slice pins s σ H x y v u Q I rx ry h hs
 obtain ⟨z,i,c,rfl,rfl,hz,he,q⟩:=h
 obtain ⟨t,rfl⟩:=rx
 obtain ⟨t',rfl⟩:=ry
 obtain ⟨j,h1,h2,h3,h4,h5⟩:=JQ he
 have hl:z.cps.toList.length=z.length:=by simp [Str.length]
 rw [hl] at h1 h4 h5
 have hn:=yq
 exact tail_any (typeIs_str s z t) slot_str_getitem.lookup (getItem_str (c:=c) (by
  have e1:decide (i < -(2^63:Int))=false:=decide_eq_false (by lia)
  have e2:decide (i≥2^63)=false:=decide_eq_false (by lia)
  rw [e1,e2,Bool.or_false]) (by rw [h1];simpa using h2) ⟨.str ⟨#[c]⟩,H,I.tok _,⟨_,rfl⟩,q⟩) hs
def Rf(K:aI):R2:=λx y H Q=>zC K x y H Q\/zA K x y H Q\/zB x y H Q
theorem Uy:ux X (Rf X.K):=tm.or (vV.or Uz)
theorem YR(av:List Value)(n j:Nat)(u:Value):o8 (·.setIfInBounds j u) { cls:=.type "list",data:=.seq av.toArray n }={ cls:=.type "list",data:=.seq (av.set j u).toArray n }:=by
 simp [o8]
theorem Inv.lst{pins:List (Addr×Obj)}{σ:St}{H:Hp}{s:Shared}{p:Addr}{xs:List V}(I:Inv X pins σ H s)(h:H p=some (.lst xs)):
  ∃(av:List Value) (n:Nat),aB xs av/\s.heap.get? p=some { cls:=.type "list",data:=.seq av.toArray n }/\xs.length<=sizeLine:=by
 obtain ⟨z,av,n,r,e⟩:=I.bq p _ h
 exact ⟨av,n,r,e,z⟩
theorem Inv.vT{pins:List (Addr×Obj)}{σ:St}{H:Hp}{s:Shared}{p:Addr}{xs ys:List V}{av its':List Value}{n n':Nat}{f:Obj->Obj}(I:Inv X pins σ H s)(h:H p=some (.lst xs))
  (ho:s.heap.get? p=some { cls:=.type "list",data:=.seq av.toArray n })(hf:f { cls:=.type "list",data:=.seq av.toArray n }={ cls:=.type "list",data:=.seq its'.toArray n' })(r:aB ys its')(hz:ys.length<=sizeLine)(t:Nat):
  Inv X pins σ (upd H p (.lst ys)) { s with heap:=s.heap.update p f,toks:=t }:=by
 have e:(s.heap.update p f).get? p=some { cls:=.type "list",data:=.seq its'.toArray n' }:=by
  rw [D1 f ho (by rw [hf]<;>rfl),hf]
 refine I.write (x:=p) (e:=p) (by rw [h];trivial) (.inl rfl) (λb u hb q=>(Bx _ _ (jW hb)).trans q) ⟨_,e⟩ ?_
 exact ⟨hz,its',n',r,e⟩
def zz:V->V->V->Hp->(Hp->Prop)->Prop:=λo i v H Q=>∃p xs k j,o=.ref p/\i=.int k/\H p=some (.lst xs)/\lO xs.length k=some j/\Q (upd H p (.lst (xs.set j v)))
theorem Xv:CD X zz:=by
 intro pins s σ H o i v ov iv u Q I ro ri rv h
 obtain ⟨p,xs,k,j,rfl,rfl,hp,hj,q⟩:=h
 cases ro
 obtain ⟨t,rfl⟩:=ri
 obtain ⟨av,n,r,ho,hz⟩:=I.lst hp
 obtain ⟨h1,h2,h3,h4⟩:=OG hj
 have hl:=r.length
 have hn:=yq
 have I':Inv X pins σ (upd H p (.lst (xs.set j v))) { s with heap:=s.heap.update p (o8 (·.setIfInBounds j u)) }:=
  I.vT hp ho (YR av n j u) (r.set rv j) (by rw [Ir];exact hz) s.toks
 by_cases h0:0<=k
 .have hk:k.toNat=j:=by
   rw [seqIndex_of h0 h4] at h1
   exact dh h1
  exact PySem.W.ki_setAt ho h0 (by lia) (by rw [dG,<-hl];exact h4) (by rw [hk];exact ⟨_,I',q⟩)
 .have hk:(k+(av.toArray.size:Int)).toNat=j:=by
   rw [seqIndex_neg (Dt.mp ‹_›) h3] at h1
   rw [dG,<-hl]
   exact dh h1
  exact PySem.W.ki_setBack ho (Dt.mp ‹_›) (by rw [dG,<-hl];exact h3) (by lia) (by rw [hk];exact ⟨_,I',q⟩)
theorem Zj(lo hi:Option Int)(n:Nat):(sliceBounds lo hi none n).1=((HT.bZ n 0 lo:Nat):Int)/\(sliceBounds lo hi none n).2.1=((HT.bZ n n hi:Nat):Int)/\(sliceBounds lo hi none n).2.2=1:=by
 refine ⟨?_,?_,rfl⟩
 .cases lo with
  | none=>simp [sliceBounds,HT.bZ]
  | some i =>
   simp only [sliceBounds,HT.bZ,IA,show (1:Int)>0 by decide,if_true]
   by_cases h:i<0
   .simp only [h,if_true]<;>lia
   .simp only [h,if_false]<;>lia
 .cases hi with
  | none=>simp [sliceBounds,HT.bZ]
  | some i =>
   simp only [sliceBounds,HT.bZ,IA,show (1:Int)>0 by decide,if_true]
   by_cases h:i<0
   .simp only [h,if_true]<;>omega
   .simp only [h,if_false]<;>omega
theorem Zp(av:List Value)(lo hi:Option Int):slicePick av.toArray lo hi none=((av.drop (HT.bZ av.length 0 lo)).take (HT.bZ av.length av.length hi-HT.bZ av.length 0 lo)).toArray:=by
 obtain ⟨h1,h2,h3⟩:=Zj lo hi av.toArray.size
 unfold slicePick
 rw [h1,h2,h3]
 simp only [sliceRange_one,pick_run,dG]<;>rfl
def Gm(K:aI):V->Option Int->Option Int->Hp->VK->Prop:=λx lo hi H Q=>∃a xs,x=.ref a/\dU K H a xs/\∀p,H p=none->Q (.ref p) (upd H p (.lst (nS xs lo hi)))
theorem sX:xo X (Gm X.K):=by
 intro pins s σ H x v vl vu lo hi sl Q I rx hs pl pu h
 obtain ⟨a,xs,rfl,hx,q⟩:=h
 cases rx
 obtain ⟨av,r,ht,hz⟩:=I.list hx
 have hlen:=r.length
 refine ⟨"list",_,slot_list_getitem.lookup,ht.isList.typeIs,?_⟩
 refine wpAny_getItem_list_slice ht.isList hs pl pu .none (by simp) ?_ (by rw [dG]<;>lia)
 rw [Zp,<-hlen]
 refine ⟨.ref s.heap.objs.size,_,I.laid (t':=s.toks) (o:=.lst (nS xs lo hi)) (λb ob q=>c8 _ q) (bX _) ?_,rfl,q _ (I.bq.fresh (bX _))⟩
 exact ⟨jZ (Qc xs lo hi) hz,_,0,(r.drop (HT.bZ xs.length 0 lo)).take (HT.bZ xs.length xs.length hi-HT.bZ xs.length 0 lo),jY _ rfl⟩
theorem Zk:cm X (.builtin "len") (λxs H Q=>∃p ys,xs=[.ref p]/\(dU X.K H p ys\/gc X.K H p ys)/\Q (.int ys.length) H):=by
 intro pins s σ H xs us Q I r h
 obtain ⟨p,ys,rfl,hq,q⟩:=h
 obtain ⟨u,rfl,rx⟩:=vals1 r
 cases rx
 have hn:=yq
 rcases hq with hq | hq
 .obtain ⟨av,r',pl,hz⟩:=I.list hq
  have hlen:=r'.length
  exact Calls.call_len_list pl.isList (by simp only [dG]<;>lia) ⟨.int ys.length,H,I.tok _,⟨s.toks+1,by rw [dG,hlen]⟩,q⟩
 .obtain ⟨av,r',pl,hz⟩:=I.tuple hq
  have hlen:=r'.length
  exact len_tuple pl (by simp only [dG]<;>omega) ⟨.int ys.length,H,I.tok _,⟨s.toks+1,by rw [dG,hlen]⟩,q⟩
theorem cm.or(h:cm X f r)(h':cm X f r'):cm X f (λxs H Q=>r xs H Q\/r' xs H Q):=by
 intro pins s σ H xs us Q I rs q
 rcases q with q | q
 .exact h pins s σ H xs us Q I rs q
 .exact h' pins s σ H xs us Q I rs q
theorem Zl:cm X (.type "list") (λxs H Q=>∃p ys,xs=[.ref p]/\(dU X.K H p ys\/gc X.K H p ys)/\∀l,H l=none->Q (.ref l) (upd H l (.lst ys))):=by
 intro pins s σ H xs us Q I r h
 obtain ⟨p,ys,rfl,hq,q⟩:=h
 obtain ⟨u,rfl,rx⟩:=vals1 r
 cases rx
 have fin:∀(av:List Value),aB ys av->ys.length<=sizeLine->∀(h':Heap) (c':Nat),(∀b o',s.heap.get? b=some o'->h'.get? b=some o') ->
   h'.get? s.heap.objs.size=some { cls:=.type "list",dict:=none,data:=.seq av.toArray c',slots:=#[] }->EP X pins σ Q (.ref s.heap.objs.size) { s with heap:=h' }:=λav r' hz h' c' kp e =>
  ⟨.ref s.heap.objs.size,_,I.laid (t':=s.toks) kp (bX _) (show bA X.prog X.w _ h' _ (.lst ys) from ⟨hz,av,c',r',e⟩),rfl,q _ (I.bq.fresh (bX _))⟩
 rcases hq with hq | hq
 .obtain ⟨av,r',pl,hz⟩:=I.list hq
  have hlen:=r'.length
  obtain ⟨o,ho,hc,n,hd⟩:=pl.isList
  exact call_list_seq p (.inl rfl) ho hc hd (λh' c' kp e=>fin av r' hz h' c' kp e) (by simp only [dG]<;>omega)
 .obtain ⟨av,r',pl,hz⟩:=I.tuple hq
  have hlen:=r'.length
  obtain ⟨o,ho,hc,n,hd⟩:=pl
  exact call_list_seq p (.inr rfl) ho hc hd (λh' c' kp e=>fin av r' hz h' c' kp e) (by simp only [dG]<;>omega)
theorem Zq:cm X (.type "tuple") (λxs H Q=>∃p ys,xs=[.ref p]/\((dU X.K H p ys/\∀l,H l=none->Q (.ref l) (upd H l (.tup ys)))\/(gc X.K H p ys/\Q (.ref p) H))):=by
 intro pins s σ H xs us Q I r h
 obtain ⟨p,ys,rfl,h⟩:=h
 obtain ⟨u,rfl,rx⟩:=vals1 r
 cases rx
 rcases h with ⟨hq,q⟩ | ⟨hq,q⟩
 .obtain ⟨av,r',pl,hz⟩:=I.list hq
  have hlen:=r'.length
  refine call_tuple_list pl.isList (λh' kp=>?_) (by simp only [dG]<;>omega)
  have I1:Inv X pins σ H { s with heap:=h' }:=I.kept (t':=s.toks) kp
  have I2:Inv X pins σ (upd H h'.objs.size (.tup ys)) { s with heap:=h'.push { cls:=.type "tuple",data:=.seq av.toArray } }:=
   I1.laid (t':=s.toks) (λb o e=>c8 _ e) (bX _) (show bA X.prog X.w _ _ _ (.tup ys) from ⟨hz,av,r',IsTup.new _ _⟩)
  exact ⟨.ref h'.objs.size,_,I2,rfl,q _ (I1.bq.fresh (bX _))⟩
 .obtain ⟨av,r',pl,hz⟩:=I.tuple hq
  exact call_tuple_same pl ⟨.ref p,H,I,rfl,q⟩
def FE(K:aI)(T:String)(x:V)(H:Hp):Prop:=match x with
 | .str _=>T = "str"
 | .int _=>T = "int"
 | .ref p=>(T = "list" /\ ∃xs,dU K H p xs)\/(T = "tuple" /\ ∃o,K.lookup p=some o/\o.cls=.type "tuple" /\ o.dict=none) \/
   (T = "dict" /\ ((∃aA,H p=some (.dK aA))\/∃aA,H p=some (.dT aA)))\/(T = "set" /\ ∃S n,H p=some (.set S n))
 | _=>False
theorem NW{pins:List (Addr×Obj)}{σ:St}{H:Hp}{s:Shared}{T:String}{x:V}{v:Value}(I:Inv X pins σ H s)(r:RelV x v)(ty:FE X.K T x H):
  s.TypeIs v T/\∀a,v=.ref a->∃ob,s.heap.get? a=some ob/\ob.dict=none:=by
 cases x with
 | str z =>
  obtain ⟨t,rfl⟩:=r
  cases (show T = "str" from ty)
  exact ⟨typeIs_str s z t,λ_ e=>nomatch e⟩
 | int i =>
  obtain ⟨t,rfl⟩:=r
  cases (show T = "int" from ty)
  exact ⟨typeIs_int s i t,λ_ e=>nomatch e⟩
 | ref p =>
  cases r
  rcases ty with ⟨rfl,xs,hq⟩ | ⟨rfl,o,hk,hc,hd⟩ | ⟨rfl,hk⟩ | ⟨rfl,S,n,hk⟩
  .obtain ⟨av,_,pl,_⟩:=I.list hq
   refine ⟨pl.isList.typeIs,λa e=>?_⟩
   cases e
   obtain ⟨o,n,e,c,hd,_⟩:=pl
   exact ⟨o,e,hd⟩
  .refine ⟨⟨o,I.jJ p o hk,hc⟩,λa e=>?_⟩
   cases e
   exact ⟨o,I.jJ _ o hk,hd⟩
  .have z:∃o,s.heap.get? p=some o/\o.ExactDict:=by
    rcases hk with ⟨aA,hk⟩ | ⟨aA,hk⟩
    .obtain ⟨_,_,_,_,o,_,_,e,ex,_⟩:=I.bq p _ hk
     exact ⟨o,e,ex⟩
    .obtain ⟨_,_,_,_,o,_,_,e,ex,_⟩:=I.bq p _ hk
     exact ⟨o,e,ex⟩
   obtain ⟨o,e,ex⟩:=z
   refine ⟨⟨o,e,ex.1⟩,λa e2=>?_⟩
   cases e2
   exact ⟨o,e,ex.2.1⟩
  .obtain ⟨o,_,_,_,e,ex,_⟩:=I.bq p _ hk
   refine ⟨⟨o,e,ex.1⟩,λa e2=>?_⟩
   cases e2
   exact ⟨o,e,ex.2.1⟩
 | _=>exact l' ty
def FY(K:aI)(T:String)(r:V->List V->Hp->VK->Prop)(to:TE):TE:=λσ H Q=>to σ H λx H1=>FE K T x H1/\r x [] H1 Q
def QU(K:aI)(T:String)(r:V->List V->Hp->VK->Prop)(to:TE)(t:TA):TE:=λσ H Q=>to σ H λx H1=>FE K T x H1/\t σ H1 λxs H2=>r x xs H2 Q
variable {o e:Expr}{es:List Expr}{to:TE}{t:TA}{name:Str}{apos be:Pos}{T id:String}{r:V->List V->Hp->VK->Prop}
theorem U6(pa:PlainAttrs T)(slot:Slot T name id)(vX:typeOf (.builtin id)=pure (.type "method_descriptor"))(hm:yK X id r)(ho:PE X o to)
  (cC:attributeBase o name X.env (eval o X.env)=eval o X.env:=by rfl)(cB:(apos.endLine==be.line)=true:=by rfl):PE X (.Call (.Attribute o name apos) [] [] be) (FY X.K T r to):=by
 intro pins s σ H Q I h
 refine wpAny_Call_method0_late cC cB (bw (ho pins s σ H _ I h) λv s1 ⟨x,H1,I1,r1,ty,q1⟩=>?_)
 obtain ⟨h1,h2⟩:=NW I1 r1 ty
 exact ⟨T,id,pa,slot,vX,h1,h2,M8 rfl (PySem.evalArgs_none (hm pins s1 σ H1 x [] v [] Q I1 r1 .nil q1))⟩
theorem NG(pa:PlainAttrs T)(slot:Slot T name id)(vX:typeOf (.builtin id)=pure (.type "method_descriptor"))(hm:yK X id r)(ho:PE X o to)(ha:PA X (e::es) t)
  (cC:attributeBase o name X.env (eval o X.env)=eval o X.env:=by rfl)
  (kS:((backTo be (starEach (e::es) X.env)).all (λx=>!x.1)&&(backToKw be (keywordEach [] X.env)).all (λx=>x.1.isSome)
   && decide ((e::es).length+([]:List Keyword).length+(if ([]:List Keyword).isEmpty then 0 else 1)<30))=true:=by rfl)
  (cB:(apos.endLine==be.line)=true:=by rfl)(hs:starEach (e::es) X.env=(false,eval e X.env)::starEach es X.env:=by rfl)(vZ:(backTo be (starEach es X.env)).any (·.1)=false:=by rfl):
  PE X (.Call (.Attribute o name apos) (e::es) [] be) (QU X.K T r to t):=by
 intro pins s σ H Q I h
 refine wpAny_Call_method_late cC kS cB rfl (bw (ho pins s σ H _ I h) λv s1 ⟨x,H1,I1,r1,ty,q1⟩=>?_)
 obtain ⟨h1,h2⟩:=NW I1 r1 ty
 refine ⟨T,id,pa,slot,vX,h1,h2,?_⟩
 have hA:=ha be pins s1 σ H1 _ I1 q1
 rw [hs] at hA ⊢
 refine M8 (by show (false||(backTo be (starEach es X.env)).any (·.1))=false;rw [vZ]<;>rfl) (Calls.evalArgs_plain ?_)
 exact bw hA λus s2 ⟨vs,H2,I2,r2,q2⟩=>hm pins s2 σ H2 x vs v us Q I2 r1 r2 q2
end
end L2
namespace L2
open PySem PySem.Spec PyProof.Rows
def LD(X:Cx)(id:String)(r:V->List V->Hp->VK->Prop):Prop:=
 ∀(pins:List (Addr×Obj)) (s:Shared) (σ:St) (H:Hp) (x:V) (xs:List V) (v:Value) (us:List Value) (Q:VK),Inv X pins σ H s->RelV x v->aB xs us->r x xs H Q ->
  wpAny (model X.prog X.w) X.A (call (.builtin id) (v::us)) (EP X pins σ Q) X.xe s
theorem aB.one:∀{x:V} {us:List Value},aB [x] us->∃u,us=[u]/\RelV x u
 | _,_,.cons r .nil=>⟨_,rfl,r⟩
theorem aB.two:∀{x y:V} {us:List Value},aB [x,y] us->∃u v,us=[u,v]/\RelV x u/\RelV y v
 | _,_,_,.cons r (.cons q .nil)=>⟨_,_,rfl,r,q⟩
theorem aB.zero:∀{us:List Value},aB [] us->us=[]
 | _,.nil=>rfl
theorem aB.dropLast(h:aB xs us):aB xs.dropLast us.dropLast:=by
 induction h with
 | nil=>exact .nil
 | cons r t ih =>
  cases t with
  | nil=>exact .nil
  | cons q t'=>exact .cons r ih
theorem aB.eraseIdx:∀{xs:List V} {us:List Value} (i:Nat),aB xs us->aB (xs.eraseIdx i) (us.eraseIdx i)
 | _,_,_,.nil=>.nil
 | _,_,0,.cons _ t=>t
 | _,_,i+1,.cons r t=>.cons r (aB.eraseIdx i t)
theorem aB.reverse(h:aB xs us):aB xs.reverse us.reverse:=by
 induction h with
 | nil=>exact .nil
 | cons r t ih=>rw [List.reverse_cons,List.reverse_cons];exact aB.append ih (.cons r .nil)
theorem YI{α:Type}(l:List α):l.eraseIdx (l.length-1)=l.dropLast:=by
 induction l with
 | nil=>rfl
 | cons a r ih =>
  cases r with
  | nil=>rfl
  | cons b r =>
   have e:(a::b::r).length-1=((b::r).length-1)+1:=by
    have h1:(a::b::r).length=r.length+2:=rfl
    have h2:(b::r).length=r.length+1:=rfl
    assumption
   rw [e,List.eraseIdx_cons_succ,ih]
   all_goals rfl
section
variable {X:Cx}{pins:List (Addr×Obj)}{σ:St}{H:Hp}{s:Shared}{l b:Addr}{xs ys zs:List V}
theorem Inv.vU{av its':List Value}{n:Nat}{t':Nat}(I:Inv X pins σ H s)(hH:H l=some (.lst xs))
  (e:s.heap.get? l=some { cls:=.type "list",data:=.seq av.toArray n })(hf:f av.toArray=its'.toArray)(hv:aB ys its')(hz:ys.length<=sizeLine):
  Inv X pins σ (upd H l (.lst ys)) { s with heap:=s.heap.update l (o8 f),toks:=t' }:=by
 have q:=PySem.IsL.update e f
 rw [hf] at q
 refine I.write (x:=l) (e:=l) (by rw [hH];exact trivial) (.inl rfl) (λb' u hb hu=>(Bx s.heap (o8 f) (jW hb)).trans hu) ⟨_,q⟩ ?_
 exact ⟨hz,its',_,hv,q⟩
theorem Inv.GG(I:Inv X pins σ H s)(hv:aB ys av)(hz:ys.length<=sizeLine):
  Inv X pins σ (upd H s.heap.objs.size (.lst ys)) { s with heap:=s.heap.push { cls:=.type "list",data:=.seq av.toArray },toks:=t' }:=
 I.laid (λ_ _ q=>c8 _ q) (bX _) ⟨hz,av,0,hv,jY _ rfl⟩
theorem Inv.fresh(I:Inv X pins σ H s):H s.heap.objs.size=none:=I.bq.fresh (bX _)
theorem Inv.p9(I:Inv X pins σ H s)(hH:H l=some (.lst xs)):xs.length<=sizeLine/\∃(av:List Value) (n:Nat),aB xs av/\xs.length=av.length/\s.heap.get? l=some { cls:=.type "list",data:=.seq av.toArray n }:=by
 obtain ⟨z,av,n,r,e⟩:=I.bq l _ hH
 exact ⟨z,av,n,r,r.length,e⟩
theorem XE(h:n<=sizeLine):IK n=false:=by
 unfold IK
 exact decide_eq_false (Nat.not_lt.mpr ‹_›)
end
section
variable {X:Cx}
def VX:V->List V->Hp->VK->Prop:=λx vs H Q=>∃l xs y,x=.ref l/\vs=[y]/\H l=some (.lst xs)/\xs.length<sizeLine/\Q .bo (upd H l (.lst (xs++[y])))
theorem Yg:LD X "list.append" VX:=by
 intro pins s σ H x vs v us Q I rx rv h
 obtain ⟨l,xs,y,rfl,rfl,hH,hz,q⟩:=h
 cases rx
 obtain ⟨u,rfl,ru⟩:=rv.one
 obtain ⟨z,av,n,r,hl,e⟩:=I.p9 hH
 refine call_meets M7 ⟨_,e,rfl⟩ F.entry_list_append (F.args_list_append_2 _ _) (PySem.list_append l av.toArray n u (by rw [dG];lia)) ⟨e,?_⟩
 refine ⟨.bo,_,I.vU (its':=av++[u]) hH e (by simp) (r.append (.cons ru .nil)) ?_,rfl,q⟩
 rw [dz,IY]
 assumption
def VY:V->List V->Hp->VK->Prop:=λx vs H Q=>∃l b xs zs,x=.ref l/\vs=[.ref b]/\H l=some (.lst xs)/\H b=some (.lst zs)/\xs.length+zs.length<=sizeLine/\Q .bo (upd H l (.lst (xs++zs)))
theorem XY:LD X "list.extend" VY:=by
 intro pins s σ H x vs v us Q I rx rv h
 obtain ⟨l,b,xs,zs,rfl,rfl,hH,hB,hz,q⟩:=h
 cases rx
 obtain ⟨u,rfl,ru⟩:=rv.one
 cases ru
 obtain ⟨z,av,n,r,hl,e⟩:=I.p9 hH
 obtain ⟨z2,cZ,n2,r2,oU,e2⟩:=I.p9 hB
 have hsz:av.toArray.size+cZ.toArray.size<=sizeLine:=by rw [dG,dG];lia
 have Av:¬(!av.toArray.isEmpty&&IK (av.toArray.size+cZ.toArray.size))=true:=by
  rw [XE hsz,Bool.and_false]
  exact pV
 refine call_meets M6 ⟨_,e,rfl⟩ F.entry_list_extend (F.args_list_extend_2 _ _)
  (AutoSeq1.list_extend_list_list_0 l av.toArray n b cZ.toArray n2 Av (by rw [dG];exact QK ‹_›) (jZ ‹_› (by decide))) ⟨e,e2,?_⟩
 refine ⟨.bo,_,I.vU (its':=av++cZ) hH e (by simp) (r.append r2) ?_,rfl,q⟩
 rw [dz]
 assumption
def Gn:V->List V->Hp->VK->Prop:=λx vs H Q=>∃l xs y,x=.ref l/\vs=[]/\H l=some (.lst xs)/\xs[xs.length-1]?=some y/\Q y (upd H l (.lst xs.dropLast))
theorem Vr:LD X "list.pop" Gn:=by
 intro pins s σ H x vs v us Q I rx rv h
 obtain ⟨l,xs,y,rfl,rfl,hH,hy,q⟩:=h
 cases rx
 have Sy:=rv.zero
 subst Sy
 obtain ⟨z,av,n,r,hl,e⟩:=I.p9 hH
 obtain ⟨u,hu,ru⟩:=r.get hy
 have Ao:av.toArray[av.toArray.size-1]?=some u:=by
  show av.toArray[av.length-1]?=some u
  rw [<-sy,<-hl]
  exact hu
 refine call_meets MM ⟨_,e,rfl⟩ F.entry_list_pop (F.args_list_pop_1 _) (MeetsSeq.list_pop_last l av.toArray n u Ao (by rw [dG];lia)) ⟨e,?_⟩
 refine ⟨y,_,I.vU (its':=av.dropLast) hH e ?_ r.dropLast ?_,ru,q⟩
 .show av.toArray.eraseIdxIfInBounds (av.toArray.size-1)=av.dropLast.toArray
  rw [dG,List.eraseIdxIfInBounds_toArray,YI]
 .rw [List.length_dropLast]
  exact QJ ‹_›
def Gp:R2:=λx y H Q=>∃l b xs zs,x=.ref l/\y=.ref b/\H l=some (.lst xs)/\H b=some (.lst zs)/\xs.length+zs.length<=sizeLine/\∀p,H p=none->Q (.ref p) (upd H p (.lst (xs++zs)))
theorem vJ:jr X (binaryOp .Add) Gp:=by
 intro pins s σ H x y v u Q I rx ry h
 obtain ⟨l,b,xs,zs,rfl,rfl,hH,hB,hz,q⟩:=h
 cases rx
 cases ry
 obtain ⟨z,av,n,r,hl,e⟩:=I.p9 hH
 obtain ⟨z2,cZ,n2,r2,oU,e2⟩:=I.p9 hB
 refine PySem.P.add_list e e2 ?_ (by rw [dG,dG];omega)
 have ea:av.toArray++cZ.toArray=(av++cZ).toArray:=by simp
 rw [ea]
 exact ⟨.ref _,_,I.GG (t':=s.toks) (r.append r2) (by rw [dz];assumption),rfl,q _ I.fresh⟩
end
section
variable {prog:Program}{w:World}{A:Around}{E:Value->Shared->Prop}{s:Shared}
end
section
variable {X:Cx}
end
end L2
namespace QH
open PySem PySem.W PySem.Calls PyProof.Rows
theorem Zw:∀(ns:List Int) (vs:List Value),WellAll P h vs (ns.map WData.int)->IntsAre vs ns:=by
 intro ns
 induction ns with
 | nil =>
  intro vs w
  rw [pU] at w
  cases w
  exact .nil
 | cons n ns ih =>
  intro vs w
  rw [dE] at w
  cases w with
  | cons a b =>
   cases a
   exact .cons _ _ (ih _ b)
theorem X8{l:OpenLaw}{n:Nat}(hn:l.most=some n){h:Heap}
  (qb:l.row.toRowW.claim.pre args=true)(GW:WellAll P h vals args):
  ∃a vs ns,vals=[cI a]/\args=[WData.list (ns.map WData.int)]/\h.get? a=some { cls:=.type "list",data:=.seq vs.toArray }/\IntsAre vs ns/\ns.length<=n:=by
 have Sz:WShape.hasAll [] args [.list .int]=true:=(pre_splitW qb).1
 have hc:l.pre.holds [] { args:=args }=true:=(pre_splitW qb).2
 obtain ⟨d,r,rfl,h1,h2⟩:=hasAllW_cons Sz
 obtain rfl:=hasAllW_nil h2
 obtain ⟨xs,rfl,h3⟩:=hasW_list h1
 obtain ⟨ns,rfl⟩:=items_int h3
 have hlen:ns.length<=n:=by
  unfold OpenLaw.pre at hc
  have h4:(WTm.not (.lt (.lit (.int (n:Int))) (.len (.arg 0)))).holds [] { args:=[.list (ns.map .int)] }=true:=by
   have h4:=(holds_andW hc).1
   rw [hn] at h4
   exact h4
  have h5:=condW_of h4 (w_not (w_lt w_lit (w_len_list (w_arg rfl))))
  rw [dF] at h5
  refine Nat.le_of_not_lt λq=>?_
  have q':(n:Int)<((ns.length:Nat):Int):=by exact Int.ofNat_lt.mpr ‹_›
  first
   | (rw [decide_eq_true q'] at h5;exact absurd h5 (by decide))
   | (simp at h5;omega)
 cases GW with
 | cons w1 w2 =>
  cases w2
  cases w1 with
  | list ho Hf=>exact ⟨_,_,ns,rfl,rfl,ho,Zw ns _ Hf,hlen⟩
theorem X5(l:OpenLaw)(args:List WData):l.row.toRowW.claim.post args (.bool true) args=true:=
 postW_of (r:=l.row.toRowW) (X:=(true==true))
  (show WShape.has [] (.bool true) .bool=true by first | rfl | decide | simp [WShape.has,WShape.arms,WShape.armsAll])
  (show (WTm.eq .res (.lit (.bool true))).value [] { args:=args,res:=some (.bool true),after:=args }=some (.bool (true==true)) from w_eq_bool (w_res rfl) w_lit) rfl
theorem n5{l:OpenLaw}{n:Nat}{loose:List Str}{d:DefRec}
  (hn:l.most=some n)(AE:d.params.defaults=[])
  (call:∀(w:World) (cR aV:Shared) (mg mb:Str->Option Value) (fa:Addr) (o:Obj) (pm cd doc:Value) (a:Addr) (vs:List Value) (ns:List Int),
   Ground q loose [] XP w cR mg mb aV.heap->YP w aV.heap ->
   aV.heap.get? fa=some o->o.data=.func (docDef d.name d.params d.body d.scope pm cd doc)->aV.heap.CodeRec cd d.name->mg d.name=some (.ref fa) ->
   aV.heap.get? a=some { cls:=.type "list",data:=.seq vs.toArray }->IntsAre vs ns->ns.length<=n->aV.gens=#[] ->
   codeAny (model l.prog w) callerA (.call (.ref fa) ⟨[.ref a],[]⟩) (λr s'=>r=.ok (.ret (.bool true))/\OldK aV.heap s'.heap/\s'.os=aV.os/\AllBare s'.gens) aV):
  WalkO q loose XP YP l.row.toRowW d [] (λf vs=>HX f vs):=by
 intro w cR aV mg mb G Y fa o pm cd doc dV kV ho hd cu hD Au hg args vals as qb SS hrd GW hlo
 obtain rfl:dV=.none:=Dflts.none hD AE
 obtain rfl:kV=.none:=Dflts.noKw hD
 obtain ⟨a,vs,ns,rfl,rfl,v5,hints,hlen⟩:=X8 hn qb GW
 refine enter_call (u4 (call w cR aV mg mb fa o pm cd doc a vs ns G Y ho (fd_plain hd) cu Au v5 hints hlen hg) λr s' hq=>?_)
 obtain ⟨rfl,h2,h3,h4⟩:=hq
 exact ⟨.inl ⟨.bool true,.bool true,[],rfl,λ_=>rfl,.bool true,X5 l _,λ_=>⟨t4,λ_ hm=>(nomatch hm)⟩⟩,h2,h3,h4⟩
section
variable {prog:Program}{w:World}{A:Around}{E:Value->Shared->Prop}{s:Shared}{K:Frag}
def ledger(h:Heap)(L d:Addr):List (Addr×Obj):=(o7 h.objs.size).filterMap λa=>if a=L\/a=d then none else (h.get? a).map λo=>(a,o)
end
end QH
namespace L2
open PySem PySem.Spec PyProof.Rows
theorem PZ:∀{vs:List Value} {ns:List Int},IntsAre vs ns->aB (ns.map V.int) vs
 | _,_,.nil=>.nil
 | _,_,.cons n t h=>.cons ⟨t,rfl⟩ (PZ h)
theorem Pj{α:Type}{c:Prop}[Decidable c]{a b:α}(h:(if c then some a else none)=some b):c/\a=b:=by
 by_cases hc:c
 .rw [if_pos hc] at h;exact ⟨hc,dh h⟩
 .rw [if_neg hc] at h;cases h
def tj:Str:="dealt.<locals>.<lambda>"
def Tb(K:aI)(H:Hp):Prop:=∀c P,qJ K "dealt" = some (c,P)->H P=some (.tab tj)
def Ed(K:aI)(ts:List Addr):Bool:=match qJ K "dealt" with
 | some (c,P)=>MS K c P&&(K.lookup P).isNone&&ts.contains P
 | none=>true
theorem WN{P:Program}{w:World}{K:aI}{mg mb:Str->Option Value}{CX:qx}{k:Nat}{fa a:Addr}{fd:FuncData}{x:Str}{sp:Sp}{aV:Shared}{vs:List Value}{ns:List Int}{ts:List Addr}
  (KX:K.In aV.heap)(As:aV.heap.Ns mainGlobals mg)(hb:aV.heap.Ns builtinsNs mb)(Dj:∀x:Str,x ≠ "__name__" -> mb x=bootBuiltins x)(G5:aV.heap.NoLimit)(hg:aV.gens=#[])
  (S5:∃bm ob,mg "__builtins__" = some (.ref bm)/\bm≠builtinsNs/\aV.heap.get? bm=some ob/\ob.cls=.type "module" /\ ob.dict=some builtinsNs/\ob.data=.plain)
  (hL:Ed K ts=true)(AI:∀P∈ts,aV.heap.get? P=some (xN #[]))
  (ha:aV.heap.get? a=some { cls:=.type "list",data:=.seq vs.toArray })(hi:IntsAre vs ns)(hl:ns.length<=sizeLine)(hr:bS k callerA)
  (F:∀base:Heap,K.In base->base.Ns mainGlobals mg->bY P w K mg base CX k fa fd [x] sp)(AH:∀(s:Shared) (u:Value),BindsTo s fd ⟨[u],[]⟩ [(x,u)])
  (uM:∀H:Hp,Tb K H->dU K H a (ns.map V.int)->sp [.ref a] H (λv H'=>v=.bl true/\Tb K H') λ_ _ _=>False)
  (Hl:∀H e s',CX [] H aV (λ_ _ _=>False) e s'->False):
  codeAny (model P w) callerA (.call (.ref fa) ⟨[.ref a],[]⟩) (λr s'=>r=.ok (.ret (.bool true))/\OldK aV.heap s'.heap/\s'.os=aV.os/\AllBare s'.gens) aV:=by
 have rv:=PZ hi
 have GH:=hi.length
 have tabs:∀c P,qJ K "dealt" = some (c,P)->MS K c P=true/\K.lookup P=none/\aV.heap.get? P=some (xN #[]):=λc P e=>by
  unfold Ed at hL
  rw [e] at hL
  simp only [sF,Option.isNone_iff_eq_none,List.contains_iff_mem] at hL
  exact ⟨hL.1.1,hL.1.2,AI P hL.2⟩
 have core:∀H:Hp,Tb K H->dU K H a (ns.map V.int)->gj P w H aV.heap->(∀b,H b≠none->(b=a/\∃o xs,H b=some (.lU o (.lst xs)))\/∃c,qJ K "dealt" = some (c,b))->(H a≠none->K.lookup a=none) ->
   codeAny (model P w) callerA (.call (.ref fa) ⟨[.ref a],[]⟩) (λr s'=>r=.ok (.ret (.bool true))/\OldK aV.heap s'.heap/\s'.os=aV.os/\AllBare s'.gens) aV:=by
  intro H hO hS bq hA hK
  have nk:∀{b:Addr} {o:Obj},aV.heap.get? b=some o->H b=none->(mX aV.heap H).get? b=some o:=λe n=>WH e n
  have LY:∀{b:Addr} {o:Obj},aV.heap.get? b=some o->(∀xs n,o.data≠.seq xs n)->(∀xs,o.data=.fields xs->o.cls≠.none)->H b=none:=λ{b o} e d d2=>by
   cases q:H b with
   | none=>rfl
   | some u =>
    rcases hA b (by rw [q];simp) with ⟨e',_⟩ | ⟨c,e'⟩
    .subst e'
     rw [ha] at e;cases e
     exact absurd rfl (d _ _)
    .rw [(tabs c b e').2.2] at e;cases e
     exact absurd rfl (d2 _ rfl)
  have CV:∀{b:Addr} {m:Str->Option Value},aV.heap.Ns b m->(mX aV.heap H).Ns b m:=λ{b m} ⟨o,es,ep,e,d,r⟩=>⟨o,es,ep,nk e (LY e (λ_ _ z=>by rw [d] at z;cases z) λ_ z=>by rw [d] at z;cases z),d,r⟩
  have Mv:K.In (mX aV.heap H):=λb o e=>nk (KX b o e) (by
   cases q:H b with
   | none=>rfl
   | some u =>
    rcases hA b (by rw [q];simp) with ⟨e',_⟩ | ⟨c,e'⟩
    .subst e'
     rw [hK (by rw [q];simp)] at e;cases e
    .rw [(tabs c b e').2.1] at e;cases e)
  have hM:Mod K mg (mX aV.heap H):=⟨Mv,CV As,⟨mb,CV hb,Dj⟩,let ⟨mc,h1,h2⟩:=G5;⟨mc,CV h1,h2⟩,let ⟨bm,ob,b1,b2,b3,b4,b5,b6⟩:=S5;⟨bm,ob,b1,b2,nk b3 (LY b3 (λ_ _ z=>by rw [b6] at z;cases z) λ_ z=>by rw [b6] at z;cases z),b4,b5,b6⟩⟩
  have e0:mq P w K mg (mX aV.heap H) callerA [] aV H:=⟨rfl,hM,λb o e=>VH e,Nat.le_of_eq (X9 _ _),trivial,λb hb=>absurd (show b∈([]:List Addr) from hb) (by simp),bq,.of_eq hg⟩
  refine u4 ((F _ Mv (CV As)).run callerA [] aV H ⟨[.ref a],[]⟩ [.ref a] [.ref a] _ _ hr e0 (AH aV (.ref a)) (.cons rfl .nil) (uM H hO hS)) λr s' h=>?_
  cases r with
  | error e=>exact (Hl H e s' h).elim
  | ok fl =>
   cases fl with
   | next=>exact l' h
   | brk=>exact l' h
   | cont=>exact l' h
   | ret u =>
    obtain ⟨v,H',os,bare,un,Ar,r',q,qT⟩:=h
    subst q
    obtain rfl:u=nW true:=r'
    have old:∀b o,aV.heap.get? b=some o->s'.heap.get? b=some o\/∃c ps,qJ K "dealt" = some (c,b)/\s'.heap.get? b=some (xN ps):=λb o e=>by
     cases q:H b with
     | none=>exact .inl (un.keep b o e q (by intro z;exact absurd (show b∈([]:List Addr) from z) (by simp)) (by simp))
     | some u =>
      rcases hA b (by rw [q];simp) with ⟨_,ob,xs,z⟩ | ⟨c,e'⟩
      .have z2:=un.gU b ob _ z
       obtain ⟨e1,_⟩:=bq b _ z
       obtain ⟨e2,_⟩:=Ar b _ z2
       rw [e] at e1;cases e1
       exact .inl e2
      .obtain ⟨ps,e2,_⟩:=Ar b _ (qT c b e')
       exact .inr ⟨c,ps,e',e2⟩
    refine ⟨rfl,⟨λb o e=>?_,λb o e=>?_⟩,os,bare⟩
    .rcases old b o e with z | ⟨c,ps,e',z⟩
     .exact .inl z
     .obtain ⟨t1,_,t3⟩:=tabs c b e'
      rw [t3] at e;cases e
      exact .inr (.inl ⟨((PySem.W.codeHd_of_K KX t1).tab t3).isCodeTable,rfl,#[],ps,rfl,by rw [Array.empty_append];exact z⟩)
    .rcases old b o e with z | ⟨c,ps,e',z⟩
     .exact ⟨o,z⟩
     .exact ⟨_,z⟩
 have LX:∀(H:Hp) (b:Addr),(∃c,qJ K "dealt" = some (c,b))->bA P w H aV.heap b (.tab tj):=λH b ⟨c,e⟩=>⟨#[],(tabs c b e).2.2,trivial,λpos cv h=>by simp [codeAmong] at h⟩
 have L1:∀c b,qJ K "dealt" = some (c,b)->b≠a:=λc b e z=>by
  have:=(tabs c b e).2.2
  rw [z,ha] at this
  cases this
 cases hk:K.lookup a with
 | some o =>
  have e:=KX a o hk
  rw [ha] at e
  cases e
  refine core (λb=>if (qJ K "dealt").map (·.2)=some b then some (.tab tj) else none) (λc b e=>if_pos (by rw [e];rfl)) (.inr ⟨_,vs.toArray,_,hk,rfl,rfl,rfl,by rw [dG,GH];exact hl,by simpa using rv⟩) (λb u z=>?_) (λb z=>?_) λz=>?_
  .obtain ⟨hc,rfl⟩:=(Pj z)
   obtain ⟨⟨c,b'⟩,e,rfl⟩:=yc.mp hc
   exact LX _ _ ⟨c,e⟩
  .by_cases hc:(qJ K "dealt").map (·.2)=some b
   .obtain ⟨⟨c,b'⟩,e,rfl⟩:=yc.mp hc
    exact .inr ⟨c,e⟩
   .exact absurd (if_neg hc) z
  .by_cases hc:(qJ K "dealt").map (·.2)=some a
   .obtain ⟨⟨c,b'⟩,e,e2⟩:=yc.mp hc
    exact absurd e2 (L1 c b' e)
   .exact absurd (if_neg hc) z
 | none =>
  refine core (λb=>if b=a then some (.lU { cls:=.type "list",data:=.seq vs.toArray } (.lst (ns.map V.int))) else if (qJ K "dealt").map (·.2)=some b then some (.tab tj) else none) (λc b e=>by show (if b=a then _ else _)=_;rw [if_neg (L1 c b e),if_pos (by rw [e];rfl)]) (.inl (.inr ⟨{ cls:=.type "list",data:=.seq vs.toArray },if_pos rfl⟩)) (λb u z=>?_) (λb z=>?_) λ_=>hk
  .by_cases hb:b=a
   .have z':=(if_pos hb).symm.trans z
    cases z'
    subst hb
    exact ⟨ha,by rw [dF];exact hl,vs,_,rv,ha⟩
   .obtain ⟨hc,rfl⟩:=Pj ((if_neg hb).symm.trans z)
    obtain ⟨⟨c,b'⟩,e,rfl⟩:=yc.mp hc
    exact LX _ _ ⟨c,e⟩
  .by_cases hb:b=a
   .exact .inl ⟨hb,_,_,if_pos hb⟩
   .by_cases hc:(qJ K "dealt").map (·.2)=some b
    .obtain ⟨⟨c,b'⟩,e,rfl⟩:=yc.mp hc
     exact .inr ⟨c,e⟩
    .exact absurd ((if_neg hb).trans (if_neg hc)) z
end L2
namespace L2
open PySem PySem.Spec PyProof.Rows
abbrev KOf{K:aI}{h:Heap}(_:K.In h):aI:=K
theorem sT{l:Iq}{n k:Nat}{q:Program}{loose:List Str}{XP:(Str->Option Value)->Heap->Prop}{YP:World->Heap->Prop}{d:DefRec}{K:Params->aI}{CX:World->qx}{sp:World->Sp}{x:Str}{ts:List Addr}
  (hn:l.most=some n)(De:n<=sizeLine)(AE:d.params.defaults=[])(hr:bS k callerA)
  (hY:∀(w:World) (h:Heap),YP w h->(K w.params).In h/\∀P∈ts,h.get? P=some (xN #[]))(hL:∀w:World,Ed (K w.params) ts=true)
  (F:∀(w:World) (mg:Str->Option Value) (fa:Addr) (h:Heap),(K w.params).In h->h.Ns mainGlobals mg->mg d.name=some (.ref fa) ->
   ∃fd:FuncData,(∀(s:Shared) (u:Value),BindsTo s fd ⟨[u],[]⟩ [(x,u)]) /\
    ∀base:Heap,(K w.params).In base->base.Ns mainGlobals mg->bY l.prog w (K w.params) mg base (CX w) k fa fd [x] (sp w))
  (uM:∀(w:World) (H:Hp) (a:Addr) (ns:List Int),ns.length<=n->Tb (K w.params) H->dU (K w.params) H a (ns.map V.int)->sp w [.ref a] H (λv H'=>v=.bl true/\Tb (K w.params) H') λ_ _ _=>False)
  (Hl:∀(w:World) (H:Hp) (s:Shared) (e:Value) (s':Shared),CX w [] H s (λ_ _ _=>False) e s'->False):
  PySem.W.WalkO q loose XP YP l.row.toRowW d [] (λf vs=>HX f vs):=by
 refine QH.n5 hn AE λw cR aV mg mb fa o pm cd doc a vs ns G Y ho hd cu Au v5 hints hlen hg=>?_
 obtain ⟨KX,AI⟩:=hY w _ Y
 obtain ⟨fd,hb,hF⟩:=F w mg fa _ KX G.T.g Au
 exact WN KX G.T.g G.T.b G.T.builtins G.T.nolimit hg G.T.bmain (hL w) AI v5 hints (jZ hlen De) hr hF hb (λH hO hS=>uM w H a ns hlen hO hS) λH e s'=>Hl w H aV e s'
end L2
namespace L2
open PySem PySem.Spec PyProof.Rows
def og(s:Stmt)(j:Nat):Stmt:=match s with
 | .ClassDef _ _ _ body _ _ _ _ _ _ _=>body.getD j (.Pass ⟨0,0,0,0⟩)
 | _=>.Pass ⟨0,0,0,0⟩
def nA(s:Stmt):Arguments:=match s with
 | .FunctionDef _ a _ _ _ _ _ _ _ _=>a
 | _=>{ posonlyargs:=[],args:=[],vararg:=none,kwonlyargs:=[],kw_defaults:=[],kwarg:=none,defaults:=[] }
def il(s:Stmt):List Stmt:=match s with
 | .FunctionDef _ _ b _ _ _ _ _ _ _=>b
 | _=>[]
def df(s:Stmt):Scope:=match s with
 | .FunctionDef _ _ _ _ _ _ sc _ _ _=>sc
 | _=>{ kind:=.function,names:=[],isGenerator:=false,isCoroutine:=false }
abbrev jl:qx:=λ_ _ _ _ _ _=>False
abbrev E0:XK:=λ_ _ _=>False
theorem BM:BX jl X E0:=λ_ _ _ _ _ _ _ h=>h.elim
structure sd(K:aI)(x qual:Str)(st:Stmt)(f:Addr)(fd:FuncData):Prop where
 ex:∃(oc:Value) (od:Option Addr) (kV doc pm:Value) (an:Option Addr) (cX ct:Value) (uH:Array (Option Value)),
  fd=md x qual (nA st) (il st) (df st) .none kV doc pm an cX ct/\K.lookup f=some ⟨oc,od,.func fd,uH⟩/\Bn K cX qual=true
 kp:pS K (.ref f)=true
section
variable {P:Program}{w:World}{K:aI}{mg:Str->Option Value}{base:Heap}
theorem sd.ok{x qual:Str}{st:Stmt}{f:Addr}{fd:FuncData}{N ps:List Str}{k:Nat}{sp:Sp}(F:sd K x qual st f fd)(S:cc N ps (df st))(len:∀vs H Q E,sp vs H Q E->vs.length=ps.length)
  (b7:∀(cX:Value) (A:Around) (outer:List Env) (s:Shared) (H:Hp) (vs:List V) (Q:VK) (E:XK),bS k (A.deeper (envOfC qual (df st) s.heap.objs.size f cX))->sp vs H Q E ->
   ∃t,oG (nh jl P w K mg base N qual (df st) f cX A outer s H E).jm (il st) t/\t { nx:=λ_ H'=>Q .bo H',rt:=Q } (start N vs) H):bY P w K mg base jl (k+1) f fd ps sp:=by
 obtain ⟨oc,od,kV,doc,pm,an,cX,ct,uH,rfl,lk,cu⟩:=F.ex
 refine AU lk cu S len λA outer s H vs Q E hr uM=>?_
 obtain ⟨t,h,q⟩:=b7 cX A outer s H vs Q E hr uM
 exact ⟨t,h.jm,q⟩
theorem sd.binds{x qual:Str}{st:Stmt}{f:Addr}{fd:FuncData}{ps:List Str}(F:sd K x qual st f fd)
  (h:∀(kV doc pm:Value) (an:Option Addr) (cX ct:Value) (us:List Value),us.length=ps.length->bindArgs (md x qual (nA st) (il st) (df st) .none kV doc pm an cX ct) ⟨us,[]⟩=pure (ps.zip us)):Binds K fd ps []:=by
 obtain ⟨oc,od,kV,doc,pm,an,cX,ct,uH,rfl,lk,cu⟩:=F.ex
 exact .all (h kV doc pm an cX ct)
theorem Ey{x qual:Str}{st:Stmt}{f:Addr}{oc:Value}{od an:Option Addr}{uH:Array (Option Value)}{kV doc pm cX ct:Value}(l:K.lookup f=some ⟨oc,od,.func (md x qual (nA st) (il st) (df st) .none kV doc pm an cX ct),uH⟩)
  (c:Bn K cX qual=true)(k:pS K (.ref f)=true):sd K x qual st f (md x qual (nA st) (il st) (df st) .none kV doc pm an cX ct):=⟨⟨oc,od,kV,doc,pm,an,cX,ct,uH,rfl,l,c⟩,k⟩
end
theorem Jq(hr:bS k A):A.units+1<cLine:=Jb (Ng (by decide:1<=64) _) hr.units
section
variable {X:Cx}
theorem pv(i:Nat){x:Str}{pos:Pos}(hN:X.N[i]?=some x:=by rfl)(hv:iJ X.env.scope x:=by first | exact cq rfl | exact bP (cq rfl) | exact bP (bP rfl))(hd:(x==("__debug__":Str))=false:=by decide)
  (cu:(x==("__classdict__":Str))=false:=by decide):PE X (.Name x pos) (yW i):=rY hN hv hd cu
end
def aC(H H':Hp):Prop:=∀b o,H b=some o->H' b=some o
theorem aC.refl(H:Hp):aC H H:=λ_ _ h=>h
theorem aC.trans(a:aC H H1)(b:aC H1 H2):aC H H2:=λc o h=>b c o (a c o h)
theorem aC.free(e:aC H H')(h:H' l=Option.none):H l=Option.none:=by
 cases q:H l with
 | none=>rfl
 | some o =>
  rw [e l o q] at h
  cases h
theorem aC.seq{K:aI}{H H':Hp}{a:Addr}{xs:List V}(e:aC H H')(h:dU K H a xs):dU K H' a xs:=by
 rcases h with (h | ⟨o,h⟩) | h
 .exact .inl (.inl (e _ _ h))
 .exact .inl (.inr ⟨o,e _ _ h⟩)
 .exact .inr h
end L2
set_option maxHeartbeats 4000000
namespace L2
open PySem PySem.Spec PyProof.Rows
section
variable {κ:Type}[DecidableEq κ]
noncomputable def gm(aA:List (κ×V))(k:κ):Option V:=(aA.find? λkv=>decide (kv.1=k)).map (·.2)
noncomputable def putK(aA:List (κ×V))(k:κ)(v:V):List (κ×V):=
 if (aA.any λkv=>decide (kv.1=k))=true then aA.map (λkv=>if kv.1=k then (kv.1,v) else kv) else aA++[(k,v)]
noncomputable def Nw(aA:List (κ×V))(k:κ):List (κ×V):=aA.filter λkv=>decide (kv.1≠k)
theorem J6{p:κ×V}{r:List (κ×V)}{k:κ}(e:p.1=k):gm (p::r) k=some p.2:=by simp [gm,uY,e]
theorem J5{p:κ×V}{r:List (κ×V)}{k:κ}(e:¬p.1=k):gm (p::r) k=gm r k:=by simp [gm,uY,e]
theorem O8(k:κ):∀aA:List (κ×V),(aA.any λkv=>decide (kv.1=k))=(gm aA k).isSome
 | []=>rfl
 | p::r=>by
  rw [Dv]
  by_cases e:p.1=k
  .simp only [J6 e,decide_eq_true e,Bool.true_or,Option.isSome_some]
  .rw [J5 e,decide_eq_false e,Bool.false_or];exact O8 k r
theorem Qe(aA:List (κ×V))(k:κ)(v:V):(putK aA k v).length<=aA.length+1:=by
 unfold putK
 split
 .rw [dF];omega
 .rw [dz,jX,Ip];omega
theorem dP.iW{o:Option V}{u:Option Value}(r:dP o u):o.isSome=u.isSome:=by
 cases o with
 | none=>cases u with
  | none=>rfl
  | some _=>exact (show False from r).elim
 | some _=>cases u with
  | none=>exact (show False from r).elim
  | some _=>rfl
theorem dP.getD{o:Option V}{u:Option Value}{d:V}{d':Value}(r:dP o u)(rd:RelV d d'):RelV (o.getD d) (u.getD d'):=by
 cases o with
 | none=>cases u with
  | none=>exact rd
  | some _=>exact (show False from r).elim
 | some _=>cases u with
  | none=>exact (show False from r).elim
  | some _=>exact r
theorem KV.val{aA:List (κ×V)}{vs:List (κ×Value)}(r:KV aA vs)(k:κ):dP (gm aA k) (valueAt vs k):=by
 unfold KV at r
 induction r with
 | nil=>exact rN
 | @cons p q ps qs h t ih =>
  obtain ⟨h1,h2⟩:=h
  by_cases e:p.1=k
  .have e':q.1=k:=h1.symm.trans e
   have b:valueAt (q::qs) k=some q.2:=by simp [valueAt,uY,e']
   rw [J6 e,b];exact h2
  .have e':¬q.1=k:=λz=>e (h1.trans z)
   have b:valueAt (q::qs) k=valueAt qs k:=by simp [valueAt,uY,e']
   rw [J5 e,b];exact ih
theorem KV.any{aA:List (κ×V)}{vs:List (κ×Value)}(r:KV aA vs)(k:κ):(aA.any λkv=>decide (kv.1=k))=vs.any λkv=>decide (kv.1=k):=by
 unfold KV at r
 induction r with
 | nil=>rfl
 | cons h t ih=>rw [Dv,Dv,ih,h.1]
theorem KV.vG{aA:List (κ×V)}{vs:List (κ×Value)}(r:KV aA vs)(k:κ){y:V}{u:Value}(ry:RelV y u):
  KV (aA.map λkv=>if kv.1=k then (kv.1,y) else kv) (vs.map λkv=>if kv.1=k then (kv.1,u) else kv):=by
 unfold KV at r ⊢
 induction r with
 | nil=>exact .nil
 | @cons p q ps qs h t ih =>
  rw [dE,dE]
  refine .cons ?_ ih
  obtain ⟨h1,h2⟩:=h
  by_cases e:p.1=k
  .rw [if_pos e,if_pos (h1.symm.trans e)];exact ⟨h1,ry⟩
  .rw [if_neg e,if_neg (λz=>e (h1.trans z))];exact ⟨h1,h2⟩
theorem KV.put{aA:List (κ×V)}{vs:List (κ×Value)}(r:KV aA vs)(k:κ){y:V}{u:Value}(ry:RelV y u):KV (putK aA k y) (stored vs k u):=by
 unfold putK stored
 rw [r.any k]
 by_cases e:(vs.any λkv=>decide (kv.1=k))=true
 .rw [if_pos e,if_pos e];exact r.vG k ry
 .rw [if_neg e,if_neg e];exact Paired.snoc r ⟨rfl,ry⟩
theorem KV.drop{aA:List (κ×V)}{vs:List (κ×Value)}(r:KV aA vs)(k:κ):KV (Nw aA k) (without vs k):=by
 unfold KV at r ⊢
 unfold Nw without
 induction r with
 | nil=>exact .nil
 | @cons p q ps qs h t ih =>
  obtain ⟨h1,h2⟩:=h
  rw [List.filter_cons,List.filter_cons]
  by_cases e:p.1=k
  .have a:¬decide (p.1≠k)=true:=by simp [e]
   have b:¬decide (q.1≠k)=true:=by simp [h1.symm.trans e]
   rw [if_neg a,if_neg b];exact ih
  .have e':¬q.1=k:=λz=>e (h1.trans z)
   have a:decide (p.1≠k)=true:=by simp [e]
   have b:decide (q.1≠k)=true:=by simp [e']
   rw [if_pos a,if_pos b];exact .cons ⟨h1,h2⟩ ih
theorem KV.length{aA:List (κ×V)}{vs:List (κ×Value)}(r:KV aA vs):aA.length=vs.length:=Paired.length r
end
theorem Ec{P:Program}{w:World}{k:Key}{u:Value}(r:RelV (kV k) u):(pZ P w).is k u=true:=by
 cases k with
 | inl i=>obtain ⟨t,e⟩:=(show ∃t,u=Bc i t from r);subst e;exact YZ P w i t
 | inr x=>obtain ⟨t,e⟩:=(show ∃t,u=Bb x t from r);subst e;exact Y0 P w x t
theorem Pm{P:Program}{w:World}:∀{ks:List Key} {us:List Value},aB (ks.map kV) us->ItemsAre (pZ P w) ks us
 | [],_,r=>by rw [pU] at r;cases r;exact .nil
 | k::ks,_,r=>by
  rw [dE] at r
  cases r with
  | cons h t=>exact .cons (Ec h) (Pm t)
abbrev KT(H:Hp):List (List Key×V)->List (List Key×Addr×Value)->Prop:=Paired λp q=>p.1=q.1/\H q.2.1=some (.tup (p.1.map kV))/\RelV p.2 q.2.2
theorem KT.val{H:Hp}{aA:List (List Key×V)}{xs:List (List Key×Addr×Value)}(r:KT H aA xs)(k:List Key):dP (gm aA k) ((atKey xs k).map (·.2)):=by
 induction r with
 | nil=>exact rN
 | @cons p q ps qs h t ih =>
  obtain ⟨h1,_,h2⟩:=h
  by_cases e:p.1=k
  .have e':q.1=k:=h1.symm.trans e
   have b:atKey (q::qs) k=some q.2:=by simp [atKey,uY,e']
   rw [J6 e,b];exact h2
  .have e':¬q.1=k:=λz=>e (h1.trans z)
   have b:atKey (q::qs) k=atKey qs k:=by simp [atKey,uY,e']
   rw [J5 e,b];exact ih
theorem KT.vG{H:Hp}{aA:List (List Key×V)}{xs:List (List Key×Addr×Value)}(r:KT H aA xs)(k:List Key){y:V}{u:Value}(ry:RelV y u):
  KT H (aA.map λkv=>if kv.1=k then (kv.1,y) else kv) (xs.map (putAt k u)):=by
 induction r with
 | nil=>exact .nil
 | @cons p q ps qs h t ih =>
  rw [dE,dE]
  refine .cons ?_ ih
  obtain ⟨h1,h2,h3⟩:=h
  unfold putAt
  by_cases e:p.1=k
  .rw [if_pos e,if_pos (h1.symm.trans e)];exact ⟨h1,h2,ry⟩
  .rw [if_neg e,if_neg (λz=>e (h1.trans z))];exact ⟨h1,h2,h3⟩
theorem KT.put{H:Hp}{aA:List (List Key×V)}{xs:List (List Key×Addr×Value)}(r:KT H aA xs)(k:List Key){b:Addr}{y:V}{u:Value}(hb:H b=some (.tup (k.map kV)))(ry:RelV y u):
  KT H (putK aA k y) (storedH xs k b u):=by
 have e:(aA.any λkv=>decide (kv.1=k))=(atKey xs k).isSome:=by
  rw [O8,(r.val k).iW,MI]
 unfold putK storedH
 rw [e]
 by_cases q:(atKey xs k).isSome=true
 .rw [if_pos q,if_pos q];exact r.vG k ry
 .rw [if_neg q,if_neg q];exact Paired.snoc r ⟨rfl,hb,ry⟩
theorem KT.keeps{H H':Hp}{aA:List (List Key×V)}{xs:List (List Key×Addr×Value)}(r:KT H aA xs)(ht:∀b ys,H b=some (.tup ys)->H' b=some (.tup ys)):KT H' aA xs:=
 Paired.vR r λ_ _ z=>⟨z.1,ht _ _ z.2.1,z.2.2⟩
section
variable {P:Program}{w:World}{H:Hp}{h:Heap}{a:Addr}
theorem NI{u:HO}(ok:gj P w H h)(e:Rd H a u):bA P w H h a u:=e.ok ok
theorem BH{aA:List (Key×V)}(ok:gj P w H h)(e:Rd H a (.dK aA)):aA.length<=sizeLine/\(a==sysModules)=false/\∃vs,KV aA vs/\h.DictOf (pZ P w) a vs:=
 show bA P w H h a (.dK aA) from NI ok e
theorem Ji{aA:List (Key×V)}(ok:gj P w H h)(e:H a=some (.dK aA)):aA.length<=sizeLine/\(a==sysModules)=false/\∃vs,KV aA vs/\h.DictOf (pZ P w) a vs:=BH ok (.inl e)
theorem EB{ks:List Key}(ok:gj P w H h)(e:H a=some (.tup (ks.map kV))):(tupleKind (pZ P w)).is h ks a:=by
 obtain ⟨_,av,r,o,h1,h2,n,h3⟩:=(show bA P w H h a (.tup (ks.map kV)) from ok a _ e)
 exact ⟨o,av.toArray,n,h1,h2,h3,by simpa using Pm r⟩
theorem Eg{aA:List (List Key×V)}(ok:gj P w H h)(e:Rd H a (.dT aA)):aA.length<=sizeLine/\(a==sysModules)=false /\
  ∃xs,KT H aA xs/\h.DictOfH (tupleKind (pZ P w)) a xs:=by
 obtain ⟨z,y,xs,r,o,es,ep,h1,h2,h3,h4,h5⟩:=(show bA P w H h a (.dT aA) from NI ok e)
 refine ⟨z,y,xs,r,o,es,ep,h1,h2,h3,h4,λx hx=>?_,h5⟩
 have all:∀{l:List (List Key×V)} {m:List (List Key×Addr×Value)},KT H l m->∀x∈m,(tupleKind (pZ P w)).is h x.1 x.2.1:=by
  intro l m q
  induction q with
  | nil=>intro x hx;exact nomatch hx
  | @cons p q ps qs hq t ih =>
   intro x hx
   rcases cf.mp hx with e | hx
   .subst e
    exact EB ok (by rw [<-hq.1];exact hq.2.1)
   .exact ih x hx
 exact all r x hx
theorem A7{aA:List (List Key×V)}(ok:gj P w H h)(e:H a=some (.dT aA)):aA.length<=sizeLine/\(a==sysModules)=false /\
  ∃xs,KT H aA xs/\h.DictOfH (tupleKind (pZ P w)) a xs:=Eg ok (.inl e)
end
def kY(H:Hp)(a:Addr)(y:V)(r:Option V):Prop:=
 (∃aA k,Rd H a (.dK aA)/\y=kV k/\r=gm aA k)\/∃aA k b,Rd H a (.dT aA)/\y=.ref b/\H b=some (.tup (k.map kV))/\r=gm aA k
def pF(H:Hp)(a:Addr)(y v:V)(H':Hp):Prop:=
 (∃aA k,H a=some (.dK aA)/\y=kV k/\aA.length<sizeLine/\H'=upd H a (.dK (putK aA k v))) \/
 ∃aA k b,H a=some (.dT aA)/\y=.ref b/\H b=some (.tup (k.map kV))/\aA.length<sizeLine/\H'=upd H a (.dT (putK aA k v))
theorem kY.k{H:Hp}{a:Addr}{aA:List (Key×V)}{k:Key}(e:H a=some (.dK aA)):kY H a (kV k) (gm aA k):=.inl ⟨aA,k,.inl e,rfl,rfl⟩
theorem kY.t{H:Hp}{a b:Addr}{aA:List (List Key×V)}{k:List Key}(e:H a=some (.dT aA))(eb:H b=some (.tup (k.map kV))):kY H a (.ref b) (gm aA k):=.inr ⟨aA,k,b,.inl e,rfl,eb,rfl⟩
theorem pF.k{H:Hp}{a:Addr}{aA:List (Key×V)}{k:Key}{v:V}(e:H a=some (.dK aA))(hl:aA.length<sizeLine):pF H a (kV k) v (upd H a (.dK (putK aA k v))):=.inl ⟨aA,k,e,rfl,hl,rfl⟩
theorem pF.t{H:Hp}{a b:Addr}{aA:List (List Key×V)}{k:List Key}{v:V}(e:H a=some (.dT aA))(eb:H b=some (.tup (k.map kV)))(hl:aA.length<sizeLine):
  pF H a (.ref b) v (upd H a (.dT (putK aA k v))):=.inr ⟨aA,k,b,e,rfl,eb,hl,rfl⟩
section
variable {X:Cx}{pins:List (Addr×Obj)}{σ:St}{H:Hp}{s:Shared}{a:Addr}{y v:V}{u r:Value}{o:Option V}{A:Around}{E:Value->Shared->Prop}
theorem Inv.big(I:Inv X pins σ H s):sysModules<s.heap.objs.size:=by
 have h:mainGlobals<s.heap.objs.size:=(I.mod.glob.keeps I.bk).lt
 exact HL (by decide) h
theorem Xh{Q:Value->Shared->Prop}(hu:A.units+1<cLine)(I:Inv X pins σ H s)(g:kY H a y (some v))(ry:RelV y u)(h:∀w' s',Inv X pins σ H s'->RelV v w'->Q w' s'):
  wpAny (model X.prog X.w) A (getItem (.ref a) u) Q E s:=by
 rcases g with ⟨aA,k,e,ey,l⟩ | ⟨aA,k,b,e,ey,eb,l⟩
 .subst ey
  obtain ⟨z,hd,vs,rel,dd⟩:=BH I.bq e
  obtain ⟨w',hw,s9⟩:=dP.some_of (v:=v) (o:=valueAt vs k) (by rw [l];exact rel.val k)
  exact wpAny_getItem_of (Ec ry) dd.mapOf hw (h w' _ (I.tok _) s9)
 .subst ey
  cases (show u=cI b from ry)
  obtain ⟨z,hd,xs,rel,dd⟩:=Eg I.bq e
  obtain ⟨w',hw,s9⟩:=dP.some_of (v:=v) (o:=(atKey xs k).map (·.2)) (by rw [l];exact rel.val k)
  obtain ⟨p,hp,SH⟩:=yc.mp hw
  refine wpAny_getItem_heap (Ja hu) (EB I.bq eb) dd hp ?_
  rw [SH]
  exact h w' _ (I.tok _) s9
theorem Vy{Q:Value->Shared->Prop}(hu:A.units+1<cLine)(I:Inv X pins σ H s)(g:kY H a y o)(ry:RelV y u)(h:∀s',Inv X pins σ H s'->Q (.bool (!o.isSome)) s'):
  wpAny (model X.prog X.w) A (compareOp .NotIn u (.ref a)) Q E s:=by
 rcases g with ⟨aA,k,e,ey,l⟩ | ⟨aA,k,b,e,ey,eb,l⟩
 .subst ey
  obtain ⟨z,hd,vs,rel,dd⟩:=BH I.bq e
  refine wpAny_notIn_of (Ec ry) hd dd.mapOf ?_
  rw [<-(rel.val k).iW,<-l]
  exact h _ (I.tok _)
 .subst ey
  cases (show u=cI b from ry)
  obtain ⟨z,hd,xs,rel,dd⟩:=Eg I.bq e
  refine wpAny_notIn_heap (Ja hu) (EB I.bq eb) hd dd ?_
  have q:=(rel.val k).iW
  rw [MI] at q
  rw [<-q,<-l]
  exact h _ (I.tok _)
theorem Ow{h':Heap}{t':Nat}{ob:HO}(I:Inv X pins σ H s)(mu:CG (H a))(hs:rT a s.heap h')(he:∃q,h'.get? a=some q)(new:bA X.prog X.w (upd H a ob) h' a ob):
  Inv X pins σ (upd H a ob) { s with heap:=h',toks:=t' }:=
 I.write (x:=a) (e:=a) mu (.inl rfl) (λb q hb z=>(hs.2 b hb).trans z) he new
theorem N1{P:Program}{w:World}{H':Hp}{h':Heap}{aA:List (Key×V)}{vs:List (Key×Value)}(z:aA.length<=sizeLine)(hd:(a==sysModules)=false)(rel:KV aA vs)(dd:h'.DictOf (pZ P w) a vs):
  bA P w H' h' a (.dK aA):=⟨z,hd,vs,rel,dd⟩
theorem Xi{H':Hp}{Q:Unit->Shared->Prop}(hu:A.units+1<cLine)(I:Inv X pins σ H s)(g:pF H a y v H')(ry:RelV y u)(rv:RelV v r)(h:∀s',Inv X pins σ H' s'->Q () s'):
  wpAny (model X.prog X.w) A (setItem (.ref a) u r) Q E s:=by
 rcases g with ⟨aA,k,e,ey,l,eH⟩ | ⟨aA,k,b,e,ey,eb,l,eH⟩
 .subst ey eH
  obtain ⟨z,hd,vs,rel,dd⟩:=Ji I.bq e
  have hz:vs.length<=sizeLine:=by rw [<-rel.length];exact z
  have hl:(putK aA k v).length<=sizeLine:=by have:=Qe aA k v;omega
  refine wpAny_setItem_pairs (hsz:=hz) (Ec ry) dd λh' xJ hs=>h _ ?_
  have he:∃q,h'.get? a=some q:=let ⟨q,_,_,hq,_⟩:=xJ;⟨q,hq⟩
  exact Ow I (by rw [e];exact rN) hs he (N1 hl hd (rel.put k rv) xJ)
 .subst ey eH
  cases (show u=cI b from ry)
  obtain ⟨z,hd,xs,rel,dd⟩:=A7 I.bq e
  have hz:xs.length<=sizeLine:=by rw [<-Paired.length rel];exact z
  have hl:(putK aA k v).length<=sizeLine:=by have:=Qe aA k v;omega
  refine wpAny_setItem_heap (hsz:=hz) (Ja hu) (EB I.bq eb) dd λh' xJ hs=>h _ ?_
  obtain ⟨q,es,ep,hq,h2,h3,h4,_,h5⟩:=xJ
  refine Ow I (by rw [e];exact rN) hs ⟨q,hq⟩ ⟨hl,hd,_,(rel.put k eb rv).keeps λc ys ec=>?_,q,es,ep,hq,h2,h3,h4,h5⟩
  rw [da (b3y ec e (λz=>nomatch z))]
  exact ec
end
section
variable {X:Cx}{pins:List (Addr×Obj)}{σ:St}{H:Hp}{s:Shared}{a:Addr}{aA:List (Key×V)}{k:Key}{u:Value}{A:Around}{E:Value->Shared->Prop}
end
def uu(i:Expr):Prop:=∀ov iv,subscripted i false ov iv=operate [ov,iv] (getItem ov iv)
theorem Ww{prog:Program}{w:World}{A:Around}{E:Value->Shared->Prop}{s:Shared}{env:Env}{value slice:Expr}{pos:Pos}{T id:String}{Q:Value->Shared->Prop}
  (hl:typeLookup (.type T) "__getitem__" = pure (some (.builtin id)))(hs:uu slice)
  (h:wpAny (model prog w) A (eval value env) (λo aV=>wpAny (model prog w) A (eval slice env) (λi cY=>cY.TypeIs o T/\wpAny (model prog w) A (getItem o i) Q E cY) E aV) E s):
  wpAny (model prog w) A (eval (.Subscript value slice pos) env) Q E s:=by
 refine Subscript_ (nG h (λo aV h₁=>nG h₁ (λi cY rq=>?_) λ_ _ x=>x) λ_ _ x=>x)
 obtain ⟨hT,rq⟩:=rq
 unfold subscriptTail
 refine aM ?_
 rw [getitemInPython_of_ne hT.not_modules]
 refine aM (wpAny_specialOf hT hl ?_)
 have fin:wpAny (model prog w) A (subscripted slice false o i) (λr nI=>wpAny (model prog w) A (letTemporaryGo value o r >>= λ_=>pure r) Q E nI) E cY:=by
  rw [hs o i]
  exact wpAny_operating (nG rq (λr nI tq=>aM (wpAny_letTemporaryGo (bE tq))) λ_ _ x=>x)
 first
  | exact bE (aM fin)
  | exact aM (bE (aM fin))
  | exact aM fin
theorem Zd{X:Cx}{pins:List (Addr×Obj)}{σ:St}{H:Hp}{s:Shared}{a:Addr}{y:V}{o:Option V}(I:Inv X pins σ H s)(g:kY H a y o):s.TypeIs (.ref a) "dict":=by
 rcases g with ⟨aA,k,e,_,_⟩ | ⟨aA,k,b,e,_,_,_⟩
 .obtain ⟨_,_,vs,_,dd⟩:=BH I.bq e
  exact dd.typeIs
 .obtain ⟨_,_,xs,_,dd⟩:=Eg I.bq e
  exact dd.typeIs
noncomputable def y7(td ty:TE):TE:=λσ H Q=>td σ H λx H1=>ty σ H1 λy H2=>∃a v,x=.ref a/\kY H2 a y (some v)/\Q v H2
noncomputable def JV(ty td:TE):TE:=λσ H Q=>ty σ H λy H1=>td σ H1 λx H2=>∃a o,x=.ref a/\kY H2 a y o/\Q (.bl (!o.isSome)) H2
noncomputable def zm(td ty tv:TE):TS:=λD σ H=>tv σ H λv H1=>td σ H1 λx H2=>ty σ H2 λy H3=>∃a H4,x=.ref a/\pF H3 a y v H4/\D.nx σ H4
section
variable {X:Cx}{o i e value:Expr}{pos pos' FH:Pos}{td ty tv:TE}
theorem VO(hu:X.A.units+1<cLine)(ho:PE X o td)(hi:PE X i ty)(hs:uu i):PE X (.Subscript o i pos) (y7 td ty):=by
 intro pins s σ H Q I h
 refine Ww PySem.F.slot_dict_getitem.lookup hs (bw (ho pins s σ H _ I h) λu s1 ⟨x,H1,I1,rx,q1⟩=>bw (hi pins s1 σ H1 _ I1 q1) λiv s2 ⟨y,H2,I2,ry,a,v,ex,g,q2⟩=>?_)
 subst ex
 obtain rfl:u=cI a:=rx
 exact ⟨Zd I2 g,Xh hu I2 g ry λw' s3 I3 s9=>⟨v,H2,I3,s9,q2⟩⟩
theorem X2(hu:X.A.units+1<cLine)(hi:PE X i ty)(ho:PE X o td):PC X .NotIn i o (JV ty td):=by
 intro pins s σ H Q I h
 refine bw (hi pins s σ H _ I h) λiv s1 ⟨y,H1,I1,ry,q1⟩=>bw (ho pins s1 σ H1 _ I1 q1) λu s2 ⟨x,H2,I2,rx,a,ov,ex,g,q2⟩=>?_
 subst ex
 obtain rfl:u=cI a:=rx
 exact Vy hu I2 g ry λs3 I3=>⟨.bl (!ov.isSome),H2,I3,rfl,q2⟩
theorem VT(hu:X.A.units+1<cLine)(ho:PE X o td)(hi:PE X i ty)(hv:PE X value tv)(hs:swapsWith value (some (.Subscript o i pos')) pos.line X.env=pure false):
  PS X (.Assign [.Subscript o i pos'] value pos) (zm td ty tv):=by
 intro pins s σ H D I h
 refine wpAny_Assign_Subscript (bw (hv pins s σ H _ I h) λr s1 ⟨v,H1,I1,rv,q1⟩=>bw (ho pins s1 σ H1 _ I1 q1) λu s2 ⟨x,H2,I2,rx,q2⟩=>bw (hi pins s2 σ H2 _ I2 q2) λiv s3 ⟨y,H3,I3,ry,a,H4,ex,g,q3⟩=>?_) hs
 subst ex
 obtain rfl:u=cI a:=rx
 exact Xi hu I3 g ry rv λs4 I4=>⟨σ,H4,I4,q3⟩
end
theorem WZ{P:Program}{w:World}{H:Hp}(h:Heap)(hb:sysModules<h.objs.size):bA P w H (h.push { cls:=.type "dict",data:=.dict #[] }) h.objs.size (.dK []):=
 ⟨sr _,beq_eq_false_iff_ne.mpr (jW (dr hb)),[],.nil,Heap.DictOf.new h⟩
noncomputable def UW:TE:=λ_ H Q=>∀p,H p=none->Q (.ref p) (upd H p (.dK []))
section
variable {X:Cx}{pos:Pos}
theorem XH:PE X (.Dict [] [] pos) UW:=λpins s σ H Q I h =>
 wpAny_Dict_empty ⟨.ref s.heap.objs.size,_,I.laid (a:=s.heap.objs.size) (o:=.dK []) (t':=s.toks) (λ_ _ q=>c8 _ q) (bX _) (WZ s.heap I.big),rfl,h _ (I.bq.fresh (bX _))⟩
end
structure M1(X:Cx)(o:Expr)(m:Str)(apos:Pos)(e:Expr)(be:Pos):Prop where
 base:attributeBase o m X.env (eval o X.env)=eval o X.env
 Tq:((backTo be (starEach [e] X.env)).all (λx=>!x.1)&&(backToKw be (keywordEach [] X.env)).all (λx=>x.1.isSome)
  && decide (([e]:List Expr).length+([]:List Keyword).length+(if ([]:List Keyword).isEmpty then 0 else 1)<30))=true
 line:(apos.endLine==be.line)=true
 trees:backTo be (starEach [e] X.env)=[(false,eval e X.env)]
structure M2(X:Cx)(o:Expr)(m:Str)(apos:Pos)(e f:Expr)(be:Pos):Prop where
 base:attributeBase o m X.env (eval o X.env)=eval o X.env
 Tq:((backTo be (starEach [e,f] X.env)).all (λx=>!x.1)&&(backToKw be (keywordEach [] X.env)).all (λx=>x.1.isSome)
  && decide (([e,f]:List Expr).length+([]:List Keyword).length+(if ([]:List Keyword).isEmpty then 0 else 1)<30))=true
 line:(apos.endLine==be.line)=true
 trees:backTo be (starEach [e,f] X.env)=[(false,eval e X.env),(false,eval f X.env)]
section
variable {X:Cx}{pins:List (Addr×Obj)}{σ:St}{H:Hp}{s:Shared}{a:Addr}{y d:V}{u r:Value}{o:Option V}{A:Around}{E:Value->Shared->Prop}
end
section
variable {X:Cx}{o e f:Expr}{apos be:Pos}{td ty tx:TE}
end
section
variable {X:Cx}{pins:List (Addr×Obj)}{σ:St}{H:Hp}{s:Shared}{a:Addr}{aA:List (Key×V)}{A:Around}{E:Value->Shared->Prop}
theorem WY{Q:Value->Shared->Prop}(I:Inv X pins σ H s)(e:Rd H a (.dK aA))(h:∀p s',H p=none->Inv X pins σ (upd H p (.dK aA)) s'->Q (.ref p) s'):wpAny (model X.prog X.w) A (call (.type "dict") [.ref a]) Q E s:=by
 obtain ⟨z,hd,vs,rel,dd⟩:=BH I.bq e
 refine kt_call_dict hd dd (by rw [<-rel.length];exact z) λh' xJ hs=>?_
 refine h _ _ (I.bq.fresh (bX _)) (I.laid (a:=s.heap.objs.size) (o:=.dK aA) (t':=s.toks) (λb q hq=>?_) (bX _) (N1 z (beq_eq_false_iff_ne.mpr (jW (dr I.big))) rel xJ))
 exact (hs.2 b (dr (cE hq))).trans (c8 _ hq)
end
section
variable {X:Cx}{pins:List (Addr×Obj)}{σ:St}{H:Hp}{s:Shared}{a:Addr}{y:V}{u:Value}{A:Around}{E:Value->Shared->Prop}
end
end L2
namespace DL
open PySem PySem.Spec PyProof.Rows L2
section
variable {prog:Program}{w:World}{A:Around}{E:Value->Shared->Prop}{s:Shared}
theorem WW{ws:List Value}(ht:IsTup s.heap t #[])(hb:IsTup s.heap b ws.toArray)(h1:Q (.ref b) s):wpAny (model prog w) A (binaryOp .Add (.ref t) (.ref b)) Q E s:=by
 obtain ⟨⟨cls,dd,data,sl⟩,ho,hc,n,hd⟩:=id ht
 obtain ⟨⟨HI,Dq,data2,zg⟩,v7,AG,n2,hd2⟩:=id hb
 simp only at hc hd AG hd2
 subst hc hd AG hd2
 exact concat_meets ⟨_,ho,rfl⟩ ⟨_,v7,rfl⟩ IB HU IE IJ (IM _ _)
   (tuple_addW0 t b #[] ws.toArray n n2 dd Dq sl zg rfl) ⟨ho,v7,h1⟩
end
section
variable {X:Cx}
noncomputable def zE(K:aI):R2:=λx y H Q=>∃a b ys,x=.ref a/\y=.ref b/\gc K H a []/\gc K H b ys/\Q (.ref b) H
theorem VI:jr X (binaryOp .Add) (zE X.K):=by
 intro pins s σ H x y v u Q I rx ry h
 obtain ⟨a,b,ys,rfl,rfl,ha,hb,q1⟩:=h
 cases rx
 cases ry
 obtain ⟨av,r1,p1,_⟩:=I.tuple ha
 obtain ⟨cZ,r2,p2,_⟩:=I.tuple hb
 cases r1
 exact WW p1 p2 ⟨.ref b,H,I,rfl,q1⟩
end
end DL
namespace DL
open PySem PySem.Spec PyProof.Rows L2
inductive D where
 | bo | bl (b:Bool) | int (i:Int) | str (x:Str) | tup (ds:List D) | lst (ro:Bool) (ds:List D) | exc (n:Str) | iH (fz:Bool) (aA:List (Int×Int))
 | obj (c:Str) (ns:List Str) (ds:List D) | cH (ks:List Str) (ds:List D)
 deriving Inhabited
inductive Sl where
 | no | sh (d:D) | ow (ds:List D) | dw (aA:List (Int×Int)) | tw (ks:List Str) (ds:List D)
 deriving Inhabited
noncomputable abbrev En:=List Sl
noncomputable def Sl.d:Sl->D
 | .no=>.bo
 | .sh d=>d
 | .ow ds=>.lst false ds
 | .dw aA=>.iH false aA
 | .tw ks ds=>.cH ks ds
def HH(p C:Addr)(h:Heap):Prop:=∃o,h.get? p=some o/\o.cls=.ref C
noncomputable abbrev wC(ks:List Str)(vs:List V):HO:=.dK ((ks.zip vs).map λq=>(.inr q.1,q.2))
mutual
inductive Is (K:aI) (O:Addr->Prop) (H:Hp):V->D->Prop
 | bo:Is K O H .bo .bo
 | bl (b:Bool):Is K O H (.bl b) (.bl b)
 | int (i:Int):Is K O H (.int i) (.int i)
 | str (x:Str):Is K O H (.str x) (.str x)
 | tup {p:Addr} {xs:List V} {ds:List D} (ho:¬O p) (hp:Rd H p (.tup xs)) (hs:aR K O H xs ds):Is K O H (.ref p) (.tup ds)
 | lK {p:Addr} {xs:List V} {ds:List D} (hp:gc K (λ_=>none) p xs) (hs:aR K O H xs ds):Is K O H (.ref p) (.tup ds)
 | lst {p:Addr} {xs:List V} {ds:List D} (ho:¬O p) (hp:H p=some (.lst xs)) (hs:aR K O H xs ds):Is K O H (.ref p) (.lst false ds)
 | mJ {p:Addr} {xs:List V} {ds:List D} (ho:¬O p) (hp:Rd H p (.lst xs)) (hs:aR K O H xs ds):Is K O H (.ref p) (.lst true ds)
 | mQ {p:Addr} {xs:List V} {ds:List D} (hp:dU K (λ_=>none) p xs) (hs:aR K O H xs ds):Is K O H (.ref p) (.lst true ds)
 | exc {p C:Addr} {n:Str} (ho:¬O p) (hn:gg K mainGlobals n=some (some (.ref C))) (hp:H p=some (.ext (HH p C))):Is K O H (.ref p) (.exc n)
 | iH {p:Addr} {aA:List (Int×Int)} (ho:¬O p) (hp:H p=some (.dK (aA.map λq=>(.inl q.1,.int q.2)))):Is K O H (.ref p) (.iH false aA)
 | qf {p:Addr} {aA:List (Int×Int)} {o:Obj} (ho:¬O p) (hp:H p=some (.lU o (.dK (aA.map λq=>(.inl q.1,.int q.2))))):Is K O H (.ref p) (.iH true aA)
 | obj {p C dx:Addr} {c:Str} {ns:List Str} {vs:List V} {ds:List D} (ho:¬O p) (hn:gg K mainGlobals c=some (some (.ref C))) (hp:H p=some (.ins C dx (ns.zip vs))) (hl:ns.length=vs.length) (hs:aR K O H vs ds):Is K O H (.ref p) (.obj c ns ds)
 | cH {p:Addr} {ks:List Str} {vs:List V} {ds:List D} (ho:¬O p) (hp:H p=some (wC ks vs)) (hl:ks.length=vs.length) (hs:aR K O H vs ds):Is K O H (.ref p) (.cH ks ds)
inductive aR (K:aI) (O:Addr->Prop) (H:Hp):List V->List D->Prop
 | nil:aR K O H [] []
 | cons {x:V} {d:D} {xs:List V} {ds:List D} (h:Is K O H x d) (t:aR K O H xs ds):aR K O H (x::xs) (d::ds)
end
theorem NS{O:Addr->Prop}{H H':Hp}(hH:∀q u,H q=some u->¬O q->H' q=some u){p:Addr}{u:HO}(ho:¬O p)(h:Rd H p u):Rd H' p u:=by
 rcases h with h | ⟨o,h⟩
 .exact .inl (hH p u h ho)
 .exact .inr ⟨o,hH p _ h ho⟩
theorem OA(h:Rd H p u):H p≠none:=by
 rcases h with h | ⟨o,h⟩<;>rw [h]<;>exact λz=>nomatch z
theorem Ce{K:aI}{H:Hp}{p:Addr}{xs:List V}(h:dU K (λ_=>none) p xs):dU K H p xs:=by
 rcases h with (h | ⟨o,h⟩) | h
 .cases h
 .cases h
 .exact .inr h
theorem Cf{K:aI}{H:Hp}{p:Addr}{xs:List V}(h:gc K (λ_=>none) p xs):gc K H p xs:=by
 rcases h with (h | ⟨o,h⟩) | h
 .cases h
 .cases h
 .exact .inr h
section
variable {K:aI}{O O':Addr->Prop}{H H':Hp}
mutual
theorem Is.map(hO:∀q,H q≠none->¬O q->¬O' q)(hH:∀q u,H q=some u->¬O q->H' q=some u):∀{v:V} {d:D},Is K O H v d->Is K O' H' v d
 | _,_,.bo=>.bo
 | _,_,.bl b=>.bl b
 | _,_,.int i=>.int i
 | _,_,.str x=>.str x
 | _,_,.tup ho hp hs=>.tup (hO _ (OA hp) ho) (NS hH ho hp) (aR.map hO hH hs)
 | _,_,.lK hp hs=>.lK hp (aR.map hO hH hs)
 | _,_,.lst ho hp hs=>.lst (hO _ (by rw [hp];exact λz=>nomatch z) ho) (hH _ _ hp ho) (aR.map hO hH hs)
 | _,_,.mJ ho hp hs=>.mJ (hO _ (OA hp) ho) (NS hH ho hp) (aR.map hO hH hs)
 | _,_,.mQ hp hs=>.mQ hp (aR.map hO hH hs)
 | _,_,.exc ho hn hp=>.exc (hO _ (by rw [hp];exact λz=>nomatch z) ho) hn (hH _ _ hp ho)
 | _,_,.iH ho hp=>.iH (hO _ (by rw [hp];exact λz=>nomatch z) ho) (hH _ _ hp ho)
 | _,_,.qf ho hp=>.qf (hO _ (by rw [hp];exact λz=>nomatch z) ho) (hH _ _ hp ho)
 | _,_,.obj ho hn hp hl hs=>.obj (hO _ (by rw [hp];exact λz=>nomatch z) ho) hn (hH _ _ hp ho) hl (aR.map hO hH hs)
 | _,_,.cH ho hp hl hs=>.cH (hO _ (by rw [hp];exact λz=>nomatch z) ho) (hH _ _ hp ho) hl (aR.map hO hH hs)
theorem aR.map(hO:∀q,H q≠none->¬O q->¬O' q)(hH:∀q u,H q=some u->¬O q->H' q=some u):∀{v:List V} {d:List D},aR K O H v d->aR K O' H' v d
 | _,_,.nil=>.nil
 | _,_,.cons h t=>.cons (Is.map hO hH h) (aR.map hO hH t)
end
theorem Is.grow(s:aC H H')(h:Is K O H v d):Is K O H' v d:=h.map (λ_ _ z=>z) λq u e _=>s q u e
theorem aR.grow(s:aC H H')(h:aR K O H v d):aR K O H' v d:=h.map (λ_ _ z=>z) λq u e _=>s q u e
theorem Is.less(hO:∀q,O' q->O q)(h:Is K O H v d):Is K O' H v d:=h.map (λ_ _ z w=>z (hO _ w)) λ_ _ e _=>e
theorem aR.less(hO:∀q,O' q->O q)(h:aR K O H v d):aR K O' H v d:=h.map (λ_ _ z w=>z (hO _ w)) λ_ _ e _=>e
theorem aR.length:∀{v:List V} {d:List D},aR K O H v d->v.length=d.length
 | _,_,.nil=>rfl
 | _,_,.cons _ t=>by rw [jX,jX,aR.length t]
theorem aR.append:∀{v w:List V} {d e:List D},aR K O H v d->aR K O H w e->aR K O H (v++w) (d++e)
 | _,_,_,_,.nil,s=>s
 | _,_,_,_,.cons h t,s=>.cons h (aR.append t s)
theorem aR.get:∀{v:List V} {ds:List D} {i:Nat} {d:D},aR K O H v ds->ds[i]?=some d->∃x,v[i]?=some x/\Is K O H x d
 | _,_,_,_,.nil,e=>by simp at e
 | _,_,0,_,.cons h _,e=>by simp at e;subst e;exact ⟨_,rfl,h⟩
 | _,_,i+1,d,.cons _ t,e=>by
  obtain ⟨u,h1,h2⟩:=aR.get (i:=i) (d:=d) t (by simpa using e)
  exact ⟨u,by simpa using h1,h2⟩
theorem aR.wc:∀{v:List V} {ds:List D} {i:Nat} {x:V},aR K O H v ds->v[i]?=some x->∃d,ds[i]?=some d/\Is K O H x d
 | _,_,_,_,.nil,e=>by simp at e
 | _,_,0,_,.cons h _,e=>by simp at e;subst e;exact ⟨_,rfl,h⟩
 | _,_,i+1,d,.cons _ t,e=>by
  obtain ⟨u,h1,h2⟩:=aR.wc (i:=i) (x:=d) t (by simpa using e)
  exact ⟨u,by simpa using h1,h2⟩
theorem aR.take:∀{v:List V} {d:List D} (n:Nat),aR K O H v d->aR K O H (v.take n) (d.take n)
 | _,_,0,_=>.nil
 | _,_,_+1,.nil=>.nil
 | _,_,n+1,.cons h t=>.cons h (aR.take n t)
theorem aR.drop:∀{v:List V} {d:List D} (n:Nat),aR K O H v d->aR K O H (v.drop n) (d.drop n)
 | _,_,0,h=>h
 | _,_,_+1,.nil=>.nil
 | _,_,n+1,.cons _ t=>aR.drop n t
theorem aR.set(h:Is K O H x d):∀{v:List V} {ds:List D} (n:Nat),aR K O H v ds->aR K O H (v.set n x) (ds.set n d)
 | _,_,_,.nil=>.nil
 | _,_,0,.cons _ t=>.cons h t
 | _,_,n+1,.cons h' t=>.cons h' (aR.set h n t)
theorem aR.dt(h:aR K O H v ds)(e:L2.dt ds i=some d):∃x,L2.dt v i=some x/\Is K O H x d:=by
 unfold L2.dt at e ⊢
 rw [h.length]
 cases q:lO ds.length i with
 | none=>rw [q] at e;cases e
 | some j =>
  rw [q] at e
  exact h.get e
theorem aR.dropLast(h:aR K O H v d):aR K O H v.dropLast d.dropLast:=by
 rw [M5,M5,h.length]
 exact h.take _
theorem aR.ints:∀(ns:List Int),aR K O H (ns.map V.int) (ns.map D.int)
 | []=>.nil
 | n::r=>.cons (.int n) (aR.ints r)
def Sq(K:aI)(H:Hp)(k:Bool)(p:Addr)(xs:List V):Prop:=if k=true then dU K H p xs else gc K H p xs
noncomputable def e7:D->Option (Bool×List D)
 | .tup ds=>some (false,ds)
 | .lst _ ds=>some (true,ds)
 | _=>none
theorem Is.seq(h:Is K O H v d)(e:e7 d=some (k,ds)):∃p xs,v=.ref p/\Sq K H k p xs/\aR K O H xs ds:=by
 cases h with
 | tup ho hp hs=>cases e;exact ⟨_,_,rfl,.inl hp,hs⟩
 | lK hp hs=>cases e;exact ⟨_,_,rfl,Cf hp,hs⟩
 | lst ho hp hs=>cases e;exact ⟨_,_,rfl,.inl (.inl hp),hs⟩
 | mJ ho hp hs=>cases e;exact ⟨_,_,rfl,.inl hp,hs⟩
 | mQ hp hs=>cases e;exact ⟨_,_,rfl,Ce hp,hs⟩
 | _=>cases e
end
theorem Sq.grow{K:aI}{H H':Hp}{k:Bool}{p:Addr}{xs:List V}(s:aC H H')(h:Sq K H k p xs):Sq K H' k p xs:=by
 cases k with
 | true =>
  rcases h with (h | ⟨o,h⟩) | h
  .exact .inl (.inl (s _ _ h))
  .exact .inl (.inr ⟨o,s _ _ h⟩)
  .exact .inr h
 | false =>
  rcases h with (h | ⟨o,h⟩) | h
  .exact .inl (.inl (s _ _ h))
  .exact .inl (.inr ⟨o,s _ _ h⟩)
  .exact .inr h
noncomputable def Sl.own:Sl->Prop
 | .ow _=>True
 | .dw _=>True
 | .tw _ _=>True
 | _=>False
noncomputable abbrev HC(aA:List (Int×Int)):HO:=.dK (aA.map λq=>(.inl q.1,.int q.2))
def mo(σ:L2.St)(env:En)(p:Addr):Prop:=∃(i:Nat) (s:Sl),env[i]?=some s/\s.own/\σ[i]?=some (some (V.ref p))
abbrev OO(O:Addr->Prop)(σ:L2.St)(env:En)(q:Addr):Prop:=O q\/mo σ env q
theorem _root_.L2.Tb.grow{K:aI}{H H':Hp}(s:aC H H')(h:Tb K H):Tb K H':=λc P e=>s _ _ (h c P e)
def uz(K:aI)(O:Addr->Prop)(H:Hp):Prop:=(∀q,O q->H q≠none)/\Tb K H
theorem uz.grow{K:aI}{O:Addr->Prop}{H H':Hp}(s:aC H H')(h:uz K O H):uz K O H':=⟨λq hq hn=>h.1 q hq (s.free hn),h.2.grow s⟩
structure Rel(K:aI)(O:Addr->Prop)(B:Hp)(σ:L2.St)(H:Hp)(env:En):Prop where
 same:aC B H
 o6:uz K O B
 len:σ.length=env.length
 sh:∀(i:Nat) (d:D),env[i]?=some (Sl.sh d)->∃v,σ[i]?=some (some v)/\Is K (OO O σ env) H v d
 ow:∀(i:Nat) (ds:List D),env[i]?=some (Sl.ow ds)->∃p xs,σ[i]?=some (some (V.ref p))/\B p=none/\H p=some (.lst xs)/\aR K (OO O σ env) H xs ds
 dw:∀(i:Nat) (aA:List (Int×Int)),env[i]?=some (Sl.dw aA)->∃p,σ[i]?=some (some (V.ref p))/\B p=none/\H p=some (HC aA)
 tw:∀(i:Nat) (ks:List Str) (ds:List D),env[i]?=some (Sl.tw ks ds)->∃p vs,σ[i]?=some (some (V.ref p))/\B p=none/\H p=some (wC ks vs)/\ks.length=vs.length/\aR K (OO O σ env) H vs ds
 sep:∀(i j:Nat) (ds es:Sl) (p:Addr),env[i]?=some ds->env[j]?=some es->σ[i]?=some (some (V.ref p))->σ[j]?=some (some (V.ref p))->ds.own->es.own->i=j
noncomputable def Res(K:aI)(O:Addr->Prop)(B H:Hp)(v:V):Sl->Prop
 | .no=>False
 | .sh d=>Is K O H v d
 | .ow ds=>∃p xs,v=.ref p/\B p=none/\H p=some (.lst xs)/\aR K (λq=>O q\/q=p) H xs ds
 | .dw aA=>∃p,v=.ref p/\B p=none/\H p=some (HC aA)
 | .tw ks ds=>∃p vs,v=.ref p/\B p=none/\H p=some (wC ks vs)/\ks.length=vs.length/\aR K (λq=>O q\/q=p) H vs ds
section
variable {K:aI}{O:Addr->Prop}{B H H' H1:Hp}{σ:L2.St}{env:En}{v:V}{r:Sl}
theorem Rel.ad(R:Rel K O B σ H env){i:Nat}{s:Sl}(h:env[i]?=some s)(ho:s.own):∃p u,σ[i]?=some (some (V.ref p))/\B p=none/\H p=some u:=by
 cases s with
 | ow ds=>obtain ⟨p,xs,e1,e2,e3,_⟩:=R.ow i ds h;exact ⟨p,_,e1,e2,e3⟩
 | dw aA=>obtain ⟨p,e1,e2,e3⟩:=R.dw i aA h;exact ⟨p,_,e1,e2,e3⟩
 | tw ks ds=>obtain ⟨p,vs,e1,e2,e3,_⟩:=R.tw i ks ds h;exact ⟨p,_,e1,e2,e3⟩
 | no=>exact ho.elim
 | sh d=>exact ho.elim
theorem Rel.oo(R:Rel K O B σ H env)(h:OO O σ env q):H q≠none:=by
 rcases h with h | ⟨i,s,h1,ho,h2⟩
 .intro z
  exact R.o6.1 q h (R.same.free z)
 .obtain ⟨p,u,e1,_,e3⟩:=R.ad h1 ho
  rw [h2] at e1
  cases e1
  rw [e3];exact λz=>nomatch z
theorem Rel.dm(R:Rel K O B σ H env):uz K (OO O σ env) H:=⟨λ_=>R.oo,R.o6.2.grow R.same⟩
theorem Rel.grow(R:Rel K O B σ H env)(s:aC H H'):Rel K O B σ H' env where
 same:=R.same.trans s
 o6:=R.o6
 len:=R.len
 sh:=λi d e=>let ⟨v,e1,h⟩:=R.sh i d e;⟨v,e1,h.grow s⟩
 ow:=λi ds e=>let ⟨p,xs,e1,e2,e3,h⟩:=R.ow i ds e;⟨p,xs,e1,e2,s _ _ e3,h.grow s⟩
 dw:=λi aA e=>let ⟨p,e1,e2,e3⟩:=R.dw i aA e;⟨p,e1,e2,s _ _ e3⟩
 tw:=λi ks ds e=>let ⟨p,vs,e1,e2,e3,e4,h⟩:=R.tw i ks ds e;⟨p,vs,e1,e2,s _ _ e3,e4,h.grow s⟩
 sep:=R.sep
theorem Res.grow(s:aC H H')(h:Res K O B H v r):Res K O B H' v r:=by
 cases r with
 | no=>exact h
 | sh d=>exact Is.grow s h
 | ow ds=>obtain ⟨p,xs,e1,e2,e3,h⟩:=h;exact ⟨p,xs,e1,e2,s _ _ e3,h.grow s⟩
 | dw aA=>obtain ⟨p,e1,e2,e3⟩:=h;exact ⟨p,e1,e2,s _ _ e3⟩
 | tw ks ds=>obtain ⟨p,vs,e1,e2,e3,e4,h⟩:=h;exact ⟨p,vs,e1,e2,s _ _ e3,e4,h.grow s⟩
theorem Res.from(s:aC H1 B)(h:Res K O B H v r):Res K O H1 H v r:=by
 cases r with
 | no=>exact h
 | sh d=>exact h
 | ow ds=>obtain ⟨p,xs,e1,e2,e3,h⟩:=h;exact ⟨p,xs,e1,s.free e2,e3,h⟩
 | dw aA=>obtain ⟨p,e1,e2,e3⟩:=h;exact ⟨p,e1,s.free e2,e3⟩
 | tw ks ds=>obtain ⟨p,vs,e1,e2,e3,e4,h⟩:=h;exact ⟨p,vs,e1,s.free e2,e3,e4,h⟩
theorem Res.less(hO:∀q,O' q->O q)(h:Res K O B H v r):Res K O' B H v r:=by
 cases r with
 | no=>exact h
 | sh d=>exact Is.less hO h
 | ow ds=>obtain ⟨p,xs,e1,e2,e3,h⟩:=h;exact ⟨p,xs,e1,e2,e3,h.less λq z=>z.elim (λw=>.inl (hO _ w)) .inr⟩
 | dw aA=>exact h
 | tw ks ds=>obtain ⟨p,vs,e1,e2,e3,e4,h⟩:=h;exact ⟨p,vs,e1,e2,e3,e4,h.less λq z=>z.elim (λw=>.inl (hO _ w)) .inr⟩
theorem Res.is(hd:∀q,O q->B q≠none)(h:Res K O B H v r):Is K O H v r.d:=by
 cases r with
 | no=>exact h.elim
 | sh d=>exact h
 | ow ds =>
  obtain ⟨p,xs,rfl,e2,e3,h⟩:=h
  exact .lst (λz=>hd p z e2) e3 (h.less λ_=>.inl)
 | dw aA =>
  obtain ⟨p,rfl,e2,e3⟩:=h
  exact .iH (λz=>hd p z e2) e3
 | tw ks ds =>
  obtain ⟨p,vs,rfl,e2,e3,e4,h⟩:=h
  exact .cH (λz=>hd p z e2) e3 e4 (h.less λ_=>.inl)
end
def EV(X:Cx)(e:Expr)(f:En->Option Sl):Prop:=
 ∃t:TE,PE X e t/\∀(O:Addr->Prop) (B:Hp) (σ:L2.St) (H:Hp) (env:En) (r:Sl) (Q:VK),Rel X.K O B σ H env->f env=some r ->
  (∀v H',aC H H'->Res X.K (OO O σ env) H H' v r->Q v H')->t σ H Q
def BV(X:Cx)(e:Expr)(f:En->Option (Bool×List D)):Prop:=
 ∃t:TE,PE X e t/\∀(O:Addr->Prop) (B:Hp) (σ:L2.St) (H:Hp) (env:En) (k:Bool) (ds:List D) (Q:VK),Rel X.K O B σ H env->f env=some (k,ds) ->
  (∀p xs H',aC H H'->Sq X.K H' k p xs->aR X.K (OO O σ env) H' xs ds->Q (.ref p) H')->t σ H Q
def AV(X:Cx)(es:List Expr)(f:En->Option (List D)):Prop:=
 ∃t:TA,PA X es t/\∀(O:Addr->Prop) (B:Hp) (σ:L2.St) (H:Hp) (env:En) (ds:List D) (Q:List V->Hp->Prop),Rel X.K O B σ H env->f env=some ds ->
  (∀vs H',aC H H'->aR X.K (OO O σ env) H' vs ds->Q vs H')->t σ H Q
def TV(X:Cx)(e:Expr)(f:En->Option Bool):Prop:=
 ∃t:TT,PT X e t/\∀(O:Addr->Prop) (B:Hp) (σ:L2.St) (H:Hp) (env:En) (b:Bool) (Q:Bool->Hp->Prop),Rel X.K O B σ H env->f env=some b ->
  (∀H',aC H H'->Q b H')->t σ H Q
def WV(X:Cx)(e:Expr)(f:En->Option Bool):Prop:=
 ∃t:TT,PW X e t/\∀(O:Addr->Prop) (B:Hp) (σ:L2.St) (H:Hp) (env:En) (b:Bool) (Q:Bool->Hp->Prop),Rel X.K O B σ H env->f env=some b ->
  (∀H',aC H H'->Q b H')->t σ H Q
inductive Fl where
 | nx | bk | ct | rt (r:Sl)
def Gd(σ:L2.St)(env:En)(H:Hp)(aX:L2.St)(ah:En)(H':Hp):Prop:=∀q u,H q=some u->¬mo σ env q->H' q=some u/\¬mo aX ah q
theorem Gd.trans(a:Gd σ env H kZ cz H1)(b:Gd kZ cz H1 dg b8 H2):Gd σ env H dg b8 H2:=λq u e n =>
 let ⟨e1,n1⟩:=a q u e n
 b q u e1 n1
theorem Gd.from(s:aC H H1)(b:Gd σ env H1 aX ah H'):Gd σ env H aX ah H':=λq u e n=>b q u (s _ _ e) n
theorem Gd.refl(s:aC H H'):Gd σ env H σ env H':=λq u e n=>⟨s _ _ e,n⟩
noncomputable def dH(K:aI)(O:Addr->Prop)(B:Hp)(σ:L2.St)(H:Hp)(env:En)(D:Ends):Fl->En->Prop
 | .nx,ah=>∀aX H',Rel K O B aX H' ah->Gd σ env H aX ah H'->D.nx aX H'
 | .bk,ah=>∀aX H',Rel K O B aX H' ah->Gd σ env H aX ah H'->D.bk aX H'
 | .ct,ah=>∀aX H',Rel K O B aX H' ah->Gd σ env H aX ah H'->D.ct aX H'
 | .rt r,_=>∀v H',aC B H'->Res K O B H' v r->D.rt v H'
theorem dH.from{K:aI}{O:Addr->Prop}{B:Hp}{σ kZ:L2.St}{H H1:Hp}{env cz:En}{D:Ends}{fl:Fl}{ah:En}(g:Gd σ env H kZ cz H1)(h:dH K O B σ H env D fl ah):dH K O B kZ H1 cz D fl ah:=by
 cases fl with
 | nx=>exact λaX H' R g'=>h aX H' R (g.trans g')
 | bk=>exact λaX H' R g'=>h aX H' R (g.trans g')
 | ct=>exact λaX H' R g'=>h aX H' R (g.trans g')
 | rt r=>exact h
noncomputable abbrev SF:=En->Option (Fl×En)
def SV(X:Cx)(st:Stmt)(F:SF):Prop:=
 ∃t:TS,PS X st t/\∀(O:Addr->Prop) (B:Hp) (σ:L2.St) (H:Hp) (env:En) (fl:Fl) (ah:En) (D:Ends),Rel X.K O B σ H env->F env=some (fl,ah)->dH X.K O B σ H env D fl ah->t D σ H
def oq(X:Cx)(st:List Stmt)(F:SF):Prop:=
 ∃t:TS,oG X st t/\∀(O:Addr->Prop) (B:Hp) (σ:L2.St) (H:Hp) (env:En) (fl:Fl) (ah:En) (D:Ends),Rel X.K O B σ H env->F env=some (fl,ah)->dH X.K O B σ H env D fl ah->t D σ H
section
variable {X:Cx}{a b c:Expr}{pos:Pos}{fa fb fc:En->Option Sl}
noncomputable def eC(d:D):En->Option Sl:=λ_=>some (.sh d)
theorem aH{i j pos}:EV X (.Constant (.int i) j pos) (eC (.int i)):=⟨_,U8,λ_ _ _ _ _ _ _ _ e k=>by
 obtain rfl:=dh e
 exact k _ _ (aC.refl _) (Is.int i)⟩
theorem Ju{i j pos}:EV X (.Constant (.bool i) j pos) (eC (.bl i)):=⟨_,zL,λ_ _ _ _ _ _ _ _ e k=>by
 obtain rfl:=dh e
 exact k _ _ (aC.refl _) (Is.bl i)⟩
theorem qO{j pos}:EV X (.Constant .none j pos) (eC .bo):=⟨_,U',λ_ _ _ _ _ _ _ _ e k=>by
 obtain rfl:=dh e
 exact k _ _ (aC.refl _) Is.bo⟩
theorem d9{x j pos}:EV X (.Constant (.str x) j pos) (eC (.str x)):=⟨_,Vc,λ_ _ _ _ _ _ _ _ e k=>by
 obtain rfl:=dh e
 exact k _ _ (aC.refl _) (Is.str x)⟩
noncomputable def CS:Option Sl->Option Sl
 | some (.sh d)=>some (.sh d)
 | _=>none
theorem Xw(h:CS o=some r):∃d,o=some (Sl.sh d)/\r=.sh d:=by
 cases o with
 | none=>cases h
 | some s=>cases s with
  | sh d=>cases h;exact ⟨d,rfl,rfl⟩
  | no=>cases h
  | ow ds=>cases h
  | dw ds=>cases h
  | tw _ _=>cases h
noncomputable def eV(i:Nat):En->Option Sl:=λenv=>CS env[i]?
theorem N5(i:Nat)(hN:X.N[i]?=some x:=by rfl)(hv:iJ X.env.scope x:=by first | exact cq rfl | exact bP (cq rfl) | exact bP (bP rfl))(hd:(x==("__debug__":Str))=false:=by decide)
  (cu:(x==("__classdict__":Str))=false:=by decide):EV X (.Name x pos) (eV i):=⟨_,rY hN hv hd cu,λO B σ H env r Q R e k=>by
 obtain ⟨d,e1,rfl⟩:=Xw e
 obtain ⟨v,e2,h⟩:=R.sh i d e1
 exact ⟨v,e2,k v H (aC.refl _) h⟩⟩
noncomputable def vF:Option Sl->Option (Bool×List D)
 | some (.sh d)=>e7 d
 | some (.ow ds)=>some (true,ds)
 | _=>none
noncomputable def bV(i:Nat):En->Option (Bool×List D):=λenv=>vF env[i]?
theorem UH(i:Nat)(hN:X.N[i]?=some x:=by rfl)(hv:iJ X.env.scope x:=by first | exact cq rfl | exact bP (cq rfl) | exact bP (bP rfl))(hd:(x==("__debug__":Str))=false:=by decide)
  (cu:(x==("__classdict__":Str))=false:=by decide):BV X (.Name x pos) (bV i):=⟨_,rY hN hv hd cu,λO B σ H env k ds Q R e q=>by
 unfold bV at e
 cases h:env[i]? with
 | none=>rw [h] at e;cases e
 | some s =>
  rw [h] at e
  cases s with
  | no=>cases e
  | sh d =>
   obtain ⟨v,e2,hv⟩:=R.sh i d h
   obtain ⟨p,xs,rfl,h1,h2⟩:=hv.seq (show e7 d=some (k,ds) from e)
   exact ⟨_,e2,q p xs H (aC.refl _) h1 h2⟩
  | dw es=>cases e
  | tw _ _=>cases e
  | ow es =>
   obtain ⟨rfl,rfl⟩:true=k/\es=ds:=Prod.mk.inj (dh e)
   obtain ⟨p,xs,e2,_,e3,h2⟩:=R.ow i es h
   exact ⟨_,e2,q p xs H (aC.refl _) (.inl (.inl e3)) h2⟩⟩
noncomputable def jn(f:En->Option Sl):En->Option (Bool×List D):=λenv=>(f env).bind λr=>e7 r.d
theorem bind_some{α β:Type}{o:Option α}{f:α->Option β}{b:β}(h:o.bind f=some b):∃a,o=some a/\f a=some b:=by
 cases o with
 | none=>cases h
 | some a=>exact ⟨a,rfl,h⟩
theorem kF(h:EV X a fa):BV X a (jn fa):=by
 obtain ⟨t,ht,p⟩:=h
 refine ⟨t,ht,λO B σ H env k ds Q R e q=>?_⟩
 obtain ⟨r,e1,e2⟩:=bind_some e
 refine p O B σ H env r _ R e1 λv H' s h=>?_
 obtain ⟨p,xs,rfl,h1,h2⟩:=(h.is (λz=>R.oo)).seq e2
 exact q p xs H' s h1 h2
def k8(X:Cx)(f:Value->Value->Sem Value)(g:D->D->Option Sl):Prop:=
 ∃r:R2,jr X f r/\∀(O:Addr->Prop) (H:Hp) (x y:V) (a b:D) (s:Sl) (Q:VK),(∀q,O q->H q≠none)->Is X.K O H x a->Is X.K O H y b->g a b=some s ->
  (∀v H',aC H H'->Res X.K O H H' v s->Q v H')->r x y H Q
noncomputable def aa(g:D->D->Option Sl)(fa fb:En->Option Sl):En->Option Sl:=λenv=>(fa env).bind λx=>(fb env).bind λy=>g x.d y.d
theorem J'(hg:∀(O:Addr->Prop) (H:Hp) (x y:V) (a b:D) (s:Sl) (Q:VK),(∀q,O q->H q≠none)->Is X.K O H x a->Is X.K O H y b->g a b=some s->(∀v H',aC H H'->Res X.K O H H' v s->Q v H')->r x y H Q)(pa:∀(O:Addr->Prop) (B:Hp) (σ:L2.St) (H:Hp) (env:En) (r:Sl) (Q:VK),Rel X.K O B σ H env->fa env=some r->(∀v H',aC H H'->Res X.K (OO O σ env) H H' v r->Q v H')->ta σ H Q)
  (pb:∀(O:Addr->Prop) (B:Hp) (σ:L2.St) (H:Hp) (env:En) (r:Sl) (Q:VK),Rel X.K O B σ H env->fb env=some r->(∀v H',aC H H'->Res X.K (OO O σ env) H H' v r->Q v H')->tb σ H Q)
  (O:Addr->Prop)(B:Hp)(σ:L2.St)(H:Hp)(env:En)(s:Sl)(Q:VK)(R:Rel X.K O B σ H env)(e:aa g fa fb env=some s)
  (k:∀v H',aC H H'->Res X.K (OO O σ env) H H' v s->Q v H'):yY r ta tb σ H Q:=by
 obtain ⟨x,e1,e⟩:=bind_some e
 obtain ⟨y,e2,e⟩:=bind_some e
 refine pa O B σ H env x _ R e1 λv H1 s1 h1=>?_
 refine pb O B σ H1 env y _ (R.grow s1) e2 λu H2 s2 h2=>?_
 have R2:=(R.grow s1).grow s2
 refine hg (OO O σ env) H2 v u x.d y.d s Q (λq=>R2.oo) ((h1.is λq=>R.oo).grow s2) (h2.is λq=>(R.grow s1).oo) e λw H3 s3 h3=>?_
 exact k w H3 ((s1.trans s2).trans s3) (h3.from (s1.trans s2))
theorem bB(ho:k8 X (binaryOp op) g)(ha:EV X a fa)(hb:EV X b fb):EV X (.BinOp a op b pos) (aa g fa fb):=by
 obtain ⟨r,hr,hg⟩:=ho
 obtain ⟨ta,pa,ka⟩:=ha
 obtain ⟨tb,pb,kb⟩:=hb
 exact ⟨_,zJ hr pa pb,J' hg ka kb⟩
theorem Ex(ho:k8 X (compareOp op) g)(ha:EV X a fa)(hb:EV X b fb)(hm:behindInMarks op b=false:=by exact Og _):EV X (.Compare a [op] [b] pos) (aa g fa fb):=by
 obtain ⟨r,hr,hg⟩:=ho
 obtain ⟨ta,pa,ka⟩:=ha
 obtain ⟨tb,pb,kb⟩:=hb
 exact ⟨_,VN hr pa pb hm,J' hg ka kb⟩
noncomputable def mf:Option Sl->Option Bool
 | some (.sh (.bl b))=>some b
 | _=>none
theorem ui{b:Bool}(h:mf o=some b):o=some (Sl.sh (.bl b)):=by
 cases o with
 | none=>cases h
 | some s=>cases s with
  | no=>cases h
  | ow ds=>cases h
  | dw ds=>cases h
  | tw _ _=>cases h
  | sh d=>cases d<;>cases h;rfl
noncomputable def cj(f:En->Option Sl):En->Option Bool:=λenv=>mf (f env)
theorem sJ{K:aI}{O:Addr->Prop}{H:Hp}{v:V}{b:Bool}(h:Is K O H v (.bl b)):v=.bl b:=by cases h;rfl
theorem oa{K:aI}{O:Addr->Prop}{H:Hp}{v:V}{b:Int}(h:Is K O H v (.int b)):v=.int b:=by cases h;rfl
theorem N8{K:aI}{O:Addr->Prop}{H:Hp}{v:V}(h:Is K O H v .bo):v=.bo:=by cases h;rfl
theorem yp{K:aI}{O:Addr->Prop}{H:Hp}{v:V}{b:Str}(h:Is K O H v (.str b)):v=.str b:=by cases h;rfl
theorem du(ho:k8 X (compareOp op) g)(ha:EV X a fa)(hb:EV X b fb)(hm:behindInMarks op b=false:=by exact Og _):TV X (.Compare a [op] [b] pos) (cj (aa g fa fb)):=by
 obtain ⟨r,hr,hg⟩:=ho
 obtain ⟨ta,pa,ka⟩:=ha
 obtain ⟨tb,pb,kb⟩:=hb
 refine ⟨_,VV hr pa pb hm,λO B σ H env k Q R e q=>?_⟩
 exact J' hg ka kb O B σ H env _ _ R (ui e) λv H' s h=>⟨k,sJ h,q H' s⟩
noncomputable def mG:D->Option Bool
 | .bo=>some false
 | .bl b=>some b
 | .int i=>some (i != 0)
 | .str y=>if y.length<=16777216 then some ((y.length:Int) != 0) else none
 | .tup ds=>some (!ds.isEmpty)
 | .lst _ ds=>some (!ds.isEmpty)
 | .exc _=>none
 | .iH _ _=>none
 | .obj _ _ _=>none
 | .cH _ _=>none
theorem aR.isEmpty{K:aI}{O:Addr->Prop}{H:Hp}{xs:List V}{ds:List D}(h:aR K O H xs ds):xs.isEmpty=ds.isEmpty:=by cases h<;>rfl
theorem WC{K:aI}{O:Addr->Prop}{H:Hp}{v:V}{d:D}{b:Bool}(h:Is K O H v d)(e:mG d=some b):xm K v H b:=by
 cases h with
 | bo=>cases e;rfl
 | bl b=>cases e;rfl
 | int i=>cases e;rfl
 | str x =>
  unfold mG at e
  dsimp only at e
  by_cases hl:x.length<=16777216
  .rw [if_pos hl] at e;cases e;exact ⟨by rw [pT];exact hl,rfl⟩
  .rw [if_neg hl] at e;cases e
 | tup ho hp hs=>cases e;exact .inr (.inl ⟨_,.inl hp,by rw [hs.isEmpty]⟩)
 | lK hp hs=>cases e;exact .inr (.inl ⟨_,Cf hp,by rw [hs.isEmpty]⟩)
 | lst ho hp hs=>cases e;exact .inl ⟨_,.inl (.inl hp),by rw [hs.isEmpty]⟩
 | mJ ho hp hs=>cases e;exact .inl ⟨_,.inl hp,by rw [hs.isEmpty]⟩
 | mQ hp hs=>cases e;exact .inl ⟨_,Ce hp,by rw [hs.isEmpty]⟩
 | exc ho hn hp=>cases e
 | iH ho hp=>cases e
 | obj=>cases e
 | cH=>cases e
 | qf ho hp=>cases e
noncomputable def p5(f:En->Option Sl):En->Option Bool:=λenv=>(f env).bind λr=>mG r.d
theorem Eu(ha:EV X a fa)(he:∀whole,isTrue a X.env whole=(do let v <-whole;standAt a.pos;holding [v] (truthy v)):=by intro _;rfl):TV X a (p5 fa):=by
 obtain ⟨ta,pa,ka⟩:=ha
 refine ⟨_,Xn pa he,λO B σ H env k Q R e q=>?_⟩
 obtain ⟨r,e1,e2⟩:=bind_some e
 exact ka O B σ H env r _ R e1 λv H' s h=>⟨k,WC (h.is λq=>R.oo) e2,q H' s⟩
noncomputable def NF(f:En->Option (Bool×List D)):En->Option Bool:=λenv=>(f env).bind λr=>some (!r.2.isEmpty)
noncomputable def qp(f g:En->Option Bool):En->Option Bool:=λenv=>match f env with
 | some true=>g env
 | some false=>some false
 | none=>none
noncomputable def iM(f g:En->Option Bool):En->Option Bool:=λenv=>match f env with
 | some false=>g env
 | some true=>some true
 | none=>none
noncomputable def w6(f:En->Option Bool):En->Option Bool:=λenv=>(f env).map (!·)
variable {ga gb:En->Option Bool}{rest:List Expr}
theorem Wt(ha:TV X a ga):WV X (.BoolOp .And [a] pos) ga:=let ⟨t,p,k⟩:=ha;⟨t,VW p,k⟩
theorem uh(ha:TV X a ga):WV X (.BoolOp .Or [a] pos) ga:=let ⟨t,p,k⟩:=ha;⟨t,Vm p,k⟩
theorem U1(ha:TV X a ga)(hb:WV X (.BoolOp .And (b::rest) pos) gb):WV X (.BoolOp .And (a::b::rest) pos) (qp ga gb):=by
 obtain ⟨t,p,k⟩:=ha
 obtain ⟨u,p',k'⟩:=hb
 refine ⟨_,Vl p p',λO B σ H env d Q R e q=>?_⟩
 unfold qp at e
 cases h:ga env with
 | none=>rw [h] at e;cases e
 | some x =>
  rw [h] at e
  refine k O B σ H env x _ R h λH1 s1=>?_
  cases x with
  | true =>
   rw [if_pos rfl]
   exact k' O B σ H1 env d Q (R.grow s1) e λH2 s2=>q H2 (s1.trans s2)
  | false =>
   cases e
   rw [if_neg pV]
   exact q H1 s1
theorem uc(ha:TV X a ga)(hb:WV X (.BoolOp .Or (b::rest) pos) gb):WV X (.BoolOp .Or (a::b::rest) pos) (iM ga gb):=by
 obtain ⟨t,p,k⟩:=ha
 obtain ⟨u,p',k'⟩:=hb
 refine ⟨_,pw_or p p',λO B σ H env d Q R e q=>?_⟩
 unfold iM at e
 cases h:ga env with
 | none=>rw [h] at e;cases e
 | some x =>
  rw [h] at e
  refine k O B σ H env x _ R h λH1 s1=>?_
  cases x with
  | false =>
   rw [if_neg pV]
   exact k' O B σ H1 env d Q (R.grow s1) e λH2 s2=>q H2 (s1.trans s2)
  | true =>
   cases e
   rw [if_pos rfl]
   exact q H1 s1
theorem k9(h:WV X a ga):TV X a ga:=let ⟨t,p,k⟩:=h;⟨t,p.pt,k⟩
theorem Et(ha:TV X a ga):TV X (.UnaryOp .Not a pos) (w6 ga):=by
 obtain ⟨t,p,k⟩:=ha
 refine ⟨_,Vj p,λO B σ H env d Q R e q=>?_⟩
 unfold w6 at e
 cases h:ga env with
 | none=>rw [h] at e;cases e
 | some x =>
  rw [h] at e
  cases e
  exact k O B σ H env x _ R h λH1 s1=>q H1 s1
noncomputable def qe(f g:En->Option Sl):En->Option Sl:=λenv=>match mf (f env) with
 | some true=>g env
 | some false=>some (.sh (.bl false))
 | none=>none
noncomputable def MD(f g:En->Option Sl):En->Option Sl:=λenv=>match mf (f env) with
 | some false=>g env
 | some true=>some (.sh (.bl true))
 | none=>none
noncomputable def rJ(f:En->Option Sl):En->Option Sl:=λenv=>(mf (f env)).map λb=>.sh (.bl !b)
theorem Um(h:EV X a fa):EV X (.BoolOp op [a] pos) fa:=let ⟨t,p,k⟩:=h;⟨t,Vb p,k⟩
theorem N3(ha:EV X a fa)(hb:EV X (.BoolOp .And (b::rest) pos) fb):EV X (.BoolOp .And (a::b::rest) pos) (qe fa fb):=by
 obtain ⟨t,p,k⟩:=ha
 obtain ⟨u,p',k'⟩:=hb
 refine ⟨_,U5 p p',λO B σ H env r Q R e q=>?_⟩
 unfold qe at e
 cases h:mf (fa env) with
 | none=>rw [h] at e;cases e
 | some x =>
  rw [h] at e
  refine k O B σ H env _ _ R (ui h) λv H1 s1 r1=>⟨x,sJ r1,?_⟩
  cases x with
  | true =>
   rw [if_pos rfl]
   exact k' O B σ H1 env r Q (R.grow s1) e λv2 H2 s2 r2=>q v2 H2 (s1.trans s2) (r2.from s1)
  | false =>
   obtain rfl:=dh e
   rw [if_neg pV]
   exact q _ H1 s1 (Is.bl false)
theorem Ul(ha:EV X a fa):EV X (.UnaryOp .Not a pos) (rJ fa):=by
 obtain ⟨t,p,k⟩:=ha
 refine ⟨_,Va p,λO B σ H env r Q R e q=>?_⟩
 unfold rJ at e
 cases h:mf (fa env) with
 | none=>rw [h] at e;cases e
 | some x =>
  rw [h] at e
  obtain rfl:=dh e
  exact k O B σ H env _ _ R (ui h) λv H1 s1 r1=>⟨x,sJ r1,q _ H1 s1 (Is.bl _)⟩
noncomputable def wB(c:En->Option Bool)(f g:En->Option Sl):En->Option Sl:=λenv=>match c env with
 | some true=>f env
 | some false=>g env
 | none=>none
theorem Jo(hc:TV X c ga)(ha:EV X a fa)(hb:EV X b fb):EV X (.IfExp c a b pos) (wB ga fa fb):=by
 obtain ⟨tc,pc,kc⟩:=hc
 obtain ⟨t,p,k⟩:=ha
 obtain ⟨u,p',k'⟩:=hb
 refine ⟨_,XI pc p p',λO B σ H env r Q R e q=>?_⟩
 unfold wB at e
 cases h:ga env with
 | none=>rw [h] at e;cases e
 | some x =>
  rw [h] at e
  refine kc O B σ H env x _ R h λH1 s1=>?_
  cases x with
  | true =>
   rw [if_pos rfl]
   exact k O B σ H1 env r Q (R.grow s1) e λv2 H2 s2 r2=>q v2 H2 (s1.trans s2) (r2.from s1)
  | false =>
   rw [if_neg pV]
   exact k' O B σ H1 env r Q (R.grow s1) e λv2 H2 s2 r2=>q v2 H2 (s1.trans s2) (r2.from s1)
noncomputable def wm:D->Option Sl
 | .int i=>some (.sh (.int (-i)))
 | _=>none
noncomputable def oX(f:En->Option Sl):En->Option Sl:=λenv=>(f env).bind λr=>wm r.d
theorem B0(ha:EV X a fa):EV X (.UnaryOp .USub a pos) (oX fa):=by
 obtain ⟨t,p,k⟩:=ha
 refine ⟨_,zI U0 p,λO B σ H env r Q R e q=>?_⟩
 obtain ⟨x,e1,e2⟩:=bind_some e
 refine k O B σ H env x _ R e1 λv H1 s1 r1=>?_
 have hi:=r1.is λq=>R.oo
 cases hd:x.d with
 | int i =>
  rw [hd] at hi e2
  obtain rfl:=oa hi
  obtain rfl:=dh e2
  exact ⟨i,rfl,q _ H1 s1 (Is.int _)⟩
 | _=>rw [hd] at e2;cases e2
variable {e:Expr}{es:List Expr}
noncomputable def ar:En->Option (List D):=λ_=>some []
noncomputable def aq(f:En->Option Sl)(g:En->Option (List D)):En->Option (List D):=λenv=>(f env).bind λr=>(g env).bind λds=>some (r.d::ds)
theorem br:AV X [] ar:=⟨_,pf,λO B σ H env ds Q R e q=>by
 obtain rfl:=dh e
 exact q [] H (aC.refl _) .nil⟩
theorem au(ha:EV X e fe)(hb:AV X es fs)(hs:starEach (e::es) X.env=(false,eval e X.env)::starEach es X.env:=by rfl):AV X (e::es) (aq fe fs):=by
 obtain ⟨t,p,k⟩:=ha
 obtain ⟨u,p',k'⟩:=hb
 refine ⟨_,oh p p' hs,λO B σ H env ds Q R e q=>?_⟩
 obtain ⟨r,e1,e2⟩:=bind_some e
 obtain ⟨ds',e4,e3⟩:=bind_some e2
 obtain rfl:=dh e3
 refine k O B σ H env r _ R e1 λv H1 s1 r1=>?_
 refine k' O B σ H1 env ds' _ (R.grow s1) e4 λvs H2 s2 r2=>?_
 exact q _ H2 (s1.trans s2) (.cons ((r1.is λq=>R.oo).grow s2) r2)
theorem nH(h:H p=none)(o:HO):aC H (upd H p o):=λb u q=>by rw [da (oF q h)];exact q
noncomputable def eI(f:En->Option (List D)):En->Option Sl:=λenv=>(f env).bind λds=>if ds.length<=16777216 then some (.sh (.tup ds)) else none
noncomputable def cL(f:En->Option (List D)):En->Option Sl:=λenv=>(f env).bind λds=>if ds.length<=16777216 then some (.ow ds) else none
theorem k7{α:Type}{c:Prop}[Decidable c]{x y:α}(h:(if c then some x else none)=some y):c/\x=y:=by
 by_cases hc:c
 .rw [if_pos hc] at h;exact ⟨hc,dh h⟩
 .rw [if_neg hc] at h;cases h
theorem EK{K:aI}{O:Addr->Prop}{H:Hp}{p:Addr}{xs:List V}{ds:List D}(hO:∀q,O q->H q≠none)(hp:H p=none)(h:aR K O H xs ds):Res K O H (upd H p (.tup xs)) (.ref p) (.sh (.tup ds)):=
 Is.tup (λz=>hO p z hp) (.inl kX) (h.grow (nH hp _))
theorem yw{K:aI}{O:Addr->Prop}{H:Hp}{p:Addr}{xs:List V}{ds:List D}(hp:H p=none)(h:aR K O H xs ds):Res K O H (upd H p (.lst xs)) (.ref p) (.ow ds):=
 ⟨p,xs,rfl,hp,kX,h.map (λq hq hn z=>z.elim hn λw=>hq (by rw [w];exact hp)) λq u e _=>nH hp _ q u e⟩
theorem qP{x1}(h:AV X es fs):EV X (.Tuple es x1 pos) (eI fs):=by
 obtain ⟨t,p,k⟩:=h
 refine ⟨_,Vd p,λO B σ H env r Q R e q=>?_⟩
 obtain ⟨ds,e1,e2⟩:=bind_some e
 obtain ⟨hl,rfl⟩:=k7 e2
 refine k O B σ H env ds _ R e1 λvs H1 s1 r1=>⟨by rw [r1.length,pT];exact hl,λp hp=>?_⟩
 exact q _ _ (s1.trans (nH hp _)) ((EK (O:=OO O σ env) (H:=H1) (λ_ z=>(R.grow s1).oo z) hp r1).from s1)
theorem ml(h:AV X es fs):EV X (.List es pos) (cL fs):=by
 obtain ⟨t,p,k⟩:=h
 refine ⟨_,U9 p,λO B σ H env r Q R e q=>?_⟩
 obtain ⟨ds,e1,e2⟩:=bind_some e
 obtain ⟨hl,rfl⟩:=k7 e2
 refine k O B σ H env ds _ R e1 λvs H1 s1 r1=>⟨by rw [r1.length,pT];exact hl,λp hp=>?_⟩
 exact q _ _ (s1.trans (nH hp _)) ((yw hp r1).from s1)
noncomputable def bD(f:En->Option (Bool×List D))(g:En->Option Sl):En->Option Sl:=λenv=>(f env).bind λx=>(g env).bind λy=>match y.d with
 | .int i=>(dt x.2 i).map .sh
 | _=>none
theorem bI{fa:En->Option (Bool×List D)}(ha:BV X a fa)(hb:EV X b fb)(hs:Oj b:=by exact λ_ _=>rfl):EV X (.Subscript a b pos) (bD fa fb):=by
 obtain ⟨t,p,k⟩:=ha
 obtain ⟨u,p',k'⟩:=hb
 refine ⟨_,zK Uy p p' hs,λO B σ H env r Q R e q=>?_⟩
 obtain ⟨⟨kk,ds⟩,e1,e2⟩:=bind_some e
 obtain ⟨y,e2,e3⟩:=bind_some e2
 refine k O B σ H env kk ds _ R e1 λl xs H1 s1 hq hx=>?_
 refine k' O B σ H1 env y _ (R.grow s1) e2 λw H2 s2 r2=>?_
 have hi:=r2.is λq=>(R.grow s1).oo
 cases hd:y.d with
 | int i =>
  rw [hd] at hi e3
  obtain rfl:=oa hi
  dsimp only at e3
  cases h:dt ds i with
  | none=>rw [h] at e3;cases e3
  | some d =>
   rw [h] at e3
   obtain rfl:=dh e3
   obtain ⟨v,h1,h2⟩:=(hx.grow s2).dt h
   have c6:=hq.grow s2
   have fin:=q v H2 (s1.trans s2) h2
   cases kk with
   | true=>exact .inl ⟨l,xs,i,v,rfl,rfl,c6,h1,fin⟩
   | false=>exact .inr (.inl ⟨l,xs,i,v,rfl,rfl,c6,h1,fin⟩)
 | _=>rw [hd] at e3;cases e3
end
noncomputable def LIM:Int:=10^250
theorem Wd(h1:-LIM<=j)(h2:j<=LIM):j.natAbs<2^900:=by
 have e:LIM<(2:Int)^900:=by unfold LIM;decide +kernel
 have e2:((2:Int)^900)=((2^900:Nat):Int):=by simp
 generalize (2^900:Nat)=m at *
 generalize LIM=l at *
 omega
theorem OI(h1:-LIM<=j)(h2:j<=LIM):j.natAbs.log2<900:=by
 rcases I9 j.natAbs with h0 | hp
 .rw [h0];decide
 .exact (Nat.log2_lt (Bq hp)).mpr (Wd h1 h2)
theorem Pf(h1:-LIM<=j)(h2:j<=LIM):Nf j<=900:=by
 have:=OI h1 h2
 unfold Nf
 split<;>lia
def MulC(i j:Int):Prop:=(-(2^64)<i/\i<2^64)\/(-(2^64)<j/\j<2^64)\/((-LIM<=i/\i<=LIM)/\(-LIM<=j/\j<=LIM))
noncomputable instance (i j:Int):Decidable (MulC i j):=by unfold MulC;infer_instance
theorem MulC.ok(h:MulC i j):IntMulOk i j:=by
 rcases h with ⟨h1,h2⟩ | ⟨h1,h2⟩ | ⟨⟨h1,h2⟩,h3,h4⟩
 .exact .of_left (Dw h1 h2)
 .exact .of_right (Dw h1 h2)
 .exact mulOk_of_bits (Pf h1 h2) (Pf h3 h4) (by decide)
def DivC(_ j:Int):Prop:=0<j/\j<=LIM
noncomputable instance (i j:Int):Decidable (DivC i j):=by unfold DivC;infer_instance
def uw(_ j:Int):Prop:=0<j
noncomputable instance (i j:Int):Decidable (uw i j):=by unfold uw;infer_instance
def PowC(i j:Int):Prop:=0<=j/\j<=1000000/\i.natAbs<2^64
noncomputable instance (i j:Int):Decidable (PowC i j):=by unfold PowC;infer_instance
noncomputable def gI(C:Int->Int->Prop)[∀i j,Decidable (C i j)](h:Int->Int->Int):D->D->Option Sl
 | .int i,.int j=>if C i j then some (.sh (.int (h i j))) else none
 | _,_=>none
noncomputable def gB(h:Int->Int->Bool):D->D->Option Sl
 | .int i,.int j=>some (.sh (.bl (h i j)))
 | _,_=>none
section
variable {X:Cx}
theorem BL{f:Value->Value->Sem Value}{C:Int->Int->Prop}[∀i j,Decidable (C i j)]{h:Int->Int->Int}(ho:jr X f (rI C λi j=>.int (h i j))):k8 X f (gI C h):=by
 refine ⟨_,ho,λO H x y a b s Q hO hx hy e q=>?_⟩
 cases a with
 | int i=>cases b with
  | int j =>
   obtain ⟨hc,rfl⟩:=k7 (show (if C i j then some (Sl.sh (.int (h i j))) else none)=some s from e)
   exact ⟨i,j,oa hx,oa hy,hc,q _ H (aC.refl _) (Is.int _)⟩
  | _=>cases e
 | _=>cases e
theorem Jk(ho:jr X f (vH λi j=>.bl (h i j))):k8 X f (gB h):=by
 refine ⟨_,ho,λO H x y a b s Q hO hx hy e q=>?_⟩
 cases a with
 | int i=>cases b with
  | int j =>
   obtain rfl:=dh (show some (Sl.sh (.bl (h i j)))=some s from e)
   exact ⟨i,j,oa hx,oa hy,q _ H (aC.refl _) (Is.bl _)⟩
  | _=>cases e
 | _=>cases e
noncomputable def cw:D->D->Option Sl:=gI MulC λi j=>i*j
noncomputable def oW:D->D->Option Sl:=gI DivC λi j=>i/j
noncomputable def oV:D->D->Option Sl:=gI uw λi j=>i%j
noncomputable def mZ:D->D->Option Sl:=gI PowC λi j=>i^j.toNat
noncomputable def gS:D->D->Option Sl:=gI (λ_ _=>True) λi j=>i-j
noncomputable def rD:D->D->Option Sl:=gB λi j=>decide (i<j)
noncomputable def pN:D->D->Option Sl:=gB λi j=>decide (i<=j)
noncomputable def Dm:D->D->Option Sl:=gB λi j=>decide (j<i)
noncomputable def Tn:D->D->Option Sl:=gB λi j=>decide (j<=i)
theorem kf:k8 X (binaryOp .Mult) cw:=BL (zR λ_ _ _ _ _ _ _ (hc:MulC _ _) q=>mul_int q hc.ok)
theorem BR:k8 X (binaryOp .FloorDiv) oW:=BL (zR λi j _ _ _ _ _ (hc:DivC i j) q=>by
 have h1:(0:Int)<j:=hc.1
 have h2:=OI (j:=j) (by have:(0:Int)<=LIM:=(by decide +kernel);ext h1 this) hc.2
 exact floordiv_int (by ext h1) (by rw [Int.fdiv_eq_ediv_of_nonneg i (by ext h1)];exact q) (.inl (PyProof.noPylong_of_log2 (jZ ‹_› (by decide)))))
theorem BS:k8 X (binaryOp .Mod) oV:=BL (zR λi j _ _ _ _ _ (hc:uw i j) q=>by
 have h1:(0:Int)<j:=hc
 exact mod_int' (by ext h1) (by rw [Int.fmod_eq_emod_of_nonneg i (by ext h1)];exact q))
theorem xi:k8 X (binaryOp .Pow) mZ:=BL (zR λ_ _ _ _ _ _ _ (hc:PowC _ _) q=>pow_int_small hc.1 hc.2.1 hc.2.2 q)
theorem uf:k8 X (binaryOp .Sub) gS:=BL (zR λ_ _ _ _ _ _ _ _ q=>sub_int q)
theorem ue:k8 X (compareOp .Lt) rD:=Jk zO
theorem qM:k8 X (compareOp .LtE) pN:=Jk zP
theorem NM:k8 X (compareOp .Gt) Dm:=Jk zQ
noncomputable def bK:D->D->Option Sl
 | .int i,.int j=>some (.sh (.int (i+j)))
 | .lst false a,.lst false b=>if a.length+b.length<=16777216 then some (.ow (a++b)) else none
 | .tup a,.tup b=>if a.length+b.length<=16777216 then some (.sh (.tup (a++b))) else none
 | .str a,.str b=>if a.length+b.length<=16777216 then some (.sh (.str (a++b))) else none
 | _,_=>none
theorem Ez{K:aI}{O:Addr->Prop}{H:Hp}{v:V}{ds:List D}(h:Is K O H v (.tup ds)):∃p xs,v=.ref p/\gc K H p xs/\aR K O H xs ds:=by
 obtain ⟨p,xs,e,h1,h2⟩:=h.seq (k:=false) rfl
 exact ⟨p,xs,e,h1,h2⟩
theorem JE{K:aI}{O:Addr->Prop}{H:Hp}{v:V}{ds:List D}(h:Is K O H v (.lst false ds)):∃p xs,v=.ref p/\¬O p/\H p=some (.lst xs)/\aR K O H xs ds:=by
 cases h with
 | lst ho hp hs=>exact ⟨_,_,rfl,ho,hp,hs⟩
theorem aR.dX{K:aI}{O:Addr->Prop}{H:Hp}{xs:List V}{ds:List D}(h:aR K O H xs ds):xs=[]↔ds=[]:=by cases h<;>simp
theorem Pk{α:Type}{c:Prop}{d:Decidable c}{x y:α}(h:(@ite _ c d (some x) none)=some y):c/\x=y:=k7 h
theorem ed:k8 X (binaryOp .Add) bK:=by
 refine ⟨_,vK.or (vJ.or (tf.or (oN.or VI))),λO H x y a b s Q hO hx hy e q=>?_⟩
 cases a with
 | int i=>cases b with
  | int j =>
   obtain rfl:=dh (show some (Sl.sh (.int (i+j)))=some s from e)
   exact .inl ⟨i,j,oa hx,oa hy,q _ H (aC.refl _) (Is.int _)⟩
  | _=>cases e
 | lst r a=>cases r with
  | true=>cases b<;>cases e
  | false=>cases b with
   | lst r b=>cases r with
    | true=>cases e
    | false =>
     obtain ⟨hl,rfl⟩:=k7 (show (if a.length+b.length<=16777216 then some (Sl.ow (a++b)) else none)=some s from e)
     obtain ⟨p1,xs,rfl,_,h1,i1⟩:=JE hx
     obtain ⟨p2,ys,rfl,_,h2,i2⟩:=JE hy
     exact .inr (.inl ⟨p1,p2,xs,ys,rfl,rfl,h1,h2,by rw [i1.length,i2.length,pT];exact hl,λp hp=>q _ _ (nH hp _) (yw hp (i1.append i2))⟩)
   | _=>cases e
 | tup a=>cases b with
  | tup b =>
   obtain ⟨hl,rfl⟩:=Pk (show (if a.length+b.length<=16777216 then some (Sl.sh (.tup (a++b))) else none)=some s from e)
   obtain ⟨p1,xs,rfl,h1,i1⟩:=Ez hx
   obtain ⟨p2,ys,rfl,h2,i2⟩:=Ez hy
   by_cases h0:a=[]
   .subst h0
    cases i1
    exact .inr (.inr (.inr (.inr ⟨p1,p2,ys,rfl,rfl,h1,h2,q _ H (aC.refl _) hy⟩)))
   refine .inr (.inr (.inl ⟨p1,p2,xs,ys,rfl,rfl,h1,h2,λz=>h0 (i1.dX.mp z),by rw [i1.length,i2.length,pT];exact hl,λz=>?_,λz p hp=>q _ _ (nH hp _) (EK hO hp (i1.append i2))⟩))
   have z':=i2.dX.mp z
   subst z'
   rw [sC] at q
   exact q _ H (aC.refl _) hx
  | _=>cases e
 | str a=>cases b with
  | str b =>
   obtain ⟨hl,rfl⟩:=k7 (show (if a.length+b.length<=16777216 then some (Sl.sh (.str (a++b))) else none)=some s from e)
   exact .inr (.inr (.inr (.inl ⟨a,b,yp hx,yp hy,by rw [pT];exact hl,q _ H (aC.refl _) (Is.str _)⟩)))
  | _=>cases e
 | _=>cases e
theorem map_some{α β:Type}{o:Option α}{f:α->β}{b:β}(h:o.map f=some b):∃a,o=some a/\f a=b:=by
 cases o with
 | none=>cases h
 | some a=>exact ⟨a,rfl,dh h⟩
noncomputable def D.cS:D->Bool
 | .bo=>true
 | _=>false
theorem Wb{K:aI}{O:Addr->Prop}{H:Hp}{x:V}{a:D}(hx:Is K O H x a):decide (x=.bo)=a.cS:=by
 cases hx<;>simp [D.cS]
noncomputable def tM:D->D->Option Sl:=λa b=>if b.cS=true then some (.sh (.bl a.cS)) else none
noncomputable def AM:D->D->Option Sl:=λa b=>if b.cS=true then some (.sh (.bl !a.cS)) else none
theorem WJ{b:D}(h:b.cS=true):b=.bo:=by cases b<;>first | rfl | cases h
theorem Oh:k8 X (compareOp .Is) tM:=by
 refine ⟨_,U4,λO H x y a b s Q hO hx hy e q=>?_⟩
 obtain ⟨hb,rfl⟩:=k7 e
 rw [WJ hb] at hy
 exact ⟨N8 hy,by rw [Wb hx];exact q _ H (aC.refl _) (Is.bl _)⟩
end
section
variable {X:Cx}{a b c:Expr}{pos p:Pos}{fa fb:En->Option Sl}{es:List Expr}{e:Expr}
def Jg(X:Cx)(f:Value)(g:List D->Option Sl):Prop:=
 ∃r:List V->Hp->VK->Prop,cm X f r/\∀(O:Addr->Prop) (H:Hp) (xs:List V) (ds:List D) (s:Sl) (Q:VK),(∀q,O q->H q≠none)->aR X.K O H xs ds->g ds=some s ->
  (∀v H',aC H H'->Res X.K O H H' v s->Q v H')->r xs H Q
noncomputable def xf(g:List D->Option Sl)(fs:En->Option (List D)):En->Option Sl:=λenv=>(fs env).bind g
theorem B'{id:String}{x:Str}{g:List D->Option Sl}{fs:En->Option (List D)}(hc:Jg X (.builtin id) g)(hg:Gl X x)(hm:X.mg x=none)(hv:bootBuiltins x=some (.builtin id))(ha:AV X (e::es) fs)(hn:x ≠ "__name__":=by decide)(lT:(x==("__debug__":Str))=false:=by decide)
  (he:starEach (e::es) X.env=(false,eval e X.env)::starEach es X.env:=by rfl)(dY:(backTo pos (starEach es X.env)).any (·.1)=false:=by rfl):
  EV X (.Call (.Name x p) (e::es) [] pos) (xf g fs):=by
 obtain ⟨r,hr,Az⟩:=hc
 obtain ⟨t,pt,k⟩:=ha
 refine ⟨_,xk hr hg hm hv pt hn lT he dY,λO B σ H env s Q R e q=>?_⟩
 obtain ⟨ds,e1,e2⟩:=bind_some e
 refine k O B σ H env ds _ R e1 λvs H1 s1 r1=>?_
 exact Az (OO O σ env) H1 vs ds s Q (λq=>(R.grow s1).oo) r1 e2 λv H2 s2 r2=>q v H2 (s1.trans s2) (r2.from s1)
noncomputable def w5:List D->Option Sl
 | [.int i,.int j]=>some (.sh (.int (if j<i then j else i)))
 | _=>none
noncomputable def Ef:List D->Option Sl
 | [.int i,.int j]=>some (.sh (.int (if j>i then j else i)))
 | _=>none
theorem Pg{K:aI}{O:Addr->Prop}{H:Hp}{xs:List V}{i j:Int}(h:aR K O H xs [.int i,.int j]):xs=[.int i,.int j]:=by
 cases h with
 | cons h t=>cases t with
  | cons h' t=>cases t;rw [oa h,oa h']
theorem Ew{g:Int->Int->Option Sl}{ds:List D}{s:Sl}(e:(match ds with | [.int i,.int j]=>g i j | _=>none)=some s):∃i j,ds=[.int i,.int j]/\g i j=some s:=by
 split at e
 .exact ⟨_,_,rfl,e⟩
 .cases e
theorem EF(hc:X.calm=true):Jg X (.builtin "min") w5:=by
 refine ⟨_,Xe hc,λO H xs ds s Q hO h e q=>?_⟩
 obtain ⟨i,j,rfl,e⟩:=Ew (g:=λi j=>some (.sh (.int (if j<i then j else i)))) e
 obtain rfl:=dh e
 exact ⟨i,j,Pg h,q _ H (aC.refl _) (Is.int _)⟩
theorem Vx(hc:X.calm=true):Jg X (.builtin "max") Ef:=by
 refine ⟨_,Xd hc,λO H xs ds s Q hO h e q=>?_⟩
 obtain ⟨i,j,rfl,e⟩:=Ew (g:=λi j=>some (.sh (.int (if j>i then j else i)))) e
 obtain rfl:=dh e
 exact ⟨i,j,Pg h,q _ H (aC.refl _) (Is.int _)⟩
noncomputable def nR(f:En->Option (Bool×List D)):En->Option Sl:=λenv=>(f env).map λx=>.sh (.int x.2.length)
noncomputable def Jj(f:En->Option (Bool×List D)):En->Option Sl:=λenv=>(f env).map λx=>.ow x.2
noncomputable def Es(f:En->Option (Bool×List D)):En->Option Sl:=λenv=>(f env).bind λx=>if x.1=true then some (.sh (.tup x.2)) else none
variable {ba:En->Option (Bool×List D)}
theorem yo(hg:Gl X "len")(hm:X.mg "len" = none)(ha:BV X a ba)(hs:starEach [a] X.env=[(false,eval a X.env)]:=by rfl):EV X (.Call (.Name "len" p) [a] [] pos) (nR ba):=by
 obtain ⟨t,pt,k⟩:=ha
 refine ⟨_,xk Zk hg hm PySem.boot_len (oh pt pf hs) (by decide) (by decide) hs rfl,λO B σ H env s Q R e q=>?_⟩
 obtain ⟨⟨kk,ds⟩,e1,rfl⟩:=map_some e
 refine k O B σ H env kk ds _ R e1 λl xs H1 s1 hq hx=>⟨l,xs,rfl,?_,?_⟩
 .cases kk with
  | true=>exact .inl hq
  | false=>exact .inr hq
 .rw [hx.length]
  exact q _ H1 s1 (Is.int _)
theorem V2(hg:Gl X "list")(hm:X.mg "list" = none)(ha:BV X a ba)(hs:starEach [a] X.env=[(false,eval a X.env)]:=by rfl):EV X (.Call (.Name "list" p) [a] [] pos) (Jj ba):=by
 obtain ⟨t,pt,k⟩:=ha
 refine ⟨_,yx Zl hg hm (by decide +kernel) (oh pt pf hs) (by decide) (by decide) hs rfl,λO B σ H env s Q R e q=>?_⟩
 obtain ⟨⟨kk,ds⟩,e1,rfl⟩:=map_some e
 refine k O B σ H env kk ds _ R e1 λl xs H1 s1 hq hx=>⟨l,xs,rfl,?_,λp hp=>?_⟩
 .cases kk with
  | true=>exact .inl hq
  | false=>exact .inr hq
 .exact q _ _ (s1.trans (nH hp _)) ((yw hp hx).from s1)
theorem W7(hg:Gl X "tuple")(hm:X.mg "tuple" = none)(ha:BV X a ba)(hs:starEach [a] X.env=[(false,eval a X.env)]:=by rfl):EV X (.Call (.Name "tuple" p) [a] [] pos) (Es ba):=by
 obtain ⟨t,pt,k⟩:=ha
 refine ⟨_,yx Zq hg hm (by decide +kernel) (oh pt pf hs) (by decide) (by decide) hs rfl,λO B σ H env s Q R e q=>?_⟩
 obtain ⟨⟨kk,ds⟩,e1,e2⟩:=bind_some e
 obtain ⟨h1,rfl⟩:=k7 e2
 refine k O B σ H env kk ds _ R e1 λl xs H1 s1 hq hx=>⟨l,xs,rfl,?_⟩
 cases (show kk=true from h1)
 exact .inl ⟨hq,λp hp=>q _ _ (s1.trans (nH hp _)) ((EK (O:=OO O σ env) (H:=H1) (λ_ z=>(R.grow s1).oo z) hp hx).from s1)⟩
end
section
variable {K:aI}{O:Addr->Prop}{B H H1:Hp}{σ:L2.St}{env:En}{v:V}{r:Sl}{i:Nat}
theorem VJ(h:mo (σ.set i (some v)) (env.set i r) q):mo σ env q\/(r.own/\v=.ref q):=by
 obtain ⟨j,t,h1,ho,h2⟩:=h
 by_cases hj:i=j
 .subst hj
  rw [Ij] at h1 h2
  rw [if_pos rfl] at h1 h2
  split at h1
  .cases h1
   split at h2
   .cases h2;exact .inr ⟨ho,rfl⟩
   .cases h2
  .cases h1
 .rw [dQ hj] at h1 h2
  exact .inl ⟨j,t,h1,ho,h2⟩
theorem Res.fresh(h:Res K O B H v r)(ho:r.own):∃p,v=.ref p/\B p=none/\H p≠none:=by
 cases r with
 | no=>exact ho.elim
 | sh d=>exact ho.elim
 | ow ds=>obtain ⟨p,xs,e1,e2,e3,_⟩:=h;exact ⟨p,e1,e2,by rw [e3];exact λz=>nomatch z⟩
 | dw aA=>obtain ⟨p,e1,e2,e3⟩:=h;exact ⟨p,e1,e2,by rw [e3];exact λz=>nomatch z⟩
 | tw ks ds=>obtain ⟨p,vs,e1,e2,e3,_⟩:=h;exact ⟨p,e1,e2,by rw [e3];exact λz=>nomatch z⟩
theorem Rel.set(R:Rel K O B σ H env)(s:aC H H1)(h:Res K (OO O σ env) H H1 v r)(hi:i<env.length):
  Rel K O B (σ.set i (some v)) H1 (env.set i r)/\Gd σ env H (σ.set i (some v)) (env.set i r) H1:=by
 have new:∀q,mo (σ.set i (some v)) (env.set i r) q->mo σ env q\/(H q=none/\r.own/\v=.ref q):=λq z=>by
  rcases VJ z with z | ⟨ho,rfl⟩
  .exact .inl z
  .obtain ⟨p,e1,e2,_⟩:=h.fresh ho
   cases e1
   exact .inr ⟨e2,ho,rfl⟩
 have hO:∀q,H q≠none->¬OO O σ env q->¬OO O (σ.set i (some v)) (env.set i r) q:=λq hq hn z=>by
  rcases z with z | z
  .exact hn (.inl z)
  .rcases new q z with z | ⟨z,_⟩
   .exact hn (.inr z)
   .exact hq z
 have hH:∀q u,H q=some u->¬OO O σ env q->H1 q=some u:=λq u e _=>s q u e
 have tF:i<σ.length:=by rw [R.len];exact hi
 refine ⟨⟨R.same.trans s,R.o6,by simp [R.len],λj d e=>?_,λj ds e=>?_,λj aA e=>?_,λj ks ds e=>?_,λj k ds es p e1 e2 e3 e4 o1 o2=>?_⟩,λq u e n=>⟨s q u e,λz=>?_⟩⟩
 .by_cases hj:i=j
  .subst hj
   rw [kE hi] at e
   cases e
   refine ⟨v,by rw [kE tF],Is.less (O:=OO O σ env) (λq z=>z.elim .inl λz=>?_) h⟩
   rcases new q z with z | ⟨_,z,_⟩
   .exact .inr z
   .exact z.elim
  .rw [dQ hj] at e
   obtain ⟨w,e1,h1⟩:=R.sh j d e
   exact ⟨w,by rw [dQ hj];exact e1,h1.map hO hH⟩
 .by_cases hj:i=j
  .subst hj
   rw [kE hi] at e
   cases e
   obtain ⟨p,xs,rfl,e2,e3,h1⟩:=h
   refine ⟨p,xs,by rw [kE tF],R.same.free e2,e3,h1.less λq z=>?_⟩
   rcases z with z | z
   .exact .inl (.inl z)
   .rcases new q z with z | ⟨_,_,z⟩
    .exact .inl (.inr z)
    .cases z;exact .inr rfl
  .rw [dQ hj] at e
   obtain ⟨p,xs,e1,e2,e3,h1⟩:=R.ow j ds e
   exact ⟨p,xs,by rw [dQ hj];exact e1,e2,s _ _ e3,h1.map hO hH⟩
 .by_cases hj:i=j
  .subst hj
   rw [kE hi] at e
   cases e
   obtain ⟨p,rfl,e2,e3⟩:=h
   exact ⟨p,by rw [kE tF],R.same.free e2,e3⟩
  .rw [dQ hj] at e
   obtain ⟨p,e1,e2,e3⟩:=R.dw j aA e
   exact ⟨p,by rw [dQ hj];exact e1,e2,s _ _ e3⟩
 .by_cases hj:i=j
  .subst hj
   rw [kE hi] at e
   cases e
   obtain ⟨p,vs,rfl,e2,e3,e4,h1⟩:=h
   refine ⟨p,vs,by rw [kE tF],R.same.free e2,e3,e4,h1.less λq z=>?_⟩
   rcases z with z | z
   .exact .inl (.inl z)
   .rcases new q z with z | ⟨_,_,z⟩
    .exact .inl (.inr z)
    .cases z;exact .inr rfl
  .rw [dQ hj] at e
   obtain ⟨p,vs,e1,e2,e3,e4,h1⟩:=R.tw j ks ds e
   exact ⟨p,vs,by rw [dQ hj];exact e1,e2,s _ _ e3,e4,h1.map hO hH⟩
 .have other:∀j t,j≠i->env[j]?=some t->t.own->σ[j]?=some (some (V.ref p))->r.own->v≠.ref p:=λj t hj e ho e' hr z=>by
   obtain ⟨p',rfl,e2,_⟩:=h.fresh hr
   cases z
   obtain ⟨p2,u,e5,_,e6⟩:=R.ad e ho
   rw [e'] at e5
   cases e5
   rw [e2] at e6
   cases e6
  by_cases hj:i=j
  .by_cases hk:i=k
   .rw [<-hj,<-hk]
   .subst hj
    rw [kE hi] at e1
    rw [kE tF] at e3
    rw [dQ hk] at e2 e4
    cases e1
    cases e3
    exact absurd rfl (other k es (jW hk) e2 o2 e4 o1)
  .by_cases hk:i=k
   .subst hk
    rw [kE hi] at e2
    rw [kE tF] at e4
    rw [dQ hj] at e1 e3
    cases e2
    cases e4
    exact absurd rfl (other j ds (jW hj) e1 o1 e3 o2)
   .rw [dQ hj] at e1 e3
    rw [dQ hk] at e2 e4
    exact R.sep j k ds es p e1 e2 e3 e4 o1 o2
 .rcases new q z with z | ⟨z,_⟩
  .exact n z
  .rw [e] at z;cases z
theorem Rel.LI{p:Addr}{u':HO}{t t':Sl}(R:Rel K O B σ H env)(he:env[i]?=some t)(ho:t.own)(k4:t'.own)(hs:σ[i]?=some (some (V.ref p)))
  (hx:(∀ds',t'=.ow ds'->∃mF,u'=.lst mF/\aR K (OO O σ env) H mF ds')/\(∀Ad,t'=.dw Ad->u'=HC Ad)/\∀ks' ds',t'=.tw ks' ds'->∃vs',u'=wC ks' vs'/\ks'.length=vs'.length/\aR K (OO O σ env) H vs' ds'):
  Rel K O B σ (upd H p u') (env.set i t')/\Gd σ env H σ (env.set i t') (upd H p u'):=by
 have hi:i<env.length:=(qK.mp he).1
 have own:∀q,mo σ (env.set i t') q->mo σ env q:=λq ⟨j,es,e1,e3,e2⟩=>by
  by_cases hj:i=j
  .subst hj;exact ⟨i,t,he,ho,e2⟩
  .rw [dQ hj] at e1;exact ⟨j,es,e1,e3,e2⟩
 have zN:mo σ env p:=⟨i,t,he,ho,hs⟩
 obtain ⟨p0,u0,f1,f2,f3⟩:=R.ad he ho
 rw [hs] at f1
 cases f1
 have hO:∀q,H q≠none->¬OO O σ env q->¬OO O σ (env.set i t') q:=λq _ hn z=>hn (z.elim .inl λz=>.inr (own q z))
 have hH:∀q u,H q=some u->¬OO O σ env q->upd H p u' q=some u:=λq u e n=>by
  rw [da (λz=>n (.inr (by rw [z];exact zN)))]
  exact e
 refine ⟨⟨λq u e=>?_,R.o6,by simp [R.len],λj d e=>?_,λj es e=>?_,λj aA e=>?_,λj ks es e=>?_,λj k es fs q e1 e2 e3 e4 o1 o2=>?_⟩,λq u e n=>⟨?_,λz=>n (own q z)⟩⟩
 .rw [da (oF e f2)];exact R.same q u e
 .by_cases hj:i=j
  .subst hj;rw [kE hi] at e;cases e;exact k4.elim
  .rw [dQ hj] at e
   obtain ⟨w,e1,h1⟩:=R.sh j d e
   exact ⟨w,e1,h1.map hO hH⟩
 .by_cases hj:i=j
  .subst hj
   rw [kE hi] at e
   cases e
   obtain ⟨mF,hu,kz⟩:=hx.1 _ rfl
   exact ⟨p,mF,hs,f2,by rw [kX,hu],kz.map hO hH⟩
  .rw [dQ hj] at e
   obtain ⟨p2,vw,e1,e2,e3,h1⟩:=R.ow j es e
   refine ⟨p2,vw,e1,e2,?_,h1.map hO hH⟩
   rw [da (λz=>hj (R.sep i j t _ p he e hs (by rw [e1,z]) ho trivial))]
   exact e3
 .by_cases hj:i=j
  .subst hj
   rw [kE hi] at e
   cases e
   exact ⟨p,hs,f2,by rw [kX,hx.2.1 _ rfl]⟩
  .rw [dQ hj] at e
   obtain ⟨p2,e1,e2,e3⟩:=R.dw j aA e
   refine ⟨p2,e1,e2,?_⟩
   rw [da (λz=>hj (R.sep i j t _ p he e hs (by rw [e1,z]) ho trivial))]
   exact e3
 .by_cases hj:i=j
  .subst hj
   rw [kE hi] at e
   cases e
   obtain ⟨vs',hu,hl,kz⟩:=hx.2.2 _ _ rfl
   exact ⟨p,vs',hs,f2,by rw [kX,hu],hl,kz.map hO hH⟩
  .rw [dQ hj] at e
   obtain ⟨p2,vw,e1,e2,e3,e4,h1⟩:=R.tw j ks es e
   refine ⟨p2,vw,e1,e2,?_,e4,h1.map hO hH⟩
   rw [da (λz=>hj (R.sep i j t _ p he e hs (by rw [e1,z]) ho trivial))]
   exact e3
 .have fix:∀(j:Nat) (es:Sl),(env.set i t')[j]?=some es->es.own->∃gs:Sl,env[j]?=some gs/\gs.own:=λj es e o=>by
   by_cases hj:i=j
   .subst hj;exact ⟨t,he,ho⟩
   .rw [dQ hj] at e;exact ⟨es,e,o⟩
  obtain ⟨g1,h1,q1⟩:=fix j es e1 o1
  obtain ⟨g2,h2,q2⟩:=fix k fs e2 o2
  exact R.sep j k g1 g2 q h1 h2 e3 e4 q1 q2
 .rw [da (λz=>n (by rw [z];exact zN))];exact e
theorem Rel.wr(R:Rel K O B σ H env)(he:env[i]?=some (Sl.ow ds))(hs:σ[i]?=some (some (V.ref p)))(hx:aR K (OO O σ env) H mF ds'):
  Rel K O B σ (upd H p (.lst mF)) (env.set i (.ow ds'))/\Gd σ env H σ (env.set i (.ow ds')) (upd H p (.lst mF)):=
 R.LI (t':=.ow ds') he trivial trivial hs ⟨λ_ e=>by cases e;exact ⟨mF,rfl,hx⟩,λ_ e=>(nomatch e),λ_ _ e=>(nomatch e)⟩
theorem Rel.QL{p:Addr}{ks ks':List Str}{ds ds':List D}{vs':List V}(R:Rel K O B σ H env)(he:env[i]?=some (Sl.tw ks ds))(hs:σ[i]?=some (some (V.ref p)))(hl:ks'.length=vs'.length)(hx:aR K (OO O σ env) H vs' ds'):
  Rel K O B σ (upd H p (wC ks' vs')) (env.set i (.tw ks' ds'))/\Gd σ env H σ (env.set i (.tw ks' ds')) (upd H p (wC ks' vs')):=
 R.LI (t':=.tw ks' ds') he trivial trivial hs ⟨λ_ e=>(nomatch e),λ_ e=>(nomatch e),λ_ _ e=>by cases e;exact ⟨vs',rfl,hl,hx⟩⟩
theorem Rel.wo{t:Sl}(R:Rel K O B σ H env)(he:env[i]?=some t)(ho:t.own):Rel K O B σ H (env.set i (.sh t.d))/\Gd σ env H σ (env.set i (.sh t.d)) H:=by
 have hi:i<env.length:=(qK.mp he).1
 obtain ⟨p,u0,f1,f2,f3⟩:=R.ad he ho
 have own:∀q,mo σ (env.set i (.sh t.d)) q->mo σ env q/\q≠p:=λq ⟨j,es,e1,o,e2⟩=>by
  by_cases hj:i=j
  .subst hj;rw [kE hi] at e1;cases e1;exact o.elim
  .rw [dQ hj] at e1
   exact ⟨⟨j,es,e1,o,e2⟩,λz=>hj (R.sep i j t es p he e1 f1 (by rw [e2,z]) ho o)⟩
 have less:∀q,OO O σ (env.set i (.sh t.d)) q->OO O σ env q:=λq z=>z.elim .inl λz=>.inr (own q z).1
 have np:¬OO O σ (env.set i (.sh t.d)) p:=λz=>z.elim (λz=>R.o6.1 p z f2) λz=>(own p z).2 rfl
 refine ⟨⟨R.same,R.o6,by simp [R.len],λj d e=>?_,λj es e=>?_,λj aA e=>?_,λj ks es e=>?_,λj k es fs q e1 e2 e3 e4 o1 o2=>?_⟩,λq u e n=>⟨e,λz=>n (own q z).1⟩⟩
 .by_cases hj:i=j
  .subst hj
   rw [kE hi] at e
   cases e
   refine ⟨.ref p,f1,?_⟩
   cases t with
   | no=>exact ho.elim
   | sh d=>exact ho.elim
   | ow ds =>
    obtain ⟨p',xs,g1,g2,g3,g4⟩:=R.ow i ds he
    rw [f1] at g1;cases g1
    exact .lst np g3 (g4.less less)
   | dw aA =>
    obtain ⟨p',g1,g2,g3⟩:=R.dw i aA he
    rw [f1] at g1;cases g1
    exact .iH np g3
   | tw ks ds =>
    obtain ⟨p',vs,g1,g2,g3,g4,g5⟩:=R.tw i ks ds he
    rw [f1] at g1;cases g1
    exact .cH np g3 g4 (g5.less less)
  .rw [dQ hj] at e
   obtain ⟨w,e1,h1⟩:=R.sh j d e
   exact ⟨w,e1,h1.less less⟩
 .by_cases hj:i=j
  .subst hj;rw [kE hi] at e;cases e
  .rw [dQ hj] at e
   obtain ⟨p2,vw,e1,e2,e3,h1⟩:=R.ow j es e
   exact ⟨p2,vw,e1,e2,e3,h1.less less⟩
 .by_cases hj:i=j
  .subst hj;rw [kE hi] at e;cases e
  .rw [dQ hj] at e
   exact R.dw j aA e
 .by_cases hj:i=j
  .subst hj;rw [kE hi] at e;cases e
  .rw [dQ hj] at e
   obtain ⟨p2,vw,e1,e2,e3,e4,h1⟩:=R.tw j ks es e
   exact ⟨p2,vw,e1,e2,e3,e4,h1.less less⟩
 .have fix:∀(j:Nat) (es:Sl),(env.set i (.sh t.d))[j]?=some es->es.own->env[j]?=some es:=λj es e o=>by
   by_cases hj:i=j
   .subst hj;rw [kE hi] at e;cases e;exact o.elim
   .rw [dQ hj] at e;exact e
  exact R.sep j k es fs q (fix j es e1 o1) (fix k fs e2 o2) e3 e4 o1 o2
theorem Rel.lU{ds:List D}(R:Rel K O B σ H env)(he:env[i]?=some (Sl.ow ds)):Rel K O B σ H (env.set i (.sh (.lst false ds)))/\Gd σ env H σ (env.set i (.sh (.lst false ds))) H:=R.wo he trivial
end
section
variable {X:Cx}{st:Stmt}{rest:List Stmt}{F G:SF}{a b c e:Expr}{fa:En->Option Sl}{ga:En->Option Bool}{pos:Pos}
noncomputable def dW:SF:=λenv=>some (.nx,env)
noncomputable def Ra:SF:=λenv=>some (.bk,env)
noncomputable def Q9:SF:=λenv=>some (.ct,env)
noncomputable def aG(F G:SF):SF:=λenv=>match F env with
 | some (.nx,cz)=>G cz
 | r=>r
theorem gi:oq X [] dW:=⟨_,JY,λO B σ H env fl ah D R e q=>by
 cases (show some (Fl.nx,env)=some (fl,ah) from e)
 exact q σ H R (Gd.refl (aC.refl _))⟩
theorem bM(h:SV X st F):oq X [st] F:=let ⟨t,p,k⟩:=h;⟨t,VU p,k⟩
theorem bH(h:SV X st F)(h2:oq X rest G):oq X (st::rest) (aG F G):=by
 obtain ⟨t,p,k⟩:=h
 obtain ⟨u,p',k'⟩:=h2
 refine ⟨_,Kg p p',λO B σ H env fl ah D R e q=>?_⟩
 unfold aG at e
 cases hF:F env with
 | none=>rw [hF] at e;cases e
 | some x =>
  obtain ⟨f1,cz⟩:=x
  rw [hF] at e
  refine k O B σ H env f1 cz _ R hF ?_
  cases f1 with
  | nx=>exact λaX H' R' g'=>k' O B aX H' cz fl ah D R' e (q.from g')
  | bk=>cases e;exact q
  | ct=>cases e;exact q
  | rt r=>cases e;exact q
noncomputable def dI(c:En->Option Bool)(F G:SF):SF:=λenv=>match c env with
 | some true=>F env
 | some false=>G env
 | none=>none
theorem fY(hc:TV X c ga)(ha:oq X sa F)(hb:oq X sb G):SV X (.If c sa sb pos) (dI ga F G):=by
 obtain ⟨tc,pc,kc⟩:=hc
 obtain ⟨t,p,k⟩:=ha
 obtain ⟨u,p',k'⟩:=hb
 refine ⟨_,zF pc p p',λO B σ H env fl ah D R e q=>?_⟩
 unfold dI at e
 cases h:ga env with
 | none=>rw [h] at e;cases e
 | some x =>
  rw [h] at e
  refine kc O B σ H env x _ R h λH1 s1=>?_
  cases x with
  | true =>
   rw [if_pos rfl]
   exact k O B σ H1 env fl ah D (R.grow s1) e (q.from (Gd.refl s1))
  | false =>
   rw [if_neg pV]
   exact k' O B σ H1 env fl ah D (R.grow s1) e (q.from (Gd.refl s1))
noncomputable def bf(f:En->Option Sl):SF:=λenv=>(f env).map λr=>(.rt r,env)
theorem cJ(h:EV X e fa):SV X (.Return (some e) pos) (bf fa):=by
 obtain ⟨t,p,k⟩:=h
 refine ⟨_,NQ p,λO B σ H env fl ah D R e q=>?_⟩
 obtain ⟨r,e1,e2⟩:=map_some e
 cases e2
 exact k O B σ H env r _ R e1 λv H1 s1 r1=>q v H1 (R.same.trans s1) ((r1.from R.same).less λq z=>.inl z)
noncomputable def zj:SF:=λenv=>some (.rt (.sh .bo),env)
noncomputable def sM(i:Nat):SF:=λenv=>match env[i]? with
 | some (.ow ds)=>some (.rt (.ow ds),env)
 | some (.dw ds)=>some (.rt (.dw ds),env)
 | some (.tw ks ds)=>some (.rt (.tw ks ds),env)
 | some (.sh d)=>some (.rt (.sh d),env)
 | _=>none
theorem Wz(i:Nat){x:Str}{p2:Pos}(hN:X.N[i]?=some x:=by rfl)(hv:iJ X.env.scope x:=by first | exact cq rfl | exact bP (cq rfl) | exact bP (bP rfl))(hd:(x==("__debug__":Str))=false:=by decide)
  (cu:(x==("__classdict__":Str))=false:=by decide):SV X (.Return (some (.Name x p2)) pos) (sM i):=by
 refine ⟨_,NQ (rY hN hv hd cu),λO B σ H env fl ah D R e q=>?_⟩
 unfold sM at e
 cases h:env[i]? with
 | none=>rw [h] at e;cases e
 | some s =>
  rw [h] at e
  cases s with
  | no=>cases e
  | sh d =>
   cases e
   obtain ⟨v,e2,hv⟩:=R.sh i d h
   exact ⟨v,e2,q v H R.same (Is.less (λq z=>.inl z) hv)⟩
  | ow ds =>
   cases e
   obtain ⟨p,xs,e1,e2,e3,h1⟩:=R.ow i ds h
   exact ⟨_,e1,q _ H R.same ⟨p,xs,rfl,e2,e3,h1.less λq z=>z.elim .inl λz=>.inr ⟨i,.ow ds,h,trivial,by rw [z];exact e1⟩⟩⟩
  | dw aA =>
   cases e
   obtain ⟨p,e1,e2,e3⟩:=R.dw i aA h
   exact ⟨_,e1,q _ H R.same ⟨p,rfl,e2,e3⟩⟩
  | tw ks ds =>
   cases e
   obtain ⟨p,vs,e1,e2,e3,e4,h1⟩:=R.tw i ks ds h
   exact ⟨_,e1,q _ H R.same ⟨p,vs,rfl,e2,e3,e4,h1.less λq z=>z.elim .inl λz=>.inr ⟨i,.tw ks ds,h,trivial,by rw [z];exact e1⟩⟩⟩
noncomputable def e8(i:Nat)(f:En->Option Sl):SF:=λenv=>(f env).bind λr=>if i<env.length then some (.nx,env.set i r) else none
theorem NU(hN:X.N.Nodup)(hi:X.N[i]?=some x)(hx:Loc X.env.scope x)(he:EV X e fa)(hs:swapsWith e (some (.Name x pos')) pos.line X.env=pure false:=by rfl)(hf:X.fn x=true\/X.env.scope.names.lookup x=some .local:=by first | exact .inl rfl | exact .inr rfl | assumption):
  SV X (.Assign [.Name x pos'] e pos) (e8 i fa):=by
 obtain ⟨t,p,k⟩:=he
 refine ⟨_,Jz hN hi hx p hs hf,λO B σ H env fl ah D R e q=>?_⟩
 obtain ⟨r,e1,e2⟩:=bind_some e
 obtain ⟨hl,e3⟩:=k7 e2
 cases e3
 refine k O B σ H env r _ R e1 λv H1 s1 r1=>?_
 obtain ⟨R',g'⟩:=R.set s1 r1 hl
 exact q _ H1 R' g'
noncomputable def de(i:Nat)(f:En->Option Sl):SF:=λenv=>(f env).bind λr=>if i<env.length then some (.nx,env.set i (.sh r.d)) else none
theorem OZ(hN:X.N.Nodup)(hi:X.N[i]?=some x)(hx:Loc X.env.scope x)(he:EV X e fa)(hs:swapsWith e (some (.Name x pos')) pos.line X.env=pure false:=by rfl)(hf:X.fn x=true\/X.env.scope.names.lookup x=some .local:=by first | exact .inl rfl | exact .inr rfl | assumption):
  SV X (.Assign [.Name x pos'] e pos) (de i fa):=by
 obtain ⟨t,p,k⟩:=he
 refine ⟨_,Jz hN hi hx p hs hf,λO B σ H env fl ah D R e q=>?_⟩
 obtain ⟨r,e1,e2⟩:=bind_some e
 obtain ⟨hl,e3⟩:=k7 e2
 cases e3
 refine k O B σ H env r _ R e1 λv H1 s1 r1=>?_
 obtain ⟨R',g'⟩:=R.set (r:=.sh r.d) s1 (r1.is λq=>R.oo) hl
 exact q _ H1 R' g'
noncomputable def Jn(f:En->Option Sl):SF:=λenv=>(f env).map λ_=>(.nx,env)
theorem Wx(he:EV X e fa)(hs:swapsWith e none pos.line X.env=pure false:=by rfl):SV X (.Expr e pos) (Jn fa):=by
 obtain ⟨t,p,k⟩:=he
 refine ⟨_,JX p hs,λO B σ H env fl ah D R e q=>?_⟩
 obtain ⟨r,e1,e2⟩:=map_some e
 cases e2
 exact k O B σ H env r _ R e1 λv H1 s1 r1=>q σ H1 (R.grow s1) (Gd.refl s1)
noncomputable def rF(i:Nat)(env:En):En:=match env[i]? with
 | some (.ow ds)=>env.set i (.sh (.lst false ds))
 | some (.dw ds)=>env.set i (.sh (.iH false ds))
 | some (.tw ks ds)=>env.set i (.sh (.cH ks ds))
 | _=>env
noncomputable def sZ(i:Nat)(F:SF):SF:=λenv=>F (rF i env)
theorem UU(i:Nat)(h:SV X st F):SV X st (sZ i F):=by
 obtain ⟨t,p,k⟩:=h
 refine ⟨t,p,λO B σ H env fl ah D R e q=>?_⟩
 unfold sZ rF at e
 cases h:env[i]? with
 | none=>rw [h] at e;exact k O B σ H env fl ah D R e q
 | some s =>
  rw [h] at e
  cases s with
  | no=>exact k O B σ H env fl ah D R e q
  | sh d=>exact k O B σ H env fl ah D R e q
  | ow ds =>
   obtain ⟨R',g'⟩:=R.lU h
   exact k O B σ H _ fl ah D R' e (q.from g')
  | dw ds =>
   obtain ⟨R',g'⟩:=R.wo h trivial
   exact k O B σ H _ fl ah D R' e (q.from g')
  | tw ks ds =>
   obtain ⟨R',g'⟩:=R.wo h trivial
   exact k O B σ H _ fl ah D R' e (q.from g')
noncomputable def kO(i:Nat)(f:En->Option Sl):SF:=λenv=>match env[i]? with
 | some (.ow ds)=>(f env).bind λr=>if ds.length<16777216 then some (.nx,env.set i (.ow (ds++[r.d]))) else none
 | _=>none
theorem PY{i:Nat}{x:Str}{p1 p2 be:Pos}(ha:EV X e fa)(hN:X.N[i]?=some x:=by rfl)(hv:iJ X.env.scope x:=by first | exact cq rfl | exact bP (cq rfl) | exact bP (bP rfl))(hd:(x==("__debug__":Str))=false:=by decide)
  (cu:(x==("__classdict__":Str))=false:=by decide)(hs:starEach [e] X.env=[(false,eval e X.env)]:=by rfl)
  (cC:attributeBase (.Name x p1) "append" X.env (eval (.Name x p1) X.env)=eval (.Name x p1) X.env:=by rfl)
  (kS:((backTo be (starEach [e] X.env)).all (λx=>!x.1)&&(backToKw be (keywordEach [] X.env)).all (λx=>x.1.isSome)
   && decide ([e].length+([]:List Keyword).length+(if ([]:List Keyword).isEmpty then 0 else 1)<30))=true:=by rfl)
  (cB:(p2.endLine==be.line)=true:=by rfl)
  (tz:swapsWith (.Call (.Attribute (.Name x p1) "append" p2) [e] [] be) none pos.line X.env=pure false:=by rfl):
  SV X (.Expr (.Call (.Attribute (.Name x p1) "append" p2) [e] [] be) pos) (kO i fa):=by
 obtain ⟨t,p,k⟩:=ha
 refine ⟨_,JX (NG II M7 PySem.F.type_list_append Yg (rY hN hv hd cu) (oh p pf hs) cC kS cB hs rfl) tz,λO B σ H env fl ah D R e q=>?_⟩
 unfold kO at e
 cases h:env[i]? with
 | none=>rw [h] at e;cases e
 | some s =>
  rw [h] at e
  cases s with
  | no=>cases e
  | sh d=>cases e
  | dw aA=>cases e
  | tw _ _=>cases e
  | ow ds =>
   obtain ⟨r,e1,e2⟩:=bind_some e
   obtain ⟨hl,e3⟩:=k7 e2
   cases e3
   obtain ⟨l,xs,f1,f2,f3,f4⟩:=R.ow i ds h
   refine ⟨_,f1,.inl ⟨rfl,_,dU.of f3⟩,?_⟩
   refine k O B σ H env r _ R e1 λv H1 s1 r1=>⟨l,xs,v,rfl,rfl,s1 _ _ f3,by rw [f4.length,pT];exact hl,?_⟩
   obtain ⟨R',g'⟩:=(R.grow s1).wr h f1 ((f4.grow s1).append (.cons (r1.is λq=>R.oo) .nil))
   exact q _ _ R' (g'.from s1)
end
section
variable {X:Cx}{st:Stmt}{F:SF}{a b c e tg it:Expr}{fa:En->Option Sl}{ba:En->Option (Bool×List D)}{ga:En->Option Bool}{pos:Pos}
noncomputable abbrev GF:=D->En->Option En
def GV(X:Cx)(tg:Expr)(g:GF):Prop:=
 ∃t:TG,PG X tg t/\∀(O:Addr->Prop) (B:Hp) (σ:L2.St) (H:Hp) (env ah:En) (v:V) (d:D) (Q:L2.St->Hp->Prop),Rel X.K O B σ H env->Is X.K (OO O σ env) H v d->g d env=some ah ->
  (∀aX H',Rel X.K O B aX H' ah->Gd σ env H aX ah H'->Q aX H')->t v σ H Q
noncomputable def gN(i:Nat):GF:=λd env=>if i<env.length then some (env.set i (.sh d)) else none
theorem V'(hN:X.N.Nodup)(hi:X.N[i]?=some x)(hx:Loc X.env.scope x)(hf:X.fn x=true\/X.env.scope.names.lookup x=some .local:=by first | exact .inl rfl | exact .inr rfl | assumption):GV X (.Name x pos) (gN i):=by
 refine ⟨_,VP hN hi hx hf,λO B σ H env ah v d Q R h e q=>?_⟩
 obtain ⟨hl,rfl⟩:=k7 e
 obtain ⟨R',g'⟩:=R.set (r:=.sh d) (aC.refl _) h hl
 exact q _ H R' g'
noncomputable abbrev xt:=List D->En->Option En
def FD(X:Cx)(tg:List Expr)(g:xt):Prop:=
 ∃t:vp,CF X tg t/\∀(O:Addr->Prop) (B:Hp) (σ:L2.St) (H:Hp) (env ah:En) (v:List V) (d:List D) (Q:L2.St->Hp->Prop),Rel X.K O B σ H env->aR X.K (OO O σ env) H v d->g d env=some ah ->
  (∀aX H',Rel X.K O B aX H' ah->Gd σ env H aX ah H'->Q aX H')->t v σ H Q
noncomputable def vf:xt:=λds env=>match ds with
 | []=>some env
 | _::_=>none
noncomputable def pW(g:GF)(u:xt):xt:=λds env=>match ds with
 | d::r=>(g d env).bind (u r)
 | []=>none
theorem B5:FD X [] vf:=by
 refine ⟨_,VQ,λO B σ H env ah v d Q R h e q=>?_⟩
 cases h with
 | nil=>cases e;exact ⟨rfl,q σ H R (Gd.refl (aC.refl _))⟩
 | cons _ _=>cases e
theorem Gd.C6{K:aI}{O:Addr->Prop}{σ aX:L2.St}{env ah:En}{H H':Hp}(g:Gd σ env H aX ah H'){v:List V}{d:List D}(h:aR K (OO O σ env) H v d):aR K (OO O aX ah) H' v d:=
 h.map (λq hq hn z=>by
  cases e:H q with
  | none=>exact hq e
  | some u =>
   obtain ⟨_,n'⟩:=g q u e λw=>hn (.inr w)
   exact z.elim (λw=>hn (.inl w)) n') λq u e n=>(g q u e λw=>n (.inr w)).1
theorem sN{es:List Expr}{g:GF}{u:xt}(h1:GV X e g)(h2:FD X es u)
  (hs:(assignEach (e::es) X.env).map (·.2)=assign e X.env::(assignEach es X.env).map (·.2):=by rfl):FD X (e::es) (pW g u):=by
 obtain ⟨t,p,k⟩:=h1
 obtain ⟨t',p',k'⟩:=h2
 refine ⟨_,Xj p p' hs,λO B σ H env ah v d Q R h e q=>?_⟩
 cases h with
 | nil=>cases e
 | cons h ht =>
  obtain ⟨cz,e1,e2⟩:=bind_some (show (g _ env).bind (u _)=some ah from e)
  refine ⟨_,_,rfl,k O B σ H env cz _ _ _ R h e1 λkZ H1 R1 g1=>?_⟩
  exact k' O B kZ H1 cz ah _ _ Q R1 (g1.C6 ht) e2 λdg H2 R2 g2=>q dg H2 R2 (g1.trans g2)
noncomputable def gT(n:Nat)(u:xt):GF:=λd env=>match d with
 | .tup ds=>if ds.length=n then u ds env else none
 | _=>none
theorem B2{es:List Expr}{k n:Nat}{u:xt}(hc:X.calm=true)(h:FD X es u)(hn:(assignEach es X.env).length=n:=by rfl)(tD:(assignEach es X.env).findIdx? (·.1)=none:=by rfl):GV X (.Tuple es k pos) (gT n u):=by
 obtain ⟨t,p,k'⟩:=h
 refine ⟨_,Vf hc p hn tD,λO B σ H env ah v d Q R h e q=>?_⟩
 cases d with
 | tup ds =>
  have e':(if ds.length=n then u ds env else none)=some ah:=e
  by_cases hl:ds.length=n
  .rw [if_pos hl] at e'
   obtain ⟨a,xs,rfl,h1,h2⟩:=Ez h
   exact ⟨a,xs,rfl,h1,by rw [h2.length];exact hl,k' O B σ H env ah xs ds Q R h2 e' q⟩
  .rw [if_neg hl] at e';cases e'
 | _=>cases e
noncomputable def zo(f:En->Option Sl)(g:GF):SF:=λenv=>(f env).bind λr=>(g r.d env).map λah=>(.nx,ah)
noncomputable def forL(g:GF)(F:SF):List D->SF
 | [],env=>some (.nx,env)
 | d::ds,env=>match g d env with
  | none=>none
  | some cz=>match F cz with
   | some (.nx,b8)=>forL g F ds b8
   | some (.ct,b8)=>forL g F ds b8
   | some (.bk,b8)=>some (.nx,b8)
   | some (.rt r,b8)=>some (.rt r,b8)
   | none=>none
structure Left(K:aI)(O:Addr->Prop)(B:Hp)(sQ:L2.St)(H0:Hp)(jL:En)(g:GF)(F:SF)(ds:List D)(fl:Fl)(ah:En)(i:Nat)(σ:L2.St)(H:Hp):Prop where
 ex:∃env,Rel K O B σ H env/\Gd sQ jL H0 σ env H/\forL g F (ds.drop i) env=some (fl,ah)
theorem Kc{g:GF}{uC:TG}{tb:TS}{O:Addr->Prop}{B:Hp}{sQ:L2.St}{H0:Hp}{jL ah:En}{fl:Fl}{D:Ends}{ds:List DL.D}{xs:List V}{i:Nat}{x:V}{σ:L2.St}{H:Hp}
  (kg:∀(O:Addr->Prop) (B:Hp) (σ:L2.St) (H:Hp) (env ah:En) (v:V) (d:DL.D) (Q:L2.St->Hp->Prop),Rel X.K O B σ H env->Is X.K (OO O σ env) H v d->g d env=some ah ->
   (∀aX H',Rel X.K O B aX H' ah->Gd σ env H aX ah H'->Q aX H')->uC v σ H Q)
  (kb:∀(O:Addr->Prop) (B:Hp) (σ:L2.St) (H:Hp) (env:En) (fl:Fl) (ah:En) (D:Ends),Rel X.K O B σ H env->F env=some (fl,ah)->dH X.K O B σ H env D fl ah->tb D σ H)
  (hx:aR X.K (OO O sQ jL) H0 xs ds)(hi:xs[i]?=some x)(q:dH X.K O B sQ H0 jL D fl ah)(h:Left X.K O B sQ H0 jL g F ds fl ah i σ H):
  uC x σ H λdg H2=>tb { D with nx:=Left X.K O B sQ H0 jL g F ds fl ah (i+1),ct:=Left X.K O B sQ H0 jL g F ds fl ah (i+1),bk:=D.nx } dg H2:=by
 obtain ⟨env,R,gd,e⟩:=h
 obtain ⟨d,hd,_⟩:=hx.wc hi
 have G8:i<ds.length:=(qK.mp hd).1
 have qd:ds.drop i=d::ds.drop (i+1):=by
  rw [sI G8]
  rw [mB G8] at hd
  rw [dh hd]
 obtain ⟨x',kz,So⟩:=(gd.C6 hx).get hd
 rw [hi] at kz
 cases kz
 rw [qd,forL] at e
 cases hg:g d env with
 | none=>rw [hg] at e;cases e
 | some cz =>
  rw [hg] at e
  refine kg O B σ H env cz x d _ R So hg λkZ H1 R1 g1=>?_
  dsimp only at e
  cases hF:F cz with
  | none=>rw [hF] at e;cases e
  | some y =>
   obtain ⟨f2,b8⟩:=y
   rw [hF] at e
   have go:=gd.trans g1
   refine kb O B kZ H1 cz f2 b8 _ R1 hF ?_
   cases f2 with
   | nx=>exact λdg H2 R2 g2=>⟨b8,R2,go.trans g2,e⟩
   | ct=>exact λdg H2 R2 g2=>⟨b8,R2,go.trans g2,e⟩
   | bk=>cases e;exact λdg H2 R2 g2=>q dg H2 R2 (go.trans g2)
   | rt r=>cases e;exact q
theorem Kb{D:Ends}{ds:List DL.D}{n:Nat}(hn:ds.length<=n)
  (q:dH X.K O B sQ H0 jL D fl ah)(h:Left X.K O B sQ H0 jL g F ds fl ah n σ H):D.nx σ H:=by
 obtain ⟨env,R,gd,e⟩:=h
 rw [yb hn,forL] at e
 cases e
 exact q σ H R gd
noncomputable def kN(f:En->Option Sl)(g:GF)(F:SF):SF:=λenv=>(f env).bind λr=>(e7 r.d).bind λx=>forL g F x.2 env
theorem Gd.sq{K:aI}{σ aX:L2.St}{env ah:En}{H H':Hp}(gd:Gd σ env H aX ah H'){k:Bool}{p:Addr}{xs:List V}(h:Sq K H k p xs)(hp:¬mo σ env p\/H p=none):Sq K H' k p xs:=by
 have rd:∀u,Rd H p u->Rd H' p u:=λu z=>by
  rcases z with z | ⟨o,z⟩
  .rcases hp with hp | hp
   .exact .inl (gd p _ z hp).1
   .rw [hp] at z;cases z
  .rcases hp with hp | hp
   .exact .inr ⟨o,(gd p _ z hp).1⟩
   .rw [hp] at z;cases z
 cases k with
 | true =>
  rcases h with h | h
  .exact .inl (rd _ h)
  .exact .inr h
 | false =>
  rcases h with h | h
  .exact .inl (rd _ h)
  .exact .inr h
theorem Is.zh{K:aI}{O:Addr->Prop}{H:Hp}{v:V}{d:D}{k:Bool}{ds:List D}(h:Is K O H v d)(e:e7 d=some (k,ds)):∃p xs,v=.ref p/\Sq K H k p xs/\aR K O H xs ds/\(¬O p\/∀H',Sq K H' k p xs):=by
 cases h with
 | tup ho hp hs=>cases e;exact ⟨_,_,rfl,.inl hp,hs,.inl ho⟩
 | lK hp hs=>cases e;exact ⟨_,_,rfl,Cf hp,hs,.inr λ_=>Cf hp⟩
 | lst ho hp hs=>cases e;exact ⟨_,_,rfl,.inl (.inl hp),hs,.inl ho⟩
 | mJ ho hp hs=>cases e;exact ⟨_,_,rfl,.inl hp,hs,.inl ho⟩
 | mQ hp hs=>cases e;exact ⟨_,_,rfl,Ce hp,hs,.inr λ_=>Ce hp⟩
 | _=>cases e
noncomputable def GP(K:aI)(tl:TE):TI:=λσ H R=>tl σ H λx H1=>∃a,x=.ref a/\(((∃xs,dU K H1 a xs)/\R (CI K a) H1)\/((∃xs,gc K H1 a xs)/\R (CH K a) H1))
theorem NN(hl:PE X l tl):PI X tg l (GP X.K tl):=by
 intro pins s σ H R I h
 refine bw (hl pins s σ H _ I h) λv s1 ⟨x,H1,I1,r1,q1⟩=>?_
 obtain ⟨a,e,q1⟩:=q1
 subst e
 cases r1
 rcases q1 with ⟨⟨xs,hq⟩,q⟩ | ⟨⟨xs,hq⟩,q⟩
 .obtain ⟨av,rv,p,hz⟩:=I1.list hq
  refine Ii p.isList ?_
  refine ⟨s1.heap.objs.size,[s1.heap.objs.size],_,_,H1,rfl,I1.kept (t':=s1.toks) λb o e=>c8 _ e,YX a _,⟨_,jY _ rfl,rfl,rfl⟩,λb hb=>?_,q⟩
  have e:b=s1.heap.objs.size:=by simpa using hb
  subst e
  exact I1.rG (bX _) (I1.bq.fresh (bX _))
 .obtain ⟨av,rv,p,hz⟩:=I1.tuple hq
  refine wpAny_pyIter_tuple (show s1.heap.IsTuple a av.toArray from p) ?_
  refine ⟨s1.heap.objs.size,[s1.heap.objs.size],_,_,H1,rfl,I1.kept (t':=s1.toks) λb o e=>c8 _ e,YD a _,⟨_,jY _ rfl,rfl,rfl⟩,λb hb=>?_,q⟩
  have e:b=s1.heap.objs.size:=by simpa using hb
  subst e
  exact I1.rG (bX _) (I1.bq.fresh (bX _))
theorem vh(hp:PassesOwn (model X.prog X.w) X.A X.env X.xe)(hc:X.calm=true)(hi:EV X it fa)(hg:GV X tg g)(hb:oq X body F)
  (hs:∀x,foldedSetIterable it X.env x=pure x:=by intro _;rfl):SV X (.For tg it body [] pos) (kN fa g F):=by
 obtain ⟨ti,pi,ki⟩:=hi
 obtain ⟨uC,pg,kg⟩:=hg
 obtain ⟨tb,pb,kb⟩:=hb
 refine ⟨_,NP hp hc (NN pi) pg pb hs,λO B σ H env fl ah D R e q=>?_⟩
 obtain ⟨r,e1,e2⟩:=bind_some e
 obtain ⟨⟨k,ds⟩,e4,e5⟩:=bind_some e2
 refine ki O B σ H env r _ R e1 λv H1 s1 r1=>?_
 obtain ⟨p,xs,rfl,h1,h2,h3⟩:=(r1.is λq=>R.oo).zh e4
 refine ⟨p,rfl,?_⟩
 have q':dH X.K O B σ H1 env D fl ah:=q.from (Gd.refl s1)
 have keep:∀i dg H2,Left X.K O B σ H1 env g F ds fl ah i dg H2->Sq X.K H2 k p xs:=λi dg H2 L=>by
  rcases h3 with h3 | h3
  .obtain ⟨b8,_,gd,_⟩:=L
   exact gd.sq h1 (.inl λz=>h3 (.inr z))
  .exact h3 H2
 cases k with
 | true =>
  refine .inl ⟨⟨xs,h1⟩,?_⟩
  exact WE (xs:=xs) (Left X.K O B σ H1 env g F ds fl ah) ⟨env,R.grow s1,Gd.refl (aC.refl _),e5⟩ (λi dg H2 _ L=>keep i dg H2 L) (λi x dg H2 hx L=>Kc kg kb h2 hx q' L) (λdg H2 L=>Kb (by rw [h2.length];exact bX _) q' L)
 | false =>
  refine .inr ⟨⟨xs,h1⟩,?_⟩
  exact V8 (xs:=xs) (Left X.K O B σ H1 env g F ds fl ah) ⟨env,R.grow s1,Gd.refl (aC.refl _),e5⟩ (λi dg H2 _ L=>keep i dg H2 L) (λi x dg H2 hx L=>Kc kg kb h2 hx q' L) (λdg H2 L=>Kb (by rw [h2.length];exact bX _) q' L)
noncomputable def di(lo:Int)(n:Nat):List D:=(o7 n).map λ(k:Nat)=>D.int (lo+(k:Int))
def R62(i:Int):Prop:=-(2^62)<=i/\i<2^62
noncomputable instance (i:Int):Decidable (R62 i):=by unfold R62;infer_instance
noncomputable def oK:List D->Option (List D)
 | [.int j]=>if R62 j then some (di 0 j.toNat) else none
 | _=>none
noncomputable def Gi:List D->Option (List D)
 | [.int i,.int j]=>if R62 i/\R62 j then some (di i (j-i).toNat) else none
 | _=>none
noncomputable def xc(h:List D->Option (List D))(f:En->Option (List D))(g:GF)(F:SF):SF:=λenv=>(f env).bind λds=>(h ds).bind λis=>forL g F is env
theorem VZ{K:aI}{O:Addr->Prop}{H:Hp}(lo:Int)(n:Nat):aR K O H ((o7 n).map λ(k:Nat)=>V.int (lo+(k:Int))) (di lo n):=by
 have h:=aR.ints (K:=K) (O:=O) (H:=H) ((o7 n).map λ(k:Nat)=>lo+(k:Int))
 rw [wH,wH] at h
 exact h
theorem Pe{K:aI}{O:Addr->Prop}{H:Hp}{xs:List V}{i:Int}(h:aR K O H xs [.int i]):xs=[.int i]:=by
 cases h with
 | cons h t=>cases t;rw [oa h]
theorem V7{tb:TS}{uC:TG}{g:GF}{lo:Int}{n:Nat}{O:Addr->Prop}{B:Hp}{σ:L2.St}{H:Hp}{env ah:En}{fl:Fl}{D:Ends}
  (kg:∀(O:Addr->Prop) (B:Hp) (σ:L2.St) (H:Hp) (env ah:En) (v:V) (d:DL.D) (Q:L2.St->Hp->Prop),Rel X.K O B σ H env->Is X.K (OO O σ env) H v d->g d env=some ah ->
   (∀aX H',Rel X.K O B aX H' ah->Gd σ env H aX ah H'->Q aX H')->uC v σ H Q)
  (kb:∀(O:Addr->Prop) (B:Hp) (σ:L2.St) (H:Hp) (env:En) (fl:Fl) (ah:En) (D:Ends),Rel X.K O B σ H env->F env=some (fl,ah)->dH X.K O B σ H env D fl ah->tb D σ H)
  (R:Rel X.K O B σ H env)(e:forL g F (di lo n) env=some (fl,ah))(q:dH X.K O B σ H env D fl ah):
  ∃W:Nat->Nat->L2.St->Hp->Prop,(∃m,W 0 m σ H)/\∀i m σ H,W i m σ H ->
   ((qv lo n).stop i H/\D.nx σ H)\/((qv lo n).go i H/\∃N:L2.St->Hp->Prop,(∀aX H',N aX H'->∃m',m'<m/\W (i+1) m' aX H')/\∀x H',(qv lo n).vt i H x H'->uC x σ H' λdg H2=>tb { D with nx:=N,ct:=N,bk:=D.nx } dg H2):=by
 refine Yi (Left X.K O B σ H env g F (di lo n) fl ah) ⟨env,R,Gd.refl (aC.refl _),e⟩ (λi dg H2 hi L=>?_) (λdg H2 L=>Kb (by simp [di]) q L)
 exact Kc kg kb (VZ lo n) (by simp [hi]) q L
theorem EW{body:List Stmt}{g:GF}{fs:En->Option (List D)}{p:Pos}(hp:PassesOwn (model X.prog X.w) X.A X.env X.xe)(hc:X.calm=true)(G9:Gl X "range")(hm:X.mg "range" = none)(ha:AV X [a] fs)(hg:GV X tg g)(hb:oq X body F)
  (h1:starEach [a] X.env=[(false,eval a X.env)]:=by rfl)(hs:∀x,foldedSetIterable (.Call (.Name "range" p) [a] [] pos) X.env x=pure x:=by intro _;rfl){oM:Pos}:
  SV X (.For tg (.Call (.Name "range" p) [a] [] pos) body [] oM) (xc oK fs g F):=by
 obtain ⟨ti,pi,ki⟩:=ha
 obtain ⟨uC,pg,kg⟩:=hg
 obtain ⟨tb,pb,kb⟩:=hb
 refine ⟨_,NP hp hc (X4 G9 hm pi h1) pg pb hs,λO B σ H env fl ah D R e q=>?_⟩
 obtain ⟨ds,e1,e2⟩:=bind_some e
 obtain ⟨is,e2,e3⟩:=bind_some e2
 refine ki O B σ H env ds _ R e1 λvs H1 s1 r1=>?_
 unfold oK at e2
 split at e2
 .obtain ⟨⟨h1,h2⟩,rfl⟩:=k7 e2
  exact ⟨_,Pe r1,h1,h2,V7 kg kb (R.grow s1) e3 (q.from (Gd.refl s1))⟩
 .cases e2
noncomputable def sS(c:En->Option Bool)(F:SF):Nat->SF
 | 0,_=>none
 | n+1,env=>match c env with
  | none=>none
  | some false=>some (.nx,env)
  | some true=>match F env with
   | some (.nx,b8)=>sS c F n b8
   | some (.ct,b8)=>sS c F n b8
   | some (.bk,b8)=>some (.nx,b8)
   | some (.rt r,b8)=>some (.rt r,b8)
   | none=>none
noncomputable def JC(m:En->Nat)(c:En->Option Bool)(F:SF):SF:=λenv=>sS c F (m env) env
theorem Xy(m:En->Nat)(hp:PassesOwn (model X.prog X.w) X.A X.env X.xe)(hc:TV X c ga)(hb:oq X body F):SV X (.While c body [] pos) (JC m ga F):=by
 obtain ⟨tc,pc,kc⟩:=hc
 obtain ⟨tb,pb,kb⟩:=hb
 refine ⟨_,Xl hp pc pb,λO B σ H env fl ah D R e q=>?_⟩
 refine ⟨λn kZ H1=>∃cz,Rel X.K O B kZ H1 cz/\Gd σ env H kZ cz H1/\sS ga F n cz=some (fl,ah),⟨m env,env,R,Gd.refl (aC.refl _),e⟩,?_⟩
 rintro n kZ H1 ⟨cz,R1,g1,e1⟩
 cases n with
 | zero=>cases e1
 | succ n =>
  rw [sS] at e1
  cases h:ga cz with
  | none=>rw [h] at e1;cases e1
  | some x =>
   rw [h] at e1
   refine kc O B kZ H1 cz x _ R1 h λH2 s2=>?_
   cases x with
   | false =>
    rw [if_neg pV]
    cases e1
    exact q kZ H2 (R1.grow s2) (g1.trans (Gd.refl s2))
   | true =>
    rw [if_pos rfl]
    refine ⟨λaX H'=>∃b8,Rel X.K O B aX H' b8/\Gd σ env H aX b8 H'/\sS ga F n b8=some (fl,ah),λaX H' ⟨b8,a1,a2,a3⟩=>⟨n,nZ n,b8,a1,a2,a3⟩,?_⟩
    dsimp only at e1
    cases hF:F cz with
    | none=>rw [hF] at e1;cases e1
    | some y =>
     obtain ⟨f2,b8⟩:=y
     rw [hF] at e1
     have go:=g1.trans (Gd.refl s2)
     refine kb O B kZ H2 cz f2 b8 _ (R1.grow s2) hF ?_
     cases f2 with
     | nx=>exact λdg H3 R2 g2=>⟨b8,R2,go.trans g2,e1⟩
     | ct=>exact λdg H3 R2 g2=>⟨b8,R2,go.trans g2,e1⟩
     | bk=>cases e1;exact λdg H3 R2 g2=>q dg H3 R2 (go.trans g2)
     | rt r=>cases e1;exact q
end
noncomputable def qW(K:aI)(n:Nat)(φ:List D->Option Sl):Sp:=λvs H Q _=>∃(O:Addr->Prop) (ds:List D) (r:Sl),uz K O H/\aR K O H vs ds/\vs.length=n/\φ ds=some r /\
 ∀v H',aC H H'->Res K O H H' v r->Q v H'
noncomputable def mD(N:Nat)(ds:List D):En:=ds.map Sl.sh++mC (N-ds.length) Sl.no
noncomputable def bJ(F:SF)(N:Nat)(ds:List D):Option Sl:=match F (mD N ds) with
 | some (.rt r,_)=>some r
 | some (.nx,_)=>some (.sh .bo)
 | _=>none
theorem Kt{K:aI}{O:Addr->Prop}{H:Hp}{N:List Str}{vs:List V}{ds:List D}(hO:uz K O H)(h:aR K O H vs ds):Rel K O H (start N vs) H (mD N.length ds):=by
 have hl:=h.length
 have zU:∀(i:Nat) (s:Sl),(mD N.length ds)[i]?=some s->s.own->False:=λi s e1 o=>by
  unfold mD at e1
  rw [D6] at e1
  split at e1
  .rw [qh] at e1
   obtain ⟨d,_,e⟩:=map_some e1
   cases e
   exact o
  .rw [yd] at e1
   split at e1
   .cases e1;exact o
   .cases e1
 have no:∀p,¬mo (start N vs) (mD N.length ds) p:=λp ⟨i,es,e1,o,_⟩=>zU i es e1 o
 refine ⟨aC.refl _,hO,?_,λi d e=>?_,λi es e=>(zU i _ e trivial).elim,λi es e=>(zU i _ e trivial).elim,λi ks es e=>(zU i _ e trivial).elim,λi j es fs p e _ _ _ o _=>(zU i _ e o).elim⟩
 .simp [L2.start,mD,hl]
 .unfold mD at e
  rw [D6] at e
  split at e
  .rename_i hi
   rw [dF] at hi
   rw [qh] at e
   obtain ⟨d',e1,e2⟩:=map_some e
   cases e2
   obtain ⟨x,hx,hd⟩:=h.get e1
   refine ⟨x,?_,hd.less λq z=>z.elim id λz=>(no q z).elim⟩
   unfold L2.start
   rw [wY (by rw [dF,hl];exact hi),qh,hx]
   rfl
  .rw [yd] at e
   split at e
   .cases e
   .cases e
section
variable {P:Program}{w:World}{K:aI}{mg:Str->Option Value}{base:Heap}
theorem Hs{x qual:Str}{st:Stmt}{f:Addr}{fd:FuncData}{N ps:List Str}{k:Nat}{F:SF}(Fn:sd K x qual st f fd)(S:cc N ps (df st))
  (b7:∀(cX:Value) (A:Around) (outer:List Env) (s:Shared) (H:Hp) (E:XK),bS k (A.deeper (envOfC qual (df st) s.heap.objs.size f cX)) ->
   oq (nh jl P w K mg base N qual (df st) f cX A outer s H E).jm (il st) F):bY P w K mg base jl (k+1) f fd ps (qW K ps.length (bJ F N.length)):=by
 refine Fn.ok S (λvs H Q E h=>?_) (λcX A outer s H vs Q E hr h=>?_)
 .obtain ⟨O,ds,r,_,_,hl,_⟩:=h
  exact hl
 obtain ⟨O,ds,r,hO,hi,hl,e,q⟩:=h
 obtain ⟨t,p,kk⟩:=b7 cX A outer s H E hr
 refine ⟨t,p,?_⟩
 unfold bJ at e
 cases hF:F (mD N.length ds) with
 | none=>rw [hF] at e;cases e
 | some y =>
  obtain ⟨fl,ah⟩:=y
  rw [hF] at e
  refine kk O H (start N vs) H (mD N.length ds) fl ah _ (Kt hO hi) hF ?_
  cases fl with
  | nx=>cases e;exact λaX H' R' _=>q .bo H' R'.same Is.bo
  | bk=>cases e
  | ct=>cases e
  | rt r=>cases e;exact λv H' s h=>q v H' s h
end
section
variable {X:Cx}{k:Nat}{f:Addr}{fd:FuncData}{ps:List Str}{φ:List D->Option Sl}{x:Str}{p pos:Pos}{e:Expr}{es:List Expr}{fs:En->Option (List D)}
noncomputable def c9(n:Nat)(φ:List D->Option Sl)(fs:En->Option (List D)):En->Option Sl:=λenv=>(fs env).bind λds=>if ds.length=n then φ ds else none
theorem Xf(ka:∀(O:Addr->Prop) (B:Hp) (σ:L2.St) (H:Hp) (env:En) (ds:List D) (Q:List V->Hp->Prop),Rel X.K O B σ H env->fs env=some ds->(∀vs H',aC H H'->aR X.K (OO O σ env) H' vs ds->Q vs H')->t σ H Q)
  (O:Addr->Prop)(B:Hp)(σ:L2.St)(H:Hp)(env:En)(r:Sl)(Q:VK)(R:Rel X.K O B σ H env)(e:c9 n φ fs env=some r)(q:∀v H',aC H H'->Res X.K (OO O σ env) H H' v r->Q v H'):NC (qW X.K n φ) [] E t σ H Q:=by
 obtain ⟨ds,e1,e2⟩:=bind_some e
 refine ka O B σ H env ds _ R e1 λvs H1 s1 r1=>?_
 by_cases hn:ds.length=n
 .rw [if_pos hn] at e2
  rw [sC]
  refine ⟨OO O σ env,ds,r,(R.grow s1).dm,r1,by rw [r1.length,hn],e2,λv H2 s2 r2=>q v H2 (s1.trans s2) (r2.from s1)⟩
 .rw [if_neg hn] at e2;cases e2
theorem Wp(F:bY X.prog X.w X.K X.mg X.base jl k f fd ps (qW X.K ps.length φ))(hr:bS k X.A)(hg:Gl X x)(hm:X.mg x=some (.ref f))(hk:pS X.K (.ref f)=true)(hb:Binds X.K fd ps [])
  (ha:AV X (e::es) fs)(lT:(x==("__debug__":Str))=false:=by decide)(he:starEach (e::es) X.env=(false,eval e X.env)::starEach es X.env:=by rfl)(dY:(backTo pos (starEach es X.env)).any (·.1)=false:=by rfl):
  EV X (.Call (.Name x p) (e::es) [] pos) (c9 ps.length φ fs):=by
 obtain ⟨t,pt,ka⟩:=ha
 exact ⟨_,VM F hr hg hm hk hb .nil BM pt lT he dY,λO B σ H env r Q R e q=>Xf ka O B σ H env r Q R e q⟩
end
noncomputable def spT(K:aI):Sp:=λvs H Q _=>∃(a:Addr) (ns:List Int),vs=[.ref a]/\dU K H a (ns.map V.int)/\ns.length<=63/\Tb K H/\∀H',aC H H'->Q (.bl true) H'
theorem Vp{P:Program}{w:World}{K:aI}{mg:Str->Option Value}{base:Heap}{k:Nat}{f:Addr}{fd:FuncData}{φ:List D->Option Sl}(F:bY P w K mg base jl k f fd ["script"] (qW K 1 φ))
  (h:∀ns:List Int,ns.length<=63->φ [.lst true (ns.map D.int)]=some (Sl.sh (.bl true))):bY P w K mg base jl k f fd ["script"] (spT K):=by
 refine F.imp λvs H Q E q=>?_
 obtain ⟨a,ns,rfl,hs,hl,tb,q⟩:=q
 refine ⟨λ_=>False,[.lst true (ns.map D.int)],_,⟨λ_ z=>z.elim,tb⟩,.cons ?_ .nil,rfl,h ns hl,λv H' sm r=>?_⟩
 .rcases hs with hs | hs
  .exact .mJ id hs (aR.ints ns)
  .exact .mQ (.inr hs) (aR.ints ns)
 .have r':Is K (λ_=>False) H' v (.bl true):=r
  rw [sJ r']
  exact q H' sm
theorem qS{l:Iq}{q:Program}{loose:List Str}{XP:(Str->Option Value)->Heap->Prop}{YP:World->Heap->Prop}{d:DefRec}{K:Params->aI}{k:Nat}(hk:bS k callerA)(hn:l.most=some 63)(AE:d.params.defaults=[])
  {ts:List Addr}(hY:∀(w:World) (h:Heap),YP w h->(K w.params).In h/\∀P∈ts,h.get? P=some (xN #[]))(hL:∀w:World,Ed (K w.params) ts=true)
  (F:∀(w:World) (mg:Str->Option Value) (fa:Addr) (h:Heap),(K w.params).In h->h.Ns mainGlobals mg->mg d.name=some (.ref fa) ->
   ∃fd:FuncData,(∀(s:Shared) (u:Value),BindsTo s fd ⟨[u],[]⟩ [("script",u)])/\∀base:Heap,(K w.params).In base->base.Ns mainGlobals mg->bY l.prog w (K w.params) mg base jl k fa fd ["script"] (spT (K w.params))):
  PySem.W.WalkO q loose XP YP l.row.toRowW d [] (λf vs=>HX f vs):=
 L2.sT (n:=63) (k:=k) (x:="script") (CX:=λ_=>jl) (sp:=λw=>spT (K w.params)) hn (by decide) AE hk hY hL F (λw _ a ns hl tb hS=>⟨a,ns,rfl,hS,hl,tb,λ_ sm=>⟨rfl,tb.grow sm⟩⟩) λ_ _ _ _ _ z=>z
section
variable {X:Cx}{a:Expr}{pos p p2:Pos}{fa:En->Option Sl}
def Ah(K:aI)(T:String)(x:V)(H:Hp)(b:Bool):Prop:=match x with
 | .bo=>b=false
 | .bl _=>b=(T == "bool" || T == "int")
 | .int _=>b=(T == "int")
 | .str _=>b=(T == "str")
 | .ref p=>(b=(T == "list")/\∃xs,dU K H p xs)\/(b=(T == "tuple")/\∃xs,gc K H p xs)
 | _=>False
theorem WT(hT:T = "int" \/ T = "bool" \/ T = "str" \/ T = "list" \/ T = "tuple"):
  cm X (.builtin "isinstance") (λxs H Q=>∃x b,xs=[x,.ty T]/\Ah X.K T x H b/\Q (.bl b) H):=by
 intro pins s σ H xs us Q I r h
 obtain ⟨x,b,rfl,hx,q⟩:=h
 obtain ⟨u,w',rfl,r1,r2⟩:=vals2 r
 obtain rfl:w'=tV T:=r2
 have yes:∀{Tx:String},s.TypeIs u Tx->isSubtype (.type Tx) (.type T)=pure true->typeOf (.type T)=pure (.type "type")->Q (.bl true) H->wpAny (model X.prog X.w) X.A (call (.builtin "isinstance") [u,.type T]) (EP X pins σ Q) X.xe s:=λh1 h2 h3 hq =>
  wU (isinstance_true h3 h2) ⟨h1,⟨.bl true,H,I,rfl,hq⟩⟩
 have fin:Q (.bl false) H->EP X pins σ Q (.bool false) { s with toks:=s.toks+1 }:=λhq=>⟨.bl false,H,I.tok _,rfl,hq⟩
 have ty:typeOf (.type T)=pure (.type "type"):=by rcases hT with rfl | rfl | rfl | rfl | rfl<;>rfl
 cases x with
 | bo =>
  obtain rfl:u=ma:=r1
  obtain rfl:b=false:=hx
  refine wU (isinstance_false_none ?_ ty ?_) (fin q)
  .rcases hT with rfl | rfl | rfl | rfl | rfl<;>decide +kernel
  .rcases hT with rfl | rfl | rfl | rfl | rfl<;>rfl
 | bl k =>
  obtain rfl:u=nW k:=r1
  rcases hT with rfl | rfl | rfl | rfl | rfl
  .obtain rfl:b=true:=hx
   exact yes (Tx:="bool") rfl rfl ty q
  .obtain rfl:b=true:=hx
   exact yes (Tx:="bool") rfl rfl ty q
  all_goals
   obtain rfl:b=false:=hx
   exact wU (isinstance_false_bool (by decide +kernel) ty (by rfl)) (fin q)
 | int i =>
  obtain ⟨t,rfl⟩:=r1
  rcases hT with rfl | rfl | rfl | rfl | rfl
  .obtain rfl:b=true:=hx
   exact yes (Tx:="int") (typeIs_int s i t) rfl ty q
  all_goals
   obtain rfl:b=false:=hx
   exact wU (isinstance_false_int (by decide +kernel) ty (by rfl)) (fin q)
 | str z =>
  obtain ⟨t,rfl⟩:=r1
  rcases hT with rfl | rfl | rfl | rfl | rfl
  rotate_left 2
  .obtain rfl:b=true:=hx
   exact yes (Tx:="str") (typeIs_str s z t) rfl ty q
  all_goals
   obtain rfl:b=false:=hx
   exact wU (isinstance_false_str (by decide +kernel) ty (by rfl)) (fin q)
 | ref l =>
  cases r1
  rcases hx with ⟨rfl,xs,hq⟩ | ⟨rfl,xs,hq⟩
  .obtain ⟨av,_,pl,_⟩:=I.list hq
   have vX:=pl.isList.typeIs
   obtain ⟨o,n,e,c,_,_⟩:=pl
   rcases hT with rfl | rfl | rfl | rfl | rfl
   rotate_left 3
   .exact yes (Tx:="list") vX rfl ty q
   all_goals exact wU (isinstance_false_list (by decide +kernel) ty (by rfl)) ⟨⟨o,e,c⟩,fin q⟩
  .obtain ⟨av,_,pl,_⟩:=I.tuple hq
   have vX:=pl.typeIs
   obtain ⟨o,e,c,_⟩:=pl
   rcases hT with rfl | rfl | rfl | rfl | rfl
   rotate_left 4
   .exact yes (Tx:="tuple") vX rfl ty q
   all_goals exact wU (isinstance_false_tuple (by decide +kernel) ty (by rfl)) ⟨⟨o,e,c⟩,fin q⟩
 | _=>exact l' hx
noncomputable def bL(T:String):D->Bool
 | .bo=>false
 | .bl _=>(T == "bool" || T == "int")
 | .int _=>(T == "int")
 | .str _=>(T == "str")
 | .tup _=>(T == "tuple")
 | .lst _ _=>(T == "list")
 | .exc _=>false
 | .iH _ _=>false
 | .obj _ _ _=>false
 | .cH _ _=>false
noncomputable def D.isExc:D->Bool
 | .exc _=>true
 | .iH _ _=>true
 | .obj _ _ _=>true
 | .cH _ _=>true
 | _=>false
noncomputable def mS(T:String)(d:D):Option Sl:=if d.isExc=true then none else some (.sh (.bl (bL T d)))
theorem Uw{K:aI}{O:Addr->Prop}{H:Hp}{T:String}{v:V}{d:D}(h:Is K O H v d)(ne:d.isExc=false):Ah K T v H (bL T d):=by
 cases h with
 | bo=>rfl
 | bl b=>rfl
 | int i=>rfl
 | str x=>rfl
 | tup ho hp hs=>exact .inr ⟨rfl,_,.inl hp⟩
 | lK hp hs=>exact .inr ⟨rfl,_,Cf hp⟩
 | lst ho hp hs=>exact .inl ⟨rfl,_,.inl (.inl hp)⟩
 | mJ ho hp hs=>exact .inl ⟨rfl,_,.inl hp⟩
 | mQ hp hs=>exact .inl ⟨rfl,_,Ce hp⟩
 | exc ho hn hp=>cases ne
 | iH ho hp=>cases ne
 | obj=>cases ne
 | cH=>cases ne
 | qf ho hp=>cases ne
noncomputable def tS(T:String)(f:En->Option Sl):En->Option Sl:=λenv=>(f env).bind λr=>mS T r.d
theorem N4(hT:T = "int" \/ T = "bool" \/ T = "str" \/ T = "list" \/ T = "tuple")(hg:Gl X "isinstance")(hm:X.mg "isinstance" = none)(xF:Gl X x)(xD:X.mg x=none)(hv:bootBuiltins x=some (.type T))(ha:EV X a fa)
  (hn:x ≠ "__name__":=by decide)(hd:(x==("__debug__":Str))=false:=by decide)
  (hs:starEach [a,.Name x p2] X.env=[(false,eval a X.env),(false,eval (.Name x p2) X.env)]:=by rfl)(nQ:starEach [.Name x p2] X.env=[(false,eval (.Name x p2) X.env)]:=by rfl):
  EV X (.Call (.Name "isinstance" p) [a,.Name x p2] [] pos) (tS T fa):=by
 obtain ⟨t,pt,k⟩:=ha
 refine ⟨_,xk (WT hT) hg hm (by decide +kernel) (oh pt (oh (VL (v:=.ty T) xF xD hv rfl hn hd) pf nQ) (by rw [hs,nQ])) (by decide) (by decide) (by rw [hs,nQ]) (by rw [nQ];rfl),λO B σ H env s Q R e q=>?_⟩
 obtain ⟨r,e1,e2⟩:=bind_some e
 unfold mS at e2
 split at e2
 .cases e2
 .rename_i ne
  cases e2
  exact k O B σ H env r _ R e1 λv H1 s1 r1=>⟨v,_,rfl,Uw (r1.is λq=>R.oo) (by simpa using ne),q _ H1 s1 (Is.bl _)⟩
end
section
variable {X:Cx}{a b c e:Expr}{fa fb:En->Option Sl}{pos:Pos}
noncomputable def nJ(i:Nat)(f:En->Option Sl):SF:=λenv=>match env[i]? with
 | some (.ow ds)=>(f env).bind λr=>match r.d with
  | .lst false es=>if ds.length+es.length<=16777216 then some (.nx,env.set i (.ow (ds++es))) else none
  | _=>none
 | _=>none
theorem YV{i:Nat}{x:Str}{p1 p2 be:Pos}(ha:EV X e fa)(hN:X.N[i]?=some x:=by rfl)(hv:iJ X.env.scope x:=by first | exact cq rfl | exact bP (cq rfl) | exact bP (bP rfl))(hd:(x==("__debug__":Str))=false:=by decide)
  (cu:(x==("__classdict__":Str))=false:=by decide)(hs:starEach [e] X.env=[(false,eval e X.env)]:=by rfl)
  (cC:attributeBase (.Name x p1) "extend" X.env (eval (.Name x p1) X.env)=eval (.Name x p1) X.env:=by rfl)
  (kS:((backTo be (starEach [e] X.env)).all (λx=>!x.1)&&(backToKw be (keywordEach [] X.env)).all (λx=>x.1.isSome)
   && decide ([e].length+([]:List Keyword).length+(if ([]:List Keyword).isEmpty then 0 else 1)<30))=true:=by rfl)
  (cB:(p2.endLine==be.line)=true:=by rfl)
  (tz:swapsWith (.Call (.Attribute (.Name x p1) "extend" p2) [e] [] be) none pos.line X.env=pure false:=by rfl):
  SV X (.Expr (.Call (.Attribute (.Name x p1) "extend" p2) [e] [] be) pos) (nJ i fa):=by
 obtain ⟨t,p,k⟩:=ha
 refine ⟨_,JX (NG II M6 PySem.F.type_list_extend XY (rY hN hv hd cu) (oh p pf hs) cC kS cB hs rfl) tz,λO B σ H env fl ah D R e q=>?_⟩
 unfold nJ at e
 cases h:env[i]? with
 | none=>rw [h] at e;cases e
 | some s =>
  rw [h] at e
  cases s with
  | no=>cases e
  | sh d=>cases e
  | dw ds=>cases e
  | tw _ _=>cases e
  | ow ds =>
   obtain ⟨r,e1,e2⟩:=bind_some e
   obtain ⟨l,xs,f1,f2,f3,f4⟩:=R.ow i ds h
   refine ⟨_,f1,.inl ⟨rfl,_,dU.of f3⟩,?_⟩
   refine k O B σ H env r _ R e1 λv H1 s1 r1=>?_
   have hi:=r1.is λq=>R.oo
   cases hd:r.d with
   | lst ro es =>
    rw [hd] at hi e2
    cases ro with
    | true=>cases e2
    | false =>
     obtain ⟨hl,e3⟩:=k7 (show (if ds.length+es.length<=16777216 then some (Fl.nx,env.set i (.ow (ds++es))) else none)=some (fl,ah) from e2)
     cases e3
     obtain ⟨b,zs,rfl,hb,g1,g2⟩:=JE hi
     refine ⟨l,b,xs,zs,rfl,rfl,s1 _ _ f3,g1,by rw [f4.length,g2.length,pT];exact hl,?_⟩
     obtain ⟨R',g'⟩:=(R.grow s1).wr h f1 ((f4.grow s1).append g2)
     exact q _ _ R' (g'.from s1)
   | _=>rw [hd] at e2;cases e2
noncomputable def qY(i j:Nat):SF:=λenv=>match env[j]? with
 | some (.ow ds)=>(ds[ds.length-1]?).bind λd=>if i<env.length/\i≠j then some (.nx,(env.set j (.ow ds.dropLast)).set i (.sh d)) else none
 | _=>none
theorem YW{i j:Nat}{x y:Str}{pos' p1 p2 be:Pos}(hN:X.N.Nodup)(hi:X.N[i]?=some x)(hx:Loc X.env.scope x)
  (Hg:X.N[j]?=some y:=by rfl)(hv:iJ X.env.scope y:=by first | exact cq rfl | exact bP (cq rfl) | exact bP (bP rfl))(hd:(y==("__debug__":Str))=false:=by decide)
  (cu:(y==("__classdict__":Str))=false:=by decide)
  (cC:attributeBase (.Name y p1) "pop" X.env (eval (.Name y p1) X.env)=eval (.Name y p1) X.env:=by rfl)
  (cB:(p2.endLine==be.line)=true:=by rfl)
  (hs:swapsWith (.Call (.Attribute (.Name y p1) "pop" p2) [] [] be) (some (.Name x pos')) pos.line X.env=pure false:=by rfl)(hf:X.fn x=true\/X.env.scope.names.lookup x=some .local:=by first | exact .inl rfl | exact .inr rfl | assumption):
  SV X (.Assign [.Name x pos'] (.Call (.Attribute (.Name y p1) "pop" p2) [] [] be) pos) (qY i j):=by
 refine ⟨_,Jz hN hi hx (U6 II MM PySem.F.type_list_pop Vr (rY Hg hv hd cu) cC cB) hs hf,λO B σ H env fl ah D R e q=>?_⟩
 unfold qY at e
 cases h:env[j]? with
 | none=>rw [h] at e;cases e
 | some s =>
  rw [h] at e
  cases s with
  | no=>cases e
  | sh d=>cases e
  | dw ds=>cases e
  | tw _ _=>cases e
  | ow ds =>
   obtain ⟨d,e1,e2⟩:=bind_some e
   obtain ⟨⟨hl,iX⟩,e3⟩:=Pk e2
   cases e3
   obtain ⟨l,xs,f1,f2,f3,f4⟩:=R.ow j ds h
   obtain ⟨v,Sw,Sv⟩:=f4.get e1
   obtain ⟨R',g'⟩:=R.wr h f1 f4.dropLast
   refine ⟨_,f1,.inl ⟨rfl,_,dU.of f3⟩,l,xs,v,rfl,rfl,f3,by rw [f4.length];exact Sw,?_⟩
   have GX:aR X.K (OO O σ (env.set j (.ow ds.dropLast))) (upd H l (.lst xs.dropLast)) [v] [d]:=g'.C6 (.cons Sv .nil)
   cases GX with
   | cons GX _ =>
    obtain ⟨R2,g2⟩:=R'.set (r:=.sh d) (i:=i) (aC.refl _) GX (by simp;exact hl)
    exact q _ _ R2 (g'.trans g2)
noncomputable def yi(i:Nat)(f g:En->Option Sl):SF:=λenv=>match env[i]? with
 | some (.ow ds)=>(f env).bind λr=>(g env).bind λk=>match k.d with
  | .int n=>(lO ds.length n).bind λj=>some (.nx,env.set i (.ow (ds.set j r.d)))
  | _=>none
 | _=>none
theorem Wy{i:Nat}{x:Str}{p1 p2:Pos}(ha:EV X e fa)(hb:EV X b fb)(hN:X.N[i]?=some x:=by rfl)(hv:iJ X.env.scope x:=by first | exact cq rfl | exact bP (cq rfl) | exact bP (bP rfl))(hd:(x==("__debug__":Str))=false:=by decide)
  (cu:(x==("__classdict__":Str))=false:=by decide)
  (qa:∀v,assign (.Subscript (.Name x p1) b p2) X.env v=(do
   let ov <-holding [v] (eval (.Name x p1) X.env)
   let iv <-holding [v,ov] (eval b X.env)
   standAt p2
   holding [v,ov,iv] (setItem ov iv v)
   release [v,ov,iv] []):=by intro _;rfl)
  (hs:swapsWithSole [.Subscript (.Name x p1) b p2] e pos.line X.env=pure false:=by rfl)(hw:swappedStores [.Subscript (.Name x p1) b p2] e X.env=pure none:=by rfl)
  (h1:(assignEach [.Subscript (.Name x p1) b p2] X.env).map (·.2)=[assign (.Subscript (.Name x p1) b p2) X.env]:=by rfl):
  SV X (.Assign [.Subscript (.Name x p1) b p2] e pos) (yi i fa fb):=by
 obtain ⟨t,p,k⟩:=ha
 obtain ⟨t',p',k'⟩:=hb
 refine ⟨_,Vg p (Ve (rY hN hv hd cu) p' Xv qa) hs hw h1,λO B σ H env fl ah D R e q=>?_⟩
 unfold yi at e
 cases h:env[i]? with
 | none=>rw [h] at e;cases e
 | some s =>
  rw [h] at e
  cases s with
  | no=>cases e
  | sh d=>cases e
  | dw ds=>cases e
  | tw _ _=>cases e
  | ow ds =>
   obtain ⟨r,e1,e2⟩:=bind_some e
   obtain ⟨kk,e2,e3⟩:=bind_some e2
   obtain ⟨l,xs,f1,f2,f3,f4⟩:=R.ow i ds h
   refine k O B σ H env r _ R e1 λv H1 s1 r1=>⟨_,f1,?_⟩
   refine k' O B σ H1 env kk _ (R.grow s1) e2 λw H2 s2 r2=>?_
   have hi:=r2.is λq=>(R.grow s1).oo
   cases hd:kk.d with
   | int n =>
    rw [hd] at hi e3
    obtain rfl:=oa hi
    obtain ⟨j,e4,e5⟩:=bind_some (show (lO ds.length n).bind (λj=>some (Fl.nx,env.set i (.ow (ds.set j r.d))))=some (fl,ah) from e3)
    cases e5
    have pI:=s1.trans s2
    refine ⟨l,xs,n,j,rfl,rfl,pI _ _ f3,by rw [f4.length];exact e4,?_⟩
    obtain ⟨R',g'⟩:=(R.grow pI).wr h f1 ((f4.grow pI).set ((r1.is λq=>R.oo).grow s2) j)
    exact q _ _ R' (g'.from pI)
   | _=>rw [hd] at e3;cases e3
def PP(X:Cx)(e:Option Expr)(f:En->Option (Option Int)):Prop:=
 ∃t:TO,PO X e t/\∀(O:Addr->Prop) (B:Hp) (σ:L2.St) (H:Hp) (env:En) (o:Option Int) (Q:Option Int->Hp->Prop),Rel X.K O B σ H env->f env=some o->(∀H',aC H H'->Q o H')->t σ H Q
noncomputable def zM:En->Option (Option Int):=λ_=>some none
noncomputable def uG(f:En->Option Sl):En->Option (Option Int):=λenv=>(f env).bind λr=>match r.d with
 | .int i=>some (some i)
 | _=>none
theorem JW:PP X none zM:=⟨_,VR,λO B σ H env o Q R e q=>by
 obtain rfl:=dh e
 exact q H (aC.refl _)⟩
theorem B8(h:EV X e fa):PP X (some e) (uG fa):=by
 obtain ⟨t,p,k⟩:=h
 refine ⟨_,VS p,λO B σ H env o Q R e q=>?_⟩
 obtain ⟨r,e1,e2⟩:=bind_some e
 refine k O B σ H env r _ R e1 λv H1 s1 r1=>?_
 have hi:=r1.is λq=>R.oo
 cases hd:r.d with
 | int i =>
  rw [hd] at hi e2
  obtain rfl:=dh e2
  exact ⟨i,oa hi,q H1 s1⟩
 | _=>rw [hd] at e2;cases e2
noncomputable def cutD(xs:List D)(lo hi:Option Int):List D:=(xs.drop (HT.bZ xs.length 0 lo)).take (HT.bZ xs.length xs.length hi-HT.bZ xs.length 0 lo)
theorem aR.cut{K:aI}{O:Addr->Prop}{H:Hp}{xs:List V}{ds:List D}(h:aR K O H xs ds)(lo hi:Option Int):aR K O H (nS xs lo hi) (cutD ds lo hi):=by
 unfold nS cutD
 rw [h.length]
 exact (h.drop _).take _
noncomputable def wz(f:En->Option (Bool×List D))(lo hi:En->Option (Option Int)):En->Option Sl:=λenv=>(f env).bind λx=>(lo env).bind λl=>(hi env).bind λh =>
 if x.1=true then some (.ow (cutD x.2 l h)) else if ¬(HT.bZ x.2.length 0 l=0/\HT.bZ x.2.length x.2.length h=x.2.length) then some (.sh (.tup (cutD x.2 l h))) else none
theorem EO{ba:En->Option (Bool×List D)}{lo hi:Option Expr}{fl fh:En->Option (Option Int)}{p2:Pos}(ha:BV X a ba)(hl:PP X lo fl)(hh:PP X hi fh):EV X (.Subscript a (.Slice lo hi none p2) pos) (wz ba fl fh):=by
 obtain ⟨t,p,k⟩:=ha
 obtain ⟨tl,pl,kl⟩:=hl
 obtain ⟨th,ph,kh⟩:=hh
 refine ⟨_,XM (sX.or US) p pl ph,λO B σ H env r Q R e q=>?_⟩
 obtain ⟨⟨kk,ds⟩,e1,e2⟩:=bind_some e
 obtain ⟨l,e2,e3⟩:=bind_some e2
 obtain ⟨h,e3,e4⟩:=bind_some e3
 refine k O B σ H env kk ds _ R e1 λpp xs H1 s1 hq hx=>?_
 refine kl O B σ H1 env l _ (R.grow s1) e2 λH2 s2=>?_
 refine kh O B σ H2 env h _ ((R.grow s1).grow s2) e3 λH3 s3=>?_
 have pI:=s1.trans (s2.trans s3)
 have c6:=hq.grow (s2.trans s3)
 have kz:=hx.grow (s2.trans s3)
 dsimp only at e4
 cases kk with
 | true =>
  rw [if_pos rfl] at e4
  obtain rfl:=dh e4
  exact .inl ⟨pp,xs,rfl,c6,λp hp=>q _ _ (pI.trans (nH hp _)) ((yw hp (kz.cut l h)).from pI)⟩
 | false =>
  rw [if_neg pV] at e4
  obtain ⟨hw,rfl⟩:=k7 e4
  exact .inr ⟨pp,xs,rfl,c6,by rw [kz.length];exact hw,λp hp=>q _ _ (pI.trans (nH hp _)) ((EK (O:=OO O σ env) (H:=H3) (λ_ z=>(R.grow pI).oo z) hp (kz.cut l h)).from pI)⟩
noncomputable def A1(f:En->Option Sl)(lo hi:En->Option (Option Int)):En->Option Sl:=λenv=>(f env).bind λx=>(lo env).bind λl=>(hi env).bind λh=>match x.d with
 | .tup ds=>some (.sh (.tup (cutD ds l h)))
 | _=>none
end
structure Def(K:aI)(mg:Str->Option Value)(x:Str)(st:Stmt)(ps:List Str)(f:Addr)(fd:FuncData):Prop where
 fn:sd K x x st f fd
 bd:Binds K fd ps []
 m:mg x=some (.ref f)
end DL
namespace DL
open PySem PySem.Spec PyProof.Rows L2
structure Fx(X:Cx)(N:List Str)(sc:Scope)(k:Nat)(full:Bool:=true):Prop where
 n:X.N=N
 sc:X.env.scope=sc
 calm:X.calm=true
 fn:full=true->∀x,X.fn x=true
 own:PassesOwn (model X.prog X.w) X.A X.env X.xe
 room:bS k X.A
 nd:N.Nodup
 top:full=true->X.stack=X.env::X.outer/\X.env.frame=some X.env.locals/\X.ex=[]
section
variable {X:Cx}{N:List Str}{sc:Scope}{k:Nat}{full:Bool}{pos p p1 p2 pos' be:Pos}{e a b:Expr}{fa fb:En->Option Sl}
theorem Fx.qy(h:Fx X N sc k full)(hv:iJ sc x):iJ X.env.scope x:=by rw [h.sc];exact hv
theorem Fx.loc(h:Fx X N sc k full)(hv:Loc sc x):Loc X.env.scope x:=by rw [h.sc];exact hv
theorem Fx.ix(h:Fx X N sc k full){i:Nat}{x:Str}(hN:N[i]?=some x):X.N[i]?=some x:=by rw [h.n];exact hN
theorem Fx.xu(h:Fx X N sc k full)(hf:full=true\/sc.names.lookup x=some .local):X.fn x=true\/X.env.scope.names.lookup x=some .local:=hf.elim (λe=>.inl (h.fn e x)) λe=>.inr (by rw [h.sc];exact e)
theorem Fx.xA(h:Fx X N sc k full):X.N.Nodup:=by rw [h.n];exact h.nd
theorem Fx.g(h:Fx X N sc k full)(hg:sc.names.lookup x=some .globalImplicit:=by rfl):Gl X x:=by
 show X.env.kindOf x=some .globalImplicit
 unfold Env.kindOf
 rw [h.sc]
 exact hg
theorem Fx.v(h:Fx X N sc k full)(i:Nat)(hN:N[i]?=some x:=by rfl)(hv:iJ sc x:=by first | exact cq rfl | exact bP (cq rfl) | exact bP (bP rfl))(hd:(x==("__debug__":Str))=false:=by rfl)
  (cu:(x==("__classdict__":Str))=false:=by rfl):EV X (.Name x pos) (eV i):=N5 i (h.ix hN) (h.qy hv) hd cu
theorem Fx.bv(h:Fx X N sc k full)(i:Nat)(hN:N[i]?=some x:=by rfl)(hv:iJ sc x:=by first | exact cq rfl | exact bP (cq rfl) | exact bP (bP rfl))(hd:(x==("__debug__":Str))=false:=by rfl)
  (cu:(x==("__classdict__":Str))=false:=by rfl):BV X (.Name x pos) (bV i):=UH i (h.ix hN) (h.qy hv) hd cu
theorem Fx.tg(h:Fx X N sc k full)(i:Nat)(hN:N[i]?=some x:=by rfl)(hv:Loc sc x:=by first | exact cq rfl | exact bP rfl)(hf:full=true\/sc.names.lookup x=some .local:=by first | exact cq rfl | exact bP rfl):GV X (.Name x pos) (gN i):=V' h.xA (h.ix hN) (h.loc hv) (h.xu hf)
theorem Fx.set(h:Fx X N sc k full)(i:Nat)(he:EV X e fa)(hN:N[i]?=some x:=by rfl)(hv:Loc sc x:=by first | exact cq rfl | exact bP rfl)
  (hs:swapsWith e (some (.Name x pos')) pos.line X.env=pure false:=by rfl)(hf:full=true\/sc.names.lookup x=some .local:=by first | exact cq rfl | exact bP rfl):SV X (.Assign [.Name x pos'] e pos) (e8 i fa):=NU h.xA (h.ix hN) (h.loc hv) he hs (h.xu hf)
theorem Fx.bR(h:Fx X N sc k full)(i:Nat)(he:EV X e fa)(hN:N[i]?=some x:=by rfl)(hv:Loc sc x:=by first | exact cq rfl | exact bP rfl)
  (hs:swapsWith e (some (.Name x pos')) pos.line X.env=pure false:=by rfl)(hf:full=true\/sc.names.lookup x=some .local:=by first | exact cq rfl | exact bP rfl):SV X (.Assign [.Name x pos'] e pos) (de i fa):=OZ h.xA (h.ix hN) (h.loc hv) he hs (h.xu hf)
theorem Fx.q9(h:Fx X N sc k full)(i:Nat)(hN:N[i]?=some x:=by rfl)(hv:iJ sc x:=by first | exact cq rfl | exact bP (cq rfl) | exact bP (bP rfl))(hd:(x==("__debug__":Str))=false:=by rfl)
  (cu:(x==("__classdict__":Str))=false:=by rfl):SV X (.Return (some (.Name x p2)) pos) (sM i):=Wz i (h.ix hN) (h.qy hv) hd cu
theorem Fx.app(h:Fx X N sc k full)(i:Nat)(ha:EV X e fa)(hN:N[i]?=some x:=by rfl)(hv:iJ sc x:=by first | exact cq rfl | exact bP (cq rfl) | exact bP (bP rfl))(hd:(x==("__debug__":Str))=false:=by rfl)
  (cu:(x==("__classdict__":Str))=false:=by rfl)(hs:starEach [e] X.env=[(false,eval e X.env)]:=by rfl)
  (cC:attributeBase (.Name x p1) "append" X.env (eval (.Name x p1) X.env)=eval (.Name x p1) X.env:=by rfl)
  (kS:((backTo be (starEach [e] X.env)).all (λx=>!x.1)&&(backToKw be (keywordEach [] X.env)).all (λx=>x.1.isSome)
   && decide ([e].length+([]:List Keyword).length+(if ([]:List Keyword).isEmpty then 0 else 1)<30))=true:=by rfl)
  (cB:(p2.endLine==be.line)=true:=by rfl)
  (tz:swapsWith (.Call (.Attribute (.Name x p1) "append" p2) [e] [] be) none pos.line X.env=pure false:=by rfl):
  SV X (.Expr (.Call (.Attribute (.Name x p1) "append" p2) [e] [] be) pos) (kO i fa):=PY ha (h.ix hN) (h.qy hv) hd cu hs cC kS cB tz
theorem Fx.ext(h:Fx X N sc k full)(i:Nat)(ha:EV X e fa)(hN:N[i]?=some x:=by rfl)(hv:iJ sc x:=by first | exact cq rfl | exact bP (cq rfl) | exact bP (bP rfl))(hd:(x==("__debug__":Str))=false:=by rfl)
  (cu:(x==("__classdict__":Str))=false:=by rfl)(hs:starEach [e] X.env=[(false,eval e X.env)]:=by rfl)
  (cC:attributeBase (.Name x p1) "extend" X.env (eval (.Name x p1) X.env)=eval (.Name x p1) X.env:=by rfl)
  (kS:((backTo be (starEach [e] X.env)).all (λx=>!x.1)&&(backToKw be (keywordEach [] X.env)).all (λx=>x.1.isSome)
   && decide ([e].length+([]:List Keyword).length+(if ([]:List Keyword).isEmpty then 0 else 1)<30))=true:=by rfl)
  (cB:(p2.endLine==be.line)=true:=by rfl)
  (tz:swapsWith (.Call (.Attribute (.Name x p1) "extend" p2) [e] [] be) none pos.line X.env=pure false:=by rfl):
  SV X (.Expr (.Call (.Attribute (.Name x p1) "extend" p2) [e] [] be) pos) (nJ i fa):=YV ha (h.ix hN) (h.qy hv) hd cu hs cC kS cB tz
theorem Fx.pop(h:Fx X N sc k full)(i j:Nat){x y:Str}(hN:N[i]?=some x:=by rfl)(hx:Loc sc x:=by first | exact cq rfl | exact bP rfl)(Hg:N[j]?=some y:=by rfl)(hv:iJ sc y:=by first | exact cq rfl | exact bP (cq rfl) | exact bP (bP rfl))
  (hd:(y==("__debug__":Str))=false:=by rfl)(cu:(y==("__classdict__":Str))=false:=by rfl)
  (cC:attributeBase (.Name y p1) "pop" X.env (eval (.Name y p1) X.env)=eval (.Name y p1) X.env:=by rfl)
  (cB:(p2.endLine==be.line)=true:=by rfl)
  (hs:swapsWith (.Call (.Attribute (.Name y p1) "pop" p2) [] [] be) (some (.Name x pos')) pos.line X.env=pure false:=by rfl)(hf:full=true\/sc.names.lookup x=some .local:=by first | exact cq rfl | exact bP rfl):
  SV X (.Assign [.Name x pos'] (.Call (.Attribute (.Name y p1) "pop" p2) [] [] be) pos) (qY i j):=YW h.xA (h.ix hN) (h.loc hx) (h.ix Hg) (h.qy hv) hd cu cC cB hs (h.xu hf)
theorem Fx.item(h:Fx X N sc k full)(i:Nat){x:Str}(ha:EV X e fa)(hb:EV X b fb)(hN:N[i]?=some x:=by rfl)(hv:iJ sc x:=by first | exact cq rfl | exact bP (cq rfl) | exact bP (bP rfl))(hd:(x==("__debug__":Str))=false:=by rfl)
  (cu:(x==("__classdict__":Str))=false:=by rfl)
  (qa:∀v,assign (.Subscript (.Name x p1) b p2) X.env v=(do
   let ov <-holding [v] (eval (.Name x p1) X.env)
   let iv <-holding [v,ov] (eval b X.env)
   standAt p2
   holding [v,ov,iv] (setItem ov iv v)
   release [v,ov,iv] []):=by intro _;rfl)
  (hs:swapsWithSole [.Subscript (.Name x p1) b p2] e pos.line X.env=pure false:=by rfl)(hw:swappedStores [.Subscript (.Name x p1) b p2] e X.env=pure none:=by rfl)
  (h1:(assignEach [.Subscript (.Name x p1) b p2] X.env).map (·.2)=[assign (.Subscript (.Name x p1) b p2) X.env]:=by rfl):
  SV X (.Assign [.Subscript (.Name x p1) b p2] e pos) (yi i fa fb):=Wy ha hb (h.ix hN) (h.qy hv) hd cu qa hs hw h1
end
theorem Ac{us:List Value}(h:us.length=0):us=[]:=by
 exact D4.mp h
theorem ym{us:List Value}(h:us.length=1):∃a0,us=[a0]:=by
 cases us with
 | nil=>cases h
 | cons a r =>
  have:=Ac (us:=r) (by simpa using h)
  exact ⟨a,by rw [this]⟩
theorem yn{us:List Value}(h:us.length=2):∃a0 a1,us=[a0,a1]:=by
 cases us with
 | nil=>cases h
 | cons a r =>
  have:=ym (us:=r) (by simpa using h)
  obtain ⟨b0,e⟩:=this
  exact ⟨a,b0,by rw [e]⟩
theorem ud{us:List Value}(h:us.length=3):∃a0 a1 a2,us=[a0,a1,a2]:=by
 cases us with
 | nil=>cases h
 | cons a r =>
  have:=yn (us:=r) (by simpa using h)
  obtain ⟨b0,b1,e⟩:=this
  exact ⟨a,b0,b1,by rw [e]⟩
theorem Ee{us:List Value}(h:us.length=4):∃a0 a1 a2 a3,us=[a0,a1,a2,a3]:=by
 cases us with
 | nil=>cases h
 | cons a r =>
  have:=ud (us:=r) (by simpa using h)
  obtain ⟨b0,b1,b2,e⟩:=this
  exact ⟨a,b0,b1,b2,by rw [e]⟩
section
variable {P:Program}{w:World}{K:aI}{mg:Str->Option Value}{base:Heap}
theorem AS{x qual:Str}{st:Stmt}{f:Addr}{fd:FuncData}{N ps:List Str}{k:Nat}{F:SF}(Fn:sd K x qual st f fd)(S:cc N ps (df st))
  (b7:∀X:Cx,X.prog=P->X.w=w->X.K=K->X.mg=mg->X.base=base->Fx X N (df st) k->oq X (il st) F):bY P w K mg base jl (k+1) f fd ps (qW K ps.length (bJ F N.length)):=
 Hs Fn S λcX A outer s H E hr=>b7 _ rfl rfl rfl rfl rfl ⟨rfl,rfl,rfl,λ_ _=>rfl,Bi,hr,S.nd,λ_=>⟨rfl,rfl,rfl⟩⟩
end
def Oz(P:Program)(w:World)(K:aI)(mg:Str->Option Value)(base:Heap)(x:Str)(st:Stmt)(ps:List Str)(j:Nat)(φ:List D->Option Sl):Prop:=∃f fd,Def K mg x st ps f fd/\bY P w K mg base jl j f fd ps (qW K ps.length φ)
inductive Sx:Cx->Program->World->aI->(Str->Option Value)->Heap->Prop
 | mk (X:Cx):Sx X X.prog X.w X.K X.mg X.base
theorem AR{P:Program}{w:World}{K:aI}{mg:Str->Option Value}{base:Heap}{x:Str}{st:Stmt}{f:Addr}{fd:FuncData}{N ps:List Str}{k:Nat}{F:SF}(D':Def K mg x st ps f fd)
  (b7:∀X:Cx,Sx X P w K mg base->Fx X N (df st) k->oq X (il st) F)(S:cc N ps (df st):=by exact ⟨rfl,rfl,rfl,by decide +kernel,rfl,by decide +kernel,by decide +kernel⟩):bY P w K mg base jl (k+1) f fd ps (qW K ps.length (bJ F N.length)):=
 AS D'.fn S λX e1 e2 e3 e4 e5=>by subst e1 e2 e3 e4 e5;exact b7 X (.mk X)
theorem dM{P:Program}{w:World}{K:aI}{mg:Str->Option Value}{base:Heap}{x:Str}{st:Stmt}{f:Addr}{fd:FuncData}{N ps:List Str}{k:Nat}{F:SF}(D':Def K mg x st ps f fd)
  (b7:∀X:Cx,Sx X P w K mg base->Fx X N (df st) k->oq X (il st) F)(S:cc N ps (df st):=by exact ⟨rfl,rfl,rfl,by decide +kernel,rfl,by decide +kernel,by decide +kernel⟩):Oz P w K mg base x st ps (k+1) (bJ F N.length):=
 ⟨f,fd,D',AR D' b7 S⟩
theorem Fx.cl{X:Cx}{N:List Str}{sc:Scope}{k j:Nat}{full:Bool}{x:Str}{st:Stmt}{ps:List Str}{φ:List D->Option Sl}{e:Expr}{es:List Expr}{fs:En->Option (List D)}{p pos:Pos}(h:Fx X N sc k full)(O:Oz X.prog X.w X.K X.mg X.base x st ps j φ)(ha:AV X (e::es) fs)(hj:j<=k:=by decide)(hg:sc.names.lookup x=some .globalImplicit:=by rfl)(lT:(x==("__debug__":Str))=false:=by decide)(he:starEach (e::es) X.env=(false,eval e X.env)::starEach es X.env:=by rfl)(dY:(backTo pos (starEach es X.env)).any (·.1)=false:=by rfl):
  EV X (.Call (.Name x p) (e::es) [] pos) (c9 ps.length φ fs):=by
 obtain ⟨f,fd,D',F⟩:=O
 exact Wp F (h.room.mono hj) (h.g hg) D'.m D'.fn.kp D'.bd ha lT he dY
structure FI(K:aI)(n:Str)(t:Stmt)(f:Addr)(od an:Option Addr)(sl:Array (Option Value))(oc kV dc pm cd ct:Value):Prop where
 a:gg K mainGlobals n=some (some (.ref f))
 l:K.lookup f=some ⟨oc,od,.func (md n n (nA t) (il t) (df t) .none kV dc pm an cd ct),sl⟩
 c:Bn K cd n=true
 k:pS K (.ref f)=true
section
variable {K:aI}{mg:Str->Option Value}{h:Heap}{n:Str}{t:Stmt}{f:Addr}{od an:Option Addr}{sl:Array (Option Value)}{oc kV dc pm cd ct:Value}{ps:List Str}
theorem C1(X:K.In h)(G:h.Ns mainGlobals mg)(i:FI K n t f od an sl oc kV dc pm cd ct)(hb:∀(kV doc pm:Value) (an:Option Addr) (cX ct:Value) (us:List Value),us.length=ps.length->bindArgs (md n n (nA t) (il t) (df t) .none kV doc pm an cX ct) ⟨us,[]⟩=pure (ps.zip us)):Def K mg n t ps f (md n n (nA t) (il t) (df t) .none kV dc pm an cd ct):=
 ⟨Ey i.l i.c i.k,(Ey i.l i.c i.k).binds hb,tW X G i.a⟩
theorem z0(X:K.In h)(G:h.Ns mainGlobals mg)(i:FI K n t f od an sl oc kV dc pm cd ct)(hb:∀(kV doc pm:Value) (an:Option Addr) (cX ct a0:Value),bindArgs (md n n (nA t) (il t) (df t) .none kV doc pm an cX ct) ⟨[a0],[]⟩=pure (ps.zip [a0]):=by intros;rfl)(hl:ps.length=1:=by rfl):Def K mg n t ps f (md n n (nA t) (il t) (df t) .none kV dc pm an cd ct):=
 C1 X G i λ_ _ _ _ _ _ us hu=>by obtain ⟨_,rfl⟩:=ym (hu.trans hl);exact hb ..
theorem iU(X:K.In h)(G:h.Ns mainGlobals mg)(i:FI K n t f od an sl oc kV dc pm cd ct)(hb:∀(kV doc pm:Value) (an:Option Addr) (cX ct a0 a1:Value),bindArgs (md n n (nA t) (il t) (df t) .none kV doc pm an cX ct) ⟨[a0,a1],[]⟩=pure (ps.zip [a0,a1]):=by intros;rfl)(hl:ps.length=2:=by rfl):Def K mg n t ps f (md n n (nA t) (il t) (df t) .none kV dc pm an cd ct):=
 C1 X G i λ_ _ _ _ _ _ us hu=>by obtain ⟨_,_,rfl⟩:=yn (hu.trans hl);exact hb ..
theorem vQ(X:K.In h)(G:h.Ns mainGlobals mg)(i:FI K n t f od an sl oc kV dc pm cd ct)(hb:∀(kV doc pm:Value) (an:Option Addr) (cX ct a0 a1 a2:Value),bindArgs (md n n (nA t) (il t) (df t) .none kV doc pm an cX ct) ⟨[a0,a1,a2],[]⟩=pure (ps.zip [a0,a1,a2]):=by intros;rfl)(hl:ps.length=3:=by rfl):Def K mg n t ps f (md n n (nA t) (il t) (df t) .none kV dc pm an cd ct):=
 C1 X G i λ_ _ _ _ _ _ us hu=>by obtain ⟨_,_,_,rfl⟩:=ud (hu.trans hl);exact hb ..
theorem GD(X:K.In h)(G:h.Ns mainGlobals mg)(i:FI K n t f od an sl oc kV dc pm cd ct)(hb:∀(kV doc pm:Value) (an:Option Addr) (cX ct a0 a1 a2 a3:Value),bindArgs (md n n (nA t) (il t) (df t) .none kV doc pm an cX ct) ⟨[a0,a1,a2,a3],[]⟩=pure (ps.zip [a0,a1,a2,a3]):=by intros;rfl)(hl:ps.length=4:=by rfl):Def K mg n t ps f (md n n (nA t) (il t) (df t) .none kV dc pm an cd ct):=
 C1 X G i λ_ _ _ _ _ _ us hu=>by obtain ⟨_,_,_,_,rfl⟩:=Ee (hu.trans hl);exact hb ..
end
end DL
namespace DL
open PySem L2
theorem Ur(i j:Int):gS (.int i) (.int j)=some (.sh (.int (i-j))):=rfl
end DL
namespace DL
open PySem PySem.Spec PyProof.Rows L2
def Er(K:aI)(O:Addr->Prop)(J:It)(H:Hp)(ds:List D):Prop:=
 ∀(O':Addr->Prop) (H2:Hp),(∀q u,H q=some u->¬O q->H2 q=some u/\¬O' q)->(∀q,O' q->H2 q≠none) ->
  ∀i:Nat,(∀d,ds[i]?=some d->J.go i H2/\∀x H3,J.vt i H2 x H3->aC H2 H3/\Is K O' H3 x d)/\(ds.length<=i->J.stop i H2)
def IV(X:Cx)(tg it:Expr)(f:En->Option (List D)):Prop:=
 ∃wi:TI,PI X tg it wi/\∀(O:Addr->Prop) (B:Hp) (σ:L2.St) (H:Hp) (env:En) (ds:List D) (R:It->Hp->Prop),Rel X.K O B σ H env->f env=some ds ->
  (∀J H',aC H H'->Er X.K (OO O σ env) J H' ds->R J H')->wi σ H R
theorem Wv{K:aI}{O:Addr->Prop}{H H2:Hp}{k:Bool}{p:Addr}{xs:List V}(kp:∀q u,H q=some u->¬O q->H2 q=some u)(h:Sq K H k p xs)(hp:¬O p):Sq K H2 k p xs:=by
 cases k with
 | true =>
  rcases h with (h | ⟨o,h⟩) | h
  .exact .inl (.inl (kp _ _ h hp))
  .exact .inl (.inr ⟨o,kp _ _ h hp⟩)
  .exact .inr h
 | false =>
  rcases h with (h | ⟨o,h⟩) | h
  .exact .inl (.inl (kp _ _ h hp))
  .exact .inl (.inr ⟨o,kp _ _ h hp⟩)
  .exact .inr h
noncomputable def kT(f:En->Option Sl):En->Option (List D):=λenv=>(f env).bind λr=>(e7 r.d).map (·.2)
section
variable {X:Cx}{tg it:Expr}{fa:En->Option Sl}
theorem xg(hi:EV X it fa):IV X tg it (kT fa):=by
 obtain ⟨ti,pi,ki⟩:=hi
 refine ⟨_,NN pi,λO B σ H env ds R Rl e q=>?_⟩
 obtain ⟨r,e1,e2⟩:=bind_some e
 obtain ⟨⟨k,ds'⟩,e4,e5⟩:=map_some e2
 cases e5
 refine ki O B σ H env r _ Rl e1 λv H1 s1 r1=>?_
 obtain ⟨p,xs,rfl,h1,h2,h3⟩:=(r1.is λq=>Rl.oo).zh e4
 refine ⟨p,rfl,?_⟩
 have key:∀(O':Addr->Prop) (H2:Hp),(∀q u,H1 q=some u->¬OO O σ env q->H2 q=some u/\¬O' q)->Sq X.K H2 k p xs/\aR X.K O' H2 xs ds':=λO' H2 kp=>by
  refine ⟨?_,h2.map (λq hq hn=>?_) λq u e n=>(kp q u e n).1⟩
  .rcases h3 with h3 | h3
   .exact Wv (λq u e n=>(kp q u e n).1) h1 h3
   .exact h3 H2
  .cases e:H1 q with
   | none=>exact (hq e).elim
   | some u=>exact (kp q u e hn).2
 cases k with
 | true =>
  refine .inl ⟨⟨xs,h1⟩,q _ H1 s1 λO' H2 kp hO i=>⟨λd hd=>?_,λhl=>?_⟩⟩
  .obtain ⟨hq,hs⟩:=key O' H2 kp
   obtain ⟨x,hx,qC⟩:=hs.get hd
   refine ⟨⟨xs,x,hq,hx⟩,λy H3 hy=>?_⟩
   obtain ⟨rfl,hy⟩:=hy
   have:=hy xs hq
   rw [hx] at this
   cases this
   exact ⟨aC.refl _,qC⟩
  .obtain ⟨hq,hs⟩:=key O' H2 kp
   exact ⟨xs,hq,by rw [hs.length];exact hl⟩
 | false =>
  refine .inr ⟨⟨xs,h1⟩,q _ H1 s1 λO' H2 kp hO i=>⟨λd hd=>?_,λhl=>?_⟩⟩
  .obtain ⟨hq,hs⟩:=key O' H2 kp
   obtain ⟨x,hx,qC⟩:=hs.get hd
   refine ⟨⟨xs,x,hq,hx⟩,λy H3 hy=>?_⟩
   obtain ⟨rfl,hy⟩:=hy
   have:=hy xs hq
   rw [hx] at this
   cases this
   exact ⟨aC.refl _,qC⟩
  .obtain ⟨hq,hs⟩:=key O' H2 kp
   exact ⟨xs,hq,by rw [hs.length];exact hl⟩
theorem Xr{K:aI}{O:Addr->Prop}{H:Hp}(lo:Int)(n:Nat):Er K O (qv lo n) H (di lo n):=λO' H2 _ _ i=>by
 refine ⟨λd hd=>?_,λhl=>show n<=i by simpa [di] using hl⟩
 unfold di at hd
 rw [qh] at hd
 obtain ⟨k,hk,rfl⟩:=map_some hd
 obtain ⟨hi,rfl⟩:=qK.mp hk
 rw [List.length_range] at hi
 refine ⟨hi,λx H3 hy=>?_⟩
 obtain ⟨rfl,rfl⟩:=hy
 rw [List.getElem_range]
 exact ⟨aC.refl _,Is.int _⟩
noncomputable def wt(h:List D->Option (List D))(f:En->Option (List D)):En->Option (List D):=λenv=>(f env).bind h
noncomputable def zl(f:En->Option (List D))(g:GF)(F:SF):SF:=λenv=>(f env).bind λds=>forL g F ds env
end
noncomputable def rl(cF sc:Scope):Scope:=
 { cF with names:=cF.names.map λ(n,k)=>if (k==.free&&sc.kind==.function&&sc.names.lookup n==some .cell) then (n,.cell) else (n,k) }
theorem Kr{sc:Scope}:∀{names:List (Str×NameKind)} {x:Str} {k:NameKind},names.lookup x=some k ->
  (names.map λ(n,k)=>if (k==qj&&sc.kind==.function&&sc.names.lookup n==some .cell) then (n,wV) else (n,k)).lookup x=some (if (k==qj&&sc.kind==.function&&sc.names.lookup x==some .cell) then wV else k)
 | [],_,_,h=>by simp at h
 | (n,k')::r,x,k,h=>by
  have ih:=@Kr sc r x k
  show tX x ((if (k'==qj&&sc.kind==.function&&sc.names.lookup n==some .cell)=true then (n,wV) else (n,k'))::_)=_
  cases hx:x==n with
  | true =>
   simp only [nY,hx] at h
   cases h
   have e:x=n:=by simpa using hx
   subst e
   split<;>simp [nY]
  | false =>
   simp only [nY,hx] at h
   split
   .simp only [nY,hx];exact ih h
   .simp only [nY,hx];exact ih h
theorem YN{sc:Scope}:∀{names:List (Str×NameKind)} {x:Str} {k:NameKind},
  (names.map λ(n,k)=>if (k==qj&&sc.kind==.function&&sc.names.lookup n==some .cell) then (n,wV) else (n,k)).lookup x=some k->∃k',names.lookup x=some k'/\k=if (k'==qj&&sc.kind==.function&&sc.names.lookup x==some .cell) then wV else k'
 | names,x,k,h=>by
  cases e:names.lookup x with
  | some k'=>have:=Kr (sc:=sc) e;rw [h] at this;exact ⟨k',rfl,dh this⟩
  | none =>
   exfalso
   induction names with
   | nil=>simp at h
   | cons y r ih =>
    obtain ⟨n,k'⟩:=y
    have h':tX x ((if (k'==qj&&sc.kind==.function&&sc.names.lookup n==some .cell)=true then (n,wV) else (n,k'))::(r.map λ(n,k)=>if (k==qj&&sc.kind==.function&&sc.names.lookup n==some .cell) then (n,wV) else (n,k)))=some k:=h
    cases hx:x==n with
    | true=>simp [nY,hx] at e
    | false =>
     simp only [nY,hx] at e
     apply ih _ e
     split at h'
     .simpa only [nY,hx] using h'
     .simpa only [nY,hx] using h'
noncomputable def fO(cells:List (Str×Addr)):List (Str×NameKind)->List (Str×Addr)->List (Str×Addr)
 | [],acc=>acc
 | (n,k)::r,acc=>fO cells r (if k==.free then (n,(cells.lookup n).getD 0)::acc else acc)
theorem KR:∀(names:List (Str×NameKind)) (acc:List (Str×Addr)),(∀y∈names,y.2=.free->∃c,env.cells.lookup y.1=some c) ->
  (forIn names acc λ(x:Str×NameKind) r=>(if (x.2==.free)=true then do let a <-cellOf env x.1;pure (sA ((x.1,a)::r)) else pure (sA r):Sem (ForInStep (List (Str×Addr)))))=pure (fO env.cells names acc)
 | [],acc,_=>rfl
 | (n,k)::r,acc,h=>by
  rw [List.forIn_cons]
  have hr:∀y∈r,y.2=.free->∃c,env.cells.lookup y.1=some c:=λy hy=>h y (jo _ hy)
  cases hk:k==qj with
  | true =>
   have ek:k=.free:=by simpa using hk
   obtain ⟨c,hc⟩:=h (n,k) kU ek
   replace hc:env.cells.lookup n=some c:=hc
   have S0:cellOf env n=pure c:=by unfold cellOf;rw [hc]
   simp only [if_true]
   rw [S0]
   simp only [pure_bind]
   rw [KR r _ hr]
   conv=>rhs;unfold fO
   rw [hk,hc]
   rfl
  | false =>
   simp only [xS,if_false,pure_bind]
   rw [KR r _ hr]
   conv=>rhs;unfold fO
   rw [hk]
   rfl
theorem Zr(h:∀y∈sc.names,y.2=.free->∃c,env.cells.lookup y.1=some c):closureFor sc env=pure (fO env.cells sc.names []):=by
 unfold closureFor
 rw [<-KR sc.names [] h]
 show (forIn sc.names [] _ >>= λcs=>pure cs)=_
 rw [bind_pure]
theorem OU:∀(names:List (Str×NameKind)) (acc:List (Str×Addr)) {c:Addr},(fO cells names acc).lookup x=some c->acc.lookup x=some c\/((x,qj)∈names/\c=(cells.lookup x).getD 0)
 | [],acc,c,h=>.inl h
 | (n,k)::r,acc,c,h=>by
  unfold fO at h
  rcases OU r _ h with h1 | ⟨h,e⟩
  .clear h
   have h:=h1
   clear h1
   cases hk:k==qj with
   | false=>rw [hk] at h;exact .inl (by simpa using h)
   | true =>
    rw [hk] at h
    simp only [if_true] at h
    have ek:k=.free:=by simpa using hk
    cases hx:x==n with
    | true =>
     simp only [nY,hx] at h
     have e:x=n:=by simpa using hx
     subst e ek
     exact .inr ⟨kU,(dh h).symm⟩
    | false =>
     simp only [nY,hx] at h
     exact .inl h
  .exact .inr ⟨jo _ h,e⟩
theorem PB:∀(names:List (Str×NameKind)) (acc:List (Str×Addr)),((∃c,acc.lookup x=some c)\/(x,qj)∈names)->∃c,(fO cells names acc).lookup x=some c
 | [],acc,h=>h.elim id λz=>nomatch z
 | (n,k)::r,acc,h=>by
  unfold fO
  refine PB r _ ?_
  cases hk:k==qj with
  | false =>
   rcases h with h | h
   .exact .inl (by simpa using h)
   .rcases cf.mp h with e | h
    .cases e;simp at hk
    .exact .inr h
  | true =>
   simp only [if_true]
   cases hx:x==n with
   | true=>exact .inl ⟨_,by simp only [nY,hx];rfl⟩
   | false =>
    rcases h with ⟨c,h⟩ | h
    .exact .inl ⟨c,by simp only [nY,hx];exact h⟩
    .rcases cf.mp h with e | h
     .cases e;simp at hx
     .exact .inr h
structure cQ(N:List Str)(sc:Scope)(N':List Str)(caps:List Nat)(nt:Nat)(cF:Scope):Prop where
 kind:cF.kind=.function
 loc:∀y∈cF.names,y.2=.local->cF.names.lookup y.1=some .local
 rp:∀y∈cF.names,y.2≠.cell
 free:∀y∈cF.names,y.2=.free->sc.names.lookup y.1=some .cell\/sc.names.lookup y.1=some .free
 nd:N'.Nodup
 len:N'.length=nt+caps.length
 Ud:caps.map (λi=>N[i]?)=(N'.drop nt).map some
 fr:∀x∈N'.drop nt,cF.names.lookup x=some .free
theorem Lc{names:List (Str×NameKind)}{x:Str}(h:names.lookup x=some k):(x,k)∈names:=xT h
noncomputable def l9:List Nat->En->Option En
 | [],_=>some []
 | i::is,env=>match env[i]? with
  | some (.sh d)=>(l9 is env).map (Sl.sh d::·)
  | _=>none
noncomputable def oA(g:GF)(fc:En->Option Bool)(fe:En->Option Sl):List D->En->Option (List D)
 | [],_=>some []
 | d::ds,e=>(g d e).bind λe1=>(fc e1).bind λb=>if b=true then (fe e1).bind λr=>(oA g fc fe ds e1).bind λrs=>some (r.d::rs) else oA g fc fe ds e1
noncomputable def ny(fi:En->Option (List D))(caps:List Nat)(nt:Nat)(g:GF)(fc:En->Option Bool)(fe:En->Option Sl):En->Option Sl:=λenv =>
 (fi env).bind λds=>(l9 caps env).bind λcs=>if ds.length<=16777216 then (oA g fc fe ds (mC nt Sl.no++cs)).map Sl.ow else none
noncomputable def dO:List Nat->L2.St->L2.St
 | [],_=>[]
 | i::is,σ=>(σ[i]?).getD none::dO is σ
theorem Ot{K:aI}{O:Addr->Prop}{B:Hp}{σ:L2.St}{H:Hp}{env:En}(R:Rel K O B σ H env):∀{caps:List Nat} {cs:En},l9 caps env=some cs->cs.length=caps.length/\(dO caps σ).length=caps.length /\
  ∀(j:Nat) (s:Sl),cs[j]?=some s->∃(d:D) (v:V) (i:Nat),s=Sl.sh d/\(dO caps σ)[j]?=some (some v)/\Is K (OO O σ env) H v d/\caps[j]?=some i/\σ[i]?=some (some v)
 | [],cs,e=>by cases e;exact ⟨rfl,rfl,λj s h=>by simp at h⟩
 | i::is,cs,e=>by
  unfold l9 at e
  cases h:env[i]? with
  | none=>rw [h] at e;cases e
  | some s =>
   rw [h] at e
   cases s with
   | no=>cases e
   | ow ds=>cases e
   | dw ds=>cases e
   | tw _ _=>cases e
   | sh d =>
    obtain ⟨cs',e1,rfl⟩:=map_some (show (l9 is env).map (Sl.sh d::·)=some cs from e)
    obtain ⟨l1,l2,ih⟩:=Ot R e1
    obtain ⟨v,hv,hi⟩:=R.sh i d h
    refine ⟨by simp [l1],by simp [dO,l2],λj s hj=>?_⟩
    cases j with
    | zero=>simp at hj;subst hj;exact ⟨d,v,i,rfl,by simp [dO,hv],hi,rfl,hv⟩
    | succ j =>
     obtain ⟨d',v',i',a1,a2,a3,a4,a5⟩:=ih j s (by simpa using hj)
     exact ⟨d',v',i',a1,by simpa [dO] using a2,a3,by simpa using a4,a5⟩
def CK(X:Cx)(ifs:List Expr)(f:En->Option Bool):Prop:=
 ∃t:TT,(∀(pins:List (Addr×Obj)) (s:Shared) (σ:L2.St) (H:Hp) (Q:Bool->Hp->Prop),Inv X pins σ H s->t σ H Q ->
   wpAny (model X.prog X.w) X.A (forIn ifs true λc r=>if r=true then do let ok <-isTrue c X.env (eval c X.env);pure (sA ok) else pure (sA r)) (TP X pins σ Q) X.xe s) /\
  ∀(O:Addr->Prop) (B:Hp) (σ:L2.St) (H:Hp) (env:En) (b:Bool) (Q:Bool->Hp->Prop),Rel X.K O B σ H env->f env=some b->(∀H',aC H H'->Q b H')->t σ H Q
noncomputable def vg:En->Option Bool:=λ_=>some true
theorem B3:CK X [] vg:=⟨λ_ H Q=>Q true H,λpins s σ H Q I h=>wpAny_tests_nil ⟨H,I,h⟩,λO B σ H env b Q R e q=>by cases e;exact q H (aC.refl _)⟩
theorem JD(h:TV X c f):CK X [c] f:=by
 obtain ⟨t,p,k⟩:=h
 exact ⟨t,λpins s σ H Q I h=>wpAny_tests_one (p pins s σ H Q I h),k⟩
section
variable {prog:Program}{w:World}{A:Around}{R:Result->Shared->Prop}{s:Shared}
theorem Zc{elt target iter:Expr}{ifs:List Expr}{scope:Scope}{pos:Pos}{it acc:Value}{env:Env}(I:Nat->Shared->Prop){N:Value->Shared->Prop}(hN:∀x s',N x s'->False)
  (turn:∀n s,I n s->wpAny (model prog w) A (pyNext it) (λr aV=>match r with
   | none=>R (.ok .next) aV
   | some v=>wpAny (model prog w) A (letOwnedTupleGo target it v) (λ_ uD=>wpAny (model prog w) A (assign target env v) (λ_ cY =>
     wpAny (model prog w) A (forIn ifs true λc r=>if r=true then do let ok <-isTrue c env (eval c env);pure (sA ok) else pure (sA r)) (λok nI =>
      if ok=true then wpAny (model prog w) A (eval elt env) (λx zc =>
       wpAny (model prog w) A (call (.builtin "list.append") [acc,x]) (λ_ zb=>∃m,m<n/\I m zb) N zc) N nI
      else ∃m,m<n/\I m nI) N cY) N uD) N aV) N s)
  (n:Nat)(h:I n s):
  codeAny (model prog w) A (.compLoop (.ListComp elt [⟨target,iter,ifs,0⟩] scope pos) 0 it acc env) R s:=by
 refine codeAny_loop rfl I (λn s hI=>?_) n h
 show wpAny _ A ((compTurn (.ListComp elt [⟨target,iter,ifs,0⟩] scope pos) 0 it acc env).onRaise (λx=>do noteFrame x env;theTreesLotGoes x)) _ _ s
 refine wpAny_noted ?_
 rw [compTurn_list]
 have no:∀{P:Value->Shared->Prop} (x:Value) (s':Shared),N x s'->P x s':=λx s' z=>(hN x s' z).elim
 refine aM (HV (aM (nG (turn n s hI) (λr aV h₁=>?_) no)))
 cases r with
 | none=>exact bE h₁
 | some v =>
  refine aM (nG h₁ (λ_ uD Am=>?_) no)
  refine aM (nG Am (λ_ cY rq=>aM (nG rq (λok nI tq=>?_) no)) no)
  cases ok with
  | false=>exact bE ⟨rfl,tq⟩
  | true =>
   exact aM (aM (nG tq (λx zc GR=>aM (nG GR (λ_ zb GQ=>bE (bE ⟨rfl,GQ⟩)) no)) no))
end
section
variable {X:Cx}{N N':List Str}{sc cF:Scope}{k:Nat}{full:Bool}{elt iter tg:Expr}{ifs:List Expr}{pos:Pos}{fi:En->Option (List D)}{caps:List Nat}{nt:Nat}{g:GF}{fc:En->Option Bool}{fe:En->Option Sl}
noncomputable def uV(X:Cx)(N':List Str)(cF:Scope)(ex:List Addr)(s:Shared)(H:Hp):Cx where
 prog:=X.prog
 w:=X.w
 K:=X.K
 mg:=X.mg
 base:=X.base
 A:=X.A
 N:=N'
 cR:=s
 r9:=H
 env:=compEnvC cF (fO X.env.cells cF.names []) s.heap.objs.size X.env
 outer:=X.stack
 stack:=X.stack
 ex:=ex
 fn:=λ_=>false
 calm:=true
 pn:=[]
 xe:=λ_ _=>False
theorem vj(C:cQ N sc N' caps nt cF)(qA:X.env.scope=sc){pins:List (Addr×Obj)}{σ:L2.St}{H:Hp}{s:Shared}(I:Inv X pins σ H s){x:Str}{c:Addr}(h:(fO X.env.cells cF.names []).lookup x=some c):X.env.cells.lookup x=some c:=by
 rcases OU _ _ h with h | ⟨h,e⟩
 .simp at h
 .obtain ⟨c',uT⟩:=I.ok.has x (by
   show X.env.scope.names.lookup x=_\/X.env.scope.names.lookup x=_
   rw [qA]
   exact C.free _ h rfl)
  rw [uT] at e
  rw [e];exact uT
theorem NZ(h:cF.names.lookup x=some .free):∃c,(fO X.env.cells cF.names []).lookup x=some c:=PB _ _ (.inr (Lc h))
theorem WS(C:cQ N sc N' caps nt cF)(qA:X.env.scope=sc)(hc:X.calm=true){pins:List (Addr×Obj)}{σ:L2.St}{H:Hp}{s s3:Shared}{fp:List Addr}(I:Inv X pins σ H s)(I3:Inv X pins σ H s3)
  (hf:∀b∈fp,ko X pins H b)(AA:∀b∈fp,∃o,s3.heap.get? b=some o)(hs:s3.heap.objs.size=s.heap.objs.size+1):(uV X N' cF (s.heap.objs.size::fp) s3 H).Ok:=by
 have small:∀x c,X.env.cells.lookup x=some c->c<s.heap.objs.size:=λx c e=>by
  obtain ⟨v,z⟩:=I.cell x c e
  exact z.lt
 have kd:∀x,((uV X N' cF (s.heap.objs.size::fp) s3 H).env.kindOf x=some .cell\/(uV X N' cF (s.heap.objs.size::fp) s3 H).env.kindOf x=some .free)->cF.names.lookup x=some .free:=λx h=>by
  have h':∃k,(rl cF X.env.scope).names.lookup x=some k/\(k=.cell\/k=.free):=h.elim (λz=>⟨_,z,.inl rfl⟩) λz=>⟨_,z,.inr rfl⟩
  obtain ⟨k,e,hk⟩:=h'
  obtain ⟨k',e1,e2⟩:=YN e
  have nc:k'≠.cell:=C.rp _ (Lc e1)
  by_cases uS:(k'==qj&&X.env.scope.kind==.function&&X.env.scope.names.lookup x==some .cell)=true
  .have:k'=.free:=by
    have:=(sF _ _▸(sF _ _▸uS).1).1
    simpa using this
   rw [e1,this]
  .rw [if_neg uS] at e2
   subst e2
   rcases hk with rfl | rfl
   .exact (nc rfl).elim
   .exact e1
 refine ⟨I.ok.mod,C.kind,I.ok.glob,I.ok.blt,bX _,λx y c h1 h2=>I.ok.inj x y c (vj C qA I h1) (vj C qA I h2),λx h=>NZ (kd x h),λ_ _ (z:false=true) _=>(nomatch z),λ_=>I.ok.hd hc,I.ok.frames,.inl rfl,λb hb=>⟨?_,λx c e=>?_⟩,λb o e=>?_,?_,λb o e hb=>?_,λb hb uQ=>?_,I3.stack,λb hb=>I.pG b hb⟩
 .show b≠s3.heap.objs.size
  rcases cf.mp hb with rfl | hb
  .rw [hs];exact dr (nZ _)
  .obtain ⟨o,e⟩:=AA b hb
   exact dr (cE e)
 .have e':=vj C qA I e
  rcases cf.mp hb with rfl | hb
  .exact dr (small x c e')
  .exact (hf b hb).2.2.2.2.1 x c e'
 .exact I3.bs b o e
 .exact jZ I.ok.rL I3.sz
 .have lt:b<X.base.objs.size:=cE e
  have h0:=I.ok.rL
  have h1:=I.sz
  rcases cf.mp hb with rfl | hb
  .exact absurd (nr lt (jZ h0 h1)) (sH _)
  .rcases (hf b hb).2.2.2.1 with z | z
   .exact I.ok.rm b o e z
   .exact absurd (nr lt (jZ h0 z)) (sH _)
 .rcases cf.mp hb with rfl | hb
  .obtain ⟨_,o,ho,_⟩:=I.stack.mem uQ
   exact absurd (cE ho) (sH _)
  .rcases cf.mp (I.mH b uQ) with z | z
   .exact (hf b hb).2.1 z
   .exact (hf b hb).2.2.1 z
theorem EC{α:Type}{n j:Nat}{x y:α}{l:List α}(h:(mC n x++l)[j]?=some y):y=x\/(n<=j/\l[j-n]?=some y):=by
 by_cases hj:j<n
 .rw [wY (by simpa using hj),yd,if_pos hj] at h
  exact .inl (dh h).symm
 .rw [t9 (by simpa using hj),D2] at h
  exact .inr ⟨by ext hj,h⟩
theorem Xa(C:cQ N sc N' caps nt cF)(qA:X.env.scope=sc)(hN:X.N=N)(hc:X.calm=true){pins:List (Addr×Obj)}{σ:L2.St}{H:Hp}{s s3 s4:Shared}{fp:List Addr}(I:Inv X pins σ H s)(I3:Inv X pins σ H s3)
  (hf:∀b∈fp,ko X pins H b)(AA:∀b∈fp,∃o,s3.heap.get? b=some o)(hs:s3.heap.objs.size=s.heap.objs.size+1)
  (v3:s4.os=s3.os)(hg:s4.gens=s3.gens)(hk:∀b o,s3.heap.get? b=some o->s4.heap.get? b=some o)(As:s4.heap.Ns s3.heap.objs.size λ_=>none):
  Inv (uV X N' cF (s.heap.objs.size::fp) s3 H) [] (mC nt none++dO caps σ) H s4:=by
 have sl:∀(caps:List Nat) (σ:L2.St),(dO caps σ).length=caps.length:=λcaps σ=>by
  induction caps with
  | nil=>rfl
  | cons i r ih=>simp [dO,ih]
 have sg:∀(caps:List Nat) (σ:L2.St) (j:Nat) (v:V),(dO caps σ)[j]?=some (some v)->∃i,caps[j]?=some i/\σ[i]?=some (some v):=λcaps σ=>by
  induction caps with
  | nil=>intro j v h;simp [dO] at h
  | cons i r ih =>
   intro j v h
   cases j with
   | zero =>
    have h':(σ[i]?).getD none=some v:=by simpa [dO] using h
    refine ⟨i,rfl,?_⟩
    cases e:σ[i]? with
    | none=>rw [e] at h';cases h'
    | some o=>rw [e] at h';exact congrArg some h'
   | succ j =>
    obtain ⟨i',e1,e2⟩:=ih j v (by simpa [dO] using h)
    exact ⟨i',by simpa using e1,e2⟩
 refine ⟨WS C qA hc I I3 hf AA hs,v3,by rw [hg];exact I3.bare,Un.kept hk,⟨_,As,λi x v h1 h2 h3=>?_⟩,λx c e=>?_,I3.bq.fresh (bX _),λx c e=>I3.dR x c (vj C qA I e),λp hp=>absurd (show p∈([]:List (Addr×Obj)) from hp) (by simp),I3.bq.kept hk,?_⟩
 .have h1:N'[i]?=some x:=h1
  rcases EC h2 with z | ⟨hi,h2⟩
  .cases z
  .obtain ⟨i',e1,e2⟩:=sg caps σ _ v h2
   have hd:(N'.drop nt)[i-nt]?=some x:=by rw [List.getElem?_drop,Nat.add_sub_cancel' hi];exact h1
   have hm:=congrArg (λl=>l[i-nt]?) C.Ud
   simp only [qh,e1,hd,xV] at hm
   have Te:X.N[i']?=some x:=by rw [hN];exact dh hm
   have G':=C.fr x (IW hd)
   have gQ:=C.free _ (Lc G') rfl
   obtain ⟨m,hn,hl⟩:=I3.loc
   obtain ⟨u,r,l⟩:=hl i' x v Te e2 (by rw [qA];exact .inr gQ)
   refine ⟨u,r,.inr ⟨?_,?_⟩⟩
   .have e:=Kr (sc:=X.env.scope) G'
    show (rl cF X.env.scope).names.lookup x=_\/(rl cF X.env.scope).names.lookup x=_
    have e':(rl cF X.env.scope).names.lookup x=_:=e
    rw [e']
    split
    .exact .inl rfl
    .exact .inr rfl
   .rcases l with ⟨k,_⟩ | ⟨k,c,e,z⟩
    .exfalso
     have k:X.env.scope.names.lookup x=some .local:=k
     rw [qA] at k
     dsimp only at gQ
     rw [k] at gQ
     rcases gQ with z | z<;>cases z
    .obtain ⟨c',uT⟩:=NZ (X:=X) G'
     have:=vj C qA I uT
     rw [e] at this
     cases this
     exact ⟨c,uT,z.keeps hk⟩
 .obtain ⟨v,z⟩:=I3.cell x c (vj C qA I e)
  exact ⟨v,z.keeps hk⟩
 .show (mC nt none++dO caps σ).length=N'.length
  rw [dz,D2,sl,C.len]
theorem W'(r:aB xs us):xs.length=us.length:=r.length
theorem Xb{pins pl:List (Addr×Obj)}{σ aX:L2.St}{H2 H':Hp}{s2 s3 s1:Shared}{fp:List Addr}{h':Heap}{xs:List V}{ys:List Value}(I2:Inv X pins σ H2 s2)(vY:s3.os=s2.os)(AJ:∀b o,s2.heap.get? b=some o->s3.heap.get? b=some o)
  (hsz:s3.heap.objs.size=s2.heap.objs.size+1)(f2:∀b∈fp,ko X pins H2 b)(I':Inv (uV X N' cF (s2.heap.objs.size::fp) s3 H2) pl aX H' s1)(sb:rT s3.heap.objs.size s1.heap h')
  (hn:H' s2.heap.objs.size=none)(hl:∃n,s1.heap.get? s2.heap.objs.size=some { cls:=.type "list",data:=.seq ys.toArray n })(hv:aB xs ys)(hz:xs.length<=sizeLine):
  Inv X pins σ (upd H' s2.heap.objs.size (.lst xs)) { s1 with heap:=h' }:=by
 have RX:∀b,b<s3.heap.objs.size->b≠s3.heap.objs.size:=λb h=>dr h
 have L5:∀b,b<s2.heap.objs.size->b≠s2.heap.objs.size:=λb h=>dr h
 have out:∀b o,s2.heap.get? b=some o->b∉fp->b∉s2.heap.objs.size::fp:=λb o e n z=>(cf.mp z).elim (L5 b (cE e)) n
 have hC:H' s3.heap.objs.size=none:=I'.free
 have up:∀b o,s2.heap.get? b=some o->∀o',s1.heap.get? b=some o'->h'.get? b=some o':=λb o e o' e'=>(sb.2 b (RX b (cE (AJ b o e)))).trans e'
 have uI:∀b u,H' b=some u->b≠s2.heap.objs.size:=λb u e z=>by rw [z,hn] at e;cases e
 have u:=I'.base
 refine I2.A9 (s':={ s1 with heap:=h' }) (ch:=fp) (I'.os.trans vY) ⟨λb o e n hb hx=>?_,λb o e n hb hx=>?_,λb o e n hx=>?_,λb o e hx=>?_,λb zs e=>?_,λb o v e=>?_,λb ps e=>?_⟩ (λb v e=>?_) I'.bare (λb hb=>?_)
 .exact up b o e o (u.keep b o (AJ b o e) n hb (out b o e hx))
 .obtain ⟨sl,e1⟩:=u.slot b o (AJ b o e) n hb (out b o e hx)
  exact ⟨sl,up b o e _ e1⟩
 .rw [da (L5 b (cE e))]
  exact u.free b o (AJ b o e) n (out b o e hx)
 .obtain ⟨o',e1⟩:=u.there b o (AJ b o e) (out b o e hx)
  exact ⟨o',up b o e _ e1⟩
 .have:=u.iK b zs e
  rw [da (uI b _ this)];exact this
 .have:=u.gU b o v e
  rw [da (uI b _ this)];exact this
 .obtain ⟨more,this⟩:=u.iL b ps e
  exact ⟨more,by rw [da (uI b _ this)];exact this⟩
 .by_cases hb:b=s2.heap.objs.size
  .subst hb
   rw [kX] at e
   cases e
   obtain ⟨n,e1⟩:=hl
   exact ⟨hz,ys,n,hv,(sb.2 _ (by rw [hsz];exact dr (nZ _))).trans e1⟩
  .rw [da hb] at e
   refine (I'.bq b v e).p6 (λc w hc q=>(sb.2 c ?_).trans q) (λc _ _ q=>by rw [da (uI c _ q)];exact q) λc zs q=>by rw [da (uI c _ q)];exact q
   rintro rfl
   rcases hc with z | z
   .rw [<-z,hC] at e;cases e
   .rw [hC] at z;cases z
 .obtain ⟨_,g1,_,g3,g4,g5⟩:=f2 b hb
  exact ⟨g3,g1,g4,g5⟩
theorem PD(h:Fx X N sc k full)(C:cQ N sc N' caps nt cF){wi:TI}(pi:PI X tg iter wi)(ki:∀(O:Addr->Prop) (B:Hp) (σ:L2.St) (H:Hp) (env:En) (ds:List D) (R:It->Hp->Prop),Rel X.K O B σ H env->fi env=some ds->(∀J H',aC H H'->Er X.K (OO O σ env) J H' ds->R J H')->wi σ H R)
  (hb:∀X':Cx,X'.prog=X.prog->X'.w=X.w->X'.K=X.K->X'.mg=X.mg->X'.base=X.base->Fx X' N' (rl cF sc) k false->GV X' tg g/\CK X' ifs fc/\EV X' elt fe)
  (uQ:∀x,foldedSetIterable iter X.env x=pure x){pins:List (Addr×Obj)}{s:Shared}{σ:L2.St}{H:Hp}(I:Inv X pins σ H s){O:Addr->Prop}{B:Hp}{env:En}{r:Sl}(R:Rel X.K O B σ H env)(e:ny fi caps nt g fc fe env=some r)
  {use:Option (Value->Sem Unit)}{QQ:Value->Shared->Prop}
  (fin:∀(C0 p:Addr) (H':Hp) (s':Shared),(∃m,s'.heap.Ns C0 m)->ko X pins H' C0->(∀h',rT C0 s'.heap h'->Inv X pins σ H' { s' with heap:=h' })->aC H H'->Res X.K (OO O σ env) H H' (.ref p) r ->
   compPost (model X.prog X.w) X.A X.xe use QQ (.ref p) C0 (.ok .next) s'):
  wpAny (model X.prog X.w) X.A (comprehension (.ListComp elt [⟨tg,iter,ifs,0⟩] cF pos) cF X.env (firstIterPos [⟨tg,iter,ifs,0⟩] pos) (newList []) (firstAsync [⟨tg,iter,ifs,0⟩]) (firstIter [⟨tg,iter,ifs,0⟩] X.env) use) QQ X.xe s:=by
 obtain ⟨ds,e1,e2⟩:=bind_some e
 obtain ⟨cs,e3,e4⟩:=bind_some e2
 by_cases hlen:ds.length<=16777216
 case neg=>rw [if_neg hlen] at e4;cases e4
 rw [if_pos hlen] at e4
 obtain ⟨rs,e5,rfl⟩:=map_some e4
 have AF:closureFor cF X.env=pure (fO X.env.cells cF.names []):=Zr λy hy hf=>I.ok.has y.1 (by
  show X.env.scope.names.lookup y.1=_\/X.env.scope.names.lookup y.1=_
  rw [h.sc]
  exact C.free y hy hf)
 have SG:=pi pins s σ H (λJ H'=>aC H H'/\Er X.K (OO O σ env) J H' ds) I (ki O B σ H env ds _ R e1 λJ H' s' wk=>⟨s',wk⟩)
 refine wpAny_comprehension_free (use:=use) rfl uQ AF C.kind C.loc (bw SG λxv s1 h1=>bw h1 λGO s2 h2=>?_)
 obtain ⟨it,fp,tn,J,H2,rfl,I2,T,js,f2,pI,wk⟩:=h2
 refine sx (wpAny_newFunctionEnv C.rp (by intro y hy;simp at hy) (λh₁ oS oR=>?_) C.kind)
 dsimp only at oS oR ⊢
 generalize Hk:s2.heap.push { cls:=.type "list",dict:=none,data:=.seq ([]:List Value).toArray }=H3 at oS oR ⊢
 have hsz:H3.objs.size=s2.heap.objs.size+1:=by rw [<-Hk,nF]
 have Af:∀b o,s2.heap.get? b=some o->H3.get? b=some o:=λb o e=>by rw [<-Hk];exact c8 _ e
 have C5:∀b o,H3.get? b=some o->h₁.get? b=some o:=λb o e=>oR.extBut b o (dr (cE e)) (c8 _ e)
 have I3:Inv X pins σ H2 { s2 with heap:=H3 }:=I2.kept (t':=s2.toks) Af
 have zV:∀b∈fp,b<s2.heap.objs.size:=λb hb=>by obtain ⟨o,eo,_⟩:=T.obj 0 _ js b hb;exact cE eo
 have uI:∀b∈fp,b≠s2.heap.objs.size:=λb hb=>dr (zV b hb)
 have AA:∀b∈fp,∃o,H3.get? b=some o:=λb hb=>by obtain ⟨o,eo,_⟩:=T.obj 0 _ js b hb;exact ⟨o,Af b o eo⟩
 have R2:=R.grow pI
 obtain ⟨lc,ls,cg⟩:=Ot R2 e3
 generalize oz:uV X N' cF (s2.heap.objs.size::fp) { s2 with heap:=H3 } H2=X'
 have I4:∀t,Inv X' [] (mC nt none++dO caps σ) H2 { s2 with heap:=h₁,toks:=t }:=λt=>by
  rw [<-oz]
  exact Xa (s3:={ s2 with heap:=H3 }) (s4:={ s2 with heap:=h₁,toks:=t }) C h.sc h.n h.calm I2 I3 f2 AA hsz rfl rfl C5 (by simpa using oS)
 have hP:X'.prog=X.prog:=by rw [<-oz];rfl
 have hW:X'.w=X.w:=by rw [<-oz];rfl
 have hK:X'.K=X.K:=by rw [<-oz];rfl
 have hE:X'.env=compEnvC cF (fO X.env.cells cF.names []) H3.objs.size X.env:=by rw [<-oz];rfl
 have hA:X'.A=X.A:=by rw [<-oz];rfl
 have hx:X'.xe=λ_ _=>False:=by rw [<-oz];rfl
 have Hd:X'.calm=true:=by rw [<-oz];rfl
 have S7:=hb X' hP hW hK (by rw [<-oz];rfl) (by rw [<-oz];rfl) ⟨by rw [<-oz];rfl,by rw [hE];show rl cF X.env.scope=_;rw [h.sc],Hd,λz=>(nomatch z),by rw [hx];exact Bi,by rw [hA];exact h.room,C.nd,λz=>(nomatch z)⟩
 obtain ⟨⟨uC,pg,kg⟩,⟨tc,pc,kc⟩,te,pe,ke⟩:=S7
 have Hr:∀{H':Hp} {pl:List (Addr×Obj)},(∀b∈fp,H' b=none)->(∀p∈pl,∀b∈fp,p.1≠b)->∀b∈fp,ko X' pl H' b:=λ{H' pl} hn dY b hb=>by
  obtain ⟨_,g1,g2,g3,g4,g5⟩:=f2 b hb
  rw [<-oz]
  refine ⟨hn b hb,dr (nr (zV b hb) (by show s2.heap.objs.size<=H3.objs.size;rw [hsz];exact uW _)),λz=>?_,.inl (jo _ hb),λx c e=>g4 x c (vj C h.sc I2 e),λp hp=>dY p (by simpa [uV] using hp) b hb⟩
  rcases cf.mp (I2.mH b z) with z | z
  .exact g1 z
  .exact g2 z
 have R0:Rel X'.K (OO O σ env) H2 (mC nt none++dO caps σ) H2 (mC nt Sl.no++cs):=by
  have mO:∀(i:Nat) (es:Sl),(mC nt Sl.no++cs)[i]?=some es->es.own->False:=λi es e o=>by
   rcases EC e with z | ⟨_,z⟩
   .cases z;exact o
   .obtain ⟨d,_,_,z,_⟩:=cg _ _ z
    cases z;exact o
  have noOwn:∀p,¬mo (mC nt none++dO caps σ) (mC nt Sl.no++cs) p:=λp ⟨i,es,e,o,_⟩=>mO i es e o
  rw [hK]
  refine ⟨aC.refl _,R2.dm,by simp [lc,ls],λi d e=>?_,λi es e=>(mO i _ e trivial).elim,λi es e=>(mO i _ e trivial).elim,λi ks es e=>(mO i _ e trivial).elim,λi j es fs p e _ _ _ o=>(mO i es e o).elim⟩
  rcases EC e with z | ⟨hi,z⟩
  .cases z
  .obtain ⟨d',v,i',z1,z2,z3,_⟩:=cg _ _ z
   cases z1
   refine ⟨v,?_,z3.less λp hp=>hp.elim id λz=>(noOwn p z).elim⟩
   rw [t9 (by simpa using hi),D2]
   exact z2
 have loop:∀t,codeAny (model X.prog X.w) X.A (.compLoop (.ListComp elt [⟨tg,iter,ifs,0⟩] cF pos) 0 (.ref it) (.ref s2.heap.objs.size) (compEnvC cF (fO X.env.cells cF.names []) H3.objs.size X.env))
   (compPost (model X.prog X.w) X.A X.xe use QQ (.ref s2.heap.objs.size) H3.objs.size) { s2 with heap:=h₁,toks:=t }:=λt=>by
  refine Zc (N:=λ_ _=>False) (λn s'=>∃(i:Nat) (aX:L2.St) (H':Hp) (ah:En) (ys:List Value) (xs:List V) (uE CT:List D),n=ds.length-i/\i<=ds.length/\Inv X' [] aX H' s'/\tn i s'.heap/\(∀b∈fp,H' b=none)/\H' s2.heap.objs.size=none /\
    s'.heap.PlainList s2.heap.objs.size ys.toArray/\aB xs ys/\Rel X'.K (OO O σ env) H2 aX H' ah/\Gd (mC nt none++dO caps σ) (mC nt Sl.no++cs) H2 aX ah H' /\
    aR X'.K (OO (OO O σ env) aX ah) H' xs uE/\oA g fc fe (ds.drop i) ah=some CT/\uE++CT=rs/\uE.length<=i) (λ_ _ z=>z) ?_ ds.length
   ⟨0,_,H2,_,[],[],[],rs,by simp,sr _,I4 t,T.keep _ _ _ js (λb _ o e=>C5 b o (Af b o e)),λb hb=>(f2 b hb).1,I2.bq.fresh (bX _),⟨_,C5 _ _ (by rw [<-Hk];exact jY _ rfl)⟩,.nil,R0,Gd.refl (aC.refl _),.nil,by simpa using e5,rfl,bX _⟩
  rintro n s3 ⟨i,mE,yM,wx,ys,xs,uE,CT,rfl,hi,J3,lj,AQ,Ta,LQ,vx,R3,Mz,Ai,A8,Dd,GZ⟩
  have zH:Inv X' (ug [s2.heap.objs.size] s3.heap) mE yM s3:=by
   refine J3.gA λp hp=>?_
   obtain ⟨hb,e⟩:=Ks hp
   have hb:p.1=s2.heap.objs.size:=by simpa using hb
   obtain ⟨n,en⟩:=LQ
   rw [hb,en] at e
   refine ⟨by rw [hb,en];exact e,by rw [hb];exact Ta,?_,λz=>?_,λv z=>?_⟩
   .rw [hb,hE]
    show s2.heap.objs.size≠H3.objs.size
    rw [hsz]
    exact dr (nZ _)
   .rw [hb,<-oz] at z
    obtain ⟨_,o,ho,_⟩:=I2.stack.mem z
    exact absurd (cE ho) (sH _)
   .rw [<-dh e] at z;cases z
  have apart:∀p∈ug [s2.heap.objs.size] s3.heap,∀b∈fp,p.1≠b:=λp hp b hb z=>by
   have e:p.1=s2.heap.objs.size:=by simpa using (Ks hp).1
   exact uI b hb (z.symm.trans e)
  have rV:∀{pl:List (Addr×Obj)} {aX:L2.St} {H':Hp} {s':Shared},Inv X' pl aX H' s'->(∀p∈ug [s2.heap.objs.size] s3.heap,p∈pl)->s'.heap.PlainList s2.heap.objs.size ys.toArray/\H' s2.heap.objs.size=none:=λ{pl aX H' s'} J qa=>by
   obtain ⟨n,en⟩:=LQ
   obtain ⟨q1,q2,_⟩:=J.pin _ (ql _ (qa _ (Cg (fp:=[s2.heap.objs.size]) (by simp) en)))
   exact ⟨⟨n,q1⟩,q2⟩
  have w:=wk (OO (OO O σ env) mE wx) yM (λa u ea na=>by
   obtain ⟨h1,h2⟩:=Mz a u ea λ⟨i,es,e,o,_⟩=>by
    rcases EC e with z | ⟨_,z⟩
    .cases z;exact o
    .obtain ⟨d,_,_,z,_⟩:=cg _ _ z
     cases z;exact o
   exact ⟨h1,λz=>z.elim na h2⟩) (λa=>R3.oo) i
  by_cases cn:i<ds.length
  .obtain ⟨go,yl⟩:=w.1 ds[i] (by simp [cn])
   have qd:ds.drop i=ds[i]::ds.drop (i+1):=sI cn
   rw [qd,oA] at A8
   obtain ⟨m7,c1,c2⟩:=bind_some A8
   obtain ⟨b,c2,c3⟩:=bind_some c2
   have ti:=T.item X' hP hW hK Hd i _ s3 mE yM (λ_ _=>False) zH (Hr AQ apart) lj go
   rw [hA] at ti
   refine bw ti λr s4 ⟨u,hr,h4⟩=>?_
   subst hr
   refine bw h4 λ_ s5 ⟨x,H5,I5,r5,y5,vE,Hq⟩=>?_
   obtain ⟨Gf,Sr⟩:=yl x H5 y5
   have LG:=I5.pinned (Hr Hq apart) (T.obj _ _ vE)
   have uK:∀{aX:L2.St} {H':Hp} {s':Shared},Inv X' (ug [s2.heap.objs.size] s3.heap++ug fp s5.heap) aX H' s'->tn (i+1) s'.heap/\∀b∈fp,H' b=none:=λ{aX H' s'} J=>by
    refine ⟨T.keep _ _ _ vE λb hb o e=>(J.pin (b,o) (ql _ (ql _ (Cg hb e)))).1,λb hb=>?_⟩
    obtain ⟨o,e,_⟩:=T.obj _ _ vE b hb
    exact (J.pin (b,o) (ql _ (ql _ (Cg hb e)))).2.1
   have LR:=pg _ s5 mE H5 x u _ LG r5 (kg (OO O σ env) H2 mE H5 wx m7 x ds[i] (λoy H6=>Rel X'.K (OO O σ env) H2 oy H6 m7/\Gd mE wx H5 oy m7 H6) (R3.grow Gf) (hK▸Sr) c1 λoy H6 R6 g6=>⟨R6,g6⟩)
   rw [hP,hW,hA,hE,hx] at LR
   refine bw LR λ_ s6 ⟨oy,H6,I6,R6,g6⟩=>?_
   have LU:=pc _ s6 oy H6 (λb' H'=>b'=b/\aC H6 H') I6 (kc (OO O σ env) H2 oy H6 m7 b _ R6 c2 λH' s'=>⟨rfl,s'⟩)
   rw [hP,hW,hA,hE,hx] at LU
   refine bw LU λok s7 ⟨H7,I7,bq,Ge⟩=>?_
   subst bq
   have R7:=R6.grow Ge
   have Mx:=Mz.trans ((Gd.refl Gf).trans (g6.trans (Gd.refl Ge)))
   have L8:aR X'.K (OO (OO O σ env) oy m7) H7 xs uE:=((Gd.refl Gf).trans (g6.trans (Gd.refl Ge))).C6 Ai
   cases ok with
   | false =>
    rw [if_neg pV] at c3 ⊢
    obtain ⟨QW,Tp⟩:=uK I7
    obtain ⟨Rt,S'⟩:=rV I7 λp hp=>yf _ hp
    exact ⟨ds.length-(i+1),by ext cn,i+1,oy,H7,m7,ys,xs,uE,CT,rfl,cn,I7.gA (λ_ z=>nomatch z),QW,Tp,S',Rt,vx,R7,Mx,L8,c3,Dd,by ext GZ⟩
   | true =>
    rw [if_pos rfl] at c3 ⊢
    obtain ⟨r,d3,d4⟩:=bind_some c3
    obtain ⟨Rc,d5,d6⟩:=bind_some d4
    clear c3 d4 A8
    obtain rfl:=dh d6
    have LS:=pe _ s7 oy H7 (λv H'=>aC H7 H'/\Is X'.K (OO (OO O σ env) oy m7) H' v r.d) I7 (ke (OO O σ env) H2 oy H7 m7 r _ R7 d3 λv H' s' rr=>⟨s',rr.is λp=>R7.oo⟩)
    rw [hP,hW,hA,hE,hx] at LS
    refine bw LS λy s8 ⟨v,H8,I8,ry,Gc,hv⟩=>?_
    obtain ⟨QV,To⟩:=uK I8
    obtain ⟨Rr,Ms⟩:=rV I8 λp hp=>yf _ hp
    have Sm:ys.length=uE.length:=by rw [<-W' vx,Ai.length]
    refine wpAny_list_append_plain (hsz:=by rw [dG,Sm,pT];ext hlen GZ cn) Rr λh' Rq LO=>?_
    have J8:Inv X' [] oy H8 s8:=I8.gA λ_ z=>nomatch z
    have J9:Inv X' [] oy H8 { s8 with heap:=h' }:=J8.turned (t':=s8.toks) (it:=s2.heap.objs.size) (λb o hb e=>(LO.2 b hb).trans e) Ms
     (by rw [hE];show s2.heap.objs.size≠H3.objs.size;rw [hsz];exact dr (nZ _)) (.inl (by rw [<-oz];exact kU))
     (λx c e=>by
      rw [hE] at e
      obtain ⟨_,z⟩:=I2.cell x c (vj C h.sc I2 e)
      exact dr z.lt) (λp hp=>by rw [<-oz] at hp;exact absurd hp (by simp [uV]))
    refine ⟨ds.length-(i+1),by ext cn,i+1,oy,H8,m7,ys++[y],xs++[v],uE++[r.d],Rc,rfl,cn,J9,T.keep _ _ _ QV λb hb o e=>(LO.2 b (uI b hb)).trans e,To,Ms,by simpa using Rq,vx.append (.cons ry .nil),R7.grow Gc,Mx.trans (Gd.refl Gc),(L8.grow Gc).append (.cons hv .nil),d5,by rw [<-Dd];simp,by simp;assumption⟩
  .have G8:i=ds.length:=by ext hi cn
   have td:=T.done X' hP hW hK Hd i _ s3 mE yM (λ_ _=>False) zH (Hr AQ apart) lj (w.2 (by ext cn))
   rw [hA] at td
   refine bw td λr s4 ⟨hr,CL⟩=>?_
   subst hr
   obtain ⟨Ru,tH⟩:=rV CL λp hp=>hp
   rw [yb (by ext cn),oA] at A8
   obtain rfl:=dh A8
   rw [sC] at Dd
   subst Dd
   obtain ⟨m4,Mh,_⟩:=CL.loc
   rw [hE] at Mh
   obtain ⟨n4,Tv⟩:=Ru
   rw [<-oz] at CL
   have Mq:H2 s2.heap.objs.size=none:=I2.bq.fresh (bX _)
   have v8:s2.heap.objs.size<=H3.objs.size:=by rw [hsz];exact uW _
   have Th:yM H3.objs.size=none:=CL.free
   have fF:H3.objs.size≠s2.heap.objs.size:=by rw [hsz];exact Nat.succ_ne_self _
   refine fin H3.objs.size s2.heap.objs.size (upd yM s2.heap.objs.size (.lst xs)) s4 ⟨m4,Mh⟩ (I2.rG v8 (by rw [da fF];exact Th)) (λh' sb=>Xb (s3:={ s2 with heap:=H3 }) (ys:=ys) I2 rfl Af hsz f2 CL sb tH ⟨n4,Tv⟩ vx (by rw [Ai.length,pT];ext hlen hi GZ)) ?_ ⟨_,xs,rfl,pI.free Mq,kX,?_⟩
   .intro b o e
    have e2:=pI b o e
    rw [da (oF e2 Mq)]
    exact R3.same b o e2
   .rw [hK] at Ai
    refine Ai.map (λp hp hn z=>hn (.inl (z.elim id λz=>?_))) λp u e _=>by rw [da (oF e tH)];exact e
    rw [z,tH] at hp
    exact (hp rfl).elim
 exact codeAny_compStart_list (loop _) (T.self _ 0 _ _ _ (T.keep _ _ _ js (λb _ o e=>C5 b o (Af b o e))) (loop _))
theorem yt(h:Fx X N sc k full)(C:cQ N sc N' caps nt cF)(hi:IV X tg iter fi)
  (hb:∀X':Cx,X'.prog=X.prog->X'.w=X.w->X'.K=X.K->X'.mg=X.mg->X'.base=X.base->Fx X' N' (rl cF sc) k false->GV X' tg g/\CK X' ifs fc/\EV X' elt fe)
  (uQ:∀x,foldedSetIterable iter X.env x=pure x:=by intro _;rfl):EV X (.ListComp elt [⟨tg,iter,ifs,0⟩] cF pos) (ny fi caps nt g fc fe):=by
 obtain ⟨wi,pi,ki⟩:=hi
 refine ⟨λσ H Q=>∃O B env r,Rel X.K O B σ H env/\ny fi caps nt g fc fe env=some r/\∀v H',aC H H'->Res X.K (OO O σ env) H H' v r->Q v H',?_,λO B σ H env r Q R e q=>⟨O,B,env,r,R,e,q⟩⟩
 rintro pins s σ H Q I ⟨O,B,env,r,R,e,q⟩
 rw [eval_ListComp]
 exact PD h C pi ki hb uQ I R e (use:=none) λC0 p H' s' ⟨m,hn⟩ _ hI sm rr=>⟨m,hn,λh' sb=>⟨.ref p,H',hI h' sb,rfl,q _ H' sm rr⟩⟩
theorem OY{i:Nat}{x:Str}{pos' ze:Pos}(b:Bool)(h:Fx X N sc k full)(C:cQ N sc N' caps nt cF)(hi:IV X tg iter fi)
  (hb:∀X':Cx,X'.prog=X.prog->X'.w=X.w->X'.K=X.K->X'.mg=X.mg->X'.base=X.base->Fx X' N' (rl cF sc) k false->GV X' tg g/\CK X' ifs fc/\EV X' elt fe)
  (hN:N[i]?=some x:=by rfl)(hv:Loc sc x:=by first | exact cq rfl | exact bP rfl)(hf:full=true\/sc.names.lookup x=some .local:=by first | exact cq rfl | exact bP rfl)(h1:(sc.names.lookup x==some .local)=true:=by rfl)(h2:(pos'.line==pos.line)=true:=by rfl)(h3:(cF.names.any λ(n,k)=>n==x&&(k==.local||k==.cell))=false:=by rfl)
  (uQ:∀x,foldedSetIterable iter X.env x=pure x:=by intro _;rfl):SV X (.Assign [.Name x pos'] (.ListComp elt [⟨tg,iter,ifs,0⟩] cF pos) ze) (bif b then e8 i (ny fi caps nt g fc fe) else de i (ny fi caps nt g fc fe)):=by
 obtain ⟨wi,pi,ki⟩:=hi
 refine ⟨λD σ H=>∃O B env fl ah,Rel X.K O B σ H env/\(bif b then e8 i (ny fi caps nt g fc fe) else de i (ny fi caps nt g fc fe)) env=some (fl,ah)/\dH X.K O B σ H env D fl ah,?_,λO B σ H env fl ah D R e q=>⟨O,B,env,fl,ah,R,e,q⟩⟩
 rintro pins s σ H D I ⟨O,B,env,fl,ah,R,e,q⟩
 obtain ⟨r,e1,hl,Dh,t,rfl,ht⟩:∃r,ny fi caps nt g fc fe env=some r/\i<env.length/\fl=.nx/\∃t,ah=env.set i t/\(t=r\/t=.sh r.d):=by
  cases b with
  | true =>
   dsimp only [cond] at e
   obtain ⟨r,e1,e2⟩:=bind_some e
   obtain ⟨hl,e3⟩:=k7 e2
   cases e3
   exact ⟨r,e1,hl,rfl,_,rfl,.inl rfl⟩
  | false =>
   dsimp only [cond] at e
   obtain ⟨r,e1,e2⟩:=bind_some e
   obtain ⟨hl,e3⟩:=k7 e2
   cases e3
   exact ⟨r,e1,hl,rfl,_,rfl,.inr rfl⟩
 subst Dh
 have hs:swapsWith (.ListComp elt [⟨tg,iter,ifs,0⟩] cF pos) (some (.Name x pos')) ze.line X.env=pure true:=by
  have hk:X.env.blockKind=.function:=by unfold Env.blockKind;rw [I.ok.kind];rfl
  have Df:X.env.kindOf x=sc.names.lookup x:=by unfold Env.kindOf;rw [h.sc]
  unfold swapsWith
  dsimp only
  rw [hk,Df,h1,show (pos'.line==(Expr.ListComp elt [⟨tg,iter,ifs,0⟩] cF pos).pos.line)=true from h2,h3]
  rfl
 rw [exec_Assign_Name_used _ _ _ _ hs]
 refine aM (HV (aM ?_))
 show wpAny _ _ (comprehension _ cF X.env _ (newList []) _ _ (some (assign (.Name x pos') X.env)) >>= λ_=>pure ()) _ _ _
 refine aM (PD h C pi ki hb uQ I R e1 (use:=some (assign (.Name x pos') X.env)) λC0 p H' s' ⟨m,hn⟩ tG hI sm rr=>?_)
 have I':Inv X pins σ H' s':=hI s'.heap (MH _ _)
 refine wpAny_assign_Name (PX (v:=.ref p) I' h.xA (h.ix hN) (h.loc hv) rfl (λs2 I2 ⟨a,sb,ha⟩=>?_) (h.xu hf))
 have S9:C0≠a:=λz=>by
  rcases ha with ha | ha
  .exact tG.2.1 (z.trans ha)
  .exact tG.2.2.2.2.1 x a ha z.symm
 obtain ⟨o,es,ep,ho,rest⟩:=hn
 refine ⟨m,⟨o,es,ep,(sb.2 C0 S9).trans ho,rest⟩,λh' Q7=>?_⟩
 refine bE (bE ?_)
 have I3:Inv X pins (σ.set i (some (.ref p))) H' { s2 with heap:=h' }:=I2.turned (t':=s2.toks) (it:=C0) (λb o hb e=>(Q7.2 b hb).trans e) tG.1 tG.2.1 tG.2.2.2.1 tG.2.2.2.2.1 tG.2.2.2.2.2
 have hr:Res X.K (OO O σ env) H H' (.ref p) t:=by
  rcases ht with rfl | rfl
  .exact rr
  .exact rr.is λq=>R.oo
 obtain ⟨R',g'⟩:=R.set sm hr hl
 exact ⟨_,H',I3,q _ H' R' g'⟩
end
end DL
namespace DL
open PySem PySem.Spec PyProof.Rows L2
section
variable {X:Cx}{pins:List (Addr×Obj)}{σ:L2.St}{H:Hp}{s:Shared}
theorem Xu(I:Inv X pins σ H s)(hA:A'.handled=none)(hq:Sq X.K H k p xs)
  (h:∀(av:List Value) (h2:Heap) (St:Nat->Heap->Prop),aB xs av->Walks X.prog X.w A' s.heap.objs.size [s.heap.objs.size,p] [s.heap.objs.size] av.length (λi v=>av[i]?=some v) St->St 0 h2 ->
   (∀b o,s.heap.get? b=some o->h2.get? b=some o)->(∀b∈[s.heap.objs.size,p],b<h2.objs.size)->Q (.ref s.heap.objs.size) { s with heap:=h2 }):wpAny (model X.prog X.w) A' (pyIter (.ref p)) Q E s:=by
 cases k with
 | true =>
  obtain ⟨av,rv,pl,hz⟩:=I.list (show dU X.K H p xs from hq)
  have cn:p<s.heap.objs.size:=by obtain ⟨o,n,e,_⟩:=pl;exact cE e
  refine Ii pl.isList ?_
  have W:=Walks.list (prog:=X.prog) (w:=X.w) hA s.heap.objs.size p (dr cn) av.toArray
  refine h av _ (λi h=>h.IsListIter s.heap.objs.size p i/\h.IsList p av.toArray) rv (by simpa using W) ⟨⟨_,jY _ rfl,rfl,rfl⟩,pl.isList.push _⟩ (λb o e=>c8 _ e) λb hb=>?_
  rw [nF]
  rcases cf.mp hb with rfl | hb
  .exact nZ _
  .rw [nX.mp hb];exact qG cn
 | false =>
  obtain ⟨av,rv,pl,hz⟩:=I.tuple (show gc X.K H p xs from hq)
  have bT:s.heap.IsTuple p av.toArray:=pl
  have cn:p<s.heap.objs.size:=by obtain ⟨o,e,_⟩:=pl;exact cE e
  refine wpAny_pyIter_tuple bT ?_
  have W:=Walks.tuple (prog:=X.prog) (w:=X.w) hA s.heap.objs.size p (dr cn) av.toArray
  refine h av _ (λi h=>h.IsTupleIter s.heap.objs.size p i/\h.IsTuple p av.toArray) rv (by simpa using W) ⟨⟨_,jY _ rfl,rfl,rfl⟩,?_⟩ (λb o e=>c8 _ e) λb hb=>?_
  .obtain ⟨o,e,r⟩:=bT
   exact ⟨o,c8 _ e,r⟩
  .rw [nF]
   rcases cf.mp hb with rfl | hb
   .exact nZ _
   .rw [nX.mp hb];exact qG cn
theorem YF(I:Inv X pins σ H s){h2 h':Heap}{tk:Nat}(k1:∀b o,s.heap.get? b=some o->h2.get? b=some o)(k2:∀b o,b∉[s.heap.objs.size]->h2.get? b=some o->h'.get? b=some o):Inv X pins σ H { s with heap:=h',toks:=tk }:=
 I.kept λb o e=>k2 b o (λz=>absurd (cE e) (by rw [nX.mp z];exact sH _)) (k1 b o e)
end
noncomputable def n8:List D->Option (List Int)
 | []=>some []
 | .int i::ds=>(n8 ds).map (i::·)
 | _::_=>none
noncomputable def jV:List D->Option (List Bool)
 | []=>some []
 | .bl i::ds=>(jV ds).map (i::·)
 | _::_=>none
theorem Ko:∀(ns:List Int),n8 (ns.map D.int)=some ns
 | []=>rfl
 | n::r=>by rw [dE,n8,Ko r];rfl
theorem OS:∀(ns:List Bool),jV (ns.map D.bl)=some ns
 | []=>rfl
 | n::r=>by rw [dE,jV,OS r];rfl
theorem KW:∀{ds:List D} {ns:List Int},n8 ds=some ns->ds=ns.map D.int
 | [],ns,e=>by cases e;rfl
 | .int i::ds,ns,e=>by
  obtain ⟨r,e1,rfl⟩:=map_some (show (n8 ds).map (i::·)=some ns from e)
  rw [KW e1];rfl
 | .bo::_,_,e=>by cases e
 | .bl _::_,_,e=>by cases e
 | .str _::_,_,e=>by cases e
 | .tup _::_,_,e=>by cases e
 | .lst _ _::_,_,e=>by cases e
theorem Kp{K:aI}{O:Addr->Prop}{H:Hp}:∀{xs:List V} {ns:List Int},aR K O H xs (ns.map D.int)->xs=ns.map V.int
 | _,[],.nil=>rfl
 | _,n::r,.cons h t=>by rw [oa h,Kp t];rfl
theorem W9{ns:List Int}(r:aB (ns.map V.int) av){i:Nat}(h:av[i]?=some v):∃t,v=.int (ns.getD i 0) t:=by
 have hl:=r.length
 have hi:=(qK.mp h).1
 have pM:i<ns.length:=by rw [dF] at hl;ext hl hi
 obtain ⟨u,hu,ru⟩:=r.get (show (ns.map V.int)[i]?=some (.int ns[i]) by simp [pM])
 rw [h] at hu
 cases hu
 obtain ⟨t,e⟩:=ru
 exact ⟨t,by rw [e];simp [pM]⟩
section
variable {X:Cx}{a:Expr}{p pos:Pos}{ba:En->Option (Bool×List D)}
theorem preSum_eq(ns:List Int):∀j,j<=ns.length->preSum (λi=>ns.getD i 0) j=(ns.take j).sum
 | 0,_=>rfl
 | j+1,h=>by
  have hj:j<ns.length:=h
  rw [preSum,preSum_eq ns j (u5 hj),<-List.take_append_getElem hj,List.sum_append]
  simp [hj]
theorem X6(ns:List Bool):(o7 ns.length).all (λi=>ns.getD i false)=ns.all id:=by
 rw [Bool.eq_iff_iff,Iz,Iz]
 constructor
 .intro h x hx
  obtain ⟨i,hi,rfl⟩:=qm.mp hx
  have:=h i (DB.mpr hi)
  simpa [hi] using this
 .intro h i hi
  have hi:=DB.mp hi
  have:=h ns[i] (tZ hi)
  simpa [hi] using this
theorem Xg(hc:X.calm=true):cm X (.builtin "sum") (λxs H Q=>∃p k ns,xs=[.ref p]/\Sq X.K H k p (List.map V.int ns)/\Q (.int ns.sum) H):=by
 intro pins s σ H xs us Q I r h
 obtain ⟨p,k,ns,rfl,hq,q⟩:=h
 obtain ⟨u,rfl,ru⟩:=r.one
 cases ru
 refine call_sum_walkAnyS (Xu (A':=X.A.in1) I (I.ok.hd hc) hq λav h2 St rv W F2 k1 tG=>?_)
 refine ⟨_,_,_,_,_,_,_,λi=>ns.getD i 0,rfl,W.toS,F2,tG,λi v hv=>W9 rv hv,λs' t' M=>?_⟩
 have hl:av.length=ns.length:=by rw [<-rv.length];simp
 have e:preSum (λi=>ns.getD i 0) av.length=ns.sum:=by rw [hl,preSum_eq ns _ (bX _)];simp
 rw [e]
 obtain ⟨h',g',d',t2,o'⟩:=s'
 obtain ⟨m1,m2,m3,m4,m5⟩:=M
 have m2:g'=s.gens:=m2
 have m3:d'=s.drawn:=m3
 have m4:o'=s.os:=m4
 subst m2 m3 m4
 exact ⟨.int ns.sum,H,YF I k1 m1,⟨t',rfl⟩,q⟩
noncomputable def z5:List Int->Int
 | []=>0
 | n::r=>r.foldl (λa b=>if b<a then b else a) n
noncomputable def z7:List Int->Int
 | []=>0
 | n::r=>r.foldl (λa b=>if b>a then b else a) n
noncomputable def tR(f:En->Option (Bool×List D)):En->Option Sl:=λenv=>(f env).bind λx=>(n8 x.2).map λns=>.sh (.int ns.sum)
noncomputable def A6(f:En->Option (Bool×List D)):En->Option Sl:=λenv=>(f env).bind λx=>(jV x.2).map λns=>.sh (.bl (ns.all id))
noncomputable def A5(f:En->Option (Bool×List D)):En->Option Sl:=λenv=>(f env).bind λx=>(jV x.2).map λns=>.sh (.bl (ns.any id))
noncomputable def A3(f:En->Option (Bool×List D)):En->Option Sl:=λenv=>(f env).bind λx=>(n8 x.2).bind λns=>if ns≠[] then some (.sh (.int (z5 ns))) else none
noncomputable def A4(f:En->Option (Bool×List D)):En->Option Sl:=λenv=>(f env).bind λx=>(n8 x.2).bind λns=>if ns≠[] then some (.sh (.int (z7 ns))) else none
theorem Uo(hg:Gl X "sum")(hm:X.mg "sum" = none)(hc:X.calm=true)(ha:BV X a ba)(hs:starEach [a] X.env=[(false,eval a X.env)]:=by rfl):EV X (.Call (.Name "sum" p) [a] [] pos) (tR ba):=by
 obtain ⟨t,pt,k⟩:=ha
 refine ⟨_,xk (Xg hc) hg hm (by decide +kernel) (oh pt pf hs) (by decide) (by decide) hs rfl,λO B σ H env s Q R e q=>?_⟩
 obtain ⟨⟨kk,ds⟩,e1,e2⟩:=bind_some e
 obtain ⟨ns,e3,rfl⟩:=map_some e2
 have ME:=KW e3
 dsimp only at ME
 subst ME
 refine k O B σ H env kk _ _ R e1 λl xs H1 s1 hq hx=>⟨l,kk,ns,rfl,?_,q _ H1 s1 (Is.int _)⟩
 rw [<-Kp hx];exact hq
end
end DL
namespace DL
open PySem PySem.Spec PyProof.Rows L2
noncomputable def eN:List (Option Bool)->Option (List Bool)
 | []=>some []
 | some b::r=>(eN r).map (b::·)
 | none::_=>none
noncomputable def bp:Nat->D->D->Option Bool
 | _,.int i,.int j=>some (decide (i=j))
 | _,.bl i,.bl j=>some (decide (i=j))
 | _,.str i,.str j=>some (decide (i=j))
 | _,.bo,.bo=>some true
 | _,.bl i,.int j=>some (decide ((if i then 1 else 0)=j))
 | _,.int i,.bl j=>some (decide (i=(if j then 1 else 0)))
 | n+1,.tup a,.tup b=>(eN (qI (bp n) a b)).map λbs=>bs.all id&&decide (a.length=b.length)
 | n+1,.lst _ a,.lst _ b=>if a.length=b.length then (eN (qI (bp n) a b)).map λbs=>bs.all id else some false
 | 0,.tup _,.tup _=>none
 | 0,.lst _ _,.lst _ _=>none
 | _,.exc _,_=>none
 | _,_,.exc _=>none
 | _,.iH _ _,_=>none
 | _,.obj _ _ _,_=>none
 | _,.cH _ _,_=>none
 | _,_,.iH _ _=>none
 | _,_,.obj _ _ _=>none
 | _,_,.cH _ _=>none
 | _,_,_=>some false
theorem B9:∀{os:List (Option Bool)} {bs:List Bool},eN os=some bs->os.length=bs.length/\∀(i:Nat) (b:Bool),bs[i]?=some b->os[i]?=some (some b)
 | [],bs,e=>by cases e;exact ⟨rfl,λi b h=>by simp at h⟩
 | some b::r,bs,e=>by
  obtain ⟨Ue,e1,rfl⟩:=map_some (show (eN r).map (b::·)=some bs from e)
  obtain ⟨l,ih⟩:=B9 e1
  refine ⟨by simp [l],λi c h=>?_⟩
  cases i with
  | zero=>simpa using h
  | succ i=>simpa using ih i c (by simpa using h)
 | none::_,bs,e=>by cases e
theorem all_range{bs:List Bool}{n:Nat}(h:bs.length=n):(o7 n).all (λi=>bs.getD i false)=bs.all id:=by rw [<-h];exact X6 bs
section
variable {X:Cx}{pins:List (Addr×Obj)}{σ:L2.St}{H:Hp}{s:Shared}{O O':Addr->Prop}
noncomputable def CJ(K:aI)(O:Addr->Prop)(H:Hp)(v:V):D->Prop
 | .bo=>v=.bo
 | .bl b=>v=.bl b
 | .int i=>v=.int i
 | .str x=>v=.str x
 | .tup ds=>∃p xs,v=.ref p/\gc K H p xs/\aR K O H xs ds
 | .lst _ ds=>∃p xs,v=.ref p/\dU K H p xs/\aR K O H xs ds
 | .exc _=>True
 | .iH _ _=>True
 | .obj _ _ _=>True
 | .cH _ _=>True
theorem Is.qz{K:aI}{v:V}{d:D}(h:Is K O H v d):CJ K O H v d:=by
 cases d with
 | bo=>exact N8 h
 | bl b=>exact sJ h
 | int i=>exact oa h
 | str x=>exact yp h
 | tup ds=>exact Ez h
 | lst r ds =>
  obtain ⟨p,xs,e,h1,h2⟩:=h.seq (k:=true) (ds:=ds) rfl
  exact ⟨p,xs,e,h1,h2⟩
 | exc n=>trivial
 | iH n m=>trivial
 | obj n1 m1 o1=>trivial
 | cH n1 m1=>trivial
theorem EX(I:Inv X pins σ H s)(h:gc X.K H p xs)(h':dU X.K H p ys):False:=by
 obtain ⟨_,_,⟨o,e1,c1,_⟩,_⟩:=I.tuple h
 obtain ⟨_,_,⟨o',_,e2,c2,_⟩,_⟩:=I.list h'
 rw [e1] at e2
 cases e2
 rw [c1] at c2
 injection c2 with c3
 exact absurd c3 (by decide)
theorem zip_get{n:Nat}{i:Nat}{o:Option Bool}(h:(qI (bp n) a b)[i]?=some o):∃x y,a[i]?=some x/\b[i]?=some y/\bp n x y=o:=by
 rw [M4] at h
 cases ha:a[i]? with
 | none=>rw [ha] at h;simp at h
 | some x =>
  cases hb:b[i]? with
  | none=>rw [ha,hb] at h;simp at h
  | some y=>rw [ha,hb] at h;exact ⟨x,y,rfl,rfl,by simpa using h⟩
theorem Pb(I:Inv X pins σ H s):∀(n:Nat) {v:V} {d d':D} {b:Bool},Is X.K O H v d->Is X.K O' H v d'->bp n d d'=some b->b=true:=by
 intro n
 induction n with
 | zero =>
  intro v d d' b h h' e
  have h:=h.qz
  have h':=h'.qz
  cases d<;>cases d'<;>simp only [CJ] at h h'<;>simp only [bp,dA,reduceCtorEq] at e<;>first
   | (subst h;cases h';exact e.symm)
   | (subst h;cases h';rw [<-e];simp;done)
   | (subst h;cases h';done)
   | (subst h;obtain ⟨_,_,h',_⟩:=h';cases h';done)
   | (subst h';obtain ⟨_,_,h,_⟩:=h;cases h;done)
   | (obtain ⟨_,_,rfl,h,_⟩:=h;obtain ⟨_,_,hr,h',_⟩:=h';cases hr;first | exact (EX I h h').elim | exact (EX I h' h).elim)
 | succ n ih =>
  intro v d d' b h h' e
  have key:∀{xs:List V} {ds ds':List D} {bs:List Bool},aR X.K O H xs ds->aR X.K O' H xs ds'->eN (qI (bp n) ds ds')=some bs->bs.all id=true:=λ{xs ds ds' bs} a1 a2 ea=>by
   obtain ⟨_,g⟩:=B9 ea
   rw [Iz]
   intro c hc
   obtain ⟨i,hi,rfl⟩:=qm.mp hc
   obtain ⟨x,y,ex,ey,Tt⟩:=zip_get (g i _ (mB hi))
   obtain ⟨z,ez,iz⟩:=a1.get ex
   obtain ⟨z',MA,Si⟩:=a2.get ey
   rw [ez] at MA
   cases MA
   exact ih iz Si Tt
  have h:=h.qz
  have h':=h'.qz
  cases d<;>cases d'<;>simp only [CJ] at h h'<;>simp only [bp,dA,reduceCtorEq] at e<;>first
   | (subst h;cases h';exact e.symm)
   | (subst h;cases h';rw [<-e];simp;done)
   | (subst h;cases h';done)
   | (subst h;obtain ⟨_,_,h',_⟩:=h';cases h';done)
   | (subst h';obtain ⟨_,_,h,_⟩:=h;cases h;done)
   | (obtain ⟨_,_,rfl,h,_⟩:=h;obtain ⟨_,_,hr,h',_⟩:=h';cases hr;first | exact (EX I h h').elim | exact (EX I h' h).elim)
   | skip
  .obtain ⟨_,xs,rfl,h,a1⟩:=h
   obtain ⟨_,ys,hr,h',a2⟩:=h'
   cases hr
   cases I.mw h h'
   obtain ⟨bs,e1,rfl⟩:=map_some e
   rw [key a1 a2 e1,<-a1.length,<-a2.length]
   simp
  .obtain ⟨_,xs,rfl,h,a1⟩:=h
   obtain ⟨_,ys,hr,h',a2⟩:=h'
   cases hr
   cases I.nL h h'
   rw [if_pos (by rw [<-a1.length,<-a2.length])] at e
   obtain ⟨bs,e1,rfl⟩:=map_some e
   exact key a1 a2 e1
theorem OW{xs:List V}{av:List Value}{O:Addr->Prop}{K:aI}{ds:List D}(r:aB xs av)(a:aR K O H xs ds){j:Nat}(h:j<av.toArray.size):∃d v,ds[j]?=some d/\Is K O H v d/\RelV v av.toArray[j]:=by
 have hj:j<av.length:=by simpa using h
 have hl:=r.length
 obtain ⟨d,hd,hv⟩:=a.wc (i:=j) (x:=xs[j]'(by ext hj hl)) (mB (by ext hj hl))
 obtain ⟨u,hu,ru⟩:=r.get (i:=j) (x:=xs[j]'(by ext hj hl)) (mB (by ext hj hl))
 rw [mB hj] at hu
 refine ⟨d,_,hd,hv,?_⟩
 rw [List.getElem_toArray,dh hu]
 exact ru
open PySem.SeqAt in
theorem N6(I:Inv X pins σ H s)(hu:A.units<cLine)(h:CJ X.K O H v d)(h':CJ X.K O' H v' d')(r:RelV v u)(r':RelV v' u')(e:bp n d d'=some b)
  (hn:(∀a c,d=.tup a->d'=.tup c->False)/\∀a c r r',d=.lst r a->d'=.lst r' c->False):EqAt A s u u' b/\RcAt A s u u' b/\RcNeAt A s u u' (!b):=by
 cases d with
 | bo =>
  cases d' with
  | bo =>
   subst h;obtain rfl:u=ma:=r
   subst h';obtain rfl:u'=ma:=r'
   simp only [bp,dA] at e
   subst e
   exact ⟨EqAt.same _,RcAt.none_none,RcNeAt.none_none⟩
  | bl k' =>
   subst h;obtain rfl:u=ma:=r
   subst h';obtain rfl:u'=nW k':=r'
   simp only [bp,dA] at e
   subst e
   exact ⟨EqAt.none_bool k',RcAt.none_bool k',RcNeAt.none_bool k'⟩
  | int k' =>
   subst h;obtain rfl:u=ma:=r
   subst h';obtain ⟨t',rfl⟩:=r'
   simp only [bp,dA] at e
   subst e
   exact ⟨EqAt.none_int k' t',RcAt.none_int k' t',RcNeAt.none_int k' t'⟩
  | str k' =>
   subst h;obtain rfl:u=ma:=r
   subst h';obtain ⟨t',rfl⟩:=r'
   simp only [bp,dA] at e
   subst e
   exact ⟨EqAt.none_str k' t',RcAt.none_str k' t',RcNeAt.none_str k' t'⟩
  | tup ds' =>
   subst h;obtain rfl:u=ma:=r
   obtain ⟨p',mF,rfl,c6,_⟩:=h';obtain ⟨its',_,bT,_⟩:=I.tuple c6;obtain rfl:u'=cI p':=r';replace bT:s.heap.IsTuple p' its'.toArray:=bT
   simp only [bp,dA] at e
   subst e
   exact ⟨EqAt.none_tuple bT hu,RcAt.none_tuple bT hu,RcNeAt.none_tuple bT hu⟩
  | lst q8 ds' =>
   subst h;obtain rfl:u=ma:=r
   obtain ⟨p',mF,rfl,c6,_⟩:=h';obtain ⟨its',_,bT,_⟩:=I.list c6;obtain rfl:u'=cI p':=r';replace bT:=bT.isList
   simp only [bp,dA] at e
   subst e
   exact ⟨EqAt.none_list bT hu,RcAt.none_list bT hu,RcNeAt.none_list bT hu⟩
  | exc n'=>simp [bp] at e
  | iH n' m'=>simp [bp] at e
  | obj n1 m1 o1=>simp [bp] at e
  | cH n1 m1=>simp [bp] at e
 | bl k =>
  cases d' with
  | bo =>
   subst h;obtain rfl:u=nW k:=r
   subst h';obtain rfl:u'=ma:=r'
   simp only [bp,dA] at e
   subst e
   exact ⟨EqAt.bool_none k,RcAt.bool_none k,RcNeAt.bool_none k⟩
  | bl k' =>
   subst h;obtain rfl:u=nW k:=r
   subst h';obtain rfl:u'=nW k':=r'
   simp only [bp,dA] at e
   subst e
   exact ⟨EqAt.bool_bool k k',RcAt.bool_bool k k',RcNeAt.bool_bool k k'⟩
  | int k' =>
   subst h;obtain rfl:u=nW k:=r
   subst h';obtain ⟨t',rfl⟩:=r'
   simp only [bp,dA] at e
   subst e
   exact ⟨EqAt.bool_int k k' t',RcAt.bool_int k k' t',RcNeAt.bool_int k k' t'⟩
  | str k' =>
   subst h;obtain rfl:u=nW k:=r
   subst h';obtain ⟨t',rfl⟩:=r'
   simp only [bp,dA] at e
   subst e
   exact ⟨EqAt.bool_str k k' t',RcAt.bool_str k k' t',RcNeAt.bool_str k k' t'⟩
  | tup ds' =>
   subst h;obtain rfl:u=nW k:=r
   obtain ⟨p',mF,rfl,c6,_⟩:=h';obtain ⟨its',_,bT,_⟩:=I.tuple c6;obtain rfl:u'=cI p':=r';replace bT:s.heap.IsTuple p' its'.toArray:=bT
   simp only [bp,dA] at e
   subst e
   exact ⟨EqAt.bool_tuple k bT hu,RcAt.bool_tuple k bT hu,RcNeAt.bool_tuple k bT hu⟩
  | lst q8 ds' =>
   subst h;obtain rfl:u=nW k:=r
   obtain ⟨p',mF,rfl,c6,_⟩:=h';obtain ⟨its',_,bT,_⟩:=I.list c6;obtain rfl:u'=cI p':=r';replace bT:=bT.isList
   simp only [bp,dA] at e
   subst e
   exact ⟨EqAt.bool_list k bT hu,RcAt.bool_list k bT hu,RcNeAt.bool_list k bT hu⟩
  | exc n'=>simp [bp] at e
  | iH n' m'=>simp [bp] at e
  | obj n1 m1 o1=>simp [bp] at e
  | cH n1 m1=>simp [bp] at e
 | int k =>
  cases d' with
  | bo =>
   subst h;obtain ⟨t,rfl⟩:=r
   subst h';obtain rfl:u'=ma:=r'
   simp only [bp,dA] at e
   subst e
   exact ⟨EqAt.int_none k t,RcAt.int_none k t,RcNeAt.int_none k t⟩
  | bl k' =>
   subst h;obtain ⟨t,rfl⟩:=r
   subst h';obtain rfl:u'=nW k':=r'
   simp only [bp,dA] at e
   subst e
   exact ⟨EqAt.int_bool k t k',RcAt.int_bool k t k',RcNeAt.int_bool k t k'⟩
  | int k' =>
   subst h;obtain ⟨t,rfl⟩:=r
   subst h';obtain ⟨t',rfl⟩:=r'
   simp only [bp,dA] at e
   subst e
   exact ⟨EqAt.int_int k t k' t',RcAt.int_int k t k' t',RcNeAt.int_int k t k' t'⟩
  | str k' =>
   subst h;obtain ⟨t,rfl⟩:=r
   subst h';obtain ⟨t',rfl⟩:=r'
   simp only [bp,dA] at e
   subst e
   exact ⟨EqAt.int_str k t k' t',RcAt.int_str k t k' t',RcNeAt.int_str k t k' t'⟩
  | tup ds' =>
   subst h;obtain ⟨t,rfl⟩:=r
   obtain ⟨p',mF,rfl,c6,_⟩:=h';obtain ⟨its',_,bT,_⟩:=I.tuple c6;obtain rfl:u'=cI p':=r';replace bT:s.heap.IsTuple p' its'.toArray:=bT
   simp only [bp,dA] at e
   subst e
   exact ⟨EqAt.int_tuple k t bT hu,RcAt.int_tuple k t bT hu,RcNeAt.int_tuple k t bT hu⟩
  | lst q8 ds' =>
   subst h;obtain ⟨t,rfl⟩:=r
   obtain ⟨p',mF,rfl,c6,_⟩:=h';obtain ⟨its',_,bT,_⟩:=I.list c6;obtain rfl:u'=cI p':=r';replace bT:=bT.isList
   simp only [bp,dA] at e
   subst e
   exact ⟨EqAt.int_list k t bT hu,RcAt.int_list k t bT hu,RcNeAt.int_list k t bT hu⟩
  | exc n'=>simp [bp] at e
  | iH n' m'=>simp [bp] at e
  | obj n1 m1 o1=>simp [bp] at e
  | cH n1 m1=>simp [bp] at e
 | str k =>
  cases d' with
  | bo =>
   subst h;obtain ⟨t,rfl⟩:=r
   subst h';obtain rfl:u'=ma:=r'
   simp only [bp,dA] at e
   subst e
   exact ⟨EqAt.str_none k t,RcAt.str_none k t,RcNeAt.str_none k t⟩
  | bl k' =>
   subst h;obtain ⟨t,rfl⟩:=r
   subst h';obtain rfl:u'=nW k':=r'
   simp only [bp,dA] at e
   subst e
   exact ⟨EqAt.str_bool k t k',RcAt.str_bool k t k',RcNeAt.str_bool k t k'⟩
  | int k' =>
   subst h;obtain ⟨t,rfl⟩:=r
   subst h';obtain ⟨t',rfl⟩:=r'
   simp only [bp,dA] at e
   subst e
   exact ⟨EqAt.str_int k t k' t',RcAt.str_int k t k' t',RcNeAt.str_int k t k' t'⟩
  | str k' =>
   subst h;obtain ⟨t,rfl⟩:=r
   subst h';obtain ⟨t',rfl⟩:=r'
   simp only [bp,dA] at e
   subst e
   exact ⟨EqAt.str_str k t k' t',RcAt.str_str k t k' t',RcNeAt.str_str k t k' t'⟩
  | tup ds' =>
   subst h;obtain ⟨t,rfl⟩:=r
   obtain ⟨p',mF,rfl,c6,_⟩:=h';obtain ⟨its',_,bT,_⟩:=I.tuple c6;obtain rfl:u'=cI p':=r';replace bT:s.heap.IsTuple p' its'.toArray:=bT
   simp only [bp,dA] at e
   subst e
   exact ⟨EqAt.str_tuple k t bT hu,RcAt.str_tuple k t bT hu,RcNeAt.str_tuple k t bT hu⟩
  | lst q8 ds' =>
   subst h;obtain ⟨t,rfl⟩:=r
   obtain ⟨p',mF,rfl,c6,_⟩:=h';obtain ⟨its',_,bT,_⟩:=I.list c6;obtain rfl:u'=cI p':=r';replace bT:=bT.isList
   simp only [bp,dA] at e
   subst e
   exact ⟨EqAt.str_list k t bT hu,RcAt.str_list k t bT hu,RcNeAt.str_list k t bT hu⟩
  | exc n'=>simp [bp] at e
  | iH n' m'=>simp [bp] at e
  | obj n1 m1 o1=>simp [bp] at e
  | cH n1 m1=>simp [bp] at e
 | tup ds =>
  cases d' with
  | bo =>
   obtain ⟨p,xs,rfl,hq,_⟩:=h;obtain ⟨av,_,pl,_⟩:=I.tuple hq;obtain rfl:u=cI p:=r;replace pl:s.heap.IsTuple p av.toArray:=pl
   subst h';obtain rfl:u'=ma:=r'
   simp only [bp,dA] at e
   subst e
   exact ⟨EqAt.tuple_none pl hu,RcAt.tuple_none pl hu,RcNeAt.tuple_none pl hu⟩
  | bl k' =>
   obtain ⟨p,xs,rfl,hq,_⟩:=h;obtain ⟨av,_,pl,_⟩:=I.tuple hq;obtain rfl:u=cI p:=r;replace pl:s.heap.IsTuple p av.toArray:=pl
   subst h';obtain rfl:u'=nW k':=r'
   simp only [bp,dA] at e
   subst e
   exact ⟨EqAt.tuple_bool k' pl hu,RcAt.tuple_bool k' pl hu,RcNeAt.tuple_bool k' pl hu⟩
  | int k' =>
   obtain ⟨p,xs,rfl,hq,_⟩:=h;obtain ⟨av,_,pl,_⟩:=I.tuple hq;obtain rfl:u=cI p:=r;replace pl:s.heap.IsTuple p av.toArray:=pl
   subst h';obtain ⟨t',rfl⟩:=r'
   simp only [bp,dA] at e
   subst e
   exact ⟨EqAt.tuple_int k' t' pl hu,RcAt.tuple_int k' t' pl hu,RcNeAt.tuple_int k' t' pl hu⟩
  | str k' =>
   obtain ⟨p,xs,rfl,hq,_⟩:=h;obtain ⟨av,_,pl,_⟩:=I.tuple hq;obtain rfl:u=cI p:=r;replace pl:s.heap.IsTuple p av.toArray:=pl
   subst h';obtain ⟨t',rfl⟩:=r'
   simp only [bp,dA] at e
   subst e
   exact ⟨EqAt.tuple_str k' t' pl hu,RcAt.tuple_str k' t' pl hu,RcNeAt.tuple_str k' t' pl hu⟩
  | tup ds'=>exact (hn.1 _ _ rfl rfl).elim
  | lst q8 ds' =>
   obtain ⟨p,xs,rfl,hq,_⟩:=h;obtain ⟨av,_,pl,_⟩:=I.tuple hq;obtain rfl:u=cI p:=r;replace pl:s.heap.IsTuple p av.toArray:=pl
   obtain ⟨p',mF,rfl,c6,_⟩:=h';obtain ⟨its',_,bT,_⟩:=I.list c6;obtain rfl:u'=cI p':=r';replace bT:=bT.isList
   simp only [bp,dA] at e
   subst e
   exact ⟨EqAt.tuple_list pl bT hu,RcAt.tuple_list pl bT hu,RcNeAt.tuple_list pl bT hu⟩
  | exc n'=>simp [bp] at e
  | iH n' m'=>simp [bp] at e
  | obj n1 m1 o1=>simp [bp] at e
  | cH n1 m1=>simp [bp] at e
 | lst ro ds =>
  cases d' with
  | bo =>
   obtain ⟨p,xs,rfl,hq,_⟩:=h;obtain ⟨av,_,pl,_⟩:=I.list hq;obtain rfl:u=cI p:=r;replace pl:=pl.isList
   subst h';obtain rfl:u'=ma:=r'
   simp only [bp,dA] at e
   subst e
   exact ⟨EqAt.list_none pl hu,RcAt.list_none pl hu,RcNeAt.list_none pl hu⟩
  | bl k' =>
   obtain ⟨p,xs,rfl,hq,_⟩:=h;obtain ⟨av,_,pl,_⟩:=I.list hq;obtain rfl:u=cI p:=r;replace pl:=pl.isList
   subst h';obtain rfl:u'=nW k':=r'
   simp only [bp,dA] at e
   subst e
   exact ⟨EqAt.list_bool k' pl hu,RcAt.list_bool k' pl hu,RcNeAt.list_bool k' pl hu⟩
  | int k' =>
   obtain ⟨p,xs,rfl,hq,_⟩:=h;obtain ⟨av,_,pl,_⟩:=I.list hq;obtain rfl:u=cI p:=r;replace pl:=pl.isList
   subst h';obtain ⟨t',rfl⟩:=r'
   simp only [bp,dA] at e
   subst e
   exact ⟨EqAt.list_int k' t' pl hu,RcAt.list_int k' t' pl hu,RcNeAt.list_int k' t' pl hu⟩
  | str k' =>
   obtain ⟨p,xs,rfl,hq,_⟩:=h;obtain ⟨av,_,pl,_⟩:=I.list hq;obtain rfl:u=cI p:=r;replace pl:=pl.isList
   subst h';obtain ⟨t',rfl⟩:=r'
   simp only [bp,dA] at e
   subst e
   exact ⟨EqAt.list_str k' t' pl hu,RcAt.list_str k' t' pl hu,RcNeAt.list_str k' t' pl hu⟩
  | tup ds' =>
   obtain ⟨p,xs,rfl,hq,_⟩:=h;obtain ⟨av,_,pl,_⟩:=I.list hq;obtain rfl:u=cI p:=r;replace pl:=pl.isList
   obtain ⟨p',mF,rfl,c6,_⟩:=h';obtain ⟨its',_,bT,_⟩:=I.tuple c6;obtain rfl:u'=cI p':=r';replace bT:s.heap.IsTuple p' its'.toArray:=bT
   simp only [bp,dA] at e
   subst e
   exact ⟨EqAt.list_tuple pl bT hu,RcAt.list_tuple pl bT hu,RcNeAt.list_tuple pl bT hu⟩
  | lst q8 ds'=>exact (hn.2 _ _ _ _ rfl rfl).elim
  | exc n'=>simp [bp] at e
  | iH n' m'=>simp [bp] at e
  | obj n1 m1 o1=>simp [bp] at e
  | cH n1 m1=>simp [bp] at e
 | exc n=>cases d'<;>simp [bp] at e
 | iH n m=>cases d'<;>simp [bp] at e
 | obj n1 m1 o1=>cases d'<;>simp [bp] at e
 | cH n1 m1=>cases d'<;>simp [bp] at e
open PySem.SeqAt in
theorem JI(I:Inv X pins σ H s):∀(n:Nat) {A:Around} {u u':Value} {v v':V} {d d':D} {b:Bool},A.units+n<cLine->Is X.K O H v d->Is X.K O' H v' d'->RelV v u->RelV v' u'->bp n d d'=some b ->
  EqAt A s u u' b/\RcAt A s u u' b/\RcNeAt A s u u' (!b):=by
 intro n
 induction n with
 | zero =>
  intro A u u' v v' d d' b hu h h' r r' e
  refine N6 I ‹_› h.qz h'.qz r r' e ⟨?_,?_⟩
  .rintro a c rfl rfl;simp [bp] at e
  .rintro a c ro q8 rfl rfl;simp [bp] at e
 | succ n ih =>
  intro A u u' v v' d d' b hu h h' r r' e
  have elems:∀{xs ys:List V} {av cZ:List Value} {ds es:List D} {bs:List Bool},aB xs av->aB ys cZ->aR X.K O H xs ds->aR X.K O' H ys es->eN (qI (bp n) ds es)=some bs ->
    ∀j (h1:j<av.toArray.size) (h2:j<cZ.toArray.size),EqAt A.in1 s av.toArray[j] cZ.toArray[j] (bs.getD j false):=λ{xs ys av cZ ds es bs} rx ry ax ay ea j h1 h2=>by
   obtain ⟨d1,v1,e1,i1,r1⟩:=OW rx ax h1
   obtain ⟨d2,v2,e2,i2,r2⟩:=OW ry ay h2
   obtain ⟨hl,g⟩:=B9 ea
   have hz:(qI (bp n) ds es)[j]?=some (bp n d1 d2):=by rw [M4,e1,e2]
   have hj:j<bs.length:=by rw [<-hl];exact (qK.mp hz).1
   have:=g j bs[j] (mB hj)
   rw [hz] at this
   have e3:bs.getD j false=bs[j]:=by simp [hj]
   rw [e3]
   exact (ih (A:=A.in1) (by show A.units+1+n<_;ext hu) i1 i2 r1 r2 (dh this)).1
  by_cases ht:∃a c,d=.tup a/\d'=.tup c
  .obtain ⟨ds,es,rfl,rfl⟩:=ht
   simp only [bp] at e
   obtain ⟨bs,e1,rfl⟩:=map_some e
   obtain ⟨p,xs,rfl,hq,ax⟩:=h.qz
   obtain ⟨p',ys,rfl,c6,ay⟩:=h'.qz
   obtain ⟨av,rx,pl,_⟩:=I.tuple hq
   obtain ⟨cZ,ry,bT,_⟩:=I.tuple c6
   obtain rfl:u=cI p:=r
   obtain rfl:u'=cI p':=r'
   have pl:s.heap.IsTuple p av.toArray:=pl
   have bT:s.heap.IsTuple p' cZ.toArray:=bT
   have hlen:bs.length=min ds.length es.length:=by rw [<-(B9 e1).1,Nd]
   have l1:av.toArray.size=ds.length:=by rw [dG,<-rx.length,ax.length]
   have l2:cZ.toArray.size=es.length:=by rw [dG,<-ry.length,ay.length]
   have val:((o7 (min av.toArray.size cZ.toArray.size)).all (λj=>bs.getD j false)&&av.toArray.size==cZ.toArray.size)=(bs.all id&&decide (ds.length=es.length)):=by
    rw [l1,l2,all_range hlen]
    rfl
   have rc:=RcAt.tuples pl bT (by ext hu) (elems rx ry ax ay e1)
   have rn:=RcNeAt.tuples pl bT (by ext hu) (elems rx ry ax ay e1)
   rw [val] at rc rn
   refine ⟨?_,rc,rn⟩
   by_cases hp:p=p'
   .subst hp
    have:=Pb I (n+1) h h' (show bp (n+1) (.tup ds) (.tup es)=some (bs.all id&&decide (ds.length=es.length)) by simp only [bp];rw [e1];rfl)
    rw [this]
    exact EqAt.same _
   .exact .of_refs hp rc
  by_cases hl:∃a c ro q8,d=.lst ro a/\d'=.lst q8 c
  .obtain ⟨ds,es,ro,q8,rfl,rfl⟩:=hl
   have e0:=e
   simp only [bp] at e
   obtain ⟨p,xs,rfl,hq,ax⟩:=h.qz
   obtain ⟨p',ys,rfl,c6,ay⟩:=h'.qz
   obtain ⟨av,rx,pl,_⟩:=I.list hq
   obtain ⟨cZ,ry,bT,_⟩:=I.list c6
   obtain rfl:u=cI p:=r
   obtain rfl:u'=cI p':=r'
   have l1:av.toArray.size=ds.length:=by rw [dG,<-rx.length,ax.length]
   have l2:cZ.toArray.size=es.length:=by rw [dG,<-ry.length,ay.length]
   have fin:RcAt A s (.ref p) (.ref p') b->RcNeAt A s (.ref p) (.ref p') (!b)->EqAt A s (.ref p) (.ref p') b/\RcAt A s (.ref p) (.ref p') b/\RcNeAt A s (.ref p) (.ref p') (!b):=λrc rn=>by
    refine ⟨?_,rc,rn⟩
    by_cases hp:p=p'
    .subst hp
     rw [Pb I (n+1) h h' e0]
     exact EqAt.same _
    .exact .of_refs hp rc
   by_cases hlen:ds.length=es.length
   .rw [if_pos hlen] at e
    obtain ⟨bs,e1,rfl⟩:=map_some e
    have S4:bs.length=ds.length:=by rw [<-(B9 e1).1,Nd];ext hlen
    have rc:=RcAt.lists pl.isList bT.isList (by ext l1 l2 hlen) (by ext hu) (elems rx ry ax ay e1)
    have rn:=RcNeAt.lists pl.isList bT.isList (by ext l1 l2 hlen) (by ext hu) (elems rx ry ax ay e1)
    rw [l1,all_range S4] at rc rn
    exact fin rc rn
   .rw [if_neg hlen] at e
    cases e
    have fF:(av.toArray.size != cZ.toArray.size)=true:=by rw [l1,l2];simpa using hlen
    exact fin (RcAt.lists_lengths pl.isList bT.isList fF (by ext hu)) (RcNeAt.lists_lengths pl.isList bT.isList fF (by ext hu))
  refine N6 I (by ext hu) h.qz h'.qz r r' e ⟨λa c e1 e2=>ht ⟨a,c,e1,e2⟩,λa c ro q8 e1 e2=>hl ⟨a,c,ro,q8,e1,e2⟩⟩
noncomputable def bU:D->D->Option Sl:=λa b=>(bp 8 a b).map λk=>.sh (.bl k)
noncomputable def m6:D->D->Option Sl:=λa b=>(bp 8 a b).map λk=>.sh (.bl !k)
theorem j'(hu:X.A.units+8<cLine):k8 X (compareOp .Eq) bU:=by
 refine ⟨λx y H Q=>∃O O' a b k,Is X.K O H x a/\Is X.K O' H y b/\bp 8 a b=some k/\Q (.bl k) H,?_,λO H x y a b s Q hO hx hy e q=>?_⟩
 .intro pins s σ H x y v u Q I rx ry h
  obtain ⟨O,O',a,b,k,hx,hy,e,q⟩:=h
  exact (JI I 8 hu hx hy rx ry e).2.1 _ _ _ _ ⟨.bl k,H,I,rfl,q⟩
 .obtain ⟨k,e1,rfl⟩:=map_some e
  exact ⟨O,O,a,b,k,hx,hy,e1,q _ H (aC.refl _) (Is.bl _)⟩
theorem U2(hu:X.A.units+8<cLine):k8 X (compareOp .NotEq) m6:=by
 refine ⟨λx y H Q=>∃O O' a b k,Is X.K O H x a/\Is X.K O' H y b/\bp 8 a b=some k/\Q (.bl !k) H,?_,λO H x y a b s Q hO hx hy e q=>?_⟩
 .intro pins s σ H x y v u Q I rx ry h
  obtain ⟨O,O',a,b,k,hx,hy,e,q⟩:=h
  exact (JI I 8 hu hx hy rx ry e).2.2 _ _ _ _ ⟨.bl _,H,I,rfl,q⟩
 .obtain ⟨k,e1,rfl⟩:=map_some e
  exact ⟨O,O,a,b,k,hx,hy,e1,q _ H (aC.refl _) (Is.bl _)⟩
end
theorem Fx.u8{X:Cx}{N:List Str}{sc:Scope}{k:Nat}{full:Bool}(h:Fx X N sc k full):X.A.units+8<cLine:=by have:=h.room.un;ext this
theorem yN{X X':Cx}{x:Str}(e4:X'.mg=X.mg)(h:X.mg x=none):X'.mg x=none:=by rw [e4];exact h
end DL
namespace DL
open PySem PySem.Spec PyProof.Rows L2
theorem YY{P:Program}{w:World}{K:aI}{tg:Expr}(it:Addr)(lo:Int)(n:Nat):Turn P w K tg (qv lo n) [it] it (λi h=>IsLongIter h it (lo+(i:Nat)*1) ((n:Int)-(i:Nat)) 1) where
 mem:=by simp
 obj:=λi h st b hb=>by
  have e:b=it:=by simpa using hb
  subst e
  exact ⟨_,st,λv z=>by
   have z':Data.fields _=Data.cell v:=z
   cases z'⟩
 keep:=λi h h' st k=>k it (by simp) _ st
 item:=by
  intro X hP hw hK hc i pins s σ H E I hf st hg
  subst hP hw hK
  obtain ⟨f0,f1,f2,f3,f4,f5⟩:=hf it (by simp)
  have W:=Walks.longrange (prog:=X.prog) (w:=X.w) (I.ok.hd hc) it lo 1 n
  refine W.item i s _ _ hg st λv h' tk hv ao kk=>?_
  obtain ⟨t,rfl⟩:=hv
  have I1:Inv X pins σ H { s with heap:=h',toks:=tk }:=I.turned (λb o hb e=>kk b o (by simpa using hb) e) f0 f1 f3 f4 f5
  refine ⟨_,rfl,D9 (s:={ s with heap:=h',toks:=tk }) (n:="longrange_iterator") ao rfl rfl (by decide) ⟨.int (lo+i),H,I1,⟨t,?_⟩,⟨rfl,rfl⟩,ao,λb hb=>(hf b hb).1⟩⟩
  rw [HZ]
 done:=by
  intro X hP hw hK hc i pins s σ H E I hf st hg
  subst hP hw hK
  obtain ⟨f0,f1,f2,f3,f4,f5⟩:=hf it (by simp)
  exact wpAny_pyNext_long_end (I.ok.hd hc) st (by have:n<=i:=hg;ext this) λh' eb=>⟨rfl,I.turned (t':=s.toks) (λb o hb e=>eb b o hb e) f0 f1 f3 f4 f5⟩
 self:=λ_ _ _ _ _ st h=>wpAny_pyIter_longiter st h
section
variable {X:Cx}{tg:Expr}
theorem X7{pins:List (Addr×Obj)}{σ:L2.St}{H:Hp}{s:Shared}{R:It->Hp->Prop}{E:Value->Shared->Prop}{lo hi:Int}{t u v:Tok}{tk:Nat}(I:Inv X pins σ H s)
  (q:R (qv lo (hi-lo).toNat) H):wpAny (model X.prog X.w) X.A (pyIter (.ref s.heap.objs.size)) (LC X pins σ tg R) E { s with heap:=s.heap.push { cls:=.type "range",data:=.fields #[.int lo t,.int hi u,.int 1 v] },toks:=tk }:=by
 have I1:Inv X pins σ H { s with heap:=s.heap.push { cls:=.type "range",data:=.fields #[.int lo t,.int hi u,.int 1 v] },toks:=tk }:=I.kept λb o e=>c8 _ e
 have e1:lo+((0:Nat):Int)*1=lo:=by simp
 have e2:(((hi-lo).toNat:Nat):Int)-((0:Nat):Int)=MW lo hi 1:=by rw [rangeSize_one];split<;>lia
 have fin:∀b∈[(s.heap.push { cls:=.type "range",data:=.fields #[.int lo t,.int hi u,.int 1 v] }).objs.size],ko X pins H b:=λb hb=>by
  have e:b=(s.heap.push { cls:=.type "range",data:=.fields #[.int lo t,.int hi u,.int 1 v] }).objs.size:=by simpa using hb
  subst e
  exact I1.rG (bX _) (I1.bq.fresh (bX _))
 by_cases Mb:Builtin.Range.small lo hi 1=true
 .refine wpAny_pyIter_range (HY ..) Mb ?_
  refine ⟨_,[(s.heap.push { cls:=.type "range",data:=.fields #[.int lo t,.int hi u,.int 1 v] }).objs.size],_,_,H,rfl,I1.kept (t':=tk) λb o e=>c8 _ e,PR _ lo (hi-lo).toNat,?_,fin,q⟩
  show IsRangeIter _ _ (lo+((0:Nat):Int)*1) ((((hi-lo).toNat:Nat):Int)-((0:Nat):Int)) 1
  rw [e1,e2]
  exact jY _ rfl
 .refine wpAny_pyIter_longrange (HY ..) (by simpa using Mb) ?_
  refine ⟨_,[(s.heap.push { cls:=.type "range",data:=.fields #[.int lo t,.int hi u,.int 1 v] }).objs.size],_,_,H,rfl,I1.kept (t':=tk) λb o e=>c8 _ e,YY _ lo (hi-lo).toNat,?_,fin,q⟩
  show IsLongIter _ _ (lo+((0:Nat):Int)*1) ((((hi-lo).toNat:Nat):Int)-((0:Nat):Int)) 1
  rw [e1,e2]
  exact jY _ rfl
noncomputable def Us(ta:TA):TI:=λσ H R=>ta σ H λvs H1=>∃j:Int,vs=[.int j]/\R (qv 0 j.toNat) H1
theorem Yz(hg:Gl X "range")(hm:X.mg "range" = none)(ha:PA X [a] ta)(hs:starEach [a] X.env=[(false,eval a X.env)]:=by rfl):PI X tg (.Call (.Name "range" p) [a] [] pos) (Us ta):=by
 intro pins s σ H R I h
 refine Call_ (BQ I hg hm boot_range (Je (bw (ha pos pins s σ H _ I h) λus s1 ⟨vs,H1,I1,r1,q1⟩=>?_) hs rfl))
 obtain ⟨j,e,q⟩:=q1
 subst e
 cases r1 with
 | cons r rr =>
  cases rr
  obtain ⟨t,rfl⟩:=r
  exact call_range_1 (X7 I1 (by simpa using q))
noncomputable def Ek:List D->Option (List D)
 | [.int j]=>some (di 0 j.toNat)
 | _=>none
noncomputable def zw:List D->Option (List D)
 | [.int i,.int j]=>some (di i (j-i).toNat)
 | _=>none
theorem WM(G9:Gl X "range")(hm:X.mg "range" = none)(ha:AV X [a] fs)(h1:starEach [a] X.env=[(false,eval a X.env)]:=by rfl):IV X tg (.Call (.Name "range" p) [a] [] pos) (wt Ek fs):=by
 obtain ⟨ti,pi,ki⟩:=ha
 refine ⟨_,Yz G9 hm pi h1,λO B σ H env ds R Rl e q=>?_⟩
 obtain ⟨as,e1,e2⟩:=bind_some e
 refine ki O B σ H env as _ Rl e1 λvs H1 s1 r1=>?_
 unfold Ek at e2
 split at e2
 .cases e2
  exact ⟨_,Pe r1,q _ H1 s1 (Xr _ _)⟩
 .cases e2
end
end DL
namespace DL
open PySem PySem.Spec PyProof.Rows L2
def zk(b:Bool)(h:Heap)(it l:Addr)(k:Nat):Prop:=match b with
 | true=>h.IsListIter it l k
 | false=>h.IsTupleIter it l k
def xy(b:Bool)(h:Heap)(l:Addr)(items:Array Value):Prop:=match b with
 | true=>h.IsList l items
 | false=>h.IsTuple l items
theorem zk.keep(x:zk b h it l k)(e:∀o,h.get? it=some o->h'.get? it=some o):zk b h' it l k:=by
 cases b with
 | true=>obtain ⟨o,ho,r⟩:=x;exact ⟨o,e _ ho,r⟩
 | false=>obtain ⟨o,ho,r⟩:=x;exact ⟨o,e _ ho,r⟩
theorem xy.keep(x:xy b h l items)(e:∀o,h.get? l=some o->h'.get? l=some o):xy b h' l items:=by
 cases b with
 | true=>obtain ⟨o,ho,r⟩:=x;exact ⟨o,e _ ho,r⟩
 | false=>obtain ⟨o,ho,r⟩:=x;exact ⟨o,e _ ho,r⟩
theorem zk.lt(x:zk b h it l k):it<h.objs.size:=by
 cases b with
 | true=>obtain ⟨o,ho,r⟩:=x;exact cE ho
 | false=>obtain ⟨o,ho,r⟩:=x;exact cE ho
theorem xy.lt(x:xy b h l items):l<h.objs.size:=by
 cases b with
 | true=>obtain ⟨o,ho,r⟩:=x;exact cE ho
 | false=>obtain ⟨o,ho,r⟩:=x;exact cE ho
section
variable {prog:Program}{w:World}{A:Around}{E:Value->Shared->Prop}{s:Shared}
structure ZAp(z TI TO i1 i2 l1 l2:Addr):Prop where
 a1:TI≠z
 a2:TO≠z
 a3:i1≠z
 a4:i2≠z
 a6:TO≠i1
 a7:TO≠i2
 a8:i1≠i2
 b1:l1≠z
 b2:l1≠TO
 b3:l1≠i1
 b4:l1≠i2
 c1:l2≠z
 c2:l2≠TO
 c3:l2≠i1
 c4:l2≠i2
end
end DL
namespace DL
open PySem PySem.Spec PyProof.Rows L2
section
variable {X:Cx}{pins:List (Addr×Obj)}{σ:L2.St}{H:Hp}{s:Shared}
theorem zd(I:Inv X pins σ H s)(h:Sq X.K H b l xs):∃av:List Value,aB xs av/\xy b s.heap l av.toArray:=by
 cases b with
 | true=>obtain ⟨av,r,p,_⟩:=I.list h;exact ⟨av,r,p.isList⟩
 | false=>obtain ⟨av,r,p,_⟩:=I.tuple h;exact ⟨av,r,p⟩
end
section
variable {prog:Program}{w:World}{A:Around}{E:Value->Shared->Prop}{s:Shared}
end
section
variable {X:Cx}{elts:List Expr}{kk:Nat}{tp:Pos}
noncomputable def qR(a b:List D):List D:=qI (λd e=>D.tup [d,e]) a b
noncomputable def sR:List D->Option (List D)
 | [a,b]=>(e7 a).bind λp=>(e7 b).map λq=>qR p.2 q.2
 | _=>none
end
end DL
namespace SO
section pure
variable {α:Type}
def dS(κ:α->Int)(l:List α):Prop:=l.Pairwise λx y=>κ x<κ y
structure Inv(κ:α->Int)(la lb out:List α)(ia ib:Nat):Prop where
 perm:out.Perm (la.take ia++lb.take ib)
 p7:dS κ out
 lo:∀x∈out,(∀y∈la.drop ia,κ x<κ y)/\∀y∈lb.drop ib,κ x<κ y
variable {κ:α->Int}{la lb out:List α}{ia ib:Nat}
theorem Inv.sym(h:Inv κ la lb out ia ib):Inv κ lb la out ib ia:=⟨h.perm.trans Bv,h.p7,λx hx=>⟨(h.lo x hx).2,(h.lo x hx).1⟩⟩
theorem yy(h:dS κ l)(i:Nat):dS κ (l.drop i):=h.sublist (List.drop_sublist ..)
theorem J0(h:dS κ l)(i:Nat):dS κ (l.take i):=h.sublist (Ik ..)
theorem Ku(h:dS κ l)(i:Nat):∀x∈l.take i,∀y∈l.drop i,κ x<κ y:=by
 have:dS κ (l.take i++l.drop i):=by rw [qk];exact h
 exact (qH.mp this).2.2
theorem Inv.a(h:Inv κ la lb out ia ib)(sa:dS κ la)(k:Nat)(hk:∀x∈(la.drop ia).take k,∀y∈lb.drop ib,κ x<κ y):Inv κ la lb (out++(la.drop ia).take k) (ia+k) ib:=by
 refine ⟨?_,qH.mpr ⟨h.p7,J0 (yy sa ia) k,λx hx y hy=>(h.lo x hx).1 y (wZ hy)⟩,λx hx=>?_⟩
 .rw [List.take_add,kD]
  refine (h.perm.append_right _).trans ?_
  rw [kD]
  exact Bv.append_left _
 .rw [<-List.drop_drop]
  rcases nu.mp hx with hx | hx
  .exact ⟨λy hy=>(h.lo x hx).1 y (ye hy),(h.lo x hx).2⟩
  .exact ⟨λy hy=>Ku (yy sa ia) k x hx y hy,hk x hx⟩
theorem Inv.b(h:Inv κ la lb out ia ib)(sb:dS κ lb)(k:Nat)(hk:∀x∈(lb.drop ib).take k,∀y∈la.drop ia,κ x<κ y):Inv κ la lb (out++(lb.drop ib).take k) ia (ib+k):=(h.sym.a sb k hk).sym
theorem Inv.last(h:Inv κ la lb out ia ib)(sa:dS κ la)(sb:dS κ lb)(hm:∀x∈lb.drop ib,∀y∈la.drop ia,κ x<κ y):dS κ (out++lb.drop ib++la.drop ia)/\(out++lb.drop ib++la.drop ia).Perm (la++lb):=by
 refine ⟨qH.mpr ⟨qH.mpr ⟨h.p7,yy sb ib,λx hx=>(h.lo x hx).2⟩,yy sa ia,λx hx y hy=>?_⟩,?_⟩
 .rcases nu.mp hx with hx | hx
  .exact (h.lo x hx).1 y hy
  .exact hm x hx y hy
 .have e:la++lb=(la.take ia++la.drop ia)++(lb.take ib++lb.drop ib):=by rw [qk,qk]
  rw [e,kD]
  refine (h.perm.append_right _).trans ?_
  simp only [kD]
  refine D0 _ ?_
  refine Bv.trans ?_
  simp only [kD]
  refine (Bv).trans ?_
  simp only [kD]
  refine D0 _ ?_
  exact t8 _
theorem Inv.done(h:Inv κ la lb out ia ib)(sa:dS κ la)(sb:dS κ lb)(hm:∀x∈la.drop ia,∀y∈lb.drop ib,κ x<κ y):dS κ (out++la.drop ia++lb.drop ib)/\(out++la.drop ia++lb.drop ib).Perm (la++lb):=
 have q:=h.sym.last sb sa hm
 ⟨q.1,q.2.trans Bv⟩
theorem Aj:Inv κ la lb [] 0 0:=⟨by simp,t4,λx hx=>nomatch hx⟩
theorem UA(sa:dS κ A)(sb:dS κ B)(h1:∀x∈A.take k,∀y∈B,κ x<κ y)(h2:∀x∈B.drop m,∀y∈A,κ y<κ x)(sm:dS κ M)(pm:M.Perm (A.drop k++B.take m)):
  dS κ (A.take k++M++B.drop m)/\(A.take k++M++B.drop m).Perm (A++B):=by
 constructor
 .refine qH.mpr ⟨qH.mpr ⟨J0 sa k,sm,λx hx y hy=>?_⟩,yy sb m,λx hx y hy=>?_⟩
  .rcases nu.mp (pm.mem_iff.mp hy) with hy | hy
   .exact Ku sa k x hx y hy
   .exact h1 x hx y (wZ hy)
  .rcases nu.mp hx with hx | hx
   .exact h1 x hx y (ye hy)
   .rcases nu.mp (pm.mem_iff.mp hx) with hx | hx
    .exact h2 y hy x (ye hx)
    .exact Ku sb m x hx y hy
 .have e:A++B=(A.take k++A.drop k)++(B.take m++B.drop m):=by rw [qk,qk]
  rw [e,kD]
  simp only [kD]
  refine D0 _ ?_
  rw [<-kD]
  exact pm.append_right _
theorem mY(m:List α):∀(xs:Array α) (o n:Nat) (k:Nat),o+n+m.length<=xs.size->((m.zipIdx n).foldl (λa p=>a.setIfInBounds (o+p.2) p.1) xs)[k]?=if o+n<=k/\k<o+n+m.length then m[k-(o+n)]? else xs[k]?:=by
 induction m with
 | nil=>intro xs o n k h;simp only [List.zipIdx_nil,List.foldl_nil,Ip];rw [if_neg (by ext)]
 | cons x m ih =>
  intro xs o n k h
  simp only [jX] at h
  rw [List.zipIdx_cons,List.foldl_cons,ih _ o (n+1) k (by simp only [Array.size_setIfInBounds];ext h)]
  simp only [jX]
  by_cases c:o+(n+1)<=k/\k<o+(n+1)+m.length
  .rw [if_pos c,if_pos (by ext c),show k-(o+n)=(k-(o+(n+1)))+1 by ext c,List.getElem?_cons_succ]
  .rw [if_neg c,Array.getElem?_setIfInBounds]
   by_cases c2:o+n=k
   .subst c2
    rw [if_pos rfl,if_pos (by ext h),if_pos (by ext)]
    simp
   .rw [if_neg c2,if_neg (by ext c c2)]
theorem YC{P A S m:List α}{xs:Array α}(e:xs.toList=P++A++S)(hl:m.length=A.length):(m.zipIdx.foldl (λa p=>a.setIfInBounds (P.length+p.2) p.1) xs).toList=P++m++S:=by
 have hs:xs.size=P.length+A.length+S.length:=by rw [<-gh,e];simp;ext
 refine Ih λk=>?_
 rw [sy,mY m xs P.length 0 k (by ext hl hs),Nat.add_zero,<-sy,e]
 by_cases h1:k<P.length
 .rw [if_neg (by ext h1),kD,kD,wY h1,wY h1]
 .by_cases h2:k<P.length+m.length
  .rw [if_pos ⟨by ext h1,h2⟩,kD,t9 (by ext h1),wY (by ext h1 h2)]
  .rw [if_neg (by ext h2),t9 (by simp;ext hl h2),t9 (by simp;ext h2)]
   simp [hl]
noncomputable def ou:Nat->List (List α)->List (Nat×Nat×Nat)->Prop
 | _,[],[]=>True
 | o,R::Rs,p::ps=>p.1=o/\p.2.1=R.length/\ou (o+R.length) Rs ps
 | _,_,_=>False
theorem ou.len:∀{o:Nat} {Rs:List (List α)} {ps:List (Nat×Nat×Nat)},ou o Rs ps->ps.length=Rs.length
 | _,[],[],_=>rfl
 | _,R::Rs,p::ps,h=>by simp [h.2.2.len]
theorem ou.app:∀{o:Nat} {Rs Ss:List (List α)} {ps qs:List (Nat×Nat×Nat)},ou o Rs ps->ou (o+Rs.flatten.length) Ss qs->ou o (Rs++Ss) (ps++qs)
 | o,[],Ss,[],qs,_,h=>by simpa using h
 | o,R::Rs,Ss,p::ps,qs,h,k=>⟨h.1,h.2.1,h.2.2.app (by rw [DU,dz,<-HS] at k;exact k)⟩
theorem ou.split:∀{o:Nat} {Rs Ss:List (List α)} {ps:List (Nat×Nat×Nat)},ou o (Rs++Ss) ps->ou o Rs (ps.take Rs.length)/\ou (o+Rs.flatten.length) Ss (ps.drop Rs.length)
 | o,[],Ss,ps,h=>⟨trivial,by simpa using h⟩
 | o,R::Rs,Ss,p::ps,h=>by
  obtain ⟨k1,k2⟩:=ou.split (Rs:=Rs) h.2.2
  refine ⟨⟨h.1,h.2.1,k1⟩,?_⟩
  rw [DU,dz,<-HS]
  exact k2
end pure
open PySem PyProof.Rows
noncomputable def a7D:Bool → Keyed → Array Keyed → Nat → Nat → Nat → StateT SortSt Sem (Option Nat):=sortPriv% PySem.Builtin.gallop
noncomputable def b1a:Array Keyed → Array Keyed → StateT SortSt Sem (Array Keyed):=sortPriv% PySem.Builtin.mergeLo
noncomputable def b1b:Array Keyed → Array Keyed → StateT SortSt Sem (Array Keyed):=sortPriv% PySem.Builtin.mergeHi
noncomputable def setG':Nat → StateT SortSt Sem Unit:=sortPriv% PySem.Builtin.setMinGallop
section
variable {prog:Program}{w:World}{A:Around}{E:Value->Shared->Prop}{s:Shared}
theorem yr{σ α:Type}{M:Model}{m:StateT σ Sem α}{Q:α->σ->Prop}{st:σ}(h:wpS M A E s m Q st):wpAny M A (m st) (λr s'=>s'=s/\Q r.1 r.2) E s:=h
structure Ask(prog:Program)(w:World)(s:Shared)(kd:SortKind)(κ:Keyed->Int)(C:Keyed->Prop):Prop where
 lt:∀{x y:Keyed},C x->C y->κ x≠κ y->∀{A:Around} {E:Value->Shared->Prop} {Q:Bool->Shared->Prop},Q (decide (κ x<κ y)) s->wpAny (model prog w) A (keyLt' kd x.1 y.1) Q E s
variable {kd:SortKind}{κ:Keyed->Int}{C:Keyed->Prop}
theorem Ab(hk:Ask prog w s kd κ C){st:SortSt}{Q:Option Bool->SortSt->Prop}(hd:kindOf st=kd)(hx:C x)(hy:C y)(fF:κ x≠κ y)(h:Q (some (decide (κ x<κ y))) st):wpS (model prog w) A E s (lt' x y) Q st:=by
 rw [lt'_eq]
 refine bj (qg ?_)
 rw [hd]
 exact bj (wpS_lift (Du (hk.lt hx hy fF ⟨rfl,bF h⟩)))
theorem kW{Q:Keyed->SortSt->Prop}{st:SortSt}(hi:i<arr.size)(h:Q arr[i] st):wpS (model prog w) A E s (elem' arr i) Q st:=by
 rw [elem'_eq,getElem?_pos arr i hi]
 exact bF h
noncomputable def kv(κ:Keyed->Int)(arr:Array Keyed)(i:Nat):Int:=match arr[i]? with
 | some p=>κ p
 | none=>0
theorem k6(h:i<arr.size):kv κ arr i=κ arr[i]:=by unfold kv;rw [getElem?_pos arr i h]
theorem BO(h:xs[i]?=ys[j]?):kv κ xs i=kv κ ys j:=by unfold kv;rw [h]
theorem Ug(hk:Ask prog w s kd κ C){st:SortSt}(hd:kindOf st=kd){Q:Option Bool->SortSt->Prop}(hC:C key)(hj:j<arr.size)(hx:C arr[j])(fF:κ arr[j]≠κ key)(h:Q (some (decide (kv κ arr j<κ key))) st):
  wpS (model prog w) A E s (elem' arr j >>= λx=>if left=true then lt' x key else lt' key x >>= λr=>pure (HW (λx=>!x) r)) Q st:=by
 refine bj (kW hj ?_)
 rw [k6 hj] at h
 cases left with
 | true =>
  rw [if_pos rfl]
  exact Ab hk hd hx hC fF h
 | false =>
  rw [if_neg (by decide)]
  refine bj (Ab hk hd hC hx (jW fF) (bF ?_))
  have e:(!decide (κ key<κ arr[j]))=decide (κ arr[j]<κ key):=by
   by_cases c:κ key<κ arr[j]
   .rw [decide_eq_true c,decide_eq_false (by ext hj c)];rfl
   .rw [decide_eq_false c,decide_eq_true (by ext hj fF c)];rfl
  rw [xV,e]
  exact h
theorem Dl(hk:Ask prog w s kd κ C){st:SortSt}(hd:kindOf st=kd){Q:Option Nat->SortSt->Prop}(hC:C key)(hn:base+n<=arr.size)(hh:hint<n)
  (hA:∀j (h:j<arr.size),base<=j->j<base+n->C arr[j]/\κ arr[j]≠κ key)(hs:∀i j,i<j->j<n->kv κ arr (base+i)<kv κ arr (base+j))
  (h:∀k,k<=n->(∀i,i<k->kv κ arr (base+i)<κ key)->(∀i,k<=i->i<n->κ key<kv κ arr (base+i))->Q (some k) st):wpS (model prog w) A E s (a7D left key arr base n hint) Q st:=by
 have ask:∀i,i<n->∀{Q:Option Bool->SortSt->Prop},Q (some (decide (kv κ arr (base+i)<κ key))) st->wpS (model prog w) A E s (elem' arr (base+i) >>= λx=>if left=true then lt' x key else lt' key x >>= λr=>pure (HW (λx=>!x) r)) Q st:=λi hi Q hQ =>
  have hj:base+i<arr.size:=by ext hn hi
  Ug hk hd hC hj (hA _ hj (by ext) (by ext hi)).1 (hA _ hj (by ext) (by ext hi)).2 hQ
 have ne:∀i,i<n->kv κ arr (base+i)≠κ key:=λi hi=>by
  have hj:base+i<arr.size:=by ext hn hi
  rw [k6 hj]
  exact (hA _ hj (by ext) (by ext hi)).2
 have dn:∀i j,i<=j->j<n->kv κ arr (base+j)<κ key->kv κ arr (base+i)<κ key:=λi j h1 h2 h3=>by
  by_cases c:i=j
  .subst c;exact h3
  .have:=hs i j (by ext h1 c) h2;ext h3 this
 have up:∀i j,i<=j->j<n->κ key<kv κ arr (base+i)->κ key<kv κ arr (base+j):=λi j h1 h2 h3=>by
  by_cases c:i=j
  .subst c;exact h3
  .have:=hs i j (by ext h1 c) h2;ext h3 this
 unfold wpS
 wp_delta
 wp_delta
 wp_delta
 refine yr (Q:=Q) (bj (ask hint hh ?_))
 dsimp only
 have tail:∀lo hi:Nat,lo<=hi->hi<=n->(∀i,i<lo->kv κ arr (base+i)<κ key)->(∀i,hi<=i->i<n->κ key<kv κ arr (base+i)) ->
   wpS (model prog w) A E s (forIn [0:n] ((none,lo,hi):Option (Option Nat)×Nat×Nat) (λx q=>if q.2.1≥q.2.2 then pure (Dz (none,q.2.1,q.2.2)) else
    (elem' arr (base+(q.2.1+(q.2.2-q.2.1)/2)) >>= λx=>if left=true then lt' x key else lt' key x >>= λr=>pure (HW (λx=>!x) r)) >>= λr=>match r with
     | some more=>if more=true then pure (sA (none,q.2.1+(q.2.2-q.2.1)/2+1,q.2.2)) else pure (sA (none,q.2.1,q.2.1+(q.2.2-q.2.1)/2))
     | x=>pure (Dz (some none,q.2.1,q.2.2)))) (λq ao=>ao=st/\∃k,q.1=none/\q.2.2=k/\k<=n/\(∀i,i<k->kv κ arr (base+i)<κ key)/\∀i,k<=i->i<n->κ key<kv κ arr (base+i)) st:=λlo hi h1 h2 h3 h4=>by
  refine nV (λx q ao=>ao=st/\∃l r,q=(none,l,r)/\l<=r/\r<=n/\r-l<=n-x/\(∀i,i<l->kv κ arr (base+i)<κ key)/\∀i,r<=i->i<n->κ key<kv κ arr (base+i)) (λx q ao _ hx hI=>?_) (λq ao hI=>?_) ⟨rfl,lo,hi,rfl,h1,h2,by ext h2,h3,h4⟩
  .obtain ⟨rfl,l,r,rfl,j1,j2,j3,j4,j5⟩:=hI
   dsimp only
   by_cases c:l≥r
   .rw [if_pos c]
    obtain rfl:l=r:=by ext j1 c
    exact bF ⟨rfl,l,rfl,rfl,j2,j4,j5⟩
   .rw [if_neg c]
    refine bj (ask _ (by lia) ?_)
    dsimp only
    by_cases c2:kv κ arr (base+(l+(r-l)/2))<κ key
    .rw [if_pos (decide_eq_true c2)]
     exact bF ⟨rfl,_,_,rfl,by lia,‹_›,by ext j3,λi hi=>dn i _ (by ext hi) (by lia) c2,j5⟩
    .rw [if_neg (by simpa using c2)]
     have:=ne (l+(r-l)/2) (by lia)
     exact bF ⟨rfl,_,_,rfl,by ext,by lia,by lia,j4,λi hi h'=>up _ i hi h' (by ext c2 this)⟩
  .obtain ⟨rfl,l,r,rfl,j1,j2,j3,j4,j5⟩:=hI
   obtain rfl:l=r:=by ext j1 j3
   exact ⟨rfl,l,rfl,rfl,j2,j4,j5⟩
 by_cases c:kv κ arr (base+hint)<κ key
 .rw [if_pos (decide_eq_true c)]
  refine bj (nU (nV (λx q ao=>ao=st/\∃l o,q=(none,l,o)/\l<o/\x+1<=o/\hint+l<n/\kv κ arr (base+(hint+l))<κ key) (Q:=λq ao=>ao=st/\∃l o,q=(none,l,o)/\l<o/\hint+l<n/\kv κ arr (base+(hint+l))<κ key/\(o<n-hint->κ key<kv κ arr (base+(hint+o)))) (λx q ao _ hx hI=>?_) (λq ao hI=>?_) ⟨rfl,0,1,rfl,by decide,by decide,‹_›,c⟩) λq ao hI=>?_)
  .obtain ⟨rfl,l,o,rfl,j1,j2,j3,j4⟩:=hI
   dsimp only
   by_cases c1:o≥n-hint
   .rw [if_pos c1]
    exact bF ⟨rfl,l,o,rfl,j1,j3,j4,λz=>absurd z (by ext c1)⟩
   .rw [if_neg c1]
    refine bj (ask (hint+o) (by ext c1) ?_)
    dsimp only
    by_cases c2:kv κ arr (base+(hint+o))<κ key
    .rw [if_neg (by simpa using c2)]
     exact bF ⟨rfl,o,2*o+1,rfl,by ext,by ext j2,by ext c1,c2⟩
    .rw [if_pos (by simpa using c2)]
     have:=ne (hint+o) (by ext c1)
     exact bF ⟨rfl,l,o,rfl,j1,j3,j4,λ_=>by ext c2 this⟩
  .obtain ⟨rfl,l,o,rfl,j1,j2,j3,j4⟩:=hI
   exact ⟨rfl,l,o,rfl,j1,j3,j4,λz=>absurd z (by ext j2)⟩
  .obtain ⟨rfl,l,o,rfl,j1,j3,j4,j5⟩:=hI
   dsimp only
   refine bj (nU (tail (hint+l+1) (hint+min o (n-hint)) (by ext j1 j3) (by ext hh) (λi hi=>dn i _ (by ext hi) j3 j4) λi hi h'=>?_) λq ao hI=>?_)
   .by_cases c1:o<n-hint
    .exact up (hint+o) i (by ext hi c1) h' (j5 c1)
    .ext hi h' c1
   .obtain ⟨rfl,k,e1,rfl,k1,k2,k3⟩:=hI
    rw [e1]
    exact bF (h _ k1 k2 k3)
 .rw [if_neg (by simpa using c)]
  have c0:=ne hint hh
  refine bj (nU (nV (λx q ao=>ao=st/\∃l o,q=(none,l,o)/\l<o/\x+1<=o/\l<=hint/\κ key<kv κ arr (base+(hint-l))) (Q:=λq ao=>ao=st/\∃l o,q=(none,l,o)/\l<o/\l<=hint/\κ key<kv κ arr (base+(hint-l))/\(o<hint+1->kv κ arr (base+(hint-o))<κ key)) (λx q ao _ hx hI=>?_) (λq ao hI=>?_) ⟨rfl,0,1,rfl,by decide,by decide,by ext,by rw [Nat.sub_zero];ext c c0⟩) λq ao hI=>?_)
  .obtain ⟨rfl,l,o,rfl,j1,j2,j3,j4⟩:=hI
   dsimp only
   by_cases c1:o≥hint+1
   .rw [if_pos c1]
    exact bF ⟨rfl,l,o,rfl,j1,j3,j4,λz=>absurd z (by ext c1)⟩
   .rw [if_neg c1]
    refine bj (ask (hint-o) (by ext hh) ?_)
    dsimp only
    by_cases c2:kv κ arr (base+(hint-o))<κ key
    .rw [if_pos (decide_eq_true c2)]
     exact bF ⟨rfl,l,o,rfl,j1,j3,j4,λ_=>c2⟩
    .rw [if_neg (by simpa using c2)]
     have:=ne (hint-o) (by ext hh)
     exact bF ⟨rfl,o,2*o+1,rfl,by ext,by ext j2,by ext c1,by ext c2 this⟩
  .obtain ⟨rfl,l,o,rfl,j1,j2,j3,j4⟩:=hI
   exact ⟨rfl,l,o,rfl,j1,j3,j4,λz=>absurd z (by ext hh j2)⟩
  .obtain ⟨rfl,l,o,rfl,j1,j3,j4,j5⟩:=hI
   dsimp only
   refine bj (nU (tail (hint+1-min o (hint+1)) (hint-l) (by ext j1) (by ext hh) (λi hi=>?_) λi hi h'=>up _ i hi h' j4) λq ao hI=>?_)
   .by_cases c1:o<hint+1
    .exact dn i (hint-o) (by ext hi) (by ext hh) (j5 c1)
    .ext hi c1
   .obtain ⟨rfl,k,e1,rfl,k1,k2,k3⟩:=hI
    rw [e1]
    exact bF (h _ k1 k2 k3)
end
section
variable {κ:Keyed->Int}
theorem JN{a:Array Keyed}{i k:Nat}(h:x∈(a.toList.drop i).take k):∃j,∃hj:j<a.size,i<=j/\j<i+k/\x=a[j]:=by
 obtain ⟨n,hn,e⟩:=qm.mp h
 simp only [mz,rP,gh] at hn
 refine ⟨i+n,by ext hn:1,by ext:1,by ext hn:1,?_⟩
 rw [<-e]
 simp
theorem Ca{a:Array Keyed}{i:Nat}(h:x∈a.toList.drop i):∃j,∃hj:j<a.size,i<=j/\x=a[j]:=by
 obtain ⟨n,hn,e⟩:=qm.mp h
 simp only [rP,gh] at hn
 refine ⟨i+n,by ext hn:1,by ext:1,?_⟩
 rw [<-e]
 simp
theorem iN(h:dS κ a.toList)(h1:i<j)(h2:j<a.size):kv κ a i<kv κ a j:=by
 rw [k6 (by ext h1 h2:1),k6 h2]
 have:=ya.mp h i j (by simp;ext h1 h2:1) (by simpa using h2) h1
 simpa using this
theorem O5(a:Array Keyed)(i k:Nat):(a.extract i (i+k)).toList=(a.toList.drop i).take k:=by
 rw [DM,DX,IH]
theorem E2(a:Array Keyed)(i:Nat):(a.extract i a.size).toList=a.toList.drop i:=by
 rw [DM,DX]
 exact Bw (by simp)
theorem Kf{a:Array Keyed}{i:Nat}(h:i<a.size):(a.toList.drop i).take 1=[a[i]]:=by
 rw [sI (by simpa using h)]
 simp
end
noncomputable abbrev sg(st:SortSt)(g:Nat):SortSt:=Be (kindOf st) (arrOf st) (pendingOf st) g (failedOf st)
section
variable {prog:Program}{w:World}{A:Around}{E:Value->Shared->Prop}{s:Shared}{kd:SortKind}{κ:Keyed->Int}{C:Keyed->Prop}
theorem Em{st:SortSt}{Q:Unit->SortSt->Prop}(h:Q () (sg st g)):wpS (model prog w) A E s (setG' g) Q st:=by
 show wpS _ _ _ _ (modify _) _ _
 exact su h
theorem yh{st:SortSt}{Q:Unit->SortSt->Prop}(h:Q () st):wpS (model prog w) A E s (liftM (rule t):StateT SortSt Sem Unit) Q st:=wpS_lift (Ds ⟨rfl,h⟩)
structure jq(κ:Keyed->Int)(C:Keyed->Prop)(a b:Array Keyed):Prop where
 sa:dS κ a.toList
 sb:dS κ b.toList
 ca:∀x∈a.toList,C x
 cb:∀x∈b.toList,C x
 ne:∀x∈a.toList,∀y∈b.toList,κ x≠κ y
variable {a b:Array Keyed}
theorem jq.C8(T:jq κ C a b)(h:i<a.size):C a[i]:=T.ca _ (by simp)
theorem jq.C7(T:jq κ C a b)(h:i<b.size):C b[i]:=T.cb _ (by simp)
theorem jq.xB(T:jq κ C a b)(hi:i<a.size)(hj:j<b.size):κ a[i]≠κ b[j]:=T.ne _ (by simp) _ (by simp)
theorem AL(hk:Ask prog w s kd κ C)(T:jq κ C a b){st:SortSt}(hd:kindOf st=kd){Q:Option Nat->SortSt->Prop}(hi:i<a.size)(hj:j<b.size)
  (h:∀k,i+k<=a.size->(∀x∈(a.toList.drop i).take k,∀y∈b.toList.drop j,κ x<κ y)->(∀y∈a.toList.drop (i+k),κ b[j]<κ y)->Q (some k) st):wpS (model prog w) A E s (a7D l b[j] a i (a.size-i) 0) Q st:=by
 refine Dl hk hd (T.C7 hj) (by ext hi) (by ext hi) (λn hn _ _=>⟨T.C8 hn,T.xB hn hj⟩) (λx y h1 h2=>iN T.sa (by ext h1) (by ext h2)) λk k1 k2 k3=>h k (by ext hi k1) (λx hx y hy=>?_) λy hy=>?_
 .obtain ⟨n,hn,n1,n2,rfl⟩:=JN hx
  obtain ⟨m,hm,m1,rfl⟩:=Ca hy
  have e:=k2 (n-i) (by ext n1 n2)
  rw [show i+(n-i)=n by ext n1,k6 hn] at e
  by_cases c:j=m
  .subst c;exact e
  .have:=iN T.sb (show j<m by ext m1 c) hm
   rw [k6 hj,k6 hm] at this
   ext hn hm hj e this
 .obtain ⟨n,hn,n1,rfl⟩:=Ca hy
  have e:=k3 (n-i) (by ext n1) (by ext hn n1)
  rw [show i+(n-i)=n by ext n1,k6 hn] at e
  exact e
theorem jq.sym(T:jq κ C a b):jq κ C b a:=⟨T.sb,T.sa,T.cb,T.ca,λx hx y hy z=>T.ne y hy x hx z.symm⟩
theorem Inv.rf{out:Array Keyed}{ia ib:Nat}(h:Inv κ a.toList b.toList out.toList ia ib)(T:jq κ C a b)(hi:ia<a.size)(hk:∀y∈b.toList.drop ib,κ a[ia]<κ y):Inv κ a.toList b.toList (out.push a[ia]).toList (ia+1) ib:=by
 rw [va,<-Kf hi]
 refine h.a T.sa 1 λx hx y hy=>?_
 rw [Kf hi,nX] at hx
 rw [hx]
 exact hk y hy
theorem Inv.ra{out:Array Keyed}{ia ib:Nat}(h:Inv κ a.toList b.toList out.toList ia ib)(T:jq κ C a b)(hi:ib<b.size)(hk:∀y∈a.toList.drop ia,κ b[ib]<κ y):Inv κ a.toList b.toList (out.push b[ib]).toList ia (ib+1):=(h.sym.rf T.sym hi hk).sym
theorem Inv.zi(h:Inv κ a.toList b.toList out.toList ia ib)(T:jq κ C a b)(k:Nat)(hk:∀x∈(a.toList.drop ia).take k,∀y∈b.toList.drop ib,κ x<κ y):Inv κ a.toList b.toList (out++a.extract ia (ia+k)).toList (ia+k) ib:=by
 rw [rR,O5]
 exact h.a T.sa k hk
theorem Inv.F8(h:Inv κ a.toList b.toList out.toList ia ib)(T:jq κ C a b)(k:Nat)(hk:∀x∈(b.toList.drop ib).take k,∀y∈a.toList.drop ia,κ x<κ y):Inv κ a.toList b.toList (out++b.extract ib (ib+k)).toList ia (ib+k):=(h.sym.zi T.sym k hk).sym
theorem EH(T:jq κ C a b)(hi:i<a.size)(hj:j<b.size)(h:κ b[j]<κ a[i]):∀y∈a.toList.drop i,κ b[j]<κ y:=λy hy=>by
 obtain ⟨n,hn,n1,rfl⟩:=Ca hy
 by_cases c:i=n
 .subst c;exact h
 .have:=iN T.sa (show i<n by ext n1 c) hn
  rw [k6 hi,k6 hn] at this
  ext hj hn hi h this
def Mg(κ:Keyed->Int)(a b r:Array Keyed):Prop:=dS κ r.toList/\r.toList.Perm (a.toList++b.toList)
theorem Inv.kR(h:Inv κ a.toList b.toList out.toList ia ib)(T:jq κ C a b)(hm:ia=a.size\/ib=b.size):Mg κ a b (out++a.extract ia a.size++b.extract ib b.size):=by
 unfold Mg
 rw [rR,rR,E2,E2]
 refine h.done T.sa T.sb λx hx y hy=>?_
 obtain ⟨n,hn,n1,rfl⟩:=Ca hx
 obtain ⟨m,hm,m1,rfl⟩:=Ca hy
 lia
theorem Inv.mP(h:Inv κ a.toList b.toList out.toList ia ib)(T:jq κ C a b)(hm:∀x∈b.toList,∀y∈a.toList.drop (a.size-1),κ x<κ y)(hi:ia+1=a.size):Mg κ a b (out++b.extract ib b.size++a.extract ia a.size):=by
 unfold Mg
 rw [rR,rR,E2,E2]
 exact h.last T.sa T.sb λx hx y hy=>hm x (ye hx) y (by rw [<-hi];exact hy)
theorem Ew{n:Nat}(h:2<=n)(h':¬n-1=1):2<=n-1:=by ext h h'
theorem UZ(h:¬m=1)(h':¬m=0):2<=m:=by ext h h'
theorem Ag{β γ:Type}{M:Model}{c:γ->Prop}[∀v,Decidable (c v)]{x y:γ->StateT SortSt Sem β}{Q:β->SortSt->Prop}{st:SortSt}(u:γ->γ)(hx:∀v,x v=y (u v))(h:∀u,wpS M A E s (y u) Q st):∀v,wpS M A E s (if c v then x v else y v) Q st:=λv=>by
 rw [hx]
 split<;>exact h _
theorem Eb{β γ δ:Type}{M:Model}{c:Prop}[Decidable c]{R:γ->δ->Prop}{x y:γ->δ->StateT SortSt Sem β}{Q:β->SortSt->Prop}{st:SortSt}(P:γ->δ->Prop)(hF:∀u v,P u v->wpS M A E s (y u v) Q st)
  (h1:∀u v,R u v->(∀u v,P u v->wpS M A E s (y u v) Q st)->c->wpS M A E s (x u v) Q st)(h2:∀u v,R u v->¬c->P u v):∀u v,R u v->wpS M A E s (if c then x u v else y u v) Q st:=λu v hR=>by
 by_cases hc:c
 .rw [if_pos hc];exact h1 u v hR hF hc
 .rw [if_neg hc];exact hF u v (h2 u v hR hc)
structure J(κ:Keyed->Int)(a b out:Array Keyed)(ia ib:Nat):Prop where
 inv:Inv κ a.toList b.toList out.toList ia ib
 la:ia+1<a.size
 lb:ib<b.size
theorem RU(hk:Ask prog w s kd κ C)(T:jq κ C a b){st:SortSt}(hd:kindOf st=kd){Q:Array Keyed->SortSt->Prop}(ha:0<a.size)(hb:0<b.size)(h0:κ b[0]<κ a[0])(hm:∀x∈b.toList,∀y∈a.toList.drop (a.size-1),κ x<κ y)
  (h:∀r g,Mg κ a b r->Q r (sg st g)):wpS (model prog w) A E s (b1a a b) Q st:=by
 unfold wpS
 wp_delta
 wp_delta
 wp_delta
 refine yr (Q:=Q) (bj (yh (bj (kW hb ?_))))
 dsimp only
 have i0:Inv κ a.toList b.toList (#[b[0]]:Array Keyed).toList 0 1:=(Aj (κ:=κ) (la:=a.toList) (lb:=b.toList)).ra (out:=#[]) T hb (EH T ha hb h0)
 by_cases c1:1=b.size
 .rw [if_pos (by simpa using c1)]
  exact bF (h _ (gallopOf st) (i0.kR T (.inr c1)))
 rw [if_neg (by simpa using c1)]
 by_cases c2:0+1=a.size
 .rw [if_pos (by simpa using c2)]
  exact bF (h _ (gallopOf st) (i0.mP T hm c2))
 rw [if_neg (by simpa using c2)]
 refine bj (qg ?_)
 refine bj (nU (nV (λx q ao=>(∃g,ao=sg st g)/\∃out ia ib mg,q=(none,out,ia,ib,mg)/\J κ a b out ia ib/\x+1<=ia+ib) (Q:=λq ao=>(∃g,ao=sg st g)/\∃r,q.1=some r/\Mg κ a b r) (λx q ao _ hx hI=>?_) (λq ao hI=>?_) ⟨⟨gallopOf st,rfl⟩,_,_,_,_,rfl,⟨i0,by ext ha c2,by ext hb c1⟩,by decide⟩) λq ao hI=>?_)
 .obtain ⟨⟨g,rfl⟩,out,ia,ib,mg,rfl,hJ,hp⟩:=hI
  dsimp only
  refine bj (nU (nV (λx q ao=>(∃g,ao=sg st g)/\∃iQ oP oO ac bc,q=(none,iQ,oP,oO,ac,bc)/\J κ a b iQ oP oO/\ia+ib+x<=oP+oO) (Q:=λq ao=>(∃g,ao=sg st g)/\((∃r,q.1=some r/\Mg κ a b r)\/∃iQ oP oO ac bc,q=(none,iQ,oP,oO,ac,bc)/\J κ a b iQ oP oO/\ia+ib+1<=oP+oO)) (λx q ao _ hx hI=>?_) (λq ao hI=>?_) ⟨⟨_,rfl⟩,_,_,_,_,_,rfl,hJ,by ext⟩) λq ao hI=>?_)
  .obtain ⟨⟨g,rfl⟩,out,ia,ib,ac,bc,rfl,hJ,hp⟩:=hI
   dsimp only
   refine bj (kW hJ.lb (bj (kW (wN hJ.la) (bj (Ab hk hd (T.C7 hJ.lb) (T.C8 _) (jW (T.xB _ hJ.lb)) ?_)))))
   dsimp only
   have la:=hJ.la
   have lb:=hJ.lb
   by_cases c:κ b[ib]<κ a[ia]
   .rw [if_pos (decide_eq_true c)]
    refine bj (kW hJ.lb ?_)
    have i2:=hJ.inv.ra T hJ.lb (EH T (by ext la) lb c)
    by_cases d1:ib+1=b.size
    .rw [if_pos (by simpa using d1)]
     exact bF ⟨⟨_,rfl⟩,.inl ⟨_,rfl,i2.kR T (.inr d1)⟩⟩
    rw [if_neg (by simpa using d1)]
    by_cases d2:bc+1≥mg
    .rw [if_pos d2]
     exact bF ⟨⟨_,rfl⟩,.inr ⟨_,_,_,_,_,rfl,⟨i2,la,by ext lb d1⟩,by ext hp⟩⟩
    .rw [if_neg d2]
     exact bF ⟨⟨_,rfl⟩,_,_,_,_,_,rfl,⟨i2,la,by ext lb d1⟩,by ext hp⟩
   .rw [if_neg (by simpa using c)]
    refine bj (kW (wN hJ.la) ?_)
    have fF:=T.xB (wN hJ.la) hJ.lb
    have i2:=hJ.inv.rf T (wN hJ.la) (EH T.sym lb (by ext la) (by ext la lb ha hb c fF))
    by_cases d1:ia+1+1=a.size
    .rw [if_pos (by simpa using d1)]
     exact bF ⟨⟨_,rfl⟩,.inl ⟨_,rfl,i2.mP T hm d1⟩⟩
    rw [if_neg (by simpa using d1)]
    by_cases d2:ac+1≥mg
    .rw [if_pos d2]
     exact bF ⟨⟨_,rfl⟩,.inr ⟨_,_,_,_,_,rfl,⟨i2,by ext la d1,lb⟩,by ext hp⟩⟩
    .rw [if_neg d2]
     exact bF ⟨⟨_,rfl⟩,_,_,_,_,_,rfl,⟨i2,by ext la d1,lb⟩,by ext hp⟩
  .obtain ⟨hg,out,ia,ib,ac,bc,rfl,hJ,hp⟩:=hI
   exact ⟨hg,.inr ⟨_,_,_,_,_,rfl,hJ,by ext hb hp⟩⟩
  .obtain ⟨⟨g,rfl⟩,⟨r,e,hr⟩ | ⟨iQ,oP,oO,ac,bc,rfl,Hi,qc⟩⟩:=hI
   .obtain ⟨q1,q2⟩:=q
    dsimp only at e
    rw [e]
    exact bF ⟨⟨_,rfl⟩,_,rfl,hr⟩
   dsimp only
   refine bj (yh ?_)
   refine bj (nU (nV (λx q ao=>(∃g,ao=sg st g)/\∃out ja jb mg ac bc,q=(none,out,ja,jb,mg,ac,bc)/\J κ a b out ja jb/\oP+oO<=ja+jb) (Q:=λq ao=>(∃g,ao=sg st g)/\((∃r,q.1=some r/\Mg κ a b r)\/∃out ja jb mg ac bc,q=(none,out,ja,jb,mg,ac,bc)/\J κ a b out ja jb/\oP+oO<=ja+jb)) (λx q ao _ hx hI=>?_) (λq ao hI=>?_) ⟨⟨_,rfl⟩,_,_,_,_,_,_,rfl,Hi,by ext⟩) λq ao hI=>?_)
   .obtain ⟨⟨g,rfl⟩,out,ja,jb,mg,ac,bc,rfl,hJ,hp⟩:=hI
    dsimp only
    have la:=hJ.la
    have lb:=hJ.lb
    revert mg
    refine Ag (λmg=>mg-1) (λ_=>rfl) λmg=>?_
    refine bj (Em (bj (kW lb (bj ?_))))
    refine AL hk T ?_ (wN la) lb λk k1 k2 k3=>?_
    .exact hd
    dsimp only
    have hR:Inv κ a.toList b.toList out.toList ja jb/\(k=0->∀y∈a.toList.drop ja,κ b[jb]<κ y)/\(k=0->ja+1<a.size)/\oP+oO<=ja+jb/\ja+k<=a.size/\(∀x∈(a.toList.drop ja).take k,∀y∈b.toList.drop jb,κ x<κ y)/\∀y∈a.toList.drop (ja+k),κ b[jb]<κ y:=⟨hJ.inv,λz=>by rw [z] at k3;exact k3,λ_=>la,hp,k1,k2,k3⟩
    clear hJ la hp k1 k2 k3
    revert out ja
    refine Eb (λo j=>Inv κ a.toList b.toList o.toList j jb/\j+1<a.size/\(∀y∈a.toList.drop j,κ b[jb]<κ y)/\oP+oO<=j+jb) ?_ (λout ja hR hF d0=>?_) λout ja hR d0=>⟨hR.1,hR.2.2.1 (wX d0),hR.2.1 (wX d0),hR.2.2.2.1⟩
    .rintro o j ⟨i1,hj,k3,hp⟩
     have Dg:=wN hj
     refine bj (kW lb ?_)
     have i2:=i1.ra T lb k3
     by_cases d3:jb+1=b.size
     .rw [if_pos (by simpa using d3)]
      exact bF ⟨⟨_,rfl⟩,.inl ⟨_,rfl,i2.kR T (.inr d3)⟩⟩
     rw [if_neg (by simpa using d3)]
     have l2:jb+1<b.size:=Bz lb d3
     refine bj (kW Dg (bj ?_))
     refine AL hk T.sym ?_ l2 Dg λm m1 m2 m3=>?_
     .exact hd
     dsimp only
     have hR:Inv κ a.toList b.toList (o.push b[jb]).toList j (jb+1)/\(m=0->∀y∈b.toList.drop (jb+1),κ a[j]<κ y)/\jb+1<b.size/\oP+oO<=j+(jb+1)/\jb+1+m<=b.size/\(∀x∈(b.toList.drop (jb+1)).take m,∀y∈a.toList.drop j,κ x<κ y)/\∀y∈b.toList.drop (jb+1+m),κ a[j]<κ y:=⟨i2,λz=>by rw [z] at m3;exact m3,l2,Nat.le_succ_of_le hp,m1,m2,m3⟩
     clear i2 l2 m1 m2 m3
     generalize o.push b[jb]=o2 at hR ⊢
     generalize jb+1=j2 at hR ⊢
     revert o2 j2
     refine Eb (λp q=>Inv κ a.toList b.toList p.toList j q/\q<b.size/\(∀y∈b.toList.drop q,κ a[j]<κ y)/\oP+oO<=j+q) ?_ (λo2 j2 hR hF d4=>?_) λout ja hR d0=>⟨hR.1,hR.2.2.1,hR.2.1 (wX d0),hR.2.2.2.1⟩
     .rintro p q ⟨i3,hq,m3,hp⟩
      refine bj (kW Dg ?_)
      have i4:=i3.rf T Dg m3
      by_cases d6:j+1+1=a.size
      .rw [if_pos (by simpa using d6)]
       exact bF ⟨⟨_,rfl⟩,.inl ⟨_,rfl,i4.mP T hm d6⟩⟩
      rw [if_neg (by simpa using d6)]
      have hJ:J κ a b (p.push a[j]) (j+1) q:=⟨i4,Bz hj d6,hq⟩
      have Me:oP+oO<=j+1+q:=jZ hp (IU (uW j) q)
      by_cases d7:(decide (k<7)&&decide (m<7))=true
      .rw [if_pos d7]
       exact bF ⟨⟨_,rfl⟩,.inr ⟨_,_,_,_,_,_,rfl,hJ,Me⟩⟩
      .rw [if_neg d7]
       exact bF ⟨⟨_,rfl⟩,_,_,_,_,_,_,rfl,hJ,Me⟩
     .obtain ⟨i2,_,l2,hp,m1,m2,m3⟩:=hR
      have i3:=i2.F8 T m m2
      by_cases d5:j2+m=b.size
      .rw [if_pos (by simpa using d5)]
       exact bF ⟨⟨_,rfl⟩,.inl ⟨_,rfl,i3.kR T (.inr d5)⟩⟩
      rw [if_neg (by simpa using d5)]
      exact hF _ _ ⟨i3,Bz m1 d5,m3,jZ hp (Ng (DT j2 m) j)⟩
    .obtain ⟨i0,_,la,hp,k1,k2,k3⟩:=hR
     have i1:=i0.zi T k k2
     by_cases d1:ja+k+1=a.size
     .rw [if_pos (by simpa using d1)]
      exact bF ⟨⟨_,rfl⟩,.inl ⟨_,rfl,i1.mP T hm d1⟩⟩
     rw [if_neg (by simpa using d1)]
     by_cases d2:ja+k=a.size
     .rw [if_pos (by simpa using d2)]
      exact bF ⟨⟨_,rfl⟩,.inl ⟨_,rfl,i1.kR T (.inl d2)⟩⟩
     rw [if_neg (by simpa using d2)]
     exact hF _ _ ⟨i1,Bz (Bz k1 d2) d1,k3,jZ hp (IU (DT ja k) jb)⟩
   .obtain ⟨hg,out,ja,jb,mg,ac,bc,rfl,hJ,hp⟩:=hI
    exact ⟨hg,.inr ⟨_,_,_,_,_,_,rfl,hJ,‹_›⟩⟩
   .obtain ⟨⟨g,rfl⟩,⟨r,e,hr⟩ | ⟨out,ja,jb,mg,ac,bc,rfl,hJ,hp⟩⟩:=hI
    .obtain ⟨q1,q2⟩:=q
     dsimp only at e
     rw [e]
     exact bF ⟨⟨_,rfl⟩,_,rfl,hr⟩
    .dsimp only
     exact bj (Em (bF ⟨⟨_,rfl⟩,_,_,_,_,rfl,hJ,by lia⟩))
 .obtain ⟨_,out,ia,ib,mg,rfl,hJ,hp⟩:=hI
  have la:=hJ.la
  have lb:=hJ.lb
  ext _ hb hp la lb
 .obtain ⟨⟨g,rfl⟩,r,e,hr⟩:=hI
  rw [e]
  exact bF (h _ _ hr)
end
section
variable {prog:Program}{w:World}{A:Around}{E:Value->Shared->Prop}{s:Shared}{kd:SortKind}{κ:Keyed->Int}{C:Keyed->Prop}{a b:Array Keyed}
noncomputable def ng(κ:Keyed->Int)(x:Keyed):Int:=-κ x
theorem dy:dS (ng κ) l.reverse↔dS κ l:=by
 unfold dS
 rw [List.pairwise_reverse]
 constructor<;>exact λh=>h.imp λz=>by unfold ng at *;ext z
theorem sL(l:List Keyed)(h:n<=l.length):l.reverse.drop (l.length-n)=(l.take n).reverse:=by
 rw [List.reverse_take]
theorem Nx(l:List Keyed)(h:n<=l.length)(hk:k<=n):(l.reverse.drop (l.length-n)).take (n-k)=((l.take n).drop k).reverse:=by
 rw [sL l h,List.reverse_drop,mz,Nat.min_eq_left h]
theorem E1(a:Array Keyed)(n:Nat):(a.extract 0 n).toList=a.toList.take n:=by
 rw [DM,DX]
 rfl
theorem Ka(a:Array Keyed)(i n:Nat):(a.extract i n).toList=(a.toList.take n).drop i:=by
 rw [DM,DX,ID]
structure H(κ:Keyed->Int)(a b out:Array Keyed)(na nb:Nat):Prop where
 inv:Inv (ng κ) a.toList.reverse b.toList.reverse out.toList (a.toList.length-na) (b.toList.length-nb)
 la:na<=a.toList.length
 lb:nb<=b.toList.length
variable {out:Array Keyed}{na nb:Nat}
theorem H.sym(h:H κ a b out na nb):H κ b a out nb na:=⟨h.inv.sym,h.lb,h.la⟩
theorem H.seg(h:H κ a b out na nb)(T:jq κ C a b)(hk:k<=na)(hx:∀x∈(a.toList.take na).drop k,∀y∈b.toList.take nb,κ y<κ x):H κ a b (out++(a.extract k na).reverse) k nb:=by
 have la:=h.la
 refine ⟨?_,by ext hk la,h.lb⟩
 have i:=h.inv.a (dy.mpr T.sa) (na-k) λx kz y hy=>?_
 .rw [Nx _ h.la hk,show a.toList.length-na+(na-k)=a.toList.length-k by ext hk la] at i
  rw [rR,DK,Ka]
  exact i
 .rw [Nx _ h.la hk] at kz
  rw [sL _ h.lb] at hy
  have:=hx x (xW.mp kz) y (xW.mp hy)
  unfold ng
  ext this
theorem H.push(h:H κ a b out na nb)(T:jq κ C a b)(h0:0<na)(hn:na-1<a.size)(hx:∀y∈b.toList.take nb,κ y<κ a[na-1]):H κ a b (out.push a[na-1]) (na-1) nb:=by
 have la:=h.la
 rw [gh] at la
 have e:(a.toList.take na).drop (na-1)=[a[na-1]]:=by
  rw [ID,show na-(na-1)=1 by ext h0,Kf hn]
 have:=h.seg T (k:=na-1) (by ext) λx kz y hy=>by
  rw [e,nX] at kz
  rw [kz]
  exact hx y hy
 have e2:out++(a.extract (na-1) na).reverse=out.push a[na-1]:=by
  apply Iy.mp
  rw [rR,DK,Ka,e,va]
  rfl
 rw [e2] at this
 exact this
theorem H.z6(h:H κ a b out na nb)(T:jq κ C a b)(hm:na=0\/nb=0):Mg κ a b (a.extract 0 na++b.extract 0 nb++out.reverse):=by
 have q:=h.inv.last (dy.mpr T.sa) (dy.mpr T.sb) λx hx y hy=>by
  rw [sL _ h.lb,xW] at hx
  rw [sL _ h.la,xW] at hy
  rcases hm with rfl | rfl
  .rw [List.take_zero] at hy;cases hy
  .rw [List.take_zero] at hx;cases hx
 have e:(a.extract 0 na++b.extract 0 nb++out.reverse).toList=(out.toList++b.toList.reverse.drop (b.toList.length-nb)++a.toList.reverse.drop (a.toList.length-na)).reverse:=by
  rw [sL _ h.lb,sL _ h.la,rR,rR,DK,E1,E1]
  simp
 unfold Mg
 rw [e]
 refine ⟨?_,?_⟩
 .have:=q.1
  rw [<-Nh (as:=out.toList++_++_)] at this
  exact dy.mp this
 .refine (xY _).trans (q.2.trans ?_)
  exact (xY _).append (xY _)
theorem H.C2(h:H κ a b out na nb)(T:jq κ C a b)(hm:∀x∈b.toList.take nb,∀y∈a.toList,κ x<κ y):Mg κ a b (b.extract 0 nb++a.extract 0 na++out.reverse):=by
 have q:=h.inv.done (dy.mpr T.sa) (dy.mpr T.sb) λx hx y hy=>by
  rw [sL _ h.la,xW] at hx
  rw [sL _ h.lb,xW] at hy
  have:=hm y hy x (wZ hx)
  unfold ng
  ext this
 have e:(b.extract 0 nb++a.extract 0 na++out.reverse).toList=(out.toList++a.toList.reverse.drop (a.toList.length-na)++b.toList.reverse.drop (b.toList.length-nb)).reverse:=by
  rw [sL _ h.lb,sL _ h.la,rR,rR,DK,E1,E1]
  simp
 unfold Mg
 rw [e]
 refine ⟨?_,?_⟩
 .have:=q.1
  rw [<-Nh (as:=out.toList++_++_)] at this
  exact dy.mp this
 .refine (xY _).trans (q.2.trans ?_)
  exact (xY _).append (xY _)
theorem JH(h:x∈a.toList.take n):∃j,∃hj:j<a.size,j<n/\x=a[j]:=by
 obtain ⟨j,hj,_,j2,e⟩:=JN (i:=0) (k:=n) (by rw [Dy];exact h)
 exact ⟨j,hj,by ext j2,e⟩
theorem Jt(T:jq κ C a b)(hi:i<a.size)(hj:j<b.size)(h:κ b[j]<κ a[i]):∀y∈b.toList.take (j+1),κ y<κ a[i]:=λy hy=>by
 obtain ⟨m,hm,m1,rfl⟩:=JH hy
 by_cases c:m=j
 .subst c;exact h
 .have:=iN T.sb (show m<j by ext m1 c) hj
  rw [k6 hm,k6 hj] at this
  ext hm hi hj h this
theorem AK(hk:Ask prog w s kd κ C)(T:jq κ C a b){st:SortSt}(hd:kindOf st=kd){Q:Option Nat->SortSt->Prop}(hn:n<=a.size)(h0:0<n)(hj:j<b.size)
  (h:∀k,k<=n->(∀x∈(a.toList.take n).drop k,∀y∈b.toList.take (j+1),κ y<κ x)->(∀y∈a.toList.take k,κ y<κ b[j])->Q (some k) st):wpS (model prog w) A E s (a7D l b[j] a 0 n (n-1)) Q st:=by
 refine Dl hk hd (T.C7 hj) (by ext hn) (by ext h0) (λn hn _ _=>⟨T.C8 hn,T.xB hn hj⟩) (λx y h1 h2=>iN T.sa (by ext h1) (by ext hn h2)) λk k1 k2 k3=>h k ‹_› (λx hx=>?_) λy hy=>?_
 .rw [ID] at hx
  obtain ⟨m,hm,m1,m2,rfl⟩:=JN hx
  have e:=k3 m ‹_› (by ext k1 m2)
  rw [Bp,k6 hm] at e
  exact Jt T hm hj e
 .obtain ⟨m,hm,m1,rfl⟩:=JH hy
  have e:=k2 m ‹_›
  rw [Bp,k6 hm] at e
  exact e
theorem RV(hk:Ask prog w s kd κ C)(T:jq κ C a b){st:SortSt}(hd:kindOf st=kd){Q:Array Keyed->SortSt->Prop}(ha:0<a.size)(hb:0<b.size)(h0:κ b[0]<κ a[0])(hm:∀x∈b.toList,κ x<κ a[a.size-1])
  (h:∀r g,Mg κ a b r->Q r (sg st g)):wpS (model prog w) A E s (b1b a b) Q st:=by
 unfold wpS
 wp_delta
 wp_delta
 wp_delta
 refine yr (Q:=Q) (bj (yh (bj (kW (show a.size-1<a.size by ext ha) ?_))))
 dsimp only
 have hz:H κ a b #[] a.size b.size:=⟨by rw [gh,gh,Bo,Bo];exact Aj,by simp,by simp⟩
 have i0:H κ a b #[a[a.size-1]] (a.size-1) b.size:=hz.push T ha (by ext ha) λy hy=>hm y (wZ hy)
 have hf:∀x∈b.toList.take 1,∀y∈a.toList,κ x<κ y:=λx hx y hy=>by
  obtain ⟨m,hm,m1,rfl⟩:=JH hx
  obtain rfl:m=0:=by ext m1
  exact EH T ha hb h0 y (by rw [Dy];exact hy)
 by_cases c1:a.size-1=0
 .rw [if_pos (by simpa using c1)]
  exact bF (h _ (gallopOf st) (i0.z6 T (.inl c1)))
 rw [if_neg (by simpa using c1)]
 by_cases c2:b.size=1
 .rw [if_pos (by simpa using c2)]
  exact bF (h _ (gallopOf st) (i0.C2 T (by rw [c2];exact hf)))
 rw [if_neg (by simpa using c2)]
 refine bj (qg ?_)
 refine bj (nU (nV (λx q ao=>(∃g,ao=sg st g)/\∃na nb out mg,q=(none,na,nb,out,mg)/\H κ a b out na nb/\1<=na/\2<=nb/\na+nb+x+1<=a.size+b.size) (Q:=λq ao=>(∃g,ao=sg st g)/\∃r,q.1=some r/\Mg κ a b r) (λx q ao _ hx hI=>?_) (λq ao hI=>?_) ⟨⟨gallopOf st,rfl⟩,_,_,_,_,rfl,i0,by ext ha c1,by ext hb c2,by ext ha⟩) λq ao hI=>?_)
 .obtain ⟨⟨g,rfl⟩,na,nb,out,mg,rfl,hJ,ga,gb,hp⟩:=hI
  dsimp only
  refine bj (nU (nV (λx q ao=>(∃g,ao=sg st g)/\∃pK pJ iQ ac bc,q=(none,pK,pJ,iQ,ac,bc)/\H κ a b iQ pK pJ/\1<=pK/\2<=pJ/\pK+pJ+x<=na+nb) (Q:=λq ao=>(∃g,ao=sg st g)/\((∃r,q.1=some r/\Mg κ a b r)\/∃pK pJ iQ ac bc,q=(none,pK,pJ,iQ,ac,bc)/\H κ a b iQ pK pJ/\1<=pK/\2<=pJ/\pK+pJ+1<=na+nb)) (λx q ao _ hx hI=>?_) (λq ao hI=>?_) ⟨⟨_,rfl⟩,_,_,_,_,_,rfl,hJ,ga,gb,by ext⟩) λq ao hI=>?_)
  .obtain ⟨⟨g,rfl⟩,na,nb,out,ac,bc,rfl,hJ,ga,gb,hp⟩:=hI
   dsimp only
   have la:=hJ.la
   have lb:=hJ.lb
   rw [gh] at la lb
   have xa:na-1<a.size:=by ext ga la
   have xb:nb-1<b.size:=by ext gb lb
   refine bj (kW xb (bj (kW xa (bj (Ab hk hd (T.C7 xb) (T.C8 xa) (jW (T.xB xa xb)) ?_)))))
   dsimp only
   by_cases c:κ b[nb-1]<κ a[na-1]
   .rw [if_pos (decide_eq_true c)]
    refine bj (kW xa ?_)
    have i2:=hJ.push T ‹_› xa (by have:=Jt T xa xb c;rw [show nb-1+1=nb by ext gb] at this;exact this)
    by_cases d1:na-1=0
    .rw [if_pos (by simpa using d1)]
     exact bF ⟨⟨_,rfl⟩,.inl ⟨_,rfl,i2.z6 T (.inl d1)⟩⟩
    rw [if_neg (by simpa using d1)]
    by_cases d2:ac+1≥mg
    .rw [if_pos d2]
     exact bF ⟨⟨_,rfl⟩,.inr ⟨_,_,_,_,_,rfl,i2,by ext d1,‹_›,by ext hp d1⟩⟩
    .rw [if_neg d2]
     exact bF ⟨⟨_,rfl⟩,_,_,_,_,_,rfl,i2,by ext d1,‹_›,by ext hp d1⟩
   .rw [if_neg (by simpa using c)]
    refine bj (kW xb ?_)
    have fF:=T.xB xa xb
    have i2:=(hJ.sym.push T.sym (by ext gb) xb (by have:=Jt T.sym xb xa (by ext xa xb c fF);rw [show na-1+1=na by ext ga] at this;exact this)).sym
    by_cases d1:nb-1=1
    .rw [if_pos (by simpa using d1)]
     exact bF ⟨⟨_,rfl⟩,.inl ⟨_,rfl,i2.C2 T (by rw [d1];exact hf)⟩⟩
    rw [if_neg (by simpa using d1)]
    by_cases d2:bc+1≥mg
    .rw [if_pos d2]
     exact bF ⟨⟨_,rfl⟩,.inr ⟨_,_,_,_,_,rfl,i2,‹_›,by ext gb d1,by ext gb hp⟩⟩
    .rw [if_neg d2]
     exact bF ⟨⟨_,rfl⟩,_,_,_,_,_,rfl,i2,‹_›,by ext gb d1,by ext gb hp⟩
  .obtain ⟨hg,na,nb,out,ac,bc,rfl,hJ,ga,gb,hp⟩:=hI
   exact ⟨hg,.inr ⟨_,_,_,_,_,rfl,hJ,ga,gb,by ext ha hb hp⟩⟩
  .obtain ⟨⟨g,rfl⟩,⟨r,e,hr⟩ | ⟨pK,pJ,iQ,ac,bc,rfl,Hi,Tj,Ti,qc⟩⟩:=hI
   .obtain ⟨q1,q2⟩:=q
    dsimp only at e
    rw [e]
    exact bF ⟨⟨_,rfl⟩,_,rfl,hr⟩
   dsimp only
   refine bj (yh ?_)
   refine bj (nU (nV (λx q ao=>(∃g,ao=sg st g)/\∃ja jb out mg ac bc,q=(none,ja,jb,out,mg,ac,bc)/\H κ a b out ja jb/\1<=ja/\2<=jb/\ja+jb<=pK+pJ) (Q:=λq ao=>(∃g,ao=sg st g)/\((∃r,q.1=some r/\Mg κ a b r)\/∃ja jb out mg ac bc,q=(none,ja,jb,out,mg,ac,bc)/\H κ a b out ja jb/\1<=ja/\2<=jb/\ja+jb<=pK+pJ)) (λx q ao _ hx hI=>?_) (λq ao hI=>?_) ⟨⟨_,rfl⟩,_,_,_,_,_,_,rfl,Hi,Tj,Ti,by ext⟩) λq ao hI=>?_)
   .obtain ⟨⟨g,rfl⟩,ja,jb,out,mg,ac,bc,rfl,hJ,ga,gb,hp⟩:=hI
    dsimp only
    have la:=hJ.la
    have lb:=hJ.lb
    rw [gh] at la lb
    have xb:jb-1<b.size:=by ext gb lb
    revert mg
    refine Ag (λmg=>mg-1) (λ_=>rfl) λmg=>?_
    refine bj (Em (bj (kW xb (bj ?_))))
    refine AK hk T ?_ la ga xb λk k1 k2 k3=>?_
    .exact hd
    dsimp only
    have jj:jb-1+1=jb:=Nat.sub_add_cancel (Ig gb)
    rw [jj] at k2
    have hR:H κ a b out ja jb/\(ja-k=0->1<=ja/\ja<=k)/\k<=ja/\(∀x∈(a.toList.take ja).drop k,∀y∈b.toList.take jb,κ y<κ x):=⟨hJ,λz=>⟨ga,M3 z⟩,k1,k2⟩
    have SW:k<=a.size:=jZ k1 la
    have SD:k+jb<=pK+pJ:=jZ (IU k1 jb) hp
    clear hJ k2 la ga hp k1
    generalize ja-k=cnt at hR ⊢
    revert out ja
    refine Eb (λn o=>H κ a b o n jb/\n=k/\1<=n) ?_ (λja out hR hF d0=>?_) λja out hR d0=>⟨hR.1,Nat.le_antisymm (hR.2.1 (wX d0)).2 hR.2.2.1,(hR.2.1 (wX d0)).1⟩
    .rintro n o ⟨i1,rfl,hn⟩
     have xa:n-1<a.size:=nr (Nat.sub_lt hn Nat.one_pos) SW
     refine bj (kW xb ?_)
     have i2:=(i1.sym.push T.sym (Nat.lt_of_succ_le (Ig gb)) xb k3).sym
     by_cases d3:jb-1=1
     .rw [if_pos (by simpa using d3)]
      exact bF ⟨⟨_,rfl⟩,.inl ⟨_,rfl,i2.C2 T (by rw [d3];exact hf)⟩⟩
     rw [if_neg (by simpa using d3)]
     have g2:2<=jb-1:=Ew gb d3
     have g3:jb-1<=b.size:=u5 xb
     refine bj (kW xa (bj ?_))
     refine AK hk T.sym ?_ g3 (wN g2) xa λm m1 m2 m3=>?_
     .exact hd
     dsimp only
     rw [Nat.sub_add_cancel hn] at m2
     have hR:H κ a b (o.push b[jb-1]) n (jb-1)/\(jb-1-m=0->2<=jb-1/\jb-1<=m)/\m<=jb-1/\(∀x∈(b.toList.take (jb-1)).drop m,∀y∈a.toList.take n,κ y<κ x):=⟨i2,λz=>⟨g2,M3 z⟩,m1,m2⟩
     have Md:n-1+m<=pK+pJ:=jZ (Nat.add_le_add (Nat.sub_le n 1) (jZ m1 (Nat.sub_le jb 1))) SD
     clear i2 g2 g3 m1 m2
     generalize jb-1-m=HG at hR ⊢
     generalize o.push b[jb-1]=o2 at hR ⊢
     generalize jb-1=j2 at hR ⊢
     revert o2 j2
     refine Eb (λp q=>H κ a b p n q/\q=m/\2<=q) ?_ (λo2 j2 hR hF d4=>?_) λout ja hR d0=>⟨hR.1,Nat.le_antisymm (hR.2.1 (wX d0)).2 hR.2.2.1,(hR.2.1 (wX d0)).1⟩
     .rintro p q ⟨i3,rfl,hq⟩
      refine bj (kW xa ?_)
      have i4:=i3.push T hn xa m3
      by_cases d6:n-1=0
      .rw [if_pos (by simpa using d6)]
       exact bF ⟨⟨_,rfl⟩,.inl ⟨_,rfl,i4.z6 T (.inl d6)⟩⟩
      rw [if_neg (by simpa using d6)]
      have h6:1<=n-1:=I0 d6
      by_cases d7:(decide (cnt<7)&&decide (HG<7))=true
      .rw [if_pos d7]
       exact bF ⟨⟨_,rfl⟩,.inr ⟨_,_,_,_,_,_,rfl,i4,h6,hq,Md⟩⟩
      .rw [if_neg d7]
       exact bF ⟨⟨_,rfl⟩,_,_,_,_,_,_,rfl,i4,h6,hq,Md⟩
     .obtain ⟨i2,_,m1,m2⟩:=hR
      have i3:=(i2.sym.seg T.sym m1 m2).sym
      by_cases d5:m=1
      .rw [if_pos (by simpa using d5)]
       exact bF ⟨⟨_,rfl⟩,.inl ⟨_,rfl,i3.C2 T (by rw [d5];exact hf)⟩⟩
      rw [if_neg (by simpa using d5)]
      by_cases d8:m=0
      .rw [if_pos (by simpa using d8)]
       exact bF ⟨⟨_,rfl⟩,.inl ⟨_,rfl,i3.z6 T (.inr d8)⟩⟩
      rw [if_neg (by simpa using d8)]
      exact hF _ _ ⟨i3,rfl,UZ d5 d8⟩
    .obtain ⟨hJ,_,k1,k2⟩:=hR
     have i1:=hJ.seg T k1 k2
     by_cases d1:k=0
     .rw [if_pos (by simpa using d1)]
      exact bF ⟨⟨_,rfl⟩,.inl ⟨_,rfl,i1.z6 T (.inl d1)⟩⟩
     rw [if_neg (by simpa using d1)]
     exact hF _ _ ⟨i1,rfl,I0 d1⟩
   .obtain ⟨hg,ja,jb,out,mg,ac,bc,rfl,hJ,ga,gb,hp⟩:=hI
    exact ⟨hg,.inr ⟨_,_,_,_,_,_,rfl,hJ,ga,gb,‹_›⟩⟩
   .obtain ⟨⟨g,rfl⟩,⟨r,e,hr⟩ | ⟨ja,jb,out,mg,ac,bc,rfl,hJ,ga,gb,hp⟩⟩:=hI
    .obtain ⟨q1,q2⟩:=q
     dsimp only at e
     rw [e]
     exact bF ⟨⟨_,rfl⟩,_,rfl,hr⟩
    .dsimp only
     exact bj (Em (bF ⟨⟨_,rfl⟩,_,_,_,_,rfl,hJ,ga,gb,by lia⟩))
 .obtain ⟨_,na,nb,out,mg,rfl,hJ,ga,gb,hp⟩:=hI
  ext _ hp
 .obtain ⟨⟨g,rfl⟩,r,e,hr⟩:=hI
  rw [e]
  exact bF (h _ _ hr)
end
section
variable {prog:Program}{w:World}{A:Around}{E:Value->Shared->Prop}{s:Shared}{kd:SortKind}{κ:Keyed->Int}{C:Keyed->Prop}
theorem Wr{σ:Type}{M:Model}{Q:PUnit->σ->Prop}{st ao:σ}(h:Q ⟨⟩ ao):wpS M A E s (set ao:StateT σ Sem PUnit) Q st:=by
 unfold wpS
 rw [StateT.run_set]
 exact bE ⟨rfl,h⟩
theorem OH(e:arr.toList=P++R++S)(h:i<R.length):kv κ arr (P.length+i)=κ R[i]:=by
 unfold kv
 have:arr[P.length+i]?=some R[i]:=by
  rw [<-sy,e,kD,t9 (by ext),wY (by ext h)]
  simp [h]
 rw [this]
def vq(κ:Keyed->Int)(l:List Keyed):Prop:=(l.map κ).Nodup
theorem vq.ne{arr:Array Keyed}(h:vq κ arr.toList){i j:Nat}(hi:i<arr.size)(hj:j<arr.size)(iX:i≠j):κ arr[i]≠κ arr[j]:=λz=>by
 refine iX ((List.getElem_inj (h₀:=by simpa using hi) (h₁:=by simpa using hj) h).mp ?_)
 simpa using z
theorem vq.app(h:vq κ (l++m)):∀x∈l,∀y∈m,κ x≠κ y:=λx hx y hy z=>by
 unfold vq at h
 rw [qF,List.nodup_append] at h
 exact h.2.2 _ (rM.mpr ⟨x,hx,rfl⟩) _ (rM.mpr ⟨y,hy,rfl⟩) z
theorem EE{R:List Keyed}(h:dS κ R){i j:Nat}(iX:i<j)(hj:j<R.length):κ (R[i]'(by ext iX hj))<κ R[j]:=ya.mp h i j (by ext iX hj) hj iX
theorem RW(hk:Ask prog w s kd κ C){st:SortSt}(hd:kindOf st=kd)(hf:failedOf st=none){Q:Bool->SortSt->Prop}(e:(arrOf st).toList=P++R1++R2++S)(hC:∀x∈(arrOf st).toList,C x)(hD:vq κ (arrOf st).toList)
  (s1:dS κ R1)(s2:dS κ R2)(n1:R1≠[])(n2:R2≠[])(e1:(pendingOf st)[i]?=some (P.length,R1.length,pw))(e2:(pendingOf st)[i+1]?=some (P.length+R1.length,R2.length,p2))
  (h:∀ao R,kindOf ao=kd->failedOf ao=none->(arrOf ao).toList=P++R++S->dS κ R->R.Perm (R1++R2)->pendingOf ao=((pendingOf st).setIfInBounds i (P.length,R1.length+R2.length,pw)).eraseIdxIfInBounds (i+1)->Q true ao):wpS (model prog w) A E s (mergeAt' i) Q st:=by
 have l1:=DI.mpr n1
 have l2:=DI.mpr n2
 have hz:(arrOf st).size=P.length+R1.length+R2.length+S.length:=by rw [<-gh,e];simp only [dz]
 have eA:(arrOf st).toList=P++R1++(R2++S):=by rw [e,kD]
 have eB:(arrOf st).toList=(P++R1)++R2++S:=e
 have lB:(P++R1).length=P.length+R1.length:=dz ..
 have kA:∀j (hj:j<R1.length),kv κ (arrOf st) (P.length+j)=κ R1[j]:=λj hj=>OH eA hj
 have kB:∀j (hj:j<R2.length),kv κ (arrOf st) (P.length+R1.length+j)=κ R2[j]:=λj hj=>by rw [<-lB];exact OH eB hj
 have b0:P.length+R1.length<(arrOf st).size:=by ext l2 hz:1
 have L6:κ (arrOf st)[P.length+R1.length]=κ R2[0]:=by rw [<-k6 (κ:=κ) b0,<-kB 0 l2];rfl
 have aL:P.length+R1.length-1<(arrOf st).size:=by ext b0:1
 have L7:κ (arrOf st)[P.length+R1.length-1]=κ R1[R1.length-1]:=by rw [<-k6 (κ:=κ) aL,<-kA _ (by ext l1:1)];congr 1;ext l1:1
 have Dk:∀j (hj:j<(arrOf st).size),C (arrOf st)[j]:=λj hj=>hC _ (by simp)
 have z1:P.length+R1.length<=(arrOf st).size:=by ext b0:1
 have z2:P.length+R1.length+R2.length<=(arrOf st).size:=by ext hz:1
 have plain:(∀x∈R1,∀y∈R2,κ x<κ y)->dS κ (R1++R2):=λz=>qH.mpr ⟨s1,s2,z⟩
 unfold wpS
 wp_delta
 wp_delta
 wp_delta
 refine yr (Q:=Q) (bj (qg ?_))
 rw [e1,e2]
 dsimp only
 refine bj (Wr (bj (kW b0 (bj ?_))))
 refine Dl hk ?_ (Dk _ b0) z1 l1 (λj hj h1 h2=>⟨Dk j hj,hD.ne hj b0 (by ext h2:1)⟩) (λx y hx hy=>by rw [kA _ (by ext hx hy:1),kA _ hy];exact EE s1 hx hy) λk k1 k2 k3=>?_
 .exact hd
 dsimp only
 have c2:∀x∈R1.take k,∀y∈R2,κ x<κ y:=λx hx y hy=>by
  obtain ⟨j,hj,rfl⟩:=qm.mp hx
  obtain ⟨m,hm,rfl⟩:=qm.mp hy
  rw [mz] at hj
  have:=k2 j (by ext hj:1)
  rw [kA j (by ext hj:1),L6] at this
  rw [BD]
  by_cases c:m=0
  .subst c;exact this
  .have:=EE s2 (show 0<m by ext c:1) hm
   lia
 by_cases d1:R1.length-k=0
 .rw [if_pos (by simpa using d1)]
  refine bF (h _ (R1++R2) hd hf (by show (arrOf st).toList=_;rw [e];simp) (plain ?_) (t8 _) rfl)
  rw [Bw (by ext d1:1)] at c2
  exact c2
 rw [if_neg (by simpa using d1)]
 have ek:P.length+k+(R1.length-k)-1=P.length+R1.length-1:=by ext k1:1
 rw [ek]
 refine bj (kW aL (bj ?_))
 refine Dl hk ?_ (Dk _ aL) z2 (by ext l2:1) (λj hj h1 h2=>⟨Dk j hj,hD.ne hj aL (by ext l1 h1:1)⟩) (λx y hx hy=>by rw [kB _ (by ext hx hy:1),kB _ hy];exact EE s2 hx hy) λm m1 m2 m3=>?_
 .exact hd
 dsimp only
 have c3:∀x∈R2.drop m,∀y∈R1,κ y<κ x:=λx hx y hy=>by
  obtain ⟨j,hj,rfl⟩:=qm.mp hx
  obtain ⟨n,hn,rfl⟩:=qm.mp hy
  rw [rP] at hj
  have:=m3 (m+j) (by ext:1) (by ext hj:1)
  rw [kB _ (by ext hj:1),L7] at this
  rw [Ie]
  by_cases c:n=R1.length-1
  .subst c;exact this
  .have:=EE s1 (show n<R1.length-1 by ext hn c:1) (by ext l1:1)
   lia
 by_cases d2:m=0
 .rw [if_pos (by simpa using d2)]
  refine bF (h _ (R1++R2) hd hf (by show (arrOf st).toList=_;rw [e];simp) (plain λx hx y hy=>c3 y (by rw [d2];exact hy) x hx) (t8 _) rfl)
 rw [if_neg (by simpa using d2)]
 have eX:((arrOf st).extract (P.length+k) (P.length+R1.length)).toList=R1.drop k:=by
  rw [Ka,eA,Nl (by simp),<-lB,List.take_length,List.drop_append,yb (by ext:1),Io]
  congr 1
  ext:1
 have eY:((arrOf st).extract (P.length+R1.length) (P.length+R1.length+m)).toList=R2.take m:=by
  rw [O5,eB,kD,<-lB,List.drop_append,List.drop_length,Io,Bo,Dy,Nl m1]
 have zX:((arrOf st).extract (P.length+k) (P.length+R1.length)).size=R1.length-k:=by rw [<-gh,eX,rP]
 have zY:((arrOf st).extract (P.length+R1.length) (P.length+R1.length+m)).size=m:=by rw [<-gh,eY,mz];ext m1:1
 have Tg:∀x∈R1,C x:=λx hx=>hC x (by rw [e];simp [hx])
 have Tf:∀x∈R2,C x:=λx hx=>hC x (by rw [e];simp [hx])
 have fF:∀x∈R1,∀y∈R2,κ x≠κ y:=λx hx y hy=>by
  rw [eA] at hD
  exact hD.app x (by simp [hx]) y (by simp [hy])
 have T:jq κ C ((arrOf st).extract (P.length+k) (P.length+R1.length)) ((arrOf st).extract (P.length+R1.length) (P.length+R1.length+m)):=by
  refine ⟨?_,?_,?_,?_,?_⟩
  .rw [eX];exact yy s1 k
  .rw [eY];exact J0 s2 m
  .rw [eX];exact λx hx=>Tg x (ye hx)
  .rw [eY];exact λx hx=>Tf x (wZ hx)
  .rw [eX,eY];exact λx hx y hy=>fF x (ye hx) y (wZ hy)
 have gX:∀j (hj:j<((arrOf st).extract (P.length+k) (P.length+R1.length)).size),κ ((arrOf st).extract (P.length+k) (P.length+R1.length))[j]=κ (R1[k+j]'(by ext zX hj:1)):=λj hj=>by
  rw [<-Bt]
  simp only [eX,Ie]
 have gY:∀j (hj:j<((arrOf st).extract (P.length+R1.length) (P.length+R1.length+m)).size),κ ((arrOf st).extract (P.length+R1.length) (P.length+R1.length+m))[j]=κ (R2[j]'(by ext m1 zY hj:1)):=λj hj=>by
  rw [<-Bt]
  simp only [eY,BD]
 have pX:0<((arrOf st).extract (P.length+k) (P.length+R1.length)).size:=by ext d1 zX:1
 have pY:0<((arrOf st).extract (P.length+R1.length) (P.length+R1.length+m)).size:=by ext d2 zY:1
 have h0:κ ((arrOf st).extract (P.length+R1.length) (P.length+R1.length+m))[0]<κ ((arrOf st).extract (P.length+k) (P.length+R1.length))[0]:=by
  rw [gX 0 pX,gY 0 pY]
  have:=k3 k (bX _) (by ext zX pX:1)
  rw [kA k (by ext zX pX:1),L6] at this
  exact this
 have uN:∀x∈((arrOf st).extract (P.length+R1.length) (P.length+R1.length+m)).toList,κ x<κ R1[R1.length-1]:=λx hx=>by
  rw [eY] at hx
  obtain ⟨j,hj,rfl⟩:=qm.mp hx
  rw [mz] at hj
  have:=m2 j (by ext m1 zY hj:1)
  rw [kB j (by ext m1 zY hj:1),L7] at this
  rw [BD]
  exact this
 have rest:∀(r:Array Keyed) (g:Nat),Mg κ ((arrOf st).extract (P.length+k) (P.length+R1.length)) ((arrOf st).extract (P.length+R1.length) (P.length+R1.length+m)) r->Q true (Be (kindOf st) (r.toList.zipIdx.foldl (λa x=>match x with | (p,j)=>a.setIfInBounds (P.length+k+j) p) (arrOf st)) (((pendingOf st).setIfInBounds i (P.length,R1.length+R2.length,pw)).eraseIdxIfInBounds (i+1)) g (failedOf st)):=λr g hM=>by
  unfold Mg at hM
  rw [eX,eY] at hM
  obtain ⟨q1,q2⟩:=UA s1 s2 c2 c3 hM.1 hM.2
  refine h _ (R1.take k++r.toList++R2.drop m) hd hf ?_ q1 q2 rfl
  have hl:r.toList.length=(R1.drop k++R2.take m).length:=hM.2.length_eq
  have eP:(arrOf st).toList=(P++R1.take k)++(R1.drop k++R2.take m)++(R2.drop m++S):=by
   rw [e]
   have x1:R1=R1.take k++R1.drop k:=(qk ..).symm
   have x2:R2=R2.take m++R2.drop m:=(qk ..).symm
   generalize R1.take k=u at *
   generalize R1.drop k=u2 at *
   generalize R2.take m=v at *
   generalize R2.drop m=v2 at *
   rw [x1,x2]
   simp only [kD]
  have lP:(P++R1.take k).length=P.length+k:=by rw [dz,mz];ext hz lB k1:1
  have:=YC eP hl
  rw [lP] at this
  show (r.toList.zipIdx.foldl (λa x=>a.setIfInBounds (P.length+k+x.2) x.1) (arrOf st)).toList=_
  rw [this]
  simp only [kD]
 by_cases d3:R1.length-k<=m
 .rw [if_pos d3]
  refine bj ?_
  refine RU hk T ?_ pX pY h0 (λx hx y hy=>?_) λr g hM=>?_
  .exact hd
  .rw [eX,zX,List.drop_drop,show k+(R1.length-k-1)=R1.length-1 by ext l1 hz lB zX pX:1,sI (by ext l1 hz lB:1),show R1.length-1+1=R1.length by ext l1 hz lB:1,List.drop_length,nX] at hy
   rw [hy]
   exact uN x hx
  .refine bj (su (bj (qg (bF ?_))))
   have:=rest r g hM
   show Q (failedOf st).isNone _
   rw [hf]
   exact this
 .rw [if_neg d3]
  refine bj ?_
  refine RV hk T ?_ pX pY h0 (λx hx=>?_) λr g hM=>?_
  .exact hd
  .rw [gX _ (by ext zX pX:1)]
   have:=uN x hx
   simp only [zX,show k+(R1.length-k-1)=R1.length-1 by ext l1 hz lB zX pX:1]
   exact this
  .refine bj (su (bj (qg (bF ?_))))
   have:=rest r g hM
   show Q (failedOf st).isNone _
   rw [hf]
   exact this
end
section
variable {prog:Program}{w:World}{A:Around}{E:Value->Shared->Prop}{s:Shared}{kd:SortKind}{κ:Keyed->Int}{C:Keyed->Prop}
structure Bs(κ:Keyed->Int)(C:Keyed->Prop)(kd:SortKind)(st:SortSt)(lo:Nat)(ao:SortSt):Prop where
 perm:(arrOf ao).Perm (arrOf st)
 ahead:∀k,k<lo->(arrOf ao)[k]?=(arrOf st)[k]?
 rest:ao=setArr st (arrOf ao)
theorem Bs.refl{st:SortSt}{lo:Nat}:Bs κ C kd st lo st:=⟨MR _,λ_ _=>rfl,rfl⟩
theorem Bs.put{st ao:SortSt}{lo:Nat}(h:Bs κ C kd st lo ao){xs:Array Keyed}(hp:xs.Perm (arrOf ao))(ha:∀k,k<lo->xs[k]?=(arrOf ao)[k]?):Bs κ C kd st lo (setArr ao xs):=
 ⟨hp.trans h.perm,λk hk=>(ha k hk).trans (h.ahead k hk),by rw [h.rest]⟩
structure Al(κ:Keyed->Int)(C:Keyed->Prop)(kd:SortKind)(st:SortSt):Prop where
 kind:kindOf st=kd
 all:∀x∈(arrOf st).toList,C x
 dst:vq κ (arrOf st).toList
theorem Al.of{st ao:SortSt}(h:Al κ C kd st)(hp:(arrOf ao).Perm (arrOf st))(hk:kindOf ao=kd):Al κ C kd ao:=
 have p:=DZ.mp hp
 ⟨hk,λx hx=>h.all x (p.mem_iff.mp hx),(p.map κ).nodup_iff.mpr h.dst⟩
theorem Al.bs{st ao:SortSt}{lo:Nat}(h:Al κ C kd st)(b:Bs κ C kd st lo ao):Al κ C kd ao:=h.of b.perm (by rw [b.rest];exact h.kind)
theorem Al.ne{st:SortSt}(h:Al κ C kd st)(hi:i<(arrOf st).size)(hj:j<(arrOf st).size)(iX:i≠j):kv κ (arrOf st) i≠kv κ (arrOf st) j:=by
 rw [k6 hi,k6 hj]
 exact h.dst.ne hi hj iX
theorem BP(hk:Ask prog w s kd κ C){st:SortSt}(hA:Al κ C kd st){Q:Option Bool->SortSt->Prop}(hi:i<(arrOf st).size)(hj:j<(arrOf st).size)(iX:i≠j)(h:Q (some (decide (kv κ (arrOf st) i<kv κ (arrOf st) j))) st):wpS (model prog w) A E s (ltAt' i j) Q st:=by
 rw [ltAt'_eq]
 refine bj (qg ?_)
 show wpS _ _ _ _ (do let p <-elem' (arrOf st) i;let q <-elem' (arrOf st) j;lt' p q) Q st
 refine bj (kW hi (bj (kW hj ?_)))
 rw [k6 hi,k6 hj] at h
 exact Ab hk hA.kind (hA.all _ (by simp)) (hA.all _ (by simp)) (hA.dst.ne hi hj iX) h
def Up(κ:Keyed->Int)(xs:Array Keyed)(lo k:Nat):Prop:=∀i j,i<j->j<k->kv κ xs (lo+i)<kv κ xs (lo+j)
def Dn(κ:Keyed->Int)(xs:Array Keyed)(lo k:Nat):Prop:=∀i j,i<j->j<k->kv κ xs (lo+j)<kv κ xs (lo+i)
theorem Up.next{lo x:Nat}(h:Up κ xs lo x)(hx:1<=x)(hl:kv κ xs (lo+(x-1))<kv κ xs (lo+x)):Up κ xs lo (x+1):=λi j iX hj=>by
 by_cases c:j<x
 .exact h i j iX c
 .obtain rfl:j=x:=by ext hj c
  by_cases d:i=j-1
  .subst d;exact hl
  .have:=h i (j-1) (by ext iX d) (by ext hx);ext hl this
theorem Dn.next{lo x:Nat}(h:Dn κ xs lo x)(hx:1<=x)(hl:kv κ xs (lo+x)<kv κ xs (lo+(x-1))):Dn κ xs lo (x+1):=λi j iX hj=>by
 by_cases c:j<x
 .exact h i j iX c
 .obtain rfl:j=x:=by ext hj c
  by_cases d:i=j-1
  .subst d;exact hl
  .have:=h i (j-1) (by ext iX d) (by ext hx);ext hl this
theorem BK(hk:Ask prog w s kd κ C){st:SortSt}(hA:Al κ C kd st){lo a dj:Nat}{Q:Option (Option Nat)×Nat->SortSt->Prop}(hn:lo+dj<=(arrOf st).size)(ha:1<=a)(Mr:a<=dj)(hu:Up κ (arrOf st) lo a)
  (h:∀n,a<=n->n<=dj->Up κ (arrOf st) lo n->(n=dj\/n<dj/\kv κ (arrOf st) (lo+n)<kv κ (arrOf st) (lo+(n-1)))->Q (none,n) st):
  wpS (model prog w) A E s (forIn [a:dj] ((none,a):Option (Option Nat)×Nat) λ_ q=>ltAt' (lo+q.2) (lo+q.2-1) >>= λr=>match r with
   | some b=>if b=true then pure (Dz (none,q.2)) else pure (sA (none,q.2+1))
   | x=>pure (Dz (some none,q.2))) Q st:=by
 refine nV (λx c ao=>ao=st/\c=(none,x)/\Up κ (arrOf st) lo x) (λx c ao h1 h2 hI=>?_) (λc ao hI=>?_) ⟨rfl,rfl,hu⟩
 .obtain ⟨rfl,rfl,Ap⟩:=hI
  dsimp only
  rw [show lo+x-1=lo+(x-1) by ext ha h1]
  refine bj (BP hk hA (by ext h2 hn) (by ext h2 hn) (by ext ha h1) ?_)
  dsimp only
  by_cases c:kv κ (arrOf ao) (lo+x)<kv κ (arrOf ao) (lo+(x-1))
  .rw [if_pos (decide_eq_true c)]
   exact bF (h x h1 (by ext h2) Ap (.inr ⟨h2,c⟩))
  .rw [if_neg (by simpa using c)]
   have:=hA.ne (i:=lo+x) (j:=lo+(x-1)) (by ext h2 hn) (by ext h2 hn) (by ext ha h1)
   exact bF ⟨rfl,rfl,Ap.next (by ext ha h1) (by ext c this)⟩
 .obtain ⟨rfl,rfl,Ap⟩:=hI
  rw [show max a dj=dj by ext Mr] at Ap ⊢
  exact h dj Mr (bX _) Ap (.inl rfl)
theorem Oc{xs:Array Keyed}{lo n:Nat}(hn:lo+n<=xs.size)(k:Nat):kv κ (mirror xs lo (lo+n) ((lo+n-lo)/2)) (lo+k)=if k<n then kv κ xs (lo+(n-1-k)) else kv κ xs (lo+k):=by
 have e:=getElem?_mirror_all (i:=lo) hn (lo+k)
 by_cases h:k<n
 .rw [if_pos (by ext h),show lo+(lo+n)-1-(lo+k)=lo+(n-1-k) by ext h] at e
  rw [if_pos h];exact BO e
 .rw [if_neg (by ext h)] at e
  rw [if_neg h];exact BO e
theorem HF(hk:Ask prog w s kd κ C){st:SortSt}(hA:Al κ C kd st){lo dj:Nat}{Q:Option Nat->SortSt->Prop}(hn:lo+dj<=(arrOf st).size)(h1:1<=dj)
  (h:∀m ao,Bs κ C kd st lo ao->1<=m->m<=dj->Up κ (arrOf ao) lo m->Q (some m) ao):wpS (model prog w) A E s (countRun' lo dj) Q st:=by
 unfold wpS
 wp_delta
 wp_delta
 wp_delta
 refine yr (Q:=Q) (bj ?_)
 refine BK hk hA hn (bX 1) h1 (λi j _ _=>by lia) λn n1 n2 hu G1=>?_
 dsimp only
 by_cases c1:n=dj
 .rw [if_pos (by simpa using c1)]
  exact bF (h n st Bs.refl n1 n2 hu)
 rw [if_neg (by simpa using c1)]
 have cn:kv κ (arrOf st) (lo+n)<kv κ (arrOf st) (lo+(n-1)):=by ext G1 c1
 by_cases c2:n>1
 .rw [if_pos c2,show lo+n-1=lo+(n-1) by ext c2]
  refine bj (BP hk hA (by ext hn h1) (by ext hn n2 c2) (by ext c2) ?_)
  dsimp only
  have h0:=hu 0 (n-1) (by ext c2) (by ext c2)
  rw [Nat.add_zero] at h0
  rw [if_pos (decide_eq_true h0)]
  exact bF (h n st Bs.refl n1 n2 hu)
 rw [if_neg c2]
 obtain rfl:n=1:=by ext n1 c2
 refine bj (yh ?_)
 refine bj (nU (nV (λx c ao=>ao=st/\c=(none,x,0)/\Dn κ (arrOf st) lo x) (Q:=λc ao=>ao=st/\∃x,c=(none,x,0)/\2<=x/\x<=dj/\Dn κ (arrOf st) lo x) (λx c ao g1 g2 hI=>?_) (λc ao hI=>?_) ⟨rfl,rfl,λi j iX hj=>?_⟩) λc ao hI=>?_)
 .obtain ⟨rfl,rfl,hs⟩:=hI
  dsimp only
  rw [show lo+x-1=lo+(x-1) by ext g1]
  have fF:=hA.ne (i:=lo+x) (j:=lo+(x-1)) (by ext g2 hn) (by ext g2 hn) (by ext g1)
  refine bj (BP hk hA (by ext g2 hn) (by ext g2 hn) (by ext g1) ?_)
  dsimp only
  by_cases c:kv κ (arrOf ao) (lo+x)<kv κ (arrOf ao) (lo+(x-1))
  .rw [if_pos (decide_eq_true c),if_neg (by decide)]
   exact bF ⟨rfl,rfl,hs.next (by ext g1) c⟩
  .rw [if_neg (by simpa using c)]
   refine bj (BP hk hA (by ext g2 hn) (by ext g2 hn) (by ext g1) ?_)
   dsimp only
   rw [if_pos (decide_eq_true (by ext fF c))]
   exact bF ⟨rfl,x,rfl,‹_›,by ext g2,hs⟩
 .obtain ⟨rfl,rfl,hs⟩:=hI
  rw [show max (1+1) dj=dj by ext c1 G1] at hs ⊢
  exact ⟨rfl,dj,rfl,by ext c1 G1,by ext,hs⟩
 .obtain ⟨rfl,rfl⟩:i=0/\j=1:=by ext iX hj
  exact cn
 .obtain ⟨rfl,x,rfl,x1,x2,hs⟩:=hI
  dsimp only
  rw [if_neg (by decide)]
  refine bj (wpS_reverse ?_)
  have hb:Bs κ C kd ao lo (setArr ao (mirror (arrOf ao) lo (lo+x) ((lo+x-lo)/2))):=Bs.refl.put (mirror_perm _ _ _ _) λk hk=>by
   have e:=getElem?_mirror_all (xs:=arrOf ao) (i:=lo) (j:=lo+x) (by ext hn x2) k
   rw [if_neg (by ext hk)] at e
   exact e
  refine bj ?_
  refine BK hk (hA.bs hb) ?_ (by ext x1) x2 (λi j iX hj=>?_) λm m1 m2 hm _=>bF (h m _ hb (by ext x1 m1) m2 hm)
  .show lo+dj<=(mirror (arrOf ao) lo (lo+x) ((lo+x-lo)/2)).size
   rw [mirror_size]
   exact hn
  .show kv κ (mirror (arrOf ao) lo (lo+x) ((lo+x-lo)/2)) (lo+i)<kv κ (mirror (arrOf ao) lo (lo+x) ((lo+x-lo)/2)) (lo+j)
   rw [Oc (by ext hn x2),Oc (by ext hn x2),if_pos (by ext iX hj),if_pos hj]
   exact hs _ _ (by ext iX hj) (by ext hj)
theorem Jd(hk:Ask prog w s kd κ C){st:SortSt}(hA:Al κ C kd st){lo n ok:Nat}{Q:Bool->SortSt->Prop}(hn:lo+n<=(arrOf st).size)(bq:1<=ok)(SI:ok<=n)(hs:Up κ (arrOf st) lo ok)
  (h:∀ao,Bs κ C kd st lo ao->Up κ (arrOf ao) lo n->Q true ao):wpS (model prog w) A E s (binarySort' lo n ok) Q st:=by
 rw [binarySort'_eq]
 refine bj (nU (nV (λk c ao=>c=(none,())/\Bs κ C kd st lo ao/\Up κ (arrOf ao) lo k) (Q:=λc ao=>c=(none,())/\Bs κ C kd st lo ao/\Up κ (arrOf ao) lo n) (λk c ao g1 g2 hI=>?_) (λc ao hI=>?_) ⟨rfl,Bs.refl,?_⟩) λc ao hI=>?_)
 .obtain ⟨rfl,wb,se⟩:=hI
  have Mw:=hA.bs wb
  have hsz:(arrOf ao).size=(arrOf st).size:=wb.perm.size_eq
  refine bj (nU (nV (λx c js=>js=ao/\∃l r,c=(none,l,r)/\l<=r/\r<=k/\r-l<=k-x/\(∀i,i<l->kv κ (arrOf ao) (lo+i)<kv κ (arrOf ao) (lo+k))/\∀i,r<=i->i<k->kv κ (arrOf ao) (lo+k)<kv κ (arrOf ao) (lo+i))
   (Q:=λc js=>js=ao/\∃l r,c=(none,l,r)/\l<=k/\(∀i,i<l->kv κ (arrOf ao) (lo+i)<kv κ (arrOf ao) (lo+k))/\∀i,l<=i->i<k->kv κ (arrOf ao) (lo+k)<kv κ (arrOf ao) (lo+i)) (λx c js f1 f2 hJ=>?_) (λc js hJ=>?_) ⟨rfl,0,k,rfl,by ext,by ext,by ext,λi z=>by contradiction,λi z1 z2=>by ext z1 z2⟩) λc js hJ=>?_)
  .obtain ⟨rfl,l,r,rfl,j1,j2,j3,j4,j5⟩:=hJ
   dsimp only
   by_cases v8:l≥r
   .rw [if_pos v8]
    obtain rfl:l=r:=by ext j1 v8
    exact bF ⟨rfl,l,l,rfl,j2,j4,j5⟩
   .rw [if_neg v8]
    refine bj (BP hk Mw (by ext hn g2 hsz) (by lia) (by lia) ?_)
    dsimp only
    have fF:=Mw.ne (i:=lo+k) (j:=lo+(l+r)/2) (by ext hn g2 hsz) (by lia) (by lia)
    by_cases hl:kv κ (arrOf js) (lo+k)<kv κ (arrOf js) (lo+(l+r)/2)
    .rw [if_pos (decide_eq_true hl)]
     refine bF ⟨rfl,l,(l+r)/2,rfl,by lia,by lia,by lia,j4,λi z1 z2=>?_⟩
     by_cases hi:i=(l+r)/2
     .subst hi;exact hl
     .have:=se ((l+r)/2) i (by ext z1 hi) z2;ext hl this
    .rw [if_neg (by simpa using hl)]
     refine bF ⟨rfl,(l+r)/2+1,r,rfl,by lia,‹_›,by lia,λi z1=>?_,j5⟩
     by_cases hi:i=(l+r)/2
     .subst hi;ext fF hl
     .have:=se i ((l+r)/2) (by ext z1 hi) (by lia);ext hl this
  .obtain ⟨rfl,l,r,rfl,j1,j2,j3,j4,j5⟩:=hJ
   obtain rfl:l=r:=by ext j1 j3
   exact ⟨rfl,l,l,rfl,j2,j4,j5⟩
  .obtain ⟨rfl,l,r,rfl,j2,j4,j5⟩:=hJ
   show wpS _ _ _ _ (do moveDown' (lo+k) (lo+l);pure (sA (none,()))) _ _
   rw [moveDown'_eq]
   have G6:lo+k<(arrOf js).size:=by ext hn g2 hsz
   have Dj:=getElem?_bubble G6 (lo+k-(lo+l)) (by ext)
   refine bj (su (bF ⟨rfl,wb.put (bubble_perm _ _ _) λq hq=>?_,λi j iX hj=>?_⟩))
   .have e:=Dj q
    rw [if_neg (by ext hq),if_neg (by ext hq)] at e
    exact e
   have kb:∀m,kv κ (bubble (arrOf js) (lo+k) (lo+k-(lo+l))) (lo+m)=if m=l then kv κ (arrOf js) (lo+k) else if l<m/\m<=k then kv κ (arrOf js) (lo+(m-1)) else kv κ (arrOf js) (lo+m):=λm=>by
    have e:=Dj (lo+m)
    by_cases c1:m=l
    .rw [if_pos (by ext j2 c1)] at e;rw [if_pos c1];exact BO e
    .rw [if_neg (by ext j2 c1)] at e;rw [if_neg c1]
     by_cases c2:l<m/\m<=k
     .rw [if_pos (by ext c2),show lo+m-1=lo+(m-1) by ext c2] at e;rw [if_pos c2];exact BO e
     .rw [if_neg (by ext c2)] at e;rw [if_neg c2];exact BO e
   show kv κ (bubble (arrOf js) (lo+k) (lo+k-(lo+l))) (lo+i)<kv κ (bubble (arrOf js) (lo+k) (lo+k-(lo+l))) (lo+j)
   rw [kb,kb]
   repeat' split
   all_goals first
    | (exfalso;lia)
    | exact j4 _ (by lia)
    | exact j5 _ (by lia) (by ext iX hj)
    | exact se _ _ (by lia) (by lia)
 .obtain ⟨hc,wb,se⟩:=hI
  rw [show max (max ok 1) n=n by ext bq SI] at se
  exact ⟨hc,wb,se⟩
 .rw [show max ok 1=ok by ext bq];exact hs
 .obtain ⟨rfl,wb,se⟩:=hI
  exact bF (h ao wb se)
end
section
variable {prog:Program}{w:World}{A:Around}{E:Value->Shared->Prop}{s:Shared}{kd:SortKind}{κ:Keyed->Int}{C:Keyed->Prop}
structure St(κ:Keyed->Int)(C:Keyed->Prop)(kd:SortKind)(a₀:Array Keyed)(st:SortSt)(Rs:List (List Keyed)):Prop where
 perm:(arrOf st).Perm a₀
 kind:kindOf st=kd
 failed:failedOf st=none
 pre:(arrOf st).toList.take Rs.flatten.length=Rs.flatten
 le:Rs.flatten.length<=a₀.size
 uF:ou 0 Rs (pendingOf st).toList
 run:∀R∈Rs,R≠[]/\dS κ R
variable {a₀:Array Keyed}
structure Kn(κ:Keyed->Int)(C:Keyed->Prop)(a₀:Array Keyed):Prop where
 all:∀x∈a₀.toList,C x
 dst:vq κ a₀.toList
theorem St.al{st:SortSt}(h:St κ C kd a₀ st Rs)(k:Kn κ C a₀):Al κ C kd st:=
 have p:=DZ.mp h.perm
 ⟨h.kind,λx hx=>k.all x (p.mem_iff.mp hx),(p.map κ).nodup_iff.mpr k.dst⟩
theorem St.cnt{st:SortSt}(h:St κ C kd a₀ st Rs):(pendingOf st).size=Rs.length:=by rw [<-gh];exact h.uF.len
theorem Eo(hk:Ask prog w s kd κ C)(k:Kn κ C a₀){st:SortSt}(h:St κ C kd a₀ st (Xs++R1::R2::Ys))(hi:i=Xs.length){Q:Bool->SortSt->Prop}
  (hQ:∀ao R,St κ C kd a₀ ao (Xs++R::Ys)->(Xs++R::Ys).flatten.length=(Xs++R1::R2::Ys).flatten.length->(arrOf ao).toList.drop (Xs++R1::R2::Ys).flatten.length=(arrOf st).toList.drop (Xs++R1::R2::Ys).flatten.length->Q true ao):wpS (model prog w) A E s (mergeAt' i) Q st:=by
 have hz:(arrOf st).size=a₀.size:=h.perm.size_eq
 have eF:(Xs++R1::R2::Ys).flatten=Xs.flatten++R1++R2++Ys.flatten:=by simp
 have al:=h.al k
 have r1:=h.run R1 (by simp)
 have r2:=h.run R2 (by simp)
 obtain ⟨q1,q2⟩:=h.uF.split
 rw [Bp] at q2
 have tE:=h.uF.len
 generalize hp:(pendingOf st).toList=ps at *
 obtain ⟨u,v,pv,e3⟩:∃u v pv,ps.drop Xs.length=u::v::pv:=by
  match hd:ps.drop Xs.length,q2 with
  | u::v::pv,_=>exact ⟨u,v,pv,rfl⟩
 rw [e3] at q2
 obtain ⟨u1,u2,v1,v2,q3⟩:=q2
 have Hy:ps=ps.take Xs.length++u::v::pv:=by rw [<-e3,qk]
 have lt:(ps.take Xs.length).length=Xs.length:=by rw [mz,tE,dz];ext
 have g1:(pendingOf st)[i]?=some (Xs.flatten.length,R1.length,u.2.2):=by
  rw [<-sy,hp,Hy,t9 (by ext hi lt),lt,hi,Bo]
  show some u=_
  rw [<-u1,<-u2]
 have g2:(pendingOf st)[i+1]?=some (Xs.flatten.length+R1.length,R2.length,v.2.2):=by
  rw [<-sy,hp,Hy,t9 (by ext hi lt),lt,hi,IH]
  show some v=_
  rw [<-v1,<-v2]
 have eA:(arrOf st).toList=Xs.flatten++R1++R2++(Ys.flatten++(arrOf st).toList.drop (Xs++R1::R2::Ys).flatten.length):=by
  have:=qk (Xs++R1::R2::Ys).flatten.length (arrOf st).toList
  rw [h.pre] at this
  rw [<-kD,<-eF]
  exact this.symm
 refine RW hk h.kind h.failed eA al.all al.dst r1.2 r2.2 r1.1 r2.1 g1 g2 λao R a1 a2 a3 a4 a5 a6=>?_
 have lR:R.length=R1.length+R2.length:=by rw [a5.length_eq,dz]
 have Hz:(Xs++R::Ys).flatten=Xs.flatten++R++Ys.flatten:=by simp
 have lF:(Xs++R::Ys).flatten.length=(Xs++R1::R2::Ys).flatten.length:=by rw [eF,Hz];simp only [dz];ext lR
 refine hQ ao R ⟨?_,a1,a2,?_,by rw [lF];exact h.le,?_,λS hS=>?_⟩ lF ?_
 .refine Array.Perm.trans (DZ.mpr ?_) h.perm
  generalize (arrOf st).toList.drop (Xs++R1::R2::Ys).flatten.length=D at *
  rw [a3,eA]
  refine List.Perm.append_right _ ?_
  rw [kD Xs.flatten]
  exact a5.append_left _
 .rw [a3,Hz,<-kD,List.take_left]
 .have e6:(pendingOf ao).toList=ps.take Xs.length++(Xs.flatten.length,R1.length+R2.length,u.2.2)::pv:=by
   rw [a6,Array.toList_eraseIdxIfInBounds,Array.toList_setIfInBounds,hp,hi]
   conv=>lhs;rw [Hy]
   rw [List.set_append_right _ _ (by ext lt),lt,Bo,List.set_cons_zero,List.eraseIdx_append_of_length_le (by ext lt),lt,IH]
   rfl
  rw [e6]
  refine q1.app ?_
  rw [Bp]
  refine ⟨rfl,lR.symm,?_⟩
  rw [lR,<-HS]
  exact q3
 .rcases nu.mp hS with hS | hS
  .exact h.run S (yf _ hS)
  .rcases cf.mp hS with rfl | hS
   .refine ⟨λz=>?_,a4⟩
    rw [z] at lR
    have:=DI.mpr r1.1
    simp at lR
    ext lR this
   .exact h.run S (ql _ (by simp [hS]))
 .generalize (arrOf st).toList.drop (Xs++R1::R2::Ys).flatten.length=D at *
  rw [<-lF,a3,Hz,<-kD,List.drop_left]
theorem JK{Rs:List (List Keyed)}(h:2<=Rs.length):∃Xs R1 R2,Rs=Xs++R1::R2::[]/\Xs.length=Rs.length-2:=by
 refine ⟨Rs.take (Rs.length-2),Rs[Rs.length-2],Rs[Rs.length-1],?_,by rw [mz];ext:1⟩
 conv=>lhs;rw [<-qk (Rs.length-2) Rs]
 congr 1
 rw [sI (by ext h:1),sI (by ext h:1),yb (by ext:1)]
 simp only [show Rs.length-2+1=Rs.length-1 by ext h:1]
theorem UT{Rs:List (List Keyed)}(h:3<=Rs.length):∃Xs R1 R2 R3,Rs=Xs++R1::R2::[R3]/\Xs.length=Rs.length-3:=by
 refine ⟨Rs.take (Rs.length-3),Rs[Rs.length-3],Rs[Rs.length-2],Rs[Rs.length-1],?_,by rw [mz];ext:1⟩
 conv=>lhs;rw [<-qk (Rs.length-3) Rs]
 congr 1
 rw [sI (by ext h:1),sI (by ext h:1),sI (by ext h:1),yb (by ext:1)]
 simp only [show Rs.length-3+1=Rs.length-2 by ext h:1,show Rs.length-2+1=Rs.length-1 by ext h:1]
theorem OV{xs:Array Keyed}{lo n:Nat}(h:Up κ xs lo n)(hn:lo+n<=xs.size):dS κ ((xs.toList.drop lo).take n):=by
 refine ya.mpr λi j hi hj iX=>?_
 simp only [mz,rP,gh] at hi hj
 have:=h i j iX (by ext hj:1)
 rw [k6 (by ext hi:1),k6 (by ext hj:1)] at this
 simpa using this
theorem YG{xs ys:Array Keyed}{n:Nat}(h:∀k,k<n->xs[k]?=ys[k]?):xs.toList.take n=ys.toList.take n:=by
 refine Ih λk=>?_
 rw [ML,ML,sy,sy]
 split
 .exact h k ‹_›
 .rfl
theorem W8{Rs:List (List Keyed)}(h:∀R∈Rs,R≠[]):Rs.length<=Rs.flatten.length:=by
 induction Rs with
 | nil=>exact bX _
 | cons R Rs ih =>
  have:=ih λS hS=>h S (by simp [hS])
  have:=DI.mpr (h R (by simp))
  rw [DU,dz,jX]
  lia
theorem St.push{st:SortSt}(h:St κ C kd a₀ st Rs){ao:SortSt}(e1:arrOf ao=arrOf st)(e2:kindOf ao=kindOf st)(e3:failedOf ao=failedOf st)(hq:ou 0 Rs q)(e4:(pendingOf ao).toList=q++[(Rs.flatten.length,n,0)])
  (hn:1<=n)(hl:Rs.flatten.length+n<=a₀.size)(hs:dS κ (((arrOf st).toList.drop Rs.flatten.length).take n)):St κ C kd a₀ ao (Rs++[((arrOf st).toList.drop Rs.flatten.length).take n]):=by
 have hz:(arrOf st).toList.length=a₀.size:=by rw [gh];exact h.perm.size_eq
 have ln:(((arrOf st).toList.drop Rs.flatten.length).take n).length=n:=by rw [mz,rP];ext hl hz
 have eF:(Rs++[((arrOf st).toList.drop Rs.flatten.length).take n]).flatten=Rs.flatten++((arrOf st).toList.drop Rs.flatten.length).take n:=by simp
 have lF:(Rs++[((arrOf st).toList.drop Rs.flatten.length).take n]).flatten.length=Rs.flatten.length+n:=by rw [eF,dz,ln]
 refine ⟨by rw [e1];exact h.perm,by rw [e2];exact h.kind,by rw [e3];exact h.failed,?_,by rw [lF];exact hl,?_,λR hR=>?_⟩
 .rw [lF,e1,List.take_add,h.pre,eF]
 .rw [e4]
  refine hq.app ⟨?_,ln.symm,trivial⟩
  exact (Bp _).symm
 .rcases nu.mp hR with hR | hR
  .exact h.run R hR
  .rw [nX.mp hR]
   refine ⟨λz=>?_,hs⟩
   rw [z] at ln
   simp at ln
   ext hn ln
theorem ou.mod{α:Type}(f:Nat×Nat×Nat->Nat×Nat×Nat)(hf:∀x,(f x).1=x.1/\(f x).2.1=x.2.1):∀{o:Nat} {Rs:List (List α)} {ps:List (Nat×Nat×Nat)} (i:Nat),ou o Rs ps->ou o Rs (ps.modify i f)
 | _,[],[],i,_=>by cases i<;>exact trivial
 | o,R::Rs,p::ps,0,h=>⟨by rw [(hf p).1];exact h.1,by rw [(hf p).2];exact h.2.1,h.2.2⟩
 | o,R::Rs,p::ps,i+1,h=>⟨h.1,h.2.1,h.2.2.mod f hf i⟩
theorem St.weigh{st:SortSt}(h:St κ C kd a₀ st Rs){ao:SortSt}(hb:Bs κ C kd st Rs.flatten.length ao):St κ C kd a₀ ao Rs:=
 ⟨hb.perm.trans h.perm,by rw [hb.rest];exact h.kind,by rw [hb.rest];exact h.failed,by rw [YG hb.ahead];exact h.pre,h.le,by rw [hb.rest];exact h.uF,h.run⟩
theorem zq(hk:Ask prog w s kd κ C)(k:Kn κ C a₀){st:SortSt}{Q:Unit->SortSt->Prop}(h:St κ C kd a₀ st [])(h2:2<=a₀.size)
  (hQ:∀ao,(arrOf ao).Perm a₀->failedOf ao=none->dS κ (arrOf ao).toList->Q () ao):wpS (model prog w) A E s sortRuns' Q st:=by
 unfold wpS
 wp_delta
 wp_delta
 wp_delta
 refine yr (Q:=Q) (bj (qg ?_))
 dsimp only
 have hz:(arrOf st).size=a₀.size:=h.perm.size_eq
 simp only [hz]
 refine bj (nU (nV (λx c ao=>∃Rs:List (List Keyed),c=(none,Rs.flatten.length)/\St κ C kd a₀ ao Rs/\x<=Rs.flatten.length) (Q:=λc ao=>∃Rs:List (List Keyed),c=(none,Rs.flatten.length)/\St κ C kd a₀ ao Rs/\Rs.flatten.length=a₀.size) (λx c ao _ hx hI=>?_) (λc ao hI=>?_) ⟨[],rfl,h,bX _⟩) λc ao hI=>?_)
 .obtain ⟨Rs,rfl,hS,hp⟩:=hI
  dsimp only
  have hle:=hS.le
  by_cases c1:Rs.flatten.length≥a₀.size
  .rw [if_pos c1]
   exact bF ⟨Rs,rfl,hS,by ext hle c1⟩
  rw [if_neg c1]
  have GU:(arrOf ao).size=a₀.size:=hS.perm.size_eq
  refine bj ?_
  refine HF hk (hS.al k) (by ext c1 GU) (by ext c1) λm js hb m1 m2 hu=>?_
  dsimp only
  have S2:=hS.weigh hb
  have An:(arrOf js).size=a₀.size:=S2.perm.size_eq
  generalize (sortPriv% PySem.Builtin.minRun) a₀.size a₀.size 0 = mr
  by_cases c2:m<mr
  .rw [if_pos c2]
   refine bj (yh (bj ?_))
   generalize hF:min (a₀.size-Rs.flatten.length) mr=n
   refine Jd hk (S2.al k) (by ext c1 An hF) m1 (by ext m2 c2 hF) hu λlj S8 GY=>?_
   rw [if_neg (by decide)]
   have S3:=S2.weigh S8
   have n1:1<=n:=by ext m1 m2 c2 hF
   have n2:Rs.flatten.length+n<=a₀.size:=by ext c1 hF
   have GS:(arrOf lj).size=a₀.size:=S3.perm.size_eq
   have vY:=OV GY (by ext n2 GS)
   have l3:(((arrOf lj).toList.drop Rs.flatten.length).take n).length=n:=by rw [mz,rP,gh];ext n2 GS
   refine bj (qg ?_)
   cases S6:(pendingOf lj).back? with
   | none =>
    dsimp only
    refine bj (su (bF ⟨Rs++[((arrOf lj).toList.drop Rs.flatten.length).take n],?_,S3.push rfl rfl rfl S3.uF (va ..) n1 n2 vY,?_⟩))
    .rw [ve,dz,u9,l3]
    .rw [ve,dz,u9,l3]
     ext hp n1
   | some p =>
    obtain ⟨s1,vP,p3⟩:=p
    dsimp only
    refine bj (nU (nV (λx c ao=>c=(none,())/\∃Ts:List (List Keyed),St κ C kd a₀ ao Ts/\Ts.flatten.length=Rs.flatten.length/\(arrOf ao).toList.drop Rs.flatten.length=(arrOf lj).toList.drop Rs.flatten.length) (Q:=λc ao=>c=(none,())/\∃Ts:List (List Keyed),St κ C kd a₀ ao Ts/\Ts.flatten.length=Rs.flatten.length/\(arrOf ao).toList.drop Rs.flatten.length=(arrOf lj).toList.drop Rs.flatten.length) (λx c ao _ hx hI=>?_) (λc ao hI=>hI) ⟨rfl,Rs,S3,rfl,rfl⟩) λc ao hI=>?_)
    .obtain ⟨rfl,Ts,hT,hl,ha⟩:=hI
     refine bj (qg ?_)
     have hc:=hT.cnt
     simp only [hc]
     by_cases c3:Ts.length>1
     .rw [if_pos c3]
      cases hg:(pendingOf ao)[Ts.length-2]? with
      | none=>exact bF ⟨rfl,Ts,hT,hl,ha⟩
      | some p =>
       obtain ⟨p1,p2,p3⟩:=p
       dsimp only
       split
       .exact bF ⟨rfl,Ts,hT,hl,ha⟩
       .obtain ⟨Xs,R1,R2,rfl,hX⟩:=JK (Rs:=Ts) ‹_›
        refine bj ?_
        refine Eo hk k hT hX.symm λxw R wa uO tH=>?_
        rw [if_neg (by decide)]
        exact bF ⟨rfl,_,wa,uO.trans hl,by rw [hl] at tH;exact tH.trans ha⟩
     .rw [if_neg c3]
      exact bF ⟨rfl,Ts,hT,hl,ha⟩
    .obtain ⟨rfl,Ts,hT,hl,ha⟩:=hI
     dsimp only
     refine bj (su (bj (su (bF ⟨Ts++[((arrOf ao).toList.drop Ts.flatten.length).take n],?_,hT.push rfl rfl rfl (hT.uF.mod (λx=>(x.1,x.2.1,power' a₀.size (2*s1+vP) (2*s1+vP+vP+n) a₀.size)) (λ_=>⟨rfl,rfl⟩) ((pendingOf ao).size-1)) (by rw [hl];exact (va ..).trans (by rw [Nc];rfl)) n1 (by ext n2 hl) (by rw [hl,ha];exact vY),?_⟩))))
     .rw [ve,dz,u9,hl,ha,l3]
     .rw [ve,dz,u9,hl,ha,l3]
      ext hp n1
  .rw [if_neg c2]
   obtain ⟨n,rfl⟩:∃n,n=m:=⟨_,rfl⟩
   obtain ⟨lj,rfl⟩:∃lj,lj=js:=⟨_,rfl⟩
   have S3:=S2
   have GY:=hu
   have n1:1<=n:=by assumption
   have n2:Rs.flatten.length+n<=a₀.size:=by ext c1 m2
   have GS:(arrOf lj).size=a₀.size:=S3.perm.size_eq
   have vY:=OV GY (by ext An n2)
   have l3:(((arrOf lj).toList.drop Rs.flatten.length).take n).length=n:=by rw [mz,rP,gh];ext An n2
   refine bj (qg ?_)
   cases S6:(pendingOf lj).back? with
   | none =>
    dsimp only
    refine bj (su (bF ⟨Rs++[((arrOf lj).toList.drop Rs.flatten.length).take n],?_,S3.push rfl rfl rfl S3.uF (va ..) n1 n2 vY,?_⟩))
    .rw [ve,dz,u9,l3]
    .rw [ve,dz,u9,l3]
     ext hp m1
   | some p =>
    obtain ⟨s1,vP,p3⟩:=p
    dsimp only
    refine bj (nU (nV (λx c ao=>c=(none,())/\∃Ts:List (List Keyed),St κ C kd a₀ ao Ts/\Ts.flatten.length=Rs.flatten.length/\(arrOf ao).toList.drop Rs.flatten.length=(arrOf lj).toList.drop Rs.flatten.length) (Q:=λc ao=>c=(none,())/\∃Ts:List (List Keyed),St κ C kd a₀ ao Ts/\Ts.flatten.length=Rs.flatten.length/\(arrOf ao).toList.drop Rs.flatten.length=(arrOf lj).toList.drop Rs.flatten.length) (λx c ao _ hx hI=>?_) (λc ao hI=>hI) ⟨rfl,Rs,S3,rfl,rfl⟩) λc ao hI=>?_)
    .obtain ⟨rfl,Ts,hT,hl,ha⟩:=hI
     refine bj (qg ?_)
     have hc:=hT.cnt
     simp only [hc]
     by_cases c3:Ts.length>1
     .rw [if_pos c3]
      cases hg:(pendingOf ao)[Ts.length-2]? with
      | none=>exact bF ⟨rfl,Ts,hT,hl,ha⟩
      | some p =>
       obtain ⟨p1,p2,p3⟩:=p
       dsimp only
       split
       .exact bF ⟨rfl,Ts,hT,hl,ha⟩
       .obtain ⟨Xs,R1,R2,rfl,hX⟩:=JK (Rs:=Ts) ‹_›
        refine bj ?_
        refine Eo hk k hT hX.symm λxw R wa uO tH=>?_
        rw [if_neg (by decide)]
        exact bF ⟨rfl,_,wa,uO.trans hl,by rw [hl] at tH;exact tH.trans ha⟩
     .rw [if_neg c3]
      exact bF ⟨rfl,Ts,hT,hl,ha⟩
    .obtain ⟨rfl,Ts,hT,hl,ha⟩:=hI
     dsimp only
     refine bj (su (bj (su (bF ⟨Ts++[((arrOf ao).toList.drop Ts.flatten.length).take n],?_,hT.push rfl rfl rfl (hT.uF.mod (λx=>(x.1,x.2.1,power' a₀.size (2*s1+vP) (2*s1+vP+vP+n) a₀.size)) (λ_=>⟨rfl,rfl⟩) ((pendingOf ao).size-1)) (by rw [hl];exact (va ..).trans (by rw [Nc];rfl)) n1 (by ext n2 hl) (by rw [hl,ha];exact vY),?_⟩))))
     .rw [ve,dz,u9,hl,ha,l3]
     .rw [ve,dz,u9,hl,ha,l3]
      ext hp m1
 .obtain ⟨Rs,rfl,hS,hp⟩:=hI
  have hle:=hS.le
  exact ⟨Rs,rfl,hS,by ext hp hle⟩
 .obtain ⟨Rs,rfl,hS,hp⟩:=hI
  dsimp only
  have hr:Rs.length<=a₀.size:=by rw [<-hp];exact W8 λR hR=>(hS.run R hR).1
  refine bj (nU (nV (λx c ao=>c=(none,())/\∃Rs:List (List Keyed),St κ C kd a₀ ao Rs/\Rs.flatten.length=a₀.size/\Rs.length<=max 1 (a₀.size-x)) (Q:=λc ao=>c=(none,())/\∃Rs:List (List Keyed),St κ C kd a₀ ao Rs/\Rs.flatten.length=a₀.size/\Rs.length<=1) (λx c ao _ hx hI=>?_) (λc ao hI=>?_) ⟨rfl,Rs,hS,hp,by ext hr⟩) λc ao hI=>?_)
  .obtain ⟨rfl,Rs,hS,hp,hl⟩:=hI
   refine bj (qg ?_)
   have hc:=hS.cnt
   simp only [hc]
   by_cases c1:Rs.length<=1
   .rw [if_pos c1]
    exact bF ⟨rfl,Rs,hS,hp,c1⟩
   rw [if_neg c1]
   refine bj ?_
   have key:∀j,(j=Rs.length-2\/(3<=Rs.length/\j=Rs.length-3))->∀{Q:Bool->SortSt->Prop},(∀ao Ts,St κ C kd a₀ ao Ts->Ts.flatten.length=Rs.flatten.length->Ts.length+1=Rs.length->Q true ao)->wpS (model prog w) A E s (mergeAt' j) Q ao:=λj hj Q hq=>by
    rcases hj with rfl | ⟨h3,rfl⟩
    .obtain ⟨Xs,R1,R2,rfl,hX⟩:=JK (Rs:=Rs) (by ext c1)
     exact Eo hk k hS hX.symm λxw R wa uO _=>hq xw _ wa uO (by simp)
    .obtain ⟨Xs,R1,R2,R3,rfl,hX⟩:=UT (Rs:=Rs) ‹_›
     exact Eo hk k hS hX.symm λxw R wa uO _=>hq xw _ wa uO (by simp)
   refine key _ ?_ λxw Ts hT h1 h2=>?_
   .by_cases c2:Rs.length-2>0
    .rw [if_pos c2]
     split
     .exact .inr ⟨by ext c2,by ext⟩
     .exact .inl rfl
    .rw [if_neg c2]
     exact .inl rfl
   .rw [if_neg (by decide)]
    exact bF ⟨rfl,Ts,hT,by ext hp h1,by ext hl h2⟩
  .obtain ⟨rfl,Rs,hS,hp,hl⟩:=hI
   exact ⟨rfl,Rs,hS,hp,by ext hl⟩
  .obtain ⟨rfl,Rs,hS,hp,hl⟩:=hI
   refine bF (hQ _ hS.perm hS.failed ?_)
   have e:(arrOf ao).toList=Rs.flatten:=by
    have:=hS.pre
    rw [Bw (by rw [gh,hS.perm.size_eq];ext hp)] at this
    exact this
   rw [e]
   match Rs,hl,hS.run,hp with
   | [],_,_,hp=>exact t4
   | [R],_,hr,_ =>
    rw [DU,List.flatten_nil,sC]
    exact (hr R (by simp)).2
end
end SO
noncomputable def CC:Nat:=1600000
namespace TS
open PySem PyProof.Rows
noncomputable abbrev kTup:Bool → SortKind:=sortPriv% PySem.Builtin.KeyKind.tuples
section
variable {prog:Program}{w:World}{A:Around}{E:Value->Shared->Prop}{s:Shared}
noncomputable def kI(ky:Value->Int)(xs:Array Keyed)(i:Nat):Int:=match xs[i]? with
 | some p=>ky p.1
 | none=>0
structure TB(a₀:Array Keyed)(st:SortSt):Prop where
 perm:(arrOf st).Perm a₀
 kind:kindOf st=kTup true
 failed:failedOf st=none
 pend:pendingOf st=#[]
variable {ky:Value->Int}{a₀:Array Keyed}
def ZP(ky:Value->Int)(xs:Array Keyed)(k:Nat):Prop:=∀i j,i<j->j<k->kI ky xs i<kI ky xs j
theorem vI{vs:List Value}{xs:Array Keyed}(hp:xs.Perm (pairsOf vs))(hi:ZP ky xs (pairsOf vs).size):(xs.map (·.2)).toList.Perm vs/\(xs.map (·.2)).toList.Pairwise λx y=>ky x<ky y:=by
 have dY:=DZ.mp hp
 have hz:(vs.zip vs).map (·.2)=vs:=by rw [List.map_snd_zip];exact bX _
 have nP:∀p∈xs.toList,p.1=p.2:=λp qc=>by
  have:=dY.mem_iff.mp qc
  rw [xM] at this
  have key:∀(us:List Value) (p:Value×Value),p∈us.zip us->p.1=p.2:=λus=>by
   induction us with
   | nil=>intro p z;cases z
   | cons u us ih =>
    intro p z
    rcases cf.mp z with rfl | z
    .rfl
    .exact ih p z
  exact key vs p this
 rw [Array.toList_map]
 refine ⟨by have:=dY.map (·.2);rw [xM,hz] at this;exact this,?_⟩
 rw [Ic,ya]
 intro i j h1 h2 iX
 have hsz:xs.size=(pairsOf vs).size:=hp.size_eq
 have g:∀k (hk:k<xs.toList.length),kI ky xs k=ky (xs.toList[k]).2:=λk hk=>by
  have uP:k<xs.size:=by simpa using hk
  unfold kI
  rw [getElem?_pos _ k uP]
  have:=nP xs.toList[k] (tZ hk)
  show ky (xs[k]).1=_
  rw [<-this]
  simp
 rw [<-g i h1,<-g j h2]
 exact hi i j iX (by rw [<-hsz];simpa using h2)
end
end TS
namespace DL
open PySem PySem.Spec PyProof.Rows L2
section
variable {X:Cx}
noncomputable def GK:D->Option (Int×D)
 | .tup (.int k::ds)=>some (k,.tup (.int k::ds))
 | _=>none
noncomputable def NJ:List D->Option (List (Int×D))
 | []=>some []
 | d::ds=>(GK d).bind λk=>(NJ ds).map λks=>k::ks
noncomputable def Jv(ds:List D):Option (List D):=(NJ ds).bind λks=>if (ks.map (·.1)).Nodup/\ks.length<CC then some ((ks.mergeSort λa b=>decide (a.1<=b.1)).map (·.2)) else none
noncomputable def OK(f:En->Option Sl):En->Option Sl:=λenv=>(f env).bind λr=>match r.d with
 | .lst _ ds=>(Jv ds).map Sl.ow
 | _=>none
theorem Xc:cm X (.type "int") (λxs H Q=>∃b:Bool,xs=[.bl b]/\Q (.int (if b then 1 else 0)) H):=by
 intro pins s σ H xs vs Q I r h
 obtain ⟨b,rfl,q⟩:=h
 obtain ⟨u,rfl,ru⟩:=r.one
 cases ru
 exact call_int_bool ⟨.int _,H,I.tok _,⟨_,rfl⟩,q⟩
noncomputable def Eh(f:En->Option Sl):En->Option Sl:=λenv=>(mf (f env)).map λb=>.sh (.int (if b then 1 else 0))
theorem V1(hg:Gl X "int")(hm:X.mg "int" = none)(he:EV X e fa)(hs:starEach [e] X.env=[(false,eval e X.env)]:=by rfl):EV X (.Call (.Name "int" p) [e] [] pos) (Eh fa):=by
 obtain ⟨t,pt,k⟩:=he
 refine ⟨_,yx Xc hg hm (by decide +kernel) (oh pt pf hs) (by decide) (by decide) hs rfl,λO B σ H env s Q R e q=>?_⟩
 obtain ⟨b,e1,rfl⟩:=map_some e
 refine k O B σ H env _ _ R (ui e1) λv H1 s1 r1=>?_
 obtain rfl:=sJ r1
 exact ⟨b,rfl,q _ H1 s1 (Is.int _)⟩
end
end DL
namespace DL
open PySem PySem.Spec PyProof.Rows L2
section
variable {X:Cx}{N:List Str}{sc:Scope}{k:Nat}{full:Bool}{pos pos' p1 p2 p3 p4:Pos}{e c:Expr}{fa:En->Option Sl}{ga:En->Option Bool}
noncomputable def p8(i:Nat)(f:En->Option Sl):SF:=λenv=>match env[i]? with
 | some (.sh (.int m))=>match f env with
  | some (.sh (.int n))=>some (.nx,env.set i (.sh (.int (m+n))))
  | _=>none
 | _=>none
theorem Pu(h:p8 i f env=some y):∃m n,env[i]?=some (.sh (.int m))/\f env=some (.sh (.int n))/\y=(.nx,env.set i (.sh (.int (m+n)))):=by
 unfold p8 at h
 split at h
 .rename_i m e1
  split at h
  .rename_i n e2
   cases h
   exact ⟨m,n,e1,e2,rfl⟩
  .cases h
 .cases h
theorem Fx.aug(h:Fx X N sc k full)(i:Nat)(he:EV X e fa)(hN:N[i]?=some x:=by rfl)(hv:Loc sc x:=by first | exact cq rfl | exact bP rfl)
  (hf:full=true\/sc.names.lookup x=some .local:=by first | exact cq rfl | exact bP rfl):SV X (.AugAssign (.Name x pos') .Add e pos) (p8 i fa):=by
 obtain ⟨t,p,kk⟩:=he
 refine ⟨_,Vh h.xA (h.ix hN) (h.loc hv) p Uu (h.xu hf),λO B σ H env fl ah D R e q=>?_⟩
 obtain ⟨m,n,hi,e1,e2⟩:=Pu e
 cases e2
 obtain ⟨v,e3,hv⟩:=R.sh i _ hi
 obtain rfl:=oa hv
 refine ⟨_,e3,kk O B σ H env _ _ R e1 λv H1 s1 r1=>?_⟩
 obtain rfl:=oa r1
 refine ⟨m,n,rfl,rfl,?_⟩
 obtain ⟨R',g'⟩:=R.set (v:=.int (m+n)) (r:=.sh (.int (m+n))) s1 (Is.int (m+n)) (qK.mp hi).1
 exact q _ H1 R' g'
noncomputable def Ny(i j:Nat)(c:En->Option Bool)(f:En->Option Sl):SF:=λenv=>match env[i]? with
 | some (.ow ds)=>forL (gN j) (dI c (bf f) dW) ds env
 | _=>none
end
end DL
namespace DL
open PySem L2
def Wo{α:Type}(o:Option α)(Q:α->Prop):Prop:=∃a,o=some a/\Q a
section
variable {α β:Type}
theorem a0e{a:α}{Q:α->Prop}:Wo (some a) Q↔Q a:=⟨λ⟨_,e,h⟩=>by cases e;exact h,λh=>⟨a,rfl,h⟩⟩
theorem Wo_none:Wo (none:Option α) Q↔False:=⟨λ⟨_,e,_⟩=>(nomatch e),l'⟩
theorem a0h{o:Option α}{f:α->Option β}{Q:β->Prop}:Wo (o.bind f) Q↔Wo o λa=>Wo (f a) Q:=by
 cases o with
 | none=>simp [Wo]
 | some a=>simp [Wo]
theorem a07{o:Option α}{f:α->β}{Q:β->Prop}:Wo (o.map f) Q↔Wo o λa=>Q (f a):=by
 cases o with
 | none=>simp [Wo]
 | some a=>simp [Wo]
theorem mm{c:Prop}[Decidable c]{a:α}{Q:α->Prop}:Wo (if c then some a else none) Q↔c/\Q a:=by
 by_cases h:c
 .rw [if_pos h,a0e];exact ⟨λz=>⟨h,z⟩,λz=>z.2⟩
 .rw [if_neg h,Wo_none];exact ⟨l',λz=>h z.1⟩
theorem Wo.mono{o:Option α}{P Q:α->Prop}(h:Wo o P)(k:∀a,P a->Q a):Wo o Q:=let ⟨a,e,p⟩:=h;⟨a,e,k a p⟩
theorem Wo.eq{o:Option α}{a:α}(h:Wo o λx=>x=a):o=some a:=let ⟨_,e,p⟩:=h;by rw [e,p]
theorem j9{o:Option α}{P Q:α->Prop}(k:∀a,P a↔Q a):Wo o P↔Wo o Q:=⟨λh=>h.mono λa=>(k a).mp,λh=>h.mono λa=>(k a).mpr⟩
end
noncomputable def qX(G:SF)(Q:Fl×En->Prop):Fl×En->Prop
 | (.nx,e)=>Wo (G e) Q
 | p=>Q p
theorem a9c:qX G Q (.nx,e)↔Wo (G e) Q:=eR
theorem a9e:qX G Q (.bk,e)↔Q (.bk,e):=eR
theorem a9d:qX G Q (.ct,e)↔Q (.ct,e):=eR
theorem a9b:qX G Q (.rt r,e)↔Q (.rt r,e):=eR
theorem b6V:Wo (aG F G env) Q↔Wo (F env) (qX G Q):=by
 unfold aG
 cases h:F env with
 | none=>simp [Wo]
 | some p =>
  obtain ⟨fl,e⟩:=p
  rw [a0e]
  cases fl with
  | nx=>exact eR
  | bk=>rw [a9e];exact a0e
  | ct=>rw [a9d];exact a0e
  | rt r=>rw [a9b];exact a0e
theorem a0D:Wo (dI c F G env) Q↔Wo (c env) λb=>(b=true->Wo (F env) Q)/\(b=false->Wo (G env) Q):=by
 unfold dI
 cases h:c env with
 | none=>simp [Wo]
 | some b=>cases b<;>simp [a0e]
theorem Wo_nx:Wo (dW env) Q↔Q (.nx,env):=a0e
theorem Wo_bk:Wo (Ra env) Q↔Q (.bk,env):=a0e
theorem Wo_ct:Wo (Q9 env) Q↔Q (.ct,env):=a0e
theorem b2U:Wo (bf f env) Q↔Wo (f env) λr=>Q (.rt r,env):=a07
theorem b4A:Wo (zj env) Q↔Q (.rt (.sh .bo),env):=a0e
theorem b6U:Wo (e8 i f env) Q↔Wo (f env) λr=>i<env.length/\Q (.nx,env.set i r):=by
 unfold e8;rw [a0h];simp only [mm]
theorem b4w:Wo (de i f env) Q↔Wo (f env) λr=>i<env.length/\Q (.nx,env.set i (.sh r.d)):=by
 unfold de;rw [a0h];simp only [mm]
theorem b48{f:En->Option Sl}{env:En}{Q:Fl×En->Prop}:Wo (Jn f env) Q↔Wo (f env) λ_=>Q (.nx,env):=a07
noncomputable def n6:Option Sl->(Sl->Prop)->Prop
 | some (.sh d),Q=>Q (.sh d)
 | _,_=>False
theorem b4j:n6 (some (.sh d)) Q↔Q (.sh d):=eR
theorem Wo_eV:Wo (eV i env) Q↔n6 env[i]? Q:=by
 unfold eV
 cases env[i]? with
 | none=>simp [CS,n6,Wo]
 | some s=>cases s<;>simp [CS,n6,Wo]
theorem Wo_eC:Wo (eC d env) Q↔Q (.sh d):=a0e
theorem b7k:Wo (aa g fa fb env) Q↔Wo (fa env) λx=>Wo (fb env) λy=>Wo (g x.d y.d) Q:=by
 unfold aa;rw [a0h];simp only [a0h]
theorem b60:Wo (oX f env) Q↔Wo (f env) λx=>Wo (wm x.d) Q:=a0h
theorem b4G:Wo (wm (.int i)) Q↔Q (.sh (.int (-i))):=a0e
theorem b4M:Wo (bK (.int i) (.int j)) Q↔Q (.sh (.int (i+j))):=a0e
theorem b4E:Wo (gS (.int i) (.int j)) Q↔Q (.sh (.int (i-j))):=by rw [Ur,a0e]
theorem b4I:Wo (cw (.int i) (.int j)) Q↔MulC i j/\Q (.sh (.int (i*j))):=mm
theorem b4L:Wo (oW (.int i) (.int j)) Q↔DivC i j/\Q (.sh (.int (i/j))):=mm
theorem b4J:Wo (oV (.int i) (.int j)) Q↔0<j/\Q (.sh (.int (i%j))):=mm
theorem b4F:Wo (mZ (.int i) (.int j)) Q↔PowC i j/\Q (.sh (.int (i^j.toNat))):=mm
theorem b64:Wo (rD (.int i) (.int j)) Q↔Q (.sh (.bl (decide (i<j)))):=a0e
theorem b65:Wo (pN (.int i) (.int j)) Q↔Q (.sh (.bl (decide (i<=j)))):=a0e
theorem b66:Wo (Dm (.int i) (.int j)) Q↔Q (.sh (.bl (decide (j<i)))):=a0e
theorem b67:Wo (Tn (.int i) (.int j)) Q↔Q (.sh (.bl (decide (j<=i)))):=a0e
theorem b68:Wo (bU (.int i) (.int j)) Q↔Q (.sh (.bl (decide (i=j)))):=a0e
theorem b62:Wo (m6 (.int i) (.int j)) Q↔Q (.sh (.bl (!decide (i=j)))):=a0e
theorem b4K:Wo (bU (.bl i) (.bl j)) Q↔Q (.sh (.bl (decide (i=j)))):=a0e
theorem b4H:Wo (m6 (.bl i) (.bl j)) Q↔Q (.sh (.bl (!decide (i=j)))):=a0e
theorem b2c:Wo (bU (.int i) .bo) Q↔Q (.sh (.bl false)):=a0e
theorem b19:Wo (m6 (.int i) .bo) Q↔Q (.sh (.bl true)):=a0e
theorem b2b:Wo (bU .bo (.int i)) Q↔Q (.sh (.bl false)):=a0e
theorem b18:Wo (m6 .bo (.int i)) Q↔Q (.sh (.bl true)):=a0e
theorem b2a:Wo (bU .bo .bo) Q↔Q (.sh (.bl true)):=a0e
theorem b17:Wo (m6 .bo .bo) Q↔Q (.sh (.bl false)):=a0e
theorem b61:Wo (tM a .bo) Q↔Q (.sh (.bl a.cS)):=a0e
theorem b4B:Wo (AM a .bo) Q↔Q (.sh (.bl (!a.cS))):=a0e
theorem b2T:Wo (cj f env) Q↔Wo (f env) λr=>Wo (mf (some r)) Q:=by
 unfold cj
 cases f env with
 | none=>simp [mf,Wo]
 | some r=>rw [a0e]
theorem b7p:Wo (mf (some (.sh (.bl b)))) Q↔Q b:=a0e
theorem b4t:Wo (p5 f env) Q↔Wo (f env) λr=>Wo (mG r.d) Q:=a0h
theorem b4s:Wo (mG (.bl b)) Q↔Q b:=a0e
theorem b4r:Wo (mG (.int b)) Q↔Q (b != 0):=a0e
theorem b4o:Wo (mG (.tup ds)) Q↔Q (!ds.isEmpty):=a0e
theorem b4q:Wo (mG (.lst r ds)) Q↔Q (!ds.isEmpty):=a0e
theorem b4p:Wo (mG .bo) Q↔Q false:=a0e
theorem b11:Wo (NF f env) Q↔Wo (f env) λr=>Q (!r.2.isEmpty):=by
 unfold NF;rw [a0h];simp only [a0e]
theorem b4v:Wo (qp f g env) Q↔Wo (f env) λb=>(b=true->Wo (g env) Q)/\(b=false->Q false):=by
 unfold qp
 cases f env with
 | none=>simp [Wo]
 | some b=>cases b<;>simp [a0e]
theorem b6R:Wo (iM f g env) Q↔Wo (f env) λb=>(b=true->Q true)/\(b=false->Wo (g env) Q):=by
 unfold iM
 cases f env with
 | none=>simp [Wo]
 | some b=>cases b<;>simp [a0e]
theorem b4u:Wo (w6 f env) Q↔Wo (f env) λb=>Q (!b):=a07
theorem b46:Wo (qe f g env) Q↔Wo (f env) λr=>Wo (mf (some r)) λb=>(b=true->Wo (g env) Q)/\(b=false->Q (.sh (.bl false))):=by
 unfold qe
 cases f env with
 | none=>simp [Wo,mf]
 | some r =>
  rw [a0e]
  cases mf (some r) with
  | none=>simp [Wo]
  | some b=>cases b<;>simp [a0e]
theorem b7f:Wo (MD f g env) Q↔Wo (f env) λr=>Wo (mf (some r)) λb=>(b=true->Q (.sh (.bl true)))/\(b=false->Wo (g env) Q):=by
 unfold MD
 cases f env with
 | none=>simp [Wo,mf]
 | some r =>
  rw [a0e]
  cases mf (some r) with
  | none=>simp [Wo]
  | some b=>cases b<;>simp [a0e]
theorem b4W:Wo (rJ f env) Q↔Wo (f env) λr=>Wo (mf (some r)) λb=>Q (.sh (.bl !b)):=by
 unfold rJ
 cases f env with
 | none=>simp [Wo,mf]
 | some r=>rw [a0e,a07]
theorem b7i:Wo (wB c f g env) Q↔Wo (c env) λb=>(b=true->Wo (f env) Q)/\(b=false->Wo (g env) Q):=by
 unfold wB
 cases c env with
 | none=>simp [Wo]
 | some b=>cases b<;>simp [a0e]
theorem b5e:Wo (ar env) Q↔Q []:=a0e
theorem b2o:Wo (aq f g env) Q↔Wo (f env) λr=>Wo (g env) λds=>Q (r.d::ds):=by
 unfold aq;rw [a0h];simp only [a0h,a0e]
theorem b4S:Wo (eI f env) Q↔Wo (f env) λds=>ds.length<=16777216/\Q (.sh (.tup ds)):=by
 unfold eI;rw [a0h];simp only [mm]
theorem b4Z:Wo (cL f env) Q↔Wo (f env) λds=>ds.length<=16777216/\Q (.ow ds):=by
 unfold cL;rw [a0h];simp only [mm]
noncomputable def me:Option Sl->(Bool×List D->Prop)->Prop
 | some (.sh (.tup ds)),Q=>Q (false,ds)
 | some (.sh (.lst _ ds)),Q=>Q (true,ds)
 | some (.ow ds),Q=>Q (true,ds)
 | _,_=>False
theorem b6K:me (some (.sh (.tup ds))) Q↔Q (false,ds):=eR
theorem b6M:me (some (.sh (.lst r ds))) Q↔Q (true,ds):=eR
theorem b6L:me (some (.ow ds)) Q↔Q (true,ds):=eR
theorem Wo_bV:Wo (bV i env) Q↔me env[i]? Q:=by
 unfold bV
 cases env[i]? with
 | none=>simp [vF,me,Wo]
 | some s=>cases s with
  | no=>simp [vF,me,Wo]
  | dw ds=>simp [vF,me,Wo]
  | tw _ _=>simp [vF,me,Wo]
  | ow ds=>simp [vF,me,Wo]
  | sh d=>cases d<;>simp [vF,me,Wo,e7]
theorem b7l:Wo (jn f env) Q↔Wo (f env) λr=>Wo (e7 r.d) Q:=a0h
theorem b6S:Wo (e7 (.tup ds)) Q↔Q (false,ds):=a0e
theorem b6T:Wo (e7 (.lst r ds)) Q↔Q (true,ds):=a0e
theorem b40:Wo (nR f env) Q↔Wo (f env) λx=>Q (.sh (.int x.2.length)):=a07
theorem b2h:Wo (Jj f env) Q↔Wo (f env) λx=>Q (.ow x.2):=a07
theorem b0u:Wo (Es f env) Q↔Wo (f env) λx=>x.1=true/\Q (.sh (.tup x.2)):=by
 unfold Es;rw [a0h];simp only [mm]
def GN(xs:List D)(d:D)(Q:Sl->Prop):Prop:=match d with
 | .int i=>Wo (dt xs i) λd=>Q (.sh d)
 | _=>False
theorem ixQ_i:GN xs (.int i) Q↔Wo (dt xs i) λd=>Q (.sh d):=eR
theorem b7h:Wo (bD f g env) Q↔Wo (f env) λx=>Wo (g env) λy=>GN x.2 y.d Q:=by
 unfold bD
 rw [a0h]
 refine j9 λx=>?_
 rw [a0h]
 refine j9 λy=>?_
 unfold GN
 cases y.d<;>simp [a07,Wo_none]
theorem dZ{α:Type}{xs:List α}{n:Nat}:dt xs (n:Int)=xs[n]?:=by
 unfold dt lO
 rw [if_pos (by ext)]
 by_cases h:n<xs.length
 .rw [if_pos (by ext h)];simp
 .rw [if_neg (by ext h),Bu (by ext h)];rfl
theorem b6O{α:Type}{x:α}{xs:List α}:dt (x::xs) 0=some x:=dZ (n:=0)
theorem atI_1{α:Type}{x y:α}{xs:List α}:dt (x::y::xs) 1=some y:=dZ (n:=1)
theorem atI_2{α:Type}{x y z:α}{xs:List α}:dt (x::y::z::xs) 2=some z:=dZ (n:=2)
theorem atI_3{α:Type}{x y z u:α}{xs:List α}:dt (x::y::z::u::xs) 3=some u:=dZ (n:=3)
theorem b2j:Wo (c9 n φ fs env) Q↔Wo (fs env) λds=>ds.length=n/\Wo (φ ds) Q:=by
 unfold c9
 rw [a0h]
 have h:∀ds:List D,Wo (if ds.length=n then φ ds else none) Q↔ds.length=n/\Wo (φ ds) Q:=λds=>by
  by_cases h:ds.length=n<;>simp [h,Wo_none]
 simp only [h]
theorem b0w:Wo (xf g fs env) Q↔Wo (fs env) λds=>Wo (g ds) Q:=a0h
theorem b2m:Wo (w5 [.int i,.int j]) Q↔Q (.sh (.int (min i j))):=by
 have:(if j<i then j else i)=min i j:=by simp only [Int.min_def];split<;>split<;>lia
 unfold w5;rw [a0e,this]
theorem b2n:Wo (Ef [.int i,.int j]) Q↔Q (.sh (.int (max i j))):=by
 have:(if j>i then j else i)=max i j:=by simp only [Int.max_def];split<;>split<;>lia
 unfold Ef;rw [a0e,this]
theorem b41:Wo (tS T f env) Q↔Wo (f env) λr=>Wo (mS T r.d) Q:=a0h
theorem b1o:Wo (mS T (.bo)) Q↔Q (.sh (.bl (bL T (.bo)))):=a0e
theorem b3J:Wo (mS T (.bl b)) Q↔Q (.sh (.bl (bL T (.bl b)))):=a0e
theorem b1q:Wo (mS T (.int i)) Q↔Q (.sh (.bl (bL T (.int i)))):=a0e
theorem b1n:Wo (mS T (.str x)) Q↔Q (.sh (.bl (bL T (.str x)))):=a0e
theorem b1m:Wo (mS T (.tup ds)) Q↔Q (.sh (.bl (bL T (.tup ds)))):=a0e
theorem b1p:Wo (mS T (.lst r ds)) Q↔Q (.sh (.bl (bL T (.lst r ds)))):=a0e
noncomputable def bW(Q:Sl->Prop):Fl×En->Prop
 | (.rt r,_)=>Q r
 | (.nx,_)=>Q (.sh .bo)
 | _=>False
theorem b34:bW Q (.rt r,e)↔Q r:=eR
theorem b35:bW Q (.nx,e)↔Q (.sh .bo):=eR
theorem fZ:Wo (bJ F N ds) Q↔Wo (F (mD N ds)) (bW Q):=by
 unfold bJ
 cases F (mD N ds) with
 | none=>simp [Wo]
 | some p =>
  obtain ⟨fl,e⟩:=p
  rw [a0e]
  cases fl<;>simp [a0e,Wo_none,bW]
theorem b7a:Wo (kN f g F env) Q↔Wo (f env) λr=>Wo (e7 r.d) λx=>Wo (forL g F x.2 env) Q:=by
 unfold kN;rw [a0h];simp only [a0h]
theorem b4N:Wo (xc h f g F env) Q↔Wo (f env) λds=>Wo (h ds) λis=>Wo (forL g F is env) Q:=by
 unfold xc;rw [a0h];simp only [a0h]
theorem b4y:Wo (oK [.int j]) Q↔R62 j/\Q (di 0 j.toNat):=mm
theorem b4x:Wo (Gi [.int i,.int j]) Q↔(R62 i/\R62 j)/\Q (di i (j-i).toNat):=mm
noncomputable def ub(I:En->Prop)(Q:Fl×En->Prop):Fl×En->Prop
 | (.nx,e)=>I e
 | (.ct,e)=>I e
 | (.bk,e)=>Q (.nx,e)
 | (.rt r,e)=>Q (.rt r,e)
theorem b0B:ub I Q (.nx,e)↔I e:=eR
theorem b0C:ub I Q (.ct,e)↔I e:=eR
theorem b0D:ub I Q (.bk,e)↔Q (.nx,e):=eR
theorem b0A:ub I Q (.rt r,e)↔Q (.rt r,e):=eR
theorem yu{α:Type}(enc:α->D)(I:List α->En->Prop)(xs:List α)(turn:∀pre a post env,xs=pre++a::post->I pre env->Wo (g (enc a) env) λe=>Wo (F e) (ub (I (pre++[a])) Q))
  (done:∀env,I xs env->Q (.nx,env)):∀{env:En},I [] env->Wo (forL g F (xs.map enc) env) Q:=by
 have key:∀(post pre:List α) (env:En),xs=pre++post->I pre env->Wo (forL g F (post.map enc) env) Q:=by
  intro post
  induction post with
  | nil =>
   intro pre env e h
   rw [sC] at e
   subst e
   exact ⟨_,rfl,done env h⟩
  | cons a post ih =>
   intro pre env e h
   obtain ⟨e1,h1,p,h2,h3⟩:=turn pre a post env e h
   rw [dE]
   unfold forL
   rw [h1]
   dsimp only
   rw [h2]
   obtain ⟨fl,e2⟩:=p
   cases fl with
   | nx=>exact ih (pre++[a]) e2 (by rw [e,kD];rfl) h3
   | ct=>exact ih (pre++[a]) e2 (by rw [e,kD];rfl) h3
   | bk=>exact ⟨_,rfl,h3⟩
   | rt r=>exact ⟨_,rfl,h3⟩
 exact λ{env} h=>key xs [] env rfl h
theorem ED(lo:Int)(n:Nat)(I:Nat->En->Prop)(turn:∀(k:Nat) env,k<n->I k env->Wo (g (.int (lo+k)) env) λe=>Wo (F e) (ub (I (k+1)) Q))
  (done:∀env,I n env->Q (.nx,env))(h:I 0 env):Wo (forL g F (di lo n) env) Q:=by
 unfold di
 refine yu (λ(k:Nat)=>D.int (lo+(k:Int))) (λpre env=>I pre.length env) (o7 n) (λpre a post env e h=>?_) (λenv h=>done env (by simpa using h)) h
 have hl:=congrArg xO e
 have ha:(o7 n)[pre.length]?=some a:=by rw [e];simp
 simp at hl
 rw [List.getElem?_range (by ext hl)] at ha
 cases ha
 simpa using turn pre.length env (by ext hl) h
theorem b63:Wo (gN i d env) Q↔i<env.length/\Q (env.set i (.sh d)):=mm
theorem Wo_gT:Wo (gT n u (.tup ds) env) Q↔ds.length=n/\Wo (u ds env) Q:=by
 unfold gT
 by_cases h:ds.length=n<;>simp [h,Wo_none]
theorem b16:Wo (vf [] env) Q↔Q env:=a0e
theorem b0t:Wo (pW g u (d::ds) env) Q↔Wo (g d env) λe=>Wo (u ds e) Q:=a0h
theorem b7n:Wo (zo f g env) Q↔Wo (f env) λr=>Wo (g r.d env) λe=>Q (.nx,e):=by
 unfold zo;rw [a0h];simp only [a07]
noncomputable def b9:Option Sl->(List D->Prop)->Prop
 | some (.ow ds),Q=>Q ds
 | _,_=>False
theorem b6N:b9 (some (.ow ds)) Q↔Q ds:=eR
theorem b7q:Wo (kO i f env) Q↔b9 env[i]? λds=>Wo (f env) λr=>ds.length<16777216/\Q (.nx,env.set i (.ow (ds++[r.d]))):=by
 unfold kO
 cases env[i]? with
 | none=>simp [Wo_none,b9]
 | some s=>cases s with
  | no=>simp [Wo_none,b9]
  | dw d=>simp [Wo_none,b9]
  | tw _ _=>simp [Wo_none,b9]
  | sh d=>simp [Wo_none,b9]
  | ow ds=>dsimp only [b9];rw [a0h];simp only [mm]
def wu(env:En)(i:Nat)(ds:List D)(d:D)(Q:Fl×En->Prop):Prop:=match d with
 | .lst false es=>ds.length+es.length<=16777216/\Q (.nx,env.set i (.ow (ds++es)))
 | _=>False
theorem b6t:wu env i ds (.lst false es) Q↔ds.length+es.length<=16777216/\Q (.nx,env.set i (.ow (ds++es))):=eR
theorem b7b:Wo (nJ i f env) Q↔b9 env[i]? λds=>Wo (f env) λr=>wu env i ds r.d Q:=by
 unfold nJ
 cases env[i]? with
 | none=>simp [Wo_none,b9]
 | some s=>cases s with
  | no=>simp [Wo_none,b9]
  | dw d=>simp [Wo_none,b9]
  | tw _ _=>simp [Wo_none,b9]
  | sh d=>simp [Wo_none,b9]
  | ow ds =>
   dsimp only [b9];rw [a0h]
   refine j9 λr=>?_
   unfold wu
   cases r.d with
   | lst ro es=>cases ro<;>simp [mm,Wo_none]
   | _=>simp [Wo_none]
theorem b6X:Wo (qY i j env) Q↔b9 env[j]? λds=>Wo ds[ds.length-1]? λd=>(i<env.length/\i≠j)/\Q (.nx,(env.set j (.ow ds.dropLast)).set i (.sh d)):=by
 unfold qY
 cases env[j]? with
 | none=>simp [Wo_none,b9]
 | some s=>cases s with
  | no=>simp [Wo_none,b9]
  | dw d=>simp [Wo_none,b9]
  | tw _ _=>simp [Wo_none,b9]
  | sh d=>simp [Wo_none,b9]
  | ow ds=>dsimp only [b9];rw [a0h];simp only [mm]
def Jr(env:En)(i:Nat)(ds:List D)(d:D)(k:D)(Q:Fl×En->Prop):Prop:=match k with
 | .int n=>Wo (lO ds.length n) λj=>Q (.nx,env.set i (.ow (ds.set j d)))
 | _=>False
theorem b3H:Jr env i ds d (.int n) Q↔Wo (lO ds.length n) λj=>Q (.nx,env.set i (.ow (ds.set j d))):=eR
theorem b4C:Wo (yi i f g env) Q↔b9 env[i]? λds=>Wo (f env) λr=>Wo (g env) λk=>Jr env i ds r.d k.d Q:=by
 unfold yi
 cases env[i]? with
 | none=>simp [Wo_none,b9]
 | some s=>cases s with
  | no=>simp [Wo_none,b9]
  | dw d=>simp [Wo_none,b9]
  | tw _ _=>simp [Wo_none,b9]
  | sh d=>simp [Wo_none,b9]
  | ow ds =>
   dsimp only [b9];rw [a0h]
   refine j9 λr=>?_
   rw [a0h]
   refine j9 λk=>?_
   unfold Jr
   cases k.d<;>simp [a0h,a0e,Wo_none]
theorem UP:Wo (sZ i F env) Q↔Wo (F (rF i env)) Q:=eR
theorem AO(h:env[i]?=some (.ow ds)):rF i env=env.set i (.sh (.lst false ds)):=by unfold rF;rw [h]
noncomputable def BG(env:En):Option Sl->(Fl×En->Prop)->Prop
 | some (.ow ds),Q=>Q (.rt (.ow ds),env)
 | some (.dw ds),Q=>Q (.rt (.dw ds),env)
 | some (.tw ks ds),Q=>Q (.rt (.tw ks ds),env)
 | some (.sh d),Q=>Q (.rt (.sh d),env)
 | _,_=>False
theorem b4l:BG env (some (.ow ds)) Q↔Q (.rt (.ow ds),env):=eR
theorem b4k:BG env (some (.sh d)) Q↔Q (.rt (.sh d),env):=eR
theorem b4z:Wo (sM i env) Q↔BG env env[i]? Q:=by
 unfold sM
 cases env[i]? with
 | none=>simp [Wo_none,BG]
 | some s=>cases s<;>simp [Wo_none,a0e,BG]
theorem b6Z:Wo (zM env) Q↔Q none:=a0e
def pQ(d:D)(Q:Option Int->Prop):Prop:=match d with
 | .int i=>Q (some i)
 | _=>False
theorem pQ_i:pQ (.int i) Q↔Q (some i):=eR
theorem b6Y:Wo (uG f env) Q↔Wo (f env) λr=>pQ r.d Q:=by
 unfold uG
 rw [a0h]
 refine j9 λr=>?_
 unfold pQ
 cases r.d<;>simp [a0e,Wo_none]
theorem b7e:Wo (wz f lo hi env) Q↔Wo (f env) λx=>Wo (lo env) λl=>Wo (hi env) λh =>
  (x.1=true->Q (.ow (cutD x.2 l h)))/\(x.1=false->¬(HT.bZ x.2.length 0 l=0/\HT.bZ x.2.length x.2.length h=x.2.length)/\Q (.sh (.tup (cutD x.2 l h)))):=by
 unfold wz
 rw [a0h]
 simp only [a0h]
 have h:∀(x:Bool×List D) (l h:Option Int),Wo (if x.1=true then some (Sl.ow (cutD x.2 l h)) else if ¬(HT.bZ x.2.length 0 l=0/\HT.bZ x.2.length x.2.length h=x.2.length) then some (.sh (.tup (cutD x.2 l h))) else none) Q ↔
   (x.1=true->Q (.ow (cutD x.2 l h)))/\(x.1=false->¬(HT.bZ x.2.length 0 l=0/\HT.bZ x.2.length x.2.length h=x.2.length)/\Q (.sh (.tup (cutD x.2 l h)))):=λx l h=>by
  obtain ⟨k,ds⟩:=x
  cases k
  .simp only [xS,if_false,mm];simp
  .simp [a0e]
 simp only [h]
theorem Sl_sh:Sl.d (.sh d)=d:=rfl
theorem Sl_ow:Sl.d (.ow ds)=.lst false ds:=rfl
theorem b2f:Wo (bK (.lst false a) (.lst false b)) Q↔a.length+b.length<=16777216/\Q (.ow (a++b)):=mm
theorem b2d:Wo (bK (.tup a) (.tup b)) Q↔a.length+b.length<=16777216/\Q (.sh (.tup (a++b))):=mm
theorem b2e:Wo (bK (.str a) (.str b)) Q↔a.length+b.length<=16777216/\Q (.sh (.str (a++b))):=mm
theorem a7x :bL "int" .bo=false:=rfl
theorem a8K:bL "int" (.bl b)=true:=rfl
theorem a7z:bL "int" (.int i)=true:=rfl
theorem a7w:bL "int" (.str x)=false:=rfl
theorem a7v:bL "int" (.tup ds)=false:=rfl
theorem a7y:bL "int" (.lst r ds)=false:=rfl
theorem a6D :bL "bool" .bo=false:=rfl
theorem a7A:bL "bool" (.bl b)=true:=rfl
theorem a6F:bL "bool" (.int i)=false:=rfl
theorem a6C:bL "bool" (.str x)=false:=rfl
theorem a6B:bL "bool" (.tup ds)=false:=rfl
theorem a6E:bL "bool" (.lst r ds)=false:=rfl
theorem a7r :bL "str" .bo=false:=rfl
theorem a8J:bL "str" (.bl b)=false:=rfl
theorem a7t:bL "str" (.int i)=false:=rfl
theorem a7q:bL "str" (.str x)=true:=rfl
theorem a7p:bL "str" (.tup ds)=false:=rfl
theorem a7s:bL "str" (.lst r ds)=false:=rfl
theorem a6y :bL "list" .bo=false:=rfl
theorem a7u:bL "list" (.bl b)=false:=rfl
theorem a6A:bL "list" (.int i)=false:=rfl
theorem a6x:bL "list" (.str x)=false:=rfl
theorem a6w:bL "list" (.tup ds)=false:=rfl
theorem a6z:bL "list" (.lst r ds)=true:=rfl
theorem a5L :bL "tuple" .bo=false:=rfl
theorem a6v:bL "tuple" (.bl b)=false:=rfl
theorem a5N:bL "tuple" (.int i)=false:=rfl
theorem a5K:bL "tuple" (.str x)=false:=rfl
theorem a5J:bL "tuple" (.tup ds)=true:=rfl
theorem a5M:bL "tuple" (.lst r ds)=false:=rfl
theorem J7{α β:Type}{f:α->β}{xs:List α}{i:Int}(z:α)(h0:0<=i)(h:i<xs.length):dt (xs.map f) i=some (f (xs.getD i.toNat z)):=by
 unfold dt lO
 rw [dF,if_pos h0,if_pos h]
 have:i.toNat<xs.length:=by ext h0 h
 simp [this]
theorem a7L:Wo (forL g F [] env) Q↔Q (.nx,env):=a0e
theorem a6V:Wo (forL g F (d::ds) env) Q↔Wo (g d env) λe=>Wo (F e) (ub (λe=>Wo (forL g F ds e) Q) Q):=by
 rw [forL]
 cases g d env with
 | none=>simp [Wo_none]
 | some e =>
  rw [a0e]
  dsimp only
  cases F e with
  | none=>simp [Wo_none]
  | some p =>
   obtain ⟨fl,e2⟩:=p
   rw [a0e]
   cases fl<;>simp [ub,a0e]
theorem a9S:D.cS .bo=true:=rfl
theorem b1s:D.cS (.bl b)=false:=rfl
theorem a9U:D.cS (.int i)=false:=rfl
theorem a9R:D.cS (.str x)=false:=rfl
theorem a9Q:D.cS (.tup ds)=false:=rfl
theorem a9T:D.cS (.lst r ds)=false:=rfl
theorem Oo(xs:List Int){i:Int}(h0:0<=i)(h1:i<xs.length)(h:∀v∈xs,Q (.int v))(e:ds=xs.map D.int:=by rfl):Wo (dt ds i) Q:=by
 have hi:i.toNat<xs.length:=by ext h0 h1
 rw [e,J7 0 h0 h1,a0e,show xs.getD i.toNat 0=xs[i.toNat] by simp [hi]]
 exact h _ (tZ hi)
theorem b49:Wo (ny fi caps nt g fc fe env) Q↔Wo (fi env) λds=>Wo (l9 caps env) λcs=>ds.length<=16777216/\Wo (oA g fc fe ds (mC nt Sl.no++cs)) λrs=>Q (.ow rs):=by
 unfold ny
 rw [a0h]
 refine j9 λds=>?_
 rw [a0h]
 refine j9 λcs=>?_
 by_cases h:ds.length<=16777216
 .rw [if_pos h,a07];exact ⟨λz=>⟨h,z⟩,λz=>z.2⟩
 .rw [if_neg h,Wo_none];exact ⟨l',λz=>h z.1⟩
theorem b5b:Wo (l9 [] env) Q↔Q []:=a0e
theorem b5a:Wo (l9 (i::is) env) Q↔n6 env[i]? λs=>Wo (l9 is env) λcs=>Q (s::cs):=by
 rw [l9]
 cases h:env[i]? with
 | none=>simp [Wo_none,n6]
 | some s=>cases s<;>simp [Wo_none,n6,a07]
theorem rep0{l:En}:mC 0 Sl.no++l=l:=rfl
theorem rep1{l:En}:mC 1 Sl.no++l=Sl.no::l:=rfl
theorem rep2{l:En}:mC 2 Sl.no++l=Sl.no::Sl.no::l:=rfl
theorem rep3{l:En}:mC 3 Sl.no++l=Sl.no::Sl.no::Sl.no::l:=rfl
theorem rep4{l:En}:mC 4 Sl.no++l=Sl.no::Sl.no::Sl.no::Sl.no::l:=rfl
theorem b10:Wo (vg env) Q↔Q true:=a0e
theorem b2k:Wo (oA g fc fe [] e) Q↔Q []:=a0e
theorem b2l:Wo (oA g fc fe (d::ds) e) Q↔Wo (g d e) λe1=>Wo (fc e1) λb =>
  (b=true->Wo (fe e1) λr=>Wo (oA g fc fe ds e1) λrs=>Q (r.d::rs))/\(b=false->Wo (oA g fc fe ds e1) Q):=by
 rw [oA,a0h]
 refine j9 λe1=>?_
 rw [a0h]
 refine j9 λb=>?_
 cases b
 .rw [if_neg pV];simp
 .rw [if_pos rfl,a0h];simp only [a0h,a0e];simp
theorem b4Q:Wo (kT f env) Q↔Wo (f env) λr=>Wo (e7 r.d) λx=>Q x.2:=by
 unfold kT;rw [a0h];simp only [a07]
theorem b4R:Wo (wt h f env) Q↔Wo (f env) λds=>Wo (h ds) Q:=a0h
theorem b4P:Wo (zl f g F env) Q↔Wo (f env) λds=>Wo (forL g F ds env) Q:=a0h
theorem comp_map{α:Type}(enc:α->D)(f:α->D)(P:En->Prop)(xs:List α)
  (h:∀a∈xs,∀e,P e->Wo (g (enc a) e) λe1=>P e1/\Wo (fc e1) λb=>b=true/\Wo (fe e1) λr=>r.d=f a):∀{e:En},P e->oA g fc fe (xs.map enc) e=some (xs.map f):=by
 induction xs with
 | nil=>intro e _;rfl
 | cons a xs ih =>
  intro e he
  obtain ⟨e1,g1,p1,b,c1,rfl,r,f1,f2⟩:=h a kU e he
  rw [dE,oA,g1,sD,c1,sD,if_pos rfl,f1,sD,ih (λb hb=>h b (jo _ hb)) p1,f2]
  rfl
theorem nT{α:Type}(enc:α->D)(p:α->Bool)(f:α->D)(P:En->Prop)(xs:List α)
  (h:∀a∈xs,∀e,P e->Wo (g (enc a) e) λe1=>P e1/\Wo (fc e1) λb=>b=p a/\(p a=true->Wo (fe e1) λr=>r.d=f a)):∀{e:En},P e->oA g fc fe (xs.map enc) e=some ((xs.filter p).map f):=by
 induction xs with
 | nil=>intro e _;rfl
 | cons a xs ih =>
  intro e he
  obtain ⟨e1,g1,p1,b,c1,rfl,k⟩:=h a kU e he
  have L9:=ih (λb hb=>h b (jo _ hb)) p1
  rw [dE,oA,g1,sD,c1,sD]
  cases hp:p a with
  | true =>
   obtain ⟨r,f1,f2⟩:=k hp
   rw [if_pos rfl,f1,sD,L9,f2,MV hp]
   rfl
  | false=>rw [if_neg pV,L9,Na (by simp [hp])]
theorem b4U:Wo (tR f env) Q↔Wo (f env) λx=>Wo (n8 x.2) λns=>Q (.sh (.int ns.sum)):=by
 unfold tR;rw [a0h];simp only [a07]
theorem b47:Wo (A6 f env) Q↔Wo (f env) λx=>Wo (jV x.2) λns=>Q (.sh (.bl (ns.all id))):=by
 unfold A6;rw [a0h];simp only [a07]
theorem b45:Wo (A5 f env) Q↔Wo (f env) λx=>Wo (jV x.2) λns=>Q (.sh (.bl (ns.any id))):=by
 unfold A5;rw [a0h];simp only [a07]
theorem b4X:Wo (A3 f env) Q↔Wo (f env) λx=>Wo (n8 x.2) λns=>ns≠[]/\Q (.sh (.int (z5 ns))):=by
 unfold A3;rw [a0h];simp only [a0h,mm]
theorem b4Y:Wo (A4 f env) Q↔Wo (f env) λx=>Wo (n8 x.2) λns=>ns≠[]/\Q (.sh (.int (z7 ns))):=by
 unfold A4;rw [a0h];simp only [a0h,mm]
theorem b4D:Wo (n8 (ns.map D.int)) Q↔Q ns:=by rw [Ko,a0e]
theorem b7j:Wo (jV (ns.map D.bl)) Q↔Q ns:=by rw [OS,a0e]
theorem b14:Wo (n8 []) Q↔Q []:=a0e
theorem b15:Wo (n8 (.int i::ds)) Q↔Wo (n8 ds) λns=>Q (i::ns):=by
 show Wo ((n8 ds).map (i::·)) Q↔_
 rw [a07]
theorem b5c:Wo (jV []) Q↔Q []:=a0e
theorem b5d:Wo (jV (.bl i::ds)) Q↔Wo (jV ds) λns=>Q (i::ns):=by
 show Wo ((jV ds).map (i::·)) Q↔_
 rw [a07]
theorem Ki{α:Type}[DecidableEq α]{n:Nat}{enc:α->D}(h:∀x y,bp n (enc x) (enc y)=some (decide (x=y))):∀(xs ys:List α),∃bs,eN (qI (bp n) (xs.map enc) (ys.map enc))=some bs/\(bs.all id&&decide (xs.length=ys.length))=decide (xs=ys)
 | [],[]=>⟨[],rfl,rfl⟩
 | [],y::ys=>⟨[],rfl,by simp⟩
 | x::xs,[]=>⟨[],rfl,by simp⟩
 | x::xs,y::ys=>by
  obtain ⟨bs,e,k⟩:=Ki h xs ys
  refine ⟨decide (x=y)::bs,?_,?_⟩
  .simp only [dE,IZ,h,eN,e,xV]
  .rw [HR,Bool.and_assoc]
   have:decide ((x::xs).length=(y::ys).length)=decide (xs.length=ys.length):=by simp
   rw [this,k]
   simp only [id,List.cons.injEq,Bool.decide_and]
theorem Wn{α:Type}[DecidableEq α]{n:Nat}{enc:α->D}(h:∀x y,bp n (enc x) (enc y)=some (decide (x=y)))(xs ys:List α):bp (n+1) (.tup (xs.map enc)) (.tup (ys.map enc))=some (decide (xs=ys)):=by
 obtain ⟨bs,e,k⟩:=Ki h xs ys
 simp only [bp,e,xV,dF,k]
theorem WR{α:Type}{xs:List α}{x:α}:dt (xs++[x]) (-1)=some x:=by
 unfold dt lO
 rw [if_neg (by decide),if_pos (by rw [dz,IY];ext),dz,IY]
 have:(-1+((xs.length+1:Nat):Int)).toNat=xs.length:=by ext
 rw [this]
 simp
theorem Km(I:Nat->En->Prop)(turn:∀n env,I n env->Wo (c env) λb=>(b=true->Wo (F env) (ub (λe=>∃m,m<n/\I m e) Q))/\(b=false->Q (.nx,env))):
  ∀(fuel n:Nat) {env:En},n<fuel->I n env->Wo (sS c F fuel env) Q
 | 0,n,env,h,_=>absurd h (Bh _)
 | fuel+1,n,env,h,hI=>by
  obtain ⟨b,e1,h1,h2⟩:=turn n env hI
  rw [sS,e1]
  cases b with
  | false=>exact ⟨_,rfl,h2 rfl⟩
  | true =>
   obtain ⟨⟨fl,e2⟩,e3,h3⟩:=h1 rfl
   dsimp only
   rw [e3]
   cases fl with
   | nx=>obtain ⟨m,hm,Hj⟩:=h3;exact Km I turn fuel m (by ext h hm) Hj
   | ct=>obtain ⟨m,hm,Hj⟩:=h3;exact Km I turn fuel m (by ext h hm) Hj
   | bk=>exact ⟨_,rfl,h3⟩
   | rt r=>exact ⟨_,rfl,h3⟩
theorem WQ:Wo (JC m c F env) Q↔Wo (sS c F (m env) env) Q:=eR
noncomputable def lY{α:Type}(xs:List α)(lo hi:Option Int):List α:=(xs.drop (HT.bZ xs.length 0 lo)).take (HT.bZ xs.length xs.length hi-HT.bZ xs.length 0 lo)
theorem EN{α:Type}{f:α->D}(xs:List α)(lo hi:Option Int):cutD (xs.map f) lo hi=(lY xs lo hi).map f:=by
 unfold cutD lY
 rw [dF,<-List.map_drop,<-List.map_take]
theorem Ov{α:Type}(xs:List α){n:Nat}:lY xs none (some (n:Int))=xs.take n:=by
 unfold lY
 rw [HT.sY,HT.qZ]
 simp only [Nat.sub_zero,Dy]
 by_cases h:n<=xs.length
 .rw [Nat.min_eq_left h]
 .rw [Nat.min_eq_right (by ext h),Bw (bX _),Bw (by ext h)]
theorem rK{α:Type}{xs:List α}{lo hi:Option Int}:(lY xs lo hi).Sublist xs:=by
 unfold lY
 exact (Ik _ _).trans (List.drop_sublist _ _)
theorem b13:Wo (Ek [.int j]) Q↔Q (di 0 j.toNat):=a0e
theorem b12:Wo (zw [.int i,.int j]) Q↔Q (di i (j-i).toNat):=a0e
def F6(d:D)(l h:Option Int)(Q:Sl->Prop):Prop:=match d with
 | .tup ds=>Q (.sh (.tup (cutD ds l h)))
 | _=>False
theorem slQ_t:F6 (.tup ds) l h Q↔Q (.sh (.tup (cutD ds l h))):=eR
theorem b4V:Wo (A1 f lo hi env) Q↔Wo (f env) λx=>Wo (lo env) λl=>Wo (hi env) λh=>F6 x.d l h Q:=by
 unfold A1
 simp only [a0h]
 refine j9 λx=>j9 λl=>j9 λh=>?_
 unfold F6
 cases x.d<;>simp [a0e,Wo_none]
theorem b1V:Wo (sR [.tup a,.tup b]) Q↔Q (qR a b):=a0e
theorem b1W:Wo (sR [.tup a,.lst r b]) Q↔Q (qR a b):=a0e
theorem b1X:Wo (sR [.lst r a,.tup b]) Q↔Q (qR a b):=a0e
theorem b1Y:Wo (sR [.lst r a,.lst r' b]) Q↔Q (qR a b):=a0e
def BJ(i:Nat)(env:En)(a b:Sl)(Q:Fl×En->Prop):Prop:=match a,b with
 | .sh (.int m),.sh (.int n)=>Q (.nx,env.set i (.sh (.int (m+n))))
 | _,_=>False
theorem b6J:BJ i env (.sh (.int m)) (.sh (.int n)) Q↔Q (.nx,env.set i (.sh (.int (m+n)))):=eR
theorem b7m:Wo (p8 i f env) Q↔n6 env[i]? λa=>Wo (f env) λr=>BJ i env a r Q:=by
 constructor
 .rintro ⟨y,e,h⟩
  obtain ⟨m,n,e1,e2,rfl⟩:=Pu e
  rw [e1];exact ⟨_,e2,h⟩
 .intro h
  cases hi:env[i]? with
  | none=>rw [hi] at h;exact h.elim
  | some s =>
   rw [hi] at h
   cases s with
   | no=>exact h.elim
   | ow ds=>exact h.elim
   | dw ds=>exact h.elim
   | tw _ _=>exact h.elim
   | sh d =>
    obtain ⟨r,e1,h⟩:=h
    cases d with
    | int m =>
     cases r with
     | sh d2 =>
      cases d2 with
      | int n=>exact ⟨_,by unfold p8;rw [hi,e1],h⟩
      | _=>exact h.elim
     | _=>exact h.elim
    | _=>exact h.elim
theorem b4O:Wo (Ny i j c f env) Q↔b9 env[i]? λds=>Wo (forL (gN j) (dI c (bf f) dW) ds env) Q:=by
 unfold Ny
 cases h:env[i]? with
 | none=>simp [Wo_none,b9]
 | some s=>cases s<;>simp [Wo_none,b9]
def F3(d:D)(Q:Sl->Prop):Prop:=match d with
 | .lst _ ds=>Wo (Jv ds) λrs=>Q (.ow rs)
 | _=>False
theorem srQ_l:F3 (.lst r ds) Q↔Wo (Jv ds) λrs=>Q (.ow rs):=eR
theorem a8V:Wo (OK f env) Q↔Wo (f env) λr=>F3 r.d Q:=by
 unfold OK
 rw [a0h]
 refine j9 λr=>?_
 cases r.d<;>simp [F3,Wo_none,a07]
theorem b2i:Wo (Eh f env) Q↔Wo (f env) λr=>Wo (mf (some r)) λb=>Q (.sh (.int (if b=true then 1 else 0))):=by
 unfold Eh
 cases f env with
 | none=>simp [Wo,mf]
 | some r=>rw [a0e,a07]
end DL
namespace DL
theorem oE(h:-(10^250)<=i)(h2:i<=10^250)(h3:-(10^250)<=j)(h4:j<=10^250):MulC i j:=.inr (.inr ⟨⟨h,h2⟩,h3,h4⟩)
theorem JR(h:0<j)(h2:j<=10^250):DivC i j:=⟨h,h2⟩
end DL
namespace DL
open PySem PySem.Spec PyProof.Rows L2
def Tr(h:Heap)(e T:Addr)(c:Value):Prop:=∃oe vs a0 oT ts,h.get? e=some oe/\(oe.cls=c/\vs[0]?=some a0)/\oe.data=.fields vs/\vs[1]?=some (.ref T)/\T≠e/\h.get? T=some oT/\oT.data=.fields ts/\ts[3]?=some .none
structure Lies(h0:Heap)(H:Hp)(h:Heap)(e:Addr)(c:Value):Prop where
 new:h0.get? e=none
 un:H e=none
 tr:∃T,h0.get? T=none/\H T=none/\Tr h e T c
structure Moved(H:Hp)(l:List Env)(ex:List Addr)(h h':Heap):Prop where
 un:Un (qD l) ex H H h h'
section
variable {P:Program}{w:World}{K:aI}{mg:Str->Option Value}{base:Heap}{N:List Str}{qual:Str}{scope:Scope}{f:Addr}{cd:Value}{A:Around}{outer:List Env}{s:Shared}{H:Hp}{E:XK}
end
end DL
namespace DL
open PySem PySem.Spec PyProof.Rows L2
noncomputable abbrev RF:=En->Option (Str×En)
section
variable {X:Cx}{W:L2.St->Hp->Value->Prop}{e a b c:Expr}{es:List Expr}{st:Stmt}{rest sa sb:List Stmt}{F G:SF}{r r':RF}{re:En->Option Str}{fa:En->Option Sl}{ga:En->Option Bool}{fs:En->Option (List D)}{pos p be np:Pos}
noncomputable def JB:SF:=λ_=>none
theorem Xx:SV X st JB:=⟨λ_ _ _=>False,λ_ _ _ _ _ _ h=>h.elim,λ_ _ _ _ _ _ _ _ _ e _=>by cases e⟩
theorem EV.jm(h:EV X.jm e fa):EV X e fa:=let ⟨t,p,k⟩:=h;⟨t,p.jm,k⟩
theorem TV.jm(h:TV X.jm e ga):TV X e ga:=let ⟨t,p,k⟩:=h;⟨t,p.jm,k⟩
theorem oq.jm(h:oq X.jm rest F):oq X rest F:=let ⟨t,p,k⟩:=h;⟨t,p.jm,k⟩
theorem SV.jm(h:SV X.jm st F):SV X st F:=let ⟨t,p,k⟩:=h;⟨t,λpins s σ H D I hw=>nG (p pins s σ H D (I.gk _) hw) (λ_ _ q=>q.cK) λ_ _ z=>l' z,k⟩
theorem AV.jm(h:AV X.jm es fs):AV X es fs:=let ⟨t,p,k⟩:=h;⟨t,λpo pins s σ H Q I hw=>nG (p po pins s σ H Q (I.gk _) hw) (λ_ _ ⟨v,H',I',r,q⟩=>⟨v,H',I'.cK,r,q⟩) λ_ _ z=>l' z,k⟩
end
noncomputable abbrev yQ:List Value:=[.type "ValueError",.type "Exception",.type "BaseException",.type "object"]
structure ZQ(K:aI)(C:Addr):Prop where
 ob:∃(bm:List Value) (N:Addr) (nm q:Str) (bs:List Value) (Hc:Bool) (sn:List Str) (sub:List Value) (ab:Bool) (col:Option Bool) (dd:Option Addr) (k0 k1 k2 k3 k5:Option Value),K.lookup C=some (excClassObj nm q C N bs bm Hc sn sub ab col dd k0 k1 k2 k3 k5 "ValueError.__new__") /\
  PySem.W.nsOkIn K N=true/\gg K N "__init__" = some none/\PySem.W.tailIn K yQ bm=true
section
variable {X:Cx}{W:L2.St->Hp->Value->Prop}{e:Expr}{es:List Expr}{fs:En->Option (List D)}{pos p be np:Pos}{x:Str}{C:Addr}
end
section
variable {P:Program}{w:World}{K:aI}{mg:Str->Option Value}{base:Heap}
end
end DL
namespace DL
open PySem PySem.Spec PyProof.Rows L2
section
variable {X:Cx}{pins:List (Addr×Obj)}{σ:L2.St}{H:Hp}{s:Shared}{h':Heap}
end
theorem Rel.drop{K:aI}{O:Addr->Prop}{B H:Hp}{σ:L2.St}{env:En}(R:Rel K O B σ H env)(i:Nat):Rel K O B (σ.set i none) H (env.set i .no)/\Gd σ env H (σ.set i none) (env.set i .no) H:=by
 have own:∀q,mo (σ.set i none) (env.set i .no) q->mo σ env q:=λq ⟨j,ds,e1,o,e2⟩=>by
  by_cases hj:j=i
  .subst hj
   rw [Ij] at e1
   simp at e1
   rw [<-e1.2] at o
   exact o.elim
  .rw [dQ (jW hj)] at e1 e2
   exact ⟨j,ds,e1,o,e2⟩
 have oo:∀q,OO O (σ.set i none) (env.set i .no) q->OO O σ env q:=λq z=>z.elim .inl λz=>.inr (own q z)
 have at_:∀{j:Nat} {x:Sl},(env.set i .no)[j]?=some x->x≠.no->j≠i/\env[j]?=some x:=λ{j x} e hx=>by
  by_cases hj:j=i
  .subst hj
   rw [Ij] at e
   simp at e
   exact absurd e.2.symm hx
  .rw [dQ (jW hj)] at e
   exact ⟨hj,e⟩
 refine ⟨⟨R.same,R.o6,by simp [R.len],λj d e=>?_,λj ds e=>?_,λj ds e=>?_,λj ks ds e=>?_,λj k ds es p e1 e2 e3 e4 o1 o2=>?_⟩,λq u e n=>⟨e,λz=>n (own q z)⟩⟩
 .obtain ⟨hj,e⟩:=at_ e (λz=>nomatch z)
  obtain ⟨v,e1,h⟩:=R.sh j d e
  exact ⟨v,by rw [dQ (jW hj)];exact e1,h.less oo⟩
 .obtain ⟨hj,e⟩:=at_ e (λz=>nomatch z)
  obtain ⟨p,xs,e1,e2,e3,h⟩:=R.ow j ds e
  exact ⟨p,xs,by rw [dQ (jW hj)];exact e1,e2,e3,h.less oo⟩
 .obtain ⟨hj,e⟩:=at_ e (λz=>nomatch z)
  obtain ⟨p,e1,e2,e3⟩:=R.dw j ds e
  exact ⟨p,by rw [dQ (jW hj)];exact e1,e2,e3⟩
 .obtain ⟨hj,e⟩:=at_ e (λz=>nomatch z)
  obtain ⟨p,xs,e1,e2,e3,e4,h⟩:=R.tw j ks ds e
  exact ⟨p,xs,by rw [dQ (jW hj)];exact e1,e2,e3,e4,h.less oo⟩
 .obtain ⟨hj,e1⟩:=at_ e1 (λz=>by rw [z] at o1;exact o1)
  obtain ⟨hk,e2⟩:=at_ e2 (λz=>by rw [z] at o2;exact o2)
  rw [dQ (jW hj)] at e3
  rw [dQ (jW hk)] at e4
  exact R.sep j k ds es p e1 e2 e3 e4 o1 o2
end DL
namespace DL
open PySem PySem.Spec PyProof.Rows L2
structure Hx(X:Cx)(N:List Str)(sc:Scope):Prop where
 n:X.N=N
 sc:X.env.scope=sc
 fn:∀x,X.fn x=true
 nd:N.Nodup
section
variable {X:Cx}{N:List Str}{sc:Scope}{k i:Nat}{n Cn:Str}{hc:Value}{body LL:List Stmt}{b0:Stmt}{Fb Fh:SF}{rb:RF}{hit:Str->Bool}{np SA pos:Pos}
end
end DL
namespace DL
open PySem PySem.W PySem.Spec PySem.Calls PyProof.Rows L2 PySem.Builtin.ObjectAttr PySem.Builtin PySem.Builtin.Getset_descriptor
section
variable {prog:Program}{w:World}{A:Around}{E:Value->Shared->Prop}{s:Shared}{K:Frag}{x C:Addr}
structure LH(K:Frag)(C:Addr):Prop where
 ga:findIn K (.ref C) "__getattribute__" = some (some (.builtin "BaseException.__getattribute__"))
 no:findIn K (.ref C) "__getattr__" = some none
 at_:findIn K (.ref C) "__class__" = some (some (.builtin "object.__class__"))
 get:specialIn K (.builtin "object.__class__") "__get__" = some (some (.builtin "getset_descriptor.__get__"))
 tk:takesIn K (.builtin "object.__class__")=some true
 mro:mroIn K C (.type "object")=some true
 mrB:mroIn K C (.type "BaseException")=some true
end
section
variable {X:Cx}{a:Expr}{pos p p2:Pos}{fa:En->Option Sl}
end
section
variable {X:Cx}{N:List Str}{sc:Scope}{pos p p1 p2 pos' be:Pos}{e a b:Expr}{fa fb:En->Option Sl}
theorem Hx.v(h:Hx X N sc)(i:Nat)(hN:N[i]?=some x:=by rfl)(hv:iJ sc x:=by first | exact cq rfl | exact bP (cq rfl) | exact bP (bP rfl))(hd:(x==("__debug__":Str))=false:=by rfl)
  (cu:(x==("__classdict__":Str))=false:=by rfl):EV X (.Name x pos) (eV i):=N5 i (by rw [h.n];exact hN) (by rw [h.sc];exact hv) hd cu
theorem Hx.g(h:Hx X N sc)(hg:sc.names.lookup x=some .globalImplicit:=by rfl):Gl X x:=by
 show X.env.kindOf x=some .globalImplicit
 unfold Env.kindOf
 rw [h.sc]
 exact hg
theorem Hx.set(h:Hx X N sc)(i:Nat)(he:EV X e fa)(hN:N[i]?=some x:=by rfl)(hv:Loc sc x:=by first | exact cq rfl | exact bP rfl)
  (hs:swapsWith e (some (.Name x pos')) pos.line X.env=pure false:=by rfl):SV X (.Assign [.Name x pos'] e pos) (e8 i fa):=NU (by rw [h.n];exact h.nd) (by rw [h.n];exact hN) (by rw [h.sc];exact hv) he hs (.inl (h.fn x))
theorem Hx.app(h:Hx X N sc)(i:Nat)(ha:EV X e fa)(hN:N[i]?=some x:=by rfl)(hv:iJ sc x:=by first | exact cq rfl | exact bP (cq rfl) | exact bP (bP rfl))(hd:(x==("__debug__":Str))=false:=by rfl)
  (cu:(x==("__classdict__":Str))=false:=by rfl)(hs:starEach [e] X.env=[(false,eval e X.env)]:=by rfl)
  (cC:attributeBase (.Name x p1) "append" X.env (eval (.Name x p1) X.env)=eval (.Name x p1) X.env:=by rfl)
  (kS:((backTo be (starEach [e] X.env)).all (λx=>!x.1)&&(backToKw be (keywordEach [] X.env)).all (λx=>x.1.isSome)
   && decide ([e].length+([]:List Keyword).length+(if ([]:List Keyword).isEmpty then 0 else 1)<30))=true:=by rfl)
  (cB:(p2.endLine==be.line)=true:=by rfl)
  (tz:swapsWith (.Call (.Attribute (.Name x p1) "append" p2) [e] [] be) none pos.line X.env=pure false:=by rfl):
  SV X (.Expr (.Call (.Attribute (.Name x p1) "append" p2) [e] [] be) pos) (kO i fa):=PY ha (by rw [h.n];exact hN) (by rw [h.sc];exact hv) hd cu hs cC kS cB tz
end
structure Cl(K:Frag)(mg:Str->Option Value)(x:Str)(C:Addr):Prop where
 ns:nsIn K mainGlobals x=some (some (.ref C))
 m:mg x=some (.ref C)
 ck:LH K C
 cd:(clsIn K C).isSome=true
theorem Fx.jm{X:Cx}{N:List Str}{sc:Scope}{k:Nat}{full:Bool}(h:Fx X N sc k full):Fx X.jm N sc k full:=⟨h.n,h.sc,h.calm,h.fn,Bi,h.room,h.nd,h.top⟩
theorem Hx.bR{X:Cx}{N:List Str}{sc:Scope}{pos pos':Pos}{e:Expr}{fa:En->Option Sl}(h:Hx X N sc)(i:Nat){x:Str}(he:EV X e fa)(hN:N[i]?=some x:=by rfl)(hv:Loc sc x:=by first | exact cq rfl | exact bP rfl)
  (hs:swapsWith e (some (.Name x pos')) pos.line X.env=pure false:=by rfl):SV X (.Assign [.Name x pos'] e pos) (de i fa):=OZ (by rw [h.n];exact h.nd) (by rw [h.n];exact hN) (by rw [h.sc];exact hv) he hs (.inl (h.fn x))
theorem b0r:Wo (JB env) Q↔False:=Wo_none
end DL
namespace DL
open PySem PySem.Spec PyProof.Rows L2
section
variable {X:Cx}{a b c:Expr}{pos:Pos}{fa fb fc:En->Option Sl}
theorem J4(ho:k8 X (compareOp op) g)(k4:k8 X (compareOp rh) g')(ha:EV X a fa)(hb:EV X b fb)(hc:EV X c fc)(hm:lastMarks [op,rh] [b,c]=false:=by with_unfolding_all rfl):
  TV X (.Compare a [op,rh] [b,c] pos) (qp (cj (aa g fa fb)) (cj (aa g' fb fc))):=by
 obtain ⟨r,hr,hg⟩:=ho
 obtain ⟨r',G0,Az⟩:=k4
 obtain ⟨ta,pa,ka⟩:=ha
 obtain ⟨tb,pb,kb⟩:=hb
 obtain ⟨tc,pc,kc⟩:=hc
 refine ⟨_,Xm hr G0 pa pb pc hm,λO B σ H env k Q R e q=>?_⟩
 unfold qp at e
 cases e1:cj (aa g fa fb) env with
 | none=>rw [e1] at e;cases e
 | some b1 =>
  rw [e1] at e
  obtain ⟨x,ex,e3⟩:=bind_some (ui e1)
  obtain ⟨y,ey,e4⟩:=bind_some e3
  refine ka O B σ H env x _ R ex λv H1 s1 h1=>?_
  refine kb O B σ H1 env y _ (R.grow s1) ey λu H2 s2 h2=>?_
  have R2:=(R.grow s1).grow s2
  refine hg (OO O σ env) H2 v u x.d y.d _ _ (λq=>R2.oo) ((h1.is λq=>R.oo).grow s2) (h2.is λq=>(R.grow s1).oo) e4 λw H3 s3 h3=>?_
  refine ⟨b1,sJ h3,?_⟩
  cases b1 with
  | false =>
   cases e
   rw [if_neg (by decide)]
   exact ⟨false,rfl,q H3 ((s1.trans s2).trans s3)⟩
  | true =>
   rw [if_pos rfl]
   obtain ⟨y',AX,e5⟩:=bind_some (ui e)
   rw [ey] at AX
   cases AX
   obtain ⟨z,ez,e6⟩:=bind_some e5
   have R3:=R2.grow s3
   refine kc O B σ H3 env z _ R3 ez λw' H4 s4 h4=>?_
   have R4:=R3.grow s4
   refine Az (OO O σ env) H4 u w' y.d z.d _ _ (λq=>R4.oo) (((h2.is λq=>(R.grow s1).oo).grow s3).grow s4) (h4.is λq=>R3.oo) e6 λw2 H5 s5 h5=>?_
   exact ⟨k,sJ h5,q H5 ((((s1.trans s2).trans s3).trans s4).trans s5)⟩
end
end DL
namespace DL
open PySem PySem.Spec PyProof.Rows L2
section
variable {X:Cx}{a b c:Expr}{pos:Pos}{fa fb fc:En->Option Sl}
noncomputable def tT(f:En->Option Bool):En->Option Sl:=λenv=>(f env).map λb=>.sh (.bl b)
theorem W4(ho:k8 X (compareOp op) g)(k4:k8 X (compareOp rh) g')(ha:EV X a fa)(hb:EV X b fb)(hc:EV X c fc)(hm:lastMarks [op,rh] [b,c]=false:=by with_unfolding_all rfl):
  EV X (.Compare a [op,rh] [b,c] pos) (tT (qp (cj (aa g fa fb)) (cj (aa g' fb fc)))):=by
 obtain ⟨r,hr,hg⟩:=ho
 obtain ⟨r',G0,Az⟩:=k4
 obtain ⟨ta,pa,ka⟩:=ha
 obtain ⟨tb,pb,kb⟩:=hb
 obtain ⟨tc,pc,kc⟩:=hc
 refine ⟨_,XG hr G0 pa pb pc hm,λO B σ H env k Q R e q=>?_⟩
 obtain ⟨bb,e',rfl⟩:=map_some e
 clear e
 have e:=e'
 clear e'
 unfold qp at e
 cases e1:cj (aa g fa fb) env with
 | none=>rw [e1] at e;cases e
 | some b1 =>
  rw [e1] at e
  obtain ⟨x,ex,e3⟩:=bind_some (ui e1)
  obtain ⟨y,ey,e4⟩:=bind_some e3
  refine ka O B σ H env x _ R ex λv H1 s1 h1=>?_
  refine kb O B σ H1 env y _ (R.grow s1) ey λu H2 s2 h2=>?_
  have R2:=(R.grow s1).grow s2
  refine hg (OO O σ env) H2 v u x.d y.d _ _ (λq=>R2.oo) ((h1.is λq=>R.oo).grow s2) (h2.is λq=>(R.grow s1).oo) e4 λw H3 s3 h3=>?_
  refine ⟨b1,sJ h3,?_⟩
  cases b1 with
  | false =>
   cases e
   rw [if_neg (by decide)]
   exact q _ H3 ((s1.trans s2).trans s3) (Is.bl _)
  | true =>
   rw [if_pos rfl]
   obtain ⟨y',AX,e5⟩:=bind_some (ui e)
   rw [ey] at AX
   cases AX
   obtain ⟨z,ez,e6⟩:=bind_some e5
   have R3:=R2.grow s3
   refine kc O B σ H3 env z _ R3 ez λw' H4 s4 h4=>?_
   have R4:=R3.grow s4
   refine Az (OO O σ env) H4 u w' y.d z.d _ _ (λq=>R4.oo) (((h2.is λq=>(R.grow s1).oo).grow s3).grow s4) (h4.is λq=>R3.oo) e6 λw2 H5 s5 h5=>?_
   exact q _ H5 ((((s1.trans s2).trans s3).trans s4).trans s5) (by rw [sJ h5];exact Is.bl _)
theorem VE:Wo (tT f env) Q↔Wo (f env) λb=>Q (.sh (.bl b)):=by
 unfold tT
 cases f env with
 | none=>simp [Wo_none]
 | some b=>simp [a0e]
end
end DL
namespace TS
open PySem PyProof.Rows
section
variable {prog:Program}{w:World}{A:Around}{E:Value->Shared->Prop}{s:Shared}
theorem zf{l0:Addr}{vs:List Value}{n:Nat}{P:PySem.Fin->Shared->Prop}{κ:SortKind}{R:Array Value->Prop}(xE:s.heap.get? l0=some (seqObj "list" vs.toArray n))(hZ:vs.length<=sizeLine)(hR:vs.length<2->R vs.toArray)(hz:∀out,R out->out.size=vs.length)
  (run:∀S:Shared,(∀b o,b≠l0->s.heap.get? b=some o->S.heap.get? b=some o)->2<=vs.length->(∀{A:Around} {E:Value->Shared->Prop} {Q:SortKind->Shared->Prop},Q κ S->wpAny (model prog w) A (keyKind' vs.toArray) Q E S)/\∀{A:Around} {E:Value->Shared->Prop},wpS (model prog w) A E S sortRuns' (λ_ ao=>R ((arrOf ao).map (·.2))/\failedOf ao=none) (Be κ (pairsOf vs) #[] 7 none))
  (h:∀out:Array Value,R out->P (.done (.ret .none)) { s with heap:=sortedHeap s.heap l0 vs out }):wpAny (model prog w) A (Builtin.«list.sort» ⟨[.ref l0],[]⟩) P E s:=by
 have cn:l0<s.heap.objs.size:=cE xE
 obtain ⟨k1,Mi⟩:∃k1,(s.heap.update l0 (o8 λ_=>#[])).get? l0=some (seqObj "list" #[] k1):=⟨_,get?_update_seq xE λ_=>#[]⟩
 rw [list_sort_plain]
 have Mt:vs.toArray.size<=sizeLine:=by rw [dG];exact hZ
 have Tc:vs.toArray.toList.length<=sizeLine:=Mt
 refine aM (listItems_at xE rfl (aM (listUpdate_at (hsz:=Mt) xE rfl (aM (seqEpoch_at Mi rfl (aM (wpAny_newTuple (hsz:=Tc) (aM (wpAny_newList (sG ?_))))))))))
 have sf:(((s.heap.update l0 (o8 λ_=>#[])).push (seqObj "tuple" vs.toArray 0)).push (seqObj "list" #[] 0)).get? l0=some (seqObj "list" #[] k1):=c8 _ (c8 _ Mi)
 have up:∀b o,b≠l0->s.heap.get? b=some o->(((s.heap.update l0 (o8 λ_=>#[])).push (seqObj "tuple" vs.toArray 0)).push (seqObj "list" #[] 0)).get? b=some o:=λb o hb e =>
  c8 _ (c8 _ ((Bx _ _ (jW hb)).trans e))
 dsimp only
 show wpAny _ _ _ _ _ { s with heap:=((s.heap.update l0 (o8 λ_=>#[])).push (seqObj "tuple" vs.toArray 0)).push (seqObj "list" #[] 0) }
 generalize hS:({ s with heap:=((s.heap.update l0 (o8 λ_=>#[])).push (seqObj "tuple" vs.toArray 0)).push (seqObj "list" #[] 0) }:Shared)=S
 have Mu:S.heap=((s.heap.update l0 (o8 λ_=>#[])).push (seqObj "tuple" vs.toArray 0)).push (seqObj "list" #[] 0):=by rw [<-hS]
 have oU:S.heap.get? l0=some (seqObj "list" #[] k1):=by rw [Mu];exact sf
 have ends:∀st:SortSt,R ((arrOf st).map (·.2))->failedOf st=none ->
   wpAny (model prog w) A (do
    let touched:=(<-seqEpoch l0) != k1
    Builtin.List.listUpdate (.ref l0) λ_=>(arrOf st).map (·.2)
    if let some e:=failedOf st then rule "list.sort.comparison-raised";throw e
    if touched then rule "list.sort.modified";raiseError "ValueError" "list modified during sort"
    ret .none) P E S:=λst hr hf=>by
  refine aM (seqEpoch_at oU rfl (aM (listUpdate_at oU rfl ?_ (hsz2:=?_))))
  .rw [hf]
   simp only [bne_self_eq_false,xS,if_false]
   refine bE ?_
   have:=h _ hr
   rw [<-hS]
   exact this
  .rw [hz _ hr];ext hZ
 have hsz:vs.toArray.size=vs.length:=by simp
 by_cases h2:vs.toArray.size<2
 .rw [if_pos h2]
  refine aM (bE ?_)
  rw [if_pos h2,StateT.run_pure]
  refine aM (bE ?_)
  refine ends (Be general' (pairsOf vs) #[] 7 none) ?_ rfl
  have e:(pairsOf vs).map (·.2)=vs.toArray:=by
   apply Iy.mp
   rw [Array.toList_map,xM,List.map_snd_zip (bX _)]
  show R ((pairsOf vs).map (·.2))
  rw [e]
  exact hR (by ext h2)
 .rw [if_neg h2]
  obtain ⟨r1,r2⟩:=run S (λb o hb e=>by rw [Mu];exact up b o hb e) (by ext hsz h2)
  refine aM (r1 ?_)
  rw [if_neg h2]
  refine aM (nG r2 (λr s' hr=>?_) λ_ _ z=>z)
  obtain ⟨rfl,p1,p2⟩:=hr
  exact ends r.2 p1 p2
end
end TS
namespace SE
open PySem PyProof.Rows
def kn(l:List Nat):Prop:=l.Pairwise (·<·)
theorem kn.lt{xs:Array Nat}(h:kn xs.toList){a b d:Nat}(sj:a<b)(hb:b<xs.size):xs.getD a d<xs.getD b d:=by
 have ha:a<xs.size:=HL sj hb
 have:=(ya.mp h) a b (by simpa using ha) (by simpa using hb) sj
 simp only [Bt] at this
 simpa [xK,ha,hb] using this
structure Bl(xs:Array Nat)(j r:Nat):Prop where
 le:r<=xs.size
 lo:∀k,k<r->xs.getD k j<j
 hi:∀k,r<=k->k<xs.size->j<=xs.getD k j
theorem Jp{xs:Array Nat}{j:Nat}(hr:kn xs.toList):∀(n lo hi:Nat),hi-lo<=n->lo<=hi->hi<=xs.size->(∀k,k<lo->xs.getD k j<j)->(∀k,hi<=k->k<xs.size->j<=xs.getD k j)->Bl xs j (MG xs j n lo hi)
 | 0,lo,hi,a,b,c,d,e=>by
  have:lo=hi:=by omega
  subst this
  exact ⟨c,d,e⟩
 | n+1,lo,hi,a,b,c,d,e=>by
  unfold MG
  split
  .rename_i cn
   dsimp only
   split
   .rename_i hm
    refine Jp hr n _ _ (by omega) (by omega) c (λk hk=>?_) e
    rcases DD k ((lo+hi)/2) with q | q
    .exact HL (hr.lt q (by omega)) hm
    .rw [show k=(lo+hi)/2 by omega];exact hm
   .rename_i hm
    refine Jp hr n _ _ (by omega) (by omega) (by omega) d (λk hk hs=>?_)
    rcases DD ((lo+hi)/2) k with q | q
    .exact u5 (Jb (Nat.not_lt.mp hm) (hr.lt q hs))
    .rw [show k=(lo+hi)/2 by omega];exact Nat.not_lt.mp hm
  .have:lo=hi:=by omega
   subst this
   exact ⟨c,d,e⟩
theorem OR{xs:Array Nat}(hr:kn xs.toList)(j:Nat):Bl xs j (rS xs j):=
 Jp hr _ _ _ (bX _) (sr _) (bX _) (λ_ h=>absurd h (Bh _)) λk h h'=>absurd h' (by omega)
theorem Xq{xs:Array Nat}(hr:kn xs.toList){j:Nat}(hj:(xs[rS xs j]?==some j)=false):kn (SetTable.insertAt xs (rS xs j) j).toList:=by
 have B:=OR hr j
 generalize rS xs j=r at B hj
 rw [SetTable.toList_insertAt]
 have e1:xs.toList=xs.toList.take r++xs.toList.drop r:=(qk r _).symm
 have p:=hr
 unfold kn at p
 rw [e1,qH] at p
 have lo:∀a∈xs.toList.take r,a<j:=λa ha=>by
  obtain ⟨k,hk,e⟩:=qm.mp ha
  rw [mz] at hk
  rw [BD] at e
  have uP:k<xs.size:=by simp at hk;omega
  have:=B.lo k (by omega)
  simp only [Bt] at e
  simp only [xK,uP,dif_pos] at this
  rw [<-e];exact this
 have hi:∀a∈xs.toList.drop r,j<a:=λa ha=>by
  obtain ⟨k,hk,e⟩:=qm.mp ha
  rw [rP] at hk
  rw [Ie] at e
  have uP:r+k<xs.size:=by simp at hk;omega
  have h1:=B.hi (r+k) (by omega) uP
  simp only [Bt] at e
  simp only [xK,uP,dif_pos] at h1
  have h1:j<=a:=by rw [<-e];exact h1
  rcases Nat.lt_or_eq_of_le h1 with q | q
  .exact q
  .exfalso
   rcases I9 k with z | z
   .subst z
    rw [xZ (by omega:r<xs.size)] at hj
    have e':xs[r]'(by omega)=j:=by rw [q];exact e
    rw [e'] at hj
    simp at hj
   .have:=hr.lt (d:=j) (show r<r+k by omega) uP
    have h2:=B.hi r (bX _) (by omega)
    have h3:xs.getD (r+k) j=a:=by simp only [xK,uP,dif_pos];exact e
    omega
 show List.Pairwise _ _
 first
 | (refine qH.mpr ⟨p.1,rQ.mpr ⟨hi,p.2.1⟩,λa ha b hb=>?_⟩
    rcases cf.mp hb with q | q
    .rw [q];exact lo a ha
    .exact p.2.2 a ha b q)
structure Tb(bt:Bool)(t:SetTable):Prop where
 led:t.led=true\/bt=true
 HB:t.dummies=#[]
 rise:t.plain=true->kn t.place.toList
theorem Xz(bt:Bool):Tb bt (.fresh 0 0 (!bt)):=⟨by cases bt<;>simp [SetTable.fresh],rfl,λ_=>t4⟩
theorem Tb.pH{bt:Bool}{t:SetTable}(h:Tb bt t)(n:Nat):Tb bt (t.standIn n):=⟨h.led,rfl,λz=>absurd z (by simp [SetTable.standIn])⟩
theorem Tb.off{bt:Bool}{t:SetTable}(h:Tb bt t):Tb bt { t with plain:=false }:=⟨h.led,h.HB,λz=>absurd z (by simp)⟩
theorem ON(j:Nat):SetTable.has #[] j=false:=by simp [SetTable.has]
theorem PJ{t:SetTable}(hd:t.dummies=#[])(f:Nat->Int)(h:Int):∀(n:Nat) (p:MQ) (j:Nat) (q:Option Nat),p.dummy=none->Ib t f h n p=some (.empty j q)->q=none/\(t.place[rS t.place j]?==some j)=false
 | 0,p,j,q,_,e=>by simp [Ib] at e
 | n+1,p,j,q,hp,e=>by
  have ad:∀p:MQ,(t.advance p).dummy=p.dummy:=λp=>by unfold SetTable.advance;split<;>rfl
  unfold Ib at e
  unfold SetTable.slot at e
  rw [hd,ON] at e
  dsimp only at e
  by_cases hl:(t.place[rS t.place p.j]?==some p.j)=true
  .rw [if_pos hl] at e
   dsimp only at e
   split at e
   .simp at e
   .exact PJ hd f h n _ j q (by rw [ad];exact hp) e
  .rw [if_neg hl] at e
   simp only [xS,if_false,dA,SetTable.Met.empty.injEq] at e
   obtain ⟨rfl,rfl⟩:=e
   exact ⟨hp,Bool.eq_false_iff.mpr hl⟩
theorem Tb.lay{bt:Bool}{t:SetTable}(T:Tb bt t)(es:Array (Int×Value))(h:Int)(x:Value):Tb bt (layNew t es h x).2.1:=by
 unfold layNew
 cases hf:t.freeSlot h with
 | none=>exact T.pH _
 | some z =>
  obtain ⟨slot,wd⟩:=z
  dsimp only
  have key:wd=false/\(t.place[rS t.place slot]?==some slot)=false:=by
   unfold SetTable.freeSlot SetTable.probe at hf
   split at hf
   .rename_i j q e
    obtain ⟨rfl,b⟩:=PJ T.HB _ _ _ _ j q rfl e
    simp only [IA,Option.isSome_none,dA,Prod.mk.injEq] at hf
    obtain ⟨rfl,rfl⟩:=hf
    exact ⟨rfl,b⟩
   .cases hf
  show Tb bt ((t.put slot).1.orStandIn _)
  have hp:Tb bt (t.put slot).1:=by
   unfold SetTable.put
   refine ⟨T.led,?_,λz=>?_⟩
   .dsimp only;rw [T.HB,ON];rfl
   .exact Xq (T.rise z) key.2
  unfold SetTable.orStandIn
  split
  .exact hp
  .exact hp.pH _
theorem Tb.zx{bt:Bool}{t:SetTable}(T:Tb bt t)(es:Array (Int×Value))(n:Nat):Tb bt (relayAll t es n).2.1:=by
 unfold relayAll
 cases hf:t.relaid (es.map (·.1)) n with
 | none=>exact T.pH _
 | some z =>
  obtain ⟨t',order⟩:=z
  dsimp only
  split
  .show Tb bt t'
   unfold SetTable.relaid SetTable.laid at hf
   simp only [Option.bind_eq_bind,Option.bind_eq_some_iff] at hf
   obtain ⟨ow,_,e⟩:=hf
   simp only [Option.pure_def,dA,Prod.mk.injEq] at e
   obtain ⟨rfl,_⟩:=e
   refine ⟨T.led,rfl,λ_=>?_⟩
   show kn _
   unfold kn
   dsimp only
   have sub:List.Sublist (((o7 (Im n-1+1)).filterMap λj=>(ow.getD j none).map (j,·)).map (·.1)) (o7 (Im n-1+1)):=by
    generalize o7 (Im n-1+1)=l
    induction l with
    | nil=>exact List.Sublist.slnil
    | cons a l ih =>
     rw [DJ]
     cases ow.getD a none with
     | none=>exact ih.cons _
     | some k=>exact ih.cons₂ _
   exact List.Pairwise.sublist sub List.pairwise_lt_range
  .exact T.pH _
end SE
namespace SE
open PySem PyProof.Rows PySem.Calls
theorem E4{α β:Type}{f:α->β}{l m:List β}(h:l.Perm m):∀ts:List α,m=ts.map f->∃us:List α,us.Perm ts/\l=us.map f:=by
 induction h with
 | nil=>intro ts e;exact ⟨[],by rw [List.map_eq_nil_iff.mp e.symm],rfl⟩
 | cons a _ ih =>
  intro ts e
  obtain ⟨b,LJ,rfl,rfl,rfl⟩:=IT.mp e.symm
  obtain ⟨us,p,rfl⟩:=ih LJ rfl
  exact ⟨b::us,p.cons _,rfl⟩
 | swap a b l =>
  intro ts e
  obtain ⟨x,LJ,rfl,rfl,e'⟩:=IT.mp e.symm
  obtain ⟨y,FF,rfl,rfl,rfl⟩:=IT.mp e'
  exact ⟨y::x::FF,MP ..,rfl⟩
 | trans _ _ i1 i2 =>
  intro ts e
  obtain ⟨us,p,e1⟩:=i2 ts e
  obtain ⟨vs,q,e2⟩:=i1 us e1
  exact ⟨vs,q.trans p,e2⟩
section
variable {prog:Program}{w:World}{K:Type}[DecidableEq K]{knd:KeyKind prog w K}{A:Around}{E:Value->Shared->Prop}{s:Shared}
noncomputable def pP(w:World):Bool:=w.params.followText "set-order"
def El(knd:KeyKind prog w K)(q:K×Int×Value):Prop:=knd.is q.1 q.2.2=true/\q.2.1=knd.hash q.1/\q.2.2.scannable=true
structure Sd(knd:KeyKind prog w K)(es:Array (Int×Value))(t:SetTable)(cG:List (K×Int×Value)):Prop where
 tQ:es.toList=cG.map (·.2)
 el:∀q∈cG,El knd q
 fits:t.fits es.size=true
 tb:Tb (pP w) t
 lt:es.size<scanBound
theorem Sd.of{es:Array (Int×Value)}{t:SetTable}{cG:List (K×Int×Value)}(S:Sd knd es t cG):ElemsOf knd es.toList:=by
 rw [S.tQ]
 intro e he
 obtain ⟨q,hq,rfl⟩:=rM.mp he
 obtain ⟨a,b,c⟩:=S.el q hq
 exact ⟨⟨q.1,a,b⟩,c⟩
theorem Sd.len{es:Array (Int×Value)}{t:SetTable}{cG:List (K×Int×Value)}(S:Sd knd es t cG):es.size=cG.length:=by
 rw [<-gh,S.tQ,dF]
def Sa(knd:KeyKind prog w K)(o:Obj)(ks:List K):Prop:=o.ExactSet/\∃es ep t cG,o.data=.set es ep t/\Sd knd es t cG/\ks=cG.map (·.1)
theorem NR{a:Addr}{o:Obj}{es:Array (Int×Value)}{ep:Nat}{t:SetTable}(ho:s.heap.get? a=some o)(hd:o.data=.set es ep t)(tP:Array (Int×Value))(t':SetTable):
  (s.heap.update a (Dr tP t')).get? a=some { o with data:=.set tP (ep+1) t' }:=by
 have:=D1 (Dr tP t') ho (by rw [putSet_of tP t' hd];rfl)
 rwa [putSet_of tP t' hd] at this
theorem O0{g:Bool->Sem Unit}(hg:∀(b:Bool) (aV:Shared) (Q':Unit->Shared->Prop),Q' () aV->wpAny (model prog w) A (g b) Q' E aV)
  {a:Addr}{o:Obj}{es:Array (Int×Value)}{ep:Nat}{t:SetTable}(ho:s.heap.get? a=some o)(hex:o.ExactSet)(hd:o.data=.set es ep t)
  {kC:Array (Int×Value)}{t2:SetTable}{cG:List (K×Int×Value)}(S:Sd knd kC t2 cG){wd:Bool}{R:Option Bool->Shared->Prop}
  (h:∀h' o' ks',rT a s.heap h'->h'.get? a=some o'->Sa knd o' ks'->ks'.Perm (cG.map (·.1))->R (some true) { s with heap:=h' }):
  wpAny (model prog w) A (storeSet a kC t2 >>= λ_=>if (!wd&&t2.tooFull)=true then (g (relayAll t2 kC (wR kC.size)).2.2 >>= λ_=>storeSet a (relayAll t2 kC (wR kC.size)).1 (relayAll t2 kC (wR kC.size)).2.1 >>= λ_=>pure (some true)) else pure (some true)) R E s:=by
 refine aM (wpAny_storeSet_of ho hd ?_ (xX S.lt))
 have o1:=NR ho hd kC t2
 have sb:=Nb s.heap a (Dr kC t2)
 split
 .have p:=relayAll_perm t2 kC (wR kC.size)
  have f:=relayAll_fits t2 kC (wR kC.size)
  have T:=S.tb.zx kC (wR kC.size)
  generalize relayAll t2 kC (wR kC.size)=rl at p f T ⊢
  obtain ⟨Ht,t3,gv⟩:=rl
  dsimp only at p f T ⊢
  obtain ⟨us,pu,eu⟩:=E4 p cG S.tQ
  have z:Ht.size=kC.size:=by rw [<-gh,p.length_eq,gh]
  have S2:Sd knd Ht t3 us:=⟨eu,λq hq=>S.el q (pu.mem_iff.mp hq),f,T,by rw [z];exact S.lt⟩
  refine aM (hg _ _ _ ?_)
  refine aM (wpAny_storeSet_of o1 rfl ?_ (xX S2.lt))
  exact bE (h _ _ _ (sb.trans (Nb _ a _)) (NR (s:={ s with heap:=s.heap.update a (Dr kC t2) }) o1 rfl Ht t3) ⟨hex,_,_,_,us,rfl,S2,rfl⟩ (pu.map _))
 .exact bE (h _ _ _ sb o1 ⟨hex,_,_,_,cG,rfl,S,rfl⟩ (t8 _))
theorem UG{a:Addr}{o:Obj}{ks:List K}{k:K}{x:Value}{Q:Bool->Shared->Prop}(ho:s.heap.get? a=some o)(S:Sa knd o ks)(hk:knd.is k x=true)(hx:x.scannable=true)(room:ks.length+1<scanBound)
  (h:∀b h' o' ks',rT a s.heap h'->h'.get? a=some o'->Sa knd o' ks'->ks'.Perm (if k∈ks then ks else ks++[k])->Q b { s with heap:=h' }):
  wpAny (model prog w) A (setAddHashed a x (knd.hash k)) Q E s:=by
 obtain ⟨hex,es,ep,t,cG,hd,D,rfl⟩:=S
 rw [dF] at room
 have Mn:=D.of
 unfold setAddHashed setAddHashedIn
 refine sG (aM (BC ho hd D.fits ?_))
 dsimp only
 rw [byScan_of hx D.lt Mn,if_pos rfl]
 unfold setAddByScan
 refine aM (aM (Ds (aM (wpAny_setScan_of hk ho hd D.fits Mn ?_))))
 have mem:∀e∈es.toList,knd.is k e.2=true->k∈cG.map (·.1):=λe he hp=>by
  rw [D.tQ] at he
  obtain ⟨q,hq,rfl⟩:=rM.mp he
  exact rM.mpr ⟨q,hq,knd.inj _ _ _ (D.el q hq).1 hp⟩
 cases hr:List.findIdx? (λe=>knd.is k e.2) es.toList with
 | some j =>
  obtain ⟨hj,hp,_⟩:=List.findIdx?_eq_some_iff_getElem.mp hr
  have hm:=mem _ (tZ hj) hp
  refine bE (bE ?_)
  have:=h false s.heap o (cG.map (·.1)) (MH a s.heap) ho ⟨hex,es,ep,t,cG,hd,D,rfl⟩ (by rw [if_pos hm])
  exact this
 | none =>
  have hm:k∉cG.map (·.1):=λz=>by
   obtain ⟨q,hq,e⟩:=rM.mp z
   have:=List.findIdx?_eq_none_iff.mp hr q.2 (by rw [D.tQ];exact rM.mpr ⟨q,hq,rfl⟩)
   rw [<-e,(D.el q hq).1] at this
   exact wL this
  rw [if_neg hm] at h
  have p:=layNew_perm t es (knd.hash k) x
  have f:=layNew_fits t es (knd.hash k) x
  have T:=D.tb.lay es (knd.hash k) x
  dsimp only
  generalize layNew t es (knd.hash k) x=ly at p f T ⊢
  obtain ⟨kC,t1,wd,gv⟩:=ly
  dsimp only at p f T ⊢
  rw [va] at p
  obtain ⟨us,pu,eu⟩:=E4 p (cG++[(k,knd.hash k,x)]) (by rw [D.tQ,qF];rfl)
  have z:kC.size=cG.length+1:=by rw [<-gh,p.length_eq,dz,gh,D.len];rfl
  have Tw:∀q∈us,El knd q:=λq hq=>by
   rcases nu.mp (pu.mem_iff.mp hq) with m | m
   .exact D.el q m
   .rw [nX.mp m];exact ⟨hk,rfl,hx⟩
  have mk:∀t2:SetTable,t2.fits kC.size=true->Tb (pP w) t2->Sd knd kC t2 us:=λt2 a b=>⟨eu,Tw,a,b,by rw [z];exact room⟩
  have fin:∀h' o' ks',rT a s.heap h'->h'.get? a=some o'->Sa knd o' ks'->ks'.Perm (us.map (·.1))->Q true { s with heap:=h' }:=λh' o' ks' c1 c2 c3 c4 =>
   h true h' o' ks' c1 c2 c3 (c4.trans (by simpa using pu.map (·.1)))
  have hg:∀(b:Bool) (aV:Shared) (Q':Unit->Shared->Prop),Q' () aV->wpAny (model prog w) A (match b with | true=>rule "set.scan.the-table-gave-way" | false=>pure ()) Q' E aV:=λb aV Q' hq=>by
   cases b
   .exact bE hq
   .exact Ds hq
  refine aM (hg _ _ _ ?_)
  split
  .refine aM ?_
   rw [hashByValue_scannable 8 hx]
   refine bE (O0 hg ho hex hd (mk _ ?_ ?_) λh' o' ks' c1 c2 c3 c4=>bE (fin h' o' ks' c1 c2 c3 c4))
   .split
    .exact f
    .exact SetTable.fits_plain_off f
   .split
    .exact T
    .exact T.off
  .refine aM (bE ?_)
   rw [if_pos rfl]
   exact O0 hg ho hex hd (mk _ f T) λh' o' ks' c1 c2 c3 c4=>bE (fin h' o' ks' c1 c2 c3 c4)
end
end SE
namespace SE
open PySem PyProof.Rows PySem.Calls
section
variable {prog:Program}{w:World}{K:Type}[DecidableEq K]{knd:KeyKind prog w K}{A:Around}{E:Value->Shared->Prop}{s:Shared}{R:Result->Shared->Prop}{I:Addr}{fp wr:List Addr}{G:Array GenState->Array GenState->Prop}{n:Nat}{P:Nat->Value->Prop}{St:Nat->Shared->Prop}
structure Kd(val:Nat->K)(i:Nat)(ks:List K):Prop where
 nd:ks.Nodup
 mem:∀x,x∈ks↔∃j,j<i/\val j=x
 len:ks.length<=i
theorem Kd.nil(val:Nat->K):Kd val 0 []:=⟨List.nodup_nil,λx=>⟨λz=>(nomatch z),λ⟨j,hj,_⟩=>absurd hj (Bh _)⟩,bX _⟩
theorem Kd.succ{val:Nat->K}{i:Nat}{ks ks':List K}(D:Kd val i ks)(p:ks'.Perm (if val i∈ks then ks else ks++[val i])):Kd val (i+1) ks':=by
 have m:∀x,(∃j,j<i+1/\val j=x)↔x∈ks\/x=val i:=λx=>by
  rw [D.mem]
  constructor
  .rintro ⟨j,hj,e⟩
   rcases Nat.lt_succ_iff_lt_or_eq.mp hj with q | q
   .exact .inl ⟨j,q,e⟩
   .exact .inr (by rw [<-e,q])
  .rintro (⟨j,hj,e⟩ | e)
   .exact ⟨j,qG hj,e⟩
   .exact ⟨i,nZ _,e.symm⟩
 by_cases h:val i∈ks
 .rw [if_pos h] at p
  exact ⟨p.nodup_iff.mpr D.nd,λx=>by rw [m,p.mem_iff];exact ⟨.inl,λz=>z.elim id λe=>e▸h⟩,by rw [p.length_eq];exact Nat.le_succ_of_le D.len⟩
 .rw [if_neg h] at p
  refine ⟨p.nodup_iff.mpr (List.nodup_append.mpr ⟨D.nd,by simp,?_⟩),λx=>by rw [m,p.mem_iff,nu,nX],by rw [p.length_eq,dz];exact Nat.succ_le_succ D.len⟩
  intro a ha b hb
  rw [nX.mp hb]
  exact λe=>h (e▸ha)
theorem O7(W:WalksS prog w A.in1 I fp wr G n P St)(S:Addr)(tI:S∉fp)(val:Nat->K)(tu:∀i v,P i v->knd.is (val i) v=true/\v.scannable=true)(hb:n+1<scanBound):
  ∀(m i:Nat) (s:Shared) (o:Obj) (ks:List K),n-i=m->i<=n->St i s->s.heap.get? S=some o->Sa knd o ks->Kd val i ks ->
   (∀s' o' ks',Moved (S::wr) G s s'->s'.heap.get? S=some o'->Sa knd o' ks'->Kd val n ks'->R (.ok (.ret .none)) s') ->
   codeAny (model prog w) A (.builtin "set.update.loop" ⟨[.ref S,.ref I],[]⟩) R s
 | 0,i,s,o,ks,hm,hi,st,ho,Z,D,hR=>by
  have e:i=n:=by omega
  subst e
  refine xU M' ?_
  rw [Br IG _]
  show wpAny _ A.in1 (pyNext (.ref I) >>= _) _ _ s
  exact aM (W.done s _ _ st λs' mv=>bE (hR s' o ks (mv.mono λb hb=>jo _ hb) (mv.heap S _ (λh=>tI (W.sub _ h)) ho) Z D))
 | m+1,i,s,o,ks,hm,hi,st,ho,Z,D,hR=>by
  have cn:i<n:=by omega
  refine xU M' ?_
  rw [Br IG _]
  show wpAny _ A.in1 (pyNext (.ref I) >>= _) _ _ s
  refine aM (W.item i s _ _ cn st λv s' hP ao mv=>?_)
  obtain ⟨hv,hs⟩:=tu i v hP
  have k4:=mv.heap S _ (λh=>tI (W.sub _ h)) ho
  show wpAny _ A.in1 (holding [v] (setAdd S v) >>= _) _ _ s'
  refine aM (sG ?_)
  unfold setAdd
  refine sG (aM (knd.pyHash (k:=val i) hv ?_))
  have len:=D.len
  refine UG (s:={ s' with toks:=s'.toks+1 }) k4 Z hv hs (by omega) λb h' o' ks' sb o2 Z' pm=>?_
  refine bE ⟨Bm IG _,O7 W S tI val tu hb m (i+1) _ o' ks' (by omega) cn (W.frame _ s' _ _ ao (uW _) λb hb o e=>?_) o2 Z' (D.succ pm) λzp RQ GI RT=>?_⟩
  .rw [sb.2 b (λh:b=S=>tI (by rw [<-h];exact hb))];exact e
  .refine hR zp RQ GI (Moved.trans W.gtrans ((mv.mono λb hb=>jo _ hb).then_heap (uW _) λb o hb e=>?_) RT)
   rw [sb.2 b (λh:b=S=>hb (by rw [h];exact kU))];exact e
noncomputable def kQ(w:World):Obj:={ cls:=.type "set",dict:=none,data:=.set #[] 0 (.fresh 0 0 (!pP w)) }
theorem VG:Sa knd (kQ w) []:=⟨⟨rfl,rfl,rfl⟩,#[],0,_,[],rfl,⟨rfl,λ_ z=>(nomatch z),by rfl,Xz _,by decide⟩,rfl⟩
theorem WX(a:Value){Q₁:Value->Shared->Prop}(h:Q₁ (.ref s.heap.objs.size) { s with heap:=s.heap.push (kQ w) }):
  codeAny (model prog w) A (.call (.builtin "set.__new__") ⟨[.type "set",a],[]⟩) (wants Q₁ E) s:=by
 refine codeAny_of_tree ?_
 show wpAny _ A.in1 (checkBuiltinCall "set.__new__" ⟨[.type "set",a],[]⟩ >>= λ_=>again (.builtin "set.__new__" ⟨[.type "set",a],[]⟩)) _ _ s
 refine aM (wI (F.newCall_set_1 a) (bE ⟨Bm F.plain_set_new _,xU F.entry_set_new ?_⟩))
 rw [Br F.plain_set_new _]
 unfold Builtin.«set.__new__» Builtin.Frozenset.newClass
 have qa:=sub_set_self
 obtain ⟨hp,g,d,tk,os⟩:=s
 dsimp only
 wp_walk
 refine Bk (bE ?_)
 dsimp only
 simp only [newObj]
 exact aM (wpAny_alloc (bE (bE h)))
theorem ic{l:Addr}{items:Array Value}{Q:Value->Shared->Prop}(hh:A.handled=none)(hl:s.heap.IsList l items)(val:Nat->K)(tu:∀(i:Nat) (v:Value),items[i]?=some v->knd.is (val i) v=true/\v.scannable=true)(hb:items.size+1<scanBound)
  (h:∀(h':Heap) (tk:Nat) o ks,(∀b o,b<s.heap.objs.size->s.heap.get? b=some o->h'.get? b=some o)->h'.get? s.heap.objs.size=some o->Sa knd o ks->Kd val items.size ks->Q (.ref s.heap.objs.size) { s with heap:=h',toks:=tk }):
  wpAny (model prog w) A (call (.type "set") [.ref l]) Q E s:=by
 obtain ⟨c,tl,SR⟩:=u7.mro
 have a1:=u7.made
 have a2:=u7.sub
 have a3:=u7.notType
 have a4:=u7.canCreate
 have a5:=F.typeCall_set_1 (.ref l)
 have hS:(s.heap.push (kQ w)).get? s.heap.objs.size=some (kQ w):=jY _ rfl
 have hT:({ s with heap:=s.heap.push (kQ w) }:Shared).TypeIs (.ref s.heap.objs.size) "set":=⟨_,hS,rfl⟩
 refine wpAny_call (codeAny_of_tree (show wpAny _ _ (callAny (.type "set") _) _ _ _ from bE ⟨Code.quiet_builtin _ (by decide +kernel),xU F.entry_type_call ?_⟩))
 rw [Around.under_plain (weight_type_call_type "set" [.ref l] []) rfl]
 repeat (any_goals (first | assumption | wp_step))
 refine u4 (WX (.ref l) (E:=E) (Q₁:=λobj aV=>obj=.ref s.heap.objs.size/\aV={ s with heap:=s.heap.push (kQ w) }) ⟨rfl,rfl⟩) λr aV hr=>?_
 cases r with
 | error e=>exact hr
 | ok fl =>
  cases fl with
  | ret obj =>
   obtain ⟨rfl,rfl⟩:=hr
   have a6:=u7.init.lookup
   have a7:=u7.init.bind (.ref s.heap.objs.size)
   repeat (any_goals (first | assumption | wp_step))
   refine u4 (codeAny_call_builtin (R:=wants (λr cY=>r=.none/\Q (.ref s.heap.objs.size) cY) E) u7.init.plain F.entry_set_init (check_set_init_1 hT ?_)) λGg cY rz=>?_
   .obtain ⟨ol,SJ,hcl,nl,hdl⟩:=id hl
    have sf:(s.heap.push (kQ w)).IsList l items:=hl.push _
    have hTl:({ s with heap:=s.heap.push (kQ w) }:Shared).TypeIs (.ref l) "list":=sf.typeIs
    have tF:l<s.heap.objs.size:=cE SJ
    have n1:=F.sub_list_set
    have n2:=F.sub_list_frozenset
    have n3:(tV "list" == tV "dict")=false:=by decide
    unfold Builtin.«set.__init__» noKeywords Builtin.Frozenset.updateFrom
    generalize Td:pyIter=PI
    wp_walk
    subst Td
    refine Ii sf (aM (wpAny_runValue ?_))
    have fF:l≠(s.heap.push (kQ w)).objs.size:=by rw [nF];exact dr (qG tF)
    have tI:s.heap.objs.size∉[(s.heap.push (kQ w)).objs.size,l]:=by
     rw [nF];simp only [cf,fT,or_false,not_or]
     exact ⟨dr (nZ _),Bq tF⟩
    refine O7 (knd:=knd) ((Walks.list (by simp [hh]) _ l fF items).toS) s.heap.objs.size tI val tu hb (items.size-0) 0 _ (kQ w) [] (by omega) (sr _) ⟨⟨_,jY _ rfl,rfl,rfl⟩,(sf.push _)⟩ (c8 _ hS) VG (Kd.nil val) λs' o' ks' hm k4 Z D=>?_
    obtain ⟨h',g',d',qV,Gs⟩:=s'
    have e1:g'=s.gens:=hm.gens
    have e2:d'=s.drawn:=hm.drawn
    have e3:Gs=s.os:=hm.os
    subst e1;subst e2;subst e3
    show wpAny _ _ (pure _ >>= _) _ _ _
    refine bE (show wpAny _ _ (ret ma) _ _ _ from bE ⟨rfl,h h' qV o' ks' (λb o hb e=>hm.heap b o ?_ (c8 _ (c8 _ e))) k4 Z D⟩)
    simp only [cf,fT,or_false,not_or]
    exact ⟨dr hb,dr (by rw [nF];exact qG hb)⟩
   .cases Gg with
    | error e=>exact rz
    | ok AW =>
     cases AW with
     | ret r =>
      obtain ⟨rfl,hq⟩:=rz
      repeat (any_goals (first | assumption | wp_step))
     | _=>exact rz.elim
  | _=>exact hr.elim
end
end SE
namespace SE
open PySem PyProof.Rows PySem.Calls
section
variable {prog:Program}{w:World}{K:Type}[DecidableEq K]{knd:KeyKind prog w K}{A:Around}{E:Value->Shared->Prop}{s:Shared}
noncomputable def nx(w:World)(a:Addr)(es:Array (Int×Value))(ep:Nat)(t:SetTable)(slot given:Nat):Option (Value×Nat):=
 if pP w=true then ((pickOrder (w.params.setOrder a ep) es)[given]?).map λe=>(e.2,slot)
 else match es[rS t.place slot]?,t.place[rS t.place slot]? with
  | some (_,x),some j=>some (x,j+1)
  | _,_=>none
theorem Ox{a:Addr}{o:Obj}{es:Array (Int×Value)}{ep:Nat}{t:SetTable}{cG:List (K×Int×Value)}(ho:s.heap.get? a=some o)(hd:o.data=.set es ep t)(S:Sd knd es t cG)(qd:pP w=false->t.plain=true\/es.size<=1){slot given:Nat}
  {Q:Option (Value×Nat)->Shared->Prop}(h:Q (nx w a es ep t slot given) s):wpAny (model prog w) A (setNext a slot given ep) Q E s:=by
 unfold setNext
 refine aM (BC ho hd S.fits ?_)
 dsimp only
 unfold setsByText
 refine aM (aM (Bk (bE ?_)))
 unfold nx at h
 by_cases hb:pP w=true
 .rw [if_pos hb] at h
  have xI:(model prog w).w.params.followText "set-order" = true:=hb
  dsimp only
  rw [if_pos xI]
  rw [if_neg (by simp)]
  refine aM ?_
  unfold setWalk setsByText
  refine aM (BC ho hd S.fits ?_)
  dsimp only
  refine aM (aM (Bk (bE ?_)))
  dsimp only
  rw [if_pos xI]
  refine aM (Bk (bE (bE h)))
 .rw [if_neg hb] at h
  have xI:¬((model prog w).w.params.followText "set-order" = true):=hb
  dsimp only
  rw [if_neg xI]
  have hl:t.led=true:=S.tb.led.resolve_right hb
  refine Bg (λhz=>?_) (λ_=>?_)
  .exfalso
   have hz:(!t.plain&&decide (es.size>1))=true:=hz
   simp only [sF,Bool.not_eq_true',decide_eq_true_eq] at hz
   rcases qd (by simpa using hb) with q | q
   .rw [q] at hz;exact wL hz.1
   .omega
  .show wpAny _ _ ((if (!t.led&&!es.isEmpty)=true then unsupported "set:maker-not-led" else pure ()) >>= _) _ _ _
   rw [hl]
   simp only [Bool.not_true,Bool.false_and,xS,if_false]
   exact aM (bE (bE h))
noncomputable def rW(first:Value)(i:Nat)(a:Addr)(n ep:Nat):Obj:={ cls:=.type "set_iterator",data:=.fields #[first,rawInt i,.ref a,rawInt n,rawInt ep] }
theorem slot_next:Slot "set_iterator" "__next__" "set_iterator.__next__":=
 .of (owner:="set_iterator") (n:="__next__") (by rw [typeLookup_type,builtinLookup_eq_fast];kernel_rfl) (by decide +kernel) (by decide +kernel) (by decide +kernel)
  (by first | exact .inl (by decide +kernel) | exact .inr (by decide +kernel)) (by rw [isSubtype_type];kernel_rfl)
theorem KU:entryFor table "set_iterator.__next__" = some Builtin.«set_iterator.__next__»:=entryFor_of_tree (by kernel_rfl)
theorem Oi:Manifest.owners.lookup (String.ofList ['r','o','t','a','r','e','t','i','_','t','e','s'].reverse)=some Manifest.sig_set_iterator:=by kernel_rfl
theorem Kz(a:Value):argsOk "set_iterator.__next__" ⟨[a],[]⟩:=by
 unfold argsOk;rw [signature?_of (id:="set_iterator.__next__") (n:=['_','_','t','x','e','n','_','_']) (o:=['r','o','t','a','r','e','t','i','_','t','e','s']) (by kernel_rfl) Oi];kernel_rfl
theorem NL{I a:Addr}{i slot:Nat}{o:Obj}{es:Array (Int×Value)}{ep:Nat}{t:SetTable}{cG:List (K×Int×Value)}{Q:Option Value->Shared->Prop}(hI:s.heap.get? I=some (rW (rawInt slot) i a es.size ep))(ho:s.heap.get? a=some o)(hd:o.data=.set es ep t)(S:Sd knd es t cG)(qd:pP w=false->t.plain=true\/es.size<=1)
  {x:Value}{j:Nat}(hx:nx w a es ep t slot i=some (x,j))(hQ:∀h',h'.get? I=some (rW (rawInt j) (i+1) a es.size ep)->rT I s.heap h'->Q (some x) { s with heap:=h' }):wpAny (model prog w) A (pyNext (.ref I)) Q E s:=by
 have hT:s.TypeIs (.ref I) "set_iterator":=⟨_,hI,rfl⟩
 unfold pyNext
 refine aM (Du (D5 (name:=DE "__next__") hT slot_next (wM slot_next hT KU ?_ (Kz _))))
 unfold Builtin.«set_iterator.__next__»
 refine aM (wI (a:=(cI I,[])) rfl ?_)
 dsimp only
 refine aM (Dx hI rfl ?_)
 show wpAny _ _ (setEntries a >>= _) _ _ _
 refine aM (BA ho hd S.fits ?_)
 rw [if_neg (by simp)]
 show wpAny _ _ (setNext a (slot:Int).toNat (i:Int).toNat (ep:Int).toNat >>= _) _ _ _
 simp only [xQ]
 refine aM (Ox ho hd S qd ?_)
 rw [hx]
 dsimp only
 refine aM (xR hI (by simp) λh1 e1 b1=>?_)
 refine aM (xR e1 (by simp) λh2 e2 b2=>?_)
 exact bE ⟨x,rfl,bE (hQ _ (by rw [e2];rfl) (b1.trans b2))⟩
end
end SE
namespace SE
open PySem PyProof.Rows PySem.Calls
section
variable {prog:Program}{w:World}{K:Type}[DecidableEq K]{knd:KeyKind prog w K}{A:Around}{E:Value->Shared->Prop}{s:Shared}
theorem PV{I:Addr}{Q:Option Value->Shared->Prop}(hT:s.TypeIs (.ref I) "set_iterator")(hm:wpAny (model prog w) A.in1 (Builtin.«set_iterator.__next__» ⟨[.ref I],[]⟩) (λ_ _=>False) (λe s'=>∃h',s'={ s with heap:=h' }/\DG I s.heap h'/\s'.TypeIs e "StopIteration") s)
  (hQ:∀h',DG I s.heap h'->Q none { s with heap:=h' }):wpAny (model prog w) A (pyNext (.ref I)) Q E s:=by
 unfold pyNext
 refine aM (Du (D5 (name:=DE "__next__") hT slot_next (wM slot_next hT KU (nG hm (λ_ _ z=>z.elim) λe s' z=>?_) (Kz _))))
 obtain ⟨h',rfl,k,t⟩:=z
 exact aM (wpAny_isInstance (T:="StopIteration") (b:=true) t isSubtype_stop (bE (hQ _ k)))
theorem NB{Q:PySem.Fin->Shared->Prop}(hh:A.handled=none)(h:∀e h',(∀b o,s.heap.get? b=some o->h'.get? b=some o)->({ s with heap:=h' }:Shared).TypeIs e "StopIteration" -> E e { s with heap:=h' }):
  wpAny (model prog w) A (newExc (.type "StopIteration") [] >>= λe=>raiseNew e) Q E s:=by
 refine aM ?_
 simp only [newExc,newTuple]
 refine aM (sx ?_ (by size_fits))
 refine aM (m:=firstArgMember _ _) (wI (a:=ma) (by first | rfl | (simp only [firstArgMember];rfl)) (sx ?_ (by size_fits)))
 simp only [raiseNew]
 refine aM (wpAny_handled ?_)
 rw [hh]
 refine aM (bE (wpAny_throw ?_))
 refine h _ _ (λb o e=>c8 _ (c8 _ e)) ?_
 exact ⟨_,jY _ rfl,rfl⟩
theorem Of{I a:Addr}{i slot:Nat}{o:Obj}{es:Array (Int×Value)}{ep:Nat}{t:SetTable}{cG:List (K×Int×Value)}{Q:Option Value->Shared->Prop}(hh:A.handled=none)(hI:s.heap.get? I=some (rW (rawInt slot) i a es.size ep))(ho:s.heap.get? a=some o)(hd:o.data=.set es ep t)(S:Sd knd es t cG)(qd:pP w=false->t.plain=true\/es.size<=1)
  (hx:nx w a es ep t slot i=none)(hQ:∀h',DG I s.heap h'->Q none { s with heap:=h' }):wpAny (model prog w) A (pyNext (.ref I)) Q E s:=by
 refine PV ⟨_,hI,rfl⟩ ?_ hQ
 unfold Builtin.«set_iterator.__next__»
 refine aM (wI (a:=(cI I,[])) rfl ?_)
 dsimp only
 refine aM (Dx hI rfl ?_)
 show wpAny _ _ (setEntries a >>= _) _ _ _
 refine aM (BA ho hd S.fits ?_)
 rw [if_neg (by simp)]
 show wpAny _ _ (setNext a (slot:Int).toNat (i:Int).toNat (ep:Int).toNat >>= _) _ _ _
 simp only [xQ]
 refine aM (Ox ho hd S qd ?_)
 rw [hx]
 dsimp only
 refine aM (xR hI (by simp) λh1 e1 b1=>?_)
 exact NB (by simp [hh]) λe h' k t=>⟨h',rfl,λb o hb eo=>k b o (b1.extBut b o hb eo),t⟩
theorem zW{I a tp:Addr}{i:Nat}{o ot:Obj}{es:Array (Int×Value)}{ep nt:Nat}{t:SetTable}{cG:List (K×Int×Value)}{ps:List Nat}{Q:Option Value->Shared->Prop}(hI:s.heap.get? I=some (rW (.ref tp) i a es.size ep))(ho:s.heap.get? a=some o)(hd:o.data=.set es ep t)(S:Sd knd es t cG)
  (ht:s.heap.get? tp=some ot)(xH:ot.data=.seq (ps.map λ(p:Nat)=>rawInt p).toArray nt){x:Value}{p:Nat}{hv:Int}(hp:ps[i]?=some p)(hx:es[p]?=some (hv,x))(hQ:∀h',h'.get? I=some (rW (.ref tp) (i+1) a es.size ep)->rT I s.heap h'->Q (some x) { s with heap:=h' }):wpAny (model prog w) A (pyNext (.ref I)) Q E s:=by
 have hT:s.TypeIs (.ref I) "set_iterator":=⟨_,hI,rfl⟩
 unfold pyNext
 refine aM (Du (D5 (name:=DE "__next__") hT slot_next (wM slot_next hT KU ?_ (Kz _))))
 unfold Builtin.«set_iterator.__next__»
 refine aM (wI (a:=(cI I,[])) rfl ?_)
 dsimp only
 refine aM (Dx hI rfl ?_)
 show wpAny _ _ (setEntries a >>= _) _ _ _
 refine aM (BA ho hd S.fits ?_)
 rw [if_neg (by simp)]
 show wpAny _ _ (seqItems? (.ref tp) >>= _) _ _ _
 refine aM (wpAny_seqItems ht xH ?_)
 dsimp only
 have e1:((ps.map λ(p:Nat)=>rawInt p).toArray)[((i:Int)).toNat]?=some (rawInt p):=by rw [xQ,IX,qh,hp];rfl
 rw [e1]
 show wpAny _ _ (setNextDrawn a (p:Int).toNat (ep:Int).toNat >>= _) _ _ _
 simp only [xQ]
 unfold setNextDrawn
 refine aM (aM (BC ho hd S.fits ?_))
 dsimp only
 rw [if_neg (by simp),hx]
 refine bE (aM (xR hI (by simp) λh2 e2 b2=>?_))
 exact bE ⟨x,rfl,bE (hQ _ (by rw [e2];rfl) b2)⟩
theorem Vs{I a tp:Addr}{i:Nat}{o ot:Obj}{es:Array (Int×Value)}{ep nt:Nat}{t:SetTable}{cG:List (K×Int×Value)}{ps:List Nat}{Q:Option Value->Shared->Prop}(hh:A.handled=none)(hI:s.heap.get? I=some (rW (.ref tp) i a es.size ep))(ho:s.heap.get? a=some o)(hd:o.data=.set es ep t)(S:Sd knd es t cG)
  (ht:s.heap.get? tp=some ot)(xH:ot.data=.seq (ps.map λ(p:Nat)=>rawInt p).toArray nt)(hp:ps[i]?=none)(hQ:∀h',DG I s.heap h'->Q none { s with heap:=h' }):wpAny (model prog w) A (pyNext (.ref I)) Q E s:=by
 refine PV ⟨_,hI,rfl⟩ ?_ hQ
 unfold Builtin.«set_iterator.__next__»
 refine aM (wI (a:=(cI I,[])) rfl ?_)
 dsimp only
 refine aM (Dx hI rfl ?_)
 show wpAny _ _ (setEntries a >>= _) _ _ _
 refine aM (BA ho hd S.fits ?_)
 rw [if_neg (by simp)]
 show wpAny _ _ (seqItems? (.ref tp) >>= _) _ _ _
 refine aM (wpAny_seqItems ht xH ?_)
 dsimp only
 have e1:((ps.map λ(p:Nat)=>rawInt p).toArray)[((i:Int)).toNat]?=none:=by rw [xQ,IX,qh,hp];rfl
 rw [e1]
 refine aM (xR hI (by simp) λh1 e1 b1=>?_)
 refine aM (xR e1 (by simp) λh2 e2 b2=>?_)
 exact NB (by simp [hh]) λe h' k t=>⟨h',rfl,λb o hb eo=>k b o ((b1.trans b2).extBut b o hb eo),t⟩
theorem OD:Slot "set_iterator" "__iter__" "set_iterator.__iter__":=
 .of (owner:="set_iterator") (n:="__iter__") (by rw [typeLookup_type,builtinLookup_eq_fast];kernel_rfl) (by decide +kernel) (by decide +kernel) (by decide +kernel)
  (by first | exact .inl (by decide +kernel) | exact .inr (by decide +kernel)) (by rw [isSubtype_type];kernel_rfl)
theorem Vv(a:Value):argsOk "set_iterator.__iter__" ⟨[a],[]⟩:=by
 unfold argsOk;rw [signature?_of (id:="set_iterator.__iter__") (n:=['_','_','r','e','t','i','_','_']) (o:=['r','o','t','a','r','e','t','i','_','t','e','s']) (by kernel_rfl) Oi];kernel_rfl
theorem W2:entryFor table "set_iterator.__iter__" = some Builtin.«dict_keyiterator.__iter__»:=
 entryFor_alias (id':="dict_keyiterator.__iter__") (by kernel_rfl) (by first | rfl | decide +kernel | (unfold String.splitOn;simp +decide [MF])) (by decide +kernel) (by kernel_rfl)
theorem W3:entryFor table "set.__iter__" = some Builtin.«frozenset.__iter__»:=
 entryFor_alias (id':="frozenset.__iter__") (by kernel_rfl) (by first | rfl | decide +kernel | (unfold String.splitOn;simp +decide [MF])) (by decide +kernel) (by kernel_rfl)
theorem JU{I:Addr}{Q:Value->Shared->Prop}(hT:s.TypeIs (.ref I) "set_iterator")(h:Q (.ref I) s):wpAny (model prog w) A (pyIter (.ref I)) Q E s:=by
 refine wpAny_pyIter_slot hT OD (wM OD hT W2 ?_ (Vv _))
 show wpAny _ _ (ret (.ref I)) _ _ s
 exact bE ⟨_,rfl,"set_iterator",_,hT,slot_next.lookup,h⟩
end
end SE
namespace SE
open PySem PyProof.Rows PySem.Calls
theorem KS{α:Type}:∀{l:List α} {i:Nat} (h:i<l.length),(l[i]::l.eraseIdx i).Perm l
 | _::_,0,_=>t8 _
 | x::l,i+1,h=>by
  have h':i<l.length:=Nat.lt_of_succ_lt_succ h
  show (l[i]::x::l.eraseIdx i).Perm (x::l)
  exact (MP x _ _).trans ((KS h').cons x)
theorem Pt{α:Type}(next:Nat->Nat):∀(n k:Nat) (left:List α) (out:Array α),n=left.length->(pickOrder.go next n k left out).toList.Perm (out.toList++left)
 | 0,k,left,out,e=>by
  rw [D4.mp e.symm,sC]
  exact t8 _
 | n+1,k,left,out,e=>by
  unfold pickOrder.go
  have hp:0<left.length:=by omega
  have hi:next k%left.length<left.length:=Nat.mod_lt _ hp
  rw [mB hi]
  dsimp only
  refine (Pt next n (k+1) _ _ (by rw [Nm hi];omega)).trans ?_
  rw [va,kD]
  refine D0 _ ?_
  exact KS hi
section
variable {prog:Program}{w:World}{K:Type}[DecidableEq K]{knd:KeyKind prog w K}{A:Around}{E:Value->Shared->Prop}{s:Shared}
theorem Ws{src:Source}{n:Nat}{Q:Nat->Shared->Prop}(hn:n≠0)(h:∀i d',i<n->Q i { s with drawn:=d' }):wpAny (model prog w) A (choose src n) Q E s:=λΓ p hΓ=>by
 unfold choose
 rw [Sem.wp_choose]
 exact ⟨hn,h _ _ (Nat.mod_lt _ (I0 hn))⟩
theorem OX{α:Type}:∀(n:Nat) (xs:List α) (s:Shared) (Q:List α->Shared->Prop),n=xs.length->(∀ys d',ys.Perm xs->Q ys { s with drawn:=d' })->wpAny (model prog w) A (drawOrder n xs) Q E s
 | 0,xs,s,Q,e,h=>by
  unfold drawOrder
  rw [D4.mp e.symm] at h
  exact bE (h [] s.drawn (t8 _))
 | n+1,[],s,Q,e,h=>by simp at e
 | n+1,x::xs,s,Q,e,h=>by
  unfold drawOrder
  refine aM (Ws (by simp) λi d' hi=>?_)
  rw [mB hi]
  dsimp only
  refine aM (OX n _ _ _ (by rw [Nm hi,<-e];rfl) λys TQ p=>bE ?_)
  exact h _ TQ ((p.cons _).trans (KS hi))
def Pv(us:List (K×Int×Value))(i:Nat)(v:Value):Prop:=(us[i]?).map (·.2.2)=some v
theorem Ei{es:Array (Int×Value)}{us:List (K×Int×Value)}(e:es.toList=us.map (·.2))(i:Nat):es[i]?=(us[i]?).map (·.2):=by
 rw [<-sy,e,qh]
theorem yP{I a:Addr}{o:Obj}{es:Array (Int×Value)}{ep:Nat}{t:SetTable}{cG:List (K×Int×Value)}(hh:A.handled=none)(fF:a≠I)(hd:o.data=.set es ep t)(S:Sd knd es t cG)(hb:pP w=false)(qd:t.plain=true\/es.size<=1):
  Walks prog w A I [I,a] [I] cG.length (Pv cG) (λi h=>h.get? I=some (rW (rawInt ((if i=0 then 0 else t.place.getD (i-1) 0+1:Nat))) i a es.size ep)/\h.get? a=some o):=by
 have hz:t.place.size=es.size:=by
  have:=S.fits
  simp only [SetTable.fits,sF,beq_iff_eq] at this
  exact this.1
 have hr:kn t.place.toList:=by
  rcases qd with q | q
  .exact S.tb.rise q
  .unfold kn
   have:t.place.toList.length<=1:=by rw [gh,hz];exact q
   generalize t.place.toList=l at this
   cases l with
   | nil=>exact t4
   | cons x l=>cases l with
    | nil=>exact BF _ _
    | cons y l=>simp at this
 have key:∀i,i<=es.size->rS t.place (if i=0 then 0 else t.place.getD (i-1) 0+1)=i:=λi hi=>by
  have B:=OR hr (if i=0 then 0 else t.place.getD (i-1) 0+1)
  generalize rS t.place (if i=0 then 0 else t.place.getD (i-1) 0+1)=r at B
  have le:=B.le
  by_cases Mm:i=0
  .subst Mm
   rw [if_pos rfl] at B
   rcases I9 r with q | q
   .exact q
   .exact absurd (B.lo 0 q) (Bh _)
  .rw [if_neg Mm] at B
   have gd:∀k d d',k<es.size->t.place.getD k d=t.place.getD k d':=λk d d' hk=>by simp [xK,hz,hk]
   rcases Nat.lt_trichotomy r i with q | q | q
   .have:=B.hi r (bX _) (by omega)
    exfalso
    rw [gd r _ 0 (by omega)] at this
    rcases DD r (i-1) with z | z
    .have:=hr.lt (d:=0) z (by omega);omega
    .rw [show r=i-1 by omega] at this;omega
   .exact q
   .have:=B.lo i q
    rw [gd i _ 0 (by omega)] at this
    have:=hr.lt (d:=0) (show i-1<i by omega) (by omega)
    omega
 have len:=S.len
 have RR:∀i,i<es.size->nx w a es ep t (if i=0 then 0 else t.place.getD (i-1) 0+1) i=(cG[i]?).map λq=>(q.2.2,t.place.getD i 0+1):=λi hi=>by
  unfold nx
  rw [if_neg (by simp [hb]),key i (u5 hi),Ei S.tQ,mB (by omega),xZ (by omega)]
  simp [xK,hz,hi]
 exact {
  sub:=λb hb=>by simp at hb;simp [hb]
  frame:=λi h h' st k=>⟨k I (by simp) _ st.1,k a (by simp) _ st.2⟩
  item:=λi s Q E hi st hQ=>by
   have pM:i<es.size:=by omega
   have e:=RR i pM
   rw [mB hi] at e
   refine NL st.1 st.2 hd S (λ_=>qd) e λh' g sb=>hQ _ h' s.toks (by unfold Pv;rw [mB hi];rfl) ⟨?_,(sb.2 a fF).trans st.2⟩ λb o hb eo=>sb.extBut b o (λh=>hb (by simp [h])) eo
   rw [g,if_neg (Nat.succ_ne_zero i)];rfl
  done:=λs Q E st hQ=>by
   refine Of hh st.1 st.2 hd S (λ_=>qd) ?_ λh' g=>hQ h' s.toks λb o hb eo=>g b o (λh=>hb (by simp [h])) eo
   unfold nx
   rw [if_neg (by simp [hb]),<-len,key es.size (bX _),Array.getElem?_eq_none (bX _)]
  self:=λi s Q E st hQ=>JU ⟨_,st.1,rfl⟩ hQ }
theorem yO{I a:Addr}{o:Obj}{es:Array (Int×Value)}{ep:Nat}{t:SetTable}{cG us:List (K×Int×Value)}(hh:A.handled=none)(fF:a≠I)(hd:o.data=.set es ep t)(S:Sd knd es t cG)(hb:pP w=true)(hu:(pickOrder (w.params.setOrder a ep) es).toList=us.map (·.2)):
  Walks prog w A I [I,a] [I] us.length (Pv us) (λi h=>h.get? I=some (rW (rawInt (0:Nat)) i a es.size ep)/\h.get? a=some o) where
 sub:=λb hb=>by simp at hb;simp [hb]
 frame:=λi h h' st k=>⟨k I (by simp) _ st.1,k a (by simp) _ st.2⟩
 item:=λi s Q E hi st hQ=>by
  refine NL st.1 st.2 hd S (λz=>by rw [hb] at z;exact wL z) (x:=(us[i]).2.2) (j:=0) ?_ λh' g sb=>hQ _ h' s.toks (by unfold Pv;rw [mB hi];rfl) ⟨g,(sb.2 a fF).trans st.2⟩ λb o hb eo=>sb.extBut b o (λh=>hb (by simp [h])) eo
  unfold nx
  rw [if_pos hb,Ei hu,mB hi];rfl
 done:=λs Q E st hQ=>by
  refine Of hh st.1 st.2 hd S (λz=>by rw [hb] at z;exact wL z) ?_ λh' g=>hQ h' s.toks λb o hb eo=>g b o (λh=>hb (by simp [h])) eo
  unfold nx
  rw [if_pos hb,Ei hu,Bu (bX _)];rfl
 self:=λi s Q E st hQ=>JU ⟨_,st.1,rfl⟩ hQ
theorem qS{I a tp:Addr}{o ot:Obj}{es:Array (Int×Value)}{ep nt:Nat}{t:SetTable}{cG:List (K×Int×Value)}{ps:List Nat}(hh:A.handled=none)(fF:a≠I)(SN:tp≠I)(hd:o.data=.set es ep t)(S:Sd knd es t cG)(xH:ot.data=.seq (ps.map λ(p:Nat)=>rawInt p).toArray nt)(hp:∀p∈ps,p<es.size):
  Walks prog w A I [I,a,tp] [I] ps.length (λi v=>((ps[i]?).bind λp=>es[p]?).map (·.2)=some v) (λi h=>h.get? I=some (rW (.ref tp) i a es.size ep)/\h.get? a=some o/\h.get? tp=some ot) where
 sub:=λb hb=>by simp at hb;simp [hb]
 frame:=λi h h' st k=>⟨k I (by simp) _ st.1,k a (by simp) _ st.2.1,k tp (by simp) _ st.2.2⟩
 item:=λi s Q E hi st hQ=>by
  have h1:=hp _ (tZ hi)
  refine zW st.1 st.2.1 hd S st.2.2 xH (mB hi) (xZ h1) λh' g sb=>hQ _ h' s.toks ?_ ⟨g,(sb.2 a fF).trans st.2.1,(sb.2 tp SN).trans st.2.2⟩ λb o hb eo=>sb.extBut b o (λh=>hb (by simp [h])) eo
  rw [mB hi,sD,xZ h1];rfl
 done:=λs Q E st hQ=>Vs hh st.1 st.2.1 hd S st.2.2 xH (Bu (bX _)) λh' g=>hQ h' s.toks λb o hb eo=>g b o (λh=>hb (by simp [h])) eo
 self:=λi s Q E st hQ=>JU ⟨_,st.1,rfl⟩ hQ
end
end SE
namespace SE
open PySem PyProof.Rows PySem.Calls
theorem Nr{α β:Type}{f:α->Option β}:∀(l:List α),(∀x∈l,(f x).isSome=true)->∀i:Nat,(l.filterMap f)[i]?=(l[i]?).bind f
 | [],_,i=>rfl
 | x::l,h,i=>by
  obtain ⟨y,e⟩:=IP.mp (h x kU)
  rw [MY e]
  cases i with
  | zero=>simp [e]
  | succ i=>simpa using Nr l (λx hx=>h x (jo _ hx)) i
theorem N7{α β:Type}{f:α->Option β}:∀(l:List α),(∀x∈l,(f x).isSome=true)->(l.filterMap f).length=l.length
 | [],_=>rfl
 | x::l,h=>by
  obtain ⟨y,e⟩:=IP.mp (h x kU)
  rw [MY e,jX,jX,N7 l λx hx=>h x (jo _ hx)]
section
variable {prog:Program}{w:World}{K:Type}[DecidableEq K]{knd:KeyKind prog w K}{A A2:Around}{E:Value->Shared->Prop}{s:Shared}
theorem WL{a:Addr}{o:Obj}{es:Array (Int×Value)}{ep:Nat}{t:SetTable}{cG:List (K×Int×Value)}{Q:Value->Shared->Prop}(hh:A2.handled=none)(ho:s.heap.get? a=some o)(hex:o.ExactSet)(hd:o.data=.set es ep t)(S:Sd knd es t cG)
  (h:∀(h':Heap) d' (I:Addr) (fp:List Addr) St us,s.heap.objs.size<=I->(∀b o,s.heap.get? b=some o->h'.get? b=some o)->us.Perm cG->Walks prog w A2 I fp [I] us.length (Pv us) St->St 0 h'->(∀b∈fp,b=a\/s.heap.objs.size<=b)->(∀b,b=I\/b∈fp->b<h'.objs.size)->Q (.ref I) { s with heap:=h',drawn:=d' }):
  wpAny (model prog w) A (pyIter (.ref a)) Q E s:=by
 have hT:s.TypeIs (.ref a) "set":=⟨o,ho,hex.1⟩
 have ha:a<s.heap.objs.size:=cE ho
 refine wpAny_pyIter_slot hT F.slot_set_iter (wM F.slot_set_iter hT W3 ?_ (F.args_set_iter_1 _))
 unfold Builtin.«frozenset.__iter__»
 refine aM (m:=Builtin.Frozenset.slot0 "__iter__" _) (wI (a:=a) rfl ?_)
 refine aM ?_
 unfold Builtin.Frozenset.sizeOf
 refine aM (BA ho hd S.fits (bE ?_))
 refine aM ?_
 unfold setDrawn setsByText
 refine aM (BC ho hd S.fits ?_)
 dsimp only
 refine aM (aM (Bk (bE (bE ?_))))
 have mx:∀(c:Bool),c=false->(∀us St,us.Perm cG->Walks prog w A2 s.heap.objs.size [s.heap.objs.size,a] [s.heap.objs.size] us.length (Pv us) St->St 0 (s.heap.push (rW (rawInt (0:Nat)) 0 a es.size ep))->Q (.ref s.heap.objs.size) { s with heap:=s.heap.push (rW (rawInt (0:Nat)) 0 a es.size ep) }):=λc _ us St pu W st =>
  h _ s.drawn _ _ St us (bX _) (λb o e=>c8 _ e) pu W st (λb hb=>by
   simp only [cf,fT,or_false] at hb
   rcases hb with q | q
   .exact .inr (by rw [q];exact bX _)
   .exact .inl q) λb hb=>by
    rw [nF]
    simp only [cf,fT,or_false] at hb
    rcases hb with q | q | q
    .rw [q];exact nZ _
    .rw [q];exact nZ _
    .rw [q];exact qG ha
 refine Bg (λhz=>?_) (λhz=>?_)
 .have hz:(!(pP w)&&(!t.plain&&decide (es.size>1)))=true:=hz
  simp only [sF,Bool.not_eq_true',decide_eq_true_eq] at hz
  refine aM (OX _ _ _ _ (by simp) λps d' pp=>?_)
  have cn:∀p∈ps,p<es.size:=λp hp=>DB.mp (pp.mem_iff.mp hp)
  have hsz:(ps.map λ(p:Nat)=>rawInt p).length<=sizeLine:=by
   rw [dF,pp.length_eq,List.length_range]
   exact xX S.lt
  refine aM (wpAny_newTuple ?_ hsz)
  have len:=S.len
  refine aM (m:=setEpoch a) (wpAny_setEpoch_of (c8 _ ho) hd S.fits ?_)
  refine aM (sx (bE ⟨_,rfl,"set_iterator",_,⟨_,jY _ rfl,rfl⟩,slot_next.lookup,?_⟩) (by size_fits))
  have LN:∀p∈ps,(cG[p]?).isSome=true:=λp hp=>by
   rw [mB (by have:=cn p hp;omega)];rfl
  have W:=qS (prog:=prog) (w:=w) (A:=A2) (I:=(s.heap.push { cls:=.type "tuple",data:=.seq (ps.map λ(p:Nat)=>rawInt p).toArray }).objs.size) (tp:=s.heap.objs.size) (ot:={ cls:=.type "tuple",data:=.seq (ps.map λ(p:Nat)=>rawInt p).toArray }) (nt:=0) (ps:=ps) hh (by rw [nF];exact dr (qG ha)) (by rw [nF];exact dr (nZ _)) hd S rfl cn
  have eP:(λ(i:Nat) (v:Value)=>((ps[i]?).bind λp=>es[p]?).map (·.2)=some v)=Pv (ps.filterMap λp=>cG[p]?):=by
   funext i v
   unfold Pv
   rw [Nr ps LN i]
   cases ps[i]? with
   | none=>rfl
   | some p=>rw [sD,sD,Ei S.tQ,Option.map_map];rfl
  rw [eP,<-N7 ps LN] at W
  refine h _ d' _ _ _ (ps.filterMap λp=>cG[p]?) (by rw [nF];exact uW _) (λb o e=>c8 _ (c8 _ e)) ?_ W ⟨jY _ rfl,c8 _ (c8 _ ho),c8 _ (jY _ rfl)⟩ (λb hb=>?_) λb hb=>?_
  .have:=pp.filterMap λp=>cG[p]?
   rw [len,List.filterMap_getElem?_range_length] at this
   exact this
  .simp only [cf,fT,or_false,nF] at hb
   rcases hb with q | q | q
   .exact .inr (by rw [q];exact uW _)
   .exact .inl q
   .exact .inr (by rw [q];exact bX _)
  .rw [nF,nF]
   simp only [cf,fT,or_false,nF] at hb
   rcases hb with q | q | q | q
   .rw [q];exact nZ _
   .rw [q];exact nZ _
   .rw [q];exact qG (qG ha)
   .rw [q];exact qG (nZ _)
 .have hz:¬((!(pP w)&&(!t.plain&&decide (es.size>1)))=true):=hz
  rw [DS] at hz
  refine aM (bE ?_)
  refine aM (m:=setEpoch a) (wpAny_setEpoch_of ho hd S.fits ?_)
  refine aM (sx (bE ⟨_,rfl,"set_iterator",_,⟨_,jY _ rfl,rfl⟩,slot_next.lookup,?_⟩) (by size_fits))
  by_cases hb:pP w=true
  .obtain ⟨us,pu,eu⟩:=E4 (f:=λq:K×Int×Value=>q.2) (Pt (w.params.setOrder a ep) es.size 0 es.toList #[] (gh).symm) cG (by simpa using S.tQ)
   exact mx _ hz us _ pu (yO hh (dr ha) hd S hb eu) ⟨jY _ rfl,c8 _ ho⟩
  .refine mx _ hz cG _ (t8 _) (yP hh (dr ha) hd S (by simpa using hb) ?_) ⟨jY _ rfl,c8 _ ho⟩
   have xI:pP w=false:=by simpa using hb
   rw [xI] at hz
   simp only [Bool.not_false,HQ,Bool.and_eq_false_iff,Bool.not_eq_false',decide_eq_false_iff_not] at hz
   exact hz.imp id λq=>by omega
end
end SE
namespace SE
open PySem PyProof.Rows PySem.Calls PySem.W
section
variable {prog:Program}{w:World}{K:Type}[DecidableEq K]{knd:KeyKind prog w K}{A:Around}{E:Value->Shared->Prop}{s:Shared}
theorem WI{r:Addr}{Q:Bool->Shared->Prop}(hT:s.TypeIs (.ref r) "set")(h:Q false s):wpAny (model prog w) A (Nk (.ref r)) Q E s:=by
 unfold Nk
 refine aM (wpAny_specialOf hT F.slot_set_len.lookup ?_)
 generalize Ml:("set.__len__":String)=Sk
 wp_delta
 rw [show splitId Sk=some ("set","__len__") from by subst Ml;decide +kernel]
 subst Ml
 refine aM (wpAny_isInstance (T:="set") (b:=true) hT sub_set_self ?_)
 refine Bg (λz=>absurd z (by decide)) (λ_=>Bg (λ_=>?_) (λz=>absurd (by decide +kernel) z))
 exact aM (wpAny_typeOf hT (bE h))
theorem WK{us:List (K×Int×Value)}{acc:Array Value}(h:ItemsOf (Pv us) acc us.length):acc.toList=us.map (·.2.2):=by
 refine Ih λi=>?_
 rw [qh]
 rcases DD i us.length with q | q
 .have hs:i<acc.size:=by rw [h.1];exact q
  have:=h.2 i acc[i] (xZ hs)
  unfold Pv at this
  rw [this,sy,xZ hs]
 .rw [Bu q,Bu (by rw [gh,h.1];exact q)];rfl
theorem Zb{a:Addr}{o:Obj}{ks:List K}{R:List Value->Shared->Prop}(hh:A.handled=none)(ho:s.heap.get? a=some o)(Z:Sa knd o ks)
  (h:∀(h':Heap) d' tk (us:List (K×Int×Value)),(∀b o,s.heap.get? b=some o->h'.get? b=some o)->s.heap.objs.size<=h'.objs.size->(us.map (·.1)).Perm ks->(∀q∈us,knd.is q.1 q.2.2=true)->us.length<scanBound->R (us.map (·.2.2)) { s with heap:=h',drawn:=d',toks:=tk }):
  wpAny (model prog w) A (collect (.ref a)) R E s:=by
 obtain ⟨hex,es,ep,t,cG,hd,S,rfl⟩:=Z
 have ha:a<s.heap.objs.size:=cE ho
 unfold collect
 refine aM (wpAny_runValue (xU entry_proto_collect' ?_))
 rw [Br F.plain_proto_collect _]
 show wpAny _ A.in1 (newList [] >>= λl=>again (.builtin "list.__iadd__" ⟨[l,.ref a],[]⟩)) _ _ s
 refine aM (sx (bE ⟨Bm F.plain_list_iadd _,xU entry_list_iadd' ?_⟩))
 rw [Br F.plain_list_iadd _]
 show wpAny _ A.in1 (Nj (.ref s.heap.objs.size) (.ref a) (.ref s.heap.objs.size)) _ _ _
 generalize hg:s.heap.push { cls:=.type "list",data:=.seq ([]:List Value).toArray }=g
 have gs:g.objs.size=s.heap.objs.size+1:=by rw [<-hg];exact nF ..
 have gl:g.get? s.heap.objs.size=some { cls:=.type "list",data:=.seq #[] }:=by rw [<-hg];exact jY _ rfl
 have up:∀b o,s.heap.get? b=some o->g.get? b=some o:=λb o e=>by rw [<-hg];exact c8 _ e
 have ga:=up a o ho
 have hT:({ s with heap:=g }:Shared).TypeIs (.ref a) "set":=⟨o,ga,hex.1⟩
 unfold Nj
 refine aM (wpAny_typeOf hT ?_)
 have h1:MX (.ref s.heap.objs.size) (.ref a)=false:=by simp [MX,Bq ha]
 have h2:(tV "set" == tV "list")=false:=by decide
 have h3:(tV "set" == tV "tuple")=false:=by decide
 simp only [h1,h2,h3,Bool.or_false,xS,if_false]
 refine aM (WL (A2:=A.in1) (s:={ s with heap:=g }) (by simp [hh]) ga hex hd S λh' d' I fp St us hI k pu W st hf Dh=>?_)
 have tI:s.heap.objs.size∉fp:=λz=>by
  rcases hf _ z with q | q
  .exact absurd q (Bq ha)
  .simp only [gs] at q;omega
 have hSI:s.heap.objs.size≠I:=by simp only [gs] at hI;omega
 have end_:∀(h1:Heap) (c1 tk:Nat),St 0 h1->(∀b o,b≠s.heap.objs.size->s.heap.get? b=some o->h1.get? b=some o)->h1.get? s.heap.objs.size=some { cls:=.type "list",data:=.seq #[] c1 } ->
   codeAny (model prog w) A (.builtin "list.extend.loop" ⟨[.ref s.heap.objs.size,.ref I,.ref s.heap.objs.size],[]⟩) (λr s'=>∃(h':Heap) (qV:Nat) (acc:Array Value) (c':Nat),r=.ok (.ret (.ref s.heap.objs.size))/\s'={ s with heap:=h',drawn:=d',toks:=qV }/\(∀b o,s.heap.get? b=some o->h'.get? b=some o)/\h'.get? s.heap.objs.size=some { cls:=.type "list",dict:=none,data:=.seq acc c',slots:=#[] }/\acc.toList=us.map (·.2.2)) { s with heap:=h1,drawn:=d',toks:=tk }:=λh1 c1 tk F1 k1 g1=>by
  refine codeAny_extend_loopS W.toS ?_ _ tI _ us.length 0 _ #[] c1 rfl (sr _) F1 g1 (ItemsOf.nil _) λs' acc c' mv g' it=>?_
  .rw [pu.length_eq,<-S.len];exact xX S.lt
  .have e:=Moved.eq_with mv
   refine ⟨s'.heap,s'.toks,acc,c',rfl,e,λb o eo=>mv.heap b o (λz=>?_) (k1 b o (dr (cE eo)) eo),g',WK it⟩
   have hb:=cE eo
   simp only [cf,fT,or_false] at z
   simp only [gs] at hI
   rcases z with z | z
   .exact dr hb z
   .exact dr (nr hb (Ig hI)) z
 refine aM (sG (WI ⟨o,k a o ga,hex.1⟩ ?_))
 have g1:=k _ _ gl
 have fin:∀(cY:Shared) (h':Heap) (qV:Nat) (acc:Array Value) (c':Nat) (f:Array Value->Sem (List Value)),(∀xs,f xs=pure xs.toList)->cY={ s with heap:=h',drawn:=d',toks:=qV }->(∀b o,s.heap.get? b=some o->h'.get? b=some o)->s.heap.objs.size<h'.objs.size->acc.toList=us.map (·.2.2)->wpAny (model prog w) A (f acc) R E cY:=λcY h' qV acc c' f hf e2 e3 e6 e5=>by
  subst e2
  rw [hf,e5]
  exact bE (h h' d' qV us e3 (u5 e6) (pu.map _) (λq hq=>(S.el q (pu.mem_iff.mp hq)).1) (by rw [pu.length_eq,<-S.len];exact S.lt))
 refine Bg (λ_=>?_) (λ_=>?_)
 rotate_left
 .refine bE ⟨Bm F.plain_extend_loop _,u4 (end_ _ 0 s.toks st (λb o hb e=>k b o (up b o e)) g1) λq cY ⟨h',qV,acc,c',e1,e2,e3,e4,e5⟩=>?_⟩
  subst e1;subst e2
  show wpAny _ A (load s.heap.objs.size >>= _) _ _ _
  exact aM (wpAny_load e4 (fin _ h' qV acc c' (λxs=>pure xs.toList) (λ_=>rfl) rfl e3 (cE e4) e5))
 refine aM (Ds (aM ?_))
 show wpAny _ _ (updateSeq s.heap.objs.size (·.push .none) >>= λ_=>updateSeq s.heap.objs.size (·.pop)) _ _ _
 refine aM (wpAny_updateSeq g1 rfl ?_)
 have g2:=D1 (o8 (·.push ma)) g1 rfl
 refine wpAny_updateSeq (hz:=by seq_fits) g2 rfl ?_
 have g3:=D1 (o8 (·.pop)) g2 rfl
 have LV:∀b o,b≠s.heap.objs.size->h'.get? b=some o->((h'.update s.heap.objs.size (o8 (·.push ma))).update s.heap.objs.size (o8 (·.pop))).get? b=some o:=λb o hb e =>
  (Bx _ _ (jW hb)).trans ((Bx _ _ (jW hb)).trans e)
 refine bE ⟨Bm F.plain_extend_loop _,u4 (end_ _ _ s.toks (W.frame 0 _ _ st λb hb o e=>LV b o (λz=>tI (z▸hb)) e) (λb o hb e=>LV b o hb (k b o (up b o e))) g3) λq cY ⟨h',qV,acc,c',e1,e2,e3,e4,e5⟩=>?_⟩
 subst e1;subst e2
 show wpAny _ A (load s.heap.objs.size >>= _) _ _ _
 exact aM (wpAny_load e4 (fin _ h' qV acc c' (λxs=>pure xs.toList) (λ_=>rfl) rfl e3 (cE e4) e5))
end
end SE
namespace SE
open PySem PyProof.Rows PySem.Calls
theorem N0{α:Type}{p q:α->Bool}:∀(l:List α),(∀x∈l,p x=true->q x=true)->(∃x∈l,q x=true/\p x=false)->l.countP p<l.countP q
 | [],_,⟨_,z,_⟩=>nomatch z
 | a::l,h,⟨x,hx,h1,h2⟩=>by
  have mono:l.countP p<=l.countP q:=List.countP_mono_left λy hy=>h y (jo _ hy)
  rcases cf.mp hx with e | hx
  .subst e
   rw [D3 h1,IF (by rw [h2];exact pV)]
   exact Nat.lt_succ_of_le mono
  .have ih:=N0 l (λy hy=>h y (jo _ hy)) ⟨x,hx,h1,h2⟩
   by_cases ha:p a=true
   .rw [D3 ha,D3 (h a kU ha)]
    exact Nat.succ_lt_succ ih
   .rw [IF ha]
    by_cases hb:q a=true
    .rw [D3 hb];exact qG ih
    .rw [IF hb];exact ih
structure Ol{K:Type}(lt:K->K->Bool):Prop where
 xC:∀a,lt a a=false
 tr:∀{a b c},lt a b=true->lt b c=true->lt a c=true
 yS:∀{a b},a≠b->lt a b=true\/lt b a=true
section
variable {prog:Program}{w:World}{K:Type}[DecidableEq K]{knd:wW prog w K}{lt:K->K->Bool}{A:Around}{E:Value->Shared->Prop}{s:Shared}
structure Od(knd:wW prog w K)(lt:K->K->Bool):Prop where
 ol:Ol lt
 one:∀{a b:K} {u v:Value} {A:Around} {E:Value->Shared->Prop} {s:Shared} {Q:Bool->Shared->Prop},knd.is a u=true->knd.is b v=true->Q (lt a b) s->wpAny (model prog w) A (oneLt' true u v) Q E s
 kind:∀{us:List (K×Value)},(∀q∈us,knd.is q.1 q.2=true)->2<=us.length->keyKind' (us.map (·.2)).toArray=pure oneType'
noncomputable def rk(lt:K->K->Bool)(ks:List K)(k:K):Int:=(ks.countP λx=>lt x k:Nat)
theorem Ej(O:Od knd lt){ks:List K}{a b:K}(ha:a∈ks)(h:lt a b=true):rk lt ks a<rk lt ks b:=by
 unfold rk
 have:=N0 (p:=λx=>lt x a) (q:=λx=>lt x b) ks (λx _ z=>O.ol.tr z h) ⟨a,ha,h,O.ol.xC a⟩
 omega
theorem NT(O:Od knd lt){ks:List K}{a b:K}(ha:a∈ks)(hb:b∈ks):rk lt ks a<rk lt ks b↔lt a b=true:=by
 refine ⟨λz=>?_,Ej O ha⟩
 by_cases e:a=b
 .subst e;omega
 .rcases O.ol.yS e with q | q
  .exact q
  .have:=Ej O hb q;omega
noncomputable def ky(knd:wW prog w K)(lt:K->K->Bool)(ks:List K)(v:Value):Int:=match ks.find? λk=>knd.is k v with
 | some k=>rk lt ks k
 | none=>0
theorem Js{ks:List K}{k:K}{v:Value}(hk:k∈ks)(h:knd.is k v=true):ky knd lt ks v=rk lt ks k:=by
 unfold ky
 cases hf:ks.find? λk=>knd.is k v with
 | none=>exact absurd h (by simpa using List.find?_eq_none.mp hf k hk)
 | some k'=>rw [knd.inj v k' k (List.find?_some (p:=λk=>knd.is k v) hf) h]
theorem Wu(O:Od knd lt){ks:List K}{us:List (K×Value)}(G6:ks.Nodup)(hu:(us.map (·.1)).Perm ks)(hi:∀q∈us,knd.is q.1 q.2=true)(S:Shared)(h2:2<=us.length):
  (∀{A:Around} {E:Value->Shared->Prop} {Q:SortKind->Shared->Prop},Q oneType' S->wpAny (model prog w) A (keyKind' (us.map (·.2)).toArray) Q E S) /\
  ∀{A:Around} {E:Value->Shared->Prop},wpS (model prog w) A E S sortRuns' (λ_ ao=>((((arrOf ao).map (·.2)).toList.Perm (us.map (·.2)))/\((arrOf ao).map (·.2)).toList.Pairwise λx y=>ky knd lt ks x<ky knd lt ks y)/\failedOf ao=none) (Be oneType' (pairsOf (us.map (·.2))) #[] 7 none):=by
 have mem:∀q∈us,q.1∈ks:=λq hq=>hu.mem_iff.mp (rM.mpr ⟨q,hq,rfl⟩)
 have kq:∀q∈us,ky knd lt ks q.2=rk lt ks q.1:=λq hq=>Js (mem q hq) (hi q hq)
 have pz:∀p∈(pairsOf (us.map (·.2))).toList,∃q∈us,p.1=q.2:=λp hp=>by
  rw [xM] at hp
  obtain ⟨q,hq,e⟩:=rM.mp (DO hp).1
  exact ⟨q,hq,e.symm⟩
 refine ⟨λ{A E Q} hQ=>by rw [O.kind hi h2];exact bE hQ,λ{A E}=>?_⟩
 have hz:(pairsOf (us.map (·.2))).size=us.length:=by rw [<-gh,xM];simp
 refine SO.zq (kd:=oneType') (κ:=λp=>ky knd lt ks p.1) (C:=λp=>∃q∈us,p.1=q.2) (a₀:=pairsOf (us.map (·.2))) ⟨λ{x y} cx cy fF=>?_⟩ ⟨pz,?_⟩ ⟨MR _,rfl,rfl,rfl,sr _,trivial,λR hR=>nomatch hR⟩ (by rw [hz];exact h2) λao p f i=>⟨TS.vI p λa b sj hb=>SO.iN i sj (by rw [p.size_eq];exact hb),f⟩
 .intro A E Q hQ
  obtain ⟨q,hq,e⟩:=cx
  obtain ⟨r,hr,e'⟩:=cy
  rw [keyLt'_oneType]
  rw [e,e',kq q hq,kq r hr] at hQ
  rw [e,e']
  refine O.one (hi q hq) (hi r hr) ?_
  have:decide (rk lt ks q.1<rk lt ks r.1)=lt q.1 r.1:=by
   rw [Bool.eq_iff_iff,decide_eq_true_eq];exact NT O (mem q hq) (mem r hr)
  rwa [this] at hQ
 .have e:((pairsOf (us.map (·.2))).toList.map λp=>ky knd lt ks p.1)=us.map λq=>rk lt ks q.1:=by
   rw [xM]
   have:((us.map (·.2)).zip (us.map (·.2))).map (λp=>ky knd lt ks p.1)=(us.map (·.2)).map (ky knd lt ks):=by
    show ((us.map (·.2)).zip (us.map (·.2))).map (ky knd lt ks∘λp:Value×Value=>p.1)=_
    rw [<-wH,List.map_fst_zip (bX _)]
   rw [this,wH]
   exact List.map_congr_left λq hq=>kq q hq
  show (((pairsOf (us.map (·.2))).toList.map λp=>ky knd lt ks p.1)).Nodup
  rw [e]
  have nd:(us.map (·.1)).Nodup:=hu.nodup_iff.mpr G6
  have:us.map (λq=>rk lt ks q.1)=(us.map (·.1)).map (rk lt ks):=by rw [wH];rfl
  rw [this]
  refine List.Pairwise.map _ (λa b sj=>?_) (nd.imp_of_mem (S:=λa b=>a∈ks/\b∈ks/\a≠b) λ{a b} ha hb fF=>⟨hu.mem_iff.mp ha,hu.mem_iff.mp hb,fF⟩)
  intro e
  rcases O.ol.yS sj.2.2 with q | q
  .have:=Ej O sj.1 q;omega
  .have:=Ej O sj.2.1 q;omega
theorem oJ(O:Od knd lt){a:Addr}{o:Obj}{ks:List K}{Q:Value->Shared->Prop}(hh:A.handled=none)(ho:s.heap.get? a=some o)(Z:Sa knd o ks)(G3:ks.Nodup)
  (h:∀(h':Heap) d' tk D e (us:List (K×Value)),(∀b o,s.heap.get? b=some o->h'.get? b=some o)->s.heap.objs.size<=D->h'.get? D=some (seqObj "list" (us.map (·.2)).toArray e)->(us.map (·.1)).Perm ks->(us.map (·.1)).Pairwise (λx y=>lt x y=true)->(∀q∈us,knd.is q.1 q.2=true)->us.length<scanBound->Q (.ref D) { s with heap:=h',drawn:=d',toks:=tk }):
  wpAny (model prog w) A (call (.builtin "sorted") [.ref a]) Q E s:=by
 refine Calls.call_function_entry kind_sorted plain_sorted entry_sorted (args_sorted1 _) ?_
 unfold Builtin.«sorted»
 refine aM (m:=checkCount "sorted" 1 1 _) (bE (aM (Zb (by simp [hh]) ho Z λh1 d' tk us k1 sz pu iu lu=>?_)))
 generalize hv:us.map (λq=>(q.1,q.2.2))=vs
 have e1:us.map (·.2.2)=vs.map (·.2):=by rw [<-hv,wH];rfl
 have e2:us.map (·.1)=vs.map (·.1):=by rw [<-hv,wH];rfl
 have iv:∀q∈vs,knd.is q.1 q.2=true:=λq hq=>by
  rw [<-hv] at hq
  obtain ⟨r,hr,rfl⟩:=rM.mp hq
  exact iu r hr
 have lv:vs.length<scanBound:=by rw [<-hv,dF];exact lu
 rw [e2] at pu
 rw [e1]
 have hZ:(vs.map (·.2)).length<=sizeLine:=by rw [dF];exact xX lv
 refine aM (wpAny_newList (hsz:=hZ) ?_)
 have z2:(h1.push (seqObj "list" (vs.map (·.2)).toArray 0)).get? h1.objs.size=some (seqObj "list" (vs.map (·.2)).toArray 0):=jY _ rfl
 have mem:∀q∈vs,q.1∈ks:=λq hq=>pu.mem_iff.mp (rM.mpr ⟨q,hq,rfl⟩)
 refine aM (sG (wM slot_list_sort ⟨_,z2,rfl⟩ entry_list_sort (TS.zf (κ:=oneType') (R:=λout=>out.toList.Perm (vs.map (·.2))/\out.toList.Pairwise λx y=>ky knd lt ks x<ky knd lt ks y) z2 hZ (λhl=>?_) (λout ho=>?_) (λS _ h2=>Wu O G3 pu iv S (by rwa [dF] at h2)) λout o1=>⟨_,rfl,?_⟩) (args_list_sort _)))
 .refine ⟨t8 _,?_⟩
  rw [dF] at hl
  show List.Pairwise _ (vs.map (·.2))
  cases vs with
  | nil=>exact t4
  | cons x l=>cases l with
   | nil=>exact BF _ _
   | cons y l=>simp at hl;omega
 .rw [<-gh,ho.1.length_eq]
 .refine bE ⟨_,rfl,?_⟩
  obtain ⟨ws,pw,ew⟩:=E4 o1.1 vs rfl
  obtain ⟨e,he⟩:=sortedHeap_at (out:=out) z2
  have k2:∀b o,s.heap.get? b=some o->(sortedHeap (h1.push (seqObj "list" (vs.map (·.2)).toArray 0)) h1.objs.size (vs.map (·.2)) out).get? b=some o:=λb o eb=>by
   have hb:b<h1.objs.size:=cE (k1 b o eb)
   rw [sortedHeap_old (dr hb) (by rw [nF];exact qG hb)]
   exact c8 _ (k1 b o eb)
  refine h _ d' tk _ e ws k2 sz (by rw [he];congr 1;congr 1;rw [<-ew]) ((pw.map _).trans pu) ?_ (λq hq=>iv q (pw.mem_iff.mp hq)) (by rw [pw.length_eq];exact lv)
  have p:=o1.2
  rw [ew,Ic] at p
  rw [Ic]
  refine p.imp_of_mem λ{x y} hx hy z=>?_
  have kz:=pw.mem_iff.mp hx
  have Ao:=pw.mem_iff.mp hy
  rw [Js (mem x kz) (iv x kz),Js (mem y Ao) (iv y Ao)] at z
  exact (NT O (mem x kz) (mem y Ao)).mp z
end
end SE
namespace SE
open PySem PyProof.Rows
noncomputable def ltI:Int->Int->Bool:=λa b=>decide (a<b)
noncomputable def vS:Str->Str->Bool:=λa b=>decide (a.cps.toList<b.cps.toList)
theorem iR:Ol ltI where
 xC:=λa=>by simp [ltI]
 tr:=λh1 h2=>by simp [ltI] at *;omega
 yS:=λh=>by simp [ltI];omega
theorem vN{prog:Program}{w:World}:Od (intKind prog w) ltI where
 ol:=iR
 one:=λ{a b u v A E s Q} ha hb hQ=>by
  obtain ⟨t,rfl⟩:=BE ha
  obtain ⟨t',rfl⟩:=BE hb
  exact oneLt_int hQ
 kind:=λ{us} h h2=>by
  have key:∀us:List (Int×Value),(∀q∈us,(intKind prog w).is q.1 q.2=true)->IntsAre (us.map (·.2)) (us.map (·.1)):=λus=>by
   induction us with
   | nil=>intro _;exact .nil
   | cons q us ih =>
    intro h
    obtain ⟨t,e⟩:=BE (h q kU)
    rw [dE,dE,e]
    exact .cons _ t (ih λq hq=>h q (jo _ hq))
  have k:=key us h
  match us,h2,k with
  | a::b::us,_,k=>exact keyKind_ints k
theorem Qf:∀{a b:List Nat},a≠b->a<b\/b<a
 | [],[],h=>absurd rfl h
 | [],_::_,_=>.inl List.Lex.nil
 | _::_,[],_=>.inr List.Lex.nil
 | x::a,y::b,h=>by
  rcases Nat.lt_trichotomy x y with q | q | q
  .exact .inl (List.Lex.rel q)
  .subst q
   rcases Qf (a:=a) (b:=b) (λe=>h (by rw [e])) with z | z
   .exact .inl (List.Lex.cons z)
   .exact .inr (List.Lex.cons z)
  .exact .inr (List.Lex.rel q)
theorem mL:Ol vS where
 xC:=λa=>by simp [vS,List.lt_irrefl]
 tr:=λh1 h2=>by
  unfold vS at *
  rw [decide_eq_true_eq] at *
  exact List.lt_trans h1 h2
 yS:=λ{a b} h=>by
  unfold vS
  rw [decide_eq_true_eq,decide_eq_true_eq]
  refine Qf λe=>h ?_
  obtain ⟨x⟩:=a
  obtain ⟨y⟩:=b
  have e':x=y:=Iy.mp e
  rw [e']
theorem vM{prog:Program}{w:World}:Od (DF prog w) vS where
 ol:=mL
 one:=λ{a b u v A E s Q} ha hb hQ=>by
  obtain ⟨t,rfl⟩:=BB ha
  obtain ⟨t',rfl⟩:=BB hb
  exact oneLt_str hQ
 kind:=λ{us} h h2=>by
  have key:∀us:List (Str×Value),(∀q∈us,(DF prog w).is q.1 q.2=true)->StrsAre (us.map (·.2)) (us.map (·.1)):=λus=>by
   induction us with
   | nil=>intro _;exact .nil
   | cons q us ih =>
    intro h
    obtain ⟨t,e⟩:=BB (h q kU)
    rw [dE,dE,e]
    exact .cons _ t (ih λq hq=>h q (jo _ hq))
  have k:=key us h
  match us,h2,k with
  | a::b::us,_,k=>exact keyKind_strs k
noncomputable def ins{K:Type}(lt:K->K->Bool)(x:K):List K->List K
 | []=>[x]
 | y::l=>if lt x y=true then x::y::l else if lt y x=true then y::ins lt x l else y::l
noncomputable def p7{K:Type}(lt:K->K->Bool):List K->List K
 | []=>[]
 | x::l=>ins lt x (p7 lt l)
section
variable {K:Type}[DecidableEq K]{lt:K->K->Bool}
theorem JT(O:Ol lt)(x z:K):∀l:List K,z∈ins lt x l↔z=x\/z∈l
 | []=>by simp [ins]
 | y::l=>by
  unfold ins
  split
  .simp
  .split
   .rw [cf,JT O x z l,cf]
    constructor
    .rintro (q | q | q)
     .exact .inr (.inl q)
     .exact .inl q
     .exact .inr (.inr q)
    .rintro (q | q | q)
     .exact .inr (.inl q)
     .exact .inl q
     .exact .inr (.inr q)
   .rename_i h1 h2
    have e:x=y:=Classical.byContradiction λz=>(O.yS z).elim h1 h2
    subst e
    simp
theorem OF(O:Ol lt)(x:K):∀l:List K,l.Pairwise (λa b=>lt a b=true)->(ins lt x l).Pairwise (λa b=>lt a b=true)
 | [],_=>BF _ _
 | y::l,h=>by
  obtain ⟨h1,h2⟩:=rQ.mp h
  unfold ins
  split
  .rename_i q
   refine rQ.mpr ⟨λz hz=>?_,h⟩
   rcases cf.mp hz with e | e
   .rw [e];exact q
   .exact O.tr q (h1 z e)
  .split
   .rename_i q
    refine rQ.mpr ⟨λz hz=>?_,OF O x l h2⟩
    rcases (JT O x z l).mp hz with e | e
    .rw [e];exact q
    .exact h1 z e
   .exact h
theorem kr(O:Ol lt)(z:K):∀l:List K,z∈p7 lt l↔z∈l
 | []=>eR
 | x::l=>by unfold p7;rw [JT O,kr O z l,cf]
theorem kx(O:Ol lt):∀l:List K,(p7 lt l).Pairwise (λa b=>lt a b=true)
 | []=>t4
 | x::l=>OF O x _ (kx O l)
theorem o9(O:Ol lt):∀{l m:List K},l.Pairwise (λa b=>lt a b=true)->m.Pairwise (λa b=>lt a b=true)->(∀z,z∈l↔z∈m)->l=m
 | [],[],_,_,_=>rfl
 | [],b::m,_,_,h=>absurd ((h b).mpr kU) (λz=>nomatch z)
 | a::l,[],_,_,h=>absurd ((h a).mp kU) (λz=>nomatch z)
 | a::l,b::m,hl,hm,h=>by
  obtain ⟨l1,l2⟩:=rQ.mp hl
  obtain ⟨m1,m2⟩:=rQ.mp hm
  have no:∀{x y:K},lt x y=true->lt y x=true->False:=λ{x y} p q=>by
   have:=O.tr p q
   rw [O.xC] at this
   exact wL this
  have e:a=b:=by
   rcases cf.mp ((h a).mp kU) with q | q
   .exact q
   .rcases cf.mp ((h b).mpr kU) with r | r
    .exact r.symm
    .exact (no (m1 a q) (l1 b r)).elim
  subst e
  rw [o9 O l2 m2 λz=>?_]
  constructor
  .intro hz
   rcases cf.mp ((h z).mp (jo _ hz)) with q | q
   .subst q
    have:=l1 z hz
    rw [O.xC] at this
    exact wL this
   .exact q
  .intro hz
   rcases cf.mp ((h z).mpr (jo _ hz)) with q | q
   .subst q
    have:=m1 z hz
    rw [O.xC] at this
    exact wL this
   .exact q
end
end SE
namespace DL
open PySem PySem.Spec PyProof.Rows L2
theorem _root_.L2.Inv.drawn{X:Cx}{pins:List (Addr×Obj)}{σ:List (Option V)}{H:Hp}{s:Shared}(I:Inv X pins σ H s)(d':Drawn):Inv X pins σ H { s with drawn:=d' }:=
 ⟨I.ok,I.os,I.bare,I.base,I.loc,I.cell,I.free,I.dR,I.pin,I.bq,I.len⟩
section
variable {X:Cx}{K:Type}[DecidableEq K]{knd:wW X.prog X.w K}{lt:K->K->Bool}{mk:K->V}
structure Kv(knd:wW X.prog X.w K)(mk:K->V):Prop where
 to:∀{k:K} {u:Value},RelV (mk k) u->knd.is k u=true/\u.scannable=true
 of:∀{k:K} {u:Value},knd.is k u=true->RelV (mk k) u
noncomputable def sE(knd:wW X.prog X.w K)(a:Addr)(ks:List K):HO:=.ext λh=>∃o,h.get? a=some o/\SE.Sa knd o ks
theorem ic(T:Kv knd mk)(dk:K)(hc:X.calm=true):cm X (.type "set") (λxs H Q=>∃(p:Addr) (ns:List K),xs=[.ref p]/\Sq X.K H true p (ns.map mk)/\ns.length+1<scanBound /\
  ∀(a:Addr) (ks:List K),ks.Nodup->(∀x,x∈ks↔x∈ns)->H a=none->Q (.ref a) (upd H a (sE knd a ks))):=by
 intro pins s σ H xs us Q I r h
 obtain ⟨p,ns,rfl,hq,hb,q⟩:=h
 obtain ⟨u,rfl,ru⟩:=r.one
 cases ru
 obtain ⟨av,rv,pl⟩:=zd (b:=true) I hq
 have hl:av.length=ns.length:=by rw [<-rv.length,dF]
 refine SE.ic (knd:=knd) (items:=av.toArray) (I.ok.hd hc) pl (λi=>ns.getD i dk) (λi v hv=>?_) (by rw [dG,hl];exact hb) λh' tk o ks k ho Z D=>?_
 .rw [IX] at hv
  have hi:i<ns.length:=by
   have:=(qK.mp hv).1
   omega
  obtain ⟨u,e1,e2⟩:=aB.get (x:=mk ns[i]) rv (i:=i) (by rw [qh,mB hi];rfl)
  rw [hv] at e1
  cases e1
  rw [Jf,mB hi]
  exact T.to e2
 .have fr:H s.heap.objs.size=none:=I.bq.fresh (bX _)
  refine ⟨.ref s.heap.objs.size,_,I.laid (o:=sE knd s.heap.objs.size ks) (t':=tk) (λb o e=>k b o (cE e) e) (bX _) ⟨⟨o,ho,Z⟩,⟨o,ho⟩,λh1 h2 ⟨o,e,z⟩ kk=>⟨o,kk _ e,z⟩⟩,rfl,q _ ks D.nd (λx=>?_) fr⟩
  rw [D.mem,dG,hl]
  constructor
  .rintro ⟨j,hj,e⟩
   rw [<-e,Jf,mB hj]
   exact tZ hj
  .intro hx
   obtain ⟨j,hj,e⟩:=qm.mp hx
   exact ⟨j,hj,by rw [Jf,mB hj];exact e⟩
theorem Qj(T:Kv knd mk)(O:SE.Od knd lt)(hc:X.calm=true):cm X (.builtin "sorted") (λxs H Q=>∃(p:Addr) (ks:List K),xs=[.ref p]/\H p=some (sE knd p ks)/\ks.Nodup /\
  ∀(ms:List K) (a:Addr),ms.Perm ks->ms.Pairwise (λx y=>lt x y=true)->H a=none->Q (.ref a) (upd H a (.lst (ms.map mk)))):=by
 intro pins s σ H xs vs Q I r h
 obtain ⟨p,ks,rfl,hp,G3,q⟩:=h
 obtain ⟨u,rfl,ru⟩:=r.one
 cases ru
 obtain ⟨⟨o,ho,Z⟩,_⟩:=I.bq p _ hp
 refine SE.oJ O (I.ok.hd hc) ho Z G3 λh' d' tk D e us k sz hD pu yg iu lu=>?_
 have fr:H D=none:=I.bq.fresh sz
 refine ⟨.ref D,_,(I.laid (o:=.lst ((us.map (·.1)).map mk)) (t':=tk) k sz ⟨?_,us.map (·.2),e,?_,hD⟩).drawn d',rfl,q _ D pu yg fr⟩
 .rw [dF,dF];exact xX lu
 .clear hD pu yg lu
  induction us with
  | nil=>exact .nil
  | cons x us ih=>exact .cons (T.of (iu x kU)) (ih λq hq=>iu q (jo _ hq))
theorem Ob:Kv (intKind X.prog X.w) V.int:=⟨λ{k u} ⟨t,e⟩=>by subst e;exact ⟨by simp [intKind,Ia],rfl⟩,λh=>BE h⟩
theorem Oe:Kv (DF X.prog X.w) V.str:=⟨λ{k u} ⟨t,e⟩=>by subst e;exact ⟨by simp [DF,IC],rfl⟩,λh=>BB h⟩
theorem NH{e:Expr}{t1 t2:TE}(h1:PE X e t1)(h2:PE X e t2):PE X e (λσ H Q=>t1 σ H Q\/t2 σ H Q):=λpins s σ H Q I h=>h.elim (h1 pins s σ H Q I) (h2 pins s σ H Q I)
theorem N9{K:aI}{O:Addr->Prop}{H:Hp}:∀ws:List Int,aR K O H (ws.map V.int) (ws.map D.int)
 | []=>.nil
 | _::ws=>.cons (Is.int _) (N9 ws)
theorem Oa{K:aI}{O:Addr->Prop}{H:Hp}:∀ws:List Str,aR K O H (ws.map V.str) (ws.map D.str)
 | []=>.nil
 | _::ws=>.cons (Is.str _) (Oa ws)
noncomputable def Ep:List D->Option (List Str)
 | []=>some []
 | .str x::ds=>(Ep ds).map (x::·)
 | _::_=>none
theorem PQ:∀{ds:List D} {ss:List Str},Ep ds=some ss->ds=ss.map D.str
 | [],ss,h=>by cases h;rfl
 | .str x::ds,ss,h=>by
  obtain ⟨s',h1,rfl⟩:=map_some (show (Ep ds).map (x::·)=some ss from h)
  rw [PQ h1];rfl
theorem Ph{K:aI}{O:Addr->Prop}{H:Hp}:∀{xs:List V} {ns:List Str},aR K O H xs (ns.map D.str)->xs=ns.map V.str
 | _,[],h=>by cases h;rfl
 | _,n::ns,h=>by
  cases h with
  | cons a t =>
   cases a
   rw [Ph t];rfl
noncomputable def sset(ds:List D):Option (List D):=match n8 ds with
 | some ns=>if ns.length+1<4096 then some ((SE.p7 SE.ltI ns).map D.int) else none
 | none=>(Ep ds).bind λss=>if ss.length+1<4096 then some ((SE.p7 SE.vS ss).map D.str) else none
noncomputable def BI(f:En->Option Sl):En->Option Sl:=λenv=>(f env).bind λr=>match r.d with
 | .lst _ ds=>(sset ds).map Sl.ow
 | _=>none
theorem OM{e:Expr}{fa:En->Option Sl}{p pos p2 oM:Pos}(hc:X.calm=true)(hg:Gl X "sorted")(hm:X.mg "sorted" = none)(xF:Gl X "set")(xD:X.mg "set" = none)(he:EV X e fa)(hs:starEach [e] X.env=[(false,eval e X.env)]:=by rfl)
  (nQ:starEach [.Call (.Name "set" p2) [e] [] oM] X.env=[(false,eval (.Call (.Name "set" p2) [e] [] oM) X.env)]:=by rfl):EV X (.Call (.Name "sorted" p) [.Call (.Name "set" p2) [e] [] oM] [] pos) (BI fa):=by
 obtain ⟨t,pt,k⟩:=he
 have P1:=xk (p:=p) (pos:=pos) (Qj Ob SE.vN hc) hg hm (by decide +kernel) (oh (yx (p:=p2) (pos:=oM) (ic Ob (0:Int) hc) xF xD (by decide +kernel) (oh pt pf hs) (by decide) (by decide) hs rfl) pf nQ) (by decide) (by decide) nQ rfl
 have P2:=xk (p:=p) (pos:=pos) (Qj Oe SE.vM hc) hg hm (by decide +kernel) (oh (yx (p:=p2) (pos:=oM) (ic Oe ("":Str) hc) xF xD (by decide +kernel) (oh pt pf hs) (by decide) (by decide) hs rfl) pf nQ) (by decide) (by decide) nQ rfl
 refine ⟨_,NH P1 P2,λO B σ H env s Q R e q=>?_⟩
 obtain ⟨r,e1,e2⟩:=bind_some e
 cases hd:r.d with
 | lst b ds =>
  rw [hd] at e2
  obtain ⟨rs,e3,rfl⟩:=map_some (show (sset ds).map Sl.ow=some s from e2)
  unfold sset at e3
  split at e3
  .rename_i ns e4
   obtain ⟨Hm,rfl⟩:=k7 e3
   refine .inl (k O B σ H env r _ R e1 λv H1 s1 r1=>?_)
   have hi:=r1.is λq=>R.oo
   rw [hd] at hi
   have HA:=KW e4
   subst HA
   obtain ⟨a,xs,rfl,h2,h3⟩:=hi.seq (k:=true) rfl
   have ex:=Kp h3
   subst ex
   refine ⟨a,ns,rfl,h2,Hm,λc ks nd mem hc=>⟨c,ks,rfl,kX,nd,λms d pm yg hd=>?_⟩⟩
   have nP:ms=SE.p7 SE.ltI ns:=SE.o9 SE.iR yg (SE.kx SE.iR ns) λz=>by rw [pm.mem_iff,mem,SE.kr SE.iR]
   have qC:H1 d=none:=by
    by_cases z:d=c
    .rw [z,kX] at hd;cases hd
    .rwa [da z] at hd
   rw [<-nP] at q
   refine q _ _ ((s1.trans (nH hc _)).trans (nH hd _)) ((yw hd ?_).from (s1.trans (nH hc _)))
   exact N9 _
  .rename_i e4
   obtain ⟨ss,e5,e6⟩:=bind_some e3
   obtain ⟨Hm,rfl⟩:=k7 e6
   refine .inr (k O B σ H env r _ R e1 λv H1 s1 r1=>?_)
   have hi:=r1.is λq=>R.oo
   rw [hd] at hi
   have HA:=PQ e5
   subst HA
   obtain ⟨a,xs,rfl,h2,h3⟩:=hi.seq (k:=true) rfl
   have ex:=Ph h3
   subst ex
   refine ⟨a,ss,rfl,h2,Hm,λc ks nd mem hc=>⟨c,ks,rfl,kX,nd,λms d pm yg hd=>?_⟩⟩
   have nP:ms=SE.p7 SE.vS ss:=SE.o9 SE.mL yg (SE.kx SE.mL ss) λz=>by rw [pm.mem_iff,mem,SE.kr SE.mL]
   rw [<-nP] at q
   refine q _ _ ((s1.trans (nH hc _)).trans (nH hd _)) ((yw hd ?_).from (s1.trans (nH hc _)))
   exact Oa _
 | _=>rw [hd] at e2;cases e2
end
end DL
namespace DL
open PySem L2
def F9(d:D)(Q:Sl->Prop):Prop:=match d with
 | .lst _ ds=>Wo (sset ds) λrs=>Q (.ow rs)
 | _=>False
theorem Nz{r:Bool}{ds:List D}{Q:Sl->Prop}:F9 (.lst r ds) Q↔Wo (sset ds) λrs=>Q (.ow rs):=eR
theorem OP{f:En->Option Sl}{env:En}{Q:Sl->Prop}:Wo (BI f env) Q↔Wo (f env) λr=>F9 r.d Q:=by
 unfold BI
 rw [a0h]
 refine j9 λr=>?_
 cases r.d<;>simp [F9,Wo_none,a07]
theorem YU(ns:List Int)(h:ns.length+1<4096):∃ms:List Int,sset (ns.map D.int)=some (ms.map D.int)/\ms.Pairwise (·<·)/\(∀x,x∈ms↔x∈ns):=by
 refine ⟨SE.p7 SE.ltI ns,?_,(SE.kx SE.iR ns).imp λ{a b} z=>by simpa [SE.ltI] using z,λx=>SE.kr SE.iR x ns⟩
 unfold sset
 rw [Ko]
 dsimp only
 rw [if_pos h]
end DL
namespace DL
open PySem PySem.Spec PyProof.Rows L2
mutual
noncomputable def j8:D->Bool
 | .tup ds=>vn ds
 | .lst _ _=>false
 | .exc _=>false
 | .iH _ _=>false
 | .obj _ _ _=>false
 | .cH _ _=>false
 | .bo=>true
 | .bl _=>true
 | .int _=>true
 | .str _=>true
noncomputable def vn:List D->Bool
 | []=>true
 | d::r=>j8 d&&vn r
end
section
variable {K:aI}{O O':Addr->Prop}{H:Hp}{p:Addr}{ys:List V}
theorem zy(hp:H p=some (.lst ys))(h:Rd H q (.tup xs)):q≠p:=λz=>by
 subst z
 rcases h with h | ⟨o,h⟩
 .rw [hp] at h;cases h
 .rw [hp] at h;cases h
mutual
theorem Wc(hp:H p=some (.lst ys))(hO:∀q,O q->O' q\/q=p):∀{v:V} {d:D},Is K O' H v d->j8 d=true->Is K O H v d
 | _,_,.bo,_=>.bo
 | _,_,.bl b,_=>.bl b
 | _,_,.int i,_=>.int i
 | _,_,.str x,_=>.str x
 | _,_,.tup ho h1 hs,f=>.tup (λz=>(hO _ z).elim ho (zy hp h1)) h1 (Ke hp hO hs (by simpa [j8] using f))
 | _,_,.lK h1 hs,f=>.lK h1 (Ke hp hO hs (by simpa [j8] using f))
 | _,_,.lst _ _ _,f=>by simp [j8] at f
 | _,_,.mJ _ _ _,f=>by simp [j8] at f
 | _,_,.mQ _ _,f=>by simp [j8] at f
 | _,_,.exc _ _ _,f=>by simp [j8] at f
 | _,_,.iH _ _,f=>by simp [j8] at f
 | _,_,.obj _ _ _ _ _,f=>by simp [j8] at f
 | _,_,.cH _ _ _ _,f=>by simp [j8] at f
 | _,_,.qf _ _,f=>by simp [j8] at f
theorem Ke(hp:H p=some (.lst ys))(hO:∀q,O q->O' q\/q=p):∀{v:List V} {d:List D},aR K O' H v d->vn d=true->aR K O H v d
 | _,_,.nil,_=>.nil
 | _,_,.cons h t,f=>by
  simp only [vn,sF] at f
  exact .cons (Wc hp hO h f.1) (Ke hp hO t f.2)
end
end
end DL
namespace DL
open PySem PySem.Spec PyProof.Rows L2
theorem O9{K:aI}{O:Addr->Prop}{H:Hp}{f:Str}{d:D}:∀{ns:List Str} {vs:List V} {ds:List D},aR K O H vs ds->(ns.zip ds).lookup f=some d->∃v,(ns.zip vs).lookup f=some v/\Is K O H v d
 | [],_,_,_,e=>by cases e
 | n::ns,_,_,.nil,e=>by cases e
 | n::ns,_,_,.cons h t,e=>by
  rw [tY,nY] at e ⊢
  by_cases z:(f==n)=true
  .rw [z] at e ⊢
   cases e
   exact ⟨_,rfl,h⟩
  .rw [DS] at z
   rw [z] at e ⊢
   exact O9 t e
theorem Pa{m:Str}:∀{ns:List Str} {vs:List V},m∉ns->(ns.zip vs).lookup m=none
 | [],_,_=>rfl
 | n::ns,[],_=>rfl
 | n::ns,v::vs,h=>by
  rw [tY,nY]
  have:(m==n)=false:=by
   rw [beq_eq_false_iff_ne]
   exact λe=>h (by rw [e];exact kU)
  rw [this]
  exact Pa λz=>h (jo _ z)
theorem JZ{f:Str}{y:V}:∀{ns:List Str} {us:List V},f∉ns->ns.length=us.length->dJ f y (ns.zip us)=(ns++[f]).zip (us++[y])
 | [],[],_,_=>rfl
 | [],_::_,_,h=>by cases h
 | _::_,[],_,h=>by cases h
 | n::ns,u::us,h,hl=>by
  show (if n=f then _ else (n,u)::dJ f y (ns.zip us))=(n,u)::(ns++[f]).zip (us++[y])
  rw [if_neg (λe=>h (by rw [e];exact kU)),JZ (λz=>h (jo _ z)) (by simpa using hl)]
theorem Ea{α:Type}{c:Prop}[Decidable c]{x:Option α}{y:α}(h:(if c then x else none)=some y):c/\x=some y:=by
 by_cases hc:c
 .rw [if_pos hc] at h;exact ⟨hc,h⟩
 .rw [if_neg hc] at h;cases h
theorem XF{σ:L2.St}{env:En}{x:Option V}{q:Addr}(h:mo (x::σ) (.no::env) q):mo σ env q:=by
 obtain ⟨i,s,e1,o,e2⟩:=h
 cases i with
 | zero=>cases e1;exact o.elim
 | succ i=>exact ⟨i,s,by simpa using e1,o,by simpa using e2⟩
theorem O4{K:aI}{O:Addr->Prop}{B H:Hp}{σ:L2.St}{env:En}(x:Option V)(R:Rel K O B σ H env):Rel K O B (x::σ) H (.no::env):=by
 have oo:∀q,OO O (x::σ) (.no::env) q->OO O σ env q:=λq z=>z.elim .inl λz=>.inr (XF z)
 refine ⟨R.same,R.o6,by simp [R.len],λi d e=>?_,λi ds e=>?_,λi ks e=>?_,λi ks ds e=>?_,λi j ds es p e1 e2 e3 e4 o1 o2=>?_⟩
 .cases i with
  | zero=>cases e
  | succ i=>obtain ⟨v,f1,f2⟩:=R.sh i d (by simpa using e);exact ⟨v,by simpa using f1,f2.less oo⟩
 .cases i with
  | zero=>cases e
  | succ i=>obtain ⟨p,xs,f1,f2,f3,f4⟩:=R.ow i ds (by simpa using e);exact ⟨p,xs,by simpa using f1,f2,f3,f4.less oo⟩
 .cases i with
  | zero=>cases e
  | succ i=>obtain ⟨p,f1,f2,f3⟩:=R.dw i ks (by simpa using e);exact ⟨p,by simpa using f1,f2,f3⟩
 .cases i with
  | zero=>cases e
  | succ i=>obtain ⟨p,xs,f1,f2,f3,f4,f5⟩:=R.tw i ks ds (by simpa using e);exact ⟨p,xs,by simpa using f1,f2,f3,f4,f5.less oo⟩
 .cases i with
  | zero=>cases e1;exact o1.elim
  | succ i =>
   cases j with
   | zero=>cases e2;exact o2.elim
   | succ j=>rw [R.sep i j ds es p (by simpa using e1) (by simpa using e2) (by simpa using e3) (by simpa using e4) o1 o2]
def qw(K:aI)(c:Str)(P:Addr->Prop):Prop:=∀C,gg K mainGlobals c=some (some (.ref C))->oH K C/\P C
noncomputable def eG(cs:List Str)(f:Str):D->Option D
 | .obj c ns ds=>if c∈cs then (ns.zip ds).lookup f else none
 | _=>none
noncomputable def dN(cs:List Str)(f:Str)(fo:En->Option Sl):En->Option Sl:=λenv=>(fo env).bind λr=>(eG cs f r.d).map Sl.sh
section
variable {X:Cx}{e o:Expr}{es:List Expr}{f m:Str}{pos apos p:Pos}{fo:En->Option Sl}{fs:En->Option (List D)}{cs:List Str}
theorem pd(ho:EV X o fo)(hc:∀c∈cs,qw X.K c λC=>ag X.K C f)(hb:attributeBase o f X.env (eval o X.env)=eval o X.env:=by rfl):EV X (.Attribute o f pos) (dN cs f fo):=by
 obtain ⟨t,pt,k⟩:=ho
 refine ⟨_,U7 pt hb,λO B σ H env s Q R e q=>?_⟩
 obtain ⟨r,e1,e2⟩:=bind_some e
 obtain ⟨d,e3,rfl⟩:=map_some e2
 refine k O B σ H env r _ R e1 λv H1 s1 r1=>?_
 have hi:=r1.is λq=>R.oo
 cases hd:r.d with
 | obj c ns ds =>
  rw [hd] at hi e3
  obtain ⟨hm,e4⟩:=Ea (show (if c∈cs then (ns.zip ds).lookup f else none)=some d from e3)
  cases hi with
  | obj ho hn hp hl hs =>
   obtain ⟨u,hu,iu⟩:=O9 hs e4
   obtain ⟨c1,c2⟩:=hc c hm _ hn
   exact ⟨_,_,_,_,u,rfl,hp,c1,c2,hu,q u H1 s1 iu⟩
 | _=>rw [hd] at e3;cases e3
noncomputable def JL(X:Cx)(m:Str)(j:Nat)(ta:TE)(t:TA):TE:=λσ H Q=>ta σ H λx H1=>∃a C dx fs f fd ps sp,x=.ref a/\H1 a=some (.ins C dx fs)/\oH X.K C/\bQ X.K C m f/\fs.lookup m=none/\Binds X.K fd ps []/\bY X.prog X.w X.K X.mg X.base jl j f fd ps sp /\
 t σ H1 λvs H2=>sp (x::vs) H2 Q E0
theorem XJ{pl:Sem Bool}{j:Nat}{ta:TE}{t:TA}(he:PE X o ta)(hr:bS j X.A)(ha:PA X (e::es) t)
  (tD:starEach (e::es) X.env=(false,eval e X.env)::starEach es X.env:=by rfl)(dY:(backTo pos (starEach es X.env)).any (·.1)=false:=by rfl)
  (ht:eval (.Call (.Attribute o m apos) (e::es) [] pos) X.env=(eval o X.env >>= λov=>standAt apos.atName >>= λ_=>holding [ov] (getMethod ov m pl) >>= λz=>callWith pos z.1 z.2 (backTo pos (starEach (e::es) X.env)) (backToKw pos (keywordEach [] X.env))):=by rfl):
  PE X (.Call (.Attribute o m apos) (e::es) [] pos) (JL X m j ta t):=by
 intro pins s σ H Q I h
 refine M0 (pl:=pl) (bw (he pins s σ H _ I h) λu s1 ⟨x,H1,I1,rx,a,C,dx,fs,f,fd,ps,sp,ex,ea,c,hm,l,hb,F,q⟩=>?_) ht
 subst ex
 obtain rfl:u=cI a:=rx
 refine PF I1 ea c hm l (Jc (first:=[.ref a]) (h₀:=X.base) I.ok.mod.Ae hm.kp (bw (ha pos pins s1 σ H1 _ I1 q) λus s2 ⟨vs,H2,I2,r,q2⟩=>⟨I2.jJ,?_⟩) tD dY)
 exact JA (us:=.ref a::us) (vs:=.ref a::vs) (dvs:=[]) (E:=E0) F hr hb .nil BM I2 (.cons rfl r) (by rw [sC];exact q2)
theorem X3{pl:Sem Bool}{j:Nat}{ta:TE}(he:PE X o ta)(hr:bS j X.A)
  (ht:eval (.Call (.Attribute o m apos) [] [] pos) X.env=(eval o X.env >>= λov=>standAt apos.atName >>= λ_=>holding [ov] (getMethod ov m pl) >>= λz=>callWith pos z.1 z.2 (backTo pos (starEach [] X.env)) (backToKw pos (keywordEach [] X.env))):=by rfl):
  PE X (.Call (.Attribute o m apos) [] [] pos) (JL X m j ta y2):=by
 intro pins s σ H Q I h
 refine M0 (pl:=pl) (bw (he pins s σ H _ I h) λu s1 ⟨x,H1,I1,rx,a,C,dx,fs,f,fd,ps,sp,ex,ea,c,hm,l,hb,F,q⟩=>?_) ht
 subst ex
 obtain rfl:u=cI a:=rx
 exact PF I1 ea c hm l (PySem.W.callWith_K0 (first:=[.ref a]) I1.jJ hm.kp (JA (us:=[.ref a]) (vs:=[.ref a]) (dvs:=[]) (E:=E0) F hr hb .nil BM I1 (.cons rfl .nil) q))
noncomputable abbrev eO:=List (Str×(List D->Option Sl))
def MT(X:Cx)(m:Str)(n j:Nat)(tab:eO):Prop:=∀c φ,tab.lookup c=some φ->qw X.K c λC=>∃f fd ps,bQ X.K C m f/\ps.length=n/\Binds X.K fd ps []/\bY X.prog X.w X.K X.mg X.base jl j f fd ps (qW X.K n φ)
noncomputable def rX(m:Str)(n:Nat)(tab:eO)(d:D)(as:List D):Option Sl:=match d with
 | .obj c ns ds=>if m∈ns\/as.length+1≠n then none else (tab.lookup c).bind λφ=>φ (.obj c ns ds::as)
 | _=>none
noncomputable def oB(m:Str)(n:Nat)(tab:eO)(fo:En->Option Sl)(fa:En->Option (List D)):En->Option Sl:=λenv=>(fo env).bind λr=>(fa env).bind λas=>rX m n tab r.d as
theorem Pq{t:TE}{u:TA}{n j:Nat}{tab:eO}(T:MT X m n j tab)
  (k:∀(O:Addr->Prop) (B:Hp) (σ:L2.St) (H:Hp) (env:En) (r:Sl) (Q:VK),Rel X.K O B σ H env->fo env=some r->(∀v H',aC H H'->Res X.K (OO O σ env) H H' v r->Q v H')->t σ H Q)
  (ka:∀(O:Addr->Prop) (B:Hp) (σ:L2.St) (H:Hp) (env:En) (ds:List D) (Q:List V->Hp->Prop),Rel X.K O B σ H env->fs env=some ds->(∀vs H',aC H H'->aR X.K (OO O σ env) H' vs ds->Q vs H')->u σ H Q)
  (O:Addr->Prop)(B:Hp)(σ:L2.St)(H:Hp)(env:En)(s:Sl)(Q:VK)(R:Rel X.K O B σ H env)(e:oB m n tab fo fs env=some s)(q:∀v H',aC H H'->Res X.K (OO O σ env) H H' v s->Q v H'):JL X m j t u σ H Q:=by
 obtain ⟨r,e1,e2⟩:=bind_some e
 obtain ⟨as,e3,e4⟩:=bind_some e2
 refine k O B σ H env r _ R e1 λv H1 s1 r1=>?_
 have hi:=r1.is λq=>R.oo
 cases hd:r.d with
 | obj c ns ds =>
  rw [hd] at hi e4
  unfold rX at e4
  dsimp only at e4
  split at e4
  .cases e4
  .rename_i qB
   rw [not_or] at qB
   obtain ⟨φ,e5,e6⟩:=bind_some e4
   have pM:=hi
   cases hi with
   | obj ho hn hp hl hs =>
    obtain ⟨c1,f,fd,ps,c2,c3,c4,c5⟩:=T c φ e5 _ hn
    refine ⟨_,_,_,_,f,fd,ps,_,rfl,hp,c1,c2,Pa qB.1,c4,c5,?_⟩
    refine ka O B σ H1 env as _ (R.grow s1) e3 λvs H2 s2 r2=>?_
    have nl:as.length+1=n:=Classical.not_not.mp qB.2
    exact ⟨OO O σ env,_,s,((R.grow s1).grow s2).dm,.cons (pM.grow s2) r2,by rw [jX,r2.length];exact nl,e6,λv H3 s3 r3=>q v H3 ((s1.trans s2).trans s3) (r3.from (s1.trans s2))⟩
 | _=>rw [hd] at e4;cases e4
theorem V3{n j:Nat}{tab:eO}{pl:Sem Bool}(ho:EV X o fo)(ha:AV X (e::es) fs)(hr:bS j X.A)(T:MT X m n j tab)
  (tD:starEach (e::es) X.env=(false,eval e X.env)::starEach es X.env:=by rfl)(dY:(backTo pos (starEach es X.env)).any (·.1)=false:=by rfl)
  (ht:eval (.Call (.Attribute o m apos) (e::es) [] pos) X.env=(eval o X.env >>= λov=>standAt apos.atName >>= λ_=>holding [ov] (getMethod ov m pl) >>= λz=>callWith pos z.1 z.2 (backTo pos (starEach (e::es) X.env)) (backToKw pos (keywordEach [] X.env))):=by rfl):
  EV X (.Call (.Attribute o m apos) (e::es) [] pos) (oB m n tab fo fs):=by
 obtain ⟨t,pt,k⟩:=ho
 obtain ⟨u,pu,ka⟩:=ha
 exact ⟨_,XJ pt hr pu tD dY ht,λO B σ H env s Q R e q=>Pq T k ka O B σ H env s Q R e q⟩
theorem W5{n j:Nat}{tab:eO}{pl:Sem Bool}(ho:EV X o fo)(hr:bS j X.A)(T:MT X m n j tab)
  (ht:eval (.Call (.Attribute o m apos) [] [] pos) X.env=(eval o X.env >>= λov=>standAt apos.atName >>= λ_=>holding [ov] (getMethod ov m pl) >>= λz=>callWith pos z.1 z.2 (backTo pos (starEach [] X.env)) (backToKw pos (keywordEach [] X.env))):=by rfl):
  EV X (.Call (.Attribute o m apos) [] [] pos) (oB m n tab fo ar):=by
 obtain ⟨t,pt,k⟩:=ho
 refine ⟨_,X3 pt hr ht,λO B σ H env s Q R e q=>Pq T k (λO B σ H env ds Q R e q=>?_) O B σ H env s Q R e q⟩
 obtain rfl:=dh (show some []=some ds from e)
 exact q [] H (aC.refl _) .nil
noncomputable def F4(K:aI)(C:Addr)(n:Nat)(ns:List Str)(ψ:List D->Option (List D)):Sp:=λvs H Q _=>∃(O:Addr->Prop) (p dx:Addr) (ws:List V) (ds fs:List D),vs=.ref p::ws/\ws.length=n/\H p=some (.ins C dx [])/\uz K O H/\O p/\aR K O H ws ds/\ψ ds=some fs /\
 ∀(us:List V) (H':Hp),ns.length=us.length->(∀q u,H q=some u->q≠p->H' q=some u)->H' p=some (.ins C dx (ns.zip us))->aR K O H' us fs->Q .bo H'
noncomputable def sk(c:Str)(n:Nat)(ns:List Str)(ψ:List D->Option (List D))(fa:En->Option (List D)):En->Option Sl:=λenv=>(fa env).bind λas=>if as.length=n then (ψ as).map λds=>Sl.sh (.obj c ns ds) else none
theorem AY{c:Str}{C f:Addr}{fd:FuncData}{ps:List Str}{n j:Nat}{ns:List Str}{ψ:List D->Option (List D)}(M:Mk X.K C f)(F:bY X.prog X.w X.K X.mg X.base jl j f fd ps (F4 X.K C n ns ψ))(hr:bS (j+1) X.A)(hg:Gl X c)(hm:X.mg c=some (.ref C))(hn:gg X.K mainGlobals c=some (some (.ref C)))(hb:Binds X.K fd ps [])
  (ha:AV X (e::es) fs)(lT:(c==("__debug__":Str))=false:=by decide)(he:starEach (e::es) X.env=(false,eval e X.env)::starEach es X.env:=by rfl)(dY:(backTo pos (starEach es X.env)).any (·.1)=false:=by rfl):
  EV X (.Call (.Name c p) (e::es) [] pos) (sk c n ns ψ fs):=by
 obtain ⟨t,pt,ka⟩:=ha
 refine ⟨_,Oy M F hr hg hm hb .nil (BM (X:=X)) pt lT he dY,λO B σ H env r Q R e q=>?_⟩
 obtain ⟨as,e1,e2⟩:=bind_some e
 obtain ⟨hl,e3⟩:=Ea e2
 obtain ⟨gs,e4,rfl⟩:=map_some e3
 refine ka O B σ H env as _ R e1 λvs H1 s1 r1=>?_
 intro x dx nx GB ne
 have nO:¬OO O σ env x:=λz=>(R.grow s1).oo z nx
 have up1:∀q u,H1 q=some u->upd (upd H1 dx (.own x)) x (.ins C dx []) q=some u:=λq u e=>by rw [da (oF e nx),da (oF e GB)];exact e
 refine ⟨λq=>OO O σ env q\/q=x,x,dx,vs,as,gs,by rw [sC],by rw [r1.length];exact hl,kX,⟨λq hq=>?_,(R.grow s1).dm.2.grow λq u e=>up1 q u e⟩,.inr rfl,r1.map (λq hq hn z=>z.elim hn λe=>hq (by rw [e];exact nx)) λq u e _=>up1 q u e,e4,λus H' rB kp hp hs=>⟨rfl,?_⟩⟩
 .rcases hq with hq | rfl
  .cases hz:H1 q with
   | none=>exact absurd hz ((R.grow s1).oo hq)
   | some u=>rw [up1 q u hz];exact λz=>nomatch z
  .rw [kX];exact λz=>nomatch z
 .have sm:aC H1 H':=λq u e=>kp q u (up1 q u e) (oF e nx)
  exact q _ H' (s1.trans sm) (Is.obj nO hn hp rB (hs.less λq z=>.inl z))
def xp(X:Cx)(oI:List Stmt)(C:Addr)(F:En->List Str->List D->Option (List Str×List D)):Prop:=
 ∃t:TS,oG X oI t/\∀(O:Addr->Prop) (σ:L2.St) (H:Hp) (env:En) (p dx:Addr) (ns:List Str) (us:List V) (ds:List D) (kP:List Str) (ds':List D) (Dn:Ends),Rel X.K O H σ H env->(∀(i:Nat) s,env[i]?=some s->¬s.own)->O p->σ[0]?=some (some (V.ref p))->H p=some (.ins C dx (ns.zip us))->ns.length=us.length->aR X.K O H us ds->F env ns ds=some (kP,ds') ->
  (∀(H':Hp) (us':List V),(∀q u,H q=some u->q≠p->H' q=some u)->H' p=some (.ins C dx (kP.zip us'))->kP.length=us'.length->aR X.K O H' us' ds'->Dn.nx σ H')->t Dn σ H
noncomputable def mW:En->List Str->List D->Option (List Str×List D):=λ_ ns ds=>some (ns,ds)
noncomputable def jK(f:Str)(fe:En->Option Sl)(F:En->List Str->List D->Option (List Str×List D)):En->List Str->List D->Option (List Str×List D):=λenv ns ds=>(fe env).bind λr=>if f∈ns\/900<ns.length then none else F env (ns++[f]) (ds++[r.d])
theorem EA{C:Addr}:xp X [] C mW:=⟨_,JY,λO σ H env p dx ns us ds kP ds' Dn R no op hs hp hl hi e q=>by
 cases (show some (ns,ds)=some (kP,ds') from e)
 exact q H us (λ_ _ e _=>e) hp hl hi⟩
theorem Ux{C:Addr}{fe:En->Option Sl}{F:En->List Str->List D->Option (List Str×List D)}{oI:List Stmt}{x:Str}{p1 pos':Pos}(hv:EV X e fe)(hr:xp X oI C F)(c:oH X.K C)(n:ag X.K C f)
  (hN:X.N[0]?=some x)(oQ:iJ X.env.scope x)(hd:(x==("__debug__":Str))=false:=by rfl)(cu:(x==("__classdict__":Str))=false:=by rfl)
  (hs:swapsWith e (some (.Attribute (.Name x p1) f pos')) pos.line X.env=pure false:=by rfl):xp X (.Assign [.Attribute (.Name x p1) f pos'] e pos::oI) C (jK f fe F):=by
 obtain ⟨t,pt,k⟩:=hv
 obtain ⟨u,pu,ku⟩:=hr
 refine ⟨_,Kg (NO (rY hN oQ hd cu) pt hs) pu,λO σ H env p dx ns us ds kP ds' Dn R no op hs hp hl hi e q=>?_⟩
 obtain ⟨r,e1,e2⟩:=bind_some e
 split at e2
 .cases e2
 rename_i qB
 rw [not_or] at qB
 have mO:∀q,mo σ env q->False:=λq ⟨i,s,h1,h2,_⟩=>no i s h1 h2
 refine k O H σ H env r _ R e1 λv H1 s1 r1=>?_
 have iv:=(r1.is λq=>R.oo).less (O':=O) λq z=>.inl z
 refine ⟨.ref p,hs,p,C,dx,ns.zip us,rfl,s1 _ _ hp,c,n,by rw [DN];omega,?_⟩
 rw [JZ qB.1 hl]
 have kp:∀q u,H1 q=some u->q≠p->upd H1 p (.ins C dx ((ns++[f]).zip (us++[v]))) q=some u:=λq u e ne=>by rw [da ne];exact e
 have mp:∀{w:V} {d:D},Is X.K O H1 w d->Is X.K O (upd H1 p (.ins C dx ((ns++[f]).zip (us++[v])))) w d:=λh=>h.map (λ_ _ z=>z) λq u e nq=>kp q u e λz=>nq (by rw [z];exact op)
 have GC:∀{w:List V} {d:List D},aR X.K O H1 w d->aR X.K O (upd H1 p (.ins C dx ((ns++[f]).zip (us++[v])))) w d:=λh=>h.map (λ_ _ z=>z) λq u e nq=>kp q u e λz=>nq (by rw [z];exact op)
 refine ku O σ _ env p dx (ns++[f]) (us++[v]) (ds++[r.d]) kP ds' Dn ⟨aC.refl _,⟨λq hq=>?_,λc' P e'=>?_⟩,R.len,λi d e=>?_,λi es e=>(no i _ e trivial).elim,λi es e=>(no i _ e trivial).elim,λi ks es e=>(no i _ e trivial).elim,λi j es fs q e1 _ _ _ o _=>(no i _ e1 o).elim⟩ no op hs kX (by rw [dz,dz,hl];rfl) ((GC (hi.grow s1)).append (.cons (mp iv) .nil)) e2 λH' us' kq qc rB pM=>q H' us' (λq u e ne=>kq q u (kp q u (s1 _ _ e) ne) ne) qc rB pM
 .by_cases z:q=p
  .rw [z,kX];exact λz=>nomatch z
  .rw [da z]
   cases hz:H q with
   | none=>exact absurd hz (R.o6.1 q hq)
   | some u=>rw [s1 _ _ hz];exact λz=>nomatch z
 .have e3:=R.o6.2 c' P e'
  exact kp _ _ (s1 _ _ e3) λz=>by rw [z,hp] at e3;cases e3
 .obtain ⟨w,f1,f2⟩:=R.sh i d e
  refine ⟨w,f1,(mp ((f2.grow s1).less λq z=>.inl z)).less λq z=>z.elim id λz=>(mO q z).elim⟩
end
section
variable {P:Program}{w:World}{K:aI}{mg:Str->Option Value}{base:Heap}
noncomputable def gu(F:En->List Str->List D->Option (List Str×List D))(N:Nat)(ns:List Str)(ds:List D):Option (List D):=match F (.no::mD (N-1) ds) [] [] with
 | some (kP,fs)=>if kP=ns then some fs else none
 | none=>none
theorem V6{qual:Str}{st:Stmt}{f C:Addr}{fd:FuncData}{N ps:List Str}{k n:Nat}{ns:List Str}{F:En->List Str->List D->Option (List Str×List D)}(Fn:sd K "__init__" qual st f fd)(S:cc N ps (df st))(tE:ps.length=n+1)(hN:1<=N.length)
  (b7:∀X:Cx,X.prog=P->X.w=w->X.K=K->X.mg=mg->X.base=base->Fx X N (df st) k->xp X (il st) C F):bY P w K mg base jl (k+1) f fd ps (F4 K C n ns (gu F N.length ns)):=by
 refine Fn.ok S (λvs H Q E h=>?_) (λcX A outer s H vs Q E hr h=>?_)
 .obtain ⟨O,p,dx,ws,ds,fs,rfl,hl,_⟩:=h
  rw [jX,hl,tE]
 obtain ⟨O,p,dx,ws,ds,fs,rfl,hl,hp,dm,op,hi,e,q⟩:=h
 obtain ⟨t,pt,kk⟩:=b7 (nh jl P w K mg base N qual (df st) f cX A outer s H E).jm rfl rfl rfl rfl rfl ⟨rfl,rfl,rfl,λ_ _=>rfl,Bi,hr,S.nd,λ_=>⟨rfl,rfl,rfl⟩⟩
 refine ⟨t,pt,?_⟩
 have R0:=Kt (N:=N.tail) dm hi
 have R1:=O4 (some (V.ref p)) R0
 have es:some (V.ref p)::start N.tail ws=start N (V.ref p::ws):=by
  unfold L2.start
  rw [dE,DR,DQ,jX,Nat.sub_sub,Nat.add_comm 1]
 rw [es,DQ] at R1
 unfold gu at e
 cases hF:F (.no::mD (N.length-1) ds) [] [] with
 | none=>rw [hF] at e;cases e
 | some y =>
  obtain ⟨kP,tN⟩:=y
  rw [hF] at e
  obtain ⟨rfl,rfl⟩:=k7 (show (if kP=ns then some tN else none)=some fs from e)
  refine kk O _ H _ p dx [] [] [] kP tN _ R1 (λi s h1 h2=>?_) op rfl hp rfl .nil hF λH' us' kp qc rB pM=>q us' H' rB kp qc pM
  cases i with
  | zero=>cases h1;exact h2
  | succ i =>
   have h1:(mD (N.length-1) ds)[i]?=some s:=by simpa using h1
   unfold mD at h1
   rw [D6] at h1
   split at h1
   .rw [qh] at h1
    obtain ⟨d,_,e⟩:=map_some h1
    cases e
    exact h2
   .rw [yd] at h1
    split at h1
    .cases h1;exact h2
    .cases h1
end
end DL
namespace DL
open PySem PySem.Spec PyProof.Rows L2
structure jk(K:aI)(c:Str)(C:Addr):Prop where
 a:gg K mainGlobals c=some (some (.ref C))
 c:oH K C
theorem jk.n{K:aI}{c:Str}{C:Addr}{P:Addr->Prop}(h:jk K c C)(p:P C):qw K c P:=λC' e=>by
 rw [h.a] at e
 cases e
 exact ⟨h.c,p⟩
def FL(K:aI)(f:Str)(cs:List Str):Prop:=∀c∈cs,qw K c λC=>ag K C f
theorem vm{K:aI}{f:Str}:FL K f []:=λ_ h=>nomatch h
theorem cP{K:aI}{f c:Str}{C:Addr}{cs:List Str}(h:jk K c C)(n:ag K C f)(T:FL K f cs):FL K f (c::cs):=λc' hc=>by
 rcases cf.mp hc with rfl | hc
 .exact h.n n
 .exact T c' hc
structure cW(K:aI)(f:Addr)(x qual:Str)(st:Stmt)(ps:List Str)(fd:FuncData):Prop where
 fn:sd K x qual st f fd
 bd:Binds K fd ps []
def Om(P:Program)(w:World)(K:aI)(mg:Str->Option Value)(base:Heap)(f:Addr)(x qual:Str)(st:Stmt)(ps:List Str)(j:Nat)(φ:List D->Option Sl):Prop:=∃fd,cW K f x qual st ps fd/\bY P w K mg base jl j f fd ps (qW K ps.length φ)
theorem qL{P:Program}{w:World}{K:aI}{mg:Str->Option Value}{base:Heap}{x qual:Str}{st:Stmt}{f:Addr}{fd:FuncData}{N ps:List Str}{k:Nat}{F:SF}(D':cW K f x qual st ps fd)
  (b7:∀X:Cx,Sx X P w K mg base->Fx X N (df st) k->oq X (il st) F)(S:cc N ps (df st):=by exact ⟨rfl,rfl,rfl,by decide +kernel,rfl,by decide +kernel,by decide +kernel⟩):Om P w K mg base f x qual st ps (k+1) (bJ F N.length):=
 ⟨fd,D',AS D'.fn S λX e1 e2 e3 e4 e5=>by subst e1 e2 e3 e4 e5;exact b7 X (.mk X)⟩
def ox(P:Program)(w:World)(K:aI)(mg:Str->Option Value)(base:Heap)(m:Str)(n j:Nat)(tab:eO):Prop:=∀c φ,tab.lookup c=some φ->qw K c λC=>∃f fd ps,bQ K C m f/\ps.length=n/\Binds K fd ps []/\bY P w K mg base jl j f fd ps (qW K n φ)
section
variable {P:Program}{w:World}{K:aI}{mg:Str->Option Value}{base:Heap}{m c:Str}{n j:Nat}{tab:eO}
theorem xh:ox P w K mg base m n j []:=λc φ e=>nomatch e
theorem eS{C f:Addr}{x qual:Str}{st:Stmt}{ps:List Str}{i:Nat}{φ:List D->Option Sl}(h:jk K c C)(hm:bQ K C m f)(O:Om P w K mg base f x qual st ps i φ)(T:ox P w K mg base m n j tab)(hj:i<=j:=by decide)(hl:ps.length=n:=by rfl):ox P w K mg base m n j ((c,φ)::tab):=λc' QI e=>by
 rw [nY] at e
 by_cases z:(c'==c)=true
 .rw [z] at e
  cases e
  obtain rfl:c'=c:=by simpa using z
  obtain ⟨fd,D',F⟩:=O
  exact h.n ⟨f,fd,ps,hm,hl,D'.bd,by rw [<-hl];exact F.mono hj⟩
 .rw [DS] at z
  rw [z] at e
  exact T c' QI e
end
structure FM(K:aI)(n q:Str)(t:Stmt)(f:Addr)(od an:Option Addr)(sl:Array (Option Value))(oc kV dc pm cd ct:Value):Prop where
 l:K.lookup f=some ⟨oc,od,.func (md n q (nA t) (il t) (df t) .none kV dc pm an cd ct),sl⟩
 c:Bn K cd q=true
 k:pS K (.ref f)=true
theorem nE{K:aI}{n q:Str}{t:Stmt}{f:Addr}{od an:Option Addr}{sl:Array (Option Value)}{oc kV dc pm cd ct:Value}{ps:List Str}(i:FM K n q t f od an sl oc kV dc pm cd ct)(hb:∀(kV doc pm:Value) (an:Option Addr) (cX ct:Value) (us:List Value),us.length=ps.length->bindArgs (md n q (nA t) (il t) (df t) .none kV doc pm an cX ct) ⟨us,[]⟩=pure (ps.zip us)):
  cW K f n q t ps (md n q (nA t) (il t) (df t) .none kV dc pm an cd ct):=⟨Ey i.l i.c i.k,(Ey i.l i.c i.k).binds hb⟩
def sP(P:Program)(w:World)(K:aI)(mg:Str->Option Value)(base:Heap)(c:Str)(n:Nat)(ns:List Str)(j:Nat)(ψ:List D->Option (List D)):Prop:=∃C f fd ps,Mk K C f/\bY P w K mg base jl j f fd ps (F4 K C n ns ψ)/\mg c=some (.ref C)/\gg K mainGlobals c=some (some (.ref C))/\Binds K fd ps []
theorem D8{P:Program}{w:World}{K:aI}{mg:Str->Option Value}{base:Heap}{c qual:Str}{st:Stmt}{f C:Addr}{fd:FuncData}{N ps:List Str}{k n:Nat}{ns:List Str}{F:En->List Str->List D->Option (List Str×List D)}(h:jk K c C)(hm:mg c=some (.ref C))(M:Mk K C f)(D':cW K f "__init__" qual st ps fd)
  (b7:∀X:Cx,Sx X P w K mg base->Fx X N (df st) k->xp X (il st) C F)(tE:ps.length=n+1:=by rfl)(hN:1<=N.length:=by decide)(S:cc N ps (df st):=by exact ⟨rfl,rfl,rfl,by decide +kernel,rfl,by decide +kernel,by decide +kernel⟩):sP P w K mg base c n ns (k+1) (gu F N.length ns):=
 ⟨C,f,fd,ps,M,V6 D'.fn S tE hN λX e1 e2 e3 e4 e5=>by subst e1 e2 e3 e4 e5;exact b7 X (.mk X),hm,h.a,D'.bd⟩
section
variable {X:Cx}{N:List Str}{sc:Scope}{k j n:Nat}{full:Bool}{e o:Expr}{es:List Expr}{m c f:Str}{pos p apos pos' p1:Pos}{fo fe:En->Option Sl}{fs:En->Option (List D)}{tab:eO}
theorem Fx.mt(h:Fx X N sc k full)(T:ox X.prog X.w X.K X.mg X.base m n j tab)(ho:EV X o fo)(ha:AV X (e::es) fs)(hj:j<=k:=by decide){pl:Sem Bool}
  (tD:starEach (e::es) X.env=(false,eval e X.env)::starEach es X.env:=by rfl)(dY:(backTo pos (starEach es X.env)).any (·.1)=false:=by rfl)
  (ht:eval (.Call (.Attribute o m apos) (e::es) [] pos) X.env=(eval o X.env >>= λov=>standAt apos.atName >>= λ_=>holding [ov] (getMethod ov m pl) >>= λz=>callWith pos z.1 z.2 (backTo pos (starEach (e::es) X.env)) (backToKw pos (keywordEach [] X.env))):=by rfl):
  EV X (.Call (.Attribute o m apos) (e::es) [] pos) (oB m n tab fo fs):=V3 (pl:=pl) ho ha (h.room.mono hj) T tD dY ht
theorem Fx.CY(h:Fx X N sc k full)(T:ox X.prog X.w X.K X.mg X.base m n j tab)(ho:EV X o fo)(hj:j<=k:=by decide){pl:Sem Bool}
  (ht:eval (.Call (.Attribute o m apos) [] [] pos) X.env=(eval o X.env >>= λov=>standAt apos.atName >>= λ_=>holding [ov] (getMethod ov m pl) >>= λz=>callWith pos z.1 z.2 (backTo pos (starEach [] X.env)) (backToKw pos (keywordEach [] X.env))):=by rfl):
  EV X (.Call (.Attribute o m apos) [] [] pos) (oB m n tab fo ar):=W5 (pl:=pl) ho (h.room.mono hj) T ht
theorem Fx.CZ{ns:List Str}{ψ:List D->Option (List D)}(h:Fx X N sc k full)(T:sP X.prog X.w X.K X.mg X.base c n ns j ψ)(ha:AV X (e::es) fs)(hj:j+1<=k:=by decide)(hg:sc.names.lookup c=some .globalImplicit:=by rfl)(lT:(c==("__debug__":Str))=false:=by rfl)
  (he:starEach (e::es) X.env=(false,eval e X.env)::starEach es X.env:=by rfl)(dY:(backTo pos (starEach es X.env)).any (·.1)=false:=by rfl):EV X (.Call (.Name c p) (e::es) [] pos) (sk c n ns ψ fs):=by
 obtain ⟨C,f,fd,ps,M,F,hm,hn,hb⟩:=T
 exact AY M F (h.room.mono hj) (h.g hg) hm hn hb ha lT he dY
theorem Fx.lQ{C:Addr}{oI:List Stmt}{F:En->List Str->List D->Option (List Str×List D)}{x:Str}(h:Fx X N sc k full)(c:oH X.K C)(n:ag X.K C f)(hv:EV X e fe)(hr:xp X oI C F)(hN:N[0]?=some x:=by rfl)(oQ:iJ sc x:=by first | exact cq rfl | exact bP (cq rfl) | exact bP (bP rfl))(hd:(x==("__debug__":Str))=false:=by rfl)(cu:(x==("__classdict__":Str))=false:=by rfl)
  (hs:swapsWith e (some (.Attribute (.Name x p1) f pos')) pos.line X.env=pure false:=by rfl):xp X (.Assign [.Attribute (.Name x p1) f pos'] e pos::oI) C (jK f fe F):=Ux hv hr c n (h.ix hN) (h.qy oQ) hd cu hs
end
structure uy(K:aI)(C R:Addr)(b:Bool):Prop where
 ha:bh K (.ref C) "__class__" = some (some (.builtin "object.__class__"))
 hn:DV K (.builtin "object.__class__") "__get__" = some (some (.builtin "getset_descriptor.__get__"))
 ht:Iu K (.builtin "object.__class__")=some true
 hm:u6 K C (.type "object")=some true
 k:uX K (.ref C) (.ref R)=some b
def IL(K:aI)(R:Addr)(tab:List (Str×Bool)):Prop:=∀c b,tab.lookup c=some b->qw K c λC=>uy K C R b
theorem Ut{K:aI}{R:Addr}:IL K R []:=λ_ _ e=>nomatch e
theorem yv{K:aI}{c:Str}{C R:Addr}{b:Bool}{tab:List (Str×Bool)}(h:jk K c C)(i:uy K C R b)(T:IL K R tab):IL K R ((c,b)::tab):=λc' b' e=>by
 rw [nY] at e
 by_cases z:(c'==c)=true
 .rw [z] at e
  cases e
  obtain rfl:c'=c:=by simpa using z
  exact h.n i
 .rw [DS] at z
  rw [z] at e
  exact T c' b' e
noncomputable def vW(tab:List (Str×Bool)):D->Option Sl
 | .obj c _ _=>(tab.lookup c).map λb=>.sh (.bl b)
 | _=>none
noncomputable def wA(tab:List (Str×Bool))(fo:En->Option Sl):En->Option Sl:=λenv=>(fo env).bind λr=>vW tab r.d
section
variable {X:Cx}{a:Expr}{p p2 pos:Pos}{fa:En->Option Sl}
theorem WU{R:Addr}:cm X (.builtin "isinstance") (λxs H Q=>∃a C dx fs b,xs=[.ref a,.ref R]/\H a=some (.ins C dx fs)/\oH X.K C/\uy X.K C R b/\Q (.bl b) H):=by
 intro pins s σ H xs us Q I r h
 obtain ⟨a,C,dx,fs,b,rfl,ha,hc,hi,q⟩:=h
 obtain ⟨u,v,rfl,ru,rv⟩:=r.two
 cases ru;cases rv
 exact Yb (x:=.ref a) I rfl (ji.ins ha hc hi.ha hi.hn hi.ht hi.hm) hi.k λtk=>⟨.bl b,H,I.tok _,rfl,q⟩
theorem Uj{x:Str}{R:Addr}{tab:List (Str×Bool)}(hg:Gl X "isinstance")(hm:X.mg "isinstance" = none)(xF:Gl X x)(xD:X.mg x=some (.ref R))(T:IL X.K R tab)(ha:EV X a fa)
  (hd:(x==("__debug__":Str))=false:=by decide)
  (hs:starEach [a,.Name x p2] X.env=[(false,eval a X.env),(false,eval (.Name x p2) X.env)]:=by rfl)(nQ:starEach [.Name x p2] X.env=[(false,eval (.Name x p2) X.env)]:=by rfl):
  EV X (.Call (.Name "isinstance" p) [a,.Name x p2] [] pos) (wA tab fa):=by
 obtain ⟨t,pt,k⟩:=ha
 have pn:PE X (.Name x p2) (λ_ H Q=>Q (.ref R) H):=λpins s σ H Q I h=>JM I xF xD ⟨.ref R,H,I,rfl,h⟩ hd
 refine ⟨_,xk (WU (R:=R)) hg hm (by decide +kernel) (oh pt (oh pn pf nQ) (by rw [hs,nQ])) (by decide) (by decide) (by rw [hs,nQ]) (by rw [nQ];rfl),λO B σ H env s Q R e q=>?_⟩
 obtain ⟨r,e1,e2⟩:=bind_some e
 refine k O B σ H env r _ R e1 λv H1 s1 r1=>?_
 have hi:=r1.is λq=>R.oo
 cases hd:r.d with
 | obj c ns ds =>
  rw [hd] at e2 hi
  obtain ⟨b,e3,e4⟩:=map_some (show (tab.lookup c).map (λb=>Sl.sh (.bl b))=some s from e2)
  subst e4
  cases hi with
  | obj ho hn hp hl hs =>
   obtain ⟨c1,c2⟩:=T c b e3 _ hn
   exact ⟨_,_,_,_,b,rfl,hp,c1,c2,q _ H1 s1 (Is.bl _)⟩
 | _=>rw [hd] at e2;cases e2
end
end DL
namespace DL
open PySem PySem.Spec PyProof.Rows L2
noncomputable def n9{α:Type}:List Str->List α->Str->Option α
 | k::ks,x::xs,y=>if k=y then some x else n9 ks xs y
 | _,_,_=>none
noncomputable def jw{α:Type}:List Str->List α->Str->α->List α
 | k::ks,x::xs,y,z=>(if k=y then z else x)::jw ks xs y z
 | _,xs,_,_=>xs
noncomputable def ua(ks:List Str)(y:Str):List Str:=if y∈ks then ks else ks++[y]
noncomputable def qo{α:Type}(ks:List Str)(xs:List α)(y:Str)(z:α):List α:=if y∈ks then jw ks xs y z else xs++[z]
theorem JJ:∀(ks:List Str) (vs:List V) (k:Str),gm ((ks.zip vs).map λq=>((.inr q.1:Key),q.2)) (.inr k)=n9 ks vs k
 | [],_,_=>rfl
 | _::_,[],_=>rfl
 | n::ks,v::vs,k=>by
  unfold gm
  rw [tY,dE,uY,n9]
  by_cases h:n=k
  .simp [h]
  .have:¬((qE n:Key)=.inr k):=λz=>h (Bd z)
   simp only [this,decide_false,if_neg h]
   exact JJ ks vs k
theorem Nv:∀(ks:List Str) (vs:List V) (k:Str),ks.length=vs.length->(((ks.zip vs).map λq=>((.inr q.1:Key),q.2)).any λkv=>decide (kv.1=(.inr k:Key)))=decide (k∈ks)
 | [],_,_,_=>by simp
 | _::_,[],_,h=>by cases h
 | n::ks,v::vs,k,h=>by
  rw [tY,dE,Dv,Nv ks vs k (by simpa using h)]
  by_cases e:n=k
  .simp [e]
  .have:¬((qE n:Key)=.inr k):=λz=>e (Bd z)
   have e':¬(k=n):=λz=>e z.symm
   simp [this,e']
theorem NK:∀(ks:List Str) (vs:List V) (k:Str) (v:V),((ks.zip vs).map λq=>((.inr q.1:Key),q.2)).map (λkv=>if kv.1=(.inr k:Key) then (kv.1,v) else kv)=(ks.zip (jw ks vs k v)).map λq=>((.inr q.1:Key),q.2)
 | [],_,_,_=>rfl
 | _::_,[],_,_=>rfl
 | n::ks,x::vs,k,v=>by
  rw [jw,tY,tY,dE,dE,dE,NK ks vs k v]
  by_cases e:n=k
  .have:(qE n:Key)=.inr k:=by rw [e]
   simp [this,e]
  .have:¬((qE n:Key)=.inr k):=λz=>e (Bd z)
   simp [this,e]
theorem O6{α:Type}:∀(ks:List Str) (xs:List α) (y:Str) (z:α),(jw ks xs y z).length=xs.length
 | [],xs,_,_=>by cases xs<;>rfl
 | _::_,[],_,_=>rfl
 | k::ks,x::xs,y,z=>by rw [jw,jX,jX,O6 ks xs y z]
theorem Xo{α:Type}{ks:List Str}{xs:List α}(h:ks.length=xs.length)(y:Str)(z:α):(ua ks y).length=(qo ks xs y z).length:=by
 unfold ua qo
 split
 .rw [O6];exact h
 .rw [dz,dz,h];rfl
theorem Vk{ks:List Str}{vs:List V}(h:ks.length=vs.length)(k:Str)(v:V):HO.dK (putK ((ks.zip vs).map λq=>((.inr q.1:Key),q.2)) (.inr k) v)=wC (ua ks k) (qo ks vs k v):=by
 unfold putK ua qo
 rw [Nv ks vs k h]
 by_cases e:k∈ks
 .simp only [e,decide_true,if_true]
  congr 1
  exact NK ks vs k v
 .simp only [e,decide_false,if_false]
  congr 1
  rw [List.zip_append h,qF]
  rfl
theorem aR.jw{K:aI}{O:Addr->Prop}{H:Hp}{y:Str}{v:V}{d:D}(h:Is K O H v d):∀{ks:List Str} {vs:List V} {ds:List D},aR K O H vs ds->aR K O H (DL.jw ks vs y v) (DL.jw ks ds y d)
 | [],_,_,.nil=>.nil
 | [],_,_,.cons a t=>.cons a t
 | _::_,_,_,.nil=>.nil
 | k::ks,_,_,.cons a t=>by
  unfold DL.jw
  refine .cons ?_ (aR.jw h t)
  split
  .exact h
  .exact a
theorem aR.Gq{K:aI}{O:Addr->Prop}{H:Hp}{y:Str}{v:V}{d:D}(h:Is K O H v d){ks:List Str}{vs:List V}{ds:List D}(t:aR K O H vs ds):aR K O H (qo ks vs y v) (qo ks ds y d):=by
 unfold qo
 split
 .exact aR.jw h t
 .exact t.append (.cons h .nil)
theorem JG{K:aI}{O:Addr->Prop}{H:Hp}{y:Str}:∀{ks:List Str} {vs:List V} {ds:List D},aR K O H vs ds->(n9 ks ds y=none/\n9 ks vs y=none)\/∃v d,n9 ks ds y=some d/\n9 ks vs y=some v/\Is K O H v d
 | [],_,_,_=>.inl ⟨by cases ‹List D›<;>rfl,by cases ‹List V›<;>rfl⟩
 | _::_,_,_,.nil=>.inl ⟨rfl,rfl⟩
 | k::ks,_,_,.cons a t=>by
  unfold n9
  split
  .exact .inr ⟨_,_,rfl,rfl,a⟩
  .exact JG t
noncomputable def w4:Option Sl->Option Str
 | some (.sh (.str n))=>some n
 | _=>none
theorem EM{o:Option Sl}{n:Str}(h:w4 o=some n):o=some (.sh (.str n)):=by
 unfold w4 at h
 split at h
 .cases h;rfl
 .cases h
section
variable {X:Cx}{e a b k v:Expr}{fa fb fk fv:En->Option Sl}{pos p1 p2 be:Pos}{i:Nat}{x:Str}
noncomputable def Hw:En->Option Sl:=λ_=>some (.tw [] [])
theorem V5:EV X (.Dict [] [] pos) Hw:=⟨_,XH,λO B σ H env r Q R e q=>by
 cases e
 exact λp hp=>q _ _ (nH hp _) ⟨p,[],rfl,hp,kX,rfl,.nil⟩⟩
noncomputable def xx(i:Nat)(f g:En->Option Sl):SF:=λenv=>match env[i]? with
 | some (.tw ks ds)=>(f env).bind λr=>(w4 (g env)).bind λk=>if ks.length<16777216 then some (.nx,env.set i (.tw (ua ks k) (qo ks ds k r.d))) else none
 | _=>none
theorem WA(ha:EV X e fa)(hb:EV X b fb)(hu:X.A.units+1<cLine)(hN:X.N[i]?=some x)(hv:iJ X.env.scope x)(hd:(x==("__debug__":Str))=false:=by decide)(cu:(x==("__classdict__":Str))=false:=by decide)
  (hs:swapsWith e (some (.Subscript (.Name x p1) b p2)) pos.line X.env=pure false:=by rfl):SV X (.Assign [.Subscript (.Name x p1) b p2] e pos) (xx i fa fb):=by
 obtain ⟨ta,pa,ka⟩:=ha
 obtain ⟨tb,pb,kb⟩:=hb
 refine ⟨_,VT hu (rY hN hv hd cu) pb pa hs,λO B σ H env fl ah Dn R e q=>?_⟩
 unfold xx at e
 split at e
 .rename_i ks ds he
  obtain ⟨r,e1,e⟩:=bind_some e
  obtain ⟨n,e2,e⟩:=bind_some e
  obtain ⟨hl,e3⟩:=k7 e
  cases e3
  obtain ⟨p,vs,f1,f2,f3,f4,f5⟩:=R.tw i ks ds he
  refine ka O B σ H env _ _ R e1 λvv H1 s1 r1=>⟨_,f1,?_⟩
  refine kb O B σ H1 env _ _ (R.grow s1) (EM e2) λvk H2 s2 r2=>?_
  have h2:vk=.str n:=yp r2
  subst h2
  have hi:=(r1.is λq=>R.oo).grow s2
  refine ⟨p,_,rfl,pF.k (k:=.inr n) (s2 _ _ (s1 _ _ f3)) (by rw [dF,DN,pT];omega),?_⟩
  obtain ⟨R',g'⟩:=(R.grow (s1.trans s2)).QL (ks':=ua ks n) (ds':=qo ks ds n r.d) (vs':=qo ks vs n vv) he f1 (Xo f4 n vv) (((f5.grow s1).grow s2).Gq hi)
  rw [Vk f4]
  exact q _ _ R' (g'.from (s1.trans s2))
 .cases e
noncomputable def wy(fd fk:En->Option Sl):En->Option Sl:=λenv=>(fd env).bind λr=>(w4 (fk env)).bind λk=>match r.d with
 | .cH ks ds=>(n9 ks ds k).map Sl.sh
 | _=>none
theorem V4(ha:EV X a fa)(hb:EV X b fb)(hu:X.A.units+1<cLine)(hs:uu b):EV X (.Subscript a b pos) (wy fa fb):=by
 obtain ⟨ta,pa,ka⟩:=ha
 obtain ⟨tb,pb,kb⟩:=hb
 refine ⟨_,VO hu pa pb hs,λO B σ H env s Q R e q=>?_⟩
 obtain ⟨r,e0,e⟩:=bind_some e
 obtain ⟨n,e1,e⟩:=bind_some e
 refine ka O B σ H env _ _ R e0 λvd H1 s1 r1=>kb O B σ H1 env _ _ (R.grow s1) (EM e1) λvk H2 s2 r2=>?_
 have h2:vk=.str n:=yp r2
 subst h2
 have hi:=(r1.is λq=>R.oo).grow s2
 cases hd:r.d with
 | cH ks ds =>
  rw [hd] at hi e
  obtain ⟨d,e3,rfl⟩:=map_some e
  cases hi with
  | cH ho hp hl hs =>
   rcases JG (y:=n) hs with ⟨z,_⟩ | ⟨v,d',z1,z2,z3⟩
   .rw [e3] at z;cases z
   .rw [e3] at z1
    cases z1
    exact ⟨_,v,rfl,.inl ⟨_,.inr n,.inl hp,rfl,by rw [JJ,z2]⟩,q _ _ (s1.trans s2) z3⟩
 | _=>rw [hd] at e;cases e
noncomputable def rH(neg:Bool)(fk fd:En->Option Sl):En->Option Sl:=λenv=>(w4 (fk env)).bind λk=>(fd env).bind λr=>match r.d with
 | .cH ks ds=>some (.sh (.bl (neg != (n9 ks ds k).isSome)))
 | _=>none
theorem XA{O:Addr->Prop}{H:Hp}{vd:V}{ks:List Str}{ds:List D}{K:aI}(hi:Is K O H vd (.cH ks ds))(n:Str):∃p ov,vd=.ref p/\kY H p (.str n) ov/\ov.isSome=(n9 ks ds n).isSome:=by
 cases hi with
 | cH ho hp hl hs =>
  refine ⟨_,_,rfl,.inl ⟨_,.inr n,.inl hp,rfl,rfl⟩,?_⟩
  rw [JJ]
  rcases JG (y:=n) hs with ⟨z1,z2⟩ | ⟨v,d',z1,z2,z3⟩<;>rw [z1,z2]<;>rfl
noncomputable def Dp(fd:En->Option Sl):En->Option Sl:=λenv=>(fd env).bind λr=>match r.d with
 | .cH ks ds=>some (.tw ks ds)
 | _=>none
theorem YH:cm X (.type "dict") (λxs H Q=>∃a aA,xs=[.ref a]/\Rd H a (.dK aA)/\∀p,H p=none->Q (.ref p) (upd H p (.dK aA))):=by
 intro pins s σ H xs us Q I r h
 obtain ⟨a,aA,rfl,ha,q⟩:=h
 obtain ⟨u,rfl,ru⟩:=r.one
 cases ru
 exact WY I ha λp s' hp I'=>⟨.ref p,_,I',rfl,q p hp⟩
theorem W6{p:Pos}(hg:Gl X "dict")(hm:X.mg "dict" = none)(ha:EV X a fa)(hs:starEach [a] X.env=[(false,eval a X.env)]:=by rfl):EV X (.Call (.Name "dict" p) [a] [] pos) (Dp fa):=by
 obtain ⟨t,pt,k⟩:=ha
 refine ⟨_,yx YH hg hm (by decide +kernel) (oh pt pf hs) (by decide) (by decide) hs rfl,λO B σ H env s Q R e q=>?_⟩
 obtain ⟨r,e1,e2⟩:=bind_some e
 refine k O B σ H env r _ R e1 λv H1 s1 r1=>?_
 have hi:=r1.is λq=>R.oo
 cases hd:r.d with
 | cH ks ds =>
  rw [hd] at hi e2
  cases e2
  cases hi with
  | cH ho hp hl hs =>
   refine ⟨_,_,rfl,.inl hp,λp hn=>q _ _ (s1.trans (nH hn _)) ⟨p,_,rfl,s1.free hn,kX,hl,?_⟩⟩
   exact hs.map (λq hq no z=>z.elim no λe=>hq (by rw [e];exact hn)) λq u e _=>by rw [da (oF e hn)];exact e
 | _=>rw [hd] at e2;cases e2
end
end DL
namespace DL
open PySem PySem.Spec PyProof.Rows L2
section
variable {X:Cx}{N:List Str}{sc:Scope}{k:Nat}{full:Bool}{e a b:Expr}{fa fb:En->Option Sl}{pos p1 p2 p:Pos}
theorem Wq{neg:Bool}{op:CmpOp}{td:TE->TE->TE}(hc:∀ta tb,PE X a ta->PE X b tb->PC X op a b (td ta tb))(hr:∀ta tb σ H Q,td ta tb σ H Q=(ta σ H λy H1=>tb σ H1 λx H2=>∃p o,x=.ref p/\kY H2 p y o/\Q (.bl (neg != o.isSome)) H2))(ha:EV X a fa)(hb:EV X b fb)(hm:behindInMarks op b=false):
  TV X (.Compare a [op] [b] pos) (cj (rH neg fa fb)):=by
 obtain ⟨ta,pa,ka⟩:=ha
 obtain ⟨tb,pb,kb⟩:=hb
 refine ⟨_,Vi (hc ta tb pa pb) hm,λO B σ H env c Q R e q=>?_⟩
 have e:=ui e
 obtain ⟨n,e1,e⟩:=bind_some e
 obtain ⟨r,e0,e⟩:=bind_some e
 show td ta tb σ H _
 rw [hr]
 refine ka O B σ H env _ _ R (EM e1) λvk H1 s1 r1=>kb O B σ H1 env _ _ (R.grow s1) e0 λvd H2 s2 r2=>?_
 have h2:vk=.str n:=yp r1
 subst h2
 have hi:=r2.is λq=>(R.grow s1).oo
 cases hd:r.d with
 | cH ks ds =>
  rw [hd] at hi e
  cases e
  obtain ⟨p,ov,rfl,g,eo⟩:=XA hi n
  exact ⟨p,ov,rfl,g,_,by rw [eo],q _ (s1.trans s2)⟩
 | _=>rw [hd] at e;cases e
theorem Fx.yR(h:Fx X N sc k full)(ha:EV X a fa)(hb:EV X b fb)(hm:behindInMarks .NotIn b=false:=by rfl):TV X (.Compare a [.NotIn] [b] pos) (cj (rH true fa fb)):=
 Wq (neg:=true) (td:=JV) (λta tb pa pb=>X2 (Jq h.room) pa pb) (λta tb σ H Q=>by unfold JV;simp only [Bool.true_bne]) ha hb hm
theorem Fx.FG(h:Fx X N sc k full)(i:Nat){x:Str}(ha:EV X e fa)(hb:EV X b fb)(hN:N[i]?=some x:=by rfl)(hv:iJ sc x:=by first | exact cq rfl | exact bP (cq rfl) | exact bP (bP rfl))(hd:(x==("__debug__":Str))=false:=by rfl)(cu:(x==("__classdict__":Str))=false:=by rfl)
  (hs:swapsWith e (some (.Subscript (.Name x p1) b p2)) pos.line X.env=pure false:=by rfl):SV X (.Assign [.Subscript (.Name x p1) b p2] e pos) (xx i fa fb):=WA ha hb (Jq h.room) (h.ix hN) (h.qy hv) hd cu hs
theorem Fx.vA(h:Fx X N sc k full)(ha:EV X a fa)(hb:EV X b fb)(hs:uu b:=by intro _ _;rfl):EV X (.Subscript a b pos) (wy fa fb):=V4 ha hb (Jq h.room) hs
end
end DL
namespace DL
open PySem PySem.Spec PyProof.Rows L2
section
variable {K:aI}{O O' L:Addr->Prop}{H:Hp}
theorem Vn{q:Addr}{xs:List V}(hL:L q->∃ys,H q=some (.lst ys))(h:Rd H q (.tup xs)):¬L q:=λz=>by
 obtain ⟨ys,e⟩:=hL z
 rcases h with h | ⟨o,h⟩
 .rw [e] at h;cases h
 .rw [e] at h;cases h
mutual
theorem Pd(hL:∀q,L q->∃ys,H q=some (.lst ys))(hO:∀q,O q->O' q\/L q):∀{v:V} {d:D},Is K O' H v d->j8 d=true->Is K O H v d
 | _,_,.bo,_=>.bo
 | _,_,.bl b,_=>.bl b
 | _,_,.int i,_=>.int i
 | _,_,.str x,_=>.str x
 | _,_,.tup ho h1 hs,f=>.tup (λz=>(hO _ z).elim ho (Vn (hL _) h1)) h1 (E3 hL hO hs (by simpa [j8] using f))
 | _,_,.lK h1 hs,f=>.lK h1 (E3 hL hO hs (by simpa [j8] using f))
 | _,_,.lst _ _ _,f=>by simp [j8] at f
 | _,_,.mJ _ _ _,f=>by simp [j8] at f
 | _,_,.mQ _ _,f=>by simp [j8] at f
 | _,_,.exc _ _ _,f=>by simp [j8] at f
 | _,_,.iH _ _,f=>by simp [j8] at f
 | _,_,.obj _ _ _ _ _,f=>by simp [j8] at f
 | _,_,.cH _ _ _ _,f=>by simp [j8] at f
 | _,_,.qf _ _,f=>by simp [j8] at f
theorem E3(hL:∀q,L q->∃ys,H q=some (.lst ys))(hO:∀q,O q->O' q\/L q):∀{v:List V} {d:List D},aR K O' H v d->vn d=true->aR K O H v d
 | _,_,.nil,_=>.nil
 | _,_,.cons h t,f=>by
  simp only [vn,sF] at f
  exact .cons (Pd hL hO h f.1) (E3 hL hO t f.2)
end
end
noncomputable def zT:Sl->Bool
 | .sh d=>j8 d
 | .ow ds=>vn ds
 | _=>false
abbrev OL(O L:Addr->Prop)(q:Addr):Prop:=O q\/L q
noncomputable def F5(K:aI)(C:Addr)(n:Nat)(ns:List Str)(ψ:List D->Option (List D)):Sp:=λvs H Q _=>∃(O:Addr->Prop) (p dx:Addr) (ws:List V) (ds fs:List D),vs=.ref p::ws/\ws.length=n/\H p=some (.ins C dx [])/\uz K O H/\O p/\aR K O H ws ds/\ψ ds=some fs /\
 ∃L:Addr->Prop,(∀q,L q->∃xs,H q=some (.lst xs))/\∀(us:List V) (H':Hp),ns.length=us.length->(∀q u,H q=some u->q≠p->H' q=some u)->H' p=some (.ins C dx (ns.zip us))->aR K (OL O L) H' us fs->Q .bo H'
section
variable {X:Cx}{e o:Expr}{es:List Expr}{f m:Str}{pos apos p:Pos}{fo:En->Option Sl}{fs:En->Option (List D)}
noncomputable def oY(i:Nat)(c:Str)(n:Nat)(ns:List Str)(ψ:List D->Option (List D))(fa:En->Option (List D)):En->Option Sl:=λenv=>match env[i]? with
 | some (.ow ds)=>sk c n ns ψ fa (env.set i (.sh (.lst false ds)))
 | _=>none
theorem Uk(i:Nat){c:Str}{C f:Addr}{fd:FuncData}{ps:List Str}{n j:Nat}{ns:List Str}{ψ:List D->Option (List D)}(M:Mk X.K C f)(F:bY X.prog X.w X.K X.mg X.base jl j f fd ps (F5 X.K C n ns ψ))(hr:bS (j+1) X.A)(hg:Gl X c)(hm:X.mg c=some (.ref C))(hn:gg X.K mainGlobals c=some (some (.ref C)))(hb:Binds X.K fd ps [])
  (ha:AV X (e::es) fs)(lT:(c==("__debug__":Str))=false:=by decide)(he:starEach (e::es) X.env=(false,eval e X.env)::starEach es X.env:=by rfl)(dY:(backTo pos (starEach es X.env)).any (·.1)=false:=by rfl):
  EV X (.Call (.Name c p) (e::es) [] pos) (oY i c n ns ψ fs):=by
 obtain ⟨t,pt,ka⟩:=ha
 refine ⟨_,Oy M F hr hg hm hb .nil (BM (X:=X)) pt lT he dY,λO B σ H env r Q R e q=>?_⟩
 unfold oY at e
 split at e
 rotate_left
 .cases e
 rename_i dl Mc
 obtain ⟨l,xl,sf,oU,SU,uO⟩:=R.ow i dl Mc
 obtain ⟨R',_⟩:=R.lU Mc
 have oo:∀q,OO O σ env q->OO O σ (env.set i (.sh (.lst false dl))) q\/q=l:=λq hz=>by
  rcases hz with hz | ⟨j,es,hj,ho,hz⟩
  .exact .inl (.inl hz)
  .by_cases Mj:j=i
   .subst Mj
    rw [sf] at hz
    cases hz
    exact .inr rfl
   .exact .inl (.inr ⟨j,es,by rw [dQ (λw=>Mj w.symm)];exact hj,ho,hz⟩)
 obtain ⟨as,e1,e2⟩:=bind_some e
 obtain ⟨hl,e3⟩:=Ea e2
 obtain ⟨gs,e4,rfl⟩:=map_some e3
 refine ka O B σ H _ as _ R' e1 λvs H1 s1 r1=>?_
 intro x dx nx GB ne
 have nO:¬OO O σ (env.set i (.sh (.lst false dl))) x:=λz=>(R'.grow s1).oo z nx
 have up1:∀q u,H1 q=some u->upd (upd H1 dx (.own x)) x (.ins C dx []) q=some u:=λq u e=>by rw [da (oF e nx),da (oF e GB)];exact e
 refine ⟨λq=>OO O σ (env.set i (.sh (.lst false dl))) q\/q=x,x,dx,vs,as,gs,by rw [sC],by rw [r1.length];exact hl,kX,⟨λq hq=>?_,(R'.grow s1).dm.2.grow λq u e=>up1 q u e⟩,.inr rfl,r1.map (λq hq hn z=>z.elim hn λe=>hq (by rw [e];exact nx)) λq u e _=>up1 q u e,e4,λq=>q=l,λq hq=>by rw [hq];exact ⟨xl,up1 _ _ (s1 _ _ SU)⟩,λus H' rB kp hp hs=>⟨rfl,?_⟩⟩
 .rcases hq with hq | rfl
  .cases hz:H1 q with
   | none=>exact absurd hz ((R'.grow s1).oo hq)
   | some u=>rw [up1 q u hz];exact λz=>nomatch z
  .rw [kX];exact λz=>nomatch z
 .have sm:aC H1 H':=λq u e=>kp q u (up1 q u e) (oF e nx)
  have RS:¬OO O σ env x:=λz=>(R.grow s1).oo z nx
  exact q _ H' (s1.trans sm) (Is.obj RS hn hp rB (hs.less λq z=>(oo q z).elim (λw=>.inl (.inl w)) .inr))
def xq(X:Cx)(oI:List Stmt)(C:Addr)(F:En->List Str->List D->Option (List Str×List D)):Prop:=
 ∃t:TS,oG X oI t/\∀(L O:Addr->Prop) (σ:L2.St) (H:Hp) (env:En) (p dx:Addr) (ns:List Str) (us:List V) (ds:List D) (kP:List Str) (ds':List D) (Dn:Ends),(∀q,L q->∃xs,H q=some (.lst xs))->Rel X.K O H σ H env->(∀(i:Nat) s,env[i]?=some s->¬s.own)->O p->σ[0]?=some (some (V.ref p))->H p=some (.ins C dx (ns.zip us))->ns.length=us.length->aR X.K (OL O L) H us ds->F env ns ds=some (kP,ds') ->
  (∀(H':Hp) (us':List V),(∀q u,H q=some u->q≠p->H' q=some u)->H' p=some (.ins C dx (kP.zip us'))->kP.length=us'.length->aR X.K (OL O L) H' us' ds'->Dn.nx σ H')->t Dn σ H
noncomputable def yj(f:Str)(fe:En->Option Sl)(F:En->List Str->List D->Option (List Str×List D)):En->List Str->List D->Option (List Str×List D):=λenv ns ds=>(fe env).bind λr=>if f∈ns\/900<ns.length\/zT r=false then none else F env (ns++[f]) (ds++[r.d])
theorem OE{C:Addr}:xq X [] C mW:=⟨_,JY,λL O σ H env p dx ns us ds kP ds' Dn hL R no op hs hp hl hi e q=>by
 cases (show some (ns,ds)=some (kP,ds') from e)
 exact q H us (λ_ _ e _=>e) hp hl hi⟩
theorem Wa{C:Addr}{fe:En->Option Sl}{F:En->List Str->List D->Option (List Str×List D)}{oI:List Stmt}{x:Str}{p1 pos':Pos}(hv:EV X e fe)(hr:xq X oI C F)(c:oH X.K C)(n:ag X.K C f)
  (hN:X.N[0]?=some x)(oQ:iJ X.env.scope x)(hd:(x==("__debug__":Str))=false:=by rfl)(cu:(x==("__classdict__":Str))=false:=by rfl)
  (hs:swapsWith e (some (.Attribute (.Name x p1) f pos')) pos.line X.env=pure false:=by rfl):xq X (.Assign [.Attribute (.Name x p1) f pos'] e pos::oI) C (yj f fe F):=by
 obtain ⟨t,pt,k⟩:=hv
 obtain ⟨u,pu,ku⟩:=hr
 refine ⟨_,Kg (NO (rY hN oQ hd cu) pt hs) pu,λL O σ H env p dx ns us ds kP ds' Dn hL R no op hs hp hl hi e q=>?_⟩
 obtain ⟨r,e1,e2⟩:=bind_some e
 split at e2
 .cases e2
 rename_i qB
 rw [not_or,not_or] at qB
 have mO:∀q,mo σ env q->False:=λq ⟨i,s,h1,h2,_⟩=>no i s h1 h2
 refine k O H σ H env r _ R e1 λv H1 s1 r1=>?_
 have Hh:∀q,L q->∃xs,H1 q=some (.lst xs):=λq hq=>let ⟨xs,e⟩:=hL q hq;⟨xs,s1 _ _ e⟩
 have iv:Is X.K (OL O L) H1 v r.d:=by
  have hf:zT r=true:=by simpa using qB.2.2
  cases r with
  | no=>cases hf
  | sh d=>exact Pd (O':=OO O σ env) Hh (λq z=>z.elim (λz=>.inl (.inl z)) .inr) r1 hf
  | ow ds' =>
   obtain ⟨q0,xs,rfl,f1,f2,f3⟩:=r1
   refine .lst (λz=>z.elim (λz=>R.o6.1 q0 z f1) λz=>?_) f2 (E3 Hh (λq z=>z.elim (λz=>.inl (.inl (.inl z))) .inr) f3 hf)
   obtain ⟨ys,e⟩:=hL q0 z
   rw [f1] at e
   cases e
  | dw aA=>cases hf
  | tw _ _=>cases hf
 refine ⟨.ref p,hs,p,C,dx,ns.zip us,rfl,s1 _ _ hp,c,n,by rw [DN];omega,?_⟩
 rw [JZ qB.1 hl]
 have kp:∀q u,H1 q=some u->q≠p->upd H1 p (.ins C dx ((ns++[f]).zip (us++[v]))) q=some u:=λq u e ne=>by rw [da ne];exact e
 have mp:∀{O1:Addr->Prop} {w:V} {d:D},O1 p->Is X.K O1 H1 w d->Is X.K O1 (upd H1 p (.ins C dx ((ns++[f]).zip (us++[v])))) w d:=λh1 h=>h.map (λ_ _ z=>z) λq u e nq=>kp q u e λz=>nq (by rw [z];exact h1)
 have GC:∀{O1:Addr->Prop} {w:List V} {d:List D},O1 p->aR X.K O1 H1 w d->aR X.K O1 (upd H1 p (.ins C dx ((ns++[f]).zip (us++[v])))) w d:=λh1 h=>h.map (λ_ _ z=>z) λq u e nq=>kp q u e λz=>nq (by rw [z];exact h1)
 have lp:¬L p:=λz=>by
  obtain ⟨ys,e⟩:=hL p z
  rw [hp] at e
  cases e
 refine ku L O σ _ env p dx (ns++[f]) (us++[v]) (ds++[r.d]) kP ds' Dn (λq hq=>?_) ⟨aC.refl _,⟨λq hq=>?_,λc' P e'=>?_⟩,R.len,λi d e=>?_,λi es e=>(no i _ e trivial).elim,λi es e=>(no i _ e trivial).elim,λi ks es e=>(no i _ e trivial).elim,λi j es fs q e1 _ _ _ o _=>(no i _ e1 o).elim⟩ no op hs kX (by rw [dz,dz,hl];rfl) ((GC (.inl op) (hi.grow s1)).append (.cons (mp (.inl op) iv) .nil)) e2 λH' us' kq qc rB pM=>q H' us' (λq u e ne=>kq q u (kp q u (s1 _ _ e) ne) ne) qc rB pM
 .obtain ⟨ys,e⟩:=Hh q hq
  exact ⟨ys,kp _ _ e λz=>lp (by rw [<-z];exact hq)⟩
 .by_cases z:q=p
  .rw [z,kX];exact λz=>nomatch z
  .rw [da z]
   cases hz:H q with
   | none=>exact absurd hz (R.o6.1 q hq)
   | some u=>rw [s1 _ _ hz];exact λz=>nomatch z
 .have e3:=R.o6.2 c' P e'
  exact kp _ _ (s1 _ _ e3) λz=>by rw [z,hp] at e3;cases e3
 .obtain ⟨w,f1,f2⟩:=R.sh i d e
  refine ⟨w,f1,(mp op ((f2.grow s1).less λq z=>.inl z)).less λq z=>z.elim id λz=>(mO q z).elim⟩
end
section
variable {P:Program}{w:World}{K:aI}{mg:Str->Option Value}{base:Heap}
theorem WD{qual:Str}{st:Stmt}{f C:Addr}{fd:FuncData}{N ps:List Str}{k n:Nat}{ns:List Str}{F:En->List Str->List D->Option (List Str×List D)}(Fn:sd K "__init__" qual st f fd)(S:cc N ps (df st))(tE:ps.length=n+1)(hN:1<=N.length)
  (b7:∀X:Cx,X.prog=P->X.w=w->X.K=K->X.mg=mg->X.base=base->Fx X N (df st) k->xq X (il st) C F):bY P w K mg base jl (k+1) f fd ps (F5 K C n ns (gu F N.length ns)):=by
 refine Fn.ok S (λvs H Q E h=>?_) (λcX A outer s H vs Q E hr h=>?_)
 .obtain ⟨O,p,dx,ws,ds,fs,rfl,hl,_⟩:=h
  rw [jX,hl,tE]
 obtain ⟨O,p,dx,ws,ds,fs,rfl,hl,hp,dm,op,hi,e,L,hL,q⟩:=h
 obtain ⟨t,pt,kk⟩:=b7 (nh jl P w K mg base N qual (df st) f cX A outer s H E).jm rfl rfl rfl rfl rfl ⟨rfl,rfl,rfl,λ_ _=>rfl,Bi,hr,S.nd,λ_=>⟨rfl,rfl,rfl⟩⟩
 refine ⟨t,pt,?_⟩
 have R0:=Kt (N:=N.tail) dm hi
 have R1:=O4 (some (V.ref p)) R0
 have es:some (V.ref p)::start N.tail ws=start N (V.ref p::ws):=by
  unfold L2.start
  rw [dE,DR,DQ,jX,Nat.sub_sub,Nat.add_comm 1]
 rw [es,DQ] at R1
 unfold gu at e
 cases hF:F (.no::mD (N.length-1) ds) [] [] with
 | none=>rw [hF] at e;cases e
 | some y =>
  obtain ⟨kP,tN⟩:=y
  rw [hF] at e
  obtain ⟨rfl,rfl⟩:=k7 (show (if kP=ns then some tN else none)=some fs from e)
  refine kk L O _ H _ p dx [] [] [] kP tN _ hL R1 (λi s h1 h2=>?_) op rfl hp rfl .nil hF λH' us' kp qc rB pM=>q us' H' rB kp qc pM
  cases i with
  | zero=>cases h1;exact h2
  | succ i =>
   have h1:(mD (N.length-1) ds)[i]?=some s:=by simpa using h1
   unfold mD at h1
   rw [D6] at h1
   split at h1
   .rw [qh] at h1
    obtain ⟨d,_,e⟩:=map_some h1
    cases e
    exact h2
   .rw [yd] at h1
    split at h1
    .cases h1;exact h2
    .cases h1
def yL(P:Program)(w:World)(K:aI)(mg:Str->Option Value)(base:Heap)(c:Str)(n:Nat)(ns:List Str)(j:Nat)(ψ:List D->Option (List D)):Prop:=∃C f fd ps,Mk K C f/\bY P w K mg base jl j f fd ps (F5 K C n ns ψ)/\mg c=some (.ref C)/\gg K mainGlobals c=some (some (.ref C))/\Binds K fd ps []
theorem Nt{c qual:Str}{st:Stmt}{f C:Addr}{fd:FuncData}{N ps:List Str}{k n:Nat}{ns:List Str}{F:En->List Str->List D->Option (List Str×List D)}(h:jk K c C)(hm:mg c=some (.ref C))(M:Mk K C f)(D':cW K f "__init__" qual st ps fd)
  (b7:∀X:Cx,Sx X P w K mg base->Fx X N (df st) k->xq X (il st) C F)(tE:ps.length=n+1:=by rfl)(hN:1<=N.length:=by decide)(S:cc N ps (df st):=by exact ⟨rfl,rfl,rfl,by decide +kernel,rfl,by decide +kernel,by decide +kernel⟩):yL P w K mg base c n ns (k+1) (gu F N.length ns):=
 ⟨C,f,fd,ps,M,WD D'.fn S tE hN λX e1 e2 e3 e4 e5=>by subst e1 e2 e3 e4 e5;exact b7 X (.mk X),hm,h.a,D'.bd⟩
end
section
variable {X:Cx}{N:List Str}{sc:Scope}{k j n:Nat}{full:Bool}{e o:Expr}{es:List Expr}{m c f:Str}{pos p apos pos' p1:Pos}{fo fe:En->Option Sl}{fs:En->Option (List D)}
theorem Fx.L4(i:Nat){ns:List Str}{ψ:List D->Option (List D)}(h:Fx X N sc k full)(T:yL X.prog X.w X.K X.mg X.base c n ns j ψ)(ha:AV X (e::es) fs)(hj:j+1<=k:=by decide)(hg:sc.names.lookup c=some .globalImplicit:=by rfl)(lT:(c==("__debug__":Str))=false:=by rfl)
  (he:starEach (e::es) X.env=(false,eval e X.env)::starEach es X.env:=by rfl)(dY:(backTo pos (starEach es X.env)).any (·.1)=false:=by rfl):EV X (.Call (.Name c p) (e::es) [] pos) (oY i c n ns ψ fs):=by
 obtain ⟨C,f,fd,ps,M,F,hm,hn,hb⟩:=T
 exact Uk i M F (h.room.mono hj) (h.g hg) hm hn hb ha lT he dY
theorem Fx.uL{C:Addr}{oI:List Stmt}{F:En->List Str->List D->Option (List Str×List D)}{x:Str}(h:Fx X N sc k full)(c:oH X.K C)(n:ag X.K C f)(hv:EV X e fe)(hr:xq X oI C F)(hN:N[0]?=some x:=by rfl)(oQ:iJ sc x:=by first | exact cq rfl | exact bP (cq rfl) | exact bP (bP rfl))(hd:(x==("__debug__":Str))=false:=by rfl)(cu:(x==("__classdict__":Str))=false:=by rfl)
  (hs:swapsWith e (some (.Attribute (.Name x p1) f pos')) pos.line X.env=pure false:=by rfl):xq X (.Assign [.Attribute (.Name x p1) f pos'] e pos::oI) C (yj f fe F):=Wa hv hr c n (h.ix hN) (h.qy oQ) hd cu hs
end
end DL
namespace DL
open PySem PySem.Spec PyProof.Rows L2
noncomputable def rE:D->D->Option Sl
 | .cH ks ds,.cH ks' ds'=>if ks=ks'/\ks.Nodup/\ds.length=ds'.length then (eN (qI (bp 7) ds ds')).map λbs=>.sh (.bl (bs.all id)) else none
 | _,_=>none
theorem NX{k:Str}:∀{ks:List Str} {ws:List Value} {i:Nat},ks.Nodup->ks[i]?=some k->∀w,ws[i]?=some w->valueAt ((ks.zip ws).map λq=>((.inr q.1:Key),q.2)) (.inr k)=some w
 | [],_,_,_,h,_,_=>by simp at h
 | n::ks,[],_,_,_,_,h=>by simp at h
 | n::ks,x::ws,0,nd,h,w,h'=>by
  simp at h h'
  subst h h'
  simp [valueAt]
 | n::ks,x::ws,i+1,nd,h,w,h'=>by
  obtain ⟨n1,n2⟩:=Bj.mp nd
  have h1:ks[i]?=some k:=by simpa using h
  have ne:n≠k:=λz=>n1 (by rw [z];exact IW h1)
  have:¬((qE n:Key)=.inr k):=λz=>ne (Bd z)
  have ih:=NX n2 h1 w (by simpa using h')
  unfold valueAt at ih ⊢
  rw [tY,dE,uY]
  simp only [this,decide_false]
  exact ih
theorem JF:∀{ks:List Str} {vs:List V} {qs:List (Key×Value)},ks.length=vs.length->KV ((ks.zip vs).map λq=>((.inr q.1:Key),q.2)) qs->∃us,aB vs us/\qs=(ks.zip us).map λq=>((.inr q.1:Key),q.2)
 | [],[],qs,_,h=>by cases h;exact ⟨[],.nil,rfl⟩
 | [],_::_,_,h,_=>by cases h
 | _::_,[],_,h,_=>by cases h
 | k::ks,v::vs,qs,hl,h=>by
  cases h with
  | cons a t =>
   obtain ⟨us,r,e⟩:=JF (by simpa using hl) t
   obtain ⟨a1,a2⟩:=a
   rename_i q r'
   refine ⟨q.2::us,.cons a2 r,?_⟩
   rw [tY,dE,<-e]
   congr 1
   exact Prod.ext a1.symm rfl
section
variable {X:Cx}{pins:List (Addr×Obj)}{σ:L2.St}{H:Hp}{s:Shared}
theorem Pc(I:Inv X pins σ H s){A:Around}(hu:A.units+7<cLine){O O':Addr->Prop}{C4:List Str}{ws0:List Value}(nd:C4.Nodup):∀{ks:List Str} {vs vs':List V} {us us':List Value} {ds ds':List D} {bs:List Bool} (pre:List Str) (rg:List Value),C4=pre++ks->ws0=rg++us'->pre.length=rg.length->ks.length=ds.length->aR X.K O H vs ds->aB vs us->aR X.K O' H vs' ds'->aB vs' us'->ds.length=ds'.length->eN (qI (bp 7) ds ds')=some bs ->
  PySem.W.KeqHits A s ((C4.zip ws0).map λq=>((.inr q.1:Key),q.2)) ((ks.zip us).map λq=>((.inr q.1:Key),q.2)) (bs.all id)
 | [],vs,vs',us,us',ds,ds',bs,pre,rg,_,_,_,hk,hv,rv,Dc,Gh,hl,e=>by
  have:ds=[]:=D4.mp hk.symm
  subst this
  have:bs=[]:=by simpa [eN] using e.symm
  subst this
  exact .nil
 | k::ks,vs,vs',us,us',ds,ds',bs,pre,rg,e1,e2,e3,hk,hv,rv,Dc,Gh,hl,e=>by
  cases hv with
  | nil=>simp at hk
  | @cons x d xs ds a t =>
   cases Dc with
   | nil=>simp at hl
   | @cons x' d' mF ds' a' t' =>
    cases us with
    | nil=>cases rv
    | cons u us =>
     cases us' with
     | nil=>cases Gh
     | cons u' us' =>
      cases rv with
      | cons r rt =>
       cases Gh with
       | cons r' Rb =>
        rw [IZ] at e
        cases hb:bp 7 d d' with
        | none=>rw [hb] at e;simp [eN] at e
        | some b =>
         rw [hb] at e
         obtain ⟨Ue,e4,e5⟩:=map_some (show (eN (qI (bp 7) ds ds')).map (b::·)=some bs from e)
         subst e5
         rw [tY,dE]
         have Su:=NX (k:=k) (ks:=C4) (ws:=ws0) (i:=pre.length) nd (by rw [e1];simp) u' (by rw [e2,e3];simp)
         have:=Pc I hu (O:=O) (O':=O') (ws0:=ws0) (ks:=ks) (us':=us') nd (pre++[k]) (rg++[u']) (by rw [e1];simp) (by rw [e2];simp) (by simp [e3]) (by simpa using hk) t rt t' Rb (by simpa using hl) e4
         rw [HR]
         exact .hit Su (JI I 7 hu a a' r r' hb).1 this
end
theorem Vt{X:Cx}(hu:X.A.units+8<cLine):k8 X (compareOp .Eq) rE:=by
 refine ⟨λx y H Q=>∃O O' ks ds ds' bs,Is X.K O H x (.cH ks ds)/\Is X.K O' H y (.cH ks ds')/\ks.Nodup/\ds.length=ds'.length/\eN (qI (bp 7) ds ds')=some bs/\Q (.bl (bs.all id)) H,?_,λO H x y a b s Q hO hx hy e q=>?_⟩
 .intro pins s σ H x y v u Q I rx ry h
  obtain ⟨O,O',ks,ds,ds',bs,hx,hy,nd,hl,e,q⟩:=h
  cases hx with
  | cH ho hp G4 hs =>
   cases hy with
   | cH k4 qc Aw se =>
    cases rx;cases ry
    obtain ⟨_,z1,qs,k1,d1⟩:=Ji I.bq hp
    obtain ⟨_,z2,ZZ,k2,d2⟩:=Ji I.bq qc
    obtain ⟨us,ru,rfl⟩:=JF G4 k1
    obtain ⟨us',LP,rfl⟩:=JF Aw k2
    have l1:us.length=ks.length:=by rw [<-ru.length];exact G4.symm
    have l2:us'.length=ks.length:=by rw [<-LP.length];exact Aw.symm
    refine PySem.W.keq_eq (r:=bs.all id) z1 z2 d1 d2 (Jb (DT _ _) hu) (λ_=>Pc I (A:=X.A.in1) (by simp;omega) nd [] [] rfl rfl rfl (by rw [<-hs.length];exact G4) hs ru se LP hl e) ?_
    have:(((ks.zip us).map λq=>((.inr q.1:Key),q.2)).length==((ks.zip us').map λq=>((.inr q.1:Key),q.2)).length)=true:=by simp [DN,l1,l2]
    rw [this,HQ]
    exact ⟨.bl _,H,I,rfl,q⟩
 .unfold rE at e
  split at e
  .obtain ⟨⟨rfl,nd,hl⟩,e1⟩:=Ea e
   obtain ⟨bs,e2,rfl⟩:=map_some e1
   exact ⟨O,O,_,_,_,bs,hx,hy,nd,hl,e2,q _ H (aC.refl _) (Is.bl _)⟩
  .cases e
end DL
namespace DL
open PySem L2
section
variable {env:En}{Q:Sl->Prop}{fo fk fd:En->Option Sl}{fa:En->Option (List D)}
theorem b43{cs:List Str}{f:Str}:Wo (dN cs f fo env) Q↔Wo (fo env) λr=>Wo (eG cs f r.d) λd=>Q (.sh d):=by
 unfold dN
 rw [a0h]
 exact j9 λr=>a07
theorem b2g{m:Str}{n:Nat}{tab:eO}:Wo (oB m n tab fo fa env) Q↔Wo (fo env) λr=>Wo (fa env) λas=>Wo (rX m n tab r.d as) Q:=by
 unfold oB
 rw [a0h]
 exact j9 λr=>a0h
theorem b7g{c:Str}{n:Nat}{ns:List Str}{ψ:List D->Option (List D)}:Wo (sk c n ns ψ fa env) Q↔Wo (fa env) λas=>as.length=n/\Wo (ψ as) λds=>Q (.sh (.obj c ns ds)):=by
 unfold sk
 rw [a0h]
 refine j9 λas=>?_
 by_cases h:as.length=n
 .rw [if_pos h,a07];exact ⟨λz=>⟨h,z⟩,λz=>z.2⟩
 .rw [if_neg h];exact ⟨λz=>(Wo_none.mp z).elim,λz=>(h z.1).elim⟩
theorem JP{i:Nat}{c:Str}{n:Nat}{ns:List Str}{ψ:List D->Option (List D)}{ds:List D}(he:env[i]?=some (.ow ds)):Wo (oY i c n ns ψ fa env) Q↔Wo (sk c n ns ψ fa (env.set i (.sh (.lst false ds)))) Q:=by
 unfold oY
 rw [he]
theorem b42{tab:List (Str×Bool)}:Wo (wA tab fo env) Q↔Wo (fo env) λr=>Wo (vW tab r.d) Q:=a0h
theorem b7d:Wo (Hw env) Q↔Q (.tw [] []):=a0e
def FK(d:D)(k:Str)(Q:Sl->Prop):Prop:=match d with
 | .cH ks ds=>Wo (n9 ks ds k) λd=>Q (.sh d)
 | _=>False
theorem tgQ_d{ks:List Str}{ds:List D}{k:Str}:FK (.cH ks ds) k Q↔Wo (n9 ks ds k) λd=>Q (.sh d):=eR
theorem Uh{o:Option Sl}{Q:Str->Prop}:Wo (w4 o) Q↔∃n,o=some (.sh (.str n))/\Q n:=by
 constructor
 .rintro ⟨n,e,q⟩
  exact ⟨n,EM e,q⟩
 .rintro ⟨n,rfl,q⟩
  exact ⟨n,rfl,q⟩
theorem JO{g:En->Option Sl}{Q:Str->Prop}:Wo (w4 (g env)) Q↔Wo (g env) λr=>∃n,r=.sh (.str n)/\Q n:=by
 rw [Uh]
 constructor
 .rintro ⟨n,e,q⟩;exact ⟨_,e,n,rfl,q⟩
 .rintro ⟨r,e,n,rfl,q⟩;exact ⟨n,e,q⟩
theorem Jw:Wo (wy fd fk env) Q↔Wo (fd env) λr=>Wo (fk env) λs=>∃k,s=.sh (.str k)/\FK r.d k Q:=by
 unfold wy
 rw [a0h]
 refine j9 λr=>?_
 rw [a0h,JO]
 refine j9 λs=>?_
 refine exists_congr λk=>and_congr_right λ_=>?_
 cases r.d<;>simp [FK,Wo_none,a07]
def FJ(neg:Bool)(d:D)(k:Str)(Q:Sl->Prop):Prop:=match d with
 | .cH ks ds=>Q (.sh (.bl (neg != (n9 ks ds k).isSome)))
 | _=>False
theorem tiQ_d{neg:Bool}{ks:List Str}{ds:List D}{k:Str}:FJ neg (.cH ks ds) k Q↔Q (.sh (.bl (neg != (n9 ks ds k).isSome))):=eR
theorem VD{neg:Bool}:Wo (rH neg fk fd env) Q↔Wo (fk env) λs=>∃k,s=.sh (.str k)/\Wo (fd env) λr=>FJ neg r.d k Q:=by
 unfold rH
 rw [a0h,JO]
 refine j9 λs=>?_
 refine exists_congr λk=>and_congr_right λ_=>?_
 rw [a0h]
 refine j9 λr=>?_
 cases r.d<;>simp [FJ,Wo_none,a0e]
def FN(d:D)(Q:Sl->Prop):Prop:=match d with
 | .cH ks ds=>Q (.tw ks ds)
 | _=>False
theorem tcQ_d{ks:List Str}{ds:List D}:FN (.cH ks ds) Q↔Q (.tw ks ds):=eR
theorem b7c:Wo (Dp fd env) Q↔Wo (fd env) λr=>FN r.d Q:=by
 unfold Dp
 rw [a0h]
 refine j9 λr=>?_
 cases r.d<;>simp [FN,Wo_none,a0e]
theorem UE{i:Nat}{f g:En->Option Sl}{ks:List Str}{ds:List D}{Q:Fl×En->Prop}(he:env[i]?=some (.tw ks ds)):Wo (xx i f g env) Q↔Wo (f env) λr=>Wo (g env) λs=>∃k,s=.sh (.str k)/\ks.length<16777216/\Q (.nx,env.set i (.tw (ua ks k) (qo ks ds k r.d))):=by
 unfold xx
 rw [he]
 dsimp only
 rw [a0h]
 refine j9 λr=>?_
 rw [a0h,JO]
 refine j9 λs=>?_
 refine exists_congr λk=>and_congr_right λ_=>?_
 by_cases h:ks.length<16777216
 .rw [if_pos h,a0e];exact ⟨λz=>⟨h,z⟩,λz=>z.2⟩
 .rw [if_neg h];exact ⟨λz=>(Wo_none.mp z).elim,λz=>(h z.1).elim⟩
theorem Sl_tw{ks:List Str}{ds:List D}:(Sl.tw ks ds).d=.cH ks ds:=rfl
end
end DL
namespace My
open PySem L2 DL
noncomputable def top(i:Nat):Stmt:=PySem.Challenge.pw_offerhouse_k32_leaves_cost.main.body.getD i (.Pass ⟨0,0,0,0⟩)
noncomputable def c7:List Str:=["Each","Flat","Bands","Steps","Blocks","Named"]
noncomputable abbrev Qs:Stmt:=og (top 20) 1
noncomputable abbrev Lp{α:Type}(Y:Str->Str->Stmt->List Str->α):α:=Y "cost_here" "Each.cost_here" Qs ["self","x","forms"]
noncomputable abbrev Qt:Stmt:=og (top 21) 1
noncomputable abbrev Lq{α:Type}(Y:Str->Str->Stmt->List Str->α):α:=Y "cost_here" "Flat.cost_here" Qt ["self","x","forms"]
noncomputable abbrev eQ:Stmt:=og (top 22) 1
noncomputable abbrev dv{α:Type}(Y:Str->Str->Stmt->List Str->α):α:=Y "holds" "Rows.holds" eQ ["self","x"]
noncomputable abbrev QB:Stmt:=og (top 23) 0
noncomputable abbrev Le{α:Type}(Y:Str->Str->Stmt->List Str->α):α:=Y "cost_here" "Bands.cost_here" QB ["self","x","forms"]
noncomputable abbrev QE:Stmt:=og (top 24) 0
noncomputable abbrev Lh{α:Type}(Y:Str->Str->Stmt->List Str->α):α:=Y "cost_here" "Steps.cost_here" QE ["self","x","forms"]
noncomputable abbrev QA:Stmt:=og (top 25) 1
noncomputable abbrev Lj{α:Type}(Y:Str->Str->Stmt->List Str->α):α:=Y "cost_here" "Blocks.cost_here" QA ["self","x","forms"]
noncomputable abbrev QD:Stmt:=og (top 26) 2
noncomputable abbrev Lg{α:Type}(Y:Str->Str->Stmt->List Str->α):α:=Y "cost_here" "Named.cost_here" QD ["self","x","forms"]
noncomputable abbrev Qz:Stmt:=og (top 18) 5
noncomputable abbrev K2{α:Type}(Y:Str->Str->Stmt->List Str->α):α:=Y "parts" "Rule.parts" Qz ["self"]
noncomputable abbrev Qu:Stmt:=og (top 18) 4
noncomputable abbrev Lr{α:Type}(Y:Str->Str->Stmt->List Str->α):α:=Y "all_names" "Rule.all_names" Qu ["self"]
noncomputable abbrev QC:Stmt:=og (top 26) 1
noncomputable abbrev Lf{α:Type}(Y:Str->Str->Stmt->List Str->α):α:=Y "all_names" "Named.all_names" QC ["self"]
noncomputable abbrev Qy:Stmt:=og (top 18) 3
noncomputable abbrev K1{α:Type}(Y:Str->Str->Stmt->List Str->α):α:=Y "names" "Rule.names" Qy ["self"]
noncomputable abbrev Qk:Stmt:=og (top 18) 0
noncomputable abbrev K5{α:Type}(Y:Str->Str->Stmt->List Str->α):α:=Y "cost" "Rule.cost" Qk ["self","x","forms"]
noncomputable abbrev Qo:Stmt:=og (top 26) 0
noncomputable abbrev Zu{α:Type}(Y:Str->Str->Stmt->List Str->α):α:=Y "__init__" "Named.__init__" Qo ["self","name"]
noncomputable abbrev Qr:Stmt:=og (top 25) 0
noncomputable abbrev ZM{α:Type}(Y:Str->Str->Stmt->List Str->α):α:=Y "__init__" "Blocks.__init__" Qr ["self","size","price","many"]
noncomputable abbrev Qn:Stmt:=og (top 22) 0
noncomputable abbrev Qw{α:Type}(Y:Str->Str->Stmt->List Str->α):α:=Y "__init__" "Rows.__init__" Qn ["self","rows"]
noncomputable abbrev Qm:Stmt:=og (top 21) 0
noncomputable abbrev ZC{α:Type}(Y:Str->Str->Stmt->List Str->α):α:=Y "__init__" "Flat.__init__" Qm ["self","price","low","high"]
noncomputable abbrev Qx:Stmt:=og (top 20) 0
noncomputable abbrev ZA{α:Type}(Y:Str->Str->Stmt->List Str->α):α:=Y "__init__" "Each.__init__" Qx ["self","unit","low","high"]
noncomputable def Lm:SF:=
 (bf (wB (qp (cj (aa pN (dN c7 "low" (eV 0)) (eV 1))) (cj (aa pN (eV 1) (dN c7 "high" (eV 0))))) (aa cw (dN c7 "unit" (eV 0)) (eV 1)) (eC .bo)))
noncomputable def Ct:List D->Option Sl:=bJ Lm 3
theorem jh:Wo (Ct [a0,a1,a2]) Q↔Wo (Lm [.sh a0,.sh a1,.sh a2]) (bW Q):=fZ
noncomputable def Ln:SF:=
 (bf (wB (qp (cj (aa pN (dN c7 "low" (eV 0)) (eV 1))) (cj (aa pN (eV 1) (dN c7 "high" (eV 0))))) (dN c7 "price" (eV 0)) (eC .bo)))
noncomputable def Cu:List D->Option Sl:=bJ Ln 3
theorem jg:Wo (Cu [a0,a1,a2]) Q↔Wo (Ln [.sh a0,.sh a1,.sh a2]) (bW Q):=fZ
noncomputable def dB:SF:=
 (bf (tT (qp (cj (aa pN (eC (.int 0)) (eV 1))) (cj (aa pN (eV 1) (bD (jn (bD (jn (dN c7 "rows" (eV 0))) (oX (eC (.int 1))))) (eC (.int 0))))))))
noncomputable def bG:List D->Option Sl:=bJ dB 2
theorem nD:Wo (bG [a0,a1]) Q↔Wo (dB [.sh a0,.sh a1]) (bW Q):=fZ
noncomputable def cO:eO:=[("Bands",bG),("Steps",bG)]
noncomputable def Ls:SF:=
 (aG (dI (w6 (p5 (oB "holds" 2 cO (eV 0) (aq (eV 1) ar))))
 (bf (eC .bo)) dW)
 (aG (de 3 (ny (kT (dN c7 "rows" (eV 0))) [1] 2 (gT 2 (pW (gN 0) (pW (gN 1) vf))) (cj (aa pN (eV 2) (eV 0))) (eV 1)))
 (bf (aa cw (eV 1) (bD (bV 3) (eC (.int 0)))))))
noncomputable def Cv:List D->Option Sl:=bJ Ls 4
theorem iw:Wo (Cv [a0,a1,a2]) Q↔Wo (Ls [.sh a0,.sh a1,.sh a2,.no]) (bW Q):=fZ
noncomputable def Ld:SF:=
 (aG (dI (w6 (p5 (oB "holds" 2 cO (eV 0) (aq (eV 1) ar))))
 (bf (eC .bo)) dW)
 (aG (de 3 (eC (.int 0)))
 (aG (de 4 (eC (.int 0)))
 (aG (kN (dN c7 "rows" (eV 0)) (gT 2 (pW (gN 5) (pW (gN 6) vf)))
 (aG (p8 3 (aa cw (eV 6) (xf Ef (aq (eC (.int 0)) (aq (aa gS (xf w5 (aq (eV 1) (aq (eV 5) ar))) (eV 4)) ar)))))
 (de 4 (eV 5))))
 (bf (eV 3))))))
noncomputable def Cz:List D->Option Sl:=bJ Ld 7
theorem ip:Wo (Cz [a0,a1,a2]) Q↔Wo (Ld [.sh a0,.sh a1,.sh a2,.no,.no,.no,.no]) (bW Q):=fZ
noncomputable abbrev NA:Stmt:=top 6
noncomputable abbrev vC{α:Type}(Y:Str->Stmt->List Str->α):α:=Y "up" NA ["a","b"]
noncomputable def xr:SF:=
 (bf (oX (aa oW (oX (eV 0)) (eV 1))))
noncomputable def BU:List D->Option Sl:=bJ xr 2
theorem Ly:Wo (BU [a0,a1]) Q↔Wo (xr [.sh a0,.sh a1]) (bW Q):=fZ
noncomputable def Li:SF:=
 (bf (wB (qp (cj (aa pN (eC (.int 0)) (eV 1))) (cj (aa pN (eV 1) (aa cw (dN c7 "size" (eV 0)) (dN c7 "many" (eV 0)))))) (aa cw (dN c7 "price" (eV 0)) (c9 2 BU (aq (eV 1) (aq (dN c7 "size" (eV 0)) ar)))) (eC .bo)))
noncomputable def CA:List D->Option Sl:=bJ Li 3
theorem f':Wo (CA [a0,a1,a2]) Q↔Wo (Li [.sh a0,.sh a1,.sh a2]) (bW Q):=fZ
noncomputable abbrev PN:Stmt:=top 7
noncomputable abbrev Kl{α:Type}(Y:Str->Stmt->List Str->α):α:=Y "line_at" PN ["line","low","x"]
noncomputable def Ky:SF:=
 (bf (aa bK (bD (bV 0) (eC (.int 0))) (aa cw (bD (bV 0) (eC (.int 1))) (aa gS (eV 2) (eV 1)))))
noncomputable def Co:List D->Option Sl:=bJ Ky 3
theorem qr:Wo (Co [a0,a1,a2]) Q↔Wo (Ky [.sh a0,.sh a1,.sh a2]) (bW Q):=fZ
noncomputable abbrev P5:Stmt:=top 10
noncomputable abbrev KY{α:Type}(Y:Str->Stmt->List Str->α):α:=Y "drawn_to" P5 ["row","x"]
noncomputable def KH:SF:=
 (bf (c9 3 Co (aq (eI (aq (bD (bV 0) (eC (.int 2))) (aq (bD (bV 0) (eC (.int 3))) ar))) (aq (bD (bV 0) (eC (.int 0))) (aq (eV 1) ar)))))
noncomputable def Cq:List D->Option Sl:=bJ KH 2
theorem pD:Wo (Cq [a0,a1]) Q↔Wo (KH [.sh a0,.sh a1]) (bW Q):=fZ
noncomputable abbrev Qb:Stmt:=top 15
noncomputable abbrev KG{α:Type}(Y:Str->Stmt->List Str->α):α:=Y "place_of" Qb ["form","x"]
noncomputable def Qh:En->Nat:=λ_=>1000000
noncomputable def KQ:SF:=
 (aG (de 2 (eC (.int 0)))
 (aG (de 3 (nR (bV 0)))
 (aG (JC Qh (cj (aa rD (eV 2) (eV 3)))
 (aG (de 4 (aa oW (aa bK (eV 2) (eV 3)) (eC (.int 2))))
 (dI (cj (aa rD (bD (jn (bD (bV 0) (eV 4))) (eC (.int 1))) (eV 1)))
 (de 2 (aa bK (eV 4) (eC (.int 1)))) (de 3 (eV 4)))))
 (bf (eV 2)))))
noncomputable def yF:List D->Option Sl:=bJ KQ 5
theorem pj:Wo (yF [a0,a1]) Q↔Wo (KQ [.sh a0,.sh a1,.no,.no,.no]) (bW Q):=fZ
noncomputable abbrev PL:Stmt:=top 14
noncomputable abbrev Kj{α:Type}(Y:Str->Stmt->List Str->α):α:=Y "cost_at" PL ["form","x"]
noncomputable def Kw:SF:=
 (aG (de 2 (c9 2 yF (aq (eV 0) (aq (eV 1) ar))))
 (aG (dI (iM (cj (aa bU (eV 2) (nR (bV 0)))) (cj (aa rD (eV 1) (bD (jn (bD (bV 0) (eV 2))) (eC (.int 0))))))
 (bf (eC .bo)) dW)
 (bf (c9 2 Cq (aq (bD (bV 0) (eV 2)) (aq (eV 1) ar))))))
noncomputable def Cm:List D->Option Sl:=bJ Kw 3
theorem qu:Wo (Cm [a0,a1]) Q↔Wo (Kw [.sh a0,.sh a1,.no]) (bW Q):=fZ
noncomputable def Lv:SF:=
 (bf (c9 2 Cm (aq (wy (eV 2) (dN c7 "name" (eV 0))) (aq (eV 1) ar))))
noncomputable def Cy:List D->Option Sl:=bJ Lv 3
theorem iq:Wo (Cy [a0,a1,a2]) Q↔Wo (Lv [.sh a0,.sh a1,.sh a2]) (bW Q):=fZ
noncomputable def Fz:eO:=[("Each",Ct),("Flat",Cu),("Bands",Cv),("Steps",Cz),("Blocks",CA),("Named",Cy)]
noncomputable def K9:SF:=
 (bf (cL ar))
noncomputable def r0:List D->Option Sl:=bJ K9 1
theorem nB:Wo (r0 [a0]) Q↔Wo (K9 [.sh a0]) (bW Q):=fZ
noncomputable def Fk:eO:=[("Each",r0),("Flat",r0),("Bands",r0),("Steps",r0),("Blocks",r0),("Named",r0)]
noncomputable def Lo:SF:=
 (aG (e8 1 (cL ar))
 (aG (kN (oB "parts" 1 Fk (eV 0) ar) (gN 2)
 (nJ 1 (oB "all_names" 1 [] (eV 2) ar)))
 (sM 1)))
noncomputable def uj:List D->Option Sl:=bJ Lo 3
theorem jf:Wo (uj [a0]) Q↔Wo (Lo [.sh a0,.no,.no]) (bW Q):=fZ
noncomputable def Lu:SF:=
 (bf (cL (aq (dN c7 "name" (eV 0)) ar)))
noncomputable def Cw:List D->Option Sl:=bJ Lu 1
theorem ir:Wo (Cw [a0]) Q↔Wo (Lu [.sh a0]) (bW Q):=fZ
noncomputable def Fy:eO:=[("Each",uj),("Flat",uj),("Bands",uj),("Steps",uj),("Blocks",uj),("Named",Cw)]
noncomputable def K8:SF:=
 (bf (BI (oB "all_names" 1 Fy (eV 0) ar)))
noncomputable def rZ:List D->Option Sl:=bJ K8 1
theorem nC:Wo (rZ [a0]) Q↔Wo (K8 [.sh a0]) (bW Q):=fZ
noncomputable def Fj:eO:=[("Each",rZ),("Flat",rZ),("Bands",rZ),("Steps",rZ),("Blocks",rZ),("Named",rZ)]
noncomputable abbrev Qq:Stmt:=top 19
noncomputable abbrev Ll{α:Type}(Y:Str->Stmt->List Str->α):α:=Y "look_up_names" Qq ["rule","forms"]
noncomputable def Lx:SF:=
 (kN (oB "names" 1 Fj (eV 0) ar) (gN 2)
 (dI (cj (rH true (eV 2) (eV 1)))
 JB dW))
noncomputable def Cs:List D->Option Sl:=bJ Lx 3
theorem kj:Wo (Cs [a0,a1]) Q↔Wo (Lx [.sh a0,.sh a1,.no]) (bW Q):=fZ
noncomputable def K':SF:=
 (aG (Jn (c9 2 Cs (aq (eV 0) (aq (eV 2) ar))))
 (bf (oB "cost_here" 3 Fz (eV 0) (aq (eV 1) (aq (eV 2) ar)))))
noncomputable def sO:List D->Option Sl:=bJ K' 3
theorem om:Wo (sO [a0,a1,a2]) Q↔Wo (K' [.sh a0,.sh a1,.sh a2]) (bW Q):=fZ
noncomputable def yz:eO:=[("Each",sO),("Flat",sO),("Bands",sO),("Steps",sO),("Blocks",sO),("Named",sO)]
noncomputable abbrev Qa:Stmt:=top 39
noncomputable abbrev KE{α:Type}(Y:Str->Stmt->List Str->α):α:=Y "_law_same" Qa ["found","due"]
noncomputable def KP:SF:=
 (aG (dI (cj (aa tM (eV 1) (eC .bo)))
 (bf (aa tM (eV 0) (eC .bo))) dW)
 (bf (qe (tS "int" (eV 0)) (qe (rJ (tS "bool" (eV 0))) (aa bU (eV 0) (eV 1))))))
noncomputable def Cr:List D->Option Sl:=bJ KP 2
theorem pk:Wo (Cr [a0,a1]) Q↔Wo (KP [.sh a0,.sh a1]) (bW Q):=fZ
noncomputable abbrev Qp:Stmt:=top 36
noncomputable abbrev Lk{α:Type}(Y:Str->Stmt->List Str->α):α:=Y "_law_leaf_cost" Qp ["plan","x","forms"]
noncomputable def Lw:SF:=
 (aG (de 3 (bD (bV 0) (eC (.int 0))))
 (aG (dI (cj (aa bU (eV 3) (eC (.str "name"))))
 (aG (de 5 (ny (kT (wy (eV 2) (bD (bV 0) (eC (.int 1))))) [1] 1 (gN 0) (qp (cj (aa pN (bD (bV 0) (eC (.int 0))) (eV 1))) (cj (aa pN (eV 1) (bD (bV 0) (eC (.int 1)))))) (eV 0)))
 (aG (dI (cj (aa bU (nR (bV 5)) (eC (.int 0))))
 (bf (eC .bo)) dW)
 (bf (aa bK (bD (jn (bD (bV 5) (eC (.int 0)))) (eC (.int 2))) (aa cw (bD (jn (bD (bV 5) (eC (.int 0)))) (eC (.int 3))) (aa gS (eV 1) (bD (jn (bD (bV 5) (eC (.int 0)))) (eC (.int 0))))))))) dW)
 (aG (dI (iM (cj (aa bU (eV 3) (eC (.str "each")))) (cj (aa bU (eV 3) (eC (.str "flat")))))
 (aG (dI (iM (cj (aa rD (eV 1) (bD (bV 0) (eC (.int 2))))) (cj (aa rD (bD (bV 0) (eC (.int 3))) (eV 1))))
 (bf (eC .bo)) dW)
 (bf (aa cw (bD (bV 0) (eC (.int 1))) (bD (jn (cL (aq (eC (.int 1)) (aq (eV 1) ar)))) (Eh (aa bU (eV 3) (eC (.str "each")))))))) dW)
 (aG (dI (cj (aa bU (eV 3) (eC (.str "blocks"))))
 (aG (dI (iM (cj (aa rD (eV 1) (eC (.int 0)))) (cj (aa Dm (eV 1) (aa cw (bD (bV 0) (eC (.int 1))) (bD (bV 0) (eC (.int 3)))))))
 (bf (eC .bo)) dW)
 (bf (aa cw (bD (bV 0) (eC (.int 2))) (aa oW (aa gS (aa bK (eV 1) (bD (bV 0) (eC (.int 1)))) (eC (.int 1))) (bD (bV 0) (eC (.int 1))))))) dW)
 (aG (dI (iM (cj (aa rD (eV 1) (eC (.int 0)))) (cj (aa Dm (eV 1) (bD (jn (bD (jn (bD (bV 0) (eC (.int 1)))) (oX (eC (.int 1))))) (eC (.int 0))))))
 (bf (eC .bo)) dW)
 (aG (dI (cj (aa bU (eV 3) (eC (.str "bands"))))
 (bf (aa cw (eV 1) (bD (jn (ny (kT (bD (bV 0) (eC (.int 1)))) [1] 1 (gN 0) (cj (aa pN (eV 1) (bD (bV 0) (eC (.int 0))))) (bD (bV 0) (eC (.int 1))))) (eC (.int 0))))) dW)
 (aG (de 4 (aa bK (cL (aq (eC (.int 0)) ar)) (ny (kT (bD (bV 0) (eC (.int 1)))) [] 1 (gN 0) vg (bD (bV 0) (eC (.int 0))))))
 (bf (tR (jn (ny (wt Ek (aq (nR (jn (bD (bV 0) (eC (.int 1))))) ar)) [0,1,4] 1 (gN 0) vg (aa cw (bD (jn (bD (jn (bD (bV 1) (eC (.int 1)))) (eV 0))) (eC (.int 1))) (aa gS (xf w5 (aq (eV 2) (aq (bD (bV 3) (aa bK (eV 0) (eC (.int 1)))) ar))) (xf w5 (aq (eV 2) (aq (bD (bV 3) (eV 0)) ar))))))))))))))))
noncomputable def yI:List D->Option Sl:=bJ Lw 6
theorem km:Wo (yI [a0,a1,a2]) Q↔Wo (Lw [.sh a0,.sh a1,.sh a2,.no,.no,.no]) (bW Q):=fZ
noncomputable abbrev P6:Stmt:=top 37
noncomputable abbrev KZ{α:Type}(Y:Str->Stmt->List Str->α):α:=Y "_law_ends" P6 ["plan","forms"]
noncomputable def KI:SF:=
 (aG (de 2 (bD (bV 0) (eC (.int 0))))
 (aG (dI (cj (aa bU (eV 2) (eC (.str "name"))))
 (aG (e8 3 (cL ar))
 (aG (kN (wy (eV 1) (bD (bV 0) (eC (.int 1)))) (gN 4)
 (nJ 3 (cL (aq (bD (bV 4) (eC (.int 0))) (aq (bD (bV 4) (eC (.int 1))) ar)))))
 (sM 3))) dW)
 (aG (dI (iM (cj (aa bU (eV 2) (eC (.str "each")))) (cj (aa bU (eV 2) (eC (.str "flat")))))
 (bf (cL (aq (bD (bV 0) (eC (.int 2))) (aq (bD (bV 0) (eC (.int 3))) ar)))) dW)
 (aG (dI (cj (aa bU (eV 2) (eC (.str "blocks"))))
 (bf (cL (aq (eC (.int 0)) (aq (bD (bV 0) (eC (.int 1))) (aq (aa cw (bD (bV 0) (eC (.int 1))) (bD (bV 0) (eC (.int 3)))) ar))))) dW)
 (aG (dI (iM (cj (aa bU (eV 2) (eC (.str "bands")))) (cj (aa bU (eV 2) (eC (.str "steps")))))
 (bf (aa bK (cL (aq (eC (.int 0)) ar)) (ny (kT (bD (bV 0) (eC (.int 1)))) [] 1 (gN 0) vg (bD (bV 0) (eC (.int 0)))))) dW)
 (bf (cL (aq (eC (.int 0)) ar))))))))
noncomputable def yA:List D->Option Sl:=bJ KI 5
theorem pC:Wo (yA [a0,a1]) Q↔Wo (KI [.sh a0,.sh a1,.no,.no,.no]) (bW Q):=fZ
noncomputable abbrev Qv:Stmt:=top 38
noncomputable abbrev K4{α:Type}(Y:Str->Stmt->List Str->α):α:=Y "_law_amounts" Qv ["plan","forms","script","scale"]
noncomputable def K3:SF:=
 (aG (e8 4 (cL (aq (oX (eC (.int 1))) (aq (eC (.int 0)) (aq (eC (.int 1)) ar)))))
 (aG (kN (wz (jn (BI (c9 2 yA (aq (eV 0) (aq (eV 1) ar))))) zM (uG (eC (.int 24)))) (gN 5)
 (nJ 4 (cL (aq (aa gS (eV 5) (eC (.int 1))) (aq (eV 5) (aq (aa bK (eV 5) (eC (.int 1))) ar))))))
 (aG (kN (wz (bV 2) zM (uG (eC (.int 40)))) (gN 6)
 (kO 4 (aa gS (aa oV (eV 6) (aa cw (eC (.int 5)) (eV 3))) (eV 3))))
 (sM 4))))
noncomputable def yH:List D->Option Sl:=bJ K3 7
theorem mn:Wo (yH [a0,a1,a2,a3]) Q↔Wo (K3 [.sh a0,.sh a1,.sh a2,.sh a3,.no,.no,.no]) (bW Q):=fZ
noncomputable def EI:List (Str×Bool):=[("Each",true),("Flat",true),("Bands",true),("Steps",true),("Blocks",true),("Named",true)]
noncomputable def Cc:List Str:=["name"]
noncomputable def E5:List D->Option (List D):=gu (jK "name" (eV 1) mW) 2 Cc
noncomputable def Ck:List Str:=["size","price","many"]
noncomputable def Fi:List D->Option (List D):=gu (jK "size" (eV 1) (jK "price" (eV 2) (jK "many" (eV 3) mW))) 4 Ck
noncomputable def Cd:List Str:=["rows"]
noncomputable def Cj:List D->Option (List D):=gu (yj "rows" (ny (kT (eV 1)) [] 2 (gT 2 (pW (gN 0) (pW (gN 1) vf))) vg (eI (aq (eV 0) (aq (eV 1) ar)))) mW) 2 Cd
noncomputable def Cb:List Str:=["rows"]
noncomputable def Ci:List D->Option (List D):=gu (yj "rows" (ny (kT (eV 1)) [] 2 (gT 2 (pW (gN 0) (pW (gN 1) vf))) vg (eI (aq (eV 0) (aq (eV 1) ar)))) mW) 2 Cb
noncomputable def B7:List Str:=["price","low","high"]
noncomputable def EU:List D->Option (List D):=gu (jK "price" (eV 1) (jK "low" (eV 2) (jK "high" (eV 3) mW))) 4 B7
noncomputable def B6:List Str:=["unit","low","high"]
noncomputable def ET:List D->Option (List D):=gu (jK "unit" (eV 1) (jK "low" (eV 2) (jK "high" (eV 3) mW))) 4 B6
noncomputable abbrev P':Stmt:=top 35
noncomputable abbrev KD{α:Type}(Y:Str->Stmt->List Str->α):α:=Y "_law_rule" P' ["plan"]
noncomputable def KO:SF:=
 (aG (de 1 (bD (bV 0) (eC (.int 0))))
 (aG (dI (cj (aa bU (eV 1) (eC (.str "each"))))
 (bf (sk "Each" 3 B6 ET (aq (bD (bV 0) (eC (.int 1))) (aq (bD (bV 0) (eC (.int 2))) (aq (bD (bV 0) (eC (.int 3))) ar))))) dW)
 (aG (dI (cj (aa bU (eV 1) (eC (.str "flat"))))
 (bf (sk "Flat" 3 B7 EU (aq (bD (bV 0) (eC (.int 1))) (aq (bD (bV 0) (eC (.int 2))) (aq (bD (bV 0) (eC (.int 3))) ar))))) dW)
 (aG (dI (iM (cj (aa bU (eV 1) (eC (.str "bands")))) (cj (aa bU (eV 1) (eC (.str "steps")))))
 (aG (e8 2 (Jj (jn (bD (bV 0) (eC (.int 1))))))
 (aG (de 3 (oY 2 "Bands" 1 Cb Ci (aq (eV 2) ar)))
 (aG (dI (cj (aa bU (eV 1) (eC (.str "steps"))))
 (de 3 (oY 2 "Steps" 1 Cd Cj (aq (eV 2) ar))) dW)
 (aG (yi 2 (eI (aq (bD (jn (bD (bV 2) (eC (.int 0)))) (eC (.int 0))) (aq (aa bK (bD (jn (bD (bV 2) (eC (.int 0)))) (eC (.int 1))) (eC (.int 1))) ar))) (eC (.int 0)))
 (aG (kO 2 (eI (aq (aa mZ (eC (.int 10)) (eC (.int 39))) (aq (eC (.int 1)) ar))))
 (bf (eV 3))))))) dW)
 (aG (dI (cj (aa bU (eV 1) (eC (.str "blocks"))))
 (bf (sk "Blocks" 3 Ck Fi (aq (bD (bV 0) (eC (.int 1))) (aq (bD (bV 0) (eC (.int 2))) (aq (bD (bV 0) (eC (.int 3))) ar))))) dW)
 (bf (sk "Named" 1 Cc E5 (aq (bD (bV 0) (eC (.int 1))) ar))))))))
noncomputable def yE:List D->Option Sl:=bJ KO 4
theorem pq:Wo (yE [a0]) Q↔Wo (KO [.sh a0,.no,.no,.no]) (bW Q):=fZ
noncomputable abbrev PM:Stmt:=top 29
noncomputable abbrev Kk{α:Type}(Y:Str->Stmt->List Str->α):α:=Y "_law_mix" PM ["cell","k","size"]
noncomputable def Kx:SF:=
 (aG (de 3 (aa bK (eC (.int 271828182845904523536028747135266249775724709369995)) (aa cw (aa cw (eC (.int 2)) (eV 1)) (eV 1))))
 (aG (de 4 (aa bK (aa cw (aa bK (aa oV (eV 0) (aa mZ (eC (.int 10)) (eC (.int 60)))) (eC (.int 1))) (eV 3)) (aa cw (eC (.int 7907)) (eV 1))))
 (bf (aa oV (aa oW (aa oV (aa cw (eV 4) (eV 4)) (aa bK (aa mZ (eC (.int 10)) (eC (.int 60))) (eC (.int 7)))) (eC (.int 11))) (eV 2)))))
noncomputable def kG:List D->Option Sl:=bJ Kx 5
theorem qt:Wo (kG [a0,a1,a2]) Q↔Wo (Kx [.sh a0,.sh a1,.sh a2,.no,.no]) (bW Q):=fZ
noncomputable abbrev Qi:Stmt:=top 30
noncomputable abbrev K7{α:Type}(Y:Str->Stmt->List Str->α):α:=Y "_law_price" Qi ["cell","k"]
noncomputable def Lb:SF:=
 (aG (de 2 (bD (jn (cL (aq (eC (.int 3)) (aq (aa mZ (eC (.int 10)) (eC (.int 9))) (aq (aa mZ (eC (.int 10)) (eC (.int 39))) ar))))) (c9 3 kG (aq (eV 0) (aq (aa bK (eV 1) (eC (.int 60))) (aq (eC (.int 3)) ar))))))
 (bf (aa gS (c9 3 kG (aq (eV 0) (aq (eV 1) (aq (aa bK (aa cw (eC (.int 2)) (eV 2)) (eC (.int 1))) ar)))) (eV 2))))
noncomputable def uq:List D->Option Sl:=bJ Lb 3
theorem oi:Wo (uq [a0,a1]) Q↔Wo (Lb [.sh a0,.sh a1,.no]) (bW Q):=fZ
noncomputable abbrev P9:Stmt:=top 31
noncomputable abbrev KC{α:Type}(Y:Str->Stmt->List Str->α):α:=Y "_law_rows" P9 ["cell","scale"]
noncomputable def KN:SF:=
 (aG (e8 2 (cL ar))
 (aG (de 3 (aa oW (aa cw (c9 3 kG (aq (eV 0) (aq (eC (.int 30)) (aq (eV 1) ar)))) (c9 3 kG (aq (eV 0) (aq (eC (.int 31)) (aq (eC (.int 3)) ar))))) (eC (.int 2))))
 (aG (xc oK (aq (aa bK (eC (.int 1)) (c9 3 kG (aq (eV 0) (aq (eC (.int 32)) (aq (eC (.int 3)) ar))))) ar) (gN 4)
 (aG (kO 2 (eI (aq (eV 3) (aq (c9 2 uq (aq (eV 0) (aq (aa bK (eC (.int 33)) (eV 4)) ar))) ar))))
 (de 3 (aa bK (aa bK (eV 3) (eC (.int 1))) (c9 3 kG (aq (eV 0) (aq (aa bK (eC (.int 40)) (eV 4)) (aq (eV 1) ar))))))))
 (sM 2))))
noncomputable def yD:List D->Option Sl:=bJ KN 5
theorem px:Wo (yD [a0,a1]) Q↔Wo (KN [.sh a0,.sh a1,.no,.no,.no]) (bW Q):=fZ
noncomputable abbrev P8:Stmt:=top 32
noncomputable abbrev KA{α:Type}(Y:Str->Stmt->List Str->α):α:=Y "_law_leaf" P8 ["cell","scale"]
noncomputable def KL:SF:=
 (aG (de 2 (bD (jn (cL (aq (eC (.str "each")) (aq (eC (.str "flat")) (aq (eC (.str "bands")) (aq (eC (.str "steps")) (aq (eC (.str "blocks")) (aq (eC (.str "name")) ar)))))))) (c9 3 kG (aq (eV 0) (aq (eC (.int 1)) (aq (eC (.int 6)) ar))))))
 (aG (de 3 (c9 2 uq (aq (eV 0) (aq (eC (.int 2)) ar))))
 (aG (de 4 (aa cw (c9 3 kG (aq (eV 0) (aq (eC (.int 3)) (aq (eV 1) ar)))) (c9 3 kG (aq (eV 0) (aq (eC (.int 4)) (aq (eC (.int 2)) ar))))))
 (aG (de 5 (aa bK (eV 4) (aa cw (c9 3 kG (aq (eV 0) (aq (eC (.int 5)) (aq (eV 1) ar)))) (c9 3 kG (aq (eV 0) (aq (eC (.int 6)) (aq (eC (.int 4)) ar)))))))
 (aG (dI (iM (cj (aa bU (eV 2) (eC (.str "bands")))) (cj (aa bU (eV 2) (eC (.str "steps")))))
 (bf (eI (aq (eV 2) (aq (c9 2 yD (aq (eV 0) (aq (eV 1) ar))) ar)))) dW)
 (aG (dI (cj (aa bU (eV 2) (eC (.str "blocks"))))
 (bf (eI (aq (eV 2) (aq (aa bK (eC (.int 1)) (c9 3 kG (aq (eV 0) (aq (eC (.int 7)) (aq (eV 1) ar))))) (aq (eV 3) (aq (aa bK (eC (.int 1)) (c9 3 kG (aq (eV 0) (aq (eC (.int 8)) (aq (eC (.int 4)) ar))))) ar)))))) dW)
 (aG (dI (cj (aa bU (eV 2) (eC (.str "name"))))
 (bf (eI (aq (eV 2) (aq (bD (jn (cL (aq (eC (.str "p")) (aq (eC (.str "qq")) (aq (eC (.str "ptop")) ar))))) (c9 3 kG (aq (eV 0) (aq (eC (.int 9)) (aq (eC (.int 3)) ar))))) ar)))) dW)
 (bf (eI (aq (eV 2) (aq (eV 3) (aq (eV 4) (aq (eV 5) ar)))))))))))))
noncomputable def yC:List D->Option Sl:=bJ KL 6
theorem pA:Wo (yC [a0,a1]) Q↔Wo (KL [.sh a0,.sh a1,.no,.no,.no,.no]) (bW Q):=fZ
noncomputable abbrev P7:Stmt:=top 33
noncomputable abbrev K0{α:Type}(Y:Str->Stmt->List Str->α):α:=Y "_law_form" P7 ["cell","scale"]
noncomputable def KJ:SF:=
 (aG (e8 2 (cL ar))
 (aG (de 3 (aa gS (c9 3 kG (aq (eV 0) (aq (eC (.int 70)) (aq (aa cw (eC (.int 2)) (eV 1)) ar)))) (eV 1)))
 (aG (xc oK (aq (c9 3 kG (aq (eV 0) (aq (eC (.int 71)) (aq (eC (.int 4)) ar)))) ar) (gN 4)
 (aG (de 5 (aa bK (eV 3) (aa cw (c9 3 kG (aq (eV 0) (aq (aa bK (eC (.int 72)) (eV 4)) (aq (eV 1) ar)))) (c9 3 kG (aq (eV 0) (aq (aa bK (eC (.int 76)) (eV 4)) (aq (eC (.int 2)) ar)))))))
 (aG (de 6 (eC (.int 0)))
 (aG (dI (cj (aa rD (eV 3) (eV 5)))
 (de 6 (c9 2 uq (aq (eV 0) (aq (aa bK (eC (.int 80)) (eV 4)) ar)))) dW)
 (aG (kO 2 (eI (aq (eV 3) (aq (eV 5) (aq (c9 2 uq (aq (eV 0) (aq (aa bK (eC (.int 84)) (eV 4)) ar))) (aq (eV 6) ar))))))
 (de 3 (aa bK (aa bK (eV 5) (eC (.int 2))) (c9 3 kG (aq (eV 0) (aq (aa bK (eC (.int 88)) (eV 4)) (aq (eV 1) ar)))))))))))
 (bf (Es (bV 2))))))
noncomputable def yB:List D->Option Sl:=bJ KJ 7
theorem pB:Wo (yB [a0,a1]) Q↔Wo (KJ [.sh a0,.sh a1,.no,.no,.no,.no,.no]) (bW Q):=fZ
noncomputable abbrev PU:Stmt:=top 28
noncomputable abbrev J2{α:Type}(Y:Str->Stmt->List Str->α):α:=Y "_law_at" PU ["script","k"]
noncomputable def Kh:SF:=
 (aG (dI (cj (aa rD (eV 1) (nR (bV 0))))
 (bf (bD (bV 0) (eV 1))) dW)
 (bf (eC (.int 0))))
noncomputable def yG:List D->Option Sl:=bJ Kh 2
theorem r8:Wo (yG [a0,a1]) Q↔Wo (Kh [.sh a0,.sh a1]) (bW Q):=fZ
noncomputable abbrev Ql:Stmt:=top 34
noncomputable abbrev K6{α:Type}(Y:Str->Stmt->List Str->α):α:=Y "_law_forms" Ql ["script","scale"]
noncomputable def La:SF:=
 (aG (e8 2 Hw)
 (aG (xc oK (aq (eC (.int 3)) ar) (gN 3)
 (xx 2 (c9 2 yB (aq (c9 2 yG (aq (eV 0) (aq (aa bK (eC (.int 1)) (eV 3)) ar))) (aq (eV 1) ar))) (bD (jn (cL (aq (eC (.str "p")) (aq (eC (.str "qq")) (aq (eC (.str "ptop")) ar))))) (eV 3))))
 (sM 2)))
noncomputable def yJ:List D->Option Sl:=bJ La 4
theorem oj:Wo (yJ [a0,a1]) Q↔Wo (La [.sh a0,.sh a1,.no,.no]) (bW Q):=fZ
noncomputable abbrev BW:Stmt:=top 40
noncomputable abbrev yV{α:Type}(Y:Str->Stmt->List Str->α):α:=Y "law" BW ["script"]
noncomputable def Jh:SF:=
 (aG (de 1 (bD (jn (cL (aq (eC (.int 9)) (aq (aa mZ (eC (.int 10)) (eC (.int 6))) (aq (aa mZ (eC (.int 10)) (eC (.int 38))) ar))))) (aa oV (c9 2 yG (aq (eV 0) (aq (eC (.int 0)) ar))) (eC (.int 3)))))
 (aG (de 2 (c9 2 yJ (aq (eV 0) (aq (eV 1) ar))))
 (aG (de 3 (Dp (eV 2)))
 (aG (xc oK (aq (xf w5 (aq (nR (bV 0)) (aq (eC (.int 40)) ar))) ar) (gN 4)
 (aG (de 5 (c9 2 yC (aq (bD (bV 0) (eV 4)) (aq (eV 1) ar))))
 (aG (de 6 (c9 1 yE (aq (eV 5) ar)))
 (aG (dI (w6 (p5 (wA EI (eV 6))))
 (bf (eC (.bl false))) dW)
 (aG (e8 7 (cL ar))
 (aG (kN (c9 4 yH (aq (eV 5) (aq (eV 2) (aq (wz (bV 0) (uG (eV 4)) (uG (aa bK (eV 4) (eC (.int 4))))) (aq (eV 1) ar))))) (gN 8)
 (aG (de 9 (oB "cost" 3 yz (eV 6) (aq (eV 8) (aq (eV 2) ar))))
 (aG (dI (w6 (p5 (c9 2 Cr (aq (eV 9) (aq (c9 3 yI (aq (eV 5) (aq (eV 8) (aq (eV 2) ar)))) ar)))))
 (bf (eC (.bl false))) dW)
 (kO 7 (eI (aq (eV 8) (aq (eV 9) ar)))))))
 (sZ 7 (kN (wz (bV 7) zM (uG (eC (.int 3)))) (gT 2 (pW (gN 8) (pW (gN 10) vf)))
 (dI (cj (aa m6 (oB "cost" 3 yz (eV 6) (aq (eV 8) (aq (eV 2) ar))) (eV 10)))
 (bf (eC (.bl false))) dW)))))))))
 (bf (aa rE (eV 2) (eV 3)))))))
noncomputable def EL:List D->Option Sl:=bJ Jh 11
theorem CB:Wo (EL [a0]) Q↔Wo (Jh [.sh a0,.no,.no,.no,.no,.no,.no,.no,.no,.no,.no]) (bW Q):=fZ
structure QG(K:aI)(mg:Str->Option Value)(aE aD aj ai ae ak bu aT aS aY aQ aN aJ aO aw af aP az aF aW aU aK aZ a9:Addr):Prop where
 bO:jk K "Each" aE
 wj:mg "Each" = some (.ref aE)
 vz:Mk K aE a9
 n_Each_low:ag K aE "low"
 n_Each_high:ag K aE "high"
 n_Each_unit:ag K aE "unit"
 n_Each_price:ag K aE "price"
 n_Each_rows:ag K aE "rows"
 n_Each_size:ag K aE "size"
 n_Each_many:ag K aE "many"
 n_Each_name:ag K aE "name"
 h_Each_cost_here:bQ K aE "cost_here" aT
 h_Each_parts:bQ K aE "parts" aw
 h_Each_all_names:bQ K aE "all_names" af
 h_Each_names:bQ K aE "names" az
 h_Each_cost:bQ K aE "cost" aF
 nN:uy K aE bu true
 bN:jk K "Flat" aD
 wg:mg "Flat" = some (.ref aD)
 vy:Mk K aD aZ
 n_Flat_low:ag K aD "low"
 n_Flat_high:ag K aD "high"
 n_Flat_unit:ag K aD "unit"
 n_Flat_price:ag K aD "price"
 n_Flat_rows:ag K aD "rows"
 n_Flat_size:ag K aD "size"
 n_Flat_many:ag K aD "many"
 n_Flat_name:ag K aD "name"
 h_Flat_cost_here:bQ K aD "cost_here" aS
 h_Flat_parts:bQ K aD "parts" aw
 h_Flat_all_names:bQ K aD "all_names" af
 h_Flat_names:bQ K aD "names" az
 h_Flat_cost:bQ K aD "cost" aF
 nM:uy K aD bu true
 bz:jk K "Bands" aj
 tL:mg "Bands" = some (.ref aj)
 sW:Mk K aj aK
 n_Bands_low:ag K aj "low"
 n_Bands_high:ag K aj "high"
 n_Bands_unit:ag K aj "unit"
 n_Bands_price:ag K aj "price"
 n_Bands_rows:ag K aj "rows"
 n_Bands_size:ag K aj "size"
 n_Bands_many:ag K aj "many"
 n_Bands_name:ag K aj "name"
 h_Bands_holds:bQ K aj "holds" aY
 h_Bands_cost_here:bQ K aj "cost_here" aQ
 h_Bands_parts:bQ K aj "parts" aw
 h_Bands_all_names:bQ K aj "all_names" af
 h_Bands_names:bQ K aj "names" az
 h_Bands_cost:bQ K aj "cost" aF
 mV:uy K aj bu true
 bx:jk K "Steps" ai
 tJ:mg "Steps" = some (.ref ai)
 sU:Mk K ai aK
 n_Steps_low:ag K ai "low"
 n_Steps_high:ag K ai "high"
 n_Steps_unit:ag K ai "unit"
 n_Steps_price:ag K ai "price"
 n_Steps_rows:ag K ai "rows"
 n_Steps_size:ag K ai "size"
 n_Steps_many:ag K ai "many"
 n_Steps_name:ag K ai "name"
 h_Steps_holds:bQ K ai "holds" aY
 h_Steps_cost_here:bQ K ai "cost_here" aN
 h_Steps_parts:bQ K ai "parts" aw
 h_Steps_all_names:bQ K ai "all_names" af
 h_Steps_names:bQ K ai "names" az
 h_Steps_cost:bQ K ai "cost" aF
 mT:uy K ai bu true
 bg:jk K "Blocks" ae
 rC:mg "Blocks" = some (.ref ae)
 qU:Mk K ae aU
 n_Blocks_low:ag K ae "low"
 n_Blocks_high:ag K ae "high"
 n_Blocks_unit:ag K ae "unit"
 n_Blocks_price:ag K ae "price"
 n_Blocks_rows:ag K ae "rows"
 n_Blocks_size:ag K ae "size"
 n_Blocks_many:ag K ae "many"
 n_Blocks_name:ag K ae "name"
 h_Blocks_cost_here:bQ K ae "cost_here" aJ
 h_Blocks_parts:bQ K ae "parts" aw
 h_Blocks_all_names:bQ K ae "all_names" af
 h_Blocks_names:bQ K ae "names" az
 h_Blocks_cost:bQ K ae "cost" aF
 lS:uy K ae bu true
 bC:jk K "Named" ak
 tK:mg "Named" = some (.ref ak)
 sV:Mk K ak aW
 n_Named_low:ag K ak "low"
 n_Named_high:ag K ak "high"
 n_Named_unit:ag K ak "unit"
 n_Named_price:ag K ak "price"
 n_Named_rows:ag K ak "rows"
 n_Named_size:ag K ak "size"
 n_Named_many:ag K ak "many"
 n_Named_name:ag K ak "name"
 h_Named_cost_here:bQ K ak "cost_here" aO
 h_Named_parts:bQ K ak "parts" aw
 h_Named_all_names:bQ K ak "all_names" aP
 h_Named_names:bQ K ak "names" az
 h_Named_cost:bQ K ak "cost" aF
 mU:uy K ak bu true
 we:mg "Rule" = some (.ref bu)
section
variable {P:Program}{w:World}{K:aI}{mg:Str->Option Value}{base:Heap}
variable {aE aD aj ai ae ak bu aT aS aY aQ aN aJ aO aw af aP az aF aW aU aK aZ a9:Addr}(OB:QG K mg aE aD aj ai ae ak bu aT aS aY aQ aN aJ aO aw af aP az aF aW aU aK aZ a9)
variable (z_len:mg "len" = none)
variable (z_range:mg "range" = none)
variable (z_tuple:mg "tuple" = none)
variable (z_list:mg "list" = none)
variable (z_sum:mg "sum" = none)
variable (z_min:mg "min" = none)
variable (z_int:mg "int" = none)
variable (z_sorted:mg "sorted" = none)
variable (z_set:mg "set" = none)
variable (z_isinstance:mg "isinstance" = none)
variable (z_bool:mg "bool" = none)
variable (z_dict:mg "dict" = none)
variable (z_max:mg "max" = none)
include OB in
theorem XZ:FL K "low" c7:=(cP OB.bO OB.n_Each_low (cP OB.bN OB.n_Flat_low (cP OB.bz OB.n_Bands_low (cP OB.bx OB.n_Steps_low (cP OB.bg OB.n_Blocks_low (cP OB.bC OB.n_Named_low vm))))))
variable (gf:FL K "low" c7)
include OB in
theorem YS:FL K "high" c7:=(cP OB.bO OB.n_Each_high (cP OB.bN OB.n_Flat_high (cP OB.bz OB.n_Bands_high (cP OB.bx OB.n_Steps_high (cP OB.bg OB.n_Blocks_high (cP OB.bC OB.n_Named_high vm))))))
variable (dD:FL K "high" c7)
include OB in
theorem Yq:FL K "unit" c7:=(cP OB.bO OB.n_Each_unit (cP OB.bN OB.n_Flat_unit (cP OB.bz OB.n_Bands_unit (cP OB.bx OB.n_Steps_unit (cP OB.bg OB.n_Blocks_unit (cP OB.bC OB.n_Named_unit vm))))))
variable (kK:FL K "unit" c7)
include gf dD kK in
theorem ZH(D':Lp (cW K a) d):Lp (Om P w K mg base a) 1 Ct:=qL (N:=["self","x","forms"]) D' λX r h=>by
 cases r
 exact (bM (cJ (Jo (J4 qM qM (pd (h.v 0) gf) (h.v 1) (pd (h.v 0) dD)) (bB kf (pd (h.v 0) kK) (h.v 1)) qO)))
variable (Fq:Lp (Om P w K mg base aT) 1 Ct)
include OB in
theorem Y1:FL K "price" c7:=(cP OB.bO OB.n_Each_price (cP OB.bN OB.n_Flat_price (cP OB.bz OB.n_Bands_price (cP OB.bx OB.n_Steps_price (cP OB.bg OB.n_Blocks_price (cP OB.bC OB.n_Named_price vm))))))
variable (cV:FL K "price" c7)
include gf dD cV in
theorem ZI(D':Lq (cW K a) d):Lq (Om P w K mg base a) 1 Cu:=qL (N:=["self","x","forms"]) D' λX r h=>by
 cases r
 exact (bM (cJ (Jo (J4 qM qM (pd (h.v 0) gf) (h.v 1) (pd (h.v 0) dD)) (pd (h.v 0) cV) qO)))
variable (Fs:Lq (Om P w K mg base aS) 1 Cu)
include OB in
theorem Yo:FL K "rows" c7:=(cP OB.bO OB.n_Each_rows (cP OB.bN OB.n_Flat_rows (cP OB.bz OB.n_Bands_rows (cP OB.bx OB.n_Steps_rows (cP OB.bg OB.n_Blocks_rows (cP OB.bC OB.n_Named_rows vm))))))
variable (cA:FL K "rows" c7)
include cA in
theorem lC(D':dv (cW K a) d):dv (Om P w K mg base a) 1 bG:=qL (N:=["self","x"]) D' λX r h=>by
 cases r
 exact (bM (cJ (W4 qM qM aH (h.v 1) (bI (kF (bI (kF (pd (h.v 0) cA)) (B0 aH))) aH))))
variable (Cp:dv (Om P w K mg base aY) 1 bG)
include OB Cp in
theorem nK:ox P w K mg base "holds" 2 1 cO:=(eS OB.bz OB.h_Bands_holds Cp (eS OB.bx OB.h_Steps_holds Cp xh))
variable (cT:ox P w K mg base "holds" 2 1 cO)
include cA cT in
theorem ZD(D':Le (cW K a) d):Le (Om P w K mg base a) 2 Cv:=qL (N:=["self","x","forms","units"]) D' λX r h=>by
 cases r
 exact (bH (fY (Et (Eu (h.mt (n:=2) cT (h.v 0) (au (h.v 1) br)))) (bM (cJ qO)) gi) (bH (OY (i:=3) false (N':=["top","unit","x"]) (caps:=[1]) (nt:=2) h ⟨rfl,by decide +kernel,by decide +kernel,by decide +kernel,by decide +kernel,rfl,rfl,by decide +kernel⟩ (xg (pd (h.v 0) cA)) (λX1 o5 o4 o3 m8 oZ h1=>⟨(B2 (n:=2) h1.calm (sN (h1.tg 0) (sN (h1.tg 1) B5))),(JD (du qM (h1.v 2) (h1.v 0))),(h1.v 1)⟩)) (bM (cJ (bB kf (h.v 1) (bI (h.bv 3) aH))))))
variable (Ft:Le (Om P w K mg base aQ) 2 Cv)
include z_min z_max cA cT in
theorem ZG(D':Lh (cW K a) d):Lh (Om P w K mg base a) 2 Cz:=qL (N:=["self","x","forms","cost","ahead","top","unit"]) D' λX r h=>by
 cases r
 exact (bH (fY (Et (Eu (h.mt (n:=2) cT (h.v 0) (au (h.v 1) br)))) (bM (cJ qO)) gi) (bH (h.bR 3 aH) (bH (h.bR 4 aH) (bH (vh h.own h.calm (pd (h.v 0) cA) (B2 (n:=2) h.calm (sN (h.tg 5) (sN (h.tg 6) B5))) (bH (h.aug 3 (bB kf (h.v 6) (B' (Vx h.calm) h.g z_max (by decide +kernel) (au aH (au (bB uf (B' (EF h.calm) h.g z_min (by decide +kernel) (au (h.v 1) (au (h.v 5) br))) (h.v 4)) br))))) (bM (h.bR 4 (h.v 5))))) (bM (cJ (h.v 3)))))))
variable (FA:Lh (Om P w K mg base aN) 2 Cz)
include OB in
theorem Yp:FL K "size" c7:=(cP OB.bO OB.n_Each_size (cP OB.bN OB.n_Flat_size (cP OB.bz OB.n_Bands_size (cP OB.bx OB.n_Steps_size (cP OB.bg OB.n_Blocks_size (cP OB.bC OB.n_Named_size vm))))))
variable (iG:FL K "size" c7)
include OB in
theorem YT:FL K "many" c7:=(cP OB.bO OB.n_Each_many (cP OB.bN OB.n_Flat_many (cP OB.bz OB.n_Bands_many (cP OB.bx OB.n_Steps_many (cP OB.bg OB.n_Blocks_many (cP OB.bC OB.n_Named_many vm))))))
variable (kL:FL K "many" c7)
theorem zS(D':vC (Def K mg) a d):vC (Oz P w K mg base) 1 BU:=dM (N:=["a","b"]) D' λX r h=>by
 cases r
 exact (bM (cJ (B0 (bB BR (B0 (h.v 0)) (h.v 1)))))
variable (O_up:vC (Oz P w K mg base) 1 BU)
include cV iG kL O_up in
theorem ZN(D':Lj (cW K a) d):Lj (Om P w K mg base a) 2 CA:=qL (N:=["self","x","forms"]) D' λX r h=>by
 cases r
 exact (bM (cJ (Jo (J4 qM qM aH (h.v 1) (bB kf (pd (h.v 0) iG) (pd (h.v 0) kL))) (bB kf (pd (h.v 0) cV) (h.cl O_up (au (h.v 1) (au (pd (h.v 0) iG) br)))) qO)))
variable (FC:Lj (Om P w K mg base aJ) 2 CA)
theorem Yy(D':Kl (Def K mg) a d):Kl (Oz P w K mg base) 1 Co:=dM (N:=["line","low","x"]) D' λX r h=>by
 cases r
 exact (bM (cJ (bB ed (bI (h.bv 0) aH) (bB kf (bI (h.bv 0) aH) (bB uf (h.v 2) (h.v 1))))))
variable (EZ:Kl (Oz P w K mg base) 1 Co)
include EZ in
theorem Y7(D':KY (Def K mg) a d):KY (Oz P w K mg base) 2 Cq:=dM (N:=["row","x"]) D' λX r h=>by
 cases r
 exact (bM (cJ (h.cl EZ (au (qP (au (bI (h.bv 0) aH) (au (bI (h.bv 0) aH) br))) (au (bI (h.bv 0) aH) (au (h.v 1) br))))))
variable (E7:KY (Oz P w K mg base) 2 Cq)
include z_len in
theorem Zo(D':KG (Def K mg) a d):KG (Oz P w K mg base) 1 yF:=dM (N:=["form","x","first","behind","middle"]) D' λX r h=>by
 cases r
 exact (bH (h.bR 2 aH) (bH (h.bR 3 (yo h.g z_len (h.bv 0))) (bH (Xy Qh h.own (du ue (h.v 2) (h.v 3)) (bH (h.bR 4 (bB BR (bB ed (h.v 2) (h.v 3)) aH)) (bM (fY (du ue (bI (kF (bI (h.bv 0) (h.v 4))) aH) (h.v 1)) (bM (h.bR 2 (bB ed (h.v 4) aH))) (bM (h.bR 3 (h.v 4))))))) (bM (cJ (h.v 2))))))
variable (Ff:KG (Oz P w K mg base) 1 yF)
include z_len E7 Ff in
theorem Yw(D':Kj (Def K mg) a d):Kj (Oz P w K mg base) 3 Cm:=dM (N:=["form","x","place"]) D' λX r h=>by
 cases r
 exact (bH (h.bR 2 (h.cl Ff (au (h.v 0) (au (h.v 1) br)))) (bH (fY (k9 (uc (du (j' h.u8) (h.v 2) (yo h.g z_len (h.bv 0))) (uh (du ue (h.v 1) (bI (kF (bI (h.bv 0) (h.v 2))) aH))))) (bM (cJ qO)) gi) (bM (cJ (h.cl E7 (au (bI (h.bv 0) (h.v 2)) (au (h.v 1) br)))))))
variable (EY:Kj (Oz P w K mg base) 3 Cm)
include OB in
theorem Yn:FL K "name" c7:=(cP OB.bO OB.n_Each_name (cP OB.bN OB.n_Flat_name (cP OB.bz OB.n_Bands_name (cP OB.bx OB.n_Steps_name (cP OB.bg OB.n_Blocks_name (cP OB.bC OB.n_Named_name vm))))))
variable (dC:FL K "name" c7)
include EY dC in
theorem ZF(D':Lg (cW K a) d):Lg (Om P w K mg base a) 4 Cy:=qL (N:=["self","x","forms"]) D' λX r h=>by
 cases r
 exact (bM (cJ (h.cl EY (au (h.vA (h.v 2) (pd (h.v 0) dC)) (au (h.v 1) br)))))
variable (Fv:Lg (Om P w K mg base aO) 4 Cy)
include OB Fq Fs Ft FA FC Fv in
theorem Zy:ox P w K mg base "cost_here" 3 4 Fz:=(eS OB.bO OB.h_Each_cost_here Fq (eS OB.bN OB.h_Flat_cost_here Fs (eS OB.bz OB.h_Bands_cost_here Ft (eS OB.bx OB.h_Steps_cost_here FA (eS OB.bg OB.h_Blocks_cost_here FC (eS OB.bC OB.h_Named_cost_here Fv xh))))))
variable (cM:ox P w K mg base "cost_here" 3 4 Fz)
theorem Zt(D':K2 (cW K a) d):K2 (Om P w K mg base a) 1 r0:=qL (N:=["self"]) D' λX r h=>by
 cases r
 exact (bM (cJ (ml br)))
variable (uo:K2 (Om P w K mg base aw) 1 r0)
include OB uo in
theorem Y6:ox P w K mg base "parts" 1 1 Fk:=(eS OB.bO OB.h_Each_parts uo (eS OB.bN OB.h_Flat_parts uo (eS OB.bz OB.h_Bands_parts uo (eS OB.bx OB.h_Steps_parts uo (eS OB.bg OB.h_Blocks_parts uo (eS OB.bC OB.h_Named_parts uo xh))))))
variable (iy:ox P w K mg base "parts" 1 1 Fk)
include iy in
theorem ZJ(D':Lr (cW K a) d):Lr (Om P w K mg base a) 2 uj:=qL (N:=["self","found","part"]) D' λX r h=>by
 cases r
 exact (bH (h.set 1 (ml br)) (bH (vh h.own h.calm (h.CY (n:=1) iy (h.v 0)) (h.tg 2) (bM (h.ext 1 (h.CY (n:=1) (xh (j:=1)) (h.v 2))))) (bM (h.q9 1))))
variable (vo:Lr (Om P w K mg base af) 2 uj)
include dC in
theorem ZE(D':Lf (cW K a) d):Lf (Om P w K mg base a) 1 Cw:=qL (N:=["self"]) D' λX r h=>by
 cases r
 exact (bM (cJ (ml (au (pd (h.v 0) dC) br))))
variable (Fu:Lf (Om P w K mg base aP) 1 Cw)
include OB vo Fu in
theorem Zx:ox P w K mg base "all_names" 1 2 Fy:=(eS OB.bO OB.h_Each_all_names vo (eS OB.bN OB.h_Flat_all_names vo (eS OB.bz OB.h_Bands_all_names vo (eS OB.bx OB.h_Steps_all_names vo (eS OB.bg OB.h_Blocks_all_names vo (eS OB.bC OB.h_Named_all_names Fu xh))))))
variable (cN:ox P w K mg base "all_names" 1 2 Fy)
include z_sorted z_set cN in
theorem Zs(D':K1 (cW K a) d):K1 (Om P w K mg base a) 3 rZ:=qL (N:=["self"]) D' λX r h=>by
 cases r
 exact (bM (cJ (OM h.calm h.g z_sorted h.g z_set (h.CY (n:=1) cN (h.v 0)))))
variable (um:K1 (Om P w K mg base az) 3 rZ)
include OB um in
theorem Y5:ox P w K mg base "names" 1 3 Fj:=(eS OB.bO OB.h_Each_names um (eS OB.bN OB.h_Flat_names um (eS OB.bz OB.h_Bands_names um (eS OB.bx OB.h_Steps_names um (eS OB.bg OB.h_Blocks_names um (eS OB.bC OB.h_Named_names um xh))))))
variable (iA:ox P w K mg base "names" 1 3 Fj)
include iA in
theorem ZK(D':Ll (Def K mg) a d):Ll (Oz P w K mg base) 4 Cs:=dM (N:=["rule","forms","name"]) D' λX r h=>by
 cases r
 exact (bM (vh h.own h.calm (h.CY (n:=1) iA (h.v 0)) (h.tg 2) (bM (fY (h.yR (h.v 2) (h.v 1)) (bM Xx) gi))))
variable (Fp:Ll (Oz P w K mg base) 4 Cs)
include cM Fp in
theorem Zg(D':K5 (cW K a) d):K5 (Om P w K mg base a) 5 sO:=qL (N:=["self","x","forms"]) D' λX r h=>by
 cases r
 exact (bH (Wx (h.cl Fp (au (h.v 0) (au (h.v 2) br)))) (bM (cJ (h.mt (n:=3) cM (h.v 0) (au (h.v 1) (au (h.v 2) br))))))
variable (ur:K5 (Om P w K mg base aF) 5 sO)
include OB ur in
theorem Yv:ox P w K mg base "cost" 3 5 yz:=(eS OB.bO OB.h_Each_cost ur (eS OB.bN OB.h_Flat_cost ur (eS OB.bz OB.h_Bands_cost ur (eS OB.bx OB.h_Steps_cost ur (eS OB.bg OB.h_Blocks_cost ur (eS OB.bC OB.h_Named_cost ur xh))))))
variable (iB:ox P w K mg base "cost" 3 5 yz)
include z_int z_isinstance z_bool in
theorem Zn(D':KE (Def K mg) a d):KE (Oz P w K mg base) 1 Cr:=dM (N:=["found","due"]) D' λX r h=>by
 cases r
 exact (bH (fY (du Oh (h.v 1) qO) (bM (cJ (Ex Oh (h.v 0) qO))) gi) (bM (cJ (N3 (N4 (cq rfl) h.g z_isinstance h.g z_int (by decide +kernel) (h.v 0)) (N3 (Ul (N4 (bP (cq rfl)) h.g z_isinstance h.g z_bool (by decide +kernel) (h.v 0))) (Um (Ex (j' h.u8) (h.v 0) (h.v 1))))))))
variable (Fe:KE (Oz P w K mg base) 1 Cr)
include z_len z_range z_sum z_min z_int in
theorem Zv(D':Lk (Def K mg) a d):Lk (Oz P w K mg base) 1 yI:=dM (N:=["plan","x","forms","kind","tops","found"]) D' λX r h=>by
 cases r
 exact (bH (h.bR 3 (bI (h.bv 0) aH)) (bH (fY (du (j' h.u8) (h.v 3) d9) (bH (OY (i:=5) false (N':=["part","x"]) (caps:=[1]) (nt:=1) h ⟨rfl,by decide +kernel,by decide +kernel,by decide +kernel,by decide +kernel,rfl,rfl,by decide +kernel⟩ (xg (h.vA (h.v 2) (bI (h.bv 0) aH))) (λX1 o5 o4 o3 m8 oZ h1=>⟨(h1.tg 0),(JD (k9 (U1 (du qM (bI (h1.bv 0) aH) (h1.v 1)) (Wt (du qM (h1.v 1) (bI (h1.bv 0) aH)))))),(h1.v 0)⟩)) (bH (fY (du (j' h.u8) (yo h.g z_len (h.bv 5)) aH) (bM (cJ qO)) gi) (bM (cJ (bB ed (bI (kF (bI (h.bv 5) aH)) aH) (bB kf (bI (kF (bI (h.bv 5) aH)) aH) (bB uf (h.v 1) (bI (kF (bI (h.bv 5) aH)) aH)))))))) gi) (bH (fY (k9 (uc (du (j' h.u8) (h.v 3) d9) (uh (du (j' h.u8) (h.v 3) d9)))) (bH (fY (k9 (uc (du ue (h.v 1) (bI (h.bv 0) aH)) (uh (du ue (bI (h.bv 0) aH) (h.v 1))))) (bM (cJ qO)) gi) (bM (cJ (bB kf (bI (h.bv 0) aH) (bI (kF (ml (au aH (au (h.v 1) br)))) (V1 h.g z_int (Ex (j' h.u8) (h.v 3) d9))))))) gi) (bH (fY (du (j' h.u8) (h.v 3) d9) (bH (fY (k9 (uc (du ue (h.v 1) aH) (uh (du NM (h.v 1) (bB kf (bI (h.bv 0) aH) (bI (h.bv 0) aH)))))) (bM (cJ qO)) gi) (bM (cJ (bB kf (bI (h.bv 0) aH) (bB BR (bB uf (bB ed (h.v 1) (bI (h.bv 0) aH)) aH) (bI (h.bv 0) aH)))))) gi) (bH (fY (k9 (uc (du ue (h.v 1) aH) (uh (du NM (h.v 1) (bI (kF (bI (kF (bI (h.bv 0) aH)) (B0 aH))) aH))))) (bM (cJ qO)) gi) (bH (fY (du (j' h.u8) (h.v 3) d9) (bM (cJ (bB kf (h.v 1) (bI (kF (yt (N':=["row","x"]) (caps:=[1]) (nt:=1) h ⟨rfl,by decide +kernel,by decide +kernel,by decide +kernel,by decide +kernel,rfl,rfl,by decide +kernel⟩ (xg (bI (h.bv 0) aH)) (λX1 o5 o4 o3 m8 oZ h1=>⟨(h1.tg 0),(JD (du qM (h1.v 1) (bI (h1.bv 0) aH))),(bI (h1.bv 0) aH)⟩))) aH)))) gi) (bH (h.bR 4 (bB ed (ml (au aH br)) (yt (N':=["row"]) (caps:=[]) (nt:=1) h ⟨rfl,by decide +kernel,by decide +kernel,by decide +kernel,by decide +kernel,rfl,rfl,by decide +kernel⟩ (xg (bI (h.bv 0) aH)) (λX1 o5 o4 o3 m8 oZ h1=>⟨(h1.tg 0),B3,(bI (h1.bv 0) aH)⟩)))) (bM (cJ (Uo h.g z_sum h.calm (kF (yt (N':=["j","plan","x","tops"]) (caps:=[0,1,4]) (nt:=1) h ⟨rfl,by decide +kernel,by decide +kernel,by decide +kernel,by decide +kernel,rfl,rfl,by decide +kernel⟩ (WM h.g z_range (au (yo h.g z_len (kF (bI (h.bv 0) aH))) br)) (λX1 o5 o4 o3 m8 oZ h1=>⟨(h1.tg 0),B3,(bB kf (bI (kF (bI (kF (bI (h1.bv 1) aH)) (h1.v 0))) aH) (bB uf (B' (EF h1.calm) h1.g (yN m8 z_min) (by decide +kernel) (au (h1.v 2) (au (bI (h1.bv 3) (bB ed (h1.v 0) aH)) br))) (B' (EF h1.calm) h1.g (yN m8 z_min) (by decide +kernel) (au (h1.v 2) (au (bI (h1.bv 3) (h1.v 0)) br)))))⟩)))))))))))))
variable (Fo:Lk (Oz P w K mg base) 1 yI)
theorem Y8(D':KZ (Def K mg) a d):KZ (Oz P w K mg base) 1 yA:=dM (N:=["plan","forms","kind","told","part"]) D' λX r h=>by
 cases r
 exact (bH (h.bR 2 (bI (h.bv 0) aH)) (bH (fY (du (j' h.u8) (h.v 2) d9) (bH (h.set 3 (ml br)) (bH (vh h.own h.calm (h.vA (h.v 1) (bI (h.bv 0) aH)) (h.tg 4) (bM (h.ext 3 (ml (au (bI (h.bv 4) aH) (au (bI (h.bv 4) aH) br)))))) (bM (h.q9 3)))) gi) (bH (fY (k9 (uc (du (j' h.u8) (h.v 2) d9) (uh (du (j' h.u8) (h.v 2) d9)))) (bM (cJ (ml (au (bI (h.bv 0) aH) (au (bI (h.bv 0) aH) br))))) gi) (bH (fY (du (j' h.u8) (h.v 2) d9) (bM (cJ (ml (au aH (au (bI (h.bv 0) aH) (au (bB kf (bI (h.bv 0) aH) (bI (h.bv 0) aH)) br)))))) gi) (bH (fY (k9 (uc (du (j' h.u8) (h.v 2) d9) (uh (du (j' h.u8) (h.v 2) d9)))) (bM (cJ (bB ed (ml (au aH br)) (yt (N':=["row"]) (caps:=[]) (nt:=1) h ⟨rfl,by decide +kernel,by decide +kernel,by decide +kernel,by decide +kernel,rfl,rfl,by decide +kernel⟩ (xg (bI (h.bv 0) aH)) (λX1 o5 o4 o3 m8 oZ h1=>⟨(h1.tg 0),B3,(bI (h1.bv 0) aH)⟩))))) gi) (bM (cJ (ml (au aH br)))))))))
variable (E8:KZ (Oz P w K mg base) 1 yA)
include z_sorted z_set E8 in
theorem Zz(D':K4 (Def K mg) a d):K4 (Oz P w K mg base) 2 yH:=dM (N:=["plan","forms","script","scale","told","x","cell"]) D' λX r h=>by
 cases r
 exact (bH (h.set 4 (ml (au (B0 aH) (au aH (au aH br))))) (bH (vh h.own h.calm (EO (kF (OM h.calm h.g z_sorted h.g z_set (h.cl E8 (au (h.v 0) (au (h.v 1) br))))) JW (B8 aH)) (h.tg 5) (bM (h.ext 4 (ml (au (bB uf (h.v 5) aH) (au (h.v 5) (au (bB ed (h.v 5) aH) br))))))) (bH (vh h.own h.calm (EO (h.bv 2) JW (B8 aH)) (h.tg 6) (bM (h.app 4 (bB uf (bB BS (h.v 6) (bB kf aH (h.v 3))) (h.v 3))))) (bM (h.q9 4)))))
variable (Fw:K4 (Oz P w K mg base) 2 yH)
include OB in
theorem Yr:mg "Rule" = some (.ref bu)/\IL K bu EI:=⟨OB.we,(yv OB.bO OB.nN (yv OB.bN OB.nM (yv OB.bz OB.mV (yv OB.bx OB.mT (yv OB.bg OB.lS (yv OB.bC OB.mU Ut))))))⟩
variable (iF:mg "Rule" = some (.ref bu)/\IL K bu EI)
include OB in
theorem Y2(D':Zu (cW K aW) d):sP P w K mg base "Named" 1 Cc 1 E5:=D8 (N:=["self","name"]) OB.bC OB.tK OB.sV D' λX r h=>by
 cases r
 exact (h.lQ OB.bC.c OB.n_Named_name (h.v 1) EA)
variable (iE:sP P w K mg base "Named" 1 Cc 1 E5)
include OB in
theorem Zf(D':ZM (cW K aU) d):sP P w K mg base "Blocks" 3 Ck 1 Fi:=D8 (N:=["self","size","price","many"]) OB.bg OB.rC OB.qU D' λX r h=>by
 cases r
 exact (h.lQ OB.bg.c OB.n_Blocks_size (h.v 1) (h.lQ OB.bg.c OB.n_Blocks_price (h.v 2) (h.lQ OB.bg.c OB.n_Blocks_many (h.v 3) EA)))
variable (ee:sP P w K mg base "Blocks" 3 Ck 1 Fi)
include OB in
theorem Y4(D':Qw (cW K aK) d):yL P w K mg base "Steps" 1 Cd 1 Cj:=Nt (N:=["self","rows"]) OB.bx OB.tJ OB.sU D' λX r h=>by
 cases r
 exact (h.uL OB.bx.c OB.n_Steps_rows (yt (N':=["top","unit"]) (caps:=[]) (nt:=2) h ⟨rfl,by decide +kernel,by decide +kernel,by decide +kernel,by decide +kernel,rfl,rfl,by decide +kernel⟩ (xg (h.v 1)) (λX1 o5 o4 o3 m8 oZ h1=>⟨(B2 (n:=2) h1.calm (sN (h1.tg 0) (sN (h1.tg 1) B5))),B3,(qP (au (h1.v 0) (au (h1.v 1) br)))⟩)) OE)
variable (iC:yL P w K mg base "Steps" 1 Cd 1 Cj)
include OB in
theorem Y3(D':Qw (cW K aK) d):yL P w K mg base "Bands" 1 Cb 1 Ci:=Nt (N:=["self","rows"]) OB.bz OB.tL OB.sW D' λX r h=>by
 cases r
 exact (h.uL OB.bz.c OB.n_Bands_rows (yt (N':=["top","unit"]) (caps:=[]) (nt:=2) h ⟨rfl,by decide +kernel,by decide +kernel,by decide +kernel,by decide +kernel,rfl,rfl,by decide +kernel⟩ (xg (h.v 1)) (λX1 o5 o4 o3 m8 oZ h1=>⟨(B2 (n:=2) h1.calm (sN (h1.tg 0) (sN (h1.tg 1) B5))),B3,(qP (au (h1.v 0) (au (h1.v 1) br)))⟩)) OE)
variable (iD:yL P w K mg base "Bands" 1 Cb 1 Ci)
include OB in
theorem Yu(D':ZC (cW K aZ) d):sP P w K mg base "Flat" 3 B7 1 EU:=D8 (N:=["self","price","low","high"]) OB.bN OB.wg OB.vy D' λX r h=>by
 cases r
 exact (h.lQ OB.bN.c OB.n_Flat_price (h.v 1) (h.lQ OB.bN.c OB.n_Flat_low (h.v 2) (h.lQ OB.bN.c OB.n_Flat_high (h.v 3) EA)))
variable (kH:sP P w K mg base "Flat" 3 B7 1 EU)
include OB in
theorem Yt(D':ZA (cW K a9) d):sP P w K mg base "Each" 3 B6 1 ET:=D8 (N:=["self","unit","low","high"]) OB.bO OB.wj OB.vz D' λX r h=>by
 cases r
 exact (h.lQ OB.bO.c OB.n_Each_unit (h.v 1) (h.lQ OB.bO.c OB.n_Each_low (h.v 2) (h.lQ OB.bO.c OB.n_Each_high (h.v 3) EA)))
variable (kJ:sP P w K mg base "Each" 3 B6 1 ET)
include z_list iE ee iC iD kH kJ in
theorem Zm(D':KD (Def K mg) a d):KD (Oz P w K mg base) 3 yE:=dM (N:=["plan","kind","rows","rule"]) D' λX r h=>by
 cases r
 exact (bH (h.bR 1 (bI (h.bv 0) aH)) (bH (fY (du (j' h.u8) (h.v 1) d9) (bM (cJ (h.CZ kJ (au (bI (h.bv 0) aH) (au (bI (h.bv 0) aH) (au (bI (h.bv 0) aH) br)))))) gi) (bH (fY (du (j' h.u8) (h.v 1) d9) (bM (cJ (h.CZ kH (au (bI (h.bv 0) aH) (au (bI (h.bv 0) aH) (au (bI (h.bv 0) aH) br)))))) gi) (bH (fY (k9 (uc (du (j' h.u8) (h.v 1) d9) (uh (du (j' h.u8) (h.v 1) d9)))) (bH (h.set 2 (V2 h.g z_list (kF (bI (h.bv 0) aH)))) (bH (h.bR 3 (h.L4 2 iD (au (h.v 2) br))) (bH (fY (du (j' h.u8) (h.v 1) d9) (bM (h.bR 3 (h.L4 2 iC (au (h.v 2) br)))) gi) (bH (h.item 2 (qP (au (bI (kF (bI (h.bv 2) aH)) aH) (au (bB ed (bI (kF (bI (h.bv 2) aH)) aH) aH) br))) aH) (bH (h.app 2 (qP (au (bB xi aH aH) (au aH br)))) (bM (cJ (h.v 3)))))))) gi) (bH (fY (du (j' h.u8) (h.v 1) d9) (bM (cJ (h.CZ ee (au (bI (h.bv 0) aH) (au (bI (h.bv 0) aH) (au (bI (h.bv 0) aH) br)))))) gi) (bM (cJ (h.CZ iE (au (bI (h.bv 0) aH) br)))))))))
variable (Fd:KD (Oz P w K mg base) 3 yE)
theorem Yx(D':Kk (Def K mg) a d):Kk (Oz P w K mg base) 1 kG:=dM (N:=["cell","k","size","odd","big"]) D' λX r h=>by
 cases r
 exact (bH (h.bR 3 (bB ed aH (bB kf (bB kf aH (h.v 1)) (h.v 1)))) (bH (h.bR 4 (bB ed (bB kf (bB ed (bB BS (h.v 0) (bB xi aH aH)) aH) (h.v 3)) (bB kf aH (h.v 1)))) (bM (cJ (bB BS (bB BR (bB BS (bB kf (h.v 4) (h.v 4)) (bB ed (bB xi aH aH) aH)) aH) (h.v 2))))))
variable (iI:Kk (Oz P w K mg base) 1 kG)
include iI in
theorem Zi(D':K7 (Def K mg) a d):K7 (Oz P w K mg base) 2 uq:=dM (N:=["cell","k","most"]) D' λX r h=>by
 cases r
 exact (bH (h.bR 2 (bI (kF (ml (au aH (au (bB xi aH aH) (au (bB xi aH aH) br))))) (h.cl iI (au (h.v 0) (au (bB ed (h.v 1) aH) (au aH br)))))) (bM (cJ (bB uf (h.cl iI (au (h.v 0) (au (h.v 1) (au (bB ed (bB kf aH (h.v 2)) aH) br)))) (h.v 2)))))
variable (r6:K7 (Oz P w K mg base) 2 uq)
include z_range iI r6 in
theorem Za(D':KC (Def K mg) a d):KC (Oz P w K mg base) 3 yD:=dM (N:=["cell","scale","rows","top","j"]) D' λX r h=>by
 cases r
 exact (bH (h.set 2 (ml br)) (bH (h.bR 3 (bB BR (bB kf (h.cl iI (au (h.v 0) (au aH (au (h.v 1) br)))) (h.cl iI (au (h.v 0) (au aH (au aH br))))) aH)) (bH (EW h.own h.calm h.g z_range (au (bB ed aH (h.cl iI (au (h.v 0) (au aH (au aH br))))) br) (h.tg 4) (bH (h.app 2 (qP (au (h.v 3) (au (h.cl r6 (au (h.v 0) (au (bB ed aH (h.v 4)) br))) br)))) (bM (h.bR 3 (bB ed (bB ed (h.v 3) aH) (h.cl iI (au (h.v 0) (au (bB ed aH (h.v 4)) (au (h.v 1) br))))))))) (bM (h.q9 2)))))
variable (Fc:KC (Oz P w K mg base) 3 yD)
include iI r6 Fc in
theorem Y'(D':KA (Def K mg) a d):KA (Oz P w K mg base) 4 yC:=dM (N:=["cell","scale","kind","price","low","high"]) D' λX r h=>by
 cases r
 exact (bH (h.bR 2 (bI (kF (ml (au d9 (au d9 (au d9 (au d9 (au d9 (au d9 br)))))))) (h.cl iI (au (h.v 0) (au aH (au aH br)))))) (bH (h.bR 3 (h.cl r6 (au (h.v 0) (au aH br)))) (bH (h.bR 4 (bB kf (h.cl iI (au (h.v 0) (au aH (au (h.v 1) br)))) (h.cl iI (au (h.v 0) (au aH (au aH br)))))) (bH (h.bR 5 (bB ed (h.v 4) (bB kf (h.cl iI (au (h.v 0) (au aH (au (h.v 1) br)))) (h.cl iI (au (h.v 0) (au aH (au aH br))))))) (bH (fY (k9 (uc (du (j' h.u8) (h.v 2) d9) (uh (du (j' h.u8) (h.v 2) d9)))) (bM (cJ (qP (au (h.v 2) (au (h.cl Fc (au (h.v 0) (au (h.v 1) br))) br))))) gi) (bH (fY (du (j' h.u8) (h.v 2) d9) (bM (cJ (qP (au (h.v 2) (au (bB ed aH (h.cl iI (au (h.v 0) (au aH (au (h.v 1) br))))) (au (h.v 3) (au (bB ed aH (h.cl iI (au (h.v 0) (au aH (au aH br))))) br))))))) gi) (bH (fY (du (j' h.u8) (h.v 2) d9) (bM (cJ (qP (au (h.v 2) (au (bI (kF (ml (au d9 (au d9 (au d9 br))))) (h.cl iI (au (h.v 0) (au aH (au aH br))))) br))))) gi) (bM (cJ (qP (au (h.v 2) (au (h.v 3) (au (h.v 4) (au (h.v 5) br))))))))))))))
variable (E':KA (Oz P w K mg base) 4 yC)
include z_range z_tuple iI r6 in
theorem Y9(D':K0 (Def K mg) a d):K0 (Oz P w K mg base) 3 yB:=dM (N:=["cell","scale","told","low","j","high","step"]) D' λX r h=>by
 cases r
 exact (bH (h.set 2 (ml br)) (bH (h.bR 3 (bB uf (h.cl iI (au (h.v 0) (au aH (au (bB kf aH (h.v 1)) br)))) (h.v 1))) (bH (EW h.own h.calm h.g z_range (au (h.cl iI (au (h.v 0) (au aH (au aH br)))) br) (h.tg 4) (bH (h.bR 5 (bB ed (h.v 3) (bB kf (h.cl iI (au (h.v 0) (au (bB ed aH (h.v 4)) (au (h.v 1) br)))) (h.cl iI (au (h.v 0) (au (bB ed aH (h.v 4)) (au aH br))))))) (bH (h.bR 6 aH) (bH (fY (du ue (h.v 3) (h.v 5)) (bM (h.bR 6 (h.cl r6 (au (h.v 0) (au (bB ed aH (h.v 4)) br))))) gi) (bH (h.app 2 (qP (au (h.v 3) (au (h.v 5) (au (h.cl r6 (au (h.v 0) (au (bB ed aH (h.v 4)) br))) (au (h.v 6) br)))))) (bM (h.bR 3 (bB ed (bB ed (h.v 5) aH) (h.cl iI (au (h.v 0) (au (bB ed aH (h.v 4)) (au (h.v 1) br)))))))))))) (bM (cJ (W7 h.g z_tuple (h.bv 2)))))))
variable (E9:K0 (Oz P w K mg base) 3 yB)
include z_len in
theorem X0(D':J2 (Def K mg) a d):J2 (Oz P w K mg base) 1 yG:=dM (N:=["script","k"]) D' λX r h=>by
 cases r
 exact (bH (fY (du ue (h.v 1) (yo h.g z_len (h.bv 0))) (bM (cJ (bI (h.bv 0) (h.v 1)))) gi) (bM (cJ aH)))
variable (xj:J2 (Oz P w K mg base) 1 yG)
include z_range E9 xj in
theorem Zh(D':K6 (Def K mg) a d):K6 (Oz P w K mg base) 4 yJ:=dM (N:=["script","scale","told","j"]) D' λX r h=>by
 cases r
 exact (bH (h.set 2 V5) (bH (EW h.own h.calm h.g z_range (au aH br) (h.tg 3) (bM (h.FG 2 (h.cl E9 (au (h.cl xj (au (h.v 0) (au (bB ed aH (h.v 3)) br))) (au (h.v 1) br))) (bI (kF (ml (au d9 (au d9 (au d9 br))))) (h.v 3))))) (bM (h.q9 2))))
variable (E6:K6 (Oz P w K mg base) 4 yJ)
include z_len z_range z_min z_isinstance z_dict iB Fe Fo Fw iF Fd E' xj E6 in
theorem U3(D':yV (Def K mg) a d):bY P w K mg base jl 6 a d ["script"] (qW K 1 EL):=AR (N:=["script","scale","forms","kept","k","plan","rule","held","x","found","told"]) D' λX r h=>by
 cases r
 exact (bH (h.bR 1 (bI (kF (ml (au aH (au (bB xi aH aH) (au (bB xi aH aH) br))))) (bB BS (h.cl xj (au (h.v 0) (au aH br))) aH))) (bH (h.bR 2 (h.cl E6 (au (h.v 0) (au (h.v 1) br)))) (bH (h.bR 3 (W6 h.g z_dict (h.v 2))) (bH (EW h.own h.calm h.g z_range (au (B' (EF h.calm) h.g z_min (by decide +kernel) (au (yo h.g z_len (h.bv 0)) (au aH br))) br) (h.tg 4) (bH (h.bR 5 (h.cl E' (au (bI (h.bv 0) (h.v 4)) (au (h.v 1) br)))) (bH (h.bR 6 (h.cl Fd (au (h.v 5) br))) (bH (fY (Et (Eu (Uj h.g z_isinstance h.g iF.1 iF.2 (h.v 6)))) (bM (cJ Ju)) gi) (bH (h.set 7 (ml br)) (bH (vh h.own h.calm (h.cl Fw (au (h.v 5) (au (h.v 2) (au (EO (h.bv 0) (B8 (h.v 4)) (B8 (bB ed (h.v 4) aH))) (au (h.v 1) br))))) (h.tg 8) (bH (h.bR 9 (h.mt (n:=3) iB (h.v 6) (au (h.v 8) (au (h.v 2) br)))) (bH (fY (Et (Eu (h.cl Fe (au (h.v 9) (au (h.cl Fo (au (h.v 5) (au (h.v 8) (au (h.v 2) br)))) br))))) (bM (cJ Ju)) gi) (bM (h.app 7 (qP (au (h.v 8) (au (h.v 9) br)))))))) (bM (UU 7 (vh h.own h.calm (EO (h.bv 7) JW (B8 aH)) (B2 (n:=2) h.calm (sN (h.tg 8) (sN (h.tg 10) B5))) (bM (fY (du (U2 h.u8) (h.mt (n:=3) iB (h.v 6) (au (h.v 8) (au (h.v 2) br))) (h.v 10)) (bM (cJ Ju)) gi))))))))))) (bM (cJ (Ex (Vt h.u8) (h.v 2) (h.v 3))))))))
end
theorem all_mk{l:Iq}{w:World}{K:aI}{h:Heap}{mg:Str->Option Value}{fa:Addr}(X:K.In h)(G:h.Ns mainGlobals mg)(SX:mg "law" = some (.ref fa))
  (i1:FI K "up" NA f1 od1 an1 ZY oc1 kV1 dc1 Z8 cd1 ct1)
  (i2:FI K "line_at" PN f2 od2 an2 zg oc2 kV2 dc2 Z7 cd2 ct2)
  (i3:FI K "drawn_to" P5 f3 od3 an3 ZX oc3 kV3 dc3 Z6 cd3 ct3)
  (i4:FI K "place_of" Qb f4 od4 an4 ZW oc4 kV4 dc4 Z5 cd4 ct4)
  (i5:FI K "cost_at" PL f5 od5 an5 ZV oc5 kV5 dc5 Z4 cd5 ct5)
  (i6:FI K "look_up_names" Qq f6 od6 an6 ZU oc6 kV6 dc6 Z3 cd6 ct6)
  (i7:FI K "_law_same" Qa f7 od7 an7 ZT oc7 kV7 dc7 Z2 cd7 ct7)
  (i8:FI K "_law_leaf_cost" Qp f8 od8 an8 ZS oc8 kV8 dc8 Z1 cd8 ct8)
  (i9:FI K "_law_ends" P6 f9 Z9 an9 ZR oc9 kV9 dc9 Z0 cd9 ct9)
  (i10:FI K "_law_amounts" Qv f10 RE XX Q6 RP Sh TN Rp Uc T4)
  (i11:FI K "_law_rule" P' f11 RD XW Q5 RO Sg TM Ro Ub T3)
  (i12:FI K "_law_mix" PM f12 RC XU Q4 RN Sf TL Rn Ua T2)
  (i13:FI K "_law_price" Qi f13 RB XT Q3 RM Se TK Rm T' T1)
  (i14:FI K "_law_rows" P9 f14 RA XS Q2 RL Sb TJ Rk T9 TZ)
  (i15:FI K "_law_leaf" P8 f15 Rz XR Q1 RK R9 TH Rj T8 TY)
  (i16:FI K "_law_form" P7 f16 Ry XQ Q0 RJ R8 TF Ri T7 TX)
  (i17:FI K "_law_at" PU f17 Rx XO QZ RI R5 TC Rh T6 TU)
  (i18:FI K "_law_forms" Ql f18 Rw XN QY RH RZ Tz Rg T5 TR)
  (i19:FI K "law" BW f19 Rv Jx QX RG GL HD Gr HJ HE)
  (zlen:gg K mainGlobals "len" = some none)
  (zrange:gg K mainGlobals "range" = some none)
  (ztuple:gg K mainGlobals "tuple" = some none)
  (zlist:gg K mainGlobals "list" = some none)
  (zsum:gg K mainGlobals "sum" = some none)
  (zmin:gg K mainGlobals "min" = some none)
  (zint:gg K mainGlobals "int" = some none)
  (zsorted:gg K mainGlobals "sorted" = some none)
  (zset:gg K mainGlobals "set" = some none)
  (zisinstance:gg K mainGlobals "isinstance" = some none)
  (zbool:gg K mainGlobals "bool" = some none)
  (zdict:gg K mainGlobals "dict" = some none)
  (zmax:gg K mainGlobals "max" = some none)
  {aE aD aj ai ae ak bu aT aS aY aQ aN aJ aO aw af aP az aF aW aU aK aZ a9:Addr}
  (a_Each:gg K mainGlobals "Each" = some (some (.ref aE)))
  (a_Flat:gg K mainGlobals "Flat" = some (some (.ref aD)))
  (a_Bands:gg K mainGlobals "Bands" = some (some (.ref aj)))
  (a_Steps:gg K mainGlobals "Steps" = some (some (.ref ai)))
  (a_Blocks:gg K mainGlobals "Blocks" = some (some (.ref ae)))
  (a_Named:gg K mainGlobals "Named" = some (some (.ref ak)))
  (a_Rule:gg K mainGlobals "Rule" = some (some (.ref bu)))
  (p1_Each:sv K aE wG=true)
  (p2_Each:t6 K aE=true)
  (p3_Each:vb K aE=true)
  (p4_Each:bh K (.ref aE) "__setattr__" = some (some (.builtin "object.__setattr__")))
  (q1_Each:uZ K aE=true)
  (q2_Each:bh K (.ref aE) "__init__" = some (some (.ref a9)))
  (q4_Each:pS K (.ref aE)=true)
  (n_Each_low:bh K (.ref aE) "low" = some none)
  (n_Each_high:bh K (.ref aE) "high" = some none)
  (n_Each_unit:bh K (.ref aE) "unit" = some none)
  (n_Each_price:bh K (.ref aE) "price" = some none)
  (n_Each_rows:bh K (.ref aE) "rows" = some none)
  (n_Each_size:bh K (.ref aE) "size" = some none)
  (n_Each_many:bh K (.ref aE) "many" = some none)
  (n_Each_name:bh K (.ref aE) "name" = some none)
  (h_Each_cost_here:bh K (.ref aE) "cost_here" = some (some (.ref aT)))
  (h_Each_parts:bh K (.ref aE) "parts" = some (some (.ref aw)))
  (h_Each_all_names:bh K (.ref aE) "all_names" = some (some (.ref af)))
  (h_Each_names:bh K (.ref aE) "names" = some (some (.ref az)))
  (h_Each_cost:bh K (.ref aE) "cost" = some (some (.ref aF)))
  (p1_Flat:sv K aD wG=true)
  (p2_Flat:t6 K aD=true)
  (p3_Flat:vb K aD=true)
  (p4_Flat:bh K (.ref aD) "__setattr__" = some (some (.builtin "object.__setattr__")))
  (q1_Flat:uZ K aD=true)
  (q2_Flat:bh K (.ref aD) "__init__" = some (some (.ref aZ)))
  (q4_Flat:pS K (.ref aD)=true)
  (n_Flat_low:bh K (.ref aD) "low" = some none)
  (n_Flat_high:bh K (.ref aD) "high" = some none)
  (n_Flat_unit:bh K (.ref aD) "unit" = some none)
  (n_Flat_price:bh K (.ref aD) "price" = some none)
  (n_Flat_rows:bh K (.ref aD) "rows" = some none)
  (n_Flat_size:bh K (.ref aD) "size" = some none)
  (n_Flat_many:bh K (.ref aD) "many" = some none)
  (n_Flat_name:bh K (.ref aD) "name" = some none)
  (h_Flat_cost_here:bh K (.ref aD) "cost_here" = some (some (.ref aS)))
  (h_Flat_parts:bh K (.ref aD) "parts" = some (some (.ref aw)))
  (h_Flat_all_names:bh K (.ref aD) "all_names" = some (some (.ref af)))
  (h_Flat_names:bh K (.ref aD) "names" = some (some (.ref az)))
  (h_Flat_cost:bh K (.ref aD) "cost" = some (some (.ref aF)))
  (p1_Bands:sv K aj wG=true)
  (p2_Bands:t6 K aj=true)
  (p3_Bands:vb K aj=true)
  (p4_Bands:bh K (.ref aj) "__setattr__" = some (some (.builtin "object.__setattr__")))
  (q1_Bands:uZ K aj=true)
  (q2_Bands:bh K (.ref aj) "__init__" = some (some (.ref aK)))
  (q4_Bands:pS K (.ref aj)=true)
  (n_Bands_low:bh K (.ref aj) "low" = some none)
  (n_Bands_high:bh K (.ref aj) "high" = some none)
  (n_Bands_unit:bh K (.ref aj) "unit" = some none)
  (n_Bands_price:bh K (.ref aj) "price" = some none)
  (n_Bands_rows:bh K (.ref aj) "rows" = some none)
  (n_Bands_size:bh K (.ref aj) "size" = some none)
  (n_Bands_many:bh K (.ref aj) "many" = some none)
  (n_Bands_name:bh K (.ref aj) "name" = some none)
  (h_Bands_holds:bh K (.ref aj) "holds" = some (some (.ref aY)))
  (h_Bands_cost_here:bh K (.ref aj) "cost_here" = some (some (.ref aQ)))
  (h_Bands_parts:bh K (.ref aj) "parts" = some (some (.ref aw)))
  (h_Bands_all_names:bh K (.ref aj) "all_names" = some (some (.ref af)))
  (h_Bands_names:bh K (.ref aj) "names" = some (some (.ref az)))
  (h_Bands_cost:bh K (.ref aj) "cost" = some (some (.ref aF)))
  (p1_Steps:sv K ai wG=true)
  (p2_Steps:t6 K ai=true)
  (p3_Steps:vb K ai=true)
  (p4_Steps:bh K (.ref ai) "__setattr__" = some (some (.builtin "object.__setattr__")))
  (q1_Steps:uZ K ai=true)
  (q2_Steps:bh K (.ref ai) "__init__" = some (some (.ref aK)))
  (q4_Steps:pS K (.ref ai)=true)
  (n_Steps_low:bh K (.ref ai) "low" = some none)
  (n_Steps_high:bh K (.ref ai) "high" = some none)
  (n_Steps_unit:bh K (.ref ai) "unit" = some none)
  (n_Steps_price:bh K (.ref ai) "price" = some none)
  (n_Steps_rows:bh K (.ref ai) "rows" = some none)
  (n_Steps_size:bh K (.ref ai) "size" = some none)
  (n_Steps_many:bh K (.ref ai) "many" = some none)
  (n_Steps_name:bh K (.ref ai) "name" = some none)
  (h_Steps_holds:bh K (.ref ai) "holds" = some (some (.ref aY)))
  (h_Steps_cost_here:bh K (.ref ai) "cost_here" = some (some (.ref aN)))
  (h_Steps_parts:bh K (.ref ai) "parts" = some (some (.ref aw)))
  (h_Steps_all_names:bh K (.ref ai) "all_names" = some (some (.ref af)))
  (h_Steps_names:bh K (.ref ai) "names" = some (some (.ref az)))
  (h_Steps_cost:bh K (.ref ai) "cost" = some (some (.ref aF)))
  (p1_Blocks:sv K ae wG=true)
  (p2_Blocks:t6 K ae=true)
  (p3_Blocks:vb K ae=true)
  (p4_Blocks:bh K (.ref ae) "__setattr__" = some (some (.builtin "object.__setattr__")))
  (q1_Blocks:uZ K ae=true)
  (q2_Blocks:bh K (.ref ae) "__init__" = some (some (.ref aU)))
  (q4_Blocks:pS K (.ref ae)=true)
  (n_Blocks_low:bh K (.ref ae) "low" = some none)
  (n_Blocks_high:bh K (.ref ae) "high" = some none)
  (n_Blocks_unit:bh K (.ref ae) "unit" = some none)
  (n_Blocks_price:bh K (.ref ae) "price" = some none)
  (n_Blocks_rows:bh K (.ref ae) "rows" = some none)
  (n_Blocks_size:bh K (.ref ae) "size" = some none)
  (n_Blocks_many:bh K (.ref ae) "many" = some none)
  (n_Blocks_name:bh K (.ref ae) "name" = some none)
  (h_Blocks_cost_here:bh K (.ref ae) "cost_here" = some (some (.ref aJ)))
  (h_Blocks_parts:bh K (.ref ae) "parts" = some (some (.ref aw)))
  (h_Blocks_all_names:bh K (.ref ae) "all_names" = some (some (.ref af)))
  (h_Blocks_names:bh K (.ref ae) "names" = some (some (.ref az)))
  (h_Blocks_cost:bh K (.ref ae) "cost" = some (some (.ref aF)))
  (p1_Named:sv K ak wG=true)
  (p2_Named:t6 K ak=true)
  (p3_Named:vb K ak=true)
  (p4_Named:bh K (.ref ak) "__setattr__" = some (some (.builtin "object.__setattr__")))
  (q1_Named:uZ K ak=true)
  (q2_Named:bh K (.ref ak) "__init__" = some (some (.ref aW)))
  (q4_Named:pS K (.ref ak)=true)
  (n_Named_low:bh K (.ref ak) "low" = some none)
  (n_Named_high:bh K (.ref ak) "high" = some none)
  (n_Named_unit:bh K (.ref ak) "unit" = some none)
  (n_Named_price:bh K (.ref ak) "price" = some none)
  (n_Named_rows:bh K (.ref ak) "rows" = some none)
  (n_Named_size:bh K (.ref ak) "size" = some none)
  (n_Named_many:bh K (.ref ak) "many" = some none)
  (n_Named_name:bh K (.ref ak) "name" = some none)
  (h_Named_cost_here:bh K (.ref ak) "cost_here" = some (some (.ref aO)))
  (h_Named_parts:bh K (.ref ak) "parts" = some (some (.ref aw)))
  (h_Named_all_names:bh K (.ref ak) "all_names" = some (some (.ref aP)))
  (h_Named_names:bh K (.ref ak) "names" = some (some (.ref az)))
  (h_Named_cost:bh K (.ref ak) "cost" = some (some (.ref aF)))
  (f_Each_cost_here:my K (.ref aT)=true)
  {gE ij:Option Addr}{gq:Array (Option Value)}{gJ gO g0 gy h8 hG:Value}
  (i_Each_cost_here:FM K "cost_here" "Each.cost_here" Qs aT gE ij gq gJ gO g0 gy h8 hG)
  (f_Flat_cost_here:my K (.ref aS)=true)
  {gD ig:Option Addr}{gp:Array (Option Value)}{gH gM gZ gx h7 g9:Value}
  (i_Flat_cost_here:FM K "cost_here" "Flat.cost_here" Qt aS gD ig gp gH gM gZ gx h7 g9)
  (f_Rows_holds:my K (.ref aY)=true)
  {lG mj:Option Addr}{lr:Array (Option Value)}{lJ lN lX lA l8 l5:Value}
  (i_Rows_holds:FM K "holds" "Rows.holds" eQ aY lG mj lr lJ lN lX lA l8 l5)
  (f_Bands_cost_here:my K (.ref aQ)=true)
  {fu fX:Option Addr}{eZ:Array (Option Value)}{fA fE fJ fj fS fN:Value}
  (i_Bands_cost_here:FM K "cost_here" "Bands.cost_here" QB aQ fu fX eZ fA fE fJ fj fS fN)
  (f_Steps_cost_here:my K (.ref aN)=true)
  {fm fU:Option Addr}{eT:Array (Option Value)}{fw fB fG e9 fP fK:Value}
  (i_Steps_cost_here:FM K "cost_here" "Steps.cost_here" QE aN fm fU eT fw fB fG e9 fP fK)
  (f_Blocks_cost_here:my K (.ref aJ)=true)
  {ej eM:Option Addr}{eh:Array (Option Value)}{eD eE eJ ei eL eK:Value}
  (i_Blocks_cost_here:FM K "cost_here" "Blocks.cost_here" QA aJ ej eM eh eD eE eJ ei eL eK)
  (f_Named_cost_here:my K (.ref aO)=true)
  {fq fV:Option Addr}{eU:Array (Option Value)}{fx fC fH ff fQ fL:Value}
  (i_Named_cost_here:FM K "cost_here" "Named.cost_here" QD aO fq fV eU fx fC fH ff fQ fL)
  (f_Rule_parts:my K (.ref aw)=true)
  {lD mh:Option Addr}{ll:Array (Option Value)}{lH lL lV lx l6 lZ:Value}
  (i_Rule_parts:FM K "parts" "Rule.parts" Qz aw lD mh ll lH lL lV lx l6 lZ)
  (f_Rule_all_names:my K (.ref af)=true)
  {gC ie:Option Addr}{gn:Array (Option Value)}{gG gL gW gw hV g8:Value}
  (i_Rule_all_names:FM K "all_names" "Rule.all_names" Qu af gC ie gn gG gL gW gw hV g8)
  (f_Named_all_names:my K (.ref aP)=true)
  {ft fW:Option Addr}{eW:Array (Option Value)}{fy fD fI fg fR fM:Value}
  (i_Named_all_names:FM K "all_names" "Named.all_names" QC aP ft fW eW fy fD fI fg fR fM)
  (f_Rule_names:my K (.ref az)=true)
  {lE mi:Option Addr}{lq:Array (Option Value)}{lI lM lW lz l7 l4:Value}
  (i_Rule_names:FM K "names" "Rule.names" Qy az lE mi lq lI lM lW lz l7 l4)
  (f_Rule_cost:my K (.ref aF)=true)
  {mM nv:Option Addr}{mI:Array (Option Value)}{mN mR m9 mK nj ni:Value}
  (i_Rule_cost:FM K "cost" "Rule.cost" Qk aF mM nv mI mN mR m9 mK nj ni)
  (f_Named_Xinit__:my K (.ref aW)=true)
  {iS je:Option Addr}{iO:Array (Option Value)}{iT iV iZ iP jd jc:Value}
  (i_Named_Xinit__:FM K "__init__" "Named.__init__" Qo aW iS je iO iT iV iZ iP jd jc)
  (f_Blocks_Xinit__:my K (.ref aU)=true)
  {gF ik:Option Addr}{gr:Array (Option Value)}{gK gP g7 gz h9 hU:Value}
  (i_Blocks_Xinit__:FM K "__init__" "Blocks.__init__" Qr aU gF ik gr gK gP g7 gz h9 hU)
  (f_Rows_Xinit__:my K (.ref aK)=true)
  {jA j0:Option Addr}{jt:Array (Option Value)}{jD jG jM jx jS jP:Value}
  (i_Rows_Xinit__:FM K "__init__" "Rows.__init__" Qn aK jA j0 jt jD jG jM jx jS jP)
  (f_Flat_Xinit__:my K (.ref aZ)=true)
  {jB j6:Option Addr}{ju:Array (Option Value)}{jE jH jN jy jT jQ:Value}
  (i_Flat_Xinit__:FM K "__init__" "Flat.__init__" Qm aZ jB j6 ju jE jH jN jy jT jQ)
  (f_Each_Xinit__:my K (.ref a9)=true)
  {jC j7:Option Addr}{jv:Array (Option Value)}{jF jI jO jz jU jR:Value}
  (i_Each_Xinit__:FM K "__init__" "Each.__init__" Qx a9 jC j7 jv jF jI jO jz jU jR)
  (g4o:DV K (.builtin "object.__class__") "__get__" = some (some (.builtin "getset_descriptor.__get__")))
  (g5o:Iu K (.builtin "object.__class__")=some true)
  (s1_Each:bh K (.ref aE) "__class__" = some (some (.builtin "object.__class__")))
  (s4_Each:u6 K aE (.type "object")=some true)
  (j_Each_Rule:uX K (.ref aE) (.ref bu)=some true)
  (s1_Flat:bh K (.ref aD) "__class__" = some (some (.builtin "object.__class__")))
  (s4_Flat:u6 K aD (.type "object")=some true)
  (j_Flat_Rule:uX K (.ref aD) (.ref bu)=some true)
  (s1_Bands:bh K (.ref aj) "__class__" = some (some (.builtin "object.__class__")))
  (s4_Bands:u6 K aj (.type "object")=some true)
  (j_Bands_Rule:uX K (.ref aj) (.ref bu)=some true)
  (s1_Steps:bh K (.ref ai) "__class__" = some (some (.builtin "object.__class__")))
  (s4_Steps:u6 K ai (.type "object")=some true)
  (j_Steps_Rule:uX K (.ref ai) (.ref bu)=some true)
  (s1_Blocks:bh K (.ref ae) "__class__" = some (some (.builtin "object.__class__")))
  (s4_Blocks:u6 K ae (.type "object")=some true)
  (j_Blocks_Rule:uX K (.ref ae) (.ref bu)=some true)
  (s1_Named:bh K (.ref ak) "__class__" = some (some (.builtin "object.__class__")))
  (s4_Named:u6 K ak (.type "object")=some true)
  (j_Named_Rule:uX K (.ref ak) (.ref bu)=some true)
  (fin:∀ns:List Int,ns.length<=63->EL [.lst true (ns.map D.int)]=some (.sh (.bl true))):
  ∃fd:FuncData,(∀(s:Shared) (v:Value),BindsTo s fd ⟨[v],[]⟩ [("script",v)])/\∀base:Heap,K.In base->base.Ns mainGlobals mg->bY l.prog w K mg base jl 6 fa fd ["script"] (spT K):=by
 have e:=SX.symm.trans (tW X G i19.a)
 cases e
 have z_len:=qi X G zlen
 have z_range:=qi X G zrange
 have z_tuple:=qi X G ztuple
 have z_list:=qi X G zlist
 have z_sum:=qi X G zsum
 have z_min:=qi X G zmin
 have z_int:=qi X G zint
 have z_sorted:=qi X G zsorted
 have z_set:=qi X G zset
 have z_isinstance:=qi X G zisinstance
 have z_bool:=qi X G zbool
 have z_dict:=qi X G zdict
 have z_max:=qi X G zmax
 have OB:QG K mg aE aD aj ai ae ak bu aT aS aY aQ aN aJ aO aw af aP az aF aW aU aK aZ a9:=⟨⟨a_Each,⟨p1_Each,p2_Each,p3_Each,p4_Each⟩⟩,tW X G a_Each,⟨q1_Each,q2_Each,f_Each_Xinit__,q4_Each⟩,n_Each_low,n_Each_high,n_Each_unit,n_Each_price,n_Each_rows,n_Each_size,n_Each_many,n_Each_name,⟨h_Each_cost_here,f_Each_cost_here,i_Each_cost_here.k⟩,⟨h_Each_parts,f_Rule_parts,i_Rule_parts.k⟩,⟨h_Each_all_names,f_Rule_all_names,i_Rule_all_names.k⟩,⟨h_Each_names,f_Rule_names,i_Rule_names.k⟩,⟨h_Each_cost,f_Rule_cost,i_Rule_cost.k⟩,⟨s1_Each,g4o,g5o,s4_Each,j_Each_Rule⟩,⟨a_Flat,⟨p1_Flat,p2_Flat,p3_Flat,p4_Flat⟩⟩,tW X G a_Flat,⟨q1_Flat,q2_Flat,f_Flat_Xinit__,q4_Flat⟩,n_Flat_low,n_Flat_high,n_Flat_unit,n_Flat_price,n_Flat_rows,n_Flat_size,n_Flat_many,n_Flat_name,⟨h_Flat_cost_here,f_Flat_cost_here,i_Flat_cost_here.k⟩,⟨h_Flat_parts,f_Rule_parts,i_Rule_parts.k⟩,⟨h_Flat_all_names,f_Rule_all_names,i_Rule_all_names.k⟩,⟨h_Flat_names,f_Rule_names,i_Rule_names.k⟩,⟨h_Flat_cost,f_Rule_cost,i_Rule_cost.k⟩,⟨s1_Flat,g4o,g5o,s4_Flat,j_Flat_Rule⟩,⟨a_Bands,⟨p1_Bands,p2_Bands,p3_Bands,p4_Bands⟩⟩,tW X G a_Bands,⟨q1_Bands,q2_Bands,f_Rows_Xinit__,q4_Bands⟩,n_Bands_low,n_Bands_high,n_Bands_unit,n_Bands_price,n_Bands_rows,n_Bands_size,n_Bands_many,n_Bands_name,⟨h_Bands_holds,f_Rows_holds,i_Rows_holds.k⟩,⟨h_Bands_cost_here,f_Bands_cost_here,i_Bands_cost_here.k⟩,⟨h_Bands_parts,f_Rule_parts,i_Rule_parts.k⟩,⟨h_Bands_all_names,f_Rule_all_names,i_Rule_all_names.k⟩,⟨h_Bands_names,f_Rule_names,i_Rule_names.k⟩,⟨h_Bands_cost,f_Rule_cost,i_Rule_cost.k⟩,⟨s1_Bands,g4o,g5o,s4_Bands,j_Bands_Rule⟩,⟨a_Steps,⟨p1_Steps,p2_Steps,p3_Steps,p4_Steps⟩⟩,tW X G a_Steps,⟨q1_Steps,q2_Steps,f_Rows_Xinit__,q4_Steps⟩,n_Steps_low,n_Steps_high,n_Steps_unit,n_Steps_price,n_Steps_rows,n_Steps_size,n_Steps_many,n_Steps_name,⟨h_Steps_holds,f_Rows_holds,i_Rows_holds.k⟩,⟨h_Steps_cost_here,f_Steps_cost_here,i_Steps_cost_here.k⟩,⟨h_Steps_parts,f_Rule_parts,i_Rule_parts.k⟩,⟨h_Steps_all_names,f_Rule_all_names,i_Rule_all_names.k⟩,⟨h_Steps_names,f_Rule_names,i_Rule_names.k⟩,⟨h_Steps_cost,f_Rule_cost,i_Rule_cost.k⟩,⟨s1_Steps,g4o,g5o,s4_Steps,j_Steps_Rule⟩,⟨a_Blocks,⟨p1_Blocks,p2_Blocks,p3_Blocks,p4_Blocks⟩⟩,tW X G a_Blocks,⟨q1_Blocks,q2_Blocks,f_Blocks_Xinit__,q4_Blocks⟩,n_Blocks_low,n_Blocks_high,n_Blocks_unit,n_Blocks_price,n_Blocks_rows,n_Blocks_size,n_Blocks_many,n_Blocks_name,⟨h_Blocks_cost_here,f_Blocks_cost_here,i_Blocks_cost_here.k⟩,⟨h_Blocks_parts,f_Rule_parts,i_Rule_parts.k⟩,⟨h_Blocks_all_names,f_Rule_all_names,i_Rule_all_names.k⟩,⟨h_Blocks_names,f_Rule_names,i_Rule_names.k⟩,⟨h_Blocks_cost,f_Rule_cost,i_Rule_cost.k⟩,⟨s1_Blocks,g4o,g5o,s4_Blocks,j_Blocks_Rule⟩,⟨a_Named,⟨p1_Named,p2_Named,p3_Named,p4_Named⟩⟩,tW X G a_Named,⟨q1_Named,q2_Named,f_Named_Xinit__,q4_Named⟩,n_Named_low,n_Named_high,n_Named_unit,n_Named_price,n_Named_rows,n_Named_size,n_Named_many,n_Named_name,⟨h_Named_cost_here,f_Named_cost_here,i_Named_cost_here.k⟩,⟨h_Named_parts,f_Rule_parts,i_Rule_parts.k⟩,⟨h_Named_all_names,f_Named_all_names,i_Named_all_names.k⟩,⟨h_Named_names,f_Rule_names,i_Rule_names.k⟩,⟨h_Named_cost,f_Rule_cost,i_Rule_cost.k⟩,⟨s1_Named,g4o,g5o,s4_Named,j_Named_Rule⟩,tW X G a_Rule⟩
 refine ⟨md "law" "law" (nA BW) (il BW) (df BW) .none GL HD Gr Jx HJ HE,λs v=>.of_eq rfl,λbase _ _=>?_⟩
 have gf:=XZ OB
 have dD:=YS OB
 have kK:=Yq OB
 have Fq:=ZH (P:=l.prog) (w:=w) (base:=base) (mg:=mg) gf dD kK (nE i_Each_cost_here λ_ _ _ _ _ _ us hu=>by obtain ⟨_,_,_,rfl⟩:=ud hu;rfl)
 have cV:=Y1 OB
 have Fs:=ZI (P:=l.prog) (w:=w) (base:=base) (mg:=mg) gf dD cV (nE i_Flat_cost_here λ_ _ _ _ _ _ us hu=>by obtain ⟨_,_,_,rfl⟩:=ud hu;rfl)
 have cA:=Yo OB
 have Cp:=lC (P:=l.prog) (w:=w) (base:=base) (mg:=mg) cA (nE i_Rows_holds λ_ _ _ _ _ _ us hu=>by obtain ⟨_,_,rfl⟩:=yn hu;rfl)
 have cT:=nK OB Cp
 have Ft:=ZD cA cT (nE i_Bands_cost_here λ_ _ _ _ _ _ us hu=>by obtain ⟨_,_,_,rfl⟩:=ud hu;rfl)
 have FA:=ZG z_min z_max cA cT (nE i_Steps_cost_here λ_ _ _ _ _ _ us hu=>by obtain ⟨_,_,_,rfl⟩:=ud hu;rfl)
 have iG:=Yp OB
 have kL:=YT OB
 have O_up:=zS (P:=l.prog) (w:=w) (base:=base) (iU X G i1)
 have FC:=ZN cV iG kL O_up (nE i_Blocks_cost_here λ_ _ _ _ _ _ us hu=>by obtain ⟨_,_,_,rfl⟩:=ud hu;rfl)
 have EZ:=Yy (P:=l.prog) (w:=w) (base:=base) (vQ X G i2)
 have E7:=Y7 EZ (iU X G i3)
 have Ff:=Zo (P:=l.prog) (w:=w) (base:=base) z_len (iU X G i4)
 have EY:=Yw z_len E7 Ff (iU X G i5)
 have dC:=Yn OB
 have Fv:=ZF EY dC (nE i_Named_cost_here λ_ _ _ _ _ _ us hu=>by obtain ⟨_,_,_,rfl⟩:=ud hu;rfl)
 have cM:=Zy OB Fq Fs Ft FA FC Fv
 have uo:=Zt (P:=l.prog) (w:=w) (base:=base) (mg:=mg) (nE i_Rule_parts λ_ _ _ _ _ _ us hu=>by obtain ⟨_,rfl⟩:=ym hu;rfl)
 have iy:=Y6 OB uo
 have vo:=ZJ iy (nE i_Rule_all_names λ_ _ _ _ _ _ us hu=>by obtain ⟨_,rfl⟩:=ym hu;rfl)
 have Fu:=ZE (P:=l.prog) (w:=w) (base:=base) (mg:=mg) dC (nE i_Named_all_names λ_ _ _ _ _ _ us hu=>by obtain ⟨_,rfl⟩:=ym hu;rfl)
 have cN:=Zx OB vo Fu
 have um:=Zs z_sorted z_set cN (nE i_Rule_names λ_ _ _ _ _ _ us hu=>by obtain ⟨_,rfl⟩:=ym hu;rfl)
 have iA:=Y5 OB um
 have Fp:=ZK iA (iU X G i6)
 have ur:=Zg cM Fp (nE i_Rule_cost λ_ _ _ _ _ _ us hu=>by obtain ⟨_,_,_,rfl⟩:=ud hu;rfl)
 have iB:=Yv OB ur
 have Fe:=Zn (P:=l.prog) (w:=w) (base:=base) z_int z_isinstance z_bool (iU X G i7)
 have Fo:=Zv (P:=l.prog) (w:=w) (base:=base) z_len z_range z_sum z_min z_int (vQ X G i8)
 have E8:=Y8 (P:=l.prog) (w:=w) (base:=base) (iU X G i9)
 have Fw:=Zz z_sorted z_set E8 (GD X G i10)
 have iF:=Yr OB
 have iE:=Y2 (P:=l.prog) (w:=w) (base:=base) OB (nE i_Named_Xinit__ λ_ _ _ _ _ _ us hu=>by obtain ⟨_,_,rfl⟩:=yn hu;rfl)
 have ee:=Zf (P:=l.prog) (w:=w) (base:=base) OB (nE i_Blocks_Xinit__ λ_ _ _ _ _ _ us hu=>by obtain ⟨_,_,_,_,rfl⟩:=Ee hu;rfl)
 have iC:=Y4 (P:=l.prog) (w:=w) (base:=base) OB (nE i_Rows_Xinit__ λ_ _ _ _ _ _ us hu=>by obtain ⟨_,_,rfl⟩:=yn hu;rfl)
 have iD:=Y3 (P:=l.prog) (w:=w) (base:=base) OB (nE i_Rows_Xinit__ λ_ _ _ _ _ _ us hu=>by obtain ⟨_,_,rfl⟩:=yn hu;rfl)
 have kH:=Yu (P:=l.prog) (w:=w) (base:=base) OB (nE i_Flat_Xinit__ λ_ _ _ _ _ _ us hu=>by obtain ⟨_,_,_,_,rfl⟩:=Ee hu;rfl)
 have kJ:=Yt (P:=l.prog) (w:=w) (base:=base) OB (nE i_Each_Xinit__ λ_ _ _ _ _ _ us hu=>by obtain ⟨_,_,_,_,rfl⟩:=Ee hu;rfl)
 have Fd:=Zm z_list iE ee iC iD kH kJ (z0 X G i11)
 have iI:=Yx (P:=l.prog) (w:=w) (base:=base) (vQ X G i12)
 have r6:=Zi iI (iU X G i13)
 have Fc:=Za z_range iI r6 (iU X G i14)
 have E':=Y' iI r6 Fc (iU X G i15)
 have E9:=Y9 z_range z_tuple iI r6 (iU X G i16)
 have xj:=X0 (P:=l.prog) (w:=w) (base:=base) z_len (iU X G i17)
 have E6:=Zh z_range E9 xj (iU X G i18)
 have O_law:=U3 z_len z_range z_min z_isinstance z_dict iB Fe Fo Fw iF Fd E' xj E6 (z0 X G i19)
 exact Vp O_law fin
end My
open PySem L2 DL
def vcNames:String:="a0e Wo_none a0h a07 a9c a9e a9d a9b b6V Wo_nx Wo_bk Wo_ct b2U b4A b6U b4w b7m b6J b4O b48 b4j Wo_eV Wo_eC b7k b60 b4G b4M b4E b4I b4L b4J b4F b64 b65 b66 b67 b68 b62 b4K b4H b2c b19 b2b b18 b2a b17 b49 b5b b5a rep0 rep1 rep2 rep3 rep4 b10 b2k b2l b4Q b4R b4P b4U b47 b45 b4X b4Y b4D b7j b14 b15 b5c b5d b61 b4B a9S b1s a9U a9R a9Q a9T b2T b7p b4t b4s b4r b4o b4q b4p b11 b4v b6R b4u b46 b7f b4W b7i b5e b2o b4S b4Z b6K b6M b6L Wo_bV b7l b6S b6T b40 b2h b0u ixQ_i b7h b6O atI_1 atI_2 atI_3 b2j b0w b2m b2n b41 b34 b35 b7a b4N a7L a6V b4y b4x b13 b12 b0B b0C b0D b0A b63 Wo_gT b16 b0t b7n b6N b7q b6t b7b b6X b3H b4C b4l b4k b4z b6Z pQ_i b6Y b7e b4V slQ_t b1V b1W b1X b1Y srQ_l a8V b2i b2d b2f Sl_sh Sl_ow b2e List.getElem?_cons_zero List.getElem?_cons_succ List.set_cons_zero List.set_cons_succ List.length_cons List.length_nil a7x a8K a7z a7w a7v a7y a6D a7A a6F a6C a6B a6E a7r a8J a7t a7q a7p a7s a6y a7u a6A a6x a6w a6z a5L a6v a5N a5K a5J a5M decide_eq_true_eq decide_eq_false_iff_not Bool.not_eq_true' Bool.not_eq_false' Bool.not_true Bool.not_false true_and and_true forall_const Bool.true_eq_false Bool.false_eq_true false_implies reduceCtorEq implies_true true_implies Int.reduceToNat Nat.reduceAdd Nat.reduceLT Nat.reduceLeDiff Nat.reduceSub Int.reduceLT Int.reduceLE Int.reduceEq Int.cast_ofNat_Int not_true_eq_false not_false_eq_true"
local macro_rules | `(tactic| walk_at "vc")=>do
 let ls ← ((vcNames.splitOn " ") ++ ["a0D","b0r","b1o","b3J","b1q","b1n","b1m","b1p"]).toArray.mapM fun s=>`(Lean.Parser.Tactic.simpLemma| $(Lean.mkIdent s.toName):ident)
 `(tactic| first | simp only [$ls,*] | dsimp only | skip)
local macro_rules | `(tactic| walk_at "v1")=>do
 let ls ← (vcNames.splitOn " ").toArray.mapM fun s=>`(Lean.Parser.Tactic.simpLemma| $(Lean.mkIdent s.toName):ident)
 `(tactic| first | simp only [$ls,*] | dsimp only | skip)
local macro_rules | `(tactic| walk_at "sc")=>`(tactic| first | omega | (simp only [DivC,PowC,MulC,LIM,R62]; omega) | rfl | decide)
local macro_rules | `(tactic| walk_at "go")=>`(tactic| (walk_at "vc"; repeat' first | apply c1Y | intro _); all_goals try (walk_at "sc"))
local macro_rules | `(tactic| walk_at "sp")=>`(tactic| (repeat' first | apply And.intro | intro _); all_goals first | (exfalso; omega) | walk_at "sc" | ((repeat apply Exists.intro); rfl) | skip)
local macro_rules | `(tactic| walk_at "st")=>`(tactic| repeat (refine And.intro ?_ ?_; · first | (simp only [DivC,PowC,MulC,LIM,R62]; omega) | omega))
namespace My
noncomputable abbrev Row:=Int×Int×Int×Int
noncomputable def Row.d(r:Row):D:=.tup [.int r.1,.int r.2.1,.int r.2.2.1,.int r.2.2.2]
theorem w8(r:Row):Row.d r=.tup [.int r.1,.int r.2.1,.int r.2.2.1,.int r.2.2.2]:=rfl
noncomputable def Row.at(r:Row)(x:Int):Int:=r.2.2.1+r.2.2.2*(x-r.1)
noncomputable def cU(R:Row->Row->Prop):List Row->Prop
 | a::b::rs=>R a b/\cU R (b::rs)
 | _=>True
theorem cU.snoc{R:Row->Row->Prop}{r:Row}:∀{rs:List Row},cU R rs->(∀a,rs.getLast?=some a->R a r)->cU R (rs++[r])
 | [],_,_=>trivial
 | [a],_,h=>⟨h a rfl,trivial⟩
 | a::b::rs,h,k=>⟨h.1,h.2.snoc (rs:=b::rs) λc hc=>k c (by simpa using hc)⟩
theorem cU.tail{R:Row->Row->Prop}{r:Row}{rs:List Row}(h:cU R (r::rs)):cU R rs:=by
 cases rs with
 | nil=>trivial
 | cons q rs=>exact h.2
def dq(B:Int)(r:Row):Prop:=(-B<=r.1/\r.1<=B)/\(-B<=r.2.1/\r.2.1<=B)/\(-B<=r.2.2.1/\r.2.2.1<=B)/\(-B<=r.2.2.2/\r.2.2.2<=B)
noncomputable def look:List Row->Int->Option Int
 | [],_=>none
 | r::rs,x=>if r.1<=x/\x<=r.2.1 then some (r.at x) else look rs x
noncomputable def cD:Option Int->D
 | none=>.bo
 | some i=>.int i
def CN(rs:List Row):Prop:=(∀r∈rs,r.1<=r.2.1)/\rs.Pairwise λa b=>a.2.1<b.1
theorem Pp{x:Int}{post:List Row}:∀{pre:List Row},(∀q∈pre,q.2.1<x)->look (pre++post) x=look post x
 | [],_=>rfl
 | r::pre,h=>by
  have:=h r kU
  rw [DR,look,if_neg (by ext this)]
  exact Pp λq hq=>h q (jo _ hq)
theorem Po{x:Int}:∀{rs:List Row},(∀q∈rs,x<q.1\/q.2.1<x)->look rs x=none
 | [],_=>rfl
 | r::rs,h=>by
  have:=h r kU
  rw [look,if_neg (by ext this)]
  exact Po λq hq=>h q (jo _ hq)
def Val(rs:List Row)(x c:Int):Prop:=∃r∈rs,r.1<=x/\x<=r.2.1/\c=r.at x
theorem Val.app{rs qs:List Row}{x c:Int}:Val (rs++qs) x c↔Val rs x c\/Val qs x c:=by
 unfold Val
 constructor
 .rintro ⟨r,hr,h⟩
  rcases nu.mp hr with hr | hr
  .exact .inl ⟨r,hr,h⟩
  .exact .inr ⟨r,hr,h⟩
 .rintro (⟨r,hr,h⟩ | ⟨r,hr,h⟩)
  .exact ⟨r,yf _ hr,h⟩
  .exact ⟨r,ql _ hr,h⟩
theorem Val.one{r:Row}{x c:Int}:Val [r] x c↔r.1<=x/\x<=r.2.1/\c=r.at x:=by
 unfold Val
 simp
theorem Val.two{r q:Row}{x c:Int}:Val [r,q] x c↔(r.1<=x/\x<=r.2.1/\c=r.at x)\/(q.1<=x/\x<=q.2.1/\c=q.at x):=by
 unfold Val
 simp
theorem cU.append{R:Row->Row->Prop}:∀{rs qs:List Row},cU R rs->cU R qs->(∀a b,rs.getLast?=some a->qs.head?=some b->R a b)->cU R (rs++qs)
 | [],_,_,h,_=>h
 | [a],[],_,_,_=>trivial
 | [a],b::qs,_,h,k=>⟨k a b rfl rfl,h⟩
 | a::b::rs,qs,h,h',k=>⟨h.1,cU.append (rs:=b::rs) h.2 h' λc d hc hd=>k c d (by simpa using hc) hd⟩
theorem cU.get{R:Row->Row->Prop}:∀{rs:List Row},cU R rs->∀(k:Nat) (h:k+1<rs.length),R (rs[k]'(by ext h)) rs[k+1]
 | [],_,k,h=>absurd h (by simp)
 | [a],_,k,h=>absurd h (by simp)
 | a::b::rs,h,0,_=>h.1
 | a::b::rs,h,k+1,hk=>cU.get (rs:=b::rs) h.2 k (by simpa using hk)
theorem dq.mono{A B:Int}{r:Row}(h:dq A r)(sj:A<=B):dq B r:=by unfold dq at *;ext h sj
theorem Wm{n:Nat}(x y:Row):bp (n+1) x.d y.d=some (decide (x=y)):=by
 obtain ⟨a,b,c,d⟩:=x
 obtain ⟨a',b',c',d'⟩:=y
 simp only [Row.d,bp,IZ,List.zipWith_nil_left,eN,xV,HR,List.all_nil,jX,Ip,id]
 simp [Bool.and_assoc]
theorem UL{p s l x:Int}(h1:-(10^250)<=s)(h2:s<=10^250)(h3:-(10^250)<=x-l)(h4:x-l<=10^250):Co [.tup [.int p,.int s],.int l,.int x]=some (.sh (.int (p+s*(x-l)))):=by
 refine Wo.eq (qr.mpr ?_)
 unfold Ky
 walk_at "go"
theorem Vz{r:Row}{x:Int}(h1:-(10^250)<=r.2.2.2)(h2:r.2.2.2<=10^250)(h3:-(10^250)<=x-r.1)(h4:x-r.1<=10^250):Cq [r.d,.int x]=some (.sh (.int (r.at x))):=by
 refine Wo.eq (pD.mpr ?_)
 unfold KH
 rw [w8 r]
 walk_at "vc"
 rw [UL h1 h2 h3 h4]
 walk_at "vc"
 rfl
theorem Oq{rs:List Row}{n:Nat}(h:n<rs.length):dt (rs.map Row.d) (n:Int)=some (Row.d rs[n]):=by
 rw [DL.dZ];simp [h]
theorem Wl{rs:List Row}(ha:CN rs)(hl:rs.length<=900000)(x:Int):∃n:Nat,yF [.tup (rs.map Row.d),.int x]=some (.sh (.int n))/\n<=rs.length/\(∀i (h:i<rs.length),i<n->rs[i].2.1<x)/\(∀i (h:i<rs.length),n<=i->x<=rs[i].2.1):=by
 have mono:∀i j (hi:i<rs.length) (hj:j<rs.length),i<=j->rs[i].2.1<=rs[j].2.1:=λi j hi hj h=>by
  rcases Nat.lt_or_eq_of_le h with h | rfl
  .have:=(ya.mp ha.2) i j hi hj h
   have:=ha.1 _ (tZ hj)
   lia
  .exact Int.le_refl _
 have key:Wo (yF [.tup (rs.map Row.d),.int x]) λs=>∃n:Nat,s=.sh (.int n)/\n<=rs.length/\(∀i (h:i<rs.length),i<n->rs[i].2.1<x)/\(∀i (h:i<rs.length),n<=i->x<=rs[i].2.1):=by
  refine pj.mpr ?_
  unfold KQ
  walk_at "vc"
  rw [dF,WQ]
  refine Km (λm env=>∃x4,∃f b:Nat,env=[.sh (.tup (rs.map Row.d)),.sh (.int x),.sh (.int f),.sh (.int b),x4]/\m=b-f/\f<=b/\b<=rs.length/\(∀i (h:i<rs.length),i<f->rs[i].2.1<x)/\(∀i (h:i<rs.length),b<=i->x<=rs[i].2.1)) (λm env h=>?_) _ rs.length
   (show rs.length<1000000 by ext hl) ⟨_,0,rs.length,rfl,by simp,by simp,bX _,λi h z=>absurd z (Bh _),λi h z=>absurd h (by ext z)⟩
  obtain ⟨x4,f,b,rfl,rfl,h1,h2,h3,h4⟩:=h
  walk_at "vc"
  refine ⟨λcn=>?_,λv8=>⟨f,rfl,by ext h1 h2,h3,λi h z=>h4 i h (by ext v8 z)⟩⟩
  have hm:((f:Int)+b)/2=(((f+b)/2:Nat):Int):=by lia
  have rA:(f+b)/2<rs.length:=by lia
  rw [hm,Oq rA,w8]
  walk_at "vc"
  refine ⟨by walk_at "sc",λhc=>?_,λhc=>?_⟩
  .exact ⟨b-((f+b)/2+1),by lia,_,(f+b)/2+1,b,rfl,rfl,by lia,h2,λi h z=>Int.lt_of_le_of_lt (mono i ((f+b)/2) h rA (by ext z)) hc,h4⟩
  .exact ⟨(f+b)/2-f,by lia,_,f,(f+b)/2,rfl,rfl,by lia,by ext rA,h3,λi h z=>Int.le_trans (by ext rA hc) (mono ((f+b)/2) i rA h z)⟩
 obtain ⟨s,e,n,rfl,h⟩:=key
 exact ⟨n,e,h⟩
theorem W0{rs:List Row}(ha:CN rs)(hl:rs.length<=900000)(hb:∀r∈rs,dq (10^140) r){x:Int}(hx:-(10^140)<=x/\x<=10^140):Cm [.tup (rs.map Row.d),.int x]=some (.sh (cD (look rs x))):=by
 refine Wo.eq (qu.mpr ?_)
 unfold Kw
 walk_at "vc"
 obtain ⟨n,en,hn,h1,h2⟩:=Wl ha hl x
 rw [en]
 walk_at "vc"
 rw [dF]
 have split:rs=rs.take n++rs.drop n:=(qk n rs).symm
 have qb:∀q∈rs.take n,q.2.1<x:=λq hq=>by
  obtain ⟨i,hi,rfl⟩:=qm.mp hq
  rw [mz] at hi
  rw [BD]
  exact h1 i (by ext hi) (by ext hi)
 have lk:look rs x=look (rs.drop n) x:=by
  have:=Pp (x:=x) (post:=rs.drop n) qb
  rwa [<-split] at this
 refine ⟨λhe=>?_,λhe=>?_⟩
 .have:rs.drop n=[]:=yb (by ext he)
  rw [lk,this];rfl
 .have cn:n<rs.length:=by ext hn he
  have hd:rs.drop n=rs[n]::rs.drop (n+1):=sI cn
  have hr:=hb rs[n] (tZ cn)
  have hle:=h2 n cn (bX _)
  unfold dq at hr
  rw [Oq cn,w8]
  walk_at "vc"
  refine ⟨λC9=>?_,λC9=>?_⟩
  .rw [lk,Po];rfl
   intro q hq
   rw [hd] at hq
   rcases cf.mp hq with rfl | hq
   .exact .inl C9
   .have hp:=ha.2
    rw [split,hd] at hp
    have:=(rQ.mp (qH.mp hp).2.1).1 q hq
    have:=ha.1 rs[n] (tZ cn)
    exact .inl (by omega)
  .rw [<-w8,Vz (by ext cn hr) (by ext cn hr) (by ext cn C9) (by ext cn hx hr)]
   walk_at "vc"
   rw [lk,hd,look,if_pos ⟨by ext cn C9,hle⟩]
   rfl
theorem AZ(ns:List Int)(k:Int)(hk:0<=k){r:Bool}:yG [.lst r (ns.map D.int),.int k]=some (.sh (.int (ns.getD k.toNat 0))):=by
 refine Wo.eq (r8.mpr ?_)
 unfold Kh
 walk_at "vc"
 rw [dF]
 refine ⟨λh=>?_,λh=>?_⟩
 .rw [J7 0 hk h]
  walk_at "vc"
 .have:ns.length<=k.toNat:=by ext h
  rw [show ns.getD k.toNat 0=0 by simp [this]]
theorem nz(c k s:Int)(hk:0<=k/\k<=1000)(hs:0<s/\s<=10^45):∃m:Int,kG [.int c,.int k,.int s]=some (.sh (.int m))/\0<=m/\m<s:=by
 have key:Wo (kG [.int c,.int k,.int s]) λx=>∃m:Int,x=.sh (.int m)/\0<=m/\m<s:=by
  refine qt.mpr ?_
  unfold Kx
  have a1:=Bf c (show (10^60:Int)≠0 by decide)
  have a2:=By c (show (0:Int)<10^60 by decide)
  have k1:0<=k*k:=wQ hk.1 hk.1
  have k2:k*k<=1000*1000:=wO hk.2 hk.2 hk.1 (by decide)
  have k3:2*k*k=2*(k*k):=Int.mul_assoc ..
  walk_at "vc"
  have o1:0<=271828182845904523536028747135266249775724709369995+2*k*k:=by omega
  have o2:271828182845904523536028747135266249775724709369995+2*k*k<=10^52:=by omega
  generalize 271828182845904523536028747135266249775724709369995+2*k*k=o at *
  generalize c%10^60=u at *
  have p1:0<=(u+1)*o:=wQ (by ext a1) o1
  have p2:(u+1)*o<=10^60*10^52:=wO (by ext a2) o2 o1 (by decide)
  generalize (u+1)*o=p at *
  generalize (p+7907*k)*(p+7907*k)%(10^60+7)/11=w at *
  exact ⟨.inl (by decide),.inl (by ext hk),by walk_at "sc",by decide,oE (by ext a1) (by ext a2) (by ext o1) (by ext o2),.inl (by decide),oE (by ext hk p1) (by omega) (by ext hk p1) (by omega),by walk_at "sc",by decide,JR (by decide) (by decide),hs.1,_,rfl,Bf _ (by ext hs),By _ hs.1⟩
 obtain ⟨x,e,m,rfl,h⟩:=key
 exact ⟨m,e,h⟩
local macro_rules | `(tactic| walk_at "o1")=>do
 let ls ← ((vcNames.splitOn " ") ++ ["b43","b2g","b7g","b42","b7d","b7c","tcQ_d","tgQ_d","tiQ_d","Sl_tw"]).toArray.mapM fun s=>`(Lean.Parser.Tactic.simpLemma| $(Lean.mkIdent s.toName):ident)
 `(tactic| first | simp only [$ls,*] | dsimp only | skip)
inductive Pl where
 | each (p lo hi:Int) | flat (p lo hi:Int) | bands (rs:List (Int×Int)) | steps (rs:List (Int×Int)) | blocks (s p m:Int) | name (n:Str)
noncomputable def Pr(q:Int×Int):D:=.tup [.int q.1,.int q.2]
noncomputable def Pl.d:Pl->D
 | .each p lo hi=>.tup [.str "each",.int p,.int lo,.int hi]
 | .flat p lo hi=>.tup [.str "flat",.int p,.int lo,.int hi]
 | .bands rs=>.tup [.str "bands",.lst false (rs.map Pr)]
 | .steps rs=>.tup [.str "steps",.lst false (rs.map Pr)]
 | .blocks s p m=>.tup [.str "blocks",.int s,.int p,.int m]
 | .name n=>.tup [.str "name",.str n]
noncomputable def Pl.o:Pl->D
 | .each p lo hi=>.obj "Each" B6 [.int p,.int lo,.int hi]
 | .flat p lo hi=>.obj "Flat" B7 [.int p,.int lo,.int hi]
 | .bands rs=>.obj "Bands" Cb [.lst false (rs.map Pr)]
 | .steps rs=>.obj "Steps" Cd [.lst false (rs.map Pr)]
 | .blocks s p m=>.obj "Blocks" Ck [.int s,.int p,.int m]
 | .name n=>.obj "Named" Cc [.str n]
def vi(rs:List (Int×Int)):Prop:=rs≠[]/\rs.length<=3/\(∀q∈rs,(0<=q.1/\q.1<=10^40) /\ -(10^40)<=q.2/\q.2<=10^40)/\rs.Pairwise λa b=>a.1<b.1
noncomputable def Pl.ok:Pl->Prop
 | .each p lo hi=>(-(10^40)<=p/\p<=10^40)/\(0<=lo/\lo<=10^40)/\(0<=hi/\hi<=10^40)
 | .flat p lo hi=>(-(10^40)<=p/\p<=10^40)/\(0<=lo/\lo<=10^40)/\(0<=hi/\hi<=10^40)
 | .bands rs=>vi rs
 | .steps rs=>vi rs
 | .blocks s p m=>(1<=s/\s<=10^39)/\(-(10^40)<=p/\p<=10^40)/\1<=m/\m<=4
 | .name n=>n = "p" \/ n = "qq" \/ n = "ptop"
theorem EG(c k:Int)(hk:0<=k/\k<=200):∃m:Int,uq [.int c,.int k]=some (.sh (.int m)) /\ -(10^40)<=m/\m<=10^40:=by
 have key:Wo (uq [.int c,.int k]) λx=>∃m:Int,x=.sh (.int m) /\ -(10^40)<=m/\m<=10^40:=by
  refine oi.mpr ?_
  unfold Lb
  obtain ⟨a,ea,a0,a1⟩:=nz c (k+60) 3 (by ext hk) (by decide)
  walk_at "v1"
  rw [ea]
  walk_at "v1"
  refine ⟨by decide,by decide,?_⟩
  refine Oo [3,10^9,10^39] a0 (by simpa using a1) λv hv=>?_
  have hb:0<v/\v<=10^39:=by
   simp only [cf,fT,or_false] at hv
   ext hv
  obtain ⟨b,eb,b0,b1⟩:=nz c k (2*v+1) (by ext hk) (by ext hb)
  walk_at "v1"
  rw [eb]
  walk_at "v1"
  exact ⟨.inl (by decide),_,rfl,by ext hb b0,by ext hb b1⟩
 obtain ⟨x,e,m,rfl,h⟩:=key
 exact ⟨m,e,h⟩
theorem eqF{a b:Str}(h:a≠b):bU (.str a) (.str b)=some (.sh (.bl false)):=by
 simp [bU,bp,h]
theorem eqT(a:Str):bU (.str a) (.str a)=some (.sh (.bl true)):=by
 simp [bU,bp]
theorem ne_eb:("each":Str) ≠ "bands":=by decide +kernel
theorem ne_es:("each":Str) ≠ "steps":=by decide +kernel
theorem ne_eo:("each":Str) ≠ "blocks":=by decide +kernel
theorem ne_en:("each":Str) ≠ "name":=by decide +kernel
theorem ne_ef:("each":Str) ≠ "flat":=by decide +kernel
theorem ne_fe:("flat":Str) ≠ "each":=by decide +kernel
theorem ne_fb:("flat":Str) ≠ "bands":=by decide +kernel
theorem ne_fs:("flat":Str) ≠ "steps":=by decide +kernel
theorem ne_fo:("flat":Str) ≠ "blocks":=by decide +kernel
theorem ne_fn:("flat":Str) ≠ "name":=by decide +kernel
theorem ne_be:("bands":Str) ≠ "each":=by decide +kernel
theorem ne_bf:("bands":Str) ≠ "flat":=by decide +kernel
theorem ne_bs:("bands":Str) ≠ "steps":=by decide +kernel
theorem ne_bo:("bands":Str) ≠ "blocks":=by decide +kernel
theorem ne_bn:("bands":Str) ≠ "name":=by decide +kernel
theorem ne_se:("steps":Str) ≠ "each":=by decide +kernel
theorem ne_sf:("steps":Str) ≠ "flat":=by decide +kernel
theorem ne_sb:("steps":Str) ≠ "bands":=by decide +kernel
theorem ne_so:("steps":Str) ≠ "blocks":=by decide +kernel
theorem ne_sn:("steps":Str) ≠ "name":=by decide +kernel
theorem ne_oe:("blocks":Str) ≠ "each":=by decide +kernel
theorem b3y:("blocks":Str) ≠ "flat":=by decide +kernel
theorem ne_ob:("blocks":Str) ≠ "bands":=by decide +kernel
theorem ne_os:("blocks":Str) ≠ "steps":=by decide +kernel
theorem ne_on:("blocks":Str) ≠ "name":=by decide +kernel
theorem ne_ne:("name":Str) ≠ "each":=by decide +kernel
theorem ne_nf:("name":Str) ≠ "flat":=by decide +kernel
theorem ne_nb:("name":Str) ≠ "bands":=by decide +kernel
theorem ne_ns:("name":Str) ≠ "steps":=by decide +kernel
theorem ne_no:("name":Str) ≠ "blocks":=by decide +kernel
local macro_rules | `(tactic| walk_at "kd")=>`(tactic| try simp only [eqT,eqF ne_eb,eqF ne_es,eqF ne_eo,eqF ne_en,eqF ne_ef,eqF ne_fe,eqF ne_fb,eqF ne_fs,eqF ne_fo,eqF ne_fn,eqF ne_be,eqF ne_bf,eqF ne_bs,eqF ne_bo,eqF ne_bn,eqF ne_se,eqF ne_sf,eqF ne_sb,eqF ne_so,eqF ne_sn,eqF ne_oe,eqF b3y,eqF ne_ob,eqF ne_os,eqF ne_on,eqF ne_ne,eqF ne_nf,eqF ne_nb,eqF ne_ns,eqF ne_no])
theorem Wi(c sc:Int)(hs:1<=sc/\sc<=10^38):∃rs,yD [.int c,.int sc]=some (.ow (rs.map Pr))/\vi rs:=by
 have key:Wo (yD [.int c,.int sc]) λx=>∃rs,x=.ow (rs.map Pr)/\vi rs:=by
  refine px.mpr ?_
  unfold KN
  obtain ⟨a,ea,a0,a1⟩:=nz c 30 sc (by decide) (by ext hs)
  obtain ⟨b,eb,b0,b1⟩:=nz c 31 3 (by decide) (by decide)
  obtain ⟨m,em,m0,m1⟩:=nz c 32 3 (by decide) (by decide)
  walk_at "v1"
  rw [ea]
  walk_at "v1"
  rw [eb]
  walk_at "v1"
  have hp0:0<=a*b:=wQ a0 b0
  have hp1:a*b<=10^38*2:=wO (by ext hs a1) (by ext b1) b0 (by decide)
  refine ⟨.inr (.inl (by ext b0 b1)),by walk_at "sc",?_⟩
  generalize a*b=ab at *
  rw [em]
  walk_at "v1"
  refine ⟨by walk_at "sc",?_⟩
  refine ED _ _ (λk env=>∃x4,∃(rs:List (Int×Int)) (top:Int),env=[.sh (.int c),.sh (.int sc),.ow (rs.map Pr),.sh (.int top),x4]/\rs.length=k/\0<=top/\top<=10^38+k*(10^38+1)/\(∀q∈rs,((0<=q.1/\q.1<=10^40) /\ -(10^40)<=q.2/\q.2<=10^40)/\q.1<top)/\rs.Pairwise λa b=>a.1<b.1) (λk env hk h=>?_) (λenv h=>?_) ⟨_,[],_,rfl,rfl,by lia,by lia,λq hq=>(nomatch hq),t4⟩
  .obtain ⟨x4,rs,top,rfl,hl,t0,t1,hq,hw⟩:=h
   obtain ⟨p,ep,p0,p1⟩:=EG c (33+(0+(k:Int))) (by ext m1 hk)
   obtain ⟨n,en,n0,n1⟩:=nz c (40+(0+(k:Int))) sc (by ext m1 hk) (by ext hs)
   walk_at "v1"
   rw [ep]
   walk_at "v1"
   refine ⟨by rw [dF];ext m1 hk hl,?_⟩
   rw [en]
   walk_at "v1"
   refine ⟨_,rs++[(top,p)],_,by rw [qF];rfl,by simp [hl],by ext t0 n0,by lia,λq c6=>?_,?_⟩
   .rcases nu.mp c6 with z | z
    .have:=hq q z;ext n0 this
    .rw [nX.mp z];dsimp only;lia
   .refine qH.mpr ⟨hw,BF _ _,λa ha b hb=>?_⟩
    rw [nX.mp hb]
    exact (hq a ha).2
  .obtain ⟨x4,rs,top,rfl,hl,t0,t1,hq,hw⟩:=h
   walk_at "vc"
   refine ⟨rs,rfl,?_,by ext m1 hl,λq c6=>(hq q c6).1,hw⟩
   intro z
   rw [z] at hl
   simp at hl
   ext m0 hl
 obtain ⟨x,e,rs,rfl,h⟩:=key
 exact ⟨rs,e,h⟩
theorem UK(c sc:Int)(hs:1<=sc/\sc<=10^38):∃P:Pl,yC [.int c,.int sc]=some (.sh P.d)/\P.ok:=by
 have key:Wo (yC [.int c,.int sc]) λx=>∃P:Pl,x=.sh P.d/\P.ok:=by
  refine pA.mpr ?_
  unfold KL
  obtain ⟨t,et,t0,t1⟩:=nz c 1 6 (by decide) (by decide)
  obtain ⟨p,ep,p0,p1⟩:=EG c 2 (by decide)
  obtain ⟨a,ea,a0,a1⟩:=nz c 3 sc (by decide) (by ext hs)
  obtain ⟨b,eb,b0,b1⟩:=nz c 4 2 (by decide) (by decide)
  obtain ⟨u,eu,u0,u1⟩:=nz c 5 sc (by decide) (by ext hs)
  obtain ⟨v,ev,v0,v1⟩:=nz c 6 4 (by decide) (by decide)
  obtain ⟨s,es,s0,s1⟩:=nz c 7 sc (by decide) (by ext hs)
  obtain ⟨m,em,m0,m1⟩:=nz c 8 4 (by decide) (by decide)
  obtain ⟨w,ew,w0,w1⟩:=nz c 9 3 (by decide) (by decide)
  obtain ⟨rs,er,hr⟩:=Wi c sc hs
  have l0:0<=a*b:=wQ a0 b0
  have l1:a*b<=10^38*1:=wO (by ext hs a1) (by ext b1) b0 (by decide)
  have h0:0<=u*v:=wQ u0 v0
  have h1:u*v<=10^38*3:=wO (by ext hs u1) (by ext v1) v0 (by decide)
  have c1:MulC a b:=.inr (.inl (by ext b0 b1))
  have c2:MulC u v:=.inr (.inl (by ext v0 v1))
  have ht:t=0\/t=1\/t=2\/t=3\/t=4\/t=5:=by ext t0 t1
  have hw:w=0\/w=1\/w=2:=by ext w0 w1
  walk_at "v1"
  rw [et]
  walk_at "v1"
  rcases ht with rfl | rfl | rfl | rfl | rfl | rfl
  all_goals
   rw [show dt _ _=some _ from rfl,a0e]
   rw [ep];walk_at "v1"
   rw [ea];walk_at "v1"
   rw [eb];walk_at "v1"
   refine ⟨c1,?_⟩
   rw [eu];walk_at "v1"
   rw [ev];walk_at "v1"
   refine ⟨c2,?_⟩
   generalize a*b=ab at *
   generalize u*v=uv at *
   rw [a0D]
   walk_at "v1"
   walk_at "kd"
   walk_at "v1"
   try (rw [a0D];walk_at "v1";walk_at "kd";walk_at "v1")
   try (rw [a0D];walk_at "v1";walk_at "kd";walk_at "v1")
  .exact ⟨.each p ab (ab+uv),rfl,by simp only [Pl.ok];ext p0 p1 l0 l1 h0 h1⟩
  .exact ⟨.flat p ab (ab+uv),rfl,by simp only [Pl.ok];ext p0 p1 l0 l1 h0 h1⟩
  .rw [er,a0e]
   exact ⟨.bands rs,rfl,hr⟩
  .rw [er,a0e]
   exact ⟨.steps rs,rfl,hr⟩
  .rw [es]
   walk_at "v1"
   rw [em]
   walk_at "v1"
   exact ⟨.blocks (1+s) p (1+m),rfl,by simp only [Pl.ok];ext hs p0 p1 s0 s1 m0 m1⟩
  .rw [ew]
   walk_at "v1"
   rcases hw with rfl | rfl | rfl<;>rw [show dt _ _=some _ from rfl,a0e]
   .exact ⟨.name "p",rfl,.inl rfl⟩
   .exact ⟨.name "qq",rfl,.inr (.inl rfl)⟩
   .exact ⟨.name "ptop",rfl,.inr (.inr rfl)⟩
 obtain ⟨x,e,P,rfl,h⟩:=key
 exact ⟨P,e,h⟩
def qN(rs:List Row):Prop:=CN rs/\rs.length<=3/\∀r∈rs,dq (10^41) r
theorem VC(c sc:Int)(hs:1<=sc/\sc<=10^38):∃rs:List Row,yB [.int c,.int sc]=some (.sh (.tup (rs.map Row.d)))/\qN rs:=by
 have key:Wo (yB [.int c,.int sc]) λx=>∃rs:List Row,x=.sh (.tup (rs.map Row.d))/\qN rs:=by
  refine pB.mpr ?_
  unfold KJ
  obtain ⟨a,ea,a0,a1⟩:=nz c 70 (2*sc) (by decide) (by ext hs)
  obtain ⟨m,em,m0,m1⟩:=nz c 71 4 (by decide) (by decide)
  walk_at "v1"
  refine ⟨.inl (by decide),?_⟩
  rw [ea]
  walk_at "v1"
  rw [em]
  walk_at "v1"
  refine ⟨by walk_at "sc",?_⟩
  refine ED _ _ (λk env=>∃x4 x5 x6,∃(rs:List Row) (lo:Int),env=[.sh (.int c),.sh (.int sc),.ow (rs.map Row.d),.sh (.int lo),x4,x5,x6]/\rs.length=k/\(-(10^38)<=lo/\lo<=10^38+k*(2*10^38+2))/\(∀q∈rs,dq (10^41) q/\q.2.1<lo)/\CN rs) (λk env hk h=>?_) (λenv h=>?_) ⟨_,_,_,[],_,rfl,rfl,by omega,λq hq=>(nomatch hq),λq hq=>(nomatch hq),t4⟩
  .obtain ⟨x4,x5,x6,rs,lo,rfl,hl,t0,hq,hw⟩:=h
   obtain ⟨u,eu,u0,u1⟩:=nz c (72+(0+(k:Int))) sc (by ext m1 hk) (by ext hs)
   obtain ⟨v,ev,v0,v1⟩:=nz c (76+(0+(k:Int))) 2 (by ext m1 hk) (by decide)
   obtain ⟨st,Tu,F2,F1⟩:=EG c (80+(0+(k:Int))) (by ext m1 hk)
   obtain ⟨p,ep,p0,p1⟩:=EG c (84+(0+(k:Int))) (by ext m1 hk)
   obtain ⟨n,en,n0,n1⟩:=nz c (88+(0+(k:Int))) sc (by ext m1 hk) (by ext hs)
   have h0:0<=u*v:=wQ u0 v0
   have h1:u*v<=10^38*1:=wO (by ext hs u1) (by ext v1) v0 (by decide)
   have c2:MulC u v:=.inr (.inl (by ext v0 v1))
   have fin:∀(hi s:Int),lo<=hi->hi<=lo+10^38 -> -(10^40)<=s->s<=10^40->∃x4 x5 x6,∃(CU:List Row) (C3:Int),([.sh (.int c),.sh (.int sc),.ow (rs.map Row.d++[.tup [.int lo,.int hi,.int p,.int s]]),.sh (.int (hi+2+n)),.sh (.int (0+(k:Int))),.sh (.int hi),.sh (.int s)]:En)=[.sh (.int c),.sh (.int sc),.ow (CU.map Row.d),.sh (.int C3),x4,x5,x6]/\CU.length=k+1/\(-(10^38)<=C3/\C3<=10^38+((k+1:Nat):Int)*(2*10^38+2))/\(∀q∈CU,dq (10^41) q/\q.2.1<C3)/\CN CU:=by
    intro hi s z1 z2 z3 z4
    refine ⟨_,_,_,rs++[(lo,hi,p,s)],_,by rw [qF];rfl,by simp [hl],by omega,λq c6=>?_,λq c6=>?_,?_⟩
    .rcases nu.mp c6 with z | z
     .exact ⟨(hq q z).1,by have:=(hq q z).2;ext n0 z1 this⟩
     .rw [nX.mp z];unfold dq;dsimp only;omega
    .rcases nu.mp c6 with z | z
     .exact hw.1 q z
     .rw [nX.mp z];exact z1
    .refine qH.mpr ⟨hw.2,BF _ _,λa ha b hb=>?_⟩
     rw [nX.mp hb]
     exact (hq a ha).2
   walk_at "v1"
   rw [eu]
   walk_at "v1"
   rw [ev]
   walk_at "v1"
   refine ⟨c2,?_⟩
   generalize u*v=uv at *
   rw [a0D]
   walk_at "v1"
   refine ⟨λcn=>?_,λcn=>?_⟩
   .rw [Tu]
    walk_at "v1"
    rw [ep]
    walk_at "v1"
    refine ⟨by rw [dF];ext m1 hk hl,?_⟩
    rw [en]
    walk_at "v1"
    exact fin _ _ (by ext cn) (by ext h1) F2 F1
   .rw [ep]
    walk_at "v1"
    refine ⟨by rw [dF];ext m1 hk hl,?_⟩
    rw [en]
    walk_at "v1"
    exact fin _ _ (by ext h0) (by ext cn) (by decide) (by decide)
  .obtain ⟨x4,x5,x6,rs,lo,rfl,hl,t0,hq,hw⟩:=h
   walk_at "vc"
   exact ⟨rs,rfl,hw,by ext m1 hl,λq c6=>(hq q c6).1⟩
 obtain ⟨x,e,rs,rfl,h⟩:=key
 exact ⟨rs,e,h⟩
theorem Jl{ks:List Str}{y:Str}(h:y∉ks):ua ks y=ks++[y]:=by
 unfold ua
 rw [if_neg h]
theorem Jm{α:Type}{ks:List Str}{xs:List α}{y:Str}{z:α}(h:y∉ks):qo ks xs y z=xs++[z]:=by
 unfold qo
 rw [if_neg h]
noncomputable def uJ:List Str:=["p","qq","ptop"]
noncomputable def Fm(A:List (List Row)):D:=.cH uJ (A.map λf=>.tup (f.map Row.d))
theorem VA(ns:List Int)(sc:Int)(hs:1<=sc/\sc<=10^38):∃A:List (List Row),yJ [.lst true (ns.map D.int),.int sc]=some (.tw uJ (A.map λf=>.tup (f.map Row.d)))/\A.length=3/\∀f∈A,qN f:=by
 have key:Wo (yJ [.lst true (ns.map D.int),.int sc]) λx=>∃A:List (List Row),x=.tw uJ (A.map λf=>.tup (f.map Row.d))/\A.length=3/\∀f∈A,qN f:=by
  refine oj.mpr ?_
  unfold La
  walk_at "o1"
  refine ⟨by decide,?_⟩
  refine ED _ _ (λk env=>∃x3,∃A:List (List Row),env=[.sh (.lst true (ns.map D.int)),.sh (.int sc),.tw (uJ.take k) (A.map λf=>.tup (f.map Row.d)),x3]/\A.length=k/\∀f∈A,qN f) (λk env hk h=>?_) (λenv h=>?_) ⟨_,[],rfl,rfl,λf hf=>(nomatch hf)⟩
  .obtain ⟨x3,A,rfl,hl,hA⟩:=h
   obtain ⟨f,ef,hf⟩:=VC (ns.getD (1+(0+(k:Int))).toNat 0) sc hs
   rw [b63]
   rw [UE (ks:=uJ.take k) (ds:=A.map λf=>.tup (f.map Row.d)) rfl]
   walk_at "o1"
   rw [AZ _ _ (by ext)]
   walk_at "o1"
   rw [ef]
   walk_at "o1"
   have kk:k=0\/k=1\/k=2:=by ext hk
   have last:∀g∈A++[f],qN g:=λg hg=>by
    rcases nu.mp hg with z | z
    .exact hA g z
    .rw [nX.mp z];exact hf
   rcases kk with rfl | rfl | rfl
   .rw [show dt _ _=some (D.str "p") from rfl,a0e]
    refine ⟨"p",rfl,by decide,.sh (.int 0),A++[f],?_,by simp [hl],last⟩
    rw [Jl (by decide +kernel),Jm (by decide +kernel),qF]
    rfl
   .rw [show dt _ _=some (D.str "qq") from rfl,a0e]
    refine ⟨"qq",rfl,by decide,.sh (.int 1),A++[f],?_,by simp [hl],last⟩
    rw [Jl (by decide +kernel),Jm (by decide +kernel),qF]
    rfl
   .rw [show dt _ _=some (D.str "ptop") from rfl,a0e]
    refine ⟨"ptop",rfl,by decide,.sh (.int 2),A++[f],?_,by simp [hl],last⟩
    rw [Jl (by decide +kernel),Jm (by decide +kernel),qF]
    rfl
  .obtain ⟨x3,A,rfl,hl,hA⟩:=h
   walk_at "o1"
   exact ⟨A,rfl,hl,hA⟩
 obtain ⟨x,e,A,rfl,h⟩:=key
 exact ⟨A,e,h⟩
theorem Wg(a b c:D):ET [a,b,c]=some [a,b,c]:=by kernel_rfl
theorem Wh(a b c:D):EU [a,b,c]=some [a,b,c]:=by kernel_rfl
theorem Yf(a b c:D):Fi [a,b,c]=some [a,b,c]:=by kernel_rfl
theorem XB(a:D):E5 [a]=some [a]:=by kernel_rfl
theorem Vq(P:Pl)(a b:D):rX "cost" 3 yz P.o [a,b]=sO [P.o,a,b]:=by cases P<;>kernel_rfl
theorem We(P:Pl):rX "names" 1 Fj P.o []=rZ [P.o]:=by cases P<;>kernel_rfl
theorem Wf(P:Pl):rX "parts" 1 Fk P.o []=r0 [P.o]:=by cases P<;>kernel_rfl
theorem z8(P:Pl):vW EI P.o=some (.sh (.bl true)):=by cases P<;>kernel_rfl
theorem BN:sset []=some []:=by kernel_rfl
theorem Q8:sset [.str "p"]=some [.str "p"]:=by kernel_rfl
theorem F':sset [.str "qq"]=some [.str "qq"]:=by kernel_rfl
theorem UR:sset [.str "ptop"]=some [.str "ptop"]:=by kernel_rfl
theorem OJ(rs:List (Int×Int))(hl:rs.length<=3):Wo (ny (kT (eV 1)) [] 2 (gT 2 (pW (gN 0) (pW (gN 1) vf))) vg (eI (aq (eV 0) (aq (eV 1) ar))) [.no,.sh (.lst false (rs.map Pr))]) λr=>r=.ow (rs.map Pr):=by
 walk_at "v1"
 refine ⟨by rw [dF];ext hl,_,DL.comp_map Pr Pr (λe=>e.length=2) rs (λa ha e he=>?_) rfl,rfl⟩
 obtain ⟨y0,y1,rfl⟩:∃y0 y1,e=[y0,y1]:=by
  match e,he with
  | [a,b],_=>exact ⟨a,b,rfl⟩
 unfold Pr
 walk_at "v1"
theorem JS:∀rs:List (Int×Int),zT (.ow (rs.map Pr))=true
 | []=>rfl
 | r::rs=>by
  have:=JS rs
  simp only [zT,dE,vn,Pr,j8,Bool.and_true,HQ] at this ⊢
  exact this
theorem OQ(r:Int×Int)(rs:List (Int×Int)):dt ((r::rs).map Pr) 0=some (.tup [.int r.1,.int r.2]):=by
 simp only [dE,b6O]
 rfl
theorem OC{f:Str}{fe:En->Option Sl}{r:Sl}{env:En}(h:fe env=some r)(hf:zT r=true):yj f fe mW env [] []=some ([f],[r.d]):=by
 unfold yj
 rw [h,sD,if_neg (by simp [hf])]
 rfl
theorem O2{rs:List (Int×Int)}(hl:rs.length<=3):Ci [.lst false (rs.map Pr)]=some [.lst false (rs.map Pr)]:=by
 obtain ⟨r,e,rfl⟩:=OJ rs hl
 unfold Ci gu
 rw [show (Sl.no::mD (2-1) [D.lst false (rs.map Pr)])=[.no,.sh (.lst false (rs.map Pr))] from rfl,OC e (JS rs)]
 rfl
theorem XC{rs:List (Int×Int)}(hl:rs.length<=3):Cj [.lst false (rs.map Pr)]=some [.lst false (rs.map Pr)]:=by
 obtain ⟨r,e,rfl⟩:=OJ rs hl
 unfold Cj gu
 rw [show (Sl.no::mD (2-1) [D.lst false (rs.map Pr)])=[.no,.sh (.lst false (rs.map Pr))] from rfl,OC e (JS rs)]
 rfl
theorem UN(P:Pl)(hP:P.ok):yE [P.d]=some (.sh P.o):=by
 have key:Wo (yE [P.d]) λx=>x=.sh P.o:=by
  refine pq.mpr ?_
  unfold KO
  cases P with
  | each p lo hi =>
   unfold Pl.d
   walk_at "o1"
   rw [a0D]
   walk_at "v1"
   walk_at "kd"
   walk_at "o1"
   rw [Wg]
   walk_at "v1"
   rfl
  | flat p lo hi =>
   unfold Pl.d
   walk_at "o1"
   rw [a0D]
   walk_at "v1"
   walk_at "kd"
   walk_at "o1"
   rw [a0D]
   walk_at "v1"
   walk_at "kd"
   walk_at "o1"
   rw [Wh]
   walk_at "v1"
   rfl
  | blocks p lo hi =>
   unfold Pl.d
   walk_at "o1"
   iterate 4 (rw [a0D];walk_at "v1";walk_at "kd";walk_at "o1")
   rw [Yf]
   walk_at "v1"
   rfl
  | name n =>
   unfold Pl.d
   walk_at "o1"
   iterate 4 (rw [a0D];walk_at "v1";walk_at "kd";walk_at "o1")
   rw [XB]
   walk_at "v1"
   rfl
  | bands rs =>
   cases rs with
   | nil=>exact (hP.1 rfl).elim
   | cons r rs =>
    have hl:=hP.2.1
    unfold Pl.d
    walk_at "o1"
    iterate 3 (rw [a0D];walk_at "v1";walk_at "kd";walk_at "o1")
    rw [JP (ds:=(r::rs).map Pr) rfl]
    walk_at "o1"
    rw [O2 hl]
    walk_at "v1"
    rw [a0D]
    walk_at "v1"
    walk_at "kd"
    walk_at "v1"
    rw [OQ]
    walk_at "v1"
    rw [show lO _ 0=some 0 from by simp [lO];try omega]
    walk_at "v1"
    refine ⟨by decide,?_,?_⟩
    .rw [Ir,dF];ext hl
    .rfl
  | steps rs =>
   cases rs with
   | nil=>exact (hP.1 rfl).elim
   | cons r rs =>
    have hl:=hP.2.1
    unfold Pl.d
    walk_at "o1"
    iterate 3 (rw [a0D];walk_at "v1";walk_at "kd";walk_at "o1")
    rw [JP (ds:=(r::rs).map Pr) rfl]
    walk_at "o1"
    rw [O2 hl]
    walk_at "v1"
    rw [a0D]
    walk_at "v1"
    walk_at "kd"
    walk_at "v1"
    rw [JP (ds:=(r::rs).map Pr) rfl]
    walk_at "o1"
    rw [XC hl]
    walk_at "v1"
    rw [OQ]
    walk_at "v1"
    rw [show lO _ 0=some 0 from by simp [lO];try omega]
    walk_at "v1"
    refine ⟨by decide,?_,?_⟩
    .rw [Ir,dF];ext hl
    .rfl
 obtain ⟨x,e,rfl⟩:=key
 exact e
noncomputable def B1(A:List (List Row))(n:Str):List Row:=(n9 uJ A n).getD []
noncomputable def BY(rs:List (Int×Int))(x:Int):Int:=match rs with
 | []=>0
 | q::rs=>if x<=q.1 then q.2 else BY rs x
noncomputable def B4(x:Int):Int->List (Int×Int)->Int
 | _,[]=>0
 | a,q::rs=>q.2*(min x q.1-min x a)+B4 x q.1 rs
noncomputable def oC:List (Int×Int)->Int
 | []=>0
 | [q]=>q.1
 | _::rs=>oC rs
noncomputable def Pl.due(A:List (List Row))(x:Int):Pl->Option Int
 | .each p lo hi=>if lo<=x/\x<=hi then some (p*x) else none
 | .flat p lo hi=>if lo<=x/\x<=hi then some p else none
 | .bands rs=>if 0<=x/\x<=oC rs then some (x*BY rs x) else none
 | .steps rs=>if 0<=x/\x<=oC rs then some (B4 x 0 rs) else none
 | .blocks s p m=>if 0<=x/\x<=s*m then some (p*((x+s-1)/s)) else none
 | .name n=>look (B1 A n) x
theorem lh(a:Int×Int):oC [a]=a.1:=rfl
theorem top2(a b:Int×Int):oC [a,b]=b.1:=rfl
theorem lg(a b c:Int×Int):oC [a,b,c]=c.1:=rfl
theorem zu:di 0 1=[.int 0]:=rfl
theorem zt:di 0 2=[.int 0,.int 1]:=rfl
theorem zr:di 0 3=[.int 0,.int 1,.int 2]:=rfl
theorem ER{A:List (List Row)}{x:Int}{rs:List (Int×Int)}(h:¬(0<=x/\x<=oC rs)):Pl.due A x (.bands rs)=none:=by
 unfold Pl.due;exact if_neg h
theorem P0{A:List (List Row)}{x:Int}{rs:List (Int×Int)}(h:0<=x/\x<=oC rs):Pl.due A x (.bands rs)=some (x*BY rs x):=by
 unfold Pl.due;exact if_pos h
theorem ES{A:List (List Row)}{x:Int}{rs:List (Int×Int)}(h:¬(0<=x/\x<=oC rs)):Pl.due A x (.steps rs)=none:=by
 unfold Pl.due;exact if_neg h
theorem P4{A:List (List Row)}{x:Int}{rs:List (Int×Int)}(h:0<=x/\x<=oC rs):Pl.due A x (.steps rs)=some (B4 x 0 rs):=by
 unfold Pl.due;exact if_pos h
theorem w9{rs:List (Int×Int)}(h:vi rs):(∃a,rs=[a])\/(∃a b,rs=[a,b])\/∃a b c,rs=[a,b,c]:=by
 obtain ⟨h0,h1,_⟩:=h
 match rs,h0,h1 with
 | [],h0,_=>exact (h0 rfl).elim
 | [a],_,_=>exact .inl ⟨a,rfl⟩
 | [a,b],_,_=>exact .inr (.inl ⟨a,b,rfl⟩)
 | [a,b,c],_,_=>exact .inr (.inr ⟨a,b,c,rfl⟩)
 | a::b::c::d::rs,_,h=>exact absurd h (by simp)
theorem Fg{A:List (List Row)}(hA:A.length=3){n:Str}(hn:n = "p" \/ n = "qq" \/ n = "ptop"):n9 uJ (A.map λf=>D.tup (f.map Row.d)) n=some (.tup ((B1 A n).map Row.d))/\B1 A n∈A:=by
 match A,hA with
 | [a,b,c],_ =>
  rcases hn with rfl | rfl | rfl
  .exact ⟨by kernel_rfl,.head _⟩
  .exact ⟨by kernel_rfl,.tail _ (.head _)⟩
  .exact ⟨by kernel_rfl,.tail _ (.tail _ (.head _))⟩
theorem Pn(x:Int):∀rs:List Row,look rs x=((rs.filter λr=>decide (r.1<=x/\x<=r.2.1)).head?).map λr=>r.at x
 | []=>rfl
 | r::rs=>by
  rw [look]
  by_cases h:r.1<=x/\x<=r.2.1
  .rw [if_pos h,MV (by simpa using h)];rfl
  .rw [if_neg h,Na (by simpa using h),Pn x rs]
theorem VB{A:List (List Row)}(hA:A.length=3)(hF:∀f∈A,qN f)(P:Pl)(hP:P.ok){x:Int}(hx:-(10^43)<=x/\x<=10^43):yI [P.d,.int x,Fm A]=some (.sh (cD (P.due A x))):=by
 have key:Wo (yI [P.d,.int x,Fm A]) λr=>r=.sh (cD (P.due A x)):=by
  refine km.mpr ?_
  unfold Lw
  cases P with
  | each p lo hi =>
   simp only [Pl.ok] at hP
   unfold Pl.d
   walk_at "o1"
   iterate 3 (rw [a0D];walk_at "v1";walk_at "kd";walk_at "o1")
   refine ⟨λh=>?_,λh=>⟨λh2=>?_,λh2=>?_⟩⟩
   .simp only [Pl.due];rw [if_neg (by ext h)];rfl
   .simp only [Pl.due];rw [if_neg (by ext h2)];rfl
   .rw [if_pos trivial]
    walk_at "v1"
    refine ⟨oE (by ext hP) (by ext hP) (by ext hx) (by ext hx),?_⟩
    simp only [Pl.due];rw [if_pos (by ext h h2)];rfl
  | flat p lo hi =>
   simp only [Pl.ok] at hP
   unfold Pl.d
   walk_at "o1"
   iterate 3 (rw [a0D];walk_at "v1";walk_at "kd";walk_at "o1")
   refine ⟨λh=>?_,λh=>⟨λh2=>?_,λh2=>?_⟩⟩
   .simp only [Pl.due];rw [if_neg (by ext h)];rfl
   .simp only [Pl.due];rw [if_neg (by ext h2)];rfl
   .rw [if_neg (by simp)]
    walk_at "v1"
    refine ⟨.inr (.inl (by decide)),?_⟩
    simp only [Pl.due];rw [if_pos (by ext h h2),HZ];rfl
  | blocks s p m =>
   simp only [Pl.ok] at hP
   unfold Pl.d
   walk_at "o1"
   iterate 4 (rw [a0D];walk_at "v1";walk_at "kd";walk_at "o1")
   refine ⟨λh=>?_,λh=>⟨.inr (.inl (by ext hP)),λh2=>?_,λh2=>⟨JR (by ext hP) (by ext hP),?_,?_⟩⟩⟩
   .simp only [Pl.due];rw [if_neg (by ext h)];rfl
   .simp only [Pl.due];rw [if_neg (by ext h2)];rfl
   .have q0:0<=(x+s-1)/s:=Int.ediv_nonneg (by ext hP h) (by ext hP)
    have q1:(x+s-1)/s<=x+s-1:=Int.ediv_le_self _ (by ext hP h)
    exact oE (by ext hP) (by ext hP) (by ext q0) (by ext hx hP q1)
   .simp only [Pl.due];rw [if_pos (by ext h h2)];rfl
  | name n =>
   obtain ⟨e1,e2⟩:=Fg hA hP
   obtain ⟨Hb,AD,AB⟩:=hF _ e2
   unfold Pl.d Fm
   walk_at "o1"
   rw [a0D]
   walk_at "v1"
   walk_at "kd"
   walk_at "o1"
   rw [Jw]
   walk_at "o1"
   refine ⟨n,rfl,?_⟩
   rw [e1]
   walk_at "v1"
   refine ⟨by rw [dF];ext AD,_,DL.nT Row.d (λr=>decide (r.1<=x/\x<=r.2.1)) Row.d (λe=>∃y,e=[y,.sh (.int x)]) _ (λr hr e he=>?_) ⟨_,rfl⟩,?_⟩
   .obtain ⟨y,rfl⟩:=he
    rw [w8 r]
    walk_at "v1"
    refine ⟨⟨_,rfl⟩,λh1=>?_,λh1=>?_⟩
    .by_cases h2:x<=r.2.1<;>simp [h1,h2]
    .simp [h1]
   .simp only [Pl.due]
    rw [Pn]
    rw [a0D]
    cases Dh:(B1 A n).filter λr=>decide (r.1<=x/\x<=r.2.1) with
    | nil =>
     walk_at "v1"
     exact ⟨λ_=>rfl,λh=>(h rfl).elim⟩
    | cons r rest =>
     have hr:r∈B1 A n:=(Iw.mp (by rw [Dh];exact .head _)).1
     have Aq:=AB r hr
     unfold dq at Aq
     rw [dE,w8 r]
     walk_at "v1"
     exact ⟨λh=>by ext _ h,λ_=>⟨oE (by ext Aq) (by ext Aq) (by ext hx Aq) (by ext hx Aq),rfl⟩⟩
  | bands rs =>
   have hq:=hP.2.2.1
   have hw:=hP.2.2.2
   rcases w9 hP with ⟨⟨a1,a2⟩,rfl⟩ | ⟨⟨a1,a2⟩,⟨b1,b2⟩,rfl⟩ | ⟨⟨a1,a2⟩,⟨b1,b2⟩,⟨c1,c2⟩,rfl⟩
   all_goals
    simp only [cf,fT,or_false,forall_eq_or_imp,forall_eq] at hq
    simp only [rQ,cf,fT,or_false,forall_eq_or_imp,forall_eq] at hw
    simp only [Pl.d,dE,pU,Pr]
    walk_at "o1"
    iterate 4 (rw [a0D];walk_at "v1";walk_at "kd";walk_at "o1")
    refine ⟨λh=>?_,λh=>?_⟩
   all_goals try (simp only [Pl.due];rw [if_neg (by ext h)];rfl)
   all_goals
    rw [show dt _ (-1)=some _ from rfl,a0e]
    walk_at "v1"
    refine ⟨λh=>?_,λh=>?_⟩
   (rw [ER (by simp only [lh,top2,lg];ext h)];rfl);rotate_left
   (rw [ER (by simp only [lh,top2,lg];ext h)];rfl);rotate_left
   (rw [ER (by simp only [lh,top2,lg];ext h)];rfl);rotate_left
   all_goals
    rw [a0D]
    walk_at "v1"
    walk_at "kd"
    walk_at "v1"
    have b0:0<=x:=by omega
    rw [P0 (by simp only [lh,top2,lg];omega)]
    simp only [BY,cD]
    (repeat' first | apply c1Y | intro _)
   all_goals first | (exfalso;omega) | exact oE (by ext hx) (by ext hx) (by ext hq) (by ext hq) | (simp only [*,if_true,if_false,not_false_eq_true];done) | (simp [*];done)
  | steps rs =>
   have hq:=hP.2.2.1
   have hw:=hP.2.2.2
   rcases w9 hP with ⟨⟨a1,a2⟩,rfl⟩ | ⟨⟨a1,a2⟩,⟨b1,b2⟩,rfl⟩ | ⟨⟨a1,a2⟩,⟨b1,b2⟩,⟨c1,c2⟩,rfl⟩
   all_goals
    simp only [cf,fT,or_false,forall_eq_or_imp,forall_eq] at hq
    simp only [rQ,cf,fT,or_false,forall_eq_or_imp,forall_eq] at hw
    simp only [Pl.d,dE,pU,Pr]
    walk_at "o1"
    iterate 4 (rw [a0D];walk_at "v1";walk_at "kd";walk_at "o1")
    refine ⟨λh=>?_,λh=>?_⟩
   all_goals try (simp only [Pl.due];rw [if_neg (by ext h)];rfl)
   all_goals
    rw [show dt _ (-1)=some _ from rfl,a0e]
    walk_at "v1"
    refine ⟨λh=>?_,λh=>?_⟩
   (rw [ES (by simp only [lh,top2,lg];ext h)];rfl);rotate_left
   (rw [ES (by simp only [lh,top2,lg];ext h)];rfl);rotate_left
   (rw [ES (by simp only [lh,top2,lg];ext h)];rfl);rotate_left
   all_goals
    rw [a0D]
    walk_at "v1"
    walk_at "kd"
    walk_at "v1"
    have b0:0<=x:=by omega
    rw [P4 (by simp only [lh,top2,lg];omega)]
    simp only [B4,cD]
    simp only [zu,zt,zr,DR,Io]
    walk_at "v1"
    simp only [show (0:Int)+1=1 from rfl,show (1:Int)+1=2 from rfl,show (2:Int)+1=3 from rfl]
    walk_at "v1"
    (repeat' apply c1Y)
   all_goals first | exact oE (by ext hq) (by ext hq) (by omega) (by ext hq) | rfl
 obtain ⟨x,e,rfl⟩:=key
 exact e
theorem Wk(P:Pl):r0 [P.o]=some (.ow []):=by
 refine Wo.eq (nB.mpr ?_)
 unfold K9
 walk_at "v1"
theorem BZ(P:Pl):uj [P.o]=some (.ow []):=by
 refine Wo.eq (jf.mpr ?_)
 unfold Lo
 walk_at "o1"
 rw [Wf,Wk]
 walk_at "o1"
theorem UM(n:Str):Cw [(Pl.name n).o]=some (.ow [.str n]):=by
 refine Wo.eq (ir.mpr ?_)
 unfold Lu
 walk_at "o1"
 rw [show eG c7 "name" (Pl.name n).o=some (.str n) from by kernel_rfl]
 walk_at "o1"
noncomputable def Pl.ns:Pl->List Str
 | .name n=>[n]
 | _=>[]
theorem A0(P:Pl):rX "all_names" 1 Fy P.o []=some (.ow (P.ns.map D.str)):=by
 cases P with
 | name n=>exact pR (by kernel_rfl) (UM n)
 | each a b c=>exact pR (by kernel_rfl) (BZ (.each a b c))
 | flat a b c=>exact pR (by kernel_rfl) (BZ (.flat a b c))
 | blocks a b c=>exact pR (by kernel_rfl) (BZ (.blocks a b c))
 | bands a=>exact pR (by kernel_rfl) (BZ (.bands a))
 | steps a=>exact pR (by kernel_rfl) (BZ (.steps a))
theorem Ga(P:Pl)(hP:P.ok):sset (P.ns.map D.str)=some (P.ns.map D.str):=by
 cases P with
 | name n =>
  rcases hP with rfl | rfl | rfl
  .exact Q8
  .exact F'
  .exact UR
 | each a b c=>exact BN
 | flat a b c=>exact BN
 | blocks a b c=>exact BN
 | bands a=>exact BN
 | steps a=>exact BN
theorem Wj(P:Pl)(hP:P.ok):rZ [P.o]=some (.ow (P.ns.map D.str)):=by
 refine Wo.eq (nC.mpr ?_)
 unfold K8
 rw [b2U,OP]
 walk_at "o1"
 rw [A0]
 walk_at "o1"
 rw [Nz,Ga P hP]
 walk_at "o1"
theorem W1{A:List (List Row)}(hA:A.length=3)(P:Pl)(hP:P.ok):Wo (Cs [P.o,Fm A]) λ_=>True:=by
 refine kj.mpr ?_
 unfold Lx
 walk_at "o1"
 rw [We,Wj P hP]
 walk_at "o1"
 cases P with
 | name n =>
  obtain ⟨e1,e2⟩:=Fg hA hP
  simp only [Pl.ns,dE,pU]
  walk_at "o1"
  rw [a0D,b2T,VD]
  unfold Fm
  walk_at "o1"
  refine ⟨n,rfl,?_⟩
  rw [e1]
  walk_at "o1"
  exact λh=>absurd h (by simp)
 | each a b c=>simp only [Pl.ns,pU];walk_at "o1"
 | flat a b c=>simp only [Pl.ns,pU];walk_at "o1"
 | blocks a b c=>simp only [Pl.ns,pU];walk_at "o1"
 | bands a=>simp only [Pl.ns,pU];walk_at "o1"
 | steps a=>simp only [Pl.ns,pU];walk_at "o1"
theorem Hv{x s:Int}(hs:0<s)(hl:s<=10^200):BU [.int x,.int s]=some (.sh (.int ((x+s-1)/s))):=by
 refine Wo.eq (Ly.mpr ?_)
 unfold xr
 walk_at "v1"
 refine ⟨JR hs (by ext hl),?_⟩
 have e:-(-x/s)=(x+s-1)/s:=by
  have h1:=Int.mul_ediv_add_emod (-x) s
  have h2:=Bf (-x) (show s≠0 by ext hs)
  have h3:=By (-x) hs
  have h5:(x+s-1)/s = -(-x/s):=by
   have z2:-(-x/s)*s = -(s*(-x/s)):=by rw [Int.neg_mul,Int.mul_comm]
   refine Int.ediv_eq_iff_of_pos hs |>.mpr ⟨?_,?_⟩
   .rw [z2]
    generalize s*(-x/s)=t at *
    ext h3 h1
   .rw [z2]
    generalize s*(-x/s)=t at *
    ext h2 h1
  exact h5.symm
 rw [e]
theorem Yk{A:List (List Row)}{p lo hi x:Int}(hP:(Pl.each p lo hi).ok)(hx:-(10^43)<=x/\x<=10^43):Ct [(Pl.each p lo hi).o,.int x,Fm A]=some (.sh (cD ((Pl.each p lo hi).due A x))):=by
 refine Wo.eq (jh.mpr ?_)
 simp only [Pl.ok] at hP
 unfold Lm
 walk_at "o1"
 rw [show eG c7 "low" (Pl.each p lo hi).o=some (.int lo) from by kernel_rfl,show eG c7 "high" (Pl.each p lo hi).o=some (.int hi) from by kernel_rfl,show eG c7 "unit" (Pl.each p lo hi).o=some (.int p) from by kernel_rfl]
 walk_at "o1"
 refine ⟨λh=>⟨λh2=>⟨oE (by ext hP) (by ext hP) (by ext hx) (by ext hx),?_⟩,λh2=>?_⟩,λh=>?_⟩
 .simp only [Pl.due];rw [if_pos (by ext h h2)];rfl
 .simp only [Pl.due];rw [if_neg (by ext h2)];rfl
 .simp only [Pl.due];rw [if_neg (by ext h)];rfl
theorem Yl{A:List (List Row)}{p lo hi x:Int}(hP:(Pl.flat p lo hi).ok)(hx:-(10^43)<=x/\x<=10^43):Cu [(Pl.flat p lo hi).o,.int x,Fm A]=some (.sh (cD ((Pl.flat p lo hi).due A x))):=by
 refine Wo.eq (jg.mpr ?_)
 simp only [Pl.ok] at hP
 unfold Ln
 walk_at "o1"
 rw [show eG c7 "low" (Pl.flat p lo hi).o=some (.int lo) from by kernel_rfl,show eG c7 "high" (Pl.flat p lo hi).o=some (.int hi) from by kernel_rfl,show eG c7 "price" (Pl.flat p lo hi).o=some (.int p) from by kernel_rfl]
 walk_at "o1"
 refine ⟨λh=>⟨λh2=>?_,λh2=>?_⟩,λh=>?_⟩
 .simp only [Pl.due];rw [if_pos (by ext h h2)];rfl
 .simp only [Pl.due];rw [if_neg (by ext h2)];rfl
 .simp only [Pl.due];rw [if_neg (by ext h)];rfl
theorem Ze{A:List (List Row)}{s p m x:Int}(hP:(Pl.blocks s p m).ok)(hx:-(10^43)<=x/\x<=10^43):CA [(Pl.blocks s p m).o,.int x,Fm A]=some (.sh (cD ((Pl.blocks s p m).due A x))):=by
 refine Wo.eq (f'.mpr ?_)
 simp only [Pl.ok] at hP
 unfold Li
 walk_at "o1"
 rw [show eG c7 "size" (Pl.blocks s p m).o=some (.int s) from by kernel_rfl,show eG c7 "many" (Pl.blocks s p m).o=some (.int m) from by kernel_rfl,show eG c7 "price" (Pl.blocks s p m).o=some (.int p) from by kernel_rfl]
 walk_at "o1"
 refine ⟨λh=>⟨.inr (.inl (by ext hP)),λh2=>?_,λh2=>?_⟩,λh=>?_⟩
 .rw [Hv (by ext hP) (by ext hP)]
  walk_at "o1"
  have q0:0<=(x+s-1)/s:=Int.ediv_nonneg (by ext hP h) (by ext hP)
  have q1:(x+s-1)/s<=x+s-1:=Int.ediv_le_self _ (by ext hP h)
  refine ⟨oE (by ext hP) (by ext hP) (by ext q0) (by ext hP hx q1),?_⟩
  simp only [Pl.due];rw [if_pos (by ext h h2)];rfl
 .simp only [Pl.due];rw [if_neg (by ext h2)];rfl
 .simp only [Pl.due];rw [if_neg (by ext h)];rfl
theorem Ym{A:List (List Row)}(hA:A.length=3)(hF:∀f∈A,qN f){n:Str}{x:Int}(hP:(Pl.name n).ok)(hx:-(10^43)<=x/\x<=10^43):Cy [(Pl.name n).o,.int x,Fm A]=some (.sh (cD ((Pl.name n).due A x))):=by
 refine Wo.eq (iq.mpr ?_)
 obtain ⟨e1,e2⟩:=Fg hA hP
 obtain ⟨Hb,AD,AB⟩:=hF _ e2
 unfold Lv Fm
 walk_at "o1"
 rw [Jw]
 walk_at "o1"
 rw [show eG c7 "name" (Pl.name n).o=some (.str n) from by kernel_rfl]
 walk_at "o1"
 refine ⟨n,rfl,?_⟩
 rw [e1]
 walk_at "o1"
 rw [W0 Hb (by ext AD) (λr hr=>?_) (by ext hx)]
 .walk_at "o1"
  rfl
 .have:=AB r hr
  unfold dq at this ⊢
  ext this
theorem pO{rs:List (Int×Int)}(h:vi rs){c:Str}{x:Int}(hf:eG c7 "rows" (.obj c ["rows"] [.lst false (rs.map Pr)])=some (.lst false (rs.map Pr))):bG [.obj c ["rows"] [.lst false (rs.map Pr)],.int x]=some (.sh (.bl (decide (0<=x/\x<=oC rs)))):=by
 refine Wo.eq (nD.mpr ?_)
 unfold dB
 walk_at "o1"
 rw [VE]
 walk_at "o1"
 rw [hf]
 walk_at "o1"
 have b0:dt (rs.map Pr) (-1)=some (.tup [.int (oC rs),.int (rs.getLastD (0,0)).2]):=by
  rcases w9 h with ⟨⟨a1,a2⟩,rfl⟩ | ⟨⟨a1,a2⟩,⟨b1,b2⟩,rfl⟩ | ⟨⟨a1,a2⟩,⟨b1,b2⟩,⟨c1,c2⟩,rfl⟩<;>rfl
 rw [b0]
 walk_at "o1"
 exact ⟨λh=>by simp [h],λh=>by simp [h]⟩
theorem Np(rs:List (Int×Int)):eG c7 "rows" (Pl.bands rs).o=some (.lst false (rs.map Pr)):=by kernel_rfl
theorem Nq(rs:List (Int×Int)):eG c7 "rows" (Pl.steps rs).o=some (.lst false (rs.map Pr)):=by kernel_rfl
theorem YK{A:List (List Row)}{rs:List (Int×Int)}{x:Int}(hP:vi rs)(hx:-(10^43)<=x/\x<=10^43):Cv [(Pl.bands rs).o,.int x,Fm A]=some (.sh (cD ((Pl.bands rs).due A x))):=by
 refine Wo.eq (iw.mpr ?_)
 have hh:rX "holds" 2 cO (Pl.bands rs).o [.int x]=some (.sh (.bl (decide (0<=x/\x<=oC rs)))):=pR (by kernel_rfl) (pO (c:="Bands") hP (Np rs))
 unfold Ls
 walk_at "o1"
 rw [a0D]
 walk_at "o1"
 rw [hh]
 walk_at "o1"
 refine ⟨λhd=>?_,λhd=>?_⟩
 .rw [ER hd];rfl
 .rw [P0 (by simpa using hd),Np]
  walk_at "o1"
  have qC:0<=x/\x<=oC rs:=by simpa using hd
  have hq:=hP.2.2.1
  have hw:=hP.2.2.2
  rcases w9 hP with ⟨⟨a1,a2⟩,rfl⟩ | ⟨⟨a1,a2⟩,⟨b1,b2⟩,rfl⟩ | ⟨⟨a1,a2⟩,⟨b1,b2⟩,⟨c1,c2⟩,rfl⟩
  all_goals
   simp only [cf,fT,or_false,forall_eq_or_imp,forall_eq] at hq
   simp only [rQ,cf,fT,or_false,forall_eq_or_imp,forall_eq] at hw
   simp only [lh,top2,lg] at qC
   simp only [dE,pU,Pr]
   walk_at "o1"
   simp only [BY,cD]
   (repeat' first | apply c1Y | intro _)
  all_goals first | (exfalso;omega) | decide | exact oE (by ext hd) (by ext hx) (by ext hq) (by ext hq) | (simp only [*,if_true,if_false,not_false_eq_true];done) | (simp [*];done)
theorem YL{A:List (List Row)}{rs:List (Int×Int)}{x:Int}(hP:vi rs)(hx:-(10^43)<=x/\x<=10^43):Cz [(Pl.steps rs).o,.int x,Fm A]=some (.sh (cD ((Pl.steps rs).due A x))):=by
 refine Wo.eq (ip.mpr ?_)
 have hh:rX "holds" 2 cO (Pl.steps rs).o [.int x]=some (.sh (.bl (decide (0<=x/\x<=oC rs)))):=pR (by kernel_rfl) (pO (c:="Steps") hP (Nq rs))
 unfold Ld
 walk_at "o1"
 rw [a0D]
 walk_at "o1"
 rw [hh]
 walk_at "o1"
 refine ⟨λhd=>?_,λhd=>?_⟩
 .rw [ES hd];rfl
 .rw [P4 (by simpa using hd),Nq]
  walk_at "o1"
  have qC:0<=x/\x<=oC rs:=by simpa using hd
  have hq:=hP.2.2.1
  have hw:=hP.2.2.2
  rcases w9 hP with ⟨⟨a1,a2⟩,rfl⟩ | ⟨⟨a1,a2⟩,⟨b1,b2⟩,rfl⟩ | ⟨⟨a1,a2⟩,⟨b1,b2⟩,⟨c1,c2⟩,rfl⟩
  all_goals
   simp only [cf,fT,or_false,forall_eq_or_imp,forall_eq] at hq
   simp only [rQ,cf,fT,or_false,forall_eq_or_imp,forall_eq] at hw
   simp only [lh,top2,lg] at qC
   simp only [dE,pU,Pr]
   walk_at "o1"
   simp only [B4,cD]
   have e1:max 0 (min x a1-0)=min x a1-min x 0:=by ext hq
   rw [e1]
  .exact ⟨oE (by ext hq) (by ext hq) (by ext hq) (by ext hq),by rw [DC,HK]⟩
  .have e2:max 0 (min x b1-a1)=min x b1-min x a1:=by omega
   rw [e2]
   exact ⟨oE (by ext hq) (by ext hq) (by ext hq) (by ext hq),oE (by ext hq) (by ext hq) (by omega) (by ext hq),by rw [DC,HK]⟩
  .have e2:max 0 (min x b1-a1)=min x b1-min x a1:=by omega
   have e3:max 0 (min x c1-b1)=min x c1-min x b1:=by omega
   rw [e2,e3]
   exact ⟨oE (by ext hq) (by ext hq) (by ext hq) (by ext hq),oE (by ext hq) (by ext hq) (by omega) (by ext hq),oE (by ext hq) (by ext hq) (by omega) (by ext hq),by rw [DC,HK,Int.add_assoc]⟩
theorem UJ{A:List (List Row)}(hA:A.length=3)(hF:∀f∈A,qN f)(P:Pl)(hP:P.ok){x:Int}(hx:-(10^43)<=x/\x<=10^43):rX "cost_here" 3 Fz P.o [.int x,Fm A]=some (.sh (cD (P.due A x))):=by
 cases P with
 | name n=>exact pR (by kernel_rfl) (Ym hA hF hP hx)
 | each a b c=>exact pR (by kernel_rfl) (Yk hP hx)
 | flat a b c=>exact pR (by kernel_rfl) (Yl hP hx)
 | blocks a b c=>exact pR (by kernel_rfl) (Ze hP hx)
 | bands a=>exact pR (by kernel_rfl) (YK hP hx)
 | steps a=>exact pR (by kernel_rfl) (YL hP hx)
theorem N2{A:List (List Row)}(hA:A.length=3)(hF:∀f∈A,qN f)(P:Pl)(hP:P.ok){x:Int}(hx:-(10^43)<=x/\x<=10^43):rX "cost" 3 yz P.o [.int x,Fm A]=some (.sh (cD (P.due A x))):=by
 rw [Vq]
 refine Wo.eq (om.mpr ?_)
 unfold K'
 obtain ⟨r,e,_⟩:=W1 hA P hP
 walk_at "o1"
 rw [e]
 walk_at "o1"
 rw [UJ hA hF P hP hx]
 walk_at "o1"
theorem UO(o:Option Int):Cr [cD o,cD o]=some (.sh (.bl true)):=by
 refine Wo.eq (pk.mpr ?_)
 unfold KP
 cases o with
 | none =>
  unfold cD
  walk_at "o1"
  rw [a0D]
  walk_at "o1"
 | some i =>
  unfold cD
  walk_at "o1"
  rw [a0D]
  walk_at "o1"
  walk_at "vc"
  simp
def NY(zs:List Int):Prop:=zs.length<=6/\∀z∈zs,-(10^42)<=z/\z<=10^42
theorem UI{A:List (List Row)}(hA:A.length=3)(hF:∀f∈A,qN f)(P:Pl)(hP:P.ok):∃zs:List Int,yA [P.d,Fm A]=some (.ow (zs.map D.int))/\NY zs:=by
 have key:Wo (yA [P.d,Fm A]) λr=>∃zs:List Int,r=.ow (zs.map D.int)/\NY zs:=by
  refine pC.mpr ?_
  unfold KI
  cases P with
  | each p lo hi =>
   simp only [Pl.ok] at hP
   unfold Pl.d
   walk_at "o1"
   iterate 2 (rw [a0D];walk_at "v1";walk_at "kd";walk_at "o1")
   exact ⟨[lo,hi],rfl,by simp,by simp only [cf,fT,or_false];omega⟩
  | flat p lo hi =>
   simp only [Pl.ok] at hP
   unfold Pl.d
   walk_at "o1"
   iterate 2 (rw [a0D];walk_at "v1";walk_at "kd";walk_at "o1")
   exact ⟨[lo,hi],rfl,by simp,by simp only [cf,fT,or_false];omega⟩
  | blocks s p m =>
   simp only [Pl.ok] at hP
   unfold Pl.d
   walk_at "o1"
   iterate 3 (rw [a0D];walk_at "v1";walk_at "kd";walk_at "o1")
   have q0:0<=s*m:=wQ (by ext hP) (by ext hP)
   have q1:s*m<=10^39*4:=wO (by ext hP) (by ext hP) (by ext hP) (by decide)
   refine ⟨.inr (.inl (by ext hP)),?_⟩
   generalize s*m=sm at *
   exact ⟨[0,s,sm],rfl,by simp,by simp only [cf,fT,or_false];omega⟩
  | name n =>
   obtain ⟨e1,e2⟩:=Fg hA hP
   obtain ⟨Hb,AD,AB⟩:=hF _ e2
   unfold Pl.d Fm
   walk_at "o1"
   rw [a0D]
   walk_at "v1"
   walk_at "kd"
   walk_at "o1"
   rw [Jw]
   walk_at "o1"
   refine ⟨n,rfl,?_⟩
   rw [e1]
   walk_at "o1"
   refine yu Row.d (λpre env=>∃x4,∃zs:List Int,env=[.sh (.tup [.str "name",.str n]),.sh (.cH uJ (A.map λf=>.tup (f.map Row.d))),.sh (.str "name"),.ow (zs.map D.int),x4]/\zs.length=2*pre.length/\∀z∈zs,-(10^42)<=z/\z<=10^42) _ (λpre r post env e h=>?_) (λenv h=>?_) ⟨_,[],rfl,rfl,λz hz=>(nomatch hz)⟩
   .obtain ⟨x4,zs,rfl,hl,hz⟩:=h
    have hr:=AB r (by rw [e];simp)
    have oU:=congrArg xO e
    simp only [dz,jX] at oU
    unfold dq at hr
    rw [w8 r]
    walk_at "o1"
    refine ⟨by rw [dF];omega,_,zs++[r.1,r.2.1],by rw [qF];rfl,by simp [hl];ext,λz GU=>?_⟩
    rcases nu.mp GU with w | w
    .exact hz z w
    .simp only [cf,fT,or_false] at w
     ext hr w
   .obtain ⟨x4,zs,rfl,hl,hz⟩:=h
    walk_at "o1"
    exact ⟨zs,rfl,by ext AD hl,hz⟩
  | bands rs =>
   have hq:=hP.2.2.1
   rcases w9 hP with ⟨⟨a1,a2⟩,rfl⟩ | ⟨⟨a1,a2⟩,⟨b1,b2⟩,rfl⟩ | ⟨⟨a1,a2⟩,⟨b1,b2⟩,⟨c1,c2⟩,rfl⟩
   all_goals
    simp only [cf,fT,or_false,forall_eq_or_imp,forall_eq] at hq
    simp only [Pl.d,dE,pU,Pr]
    walk_at "o1"
    iterate 4 (rw [a0D];walk_at "v1";walk_at "kd";walk_at "o1")
   .exact ⟨[0,a1],rfl,by simp,by simp only [cf,fT,or_false];omega⟩
   .exact ⟨[0,a1,b1],rfl,by simp,by simp only [cf,fT,or_false];omega⟩
   .exact ⟨[0,a1,b1,c1],rfl,by simp,by simp only [cf,fT,or_false];omega⟩
  | steps rs =>
   have hq:=hP.2.2.1
   rcases w9 hP with ⟨⟨a1,a2⟩,rfl⟩ | ⟨⟨a1,a2⟩,⟨b1,b2⟩,rfl⟩ | ⟨⟨a1,a2⟩,⟨b1,b2⟩,⟨c1,c2⟩,rfl⟩
   all_goals
    simp only [cf,fT,or_false,forall_eq_or_imp,forall_eq] at hq
    simp only [Pl.d,dE,pU,Pr]
    walk_at "o1"
    iterate 4 (rw [a0D];walk_at "v1";walk_at "kd";walk_at "o1")
   .exact ⟨[0,a1],rfl,by simp,by simp only [cf,fT,or_false];omega⟩
   .exact ⟨[0,a1,b1],rfl,by simp,by simp only [cf,fT,or_false];omega⟩
   .exact ⟨[0,a1,b1,c1],rfl,by simp,by simp only [cf,fT,or_false];omega⟩
 obtain ⟨x,e,zs,rfl,h⟩:=key
 exact ⟨zs,e,h⟩
theorem Yh{A:List (List Row)}(hA:A.length=3)(hF:∀f∈A,qN f)(P:Pl)(hP:P.ok){sc:Int}(hs:1<=sc/\sc<=10^38)(ms:List Int){r:Bool}:∃xs:List Int,yH [P.d,Fm A,.lst r (ms.map D.int),.int sc]=some (.ow (xs.map D.int))/\xs.length<=200/\∀x∈xs,-(10^43)<=x/\x<=10^43:=by
 have key:Wo (yH [P.d,Fm A,.lst r (ms.map D.int),.int sc]) λr=>∃xs:List Int,r=.ow (xs.map D.int)/\xs.length<=200/\∀x∈xs,-(10^43)<=x/\x<=10^43:=by
  refine mn.mpr ?_
  unfold K3
  obtain ⟨zs,ez,hz1,An⟩:=UI hA hF P hP
  obtain ⟨ys,ey,_,hy⟩:=YU zs (by omega)
  walk_at "o1"
  rw [OP]
  walk_at "o1"
  rw [ez]
  walk_at "o1"
  rw [Nz,ey]
  walk_at "o1"
  rw [EN,show lY ys none (some 24)=ys.take 24 from Ov ys (n:=24)]
  have xE:(ys.take 24).length<=24:=by rw [mz];ext
  refine yu D.int (λpre env=>∃x5,∃xs:List Int,env=[.sh P.d,.sh (Fm A),.sh (.lst r (ms.map D.int)),.sh (.int sc),.ow (xs.map D.int),x5,.no]/\xs.length=3+3*pre.length/\∀x∈xs,-(10^43)<=x/\x<=10^43) _ (λpre z post env e h=>?_) (λenv h=>?_) ⟨_,[-1,0,1],rfl,rfl,by simp only [cf,fT,or_false];omega⟩
  .obtain ⟨x5,xs,rfl,hl,hx⟩:=h
   have hz:=An z ((hy z).mp (wZ (by rw [e];simp)))
   have oU:=congrArg xO e
   simp only [dz,jX] at oU
   walk_at "o1"
   refine ⟨by rw [dF];omega,_,xs++[z-1,z,z+1],by rw [qF];rfl,by simp [hl];ext,λx kz=>?_⟩
   rcases nu.mp kz with w | w
   .exact hx x w
   .simp only [cf,fT,or_false] at w
    ext hz w
  .obtain ⟨x5,xs,rfl,hl,hx⟩:=h
   walk_at "o1"
   rw [EN,show lY ms none (some 40)=ms.take 40 from Ov ms (n:=40)]
   have sf:(ms.take 40).length<=40:=by rw [mz];ext
   refine yu D.int (λpre env=>∃x6,∃xs:List Int,env=[.sh P.d,.sh (Fm A),.sh (.lst r (ms.map D.int)),.sh (.int sc),.ow (xs.map D.int),x5,x6]/\xs.length<=80+pre.length/\∀x∈xs,-(10^43)<=x/\x<=10^43) _ (λpre z post env e h=>?_) (λenv h=>?_) ⟨_,xs,rfl,by ext xE hl,hx⟩
   .obtain ⟨x6,xs,rfl,hl,hx⟩:=h
    have oU:=congrArg xO e
    simp only [dz,jX] at oU
    walk_at "o1"
    have m0:0<=z%(5*sc):=Bf _ (by ext hs)
    have m1:z%(5*sc)<5*sc:=By _ (by ext hs)
    refine ⟨.inl (by decide),by walk_at "sc",by rw [dF];ext sf hl oU,?_⟩
    refine ⟨_,xs++[z%(5*sc)-sc],by rw [qF];rfl,by simp;ext hl,λx kz=>?_⟩
    rcases nu.mp kz with w | w
    .exact hx x w
    .rw [nX.mp w]
     ext hs m0 m1
   .obtain ⟨x6,xs,rfl,hl,hx⟩:=h
    walk_at "o1"
    exact ⟨xs,rfl,by ext sf hl,hx⟩
 obtain ⟨x,e,zs,rfl,h⟩:=key
 exact ⟨zs,e,h⟩
theorem VF(o:Option Int):m6 (cD o) (cD o)=some (.sh (.bl false)):=by
 cases o<;>simp [cD,m6,bp]
theorem Ui(A:List (List Row)):rE (Fm A) (Fm A)=some (.sh (.bl true)):=by
 obtain ⟨bs,e,k⟩:=Ki (n:=7) (enc:=λf:List Row=>D.tup (f.map Row.d)) (λx y=>Wn (λx y=>Wm x y) x y) A A
 unfold Fm rE
 dsimp only
 rw [if_pos ⟨rfl,by decide +kernel,rfl⟩,e]
 simp only [decide_true,Bool.and_true] at k
 rw [xV,k]
theorem fin(ns:List Int)(As:ns.length<=63):EL [.lst true (ns.map D.int)]=some (.sh (.bl true)):=by
 refine Wo.eq (CB.mpr ?_)
 unfold Jh
 walk_at "o1"
 rw [AZ _ _ (by decide)]
 walk_at "o1"
 refine ⟨by decide,by decide,?_⟩
 refine Oo [9,10^6,10^38] (Bf _ (by decide)) (by have:=By (ns.getD 0 0) (show (0:Int)<3 by decide);simpa using this) λv hv=>?_
 have hb:1<=v/\v<=10^38:=by
  simp only [cf,fT,or_false] at hv
  ext hv
 obtain ⟨A,eA,hA,hF⟩:=VA ns v hb
 rw [eA]
 walk_at "o1"
 refine ⟨by rw [dF];walk_at "sc",?_⟩
 refine ED _ _ (λk env=>∃x4 x5 x6 x7 x8 x9 uA,env=[.sh (.lst true (ns.map D.int)),.sh (.int v),.sh (Fm A),.sh (Fm A),x4,x5,x6,x7,x8,x9,uA]) (λk env hk h=>?_) (λenv h=>?_) ⟨_,_,_,_,_,_,_,rfl⟩
 .obtain ⟨x4,x5,x6,x7,x8,x9,uA,rfl⟩:=h
  have Df:k<ns.length:=by rw [dF] at hk;ext hk
  obtain ⟨P,eP,hP⟩:=UK ns[k] v hb
  walk_at "o1"
  rw [show dt (ns.map D.int) (0+(k:Int))=some (.int ns[k]) from by rw [DC,J7 0 (by ext) (by ext Df)];simp [Df],a0e,eP]
  walk_at "o1"
  rw [UN P hP]
  walk_at "o1"
  rw [a0D]
  walk_at "o1"
  rw [z8]
  walk_at "o1"
  rw [EN]
  obtain ⟨xs,ex,Sn,L'⟩:=Yh hA hF P hP hb (lY ns (some (0+(k:Int))) (some (0+(k:Int)+4))) (r:=false)
  rw [ex]
  walk_at "o1"
  refine yu D.int (λpre env=>∃x8 x9,env=[.sh (.lst true (ns.map D.int)),.sh (.int v),.sh (Fm A),.sh (Fm A),.sh (.int (0+(k:Int))),.sh P.d,.sh P.o,.ow (pre.map λx=>.tup [.int x,cD (P.due A x)]),x8,x9,uA]) _ (λpre x post env e h=>?_) (λenv h=>?_) ⟨_,_,rfl⟩
  .obtain ⟨x8,x9,rfl⟩:=h
   have hx:=L' x (by rw [e];simp)
   have oU:=congrArg xO e
   simp only [dz,jX] at oU
   walk_at "o1"
   rw [N2 hA hF P hP hx]
   walk_at "o1"
   rw [a0D]
   walk_at "o1"
   rw [VB hA hF P hP hx]
   walk_at "o1"
   rw [UO]
   walk_at "o1"
   refine ⟨by rw [dF];ext Sn oU,.sh (.int x),.sh (cD (P.due A x)),?_⟩
   rw [qF]
   rfl
  .obtain ⟨x8,x9,rfl⟩:=h
   rw [a9c,UP,AO (by rfl)]
   walk_at "o1"
   rw [EN]
   refine yu (λx=>.tup [.int x,cD (P.due A x)]) (λpre env=>∃x8 uA,env=[.sh (.lst true (ns.map D.int)),.sh (.int v),.sh (Fm A),.sh (Fm A),.sh (.int (0+(k:Int))),.sh P.d,.sh P.o,.sh (.lst false (xs.map λx=>.tup [.int x,cD (P.due A x)])),x8,x9,uA]) _ (λpre x post env e h=>?_) (λenv h=>?_) ⟨_,_,rfl⟩
   .obtain ⟨x8,uA,rfl⟩:=h
    have hx:=L' x (rK.subset (show x∈lY xs none (some 3) by rw [e];simp))
    walk_at "o1"
    rw [a0D]
    walk_at "o1"
    rw [N2 hA hF P hP hx]
    walk_at "o1"
    rw [VF]
    walk_at "o1"
    exact ⟨_,_,rfl⟩
   .obtain ⟨x8,uA,rfl⟩:=h
    exact ⟨_,_,_,_,_,_,_,rfl⟩
 .obtain ⟨x4,x5,x6,x7,x8,x9,uA,rfl⟩:=h
  walk_at "o1"
  rw [Ui]
  walk_at "o1"
end My
namespace PySem.W.Fast
theorem tw13162367387255940681:True:=trivial
theorem tw12760321171545722774:True:=trivial
theorem tw5383892245917968757:True:=trivial
theorem tw12701428055240150820:True:=trivial
theorem tw364737666567388800:True:=trivial
theorem tw11158068128655720208:True:=trivial
theorem tw11850904436825870121:True:=trivial
theorem tw2085987806840930793:True:=trivial
theorem tw7188112521258752777:True:=trivial
theorem tw1047930616379657136:True:=trivial
theorem tw7887290148949823262:True:=trivial
theorem tw17790884637128113247:True:=trivial
theorem tw5382699098954290202:True:=trivial
theorem tw16323806207809905335:True:=trivial
theorem tw17044992566875353628:True:=trivial
theorem tw11603385751919180114:True:=trivial
theorem tw10918272138264344093:True:=trivial
theorem tw13494462188945473270:True:=trivial
theorem tw12196062670913869629:True:=trivial
theorem tw5369223594410839013:True:=trivial
theorem tw15867515948671724213:True:=trivial
theorem tw5181395864193404274:True:=trivial
theorem tw13683478628056467449:True:=trivial
theorem tw15893372741076027821:True:=trivial
theorem tw11328256658012187928:True:=trivial
theorem tw5240474451247526688:True:=trivial
theorem tw986999157491500540:True:=trivial
theorem tw10832925826742347515:True:=trivial
theorem tw1975593045367850561:True:=trivial
theorem tw8051252242771230104:True:=trivial
theorem tw1441593791113759384:True:=trivial
theorem tw154899354404786144:True:=trivial
theorem tw9956607249787718747:True:=trivial
theorem tw10961197198217207322:True:=trivial
theorem tw10765270062553191820:True:=trivial
theorem tw12451311443880433215:True:=trivial
theorem tw7736812925656113728:True:=trivial
theorem tw2823770839714144509:True:=trivial
theorem tw13604194211689996733:True:=trivial
theorem tw1121204334391618190:True:=trivial
theorem tw8472358691030032259:True:=trivial
theorem tw11733581046371847634:True:=trivial
theorem tw2922217784675411905:True:=trivial
theorem tw9176322376396315675:True:=trivial
theorem tw6527871607806837586:True:=trivial
theorem tw8590481699687883977:True:=trivial
theorem tw8256804560780021283:True:=trivial
theorem tw18280797854287167616:True:=trivial
theorem tw2311577815636147609:True:=trivial
theorem tw14882638672115728543:True:=trivial
theorem tw18106737196773653739:True:=trivial
theorem tw4566020222631713051:True:=trivial
theorem tw7610196905555539319:True:=trivial
theorem tw17035866563602599493:True:=trivial
theorem tw16474844962352903759:True:=trivial
theorem tw12289766395553519375:True:=trivial
theorem tw15739394690883049530:True:=trivial
theorem tw16038960293219329900:True:=trivial
theorem tw12684277708502200524:True:=trivial
theorem tw16515349815942049504:True:=trivial
theorem tw18146797846254842257:True:=trivial
theorem tw4572488633224307072:True:=trivial
theorem tw2430400913800423824:True:=trivial
theorem tw8890731351095064741:True:=trivial
theorem tw11281560510089265127:True:=trivial
theorem tw15817145882226402164:True:=trivial
theorem tw8176723992073952495:True:=trivial
theorem tw15899138176246993727:True:=trivial
theorem tw13879154518518702384:True:=trivial
theorem tw14626235226496374023:True:=trivial
theorem tw15724463801256901787:True:=trivial
theorem tw249605668177840546:True:=trivial
theorem tw5605949420092799637:True:=trivial
theorem tw2936699827170475098:True:=trivial
theorem tw2226461050473884032:True:=trivial
theorem tw16934403703786213790:True:=trivial
theorem tw14507480112271764778:True:=trivial
theorem tw10082900379175970180:True:=trivial
theorem tw4842185976476060502:True:=trivial
theorem tw14783627038203312057:True:=trivial
theorem tw5725448021898497437:True:=trivial
theorem tw2901796797664850484:True:=trivial
theorem tw14101865887382698602:True:=trivial
theorem tw2451563862633215678:True:=trivial
theorem tw11024092030638896128:True:=trivial
theorem tw14799242786242635441:True:=trivial
theorem tw2690317834475314906:True:=trivial
theorem tw2359462389376784338:True:=trivial
theorem tw13896174386187022317:True:=trivial
theorem tw2220025768674321166:True:=trivial
theorem tw1656984713799740444:True:=trivial
theorem tw13927821470984612357:True:=trivial
theorem tw3598421969708722002:True:=trivial
theorem tw1680643140422480496:True:=trivial
theorem tw8710149953023698019:True:=trivial
theorem tw15173703805426390366:True:=trivial
theorem tw4667475425127157530:True:=trivial
theorem tw7991764027825597976:True:=trivial
theorem tw4737177380524732642:True:=trivial
theorem tw11943350929618799168:True:=trivial
theorem tw13389285523504483910:True:=trivial
theorem tw9104188541462443334:True:=trivial
theorem tw15217388292938014996:True:=trivial
theorem tw9278940856605398240:True:=trivial
theorem tw12217527043563147076:True:=trivial
theorem tw15373524236917719103:True:=trivial
theorem tw10887593917146508496:True:=trivial
theorem tw14109007256535150184:True:=trivial
theorem tw3969930373088318706:True:=trivial
theorem tw7546842557073837143:True:=trivial
theorem tw15046907323738997663:True:=trivial
theorem tw7095516184786025336:True:=trivial
theorem tw17139401419802103002:True:=trivial
theorem tw8466771414466968581:True:=trivial
theorem tw5615564838125455374:True:=trivial
theorem tw4975928740964081504:True:=trivial
theorem tw6212061508303085097:True:=trivial
theorem tw10931770569637488729:True:=trivial
theorem tw11042289160962271618:True:=trivial
theorem tw5032735345044698635:True:=trivial
theorem tw6435658894161691333:True:=trivial
theorem tw2651908553858817300:True:=trivial
theorem tw4686079314530641366:True:=trivial
theorem tw16005835312620132129:True:=trivial
theorem tw6651166714890260363:True:=trivial
theorem tw7332876855710139190:True:=trivial
theorem tw18352349009320807721:True:=trivial
theorem tw2740545618829826259:True:=trivial
theorem tw7511671510615763070:True:=trivial
theorem tw14970956882790193419:True:=trivial
theorem tw4694222073754183823:True:=trivial
theorem tw3043677443874987915:True:=trivial
theorem tw14380324429863602155:True:=trivial
theorem tw4754427001933437424:True:=trivial
theorem tw6013139645362542624:True:=trivial
theorem tw13983238273710202446:True:=trivial
theorem tw14800303779893917449:True:=trivial
theorem tw17513946174689340024:True:=trivial
theorem tw12727473636399040199:True:=trivial
theorem tw17515705938250960808:True:=trivial
theorem tw921373095396402407:True:=trivial
theorem tw971486085804823224:True:=trivial
theorem tw16573781860246052223:True:=trivial
theorem tw14282381726107226106:True:=trivial
theorem tw7388822117925598849:True:=trivial
theorem tw836609865379027025:True:=trivial
theorem tw16697167049693754308:True:=trivial
theorem tw10157426218300392682:True:=trivial
theorem tw16755898795127144740:True:=trivial
theorem tw8123858842402066521:True:=trivial
theorem tw15677251100479558870:True:=trivial
theorem tw17788610375755901431:True:=trivial
theorem tw8114187309188812699:True:=trivial
theorem tw17623824591175188706:True:=trivial
theorem tw718340950013747641:True:=trivial
theorem tw11486525885065197925:True:=trivial
theorem tw11433703476395325500:True:=trivial
theorem tw5954122457314856809:True:=trivial
theorem tw17825972825074048584:True:=trivial
theorem tw14074742844079731663:True:=trivial
theorem tw14937290992752996885:True:=trivial
theorem tw4176345913671066168:True:=trivial
theorem tw11478206567438034198:True:=trivial
theorem tw6577404678985487705:True:=trivial
theorem tw14400732143846107535:True:=trivial
theorem tw17013438200536468305:True:=trivial
theorem tw16795773829071529263:True:=trivial
theorem tw4167434199307808518:True:=trivial
theorem tw7049505915664974373:True:=trivial
theorem tw9783319236184542448:True:=trivial
theorem tw13440627925326523247:True:=trivial
theorem tw13827629281532097251:True:=trivial
theorem tw11513506055897819764:True:=trivial
theorem tw14579971736430043897:True:=trivial
theorem tw17885162327741528008:True:=trivial
theorem tw11534408692122721626:True:=trivial
theorem tw5672183579947517750:True:=trivial
theorem tw17205886662116465072:True:=trivial
theorem tw13406347688004580618:True:=trivial
theorem tw9687849740561726410:True:=trivial
theorem tw3577226683860250928:True:=trivial
theorem tw4726587138068598138:True:=trivial
theorem tw11615522562677568766:True:=trivial
theorem tw3092702306379303998:True:=trivial
theorem tw7526714960511763942:True:=trivial
theorem tw13958998460243273288:True:=trivial
theorem tw16388222479055106962:True:=trivial
theorem tw1500682931344989905:True:=trivial
theorem tw10442077853427024575:True:=trivial
theorem tw8719267177220328347:True:=trivial
theorem tw16165414098491062897:True:=trivial
theorem tw14687727968378262181:True:=trivial
theorem tw2289091433825385179:True:=trivial
theorem tw2133507312828800582:True:=trivial
theorem tw7877966811608628100:True:=trivial
theorem tw9885594347590599119:True:=trivial
theorem tw10856147988824542686:True:=trivial
theorem tw2505626424554422742:True:=trivial
theorem tw13034501111952514614:True:=trivial
theorem tw8125124106033677829:True:=trivial
theorem tw6579889028363900728:True:=trivial
theorem tw17516573175013993485:True:=trivial
theorem tw3491043310984967945:True:=trivial
theorem tw14288896585726510899:True:=trivial
theorem tw13680240095259420275:True:=trivial
theorem tw8018494420543796889:True:=trivial
theorem tw2998226409208318649:True:=trivial
theorem tw11247769341172763449:True:=trivial
theorem tw14639277694961496136:True:=trivial
theorem tw10462280421616807010:True:=trivial
theorem tw10081938793688610343:True:=trivial
theorem tw12543957086522517049:True:=trivial
theorem tw9634405015395300005:True:=trivial
theorem tw9355157769325393825:True:=trivial
theorem tw6813967872478927088:True:=trivial
theorem tw5319966774183972017:True:=trivial
theorem tw14342922251462489253:True:=trivial
theorem tw4022398269846303077:True:=trivial
theorem tw5210997380368868524:True:=trivial
theorem tw9528195472323611691:True:=trivial
theorem tw6470365587217607866:True:=trivial
theorem tw1838128043101052923:True:=trivial
theorem tw10594161136707888646:True:=trivial
theorem tw9751024416855128326:True:=trivial
theorem tw6217197793037309428:True:=trivial
theorem tw4522513234123850808:True:=trivial
theorem tw12756572623946457005:True:=trivial
theorem tw7525253471314073982:True:=trivial
theorem tw2793731473207934721:True:=trivial
theorem tw8152770323252355489:True:=trivial
theorem tw16078721539733817331:True:=trivial
theorem tw2815163287894224676:True:=trivial
theorem tw4883938403044714134:True:=trivial
theorem tw7149149049339566145:True:=trivial
theorem tw1569455102939271952:True:=trivial
theorem tw5039136599150122897:True:=trivial
theorem tw8585396970487526677:True:=trivial
theorem tw10114110868768887990:True:=trivial
theorem tw8931058301966792509:True:=trivial
theorem tw3288826663680140596:True:=trivial
theorem tw9744871466593730509:True:=trivial
theorem tw16744488625866789484:True:=trivial
theorem tw5063865866540425741:True:=trivial
theorem tw4431850972069683262:True:=trivial
theorem tw12172609230220725968:True:=trivial
theorem tw4845772770418406472:True:=trivial
theorem tw12640791253757325628:True:=trivial
theorem tw749260386528140953:True:=trivial
theorem tw2819509116274987454:True:=trivial
theorem tw1971950428477543905:True:=trivial
theorem tw15395526766658201435:True:=trivial
theorem tw5073486516973201511:True:=trivial
theorem tw3276486769210289320:True:=trivial
theorem tw8213740416637897664:True:=trivial
theorem tw5286861674496330824:True:=trivial
theorem tw1269371529259835873:True:=trivial
theorem tw5388837518716478299:True:=trivial
theorem tw7922419305034566228:True:=trivial
theorem tw9755064067566789978:True:=trivial
theorem tw7721670657819796673:True:=trivial
theorem tw11945568831076498795:True:=trivial
theorem tw7676042388991585913:True:=trivial
theorem tw8836462666798733533:True:=trivial
theorem tw7045059744239616895:True:=trivial
theorem tw6248191815373426297:True:=trivial
theorem tw4381495521545832457:True:=trivial
theorem tw17680250704367956025:True:=trivial
theorem tw1543433453594253592:True:=trivial
theorem tw12521335552746525112:True:=trivial
theorem tw819699765354661792:True:=trivial
theorem tw7892978236697607124:True:=trivial
theorem tw9255923099209440668:True:=trivial
theorem tw2681024905198355711:True:=trivial
theorem tw13436089256728991280:True:=trivial
theorem tw14785194464615082468:True:=trivial
theorem tw3872148713302771477:True:=trivial
theorem tw7489922439891375335:True:=trivial
theorem tw13772612093049950400:True:=trivial
theorem tw17985994737990211623:True:=trivial
theorem tw7131846236598346216:True:=trivial
theorem tw10663626605834009339:True:=trivial
theorem tw1730092240887895032:True:=trivial
theorem tw11889026137321044016:True:=trivial
theorem tw10012689621574538295:True:=trivial
end PySem.W.Fast
open PySem PySem.W PyProof.Rows
set_option maxRecDepth 100000 in
set_option maxHeartbeats 0 in
theorem PySem.Challenge.cw_offerhouse_k32_leaves_cost_holds : PySem.Challenge.rw_offerhouse_k32_leaves_cost.Holds := by
  w_on; o_law; k_head; (case hw => w_witness2)
  k_fill
  refine DL.qS (l := PySem.Challenge.rw_offerhouse_k32_leaves_cost) (k := 6) ⟨rfl, by decide, by decide⟩ rfl rfl (ts := []) (fun w h Y => ⟨PySem.W.kIn_of Y, fun _ z => nomatch z⟩) (fun w => by kernel_rfl) ?F
  case F =>
    intro w mg fa h KX G Au
    refine' My.all_mk KX G Au ?i1 ?i2 ?i3 ?i4 ?i5 ?i6 ?i7 ?i8 ?i9 ?i10 ?i11 ?i12 ?i13 ?i14 ?i15 ?i16 ?i17 ?i18 ?i19 ?zlen ?zrange ?ztuple ?zlist ?zsum ?zmin ?zint ?zsorted ?zset ?zisinstance ?zbool ?zdict ?zmax ?a_Each ?a_Flat ?a_Bands ?a_Steps ?a_Blocks ?a_Named ?a_Rule ?p1_Each ?p2_Each ?p3_Each ?p4_Each ?q1_Each ?q2_Each ?q4_Each ?n_Each_low ?n_Each_high ?n_Each_unit ?n_Each_price ?n_Each_rows ?n_Each_size ?n_Each_many ?n_Each_name ?h_Each_cost_here ?h_Each_parts ?h_Each_all_names ?h_Each_names ?h_Each_cost ?p1_Flat ?p2_Flat ?p3_Flat ?p4_Flat ?q1_Flat ?q2_Flat ?q4_Flat ?n_Flat_low ?n_Flat_high ?n_Flat_unit ?n_Flat_price ?n_Flat_rows ?n_Flat_size ?n_Flat_many ?n_Flat_name ?h_Flat_cost_here ?h_Flat_parts ?h_Flat_all_names ?h_Flat_names ?h_Flat_cost ?p1_Bands ?p2_Bands ?p3_Bands ?p4_Bands ?q1_Bands ?q2_Bands ?q4_Bands ?n_Bands_low ?n_Bands_high ?n_Bands_unit ?n_Bands_price ?n_Bands_rows ?n_Bands_size ?n_Bands_many ?n_Bands_name ?h_Bands_holds ?h_Bands_cost_here ?h_Bands_parts ?h_Bands_all_names ?h_Bands_names ?h_Bands_cost ?p1_Steps ?p2_Steps ?p3_Steps ?p4_Steps ?q1_Steps ?q2_Steps ?q4_Steps ?n_Steps_low ?n_Steps_high ?n_Steps_unit ?n_Steps_price ?n_Steps_rows ?n_Steps_size ?n_Steps_many ?n_Steps_name ?h_Steps_holds ?h_Steps_cost_here ?h_Steps_parts ?h_Steps_all_names ?h_Steps_names ?h_Steps_cost ?p1_Blocks ?p2_Blocks ?p3_Blocks ?p4_Blocks ?q1_Blocks ?q2_Blocks ?q4_Blocks ?n_Blocks_low ?n_Blocks_high ?n_Blocks_unit ?n_Blocks_price ?n_Blocks_rows ?n_Blocks_size ?n_Blocks_many ?n_Blocks_name ?h_Blocks_cost_here ?h_Blocks_parts ?h_Blocks_all_names ?h_Blocks_names ?h_Blocks_cost ?p1_Named ?p2_Named ?p3_Named ?p4_Named ?q1_Named ?q2_Named ?q4_Named ?n_Named_low ?n_Named_high ?n_Named_unit ?n_Named_price ?n_Named_rows ?n_Named_size ?n_Named_many ?n_Named_name ?h_Named_cost_here ?h_Named_parts ?h_Named_all_names ?h_Named_names ?h_Named_cost ?f_Each_cost_here ?i_Each_cost_here ?f_Flat_cost_here ?i_Flat_cost_here ?f_Rows_holds ?i_Rows_holds ?f_Bands_cost_here ?i_Bands_cost_here ?f_Steps_cost_here ?i_Steps_cost_here ?f_Blocks_cost_here ?i_Blocks_cost_here ?f_Named_cost_here ?i_Named_cost_here ?f_Rule_parts ?i_Rule_parts ?f_Rule_all_names ?i_Rule_all_names ?f_Named_all_names ?i_Named_all_names ?f_Rule_names ?i_Rule_names ?f_Rule_cost ?i_Rule_cost ?f_Named_Xinit__ ?i_Named_Xinit__ ?f_Blocks_Xinit__ ?i_Blocks_Xinit__ ?f_Rows_Xinit__ ?i_Rows_Xinit__ ?f_Flat_Xinit__ ?i_Flat_Xinit__ ?f_Each_Xinit__ ?i_Each_Xinit__ ?g4o ?g5o ?s1_Each ?s4_Each ?j_Each_Rule ?s1_Flat ?s4_Flat ?j_Flat_Rule ?s1_Bands ?s4_Bands ?j_Bands_Rule ?s1_Steps ?s4_Steps ?j_Steps_Rule ?s1_Blocks ?s4_Blocks ?j_Blocks_Rule ?s1_Named ?s4_Named ?j_Named_Rule ?fin
    (case i1 => constructor <;> k_is)
    (case i2 => constructor <;> k_is)
    (case i3 => constructor <;> k_is)
    (case i4 => constructor <;> k_is)
    (case i5 => constructor <;> k_is)
    (case i6 => constructor <;> k_is)
    (case i7 => constructor <;> k_is)
    (case i8 => constructor <;> k_is)
    (case i9 => constructor <;> k_is)
    (case i10 => constructor <;> k_is)
    (case i11 => constructor <;> k_is)
    (case i12 => constructor <;> k_is)
    (case i13 => constructor <;> k_is)
    (case i14 => constructor <;> k_is)
    (case i15 => constructor <;> k_is)
    (case i16 => constructor <;> k_is)
    (case i17 => constructor <;> k_is)
    (case i18 => constructor <;> k_is)
    (case i19 => constructor <;> k_is)
    (case zlen => k_is)
    (case zrange => k_is)
    (case ztuple => k_is)
    (case zlist => k_is)
    (case zsum => k_is)
    (case zmin => k_is)
    (case zint => k_is)
    (case zsorted => k_is)
    (case zset => k_is)
    (case zisinstance => k_is)
    (case zbool => k_is)
    (case zdict => k_is)
    (case zmax => k_is)
    (case a_Each => k_is)
    (case a_Flat => k_is)
    (case a_Bands => k_is)
    (case a_Steps => k_is)
    (case a_Blocks => k_is)
    (case a_Named => k_is)
    (case a_Rule => k_is)
    (case p1_Each => k_is)
    (case p2_Each => k_is)
    (case p3_Each => k_is)
    (case p4_Each => k_is)
    (case q1_Each => k_is)
    (case q2_Each => k_is)
    (case q4_Each => k_is)
    (case n_Each_low => k_is)
    (case n_Each_high => k_is)
    (case n_Each_unit => k_is)
    (case n_Each_price => k_is)
    (case n_Each_rows => k_is)
    (case n_Each_size => k_is)
    (case n_Each_many => k_is)
    (case n_Each_name => k_is)
    (case h_Each_cost_here => k_is)
    (case h_Each_parts => k_is)
    (case h_Each_all_names => k_is)
    (case h_Each_names => k_is)
    (case h_Each_cost => k_is)
    (case p1_Flat => k_is)
    (case p2_Flat => k_is)
    (case p3_Flat => k_is)
    (case p4_Flat => k_is)
    (case q1_Flat => k_is)
    (case q2_Flat => k_is)
    (case q4_Flat => k_is)
    (case n_Flat_low => k_is)
    (case n_Flat_high => k_is)
    (case n_Flat_unit => k_is)
    (case n_Flat_price => k_is)
    (case n_Flat_rows => k_is)
    (case n_Flat_size => k_is)
    (case n_Flat_many => k_is)
    (case n_Flat_name => k_is)
    (case h_Flat_cost_here => k_is)
    (case h_Flat_parts => k_is)
    (case h_Flat_all_names => k_is)
    (case h_Flat_names => k_is)
    (case h_Flat_cost => k_is)
    (case p1_Bands => k_is)
    (case p2_Bands => k_is)
    (case p3_Bands => k_is)
    (case p4_Bands => k_is)
    (case q1_Bands => k_is)
    (case q2_Bands => k_is)
    (case q4_Bands => k_is)
    (case n_Bands_low => k_is)
    (case n_Bands_high => k_is)
    (case n_Bands_unit => k_is)
    (case n_Bands_price => k_is)
    (case n_Bands_rows => k_is)
    (case n_Bands_size => k_is)
    (case n_Bands_many => k_is)
    (case n_Bands_name => k_is)
    (case h_Bands_holds => k_is)
    (case h_Bands_cost_here => k_is)
    (case h_Bands_parts => k_is)
    (case h_Bands_all_names => k_is)
    (case h_Bands_names => k_is)
    (case h_Bands_cost => k_is)
    (case p1_Steps => k_is)
    (case p2_Steps => k_is)
    (case p3_Steps => k_is)
    (case p4_Steps => k_is)
    (case q1_Steps => k_is)
    (case q2_Steps => k_is)
    (case q4_Steps => k_is)
    (case n_Steps_low => k_is)
    (case n_Steps_high => k_is)
    (case n_Steps_unit => k_is)
    (case n_Steps_price => k_is)
    (case n_Steps_rows => k_is)
    (case n_Steps_size => k_is)
    (case n_Steps_many => k_is)
    (case n_Steps_name => k_is)
    (case h_Steps_holds => k_is)
    (case h_Steps_cost_here => k_is)
    (case h_Steps_parts => k_is)
    (case h_Steps_all_names => k_is)
    (case h_Steps_names => k_is)
    (case h_Steps_cost => k_is)
    (case p1_Blocks => k_is)
    (case p2_Blocks => k_is)
    (case p3_Blocks => k_is)
    (case p4_Blocks => k_is)
    (case q1_Blocks => k_is)
    (case q2_Blocks => k_is)
    (case q4_Blocks => k_is)
    (case n_Blocks_low => k_is)
    (case n_Blocks_high => k_is)
    (case n_Blocks_unit => k_is)
    (case n_Blocks_price => k_is)
    (case n_Blocks_rows => k_is)
    (case n_Blocks_size => k_is)
    (case n_Blocks_many => k_is)
    (case n_Blocks_name => k_is)
    (case h_Blocks_cost_here => k_is)
    (case h_Blocks_parts => k_is)
    (case h_Blocks_all_names => k_is)
    (case h_Blocks_names => k_is)
    (case h_Blocks_cost => k_is)
    (case p1_Named => k_is)
    (case p2_Named => k_is)
    (case p3_Named => k_is)
    (case p4_Named => k_is)
    (case q1_Named => k_is)
    (case q2_Named => k_is)
    (case q4_Named => k_is)
    (case n_Named_low => k_is)
    (case n_Named_high => k_is)
    (case n_Named_unit => k_is)
    (case n_Named_price => k_is)
    (case n_Named_rows => k_is)
    (case n_Named_size => k_is)
    (case n_Named_many => k_is)
    (case n_Named_name => k_is)
    (case h_Named_cost_here => k_is)
    (case h_Named_parts => k_is)
    (case h_Named_all_names => k_is)
    (case h_Named_names => k_is)
    (case h_Named_cost => k_is)
    (case f_Each_cost_here => k_is)
    (case i_Each_cost_here => constructor <;> k_is)
    (case f_Flat_cost_here => k_is)
    (case i_Flat_cost_here => constructor <;> k_is)
    (case f_Rows_holds => k_is)
    (case i_Rows_holds => constructor <;> k_is)
    (case f_Bands_cost_here => k_is)
    (case i_Bands_cost_here => constructor <;> k_is)
    (case f_Steps_cost_here => k_is)
    (case i_Steps_cost_here => constructor <;> k_is)
    (case f_Blocks_cost_here => k_is)
    (case i_Blocks_cost_here => constructor <;> k_is)
    (case f_Named_cost_here => k_is)
    (case i_Named_cost_here => constructor <;> k_is)
    (case f_Rule_parts => k_is)
    (case i_Rule_parts => constructor <;> k_is)
    (case f_Rule_all_names => k_is)
    (case i_Rule_all_names => constructor <;> k_is)
    (case f_Named_all_names => k_is)
    (case i_Named_all_names => constructor <;> k_is)
    (case f_Rule_names => k_is)
    (case i_Rule_names => constructor <;> k_is)
    (case f_Rule_cost => k_is)
    (case i_Rule_cost => constructor <;> k_is)
    (case f_Named_Xinit__ => k_is)
    (case i_Named_Xinit__ => constructor <;> k_is)
    (case f_Blocks_Xinit__ => k_is)
    (case i_Blocks_Xinit__ => constructor <;> k_is)
    (case f_Rows_Xinit__ => k_is)
    (case i_Rows_Xinit__ => constructor <;> k_is)
    (case f_Flat_Xinit__ => k_is)
    (case i_Flat_Xinit__ => constructor <;> k_is)
    (case f_Each_Xinit__ => k_is)
    (case i_Each_Xinit__ => constructor <;> k_is)
    (case g4o => k_is)
    (case g5o => k_is)
    (case s1_Each => k_is)
    (case s4_Each => k_is)
    (case j_Each_Rule => kernel_rfl)
    (case s1_Flat => k_is)
    (case s4_Flat => k_is)
    (case j_Flat_Rule => kernel_rfl)
    (case s1_Bands => k_is)
    (case s4_Bands => k_is)
    (case j_Bands_Rule => kernel_rfl)
    (case s1_Steps => k_is)
    (case s4_Steps => k_is)
    (case j_Steps_Rule => kernel_rfl)
    (case s1_Blocks => k_is)
    (case s4_Blocks => k_is)
    (case j_Blocks_Rule => kernel_rfl)
    (case s1_Named => k_is)
    (case s4_Named => k_is)
    (case j_Named_Rule => kernel_rfl)
    (case fin => exact My.fin)
