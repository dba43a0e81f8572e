import PyProof.Rows.All
import Wide.All
import OpenK.AllK
import Wide.FinOn
import Lean
import PyProof.EqAt
import PyProof.EqKinds
import PyProof.TupleCall
import PySem.Challenge.RW_offerhouse_k56_whole_none_cheaper
set_option Elab.async false
set_option linter.all false
set_option synthInstance.maxSize 10000
set_option synthInstance.maxHeartbeats 60000
namespace QA
inductive E | v (i:Nat) | k (n:Nat) | i (z:Int) | u (b:Bool) (x y:E) | a (x y:E) | s (x y:E) | n (x:E) | m (s:Bool) (n:Nat) (z:Int) (x:E) | c (x:E)
inductive F | le (d t:Bool) (x y:E) | eq (t:Bool) (x y:E) | ff | no (f:F) | an (f g:F) | or (f g:F) | im (f g:F) | io (f g:F)
structure C where
  i:List Int
  n:List Nat
noncomputable def gi:List Int->Nat->Int
  | [],_=>0
  | x::_,0=>x
  | _::l,i+1=>gi l i
noncomputable def gn:List Nat->Nat->Nat
  | [],_=>0
  | x::_,0=>x
  | _::l,i+1=>gn l i
noncomputable def den (c:C):E->Nat × Int
  | .v i=>(gn c.n i,gi c.i i)
  | .k n=>(n,0)
  | .i z=>(0,z)
  | .u b x y=>(cond b (max (den c x).1 (den c y).1) (min (den c x).1 (den c y).1),cond b (max (den c x).2 (den c y).2) (min (den c x).2 (den c y).2))
  | .a x y=>((den c x).1+(den c y).1,(den c x).2+(den c y).2)
  | .s x y=>((den c x).1 - (den c y).1,(den c x).2 - (den c y).2)
  | .n x=>(0,- (den c x).2)
  | .m s n z x=>(cond s (n * (den c x).1) ((den c x).1 * n),cond s (z * (den c x).2) ((den c x).2 * z))
  | .c x=>((den c x).2.toNat,((den c x).1:Int))
noncomputable def dF (c:C):F->Prop
  | .le d t x y=>cond d (cond t ((den c x).1 < (den c y).1) ((den c x).2 < (den c y).2)) (cond t ((den c x).1<=(den c y).1) ((den c x).2<=(den c y).2))
  | .eq t x y=>cond t ((den c x).1=(den c y).1) ((den c x).2=(den c y).2)
  | .ff=>False
  | .no f=>¬ dF c f
  | .an f g=>dF c f/\dF c g
  | .or f g=>dF c f ∨ dF c g
  | .im f g=>dF c f->dF c g
  | .io f g=>(dF c f ↔ dF c g)
noncomputable def ev (r:Nat->Int):List Int->Int
  | []=>0
  | c::l=>c * r 0+ev (λi=>r (i+1)) l
noncomputable def ad:List Int->List Int->List Int
  | [],m=>m
  | x::l,[]=>x::l
  | x::l,y::m=>Int.add x y::ad l m
noncomputable def sc (k:Int):List Int->List Int
  | []=>[]
  | x::l=>Int.mul k x::sc k l
theorem ev_ad:∀ (l m:List Int) (r:Nat->Int),ev r (ad l m)=ev r l+ev r m
  | [],m,r=>(Int.zero_add _).symm
  | x::l,[],r=>(Int.add_zero _).symm
  | x::l,y::m,r=>by
    show (x+y) * r 0+ev _ (ad l m)=(x * r 0+ev _ l)+(y * r 0+ev _ m)
    rw [ev_ad l m,Int.add_mul];omega
theorem ev_sc (k:Int):∀ (l:List Int) (r:Nat->Int),ev r (sc k l)=k * ev r l
  | [],r=>(Int.mul_zero k).symm
  | x::l,r=>by
    show k * x * r 0+ev _ (sc k l)=k * (x * r 0+ev _ l)
    rw [ev_sc k l,Int.mul_add,Int.mul_assoc]
noncomputable def zz:List Int->List Int
  | []=>[]
  | k::l=>k::0::0::l
noncomputable def ui:Nat->List Int
  | 0=>[0,1]
  | i+1=>zz (ui i)
noncomputable def un:Nat->List Int
  | 0=>[0,0,1]
  | i+1=>zz (un i)
noncomputable def rr (c:C):Nat->Nat->Int
  | j,0=>gi c.i j
  | j,1=>(gn c.n j:Int)
  | j,i+2=>rr c (j+1) i
noncomputable def rho (c:C) (j:Nat):Nat->Int
  | 0=>1
  | i+1=>rr c j i
theorem ev_zz {c:C} {j:Nat}:∀ l,ev (rho c j) (zz l)=ev (rho c (j+1)) l
  | []=>rfl
  | k::l=>by
    show k * 1+(0 * _+(0 * _+ev _ l))=k * 1+ev _ l
    rw [Int.zero_mul,Int.zero_mul,Int.zero_add,Int.zero_add];rfl
theorem ev_ui {c:C}:∀ (i j:Nat),ev (rho c j) (ui i)=gi c.i (j+i)
  | 0,j=>by show 0 * _+(1 * gi c.i j+0)=gi c.i j;omega
  | i+1,j=>by show ev _ (zz _)=_;rw [ev_zz,ev_ui i];congr 1;omega
theorem ev_un {c:C}:∀ (i j:Nat),ev (rho c j) (un i)=(gn c.n (j+i):Int)
  | 0,j=>by show 0 * _+(0 * _+(1 * (gn c.n j:Int)+0))=(gn c.n j:Int);omega
  | i+1,j=>by show ev _ (zz _)=_;rw [ev_zz,ev_un i];congr 2;omega
noncomputable def ge (k:Int) (x y:List Int):List Int:=ad [k] (ad y (sc (-1) x))
theorem ev_ge {c:C} {k:Int} {x y:List Int}:ev (rho c 0) (ge k x y)=k+ev (rho c 0) y - ev (rho c 0) x:=by
  unfold ge;rw [ev_ad,ev_ad,ev_sc];show k * 1+0+_=_;omega
noncomputable def Al (r:Nat->Int) (l:List (List Int)):Prop:=∀ x∈l,0<=ev r x
theorem al_c {r:Nat->Int} {x:List Int} {l:List (List Int)} (h:0<=ev r x) (hl:Al r l):Al r (x::l):=List.forall_mem_cons.mpr ⟨h,hl⟩
theorem al_n {r:Nat->Int}:Al r []:=λ_ h=>nomatch h
theorem al_a {r:Nat->Int} {l m:List (List Int)} (h:Al r l) (hl:Al r m):Al r (l++m):=λx hx=>(List.mem_append.mp hx).elim (h x) (hl x)
noncomputable abbrev A:=List Int × List (List Int)
noncomputable def G (c:C) (P:List A) (v:Int):Prop:=∃ q∈P,ev (rho c 0) q.1=v/\Al (rho c 0) q.2
noncomputable def cp (P Q:List A) (f:List Int->List Int->List A):List A:=P.flatMap λp=>Q.flatMap λq=>(f p.1 q.1).map λr=>(r.1,r.2++(p.2++q.2))
theorem cp_ok {c:C} {P Q:List A} {f:List Int->List Int->List A} {x y v:Int} (hx:G c P x) (hy:G c Q y) (hf:∀ l m,ev (rho c 0) l=x->ev (rho c 0) m=y->G c (f l m) v):G c (cp P Q f) v:=by
  obtain ⟨p,p1,p2,p3⟩:=hx;obtain ⟨q,q1,q2,q3⟩:=hy;obtain ⟨r,r1,r2,r3⟩:=hf _ _ p2 q2
  exact ⟨_,List.mem_flatMap.mpr ⟨p,p1,List.mem_flatMap.mpr ⟨q,q1,List.mem_map.mpr ⟨r,r1,rfl⟩⟩⟩,r2,al_a r3 (al_a p3 q3)⟩
noncomputable def e0:List A:=[([],[])]
noncomputable def li:E->Bool->List A
  | .v i,t=>[(cond t (un i) (ui i),[])]
  | .k n,t=>[(cond t [(n:Int)] [],[])]
  | .i z,t=>[(cond t [] [z],[])]
  | .u b x y,t=>cp (li x t) (li y t) λl m=>[(cond b l m,[ge 0 m l]),(cond b m l,[ge 0 l m])]
  | .a x y,t=>cp (li x t) (li y t) λl m=>[(ad l m,[])]
  | .s x y,t=>cp (li x t) (li y t) λl m=>(ge 0 m l,cond t [ge 0 m l] [])::cond t [([],[ge 0 l m])] []
  | .n x,t=>cp (li x t) e0 λl _=>[(cond t [] (sc (-1) l),[])]
  | .m _ n z x,t=>cp (li x t) e0 λl _=>[(sc (cond t (n:Int) z) l,[])]
  | .c x,t=>cp (li x (!t)) e0 λl _=>(l,cond t [l] [])::cond t [([],[ge 0 l []])] []
noncomputable def va (c:C) (t:Bool) (e:E):Int:=cond t ((den c e).1:Int) (den c e).2
theorem g1 {c:C} {l:List Int} {v:Int} {L:List A} {k:List (List Int)} (h:ev (rho c 0) l=v) (hk:Al (rho c 0) k):G c ((l,k)::L) v:=⟨_,List.mem_cons_self ..,h,hk⟩
theorem g2 {c:C} {q:A} {v:Int} {L:List A} (h:G c L v):G c (q::L) v:=h.elim λx hx=>⟨x,List.mem_cons_of_mem _ hx.1,hx.2⟩
theorem ge_1 {c:C} {l m:List Int} {x y:Int} (hx:ev (rho c 0) l=x) (hy:ev (rho c 0) m=y) (h:y<=x):Al (rho c 0) [ge 0 m l]:=al_c (by rw [ev_ge];omega) al_n
theorem li_ok {c:C} (e:E):∀ (t:Bool),G c (li e t) (va c t e):=by
  have z0:G c e0 0:=g1 rfl al_n
  have k1:∀ k,ev (rho c 0) [k]=k:=λk=>by show k * 1+0=k;omega
  induction e with
  | v i=>intro t;cases t <;> exact g1 ((by first | exact ev_ui i 0 | exact ev_un i 0:ev _ _=_).trans (by rw [Nat.zero_add];rfl)) al_n
  | k n=>intro t;cases t;exact g1 rfl al_n;exact g1 (k1 _) al_n
  | i z=>intro t;cases t;exact g1 (k1 _) al_n;exact g1 rfl al_n
  | u b x y hx hy =>
    intro t;refine cp_ok (hx t) (hy t) λl m e1 e2=>?_
    rcases Int.le_total (va c t y) (va c t x) with h | h
    · refine g1 ?_ (ge_1 e1 e2 h)
      cases t <;> cases b <;> (show ev _ _=_;simp only [cond_true,cond_false];first | rw [e1] | rw [e2]) <;> (simp only [va,den,cond_true,cond_false] at *;omega)
    · refine g2 (g1 ?_ (ge_1 e2 e1 h))
      cases t <;> cases b <;> (show ev _ _=_;simp only [cond_true,cond_false];first | rw [e1] | rw [e2]) <;> (simp only [va,den,cond_true,cond_false] at *;omega)
  | a x y hx hy =>
    intro t;refine cp_ok (hx t) (hy t) λl m e1 e2=>g1 ?_ al_n
    rw [ev_ad,e1,e2];cases t <;> simp only [va,den,cond_true,cond_false];omega
  | s x y hx hy =>
    intro t;refine cp_ok (hx t) (hy t) λl m e1 e2=>?_
    cases t with
    | false=>exact g1 (by rw [ev_ge,e1,e2];simp only [va,den,cond_false];omega) al_n
    | true =>
      rcases Int.le_total (va c true y) (va c true x) with h | h
      · exact g1 (by rw [ev_ge,e1,e2];simp only [va,den,cond_true] at *;omega) (ge_1 e1 e2 h)
      · exact g2 (g1 (by show (0:Int)=_;simp only [va,den,cond_true] at *;omega) (ge_1 e2 e1 h))
  | n x hx =>
    intro t;refine cp_ok (hx t) z0 λl m e1 e2=>g1 ?_ al_n
    cases t with
    | false=>show ev _ (sc _ _)=_;rw [ev_sc,e1];simp only [va,den,cond_false];omega
    | true=>rfl
  | m s n z x hx =>
    intro t;refine cp_ok (hx t) z0 λl m e1 e2=>g1 ?_ al_n
    rw [ev_sc,e1];cases t <;> cases s <;> simp only [va,den,cond_true,cond_false,Int.natCast_mul,Int.mul_comm]
  | c x hx =>
    intro t;refine cp_ok (hx (!t)) z0 λl m e1 e2=>?_
    cases t with
    | false=>exact g1 e1 al_n
    | true =>
      rcases Int.le_total 0 (va c false x) with h | h
      · exact g1 (by rw [e1];simp only [va,den,cond_true,cond_false,Bool.not_true] at *;omega) (al_c (by rw [e1];exact h) al_n)
      · exact g2 (g1 (by show (0:Int)=_;simp only [va,den,cond_true,cond_false] at *;omega) (ge_1 rfl e1 h))
noncomputable def sg:Int->Ordering
  | .ofNat 0=>.eq
  | .ofNat _=>.gt
  | .negSucc _=>.lt
noncomputable abbrev B:=Int × Int × List Int
structure P3 where
  p:List B
  n:List B
  z:List (List Int)
noncomputable def p1 (k a:Int) (r:List Int) (q:P3):Ordering->P3
  | .eq=>⟨q.p,q.n,(k::r)::q.z⟩
  | .gt=>⟨(a,k,r)::q.p,q.n,q.z⟩
  | .lt=>⟨q.p,(Int.neg a,k,r)::q.n,q.z⟩
noncomputable def ex:Nat->List Int->Int × List Int
  | _,[]=>(0,[])
  | 0,a::l=>(a,l)
  | j+1,a::l=>((ex j l).1,a::(ex j l).2)
noncomputable def p2 (j:Nat) (q:P3):List Int->P3
  | []=>q
  | k::l=>p1 k (ex j l).1 (ex j l).2 q (sg (ex j l).1)
noncomputable def pt (j:Nat):List (List Int)->P3
  | []=>⟨[],[],[]⟩
  | x::l=>p2 j (pt j l) x
noncomputable def ct (q:P3):Bool:=Nat.ble (Nat.mul q.p.length q.n.length) (Nat.succ (Nat.add q.p.length q.n.length))
noncomputable def bs (l:List (List Int)):Nat->Nat->Nat
  | 0,_=>0
  | n+1,j=>cond (ct (pt j l)) j (bs l n (j+1))
noncomputable def gc:List Int->Nat
  | []=>0
  | x::l=>Nat.gcd x.natAbs (gc l)
noncomputable def dv (g:Int):List Int->List Int
  | []=>[]
  | x::l=>x / g::dv g l
noncomputable def t1 (k:Int) (l:List Int):Nat->List Int
  | 0=>[k]
  | 1=>k::l
  | g+2=>k / ((g+2:Nat):Int)::dv ((g+2:Nat):Int) l
noncomputable def tg:List Int->List Int
  | []=>[]
  | k::l=>t1 k l (gc l)
noncomputable def co (a b:B):List Int:=tg (ad (sc b.1 (a.2.1::a.2.2)) (sc a.1 (b.2.1::b.2.2)))
noncomputable def cr (n:List B) (z:List (List Int)) (p:List B):List (List Int):=(p.flatMap λa=>n.map λb=>co a b)++z
noncomputable def f1:List Int->Bool
  | [.negSucc _]=>true
  | _=>false
noncomputable def f0 (l:List (List Int)) (j:Nat) (f:List (List Int)->Bool):Bool:=f (cr (pt j l).n (pt j l).z (pt j l).p)
noncomputable def fm:Nat->List (List Int)->Bool
  | 0,l=>l.any f1
  | n+1,l=>l.any f1 || (Nat.ble l.length 300 && f0 l (bs l (n+1) 0) (fm n))
noncomputable def dr:Nat->(Nat->Int)->Nat->Int
  | 0,r,i=>r (i+1)
  | _+1,r,0=>r 0
  | j+1,r,i+1=>dr j (λi=>r (i+1)) i
theorem ex_ok:∀ (j:Nat) (l:List Int) (r:Nat->Int),ev r l=(ex j l).1 * r j+ev (dr j r) (ex j l).2
  | 0,[],r=>by show 0=0 * _+0;rw [Int.zero_mul];rfl
  | j+1,[],r=>by show 0=0 * _+0;rw [Int.zero_mul];rfl
  | 0,a::l,r=>rfl
  | j+1,a::l,r=>by
    show a * r 0+ev _ l=(ex j l).1 * r (j+1)+(a * r 0+ev (dr j λi=>r (i+1)) (ex j l).2)
    rw [ex_ok j l];exact Int.add_left_comm ..
noncomputable def sh (j:Nat) (r:Nat->Int):Nat->Int
  | 0=>r 0
  | i+1=>dr j (λi=>r (i+1)) i
theorem ev_cut {r:Nat->Int} {j:Nat} {k:Int} {l:List Int}:ev r (k::l)=(ex j l).1 * r (j+1)+ev (sh j r) (k::(ex j l).2):=by
  show k * r 0+ev _ l=(ex j l).1 * r (j+1)+(k * r 0+ev (dr j λi=>r (i+1)) (ex j l).2)
  rw [ex_ok j l];exact Int.add_left_comm ..
noncomputable def Bp (r:Nat->Int) (y:Int) (a:B):Prop:=0 < a.1/\0<=a.1 * y+ev r (a.2.1::a.2.2)
noncomputable def P0 (r:Nat->Int) (j:Nat) (q:P3):Prop:=(∀ a∈q.p,Bp (sh j r) (r (j+1)) a)/\(∀ a∈q.n,Bp (sh j r) (-r (j+1)) a)/\Al (sh j r) q.z
theorem sg_ok (a:Int):(sg a=.eq/\a=0) ∨ (sg a=.gt/\0 < a) ∨ (sg a=.lt/\a < 0):=by
  match a with
  | .ofNat 0=>exact .inl ⟨rfl,rfl⟩
  | .ofNat (n+1)=>exact .inr (.inl ⟨rfl,Int.natCast_pos.mpr (Nat.succ_pos n)⟩)
  | .negSucc _=>exact .inr (.inr ⟨rfl,by omega⟩)
theorem p2_ok {r:Nat->Int} {j:Nat} {q:P3} (h:P0 r j q):∀ {x:List Int},0<=ev r x->P0 r j (p2 j q x)
  | [],_=>h
  | k::l,hx=>by
    rw [ev_cut (j:=j)] at hx
    show P0 r j (p1 k (ex j l).1 (ex j l).2 q (sg (ex j l).1))
    rcases sg_ok (ex j l).1 with ⟨e,g⟩ | ⟨e,g⟩ | ⟨e,g⟩ <;> rw [e]
    · exact ⟨h.1,h.2.1,al_c (by rw [g,Int.zero_mul,Int.zero_add] at hx;exact hx) h.2.2⟩
    · exact ⟨List.forall_mem_cons.mpr ⟨⟨g,hx⟩,h.1⟩,h.2⟩
    · exact ⟨h.1,List.forall_mem_cons.mpr ⟨⟨Int.neg_pos_of_neg g,by show 0<=-(ex j l).1 * -r (j+1)+_;rw [Int.neg_mul_neg];exact hx⟩,h.2.1⟩,h.2.2⟩
theorem pt_ok {r:Nat->Int} (j:Nat):∀ {l:List (List Int)},Al r l->P0 r j (pt j l)
  | [],_=>⟨λ_ h=>(nomatch h),λ_ h=>(nomatch h),al_n⟩
  | x::l,h=>p2_ok (pt_ok j λy hy=>h y (List.mem_cons_of_mem _ hy)) (h x (List.mem_cons_self ..))
theorem gc_dv:∀ (l:List Int) (g:Nat) (r:Nat->Int),g ∣ gc l->ev r l=g * ev r (dv g l)
  | [],g,r,_=>(Int.mul_zero _).symm
  | x::l,g,r,h=>by
    have h3:(g:Int) * (x / g)=x:=Int.mul_ediv_cancel' (Int.ofNat_dvd_left.mpr (Nat.dvd_trans h (Nat.gcd_dvd_left ..)))
    show x * _+ev _ l=g * (x / g * _+ev _ (dv g l))
    rw [gc_dv l g _ (Nat.dvd_trans h (Nat.gcd_dvd_right ..)),Int.mul_add,← Int.mul_assoc,h3]
theorem t1_ok {r:Nat->Int} (hr:r 0=1) {k:Int} {l:List Int} (h:0<=ev r (k::l)):∀ {g},g=gc l->0<=ev r (t1 k l g)
  | 0,e=>by
    have h:0<=k * r 0+ev _ l:=h
    rw [gc_dv l 0 _ (by rw [e];exact Nat.dvd_refl _),Int.natCast_zero,Int.zero_mul] at h;exact h
  | 1,e=>h
  | g+2,e=>by
    have h:0<=k * r 0+ev _ l:=h
    show 0<=k / ((g+2:Nat):Int) * r 0+ev _ (dv ((g+2:Nat):Int) l)
    rw [gc_dv l (g+2) _ (by rw [e];exact Nat.dvd_refl _),hr,Int.mul_one] at h
    rw [hr,Int.mul_one]
    have hg:0 < ((g+2:Nat):Int):=by omega
    generalize ((g+2:Nat):Int)=d at *
    generalize ev _ (dv d l)=y at *
    have:-y<=k / d:=(Int.le_ediv_iff_mul_le hg).mpr (by rw [Int.neg_mul,Int.mul_comm];omega)
    omega
theorem co_ok {r:Nat->Int} (hr:r 0=1) {y:Int} {a b:B} (h1:Bp r y a) (h2:Bp r (-y) b):0<=ev r (co a b):=by
  refine t1_ok hr ?_ rfl
  show 0<=ev r (ad (sc b.1 (a.2.1::a.2.2)) (sc a.1 (b.2.1::b.2.2)))
  rw [ev_ad,ev_sc,ev_sc]
  have e1:=Int.mul_nonneg (Int.le_of_lt h2.1) h1.2
  have e2:=Int.mul_nonneg (Int.le_of_lt h1.1) h2.2
  rw [Int.mul_add] at e1 e2
  have:a.1 * (b.1 * -y)=- (b.1 * (a.1 * y)):=by rw [Int.mul_neg,Int.mul_neg,Int.mul_left_comm]
  omega
theorem f1_ok {r:Nat->Int} (hr:r 0=1) {l:List (List Int)} (h:Al r l):¬ l.any f1=true:=λk=>by
  obtain ⟨x,h1,h2⟩:=List.any_eq_true.mp k
  have:=h x h1
  unfold f1 at h2;split at h2
  · have t:0<=_ * r 0+0:=this
    rw [hr] at t;omega
  · cases h2
theorem fm_ok:∀ (n:Nat) {r:Nat->Int} {l:List (List Int)},r 0=1->Al r l->¬ fm n l=true
  | 0,r,l,hr,h=>f1_ok hr h
  | n+1,r,l,hr,h=>λk=>by
    rcases Bool.or_eq_true_iff.mp k with k | k
    · exact f1_ok hr h k
    · obtain ⟨i,j,m⟩:=pt_ok (bs l (n+1) 0) h
      refine fm_ok n (r:=sh _ r) hr (al_a (λx hx=>?_) m) (Bool.and_eq_true_iff.mp k).2
      obtain ⟨a,a1,a2⟩:=List.mem_flatMap.mp hx
      obtain ⟨b,b1,rfl⟩:=List.mem_map.mp a2
      exact co_ok (r:=sh _ r) hr (i a a1) (j b b1)
noncomputable abbrev T:=List (Bool × F)
noncomputable def al (t:Bool) (x y:E) (cs:List (List Int)) (k:List Int->List Int->List (List Int)->Bool):Bool:=(li x t).all λp=>(li y t).all λq=>k p.1 q.1 (p.2++(q.2++cs))
noncomputable def tb (w:Nat):Nat->T->List (List Int)->Bool
  | 0,_,_=>false
  | n+1,[],cs=>fm w cs
  | n+1,(b,f)::r,cs=>match f with
    | .le d t x y=>al t x y cs λl m cs=>tb w n r (cond b (ge (cond d (-1) 0) l m) (ge (cond d 0 (-1)) m l)::cs)
    | .eq t x y=>al t x y cs λl m cs=>cond b (tb w n r (ge 0 l m::ge 0 m l::cs)) (tb w n r (ge (-1) l m::cs) && tb w n r (ge (-1) m l::cs))
    | .ff=>cond b true (tb w n r cs)
    | .no f=>tb w n ((!b,f)::r) cs
    | .an f g=>cond b (tb w n ((true,f)::(true,g)::r) cs) (tb w n ((false,f)::r) cs && tb w n ((false,g)::r) cs)
    | .or f g=>cond b (tb w n ((true,f)::r) cs && tb w n ((true,g)::r) cs) (tb w n ((false,f)::(false,g)::r) cs)
    | .im f g=>cond b (tb w n ((false,f)::r) cs && tb w n ((true,g)::r) cs) (tb w n ((true,f)::(false,g)::r) cs)
    | .io f g=>tb w n ((b,g)::(true,f)::r) cs && tb w n ((!b,g)::(false,f)::r) cs
noncomputable def hd (c:C) (q:Bool × F):Prop:=cond q.1 (dF c q.2) (¬ dF c q.2)
theorem al_ok {c:C} {t:Bool} {x y:E} {cs:List (List Int)} {k:List Int->List Int->List (List Int)->Bool} (h:al t x y cs k=true) (hc:Al (rho c 0) cs):∃ l m d,ev (rho c 0) l=va c t x/\ev (rho c 0) m=va c t y/\Al (rho c 0) d/\k l m d=true:=by
  obtain ⟨p,p1,p2,p3⟩:=li_ok (c:=c) x t;obtain ⟨q,q1,q2,q3⟩:=li_ok (c:=c) y t
  exact ⟨_,_,_,p2,q2,al_a p3 (al_a q3 hc),List.all_eq_true.mp (List.all_eq_true.mp h p p1) q q1⟩
theorem tb_ok {c:C} {w:Nat}:∀ (n:Nat) {r:T} {cs:List (List Int)},Al (rho c 0) cs->(∀ q∈r,hd c q)->¬ tb w n r cs=true
  | 0,_,_,_,_=>nofun
  | n+1,[],cs,hc,hr=>fm_ok w rfl hc
  | n+1,(b,f)::r,cs,hc,hr=>λh=>by
    obtain ⟨hq,hr'⟩:=List.forall_mem_cons.mp hr
    have I:∀ {p q},hd c p->hd c q->tb w n (p::q::r) cs=true->False:=λh1 h2 h3=>tb_ok n hc (List.forall_mem_cons.mpr ⟨h1,List.forall_mem_cons.mpr ⟨h2,hr'⟩⟩) h3
    have J:∀ {p},hd c p->tb w n (p::r) cs=true->False:=λh1 h3=>tb_ok n hc (List.forall_mem_cons.mpr ⟨h1,hr'⟩) h3
    cases f with
    | le d t x y =>
      have h:al t x y cs (λl m cs=>tb w n r (cond b (ge (cond d (-1) 0) l m) (ge (cond d 0 (-1)) m l)::cs))=true:=h
      obtain ⟨l,m,e,h1,h2,he,h3⟩:=al_ok h hc
      refine tb_ok n (al_c ?_ he) hr' h3
      cases b <;> cases t <;> cases d <;> (show 0<=ev _ (ge _ _ _);rw [ev_ge,h1,h2];simp only [hd,dF,va,cond_true,cond_false] at *;omega)
    | eq t x y =>
      have h:al t x y cs (λl m cs=>cond b (tb w n r (ge 0 l m::ge 0 m l::cs)) (tb w n r (ge (-1) l m::cs) && tb w n r (ge (-1) m l::cs)))=true:=h
      obtain ⟨l,m,e,h1,h2,he,h3⟩:=al_ok h hc
      cases b with
      | true =>
        refine tb_ok n (al_c ?_ (al_c ?_ he)) hr' h3 <;>
        cases t <;> (rw [ev_ge,h1,h2];simp only [hd,dF,va,cond_true,cond_false] at *;omega)
      | false =>
        obtain ⟨h4,h5⟩:=Bool.and_eq_true_iff.mp h3
        rcases Int.lt_or_lt_of_ne (a:=ev (rho c 0) l) (b:=ev (rho c 0) m) (by rw [h1,h2];cases t <;> (simp only [hd,dF,va,cond_true,cond_false] at *;omega)) with g | g
        · exact tb_ok n (al_c (by rw [ev_ge];omega) he) hr' h4
        · exact tb_ok n (al_c (by rw [ev_ge];omega) he) hr' h5
    | ff =>
      cases b with
      | true=>exact hq
      | false=>exact tb_ok n hc hr' h
    | no f =>
      cases b with
      | true=>exact J (p:=(false,f)) hq h
      | false=>exact J (p:=(true,f)) (Classical.not_not.mp hq) h
    | an f g =>
      cases b with
      | true=>exact I (p:=(true,f)) (q:=(true,g)) hq.1 hq.2 h
      | false =>
        obtain ⟨h4,h5⟩:=Bool.and_eq_true_iff.mp h
        by_cases k:dF c f
        · exact J (p:=(false,g)) (λz=>hq ⟨k,z⟩) h5
        · exact J (p:=(false,f)) k h4
    | or f g =>
      cases b with
      | false=>exact I (p:=(false,f)) (q:=(false,g)) (λz=>hq (.inl z)) (λz=>hq (.inr z)) h
      | true =>
        obtain ⟨h4,h5⟩:=Bool.and_eq_true_iff.mp h
        rcases (hq:dF c f ∨ dF c g) with k | k
        · exact J (p:=(true,f)) k h4
        · exact J (p:=(true,g)) k h5
    | im f g =>
      cases b with
      | false=>exact I (p:=(true,f)) (q:=(false,g)) (Classical.byContradiction λz=>hq λy=>(z y).elim) (λz=>hq λ_=>z) h
      | true =>
        obtain ⟨h4,h5⟩:=Bool.and_eq_true_iff.mp h
        by_cases k:dF c f
        · exact J (p:=(true,g)) (hq k) h5
        · exact J (p:=(false,f)) k h4
    | io f g =>
      obtain ⟨h4,h5⟩:=Bool.and_eq_true_iff.mp h
      by_cases k:dF c f
      · refine I (p:=(b,g)) (q:=(true,f)) ?_ k h4
        cases b with
        | true=>exact hq.mp k
        | false=>exact λz=>hq ⟨λ_=>z,λ_=>k⟩
      · refine I (p:=(!b,g)) (q:=(false,f)) ?_ k h5
        cases b with
        | true=>exact λz=>k (hq.mpr z)
        | false=>exact Classical.byContradiction λz=>hq ⟨λy=>(k y).elim,λy=>(z y).elim⟩
noncomputable def mx:E->Nat
  | .v i=>i+1
  | .a x y=>(mx x).max (mx y)
  | .s x y=>(mx x).max (mx y)
  | .u _ x y=>(mx x).max (mx y)
  | .m _ _ _ x=>mx x
  | .n x=>mx x
  | .c x=>mx x
  | _=>0
noncomputable def mF:F->Nat
  | .le _ _ x y=>(mx x).max (mx y)
  | .eq _ x y=>(mx x).max (mx y)
  | .ff=>0
  | .no f=>mF f
  | .an f g=>(mF f).max (mF g)
  | .or f g=>(mF f).max (mF g)
  | .im f g=>(mF f).max (mF g)
  | .io f g=>(mF f).max (mF g)
noncomputable def nz:Nat->List (List Int)
  | 0=>[]
  | i+1=>un i::nz i
theorem nz_ok {c:C}:∀ n,Al (rho c 0) (nz n)
  | 0=>al_n
  | n+1=>al_c (by rw [ev_un];exact Int.natCast_nonneg _) (nz_ok n)
noncomputable def ok (f:F):Bool:=tb (mF f+mF f) 400 [(false,f)] (nz (mF f))
noncomputable abbrev Wit (c:C) (f:F):Prop:=ok f=true->dF c f
theorem R {c:C} {f:F}:Wit c f:=λh=>Classical.byContradiction λk=>tb_ok 400 (nz_ok _) (r:=[(false,f)]) (List.forall_mem_cons.mpr ⟨k,λ_ h=>absurd h List.not_mem_nil⟩) h
class AI (e:Int) (l:List Int) (l':outParam (List Int)) (n:outParam Nat):Prop
instance:AI e [] [e] 0:=⟨⟩
instance (priority:=low) [AI e l l' n]:AI e (d::l) (d::l') (.succ n):=⟨⟩
instance:AI e (e::l) (e::l) 0:=⟨⟩
class AN (e:Nat) (l:List Nat) (l':outParam (List Nat)) (n:outParam Nat):Prop
instance:AN e [] [e] 0:=⟨⟩
instance (priority:=low) [AN e l l' n]:AN e (d::l) (d::l') (.succ n):=⟨⟩
instance:AN e (e::l) (e::l) 0:=⟨⟩
class RI (e:Int) (c:C) (c':outParam C) (x:outParam E):Prop
class RN (e:Nat) (c:C) (c':outParam C) (x:outParam E):Prop
instance (priority:=low) [AI e i i' k]:RI e ⟨i,n⟩ ⟨i',n⟩ (.v k):=⟨⟩
instance (priority:=low) [AN e n n' k]:RN e ⟨i,n⟩ ⟨i,n'⟩ (.v k):=⟨⟩
class LN (e:Nat):Prop
instance:LN 0:=⟨⟩
instance:LN 1:=⟨⟩
instance:LN 100:=⟨⟩
instance:LN 1000:=⟨⟩
instance:LN 1000000:=⟨⟩
instance:LN 120:=⟨⟩
instance:LN 130:=⟨⟩
instance:LN 132:=⟨⟩
instance:LN 140:=⟨⟩
instance:LN 16:=⟨⟩
instance:LN 1600000:=⟨⟩
instance:LN 16777216:=⟨⟩
instance:LN 2:=⟨⟩
instance:LN 200:=⟨⟩
instance:LN 24:=⟨⟩
instance:LN 250:=⟨⟩
instance:LN 3:=⟨⟩
instance:LN 30:=⟨⟩
instance:LN 4:=⟨⟩
instance:LN 40:=⟨⟩
instance:LN 400000:=⟨⟩
instance:LN 45:=⟨⟩
instance:LN 46:=⟨⟩
instance:LN 5:=⟨⟩
instance:LN 6:=⟨⟩
instance:LN 60:=⟨⟩
instance:LN 61:=⟨⟩
instance:LN 62:=⟨⟩
instance:LN 63:=⟨⟩
instance:LN 64:=⟨⟩
instance:LN 79:=⟨⟩
instance:LN 8:=⟨⟩
instance:LN 800000:=⟨⟩
instance:LN 8000000:=⟨⟩
instance:LN 900000:=⟨⟩
class LI (e:Int):Prop
instance:LI 0:=⟨⟩
instance:LI 1:=⟨⟩
instance:LI 10:=⟨⟩
instance:LI 100:=⟨⟩
instance:LI 1000:=⟨⟩
instance:LI 2:=⟨⟩
instance:LI 3:=⟨⟩
instance:LI 37:=⟨⟩
instance:LI 4:=⟨⟩
instance:LI 64:=⟨⟩
instance:LI 7:=⟨⟩
instance:LI 70:=⟨⟩
instance [LI a]:LI (-a):=⟨⟩
instance (priority:=500) [LN e]:RN e c c (.k e):=⟨⟩
instance (priority:=500) [LI e]:RI e c c (.i e):=⟨⟩
instance [LI a] [LN b]:RI (a ^ b) c c (.i (a ^ b)):=⟨⟩
instance [LN a] [LN b]:RN (a ^ b) c c (.k (a ^ b)):=⟨⟩
instance [RI a c d x] [RI b d e y]:RI (max a b) c e (.u true x y):=⟨⟩
instance [RI a c d x] [RI b d e y]:RI (min a b) c e (.u false x y):=⟨⟩
instance [RN a c d x] [RN b d e y]:RN (max a b) c e (.u true x y):=⟨⟩
instance [RN a c d x] [RN b d e y]:RN (min a b) c e (.u false x y):=⟨⟩
instance [RI a c d x] [RI b d e y]:RI (a+b) c e (.a x y):=⟨⟩
instance [RN a c d x] [RN b d e y]:RN (a+b) c e (.a x y):=⟨⟩
instance [RI a c d x] [RI b d e y]:RI (a - b) c e (.s x y):=⟨⟩
instance [RN a c d x] [RN b d e y]:RN (a - b) c e (.s x y):=⟨⟩
instance [RI a c d x]:RI (-a) c d (.n x):=⟨⟩
instance [LI a] [RI b c d y]:RI (a * b) c d (.m true 0 a y):=⟨⟩
instance [LI a] [RI b c d y]:RI (b * a) c d (.m false 0 a y):=⟨⟩
instance [LN a] [RN b c d y]:RN (a * b) c d (.m true a 0 y):=⟨⟩
instance [LN a] [RN b c d y]:RN (b * a) c d (.m false a 0 y):=⟨⟩
instance [RN a c d x]:RI (Nat.cast a) c d (.c x):=⟨⟩
instance [RI a c d x]:RN (Int.toNat a) c d (.c x):=⟨⟩

class RF (p:Prop) (c:C) (c':outParam C) (f:outParam F):Prop
instance {a b:Int} [RI a c d x] [RI b d e y]:RF (a<=b) c e (.le false false x y):=⟨⟩
instance {a b:Int} [RI a c d x] [RI b d e y]:RF (a < b) c e (.le true false x y):=⟨⟩
instance {a b:Int} [RI a c d x] [RI b d e y]:RF (b ≥ a) c e (.le false false x y):=⟨⟩
instance {a b:Int} [RI a c d x] [RI b d e y]:RF (b > a) c e (.le true false x y):=⟨⟩
instance {a b:Int} [RI a c d x] [RI b d e y]:RF (a=b) c e (.eq false x y):=⟨⟩
instance {a b:Int} [RI a c d x] [RI b d e y]:RF (a ≠ b) c e (.no (.eq false x y)):=⟨⟩
instance {a b:Nat} [RN a c d x] [RN b d e y]:RF (a<=b) c e (.le false true x y):=⟨⟩
instance {a b:Nat} [RN a c d x] [RN b d e y]:RF (a < b) c e (.le true true x y):=⟨⟩
instance {a b:Nat} [RN a c d x] [RN b d e y]:RF (b ≥ a) c e (.le false true x y):=⟨⟩
instance {a b:Nat} [RN a c d x] [RN b d e y]:RF (b > a) c e (.le true true x y):=⟨⟩
instance {a b:Nat} [RN a c d x] [RN b d e y]:RF (a=b) c e (.eq true x y):=⟨⟩
instance {a b:Nat} [RN a c d x] [RN b d e y]:RF (a ≠ b) c e (.no (.eq true x y)):=⟨⟩
instance:RF False c c .ff:=⟨⟩
instance [RF p c d f]:RF (¬p) c d (.no f):=⟨⟩
instance [RF p c d f] [RF q d e g]:RF (p/\q) c e (.an f g):=⟨⟩
instance [RF p c d f] [RF q d e g]:RF (p ∨ q) c e (.or f g):=⟨⟩
instance [RF p c d f] [RF q d e g]:RF (p->q) c e (.im f g):=⟨⟩
instance [RF p c d f] [RF q d e g]:RF (p ↔ q) c e (.io f g):=⟨⟩
theorem Rw (p:Prop) [RF p ⟨[],[]⟩ c f]:Wit c f:=R
end QA
local macro_rules
  | `(tactic| ext $ps:rintroPat*:$_:num)=>`(tactic| (refine id ?_;ext $ps*))
  | `(tactic| ext $ps:rintroPat*)=>do
    let mut ty ← `(_)
    let mut f:=false
    let mut hs:=#[]
    for p in ps do
      match p with
      | `(rintroPat| $h:ident)=>hs:=hs.push (← `($h:ident))
      | _=>f:=true
    for h in hs.reverse do ty ← `(type_of% $h->$ty)
    let t ← `(tactic| (refine (?g:$ty) $hs*;refine (QA.R:type_of% (QA.Rw (type_of% ?g))) ?_;decide +kernel))
    if f then `(tactic| (exfalso;$t)) else return t
set_option Elab.async false
set_option linter.all false
set_option maxRecDepth 100000
open And renaming intro->c4j
open Array renaming length_toList->gP,toList_append->nX,getElem?_toList->tH,perm_iff_toList_perm->wU,toList_push->wQ,toList_extract->Ek,toList_reverse->Ej,getD_eq_getD_getElem?->OJ,getElem_toList->Ot,toList_modify->Od,append_assoc->Oa,getD->Dy
open Array.Perm renaming refl->tz
open Bool renaming false_ne_true->my,false_eq_true->rL,and_eq_true->Be,false_and->Jj
open Classical renaming axiomOfChoice->Jq
open False renaming elim->iI
open ForInStep renaming yield->nh,done->DM
open Iff renaming rfl->eE
open Int renaming le_refl->cU,emod_lt_of_pos->rK,mul_nonneg->oI,emod_nonneg->rN,mul_le_mul_of_nonneg_left->Ei,toNat_natCast->wJ,le_of_lt->A5,mul_one->AW,mul_sub->AS,eq_ofNat_of_zero_le->Oi,sub_self->DP,add_zero->DO,not_le->DB,zero_add->IT,mul_zero->IS,le_trans->IQ,mul_comm->IP
open List renaming mem_cons_of_mem->bW,mem_cons_self->bK,mem_singleton->bU,length_map->bB,mem_append->bT,mem_cons->bH,length_append->dC,size_toArray->dM,getElem?_set_ne->fj,getElem?_eq_some_iff->iu,mem_append_right->fY,mem_append_left->gR,pairwise_append->gQ,append_assoc->fB,drop_eq_getElem_cons->j0,getElem?_set_self->jm,mem_map->dz,pairwise_cons->ir,map_map->dS,map_append->fX,getElem?_eq_getElem->mx,not_mem_nil->gO,map_cons->fF,length_take->iZ,drop_eq_nil_of_le->ny,range->eH,take_append_drop->nY,replicate->jn,getElem?_append_right->rG,mem_iff_getElem->oG,length_drop->nr,length_cons->nk,lookup_cons->nj,pairwise_singleton->rF,getElem_mem->nU,getD_eq_getElem?_getD->vy,append_nil->nT,getElem?_append_left->vw,flatten_singleton->tI,mem_of_mem_drop->tM,mem_range->oJ,pairwise_iff_getElem->wR,mem_flatMap->qv,flatten_append->tK,getElem?_map->rJ,mem_of_mem_take->vC,take_of_length_le->wV,length_pos_iff->vE,pairwise_map->tO,foldl_cons->rO,length_eq_zero_iff->Bb,zipWith->pM,nodup_cons->tB,suffix_refl->vg,perm_append_comm->A9,extract_eq_take_drop->Ef,of_mem_zip->ve,reverse_perm->wO,getElem?_replicate->Er,append_cancel_left->Ep,sum_cons->tE,mem_reverse->wN,map->mw,length_replicate->Em,ne_nil_of_length_pos->JF,length->tG,map_congr_left->Eu,forIn_cons->A1,sum_append->A0,getElem?_set->D1,flatten_cons->D0,nodup_append->DZ,getElem_take->DY,foldl_append->DX,flatMap_cons->DW,length_singleton->Jo,map_nil->wF,getElem?_zipWith->Jm,eq_nil_or_concat->Jk,all_eq_true->Ec,zipIdx_cons->Eb,take_append_of_le_length->OM,cons_append->Ea,ext_getElem->D9,mem_of_getElem?->JA,mem_filter->D8,filterMap_cons->Jx,length_zipWith->Jw,nil_append->D3,zip_cons_cons->JB,getElem?_eq_none_iff->Oo,drop_zero->DK,pairwise_mergeSort->Ol,length_set->Jg,dropLast_eq_take->OA,zipIdx_nil->Jd,getElem?_append->Ov,reverse_reverse->Ou,mem_of_getLast?->OI,dropLast_concat->OH,drop_take->Jh,mergeSort_perm->Oc,flatMap_append->Ob,mem_filterMap->N9,length_zipIdx->N7,getElem?_take->N6,append_of_mem->N5,map_singleton->N4,toArray->IU
open List.Pairwise renaming nil->I0
open List.Perm renaming refl->AY,append_left->Jl
open List.cons renaming inj->IF
open Nat renaming le_refl->bh,ne_of_lt->dE,lt_of_lt_of_le->jl,le_trans->fg,eq_zero_of_not_pos->vD,lt_irrefl->oH,zero_le->nv,le_add_right->tN,lt_of_succ_lt->vj,lt_succ_self->vi,zero_add->rE,lt_of_le_of_ne->Bc,ne_of_gt->vt,add_sub_cancel_left->Jr,le_of_lt->wG,add_le_add_right->Jy,le_antisymm->D5,min_eq_left->D4,sub_self->A6,le_succ->AU,mul_assoc->DD,le_of_not_lt->IY,le_of_sub_eq_zero->Ox,not_lt_zero->Jc,add_assoc->IG
open Ne renaming symm->gm
open Option renaming bind_some->ni,map_eq_some_iff->Ba,isSome_iff_exists->Om,map_some->Je,getD_none->Og,map->IK
open Option.some renaming inj->dq,injEq->dU
open Or renaming inr->aW,inl->bO
open PyProof.Rows renaming wpS_bind->aP,wpS_pure->aX,slot_tuple_getitem->vz,wpS_forRange->kR,callWith_type1->Bf,wpS_mono->kQ,mirror_perm->rC,wpS_modify->qu,listUpdate_at->wH,listItems_at->wD,wpS_get->nQ,getElem?_mirror_all->Ju,get?_update_seq->D2,pairsOf_toList->DJ,pairsOf_size->DQ,mirror_size->DT,seqEpoch_at->DC,size_push'->Dz
open PyProof.Rows.SortSt renaming mk'->AX
open PySem renaming wpAny_bind->ar,wpAny_pure->aZ,wpAny_loadPart'->lL,sizeLine_eq->iY,wpAny_callSpecial?_slot->vv,wpAny_pyIter_tuple->rM,wpAny_mono->jG,mem_of_lookup->tL,wpAny_field->lK,wpAny_newObj_type->rH,wpAny_seqItems->pN,wpAny_truthy_bool->tP,wpAny_holding->pO,wpAny_call_entry->tD,wpAny_setField_rec->wK,Builtin->c1r,wpAny_passesOwn->vf,wpAny_pyIter_list->wI,call_isinstance->vq,codeAny_builtin->vo,wpAny_Call_Name_kw->Bd,plainId_quiet->vk,wpAny_letGo->tF,wpAny_updateSeq_pair->Jz,wpAny_attempt->A3,wpAny_rule->vd,wpAny_execs_nil->D7,wpAny_tryCatch->DI,rangeSize_one->DH,intBits_le_64->DG,wpAny_onRaise->DF,wpAny_newList->DE,noFill_tuple_add->IZ,codeAny_mono->DS,wpAny_typeOf->DR,wpAny_updateSeq->Jb,wpAny_newTuple->Ji,wpAny_standAt->IJ,seq_tuple_add->II,call->IL
open PySem.Around renaming under_plainId->vF,frames_deeper->Ow,under->IE
open PySem.AutoSeq1 renaming wpAny_loadPart'->Et
open PySem.Builtin.Int renaming intBits->OG
open PySem.Builtin.List renaming listItems->Eo,listTooLong->JD
open PySem.Builtin.Range renaming rangeSize->Es,small->Jv
open PySem.Builtin.Slice renaming slicePlaces->Eg,sliceAdjust->JG,sliceApplied->OP
open PySem.Builtin.SmallTypes renaming nextOf->tJ,ownedTupleIsFree->Ew,ownedTupleHandOut->OR
open PySem.Builtin.Tuple renaming tupleExact->Ee,tupleItemsOf->ON
open PySem.Calls renaming Name_function_global->OQ,spliced_cons->JC,spliced_nil->I9,callWith_builtin->OD
open PySem.Code renaming isFrame->ID
open PySem.Data renaming cell->wC,fields->DV
open PySem.Env renaming kindOf->DA
open PySem.F renaming slot_tuple_iterator_next->Eh,plain_min_loop->vh,args_tuple_add_2->JE,entry_tuple_add->Jt,plainAttrs_list->Js,slot_tuple_add->Jp,args_tuple_iterator_next_1->OL,entry_tuple_iterator_next->OK,slot_zip_next->D6,plain_list_iadd->Oj,entry_min_loop->IW,slot_list_append->OC,slot_list_extend->OB,slot_enumerate_next->Oy,slot_list_pop->N8
open PySem.Heap renaming get?_push_of_some->bI,get?_push_size->eG,lt_size->bJ,get?_update_other->oK,size_push->nR,get?_update_ne->wL,get?_update_self->El,SameBut->A8,IsTuple->A7,size_update->IX,IsList->DU
open PySem.Heap.IsList renaming push->Of
open PySem.Heap.SameBut renaming update->OF
open PySem.IsRange renaming new->IM
open PySem.NameKind renaming free->nV,cell->vm
open PySem.Obj renaming mapSeq->fD
open PySem.PassesOwn renaming never->A2
open PySem.Shared renaming heap->rD
open PySem.Str renaming ofString->qt
open PySem.Value renaming ref->dN,none->fW,bool->jH,int->jk,type->tx,notImplemented->Oq
open PySem.W renaming Frag->aA,mg_none_of->nC,fnOf->jZ,nsIn->jY,tabIn->nu,keepIn->vn,tabObj->wM,kas_rev->m9,findIn->AZ,codeHdIn->Ed,kas_descPart->A4,codeIn->DN,methodObj->Ja,kas_desc->tu,cellsFrom_some->OE,OpenLaw->Jf,kas_place->wB,mg_of->IH,specialIn->N3,plainGet->Oh,kas_sort->AR,instObj->Oe
open Sum renaming inl->u9,inr->u7
theorem SU{a b c:Nat}(h:a+c<=b):a<=b:=fg (tN _ _) h
theorem SS{a b c:Nat}(h:a<=b):a-c<=b:=fg (Nat.sub_le _ _) h
namespace L2
open PySem PySem.Spec PyProof.Rows
abbrev Key:=Sum Int Str
def OY:Key->Value->Bool
 | .inl k,v=>Value.isInt k v
 | .inr x,v=>Value.isStrOf x v
def GY(w:World):Key->Int
 | .inl k=>hashInt k
 | .inr x=>hashStr w x
theorem si:∀{k:Key} {v:Value},OY k v=true->(∃i t,k=u9 i/\v=jk i t)\/(∃x t,k=u7 x/\v=Value.str x t)
 | .inl i,v,h=>by
  obtain ⟨t,e⟩:=Value.isInt_shape (k:=i) (v:=v) h
  exact .inl ⟨i,t,rfl,e⟩
 | .inr x,v,h=>by
  obtain ⟨t,e⟩:=Value.isStrOf_shape (x:=x) (v:=v) h
  exact .inr ⟨x,t,rfl,e⟩
theorem b8g(a b:Int):decide ((u9 a:Key)=u9 b)=(a==b):=by
 by_cases e:a=b
 .subst e;simp
 .have h:¬(u9 a:Key)=u9 b:=λq=>e (Sum.inl.inj q)
  rw [decide_eq_false h]
  exact (beq_eq_false_iff_ne.mpr e).symm
theorem b8d(a b:Str):decide ((u7 a:Key)=u7 b)=decide (a=b):=by
 by_cases e:a=b
 .subst e;simp
 .have h:¬(u7 a:Key)=u7 b:=λq=>e (Sum.inr.inj q)
  rw [decide_eq_false h,decide_eq_false e]
theorem b8f(a:Int)(b:Str):decide ((u9 a:Key)=u7 b)=false:=decide_eq_false (λq=>nomatch q)
theorem b8e(a:Str)(b:Int):decide ((u7 a:Key)=u9 b)=false:=decide_eq_false (λq=>nomatch q)
def KG(prog:Program)(w:World):PySem.KeyKind prog w Key where
 is:=OY
 hash:=GY w
 inj:=λv a b ha hb=>by
  rcases si ha with ⟨i,t,rfl,rfl⟩ | ⟨x,t,rfl,rfl⟩
  .rcases si hb with ⟨j,u,rfl,e⟩ | ⟨y,u,rfl,e⟩
   .injection e with e1 _;rw [e1]
   .exact nomatch e
  .rcases si hb with ⟨j,u,rfl,e⟩ | ⟨y,u,rfl,e⟩
   .exact nomatch e
   .injection e with e1 _;rw [e1]
 byValue:=λk v h=>by
  rcases si h with ⟨i,t,rfl,rfl⟩ | ⟨x,t,rfl,rfl⟩<;>rfl
 pyHash:=λhv h=>by
  rcases si hv with ⟨i,t,rfl,rfl⟩ | ⟨x,t,rfl,rfl⟩
  .exact wpAny_pyHash_int h
  .exact wpAny_pyHash_str h
 eqBool:=λhu hv h=>by
  rcases si hu with ⟨i,t,rfl,rfl⟩ | ⟨x,t,rfl,rfl⟩
  .rcases si hv with ⟨j,u,rfl,rfl⟩ | ⟨y,u,rfl,rfl⟩
   .rw [b8g] at h;exact wpAny_eqBool_int h
   .rw [b8f] at h;exact SeqAt.EqAt.int_str i t y u _ _ _ _ h
  .rcases si hv with ⟨j,u,rfl,rfl⟩ | ⟨y,u,rfl,rfl⟩
   .rw [b8e] at h;exact SeqAt.EqAt.str_int x t j u _ _ _ _ h
   .rw [b8d] at h;exact wpAny_eqBool_str h
 «strs»:=λk x t v h=>by
  rcases si h with ⟨i,u,rfl,e⟩ | ⟨y,u,rfl,e⟩
  .exact nomatch e
  .injection e with e1 _
   subst e1
   cases v<;>rfl
end L2
namespace L2
open PySem PySem.Spec PyProof.Rows
inductive V where
 | aR | bl (b:Bool) | int (i:Int) | str (x:Str) | Bg (b:Array UInt8) | AD (b:UInt64) | ref (a:Addr) | ty (n:String)
 deriving DecidableEq
def RelV:V->Value->Prop
 | .aR,u=>u=fW
 | .bl b,u=>u=jH b
 | .int i,u=>∃t,u=jk i t
 | .str x,u=>∃t,u=Value.str x t
 | .Bg b,u=>∃t,u=Value.bytes b t
 | .AD b,u=>∃t,u=Value.float b t
 | .ref a,u=>u=dN a
 | .ty n,u=>u=tx n
abbrev au:List V->List Value->Prop:=Paired RelV
theorem au.length(r:au xs us):xs.length=us.length:=Paired.length r
theorem au.get:∀{xs:List V} {us:List Value} {i:Nat} {x:V},au xs us->xs[i]?=some x->∃u,us[i]?=some u/\RelV x u
 | _,_,_,_,.nil,e=>by simp at e
 | _,_,0,_,.cons r _,e=>by simp at e;subst e;exact ⟨_,rfl,r⟩
 | _,_,i+1,x,.cons _ t,e=>by
  obtain ⟨u,h1,h2⟩:=au.get (i:=i) (x:=x) t (by simpa using e)
  exact ⟨u,by simpa using h1,h2⟩
theorem au.set(r:RelV x u):∀{xs:List V} {us:List Value} (i:Nat),au xs us->au (xs.set i x) (us.set i u)
 | _,_,_,.nil=>.nil
 | _,_,0,.cons _ t=>.cons r t
 | _,_,i+1,.cons q t=>.cons q (au.set r i t)
theorem au.append:∀{xs ys:List V} {us ws:List Value},au xs us->au ys ws->au (xs++ys) (us++ws)
 | _,_,_,_,.nil,s=>s
 | _,_,_,_,.cons r t,s=>.cons r (au.append t s)
theorem au.take:∀{xs:List V} {us:List Value} (n:Nat),au xs us->au (xs.take n) (us.take n)
 | _,_,0,_=>.nil
 | _,_,_+1,.nil=>.nil
 | _,_,n+1,.cons r t=>.cons r (au.take n t)
theorem au.drop:∀{xs:List V} {us:List Value} (n:Nat),au xs us->au (xs.drop n) (us.drop n)
 | _,_,0,r=>r
 | _,_,_+1,.nil=>.nil
 | _,_,n+1,.cons _ t=>au.drop n t
theorem au.none_of:∀{xs:List V} {us:List Value} {i:Nat},au xs us->xs[i]?=none->us[i]?=none:=λ{xs us i} r e=>by
 have h1:=r.length
 have h2:xs.length<=i:=Oo.mp e
 exact Oo.mpr (by ext h1 h2)
def sv:Option V->Option Value->Prop
 | some v,some u=>RelV v u
 | none,none=>True
 | _,_=>False
def KV{κ:Type}:List (κ×V)->List (κ×Value)->Prop:=Paired λ(p:κ×V) (q:κ×Value)=>p.1=q.1/\RelV p.2 q.2
def kV:Key->V
 | .inl i=>.int i
 | .inr x=>.str x
inductive HO where
 /-- a list -/
 | lst (xs:List V)
 /-- a tuple (never changes) -/
 | tup (xs:List V)
 /-- a dict sD keys are ints and texts;one sD keys are tuples of ints and texts (sE empty one is both) -/
 | dK (bu:List (Key×V)) | dT (bu:List (List Key×V))
 /-- a set of ints: ao members,ao size -/
 | set (S:Int->Bool) (n:Nat)
 /-- an instance of sE class at C,ao dict at dx,ao attributes -/
 | ins (C dx:Addr) (fs:List (Str×V))
 /-- sE dict of sE instance at x -/
 | own (x:Addr)
 /-- sE dict of an exception -/
 | xd (fs:List (Str×V))
 /-- a bound method,f of x -/
 | met (f x:Addr)
 /-- a range object lo,lo+1,.. below hi -/
 | uj (lo hi:Int)
 /-- a x9 S4 is known to sE object (sE script;a dict while a loop walks it): read,never written while it is so -/
 | gz (o:Obj) (u:HO)
 /-- a code pj table -/
 | ue (ps:Array Value)
 /-- a code pj table sD codes are all called q,and are ao own -/
 | tab (q:Str)
 /-- any other x9,by SY is true of ao one object (a def of Nc own: SetO a S n:=HO.ext λh=>..) -/
 | ext (φ:Heap->Prop)
def ownOf:HO->Option Addr
 | .own x=>some x
 | .gz _ (.own x)=>some x
 | _=>none
def ES(q:Str)(o:Obj):Prop:=∃vs t,o.data=.fields vs/\vs[1]?=some (.str q t)
abbrev Hp:=Addr->Option HO
def upd(H:Hp)(a:Addr)(o:HO):Hp:=λb=>if b=a then some o else H b
theorem lW:upd H a o a=some o:=by unfold upd;rw [if_pos rfl]
theorem cL(h:b≠a):upd H a o b=H b:=by unfold upd;rw [if_neg h]
theorem j'{H:Hp}{a b:Addr}{o:HO}(h:H a=some o)(h':H b=none):a≠b:=by
 intro e;subst e;rw [h] at h';cases h'
section
variable (P:Program)(w:World)
def c7(H:Hp)(h:Heap)(a:Addr):HO->Prop
 | .lst xs=>xs.length<=sizeLine/\∃(ao:List Value) (n:Nat),au xs ao/\h.get? a=some { cls:=.type "list",data:=.seq ao.toArray n }
 | .tup xs=>xs.length<=sizeLine/\∃ao:List Value,au xs ao/\IsTup h a ao.toArray
 | .dK bu=>bu.length<=sizeLine/\(a==sysModules)=false/\∃vs,KV bu vs/\h.DictOf (KG P w) a vs
 | .dT bu=>bu.length<=sizeLine/\(a==sysModules)=false/\∃xs:List (List Key×Addr×Value),
   Paired (λ(p:List Key×V) (q:List Key×Addr×Value)=>p.1=q.1/\H q.2.1=some (.tup (p.1.map kV))/\RelV p.2 q.2.2) bu xs /\
   ∃o es ep,h.get? a=some o/\o.ExactDict/\o.data=.dict es ep/\es.toList=xs.map (entryOfKey (tupleKind (KG P w)))/\(xs.map (·.1)).Nodup
 | .set S n=>h.SetOf (intKind P w) a S n
 | .ins C dx fs=>H dx=some (.own a)/\fs.length<=1000/\dx≠a/\h.get? a=some (Oe C dx) /\
   ∃mA,h.Ns1 dx mA/\(∀f,sv (fs.lookup f) (mA f))/\PySem.Within mA (fs.map (·.1))
 | .own _=>∃o,h.get? a=some o
 | .xd fs=>∃mA,h.Ns1 a mA/\∀f,sv (fs.lookup f) (mA f)
 | .uj lo hi=>∃t u v,h.get? a=some { cls:=.type "range",data:=.fields #[.int lo t,.int hi u,.int 1 v] }
 | .gz o u=>h.get? a=some o/\c7 H h a u
 | .ue ps=>h.get? a=some { cls:=.none,data:=.fields ps }
 | .tab q=>∃ps,h.get? a=some (wM ps)/\TriplesOk ps.toList/\∀pos cv,codeAmong pos ps.toList=some cv->∃c oc,cv=.ref c/\H c=some (.gz oc (.own a))/\ES q oc
 | .met f x=>h.get? a=some (Ja (.ref f) (.ref x))
 | .ext φ=>φ h/\(∃o,h.get? a=some o)/\∀h1 h2:Heap,φ h1->(∀o,h1.get? a=some o->h2.get? a=some o)->φ h2
def iF(H:Hp)(h:Heap):Prop:=∀a o,H a=some o->c7 P w H h a o
end
section
variable {P:Program}{w:World}{H H':Hp}{h h':Heap}{a:Addr}{o:HO}
theorem c7.lt(x:c7 P w H h a o):a<h.objs.size:=by
 cases o with
 | lst xs=>obtain ⟨_,_,_,_,e⟩:=x;exact bJ e
 | tup xs=>obtain ⟨_,_,_,p⟩:=x;exact p.lt
 | dK bu=>obtain ⟨_,_,_,_,o,_,_,e,_⟩:=x;exact bJ e
 | dT bu=>obtain ⟨_,_,_,_,o,_,_,e,_⟩:=x;exact bJ e
 | set S n=>obtain ⟨o,_,_,_,e,_⟩:=x;exact bJ e
 | ins C dx fs=>obtain ⟨_,_,_,e,_⟩:=x;exact bJ e
 | own y=>obtain ⟨_,e⟩:=x;exact bJ e
 | xd fs=>obtain ⟨_,⟨_,_,_,e,_⟩,_⟩:=x;exact bJ e
 | uj lo hi=>obtain ⟨_,_,_,e⟩:=x;exact bJ e
 | gz ob u=>obtain ⟨e,_⟩:=x;exact bJ e
 | ue ps=>exact bJ (show h.get? a=some _ from x)
 | tab q=>obtain ⟨_,e,_⟩:=x;exact bJ e
 | met f y=>exact bJ (show h.get? a=some _ from x)
 | ext φ=>obtain ⟨_,⟨_,e⟩,_⟩:=x;exact bJ e
theorem Paired.zb{α β:Type}{F G:α->β->Prop}:∀{zc:List α} {l₂:List β},Paired F zc l₂->(∀a b,F a b->G a b)->Paired G zc l₂
 | _,_,.nil,_=>.nil
 | _,_,.cons r t,f=>.cons (f _ _ r) (Paired.zb t f)
theorem c7.jr(x:c7 P w H h a o)(k:∀b u,(b=a\/H b=some (.own a))->h.get? b=some u->h'.get? b=some u)
  (ho:∀b u,ownOf u=some a->H b=some u->H' b=some u)(ht:∀b xs,H b=some (.tup xs)->H' b=some (.tup xs)):c7 P w H' h' a o:=by
 induction o with
 | lst xs=>obtain ⟨z,ao,n,r,e⟩:=x;exact ⟨z,ao,n,r,k _ _ (.inl rfl) e⟩
 | tup xs=>obtain ⟨z,ao,r,ob,e,c⟩:=x;exact ⟨z,ao,r,ob,k _ _ (.inl rfl) e,c⟩
 | dK bu=>obtain ⟨z,y,vs,r,ob,es,ep,e,c⟩:=x;exact ⟨z,y,vs,r,ob,es,ep,k _ _ (.inl rfl) e,c⟩
 | dT bu =>
  obtain ⟨z,y,xs,r,ob,es,ep,e,c⟩:=x
  exact ⟨z,y,xs,Paired.zb r λp q z=>⟨z.1,ht _ _ z.2.1,z.2.2⟩,ob,es,ep,k _ _ (.inl rfl) e,c⟩
 | set S n=>obtain ⟨ob,es,ep,t,e,c⟩:=x;exact ⟨ob,es,ep,t,k _ _ (.inl rfl) e,c⟩
 | ins C dx fs =>
  obtain ⟨d,z,ne,e,mA,⟨od,es,ep,e2,c⟩,r⟩:=x
  exact ⟨ho _ _ rfl d,z,ne,k _ _ (.inl rfl) e,mA,⟨od,es,ep,k _ _ (.inr d) e2,c⟩,r⟩
 | own y=>obtain ⟨ob,e⟩:=x;exact ⟨ob,k _ _ (.inl rfl) e⟩
 | xd fs=>obtain ⟨mA,⟨od,es,ep,e,c⟩,r⟩:=x;exact ⟨mA,⟨od,es,ep,k _ _ (.inl rfl) e,c⟩,r⟩
 | uj lo hi=>obtain ⟨t,u,v,e⟩:=x;exact ⟨t,u,v,k _ _ (.inl rfl) e⟩
 | gz ob u ih=>obtain ⟨e,q⟩:=x;exact ⟨k _ _ (.inl rfl) e,ih q⟩
 | ue ps =>
  have e:h.get? a=some { cls:=.none,data:=.fields ps }:=x
  show h'.get? a=some { cls:=.none,data:=.fields ps }
  exact k a _ (.inl rfl) e
 | tab q =>
  obtain ⟨ps,e,ht,z⟩:=x
  exact ⟨ps,k _ _ (.inl rfl) e,ht,λpos cv hc=>let ⟨c,oc,e1,e2,e3⟩:=z pos cv hc;⟨c,oc,e1,ho _ _ rfl e2,e3⟩⟩
 | met f y =>
  have e:h.get? a=some (Ja (.ref f) (.ref y)):=x
  show h'.get? a=some (Ja (.ref f) (.ref y))
  exact k a _ (.inl rfl) e
 | ext φ=>obtain ⟨p,⟨o,e⟩,st⟩:=x;exact ⟨st _ _ p λo q=>k _ _ (.inl rfl) q,⟨o,k _ _ (.inl rfl) e⟩,st⟩
theorem iF.lt(x:iF P w H h)(e:H a=some o):a<h.objs.size:=(x a o e).lt
theorem iF.fresh(x:iF P w H h)(e:h.objs.size<=a):H a=none:=by
 cases q:H a with
 | none=>rfl
 | some u=>exact absurd (jl (x.lt q) e) (oH _)
theorem iF.kept(x:iF P w H h)(k:∀b u,h.get? b=some u->h'.get? b=some u):iF P w H h':=λa o e =>
 (x a o e).jr (λb u _ q=>k b u q) (λ_ _ _ q=>q) λ_ _ q=>q
theorem iF.laid(x:iF P w H h)(k:∀b u,h.get? b=some u->h'.get? b=some u)(hp:h.objs.size<=a)(new:c7 P w (upd H a o) h' a o):iF P w (upd H a o) h':=λb u e=>by
 have hn:=x.fresh hp
 by_cases hb:b=a
 .subst hb;rw [lW] at e;cases e;exact new
 .rw [cL hb] at e
  exact (x b u e).jr (λc v _ q=>k c v q) (λc _ _ q=>by rw [cL (j' q hn)];exact q) λc xs q=>by rw [cL (j' q hn)];exact q
end
def Rd(H:Hp)(a:Addr)(u:HO):Prop:=H a=some u\/∃o,H a=some (.gz o u)
theorem Rd.of(h:H a=some u):Rd H a u:=.inl h
theorem Rd.ok(r:Rd H a u)(x:iF P w H h):c7 P w H h a u:=by
 rcases r with r | ⟨o,r⟩
 .exact x a u r
 .obtain ⟨_,q⟩:=x a _ r
  exact q
def FY:Option HO->Prop
 | some (.lst _)=>True
 | some (.dK _)=>True
 | some (.dT _)=>True
 | some (.set _ _)=>True
 | some (.ins _ _ _)=>True
 | some (.ext _)=>True
 | some (.tab _)=>True
 | _=>False
section
variable {P:Program}{w:World}{H:Hp}{h h':Heap}{x e:Addr}{o':HO}
theorem iF.write(ok:iF P w H h)(mu:FY (H x))(he:e=x\/H e=some (.own x))(k:∀b u,b≠e->h.get? b=some u->h'.get? b=some u)(sW:∃u,h'.get? e=some u)
  (new:c7 P w (upd H x o') h' x o'):iF P w (upd H x o') h':=λb u q=>by
 have GL:∀c y,H c=some (.own y)->c≠x:=λc y r z=>by subst z;rw [r] at mu;exact mu
 have GJ:∀c xs,H c=some (.tup xs)->c≠x:=λc xs r z=>by subst z;rw [r] at mu;exact mu
 have GN:∀c y u,ownOf u=some y->H c=some u->c≠x:=λc y u hu r z=>by
  subst z;rw [r] at mu
  cases u with
  | own y=>exact mu
  | gz o v=>exact mu
  | _=>cases hu
 by_cases hb:b=x
 .subst hb;rw [lW] at q;cases q;exact new
 .rw [cL hb] at q
  by_cases uS:b=e
  .have q':H b=some (.own x):=by
    rcases he with z | z
    .exact absurd (uS.trans z) hb
    .rw [uS];exact z
   rw [q] at q';cases q'
   obtain ⟨v,hv⟩:=sW
   exact ⟨v,by rw [uS];exact hv⟩
  .refine (ok b u q).jr (λc v hc r=>k c v ?_ r) (λc u hu r=>by rw [cL (GN c b u hu r)];exact r) λc xs r=>by rw [cL (GJ c xs r)];exact r
   rcases hc with rfl | hc
   .exact uS
   .rintro rfl
    rcases he with z | z
    .exact GL c b hc z
    .rw [hc] at z;cases z;exact hb rfl
end
structure Un(fs ex:List Addr)(H H':Hp)(h h':Heap):Prop where
 keep:∀b o,h.get? b=some o->H b=none->b∉fs->b∉ex->h'.get? b=some o
 slot:∀b o,h.get? b=some o->H b=none->b∈fs->b∉ex->∃sl,h'.get? b=some { o with slots:=sl }
 free:∀b o,h.get? b=some o->H b=none->b∉ex->H' b=none
 there:∀b o,h.get? b=some o->b∉ex->∃o',h'.get? b=some o'
 eL:∀b xs,H b=some (.tup xs)->H' b=some (.tup xs)
 fx:∀b o u,H b=some (.gz o u)->H' b=some (.gz o u)
 fK:∀b ps,H b=some (.ue ps)->∃more,H' b=some (.ue (ps++more))
section
variable {fs Ig ex Dw:List Addr}{H H1 H2:Hp}{h h1 h2 h':Heap}{a x e:Addr}{o:HO}
theorem Un.any(u:Un fs ex H H1 h h1)(q:h.get? b=some ob)(n:H b=none)(hx:b∉ex):∃sl,h1.get? b=some { ob with slots:=sl }:=by
 by_cases hb:b∈fs
 .exact u.slot b ob q n hb hx
 .exact ⟨ob.slots,u.keep b ob q n hb hx⟩
theorem Un.trans(a:Un fs ex H H1 h h1)(b:Un fs ex H1 H2 h1 h2):Un fs ex H H2 h h2 where
 keep:=λc ob q n hc hx=>b.keep c ob (a.keep c ob q n hc hx) (a.free c ob q n hx) hc hx
 slot:=λc ob q n hc hx=>by
  obtain ⟨sl,e1⟩:=a.slot c ob q n hc hx
  obtain ⟨Gm,e2⟩:=b.slot c _ e1 (a.free c ob q n hx) hc hx
  exact ⟨Gm,e2⟩
 free:=λc ob q n hx=>by
  obtain ⟨o',e1⟩:=a.there c ob q hx
  exact b.free c o' e1 (a.free c ob q n hx) hx
 there:=λc ob q hx=>by
  obtain ⟨o',e1⟩:=a.there c ob q hx
  exact b.there c o' e1 hx
 eL:=λc xs q=>b.eL c xs (a.eL c xs q)
 fx:=λc ob xs q=>b.fx c ob xs (a.fx c ob xs q)
 fK:=λc ps q=>by
  obtain ⟨m1,e1⟩:=a.fK c ps q
  obtain ⟨m2,e2⟩:=b.fK c _ e1
  exact ⟨m1++m2,by rw [e2,Oa]⟩
theorem Un.kept(k:∀b u,h.get? b=some u->h'.get? b=some u):Un fs ex H H h h':=
 ⟨λb ob q _ _ _=>k b ob q,λb ob q _ _ _=>⟨ob.slots,k b ob q⟩,λ_ _ _ n _=>n,λb ob q _=>⟨ob,k b ob q⟩,λ_ _ q=>q,λ_ _ _ q=>q,λ_ ps q=>⟨#[],by rw [q];simp⟩⟩
theorem Un.refl:Un fs ex H H h h:=Un.kept λ_ _ q=>q
theorem Un.laid(k:∀b u,h.get? b=some u->h'.get? b=some u)(hp:h.objs.size<=a)(hn:H a=none):Un fs ex H (upd H a o) h h' where
 keep:=λb u q _ _ _=>k b u q
 slot:=λb u q _ _ _=>⟨u.slots,k b u q⟩
 free:=λb u q n _=>by rw [cL (dE (jl (bJ q) hp))];exact n
 there:=λb u q _=>⟨u,k b u q⟩
 eL:=λb xs q=>by rw [cL (j' q hn)];exact q
 fx:=λb u xs q=>by rw [cL (j' q hn)];exact q
 fK:=λb ps q=>⟨#[],by rw [cL (j' q hn),q];simp⟩
theorem Un.write(mu:FY (H x))(he:e=x\/H e=some (.own x))(k:∀b u,b≠e->h.get? b=some u->h'.get? b=some u)(sW:∃u,h'.get? e=some u):Un fs ex H (upd H x o) h h':=by
 have hx:∀b,H b=none->b≠x:=λb n z=>by subst z;rw [n] at mu;exact mu
 have hb:∀b,H b=none->b≠e:=λb n z=>by
  subst z
  rcases he with r | r
  .exact hx b n r
  .rw [n] at r;cases r
 have hm:∀b u,H b=some u->¬FY (some u)->b≠x:=λb u q nm z=>by subst z;rw [q] at mu;exact nm mu
 refine ⟨λb u q n _ _=>k b u (hb b n) q,λb u q n _ _=>⟨u.slots,k b u (hb b n) q⟩,λb u q n _=>by rw [cL (hx b n)];exact n,λb u q _=>?_,
  λb xs q=>by rw [cL (hm b _ q λz=>z)];exact q,λb u xs q=>by rw [cL (hm b _ q λz=>z)];exact q,λb ps q=>⟨#[],by rw [cL (hm b _ q λz=>z),q];simp⟩⟩
 by_cases uS:b=e
 .subst uS;exact sW
 .exact ⟨u,k b u uS q⟩
theorem Un.mono(u:Un fs ex H H1 h h1)(hs:∀b∈fs,b∈Ig)(hx:∀b∈ex,b∈Dw):Un Ig Dw H H1 h h1:=
 ⟨λb ob q n hb he=>u.keep b ob q n (λz=>hb (hs b z)) λz=>he (hx b z),λ_ _ q n _ he=>u.any q n λz=>he (hx _ z),λb ob q n he=>u.free b ob q n λz=>he (hx b z),λb ob q he=>u.there b ob q λz=>he (hx b z),u.eL,u.fx,u.fK⟩
end
def CU(h:Heap)(H:Hp):List Addr:=(eH h.objs.size).filter λa=>(H a).isSome
def jz(h:Heap)(H:Hp):Heap:=PySem.W.hideAll h (CU h H)
theorem b1O(h:Heap)(H:Hp):(jz h H).objs.size=h.objs.size:=PySem.W.hideAll_size _ _
theorem b3F(e:h.get? b=some o)(n:H b=none):(jz h H).get? b=some o:=
 PySem.W.hideAll_get _ e λhm=>by
  have q:(H b).isSome=true:=(D8.mp hm).2
  rw [n] at q;simp at q
theorem b5U(e:(jz h H).get? b=some o):h.get? b=some o/\H b=none:=by
 have e':h.get? b=some o:=PySem.W.of_hideAll (CU h H) e
 refine ⟨e',?_⟩
 cases q:H b with
 | none=>rfl
 | some x =>
  have hm:b∈CU h H:=D8.mpr ⟨oJ.mpr (bJ e'),by simp [q]⟩
  have z:(jz h H).get? b=none:=PySem.W.hideAll_none (CU h H) hm
  rw [z] at e;cases e
def b6x(g h:Heap)(L:Addr):List (Addr×Obj):=(eH h.objs.size).filterMap λa=>if a=L\/(g.get? a).isSome=true then none else (h.get? a).map λo=>(a,o)
def rest(g h:Heap)(L d:Addr):List (Addr×Obj):=(b6x g h L).filter λp=>decide (p.1≠d)
end L2
namespace L2
open PySem PySem.Spec PyProof.Rows
structure Mod(K:aA)(mg:Str->Option Value)(base:Heap):Prop where
 C8:K.In base
 glob:base.Ns mainGlobals mg
 blt:∃mb,base.Ns builtinsNs mb/\∀x:Str,x ≠ "__name__" -> mb x=bootBuiltins x
 nolimit:base.NoLimit
 bmod:∃bm ob,mg "__builtins__" = some (.ref bm)/\bm≠builtinsNs/\base.get? bm=some ob/\ob.cls=.type "module" /\ ob.dict=some builtinsNs/\ob.data=.plain
structure Cx where
 prog:Program
 w:World
 K:aA
 mg:Str->Option Value
 base:Heap
 A:Around
 N:List Str
 cS:Shared
 oA:Hp
 env:Env
 outer:List Env
 stack:List Env
 ex:List Addr
 fn:Str->Bool
 calm:Bool
 pn:List (Addr×Obj)
 xe:Value->Shared->Prop
def mj(l:List Env):List Addr:=l.filterMap (·.frame)
abbrev Cx.fs(X:Cx):List Addr:=mj X.outer
def gU(sc:Scope)(x:Str):Prop:=sc.names.lookup x=some .local\/sc.names.lookup x=some .cell\/sc.names.lookup x=some .free
def Loc(sc:Scope)(x:Str):Prop:=sc.names.lookup x=some .local\/sc.names.lookup x=some .cell
def Look(env:Env)(h:Heap)(m:Str->Option Value)(x:Str)(u:Value):Prop:=
 (env.kindOf x=some .local/\m x=some u)\/((env.kindOf x=some .cell\/env.kindOf x=some .free)/\∃c,env.cells.lookup x=some c/\h.IsCell c (some u))
structure Cx.Ok(X:Cx):Prop where
 mod:Mod X.K X.mg X.base
 kind:X.env.scope.kind=.function
 glob:X.env.globals=mainGlobals
 blt:X.env.builtins=builtinsNs
 above:X.cS.heap.objs.size<=X.env.locals
 inj:∀x y c,X.env.cells.lookup x=some c->X.env.cells.lookup y=some c->x=y
 has:∀x,(X.env.kindOf x=some .cell\/X.env.kindOf x=some .free)->∃c,X.env.cells.lookup x=some c
 AQ:∀x c,X.fn x=true->X.env.cells.lookup x=some c->X.cS.heap.objs.size<=c
 hd:X.calm=true->X.A.handled=none
 frames:X.A.frames=some X.stack
 CY:X.stack=X.outer\/(X.stack=X.env::X.outer/\X.env.frame=some X.env.locals)
 N1:∀b∈X.ex,b≠X.env.locals/\∀x c,X.env.cells.lookup x=some c->c≠b
 bs:∀b o,X.base.get? b=some o->X.cS.heap.get? b=some o/\X.oA b=none
 nW:X.base.objs.size<=X.cS.heap.objs.size
 pq:∀b o,X.base.get? b=some o->b∉X.ex
 rk:∀b∈X.ex,b∉X.fs
 eS:X.cS.heap.FunFrames X.base X.outer
 qp:∀b∈X.fs,X.oA b=none
structure Inv(X:Cx)(pins:List (Addr×Obj))(σ:List (Option V))(H:Hp)(s:Shared):Prop where
 ok:X.Ok
 os:s.os=X.cS.os
 bare:AllBare s.gens
 base:Un X.fs X.ex X.oA H X.cS.heap s.heap
 loc:∃m,s.heap.Ns X.env.locals m/\∀(i:Nat) (x:Str) (v:V),X.N[i]?=some x->σ[i]?=some (some v)->gU X.env.scope x->∃u,RelV v u/\Look X.env s.heap m x u
 cell:∀x c,X.env.cells.lookup x=some c->∃v,s.heap.IsCell c v
 free:H X.env.locals=none
 dZ:∀x c,X.env.cells.lookup x=some c->H c=none
 pin:∀p∈X.pn++pins,s.heap.get? p.1=some p.2/\H p.1=none/\p.1≠X.env.locals/\p.1∉X.fs/\∀v,p.2.data≠.cell v
 aY:iF X.prog X.w H s.heap
 len:σ.length=X.N.length
section
variable {X:Cx}{pins:List (Addr×Obj)}{σ:List (Option V)}{H H':Hp}{s:Shared}{h':Heap}
theorem Cx.Ok.GP(ok:X.Ok)(e:X.base.get? b=some o):b∉X.fs:=λhb=>by
 have:=(ok.eS.mem hb).1
 rw [e] at this;cases this
theorem Inv.bs(I:Inv X pins σ H s):∀b o,X.base.get? b=some o->s.heap.get? b=some o/\H b=none:=λb o e =>
 ⟨I.base.keep b o (I.ok.bs b o e).1 (I.ok.bs b o e).2 (I.ok.GP e) (I.ok.pq b o e),I.base.free b o (I.ok.bs b o e).1 (I.ok.bs b o e).2 (I.ok.pq b o e)⟩
theorem Inv.bk(I:Inv X pins σ H s):∀b o,X.base.get? b=some o->s.heap.get? b=some o:=λb o e=>(I.bs b o e).1
theorem Inv.mod(I:Inv X pins σ H s):Mod X.K X.mg X.base:=I.ok.mod
theorem Inv.uB(I:Inv X pins σ H s):X.K.In s.heap:=I.ok.mod.C8.keeps I.bk
theorem Inv.nolimit(I:Inv X pins σ H s):s.heap.NoLimit:=I.ok.mod.nolimit.keeps I.bk
theorem Inv.fr(I:Inv X pins σ H s):∃m,Fr X.base X.env.locals s.heap m:=
 let ⟨m,hn,_⟩:=I.loc
 ⟨m,hn,I.bk,fg I.ok.nW I.ok.above⟩
theorem Inv.lt(I:Inv X pins σ H s):X.env.locals<s.heap.objs.size:=let ⟨_,hn,_⟩:=I.loc;hn.lt
theorem Inv.sz(I:Inv X pins σ H s):X.cS.heap.objs.size<=s.heap.objs.size:=fg I.ok.above (wG I.lt)
theorem Inv.GO(I:Inv X pins σ H s){a:Addr}(h:s.heap.objs.size<=a):a∉X.fs:=λhb=>by
 obtain ⟨_,o,ho,_⟩:=I.ok.eS.mem hb
 exact absurd (jl (bJ ho) (fg I.sz h)) (oH _)
theorem Inv.u5(I:Inv X pins σ H s):∀x c,X.env.cells.lookup x=some c->c≠X.env.locals:=λx c e z=>by
 obtain ⟨v,o,ho,hd⟩:=I.cell x c e
 obtain ⟨m,⟨o',es,ep,jy,pG,_⟩,_⟩:=I.loc
 rw [z,jy] at ho;cases ho;rw [pG] at hd;cases hd
theorem Inv.eS(I:Inv X pins σ H s):s.heap.FunFrames X.base X.outer:=by
 have all:∀(l:List Env),(∀b∈mj l,b∈X.fs)->X.cS.heap.FunFrames X.base l->s.heap.FunFrames X.base l:=by
  intro l
  induction l with
  | nil=>intro _ _;trivial
  | cons env r ih =>
   intro hs hl
   obtain ⟨hk,⟨L,o,hf,hn,ho,hd⟩,hr⟩:=hl
   have hL:L∈X.fs:=hs L (by unfold mj;rw [Jx,hf];exact bK)
   obtain ⟨sl,e⟩:=I.base.slot L o ho (I.ok.qp L hL) hL λz=>I.ok.rk L z hL
   exact ⟨hk,⟨L,_,hf,hn,e,hd⟩,ih (λb hb=>hs b (by unfold mj;rw [Jx,hf];exact bW _ hb)) hr⟩
 exact all X.outer (λ_ hb=>hb) I.ok.eS
theorem Inv.stack(I:Inv X pins σ H s):s.heap.FunFrames X.base X.stack:=by
 rcases I.ok.CY with e | ⟨e,hf⟩
 .rw [e];exact I.eS
 .rw [e]
  obtain ⟨m,hn,_⟩:=I.loc
  refine .cons (by rw [I.ok.kind];decide) hf hn ?_ I.eS
  exact Heap.get?_none_of_le (fg I.ok.nW I.ok.above)
theorem Inv.fL(I:Inv X pins σ H s):∀b∈mj X.stack,b∈X.env.locals::X.fs:=λb hb=>by
 rcases I.ok.CY with e | ⟨e,hf⟩
 .rw [e] at hb;exact bW _ hb
 .rw [e] at hb
  unfold mj at hb
  rw [Jx,hf] at hb
  exact hb
theorem Inv.mO(I:Inv X pins σ H s):∀b∈mj X.stack,H b=none:=λb hb=>by
 rcases bH.mp (I.fL b hb) with e | hb
 .rw [e];exact I.free
 .obtain ⟨_,o,ho,_⟩:=I.ok.eS.mem hb
  exact I.base.free b o ho (I.ok.qp b hb) λz=>I.ok.rk b z hb
theorem Inv.step{g':Array GenState}{t':Nat}{d':Drawn}{ch:List Addr}(I:Inv X pins σ H s)
  (qk:∀b∈ch,(b∈X.ex\/X.cS.heap.objs.size<=b)/\b≠X.env.locals/\(∀x c,X.env.cells.lookup x=some c->c≠b)/\∀p∈X.pn++pins,p.1≠b)
  (keep:∀b o,b≠X.env.locals->b∉X.fs->b∉ch->s.heap.get? b=some o->H b=none->h'.get? b=some o)
  (slot:∀b o,b≠X.env.locals->b∈X.fs->b∉ch->s.heap.get? b=some o->H b=none->∃sl,h'.get? b=some { o with slots:=sl })(free:∀b o,b∉ch->s.heap.get? b=some o->H b=none->H' b=none)
  (there:∀b o,b∉ch->s.heap.get? b=some o->∃o',h'.get? b=some o')
  (eL:∀b xs,H b=some (.tup xs)->H' b=some (.tup xs))(fx:∀b o u,H b=some (.gz o u)->H' b=some (.gz o u))(fK:∀b ps,H b=some (.ue ps)->∃more,H' b=some (.ue (ps++more)))
  (ns:∀m,s.heap.Ns X.env.locals m->h'.Ns X.env.locals m)(aY:iF X.prog X.w H' h')(hg:AllBare g'):
  Inv X pins σ H' { s with heap:=h',gens:=g',drawn:=d',toks:=t' }:=by
 have Nh:∀b o,X.cS.heap.get? b=some o->b≠X.env.locals:=λb o e=>dE (jl (bJ e) I.ok.above)
 have C5:∀b o,X.cS.heap.get? b=some o->b∉X.ex->b∉ch:=λb o e hx hb=>by
  rcases (qk b hb).1 with z | z
  .exact hx z
  .exact absurd (jl (bJ e) z) (oH _)
 have cellK:∀x c,X.env.cells.lookup x=some c->∀v,s.heap.IsCell c v->h'.IsCell c v:=λx c e v ⟨o,ho,hd⟩=>by
  have y6:c∉ch:=λz=>(qk c z).2.2.1 x c e rfl
  by_cases hc:c∈X.fs
  .obtain ⟨sl,q⟩:=slot c o (I.u5 x c e) hc y6 ho (I.dZ x c e)
   exact ⟨_,q,hd⟩
  .exact ⟨o,keep c o (I.u5 x c e) hc y6 ho (I.dZ x c e),hd⟩
 refine ⟨I.ok,I.os,hg,⟨λb o e n hb hx=>?_,λb o e n hb hx=>?_,λb o e n hx=>?_,λb o e hx=>?_,λb xs e=>eL b xs (I.base.eL b xs e),λb o xs e=>fx b o xs (I.base.fx b o xs e),λb ps e=>?_⟩,?_,λx c e=>?_,?_,λx c e=>?_,λp hp=>?_,aY,I.len⟩
 .exact keep b o (Nh b o e) hb (C5 b o e hx) (I.base.keep b o e n hb hx) (I.base.free b o e n hx)
 .obtain ⟨sl,e1⟩:=I.base.slot b o e n hb hx
  obtain ⟨Gm,e2⟩:=slot b _ (Nh b o e) hb (C5 b o e hx) e1 (I.base.free b o e n hx)
  exact ⟨Gm,e2⟩
 .obtain ⟨o',e1⟩:=I.base.there b o e hx
  exact free b o' (C5 b o e hx) e1 (I.base.free b o e n hx)
 .obtain ⟨o',e1⟩:=I.base.there b o e hx
  exact there b o' (C5 b o e hx) e1
 .obtain ⟨m1,e1⟩:=I.base.fK b ps e
  obtain ⟨m2,e2⟩:=fK b _ e1
  exact ⟨m1++m2,by rw [e2,Oa]⟩
 .obtain ⟨m,hn,hl⟩:=I.loc
  refine ⟨m,ns m hn,λi x v e1 e2 e3=>?_⟩
  obtain ⟨u,r,l⟩:=hl i x v e1 e2 e3
  refine ⟨u,r,?_⟩
  rcases l with l | ⟨k,c,e,z⟩
  .exact .inl l
  .exact .inr ⟨k,c,e,cellK x c e _ z⟩
 .obtain ⟨v,z⟩:=I.cell x c e
  exact ⟨v,cellK x c e v z⟩
 .obtain ⟨m,⟨o,_,_,ho,_⟩,_⟩:=I.loc
  exact free _ o (λz=>(qk _ z).2.1 rfl) ho I.free
 .obtain ⟨v,o,ho,hd⟩:=I.cell x c e
  exact free c o (λz=>(qk c z).2.2.1 x c e rfl) ho (I.dZ x c e)
 .obtain ⟨e,n,ne,nf,d⟩:=I.pin p hp
  have y6:p.1∉ch:=λz=>(qk p.1 z).2.2.2 p hp rfl
  exact ⟨keep p.1 p.2 ne nf y6 e n,free p.1 p.2 y6 e n,ne,nf,d⟩
theorem Inv.un(I:Inv X pins σ H s)(u:Un X.fs [] H H' s.heap h')(aY:iF X.prog X.w H' h'):Inv X pins σ H' { s with heap:=h',toks:=t' }:=by
 obtain ⟨m,⟨o,es,ep,ho,r⟩,_⟩:=id I.loc
 obtain ⟨sl,hL⟩:=u.any ho I.free (by simp)
 exact I.step (g':=s.gens) (d':=s.drawn) (ch:=[]) (λ_ z=>nomatch z) (λb o _ hb _ e n=>u.keep b o e n hb (by simp)) (λb o _ hb _ e n=>u.slot b o e n hb (by simp)) (λb o _ e n=>u.free b o e n (by simp)) (λb o _ e=>u.there b o e (by simp)) u.eL u.fx u.fK (λm' hm=>by
  obtain ⟨o',Il,Im,jy,r'⟩:=hm
  rw [ho] at jy;cases jy
  exact ⟨_,Il,Im,hL,r'⟩) aY I.bare
theorem Inv.call(I:Inv X pins σ H s)(u:Un (mj X.stack) ch H H' s.heap h')(aY:iF X.prog X.w H' h')(hg:AllBare g')
  (qk:∀b∈ch,(b∈X.ex\/X.cS.heap.objs.size<=b)/\b≠X.env.locals/\(∀x c,X.env.cells.lookup x=some c->c≠b)/\∀p∈X.pn++pins,p.1≠b):
  Inv X pins σ H' { s with heap:=h',gens:=g',drawn:=d',toks:=t' }:=by
 obtain ⟨m,⟨o,es,ep,ho,r⟩,_⟩:=id I.loc
 obtain ⟨sl,hL⟩:=u.any ho I.free λz=>(qk _ z).2.1 rfl
 exact I.step (ch:=ch) qk (λb o hL hb hc e n=>u.keep b o e n (λz=>(bH.mp (I.fL b z)).elim hL hb) hc) (λb o _ _ hc e n=>u.any e n hc) (λb o hc e n=>u.free b o e n hc) (λb o hc e=>u.there b o e hc) u.eL u.fx u.fK (λm' hm=>by
  obtain ⟨o',Il,Im,jy,r'⟩:=hm
  rw [ho] at jy;cases jy
  exact ⟨_,Il,Im,hL,r'⟩) aY hg
theorem Inv.turned(I:Inv X pins σ H s)(k:∀b o,b≠it->s.heap.get? b=some o->h'.get? b=some o)(hn:H it=none)(hL:it≠X.env.locals)
  (h1:it∈X.ex\/X.cS.heap.objs.size<=it)(h2:∀x c,X.env.cells.lookup x=some c->c≠it)(h3:∀p∈X.pn++pins,p.1≠it):Inv X pins σ H { s with heap:=h',toks:=t' }:=by
 have y4:∀b u,H b=some u->b≠it:=λb u e z=>by rw [z,hn] at e;cases e
 refine I.step (g':=s.gens) (d':=s.drawn) (ch:=[it]) (λb hb=>?_) (λb o _ _ hc e _=>k b o (λz=>hc (by simp [z])) e) (λb o _ _ hc e _=>⟨o.slots,k b o (λz=>hc (by simp [z])) e⟩) (λ_ _ _ _ n=>n)
  (λb o hc e=>⟨o,k b o (λz=>hc (by simp [z])) e⟩) (λ_ _ e=>e) (λ_ _ _ e=>e) (λb ps e=>⟨#[],by rw [e];simp⟩) (λm hm=>?_) (λb u e=>?_) I.bare
 .have e:b=it:=by simpa using hb
  subst e
  exact ⟨h1,hL,h2,h3⟩
 .obtain ⟨o,es,ep,ho,r⟩:=hm
  exact ⟨o,es,ep,k _ o (gm hL) ho,r⟩
 .refine (I.aY b u e).jr (λc v hc q=>k c v ?_ q) (λ_ _ _ q=>q) λ_ _ q=>q
  rcases hc with z | z
  .rw [z];exact y4 b u e
  .exact y4 c _ z
theorem Inv.tok(I:Inv X pins σ H s)(t:Nat):Inv X pins σ H { s with toks:=t }:=I.un (h':=s.heap) (t':=t) Un.refl I.aY
theorem Inv.kept(I:Inv X pins σ H s)(k:∀b u,s.heap.get? b=some u->h'.get? b=some u):Inv X pins σ H { s with heap:=h',toks:=t' }:=I.un (Un.kept k) (I.aY.kept k)
theorem Inv.laid{a:Addr}{o:HO}{t':Nat}(I:Inv X pins σ H s)(k:∀b u,s.heap.get? b=some u->h'.get? b=some u)(hp:s.heap.objs.size<=a)(new:c7 X.prog X.w (upd H a o) h' a o):
  Inv X pins σ (upd H a o) { s with heap:=h',toks:=t' }:=I.un (Un.laid k hp (I.aY.fresh hp)) (I.aY.laid k hp new)
theorem Inv.write(I:Inv X pins σ H s)(mu:FY (H x))(he:e=x\/H e=some (.own x))(k:∀b u,b≠e->s.heap.get? b=some u->h'.get? b=some u)(sW:∃u,h'.get? e=some u)
  (new:c7 X.prog X.w (upd H x o) h' x o):Inv X pins σ (upd H x o) { s with heap:=h',toks:=t' }:=I.un (Un.write mu he k sW) (I.aY.write mu he k sW new)
theorem Inv.fu(I:Inv X pins σ H s)(h:∀p∈yK,s.heap.get? p.1=some p.2/\H p.1=none/\p.1≠X.env.locals/\p.1∉X.fs/\∀v,p.2.data≠.cell v):Inv X yK σ H s:=
 ⟨I.ok,I.os,I.bare,I.base,I.loc,I.cell,I.free,I.dZ,λp hp=>(bT.mp hp).elim (λz=>I.pin p (gR _ z)) (h p),I.aY,I.len⟩
theorem QD{N:List Str}(hN:N.Nodup){i j:Nat}{x:Str}(a:N[i]?=some x)(b:N[j]?=some x):i=j:=by
 obtain ⟨h1,e1⟩:=iu.mp a
 obtain ⟨h2,e2⟩:=iu.mp b
 exact (List.getElem_inj hN).mp (e1.trans e2.symm)
theorem Rj(I:Inv X pins σ H s)(hN:X.N.Nodup)(hi:X.N[i]?=some x)(hx:Loc X.env.scope x)(r:RelV v u)
  (h:∀s',Inv X pins (σ.set i (some v)) H s'->(∃a,A8 a s.heap s'.heap/\(a=X.env.locals\/X.env.cells.lookup x=some a))->Q () s')(hf:X.fn x=true\/X.env.scope.names.lookup x=some .local:=by first | exact .inl rfl | exact .inr rfl | assumption):wpAny M A (storeName X.env x u) Q E s:=by
 obtain ⟨m,hn,hl⟩:=id I.loc
 have HN:(X.env.scope.kind==.class||(X.env.scope.kind==.module&&X.env.locals != X.env.globals))=false:=by rw [I.ok.kind];rfl
 have z6:i<σ.length:=by rw [I.len];exact (iu.mp hi).1
 have u5:=I.u5
 have tracked:∀{a:Addr} {h':Heap},(∃o,s.heap.get? a=some o/\H a=none)->A8 a s.heap h'->iF X.prog X.w H h':=λ{a h'} ha hs b ob e=>by
  obtain ⟨_,_,sV⟩:=ha
  refine (I.aY b ob e).jr (λc w' hc q=>(hs.2 c ?_).trans q) (λ_ _ _ q=>q) λ_ _ q=>q
  rintro rfl
  rcases hc with rfl | hc
  .rw [sV] at e;cases e
  .rw [sV] at hc;cases hc
 rcases hx with hk | hk
 .refine wpAny_storeName_local hk hn (λh' Xv hs=>?_) HN
  obtain ⟨oL,_,_,Xr,_⟩:=id hn
  refine h _ ⟨I.ok,I.os,I.bare,⟨λb o e n hb hx=>?_,λb o e n hb hx=>?_,I.base.free,λb o e hx=>?_,I.base.eL,I.base.fx,I.base.fK⟩,⟨_,Xv,λj y v' e1 e2 e3=>?_⟩,λy c e=>?_,I.free,I.dZ,λp hp=>?_,tracked ⟨oL,Xr,I.free⟩ hs,by simpa using I.len⟩ ⟨_,hs,.inl rfl⟩
  .exact (hs.2 b (dE (jl (bJ e) I.ok.above))).trans (I.base.keep b o e n hb hx)
  .obtain ⟨sl,e1⟩:=I.base.slot b o e n hb hx
   exact ⟨sl,(hs.2 b (dE (jl (bJ e) I.ok.above))).trans e1⟩
  .obtain ⟨o',e1⟩:=I.base.there b o e hx
   exact ⟨o',(hs.2 b (dE (jl (bJ e) I.ok.above))).trans e1⟩
  .by_cases hj:j=i
   .subst hj
    rw [hi] at e1;cases e1
    rw [jm z6] at e2
    cases e2
    exact ⟨u,r,.inl ⟨hk,by simp⟩⟩
   .rw [fj (gm hj)] at e2
    obtain ⟨u',r',q⟩:=hl j y v' e1 e2 e3
    refine ⟨u',r',?_⟩
    rcases q with ⟨k,e⟩ | ⟨k,c,e,z⟩
    .refine .inl ⟨k,?_⟩
     have:y≠x:=λe=>hj (QD hN e1 (e▸hi))
     simp [this,e]
    .exact .inr ⟨k,c,e,z.sameBut hs (u5 y c e)⟩
  .obtain ⟨w',z⟩:=I.cell y c e
   exact ⟨w',z.sameBut hs (u5 y c e)⟩
  .obtain ⟨e,n,ne,nf,d⟩:=I.pin p hp
   exact ⟨(hs.2 p.1 ne).trans e,n,ne,nf,d⟩
 .have HE:X.fn x=true:=by
   rcases hf with z | z
   .exact z
   .rw [z] at hk;cases hk
  obtain ⟨c,hc⟩:=I.ok.has x (.inl hk)
  obtain ⟨w',z⟩:=I.cell x c hc
  refine wpAny_storeName_cell I.ok.kind hk hc z (λh' oE hs=>?_)
  obtain ⟨oc,zN,Ho⟩:=id z
  refine h { s with heap:=h' } ⟨I.ok,I.os,I.bare,⟨λb o e n hb hx=>?_,λb o e n hb hx=>?_,I.base.free,λb o e hx=>?_,I.base.eL,I.base.fx,I.base.fK⟩,⟨m,hn.sameBut hs (gm (u5 x c hc)),λj y v' e1 e2 e3=>?_⟩,λy c' e=>?_,I.free,I.dZ,λp hp=>?_,tracked ⟨oc,zN,I.dZ x c hc⟩ hs,by simpa using I.len⟩ ⟨c,hs,.inr hc⟩
  .exact (hs.2 b (dE (jl (bJ e) (I.ok.AQ x c HE hc)))).trans (I.base.keep b o e n hb hx)
  .obtain ⟨sl,e1⟩:=I.base.slot b o e n hb hx
   exact ⟨sl,(hs.2 b (dE (jl (bJ e) (I.ok.AQ x c HE hc)))).trans e1⟩
  .obtain ⟨o',e1⟩:=I.base.there b o e hx
   exact ⟨o',(hs.2 b (dE (jl (bJ e) (I.ok.AQ x c HE hc)))).trans e1⟩
  .by_cases hj:j=i
   .subst hj
    rw [hi] at e1;cases e1
    rw [jm z6] at e2
    cases e2
    exact ⟨u,r,.inr ⟨.inl hk,c,hc,oE⟩⟩
   .rw [fj (gm hj)] at e2
    obtain ⟨u',r',q⟩:=hl j y v' e1 e2 e3
    refine ⟨u',r',?_⟩
    rcases q with q | ⟨k,c',e,z'⟩
    .exact .inl q
    .refine .inr ⟨k,c',e,z'.sameBut hs ?_⟩
     rintro rfl
     exact hj (QD hN e1 (I.ok.inj _ _ _ e hc▸hi))
  .by_cases Aj:c'=c
   .subst Aj;exact ⟨_,oE⟩
   .obtain ⟨w2,z2⟩:=I.cell y c' e
    exact ⟨w2,z2.sameBut hs Aj⟩
  .obtain ⟨e,n,ne,nf,d⟩:=I.pin p hp
   refine ⟨(hs.2 p.1 ?_).trans e,n,ne,nf,d⟩
   intro q
   rw [q,zN] at e
   have q':oc=p.2:=dq e
   exact d w' (by rw [<-q'];exact Ho)
theorem K9(I:Inv X pins σ H s)(hN:X.N.Nodup)(hi:X.N[i]?=some x)(hx:Loc X.env.scope x)(r:RelV v u)
  (h:∀s',Inv X pins (σ.set i (some v)) H s'->Q () s')(hf:X.fn x=true\/X.env.scope.names.lookup x=some .local:=by first | exact .inl rfl | exact .inr rfl | assumption):wpAny M A (storeName X.env x u) Q E s:=
 Rj I hN hi hx r (λs' I' _=>h s' I') hf
theorem Inv.AO(I:Inv X pins σ H s)(ho:s'.os=s.os)(u:Un (mj X.stack) ch H H' s.heap s'.heap)(aY:iF X.prog X.w H' s'.heap)(hg:AllBare s'.gens)
  (qk:∀b∈ch,(b∈X.ex\/X.cS.heap.objs.size<=b)/\b≠X.env.locals/\(∀x c,X.env.cells.lookup x=some c->c≠b)/\∀p∈X.pn++pins,p.1≠b):Inv X pins σ H' s':=by
 obtain ⟨h',g',d',t',o'⟩:=s'
 have e:o'=s.os:=ho
 subst e
 exact I.call (g':=g') (t':=t') (d':=d') u aY hg qk
end
abbrev XK:=Value->Option Addr->Hp->Prop
abbrev St:=List (Option V)
abbrev VK:=V->Hp->Prop
abbrev TE:=St->Hp->VK->Prop
abbrev TT:=St->Hp->(Bool->Hp->Prop)->Prop
abbrev TA:=St->Hp->(List V->Hp->Prop)->Prop
structure Ends where
 nx:St->Hp->Prop
 rt:VK
 bk:St->Hp->Prop:=λ_ _=>False
 ct:St->Hp->Prop:=λ_ _=>False
abbrev TS:=Ends->St->Hp->Prop
def EP(X:Cx)(pins:List (Addr×Obj))(σ:St)(Q:VK)(u:Value)(s':Shared):Prop:=∃v H',Inv X pins σ H' s'/\RelV v u/\Q v H'
def TP(X:Cx)(pins:List (Addr×Obj))(σ:St)(Q:Bool->Hp->Prop)(b:Bool)(s':Shared):Prop:=∃H',Inv X pins σ H' s'/\Q b H'
def AP(X:Cx)(pins:List (Addr×Obj))(σ:St)(Q:List V->Hp->Prop)(us:List Value)(s':Shared):Prop:=∃vs H',Inv X pins σ H' s'/\au vs us/\Q vs H'
def SP(X:Cx)(pins:List (Addr×Obj))(D:Ends)(f:Flow)(s':Shared):Prop:=
 match f with
 | .next=>∃aD H',Inv X pins aD H' s'/\D.nx aD H'
 | .brk=>∃aD H',Inv X pins aD H' s'/\D.bk aD H'
 | .cont=>∃aD H',Inv X pins aD H' s'/\D.ct aD H'
 | .ret u=>∃v aD H',Inv X pins aD H' s'/\RelV v u/\D.rt v H'
def PE(X:Cx)(e:Expr)(t:TE):Prop:=
 ∀(pins:List (Addr×Obj)) (s:Shared) (σ:St) (H:Hp) (Q:VK),Inv X pins σ H s->t σ H Q->wpAny (model X.prog X.w) X.A (eval e X.env) (EP X pins σ Q) X.xe s
def PT(X:Cx)(e:Expr)(t:TT):Prop:=
 ∀(pins:List (Addr×Obj)) (s:Shared) (σ:St) (H:Hp) (Q:Bool->Hp->Prop),Inv X pins σ H s->t σ H Q->wpAny (model X.prog X.w) X.A (isTrue e X.env (eval e X.env)) (TP X pins σ Q) X.xe s
def PW(X:Cx)(e:Expr)(t:TT):Prop:=
 ∀(whole:Sem Value) (pins:List (Addr×Obj)) (s:Shared) (σ:St) (H:Hp) (Q:Bool->Hp->Prop),Inv X pins σ H s->t σ H Q->wpAny (model X.prog X.w) X.A (isTrue e X.env whole) (TP X pins σ Q) X.xe s
theorem PW.pt(h:PW X e t):PT X e t:=h _
def PA(X:Cx)(es:List Expr)(t:TA):Prop:=
 ∀(pos:Pos) (pins:List (Addr×Obj)) (s:Shared) (σ:St) (H:Hp) (Q:List V->Hp->Prop),Inv X pins σ H s->t σ H Q->wpAny (model X.prog X.w) X.A (spliced (backTo pos (starEach es X.env))) (AP X pins σ Q) X.xe s
def PS(X:Cx)(st:Stmt)(t:TS):Prop:=
 ∀(pins:List (Addr×Obj)) (s:Shared) (σ:St) (H:Hp) (D:Ends),Inv X pins σ H s->t D σ H->wpAny (model X.prog X.w) X.A (exec st X.env) (SP X pins D) X.xe s
def nG(X:Cx)(st:List Stmt)(t:TS):Prop:=
 ∀(pins:List (Addr×Obj)) (s:Shared) (σ:St) (H:Hp) (D:Ends),Inv X pins σ H s->t D σ H->wpAny (model X.prog X.w) X.A (execs st X.env) (SP X pins D) X.xe s
theorem a9{α:Type}{t:Sem α}{Q Q':α->Shared->Prop}{M:Model}{A:Around}{E:Value->Shared->Prop}{s:Shared}(h:wpAny M A t Q E s)(hQ:∀a s,Q a s->Q' a s):wpAny M A t Q' E s:=jG h hQ λ_ _ x=>x
end L2
namespace L2
open PySem PySem.Spec PyProof.Rows
section
variable {X:Cx}
theorem bin{a b:Expr}{ta tb:TE}(ha:PE X a ta)(hb:PE X b tb){pins:List (Addr×Obj)}{s:Shared}{σ:St}{H:Hp}{R:V->V->Hp->Prop}(I:Inv X pins σ H s)(h:ta σ H λx H1=>tb σ H1 λy H2=>R x y H2)
  {α:Type}{Q:α->Shared->Prop}{f:Value->Value->Sem α}
  (hf:∀v u s2 x y H2,Inv X pins σ H2 s2->RelV x v->RelV y u->R x y H2->wpAny (model X.prog X.w) X.A (f v u) Q X.xe s2):
  wpAny (model X.prog X.w) X.A (eval a X.env) (λv aO=>wpAny (model X.prog X.w) X.A (eval b X.env) (λu ko=>wpAny (model X.prog X.w) X.A (f v u) Q X.xe ko) X.xe aO) X.xe s:=by
 refine a9 (ha pins s σ H _ I h) λv s1 ⟨x,H1,I1,r1,q1⟩=>?_
 refine a9 (hb pins s1 σ H1 _ I1 q1) λu s2 ⟨y,H2,I2,r2,q2⟩=>?_
 exact hf v u s2 x y H2 I2 r1 r2 q2
def yb(i:Nat):TE:=λσ H Q=>∃v,σ[i]?=some (some v)/\Q v H
def tC(v:V):TE:=λ_ H Q=>Q v H
theorem rY{i:Nat}{x:Str}{pos:Pos}(hN:X.N[i]?=some x)(hv:gU X.env.scope x)(hd:(x==("__debug__":Str))=false:=by decide)(cI:(x==("__classdict__":Str))=false:=by decide):PE X (.Name x pos) (yb i):=by
 intro pins s σ H Q I h
 obtain ⟨v,e,h⟩:=h
 obtain ⟨m,hn,hl⟩:=I.loc
 obtain ⟨u,r,l⟩:=hl i x v hN e hv
 have fin:EP X pins σ Q u s:=⟨v,H,I,r,h⟩
 rcases l with ⟨hk,hm⟩ | ⟨hk,c,hc,dJ⟩
 .exact wpAny_Name (wpAny_loadName_local I.ok.kind hk hn hm fin) hd
 .rcases hk with hk | hk
  .exact wpAny_Name (wpAny_loadName_cell I.ok.kind hk hc dJ fin) hd
  .exact wpAny_Name (wpAny_loadName_free I.ok.kind hk hc dJ fin cI) hd
theorem b7W{i j pos}:PE X (.Constant (.int i) j pos) (tC (.int i)):=λ_ _ _ H _ I h=>wpAny_Constant_int ⟨.int i,H,I.tok _,⟨_,rfl⟩,h⟩
theorem yQ{b j pos}:PE X (.Constant (.bool b) j pos) (tC (.bl b)):=λ_ _ _ H _ I h=>Constant_bool ⟨.bl b,H,I,rfl,h⟩
theorem b7U{j pos}:PE X (.Constant .none j pos) (tC .aR):=λ_ _ _ H _ I h=>Constant_none ⟨.aR,H,I,rfl,h⟩
def Gl(X:Cx)(x:Str):Prop:=X.env.kindOf x=some .globalImplicit
theorem KD{E:Value->Shared->Prop}{pins:List (Addr×Obj)}{s:Shared}{σ:St}{H:Hp}{x:Str}{u:Value}{pos:Pos}{Q:Value->Shared->Prop}(I:Inv X pins σ H s)(hg:Gl X x)(hm:X.mg x=some u)(h:Q u s)
  (hd:(x==("__debug__":Str))=false:=by decide):wpAny (model X.prog X.w) X.A (eval (.Name x pos) X.env) Q E s:=
 OQ I.ok.kind hg (Calls.loadGlobal_global (by rw [I.ok.glob];exact I.mod.glob.keeps I.bk) hm h) hd
theorem rW{E:Value->Shared->Prop}{pins:List (Addr×Obj)}{s:Shared}{σ:St}{H:Hp}{x:Str}{u:Value}{pos:Pos}{Q:Value->Shared->Prop}(I:Inv X pins σ H s)(hg:Gl X x)(hm:X.mg x=none)(hv:bootBuiltins x=some u)(h:Q u s)
  (hn:x ≠ "__name__":=by decide)(hd:(x==("__debug__":Str))=false:=by decide):wpAny (model X.prog X.w) X.A (eval (.Name x pos) X.env) Q E s:=by
 obtain ⟨mb,h1,h2⟩:=I.mod.blt
 exact OQ I.ok.kind hg (Calls.loadGlobal_builtin (by rw [I.ok.glob];exact I.mod.glob.keeps I.bk) hm (by rw [I.ok.blt];exact h1.keeps I.bk) ((h2 x hn).trans hv) h) hd
theorem b5K(hg:Gl X x)(hm:X.mg x=some u)(r:RelV v u)(hd:(x==("__debug__":Str))=false:=by decide):PE X (.Name x pos) (tC v):=
 λ_ _ _ H _ I h=>KD I hg hm ⟨v,H,I,r,h⟩ hd
theorem b5N{x:Str}{v:V}{u:Value}{pos:Pos}(hg:Gl X x)(hm:X.mg x=none)(hv:bootBuiltins x=some u)(r:RelV v u)(hn:x ≠ "__name__":=by decide)(hd:(x==("__debug__":Str))=false:=by decide):PE X (.Name x pos) (tC v):=
 λ_ _ _ H _ I h=>rW I hg hm hv ⟨v,H,I,r,h⟩ hn hd
variable {a b:Expr}{ta tb:TE}{pos:Pos}
variable {tA CW:TT}{rest:List Expr}
def Gg(t u:TT):TT:=λσ H Q=>t σ H λc H1=>if c=true then u σ H1 Q else Q false H1
def S7(t u:TT):TT:=λσ H Q=>t σ H λc H1=>if c=true then Q true H1 else u σ H1 Q
def F9(t:TT):TT:=λσ H Q=>t σ H λc H1=>Q (!c) H1
theorem b5y(ha:PT X a tA):PW X (.BoolOp .And [a] pos) tA:=by
 intro wh pins s σ H Q I h
 refine isTrue_and (a9 (ha pins s σ H Q I h) λc s1 e=>?_)
 cases c with
 | true=>exact isTrue_and_nil e
 | false=>exact e
theorem b7L(ha:PT X a tA):PW X (.BoolOp .Or [a] pos) tA:=by
 intro wh pins s σ H Q I h
 refine isTrue_or (a9 (ha pins s σ H Q I h) λc s1 e=>?_)
 cases c with
 | false=>exact isTrue_or_nil e
 | true=>exact e
theorem b7M(ha:PT X a tA)(hb:PW X (.BoolOp .And (b::rest) pos) CW):PW X (.BoolOp .And (a::b::rest) pos) (Gg tA CW):=by
 intro wh pins s σ H Q I h
 refine isTrue_and (a9 (ha pins s σ H _ I h) λc s1 ⟨H1,I1,q1⟩=>?_)
 cases c with
 | true=>exact hb wh pins s1 σ H1 Q I1 q1
 | false=>exact ⟨H1,I1,q1⟩
theorem pw_or(ha:PT X a tA)(hb:PW X (.BoolOp .Or (b::rest) pos) CW):PW X (.BoolOp .Or (a::b::rest) pos) (S7 tA CW):=by
 intro wh pins s σ H Q I h
 refine isTrue_or (a9 (ha pins s σ H _ I h) λc s1 ⟨H1,I1,q1⟩=>?_)
 cases c with
 | true=>exact ⟨H1,I1,q1⟩
 | false=>exact hb wh pins s1 σ H1 Q I1 q1
theorem b7N(ha:PT X a tA):PT X (.UnaryOp .Not a pos) (F9 tA):=by
 intro pins s σ H Q I h
 exact isTrue_not (ha pins s σ H (λc H1=>Q (!c) H1) I h)
def ym(ta tb:TE):TE:=λσ H Q=>ta σ H λx H1=>∃c,x=.bl c/\if c=true then tb σ H1 Q else Q (.bl false) H1
def F8(ta tb:TE):TE:=λσ H Q=>ta σ H λx H1=>∃c,x=.bl c/\if c=true then Q (.bl true) H1 else tb σ H1 Q
def yf(ta:TE):TE:=λσ H Q=>ta σ H λx H1=>∃c,x=.bl c/\Q (.bl (!c)) H1
theorem b7S{op}(h:PE X a t):PE X (.BoolOp op [a] pos) t:=λpins s σ H Q I hw=>BoolOp_one (h pins s σ H Q I hw)
theorem b7Z(ha:PE X a ta)(hb:PE X (.BoolOp .And (b::rest) pos) tb):PE X (.BoolOp .And (a::b::rest) pos) (ym ta tb):=by
 intro pins s σ H Q I h
 refine BoolOp_and (a9 (ha pins s σ H _ I h) λv s1 ⟨x,H1,I1,r1,q1⟩=>?_)
 obtain ⟨c,rfl,q1⟩:=q1
 cases r1
 refine tP ?_
 cases c with
 | true=>exact hb pins s1 σ H1 Q I1 q1
 | false=>exact ⟨.bl false,H1,I1,rfl,q1⟩
theorem yN(ha:PE X a ta)(hb:PE X (.BoolOp .Or (b::rest) pos) tb):PE X (.BoolOp .Or (a::b::rest) pos) (F8 ta tb):=by
 intro pins s σ H Q I h
 refine BoolOp_or (a9 (ha pins s σ H _ I h) λv s1 ⟨x,H1,I1,r1,q1⟩=>?_)
 obtain ⟨c,rfl,q1⟩:=q1
 cases r1
 refine tP ?_
 cases c with
 | false=>exact hb pins s1 σ H1 Q I1 q1
 | true=>exact ⟨.bl true,H1,I1,rfl,q1⟩
theorem b7T(ha:PE X a ta):PE X (.UnaryOp .Not a pos) (yf ta):=by
 intro pins s σ H Q I h
 refine UnaryOp_ (a9 (ha pins s σ H _ I h) λv s1 ⟨x,H1,I1,r1,q1⟩=>?_)
 obtain ⟨c,rfl,q1⟩:=q1
 cases r1
 exact not_of (tP ⟨.bl (!c),H1,I1,rfl,q1⟩)
def S8(t:TT)(ta tb:TE):TE:=λσ H Q=>t σ H λc H1=>if c=true then ta σ H1 Q else tb σ H1 Q
theorem b3a(hc:PT X c tA)(ha:PE X a ta)(hb:PE X b tb):PE X (.IfExp c a b pos) (S8 tA ta tb):=by
 intro pins s σ H Q I h
 refine wpAny_IfExp (a9 (hc pins s σ H _ I h) λd s1 ⟨H1,I1,q1⟩=>?_)
 cases d with
 | true=>exact ha pins s1 σ H1 Q I1 q1
 | false=>exact hb pins s1 σ H1 Q I1 q1
end
end L2
namespace L2
open PySem PySem.Spec PyProof.Rows
def dX(K:aA)(H:Hp)(a:Addr)(xs:List V):Prop:=
 Rd H a (.lst xs) \/
  ∃(o:Obj) (ao:Array Value) (n:Nat),K.lookup a=some o/\o.cls=.type "list" /\ o.dict=none/\o.data=.seq ao n/\ao.size<=sizeLine/\au xs ao.toList
def eJ(K:aA)(H:Hp)(a:Addr)(xs:List V):Prop:=
 Rd H a (.tup xs) \/
  ∃(o:Obj) (ao:Array Value) (n:Nat),K.lookup a=some o/\o.cls=.type "tuple" /\ o.data=.seq ao n/\ao.size<=sizeLine/\au xs ao.toList
def Ko:Value->Option V
 | .none=>some .aR
 | .bool b=>some (.bl b)
 | .int i _=>some (.int i)
 | .str x _=>some (.str x)
 | .bytes b _=>some (.Bg b)
 | .float b _=>some (.AD b)
 | .ref a=>some (.ref a)
 | .type n=>some (.ty n)
 | _=>none
theorem RelV.abs(r:RelV x u):Ko u=some x:=by
 cases x with
 | aR=>cases r;rfl
 | bl _=>cases r;rfl
 | int _=>obtain ⟨t,rfl⟩:=r;rfl
 | str _=>obtain ⟨t,rfl⟩:=r;rfl
 | Bg _=>obtain ⟨t,rfl⟩:=r;rfl
 | AD _=>obtain ⟨t,rfl⟩:=r;rfl
 | ref _=>cases r;rfl
 | ty _=>cases r;rfl
theorem RelV.inj(r:RelV x u)(q:RelV y u):x=y:=dq (r.abs.symm.trans q.abs)
theorem au.inj:∀{xs ys:List V} {us:List Value},au xs us->au ys us->xs=ys
 | _,_,_,.nil,.nil=>rfl
 | _,_,_,.cons r t,.cons r' t'=>by rw [r.inj r',au.inj t t']
section
variable {X:Cx}{pins:List (Addr×Obj)}{σ:St}{H:Hp}{s:Shared}{a:Addr}{xs ys:List V}
theorem dX.of{K:aA}(h:H a=some (.lst xs)):dX K H a xs:=.inl (.inl h)
theorem eJ.of{K:aA}(h:H a=some (.tup xs)):eJ K H a xs:=.inl (.inl h)
theorem Inv.list(I:Inv X pins σ H s)(h:dX X.K H a xs):∃ao:List Value,au xs ao/\PlainL s.heap a ao.toArray/\xs.length<=sizeLine:=by
 rcases h with h | ⟨o,ao,n,hk,hc,hd,hs,hz,r⟩
 .obtain ⟨z,ao,n,r,e⟩:=h.ok I.aY
  exact ⟨ao,r,⟨_,n,e,rfl,rfl,rfl⟩,z⟩
 .refine ⟨ao.toList,r,⟨o,n,I.uB a o hk,hc,hd,by simpa using hs⟩,?_⟩
  have e:=r.length
  simp only [gP] at e
  ext hz e
theorem Inv.tuple(I:Inv X pins σ H s)(h:eJ X.K H a xs):∃ao:List Value,au xs ao/\IsTup s.heap a ao.toArray/\xs.length<=sizeLine:=by
 rcases h with h | ⟨o,ao,n,hk,hc,hs,hz,r⟩
 .obtain ⟨z,ao,r,p⟩:=h.ok I.aY
  exact ⟨ao,r,p,z⟩
 .refine ⟨ao.toList,r,⟨o,I.uB a o hk,hc,n,by simpa using hs⟩,?_⟩
  have e:=r.length
  simp only [gP] at e
  ext hz e
theorem Inv.h7(I:Inv X pins σ H s)(h:dX X.K H a xs)(h':dX X.K H a ys):xs=ys:=by
 obtain ⟨ao,r,⟨o,n,e,_,_,d⟩,_⟩:=I.list h
 obtain ⟨its',r',⟨o',n',e',_,_,d'⟩,_⟩:=I.list h'
 rw [e] at e';cases e'
 rw [d] at d'
 injection d' with d1 _
 have:ao=its':=by simpa using congrArg Array.toList d1
 subst this
 exact r.inj r'
theorem Inv.fJ(I:Inv X pins σ H s)(h:eJ X.K H a xs)(h':eJ X.K H a ys):xs=ys:=by
 obtain ⟨ao,r,⟨o,e,_,n,d⟩,_⟩:=I.tuple h
 obtain ⟨its',r',⟨o',e',_,n',d'⟩,_⟩:=I.tuple h'
 rw [e] at e';cases e'
 rw [d] at d'
 injection d' with d1 _
 have:ao=its':=by simpa using congrArg Array.toList d1
 subst this
 exact r.inj r'
end
abbrev Cx.fm(X:Cx)(E:Value->Shared->Prop):Cx:={ X with xe:=E }
abbrev Cx.gh(X:Cx):Cx:=X.fm λ_ _=>False
theorem Cx.Ok.fm{X:Cx}(ok:X.Ok)(E:Value->Shared->Prop):(X.fm E).Ok:=
 ⟨ok.mod,ok.kind,ok.glob,ok.blt,ok.above,ok.inj,ok.has,ok.AQ,ok.hd,ok.frames,ok.CY,ok.N1,ok.bs,ok.nW,ok.pq,ok.rk,ok.eS,ok.qp⟩
theorem Cx.Ok.cN{X:Cx}(ok:(X.fm E).Ok):X.Ok:=
 ⟨ok.mod,ok.kind,ok.glob,ok.blt,ok.above,ok.inj,ok.has,ok.AQ,ok.hd,ok.frames,ok.CY,ok.N1,ok.bs,ok.nW,ok.pq,ok.rk,ok.eS,ok.qp⟩
section
variable {X:Cx}{pins:List (Addr×Obj)}{σ:St}{H:Hp}{s:Shared}{E:Value->Shared->Prop}
theorem Inv.fm(I:Inv X pins σ H s)(E:Value->Shared->Prop):Inv (X.fm E) pins σ H s:=⟨I.ok.fm E,I.os,I.bare,I.base,I.loc,I.cell,I.free,I.dZ,I.pin,I.aY,I.len⟩
theorem Inv.cN(I:Inv (X.fm E) pins σ H s):Inv X pins σ H s:=⟨I.ok.cN,I.os,I.bare,I.base,I.loc,I.cell,I.free,I.dZ,I.pin,I.aY,I.len⟩
theorem SP.cN(h:SP (X.fm E) pins D f s'):SP X pins D f s':=by
 cases f with
 | next=>obtain ⟨aD,H',I,q⟩:=h;exact ⟨aD,H',I.cN,q⟩
 | brk=>obtain ⟨aD,H',I,q⟩:=h;exact ⟨aD,H',I.cN,q⟩
 | cont=>obtain ⟨aD,H',I,q⟩:=h;exact ⟨aD,H',I.cN,q⟩
 | ret u=>obtain ⟨v,aD,H',I,r,q⟩:=h;exact ⟨v,aD,H',I.cN,r,q⟩
theorem PE.gh(h:PE X.gh e t):PE X e t:=λpins s σ H Q I hw =>
 jG (h pins s σ H Q (I.fm _) hw) (λ_ _ ⟨v,H',I',r,q⟩=>⟨v,H',I'.cN,r,q⟩) λ_ _ z=>iI z
theorem PT.gh(h:PT X.gh e t):PT X e t:=λpins s σ H Q I hw =>
 jG (h pins s σ H Q (I.fm _) hw) (λ_ _ ⟨H',I',q⟩=>⟨H',I'.cN,q⟩) λ_ _ z=>iI z
theorem nG.gh{st:List Stmt}{t:TS}(h:nG X.gh st t):nG X st t:=λpins s σ H D I hw =>
 jG (h pins s σ H D (I.fm _) hw) (λ_ _ q=>q.cN) λ_ _ z=>iI z
end
section
variable {X:Cx}{st:Stmt}{rest:List Stmt}{t u:TS}{e:Expr}{te:TE}{pos:Pos}
def yg:TS:=λD σ H=>D.nx σ H
def F6(t u:TS):TS:=λD σ H=>t { D with nx:=u D } σ H
theorem b5D:nG X [] yg:=λ_ _ σ H _ I h=>D7 ⟨σ,H,I,h⟩
theorem b22(h1:PS X st t)(h2:nG X rest u):nG X (st::rest) (F6 t u):=by
 intro pins s σ H D I h
 refine wpAny_execs_cons (a9 (h1 pins s σ H { D with nx:=u D } I h) λf s1 q=>?_)
 cases f with
 | next =>
  obtain ⟨aD,H',I',q⟩:=q
  exact h2 pins s1 aD H' D I' q
 | ret v=>exact q
 | brk=>exact q
 | cont=>exact q
theorem b5C(h1:PS X st t):nG X [st] t:=by
 intro pins s σ H D I h
 refine wpAny_execs_cons (a9 (h1 pins s σ H D I h) λf s1 q=>?_)
 cases f with
 | next=>exact D7 q
 | ret v=>exact q
 | brk=>exact q
 | cont=>exact q
def b7B:TS:=λD σ H=>D.bk σ H
theorem b24:PS X (.Break pos) b7B:=λ_ _ σ H _ I h=>wpAny_Break ⟨σ,H,I,h⟩
theorem Inv.quiet{pins:List (Addr×Obj)}{σ:St}{H:Hp}{s:Shared}(I:Inv X pins σ H s):interactive X.env=false:=by simp [interactive,I.ok.kind]
def yh(te:TE):TS:=λD σ H=>te σ H λ_ H1=>D.nx σ H1
theorem Qb(he:PE X e te)(hs:swapsWith e none pos.line X.env=pure false:=by rfl):PS X (.Expr e pos) (yh te):=by
 intro pins s σ H D I h
 exact wpAny_Expr_any (a9 (he pins s σ H _ I h) λv s1 ⟨x,H1,I1,r1,q1⟩=>⟨σ,H1,I1,q1⟩) I.quiet hs
def F7(te:TE):TS:=λD σ H=>te σ H D.rt
theorem Pu(he:PE X e te):PS X (.Return (some e) pos) (F7 te):=by
 intro pins s σ H D I h
 exact wpAny_Return_some (a9 (he pins s σ H _ I h) λv s1 ⟨x,H1,I1,r1,q1⟩=>⟨x,σ,H1,I1,r1,q1⟩)
def Gb(c:TT)(t u:TS):TS:=λD σ H=>c σ H λb H1=>if b=true then t D σ H1 else u D σ H1
theorem yI(hc:PT X c tc)(ha:nG X a t)(hb:nG X b u):PS X (.If c a b pos) (Gb tc t u):=by
 intro pins s σ H D I h
 refine wpAny_If (a9 (hc pins s σ H _ I h) λd s1 ⟨H1,I1,q1⟩=>?_)
 cases d with
 | true=>exact ha pins s1 σ H1 D I1 q1
 | false=>exact hb pins s1 σ H1 D I1 q1
end
abbrev TG:=V->St->Hp->(St->Hp->Prop)->Prop
abbrev t9:=List V->St->Hp->(St->Hp->Prop)->Prop
def PG(X:Cx)(target:Expr)(t:TG):Prop:=
 ∀(pins:List (Addr×Obj)) (s:Shared) (σ:St) (H:Hp) (v:V) (u:Value) (Q:St->Hp->Prop),Inv X pins σ H s->RelV v u->t v σ H Q ->
  wpAny (model X.prog X.w) X.A (assign target X.env u) (λ_ s'=>∃aD H',Inv X pins aD H' s'/\Q aD H') X.xe s
def CG(X:Cx)(ts:List Expr)(t:t9):Prop:=
 ∀(pins:List (Addr×Obj)) (s:Shared) (σ:St) (H:Hp) (vs:List V) (us:List Value) (Q:St->Hp->Prop),Inv X pins σ H s->au vs us->t vs σ H Q ->
  wpAny (model X.prog X.w) X.A (assignInOrder ((assignEach ts X.env).map (·.2)) us) (λ_ s'=>∃aD H',Inv X pins aD H' s'/\Q aD H') X.xe s
abbrev qb:=V->V->V->Hp->(Hp->Prop)->Prop
def v5(X:Cx)(t:qb):Prop:=
 ∀(pins:List (Addr×Obj)) (s:Shared) (σ:St) (H:Hp) (o i v:V) (ov iv u:Value) (Q:Hp->Prop),Inv X pins σ H s->RelV o ov->RelV i iv->RelV v u->t o i v H Q ->
  wpAny (model X.prog X.w) X.A (setItem ov iv u) (λ_ s'=>∃H',Inv X pins σ H' s'/\Q H') X.xe s
abbrev CC:=V->V->Hp->VK->Prop
def CF(X:Cx)(op:Operator)(t:CC):Prop:=
 ∀(pins:List (Addr×Obj)) (s:Shared) (σ:St) (H:Hp) (x y:V) (v u:Value) (Q:VK),Inv X pins σ H s->RelV x v->RelV y u->t x y H Q ->
  wpAny (model X.prog X.w) X.A (inplaceOp op v u) (EP X pins σ Q) X.xe s
section
variable {X:Cx}{pos:Pos}
def OX(i:Nat):TG:=λv σ H Q=>Q (σ.set i (some v)) H
theorem b5J(hN:X.N.Nodup)(hi:X.N[i]?=some x)(hx:Loc X.env.scope x)(hf:X.fn x=true\/X.env.scope.names.lookup x=some .local:=by first | exact .inl rfl | exact .inr rfl | assumption):PG X (.Name x pos) (OX i):=by
 intro pins s σ H v u Q I r h
 exact wpAny_assign_Name (K9 I hN hi hx r (λs' I'=>⟨_,H,I',h⟩) hf)
def Ic:t9:=λvs σ H Q=>vs=[]/\Q σ H
def Av(t:TG)(u:t9):t9:=λvs σ H Q=>∃v r,vs=v::r/\t v σ H λaD H'=>u r aD H' Q
theorem b5I:CG X [] Ic:=by
 intro pins s σ H vs us Q I r h
 obtain ⟨e,h⟩:=h
 subst e
 cases r
 exact assignInOrder_nil ⟨σ,H,I,h⟩
theorem b27{e:Expr}{es:List Expr}{t:TG}{u:t9}(h1:PG X e t)(h2:CG X es u)
  (hs:(assignEach (e::es) X.env).map (·.2)=assign e X.env::(assignEach es X.env).map (·.2):=by rfl):CG X (e::es) (Av t u):=by
 intro pins s σ H vs us Q I r h
 obtain ⟨v,vr,e1,h⟩:=h
 subst e1
 cases r with
 | cons r rr =>
  rw [hs]
  refine assignInOrder_cons (a9 (h1 pins s σ H _ _ _ I r h) λ_ s1 ⟨iH,H1,I1,q1⟩=>?_)
  exact h2 pins s1 iH H1 _ _ Q I1 rr q1
def Ib(K:aA)(n:Nat)(t:t9):TG:=λv σ H Q=>∃a xs,v=.ref a/\eJ K H a xs/\xs.length=n/\t xs σ H Q
theorem b7P{es:List Expr}{k:Nat}{t:t9}{n:Nat}(hc:X.calm=true)(h:CG X es t)
  (hn:(assignEach es X.env).length=n:=by rfl)(Dj:(assignEach es X.env).findIdx? (·.1)=none:=by rfl):PG X (.Tuple es k pos) (Ib X.K n t):=by
 intro pins s σ H v u Q I r hw
 obtain ⟨a,xs,e1,hq,hl,hw⟩:=hw
 subst e1
 cases r
 obtain ⟨ao,rv,ht,hz⟩:=I.tuple hq
 refine assign_Tuple_tuple (I.ok.hd hc) ht (by simp [hn,<-hl,rv.length]) Dj λh' hx=>?_
 have I1:Inv X pins σ H { s with heap:=h' }:=I.kept (t':=s.toks) λb o e=>hx b o (dE (bJ e)) e
 exact h pins _ σ H xs _ Q I1 (by simpa using rv) hw
def c6(to ti:TE)(t:qb):TG:=λv σ H Q=>to σ H λo H1=>ti σ H1 λi H2=>t o i v H2 λH3=>Q σ H3
theorem b7Q{o i:Expr}{to ti:TE}{t:qb}(ho:PE X o to)(hi:PE X i ti)(hs:v5 X t)
  (ha:∀v,assign (.Subscript o i pos) X.env v=(do
   let ov <-holding [v] (eval o X.env)
   let iv <-holding [v,ov] (eval i X.env)
   standAt pos
   holding [v,ov,iv] (setItem ov iv v)
   release [v,ov,iv] []):=by intro _;rfl):PG X (.Subscript o i pos) (c6 to ti t):=by
 intro pins s σ H v u Q I r h
 rw [ha]
 refine ar (pO (a9 (ho pins s σ H _ I h) λov s1 ⟨x,H1,I1,r1,q1⟩=>?_))
 refine ar (pO (a9 (hi pins s1 σ H1 _ I1 q1) λiv s2 ⟨y,H2,I2,r2,q2⟩=>?_))
 refine ar (IJ (ar (pO (a9 (hs pins s2 σ H2 x y v ov iv u _ I2 r1 r2 r q2) λ_ s3 ⟨H3,I3,q3⟩=>?_))))
 exact wpAny_release ⟨σ,H3,I3,q3⟩
def yk(te:TE)(g:TG):TS:=λD σ H=>te σ H λx H1=>g x σ H1 D.nx
theorem Pr{tg e:Expr}{te:TE}{g:TG}(he:PE X e te)(hg:PG X tg g)(hs:swapsWithSole [tg] e pos.line X.env=pure false:=by rfl)(hw:swappedStores [tg] e X.env=pure none:=by rfl)
  (h1:(assignEach [tg] X.env).map (·.2)=[assign tg X.env]:=by rfl):PS X (.Assign [tg] e pos) (yk te g):=by
 intro pins s σ H D I h
 refine wpAny_Assign_stores (a9 (he pins s σ H _ I h) λv s1 ⟨x,H1,I1,r1,q1⟩=>?_) hs hw
 rw [h1]
 exact a9 (hg pins s1 σ H1 x v _ I1 r1 q1) λ_ s2 q=>q
theorem J2(hN:X.N.Nodup)(hi:X.N[i]?=some x)(hx:Loc X.env.scope x)(he:PE X e te)(hs:swapsWith e (some (.Name x pos')) pos.line X.env=pure false:=by rfl)(hf:X.fn x=true\/X.env.scope.names.lookup x=some .local:=by first | exact .inl rfl | exact .inr rfl | assumption):
  PS X (.Assign [.Name x pos'] e pos) (yk te (OX i)):=by
 intro pins s σ H D I h
 refine wpAny_Assign_Name (a9 (he pins s σ H _ I h) λv s1 ⟨y,H1,I1,r1,q1⟩=>?_) hs
 exact K9 I1 hN hi hx r1 (λs2 I2=>⟨_,H1,I2,q1⟩) hf
def Gf(i:Nat)(te:TE)(ti:CC):TS:=λD σ H=>∃x,σ[i]?=some (some x)/\te σ H λy H1=>ti x y H1 λz H2=>D.nx (σ.set i (some z)) H2
theorem J0(hN:X.N.Nodup)(hi:X.N[i]?=some x)(hx:Loc X.env.scope x)(he:PE X e te)(ho:CF X op ti)(hf:X.fn x=true\/X.env.scope.names.lookup x=some .local:=by first | exact .inl rfl | exact .inr rfl | assumption):
  PS X (.AugAssign (.Name x pos') op e pos) (Gf i te ti):=by
 intro pins s σ H D I h
 obtain ⟨v,e1,h⟩:=h
 obtain ⟨m,hn,hl⟩:=I.loc
 have qd:gU X.env.scope x:=by rcases hx with k | k;exact .inl k;exact .inr (.inl k)
 obtain ⟨u,r,l⟩:=hl i x v hi e1 qd
 refine wpAny_AugAssign_Name ?_
 have go:wpAny (model X.prog X.w) X.A (eval e X.env) (λw ko=>wpAny (model X.prog X.w) X.A (inplaceOp op u w) (λr oX=>wpAny (model X.prog X.w) X.A (storeName X.env x r) (λ_=>SP X pins D .next) X.xe oX) X.xe ko) X.xe s:=by
  refine a9 (he pins s σ H _ I h) λw s1 ⟨y,H1,I1,r1,q1⟩=>?_
  refine a9 (ho pins s1 σ H1 v y u w _ I1 r r1 q1) λz s2 ⟨zv,H2,I2,r2,q2⟩=>?_
  exact K9 I2 hN hi hx r2 (λs3 I3=>⟨_,H2,I3,q2⟩) hf
 rcases l with ⟨hk,hm⟩ | ⟨hk,c,hc,dJ⟩
 .exact wpAny_loadName_local I.ok.kind hk hn hm go
 .rcases hk with hk | hk
  .exact wpAny_loadName_cell I.ok.kind hk hc dJ go
  .rcases hx with k | k
   .have:X.env.scope.names.lookup x=some .free:=hk
    rw [k] at this;cases this
   .have:X.env.scope.names.lookup x=some .free:=hk
    rw [k] at this;cases this
def yj(to ti te:TE)(qK:V->V->Hp->VK->Prop)(CV:CC)(qI:qb):TS:=λD σ H=>to σ H λo H1=>ti σ H1 λi H2=>qK o i H2 λx H3=>te σ H3 λy H4=>CV x y H4 λz H5=>qI o i z H5 λH6=>D.nx σ H6
def CH(X:Cx)(t:V->V->Hp->VK->Prop):Prop:=
 ∀(pins:List (Addr×Obj)) (s:Shared) (σ:St) (H:Hp) (o i:V) (ov iv:Value) (Q:VK),Inv X pins σ H s->RelV o ov->RelV i iv->t o i H Q ->
  wpAny (model X.prog X.w) X.A (getItem ov iv) (EP X pins σ Q) X.xe s
theorem b5E{o i e:Expr}{to ti te:TE}{qK:V->V->Hp->VK->Prop}{CV:CC}{qI:qb}{op:Operator}{xX:Pos}(ho:PE X o to)(hi:PE X i ti)(hg:CH X qK)(he:PE X e te)(hp:CF X op CV)(hs:v5 X qI)
  (ha:∀ov iv new,augStore i ov iv new=(do holding [new,ov,iv] (setItem ov iv new);release [new,ov,iv] [];pure .next):=by intros;rfl):PS X (.AugAssign (.Subscript o i xX) op e pos) (yj to ti te qK CV qI):=by
 intro pins s σ H D I h
 refine wpAny_AugAssign_SubscriptAny (a9 (ho pins s σ H _ I h) λov s1 ⟨x1,H1,I1,r1,q1⟩=>?_) ha
 refine a9 (hi pins s1 σ H1 _ I1 q1) λiv s2 ⟨x2,H2,I2,r2,q2⟩=>?_
 refine a9 (hg pins s2 σ H2 x1 x2 ov iv _ I2 r1 r2 q2) λold s3 ⟨x3,H3,I3,r3,q3⟩=>?_
 refine a9 (he pins s3 σ H3 _ I3 q3) λv s4 ⟨x4,H4,I4,r4,q4⟩=>?_
 refine a9 (hp pins s4 σ H4 x3 x4 old v _ I4 r3 r4 q4) λnew s5 ⟨x5,H5,I5,r5,q5⟩=>?_
 exact a9 (hs pins s5 σ H5 x1 x2 x5 ov iv new _ I5 r1 r2 r5 q5) λ_ s6 ⟨H6,I6,q6⟩=>⟨σ,H6,I6,q6⟩
def Nt(f:Int->Int->Int):CC:=λx y H Q=>∃i j,x=.int i/\y=.int j/\Q (.int (f i j)) H
theorem PR:CF X .Add (Nt λi j=>i+j):=by
 intro pins s σ H x y v u Q I r1 r2 h
 obtain ⟨i,j,e1,e2,q⟩:=h
 subst e1;subst e2
 obtain ⟨t,rfl⟩:=r1
 obtain ⟨t',rfl⟩:=r2
 exact iadd_int ⟨.int _,H,I.tok _,⟨_,rfl⟩,q⟩
theorem b8l:CF X .Sub (Nt λi j=>i-j):=by
 intro pins s σ H x y v u Q I r1 r2 h
 obtain ⟨i,j,e1,e2,q⟩:=h
 subst e1;subst e2
 obtain ⟨t,rfl⟩:=r1
 obtain ⟨t',rfl⟩:=r2
 exact isub_int ⟨.int _,H,I.tok _,⟨_,rfl⟩,q⟩
end
section
variable {X:Cx}{pos:Pos}
def b7w(c:TT)(tb:TS):TS:=λD σ H=>∃W:Nat->St->Hp->Prop,(∃m,W m σ H)/\∀m σ H,W m σ H ->
 c σ H λb H1=>if b=true then ∃N:St->Hp->Prop,(∀aD H',N aD H'->∃m',m'<m/\W m' aD H')/\tb { D with nx:=N,ct:=N,bk:=D.nx } σ H1 else D.nx σ H1
theorem b23(hp:PassesOwn (model X.prog X.w) X.A X.env X.xe)(hc:PT X c tc)(hb:nG X body tb):PS X (.While c body [] pos) (b7w tc tb):=by
 intro pins s σ H D I h
 obtain ⟨W,⟨m0,w0⟩,turn⟩:=h
 refine wpAny_While (codeAny_whileLoop (λn s'=>∃aD H',Inv X pins aD H' s'/\W n aD H') ?_ m0 ⟨σ,H,I,w0⟩)
 rintro n s1 ⟨iH,H1,I1,w1⟩
 refine vf hp (a9 (hc pins s1 iH H1 _ I1 (turn n iH H1 w1)) λb s2 ⟨H2,I2,q2⟩=>?_)
 cases b with
 | true =>
  obtain ⟨N,hN,q2⟩:=q2
  rw [if_pos rfl]
  refine vf hp (a9 (hb pins s2 iH H2 _ I2 q2) λf s3 q3=>?_)
  cases f with
  | next =>
   obtain ⟨jo,H3,I3,n3⟩:=q3
   obtain ⟨m',hm,w3⟩:=hN jo H3 n3
   exact ⟨m',hm,jo,H3,I3,w3⟩
  | cont =>
   obtain ⟨jo,H3,I3,n3⟩:=q3
   obtain ⟨m',hm,w3⟩:=hN jo H3 n3
   exact ⟨m',hm,jo,H3,I3,w3⟩
  | brk=>exact q3
  | ret v=>exact q3
 | false =>
  rw [if_neg my]
  exact D7 ⟨iH,H2,I2,q2⟩
end
structure It where
 go:Nat->Hp->Prop
 uc:Nat->Hp->V->Hp->Prop
 stop:Nat->Hp->Prop
def cV(X:Cx)(pins:List (Addr×Obj))(H:Hp)(b:Addr):Prop:=
 H b=none/\b≠X.env.locals/\b∉X.fs/\(b∈X.ex\/X.cS.heap.objs.size<=b)/\(∀x c,X.env.cells.lookup x=some c->c≠b)/\∀p∈X.pn++pins,p.1≠b
theorem Inv.jC{X:Cx}{pins:List (Addr×Obj)}{σ:St}{H H':Hp}{s:Shared}{b:Addr}(I:Inv X pins σ H s)(hb:s.heap.objs.size<=b)(hn:H' b=none):cV X pins H' b:=by
 refine ⟨hn,vt (jl I.lt hb),I.GO hb,.inr (fg I.sz hb),λx c e z=>?_,λp hp z=>?_⟩
 .obtain ⟨v,q⟩:=I.cell x c e
  exact absurd (jl q.lt (by rw [z];exact hb)) (oH _)
 .exact absurd (jl (bJ (I.pin p hp).1) (by rw [z];exact hb)) (oH _)
structure Turn(P:Program)(w:World)(K:aA)(tg:Expr)(J:It)(fp:List Addr)(it:Addr)(tn:Nat->Heap->Prop):Prop where
 mem:it∈fp
 obj:∀i h,tn i h->∀b∈fp,∃o,h.get? b=some o/\∀v,o.data≠.cell v
 keep:∀i h h',tn i h->(∀b∈fp,∀o,h.get? b=some o->h'.get? b=some o)->tn i h'
 item:∀(X:Cx),X.prog=P->X.w=w->X.K=K->X.calm=true->∀(i:Nat) (pins:List (Addr×Obj)) (s:Shared) (σ:St) (H:Hp) (E:Value->Shared->Prop),Inv X pins σ H s->(∀b∈fp,cV X pins H b)->tn i s.heap->J.go i H ->
  wpAny (model P w) X.A (pyNext (.ref it)) (λr s1=>∃u,r=some u /\
   wpAny (model P w) X.A (letOwnedTupleGo tg (.ref it) u) (λ_ s2=>∃x H',Inv X pins σ H' s2/\RelV x u/\J.uc i H x H'/\tn (i+1) s2.heap/\∀b∈fp,H' b=none) E s1) E s
 done:∀(X:Cx),X.prog=P->X.w=w->X.K=K->X.calm=true->∀(i:Nat) (pins:List (Addr×Obj)) (s:Shared) (σ:St) (H:Hp) (E:Value->Shared->Prop),Inv X pins σ H s->(∀b∈fp,cV X pins H b)->tn i s.heap->J.stop i H ->
  wpAny (model P w) X.A (pyNext (.ref it)) (λr s1=>r=none/\Inv X pins σ H s1) E s
 self:∀(A:Around) (i:Nat) (s:Shared) (Q:Value->Shared->Prop) (E:Value->Shared->Prop),tn i s.heap->Q (.ref it) s->wpAny (model P w) A (pyIter (.ref it)) Q E s
abbrev TI:=St->Hp->(It->Hp->Prop)->Prop
def MR(X:Cx)(pins:List (Addr×Obj))(σ:St)(tg:Expr)(R:It->Hp->Prop)(G1:Value)(s2:Shared):Prop:=
 ∃(it:Addr) (fp:List Addr) (tn:Nat->Heap->Prop) (J:It) (H':Hp),G1=.ref it/\Inv X pins σ H' s2/\Turn X.prog X.w X.K tg J fp it tn/\tn 0 s2.heap/\(∀b∈fp,cV X pins H' b)/\R J H'
def PI(X:Cx)(tg iter:Expr)(wi:TI):Prop:=
 ∀(pins:List (Addr×Obj)) (s:Shared) (σ:St) (H:Hp) (R:It->Hp->Prop),Inv X pins σ H s->wi σ H R ->
  wpAny (model X.prog X.w) X.A (eval iter X.env) (λv s1=>wpAny (model X.prog X.w) X.A (pyIter v) (MR X pins σ tg R) X.xe s1) X.xe s
theorem EE(ho:s.heap.get? it=some o)(hc:o.cls=.type n)(hd:o.data=.fields vs)
  (hn:["enumerate","zip","dict_itemiterator","dict_reverseitemiterator","odict_iterator","itertools.zip_longest","itertools.pairwise"].contains n=false)(hQ:Q () s):wpAny M A (letOwnedTupleGo tg (.ref it) u) Q E s:=by
 unfold letOwnedTupleGo
 cases tg<;>first
  | exact aZ hQ
  | (cases u<;>first
    | exact aZ hQ
    | (refine ar (wpAny_load ho ?_)
       rw [hc,hd]
       show wpAny M A (if (["enumerate","zip","dict_itemiterator","dict_reverseitemiterator","odict_iterator","itertools.zip_longest","itertools.pairwise"].contains n&&vs[0]?==some (rawInt _))=true then _ else _) Q E s
       rw [if_neg (by intro h;rw [hn,Jj] at h;cases h)]
       exact aZ hQ))
def xR(K:aA)(a:Addr):It:=
 ⟨λi H=>∃xs x,dX K H a xs/\xs[i]?=some x,λi H x H'=>H'=H/\∀xs,dX K H a xs->xs[i]?=some x,λi H=>∃xs,dX K H a xs/\xs.length<=i⟩
def CL(K:aA)(a:Addr):It:=
 ⟨λi H=>∃xs x,eJ K H a xs/\xs[i]?=some x,λi H x H'=>H'=H/\∀xs,eJ K H a xs->xs[i]?=some x,λi H=>∃xs,eJ K H a xs/\xs.length<=i⟩
def oz(lo:Int)(n:Nat):It:=⟨λi _=>i<n,λi H x H'=>H'=H/\x=.int (lo+i),λi _=>n<=i⟩
theorem b0T{P:Program}{w:World}{K:aA}{tg:Expr}(a it:Addr):Turn P w K tg (xR K a) [it] it (λi h=>h.IsListIter it a i) where
 mem:=by simp
 obj:=λi h st b hb=>by
  have e:b=it:=by simpa using hb
  subst e
  obtain ⟨o,e,c,d⟩:=st
  exact ⟨o,e,λv z=>by rw [d] at z;cases z⟩
 keep:=λi h h' st k=>st.at λo e=>k it (by simp) o e
 item:=by
  intro X hP hw hK hc i pins s σ H E I hf st hg
  subst hP hw hK
  obtain ⟨xs,x,hq,hx⟩:=hg
  obtain ⟨ao,rv,p,hz⟩:=I.list hq
  obtain ⟨u,hu,ru⟩:=rv.get hx
  obtain ⟨f0,f1,f2,f3,f4,f5⟩:=hf it (by simp)
  refine wpAny_pyNext_list_item st p.isList (x:=u) (by simpa using hu) λh' ak sb=>?_
  have I1:Inv X pins σ H { s with heap:=h' }:=I.turned (t':=s.toks) (λb o hb e=>(sb.2 b hb).trans e) f0 f1 f3 f4 f5
  obtain ⟨o,e,c,d⟩:=id ak
  exact ⟨u,rfl,EE (s:={ s with heap:=h' }) e c d (by decide) ⟨x,H,I1,ru,⟨rfl,λys hy=>by rw [I.h7 hy hq];exact hx⟩,ak,λb hb=>(hf b hb).1⟩⟩
 done:=by
  intro X hP hw hK hc i pins s σ H E I hf st hg
  subst hP hw hK
  obtain ⟨xs,hq,hx⟩:=hg
  obtain ⟨ao,rv,p,hz⟩:=I.list hq
  obtain ⟨f0,f1,f2,f3,f4,f5⟩:=hf it (by simp)
  have hl:=rv.length
  exact wpAny_pyNext_list_end (I.ok.hd hc) st p.isList (by simp;ext hx hl) λh' eb=>⟨rfl,I.turned (t':=s.toks) (λb o hb e=>eb b o hb e) f0 f1 f3 f4 f5⟩
 self:=λ_ _ _ _ _ st h=>wpAny_pyIter_listiter st h
theorem b0g{P:Program}{w:World}{K:aA}{tg:Expr}(a it:Addr):Turn P w K tg (CL K a) [it] it (λi h=>h.IsTupleIter it a i) where
 mem:=by simp
 obj:=λi h st b hb=>by
  have e:b=it:=by simpa using hb
  subst e
  obtain ⟨o,e,c,d⟩:=st
  exact ⟨o,e,λv z=>by rw [d] at z;cases z⟩
 keep:=λi h h' st k=>st.at λo e=>k it (by simp) o e
 item:=by
  intro X hP hw hK hc i pins s σ H E I hf st hg
  subst hP hw hK
  obtain ⟨xs,x,hq,hx⟩:=hg
  obtain ⟨ao,rv,p,hz⟩:=I.tuple hq
  obtain ⟨u,hu,ru⟩:=rv.get hx
  obtain ⟨f0,f1,f2,f3,f4,f5⟩:=hf it (by simp)
  refine wpAny_pyNext_tuple_item st (show s.heap.IsTuple a ao.toArray from p) (x:=u) (by simpa using hu) λh' ak sb=>?_
  have I1:Inv X pins σ H { s with heap:=h' }:=I.turned (t':=s.toks) (λb o hb e=>(sb.2 b hb).trans e) f0 f1 f3 f4 f5
  obtain ⟨o,e,c,d⟩:=id ak
  exact ⟨u,rfl,EE (s:={ s with heap:=h' }) e c d (by decide) ⟨x,H,I1,ru,⟨rfl,λys hy=>by rw [I.fJ hy hq];exact hx⟩,ak,λb hb=>(hf b hb).1⟩⟩
 done:=by
  intro X hP hw hK hc i pins s σ H E I hf st hg
  subst hP hw hK
  obtain ⟨xs,hq,hx⟩:=hg
  obtain ⟨ao,rv,p,hz⟩:=I.tuple hq
  obtain ⟨f0,f1,f2,f3,f4,f5⟩:=hf it (by simp)
  have hl:=rv.length
  exact wpAny_pyNext_tuple_end (I.ok.hd hc) st (show s.heap.IsTuple a ao.toArray from p) (by simp;ext hx hl) λh' eb=>⟨rfl,I.turned (t':=s.toks) (λb o hb e=>eb b o hb e) f0 f1 f3 f4 f5⟩
 self:=λ_ _ _ _ _ st h=>wpAny_pyIter_tupleiter st h
theorem RR{P:Program}{w:World}{K:aA}{tg:Expr}(it:Addr)(lo:Int)(n:Nat):Turn P w K tg (oz lo n) [it] it (λi h=>IsRangeIter h it (lo+(i:Nat)*1) ((n:Int)-(i:Nat)) 1) where
 mem:=by simp
 obj:=λi h st b hb=>by
  have e:b=it:=by simpa using hb
  subst e
  exact ⟨_,st,λv z=>by
   have z':DV _=wC v:=z
   cases z'⟩
 keep:=λi h h' st k=>k it (by simp) _ st
 item:=by
  intro X hP hw hK hc i pins s σ H E I hf st hg
  subst hP hw hK
  obtain ⟨f0,f1,f2,f3,f4,f5⟩:=hf it (by simp)
  have W:=Walks.range (prog:=X.prog) (w:=X.w) (I.ok.hd hc) it lo 1 n
  refine W.item i s _ _ hg st λv h' tk hv ak kk=>?_
  obtain ⟨t,rfl⟩:=hv
  have I1:Inv X pins σ H { s with heap:=h',toks:=tk }:=I.turned (λb o hb e=>kk b o (by simpa using hb) e) f0 f1 f3 f4 f5
  refine ⟨_,rfl,EE (s:={ s with heap:=h',toks:=tk }) (n:="range_iterator") ak rfl rfl (by decide) ⟨.int (lo+i),H,I1,⟨t,?_⟩,⟨rfl,rfl⟩,ak,λb hb=>(hf b hb).1⟩⟩
  rw [AW]
 done:=by
  intro X hP hw hK hc i pins s σ H E I hf st hg
  subst hP hw hK
  obtain ⟨f0,f1,f2,f3,f4,f5⟩:=hf it (by simp)
  exact wpAny_pyNext_range_end (I.ok.hd hc) st (by have:n<=i:=hg;ext this) λh' eb=>⟨rfl,I.turned (t':=s.toks) (λb o hb e=>eb b o hb e) f0 f1 f3 f4 f5⟩
 self:=λ_ _ _ _ _ st h=>wpAny_pyIter_rangeiter st h
end L2
namespace L2
open PySem PySem.Spec PyProof.Rows
section
variable {X:Cx}{tg:Expr}
theorem b2Z{pins:List (Addr×Obj)}{σ:St}{H:Hp}{s:Shared}{R:It->Hp->Prop}{E:Value->Shared->Prop}{lo hi:Int}{t u v:Tok}{tk:Nat}(I:Inv X pins σ H s)(h1:-(2^62)<=lo)(h2:lo<2^62)(h3:-(2^62)<=hi)(h4:hi<2^62)
  (q:R (oz lo (hi-lo).toNat) H):wpAny (model X.prog X.w) X.A (pyIter (.ref s.heap.objs.size)) (MR X pins σ tg R) E { s with heap:=s.heap.push { cls:=.type "range",data:=.fields #[.int lo t,.int hi u,.int 1 v] },toks:=tk }:=by
 refine wpAny_pyIter_range (IM ..) (small_one h1 h2 h3 h4) ?_
 have I1:Inv X pins σ H { s with heap:=s.heap.push { cls:=.type "range",data:=.fields #[.int lo t,.int hi u,.int 1 v] },toks:=tk }:=I.kept λb o e=>bI _ e
 refine ⟨(s.heap.push { cls:=.type "range",data:=.fields #[.int lo t,.int hi u,.int 1 v] }).objs.size,[(s.heap.push { cls:=.type "range",data:=.fields #[.int lo t,.int hi u,.int 1 v] }).objs.size],_,_,H,rfl,
  I1.kept (t':=tk) λb o e=>bI _ e,RR _ lo (hi-lo).toNat,?_,λb hb=>?_,q⟩
 .have e1:lo+((0:Nat):Int)*1=lo:=by simp
  have e2:(((hi-lo).toNat:Nat):Int)-((0:Nat):Int)=Es lo hi 1:=by rw [DH];split<;>lia
  show IsRangeIter _ _ (lo+((0:Nat):Int)*1) ((((hi-lo).toNat:Nat):Int)-((0:Nat):Int)) 1
  rw [e1,e2]
  exact eG _ rfl
 .have e:b=(s.heap.push { cls:=.type "range",data:=.fields #[.int lo t,.int hi u,.int 1 v] }).objs.size:=by simpa using hb
  subst e
  exact I1.jC (bh _) (I1.aY.fresh (bh _))
def zw(ta:TA):TI:=λσ H R=>ta σ H λvs H1=>∃j:Int,vs=[.int j] /\ -(2^62)<=j/\j<2^62/\R (oz 0 j.toNat) H1
theorem b1k(hg:Gl X "range")(hm:X.mg "range" = none)(ha:PA X [a] ta)(hs:starEach [a] X.env=[(false,eval a X.env)]:=by rfl):PI X tg (.Call (.Name "range" p) [a] [] pos) (zw ta):=by
 intro pins s σ H R I h
 refine Call_ (rW I hg hm boot_range (Bf (a9 (ha pos pins s σ H _ I h) λus s1 ⟨vs,H1,I1,r1,q1⟩=>?_) hs rfl))
 obtain ⟨j,e,q1,q2,q⟩:=q1
 subst e
 cases r1 with
 | cons r rr =>
  cases rr
  obtain ⟨t,rfl⟩:=r
  exact call_range_1 (b2Z I1 (by decide) (by decide) q1 q2 (by simpa using q))
def Gc(wi:TI)(g:TG)(tb:TS):TS:=λD σ H=>wi σ H λJ H1=>∃W:Nat->Nat->St->Hp->Prop,(∃m,W 0 m σ H1)/\∀i m σ H,W i m σ H ->
 (J.stop i H/\D.nx σ H)\/(J.go i H/\∃N:St->Hp->Prop,(∀aD H',N aD H'->∃m',m'<m/\W (i+1) m' aD H')/\∀x H',J.uc i H x H'->g x σ H' λcY H2=>tb { D with nx:=N,ct:=N,bk:=D.nx } cY H2)
def rZ(fp:List Addr)(h:Heap):List (Addr×Obj):=fp.filterMap λb=>(h.get? b).map λo=>(b,o)
theorem B9(hb:b∈fp)(e:h.get? b=some o):(b,o)∈rZ fp h:=N9.mpr ⟨b,hb,by rw [e];rfl⟩
theorem Lw(hp:p∈rZ fp h):p.1∈fp/\h.get? p.1=some p.2:=by
 obtain ⟨b,hb,e⟩:=N9.mp hp
 cases q:h.get? b with
 | none=>rw [q] at e;cases e
 | some o =>
  rw [q] at e
  have e':(b,o)=p:=dq e
  subst e'
  exact ⟨hb,q⟩
theorem Inv.pinned{pins:List (Addr×Obj)}{σ:St}{H:Hp}{s:Shared}{fp:List Addr}(I:Inv X pins σ H s)(hf:∀b∈fp,cV X pins H b)(ho:∀b∈fp,∃o,s.heap.get? b=some o/\∀v,o.data≠.cell v):Inv X (pins++rZ fp s.heap) σ H s:=
 I.fu λp hp=>(bT.mp hp).elim (λz=>I.pin p (fY _ z)) λz=>by
  obtain ⟨hb,e⟩:=Lw z
  obtain ⟨f0,f1,f2,_⟩:=hf p.1 hb
  obtain ⟨o,e',d⟩:=ho p.1 hb
  rw [e] at e';cases e'
  exact ⟨e,f0,f1,f2,d⟩
theorem Inv.gW{pins pl:List (Addr×Obj)}{σ:St}{H:Hp}{s:Shared}(I:Inv X (pins++pl) σ H s):Inv X pins σ H s:=I.fu λp hp=>I.pin p (fY _ (gR _ hp))
theorem J1(hp:PassesOwn (model X.prog X.w) X.A X.env X.xe)(hc:X.calm=true)(hi:PI X tg iter wi)(hg:PG X tg g)(hb:nG X body tb)
  (hs:∀x,foldedSetIterable iter X.env x=pure x:=by intro _;rfl):PS X (.For tg iter body [] pos) (Gc wi g tb):=by
 intro pins s σ H D I h
 refine wpAny_For (a9 (hi pins s σ H _ I h) λv s1 h1=>a9 h1 λG1 s2 h2=>?_) hs
 obtain ⟨it,fp,tn,J,H2,e,I2,T,gv,f2,W,⟨m0,w0⟩,turn⟩:=h2
 subst e
 have ug:∀{H':Hp},(∀b∈fp,H' b=none)->∀b∈fp,cV X pins H' b:=λhn b hb=>⟨hn b hb,(f2 b hb).2⟩
 refine codeAny_forLoop_any (λn s'=>∃i aD H',Inv X pins aD H' s'/\tn i s'.heap/\(∀b∈fp,H' b=none)/\W i n aD H') ?_ m0 ⟨0,σ,H2,I2,gv,λb hb=>(f2 b hb).1,w0⟩
 rintro n s3 ⟨i,jo,H3,I3,iS,Ax,w3⟩
 rcases turn i n jo H3 w3 with ⟨stop,qn⟩ | ⟨go,N,hN,step⟩
 .refine vf hp (a9 (T.done X rfl rfl rfl hc i pins s3 jo H3 X.xe I3 (ug Ax) iS stop) λr s4 ⟨hr,I4⟩=>?_)
  subst hr
  exact D7 ⟨jo,H3,I4,qn⟩
 .refine vf hp (a9 (T.item X rfl rfl rfl hc i pins s3 jo H3 X.xe I3 (ug Ax) iS go) λr s4 ⟨u,hr,h4⟩=>?_)
  subst hr
  refine vf hp (a9 h4 λ_ s5 ⟨x,H5,I5,r5,y5,uh,Ih⟩=>?_)
  have MW:=I5.pinned (ug Ih) (T.obj _ _ uh)
  refine vf hp (a9 (hg _ s5 jo H5 x u _ MW r5 (step x H5 y5)) λ_ s6 ⟨lE,H6,I6,q6⟩=>?_)
  refine vf hp (a9 (hb _ s6 lE H6 _ I6 q6) λf s7 q7=>?_)
  have again:∀{oV:St} {H7:Hp},Inv X (pins++rZ fp s5.heap) oV H7 s7->N oV H7->∃m,m<n/\∃i aD H',Inv X pins aD H' s7/\tn i s7.heap/\(∀b∈fp,H' b=none)/\W i m aD H':=λ{oV H7} I7 n7=>by
   obtain ⟨m',hm,w7⟩:=hN oV H7 n7
   refine ⟨m',hm,i+1,oV,H7,I7.gW,T.keep _ _ _ uh λb hb o e=>(I7.pin (b,o) (fY _ (fY _ (B9 hb e)))).1,λb hb=>?_,w7⟩
   obtain ⟨o,e,d⟩:=T.obj _ _ uh b hb
   exact (I7.pin (b,o) (fY _ (fY _ (B9 hb e)))).2.1
  cases f with
  | next=>obtain ⟨oV,H7,I7,n7⟩:=q7;exact again I7 n7
  | cont=>obtain ⟨oV,H7,I7,n7⟩:=q7;exact again I7 n7
  | brk=>obtain ⟨oV,H7,I7,q7⟩:=q7;exact ⟨oV,H7,I7.gW,q7⟩
  | ret v=>obtain ⟨x7,oV,H7,I7,r7,q7⟩:=q7;exact ⟨x7,oV,H7,I7.gW,r7,q7⟩
end
theorem b3H{K:aA}{a:Addr}{xs:List V}{g:TG}{tb:TS}{D:Ends}{σ:St}{H:Hp}(Pv:Nat->St->Hp->Prop)(h0:Pv 0 σ H)(hl:∀i σ H,i<=xs.length->Pv i σ H->dX K H a xs)
  (hs:∀i x σ H,xs[i]?=some x->Pv i σ H->g x σ H λcY H2=>tb { D with nx:=Pv (i+1),ct:=Pv (i+1),bk:=D.nx } cY H2)(hd:∀σ H,Pv xs.length σ H->D.nx σ H):
  ∃W:Nat->Nat->St->Hp->Prop,(∃m,W 0 m σ H)/\∀i m σ H,W i m σ H ->
   ((xR K a).stop i H/\D.nx σ H)\/((xR K a).go i H/\∃N:St->Hp->Prop,(∀aD H',N aD H'->∃m',m'<m/\W (i+1) m' aD H')/\∀x H',(xR K a).uc i H x H'->g x σ H' λcY H2=>tb { D with nx:=N,ct:=N,bk:=D.nx } cY H2):=by
 refine ⟨λi m σ H=>m=xs.length-i/\i<=xs.length/\Pv i σ H,⟨xs.length,by simp,nv _,h0⟩,?_⟩
 rintro i m σ H ⟨rfl,hi,p⟩
 have q:=hl i σ H hi p
 by_cases aT:i<xs.length
 .refine .inr ⟨⟨xs,xs[i],q,by simp [aT]⟩,Pv (i+1),λaD H' p'=>⟨xs.length-(i+1),by ext aT,rfl,aT,p'⟩,λx H' y=>?_⟩
  obtain ⟨e,y⟩:=y
  subst e
  exact hs i x σ _ (y xs q) p
 .have e:i=xs.length:=by ext hi aT
  subst e
  exact .inl ⟨⟨xs,q,bh _⟩,hd σ H p⟩
theorem b6d{K:aA}{a:Addr}{xs:List V}{g:TG}{tb:TS}{D:Ends}{σ:St}{H:Hp}(Pv:Nat->St->Hp->Prop)(h0:Pv 0 σ H)(hl:∀i σ H,i<=xs.length->Pv i σ H->eJ K H a xs)
  (hs:∀i x σ H,xs[i]?=some x->Pv i σ H->g x σ H λcY H2=>tb { D with nx:=Pv (i+1),ct:=Pv (i+1),bk:=D.nx } cY H2)(hd:∀σ H,Pv xs.length σ H->D.nx σ H):
  ∃W:Nat->Nat->St->Hp->Prop,(∃m,W 0 m σ H)/\∀i m σ H,W i m σ H ->
   ((CL K a).stop i H/\D.nx σ H)\/((CL K a).go i H/\∃N:St->Hp->Prop,(∀aD H',N aD H'->∃m',m'<m/\W (i+1) m' aD H')/\∀x H',(CL K a).uc i H x H'->g x σ H' λcY H2=>tb { D with nx:=N,ct:=N,bk:=D.nx } cY H2):=by
 refine ⟨λi m σ H=>m=xs.length-i/\i<=xs.length/\Pv i σ H,⟨xs.length,by simp,nv _,h0⟩,?_⟩
 rintro i m σ H ⟨rfl,hi,p⟩
 have q:=hl i σ H hi p
 by_cases aT:i<xs.length
 .refine .inr ⟨⟨xs,xs[i],q,by simp [aT]⟩,Pv (i+1),λaD H' p'=>⟨xs.length-(i+1),by ext aT,rfl,aT,p'⟩,λx H' y=>?_⟩
  obtain ⟨e,y⟩:=y
  subst e
  exact hs i x σ _ (y xs q) p
 .have e:i=xs.length:=by ext hi aT
  subst e
  exact .inl ⟨⟨xs,q,bh _⟩,hd σ H p⟩
theorem b1R{lo:Int}{n:Nat}{g:TG}{tb:TS}{D:Ends}{σ:St}{H:Hp}(Pv:Nat->St->Hp->Prop)(h0:Pv 0 σ H)
  (hs:∀i σ H,i<n->Pv i σ H->g (.int (lo+i)) σ H λcY H2=>tb { D with nx:=Pv (i+1),ct:=Pv (i+1),bk:=D.nx } cY H2)(hd:∀σ H,Pv n σ H->D.nx σ H):
  ∃W:Nat->Nat->St->Hp->Prop,(∃m,W 0 m σ H)/\∀i m σ H,W i m σ H ->
   ((oz lo n).stop i H/\D.nx σ H)\/((oz lo n).go i H/\∃N:St->Hp->Prop,(∀aD H',N aD H'->∃m',m'<m/\W (i+1) m' aD H')/\∀x H',(oz lo n).uc i H x H'->g x σ H' λcY H2=>tb { D with nx:=N,ct:=N,bk:=D.nx } cY H2):=by
 refine ⟨λi m σ H=>m=n-i/\i<=n/\Pv i σ H,⟨n,by simp,nv _,h0⟩,?_⟩
 rintro i m σ H ⟨rfl,hi,p⟩
 by_cases aT:i<n
 .refine .inr ⟨aT,Pv (i+1),λaD H' p'=>⟨n-(i+1),by ext aT,rfl,aT,p'⟩,λx H' y=>?_⟩
  obtain ⟨e,y⟩:=y
  subst e y
  exact hs i σ _ aT p
 .have e:i=n:=by ext hi aT
  subst e
  exact .inl ⟨bh _,hd σ H p⟩
end L2
namespace L2
open PySem PySem.Spec PyProof.Rows
abbrev R2:=V->V->Hp->VK->Prop
def gG(X:Cx)(f:Value->Value->Sem Value)(r:R2):Prop:=
 ∀(pins:List (Addr×Obj)) (s:Shared) (σ:St) (H:Hp) (x y:V) (v u:Value) (Q:VK),Inv X pins σ H s->RelV x v->RelV y u->r x y H Q ->
  wpAny (model X.prog X.w) X.A (f v u) (EP X pins σ Q) X.xe s
def MO(X:Cx)(f:Value->Sem Value)(r:V->Hp->VK->Prop):Prop:=
 ∀(pins:List (Addr×Obj)) (s:Shared) (σ:St) (H:Hp) (x:V) (v:Value) (Q:VK),Inv X pins σ H s->RelV x v->r x H Q ->
  wpAny (model X.prog X.w) X.A (f v) (EP X pins σ Q) X.xe s
def cK(X:Cx)(f:Value)(r:List V->Hp->VK->Prop):Prop:=
 ∀(pins:List (Addr×Obj)) (s:Shared) (σ:St) (H:Hp) (xs:List V) (us:List Value) (Q:VK),Inv X pins σ H s->au xs us->r xs H Q ->
  wpAny (model X.prog X.w) X.A (call f us) (EP X pins σ Q) X.xe s
def MP(X:Cx)(r:V->Hp->(Bool->Hp->Prop)->Prop):Prop:=
 ∀(pins:List (Addr×Obj)) (s:Shared) (σ:St) (H:Hp) (x:V) (v:Value) (Q:Bool->Hp->Prop),Inv X pins σ H s->RelV x v->r x H Q ->
  wpAny (model X.prog X.w) X.A (truthy v) (TP X pins σ Q) X.xe s
def ye(r:R2)(ta tb:TE):TE:=λσ H Q=>ta σ H λx H1=>tb σ H1 λy H2=>r x y H2 Q
def S5(r:V->Hp->VK->Prop)(ta:TE):TE:=λσ H Q=>ta σ H λx H1=>r x H1 Q
def rI(C:Int->Int->Prop)(g:Int->Int->V):R2:=λx y H Q=>∃i j,x=.int i/\y=.int j/\C i j/\Q (g i j) H
def uk(g:Int->Int->V):R2:=λx y H Q=>∃i j,x=.int i/\y=.int j/\Q (g i j) H
def rU(g:Int->V):V->Hp->VK->Prop:=λx H Q=>∃i,x=.int i/\Q (g i) H
section
variable {X:Cx}{a b c:Expr}{ta tb tc:TE}{pos:Pos}
theorem vG(ha:PE X a ta)(hb:PE X b tb){pins:List (Addr×Obj)}{s:Shared}{σ:St}{H:Hp}{R:V->V->Hp->Prop}(I:Inv X pins σ H s)
  (h:ta σ H λx H1=>tb σ H1 λy H2=>R x y H2){Q:Value->Shared->Prop}{f:Value->Value->Sem Value}
  (hf:∀v u s2 x y H2,Inv X pins σ H2 s2->RelV x v->RelV y u->R x y H2->wpAny (model X.prog X.w) X.A (f v u) Q X.xe s2):
  wpAny (model X.prog X.w) X.A (eval a X.env) (λv aO=>wpAny (model X.prog X.w) X.A (eval b X.env) (λu ko=>wpAny (model X.prog X.w) X.A (f v u) Q X.xe ko) X.xe aO) X.xe s:=by
 refine a9 (ha pins s σ H _ I h) λv s1 ⟨x,H1,I1,r1,q1⟩=>?_
 refine a9 (hb pins s1 σ H1 _ I1 q1) λu s2 ⟨y,H2,I2,r2,q2⟩=>?_
 exact hf v u s2 x y H2 I2 r1 r2 q2
theorem yO(ho:gG X (binaryOp op) r)(ha:PE X a ta)(hb:PE X b tb):PE X (.BinOp a op b pos) (ye r ta tb):=by
 intro pins s σ H Q I h
 exact wpAny_BinOp (vG ha hb I h λv u s2 x y H2 I2 rx ry q=>ho pins s2 σ H2 x y v u Q I2 rx ry q)
theorem yM(ho:MO X (unaryOp op) r)(ha:PE X a ta):PE X (.UnaryOp op a pos) (S5 r ta):=by
 intro pins s σ H Q I h
 exact UnaryOp_ (a9 (ha pins s σ H _ I h) λv s1 ⟨x,H1,I1,r1,q1⟩=>ho pins s1 σ H1 x v Q I1 r1 q1)
theorem we{f:Value->Value->Sem Value}{C:Int->Int->Prop}{g:Int->Int->Int}
  (rule:∀(i j:Int) (t u:Tok) (s:Shared) (Q:Value->Shared->Prop) (E:Value->Shared->Prop),C i j->Q (.int (g i j) s.toks) { s with toks:=s.toks+1 }->wpAny (model X.prog X.w) X.A (f (.int i t) (.int j u)) Q E s):
  gG X f (rI C λi j=>.int (g i j)):=by
 intro pins s σ H x y v u Q I rx ry h
 obtain ⟨i,j,rfl,rfl,hc,q⟩:=h
 obtain ⟨t,rfl⟩:=rx
 obtain ⟨t',rfl⟩:=ry
 exact rule i j t t' s _ _ hc ⟨.int (g i j),H,I.tok _,⟨_,rfl⟩,q⟩
theorem GH{f:Value->Value->Sem Value}{g:Int->Int->Int}
  (rule:∀(i j:Int) (t u:Tok) (s:Shared) (Q:Value->Shared->Prop) (E:Value->Shared->Prop),Q (.int (g i j) s.toks) { s with toks:=s.toks+1 }->wpAny (model X.prog X.w) X.A (f (.int i t) (.int j u)) Q E s):
  gG X f (uk λi j=>.int (g i j)):=by
 intro pins s σ H x y v u Q I rx ry h
 obtain ⟨i,j,rfl,rfl,q⟩:=h
 obtain ⟨t,rfl⟩:=rx
 obtain ⟨t',rfl⟩:=ry
 exact rule i j t t' s _ _ ⟨.int (g i j),H,I.tok _,⟨_,rfl⟩,q⟩
theorem ur{f:Value->Value->Sem Value}{g:Int->Int->Bool}
  (rule:∀(i j:Int) (t u:Tok) (s:Shared) (Q:Value->Shared->Prop) (E:Value->Shared->Prop),Q (.bool (g i j)) s->wpAny (model X.prog X.w) X.A (f (.int i t) (.int j u)) Q E s):
  gG X f (uk λi j=>.bl (g i j)):=by
 intro pins s σ H x y v u Q I rx ry h
 obtain ⟨i,j,rfl,rfl,q⟩:=h
 obtain ⟨t,rfl⟩:=rx
 obtain ⟨t',rfl⟩:=ry
 exact rule i j t t' s _ _ ⟨.bl (g i j),H,I,rfl,q⟩
def lD(i j:Int):Prop:=(-(2^64)<i/\i<2^64)\/(-(2^64)<j/\j<2^64)
theorem lD.ok(h:lD i j):IntMulOk i j:=by
 rcases h with ⟨h1,h2⟩ | ⟨h1,h2⟩
 .exact .of_left (DG h1 h2)
 .exact .of_right (DG h1 h2)
theorem uq:gG X (binaryOp .Add) (uk λi j=>.int (i+j)):=GH λ_ _ _ _ _ _ _ q=>add_int q
theorem b6b:gG X (inplaceOp .Mult) (rI lD λi j=>.int (i*j)):=we λ_ _ _ _ _ _ _ hc q=>imul_int q hc.ok
theorem S1{f:Value->Sem Value}{g:Int->Int}
  (rule:∀(i:Int) (t:Tok) (s:Shared) (Q:Value->Shared->Prop) (E:Value->Shared->Prop),Q (.int (g i) s.toks) { s with toks:=s.toks+1 }->wpAny (model X.prog X.w) X.A (f (.int i t)) Q E s):
  MO X f (rU λi=>.int (g i)):=by
 intro pins s σ H x v Q I rx h
 obtain ⟨i,rfl,q⟩:=h
 obtain ⟨t,rfl⟩:=rx
 exact rule i t s _ _ ⟨.int (g i),H,I.tok _,⟨_,rfl⟩,q⟩
theorem b7r:MO X (unaryOp .USub) (rU λi=>.int (-i)):=S1 λ_ _ _ _ _ q=>neg_int q
end
section
variable {X:Cx}{a b c:Expr}{ta tb tc:TE}{pos:Pos}
theorem b8u{pins:List (Addr×Obj)}{σ:St}{H:Hp}{s:Shared}{Q:VK}{k k':Bool}(I:Inv X pins σ H s)(q:Q (.bl k) H)(e:k=k'):EP X pins σ Q (.bool k') s:=by
 subst e
 exact ⟨.bl k,H,I,rfl,q⟩
theorem yW:gG X (compareOp .Lt) (uk λi j=>.bl (decide (i<j))):=ur λ_ _ _ _ _ _ _ q=>lt_int q
theorem yX:gG X (compareOp .LtE) (uk λi j=>.bl (decide (i<=j))):=ur λ_ _ _ _ _ _ _ q=>le_int q
theorem yY:gG X (compareOp .Gt) (uk λi j=>.bl (decide (j<i))):=ur λ_ _ _ _ _ _ _ q=>gt_int q
theorem b72:gG X (compareOp .Is) (λx y H Q=>y=.aR/\Q (.bl (decide (x=.aR))) H):=by
 intro pins s σ H x y v u Q I rx ry h
 obtain ⟨rfl,q⟩:=h
 cases ry
 refine is_none_gen (b8u I q ?_)
 cases x<;>first
  | (cases rx;rfl)
  | (obtain ⟨t,rfl⟩:=rx;rfl)
theorem gG.or(h:gG X f r)(h':gG X f r'):gG X f (λx y H Q=>r x y H Q\/r' x y H Q):=by
 intro pins s σ H x y v u Q I rx ry q
 rcases q with q | q
 .exact h pins s σ H x y v u Q I rx ry q
 .exact h' pins s σ H x y v u Q I rx ry q
theorem Pm(b:Expr)(h:op≠.In:=by decide)(h2:op≠.NotIn:=by decide):behindInMarks op b=false:=by
 have e1:(op==CmpOp.In)=false:=by cases op<;>first | rfl | exact absurd rfl h
 have e2:(op==CmpOp.NotIn)=false:=by cases op<;>first | rfl | exact absurd rfl h2
 cases b<;>simp [behindInMarks,e1,e2]
theorem b5L(ho:gG X (compareOp op) r)(ha:PE X a ta)(hb:PE X b tb)(hm:behindInMarks op b=false):PE X (.Compare a [op] [b] pos) (ye r ta tb):=by
 intro pins s σ H Q I h
 exact wpAny_Compare1 (vG ha hb I h λv u s2 x y H2 I2 rx ry q=>ho pins s2 σ H2 x y v u Q I2 rx ry q) hm
def yc(t:TE):TT:=λσ H Q=>t σ H λx H'=>∃k,x=.bl k/\Q k H'
theorem b5B(ho:gG X (compareOp op) r)(ha:PE X a ta)(hb:PE X b tb)(hm:behindInMarks op b=false):PT X (.Compare a [op] [b] pos) (yc (ye r ta tb)):=by
 intro pins s σ H Q I h
 refine wpAny_isTrue_Compare1 (a9 (ha pins s σ H _ I h) λv s1 ⟨x,H1,I1,r1,q1⟩=>a9 (hb pins s1 σ H1 _ I1 q1) λu s2 ⟨y,H2,I2,r2,q2⟩ =>
  a9 (ho pins s2 σ H2 x y v u _ I2 r1 r2 q2) λc s3 ⟨z,H3,I3,r3,k,e,q3⟩=>?_) hm
 subst e
 cases r3
 exact tP ⟨H3,I3,q3⟩
def b7z(r r':R2)(ta tb tc:TE):TE:=λσ H Q=>ta σ H λx H1=>tb σ H1 λy H2=>r x y H2 λz H3=>∃k,z=.bl k /\
 (if k=true then tc σ H3 λw' H4=>r' y w' H4 Q else Q (.bl false) H3)
theorem b3b(ho:gG X (compareOp op) r)(jy:gG X (compareOp yZ) r')(ha:PE X a ta)(hb:PE X b tb)(hc:PE X c tc)
  (hm:lastMarks [op,yZ] [b,c]=false:=by with_unfolding_all rfl):PE X (.Compare a [op,yZ] [b,c] pos) (b7z r r' ta tb tc):=by
 intro pins s σ H Q I h
 refine Compare_chain (a9 (ha pins s σ H _ I h) λv s1 ⟨x,H1,I1,r1,q1⟩=>chain_link (a9 (hb pins s1 σ H1 _ I1 q1) λu s2 ⟨y,H2,I2,r2,q2⟩ =>
  a9 (ho pins s2 σ H2 x y v u _ I2 r1 r2 q2) λd s3 ⟨z,H3,I3,r3,k,e,q3⟩=>?_)) hm
 subst e
 cases r3
 refine tP ?_
 cases k with
 | false=>exact ite_ff ⟨.bl false,H3,I3,rfl,q3⟩
 | true=>exact ite_tt (chain_last (a9 (hc pins s3 σ H3 _ I3 q3) λw' s4 ⟨z',H4,I4,r4,q4⟩=>jy pins s4 σ H4 y z' u w' Q I4 r2 r4 q4))
def v3(K:aA)(x:V)(H:Hp)(k:Bool):Prop:=
 match x with
 | .aR=>k=false
 | .bl b=>k=b
 | .int i=>k=(i != 0)
 | .str y=>y.length<=sizeLine/\k=((y.length:Int) != 0)
 | .Bg y=>y.size<=sizeLine/\k=((y.size:Int) != 0)
 | .ref p=>(∃xs,dX K H p xs/\k=!xs.isEmpty)\/(∃xs,eJ K H p xs/\k=!xs.isEmpty)\/∃bu,H p=some (.dK bu)/\k=!bu.isEmpty
 | _=>False
theorem b0E{κ:Type}{bu:List (κ×V)}{vs:List (κ×Value)}(r:KV bu vs):(!vs.isEmpty)=!bu.isEmpty:=by
 cases r<;>rfl
theorem RG(r:au xs ao):(!ao.toArray.isEmpty)=!xs.isEmpty:=by
 cases r<;>simp
theorem vL:(sizeLine:Nat)<2^63:=by rw [iY];decide
theorem b7v:MP X (λx H Q=>∃k,v3 X.K x H k/\Q k H):=by
 intro pins s σ H x v Q I rx h
 obtain ⟨k,e,q⟩:=h
 have hl:=vL
 have hs:sizeLine=16777216:=iY
 cases x with
 | aR =>
  cases rx
  have e':k=false:=e
  subst e'
  exact truthy_none ⟨H,I,q⟩
 | bl b =>
  cases rx
  have e':k=b:=e
  subst e'
  exact tP ⟨H,I,q⟩
 | int i =>
  obtain ⟨t,rfl⟩:=rx
  have e':k=(i != 0):=e
  subst e'
  exact PySem.P.truthy_int ⟨H,I,q⟩
 | str y =>
  obtain ⟨t,rfl⟩:=rx
  obtain ⟨hy,e'⟩:y.length<=sizeLine/\k=((y.length:Int) != 0):=e
  subst e'
  exact PySem.P.truthy_str (by ext hs hy) ⟨H,I.tok _,q⟩
 | Bg y =>
  obtain ⟨t,rfl⟩:=rx
  obtain ⟨hy,e'⟩:y.size<=sizeLine/\k=((y.size:Int) != 0):=e
  subst e'
  exact PySem.W.truthy_bytes (fg ‹_› (by decide)) ⟨H,I.tok _,q⟩
 | ref p =>
  cases rx
  have e':(∃xs,dX X.K H p xs/\k=!xs.isEmpty)\/(∃xs,eJ X.K H p xs/\k=!xs.isEmpty)\/∃bu,H p=some (.dK bu)/\k=!bu.isEmpty:=e
  rcases e' with ⟨xs,hx,e'⟩ | ⟨xs,hx,e'⟩ | ⟨bu,hx,e'⟩
  .subst e'
   obtain ⟨ao,r,pl,hz⟩:=I.list hx
   have hlen:=r.length
   exact wpAny_truthy_list pl.isList (by simp only [dM];ext hs hz hlen) ⟨H,I.tok _,by rw [RG r];exact q⟩
  .subst e'
   obtain ⟨ao,r,pl,hz⟩:=I.tuple hx
   have hlen:=r.length
   exact truthy_tuple pl (by simp only [dM];ext hs hz hlen) ⟨H,I.tok _,by rw [RG r];exact q⟩
  .subst e'
   obtain ⟨hz,hS,vs,r,m⟩:bu.length<=sizeLine/\(p==sysModules)=false/\∃vs,KV bu vs/\s.heap.DictOf (KG X.prog X.w) p vs:=I.aY p _ hx
   have hlen:bu.length=vs.length:=Paired.length r
   exact wpAny_truthy_dict hS m (by ext hs hz hlen) ⟨H,I.tok _,by rw [b0E r];exact q⟩
 | _=>exact (show False from e).elim
theorem QL(ha:PE X a ta)(he:∀whole,isTrue a X.env whole=(do let v <-whole;standAt a.pos;holding [v] (truthy v))):
  PT X a (λσ H Q=>ta σ H λx H'=>∃k,v3 X.K x H' k/\Q k H'):=by
 intro pins s σ H Q I h
 exact isTrue_plain (a9 (ha pins s σ H _ I h) λv s1 ⟨x,H1,I1,r1,q1⟩=>b7v pins s1 σ H1 x v Q I1 r1 q1) (he _)
theorem l6:gG X (binaryOp .Add) (λx y H Q=>∃i j,x=.str i/\y=.str j/\i.length+j.length<=sizeLine/\Q (.str (i++j)) H):=by
 intro pins s σ H x y v u Q I rx ry h
 obtain ⟨i,j,rfl,rfl,hz,q⟩:=h
 obtain ⟨t,rfl⟩:=rx
 obtain ⟨t',rfl⟩:=ry
 exact add_str (λt' tk=>⟨.str (i++j),H,I.tok _,⟨_,rfl⟩,q⟩) hz
theorem vals1(r:au [x] us):∃u,us=[u]/\RelV x u:=by
 cases r with
 | cons r1 r2=>cases r2;exact ⟨_,rfl,r1⟩
theorem vals2(r:au [x,y] us):∃u w',us=[u,w']/\RelV x u/\RelV y w':=by
 cases r with
 | cons r1 r2 =>
  cases r2 with
  | cons r3 r4=>cases r4;exact ⟨_,_,rfl,r1,r3⟩
theorem b2j(hc:X.calm=true):cK X (.builtin "max") (λxs H Q=>∃i j,xs=[.int i,.int j]/\Q (.int (if j>i then j else i)) H):=by
 intro pins s σ H xs us Q I r h
 obtain ⟨i,j,rfl,q⟩:=h
 obtain ⟨u,w',rfl,⟨t,rfl⟩,⟨t',rfl⟩⟩:=vals2 r
 refine max_two_ints (I.ok.hd hc) λh' tk k=>⟨_,H,I.kept k,?_,q⟩
 by_cases hj:j>i
 .rw [if_pos hj,if_pos hj];exact ⟨_,rfl⟩
 .rw [if_neg hj,if_neg hj];exact ⟨_,rfl⟩
theorem b2i(hc:X.calm=true):cK X (.builtin "min") (λxs H Q=>∃i j,xs=[.int i,.int j]/\Q (.int (if j<i then j else i)) H):=by
 intro pins s σ H xs us Q I r h
 obtain ⟨i,j,rfl,q⟩:=h
 obtain ⟨u,w',rfl,⟨t,rfl⟩,⟨t',rfl⟩⟩:=vals2 r
 refine min_two_ints (I.ok.hd hc) λh' tk k=>⟨_,H,I.kept k,?_,q⟩
 by_cases hj:j<i
 .rw [if_pos hj,if_pos hj];exact ⟨_,rfl⟩
 .rw [if_neg hj,if_neg hj];exact ⟨_,rfl⟩
end
end L2
namespace L2
open PySem PySem.Spec PyProof.Rows
structure ObjM(h:Heap)(x dx C:Addr)(mA:Str->Option Value):Prop where
 obj:h.get? x=some (Oe C dx)
 ns:h.Ns1 dx mA
 ne:dx≠x
section
variable {prog:Program}{w:World}{A:Around}{E:Value->Shared->Prop}{s:Shared}{K:aA}{x dx C f:Addr}{mA:Str->Option Value}{name:Str}{v:Value}
end
theorem sv.none_of(r:sv none o):o=none:=by
 cases o with
 | none=>rfl
 | some u=>exact (show False from r).elim
section
variable {P:Program}{w:World}{H H':Hp}{h h':Heap}{a C dx:Addr}{fs Ig:List (Str×V)}
end
structure MZ(K:aA)(C:Addr):Prop where
 pg:Oh K C Str.empty=true
 hd:PySem.W.hasDictIn K C=true
 po:PySem.W.plainOver K C=true
 sa:AZ K (.ref C) "__setattr__" = some (some (.builtin "object.__setattr__"))
theorem MZ.get{K:aA}{C:Addr}(c:MZ K C)(f:Str):Oh K C f=true:=c.pg
structure Con(K:aA)(C:Addr)(f:Str)(v:V)(u:Value):Prop where
 at_:AZ K (.ref C) f=some (some u)
 rel:RelV v u
 get:N3 K u "__get__" = some none
 cp:PySem.W.copiedNames.contains f=false
structure Meth(K:aA)(C:Addr)(m:Str)(f:Addr):Prop where
 at_:AZ K (.ref C) m=some (some (.ref f))
 fn:PySem.W.isFn K (.ref f)=true
 kp:vn K (.ref f)=true
section
variable {X:Cx}{pins:List (Addr×Obj)}{σ:St}{H:Hp}{s:Shared}{a C dx:Addr}{fs:List (Str×V)}{f:Str}{v:V}{A:Around}{E:Value->Shared->Prop}
end
section
variable {X:Cx}{o e value:Expr}{f:Str}{pos pos' xX:Pos}{ta tv:TE}
end
section
variable {X:Cx}{pins:List (Addr×Obj)}{σ:St}{H:Hp}{s:Shared}{A:Around}{E:Value->Shared->Prop}{Q:Value->Shared->Prop}{c:Value}{b:Bool}
inductive iE (K:aA) (H:Hp):V->Value->Prop where
 | aR:iE K H .aR (.type "NoneType")
 | bl (x:Bool):iE K H (.bl x) (.type "bool")
 | int (i:Int):iE K H (.int i) (.type "int")
 | str (x:Str):iE K H (.str x) (.type "str")
 | AD (x:UInt64):iE K H (.AD x) (.type "float")
 | lst {a:Addr} {xs:List V} (e:H a=some (.lst xs)):iE K H (.ref a) (.type "list")
 | gz {a:Addr} {o:Obj} {xs:List V} (e:H a=some (.gz o (.lst xs))):iE K H (.ref a) (.type "list")
 | tup {a:Addr} {xs:List V} (e:H a=some (.tup xs)):iE K H (.ref a) (.type "tuple")
 | dK {a:Addr} {bu:List (Key×V)} (e:H a=some (.dK bu)):iE K H (.ref a) (.type "dict")
 | dT {a:Addr} {bu:List (List Key×V)} (e:H a=some (.dT bu)):iE K H (.ref a) (.type "dict")
 | ins {a C dx:Addr} {fs:List (Str×V)} (e:H a=some (.ins C dx fs)) (cl:MZ K C) (ha:AZ K (.ref C) "__class__" = some (some (.builtin "object.__class__")))
   (hn:N3 K (.builtin "object.__class__") "__get__" = some (some (.builtin "getset_descriptor.__get__"))) (htk:PySem.W.takesIn K (.builtin "object.__class__")=some true)
   (hm:PySem.W.mroIn K C (.type "object")=some true):iE K H (.ref a) (.ref C)
end
end L2
namespace L2
open PySem PySem.Spec PyProof.Rows
structure bp(k:Nat)(A:Around):Prop where
 hd:A.handled=none
 dp:A.depth+3*k+5<recursionLimit
 un:A.units+16*k+200<cLine
theorem bp.mono(r:bp k A)(h:j<=k):bp j A:=⟨r.hd,by have:=r.dp;ext h this,by have:=r.un;ext h this⟩
theorem bp.deeper(r:bp (k+1) A)(env:Env):bp k (A.deeper env):=
 ⟨r.hd,by have:=r.dp;show A.depth+1+3*k+5<_;ext this,by have:=r.un;show A.units+3+16*k+200<_;ext this⟩
theorem bp.in1(r:bp (k+1) A):bp k A.in1:=
 ⟨r.hd,by have:=r.dp;show A.depth+3*k+5<_;ext this,by have:=r.un;show A.units+1+16*k+200<_;ext this⟩
theorem b0A{A:Around}{kw:List (Str×Value)}:(A.under (.builtin "type.__call__" ⟨.ref C::us,kw⟩)).depth=A.depth+1:=by
 first | rfl | simp [IE,Code.weight,Code.isCreation,Code.isGuard,Code.isCaller,Code.frames,ID,guardIds]
theorem b0z{A:Around}{kw:List (Str×Value)}:(A.under (.builtin "type.__call__" ⟨.ref C::us,kw⟩)).units=A.units+1:=by
 first | rfl | simp [IE,Code.cUnits,Code.frames,ID]
theorem bp.make(r:bp (k+1) A)(C:Addr)(us:List Value)(kw:List (Str×Value)):bp k (A.under (.builtin "type.__call__" ⟨.ref C::us,kw⟩)):=
 ⟨r.hd,by have:=r.dp;rw [b0A];ext this,by have:=r.un;rw [b0z];ext this⟩
theorem bp.depth(r:bp k A):A.depth<recursionLimit:=by have:=r.dp;ext this
theorem bp.units(r:bp k A):A.units+64<cLine:=by have:=r.un;ext this
def F':TA:=λ_ H Q=>Q [] H
def yi(ta:TE)(tr:TA):TA:=λσ H Q=>ta σ H λx H1=>tr σ H1 λxs H2=>Q (x::xs) H2
section
variable {X:Cx}{e:Expr}{es:List Expr}{te:TE}{t:TA}{pos:Pos}
theorem qz:PA X [] F':=λ_ _ _ _ H Q I h=>I9 ⟨[],H,I,.nil,h⟩
theorem pV(ha:PE X e te)(hr:PA X es t)(hs:starEach (e::es) X.env=(false,eval e X.env)::starEach es X.env:=by rfl):PA X (e::es) (yi te t):=by
 intro pos pins s σ H Q I h
 rw [hs]
 show wpAny _ _ (spliced ((false,eval e X.env)::backTo pos (starEach es X.env))) _ _ s
 refine JC (a9 (ha pins s σ H _ I h) λu s1 ⟨x,H1,I1,r1,q1⟩=>?_)
 exact a9 (hr pos pins s1 σ H1 _ I1 q1) λus s2 ⟨xs,H2,I2,r2,q2⟩=>⟨x::xs,H2,I2,.cons r1 r2,q2⟩
def F5(t:TA):TE:=λσ H Q=>t σ H λxs H1=>xs.length<=sizeLine/\∀p,H1 p=none->Q (.ref p) (upd H1 p (.tup xs))
def Ga(t:TA):TE:=λσ H Q=>t σ H λxs H1=>xs.length<=sizeLine/\∀p,H1 p=none->Q (.ref p) (upd H1 p (.lst xs))
theorem b7R{x1}(h:PA X es t):PE X (.Tuple es x1 pos) (F5 t):=by
 intro pins s σ H Q I hq
 refine wpAny_Tuple_spliced (a9 (h pos pins s σ H _ I hq) λus s1 ⟨xs,H1,I1,r,z,q⟩=>⟨by rw [<-r.length];exact z,?_⟩)
 have hf:H1 s1.heap.objs.size=none:=I1.aY.fresh (bh _)
 refine ⟨.ref s1.heap.objs.size,upd H1 s1.heap.objs.size (.tup xs),I1.laid (t':=s1.toks) (λb u e=>bI _ e) (bh _) ?_,rfl,q _ hf⟩
 exact ⟨z,us,r,⟨_,eG _ rfl,rfl,_,rfl⟩⟩
theorem b7V(h:PA X es t):PE X (.List es pos) (Ga t):=by
 intro pins s σ H Q I hq
 refine wpAny_List_spliced (a9 (h pos pins s σ H _ I hq) λus s1 ⟨xs,H1,I1,r,z,q⟩=>⟨by rw [<-r.length];exact z,?_⟩)
 have hf:H1 s1.heap.objs.size=none:=I1.aY.fresh (bh _)
 refine ⟨.ref s1.heap.objs.size,upd H1 s1.heap.objs.size (.lst xs),I1.laid (t':=s1.toks) (λb u e=>bI _ e) (bh _) ?_,rfl,q _ hf⟩
 exact ⟨z,us,0,r,eG _ rfl⟩
end
abbrev Sp:=List V->Hp->VK->XK->Prop
abbrev oB:=List Env->Hp->Shared->XK->Value->Shared->Prop
structure iG(P:Program)(w:World)(K:aA)(mg:Str->Option Value)(base:Heap)(A:Around)(outer:List Env)(s:Shared)(H:Hp):Prop where
 frames:A.frames=some outer
 mod:Mod K mg base
 bs:∀b o,base.get? b=some o->s.heap.get? b=some o/\H b=none
 nW:base.objs.size<=s.heap.objs.size
 eS:s.heap.FunFrames base outer
 qp:∀b∈mj outer,H b=none
 aY:iF P w H s.heap
 bare:AllBare s.gens
def CE(outer:List Env)(P:Program)(w:World)(H:Hp)(s:Shared)(Q:VK)(u:Value)(s':Shared):Prop:=
 ∃v H',s'.os=s.os/\AllBare s'.gens/\Un (mj outer) [] H H' s.heap s'.heap/\iF P w H' s'.heap/\RelV v u/\Q v H'
def CR(CX:oB)(outer:List Env)(P:Program)(w:World)(H:Hp)(s:Shared)(Q:VK)(E:XK)(r:Result)(s':Shared):Prop:=
 match r with
 | .ok (.ret u)=>CE outer P w H s Q u s'
 | .ok _=>False
 | .error e=>CX outer H s E e s'
structure bS(P:Program)(w:World)(K:aA)(mg:Str->Option Value)(base:Heap)(CX:oB)(k:Nat)(f:Addr)(fd:FuncData)(ps:List Str)(sp:Sp):Prop where
 len:∀vs H Q E,sp vs H Q E->vs.length=ps.length
 run:∀(A:Around) (outer:List Env) (s:Shared) (H:Hp) (args:Args) (us:List Value) (vs:List V) (Q:VK) (E:XK),bp k A->iG P w K mg base A outer s H->BindsTo s fd args (ps.zip us)->au vs us->sp vs H Q E ->
  codeAny (model P w) A (.call (.ref f) args) (CR CX outer P w H s Q E) s
theorem bS.mono{P:Program}{w:World}{K:aA}{mg:Str->Option Value}{base:Heap}{CX:oB}{j k:Nat}{f:Addr}{fd:FuncData}{ps:List Str}{sp:Sp}(F:bS P w K mg base CX j f fd ps sp)(h:j<=k):
  bS P w K mg base CX k f fd ps sp:=⟨F.len,λA outer s H args us vs Q E hr=>F.run A outer s H args us vs Q E (hr.mono h)⟩
theorem bS.imp{P:Program}{w:World}{K:aA}{mg:Str->Option Value}{base:Heap}{CX:oB}{k:Nat}{f:Addr}{fd:FuncData}{ps:List Str}{sp M5:Sp}(F:bS P w K mg base CX k f fd ps sp)
  (h:∀vs H Q E,M5 vs H Q E->sp vs H Q E):bS P w K mg base CX k f fd ps M5:=
 ⟨λvs H Q E q=>F.len vs H Q E (h _ _ _ _ q),λA outer s H args us vs Q E hr he hb hv hs=>F.run A outer s H args us vs Q E hr he hb hv (h _ _ _ _ hs)⟩
theorem iG.make{P:Program}{w:World}{K:aA}{mg:Str->Option Value}{base:Heap}{A:Around}{outer:List Env}{s:Shared}{H:Hp}(e:iG P w K mg base A outer s H)(C:Addr)(us:List Value)(kw:List (Str×Value)):
  iG P w K mg base (A.under (.builtin "type.__call__" ⟨.ref C::us,kw⟩)) outer s H:=⟨by first | exact e.frames | (simpa [IE,Code.envs,ID,pushEnvs] using e.frames),e.mod,e.bs,e.nW,e.eS,e.qp,e.aY,e.bare⟩
theorem iG.in1{P:Program}{w:World}{K:aA}{mg:Str->Option Value}{base:Heap}{A:Around}{outer:List Env}{s:Shared}{H:Hp}(e:iG P w K mg base A outer s H):
  iG P w K mg base A.in1 outer s H:=⟨e.frames,e.mod,e.bs,e.nW,e.eS,e.qp,e.aY,e.bare⟩
section
variable {X:Cx}{pins:List (Addr×Obj)}{σ:St}{H:Hp}{s s':Shared}
theorem Inv.fU(I:Inv X pins σ H s):iG X.prog X.w X.K X.mg X.base X.A X.stack s H:=
 ⟨I.ok.frames,I.ok.mod,I.bs,fg I.ok.nW I.sz,I.stack,I.mO,I.aY,I.bare⟩
theorem Inv.after(I:Inv X pins σ H s)(h:CE X.stack X.prog X.w H s Q u s'):EP X pins σ Q u s':=by
 obtain ⟨v,H',os,bare,un,aY,r,q⟩:=h
 obtain ⟨hh,g,d,t,yV⟩:=s'
 obtain rfl:yV=s.os:=os
 exact ⟨v,H',I.call (h':=hh) (g':=g) (d':=d) (t':=t) (ch:=[]) un aY bare (λb z=>absurd z (by simp)),r,q⟩
end
def Pb(sp:Sp)(tj:List V)(E:XK)(t:TA):TE:=λσ H Q=>t σ H λvs H1=>sp (vs++tj) H1 Q E
def Binds(K:aA)(fd:FuncData)(ps:List Str)(ds:List Value):Prop:=
 ∀(s:Shared) (us:List Value),K.In s.heap->(us++ds).length=ps.length->BindsTo s fd ⟨us,[]⟩ (ps.zip (us++ds))
theorem Binds.all{K:aA}{fd:FuncData}{ps:List Str}(h:∀us:List Value,us.length=ps.length->bindArgs fd ⟨us,[]⟩=pure (ps.zip us)):Binds K fd ps []:=λs us _ hl=>by
 rw [nT] at hl ⊢
 exact .of_eq (h us hl)
def JX(CX:oB)(X:Cx)(E:XK):Prop:=∀(pins:List (Addr×Obj)) (σ:St) (H:Hp) (s:Shared) (e:Value) (s':Shared),Inv X pins σ H s->CX X.stack H s E e s'->X.xe e s'
section
variable {X:Cx}{CX:oB}{k:Nat}{f C:Addr}{fd:FuncData}{ps:List Str}{sp:Sp}{tj:List V}{ds:List Value}{E:XK}{x m:Str}{p pos apos:Pos}{e o:Expr}{es:List Expr}{ta:TE}{t:TA}
theorem b7J{pins:List (Addr×Obj)}{σ:St}{H:Hp}{s:Shared}{Q:VK}{us:List Value}{vs:List V}(F:bS X.prog X.w X.K X.mg X.base CX k f fd ps sp)(hr:bp k X.A)(hb:Binds X.K fd ps ds)(hd:au tj ds)(hx:JX CX X E)
  (I:Inv X pins σ H s)(r:au vs us)(h:sp (vs++tj) H Q E):wpAny (model X.prog X.w) X.A (call (.ref f) us) (EP X pins σ Q) X.xe s:=by
 have r2:au (vs++tj) (us++ds):=r.append hd
 have hl:(us++ds).length=ps.length:=by rw [<-r2.length];exact F.len _ _ _ _ h
 refine wpAny_call (DS (F.run X.A X.stack s H ⟨us,[]⟩ (us++ds) (vs++tj) Q E hr I.fU (hb s us I.uB hl) r2 h) λr s' hq=>?_)
 cases r with
 | error e=>exact hx pins σ H s e s' I hq
 | ok fl =>
  cases fl with
  | ret u=>exact I.after hq
  | next=>exact iI hq
  | brk=>exact iI hq
  | cont=>exact iI hq
theorem b5M(F:bS X.prog X.w X.K X.mg X.base CX k f fd ps sp)(hr:bp k X.A)(hg:Gl X x)(hm:X.mg x=some (.ref f))(hk:vn X.K (.ref f)=true)(hb:Binds X.K fd ps ds)(hd:au tj ds)(hx:JX CX X E)
  (ha:PA X (e::es) t)(kH:(x==("__debug__":Str))=false:=by decide)(he:starEach (e::es) X.env=(false,eval e X.env)::starEach es X.env:=by rfl)(dQ:(backTo pos (starEach es X.env)).any (·.1)=false:=by rfl):
  PE X (.Call (.Name x p) (e::es) [] pos) (Pb sp tj E t):=by
 intro pins s σ H Q I h
 refine Bd (KD I hg hm ?_ kH)
 refine PySem.W.callWith_K (h₀:=X.base) I.ok.mod.C8 hk (a9 (ha pos pins s σ H _ I h) λus s1 ⟨vs,H1,I1,r,q⟩=>⟨I1.uB,?_⟩) he dQ
 exact b7J F hr hb hd hx I1 r q
structure Mk(K:aA)(C f:Addr):Prop where
 makes:PySem.W.makesIn K C=true
 init:AZ K (.ref C) "__init__" = some (some (.ref f))
 fn:PySem.W.isFn K (.ref f)=true
 kp:vn K (.ref C)=true
end
section
variable {X:Cx}{CX:oB}{k:Nat}{f C:Addr}{fd:FuncData}{ps ks:List Str}{sp:Sp}{E:XK}{x m:Str}{p pos apos Wp:Pos}{e o:Expr}{es:List Expr}{kws:List Keyword}{te ta:TE}{t tk:TA}{nm:Option Str}
structure MT(K:aA)(fd:FuncData)(ps ks:List Str)(g:List Value->List Value->List Value)(gV:List V->List V->List V):Prop where
 to:∀(s:Shared) (us ws:List Value),K.In s.heap->(g us ws).length=ps.length->BindsTo s fd ⟨us,ks.zip ws⟩ (ps.zip (g us ws))
 rel:∀{vs:List V} {us:List Value} {zs:List V} {ws:List Value},au vs us->au zs ws->au (gV vs zs) (g us ws)
variable {g:List Value->List Value->List Value}{gV:List V->List V->List V}
end
structure cW(N P:List Str)(sc:Scope):Prop where
 kind:sc.kind=.function
 co:sc.isCoroutine=false
 gen:sc.isGenerator=false
 nd:N.Nodup
 pre:N.take P.length=P
 par:∀x∈P,sc.names.lookup x=some .local\/sc.names.lookup x=some .cell
 uv:∀y∈sc.names,y.2≠.free
theorem Q5{kindOf:Str->Option NameKind}{x:Str}:∀{binds:List (Str×Value)} {m:Str->Option Value},(∀v,(x,v)∉binds)->bindL kindOf binds m x=m x
 | [],_,_=>rfl
 | (n,v)::r,m,h=>by
  unfold bindL
  rw [Q5 λw hw=>h w (bW _ hw)]
  split
  .have:x≠n:=by rintro rfl;exact h v bK
   simp [this]
  .rfl
theorem Q3{kindOf:Str->Option NameKind}{x:Str}:∀{binds:List (Str×Value)} {m:Str->Option Value},(∀v,(x,v)∉binds)->bindC kindOf binds m x=m x
 | [],_,_=>rfl
 | (n,v)::r,m,h=>by
  unfold bindC
  rw [Q3 λw hw=>h w (bW _ hw)]
  split
  .rfl
  .have:x≠n:=by rintro rfl;exact h v bK
   simp [this]
theorem Q4{kindOf:Str->Option NameKind}{x:Str}{v:Value}:∀{P:List Str} {vs:List Value} {i:Nat} {m:Str->Option Value},P.Nodup->P[i]?=some x->vs[i]?=some v->kindOf x=some .local ->
  bindL kindOf (P.zip vs) m x=some v
 | [],_,_,_,_,h,_,_=>by simp at h
 | _::_,[],_,_,_,_,h,_=>by simp at h
 | p::P,w::vs,0,m,nd,h1,h2,hk=>by
  simp at h1 h2;subst h1;subst h2
  show bindL kindOf ((p,w)::P.zip vs) m p=_
  unfold bindL
  rw [Q5 λv hv=>(tB.mp nd).1 (ve hv).1,if_pos hk]
  simp
 | p::P,w::vs,i+1,m,nd,h1,h2,hk=>by
  show bindL kindOf ((p,w)::P.zip vs) m x=_
  unfold bindL
  exact Q4 (i:=i) (tB.mp nd).2 (by simpa using h1) (by simpa using h2) hk
theorem Rh{kindOf:Str->Option NameKind}{x:Str}{v:Value}:∀{P:List Str} {vs:List Value} {i:Nat} {m:Str->Option Value},P.Nodup->P[i]?=some x->vs[i]?=some v->kindOf x≠some .local ->
  bindC kindOf (P.zip vs) m x=some v
 | [],_,_,_,_,h,_,_=>by simp at h
 | _::_,[],_,_,_,_,h,_=>by simp at h
 | p::P,w::vs,0,m,nd,h1,h2,hk=>by
  simp at h1 h2;subst h1;subst h2
  show bindC kindOf ((p,w)::P.zip vs) m p=_
  unfold bindC
  rw [Q3 λv hv=>(tB.mp nd).1 (ve hv).1,if_neg hk]
  simp
 | p::P,w::vs,i+1,m,nd,h1,h2,hk=>by
  show bindC kindOf ((p,w)::P.zip vs) m x=_
  unfold bindC
  exact Rh (i:=i) (tB.mp nd).2 (by simpa using h1) (by simpa using h2) hk
def start(N:List Str)(vs:List V):St:=vs.map some++jn (N.length-vs.length) none
def kO(CX:oB)(P:Program)(w:World)(K:aA)(mg:Str->Option Value)(base:Heap)(N:List Str)(qual:Str)(scope:Scope)(f:Addr)(cd:Value)(A:Around)(outer:List Env)(s:Shared)(H:Hp)(E:XK):Cx where
 prog:=P
 w:=w
 K:=K
 mg:=mg
 base:=base
 A:=A.deeper (envOfC qual scope s.heap.objs.size f cd)
 N:=N
 cS:=s
 oA:=H
 env:=envOfC qual scope s.heap.objs.size f cd
 outer:=outer
 stack:=envOfC qual scope s.heap.objs.size f cd::outer
 ex:=[]
 calm:=true
 fn:=λ_=>true
 pn:=[]
 xe:=λe s'=>wpAny (model P w) (A.deeper (envOfC qual scope s.heap.objs.size f cd)) (leaving (envOfC qual scope s.heap.objs.size f cd) e) (λ_ Gw=>CX outer H s E e Gw) (λe' Gw=>CX outer H s E e' Gw) s'
theorem Qm{sc:Scope}{n:Nat}{x:Str}(h:sc.names.lookup x=some .cell):∃c,(cellsFrom n sc.names []).lookup x=some c:=by
 have q:=OE sc.names n [] (.inl h)
 exact Om.mp q
theorem b1N{CX:oB}{P:Program}{w:World}{K:aA}{mg:Str->Option Value}{base:Heap}{N ps:List Str}{qual:Str}{scope:Scope}{f:Addr}{cd:Value}{A:Around}{outer:List Env}{s s1:Shared}{H:Hp}{E:XK}{us:List Value}{vs:List V}
  (S:cW N ps scope)(hd:A.handled=none)(e0:iG P w K mg base A outer s H)(hl:vs.length=ps.length)(r:au vs us)
  (x:InCallC s s.heap.objs.size (bindL (envOfC qual scope s.heap.objs.size f cd).kindOf (ps.zip us) λ_=>none) (cellsFrom (s.heap.objs.size+1) scope.names []) (bindC (envOfC qual scope s.heap.objs.size f cd).kindOf (ps.zip us) λ_=>none) s1):
  Inv (kO CX P w K mg base N qual scope f cd A outer s H E) [] (start N vs) H s1:=by
 have dQ:ps.length<=N.length:=by have:=congrArg tG S.pre;rw [iZ] at this;ext this
 obtain ⟨h1,tk,rfl,hk⟩:=x.done
 have uw:∀b:Addr,b∉(kO CX P w K mg base N qual scope f cd A outer s H E).ex:=λb z=>absurd (show b∈([]:List Addr) from z) (by simp)
 refine ⟨⟨e0.mod,S.kind,rfl,rfl,bh _,λy z c h1 h2=>?_,λy hy=>?_,λy c _ h=>?_,λ_=>hd,Ow e0.frames,.inr ⟨rfl,rfl⟩,λb z=>absurd z (uw b),e0.bs,e0.nW,λb _ _=>uw b,λb z=>absurd z (uw b),e0.eS,e0.qp⟩,
  rfl,e0.bare,Un.kept hk,⟨_,x.toInCall.ns,λi y v h1 h2 h3=>?_⟩,λy c h=>⟨_,x.cell y c h⟩,e0.aY.fresh (bh _),λy c h=>?_,λp hp=>absurd (show p∈([]:List (Addr×Obj)) from hp) (by simp),e0.aY.kept hk,?_⟩
 .exact name_of_addr x.apart (tL h1) (tL h2)
 .have hy:scope.names.lookup y=some .cell\/scope.names.lookup y=some .free:=hy
  rcases hy with hy | hy
  .exact Qm hy
  .exact absurd rfl (S.uv _ (tL hy))
 .exact wG (x.above y c (tL h))
 .have hi:i<vs.length:=by
   unfold start at h2
   by_cases hi:i<vs.length
   .exact hi
   .rw [rG (by simpa using hi)] at h2
    rw [Er] at h2
    split at h2<;>cases h2
  have ha:vs[i]?=some v:=by
   unfold start at h2
   rw [vw (by simpa using hi),rJ] at h2
   cases e:vs[i]? with
   | none=>rw [e] at h2;cases h2
   | some a=>rw [e] at h2;cases h2;rfl
  obtain ⟨u,hu,rv⟩:=r.get ha
  have hp:ps[i]?=some y:=by
   rw [<-S.pre,List.getElem?_take_of_lt (by ext hl hi)];exact h1
  have Nj:ps.Nodup:=by rw [<-S.pre];exact S.nd.sublist (List.take_sublist _ _)
  refine ⟨u,rv,?_⟩
  rcases S.par y (JA hp) with k | k
  .exact .inl ⟨k,Q4 Nj hp hu k⟩
  .obtain ⟨c,e⟩:=Qm (n:=s.heap.objs.size+1) k
   refine .inr ⟨.inl k,c,e,?_⟩
   have q:=x.cell y c e
   rw [Rh Nj hp hu (by show scope.names.lookup y≠_;rw [k];decide)] at q
   exact q
 .exact e0.aY.fresh (wG (x.above y c (tL h)))
 .unfold start
  show _=N.length
  rw [dC,bB,Em]
  ext hl dQ
theorem OV{CX:oB}{P:Program}{w:World}{K:aA}{mg:Str->Option Value}{base:Heap}{k:Nat}{f:Addr}{name qual:Str}{params:Arguments}{body:List Stmt}{scope:Scope}{dV kV doc pm du ct oc:Value}{an od:Option Addr}
  {qR:Array (Option Value)}{N ps:List Str}{sp:Sp}(lk:K.lookup f=some ⟨oc,od,.func (jZ name qual params body scope dV kV doc pm an du ct),qR⟩)(cI:DN K du qual=true)(S:cW N ps scope)
  (len:∀vs H Q E,sp vs H Q E->vs.length=ps.length)
  (bE:∀(A:Around) (outer:List Env) (s:Shared) (H:Hp) (vs:List V) (Q:VK) (E:XK),bp k (A.deeper (envOfC qual scope s.heap.objs.size f du))->sp vs H Q E ->
   ∃t,nG (kO CX P w K mg base N qual scope f du A outer s H E) body t/\t { nx:=λ_ H'=>Q .aR H',rt:=Q } (start N vs) H):
  bS P w K mg base CX (k+1) f (jZ name qual params body scope dV kV doc pm an du ct) ps sp:=by
 refine ⟨len,λA outer s H args us vs Q E hr e0 hb r sQ=>?_⟩
 have hl:=len _ _ _ _ sQ
 have KX:K.In s.heap:=e0.mod.C8.keeps λb o e=>(e0.bs b o e).1
 have lim:s.heap.NoLimit:=e0.mod.nolimit.keeps λb o e=>(e0.bs b o e).1
 have zV:∀y∈ps.zip us,scope.names.lookup y.1=some .local\/(scope.names.lookup y.1=some .cell/\((cellsFrom (s.heap.objs.size+1) scope.names []).lookup y.1).isSome=true):=λ⟨n,v⟩ hy=>by
  rcases S.par n (ve hy).1 with q | q
  .exact .inl q
  .exact .inr ⟨q,OE _ _ _ (.inl q)⟩
 refine codeAny_call_function hr.depth (KX _ _ lk) rfl S.co S.gen rfl (PySem.W.codeRec_of KX cI) (hb _ _ _ _ ?_)
 refine wpAny_newFunctionEnv_cells S.kind zV λenv he s1 x=>?_
 subst he
 refine ⟨lim.keeps x.toInCall.keep,codeAny_func ?_⟩
 obtain ⟨t,ht,hq⟩:=bE A outer s H vs Q E (hr.deeper _) sQ
 have I:Inv (kO CX P w K mg base N qual scope f du A outer s H E) [] (start N vs) H s1:=b1N S hr.hd e0 hl r x
 refine jG (ht [] s1 (start N vs) H _ I hq) (λfl s' hs=>?_) λe s' hs=>hs
 have fin:∀{aD:St} {H':Hp} {v:V} {u:Value},Inv (kO CX P w K mg base N qual scope f du A outer s H E) [] aD H' s'->RelV v u->Q v H'->CE outer P w H s Q u s':=
  λ{aD H' v u} J rv q=>⟨v,H',J.os,J.bare,J.base,J.aY,rv,q⟩
 cases fl with
 | ret u =>
  obtain ⟨v,aD,H',J,rv,q⟩:=hs
  exact fin J rv q
 | next =>
  obtain ⟨aD,H',J,q⟩:=hs
  exact fin (v:=V.aR) (u:=fW) J rfl q
 | brk =>
  obtain ⟨_,_,_,q⟩:=hs
  exact iI q
 | cont =>
  obtain ⟨_,_,_,q⟩:=hs
  exact iI q
end L2
namespace L2
open PySem PySem.Spec PyProof.Rows
section
variable {X:Cx}{x:Str}{p pos:Pos}{e:Expr}{es:List Expr}{t:TA}{id T:String}{r:List V->Hp->VK->Prop}
def M3(r:List V->Hp->VK->Prop)(t:TA):TE:=λσ H Q=>t σ H λvs H1=>r vs H1 Q
theorem vQ(hc:cK X (.builtin id) r)(hg:Gl X x)(hm:X.mg x=none)(hv:bootBuiltins x=some (.builtin id))(ha:PA X (e::es) t)(hn:x ≠ "__name__":=by decide)(kH:(x==("__debug__":Str))=false:=by decide)
  (he:starEach (e::es) X.env=(false,eval e X.env)::starEach es X.env:=by rfl)(dQ:(backTo pos (starEach es X.env)).any (·.1)=false:=by rfl):PE X (.Call (.Name x p) (e::es) [] pos) (M3 r t):=by
 intro pins s σ H Q I h
 refine Bd (rW I hg hm hv ?_ hn kH)
 exact PyProof.Rows.callWith_builtin1 (a9 (ha pos pins s σ H _ I h) λus s1 ⟨vs,H1,I1,r1,q1⟩=>hc pins s1 σ H1 vs us Q I1 r1 q1) he dQ
theorem Rq(hc:cK X (.type T) r)(hg:Gl X x)(hm:X.mg x=none)(hv:bootBuiltins x=some (.type T))(ha:PA X (e::es) t)(hn:x ≠ "__name__":=by decide)(kH:(x==("__debug__":Str))=false:=by decide)
  (he:starEach (e::es) X.env=(false,eval e X.env)::starEach es X.env:=by rfl)(dQ:(backTo pos (starEach es X.env)).any (·.1)=false:=by rfl):PE X (.Call (.Name x p) (e::es) [] pos) (M3 r t):=by
 intro pins s σ H Q I h
 refine Bd (rW I hg hm hv ?_ hn kH)
 exact Bf (a9 (ha pos pins s σ H _ I h) λus s1 ⟨vs,H1,I1,r1,q1⟩=>hc pins s1 σ H1 vs us Q I1 r1 q1) he dQ
end
end L2
namespace HT
open PySem PyProof.Rows
def lexLt:List Int->List Int->Bool
 | [],[]=>false
 | [],_::_=>true
 | _::_,[]=>false
 | x::xs,y::ys=>if x=y then lexLt xs ys else decide (x<y)
theorem dH(x y:Int)(xs ys:List Int):lexLt (x::xs) (y::ys)=if x=y then lexLt xs ys else decide (x<y):=rfl
theorem iU:lexLt [] []=false:=rfl
theorem h8(y:Int)(ys:List Int):lexLt [] (y::ys)=true:=rfl
theorem ic(x:Int)(xs:List Int):lexLt (x::xs) []=false:=rfl
theorem kr(A:Around)(s:Shared)(a:Int)(t:Tok)(c:Int)(u:Tok)(prog:Program)(w:World)(E:Value->Shared->Prop)(Q:Value->Shared->Prop)(h:Q (.bool (decide (a<c))) s):
  wpAny (model prog w) A (richCompare .Lt (.int a t) (.int c u)) Q E s:=
 (PyProof.Rows.lt_int h:wpAny (model prog w) A (compareOp .Lt (.int a t) (.int c u)) Q E s)
section
open PySem.SeqAt
open PySem.AutoSeq1 (wpAny_loadPart')
open PySem.MeetsSeq PySem.MeetsSeq2 PySem.MeetsSeq3
end
section
variable {prog:Program}{w:World}{A:Around}{E:Value->Shared->Prop}{s:Shared}
theorem rB(ht:IsTup s.heap t vs.toArray)(hb:IsTup s.heap b ws.toArray)(hv:vs≠[])
  (h1:ws=[]->Q (.ref t) s)(h2:ws≠[]->Q (.ref s.heap.objs.size) { s with heap:=s.heap.push { cls:=.type "tuple",data:=.seq (vs++ws).toArray } })
  (hsz:vs.length+ws.length<=sizeLine):wpAny (model prog w) A (binaryOp .Add (.ref t) (.ref b)) Q E s:=by
 obtain ⟨⟨cls,dd,data,sl⟩,ho,hc,n,hd⟩:=id ht
 obtain ⟨⟨u6,mv,data2,lG⟩,lH,pH,n2,hd2⟩:=id hb
 simp only at hc hd pH hd2
 subst hc hd pH hd2
 have e:vs.toArray++ws.toArray=(vs++ws).toArray:=by simp
 by_cases hw:ws=[]
 .exact concat_meets ⟨_,ho,rfl⟩ ⟨_,lH,rfl⟩ IZ II Jp Jt (JE _ _)
   (tuple_addW1 t b vs.toArray ws.toArray n n2 dd mv sl lG (by simpa using hv) (by simp [hw])) ⟨ho,lH,h1 hw⟩
 .refine concat_meets ⟨_,ho,rfl⟩ ⟨_,lH,rfl⟩ IZ II Jp Jt (JE _ _)
   (tuple_addW2 t b vs.toArray ws.toArray n n2 dd mv sl lG (by simpa using hv) (by simpa using hw) (by rw [dM,dM];exact hsz)) ⟨ho,lH,?_⟩
  rw [e]
  exact h2 hw
def be(n d:Nat):Option Int->Nat
 | none=>d
 | some v=>if v<0 then (v+(n:Int)).toNat else min v.toNat n
theorem oZ(n d:Nat):be n d none=d:=rfl
theorem js(n d k:Nat):be n d (some (k:Int))=min k n:=by
 show (if (k:Int)<0 then ((k:Int)+(n:Int)).toNat else min (k:Int).toNat n)=min k n
 rw [if_neg (by ext),wJ]
theorem b7H(n d:Nat)(hd:d<=n)(o:Option Int):be n d o<=n:=by
 cases o with
 | none=>exact hd
 | some v =>
  show (if v<0 then (v+(n:Int)).toNat else min v.toNat n)<=n
  by_cases hv:v<0
  .rw [if_pos hv];ext hv
  .rw [if_neg hv];exact Nat.min_le_right _ _
theorem P5(v:Int)(n d:Nat):(if v<0 then max (v+(n:Int)) 0 else min v (n:Int))=((be n d (some v):Nat):Int):=by
 show (if v<0 then max (v+(n:Int)) 0 else min v (n:Int))=(((if v<0 then (v+(n:Int)).toNat else min v.toNat n):Nat):Int)
 by_cases hv:v<0
 .simp only [if_pos hv];ext
 .simp only [if_neg hv];ext hv
theorem b0L(lo hi:Option Int)(n:Nat):JG lo hi 1 (n:Int)=(((be n 0 lo:Nat):Int),((be n n hi:Nat):Int)):=by
 have h1:¬((1:Int)<0):=by decide
 unfold JG
 simp only [h1,if_false]
 refine Prod.ext ?_ ?_
 .cases lo with
  | none=>rfl
  | some v=>exact P5 v n 0
 .cases hi with
  | none=>rfl
  | some v=>exact P5 v n n
theorem b0n(i j:Nat):Eg (i:Int) (j:Int) 1=j-i:=by
 unfold Eg
 have h1:(1:Int)>0:=by decide
 simp only [h1,if_true,Int.ediv_one]
 split<;>lia
theorem RJ(p:IsPart v o)(h:Q o s):wpAny (model prog w) A (Builtin.Slice.slicePartIndex v) Q E s:=by
 cases p with
 | none=>exact slicePart_none h
 | int i t=>exact slicePart_int h
theorem dB{lo hi:Option Int}{n:Nat}(hs:s.heap.IsSliceOf sl vl vu .none)(pl:IsPart vl lo)(pu:IsPart vu hi)
  (h:Q (((be n 0 lo:Nat):Int),1,be n n hi-be n 0 lo) s):wpAny (model prog w) A (OP (.ref sl) (pure (n:Int))) Q E s:=by
 obtain ⟨os,q8,rg,Ae⟩:=id hs
 unfold OP Builtin.Slice.sliceFields
 refine ar (ar (lK q8 Ae (x:=vl) rfl (ar (lK q8 Ae (x:=vu) rfl (ar (lK q8 Ae (x:=.none) rfl (aZ ?_)))))))
 refine ar (slicePart_none ?_)
 show wpAny _ _ (if ((1:Int)==0)=true then _ else _) _ _ s
 rw [if_neg (by decide)]
 refine ar (RJ pl (ar (RJ pu (ar (aZ ?_)))))
 show wpAny _ _ (match JG lo hi 1 (n:Int) with | (lo,hi)=>pure (lo,(1:Int),Eg lo hi 1)) _ _ s
 rw [b0L lo hi n]
 show wpAny _ _ (pure (((be n 0 lo:Nat):Int),(1:Int),Eg ((be n 0 lo:Nat):Int) ((be n n hi:Nat):Int) 1)) _ _ s
 rw [b0n]
 exact aZ h
theorem b26(xs:Array Value)(i k:Nat):((eH k).filterMap λ(m:Nat)=>xs[((i:Int)+(m:Int)*1).toNat]?).toArray=((xs.toList.drop i).take k).toArray:=by
 have e:(λ(m:Nat)=>xs[((i:Int)+(m:Int)*1).toNat]?)=λm=>xs[i+m]?:=by
  funext m
  have:((i:Int)+(m:Int)*1).toNat=i+m:=by ext
  rw [this]
 rw [e]
 have:=pick_run xs i k
 rw [List.filterMap_map] at this
 have e2:((λx=>xs[x]?)∘λx=>i+x)=λm=>xs[i+m]?:=rfl
 rw [e2] at this
 rw [this]
theorem fw{items:Array Value}{lo hi:Option Int}(ht:IsTup s.heap t items)(hs:s.heap.IsSliceOf sl vl vu .none)(pl:IsPart vl lo)(pu:IsPart vu hi)
  (hw:¬(be items.size 0 lo=0/\be items.size items.size hi=items.size))
  (h:Q (.ref s.heap.objs.size) { s with heap:=s.heap.push { cls:=.type "tuple",data:=.seq ((items.toList.drop (be items.size 0 lo)).take (be items.size items.size hi-be items.size 0 lo)).toArray } })
  (hsz:items.size<=sizeLine):wpAny (model prog w) A (getItem (.ref t) (.ref sl)) Q E s:=by
 have mW:sizeOk (.seq ((items.toList.drop (be items.size 0 lo)).take (be items.size items.size hi-be items.size 0 lo)).toArray):=by
  show ((items.toList.drop (be items.size 0 lo)).take (be items.size items.size hi-be items.size 0 lo)).toArray.size<=sizeLine
  rw [dM,iZ,nr,gP]
  ext hsz
 have hj:be items.size items.size hi<=items.size:=b7H _ _ (bh _) hi
 obtain ⟨os,q8,rg,Ae⟩:=id hs
 have uT:s.TypeIs (.ref sl) "slice":=⟨os,q8,rg⟩
 unfold getItem
 try with_reducible refine pO ?_
 first | refine ar (aZ ?_) | skip
 refine ar (wpAny_sequenceKey ht.typeIs (by decide) ?_)
 refine ar (vv (name:=qt "__getitem__") ht.typeIs vz
  (tD vz ht.typeIs entry_tuple_getitem ?_ (args_tuple_getitem _ _)))
 show wpAny _ _ (ON (.ref t) >>= _) _ _ s
 refine ar (tupleItemsOf_ ht ?_)
 refine ar (DR uT ?_)
 rw [if_pos (by decide)]
 refine ar (dB hs pl pu ?_)
 have Xt:¬((((be items.size 0 lo:Nat):Int)==0&&(1:Int)==1&&(be items.size items.size hi-be items.size 0 lo)==items.size)=true):=by
  intro q
  rw [Be,Be] at q
  have q1:((be items.size 0 lo:Nat):Int)=0:=eq_of_beq q.1.1
  have q2:be items.size items.size hi-be items.size 0 lo=items.size:=eq_of_beq q.2
  exact hw ⟨by ext q1,by ext q1 q2⟩
 show wpAny _ _ (if (((be items.size 0 lo:Nat):Int)==0&&(1:Int)==1&&(be items.size items.size hi-be items.size 0 lo)==items.size)=true then _ else _) _ _ s
 rw [if_neg Xt,b26]
 first
  | exact ar (m:=Ee _) (rH (aZ ⟨_,rfl,aZ h⟩) mW)
  | exact ar (m:=Ee _) (rH (ar (aZ (aZ ⟨_,rfl,aZ h⟩))) mW)
  | exact ar (ar (m:=Ee _) (rH (aZ (aZ ⟨_,rfl,aZ h⟩)) mW))
  | exact ar (ar (m:=Ee _) (rH (aZ ⟨_,rfl,aZ h⟩) mW))
end
end HT
namespace L2
open PySem PySem.Spec PyProof.Rows
abbrev TO:=St->Hp->(Option Int->Hp->Prop)->Prop
def PO(X:Cx)(e:Option Expr)(t:TO):Prop:=
 ∀(pins:List (Addr×Obj)) (s:Shared) (σ:St) (H:Hp) (Q:Option Int->Hp->Prop),Inv X pins σ H s->t σ H Q ->
  wpAny (model X.prog X.w) X.A (evalPart e X.env) (λu s'=>∃o H',Inv X pins σ H' s'/\IsPart u o/\Q o H') X.xe s
def b5p:TO:=λ_ H Q=>Q none H
def yd(t:TE):TO:=λσ H Q=>t σ H λx H1=>∃i,x=.int i/\Q (some i) H1
section
variable {X:Cx}{e:Expr}{te:TE}{lo hi:Option Expr}{tl th:TO}{pos p2:Pos}
theorem b5G:PO X none b5p:=by
 intro pins s σ H Q I h
 rw [evalPart_none]
 exact aZ ⟨none,H,I,.none,h⟩
theorem b5F(h:PE X e te):PO X (some e) (yd te):=by
 intro pins s σ H Q I hw
 rw [evalPart_some]
 refine a9 (h pins s σ H _ I hw) λu s1 ⟨x,H1,I1,r1,q1⟩=>?_
 obtain ⟨i,rfl,q⟩:=q1
 obtain ⟨t,rfl⟩:=r1
 exact ⟨some i,H1,I1,.int i t,q⟩
def ua(X:Cx)(r:V->Option Int->Option Int->Hp->VK->Prop):Prop:=
 ∀(pins:List (Addr×Obj)) (s:Shared) (σ:St) (H:Hp) (x:V) (v vl vu:Value) (lo hi:Option Int) (sl:Addr) (Q:VK),Inv X pins σ H s->RelV x v->s.heap.IsSliceOf sl vl vu .none->IsPart vl lo->IsPart vu hi->r x lo hi H Q ->
  ∃T id,typeLookup (.type T) "__getitem__" = pure (some (.builtin id))/\s.TypeIs v T/\wpAny (model X.prog X.w) X.A (getItem v (.ref sl)) (EP X pins σ Q) X.xe s
theorem ua.or(h:ua X r)(h':ua X r'):ua X (λx lo hi H Q=>r x lo hi H Q\/r' x lo hi H Q):=by
 intro pins s σ H x v vl vu lo hi sl Q I rx hs pl pu q
 rcases q with q | q
 .exact h pins s σ H x v vl vu lo hi sl Q I rx hs pl pu q
 .exact h' pins s σ H x v vl vu lo hi sl Q I rx hs pl pu q
def S6(r:V->Option Int->Option Int->Hp->VK->Prop)(te:TE)(tl th:TO):TE:=λσ H Q=>te σ H λx H1=>tl σ H1 λl H2=>th σ H2 λu H3=>r x l u H3 Q
theorem QJ(hr:ua X r)(he:PE X e te)(hl:PO X lo tl)(hu:PO X hi th):PE X (.Subscript e (.Slice lo hi none p2) pos) (S6 r te tl th):=by
 intro pins s σ H Q I h
 refine Subscript_ (a9 (he pins s σ H _ I h) λv s1 ⟨x,H1,I1,r1,q1⟩=>?_)
 refine wpAny_Slice (a9 (hl pins s1 σ H1 _ I1 q1) λvl s2 ⟨l,H2,I2,pl,q2⟩=>a9 (hu pins s2 σ H2 _ I2 q2) λvu s3 ⟨u,H3,I3,pu,q3⟩=>?_)
 rw [evalPart_none]
 refine aZ ?_
 have I4:Inv X pins σ H3 { s3 with heap:=s3.heap.push { cls:=.type "slice",data:=.fields #[vl,vu,.none] } }:=I3.kept (t':=s3.toks) λb ob q=>bI _ q
 obtain ⟨T,id,hT,ht,hg⟩:=hr pins { s3 with heap:=s3.heap.push { cls:=.type "slice",data:=.fields #[vl,vu,.none] } } σ H3 x v vl vu l u s3.heap.objs.size Q I4 r1 (Heap.IsSliceOf.new ..) pl pu q3
 show wpAny (model X.prog X.w) X.A (subscriptTail e (.Slice lo hi none p2) v (.ref s3.heap.objs.size)) (EP X pins σ Q) X.xe { s3 with heap:=s3.heap.push { cls:=.type "slice",data:=.fields #[vl,vu,.none] } }
 exact tail_any (ops:=[.ref s3.heap.objs.size,v]) ht hT hg (by with_unfolding_all rfl)
def kP(xs:List V)(lo hi:Option Int):List V:=(xs.drop (HT.be xs.length 0 lo)).take (HT.be xs.length xs.length hi-HT.be xs.length 0 lo)
theorem R8(xs:List V)(lo hi:Option Int):(kP xs lo hi).length<=xs.length:=by
 unfold kP
 rw [iZ,nr]
 ext
def Gy(K:aA):V->Option Int->Option Int->Hp->VK->Prop:=λx lo hi H Q=>∃a xs,x=.ref a/\eJ K H a xs /\
 ¬(HT.be xs.length 0 lo=0/\HT.be xs.length xs.length hi=xs.length)/\∀p,H p=none->Q (.ref p) (upd H p (.tup (kP xs lo hi)))
theorem Pz:ua X (Gy X.K):=by
 intro pins s σ H x v vl vu lo hi sl Q I rx hs pl pu h
 obtain ⟨a,xs,rfl,hx,hw,q⟩:=h
 cases rx
 obtain ⟨ao,r,ht,hz⟩:=I.tuple hx
 have hlen:ao.toArray.size=xs.length:=by rw [dM];exact r.length.symm
 refine ⟨"tuple",_,vz.lookup,ht.typeIs,?_⟩
 refine HT.fw ht hs pl pu (by rw [hlen];exact hw) ?_ (by rw [hlen];exact hz)
 rw [hlen]
 refine ⟨.ref s.heap.objs.size,_,I.laid (t':=s.toks) (o:=.tup (kP xs lo hi)) (λb ob q=>bI _ q) (bh _) ?_,rfl,q _ (I.aY.fresh (bh _))⟩
 exact ⟨fg (R8 xs lo hi) hz,_,(r.drop (HT.be xs.length 0 lo)).take (HT.be xs.length xs.length hi-HT.be xs.length 0 lo),IsTup.new _ _⟩
def yF(K:aA):R2:=λx y H Q=>∃a b xs ys,x=.ref a/\y=.ref b/\eJ K H a xs/\eJ K H b ys/\xs≠[]/\xs.length+ys.length<=sizeLine /\
 (ys=[]->Q (.ref a) H)/\(ys≠[]->∀p,H p=none->Q (.ref p) (upd H p (.tup (xs++ys))))
theorem au.eD(r:au xs us):us=[]↔xs=[]:=by
 cases r with
 | nil=>simp
 | cons _ _=>simp
theorem qS:gG X (binaryOp .Add) (yF X.K):=by
 intro pins s σ H x y v u Q I rx ry h
 obtain ⟨a,b,xs,ys,rfl,rfl,ha,hb,hx,hz,q1,q2⟩:=h
 cases rx
 cases ry
 obtain ⟨ao,r1,p1,_⟩:=I.tuple ha
 obtain ⟨cQ,r2,p2,_⟩:=I.tuple hb
 refine HT.rB p1 p2 (λz=>hx (r1.eD.mp z)) (λz=>⟨.ref a,H,I,rfl,q1 (r2.eD.mp z)⟩) (λz=>?_) (by rw [<-r1.length,<-r2.length];exact hz)
 refine ⟨.ref s.heap.objs.size,_,I.laid (t':=s.toks) (o:=.tup (xs++ys)) (λb ob q=>bI _ q) (bh _) ?_,rfl,q2 (λw=>z (r2.eD.mpr w)) _ (I.aY.fresh (bh _))⟩
 exact ⟨by rw [dC];exact hz,_,r1.append r2,IsTup.new _ _⟩
end
end L2
namespace L2
open PySem PySem.Spec PyProof.Rows
def jg(n:Nat)(i:Int):Option Nat:=if 0<=i then (if i<n then some i.toNat else none) else if -(n:Int)<=i then some (i+n).toNat else none
def eI{α:Type}(xs:List α)(i:Int):Option α:=(jg xs.length i).bind λj=>xs[j]?
theorem Qh(h:jg n i=some j):seqIndex? i n=some j/\j<n /\ -(n:Int)<=i/\i<n:=by
 unfold jg at h
 by_cases h0:0<=i
 .rw [if_pos h0] at h
  by_cases h1:i<n
  .rw [if_pos h1] at h
   have e:i.toNat=j:=dq h
   exact ⟨by rw [seqIndex_of h0 h1,e],by ext h0 h1 e,by ext h0,h1⟩
  .rw [if_neg h1] at h;cases h
 .rw [if_neg h0] at h
  by_cases h1:-(n:Int)<=i
  .rw [if_pos h1] at h
   have e:(i+n).toNat=j:=dq h
   exact ⟨by rw [seqIndex_neg (by ext h0) h1,e],by ext h0 h1 e,h1,by ext h0⟩
  .rw [if_neg h1] at h;cases h
theorem Ku{α:Type}{xs:List α}{i:Int}{v:α}(h:eI xs i=some v):∃j,seqIndex? i xs.length=some j/\xs[j]?=some v/\j<xs.length /\ -(xs.length:Int)<=i/\i<xs.length:=by
 unfold eI at h
 cases e:jg xs.length i with
 | none=>rw [e] at h;cases h
 | some j =>
  rw [e] at h
  obtain ⟨h1,h2,h3,h4⟩:=Qh e
  exact ⟨j,h1,h,h2,h3,h4⟩
theorem df{α:Type}{xs:List α}{j:Nat}{v:α}(h:xs[j]?=some v):eI xs (j:Int)=some v:=by
 have hj:j<xs.length:=(iu.mp h).1
 have e:jg xs.length (j:Int)=some j:=by
  unfold jg
  rw [if_pos (by ext),if_pos (by ext hj)];simp
 unfold eI;rw [e];exact h
theorem iw{α:Type}(xs:List α)(v:α):eI (xs++[v]) (-1)=some v:=by
 have hl:(xs++[v]).length=xs.length+1:=by simp
 have e:jg (xs++[v]).length (-1)=some xs.length:=by
  unfold jg
  rw [hl,if_neg (by decide),if_pos (by ext)]
  congr 1
  ext
 unfold eI
 rw [e]
 show (xs++[v])[xs.length]?=some v
 simp
def P2(b:Expr):Prop:=∀o i,subscripted b false o i=operate [o,i] (getItem o i)
def sx(X:Cx)(r:R2):Prop:=
 ∀(value slice:Expr) (pins:List (Addr×Obj)) (s:Shared) (σ:St) (H:Hp) (x y:V) (v u:Value) (Q:VK),Inv X pins σ H s->RelV x v->RelV y u->r x y H Q ->
  subscripted slice false v u=operate [v,u] (getItem v u)->wpAny (model X.prog X.w) X.A (subscriptTail value slice v u) (EP X pins σ Q) X.xe s
def xQ(X:Cx)(id:String)(r:V->List V->Hp->VK->Prop):Prop:=
 ∀(pins:List (Addr×Obj)) (s:Shared) (σ:St) (H:Hp) (x:V) (xs:List V) (v:Value) (us:List Value) (Q:VK),Inv X pins σ H s->RelV x v->au xs us->r x xs H Q ->
  wpAny (model X.prog X.w) X.A (call (.builtin id) (v::us)) (EP X pins σ Q) X.xe s
section
variable {X:Cx}{a b:Expr}{ta tb:TE}{pos:Pos}
theorem sx.or(h:sx X r)(h':sx X r'):sx X (λx y H Q=>r x y H Q\/r' x y H Q):=by
 intro value slice pins s σ H x y v u Q I rx ry q hs
 rcases q with q | q
 .exact h value slice pins s σ H x y v u Q I rx ry q hs
 .exact h' value slice pins s σ H x y v u Q I rx ry q hs
theorem xQ.or{id:String}{r r':V->List V->Hp->VK->Prop}(h:xQ X id r)(h':xQ X id r'):xQ X id (λx xs H Q=>r x xs H Q\/r' x xs H Q):=by
 intro pins s σ H x xs v us Q I rx rs q
 rcases q with q | q
 .exact h pins s σ H x xs v us Q I rx rs q
 .exact h' pins s σ H x xs v us Q I rx rs q
theorem yP(hr:sx X r)(ha:PE X a ta)(hb:PE X b tb)(hs:P2 b):PE X (.Subscript a b pos) (ye r ta tb):=by
 intro pins s σ H Q I h
 exact Subscript_ (vG ha hb I h λv u s2 x y H2 I2 rx ry q=>hr a b pins s2 σ H2 x y v u Q I2 rx ry q (hs _ _))
def yE(K:aA):R2:=λx y H Q=>∃p xs i v,x=.ref p/\y=.int i/\dX K H p xs/\eI xs i=some v/\Q v H
def yC(K:aA):R2:=λx y H Q=>∃p xs i v,x=.ref p/\y=.int i/\eJ K H p xs/\eI xs i=some v/\Q v H
def yD:R2:=λx y H Q=>∃z i c,x=.str z/\y=.int i/\z.length<=sizeLine/\eI z.cps.toList i=some c/\Q (.str ⟨#[c]⟩) H
theorem qY:sx X (yE X.K):=by
 intro value slice pins s σ H x y v u Q I rx ry h hs
 obtain ⟨p,xs,i,z,rfl,rfl,hq,he,q⟩:=h
 cases rx
 obtain ⟨t,rfl⟩:=ry
 obtain ⟨ao,r,pl,hz⟩:=I.list hq
 obtain ⟨j,h1,h2,h3,h4,h5⟩:=Ku he
 obtain ⟨w,ew,qP⟩:=r.get h2
 have hl:=r.length
 have hn:=vL
 have fin:EP X pins σ Q w s:=⟨z,H,I,qP,q⟩
 by_cases h0:0<=i
 .have hj:i.toNat=j:=by
   rw [seqIndex_of h0 h5] at h1
   exact dq h1
  exact item_listR pl.isList h0 (by ext hz h5 hn) (by rw [hj];simpa using ew) fin hs
 .have hj:(i+(ao.toArray.size:Int)).toNat=j:=by
   rw [seqIndex_neg (DB.mp ‹_›) h4] at h1
   rw [dM,<-hl]
   exact dq h1
  exact subscriptTail_builtinR (x:=w) pl.isList.typeIs slot_list_getitem.lookup
   (wpAny_getItem_list_neg (Q:=λr s'=>r=w/\EP X pins σ Q r s') pl.isList (DB.mp ‹_›) (by rw [dM]<;>lia) (by lia) (by rw [hj];simpa using ew) ⟨rfl,fin⟩) hs
theorem uC:sx X (yC X.K):=by
 intro value slice pins s σ H x y v u Q I rx ry h hs
 obtain ⟨p,xs,i,z,rfl,rfl,hq,he,q⟩:=h
 cases rx
 obtain ⟨t,rfl⟩:=ry
 obtain ⟨ao,r,pl,hz⟩:=I.tuple hq
 obtain ⟨j,h1,h2,h3,h4,h5⟩:=Ku he
 obtain ⟨w,ew,qP⟩:=r.get h2
 have hl:=r.length
 have hn:=vL
 have fin:EP X pins σ Q w s:=⟨z,H,I,qP,q⟩
 exact subscriptTail_builtinR (x:=w) pl.typeIs vz.lookup
  (getItem_tuple (j:=j) (Q:=λr s'=>r=w/\EP X pins σ Q r s') pl (by (clear he hs h1 h2 h5 ew;omega)) (by (clear he hs h1 h2 h4 ew;omega)) (by rw [dM,<-hl];exact h1) (by simpa using ew) ⟨rfl,fin⟩) hs
theorem b8i:sx X yD:=by
 intro value slice pins s σ H x y v u Q I rx ry h hs
 obtain ⟨z,i,c,rfl,rfl,hz,he,q⟩:=h
 obtain ⟨t,rfl⟩:=rx
 obtain ⟨t',rfl⟩:=ry
 obtain ⟨j,h1,h2,h3,h4,h5⟩:=Ku he
 have hl:z.cps.toList.length=z.length:=by simp [Str.length]
 rw [hl] at h1 h4 h5
 have hn:=vL
 exact tail_any (typeIs_str s z t) slot_str_getitem.lookup (getItem_str (c:=c) (by
  have e1:decide (i < -(2^63:Int))=false:=decide_eq_false (by lia)
  have e2:decide (i≥2^63)=false:=decide_eq_false (by lia)
  rw [e1,e2,Bool.or_false]) (by rw [h1];simpa using h2) ⟨.str ⟨#[c]⟩,H,I.tok _,⟨_,rfl⟩,q⟩) hs
def Ui(K:aA):R2:=λx y H Q=>yE K x y H Q\/yC K x y H Q\/yD x y H Q
theorem b8j:sx X (Ui X.K):=qY.or (uC.or b8i)
theorem b0y(ao:List Value)(n j:Nat)(u:Value):fD (·.setIfInBounds j u) { cls:=.type "list",data:=.seq ao.toArray n }={ cls:=.type "list",data:=.seq (ao.set j u).toArray n }:=by
 simp [fD]
theorem Inv.lst{pins:List (Addr×Obj)}{σ:St}{H:Hp}{s:Shared}{p:Addr}{xs:List V}(I:Inv X pins σ H s)(h:H p=some (.lst xs)):
  ∃(ao:List Value) (n:Nat),au xs ao/\s.heap.get? p=some { cls:=.type "list",data:=.seq ao.toArray n }/\xs.length<=sizeLine:=by
 obtain ⟨z,ao,n,r,e⟩:=I.aY p _ h
 exact ⟨ao,n,r,e,z⟩
theorem Inv.uz{pins:List (Addr×Obj)}{σ:St}{H:Hp}{s:Shared}{p:Addr}{xs ys:List V}{ao its':List Value}{n n':Nat}{f:Obj->Obj}(I:Inv X pins σ H s)(h:H p=some (.lst xs))
  (ho:s.heap.get? p=some { cls:=.type "list",data:=.seq ao.toArray n })(hf:f { cls:=.type "list",data:=.seq ao.toArray n }={ cls:=.type "list",data:=.seq its'.toArray n' })(r:au ys its')(hz:ys.length<=sizeLine)(t:Nat):
  Inv X pins σ (upd H p (.lst ys)) { s with heap:=s.heap.update p f,toks:=t }:=by
 have e:(s.heap.update p f).get? p=some { cls:=.type "list",data:=.seq its'.toArray n' }:=by
  rw [El f ho (by rw [hf]<;>rfl),hf]
 refine I.write (x:=p) (e:=p) (by rw [h];trivial) (.inl rfl) (λb u hb q=>(oK _ _ (gm hb)).trans q) ⟨_,e⟩ ?_
 exact ⟨hz,its',n',r,e⟩
def yB:V->V->V->Hp->(Hp->Prop)->Prop:=λo i v H Q=>∃p xs k j,o=.ref p/\i=.int k/\H p=some (.lst xs)/\jg xs.length k=some j/\Q (upd H p (.lst (xs.set j v)))
theorem QN:v5 X yB:=by
 intro pins s σ H o i v ov iv u Q I ro ri rv h
 obtain ⟨p,xs,k,j,rfl,rfl,hp,hj,q⟩:=h
 cases ro
 obtain ⟨t,rfl⟩:=ri
 obtain ⟨ao,n,r,ho,hz⟩:=I.lst hp
 obtain ⟨h1,h2,h3,h4⟩:=Qh hj
 have hl:=r.length
 have hn:=vL
 have I':Inv X pins σ (upd H p (.lst (xs.set j v))) { s with heap:=s.heap.update p (fD (·.setIfInBounds j u)) }:=
  I.uz hp ho (b0y ao n j u) (r.set rv j) (by rw [Jg];exact hz) s.toks
 by_cases h0:0<=k
 .have hk:k.toNat=j:=by
   rw [seqIndex_of h0 h4] at h1
   exact dq h1
  exact PySem.W.ki_setAt ho h0 (by lia) (by rw [dM,<-hl];exact h4) (by rw [hk];exact ⟨_,I',q⟩)
 .have hk:(k+(ao.toArray.size:Int)).toNat=j:=by
   rw [seqIndex_neg (DB.mp ‹_›) h3] at h1
   rw [dM,<-hl]
   exact dq h1
  exact PySem.W.ki_setBack ho (DB.mp ‹_›) (by rw [dM,<-hl];exact h3) (by lia) (by rw [hk];exact ⟨_,I',q⟩)
theorem a7C(lo hi:Option Int)(n:Nat):(sliceBounds lo hi none n).1=((HT.be n 0 lo:Nat):Int)/\(sliceBounds lo hi none n).2.1=((HT.be n n hi:Nat):Int)/\(sliceBounds lo hi none n).2.2=1:=by
 refine ⟨?_,?_,rfl⟩
 .cases lo with
  | none=>simp [sliceBounds,HT.be]
  | some i =>
   simp only [sliceBounds,HT.be,Og,show (1:Int)>0 by decide,if_true]
   by_cases h:i<0
   .simp only [h,if_true]<;>lia
   .simp only [h,if_false]<;>lia
 .cases hi with
  | none=>simp [sliceBounds,HT.be]
  | some i =>
   simp only [sliceBounds,HT.be,Og,show (1:Int)>0 by decide,if_true]
   by_cases h:i<0
   .simp only [h,if_true]<;>omega
   .simp only [h,if_false]<;>omega
theorem a6M(ao:List Value)(lo hi:Option Int):slicePick ao.toArray lo hi none=((ao.drop (HT.be ao.length 0 lo)).take (HT.be ao.length ao.length hi-HT.be ao.length 0 lo)).toArray:=by
 obtain ⟨h1,h2,h3⟩:=a7C lo hi ao.toArray.size
 unfold slicePick
 rw [h1,h2,h3]
 simp only [sliceRange_one,pick_run,dM]<;>rfl
def Gz(K:aA):V->Option Int->Option Int->Hp->VK->Prop:=λx lo hi H Q=>∃a xs,x=.ref a/\dX K H a xs/\∀p,H p=none->Q (.ref p) (upd H p (.lst (kP xs lo hi)))
theorem qN:ua X (Gz X.K):=by
 intro pins s σ H x v vl vu lo hi sl Q I rx hs pl pu h
 obtain ⟨a,xs,rfl,hx,q⟩:=h
 cases rx
 obtain ⟨ao,r,ht,hz⟩:=I.list hx
 have hlen:=r.length
 refine ⟨"list",_,slot_list_getitem.lookup,ht.isList.typeIs,?_⟩
 refine wpAny_getItem_list_slice ht.isList hs pl pu .none (by simp) ?_ (by rw [dM]<;>lia)
 rw [a6M,<-hlen]
 refine ⟨.ref s.heap.objs.size,_,I.laid (t':=s.toks) (o:=.lst (kP xs lo hi)) (λb ob q=>bI _ q) (bh _) ?_,rfl,q _ (I.aY.fresh (bh _))⟩
 exact ⟨fg (R8 xs lo hi) hz,_,0,(r.drop (HT.be xs.length 0 lo)).take (HT.be xs.length xs.length hi-HT.be xs.length 0 lo),eG _ rfl⟩
theorem a8v:cK X (.builtin "len") (λxs H Q=>∃p ys,xs=[.ref p]/\(dX X.K H p ys\/eJ X.K H p ys)/\Q (.int ys.length) H):=by
 intro pins s σ H xs us Q I r h
 obtain ⟨p,ys,rfl,hq,q⟩:=h
 obtain ⟨u,rfl,rx⟩:=vals1 r
 cases rx
 have hn:=vL
 rcases hq with hq | hq
 .obtain ⟨ao,r',pl,hz⟩:=I.list hq
  have hlen:=r'.length
  exact Calls.call_len_list pl.isList (by simp only [dM]<;>lia) ⟨.int ys.length,H,I.tok _,⟨s.toks+1,by rw [dM,hlen]⟩,q⟩
 .obtain ⟨ao,r',pl,hz⟩:=I.tuple hq
  have hlen:=r'.length
  exact len_tuple pl (by simp only [dM]<;>omega) ⟨.int ys.length,H,I.tok _,⟨s.toks+1,by rw [dM,hlen]⟩,q⟩
theorem cK.or(h:cK X f r)(h':cK X f r'):cK X f (λxs H Q=>r xs H Q\/r' xs H Q):=by
 intro pins s σ H xs us Q I rs q
 rcases q with q | q
 .exact h pins s σ H xs us Q I rs q
 .exact h' pins s σ H xs us Q I rs q
theorem a7g:cK X (.type "tuple") (λxs H Q=>∃p ys,xs=[.ref p]/\((dX X.K H p ys/\∀l,H l=none->Q (.ref l) (upd H l (.tup ys)))\/(eJ X.K H p ys/\Q (.ref p) H))):=by
 intro pins s σ H xs us Q I r h
 obtain ⟨p,ys,rfl,h⟩:=h
 obtain ⟨u,rfl,rx⟩:=vals1 r
 cases rx
 rcases h with ⟨hq,q⟩ | ⟨hq,q⟩
 .obtain ⟨ao,r',pl,hz⟩:=I.list hq
  have hlen:=r'.length
  refine call_tuple_list pl.isList (λh' kp=>?_) (by simp only [dM]<;>omega)
  have I1:Inv X pins σ H { s with heap:=h' }:=I.kept (t':=s.toks) kp
  have I2:Inv X pins σ (upd H h'.objs.size (.tup ys)) { s with heap:=h'.push { cls:=.type "tuple",data:=.seq ao.toArray } }:=
   I1.laid (t':=s.toks) (λb o e=>bI _ e) (bh _) (show c7 X.prog X.w _ _ _ (.tup ys) from ⟨hz,ao,r',IsTup.new _ _⟩)
  exact ⟨.ref h'.objs.size,_,I2,rfl,q _ (I1.aY.fresh (bh _))⟩
 .obtain ⟨ao,r',pl,hz⟩:=I.tuple hq
  exact call_tuple_same pl ⟨.ref p,H,I,rfl,q⟩
def F4(K:aA)(T:String)(x:V)(H:Hp):Prop:=match x with
 | .str _=>T = "str"
 | .int _=>T = "int"
 | .ref p=>(T = "list" /\ ∃xs,dX K H p xs)\/(T = "tuple" /\ ∃o,K.lookup p=some o/\o.cls=.type "tuple" /\ o.dict=none) \/
   (T = "dict" /\ ((∃bu,H p=some (.dK bu))\/∃bu,H p=some (.dT bu)))\/(T = "set" /\ ∃S n,H p=some (.set S n))
 | _=>False
theorem PK{pins:List (Addr×Obj)}{σ:St}{H:Hp}{s:Shared}{T:String}{x:V}{v:Value}(I:Inv X pins σ H s)(r:RelV x v)(ty:F4 X.K T x H):
  s.TypeIs v T/\∀a,v=.ref a->∃ob,s.heap.get? a=some ob/\ob.dict=none:=by
 cases x with
 | str z =>
  obtain ⟨t,rfl⟩:=r
  cases (show T = "str" from ty)
  exact ⟨typeIs_str s z t,λ_ e=>nomatch e⟩
 | int i =>
  obtain ⟨t,rfl⟩:=r
  cases (show T = "int" from ty)
  exact ⟨typeIs_int s i t,λ_ e=>nomatch e⟩
 | ref p =>
  cases r
  rcases ty with ⟨rfl,xs,hq⟩ | ⟨rfl,o,hk,hc,hd⟩ | ⟨rfl,hk⟩ | ⟨rfl,S,n,hk⟩
  .obtain ⟨ao,_,pl,_⟩:=I.list hq
   refine ⟨pl.isList.typeIs,λa e=>?_⟩
   cases e
   obtain ⟨o,n,e,c,hd,_⟩:=pl
   exact ⟨o,e,hd⟩
  .refine ⟨⟨o,I.uB p o hk,hc⟩,λa e=>?_⟩
   cases e
   exact ⟨o,I.uB _ o hk,hd⟩
  .have z:∃o,s.heap.get? p=some o/\o.ExactDict:=by
    rcases hk with ⟨bu,hk⟩ | ⟨bu,hk⟩
    .obtain ⟨_,_,_,_,o,_,_,e,ex,_⟩:=I.aY p _ hk
     exact ⟨o,e,ex⟩
    .obtain ⟨_,_,_,_,o,_,_,e,ex,_⟩:=I.aY p _ hk
     exact ⟨o,e,ex⟩
   obtain ⟨o,e,ex⟩:=z
   refine ⟨⟨o,e,ex.1⟩,λa e2=>?_⟩
   cases e2
   exact ⟨o,e,ex.2.1⟩
  .obtain ⟨o,_,_,_,e,ex,_⟩:=I.aY p _ hk
   refine ⟨⟨o,e,ex.1⟩,λa e2=>?_⟩
   cases e2
   exact ⟨o,e,ex.2.1⟩
 | _=>exact iI ty
def Ge(K:aA)(T:String)(r:V->List V->Hp->VK->Prop)(to:TE):TE:=λσ H Q=>to σ H λx H1=>F4 K T x H1/\r x [] H1 Q
def S9(K:aA)(T:String)(r:V->List V->Hp->VK->Prop)(to:TE)(t:TA):TE:=λσ H Q=>to σ H λx H1=>F4 K T x H1/\t σ H1 λxs H2=>r x xs H2 Q
variable {o e:Expr}{es:List Expr}{to:TE}{t:TA}{name:Str}{apos aS:Pos}{T id:String}{r:V->List V->Hp->VK->Prop}
theorem b7X(pa:PlainAttrs T)(slot:Slot T name id)(uE:typeOf (.builtin id)=pure (.type "method_descriptor"))(hm:xQ X id r)(ho:PE X o to)
  (cJ:attributeBase o name X.env (eval o X.env)=eval o X.env:=by rfl)(cH:(apos.endLine==aS.line)=true:=by rfl):PE X (.Call (.Attribute o name apos) [] [] aS) (Ge X.K T r to):=by
 intro pins s σ H Q I h
 refine wpAny_Call_method0_late cJ cH (a9 (ho pins s σ H _ I h) λv s1 ⟨x,H1,I1,r1,ty,q1⟩=>?_)
 obtain ⟨h1,h2⟩:=PK I1 r1 ty
 exact ⟨T,id,pa,slot,uE,h1,h2,OD rfl (PySem.evalArgs_none (hm pins s1 σ H1 x [] v [] Q I1 r1 .nil q1))⟩
theorem O6(pa:PlainAttrs T)(slot:Slot T name id)(uE:typeOf (.builtin id)=pure (.type "method_descriptor"))(hm:xQ X id r)(ho:PE X o to)(ha:PA X (e::es) t)
  (cJ:attributeBase o name X.env (eval o X.env)=eval o X.env:=by rfl)
  (il:((backTo aS (starEach (e::es) X.env)).all (λx=>!x.1)&&(backToKw aS (keywordEach [] X.env)).all (λx=>x.1.isSome)
   && decide ((e::es).length+([]:List Keyword).length+(if ([]:List Keyword).isEmpty then 0 else 1)<30))=true:=by rfl)
  (cH:(apos.endLine==aS.line)=true:=by rfl)(hs:starEach (e::es) X.env=(false,eval e X.env)::starEach es X.env:=by rfl)(uI:(backTo aS (starEach es X.env)).any (·.1)=false:=by rfl):
  PE X (.Call (.Attribute o name apos) (e::es) [] aS) (S9 X.K T r to t):=by
 intro pins s σ H Q I h
 refine wpAny_Call_method_late cJ il cH rfl (a9 (ho pins s σ H _ I h) λv s1 ⟨x,H1,I1,r1,ty,q1⟩=>?_)
 obtain ⟨h1,h2⟩:=PK I1 r1 ty
 refine ⟨T,id,pa,slot,uE,h1,h2,?_⟩
 have hA:=ha aS pins s1 σ H1 _ I1 q1
 rw [hs] at hA ⊢
 refine OD (by show (false||(backTo aS (starEach es X.env)).any (·.1))=false;rw [uI]<;>rfl) (Calls.evalArgs_plain ?_)
 exact a9 hA λus s2 ⟨vs,H2,I2,r2,q2⟩=>hm pins s2 σ H2 x vs v us Q I2 r1 r2 q2
end
end L2
namespace L2
open PySem PySem.Spec PyProof.Rows
def MS(X:Cx)(id:String)(r:V->List V->Hp->VK->Prop):Prop:=
 ∀(pins:List (Addr×Obj)) (s:Shared) (σ:St) (H:Hp) (x:V) (xs:List V) (v:Value) (us:List Value) (Q:VK),Inv X pins σ H s->RelV x v->au xs us->r x xs H Q ->
  wpAny (model X.prog X.w) X.A (call (.builtin id) (v::us)) (EP X pins σ Q) X.xe s
theorem au.one:∀{x:V} {us:List Value},au [x] us->∃u,us=[u]/\RelV x u
 | _,_,.cons r .nil=>⟨_,rfl,r⟩
theorem au.two:∀{x y:V} {us:List Value},au [x,y] us->∃u v,us=[u,v]/\RelV x u/\RelV y v
 | _,_,_,.cons r (.cons q .nil)=>⟨_,_,rfl,r,q⟩
theorem au.zero:∀{us:List Value},au [] us->us=[]
 | _,.nil=>rfl
theorem au.dropLast(h:au xs us):au xs.dropLast us.dropLast:=by
 induction h with
 | nil=>exact .nil
 | cons r t ih =>
  cases t with
  | nil=>exact .nil
  | cons q t'=>exact .cons r ih
theorem au.eraseIdx:∀{xs:List V} {us:List Value} (i:Nat),au xs us->au (xs.eraseIdx i) (us.eraseIdx i)
 | _,_,_,.nil=>.nil
 | _,_,0,.cons _ t=>t
 | _,_,i+1,.cons r t=>.cons r (au.eraseIdx i t)
theorem au.reverse(h:au xs us):au xs.reverse us.reverse:=by
 induction h with
 | nil=>exact .nil
 | cons r t ih=>rw [List.reverse_cons,List.reverse_cons];exact au.append ih (.cons r .nil)
theorem b0F{α:Type}(l:List α):l.eraseIdx (l.length-1)=l.dropLast:=by
 induction l with
 | nil=>rfl
 | cons a r ih =>
  cases r with
  | nil=>rfl
  | cons b r =>
   have e:(a::b::r).length-1=((b::r).length-1)+1:=by
    have h1:(a::b::r).length=r.length+2:=rfl
    have h2:(b::r).length=r.length+1:=rfl
    assumption
   rw [e,List.eraseIdx_cons_succ,ih]
   all_goals rfl
section
variable {X:Cx}{pins:List (Addr×Obj)}{σ:St}{H:Hp}{s:Shared}{l b:Addr}{xs ys zs:List V}
theorem Inv.uA{ao its':List Value}{n:Nat}{t':Nat}(I:Inv X pins σ H s)(hH:H l=some (.lst xs))
  (e:s.heap.get? l=some { cls:=.type "list",data:=.seq ao.toArray n })(hf:f ao.toArray=its'.toArray)(hv:au ys its')(hz:ys.length<=sizeLine):
  Inv X pins σ (upd H l (.lst ys)) { s with heap:=s.heap.update l (fD f),toks:=t' }:=by
 have q:=PySem.IsL.update e f
 rw [hf] at q
 refine I.write (x:=l) (e:=l) (by rw [hH];exact trivial) (.inl rfl) (λb' u hb hu=>(oK s.heap (fD f) (gm hb)).trans hu) ⟨_,q⟩ ?_
 exact ⟨hz,its',_,hv,q⟩
theorem Inv.GU(I:Inv X pins σ H s)(hv:au ys ao)(hz:ys.length<=sizeLine):
  Inv X pins σ (upd H s.heap.objs.size (.lst ys)) { s with heap:=s.heap.push { cls:=.type "list",data:=.seq ao.toArray },toks:=t' }:=
 I.laid (λ_ _ q=>bI _ q) (bh _) ⟨hz,ao,0,hv,eG _ rfl⟩
theorem Inv.fresh(I:Inv X pins σ H s):H s.heap.objs.size=none:=I.aY.fresh (bh _)
theorem Inv.nK(I:Inv X pins σ H s)(hH:H l=some (.lst xs)):xs.length<=sizeLine/\∃(ao:List Value) (n:Nat),au xs ao/\xs.length=ao.length/\s.heap.get? l=some { cls:=.type "list",data:=.seq ao.toArray n }:=by
 obtain ⟨z,ao,n,r,e⟩:=I.aY l _ hH
 exact ⟨z,ao,n,r,r.length,e⟩
theorem b3j(h:n<=sizeLine):JD n=false:=by
 unfold JD
 exact decide_eq_false (Nat.not_lt.mpr ‹_›)
end
section
variable {X:Cx}
def b5x:V->List V->Hp->VK->Prop:=λx vs H Q=>∃l xs y,x=.ref l/\vs=[y]/\H l=some (.lst xs)/\xs.length<sizeLine/\Q .aR (upd H l (.lst (xs++[y])))
theorem b1s:MS X "list.append" b5x:=by
 intro pins s σ H x vs v us Q I rx rv h
 obtain ⟨l,xs,y,rfl,rfl,hH,hz,q⟩:=h
 cases rx
 obtain ⟨u,rfl,ru⟩:=rv.one
 obtain ⟨z,ao,n,r,hl,e⟩:=I.nK hH
 refine call_meets OC ⟨_,e,rfl⟩ F.entry_list_append (F.args_list_append_2 _ _) (PySem.list_append l ao.toArray n u (by rw [dM];lia)) ⟨e,?_⟩
 refine ⟨.aR,_,I.uA (its':=ao++[u]) hH e (by simp) (r.append (.cons ru .nil)) ?_,rfl,q⟩
 rw [dC,Jo]
 assumption
def b5w:V->List V->Hp->VK->Prop:=λx vs H Q=>∃l b xs zs,x=.ref l/\vs=[.ref b]/\H l=some (.lst xs)/\H b=some (.lst zs)/\xs.length+zs.length<=sizeLine/\Q .aR (upd H l (.lst (xs++zs)))
theorem b1r:MS X "list.extend" b5w:=by
 intro pins s σ H x vs v us Q I rx rv h
 obtain ⟨l,b,xs,zs,rfl,rfl,hH,hB,hz,q⟩:=h
 cases rx
 obtain ⟨u,rfl,ru⟩:=rv.one
 cases ru
 obtain ⟨z,ao,n,r,hl,e⟩:=I.nK hH
 obtain ⟨z2,cQ,n2,r2,gM,e2⟩:=I.nK hB
 have hsz:ao.toArray.size+cQ.toArray.size<=sizeLine:=by rw [dM,dM];lia
 have zP:¬(!ao.toArray.isEmpty&&JD (ao.toArray.size+cQ.toArray.size))=true:=by
  rw [b3j hsz,Bool.and_false]
  exact my
 refine call_meets OB ⟨_,e,rfl⟩ F.entry_list_extend (F.args_list_extend_2 _ _)
  (AutoSeq1.list_extend_list_list_0 l ao.toArray n b cQ.toArray n2 zP (by rw [dM];exact SU ‹_›) (fg ‹_› (by decide))) ⟨e,e2,?_⟩
 refine ⟨.aR,_,I.uA (its':=ao++cQ) hH e (by simp) (r.append r2) ?_,rfl,q⟩
 rw [dC]
 assumption
def GB:V->List V->Hp->VK->Prop:=λx vs H Q=>∃l xs y,x=.ref l/\vs=[]/\H l=some (.lst xs)/\xs[xs.length-1]?=some y/\Q y (upd H l (.lst xs.dropLast))
theorem b76:MS X "list.pop" GB:=by
 intro pins s σ H x vs v us Q I rx rv h
 obtain ⟨l,xs,y,rfl,rfl,hH,hy,q⟩:=h
 cases rx
 have Xh:=rv.zero
 subst Xh
 obtain ⟨z,ao,n,r,hl,e⟩:=I.nK hH
 obtain ⟨u,hu,ru⟩:=r.get hy
 have Xc:ao.toArray[ao.toArray.size-1]?=some u:=by
  show ao.toArray[ao.length-1]?=some u
  rw [<-tH,<-hl]
  exact hu
 refine call_meets N8 ⟨_,e,rfl⟩ F.entry_list_pop (F.args_list_pop_1 _) (MeetsSeq.list_pop_last l ao.toArray n u Xc (by rw [dM];lia)) ⟨e,?_⟩
 refine ⟨y,_,I.uA (its':=ao.dropLast) hH e ?_ r.dropLast ?_,ru,q⟩
 .show ao.toArray.eraseIdxIfInBounds (ao.toArray.size-1)=ao.dropLast.toArray
  rw [dM,List.eraseIdxIfInBounds_toArray,b0F]
 .rw [List.length_dropLast]
  exact SS ‹_›
def GC:R2:=λx y H Q=>∃l b xs zs,x=.ref l/\y=.ref b/\H l=some (.lst xs)/\H b=some (.lst zs)/\xs.length+zs.length<=sizeLine/\∀p,H p=none->Q (.ref p) (upd H p (.lst (xs++zs)))
theorem uo:gG X (binaryOp .Add) GC:=by
 intro pins s σ H x y v u Q I rx ry h
 obtain ⟨l,b,xs,zs,rfl,rfl,hH,hB,hz,q⟩:=h
 cases rx
 cases ry
 obtain ⟨z,ao,n,r,hl,e⟩:=I.nK hH
 obtain ⟨z2,cQ,n2,r2,gM,e2⟩:=I.nK hB
 refine PySem.P.add_list e e2 ?_ (by rw [dM,dM];omega)
 have ea:ao.toArray++cQ.toArray=(ao++cQ).toArray:=by simp
 rw [ea]
 exact ⟨.ref _,_,I.GU (t':=s.toks) (r.append r2) (by rw [dC];assumption),rfl,q _ I.fresh⟩
end
section
variable {prog:Program}{w:World}{A:Around}{E:Value->Shared->Prop}{s:Shared}
end
section
variable {X:Cx}
end
end L2
namespace SQ
open PySem PySem.W PySem.Calls PyProof.Rows
theorem a5S:∀(ns:List Int) (vs:List Value),WellAll P h vs (ns.map WData.int)->IntsAre vs ns:=by
 intro ns
 induction ns with
 | nil =>
  intro vs w
  rw [wF] at w
  cases w
  exact .nil
 | cons n ns ih =>
  intro vs w
  rw [fF] at w
  cases w with
  | cons a b =>
   cases a
   exact .cons _ _ (ih _ b)
theorem b1a{l:OpenLaw}{n:Nat}(hn:l.most=some n){h:Heap}
  (ij:l.row.toRowW.claim.pre args=true)(Ha:WellAll P h vals args):
  ∃a vs ns,vals=[dN a]/\args=[WData.list (ns.map WData.int)]/\h.get? a=some { cls:=.type "list",data:=.seq vs.toArray }/\IntsAre vs ns/\ns.length<=n:=by
 have Xk:WShape.hasAll [] args [.list .int]=true:=(pre_splitW ij).1
 have hc:l.pre.holds [] { args:=args }=true:=(pre_splitW ij).2
 obtain ⟨d,r,rfl,h1,h2⟩:=hasAllW_cons Xk
 obtain rfl:=hasAllW_nil h2
 obtain ⟨xs,rfl,h3⟩:=hasW_list h1
 obtain ⟨ns,rfl⟩:=items_int h3
 have hlen:ns.length<=n:=by
  unfold OpenLaw.pre at hc
  have h4:(WTm.not (.lt (.lit (.int (n:Int))) (.len (.arg 0)))).holds [] { args:=[.list (ns.map .int)] }=true:=by
   have h4:=(holds_andW hc).1
   rw [hn] at h4
   exact h4
  have h5:=condW_of h4 (w_not (w_lt w_lit (w_len_list (w_arg rfl))))
  rw [bB] at h5
  refine IY λq=>?_
  have q':(n:Int)<((ns.length:Nat):Int):=by exact Int.ofNat_lt.mpr ‹_›
  first
   | (rw [decide_eq_true q'] at h5;exact absurd h5 (by decide))
   | (simp at h5;omega)
 cases Ha with
 | cons w1 w2 =>
  cases w2
  cases w1 with
  | list ho jA=>exact ⟨_,_,ns,rfl,rfl,ho,a5S ns _ jA,hlen⟩
theorem b1j(l:OpenLaw)(args:List WData):l.row.toRowW.claim.post args (.bool true) args=true:=
 postW_of (r:=l.row.toRowW) (X:=(true==true))
  (show WShape.has [] (.bool true) .bool=true by first | rfl | decide | simp [WShape.has,WShape.arms,WShape.armsAll])
  (show (WTm.eq .res (.lit (.bool true))).value [] { args:=args,res:=some (.bool true),after:=args }=some (.bool (true==true)) from w_eq_bool (w_res rfl) w_lit) rfl
theorem kT{l:OpenLaw}{n:Nat}{loose:List Str}{d:DefRec}
  (hn:l.most=some n)(Ah:d.params.defaults=[])
  (call:∀(w:World) (cS aO:Shared) (mg mb:Str->Option Value) (fa:Addr) (o:Obj) (pm cd doc:Value) (a:Addr) (vs:List Value) (ns:List Int),
   Ground q loose [] XP w cS mg mb aO.heap->YP w aO.heap ->
   aO.heap.get? fa=some o->o.data=.func (docDef d.name d.params d.body d.scope pm cd doc)->aO.heap.CodeRec cd d.name->mg d.name=some (.ref fa) ->
   aO.heap.get? a=some { cls:=.type "list",data:=.seq vs.toArray }->IntsAre vs ns->ns.length<=n->aO.gens=#[] ->
   codeAny (model l.prog w) callerA (.call (.ref fa) ⟨[.ref a],[]⟩) (λr s'=>r=.ok (.ret (.bool true))/\OldK aO.heap s'.heap/\s'.os=aO.os/\AllBare s'.gens) aO):
  WalkO q loose XP YP l.row.toRowW d [] (λf vs=>IL f vs):=by
 intro w cS aO mg mb G Y fa o pm cd doc dV kV ho hd cI hD zO hg args vals as ij Xx hrd Ha hlo
 obtain rfl:dV=.none:=Dflts.none hD Ah
 obtain rfl:kV=.none:=Dflts.noKw hD
 obtain ⟨a,vs,ns,rfl,rfl,uL,hints,hlen⟩:=b1a hn ij Ha
 refine enter_call (DS (call w cS aO mg mb fa o pm cd doc a vs ns G Y ho (fd_plain hd) cI zO uL hints hlen hg) λr s' hq=>?_)
 obtain ⟨rfl,h2,h3,h4⟩:=hq
 exact ⟨.inl ⟨.bool true,.bool true,[],rfl,λ_=>rfl,.bool true,b1j l _,λ_=>⟨I0,λ_ hm=>(nomatch hm)⟩⟩,h2,h3,h4⟩
section
variable {prog:Program}{w:World}{A:Around}{E:Value->Shared->Prop}{s:Shared}{K:Frag}
def ledger(h:Heap)(L d:Addr):List (Addr×Obj):=(eH h.objs.size).filterMap λa=>if a=L\/a=d then none else (h.get? a).map λo=>(a,o)
end
end SQ
namespace L2
open PySem PySem.Spec PyProof.Rows
theorem Rm:∀{vs:List Value} {ns:List Int},IntsAre vs ns->au (ns.map V.int) vs
 | _,_,.nil=>.nil
 | _,_,.cons n t h=>.cons ⟨t,rfl⟩ (Rm h)
theorem Rz{α:Type}{c:Prop}[Decidable c]{a b:α}(h:(if c then some a else none)=some b):c/\a=b:=by
 by_cases hc:c
 .rw [if_pos hc] at h;exact ⟨hc,dq h⟩
 .rw [if_neg hc] at h;cases h
def dI:Str:="dealt.<locals>.<lambda>"
def Tb(K:aA)(H:Hp):Prop:=∀c P,nu K "dealt" = some (c,P)->H P=some (.tab dI)
def EA(K:aA)(ts:List Addr):Bool:=match nu K "dealt" with
 | some (c,P)=>Ed K c P&&(K.lookup P).isNone&&ts.contains P
 | none=>true
theorem b3r{P:Program}{w:World}{K:aA}{mg mb:Str->Option Value}{CX:oB}{k:Nat}{fa a:Addr}{fd:FuncData}{x:Str}{sp:Sp}{aO:Shared}{vs:List Value}{ns:List Int}{ts:List Addr}
  (KX:K.In aO.heap)(qg:aO.heap.Ns mainGlobals mg)(hb:aO.heap.Ns builtinsNs mb)(Dr:∀x:Str,x ≠ "__name__" -> mb x=bootBuiltins x)(Hw:aO.heap.NoLimit)(hg:aO.gens=#[])
  (XJ:∃bm ob,mg "__builtins__" = some (.ref bm)/\bm≠builtinsNs/\aO.heap.get? bm=some ob/\ob.cls=.type "module" /\ ob.dict=some builtinsNs/\ob.data=.plain)
  (hL:EA K ts=true)(uT:∀P∈ts,aO.heap.get? P=some (wM #[]))
  (ha:aO.heap.get? a=some { cls:=.type "list",data:=.seq vs.toArray })(hi:IntsAre vs ns)(hl:ns.length<=sizeLine)(hr:bp k callerA)
  (F:∀base:Heap,K.In base->base.Ns mainGlobals mg->bS P w K mg base CX k fa fd [x] sp)(ip:∀(s:Shared) (u:Value),BindsTo s fd ⟨[u],[]⟩ [(x,u)])
  (sQ:∀H:Hp,Tb K H->dX K H a (ns.map V.int)->sp [.ref a] H (λv H'=>v=.bl true/\Tb K H') λ_ _ _=>False)
  (H9:∀H e s',CX [] H aO (λ_ _ _=>False) e s'->False):
  codeAny (model P w) callerA (.call (.ref fa) ⟨[.ref a],[]⟩) (λr s'=>r=.ok (.ret (.bool true))/\OldK aO.heap s'.heap/\s'.os=aO.os/\AllBare s'.gens) aO:=by
 have rv:=Rm hi
 have GW:=hi.length
 have tabs:∀c P,nu K "dealt" = some (c,P)->Ed K c P=true/\K.lookup P=none/\aO.heap.get? P=some (wM #[]):=λc P e=>by
  unfold EA at hL
  rw [e] at hL
  simp only [Be,Option.isNone_iff_eq_none,List.contains_iff_mem] at hL
  exact ⟨hL.1.1,hL.1.2,uT P hL.2⟩
 have core:∀H:Hp,Tb K H->dX K H a (ns.map V.int)->iF P w H aO.heap->(∀b,H b≠none->(b=a/\∃o xs,H b=some (.gz o (.lst xs)))\/∃c,nu K "dealt" = some (c,b))->(H a≠none->K.lookup a=none) ->
   codeAny (model P w) callerA (.call (.ref fa) ⟨[.ref a],[]⟩) (λr s'=>r=.ok (.ret (.bool true))/\OldK aO.heap s'.heap/\s'.os=aO.os/\AllBare s'.gens) aO:=by
  intro H hO hS aY hA hK
  have jI:∀{b:Addr} {o:Obj},aO.heap.get? b=some o->H b=none->(jz aO.heap H).get? b=some o:=λe n=>b3F e n
  have Nf:∀{b:Addr} {o:Obj},aO.heap.get? b=some o->(∀xs n,o.data≠.seq xs n)->(∀xs,o.data=.fields xs->o.cls≠.none)->H b=none:=λ{b o} e d d2=>by
   cases q:H b with
   | none=>rfl
   | some u =>
    rcases hA b (by rw [q];simp) with ⟨e',_⟩ | ⟨c,e'⟩
    .subst e'
     rw [ha] at e;cases e
     exact absurd rfl (d _ _)
    .rw [(tabs c b e').2.2] at e;cases e
     exact absurd rfl (d2 _ rfl)
  have C4:∀{b:Addr} {m:Str->Option Value},aO.heap.Ns b m->(jz aO.heap H).Ns b m:=λ{b m} ⟨o,es,ep,e,d,r⟩=>⟨o,es,ep,jI e (Nf e (λ_ _ z=>by rw [d] at z;cases z) λ_ z=>by rw [d] at z;cases z),d,r⟩
  have NR:K.In (jz aO.heap H):=λb o e=>jI (KX b o e) (by
   cases q:H b with
   | none=>rfl
   | some u =>
    rcases hA b (by rw [q];simp) with ⟨e',_⟩ | ⟨c,e'⟩
    .subst e'
     rw [hK (by rw [q];simp)] at e;cases e
    .rw [(tabs c b e').2.1] at e;cases e)
  have hM:Mod K mg (jz aO.heap H):=⟨NR,C4 qg,⟨mb,C4 hb,Dr⟩,let ⟨mc,h1,h2⟩:=Hw;⟨mc,C4 h1,h2⟩,let ⟨bm,ob,b1,b2,b3,b4,b5,b6⟩:=XJ;⟨bm,ob,b1,b2,jI b3 (Nf b3 (λ_ _ z=>by rw [b6] at z;cases z) λ_ z=>by rw [b6] at z;cases z),b4,b5,b6⟩⟩
  have e0:iG P w K mg (jz aO.heap H) callerA [] aO H:=⟨rfl,hM,λb o e=>b5U e,Nat.le_of_eq (b1O _ _),trivial,λb hb=>absurd (show b∈([]:List Addr) from hb) (by simp),aY,.of_eq hg⟩
  refine DS ((F _ NR (C4 qg)).run callerA [] aO H ⟨[.ref a],[]⟩ [.ref a] [.ref a] _ _ hr e0 (ip aO (.ref a)) (.cons rfl .nil) (sQ H hO hS)) λr s' h=>?_
  cases r with
  | error e=>exact (H9 H e s' h).elim
  | ok fl =>
   cases fl with
   | next=>exact iI h
   | brk=>exact iI h
   | cont=>exact iI h
   | ret u =>
    obtain ⟨v,H',os,bare,un,zM,r',q,qT⟩:=h
    subst q
    obtain rfl:u=jH true:=r'
    have old:∀b o,aO.heap.get? b=some o->s'.heap.get? b=some o\/∃c ps,nu K "dealt" = some (c,b)/\s'.heap.get? b=some (wM ps):=λb o e=>by
     cases q:H b with
     | none=>exact .inl (un.keep b o e q (by intro z;exact absurd (show b∈([]:List Addr) from z) (by simp)) (by simp))
     | some u =>
      rcases hA b (by rw [q];simp) with ⟨_,ob,xs,z⟩ | ⟨c,e'⟩
      .have z2:=un.fx b ob _ z
       obtain ⟨e1,_⟩:=aY b _ z
       obtain ⟨e2,_⟩:=zM b _ z2
       rw [e] at e1;cases e1
       exact .inl e2
      .obtain ⟨ps,e2,_⟩:=zM b _ (qT c b e')
       exact .inr ⟨c,ps,e',e2⟩
    refine ⟨rfl,⟨λb o e=>?_,λb o e=>?_⟩,os,bare⟩
    .rcases old b o e with z | ⟨c,ps,e',z⟩
     .exact .inl z
     .obtain ⟨t1,_,t3⟩:=tabs c b e'
      rw [t3] at e;cases e
      exact .inr (.inl ⟨((PySem.W.codeHd_of_K KX t1).tab t3).isCodeTable,rfl,#[],ps,rfl,by rw [Array.empty_append];exact z⟩)
    .rcases old b o e with z | ⟨c,ps,e',z⟩
     .exact ⟨o,z⟩
     .exact ⟨_,z⟩
 have Nd:∀(H:Hp) (b:Addr),(∃c,nu K "dealt" = some (c,b))->c7 P w H aO.heap b (.tab dI):=λH b ⟨c,e⟩=>⟨#[],(tabs c b e).2.2,trivial,λpos cv h=>by simp [codeAmong] at h⟩
 have Ni:∀c b,nu K "dealt" = some (c,b)->b≠a:=λc b e z=>by
  have:=(tabs c b e).2.2
  rw [z,ha] at this
  cases this
 cases hk:K.lookup a with
 | some o =>
  have e:=KX a o hk
  rw [ha] at e
  cases e
  refine core (λb=>if (nu K "dealt").map (·.2)=some b then some (.tab dI) else none) (λc b e=>if_pos (by rw [e];rfl)) (.inr ⟨_,vs.toArray,_,hk,rfl,rfl,rfl,by rw [dM,GW];exact hl,by simpa using rv⟩) (λb u z=>?_) (λb z=>?_) λz=>?_
  .obtain ⟨hc,rfl⟩:=(Rz z)
   obtain ⟨⟨c,b'⟩,e,rfl⟩:=Ba.mp hc
   exact Nd _ _ ⟨c,e⟩
  .by_cases hc:(nu K "dealt").map (·.2)=some b
   .obtain ⟨⟨c,b'⟩,e,rfl⟩:=Ba.mp hc
    exact .inr ⟨c,e⟩
   .exact absurd (if_neg hc) z
  .by_cases hc:(nu K "dealt").map (·.2)=some a
   .obtain ⟨⟨c,b'⟩,e,e2⟩:=Ba.mp hc
    exact absurd e2 (Ni c b' e)
   .exact absurd (if_neg hc) z
 | none =>
  refine core (λb=>if b=a then some (.gz { cls:=.type "list",data:=.seq vs.toArray } (.lst (ns.map V.int))) else if (nu K "dealt").map (·.2)=some b then some (.tab dI) else none) (λc b e=>by show (if b=a then _ else _)=_;rw [if_neg (Ni c b e),if_pos (by rw [e];rfl)]) (.inl (.inr ⟨{ cls:=.type "list",data:=.seq vs.toArray },if_pos rfl⟩)) (λb u z=>?_) (λb z=>?_) λ_=>hk
  .by_cases hb:b=a
   .have z':=(if_pos hb).symm.trans z
    cases z'
    subst hb
    exact ⟨ha,by rw [bB];exact hl,vs,_,rv,ha⟩
   .obtain ⟨hc,rfl⟩:=Rz ((if_neg hb).symm.trans z)
    obtain ⟨⟨c,b'⟩,e,rfl⟩:=Ba.mp hc
    exact Nd _ _ ⟨c,e⟩
  .by_cases hb:b=a
   .exact .inl ⟨hb,_,_,if_pos hb⟩
   .by_cases hc:(nu K "dealt").map (·.2)=some b
    .obtain ⟨⟨c,b'⟩,e,rfl⟩:=Ba.mp hc
     exact .inr ⟨c,e⟩
    .exact absurd ((if_neg hb).trans (if_neg hc)) z
end L2
namespace L2
open PySem PySem.Spec PyProof.Rows
abbrev KOf{K:aA}{h:Heap}(_:K.In h):aA:=K
theorem qH{l:Jf}{n k:Nat}{q:Program}{loose:List Str}{XP:(Str->Option Value)->Heap->Prop}{YP:World->Heap->Prop}{d:DefRec}{K:Params->aA}{CX:World->oB}{sp:World->Sp}{x:Str}{ts:List Addr}
  (hn:l.most=some n)(Xu:n<=sizeLine)(Ah:d.params.defaults=[])(hr:bp k callerA)
  (hY:∀(w:World) (h:Heap),YP w h->(K w.params).In h/\∀P∈ts,h.get? P=some (wM #[]))(hL:∀w:World,EA (K w.params) ts=true)
  (F:∀(w:World) (mg:Str->Option Value) (fa:Addr) (h:Heap),(K w.params).In h->h.Ns mainGlobals mg->mg d.name=some (.ref fa) ->
   ∃fd:FuncData,(∀(s:Shared) (u:Value),BindsTo s fd ⟨[u],[]⟩ [(x,u)]) /\
    ∀base:Heap,(K w.params).In base->base.Ns mainGlobals mg->bS l.prog w (K w.params) mg base (CX w) k fa fd [x] (sp w))
  (sQ:∀(w:World) (H:Hp) (a:Addr) (ns:List Int),ns.length<=n->Tb (K w.params) H->dX (K w.params) H a (ns.map V.int)->sp w [.ref a] H (λv H'=>v=.bl true/\Tb (K w.params) H') λ_ _ _=>False)
  (H9:∀(w:World) (H:Hp) (s:Shared) (e:Value) (s':Shared),CX w [] H s (λ_ _ _=>False) e s'->False):
  PySem.W.WalkO q loose XP YP l.row.toRowW d [] (λf vs=>IL f vs):=by
 refine SQ.kT hn Ah λw cS aO mg mb fa o pm cd doc a vs ns G Y ho hd cI zO uL hints hlen hg=>?_
 obtain ⟨KX,uT⟩:=hY w _ Y
 obtain ⟨fd,hb,hF⟩:=F w mg fa _ KX G.T.g zO
 exact b3r KX G.T.g G.T.b G.T.builtins G.T.nolimit hg G.T.bmain (hL w) uT uL hints (fg hlen Xu) hr hF hb (λH hO hS=>sQ w H a ns hlen hO hS) λH e s'=>H9 w H aO e s'
end L2
namespace L2
open PySem PySem.Spec PyProof.Rows
def lS(s:Stmt):Arguments:=match s with
 | .FunctionDef _ a _ _ _ _ _ _ _ _=>a
 | _=>{ posonlyargs:=[],args:=[],vararg:=none,kwonlyargs:=[],kw_defaults:=[],kwarg:=none,defaults:=[] }
def iC(s:Stmt):List Stmt:=match s with
 | .FunctionDef _ _ b _ _ _ _ _ _ _=>b
 | _=>[]
def eN(s:Stmt):Scope:=match s with
 | .FunctionDef _ _ _ _ _ _ sc _ _ _=>sc
 | _=>{ kind:=.function,names:=[],isGenerator:=false,isCoroutine:=false }
abbrev iN:oB:=λ_ _ _ _ _ _=>False
abbrev E0:XK:=λ_ _ _=>False
theorem yS:JX iN X E0:=λ_ _ _ _ _ _ _ h=>h.elim
structure sy(K:aA)(x qual:Str)(st:Stmt)(f:Addr)(fd:FuncData):Prop where
 ex:∃(oc:Value) (od:Option Addr) (kV doc pm:Value) (an:Option Addr) (du ct:Value) (qR:Array (Option Value)),
  fd=jZ x qual (lS st) (iC st) (eN st) .none kV doc pm an du ct/\K.lookup f=some ⟨oc,od,.func fd,qR⟩/\DN K du qual=true
 kp:vn K (.ref f)=true
section
variable {P:Program}{w:World}{K:aA}{mg:Str->Option Value}{base:Heap}
theorem sy.ok{x qual:Str}{st:Stmt}{f:Addr}{fd:FuncData}{N ps:List Str}{k:Nat}{sp:Sp}(F:sy K x qual st f fd)(S:cW N ps (eN st))(len:∀vs H Q E,sp vs H Q E->vs.length=ps.length)
  (bE:∀(du:Value) (A:Around) (outer:List Env) (s:Shared) (H:Hp) (vs:List V) (Q:VK) (E:XK),bp k (A.deeper (envOfC qual (eN st) s.heap.objs.size f du))->sp vs H Q E ->
   ∃t,nG (kO iN P w K mg base N qual (eN st) f du A outer s H E).gh (iC st) t/\t { nx:=λ_ H'=>Q .aR H',rt:=Q } (start N vs) H):bS P w K mg base iN (k+1) f fd ps sp:=by
 obtain ⟨oc,od,kV,doc,pm,an,du,ct,qR,rfl,lk,cI⟩:=F.ex
 refine OV lk cI S len λA outer s H vs Q E hr sQ=>?_
 obtain ⟨t,h,q⟩:=bE du A outer s H vs Q E hr sQ
 exact ⟨t,h.gh,q⟩
theorem sy.binds{x qual:Str}{st:Stmt}{f:Addr}{fd:FuncData}{ps:List Str}(F:sy K x qual st f fd)
  (h:∀(kV doc pm:Value) (an:Option Addr) (du ct:Value) (us:List Value),us.length=ps.length->bindArgs (jZ x qual (lS st) (iC st) (eN st) .none kV doc pm an du ct) ⟨us,[]⟩=pure (ps.zip us)):Binds K fd ps []:=by
 obtain ⟨oc,od,kV,doc,pm,an,du,ct,qR,rfl,lk,cI⟩:=F.ex
 exact .all (h kV doc pm an du ct)
theorem PQ{x qual:Str}{st:Stmt}{f:Addr}{oc:Value}{od an:Option Addr}{qR:Array (Option Value)}{kV doc pm du ct:Value}(l:K.lookup f=some ⟨oc,od,.func (jZ x qual (lS st) (iC st) (eN st) .none kV doc pm an du ct),qR⟩)
  (c:DN K du qual=true)(k:vn K (.ref f)=true):sy K x qual st f (jZ x qual (lS st) (iC st) (eN st) .none kV doc pm an du ct):=⟨⟨oc,od,kV,doc,pm,an,du,ct,qR,rfl,l,c⟩,k⟩
end
section
variable {X:Cx}
theorem pv(i:Nat){x:Str}{pos:Pos}(hN:X.N[i]?=some x:=by rfl)(hv:gU X.env.scope x:=by first | exact bO rfl | exact aW (bO rfl) | exact aW (aW rfl))(hd:(x==("__debug__":Str))=false:=by decide)
  (cI:(x==("__classdict__":Str))=false:=by decide):PE X (.Name x pos) (yb i):=rY hN hv hd cI
end
def aq(H H':Hp):Prop:=∀b o,H b=some o->H' b=some o
theorem aq.refl(H:Hp):aq H H:=λ_ _ h=>h
theorem aq.trans(a:aq H H1)(b:aq H1 H2):aq H H2:=λc o h=>b c o (a c o h)
theorem aq.free(e:aq H H')(h:H' l=Option.none):H l=Option.none:=by
 cases q:H l with
 | none=>rfl
 | some o =>
  rw [e l o q] at h
  cases h
theorem aq.seq{K:aA}{H H':Hp}{a:Addr}{xs:List V}(e:aq H H')(h:dX K H a xs):dX K H' a xs:=by
 rcases h with (h | ⟨o,h⟩) | h
 .exact .inl (.inl (e _ _ h))
 .exact .inl (.inr ⟨o,e _ _ h⟩)
 .exact .inr h
end L2
set_option maxHeartbeats 4000000
namespace DL
open PySem PySem.Spec PyProof.Rows L2
section
variable {prog:Program}{w:World}{A:Around}{E:Value->Shared->Prop}{s:Shared}
theorem b33{ws:List Value}(ht:IsTup s.heap t #[])(hb:IsTup s.heap b ws.toArray)(h1:Q (.ref b) s):wpAny (model prog w) A (binaryOp .Add (.ref t) (.ref b)) Q E s:=by
 obtain ⟨⟨cls,dd,data,sl⟩,ho,hc,n,hd⟩:=id ht
 obtain ⟨⟨u6,mv,data2,lG⟩,lH,pH,n2,hd2⟩:=id hb
 simp only at hc hd pH hd2
 subst hc hd pH hd2
 exact concat_meets ⟨_,ho,rfl⟩ ⟨_,lH,rfl⟩ IZ II Jp Jt (JE _ _)
   (tuple_addW0 t b #[] ws.toArray n n2 dd mv sl lG rfl) ⟨ho,lH,h1⟩
theorem a4K{items:Array Value}{lo hi:Option Int}(ht:IsTup s.heap t items)(hs:s.heap.IsSliceOf sl vl vu .none)(pl:IsPart vl lo)(pu:IsPart vu hi)
  (hw:HT.be items.size 0 lo=0/\HT.be items.size items.size hi=items.size)(h:Q (.ref t) s):wpAny (model prog w) A (getItem (.ref t) (.ref sl)) Q E s:=by
 obtain ⟨os,q8,rg,Ae⟩:=id hs
 have uT:s.TypeIs (.ref sl) "slice":=⟨os,q8,rg⟩
 unfold getItem
 try with_reducible refine pO ?_
 first | refine ar (aZ ?_) | skip
 refine ar (wpAny_sequenceKey ht.typeIs (by decide) ?_)
 refine ar (vv (name:=qt "__getitem__") ht.typeIs vz
  (tD vz ht.typeIs entry_tuple_getitem ?_ (args_tuple_getitem _ _)))
 show wpAny _ _ (ON (.ref t) >>= _) _ _ s
 refine ar (tupleItemsOf_ ht ?_)
 refine ar (DR uT ?_)
 rw [if_pos (by decide)]
 refine ar (HT.dB hs pl pu ?_)
 rw [hw.1,hw.2]
 show wpAny _ _ (if (((0:Nat):Int)==0&&(1:Int)==1&&(items.size-0)==items.size)=true then _ else _) _ _ s
 rw [if_pos (by simp)]
 unfold Builtin.Tuple.tupleIsExact
 refine ar (ar (DR ht.typeIs (aZ ?_)))
 rw [if_pos (by decide)]
 refine ar (vd ?_)
 first
  | exact aZ ⟨_,rfl,aZ h⟩
  | exact ar (aZ (aZ ⟨_,rfl,aZ h⟩))
end
section
variable {X:Cx}
noncomputable def yG(K:aA):R2:=λx y H Q=>∃a b ys,x=.ref a/\y=.ref b/\eJ K H a []/\eJ K H b ys/\Q (.ref b) H
theorem b5R:gG X (binaryOp .Add) (yG X.K):=by
 intro pins s σ H x y v u Q I rx ry h
 obtain ⟨a,b,ys,rfl,rfl,ha,hb,q1⟩:=h
 cases rx
 cases ry
 obtain ⟨ao,r1,p1,_⟩:=I.tuple ha
 obtain ⟨cQ,r2,p2,_⟩:=I.tuple hb
 cases r1
 exact b33 p1 p2 ⟨.ref b,H,I,rfl,q1⟩
def GA(K:aA):V->Option Int->Option Int->Hp->VK->Prop:=λx lo hi H Q=>∃a xs,x=.ref a/\eJ K H a xs /\
 (HT.be xs.length 0 lo=0/\HT.be xs.length xs.length hi=xs.length)/\Q (.ref a) H
theorem ui:ua X (GA X.K):=by
 intro pins s σ H x v vl vu lo hi sl Q I rx hs pl pu h
 obtain ⟨a,xs,rfl,hx,hw,q⟩:=h
 cases rx
 obtain ⟨ao,r,ht,hz⟩:=I.tuple hx
 have hlen:ao.toArray.size=xs.length:=by rw [dM];exact r.length.symm
 refine ⟨"tuple",_,vz.lookup,ht.typeIs,?_⟩
 exact a4K ht hs pl pu (by rw [hlen];exact hw) ⟨.ref a,H,I,rfl,q⟩
end
end DL
namespace DL
open PySem PySem.Spec PyProof.Rows L2
inductive D where
 | aR | bl (b:Bool) | int (i:Int) | str (x:Str) | tup (ds:List D) | lst (ro:Bool) (ds:List D) | exc (n:Str) | fy (fz:Bool) (bu:List (Int×Int))
 deriving Inhabited
inductive Sl where
 | no | sh (d:D) | ow (ds:List D) | dw (bu:List (Int×Int))
 deriving Inhabited
noncomputable abbrev En:=List Sl
noncomputable def Sl.d:Sl->D
 | .no=>.aR
 | .sh d=>d
 | .ow ds=>.lst false ds
 | .dw bu=>.fy false bu
def IB(p C:Addr)(h:Heap):Prop:=∃o,h.get? p=some o/\o.cls=.ref C
mutual
inductive Is (K:aA) (O:Addr->Prop) (H:Hp):V->D->Prop
 | aR:Is K O H .aR .aR
 | bl (b:Bool):Is K O H (.bl b) (.bl b)
 | int (i:Int):Is K O H (.int i) (.int i)
 | str (x:Str):Is K O H (.str x) (.str x)
 | tup {p:Addr} {xs:List V} {ds:List D} (ho:¬O p) (hp:Rd H p (.tup xs)) (hs:aK K O H xs ds):Is K O H (.ref p) (.tup ds)
 | nL {p:Addr} {xs:List V} {ds:List D} (hp:eJ K (λ_=>none) p xs) (hs:aK K O H xs ds):Is K O H (.ref p) (.tup ds)
 | lst {p:Addr} {xs:List V} {ds:List D} (ho:¬O p) (hp:H p=some (.lst xs)) (hs:aK K O H xs ds):Is K O H (.ref p) (.lst false ds)
 | lZ {p:Addr} {xs:List V} {ds:List D} (ho:¬O p) (hp:Rd H p (.lst xs)) (hs:aK K O H xs ds):Is K O H (.ref p) (.lst true ds)
 | l7 {p:Addr} {xs:List V} {ds:List D} (hp:dX K (λ_=>none) p xs) (hs:aK K O H xs ds):Is K O H (.ref p) (.lst true ds)
 | exc {p C:Addr} {n:Str} (ho:¬O p) (hn:jY K mainGlobals n=some (some (.ref C))) (hp:H p=some (.ext (IB p C))):Is K O H (.ref p) (.exc n)
 | fy {p:Addr} {bu:List (Int×Int)} (ho:¬O p) (hp:H p=some (.dK (bu.map λq=>(.inl q.1,.int q.2)))):Is K O H (.ref p) (.fy false bu)
 | rz {p:Addr} {bu:List (Int×Int)} {o:Obj} (ho:¬O p) (hp:H p=some (.gz o (.dK (bu.map λq=>(.inl q.1,.int q.2))))):Is K O H (.ref p) (.fy true bu)
inductive aK (K:aA) (O:Addr->Prop) (H:Hp):List V->List D->Prop
 | nil:aK K O H [] []
 | cons {x:V} {d:D} {xs:List V} {ds:List D} (h:Is K O H x d) (t:aK K O H xs ds):aK K O H (x::xs) (d::ds)
end
theorem Px{O:Addr->Prop}{H H':Hp}(hH:∀q u,H q=some u->¬O q->H' q=some u){p:Addr}{u:HO}(ho:¬O p)(h:Rd H p u):Rd H' p u:=by
 rcases h with h | ⟨o,h⟩
 .exact .inl (hH p u h ho)
 .exact .inr ⟨o,hH p _ h ho⟩
theorem Qc(h:Rd H p u):H p≠none:=by
 rcases h with h | ⟨o,h⟩<;>rw [h]<;>exact λz=>nomatch z
theorem B0{K:aA}{H:Hp}{p:Addr}{xs:List V}(h:dX K (λ_=>none) p xs):dX K H p xs:=by
 rcases h with (h | ⟨o,h⟩) | h
 .cases h
 .cases h
 .exact .inr h
theorem B1{K:aA}{H:Hp}{p:Addr}{xs:List V}(h:eJ K (λ_=>none) p xs):eJ K H p xs:=by
 rcases h with (h | ⟨o,h⟩) | h
 .cases h
 .cases h
 .exact .inr h
section
variable {K:aA}{O O':Addr->Prop}{H H':Hp}
mutual
theorem Is.map(hO:∀q,H q≠none->¬O q->¬O' q)(hH:∀q u,H q=some u->¬O q->H' q=some u):∀{v:V} {d:D},Is K O H v d->Is K O' H' v d
 | _,_,.aR=>.aR
 | _,_,.bl b=>.bl b
 | _,_,.int i=>.int i
 | _,_,.str x=>.str x
 | _,_,.tup ho hp hs=>.tup (hO _ (Qc hp) ho) (Px hH ho hp) (aK.map hO hH hs)
 | _,_,.nL hp hs=>.nL hp (aK.map hO hH hs)
 | _,_,.lst ho hp hs=>.lst (hO _ (by rw [hp];exact λz=>nomatch z) ho) (hH _ _ hp ho) (aK.map hO hH hs)
 | _,_,.lZ ho hp hs=>.lZ (hO _ (Qc hp) ho) (Px hH ho hp) (aK.map hO hH hs)
 | _,_,.l7 hp hs=>.l7 hp (aK.map hO hH hs)
 | _,_,.exc ho hn hp=>.exc (hO _ (by rw [hp];exact λz=>nomatch z) ho) hn (hH _ _ hp ho)
 | _,_,.fy ho hp=>.fy (hO _ (by rw [hp];exact λz=>nomatch z) ho) (hH _ _ hp ho)
 | _,_,.rz ho hp=>.rz (hO _ (by rw [hp];exact λz=>nomatch z) ho) (hH _ _ hp ho)
theorem aK.map(hO:∀q,H q≠none->¬O q->¬O' q)(hH:∀q u,H q=some u->¬O q->H' q=some u):∀{v:List V} {d:List D},aK K O H v d->aK K O' H' v d
 | _,_,.nil=>.nil
 | _,_,.cons h t=>.cons (Is.map hO hH h) (aK.map hO hH t)
end
theorem Is.grow(s:aq H H')(h:Is K O H v d):Is K O H' v d:=h.map (λ_ _ z=>z) λq u e _=>s q u e
theorem aK.grow(s:aq H H')(h:aK K O H v d):aK K O H' v d:=h.map (λ_ _ z=>z) λq u e _=>s q u e
theorem Is.less(hO:∀q,O' q->O q)(h:Is K O H v d):Is K O' H v d:=h.map (λ_ _ z w=>z (hO _ w)) λ_ _ e _=>e
theorem aK.less(hO:∀q,O' q->O q)(h:aK K O H v d):aK K O' H v d:=h.map (λ_ _ z w=>z (hO _ w)) λ_ _ e _=>e
theorem aK.length:∀{v:List V} {d:List D},aK K O H v d->v.length=d.length
 | _,_,.nil=>rfl
 | _,_,.cons _ t=>by rw [nk,nk,aK.length t]
theorem aK.append:∀{v w:List V} {d e:List D},aK K O H v d->aK K O H w e->aK K O H (v++w) (d++e)
 | _,_,_,_,.nil,s=>s
 | _,_,_,_,.cons h t,s=>.cons h (aK.append t s)
theorem aK.get:∀{v:List V} {ds:List D} {i:Nat} {d:D},aK K O H v ds->ds[i]?=some d->∃x,v[i]?=some x/\Is K O H x d
 | _,_,_,_,.nil,e=>by simp at e
 | _,_,0,_,.cons h _,e=>by simp at e;subst e;exact ⟨_,rfl,h⟩
 | _,_,i+1,d,.cons _ t,e=>by
  obtain ⟨u,h1,h2⟩:=aK.get (i:=i) (d:=d) t (by simpa using e)
  exact ⟨u,by simpa using h1,h2⟩
theorem aK.pI:∀{v:List V} {ds:List D} {i:Nat} {x:V},aK K O H v ds->v[i]?=some x->∃d,ds[i]?=some d/\Is K O H x d
 | _,_,_,_,.nil,e=>by simp at e
 | _,_,0,_,.cons h _,e=>by simp at e;subst e;exact ⟨_,rfl,h⟩
 | _,_,i+1,d,.cons _ t,e=>by
  obtain ⟨u,h1,h2⟩:=aK.pI (i:=i) (x:=d) t (by simpa using e)
  exact ⟨u,by simpa using h1,h2⟩
theorem aK.take:∀{v:List V} {d:List D} (n:Nat),aK K O H v d->aK K O H (v.take n) (d.take n)
 | _,_,0,_=>.nil
 | _,_,_+1,.nil=>.nil
 | _,_,n+1,.cons h t=>.cons h (aK.take n t)
theorem aK.drop:∀{v:List V} {d:List D} (n:Nat),aK K O H v d->aK K O H (v.drop n) (d.drop n)
 | _,_,0,h=>h
 | _,_,_+1,.nil=>.nil
 | _,_,n+1,.cons _ t=>aK.drop n t
theorem aK.set(h:Is K O H x d):∀{v:List V} {ds:List D} (n:Nat),aK K O H v ds->aK K O H (v.set n x) (ds.set n d)
 | _,_,_,.nil=>.nil
 | _,_,0,.cons _ t=>.cons h t
 | _,_,n+1,.cons h' t=>.cons h' (aK.set h n t)
theorem aK.eI(h:aK K O H v ds)(e:L2.eI ds i=some d):∃x,L2.eI v i=some x/\Is K O H x d:=by
 unfold L2.eI at e ⊢
 rw [h.length]
 cases q:jg ds.length i with
 | none=>rw [q] at e;cases e
 | some j =>
  rw [q] at e
  exact h.get e
theorem aK.dropLast(h:aK K O H v d):aK K O H v.dropLast d.dropLast:=by
 rw [OA,OA,h.length]
 exact h.take _
theorem aK.ints:∀(ns:List Int),aK K O H (ns.map V.int) (ns.map D.int)
 | []=>.nil
 | n::r=>.cons (.int n) (aK.ints r)
def Sq(K:aA)(H:Hp)(k:Bool)(p:Addr)(xs:List V):Prop:=if k=true then dX K H p xs else eJ K H p xs
noncomputable def eQ:D->Option (Bool×List D)
 | .tup ds=>some (false,ds)
 | .lst _ ds=>some (true,ds)
 | _=>none
theorem Is.seq(h:Is K O H v d)(e:eQ d=some (k,ds)):∃p xs,v=.ref p/\Sq K H k p xs/\aK K O H xs ds:=by
 cases h with
 | tup ho hp hs=>cases e;exact ⟨_,_,rfl,.inl hp,hs⟩
 | nL hp hs=>cases e;exact ⟨_,_,rfl,B1 hp,hs⟩
 | lst ho hp hs=>cases e;exact ⟨_,_,rfl,.inl (.inl hp),hs⟩
 | lZ ho hp hs=>cases e;exact ⟨_,_,rfl,.inl hp,hs⟩
 | l7 hp hs=>cases e;exact ⟨_,_,rfl,B0 hp,hs⟩
 | _=>cases e
end
theorem Sq.grow{K:aA}{H H':Hp}{k:Bool}{p:Addr}{xs:List V}(s:aq H H')(h:Sq K H k p xs):Sq K H' k p xs:=by
 cases k with
 | true =>
  rcases h with (h | ⟨o,h⟩) | h
  .exact .inl (.inl (s _ _ h))
  .exact .inl (.inr ⟨o,s _ _ h⟩)
  .exact .inr h
 | false =>
  rcases h with (h | ⟨o,h⟩) | h
  .exact .inl (.inl (s _ _ h))
  .exact .inl (.inr ⟨o,s _ _ h⟩)
  .exact .inr h
noncomputable def Sl.own:Sl->Prop
 | .ow _=>True
 | .dw _=>True
 | _=>False
noncomputable abbrev Iv(bu:List (Int×Int)):HO:=.dK (bu.map λq=>(.inl q.1,.int q.2))
def km(σ:L2.St)(env:En)(p:Addr):Prop:=∃(i:Nat) (s:Sl),env[i]?=some s/\s.own/\σ[i]?=some (some (V.ref p))
abbrev OO(O:Addr->Prop)(σ:L2.St)(env:En)(q:Addr):Prop:=O q\/km σ env q
theorem _root_.L2.Tb.grow{K:aA}{H H':Hp}(s:aq H H')(h:Tb K H):Tb K H':=λc P e=>s _ _ (h c P e)
def oS(K:aA)(O:Addr->Prop)(H:Hp):Prop:=(∀q,O q->H q≠none)/\Tb K H
theorem oS.grow{K:aA}{O:Addr->Prop}{H H':Hp}(s:aq H H')(h:oS K O H):oS K O H':=⟨λq hq hn=>h.1 q hq (s.free hn),h.2.grow s⟩
structure Rel(K:aA)(O:Addr->Prop)(B:Hp)(σ:L2.St)(H:Hp)(env:En):Prop where
 same:aq B H
 mq:oS K O B
 len:σ.length=env.length
 sh:∀(i:Nat) (d:D),env[i]?=some (Sl.sh d)->∃v,σ[i]?=some (some v)/\Is K (OO O σ env) H v d
 ow:∀(i:Nat) (ds:List D),env[i]?=some (Sl.ow ds)->∃p xs,σ[i]?=some (some (V.ref p))/\B p=none/\H p=some (.lst xs)/\aK K (OO O σ env) H xs ds
 dw:∀(i:Nat) (bu:List (Int×Int)),env[i]?=some (Sl.dw bu)->∃p,σ[i]?=some (some (V.ref p))/\B p=none/\H p=some (Iv bu)
 sep:∀(i j:Nat) (ds es:Sl) (p:Addr),env[i]?=some ds->env[j]?=some es->σ[i]?=some (some (V.ref p))->σ[j]?=some (some (V.ref p))->ds.own->es.own->i=j
noncomputable def Res(K:aA)(O:Addr->Prop)(B H:Hp)(v:V):Sl->Prop
 | .no=>False
 | .sh d=>Is K O H v d
 | .ow ds=>∃p xs,v=.ref p/\B p=none/\H p=some (.lst xs)/\aK K (λq=>O q\/q=p) H xs ds
 | .dw bu=>∃p,v=.ref p/\B p=none/\H p=some (Iv bu)
section
variable {K:aA}{O:Addr->Prop}{B H H' H1:Hp}{σ:L2.St}{env:En}{v:V}{r:Sl}
theorem Rel.ad(R:Rel K O B σ H env){i:Nat}{s:Sl}(h:env[i]?=some s)(ho:s.own):∃p u,σ[i]?=some (some (V.ref p))/\B p=none/\H p=some u:=by
 cases s with
 | ow ds=>obtain ⟨p,xs,e1,e2,e3,_⟩:=R.ow i ds h;exact ⟨p,_,e1,e2,e3⟩
 | dw bu=>obtain ⟨p,e1,e2,e3⟩:=R.dw i bu h;exact ⟨p,_,e1,e2,e3⟩
 | no=>exact ho.elim
 | sh d=>exact ho.elim
theorem Rel.oo(R:Rel K O B σ H env)(h:OO O σ env q):H q≠none:=by
 rcases h with h | ⟨i,s,h1,ho,h2⟩
 .intro z
  exact R.mq.1 q h (R.same.free z)
 .obtain ⟨p,u,e1,_,e3⟩:=R.ad h1 ho
  rw [h2] at e1
  cases e1
  rw [e3];exact λz=>nomatch z
theorem Rel.dm(R:Rel K O B σ H env):oS K (OO O σ env) H:=⟨λ_=>R.oo,R.mq.2.grow R.same⟩
theorem Rel.grow(R:Rel K O B σ H env)(s:aq H H'):Rel K O B σ H' env where
 same:=R.same.trans s
 mq:=R.mq
 len:=R.len
 sh:=λi d e=>let ⟨v,e1,h⟩:=R.sh i d e;⟨v,e1,h.grow s⟩
 ow:=λi ds e=>let ⟨p,xs,e1,e2,e3,h⟩:=R.ow i ds e;⟨p,xs,e1,e2,s _ _ e3,h.grow s⟩
 dw:=λi bu e=>let ⟨p,e1,e2,e3⟩:=R.dw i bu e;⟨p,e1,e2,s _ _ e3⟩
 sep:=R.sep
theorem Res.grow(s:aq H H')(h:Res K O B H v r):Res K O B H' v r:=by
 cases r with
 | no=>exact h
 | sh d=>exact Is.grow s h
 | ow ds=>obtain ⟨p,xs,e1,e2,e3,h⟩:=h;exact ⟨p,xs,e1,e2,s _ _ e3,h.grow s⟩
 | dw bu=>obtain ⟨p,e1,e2,e3⟩:=h;exact ⟨p,e1,e2,s _ _ e3⟩
theorem Res.from(s:aq H1 B)(h:Res K O B H v r):Res K O H1 H v r:=by
 cases r with
 | no=>exact h
 | sh d=>exact h
 | ow ds=>obtain ⟨p,xs,e1,e2,e3,h⟩:=h;exact ⟨p,xs,e1,s.free e2,e3,h⟩
 | dw bu=>obtain ⟨p,e1,e2,e3⟩:=h;exact ⟨p,e1,s.free e2,e3⟩
theorem Res.less(hO:∀q,O' q->O q)(h:Res K O B H v r):Res K O' B H v r:=by
 cases r with
 | no=>exact h
 | sh d=>exact Is.less hO h
 | ow ds=>obtain ⟨p,xs,e1,e2,e3,h⟩:=h;exact ⟨p,xs,e1,e2,e3,h.less λq z=>z.elim (λw=>.inl (hO _ w)) .inr⟩
 | dw bu=>exact h
theorem Res.is(hd:∀q,O q->B q≠none)(h:Res K O B H v r):Is K O H v r.d:=by
 cases r with
 | no=>exact h.elim
 | sh d=>exact h
 | ow ds =>
  obtain ⟨p,xs,rfl,e2,e3,h⟩:=h
  exact .lst (λz=>hd p z e2) e3 (h.less λ_=>.inl)
 | dw bu =>
  obtain ⟨p,rfl,e2,e3⟩:=h
  exact .fy (λz=>hd p z e2) e3
end
def EV(X:Cx)(e:Expr)(f:En->Option Sl):Prop:=
 ∃t:TE,PE X e t/\∀(O:Addr->Prop) (B:Hp) (σ:L2.St) (H:Hp) (env:En) (r:Sl) (Q:VK),Rel X.K O B σ H env->f env=some r ->
  (∀v H',aq H H'->Res X.K (OO O σ env) H H' v r->Q v H')->t σ H Q
def BV(X:Cx)(e:Expr)(f:En->Option (Bool×List D)):Prop:=
 ∃t:TE,PE X e t/\∀(O:Addr->Prop) (B:Hp) (σ:L2.St) (H:Hp) (env:En) (k:Bool) (ds:List D) (Q:VK),Rel X.K O B σ H env->f env=some (k,ds) ->
  (∀p xs H',aq H H'->Sq X.K H' k p xs->aK X.K (OO O σ env) H' xs ds->Q (.ref p) H')->t σ H Q
def AV(X:Cx)(es:List Expr)(f:En->Option (List D)):Prop:=
 ∃t:TA,PA X es t/\∀(O:Addr->Prop) (B:Hp) (σ:L2.St) (H:Hp) (env:En) (ds:List D) (Q:List V->Hp->Prop),Rel X.K O B σ H env->f env=some ds ->
  (∀vs H',aq H H'->aK X.K (OO O σ env) H' vs ds->Q vs H')->t σ H Q
def TV(X:Cx)(e:Expr)(f:En->Option Bool):Prop:=
 ∃t:TT,PT X e t/\∀(O:Addr->Prop) (B:Hp) (σ:L2.St) (H:Hp) (env:En) (b:Bool) (Q:Bool->Hp->Prop),Rel X.K O B σ H env->f env=some b ->
  (∀H',aq H H'->Q b H')->t σ H Q
def WV(X:Cx)(e:Expr)(f:En->Option Bool):Prop:=
 ∃t:TT,PW X e t/\∀(O:Addr->Prop) (B:Hp) (σ:L2.St) (H:Hp) (env:En) (b:Bool) (Q:Bool->Hp->Prop),Rel X.K O B σ H env->f env=some b ->
  (∀H',aq H H'->Q b H')->t σ H Q
inductive Fl where
 | nx | bk | ct | rt (r:Sl)
def Gd(σ:L2.St)(env:En)(H:Hp)(aD:L2.St)(ai:En)(H':Hp):Prop:=∀q u,H q=some u->¬km σ env q->H' q=some u/\¬km aD ai q
theorem Gd.trans(a:Gd σ env H iH bN H1)(b:Gd iH bN H1 cY bq H2):Gd σ env H cY bq H2:=λq u e n =>
 let ⟨e1,n1⟩:=a q u e n
 b q u e1 n1
theorem Gd.from(s:aq H H1)(b:Gd σ env H1 aD ai H'):Gd σ env H aD ai H':=λq u e n=>b q u (s _ _ e) n
theorem Gd.refl(s:aq H H'):Gd σ env H σ env H':=λq u e n=>⟨s _ _ e,n⟩
noncomputable def dD(K:aA)(O:Addr->Prop)(B:Hp)(σ:L2.St)(H:Hp)(env:En)(D:Ends):Fl->En->Prop
 | .nx,ai=>∀aD H',Rel K O B aD H' ai->Gd σ env H aD ai H'->D.nx aD H'
 | .bk,ai=>∀aD H',Rel K O B aD H' ai->Gd σ env H aD ai H'->D.bk aD H'
 | .ct,ai=>∀aD H',Rel K O B aD H' ai->Gd σ env H aD ai H'->D.ct aD H'
 | .rt r,_=>∀v H',aq B H'->Res K O B H' v r->D.rt v H'
theorem dD.from{K:aA}{O:Addr->Prop}{B:Hp}{σ iH:L2.St}{H H1:Hp}{env bN:En}{D:Ends}{fl:Fl}{ai:En}(g:Gd σ env H iH bN H1)(h:dD K O B σ H env D fl ai):dD K O B iH H1 bN D fl ai:=by
 cases fl with
 | nx=>exact λaD H' R g'=>h aD H' R (g.trans g')
 | bk=>exact λaD H' R g'=>h aD H' R (g.trans g')
 | ct=>exact λaD H' R g'=>h aD H' R (g.trans g')
 | rt r=>exact h
noncomputable abbrev SF:=En->Option (Fl×En)
def SV(X:Cx)(st:Stmt)(F:SF):Prop:=
 ∃t:TS,PS X st t/\∀(O:Addr->Prop) (B:Hp) (σ:L2.St) (H:Hp) (env:En) (fl:Fl) (ai:En) (D:Ends),Rel X.K O B σ H env->F env=some (fl,ai)->dD X.K O B σ H env D fl ai->t D σ H
def jS(X:Cx)(st:List Stmt)(F:SF):Prop:=
 ∃t:TS,nG X st t/\∀(O:Addr->Prop) (B:Hp) (σ:L2.St) (H:Hp) (env:En) (fl:Fl) (ai:En) (D:Ends),Rel X.K O B σ H env->F env=some (fl,ai)->dD X.K O B σ H env D fl ai->t D σ H
section
variable {X:Cx}{a b c:Expr}{pos:Pos}{fa fb fc:En->Option Sl}
noncomputable def eC(d:D):En->Option Sl:=λ_=>some (.sh d)
theorem aj{i j pos}:EV X (.Constant (.int i) j pos) (eC (.int i)):=⟨_,b7W,λ_ _ _ _ _ _ _ _ e k=>by
 obtain rfl:=dq e
 exact k _ _ (aq.refl _) (Is.int i)⟩
theorem tQ{i j pos}:EV X (.Constant (.bool i) j pos) (eC (.bl i)):=⟨_,yQ,λ_ _ _ _ _ _ _ _ e k=>by
 obtain rfl:=dq e
 exact k _ _ (aq.refl _) (Is.bl i)⟩
theorem rV{j pos}:EV X (.Constant .none j pos) (eC .aR):=⟨_,b7U,λ_ _ _ _ _ _ _ _ e k=>by
 obtain rfl:=dq e
 exact k _ _ (aq.refl _) Is.aR⟩
noncomputable def C1:Option Sl->Option Sl
 | some (.sh d)=>some (.sh d)
 | _=>none
theorem b2S(h:C1 o=some r):∃d,o=some (Sl.sh d)/\r=.sh d:=by
 cases o with
 | none=>cases h
 | some s=>cases s with
  | sh d=>cases h;exact ⟨d,rfl,rfl⟩
  | no=>cases h
  | ow ds=>cases h
  | dw ds=>cases h
noncomputable def eV(i:Nat):En->Option Sl:=λenv=>C1 env[i]?
theorem PM(i:Nat)(hN:X.N[i]?=some x:=by rfl)(hv:gU X.env.scope x:=by first | exact bO rfl | exact aW (bO rfl) | exact aW (aW rfl))(hd:(x==("__debug__":Str))=false:=by decide)
  (cI:(x==("__classdict__":Str))=false:=by decide):EV X (.Name x pos) (eV i):=⟨_,rY hN hv hd cI,λO B σ H env r Q R e k=>by
 obtain ⟨d,e1,rfl⟩:=b2S e
 obtain ⟨v,e2,h⟩:=R.sh i d e1
 exact ⟨v,e2,k v H (aq.refl _) h⟩⟩
noncomputable def wc:Option Sl->Option (Bool×List D)
 | some (.sh d)=>eQ d
 | some (.ow ds)=>some (true,ds)
 | _=>none
noncomputable def bV(i:Nat):En->Option (Bool×List D):=λenv=>wc env[i]?
theorem b8L(i:Nat)(hN:X.N[i]?=some x:=by rfl)(hv:gU X.env.scope x:=by first | exact bO rfl | exact aW (bO rfl) | exact aW (aW rfl))(hd:(x==("__debug__":Str))=false:=by decide)
  (cI:(x==("__classdict__":Str))=false:=by decide):BV X (.Name x pos) (bV i):=⟨_,rY hN hv hd cI,λO B σ H env k ds Q R e q=>by
 unfold bV at e
 cases h:env[i]? with
 | none=>rw [h] at e;cases e
 | some s =>
  rw [h] at e
  cases s with
  | no=>cases e
  | sh d =>
   obtain ⟨v,e2,hv⟩:=R.sh i d h
   obtain ⟨p,xs,rfl,h1,h2⟩:=hv.seq (show eQ d=some (k,ds) from e)
   exact ⟨_,e2,q p xs H (aq.refl _) h1 h2⟩
  | dw es=>cases e
  | ow es =>
   obtain ⟨rfl,rfl⟩:true=k/\es=ds:=Prod.mk.inj (dq e)
   obtain ⟨p,xs,e2,_,e3,h2⟩:=R.ow i es h
   exact ⟨_,e2,q p xs H (aq.refl _) (.inl (.inl e3)) h2⟩⟩
noncomputable def fE(f:En->Option Sl):En->Option (Bool×List D):=λenv=>(f env).bind λr=>eQ r.d
theorem bind_some{α β:Type}{o:Option α}{f:α->Option β}{b:β}(h:o.bind f=some b):∃a,o=some a/\f a=some b:=by
 cases o with
 | none=>cases h
 | some a=>exact ⟨a,rfl,h⟩
theorem gE(h:EV X a fa):BV X a (fE fa):=by
 obtain ⟨t,ht,p⟩:=h
 refine ⟨t,ht,λO B σ H env k ds Q R e q=>?_⟩
 obtain ⟨r,e1,e2⟩:=bind_some e
 refine p O B σ H env r _ R e1 λv H' s h=>?_
 obtain ⟨p,xs,rfl,h1,h2⟩:=(h.is (λz=>R.oo)).seq e2
 exact q p xs H' s h1 h2
def jT(X:Cx)(f:Value->Value->Sem Value)(g:D->D->Option Sl):Prop:=
 ∃r:R2,gG X f r/\∀(O:Addr->Prop) (H:Hp) (x y:V) (a b:D) (s:Sl) (Q:VK),(∀q,O q->H q≠none)->Is X.K O H x a->Is X.K O H y b->g a b=some s ->
  (∀v H',aq H H'->Res X.K O H H' v s->Q v H')->r x y H Q
noncomputable def aa(g:D->D->Option Sl)(fa fb:En->Option Sl):En->Option Sl:=λenv=>(fa env).bind λx=>(fb env).bind λy=>g x.d y.d
theorem K0(hg:∀(O:Addr->Prop) (H:Hp) (x y:V) (a b:D) (s:Sl) (Q:VK),(∀q,O q->H q≠none)->Is X.K O H x a->Is X.K O H y b->g a b=some s->(∀v H',aq H H'->Res X.K O H H' v s->Q v H')->r x y H Q)(pa:∀(O:Addr->Prop) (B:Hp) (σ:L2.St) (H:Hp) (env:En) (r:Sl) (Q:VK),Rel X.K O B σ H env->fa env=some r->(∀v H',aq H H'->Res X.K (OO O σ env) H H' v r->Q v H')->ta σ H Q)
  (pb:∀(O:Addr->Prop) (B:Hp) (σ:L2.St) (H:Hp) (env:En) (r:Sl) (Q:VK),Rel X.K O B σ H env->fb env=some r->(∀v H',aq H H'->Res X.K (OO O σ env) H H' v r->Q v H')->tb σ H Q)
  (O:Addr->Prop)(B:Hp)(σ:L2.St)(H:Hp)(env:En)(s:Sl)(Q:VK)(R:Rel X.K O B σ H env)(e:aa g fa fb env=some s)
  (k:∀v H',aq H H'->Res X.K (OO O σ env) H H' v s->Q v H'):ye r ta tb σ H Q:=by
 obtain ⟨x,e1,e⟩:=bind_some e
 obtain ⟨y,e2,e⟩:=bind_some e
 refine pa O B σ H env x _ R e1 λv H1 s1 h1=>?_
 refine pb O B σ H1 env y _ (R.grow s1) e2 λu H2 s2 h2=>?_
 have R2:=(R.grow s1).grow s2
 refine hg (OO O σ env) H2 v u x.d y.d s Q (λq=>R2.oo) ((h1.is λq=>R.oo).grow s2) (h2.is λq=>(R.grow s1).oo) e λw H3 s3 h3=>?_
 exact k w H3 ((s1.trans s2).trans s3) (h3.from (s1.trans s2))
theorem aH(ho:jT X (binaryOp op) g)(ha:EV X a fa)(hb:EV X b fb):EV X (.BinOp a op b pos) (aa g fa fb):=by
 obtain ⟨r,hr,hg⟩:=ho
 obtain ⟨ta,pa,ka⟩:=ha
 obtain ⟨tb,pb,kb⟩:=hb
 exact ⟨_,yO hr pa pb,K0 hg ka kb⟩
theorem tV(ho:jT X (compareOp op) g)(ha:EV X a fa)(hb:EV X b fb)(hm:behindInMarks op b=false:=by exact Pm _):EV X (.Compare a [op] [b] pos) (aa g fa fb):=by
 obtain ⟨r,hr,hg⟩:=ho
 obtain ⟨ta,pa,ka⟩:=ha
 obtain ⟨tb,pb,kb⟩:=hb
 exact ⟨_,b5L hr pa pb hm,K0 hg ka kb⟩
noncomputable def iJ:Option Sl->Option Bool
 | some (.sh (.bl b))=>some b
 | _=>none
theorem xr{b:Bool}(h:iJ o=some b):o=some (Sl.sh (.bl b)):=by
 cases o with
 | none=>cases h
 | some s=>cases s with
  | no=>cases h
  | ow ds=>cases h
  | dw ds=>cases h
  | sh d=>cases d<;>cases h;rfl
noncomputable def bX(f:En->Option Sl):En->Option Bool:=λenv=>iJ (f env)
theorem rT{K:aA}{O:Addr->Prop}{H:Hp}{v:V}{b:Bool}(h:Is K O H v (.bl b)):v=.bl b:=by cases h;rfl
theorem fH{K:aA}{O:Addr->Prop}{H:Hp}{v:V}{b:Int}(h:Is K O H v (.int b)):v=.int b:=by cases h;rfl
theorem PU{K:aA}{O:Addr->Prop}{H:Hp}{v:V}(h:Is K O H v .aR):v=.aR:=by cases h;rfl
theorem J7{K:aA}{O:Addr->Prop}{H:Hp}{v:V}{b:Str}(h:Is K O H v (.str b)):v=.str b:=by cases h;rfl
theorem dg(ho:jT X (compareOp op) g)(ha:EV X a fa)(hb:EV X b fb)(hm:behindInMarks op b=false:=by exact Pm _):TV X (.Compare a [op] [b] pos) (bX (aa g fa fb)):=by
 obtain ⟨r,hr,hg⟩:=ho
 obtain ⟨ta,pa,ka⟩:=ha
 obtain ⟨tb,pb,kb⟩:=hb
 refine ⟨_,b5B hr pa pb hm,λO B σ H env k Q R e q=>?_⟩
 exact K0 hg ka kb O B σ H env _ _ R (xr e) λv H' s h=>⟨k,rT h,q H' s⟩
noncomputable def iQ:D->Option Bool
 | .aR=>some false
 | .bl b=>some b
 | .int i=>some (i != 0)
 | .str y=>if y.length<=16777216 then some ((y.length:Int) != 0) else none
 | .tup ds=>some (!ds.isEmpty)
 | .lst _ ds=>some (!ds.isEmpty)
 | .exc _=>none
 | .fy _ _=>none
theorem aK.isEmpty{K:aA}{O:Addr->Prop}{H:Hp}{xs:List V}{ds:List D}(h:aK K O H xs ds):xs.isEmpty=ds.isEmpty:=by cases h<;>rfl
theorem b5m{K:aA}{O:Addr->Prop}{H:Hp}{v:V}{d:D}{b:Bool}(h:Is K O H v d)(e:iQ d=some b):v3 K v H b:=by
 cases h with
 | aR=>cases e;rfl
 | bl b=>cases e;rfl
 | int i=>cases e;rfl
 | str x =>
  unfold iQ at e
  dsimp only at e
  by_cases hl:x.length<=16777216
  .rw [if_pos hl] at e;cases e;exact ⟨by rw [iY];exact hl,rfl⟩
  .rw [if_neg hl] at e;cases e
 | tup ho hp hs=>cases e;exact .inr (.inl ⟨_,.inl hp,by rw [hs.isEmpty]⟩)
 | nL hp hs=>cases e;exact .inr (.inl ⟨_,B1 hp,by rw [hs.isEmpty]⟩)
 | lst ho hp hs=>cases e;exact .inl ⟨_,.inl (.inl hp),by rw [hs.isEmpty]⟩
 | lZ ho hp hs=>cases e;exact .inl ⟨_,.inl hp,by rw [hs.isEmpty]⟩
 | l7 hp hs=>cases e;exact .inl ⟨_,B0 hp,by rw [hs.isEmpty]⟩
 | exc ho hn hp=>cases e
 | fy ho hp=>cases e
 | rz ho hp=>cases e
noncomputable def cO(f:En->Option Sl):En->Option Bool:=λenv=>(f env).bind λr=>iQ r.d
theorem jM(ha:EV X a fa)(he:∀whole,isTrue a X.env whole=(do let v <-whole;standAt a.pos;holding [v] (truthy v)):=by intro _;rfl):TV X a (cO fa):=by
 obtain ⟨ta,pa,ka⟩:=ha
 refine ⟨_,QL pa he,λO B σ H env k Q R e q=>?_⟩
 obtain ⟨r,e1,e2⟩:=bind_some e
 exact ka O B σ H env r _ R e1 λv H' s h=>⟨k,b5m (h.is λq=>R.oo) e2,q H' s⟩
noncomputable def Bp(f:En->Option (Bool×List D)):En->Option Bool:=λenv=>(f env).bind λr=>some (!r.2.isEmpty)
theorem Qp{fa:En->Option (Bool×List D)}(ha:BV X a fa)(he:∀whole,isTrue a X.env whole=(do let v <-whole;standAt a.pos;holding [v] (truthy v)):=by intro _;rfl):TV X a (Bp fa):=by
 obtain ⟨ta,pa,ka⟩:=ha
 refine ⟨_,QL pa he,λO B σ H env k Q R e q=>?_⟩
 obtain ⟨⟨kk,ds⟩,e1,e2⟩:=bind_some e
 cases e2
 refine ka O B σ H env kk ds _ R e1 λp xs H' s h hs=>⟨_,?_,q H' s⟩
 cases kk with
 | true=>exact .inl ⟨xs,h,by rw [hs.isEmpty]⟩
 | false=>exact .inr (.inl ⟨xs,h,by rw [hs.isEmpty]⟩)
noncomputable def oP(f g:En->Option Bool):En->Option Bool:=λenv=>match f env with
 | some true=>g env
 | some false=>some false
 | none=>none
noncomputable def iR(f g:En->Option Bool):En->Option Bool:=λenv=>match f env with
 | some false=>g env
 | some true=>some true
 | none=>none
noncomputable def oQ(f:En->Option Bool):En->Option Bool:=λenv=>(f env).map (!·)
variable {ga gb:En->Option Bool}{rest:List Expr}
theorem BI(ha:TV X a ga):WV X (.BoolOp .And [a] pos) ga:=let ⟨t,p,k⟩:=ha;⟨t,b5y p,k⟩
theorem BC(ha:TV X a ga):WV X (.BoolOp .Or [a] pos) ga:=let ⟨t,p,k⟩:=ha;⟨t,b7L p,k⟩
theorem BB(ha:TV X a ga)(hb:WV X (.BoolOp .And (b::rest) pos) gb):WV X (.BoolOp .And (a::b::rest) pos) (oP ga gb):=by
 obtain ⟨t,p,k⟩:=ha
 obtain ⟨u,p',k'⟩:=hb
 refine ⟨_,b7M p p',λO B σ H env d Q R e q=>?_⟩
 unfold oP at e
 cases h:ga env with
 | none=>rw [h] at e;cases e
 | some x =>
  rw [h] at e
  refine k O B σ H env x _ R h λH1 s1=>?_
  cases x with
  | true =>
   rw [if_pos rfl]
   exact k' O B σ H1 env d Q (R.grow s1) e λH2 s2=>q H2 (s1.trans s2)
  | false =>
   cases e
   rw [if_neg my]
   exact q H1 s1
theorem Bq(ha:TV X a ga)(hb:WV X (.BoolOp .Or (b::rest) pos) gb):WV X (.BoolOp .Or (a::b::rest) pos) (iR ga gb):=by
 obtain ⟨t,p,k⟩:=ha
 obtain ⟨u,p',k'⟩:=hb
 refine ⟨_,pw_or p p',λO B σ H env d Q R e q=>?_⟩
 unfold iR at e
 cases h:ga env with
 | none=>rw [h] at e;cases e
 | some x =>
  rw [h] at e
  refine k O B σ H env x _ R h λH1 s1=>?_
  cases x with
  | false =>
   rw [if_neg my]
   exact k' O B σ H1 env d Q (R.grow s1) e λH2 s2=>q H2 (s1.trans s2)
  | true =>
   cases e
   rw [if_pos rfl]
   exact q H1 s1
theorem iP(h:WV X a ga):TV X a ga:=let ⟨t,p,k⟩:=h;⟨t,p.pt,k⟩
theorem rX(ha:TV X a ga):TV X (.UnaryOp .Not a pos) (oQ ga):=by
 obtain ⟨t,p,k⟩:=ha
 refine ⟨_,b7N p,λO B σ H env d Q R e q=>?_⟩
 unfold oQ at e
 cases h:ga env with
 | none=>rw [h] at e;cases e
 | some x =>
  rw [h] at e
  cases e
  exact k O B σ H env x _ R h λH1 s1=>q H1 s1
noncomputable def jE(f g:En->Option Sl):En->Option Sl:=λenv=>match iJ (f env) with
 | some true=>g env
 | some false=>some (.sh (.bl false))
 | none=>none
noncomputable def AJ(f g:En->Option Sl):En->Option Sl:=λenv=>match iJ (f env) with
 | some false=>g env
 | some true=>some (.sh (.bl true))
 | none=>none
noncomputable def mn(f:En->Option Sl):En->Option Sl:=λenv=>(iJ (f env)).map λb=>.sh (.bl !b)
theorem xj(h:EV X a fa):EV X (.BoolOp op [a] pos) fa:=let ⟨t,p,k⟩:=h;⟨t,b7S p,k⟩
theorem Bz(ha:EV X a fa)(hb:EV X (.BoolOp .And (b::rest) pos) fb):EV X (.BoolOp .And (a::b::rest) pos) (jE fa fb):=by
 obtain ⟨t,p,k⟩:=ha
 obtain ⟨u,p',k'⟩:=hb
 refine ⟨_,b7Z p p',λO B σ H env r Q R e q=>?_⟩
 unfold jE at e
 cases h:iJ (fa env) with
 | none=>rw [h] at e;cases e
 | some x =>
  rw [h] at e
  refine k O B σ H env _ _ R (xr h) λv H1 s1 r1=>⟨x,rT r1,?_⟩
  cases x with
  | true =>
   rw [if_pos rfl]
   exact k' O B σ H1 env r Q (R.grow s1) e λv2 H2 s2 r2=>q v2 H2 (s1.trans s2) (r2.from s1)
  | false =>
   obtain rfl:=dq e
   rw [if_neg my]
   exact q _ H1 s1 (Is.bl false)
theorem AE(ha:EV X a fa)(hb:EV X (.BoolOp .Or (b::rest) pos) fb):EV X (.BoolOp .Or (a::b::rest) pos) (AJ fa fb):=by
 obtain ⟨t,p,k⟩:=ha
 obtain ⟨u,p',k'⟩:=hb
 refine ⟨_,yN p p',λO B σ H env r Q R e q=>?_⟩
 unfold AJ at e
 cases h:iJ (fa env) with
 | none=>rw [h] at e;cases e
 | some x =>
  rw [h] at e
  refine k O B σ H env _ _ R (xr h) λv H1 s1 r1=>⟨x,rT r1,?_⟩
  cases x with
  | false =>
   rw [if_neg my]
   exact k' O B σ H1 env r Q (R.grow s1) e λv2 H2 s2 r2=>q v2 H2 (s1.trans s2) (r2.from s1)
  | true =>
   obtain rfl:=dq e
   rw [if_pos rfl]
   exact q _ H1 s1 (Is.bl true)
theorem J5(ha:EV X a fa):EV X (.UnaryOp .Not a pos) (mn fa):=by
 obtain ⟨t,p,k⟩:=ha
 refine ⟨_,b7T p,λO B σ H env r Q R e q=>?_⟩
 unfold mn at e
 cases h:iJ (fa env) with
 | none=>rw [h] at e;cases e
 | some x =>
  rw [h] at e
  obtain rfl:=dq e
  exact k O B σ H env _ _ R (xr h) λv H1 s1 r1=>⟨x,rT r1,q _ H1 s1 (Is.bl _)⟩
noncomputable def m8(c:En->Option Bool)(f g:En->Option Sl):En->Option Sl:=λenv=>match c env with
 | some true=>f env
 | some false=>g env
 | none=>none
theorem rP(hc:TV X c ga)(ha:EV X a fa)(hb:EV X b fb):EV X (.IfExp c a b pos) (m8 ga fa fb):=by
 obtain ⟨tc,pc,kc⟩:=hc
 obtain ⟨t,p,k⟩:=ha
 obtain ⟨u,p',k'⟩:=hb
 refine ⟨_,b3a pc p p',λO B σ H env r Q R e q=>?_⟩
 unfold m8 at e
 cases h:ga env with
 | none=>rw [h] at e;cases e
 | some x =>
  rw [h] at e
  refine kc O B σ H env x _ R h λH1 s1=>?_
  cases x with
  | true =>
   rw [if_pos rfl]
   exact k O B σ H1 env r Q (R.grow s1) e λv2 H2 s2 r2=>q v2 H2 (s1.trans s2) (r2.from s1)
  | false =>
   rw [if_neg my]
   exact k' O B σ H1 env r Q (R.grow s1) e λv2 H2 s2 r2=>q v2 H2 (s1.trans s2) (r2.from s1)
noncomputable def uY:D->Option Sl
 | .int i=>some (.sh (.int (-i)))
 | _=>none
noncomputable def kM(f:En->Option Sl):En->Option Sl:=λenv=>(f env).bind λr=>uY r.d
theorem xi(ha:EV X a fa):EV X (.UnaryOp .USub a pos) (kM fa):=by
 obtain ⟨t,p,k⟩:=ha
 refine ⟨_,yM b7r p,λO B σ H env r Q R e q=>?_⟩
 obtain ⟨x,e1,e2⟩:=bind_some e
 refine k O B σ H env x _ R e1 λv H1 s1 r1=>?_
 have hi:=r1.is λq=>R.oo
 cases hd:x.d with
 | int i =>
  rw [hd] at hi e2
  obtain rfl:=fH hi
  obtain rfl:=dq e2
  exact ⟨i,rfl,q _ H1 s1 (Is.int _)⟩
 | _=>rw [hd] at e2;cases e2
variable {e:Expr}{es:List Expr}
noncomputable def ae:En->Option (List D):=λ_=>some []
noncomputable def af(f:En->Option Sl)(g:En->Option (List D)):En->Option (List D):=λenv=>(f env).bind λr=>(g env).bind λds=>some (r.d::ds)
theorem aw:AV X [] ae:=⟨_,qz,λO B σ H env ds Q R e q=>by
 obtain rfl:=dq e
 exact q [] H (aq.refl _) .nil⟩
theorem ag(ha:EV X e fe)(hb:AV X es fs)(hs:starEach (e::es) X.env=(false,eval e X.env)::starEach es X.env:=by rfl):AV X (e::es) (af fe fs):=by
 obtain ⟨t,p,k⟩:=ha
 obtain ⟨u,p',k'⟩:=hb
 refine ⟨_,pV p p' hs,λO B σ H env ds Q R e q=>?_⟩
 obtain ⟨r,e1,e2⟩:=bind_some e
 obtain ⟨gk,e4,e3⟩:=bind_some e2
 obtain rfl:=dq e3
 refine k O B σ H env r _ R e1 λv H1 s1 r1=>?_
 refine k' O B σ H1 env gk _ (R.grow s1) e4 λvs H2 s2 r2=>?_
 exact q _ H2 (s1.trans s2) (.cons ((r1.is λq=>R.oo).grow s2) r2)
theorem lV(h:H p=none)(o:HO):aq H (upd H p o):=λb u q=>by rw [cL (j' q h)];exact q
noncomputable def bF(f:En->Option (List D)):En->Option Sl:=λenv=>(f env).bind λds=>if ds.length<=16777216 then some (.sh (.tup ds)) else none
noncomputable def bG(f:En->Option (List D)):En->Option Sl:=λenv=>(f env).bind λds=>if ds.length<=16777216 then some (.ow ds) else none
theorem iM{α:Type}{c:Prop}[Decidable c]{x y:α}(h:(if c then some x else none)=some y):c/\x=y:=by
 by_cases hc:c
 .rw [if_pos hc] at h;exact ⟨hc,dq h⟩
 .rw [if_neg hc] at h;cases h
theorem BM{K:aA}{O:Addr->Prop}{H:Hp}{p:Addr}{xs:List V}{ds:List D}(hO:∀q,O q->H q≠none)(hp:H p=none)(h:aK K O H xs ds):Res K O H (upd H p (.tup xs)) (.ref p) (.sh (.tup ds)):=
 Is.tup (λz=>hO p z hp) (.inl lW) (h.grow (lV hp _))
theorem xo{K:aA}{O:Addr->Prop}{H:Hp}{p:Addr}{xs:List V}{ds:List D}(hp:H p=none)(h:aK K O H xs ds):Res K O H (upd H p (.lst xs)) (.ref p) (.ow ds):=
 ⟨p,xs,rfl,hp,lW,h.map (λq hq hn z=>z.elim hn λw=>hq (by rw [w];exact hp)) λq u e _=>lV hp _ q u e⟩
theorem gS{x1}(h:AV X es fs):EV X (.Tuple es x1 pos) (bF fs):=by
 obtain ⟨t,p,k⟩:=h
 refine ⟨_,b7R p,λO B σ H env r Q R e q=>?_⟩
 obtain ⟨ds,e1,e2⟩:=bind_some e
 obtain ⟨hl,rfl⟩:=iM e2
 refine k O B σ H env ds _ R e1 λvs H1 s1 r1=>⟨by rw [r1.length,iY];exact hl,λp hp=>?_⟩
 exact q _ _ (s1.trans (lV hp _)) ((BM (O:=OO O σ env) (H:=H1) (λ_ z=>(R.grow s1).oo z) hp r1).from s1)
theorem gq(h:AV X es fs):EV X (.List es pos) (bG fs):=by
 obtain ⟨t,p,k⟩:=h
 refine ⟨_,b7V p,λO B σ H env r Q R e q=>?_⟩
 obtain ⟨ds,e1,e2⟩:=bind_some e
 obtain ⟨hl,rfl⟩:=iM e2
 refine k O B σ H env ds _ R e1 λvs H1 s1 r1=>⟨by rw [r1.length,iY];exact hl,λp hp=>?_⟩
 exact q _ _ (s1.trans (lV hp _)) ((xo hp r1).from s1)
noncomputable def az(f:En->Option (Bool×List D))(g:En->Option Sl):En->Option Sl:=λenv=>(f env).bind λx=>(g env).bind λy=>match y.d with
 | .int i=>(eI x.2 i).map .sh
 | _=>none
theorem aG{fa:En->Option (Bool×List D)}(ha:BV X a fa)(hb:EV X b fb)(hs:P2 b:=by exact λ_ _=>rfl):EV X (.Subscript a b pos) (az fa fb):=by
 obtain ⟨t,p,k⟩:=ha
 obtain ⟨u,p',k'⟩:=hb
 refine ⟨_,yP b8j p p' hs,λO B σ H env r Q R e q=>?_⟩
 obtain ⟨⟨kk,ds⟩,e1,e2⟩:=bind_some e
 obtain ⟨y,e2,e3⟩:=bind_some e2
 refine k O B σ H env kk ds _ R e1 λl xs H1 s1 hq hx=>?_
 refine k' O B σ H1 env y _ (R.grow s1) e2 λw H2 s2 r2=>?_
 have hi:=r2.is λq=>(R.grow s1).oo
 cases hd:y.d with
 | int i =>
  rw [hd] at hi e3
  obtain rfl:=fH hi
  dsimp only at e3
  cases h:eI ds i with
  | none=>rw [h] at e3;cases e3
  | some d =>
   rw [h] at e3
   obtain rfl:=dq e3
   obtain ⟨v,h1,h2⟩:=(hx.grow s2).eI h
   have c8:=hq.grow s2
   have fin:=q v H2 (s1.trans s2) h2
   cases kk with
   | true=>exact .inl ⟨l,xs,i,v,rfl,rfl,c8,h1,fin⟩
   | false=>exact .inr (.inl ⟨l,xs,i,v,rfl,rfl,c8,h1,fin⟩)
 | _=>rw [hd] at e3;cases e3
end
noncomputable def LIM:Int:=10^250
theorem b53(h1:-LIM<=j)(h2:j<=LIM):j.natAbs<2^900:=by
 have e:LIM<(2:Int)^900:=by unfold LIM;decide +kernel
 have e2:((2:Int)^900)=((2^900:Nat):Int):=by simp
 generalize (2^900:Nat)=m at *
 generalize LIM=l at *
 omega
theorem P8(h1:-LIM<=j)(h2:j<=LIM):j.natAbs.log2<900:=by
 rcases Nat.eq_zero_or_pos j.natAbs with h0 | hp
 .rw [h0];decide
 .exact (Nat.log2_lt (vt hp)).mpr (b53 h1 h2)
theorem QC(h1:-LIM<=j)(h2:j<=LIM):OG j<=900:=by
 have:=P8 h1 h2
 unfold OG
 split<;>lia
def MulC(i j:Int):Prop:=(-(2^64)<i/\i<2^64)\/(-(2^64)<j/\j<2^64)\/((-LIM<=i/\i<=LIM)/\(-LIM<=j/\j<=LIM))
noncomputable instance (i j:Int):Decidable (MulC i j):=by unfold MulC;infer_instance
theorem MulC.ok(h:MulC i j):IntMulOk i j:=by
 rcases h with ⟨h1,h2⟩ | ⟨h1,h2⟩ | ⟨⟨h1,h2⟩,h3,h4⟩
 .exact .of_left (DG h1 h2)
 .exact .of_right (DG h1 h2)
 .exact mulOk_of_bits (QC h1 h2) (QC h3 h4) (by decide)
def DivC(_ j:Int):Prop:=0<j/\j<=LIM
noncomputable instance (i j:Int):Decidable (DivC i j):=by unfold DivC;infer_instance
def jU(_ j:Int):Prop:=0<j
noncomputable instance (i j:Int):Decidable (jU i j):=by unfold jU;infer_instance
def PowC(i j:Int):Prop:=0<=j/\j<=1000000/\i.natAbs<2^64
noncomputable instance (i j:Int):Decidable (PowC i j):=by unfold PowC;infer_instance
noncomputable def gI(C:Int->Int->Prop)[∀i j,Decidable (C i j)](h:Int->Int->Int):D->D->Option Sl
 | .int i,.int j=>if C i j then some (.sh (.int (h i j))) else none
 | _,_=>none
noncomputable def gB(h:Int->Int->Bool):D->D->Option Sl
 | .int i,.int j=>some (.sh (.bl (h i j)))
 | _,_=>none
section
variable {X:Cx}
theorem Bl{f:Value->Value->Sem Value}{C:Int->Int->Prop}[∀i j,Decidable (C i j)]{h:Int->Int->Int}(ho:gG X f (rI C λi j=>.int (h i j))):jT X f (gI C h):=by
 refine ⟨_,ho,λO H x y a b s Q hO hx hy e q=>?_⟩
 cases a with
 | int i=>cases b with
  | int j =>
   obtain ⟨hc,rfl⟩:=iM (show (if C i j then some (Sl.sh (.int (h i j))) else none)=some s from e)
   exact ⟨i,j,fH hx,fH hy,hc,q _ H (aq.refl _) (Is.int _)⟩
  | _=>cases e
 | _=>cases e
theorem JS(ho:gG X f (uk λi j=>.bl (h i j))):jT X f (gB h):=by
 refine ⟨_,ho,λO H x y a b s Q hO hx hy e q=>?_⟩
 cases a with
 | int i=>cases b with
  | int j =>
   obtain rfl:=dq (show some (Sl.sh (.bl (h i j)))=some s from e)
   exact ⟨i,j,fH hx,fH hy,q _ H (aq.refl _) (Is.bl _)⟩
  | _=>cases e
 | _=>cases e
noncomputable def eR:D->D->Option Sl:=gI MulC λi j=>i*j
noncomputable def dk:D->D->Option Sl:=gI DivC λi j=>i/j
noncomputable def bY:D->D->Option Sl:=gI jU λi j=>i%j
noncomputable def fS:D->D->Option Sl:=gI PowC λi j=>i^j.toNat
noncomputable def c6:D->D->Option Sl:=gI (λ_ _=>True) λi j=>i-j
noncomputable def iV:D->D->Option Sl:=gB λi j=>decide (i<j)
noncomputable def qo:D->D->Option Sl:=gB λi j=>decide (i<=j)
noncomputable def rj:D->D->Option Sl:=gB λi j=>decide (j<i)
noncomputable def X9:D->D->Option Sl:=gB λi j=>decide (j<=i)
theorem n5:jT X (binaryOp .Mult) eR:=Bl (we λ_ _ _ _ _ _ _ (hc:MulC _ _) q=>mul_int q hc.ok)
theorem j8:jT X (binaryOp .FloorDiv) dk:=Bl (we λi j _ _ _ _ _ (hc:DivC i j) q=>by
 have h1:(0:Int)<j:=hc.1
 have h2:=P8 (j:=j) (by have:(0:Int)<=LIM:=(by decide +kernel);ext h1 this) hc.2
 exact floordiv_int (by ext h1) (by rw [Int.fdiv_eq_ediv_of_nonneg i (by ext h1)];exact q) (.inl (PyProof.noPylong_of_log2 (fg ‹_› (by decide)))))
theorem gF:jT X (binaryOp .Mod) bY:=Bl (we λi j _ _ _ _ _ (hc:jU i j) q=>by
 have h1:(0:Int)<j:=hc
 exact mod_int' (by ext h1) (by rw [Int.fmod_eq_emod_of_nonneg i (by ext h1)];exact q))
theorem pZ:jT X (binaryOp .Pow) fS:=Bl (we λ_ _ _ _ _ _ _ (hc:PowC _ _) q=>pow_int_small hc.1 hc.2.1 hc.2.2 q)
theorem j9:jT X (binaryOp .Sub) c6:=Bl (we λ_ _ _ _ _ _ _ _ q=>sub_int q)
theorem j7:jT X (compareOp .Lt) iV:=JS yW
theorem tR:jT X (compareOp .LtE) qo:=JS yX
theorem vJ:jT X (compareOp .Gt) rj:=JS yY
noncomputable def aV:D->D->Option Sl
 | .int i,.int j=>some (.sh (.int (i+j)))
 | .lst false a,.lst false b=>if a.length+b.length<=16777216 then some (.ow (a++b)) else none
 | .tup a,.tup b=>if a.length+b.length<=16777216 then some (.sh (.tup (a++b))) else none
 | .str a,.str b=>if a.length+b.length<=16777216 then some (.sh (.str (a++b))) else none
 | _,_=>none
theorem w9{K:aA}{O:Addr->Prop}{H:Hp}{v:V}{ds:List D}(h:Is K O H v (.tup ds)):∃p xs,v=.ref p/\eJ K H p xs/\aK K O H xs ds:=by
 obtain ⟨p,xs,e,h1,h2⟩:=h.seq (k:=false) rfl
 exact ⟨p,xs,e,h1,h2⟩
theorem J6{K:aA}{O:Addr->Prop}{H:Hp}{v:V}{ds:List D}(h:Is K O H v (.lst false ds)):∃p xs,v=.ref p/\¬O p/\H p=some (.lst xs)/\aK K O H xs ds:=by
 cases h with
 | lst ho hp hs=>exact ⟨_,_,rfl,ho,hp,hs⟩
theorem aK.eD{K:aA}{O:Addr->Prop}{H:Hp}{xs:List V}{ds:List D}(h:aK K O H xs ds):xs=[]↔ds=[]:=by cases h<;>simp
theorem RA{α:Type}{c:Prop}{d:Decidable c}{x y:α}(h:(@ite _ c d (some x) none)=some y):c/\x=y:=iM h
theorem dW:jT X (binaryOp .Add) aV:=by
 refine ⟨_,uq.or (uo.or (qS.or (l6.or b5R))),λO H x y a b s Q hO hx hy e q=>?_⟩
 cases a with
 | int i=>cases b with
  | int j =>
   obtain rfl:=dq (show some (Sl.sh (.int (i+j)))=some s from e)
   exact .inl ⟨i,j,fH hx,fH hy,q _ H (aq.refl _) (Is.int _)⟩
  | _=>cases e
 | lst r a=>cases r with
  | true=>cases b<;>cases e
  | false=>cases b with
   | lst r b=>cases r with
    | true=>cases e
    | false =>
     obtain ⟨hl,rfl⟩:=iM (show (if a.length+b.length<=16777216 then some (Sl.ow (a++b)) else none)=some s from e)
     obtain ⟨p1,xs,rfl,_,h1,i1⟩:=J6 hx
     obtain ⟨p2,ys,rfl,_,h2,i2⟩:=J6 hy
     exact .inr (.inl ⟨p1,p2,xs,ys,rfl,rfl,h1,h2,by rw [i1.length,i2.length,iY];exact hl,λp hp=>q _ _ (lV hp _) (xo hp (i1.append i2))⟩)
   | _=>cases e
 | tup a=>cases b with
  | tup b =>
   obtain ⟨hl,rfl⟩:=RA (show (if a.length+b.length<=16777216 then some (Sl.sh (.tup (a++b))) else none)=some s from e)
   obtain ⟨p1,xs,rfl,h1,i1⟩:=w9 hx
   obtain ⟨p2,ys,rfl,h2,i2⟩:=w9 hy
   by_cases h0:a=[]
   .subst h0
    cases i1
    exact .inr (.inr (.inr (.inr ⟨p1,p2,ys,rfl,rfl,h1,h2,q _ H (aq.refl _) hy⟩)))
   refine .inr (.inr (.inl ⟨p1,p2,xs,ys,rfl,rfl,h1,h2,λz=>h0 (i1.eD.mp z),by rw [i1.length,i2.length,iY];exact hl,λz=>?_,λz p hp=>q _ _ (lV hp _) (BM hO hp (i1.append i2))⟩))
   have z':=i2.eD.mp z
   subst z'
   rw [nT] at q
   exact q _ H (aq.refl _) hx
  | _=>cases e
 | str a=>cases b with
  | str b =>
   obtain ⟨hl,rfl⟩:=iM (show (if a.length+b.length<=16777216 then some (Sl.sh (.str (a++b))) else none)=some s from e)
   exact .inr (.inr (.inr (.inl ⟨a,b,J7 hx,J7 hy,by rw [iY];exact hl,q _ H (aq.refl _) (Is.str _)⟩)))
  | _=>cases e
 | _=>cases e
theorem map_some{α β:Type}{o:Option α}{f:α->β}{b:β}(h:o.map f=some b):∃a,o=some a/\f a=b:=by
 cases o with
 | none=>cases h
 | some a=>exact ⟨a,rfl,dq h⟩
noncomputable def D.c5:D->Bool
 | .aR=>true
 | _=>false
theorem b6a{K:aA}{O:Addr->Prop}{H:Hp}{x:V}{a:D}(hx:Is K O H x a):decide (x=.aR)=a.c5:=by
 cases hx<;>simp [D.c5]
noncomputable def rh:D->D->Option Sl:=λa b=>if b.c5=true then some (.sh (.bl a.c5)) else none
noncomputable def Au:D->D->Option Sl:=λa b=>if b.c5=true then some (.sh (.bl !a.c5)) else none
theorem b3D{b:D}(h:b.c5=true):b=.aR:=by cases b<;>first | rfl | cases h
theorem Po:jT X (compareOp .Is) rh:=by
 refine ⟨_,b72,λO H x y a b s Q hO hx hy e q=>?_⟩
 obtain ⟨hb,rfl⟩:=iM e
 rw [b3D hb] at hy
 exact ⟨PU hy,by rw [b6a hx];exact q _ H (aq.refl _) (Is.bl _)⟩
end
section
variable {X:Cx}{a b c:Expr}{pos p:Pos}{fa fb:En->Option Sl}{es:List Expr}{e:Expr}
def JI(X:Cx)(f:Value)(g:List D->Option Sl):Prop:=
 ∃r:List V->Hp->VK->Prop,cK X f r/\∀(O:Addr->Prop) (H:Hp) (xs:List V) (ds:List D) (s:Sl) (Q:VK),(∀q,O q->H q≠none)->aK X.K O H xs ds->g ds=some s ->
  (∀v H',aq H H'->Res X.K O H H' v s->Q v H')->r xs H Q
noncomputable def tU(g:List D->Option Sl)(fs:En->Option (List D)):En->Option Sl:=λenv=>(fs env).bind g
theorem xt{id:String}{x:Str}{g:List D->Option Sl}{fs:En->Option (List D)}(hc:JI X (.builtin id) g)(hg:Gl X x)(hm:X.mg x=none)(hv:bootBuiltins x=some (.builtin id))(ha:AV X (e::es) fs)(hn:x ≠ "__name__":=by decide)(kH:(x==("__debug__":Str))=false:=by decide)
  (he:starEach (e::es) X.env=(false,eval e X.env)::starEach es X.env:=by rfl)(dQ:(backTo pos (starEach es X.env)).any (·.1)=false:=by rfl):
  EV X (.Call (.Name x p) (e::es) [] pos) (tU g fs):=by
 obtain ⟨r,hr,HD⟩:=hc
 obtain ⟨t,pt,k⟩:=ha
 refine ⟨_,vQ hr hg hm hv pt hn kH he dQ,λO B σ H env s Q R e q=>?_⟩
 obtain ⟨ds,e1,e2⟩:=bind_some e
 refine k O B σ H env ds _ R e1 λvs H1 s1 r1=>?_
 exact HD (OO O σ env) H1 vs ds s Q (λq=>(R.grow s1).oo) r1 e2 λv H2 s2 r2=>q v H2 (s1.trans s2) (r2.from s1)
noncomputable def w6:List D->Option Sl
 | [.int i,.int j]=>some (.sh (.int (if j<i then j else i)))
 | _=>none
noncomputable def w5:List D->Option Sl
 | [.int i,.int j]=>some (.sh (.int (if j>i then j else i)))
 | _=>none
theorem Ry{K:aA}{O:Addr->Prop}{H:Hp}{xs:List V}{i j:Int}(h:aK K O H xs [.int i,.int j]):xs=[.int i,.int j]:=by
 cases h with
 | cons h t=>cases t with
  | cons h' t=>cases t;rw [fH h,fH h']
theorem ER{g:Int->Int->Option Sl}{ds:List D}{s:Sl}(e:(match ds with | [.int i,.int j]=>g i j | _=>none)=some s):∃i j,ds=[.int i,.int j]/\g i j=some s:=by
 split at e
 .exact ⟨_,_,rfl,e⟩
 .cases e
theorem Kx(hc:X.calm=true):JI X (.builtin "min") w6:=by
 refine ⟨_,b2i hc,λO H xs ds s Q hO h e q=>?_⟩
 obtain ⟨i,j,rfl,e⟩:=ER (g:=λi j=>some (.sh (.int (if j<i then j else i)))) e
 obtain rfl:=dq e
 exact ⟨i,j,Ry h,q _ H (aq.refl _) (Is.int _)⟩
theorem Kw(hc:X.calm=true):JI X (.builtin "max") w5:=by
 refine ⟨_,b2j hc,λO H xs ds s Q hO h e q=>?_⟩
 obtain ⟨i,j,rfl,e⟩:=ER (g:=λi j=>some (.sh (.int (if j>i then j else i)))) e
 obtain rfl:=dq e
 exact ⟨i,j,Ry h,q _ H (aq.refl _) (Is.int _)⟩
noncomputable def bZ(f:En->Option (Bool×List D)):En->Option Sl:=λenv=>(f env).map λx=>.sh (.int x.2.length)
noncomputable def eList(f:En->Option (Bool×List D)):En->Option Sl:=λenv=>(f env).map λx=>.ow x.2
noncomputable def By(f:En->Option (Bool×List D)):En->Option Sl:=λenv=>(f env).bind λx=>if x.1=true then some (.sh (.tup x.2)) else none
variable {ba:En->Option (Bool×List D)}
theorem iB(hg:Gl X "len")(hm:X.mg "len" = none)(ha:BV X a ba)(hs:starEach [a] X.env=[(false,eval a X.env)]:=by rfl):EV X (.Call (.Name "len" p) [a] [] pos) (bZ ba):=by
 obtain ⟨t,pt,k⟩:=ha
 refine ⟨_,vQ a8v hg hm PySem.boot_len (pV pt qz hs) (by decide) (by decide) hs rfl,λO B σ H env s Q R e q=>?_⟩
 obtain ⟨⟨kk,ds⟩,e1,rfl⟩:=map_some e
 refine k O B σ H env kk ds _ R e1 λl xs H1 s1 hq hx=>⟨l,xs,rfl,?_,?_⟩
 .cases kk with
  | true=>exact .inl hq
  | false=>exact .inr hq
 .rw [hx.length]
  exact q _ H1 s1 (Is.int _)
theorem QY(hg:Gl X "tuple")(hm:X.mg "tuple" = none)(ha:BV X a ba)(hs:starEach [a] X.env=[(false,eval a X.env)]:=by rfl):EV X (.Call (.Name "tuple" p) [a] [] pos) (By ba):=by
 obtain ⟨t,pt,k⟩:=ha
 refine ⟨_,Rq a7g hg hm (by decide +kernel) (pV pt qz hs) (by decide) (by decide) hs rfl,λO B σ H env s Q R e q=>?_⟩
 obtain ⟨⟨kk,ds⟩,e1,e2⟩:=bind_some e
 obtain ⟨h1,rfl⟩:=iM e2
 refine k O B σ H env kk ds _ R e1 λl xs H1 s1 hq hx=>⟨l,xs,rfl,?_⟩
 cases (show kk=true from h1)
 exact .inl ⟨hq,λp hp=>q _ _ (s1.trans (lV hp _)) ((BM (O:=OO O σ env) (H:=H1) (λ_ z=>(R.grow s1).oo z) hp hx).from s1)⟩
end
section
variable {K:aA}{O:Addr->Prop}{B H H1:Hp}{σ:L2.St}{env:En}{v:V}{r:Sl}{i:Nat}
theorem b5P(h:km (σ.set i (some v)) (env.set i r) q):km σ env q\/(r.own/\v=.ref q):=by
 obtain ⟨j,t,h1,ho,h2⟩:=h
 by_cases hj:i=j
 .subst hj
  rw [D1] at h1 h2
  rw [if_pos rfl] at h1 h2
  split at h1
  .cases h1
   split at h2
   .cases h2;exact .inr ⟨ho,rfl⟩
   .cases h2
  .cases h1
 .rw [fj hj] at h1 h2
  exact .inl ⟨j,t,h1,ho,h2⟩
theorem Res.fresh(h:Res K O B H v r)(ho:r.own):∃p,v=.ref p/\B p=none/\H p≠none:=by
 cases r with
 | no=>exact ho.elim
 | sh d=>exact ho.elim
 | ow ds=>obtain ⟨p,xs,e1,e2,e3,_⟩:=h;exact ⟨p,e1,e2,by rw [e3];exact λz=>nomatch z⟩
 | dw bu=>obtain ⟨p,e1,e2,e3⟩:=h;exact ⟨p,e1,e2,by rw [e3];exact λz=>nomatch z⟩
theorem Rel.set(R:Rel K O B σ H env)(s:aq H H1)(h:Res K (OO O σ env) H H1 v r)(hi:i<env.length):
  Rel K O B (σ.set i (some v)) H1 (env.set i r)/\Gd σ env H (σ.set i (some v)) (env.set i r) H1:=by
 have new:∀q,km (σ.set i (some v)) (env.set i r) q->km σ env q\/(H q=none/\r.own/\v=.ref q):=λq z=>by
  rcases b5P z with z | ⟨ho,rfl⟩
  .exact .inl z
  .obtain ⟨p,e1,e2,_⟩:=h.fresh ho
   cases e1
   exact .inr ⟨e2,ho,rfl⟩
 have hO:∀q,H q≠none->¬OO O σ env q->¬OO O (σ.set i (some v)) (env.set i r) q:=λq hq hn z=>by
  rcases z with z | z
  .exact hn (.inl z)
  .rcases new q z with z | ⟨z,_⟩
   .exact hn (.inr z)
   .exact hq z
 have hH:∀q u,H q=some u->¬OO O σ env q->H1 q=some u:=λq u e _=>s q u e
 have kG:i<σ.length:=by rw [R.len];exact hi
 refine ⟨⟨R.same.trans s,R.mq,by simp [R.len],λj d e=>?_,λj ds e=>?_,λj bu e=>?_,λj k ds es p e1 e2 e3 e4 o1 o2=>?_⟩,λq u e n=>⟨s q u e,λz=>?_⟩⟩
 .by_cases hj:i=j
  .subst hj
   rw [jm hi] at e
   cases e
   refine ⟨v,by rw [jm kG],Is.less (O:=OO O σ env) (λq z=>z.elim .inl λz=>?_) h⟩
   rcases new q z with z | ⟨_,z,_⟩
   .exact .inr z
   .exact z.elim
  .rw [fj hj] at e
   obtain ⟨w,e1,h1⟩:=R.sh j d e
   exact ⟨w,by rw [fj hj];exact e1,h1.map hO hH⟩
 .by_cases hj:i=j
  .subst hj
   rw [jm hi] at e
   cases e
   obtain ⟨p,xs,rfl,e2,e3,h1⟩:=h
   refine ⟨p,xs,by rw [jm kG],R.same.free e2,e3,h1.less λq z=>?_⟩
   rcases z with z | z
   .exact .inl (.inl z)
   .rcases new q z with z | ⟨_,_,z⟩
    .exact .inl (.inr z)
    .cases z;exact .inr rfl
  .rw [fj hj] at e
   obtain ⟨p,xs,e1,e2,e3,h1⟩:=R.ow j ds e
   exact ⟨p,xs,by rw [fj hj];exact e1,e2,s _ _ e3,h1.map hO hH⟩
 .by_cases hj:i=j
  .subst hj
   rw [jm hi] at e
   cases e
   obtain ⟨p,rfl,e2,e3⟩:=h
   exact ⟨p,by rw [jm kG],R.same.free e2,e3⟩
  .rw [fj hj] at e
   obtain ⟨p,e1,e2,e3⟩:=R.dw j bu e
   exact ⟨p,by rw [fj hj];exact e1,e2,s _ _ e3⟩
 .have other:∀j t,j≠i->env[j]?=some t->t.own->σ[j]?=some (some (V.ref p))->r.own->v≠.ref p:=λj t hj e ho e' hr z=>by
   obtain ⟨p',rfl,e2,_⟩:=h.fresh hr
   cases z
   obtain ⟨p2,u,e5,_,e6⟩:=R.ad e ho
   rw [e'] at e5
   cases e5
   rw [e2] at e6
   cases e6
  by_cases hj:i=j
  .by_cases hk:i=k
   .rw [<-hj,<-hk]
   .subst hj
    rw [jm hi] at e1
    rw [jm kG] at e3
    rw [fj hk] at e2 e4
    cases e1
    cases e3
    exact absurd rfl (other k es (gm hk) e2 o2 e4 o1)
  .by_cases hk:i=k
   .subst hk
    rw [jm hi] at e2
    rw [jm kG] at e4
    rw [fj hj] at e1 e3
    cases e2
    cases e4
    exact absurd rfl (other j ds (gm hj) e1 o1 e3 o2)
   .rw [fj hj] at e1 e3
    rw [fj hk] at e2 e4
    exact R.sep j k ds es p e1 e2 e3 e4 o1 o2
 .rcases new q z with z | ⟨z,_⟩
  .exact n z
  .rw [e] at z;cases z
theorem Rel.SX{p:Addr}{u':HO}{t t':Sl}(R:Rel K O B σ H env)(he:env[i]?=some t)(ho:t.own)(jy:t'.own)(hs:σ[i]?=some (some (V.ref p)))
  (hx:(∀gk,t'=.ow gk->∃jq,u'=.lst jq/\aK K (OO O σ env) H jq gk)/\∀zi,t'=.dw zi->u'=Iv zi):
  Rel K O B σ (upd H p u') (env.set i t')/\Gd σ env H σ (env.set i t') (upd H p u'):=by
 have hi:i<env.length:=(iu.mp he).1
 have own:∀q,km σ (env.set i t') q->km σ env q:=λq ⟨j,es,e1,e3,e2⟩=>by
  by_cases hj:i=j
  .subst hj;exact ⟨i,t,he,ho,e2⟩
  .rw [fj hj] at e1;exact ⟨j,es,e1,e3,e2⟩
 have yT:km σ env p:=⟨i,t,he,ho,hs⟩
 obtain ⟨p0,u0,f1,f2,f3⟩:=R.ad he ho
 rw [hs] at f1
 cases f1
 have hO:∀q,H q≠none->¬OO O σ env q->¬OO O σ (env.set i t') q:=λq _ hn z=>hn (z.elim .inl λz=>.inr (own q z))
 have hH:∀q u,H q=some u->¬OO O σ env q->upd H p u' q=some u:=λq u e n=>by
  rw [cL (λz=>n (.inr (by rw [z];exact yT)))]
  exact e
 refine ⟨⟨λq u e=>?_,R.mq,by simp [R.len],λj d e=>?_,λj es e=>?_,λj bu e=>?_,λj k es fs q e1 e2 e3 e4 o1 o2=>?_⟩,λq u e n=>⟨?_,λz=>n (own q z)⟩⟩
 .rw [cL (j' e f2)];exact R.same q u e
 .by_cases hj:i=j
  .subst hj;rw [jm hi] at e;cases e;exact jy.elim
  .rw [fj hj] at e
   obtain ⟨w,e1,h1⟩:=R.sh j d e
   exact ⟨w,e1,h1.map hO hH⟩
 .by_cases hj:i=j
  .subst hj
   rw [jm hi] at e
   cases e
   obtain ⟨jq,hu,jX⟩:=hx.1 _ rfl
   exact ⟨p,jq,hs,f2,by rw [lW,hu],jX.map hO hH⟩
  .rw [fj hj] at e
   obtain ⟨p2,F3,e1,e2,e3,h1⟩:=R.ow j es e
   refine ⟨p2,F3,e1,e2,?_,h1.map hO hH⟩
   rw [cL (λz=>hj (R.sep i j t _ p he e hs (by rw [e1,z]) ho trivial))]
   exact e3
 .by_cases hj:i=j
  .subst hj
   rw [jm hi] at e
   cases e
   exact ⟨p,hs,f2,by rw [lW,hx.2 _ rfl]⟩
  .rw [fj hj] at e
   obtain ⟨p2,e1,e2,e3⟩:=R.dw j bu e
   refine ⟨p2,e1,e2,?_⟩
   rw [cL (λz=>hj (R.sep i j t _ p he e hs (by rw [e1,z]) ho trivial))]
   exact e3
 .have fix:∀(j:Nat) (es:Sl),(env.set i t')[j]?=some es->es.own->∃gs:Sl,env[j]?=some gs/\gs.own:=λj es e o=>by
   by_cases hj:i=j
   .subst hj;exact ⟨t,he,ho⟩
   .rw [fj hj] at e;exact ⟨es,e,o⟩
  obtain ⟨g1,h1,q1⟩:=fix j es e1 o1
  obtain ⟨g2,h2,q2⟩:=fix k fs e2 o2
  exact R.sep j k g1 g2 q h1 h2 e3 e4 q1 q2
 .rw [cL (λz=>n (by rw [z];exact yT))];exact e
theorem Rel.wr(R:Rel K O B σ H env)(he:env[i]?=some (Sl.ow ds))(hs:σ[i]?=some (some (V.ref p)))(hx:aK K (OO O σ env) H jq gk):
  Rel K O B σ (upd H p (.lst jq)) (env.set i (.ow gk))/\Gd σ env H σ (env.set i (.ow gk)) (upd H p (.lst jq)):=
 R.SX (t':=.ow gk) he trivial trivial hs (c4j (λ_ e=>by cases e;exact ⟨jq,rfl,hx⟩) λ_ e=>nomatch e)
theorem Rel.Aw{t:Sl}(R:Rel K O B σ H env)(he:env[i]?=some t)(ho:t.own):Rel K O B σ H (env.set i (.sh t.d))/\Gd σ env H σ (env.set i (.sh t.d)) H:=by
 have hi:i<env.length:=(iu.mp he).1
 obtain ⟨p,u0,f1,f2,f3⟩:=R.ad he ho
 have own:∀q,km σ (env.set i (.sh t.d)) q->km σ env q/\q≠p:=λq ⟨j,es,e1,o,e2⟩=>by
  by_cases hj:i=j
  .subst hj;rw [jm hi] at e1;cases e1;exact o.elim
  .rw [fj hj] at e1
   exact ⟨⟨j,es,e1,o,e2⟩,λz=>hj (R.sep i j t es p he e1 f1 (by rw [e2,z]) ho o)⟩
 have less:∀q,OO O σ (env.set i (.sh t.d)) q->OO O σ env q:=λq z=>z.elim .inl λz=>.inr (own q z).1
 have np:¬OO O σ (env.set i (.sh t.d)) p:=λz=>z.elim (λz=>R.mq.1 p z f2) λz=>(own p z).2 rfl
 refine ⟨⟨R.same,R.mq,by simp [R.len],λj d e=>?_,λj es e=>?_,λj bu e=>?_,λj k es fs q e1 e2 e3 e4 o1 o2=>?_⟩,λq u e n=>⟨e,λz=>n (own q z).1⟩⟩
 .by_cases hj:i=j
  .subst hj
   rw [jm hi] at e
   cases e
   refine ⟨.ref p,f1,?_⟩
   cases t with
   | no=>exact ho.elim
   | sh d=>exact ho.elim
   | ow ds =>
    obtain ⟨p',xs,g1,g2,g3,g4⟩:=R.ow i ds he
    rw [f1] at g1;cases g1
    exact .lst np g3 (g4.less less)
   | dw bu =>
    obtain ⟨p',g1,g2,g3⟩:=R.dw i bu he
    rw [f1] at g1;cases g1
    exact .fy np g3
  .rw [fj hj] at e
   obtain ⟨w,e1,h1⟩:=R.sh j d e
   exact ⟨w,e1,h1.less less⟩
 .by_cases hj:i=j
  .subst hj;rw [jm hi] at e;cases e
  .rw [fj hj] at e
   obtain ⟨p2,F3,e1,e2,e3,h1⟩:=R.ow j es e
   exact ⟨p2,F3,e1,e2,e3,h1.less less⟩
 .by_cases hj:i=j
  .subst hj;rw [jm hi] at e;cases e
  .rw [fj hj] at e
   exact R.dw j bu e
 .have fix:∀(j:Nat) (es:Sl),(env.set i (.sh t.d))[j]?=some es->es.own->env[j]?=some es:=λj es e o=>by
   by_cases hj:i=j
   .subst hj;rw [jm hi] at e;cases e;exact o.elim
   .rw [fj hj] at e;exact e
  exact R.sep j k es fs q (fix j es e1 o1) (fix k fs e2 o2) e3 e4 o1 o2
theorem Rel.gz{ds:List D}(R:Rel K O B σ H env)(he:env[i]?=some (Sl.ow ds)):Rel K O B σ H (env.set i (.sh (.lst false ds)))/\Gd σ env H σ (env.set i (.sh (.lst false ds))) H:=R.Aw he trivial
end
section
variable {X:Cx}{st:Stmt}{rest:List Stmt}{F G:SF}{a b c e:Expr}{fa:En->Option Sl}{ga:En->Option Bool}{pos:Pos}
noncomputable def cZ:SF:=λenv=>some (.nx,env)
noncomputable def Gp:SF:=λenv=>some (.bk,env)
noncomputable def Ua:SF:=λenv=>some (.ct,env)
noncomputable def ah(F G:SF):SF:=λenv=>match F env with
 | some (.nx,bN)=>G bN
 | r=>r
theorem dO:jS X [] cZ:=⟨_,b5D,λO B σ H env fl ai D R e q=>by
 cases (show some (Fl.nx,env)=some (fl,ai) from e)
 exact q σ H R (Gd.refl (aq.refl _))⟩
theorem aM(h:SV X st F):jS X [st] F:=let ⟨t,p,k⟩:=h;⟨t,b5C p,k⟩
theorem aE(h:SV X st F)(h2:jS X rest G):jS X (st::rest) (ah F G):=by
 obtain ⟨t,p,k⟩:=h
 obtain ⟨u,p',k'⟩:=h2
 refine ⟨_,b22 p p',λO B σ H env fl ai D R e q=>?_⟩
 unfold ah at e
 cases hF:F env with
 | none=>rw [hF] at e;cases e
 | some x =>
  obtain ⟨f1,bN⟩:=x
  rw [hF] at e
  refine k O B σ H env f1 bN _ R hF ?_
  cases f1 with
  | nx=>exact λaD H' R' g'=>k' O B aD H' bN fl ai D R' e (q.from g')
  | bk=>cases e;exact q
  | ct=>cases e;exact q
  | rt r=>cases e;exact q
theorem b2Q:SV X (.Break pos) Gp:=⟨_,b24,λO B σ H env fl ai D R e q=>by
 cases (show some (Fl.bk,env)=some (fl,ai) from e)
 exact q σ H R (Gd.refl (aq.refl _))⟩
noncomputable def cE(c:En->Option Bool)(F G:SF):SF:=λenv=>match c env with
 | some true=>F env
 | some false=>G env
 | none=>none
theorem dA(hc:TV X c ga)(ha:jS X sa F)(hb:jS X sb G):SV X (.If c sa sb pos) (cE ga F G):=by
 obtain ⟨tc,pc,kc⟩:=hc
 obtain ⟨t,p,k⟩:=ha
 obtain ⟨u,p',k'⟩:=hb
 refine ⟨_,yI pc p p',λO B σ H env fl ai D R e q=>?_⟩
 unfold cE at e
 cases h:ga env with
 | none=>rw [h] at e;cases e
 | some x =>
  rw [h] at e
  refine kc O B σ H env x _ R h λH1 s1=>?_
  cases x with
  | true =>
   rw [if_pos rfl]
   exact k O B σ H1 env fl ai D (R.grow s1) e (q.from (Gd.refl s1))
  | false =>
   rw [if_neg my]
   exact k' O B σ H1 env fl ai D (R.grow s1) e (q.from (Gd.refl s1))
noncomputable def av(f:En->Option Sl):SF:=λenv=>(f env).map λr=>(.rt r,env)
theorem bC(h:EV X e fa):SV X (.Return (some e) pos) (av fa):=by
 obtain ⟨t,p,k⟩:=h
 refine ⟨_,Pu p,λO B σ H env fl ai D R e q=>?_⟩
 obtain ⟨r,e1,e2⟩:=map_some e
 cases e2
 exact k O B σ H env r _ R e1 λv H1 s1 r1=>q v H1 (R.same.trans s1) ((r1.from R.same).less λq z=>.inl z)
noncomputable def yw:SF:=λenv=>some (.rt (.sh .aR),env)
noncomputable def oN(i:Nat):SF:=λenv=>match env[i]? with
 | some (.ow ds)=>some (.rt (.ow ds),env)
 | some (.dw ds)=>some (.rt (.dw ds),env)
 | some (.sh d)=>some (.rt (.sh d),env)
 | _=>none
theorem b5q(i:Nat){x:Str}{p2:Pos}(hN:X.N[i]?=some x:=by rfl)(hv:gU X.env.scope x:=by first | exact bO rfl | exact aW (bO rfl) | exact aW (aW rfl))(hd:(x==("__debug__":Str))=false:=by decide)
  (cI:(x==("__classdict__":Str))=false:=by decide):SV X (.Return (some (.Name x p2)) pos) (oN i):=by
 refine ⟨_,Pu (rY hN hv hd cI),λO B σ H env fl ai D R e q=>?_⟩
 unfold oN at e
 cases h:env[i]? with
 | none=>rw [h] at e;cases e
 | some s =>
  rw [h] at e
  cases s with
  | no=>cases e
  | sh d =>
   cases e
   obtain ⟨v,e2,hv⟩:=R.sh i d h
   exact ⟨v,e2,q v H R.same (Is.less (λq z=>.inl z) hv)⟩
  | ow ds =>
   cases e
   obtain ⟨p,xs,e1,e2,e3,h1⟩:=R.ow i ds h
   exact ⟨_,e1,q _ H R.same ⟨p,xs,rfl,e2,e3,h1.less λq z=>z.elim .inl λz=>.inr ⟨i,.ow ds,h,trivial,by rw [z];exact e1⟩⟩⟩
  | dw bu =>
   cases e
   obtain ⟨p,e1,e2,e3⟩:=R.dw i bu h
   exact ⟨_,e1,q _ H R.same ⟨p,rfl,e2,e3⟩⟩
noncomputable def dP(i:Nat)(f:En->Option Sl):SF:=λenv=>(f env).bind λr=>if i<env.length then some (.nx,env.set i r) else none
theorem PH(hN:X.N.Nodup)(hi:X.N[i]?=some x)(hx:Loc X.env.scope x)(he:EV X e fa)(hs:swapsWith e (some (.Name x pos')) pos.line X.env=pure false:=by rfl)(hf:X.fn x=true\/X.env.scope.names.lookup x=some .local:=by first | exact .inl rfl | exact .inr rfl | assumption):
  SV X (.Assign [.Name x pos'] e pos) (dP i fa):=by
 obtain ⟨t,p,k⟩:=he
 refine ⟨_,J2 hN hi hx p hs hf,λO B σ H env fl ai D R e q=>?_⟩
 obtain ⟨r,e1,e2⟩:=bind_some e
 obtain ⟨hl,e3⟩:=iM e2
 cases e3
 refine k O B σ H env r _ R e1 λv H1 s1 r1=>?_
 obtain ⟨R',g'⟩:=R.set s1 r1 hl
 exact q _ H1 R' g'
noncomputable def bg(i:Nat)(f:En->Option Sl):SF:=λenv=>(f env).bind λr=>if i<env.length then some (.nx,env.set i (.sh r.d)) else none
theorem Qo(hN:X.N.Nodup)(hi:X.N[i]?=some x)(hx:Loc X.env.scope x)(he:EV X e fa)(hs:swapsWith e (some (.Name x pos')) pos.line X.env=pure false:=by rfl)(hf:X.fn x=true\/X.env.scope.names.lookup x=some .local:=by first | exact .inl rfl | exact .inr rfl | assumption):
  SV X (.Assign [.Name x pos'] e pos) (bg i fa):=by
 obtain ⟨t,p,k⟩:=he
 refine ⟨_,J2 hN hi hx p hs hf,λO B σ H env fl ai D R e q=>?_⟩
 obtain ⟨r,e1,e2⟩:=bind_some e
 obtain ⟨hl,e3⟩:=iM e2
 cases e3
 refine k O B σ H env r _ R e1 λv H1 s1 r1=>?_
 obtain ⟨R',g'⟩:=R.set (r:=.sh r.d) s1 (r1.is λq=>R.oo) hl
 exact q _ H1 R' g'
noncomputable def yx(f:En->Option Sl):SF:=λenv=>(f env).map λ_=>(.nx,env)
noncomputable def pJ(i:Nat)(env:En):En:=match env[i]? with
 | some (.ow ds)=>env.set i (.sh (.lst false ds))
 | some (.dw ds)=>env.set i (.sh (.fy false ds))
 | _=>env
noncomputable def o5(i:Nat)(F:SF):SF:=λenv=>F (pJ i env)
theorem PF(i:Nat)(h:SV X st F):SV X st (o5 i F):=by
 obtain ⟨t,p,k⟩:=h
 refine ⟨t,p,λO B σ H env fl ai D R e q=>?_⟩
 unfold o5 pJ at e
 cases h:env[i]? with
 | none=>rw [h] at e;exact k O B σ H env fl ai D R e q
 | some s =>
  rw [h] at e
  cases s with
  | no=>exact k O B σ H env fl ai D R e q
  | sh d=>exact k O B σ H env fl ai D R e q
  | ow ds =>
   obtain ⟨R',g'⟩:=R.gz h
   exact k O B σ H _ fl ai D R' e (q.from g')
  | dw ds =>
   obtain ⟨R',g'⟩:=R.Aw h trivial
   exact k O B σ H _ fl ai D R' e (q.from g')
noncomputable def dY(i:Nat)(f:En->Option Sl):SF:=λenv=>match env[i]? with
 | some (.ow ds)=>(f env).bind λr=>if ds.length<16777216 then some (.nx,env.set i (.ow (ds++[r.d]))) else none
 | _=>none
theorem Rk{i:Nat}{x:Str}{p1 p2 aS:Pos}(ha:EV X e fa)(hN:X.N[i]?=some x:=by rfl)(hv:gU X.env.scope x:=by first | exact bO rfl | exact aW (bO rfl) | exact aW (aW rfl))(hd:(x==("__debug__":Str))=false:=by decide)
  (cI:(x==("__classdict__":Str))=false:=by decide)(hs:starEach [e] X.env=[(false,eval e X.env)]:=by rfl)
  (cJ:attributeBase (.Name x p1) "append" X.env (eval (.Name x p1) X.env)=eval (.Name x p1) X.env:=by rfl)
  (il:((backTo aS (starEach [e] X.env)).all (λx=>!x.1)&&(backToKw aS (keywordEach [] X.env)).all (λx=>x.1.isSome)
   && decide ([e].length+([]:List Keyword).length+(if ([]:List Keyword).isEmpty then 0 else 1)<30))=true:=by rfl)
  (cH:(p2.endLine==aS.line)=true:=by rfl)
  (qZ:swapsWith (.Call (.Attribute (.Name x p1) "append" p2) [e] [] aS) none pos.line X.env=pure false:=by rfl):
  SV X (.Expr (.Call (.Attribute (.Name x p1) "append" p2) [e] [] aS) pos) (dY i fa):=by
 obtain ⟨t,p,k⟩:=ha
 refine ⟨_,Qb (O6 Js OC PySem.F.type_list_append b1s (rY hN hv hd cI) (pV p qz hs) cJ il cH hs rfl) qZ,λO B σ H env fl ai D R e q=>?_⟩
 unfold dY at e
 cases h:env[i]? with
 | none=>rw [h] at e;cases e
 | some s =>
  rw [h] at e
  cases s with
  | no=>cases e
  | sh d=>cases e
  | dw bu=>cases e
  | ow ds =>
   obtain ⟨r,e1,e2⟩:=bind_some e
   obtain ⟨hl,e3⟩:=iM e2
   cases e3
   obtain ⟨l,xs,f1,f2,f3,f4⟩:=R.ow i ds h
   refine ⟨_,f1,.inl ⟨rfl,_,dX.of f3⟩,?_⟩
   refine k O B σ H env r _ R e1 λv H1 s1 r1=>⟨l,xs,v,rfl,rfl,s1 _ _ f3,by rw [f4.length,iY];exact hl,?_⟩
   obtain ⟨R',g'⟩:=(R.grow s1).wr h f1 ((f4.grow s1).append (.cons (r1.is λq=>R.oo) .nil))
   exact q _ _ R' (g'.from s1)
end
section
variable {X:Cx}{st:Stmt}{F:SF}{a b c e tg it:Expr}{fa:En->Option Sl}{ba:En->Option (Bool×List D)}{ga:En->Option Bool}{pos:Pos}
noncomputable abbrev GF:=D->En->Option En
def GV(X:Cx)(tg:Expr)(g:GF):Prop:=
 ∃t:TG,PG X tg t/\∀(O:Addr->Prop) (B:Hp) (σ:L2.St) (H:Hp) (env ai:En) (v:V) (d:D) (Q:L2.St->Hp->Prop),Rel X.K O B σ H env->Is X.K (OO O σ env) H v d->g d env=some ai ->
  (∀aD H',Rel X.K O B aD H' ai->Gd σ env H aD ai H'->Q aD H')->t v σ H Q
noncomputable def gN(i:Nat):GF:=λd env=>if i<env.length then some (env.set i (.sh d)) else none
theorem b6c(hN:X.N.Nodup)(hi:X.N[i]?=some x)(hx:Loc X.env.scope x)(hf:X.fn x=true\/X.env.scope.names.lookup x=some .local:=by first | exact .inl rfl | exact .inr rfl | assumption):GV X (.Name x pos) (gN i):=by
 refine ⟨_,b5J hN hi hx hf,λO B σ H env ai v d Q R h e q=>?_⟩
 obtain ⟨hl,rfl⟩:=iM e
 obtain ⟨R',g'⟩:=R.set (r:=.sh d) (aq.refl _) h hl
 exact q _ H R' g'
noncomputable abbrev v8:=List D->En->Option En
def F0(X:Cx)(tg:List Expr)(g:v8):Prop:=
 ∃t:t9,CG X tg t/\∀(O:Addr->Prop) (B:Hp) (σ:L2.St) (H:Hp) (env ai:En) (v:List V) (d:List D) (Q:L2.St->Hp->Prop),Rel X.K O B σ H env->aK X.K (OO O σ env) H v d->g d env=some ai ->
  (∀aD H',Rel X.K O B aD H' ai->Gd σ env H aD ai H'->Q aD H')->t v σ H Q
noncomputable def oM:v8:=λds env=>match ds with
 | []=>some env
 | _::_=>none
noncomputable def fG(g:GF)(u:v8):v8:=λds env=>match ds with
 | d::r=>(g d env).bind (u r)
 | []=>none
theorem qC:F0 X [] oM:=by
 refine ⟨_,b5I,λO B σ H env ai v d Q R h e q=>?_⟩
 cases h with
 | nil=>cases e;exact ⟨rfl,q σ H R (Gd.refl (aq.refl _))⟩
 | cons _ _=>cases e
theorem Gd.C'{K:aA}{O:Addr->Prop}{σ aD:L2.St}{env ai:En}{H H':Hp}(g:Gd σ env H aD ai H'){v:List V}{d:List D}(h:aK K (OO O σ env) H v d):aK K (OO O aD ai) H' v d:=
 h.map (λq hq hn z=>by
  cases e:H q with
  | none=>exact hq e
  | some u =>
   obtain ⟨_,n'⟩:=g q u e λw=>hn (.inr w)
   exact z.elim (λw=>hn (.inl w)) n') λq u e n=>(g q u e λw=>n (.inr w)).1
theorem gp{es:List Expr}{g:GF}{u:v8}(h1:GV X e g)(h2:F0 X es u)
  (hs:(assignEach (e::es) X.env).map (·.2)=assign e X.env::(assignEach es X.env).map (·.2):=by rfl):F0 X (e::es) (fG g u):=by
 obtain ⟨t,p,k⟩:=h1
 obtain ⟨t',p',k'⟩:=h2
 refine ⟨_,b27 p p' hs,λO B σ H env ai v d Q R h e q=>?_⟩
 cases h with
 | nil=>cases e
 | cons h ht =>
  obtain ⟨bN,e1,e2⟩:=bind_some (show (g _ env).bind (u _)=some ai from e)
  refine ⟨_,_,rfl,k O B σ H env bN _ _ _ R h e1 λiH H1 R1 g1=>?_⟩
  exact k' O B iH H1 bN ai _ _ Q R1 (g1.C' ht) e2 λcY H2 R2 g2=>q cY H2 R2 (g1.trans g2)
noncomputable def gT(n:Nat)(u:v8):GF:=λd env=>match d with
 | .tup ds=>if ds.length=n then u ds env else none
 | _=>none
theorem qy{es:List Expr}{k n:Nat}{u:v8}(hc:X.calm=true)(h:F0 X es u)(hn:(assignEach es X.env).length=n:=by rfl)(Dj:(assignEach es X.env).findIdx? (·.1)=none:=by rfl):GV X (.Tuple es k pos) (gT n u):=by
 obtain ⟨t,p,k'⟩:=h
 refine ⟨_,b7P hc p hn Dj,λO B σ H env ai v d Q R h e q=>?_⟩
 cases d with
 | tup ds =>
  have e':(if ds.length=n then u ds env else none)=some ai:=e
  by_cases hl:ds.length=n
  .rw [if_pos hl] at e'
   obtain ⟨a,xs,rfl,h1,h2⟩:=w9 h
   exact ⟨a,xs,rfl,h1,by rw [h2.length];exact hl,k' O B σ H env ai xs ds Q R h2 e' q⟩
  .rw [if_neg hl] at e';cases e'
 | _=>cases e
noncomputable def qO(f:En->Option Sl)(g:GF):SF:=λenv=>(f env).bind λr=>(g r.d env).map λai=>(.nx,ai)
theorem b7C{g:GF}(he:EV X e fa)(hg:GV X tg g)(hs:swapsWithSole [tg] e pos.line X.env=pure false:=by rfl)(hw:swappedStores [tg] e X.env=pure none:=by rfl)
  (h1:(assignEach [tg] X.env).map (·.2)=[assign tg X.env]:=by rfl):SV X (.Assign [tg] e pos) (qO fa g):=by
 obtain ⟨t,p,k⟩:=he
 obtain ⟨t',p',k'⟩:=hg
 refine ⟨_,Pr p p' hs hw h1,λO B σ H env fl ai D R e q=>?_⟩
 obtain ⟨r,e1,e4⟩:=bind_some e
 obtain ⟨bN,e2,e3⟩:=map_some e4
 obtain ⟨rfl,rfl⟩:=Prod.mk.inj e3
 refine k O B σ H env r _ R e1 λv H1 s1 r1=>?_
 exact k' O B σ H1 env bN v r.d _ (R.grow s1) (r1.is λq=>R.oo) e2 λaD H' R' g'=>q aD H' R' (g'.from s1)
noncomputable def forL(g:GF)(F:SF):List D->SF
 | [],env=>some (.nx,env)
 | d::ds,env=>match g d env with
  | none=>none
  | some bN=>match F bN with
   | some (.nx,bq)=>forL g F ds bq
   | some (.ct,bq)=>forL g F ds bq
   | some (.bk,bq)=>some (.nx,bq)
   | some (.rt r,bq)=>some (.rt r,bq)
   | none=>none
structure Left(K:aA)(O:Addr->Prop)(B:Hp)(qF:L2.St)(H0:Hp)(fU:En)(g:GF)(F:SF)(ds:List D)(fl:Fl)(ai:En)(i:Nat)(σ:L2.St)(H:Hp):Prop where
 ex:∃env,Rel K O B σ H env/\Gd qF fU H0 σ env H/\forL g F (ds.drop i) env=some (fl,ai)
theorem K2{g:GF}{qJ:TG}{tb:TS}{O:Addr->Prop}{B:Hp}{qF:L2.St}{H0:Hp}{fU ai:En}{fl:Fl}{D:Ends}{ds:List DL.D}{xs:List V}{i:Nat}{x:V}{σ:L2.St}{H:Hp}
  (kg:∀(O:Addr->Prop) (B:Hp) (σ:L2.St) (H:Hp) (env ai:En) (v:V) (d:DL.D) (Q:L2.St->Hp->Prop),Rel X.K O B σ H env->Is X.K (OO O σ env) H v d->g d env=some ai ->
   (∀aD H',Rel X.K O B aD H' ai->Gd σ env H aD ai H'->Q aD H')->qJ v σ H Q)
  (kb:∀(O:Addr->Prop) (B:Hp) (σ:L2.St) (H:Hp) (env:En) (fl:Fl) (ai:En) (D:Ends),Rel X.K O B σ H env->F env=some (fl,ai)->dD X.K O B σ H env D fl ai->tb D σ H)
  (hx:aK X.K (OO O qF fU) H0 xs ds)(hi:xs[i]?=some x)(q:dD X.K O B qF H0 fU D fl ai)(h:Left X.K O B qF H0 fU g F ds fl ai i σ H):
  qJ x σ H λcY H2=>tb { D with nx:=Left X.K O B qF H0 fU g F ds fl ai (i+1),ct:=Left X.K O B qF H0 fU g F ds fl ai (i+1),bk:=D.nx } cY H2:=by
 obtain ⟨env,R,gd,e⟩:=h
 obtain ⟨d,hd,_⟩:=hx.pI hi
 have HB:i<ds.length:=(iu.mp hd).1
 have Af:ds.drop i=d::ds.drop (i+1):=by
  rw [j0 HB]
  rw [mx HB] at hd
  rw [dq hd]
 obtain ⟨x',jX,Xe⟩:=(gd.C' hx).get hd
 rw [hi] at jX
 cases jX
 rw [Af,forL] at e
 cases hg:g d env with
 | none=>rw [hg] at e;cases e
 | some bN =>
  rw [hg] at e
  refine kg O B σ H env bN x d _ R Xe hg λiH H1 R1 g1=>?_
  dsimp only at e
  cases hF:F bN with
  | none=>rw [hF] at e;cases e
  | some y =>
   obtain ⟨f2,bq⟩:=y
   rw [hF] at e
   have go:=gd.trans g1
   refine kb O B iH H1 bN f2 bq _ R1 hF ?_
   cases f2 with
   | nx=>exact λcY H2 R2 g2=>⟨bq,R2,go.trans g2,e⟩
   | ct=>exact λcY H2 R2 g2=>⟨bq,R2,go.trans g2,e⟩
   | bk=>cases e;exact λcY H2 R2 g2=>q cY H2 R2 (go.trans g2)
   | rt r=>cases e;exact q
theorem Fe{D:Ends}{ds:List DL.D}{n:Nat}(hn:ds.length<=n)
  (q:dD X.K O B qF H0 fU D fl ai)(h:Left X.K O B qF H0 fU g F ds fl ai n σ H):D.nx σ H:=by
 obtain ⟨env,R,gd,e⟩:=h
 rw [ny hn,forL] at e
 cases e
 exact q σ H R gd
noncomputable def fO(f:En->Option Sl)(g:GF)(F:SF):SF:=λenv=>(f env).bind λr=>(eQ r.d).bind λx=>forL g F x.2 env
theorem Gd.sq{K:aA}{σ aD:L2.St}{env ai:En}{H H':Hp}(gd:Gd σ env H aD ai H'){k:Bool}{p:Addr}{xs:List V}(h:Sq K H k p xs)(hp:¬km σ env p\/H p=none):Sq K H' k p xs:=by
 have rd:∀u,Rd H p u->Rd H' p u:=λu z=>by
  rcases z with z | ⟨o,z⟩
  .rcases hp with hp | hp
   .exact .inl (gd p _ z hp).1
   .rw [hp] at z;cases z
  .rcases hp with hp | hp
   .exact .inr ⟨o,(gd p _ z hp).1⟩
   .rw [hp] at z;cases z
 cases k with
 | true =>
  rcases h with h | h
  .exact .inl (rd _ h)
  .exact .inr h
 | false =>
  rcases h with h | h
  .exact .inl (rd _ h)
  .exact .inr h
theorem Is.nH{K:aA}{O:Addr->Prop}{H:Hp}{v:V}{d:D}{k:Bool}{ds:List D}(h:Is K O H v d)(e:eQ d=some (k,ds)):∃p xs,v=.ref p/\Sq K H k p xs/\aK K O H xs ds/\(¬O p\/∀H',Sq K H' k p xs):=by
 cases h with
 | tup ho hp hs=>cases e;exact ⟨_,_,rfl,.inl hp,hs,.inl ho⟩
 | nL hp hs=>cases e;exact ⟨_,_,rfl,B1 hp,hs,.inr λ_=>B1 hp⟩
 | lst ho hp hs=>cases e;exact ⟨_,_,rfl,.inl (.inl hp),hs,.inl ho⟩
 | lZ ho hp hs=>cases e;exact ⟨_,_,rfl,.inl hp,hs,.inl ho⟩
 | l7 hp hs=>cases e;exact ⟨_,_,rfl,B0 hp,hs,.inr λ_=>B0 hp⟩
 | _=>cases e
noncomputable def G4(K:aA)(tl:TE):TI:=λσ H R=>tl σ H λx H1=>∃a,x=.ref a/\(((∃xs,dX K H1 a xs)/\R (xR K a) H1)\/((∃xs,eJ K H1 a xs)/\R (CL K a) H1))
theorem Pq(hl:PE X l tl):PI X tg l (G4 X.K tl):=by
 intro pins s σ H R I h
 refine a9 (hl pins s σ H _ I h) λv s1 ⟨x,H1,I1,r1,q1⟩=>?_
 obtain ⟨a,e,q1⟩:=q1
 subst e
 cases r1
 rcases q1 with ⟨⟨xs,hq⟩,q⟩ | ⟨⟨xs,hq⟩,q⟩
 .obtain ⟨ao,rv,p,hz⟩:=I1.list hq
  refine wI p.isList ?_
  refine ⟨s1.heap.objs.size,[s1.heap.objs.size],_,_,H1,rfl,I1.kept (t':=s1.toks) λb o e=>bI _ e,b0T a _,⟨_,eG _ rfl,rfl,rfl⟩,λb hb=>?_,q⟩
  have e:b=s1.heap.objs.size:=by simpa using hb
  subst e
  exact I1.jC (bh _) (I1.aY.fresh (bh _))
 .obtain ⟨ao,rv,p,hz⟩:=I1.tuple hq
  refine rM (show s1.heap.IsTuple a ao.toArray from p) ?_
  refine ⟨s1.heap.objs.size,[s1.heap.objs.size],_,_,H1,rfl,I1.kept (t':=s1.toks) λb o e=>bI _ e,b0g a _,⟨_,eG _ rfl,rfl,rfl⟩,λb hb=>?_,q⟩
  have e:b=s1.heap.objs.size:=by simpa using hb
  subst e
  exact I1.jC (bh _) (I1.aY.fresh (bh _))
theorem qA(hp:PassesOwn (model X.prog X.w) X.A X.env X.xe)(hc:X.calm=true)(hi:EV X it fa)(hg:GV X tg g)(hb:jS X body F)
  (hs:∀x,foldedSetIterable it X.env x=pure x:=by intro _;rfl):SV X (.For tg it body [] pos) (fO fa g F):=by
 obtain ⟨ti,pi,ki⟩:=hi
 obtain ⟨qJ,pg,kg⟩:=hg
 obtain ⟨tb,pb,kb⟩:=hb
 refine ⟨_,J1 hp hc (Pq pi) pg pb hs,λO B σ H env fl ai D R e q=>?_⟩
 obtain ⟨r,e1,e2⟩:=bind_some e
 obtain ⟨⟨k,ds⟩,e4,e5⟩:=bind_some e2
 refine ki O B σ H env r _ R e1 λv H1 s1 r1=>?_
 obtain ⟨p,xs,rfl,h1,h2,h3⟩:=(r1.is λq=>R.oo).nH e4
 refine ⟨p,rfl,?_⟩
 have q':dD X.K O B σ H1 env D fl ai:=q.from (Gd.refl s1)
 have keep:∀i cY H2,Left X.K O B σ H1 env g F ds fl ai i cY H2->Sq X.K H2 k p xs:=λi cY H2 L=>by
  rcases h3 with h3 | h3
  .obtain ⟨bq,_,gd,_⟩:=L
   exact gd.sq h1 (.inl λz=>h3 (.inr z))
  .exact h3 H2
 cases k with
 | true =>
  refine .inl ⟨⟨xs,h1⟩,?_⟩
  exact b3H (xs:=xs) (Left X.K O B σ H1 env g F ds fl ai) ⟨env,R.grow s1,Gd.refl (aq.refl _),e5⟩ (λi cY H2 _ L=>keep i cY H2 L) (λi x cY H2 hx L=>K2 kg kb h2 hx q' L) (λcY H2 L=>Fe (by rw [h2.length];exact bh _) q' L)
 | false =>
  refine .inr ⟨⟨xs,h1⟩,?_⟩
  exact b6d (xs:=xs) (Left X.K O B σ H1 env g F ds fl ai) ⟨env,R.grow s1,Gd.refl (aq.refl _),e5⟩ (λi cY H2 _ L=>keep i cY H2 L) (λi x cY H2 hx L=>K2 kg kb h2 hx q' L) (λcY H2 L=>Fe (by rw [h2.length];exact bh _) q' L)
noncomputable def bD(lo:Int)(n:Nat):List D:=(eH n).map λ(k:Nat)=>D.int (lo+(k:Int))
def R62(i:Int):Prop:=-(2^62)<=i/\i<2^62
noncomputable instance (i:Int):Decidable (R62 i):=by unfold R62;infer_instance
noncomputable def qQ:List D->Option (List D)
 | [.int j]=>if R62 j then some (bD 0 j.toNat) else none
 | _=>none
noncomputable def Gx:List D->Option (List D)
 | [.int i,.int j]=>if R62 i/\R62 j then some (bD i (j-i).toNat) else none
 | _=>none
noncomputable def EK(h:List D->Option (List D))(f:En->Option (List D))(g:GF)(F:SF):SF:=λenv=>(f env).bind λds=>(h ds).bind λis=>forL g F is env
theorem b5u{K:aA}{O:Addr->Prop}{H:Hp}(lo:Int)(n:Nat):aK K O H ((eH n).map λ(k:Nat)=>V.int (lo+(k:Int))) (bD lo n):=by
 have h:=aK.ints (K:=K) (O:=O) (H:=H) ((eH n).map λ(k:Nat)=>lo+(k:Int))
 rw [dS,dS] at h
 exact h
theorem Qy{K:aA}{O:Addr->Prop}{H:Hp}{xs:List V}{i:Int}(h:aK K O H xs [.int i]):xs=[.int i]:=by
 cases h with
 | cons h t=>cases t;rw [fH h]
theorem b6e{tb:TS}{qJ:TG}{g:GF}{lo:Int}{n:Nat}{O:Addr->Prop}{B:Hp}{σ:L2.St}{H:Hp}{env ai:En}{fl:Fl}{D:Ends}
  (kg:∀(O:Addr->Prop) (B:Hp) (σ:L2.St) (H:Hp) (env ai:En) (v:V) (d:DL.D) (Q:L2.St->Hp->Prop),Rel X.K O B σ H env->Is X.K (OO O σ env) H v d->g d env=some ai ->
   (∀aD H',Rel X.K O B aD H' ai->Gd σ env H aD ai H'->Q aD H')->qJ v σ H Q)
  (kb:∀(O:Addr->Prop) (B:Hp) (σ:L2.St) (H:Hp) (env:En) (fl:Fl) (ai:En) (D:Ends),Rel X.K O B σ H env->F env=some (fl,ai)->dD X.K O B σ H env D fl ai->tb D σ H)
  (R:Rel X.K O B σ H env)(e:forL g F (bD lo n) env=some (fl,ai))(q:dD X.K O B σ H env D fl ai):
  ∃W:Nat->Nat->L2.St->Hp->Prop,(∃m,W 0 m σ H)/\∀i m σ H,W i m σ H ->
   ((oz lo n).stop i H/\D.nx σ H)\/((oz lo n).go i H/\∃N:L2.St->Hp->Prop,(∀aD H',N aD H'->∃m',m'<m/\W (i+1) m' aD H')/\∀x H',(oz lo n).uc i H x H'->qJ x σ H' λcY H2=>tb { D with nx:=N,ct:=N,bk:=D.nx } cY H2):=by
 refine b1R (Left X.K O B σ H env g F (bD lo n) fl ai) ⟨env,R,Gd.refl (aq.refl _),e⟩ (λi cY H2 hi L=>?_) (λcY H2 L=>Fe (by simp [bD]) q L)
 exact K2 kg kb (b5u lo n) (by simp [hi]) q L
theorem b2P{body:List Stmt}{g:GF}{fs:En->Option (List D)}{p:Pos}(hp:PassesOwn (model X.prog X.w) X.A X.env X.xe)(hc:X.calm=true)(uP:Gl X "range")(hm:X.mg "range" = none)(ha:AV X [a] fs)(hg:GV X tg g)(hb:jS X body F)
  (h1:starEach [a] X.env=[(false,eval a X.env)]:=by rfl)(hs:∀x,foldedSetIterable (.Call (.Name "range" p) [a] [] pos) X.env x=pure x:=by intro _;rfl){pf:Pos}:
  SV X (.For tg (.Call (.Name "range" p) [a] [] pos) body [] pf) (EK qQ fs g F):=by
 obtain ⟨ti,pi,ki⟩:=ha
 obtain ⟨qJ,pg,kg⟩:=hg
 obtain ⟨tb,pb,kb⟩:=hb
 refine ⟨_,J1 hp hc (b1k uP hm pi h1) pg pb hs,λO B σ H env fl ai D R e q=>?_⟩
 obtain ⟨ds,e1,e2⟩:=bind_some e
 obtain ⟨is,e2,e3⟩:=bind_some e2
 refine ki O B σ H env ds _ R e1 λvs H1 s1 r1=>?_
 unfold qQ at e2
 split at e2
 .obtain ⟨⟨h1,h2⟩,rfl⟩:=iM e2
  exact ⟨_,Qy r1,h1,h2,b6e kg kb (R.grow s1) e3 (q.from (Gd.refl s1))⟩
 .cases e2
noncomputable def qG(c:En->Option Bool)(F:SF):Nat->SF
 | 0,_=>none
 | n+1,env=>match c env with
  | none=>none
  | some false=>some (.nx,env)
  | some true=>match F env with
   | some (.nx,bq)=>qG c F n bq
   | some (.ct,bq)=>qG c F n bq
   | some (.bk,bq)=>some (.nx,bq)
   | some (.rt r,bq)=>some (.rt r,bq)
   | none=>none
noncomputable def BG(m:En->Nat)(c:En->Option Bool)(F:SF):SF:=λenv=>qG c F (m env) env
theorem K'(m:En->Nat)(hp:PassesOwn (model X.prog X.w) X.A X.env X.xe)(hc:TV X c ga)(hb:jS X body F):SV X (.While c body [] pos) (BG m ga F):=by
 obtain ⟨tc,pc,kc⟩:=hc
 obtain ⟨tb,pb,kb⟩:=hb
 refine ⟨_,b23 hp pc pb,λO B σ H env fl ai D R e q=>?_⟩
 refine ⟨λn iH H1=>∃bN,Rel X.K O B iH H1 bN/\Gd σ env H iH bN H1/\qG ga F n bN=some (fl,ai),⟨m env,env,R,Gd.refl (aq.refl _),e⟩,?_⟩
 rintro n iH H1 ⟨bN,R1,g1,e1⟩
 cases n with
 | zero=>cases e1
 | succ n =>
  rw [qG] at e1
  cases h:ga bN with
  | none=>rw [h] at e1;cases e1
  | some x =>
   rw [h] at e1
   refine kc O B iH H1 bN x _ R1 h λH2 s2=>?_
   cases x with
   | false =>
    rw [if_neg my]
    cases e1
    exact q iH H2 (R1.grow s2) (g1.trans (Gd.refl s2))
   | true =>
    rw [if_pos rfl]
    refine ⟨λaD H'=>∃bq,Rel X.K O B aD H' bq/\Gd σ env H aD bq H'/\qG ga F n bq=some (fl,ai),λaD H' ⟨bq,a1,a2,a3⟩=>⟨n,vi n,bq,a1,a2,a3⟩,?_⟩
    dsimp only at e1
    cases hF:F bN with
    | none=>rw [hF] at e1;cases e1
    | some y =>
     obtain ⟨f2,bq⟩:=y
     rw [hF] at e1
     have go:=g1.trans (Gd.refl s2)
     refine kb O B iH H2 bN f2 bq _ (R1.grow s2) hF ?_
     cases f2 with
     | nx=>exact λcY H3 R2 g2=>⟨bq,R2,go.trans g2,e1⟩
     | ct=>exact λcY H3 R2 g2=>⟨bq,R2,go.trans g2,e1⟩
     | bk=>cases e1;exact λcY H3 R2 g2=>q cY H3 R2 (go.trans g2)
     | rt r=>cases e1;exact q
end
noncomputable def mP(K:aA)(n:Nat)(φ:List D->Option Sl):Sp:=λvs H Q _=>∃(O:Addr->Prop) (ds:List D) (r:Sl),oS K O H/\aK K O H vs ds/\vs.length=n/\φ ds=some r /\
 ∀v H',aq H H'->Res K O H H' v r->Q v H'
noncomputable def n0(N:Nat)(ds:List D):En:=ds.map Sl.sh++jn (N-ds.length) Sl.no
noncomputable def aF(F:SF)(N:Nat)(ds:List D):Option Sl:=match F (n0 N ds) with
 | some (.rt r,_)=>some r
 | some (.nx,_)=>some (.sh .aR)
 | _=>none
theorem Ru{K:aA}{O:Addr->Prop}{H:Hp}{N:List Str}{vs:List V}{ds:List D}(hO:oS K O H)(h:aK K O H vs ds):Rel K O H (start N vs) H (n0 N.length ds):=by
 have hl:=h.length
 have qV:∀(i:Nat) (s:Sl),(n0 N.length ds)[i]?=some s->s.own->False:=λi s e1 o=>by
  unfold n0 at e1
  rw [Ov] at e1
  split at e1
  .rw [rJ] at e1
   obtain ⟨d,_,e⟩:=map_some e1
   cases e
   exact o
  .rw [Er] at e1
   split at e1
   .cases e1;exact o
   .cases e1
 have no:∀p,¬km (start N vs) (n0 N.length ds) p:=λp ⟨i,es,e1,o,_⟩=>qV i es e1 o
 refine ⟨aq.refl _,hO,?_,λi d e=>?_,λi es e=>(qV i _ e trivial).elim,λi es e=>(qV i _ e trivial).elim,λi j es fs p e _ _ _ o _=>(qV i _ e o).elim⟩
 .simp [L2.start,n0,hl]
 .unfold n0 at e
  rw [Ov] at e
  split at e
  .rename_i hi
   rw [bB] at hi
   rw [rJ] at e
   obtain ⟨d',e1,e2⟩:=map_some e
   cases e2
   obtain ⟨x,hx,hd⟩:=h.get e1
   refine ⟨x,?_,hd.less λq z=>z.elim id λz=>(no q z).elim⟩
   unfold L2.start
   rw [vw (by rw [bB,hl];exact hi),rJ,hx]
   rfl
  .rw [Er] at e
   split at e
   .cases e
   .cases e
section
variable {P:Program}{w:World}{K:aA}{mg:Str->Option Value}{base:Heap}
theorem Ik{x qual:Str}{st:Stmt}{f:Addr}{fd:FuncData}{N ps:List Str}{k:Nat}{F:SF}(Fn:sy K x qual st f fd)(S:cW N ps (eN st))
  (bE:∀(du:Value) (A:Around) (outer:List Env) (s:Shared) (H:Hp) (E:XK),bp k (A.deeper (envOfC qual (eN st) s.heap.objs.size f du)) ->
   jS (kO iN P w K mg base N qual (eN st) f du A outer s H E).gh (iC st) F):bS P w K mg base iN (k+1) f fd ps (mP K ps.length (aF F N.length)):=by
 refine Fn.ok S (λvs H Q E h=>?_) (λdu A outer s H vs Q E hr h=>?_)
 .obtain ⟨O,ds,r,_,_,hl,_⟩:=h
  exact hl
 obtain ⟨O,ds,r,hO,hi,hl,e,q⟩:=h
 obtain ⟨t,p,kk⟩:=bE du A outer s H E hr
 refine ⟨t,p,?_⟩
 unfold aF at e
 cases hF:F (n0 N.length ds) with
 | none=>rw [hF] at e;cases e
 | some y =>
  obtain ⟨fl,ai⟩:=y
  rw [hF] at e
  refine kk O H (start N vs) H (n0 N.length ds) fl ai _ (Ru hO hi) hF ?_
  cases fl with
  | nx=>cases e;exact λaD H' R' _=>q .aR H' R'.same Is.aR
  | bk=>cases e
  | ct=>cases e
  | rt r=>cases e;exact λv H' s h=>q v H' s h
end
section
variable {X:Cx}{k:Nat}{f:Addr}{fd:FuncData}{ps:List Str}{φ:List D->Option Sl}{x:Str}{p pos:Pos}{e:Expr}{es:List Expr}{fs:En->Option (List D)}
noncomputable def aN(n:Nat)(φ:List D->Option Sl)(fs:En->Option (List D)):En->Option Sl:=λenv=>(fs env).bind λds=>if ds.length=n then φ ds else none
theorem b2f(ka:∀(O:Addr->Prop) (B:Hp) (σ:L2.St) (H:Hp) (env:En) (ds:List D) (Q:List V->Hp->Prop),Rel X.K O B σ H env->fs env=some ds->(∀vs H',aq H H'->aK X.K (OO O σ env) H' vs ds->Q vs H')->t σ H Q)
  (O:Addr->Prop)(B:Hp)(σ:L2.St)(H:Hp)(env:En)(r:Sl)(Q:VK)(R:Rel X.K O B σ H env)(e:aN n φ fs env=some r)(q:∀v H',aq H H'->Res X.K (OO O σ env) H H' v r->Q v H'):Pb (mP X.K n φ) [] E t σ H Q:=by
 obtain ⟨ds,e1,e2⟩:=bind_some e
 refine ka O B σ H env ds _ R e1 λvs H1 s1 r1=>?_
 by_cases hn:ds.length=n
 .rw [if_pos hn] at e2
  rw [nT]
  refine ⟨OO O σ env,ds,r,(R.grow s1).dm,r1,by rw [r1.length,hn],e2,λv H2 s2 r2=>q v H2 (s1.trans s2) (r2.from s1)⟩
 .rw [if_neg hn] at e2;cases e2
theorem b6h(F:bS X.prog X.w X.K X.mg X.base iN k f fd ps (mP X.K ps.length φ))(hr:bp k X.A)(hg:Gl X x)(hm:X.mg x=some (.ref f))(hk:vn X.K (.ref f)=true)(hb:Binds X.K fd ps [])
  (ha:AV X (e::es) fs)(kH:(x==("__debug__":Str))=false:=by decide)(he:starEach (e::es) X.env=(false,eval e X.env)::starEach es X.env:=by rfl)(dQ:(backTo pos (starEach es X.env)).any (·.1)=false:=by rfl):
  EV X (.Call (.Name x p) (e::es) [] pos) (aN ps.length φ fs):=by
 obtain ⟨t,pt,ka⟩:=ha
 exact ⟨_,b5M F hr hg hm hk hb .nil yS pt kH he dQ,λO B σ H env r Q R e q=>b2f ka O B σ H env r Q R e q⟩
end
noncomputable def spT(K:aA):Sp:=λvs H Q _=>∃(a:Addr) (ns:List Int),vs=[.ref a]/\dX K H a (ns.map V.int)/\ns.length<=63/\Tb K H/\∀H',aq H H'->Q (.bl true) H'
theorem b8c{P:Program}{w:World}{K:aA}{mg:Str->Option Value}{base:Heap}{k:Nat}{f:Addr}{fd:FuncData}{φ:List D->Option Sl}(F:bS P w K mg base iN k f fd ["script"] (mP K 1 φ))
  (h:∀ns:List Int,ns.length<=63->φ [.lst true (ns.map D.int)]=some (Sl.sh (.bl true))):bS P w K mg base iN k f fd ["script"] (spT K):=by
 refine F.imp λvs H Q E q=>?_
 obtain ⟨a,ns,rfl,hs,hl,tb,q⟩:=q
 refine ⟨λ_=>False,[.lst true (ns.map D.int)],_,⟨λ_ z=>z.elim,tb⟩,.cons ?_ .nil,rfl,h ns hl,λv H' sm r=>?_⟩
 .rcases hs with hs | hs
  .exact .lZ id hs (aK.ints ns)
  .exact .l7 (.inr hs) (aK.ints ns)
 .have r':Is K (λ_=>False) H' v (.bl true):=r
  rw [rT r']
  exact q H' sm
theorem xU{l:Jf}{q:Program}{loose:List Str}{XP:(Str->Option Value)->Heap->Prop}{YP:World->Heap->Prop}{d:DefRec}{K:Params->aA}{k:Nat}(hk:bp k callerA)(hn:l.most=some 63)(Ah:d.params.defaults=[])
  {ts:List Addr}(hY:∀(w:World) (h:Heap),YP w h->(K w.params).In h/\∀P∈ts,h.get? P=some (wM #[]))(hL:∀w:World,EA (K w.params) ts=true)
  (F:∀(w:World) (mg:Str->Option Value) (fa:Addr) (h:Heap),(K w.params).In h->h.Ns mainGlobals mg->mg d.name=some (.ref fa) ->
   ∃fd:FuncData,(∀(s:Shared) (u:Value),BindsTo s fd ⟨[u],[]⟩ [("script",u)])/\∀base:Heap,(K w.params).In base->base.Ns mainGlobals mg->bS l.prog w (K w.params) mg base iN k fa fd ["script"] (spT (K w.params))):
  PySem.W.WalkO q loose XP YP l.row.toRowW d [] (λf vs=>IL f vs):=
 L2.qH (n:=63) (k:=k) (x:="script") (CX:=λ_=>iN) (sp:=λw=>spT (K w.params)) hn (by decide) Ah hk hY hL F (λw _ a ns hl tb hS=>⟨a,ns,rfl,hS,hl,tb,λ_ sm=>⟨rfl,tb.grow sm⟩⟩) λ_ _ _ _ _ z=>z
section
variable {X:Cx}{a:Expr}{pos p p2:Pos}{fa:En->Option Sl}
def zr(K:aA)(T:String)(x:V)(H:Hp)(b:Bool):Prop:=match x with
 | .aR=>b=false
 | .bl _=>b=(T == "bool" || T == "int")
 | .int _=>b=(T == "int")
 | .str _=>b=(T == "str")
 | .ref p=>(b=(T == "list")/\∃xs,dX K H p xs)\/(b=(T == "tuple")/\∃xs,eJ K H p xs)
 | _=>False
theorem b35(hT:T = "int" \/ T = "bool" \/ T = "str" \/ T = "list" \/ T = "tuple"):
  cK X (.builtin "isinstance") (λxs H Q=>∃x b,xs=[x,.ty T]/\zr X.K T x H b/\Q (.bl b) H):=by
 intro pins s σ H xs us Q I r h
 obtain ⟨x,b,rfl,hx,q⟩:=h
 obtain ⟨u,w',rfl,r1,r2⟩:=vals2 r
 obtain rfl:w'=tx T:=r2
 have yes:∀{Tx:String},s.TypeIs u Tx->isSubtype (.type Tx) (.type T)=pure true->typeOf (.type T)=pure (.type "type")->Q (.bl true) H->wpAny (model X.prog X.w) X.A (call (.builtin "isinstance") [u,.type T]) (EP X pins σ Q) X.xe s:=λh1 h2 h3 hq =>
  vq (isinstance_true h3 h2) ⟨h1,⟨.bl true,H,I,rfl,hq⟩⟩
 have fin:Q (.bl false) H->EP X pins σ Q (.bool false) { s with toks:=s.toks+1 }:=λhq=>⟨.bl false,H,I.tok _,rfl,hq⟩
 have ty:typeOf (.type T)=pure (.type "type"):=by rcases hT with rfl | rfl | rfl | rfl | rfl<;>rfl
 cases x with
 | aR =>
  obtain rfl:u=fW:=r1
  obtain rfl:b=false:=hx
  refine vq (isinstance_false_none ?_ ty ?_) (fin q)
  .rcases hT with rfl | rfl | rfl | rfl | rfl<;>decide +kernel
  .rcases hT with rfl | rfl | rfl | rfl | rfl<;>rfl
 | bl k =>
  obtain rfl:u=jH k:=r1
  rcases hT with rfl | rfl | rfl | rfl | rfl
  .obtain rfl:b=true:=hx
   exact yes (Tx:="bool") rfl rfl ty q
  .obtain rfl:b=true:=hx
   exact yes (Tx:="bool") rfl rfl ty q
  all_goals
   obtain rfl:b=false:=hx
   exact vq (isinstance_false_bool (by decide +kernel) ty (by rfl)) (fin q)
 | int i =>
  obtain ⟨t,rfl⟩:=r1
  rcases hT with rfl | rfl | rfl | rfl | rfl
  .obtain rfl:b=true:=hx
   exact yes (Tx:="int") (typeIs_int s i t) rfl ty q
  all_goals
   obtain rfl:b=false:=hx
   exact vq (isinstance_false_int (by decide +kernel) ty (by rfl)) (fin q)
 | str z =>
  obtain ⟨t,rfl⟩:=r1
  rcases hT with rfl | rfl | rfl | rfl | rfl
  rotate_left 2
  .obtain rfl:b=true:=hx
   exact yes (Tx:="str") (typeIs_str s z t) rfl ty q
  all_goals
   obtain rfl:b=false:=hx
   exact vq (isinstance_false_str (by decide +kernel) ty (by rfl)) (fin q)
 | ref l =>
  cases r1
  rcases hx with ⟨rfl,xs,hq⟩ | ⟨rfl,xs,hq⟩
  .obtain ⟨ao,_,pl,_⟩:=I.list hq
   have uE:=pl.isList.typeIs
   obtain ⟨o,n,e,c,_,_⟩:=pl
   rcases hT with rfl | rfl | rfl | rfl | rfl
   rotate_left 3
   .exact yes (Tx:="list") uE rfl ty q
   all_goals exact vq (isinstance_false_list (by decide +kernel) ty (by rfl)) ⟨⟨o,e,c⟩,fin q⟩
  .obtain ⟨ao,_,pl,_⟩:=I.tuple hq
   have uE:=pl.typeIs
   obtain ⟨o,e,c,_⟩:=pl
   rcases hT with rfl | rfl | rfl | rfl | rfl
   rotate_left 4
   .exact yes (Tx:="tuple") uE rfl ty q
   all_goals exact vq (isinstance_false_tuple (by decide +kernel) ty (by rfl)) ⟨⟨o,e,c⟩,fin q⟩
 | _=>exact iI hx
noncomputable def bj(T:String):D->Bool
 | .aR=>false
 | .bl _=>(T == "bool" || T == "int")
 | .int _=>(T == "int")
 | .str _=>(T == "str")
 | .tup _=>(T == "tuple")
 | .lst _ _=>(T == "list")
 | .exc _=>false
 | .fy _ _=>false
noncomputable def D.isExc:D->Bool
 | .exc _=>true
 | .fy _ _=>true
 | _=>false
noncomputable def jv(T:String)(d:D):Option Sl:=if d.isExc=true then none else some (.sh (.bl (bj T d)))
theorem b8k{K:aA}{O:Addr->Prop}{H:Hp}{T:String}{v:V}{d:D}(h:Is K O H v d)(ne:d.isExc=false):zr K T v H (bj T d):=by
 cases h with
 | aR=>rfl
 | bl b=>rfl
 | int i=>rfl
 | str x=>rfl
 | tup ho hp hs=>exact .inr ⟨rfl,_,.inl hp⟩
 | nL hp hs=>exact .inr ⟨rfl,_,B1 hp⟩
 | lst ho hp hs=>exact .inl ⟨rfl,_,.inl (.inl hp)⟩
 | lZ ho hp hs=>exact .inl ⟨rfl,_,.inl hp⟩
 | l7 hp hs=>exact .inl ⟨rfl,_,B0 hp⟩
 | exc ho hn hp=>cases ne
 | fy ho hp=>cases ne
 | rz ho hp=>cases ne
noncomputable def jD(T:String)(f:En->Option Sl):En->Option Sl:=λenv=>(f env).bind λr=>jv T r.d
theorem vK(hT:T = "int" \/ T = "bool" \/ T = "str" \/ T = "list" \/ T = "tuple")(hg:Gl X "isinstance")(hm:X.mg "isinstance" = none)(wx:Gl X x)(Hu:X.mg x=none)(hv:bootBuiltins x=some (.type T))(ha:EV X a fa)
  (hn:x ≠ "__name__":=by decide)(hd:(x==("__debug__":Str))=false:=by decide)
  (hs:starEach [a,.Name x p2] X.env=[(false,eval a X.env),(false,eval (.Name x p2) X.env)]:=by rfl)(ig:starEach [.Name x p2] X.env=[(false,eval (.Name x p2) X.env)]:=by rfl):
  EV X (.Call (.Name "isinstance" p) [a,.Name x p2] [] pos) (jD T fa):=by
 obtain ⟨t,pt,k⟩:=ha
 refine ⟨_,vQ (b35 hT) hg hm (by decide +kernel) (pV pt (pV (b5N (v:=.ty T) wx Hu hv rfl hn hd) qz ig) (by rw [hs,ig])) (by decide) (by decide) (by rw [hs,ig]) (by rw [ig];rfl),λO B σ H env s Q R e q=>?_⟩
 obtain ⟨r,e1,e2⟩:=bind_some e
 unfold jv at e2
 split at e2
 .cases e2
 .rename_i ne
  cases e2
  exact k O B σ H env r _ R e1 λv H1 s1 r1=>⟨v,_,rfl,b8k (r1.is λq=>R.oo) (by simpa using ne),q _ H1 s1 (Is.bl _)⟩
end
section
variable {X:Cx}{a b c e:Expr}{fa fb:En->Option Sl}{pos:Pos}
noncomputable def kq(i:Nat)(f:En->Option Sl):SF:=λenv=>match env[i]? with
 | some (.ow ds)=>(f env).bind λr=>match r.d with
  | .lst false es=>if ds.length+es.length<=16777216 then some (.nx,env.set i (.ow (ds++es))) else none
  | _=>none
 | _=>none
theorem b00{i:Nat}{x:Str}{p1 p2 aS:Pos}(ha:EV X e fa)(hN:X.N[i]?=some x:=by rfl)(hv:gU X.env.scope x:=by first | exact bO rfl | exact aW (bO rfl) | exact aW (aW rfl))(hd:(x==("__debug__":Str))=false:=by decide)
  (cI:(x==("__classdict__":Str))=false:=by decide)(hs:starEach [e] X.env=[(false,eval e X.env)]:=by rfl)
  (cJ:attributeBase (.Name x p1) "extend" X.env (eval (.Name x p1) X.env)=eval (.Name x p1) X.env:=by rfl)
  (il:((backTo aS (starEach [e] X.env)).all (λx=>!x.1)&&(backToKw aS (keywordEach [] X.env)).all (λx=>x.1.isSome)
   && decide ([e].length+([]:List Keyword).length+(if ([]:List Keyword).isEmpty then 0 else 1)<30))=true:=by rfl)
  (cH:(p2.endLine==aS.line)=true:=by rfl)
  (qZ:swapsWith (.Call (.Attribute (.Name x p1) "extend" p2) [e] [] aS) none pos.line X.env=pure false:=by rfl):
  SV X (.Expr (.Call (.Attribute (.Name x p1) "extend" p2) [e] [] aS) pos) (kq i fa):=by
 obtain ⟨t,p,k⟩:=ha
 refine ⟨_,Qb (O6 Js OB PySem.F.type_list_extend b1r (rY hN hv hd cI) (pV p qz hs) cJ il cH hs rfl) qZ,λO B σ H env fl ai D R e q=>?_⟩
 unfold kq at e
 cases h:env[i]? with
 | none=>rw [h] at e;cases e
 | some s =>
  rw [h] at e
  cases s with
  | no=>cases e
  | sh d=>cases e
  | dw ds=>cases e
  | ow ds =>
   obtain ⟨r,e1,e2⟩:=bind_some e
   obtain ⟨l,xs,f1,f2,f3,f4⟩:=R.ow i ds h
   refine ⟨_,f1,.inl ⟨rfl,_,dX.of f3⟩,?_⟩
   refine k O B σ H env r _ R e1 λv H1 s1 r1=>?_
   have hi:=r1.is λq=>R.oo
   cases hd:r.d with
   | lst ro es =>
    rw [hd] at hi e2
    cases ro with
    | true=>cases e2
    | false =>
     obtain ⟨hl,e3⟩:=iM (show (if ds.length+es.length<=16777216 then some (Fl.nx,env.set i (.ow (ds++es))) else none)=some (fl,ai) from e2)
     cases e3
     obtain ⟨b,zs,rfl,hb,g1,g2⟩:=J6 hi
     refine ⟨l,b,xs,zs,rfl,rfl,s1 _ _ f3,g1,by rw [f4.length,g2.length,iY];exact hl,?_⟩
     obtain ⟨R',g'⟩:=(R.grow s1).wr h f1 ((f4.grow s1).append g2)
     exact q _ _ R' (g'.from s1)
   | _=>rw [hd] at e2;cases e2
noncomputable def lX(i j:Nat):SF:=λenv=>match env[j]? with
 | some (.ow ds)=>(ds[ds.length-1]?).bind λd=>if i<env.length/\i≠j then some (.nx,(env.set j (.ow ds.dropLast)).set i (.sh d)) else none
 | _=>none
theorem b0Y{i j:Nat}{x y:Str}{pos' p1 p2 aS:Pos}(hN:X.N.Nodup)(hi:X.N[i]?=some x)(hx:Loc X.env.scope x)
  (HW:X.N[j]?=some y:=by rfl)(hv:gU X.env.scope y:=by first | exact bO rfl | exact aW (bO rfl) | exact aW (aW rfl))(hd:(y==("__debug__":Str))=false:=by decide)
  (cI:(y==("__classdict__":Str))=false:=by decide)
  (cJ:attributeBase (.Name y p1) "pop" X.env (eval (.Name y p1) X.env)=eval (.Name y p1) X.env:=by rfl)
  (cH:(p2.endLine==aS.line)=true:=by rfl)
  (hs:swapsWith (.Call (.Attribute (.Name y p1) "pop" p2) [] [] aS) (some (.Name x pos')) pos.line X.env=pure false:=by rfl)(hf:X.fn x=true\/X.env.scope.names.lookup x=some .local:=by first | exact .inl rfl | exact .inr rfl | assumption):
  SV X (.Assign [.Name x pos'] (.Call (.Attribute (.Name y p1) "pop" p2) [] [] aS) pos) (lX i j):=by
 refine ⟨_,J2 hN hi hx (b7X Js N8 PySem.F.type_list_pop b76 (rY HW hv hd cI) cJ cH) hs hf,λO B σ H env fl ai D R e q=>?_⟩
 unfold lX at e
 cases h:env[j]? with
 | none=>rw [h] at e;cases e
 | some s =>
  rw [h] at e
  cases s with
  | no=>cases e
  | sh d=>cases e
  | dw ds=>cases e
  | ow ds =>
   obtain ⟨d,e1,e2⟩:=bind_some e
   obtain ⟨⟨hl,cR⟩,e3⟩:=RA e2
   cases e3
   obtain ⟨l,xs,f1,f2,f3,f4⟩:=R.ow j ds h
   obtain ⟨v,zD,He⟩:=f4.get e1
   obtain ⟨R',g'⟩:=R.wr h f1 f4.dropLast
   refine ⟨_,f1,.inl ⟨rfl,_,dX.of f3⟩,l,xs,v,rfl,rfl,f3,by rw [f4.length];exact zD,?_⟩
   have Hd:aK X.K (OO O σ (env.set j (.ow ds.dropLast))) (upd H l (.lst xs.dropLast)) [v] [d]:=g'.C' (.cons He .nil)
   cases Hd with
   | cons Hd _ =>
    obtain ⟨R2,g2⟩:=R'.set (r:=.sh d) (i:=i) (aq.refl _) Hd (by simp;exact hl)
    exact q _ _ R2 (g'.trans g2)
noncomputable def wZ(i:Nat)(f g:En->Option Sl):SF:=λenv=>match env[i]? with
 | some (.ow ds)=>(f env).bind λr=>(g env).bind λk=>match k.d with
  | .int n=>(jg ds.length n).bind λj=>some (.nx,env.set i (.ow (ds.set j r.d)))
  | _=>none
 | _=>none
theorem b5r{i:Nat}{x:Str}{p1 p2:Pos}(ha:EV X e fa)(hb:EV X b fb)(hN:X.N[i]?=some x:=by rfl)(hv:gU X.env.scope x:=by first | exact bO rfl | exact aW (bO rfl) | exact aW (aW rfl))(hd:(x==("__debug__":Str))=false:=by decide)
  (cI:(x==("__classdict__":Str))=false:=by decide)
  (jw:∀v,assign (.Subscript (.Name x p1) b p2) X.env v=(do
   let ov <-holding [v] (eval (.Name x p1) X.env)
   let iv <-holding [v,ov] (eval b X.env)
   standAt p2
   holding [v,ov,iv] (setItem ov iv v)
   release [v,ov,iv] []):=by intro _;rfl)
  (hs:swapsWithSole [.Subscript (.Name x p1) b p2] e pos.line X.env=pure false:=by rfl)(hw:swappedStores [.Subscript (.Name x p1) b p2] e X.env=pure none:=by rfl)
  (h1:(assignEach [.Subscript (.Name x p1) b p2] X.env).map (·.2)=[assign (.Subscript (.Name x p1) b p2) X.env]:=by rfl):
  SV X (.Assign [.Subscript (.Name x p1) b p2] e pos) (wZ i fa fb):=by
 obtain ⟨t,p,k⟩:=ha
 obtain ⟨t',p',k'⟩:=hb
 refine ⟨_,Pr p (b7Q (rY hN hv hd cI) p' QN jw) hs hw h1,λO B σ H env fl ai D R e q=>?_⟩
 unfold wZ at e
 cases h:env[i]? with
 | none=>rw [h] at e;cases e
 | some s =>
  rw [h] at e
  cases s with
  | no=>cases e
  | sh d=>cases e
  | dw ds=>cases e
  | ow ds =>
   obtain ⟨r,e1,e2⟩:=bind_some e
   obtain ⟨kk,e2,e3⟩:=bind_some e2
   obtain ⟨l,xs,f1,f2,f3,f4⟩:=R.ow i ds h
   refine k O B σ H env r _ R e1 λv H1 s1 r1=>⟨_,f1,?_⟩
   refine k' O B σ H1 env kk _ (R.grow s1) e2 λw H2 s2 r2=>?_
   have hi:=r2.is λq=>(R.grow s1).oo
   cases hd:kk.d with
   | int n =>
    rw [hd] at hi e3
    obtain rfl:=fH hi
    obtain ⟨j,e4,e5⟩:=bind_some (show (jg ds.length n).bind (λj=>some (Fl.nx,env.set i (.ow (ds.set j r.d))))=some (fl,ai) from e3)
    cases e5
    have gJ:=s1.trans s2
    refine ⟨l,xs,n,j,rfl,rfl,gJ _ _ f3,by rw [f4.length];exact e4,?_⟩
    obtain ⟨R',g'⟩:=(R.grow gJ).wr h f1 ((f4.grow gJ).set ((r1.is λq=>R.oo).grow s2) j)
    exact q _ _ R' (g'.from gJ)
   | _=>rw [hd] at e3;cases e3
def PP(X:Cx)(e:Option Expr)(f:En->Option (Option Int)):Prop:=
 ∃t:TO,PO X e t/\∀(O:Addr->Prop) (B:Hp) (σ:L2.St) (H:Hp) (env:En) (o:Option Int) (Q:Option Int->Hp->Prop),Rel X.K O B σ H env->f env=some o->(∀H',aq H H'->Q o H')->t σ H Q
noncomputable def kD:En->Option (Option Int):=λ_=>some none
noncomputable def jV(f:En->Option Sl):En->Option (Option Int):=λenv=>(f env).bind λr=>match r.d with
 | .int i=>some (some i)
 | _=>none
theorem n8:PP X none kD:=⟨_,b5G,λO B σ H env o Q R e q=>by
 obtain rfl:=dq e
 exact q H (aq.refl _)⟩
theorem n9(h:EV X e fa):PP X (some e) (jV fa):=by
 obtain ⟨t,p,k⟩:=h
 refine ⟨_,b5F p,λO B σ H env o Q R e q=>?_⟩
 obtain ⟨r,e1,e2⟩:=bind_some e
 refine k O B σ H env r _ R e1 λv H1 s1 r1=>?_
 have hi:=r1.is λq=>R.oo
 cases hd:r.d with
 | int i =>
  rw [hd] at hi e2
  obtain rfl:=dq e2
  exact ⟨i,fH hi,q H1 s1⟩
 | _=>rw [hd] at e2;cases e2
noncomputable def cutD(xs:List D)(lo hi:Option Int):List D:=(xs.drop (HT.be xs.length 0 lo)).take (HT.be xs.length xs.length hi-HT.be xs.length 0 lo)
theorem aK.cut{K:aA}{O:Addr->Prop}{H:Hp}{xs:List V}{ds:List D}(h:aK K O H xs ds)(lo hi:Option Int):aK K O H (kP xs lo hi) (cutD ds lo hi):=by
 unfold kP cutD
 rw [h.length]
 exact (h.drop _).take _
noncomputable def kJ(f:En->Option (Bool×List D))(lo hi:En->Option (Option Int)):En->Option Sl:=λenv=>(f env).bind λx=>(lo env).bind λl=>(hi env).bind λh =>
 if x.1=true then some (.ow (cutD x.2 l h)) else if ¬(HT.be x.2.length 0 l=0/\HT.be x.2.length x.2.length h=x.2.length) then some (.sh (.tup (cutD x.2 l h))) else none
theorem oR{ba:En->Option (Bool×List D)}{lo hi:Option Expr}{fl fh:En->Option (Option Int)}{p2:Pos}(ha:BV X a ba)(hl:PP X lo fl)(hh:PP X hi fh):EV X (.Subscript a (.Slice lo hi none p2) pos) (kJ ba fl fh):=by
 obtain ⟨t,p,k⟩:=ha
 obtain ⟨tl,pl,kl⟩:=hl
 obtain ⟨th,ph,kh⟩:=hh
 refine ⟨_,QJ (qN.or Pz) p pl ph,λO B σ H env r Q R e q=>?_⟩
 obtain ⟨⟨kk,ds⟩,e1,e2⟩:=bind_some e
 obtain ⟨l,e2,e3⟩:=bind_some e2
 obtain ⟨h,e3,e4⟩:=bind_some e3
 refine k O B σ H env kk ds _ R e1 λpp xs H1 s1 hq hx=>?_
 refine kl O B σ H1 env l _ (R.grow s1) e2 λH2 s2=>?_
 refine kh O B σ H2 env h _ ((R.grow s1).grow s2) e3 λH3 s3=>?_
 have gJ:=s1.trans (s2.trans s3)
 have c8:=hq.grow (s2.trans s3)
 have jX:=hx.grow (s2.trans s3)
 dsimp only at e4
 cases kk with
 | true =>
  rw [if_pos rfl] at e4
  obtain rfl:=dq e4
  exact .inl ⟨pp,xs,rfl,c8,λp hp=>q _ _ (gJ.trans (lV hp _)) ((xo hp (jX.cut l h)).from gJ)⟩
 | false =>
  rw [if_neg my] at e4
  obtain ⟨hw,rfl⟩:=iM e4
  exact .inr ⟨pp,xs,rfl,c8,by rw [jX.length];exact hw,λp hp=>q _ _ (gJ.trans (lV hp _)) ((BM (O:=OO O σ env) (H:=H3) (λ_ z=>(R.grow gJ).oo z) hp (jX.cut l h)).from gJ)⟩
noncomputable def rp(f:En->Option Sl)(lo hi:En->Option (Option Int)):En->Option Sl:=λenv=>(f env).bind λx=>(lo env).bind λl=>(hi env).bind λh=>match x.d with
 | .tup ds=>some (.sh (.tup (cutD ds l h)))
 | _=>none
theorem b32(hw:HT.be ds.length 0 l=0/\HT.be ds.length ds.length h=ds.length):cutD ds l h=ds:=by
 unfold cutD
 rw [hw.1,hw.2]
 simp
theorem b1V{lo hi:Option Expr}{fl fh:En->Option (Option Int)}{p2:Pos}(ha:EV X a fa)(hl:PP X lo fl)(hh:PP X hi fh):EV X (.Subscript a (.Slice lo hi none p2) pos) (rp fa fl fh):=by
 obtain ⟨t,p,k⟩:=ha
 obtain ⟨tl,pl,kl⟩:=hl
 obtain ⟨th,ph,kh⟩:=hh
 refine ⟨_,QJ (ui.or Pz) p pl ph,λO B σ H env r Q R e q=>?_⟩
 obtain ⟨x,e1,e2⟩:=bind_some e
 obtain ⟨l,e2,e3⟩:=bind_some e2
 obtain ⟨h,e3,e4⟩:=bind_some e3
 refine k O B σ H env x _ R e1 λv H1 s1 r1=>?_
 refine kl O B σ H1 env l _ (R.grow s1) e2 λH2 s2=>?_
 refine kh O B σ H2 env h _ ((R.grow s1).grow s2) e3 λH3 s3=>?_
 have gJ:=s1.trans (s2.trans s3)
 have hi:=(r1.is λq=>R.oo).grow (s2.trans s3)
 cases hd:x.d with
 | tup ds =>
  rw [hd] at e4 hi
  obtain rfl:=dq (show some (Sl.sh (.tup (cutD ds l h)))=some r from e4)
  obtain ⟨pp,xs,rfl,hq,hx⟩:=w9 hi
  by_cases hw:HT.be ds.length 0 l=0/\HT.be ds.length ds.length h=ds.length
  .refine .inl ⟨pp,xs,rfl,hq,by rw [hx.length];exact hw,q _ _ gJ ?_⟩
   rw [b32 hw]
   exact hi
  .exact .inr ⟨pp,xs,rfl,hq,by rw [hx.length];exact hw,λp hp=>q _ _ (gJ.trans (lV hp _)) ((BM (O:=OO O σ env) (H:=H3) (λ_ z=>(R.grow gJ).oo z) hp (hx.cut l h)).from gJ)⟩
 | _=>rw [hd] at e4;cases e4
end
structure Def(K:aA)(mg:Str->Option Value)(x:Str)(st:Stmt)(ps:List Str)(f:Addr)(fd:FuncData):Prop where
 fn:sy K x x st f fd
 bd:Binds K fd ps []
 m:mg x=some (.ref f)
end DL
namespace DL
open PySem PySem.Spec PyProof.Rows L2
structure Fx(X:Cx)(N:List Str)(sc:Scope)(k:Nat)(full:Bool:=true):Prop where
 n:X.N=N
 sc:X.env.scope=sc
 calm:X.calm=true
 fn:full=true->∀x,X.fn x=true
 own:PassesOwn (model X.prog X.w) X.A X.env X.xe
 room:bp k X.A
 nd:N.Nodup
 top:full=true->X.stack=X.env::X.outer/\X.env.frame=some X.env.locals/\X.ex=[]
section
variable {X:Cx}{N:List Str}{sc:Scope}{k:Nat}{full:Bool}{pos p p1 p2 pos' aS:Pos}{e a b:Expr}{fa fb:En->Option Sl}
theorem Fx.qd(h:Fx X N sc k full)(hv:gU sc x):gU X.env.scope x:=by rw [h.sc];exact hv
theorem Fx.loc(h:Fx X N sc k full)(hv:Loc sc x):Loc X.env.scope x:=by rw [h.sc];exact hv
theorem Fx.ix(h:Fx X N sc k full){i:Nat}{x:Str}(hN:N[i]?=some x):X.N[i]?=some x:=by rw [h.n];exact hN
theorem Fx.sG(h:Fx X N sc k full)(hf:full=true\/sc.names.lookup x=some .local):X.fn x=true\/X.env.scope.names.lookup x=some .local:=hf.elim (λe=>.inl (h.fn e x)) λe=>.inr (by rw [h.sc];exact e)
theorem Fx.sJ(h:Fx X N sc k full):X.N.Nodup:=by rw [h.n];exact h.nd
theorem Fx.g(h:Fx X N sc k full)(hg:sc.names.lookup x=some .globalImplicit:=by rfl):Gl X x:=by
 show X.env.kindOf x=some .globalImplicit
 unfold DA
 rw [h.sc]
 exact hg
theorem Fx.v(h:Fx X N sc k full)(i:Nat)(hN:N[i]?=some x:=by rfl)(hv:gU sc x:=by first | exact bO rfl | exact aW (bO rfl) | exact aW (aW rfl))(hd:(x==("__debug__":Str))=false:=by rfl)
  (cI:(x==("__classdict__":Str))=false:=by rfl):EV X (.Name x pos) (eV i):=PM i (h.ix hN) (h.qd hv) hd cI
theorem Fx.bv(h:Fx X N sc k full)(i:Nat)(hN:N[i]?=some x:=by rfl)(hv:gU sc x:=by first | exact bO rfl | exact aW (bO rfl) | exact aW (aW rfl))(hd:(x==("__debug__":Str))=false:=by rfl)
  (cI:(x==("__classdict__":Str))=false:=by rfl):BV X (.Name x pos) (bV i):=b8L i (h.ix hN) (h.qd hv) hd cI
theorem Fx.tg(h:Fx X N sc k full)(i:Nat)(hN:N[i]?=some x:=by rfl)(hv:Loc sc x:=by first | exact bO rfl | exact aW rfl)(hf:full=true\/sc.names.lookup x=some .local:=by first | exact bO rfl | exact aW rfl):GV X (.Name x pos) (gN i):=b6c h.sJ (h.ix hN) (h.loc hv) (h.sG hf)
theorem Fx.set(h:Fx X N sc k full)(i:Nat)(he:EV X e fa)(hN:N[i]?=some x:=by rfl)(hv:Loc sc x:=by first | exact bO rfl | exact aW rfl)
  (hs:swapsWith e (some (.Name x pos')) pos.line X.env=pure false:=by rfl)(hf:full=true\/sc.names.lookup x=some .local:=by first | exact bO rfl | exact aW rfl):SV X (.Assign [.Name x pos'] e pos) (dP i fa):=PH h.sJ (h.ix hN) (h.loc hv) he hs (h.sG hf)
theorem Fx.aC(h:Fx X N sc k full)(i:Nat)(he:EV X e fa)(hN:N[i]?=some x:=by rfl)(hv:Loc sc x:=by first | exact bO rfl | exact aW rfl)
  (hs:swapsWith e (some (.Name x pos')) pos.line X.env=pure false:=by rfl)(hf:full=true\/sc.names.lookup x=some .local:=by first | exact bO rfl | exact aW rfl):SV X (.Assign [.Name x pos'] e pos) (bg i fa):=Qo h.sJ (h.ix hN) (h.loc hv) he hs (h.sG hf)
theorem Fx.l5(h:Fx X N sc k full)(i:Nat)(hN:N[i]?=some x:=by rfl)(hv:gU sc x:=by first | exact bO rfl | exact aW (bO rfl) | exact aW (aW rfl))(hd:(x==("__debug__":Str))=false:=by rfl)
  (cI:(x==("__classdict__":Str))=false:=by rfl):SV X (.Return (some (.Name x p2)) pos) (oN i):=b5q i (h.ix hN) (h.qd hv) hd cI
theorem Fx.app(h:Fx X N sc k full)(i:Nat)(ha:EV X e fa)(hN:N[i]?=some x:=by rfl)(hv:gU sc x:=by first | exact bO rfl | exact aW (bO rfl) | exact aW (aW rfl))(hd:(x==("__debug__":Str))=false:=by rfl)
  (cI:(x==("__classdict__":Str))=false:=by rfl)(hs:starEach [e] X.env=[(false,eval e X.env)]:=by rfl)
  (cJ:attributeBase (.Name x p1) "append" X.env (eval (.Name x p1) X.env)=eval (.Name x p1) X.env:=by rfl)
  (il:((backTo aS (starEach [e] X.env)).all (λx=>!x.1)&&(backToKw aS (keywordEach [] X.env)).all (λx=>x.1.isSome)
   && decide ([e].length+([]:List Keyword).length+(if ([]:List Keyword).isEmpty then 0 else 1)<30))=true:=by rfl)
  (cH:(p2.endLine==aS.line)=true:=by rfl)
  (qZ:swapsWith (.Call (.Attribute (.Name x p1) "append" p2) [e] [] aS) none pos.line X.env=pure false:=by rfl):
  SV X (.Expr (.Call (.Attribute (.Name x p1) "append" p2) [e] [] aS) pos) (dY i fa):=Rk ha (h.ix hN) (h.qd hv) hd cI hs cJ il cH qZ
theorem Fx.ext(h:Fx X N sc k full)(i:Nat)(ha:EV X e fa)(hN:N[i]?=some x:=by rfl)(hv:gU sc x:=by first | exact bO rfl | exact aW (bO rfl) | exact aW (aW rfl))(hd:(x==("__debug__":Str))=false:=by rfl)
  (cI:(x==("__classdict__":Str))=false:=by rfl)(hs:starEach [e] X.env=[(false,eval e X.env)]:=by rfl)
  (cJ:attributeBase (.Name x p1) "extend" X.env (eval (.Name x p1) X.env)=eval (.Name x p1) X.env:=by rfl)
  (il:((backTo aS (starEach [e] X.env)).all (λx=>!x.1)&&(backToKw aS (keywordEach [] X.env)).all (λx=>x.1.isSome)
   && decide ([e].length+([]:List Keyword).length+(if ([]:List Keyword).isEmpty then 0 else 1)<30))=true:=by rfl)
  (cH:(p2.endLine==aS.line)=true:=by rfl)
  (qZ:swapsWith (.Call (.Attribute (.Name x p1) "extend" p2) [e] [] aS) none pos.line X.env=pure false:=by rfl):
  SV X (.Expr (.Call (.Attribute (.Name x p1) "extend" p2) [e] [] aS) pos) (kq i fa):=b00 ha (h.ix hN) (h.qd hv) hd cI hs cJ il cH qZ
theorem Fx.pop(h:Fx X N sc k full)(i j:Nat){x y:Str}(hN:N[i]?=some x:=by rfl)(hx:Loc sc x:=by first | exact bO rfl | exact aW rfl)(HW:N[j]?=some y:=by rfl)(hv:gU sc y:=by first | exact bO rfl | exact aW (bO rfl) | exact aW (aW rfl))
  (hd:(y==("__debug__":Str))=false:=by rfl)(cI:(y==("__classdict__":Str))=false:=by rfl)
  (cJ:attributeBase (.Name y p1) "pop" X.env (eval (.Name y p1) X.env)=eval (.Name y p1) X.env:=by rfl)
  (cH:(p2.endLine==aS.line)=true:=by rfl)
  (hs:swapsWith (.Call (.Attribute (.Name y p1) "pop" p2) [] [] aS) (some (.Name x pos')) pos.line X.env=pure false:=by rfl)(hf:full=true\/sc.names.lookup x=some .local:=by first | exact bO rfl | exact aW rfl):
  SV X (.Assign [.Name x pos'] (.Call (.Attribute (.Name y p1) "pop" p2) [] [] aS) pos) (lX i j):=b0Y h.sJ (h.ix hN) (h.loc hx) (h.ix HW) (h.qd hv) hd cI cJ cH hs (h.sG hf)
theorem Fx.item(h:Fx X N sc k full)(i:Nat){x:Str}(ha:EV X e fa)(hb:EV X b fb)(hN:N[i]?=some x:=by rfl)(hv:gU sc x:=by first | exact bO rfl | exact aW (bO rfl) | exact aW (aW rfl))(hd:(x==("__debug__":Str))=false:=by rfl)
  (cI:(x==("__classdict__":Str))=false:=by rfl)
  (jw:∀v,assign (.Subscript (.Name x p1) b p2) X.env v=(do
   let ov <-holding [v] (eval (.Name x p1) X.env)
   let iv <-holding [v,ov] (eval b X.env)
   standAt p2
   holding [v,ov,iv] (setItem ov iv v)
   release [v,ov,iv] []):=by intro _;rfl)
  (hs:swapsWithSole [.Subscript (.Name x p1) b p2] e pos.line X.env=pure false:=by rfl)(hw:swappedStores [.Subscript (.Name x p1) b p2] e X.env=pure none:=by rfl)
  (h1:(assignEach [.Subscript (.Name x p1) b p2] X.env).map (·.2)=[assign (.Subscript (.Name x p1) b p2) X.env]:=by rfl):
  SV X (.Assign [.Subscript (.Name x p1) b p2] e pos) (wZ i fa fb):=b5r ha hb (h.ix hN) (h.qd hv) hd cI jw hs hw h1
end
theorem zg{us:List Value}(h:us.length=0):us=[]:=by
 exact Bb.mp h
theorem OZ{us:List Value}(h:us.length=1):∃a0,us=[a0]:=by
 cases us with
 | nil=>cases h
 | cons a r =>
  have:=zg (us:=r) (by simpa using h)
  exact ⟨a,by rw [this]⟩
theorem O0{us:List Value}(h:us.length=2):∃a0 a1,us=[a0,a1]:=by
 cases us with
 | nil=>cases h
 | cons a r =>
  have:=OZ (us:=r) (by simpa using h)
  obtain ⟨b0,e⟩:=this
  exact ⟨a,b0,by rw [e]⟩
theorem Pc{us:List Value}(h:us.length=3):∃a0 a1 a2,us=[a0,a1,a2]:=by
 cases us with
 | nil=>cases h
 | cons a r =>
  have:=O0 (us:=r) (by simpa using h)
  obtain ⟨b0,b1,e⟩:=this
  exact ⟨a,b0,b1,by rw [e]⟩
theorem zf{us:List Value}(h:us.length=4):∃a0 a1 a2 a3,us=[a0,a1,a2,a3]:=by
 cases us with
 | nil=>cases h
 | cons a r =>
  have:=Pc (us:=r) (by simpa using h)
  obtain ⟨b0,b1,b2,e⟩:=this
  exact ⟨a,b0,b1,b2,by rw [e]⟩
section
variable {P:Program}{w:World}{K:aA}{mg:Str->Option Value}{base:Heap}
theorem Ij{x qual:Str}{st:Stmt}{f:Addr}{fd:FuncData}{N ps:List Str}{k:Nat}{F:SF}(Fn:sy K x qual st f fd)(S:cW N ps (eN st))
  (bE:∀X:Cx,X.prog=P->X.w=w->X.K=K->X.mg=mg->X.base=base->Fx X N (eN st) k->jS X (iC st) F):bS P w K mg base iN (k+1) f fd ps (mP K ps.length (aF F N.length)):=
 Ik Fn S λdu A outer s H E hr=>bE _ rfl rfl rfl rfl rfl ⟨rfl,rfl,rfl,λ_ _=>rfl,A2,hr,S.nd,λ_=>⟨rfl,rfl,rfl⟩⟩
end
def Oz(P:Program)(w:World)(K:aA)(mg:Str->Option Value)(base:Heap)(x:Str)(st:Stmt)(ps:List Str)(j:Nat)(φ:List D->Option Sl):Prop:=∃f fd,Def K mg x st ps f fd/\bS P w K mg base iN j f fd ps (mP K ps.length φ)
inductive Sx:Cx->Program->World->aA->(Str->Option Value)->Heap->Prop
 | mk (X:Cx):Sx X X.prog X.w X.K X.mg X.base
theorem AA{P:Program}{w:World}{K:aA}{mg:Str->Option Value}{base:Heap}{x:Str}{st:Stmt}{f:Addr}{fd:FuncData}{N ps:List Str}{k:Nat}{F:SF}(D':Def K mg x st ps f fd)
  (bE:∀X:Cx,Sx X P w K mg base->Fx X N (eN st) k->jS X (iC st) F)(S:cW N ps (eN st):=by exact ⟨rfl,rfl,rfl,by decide +kernel,rfl,by decide +kernel,by decide +kernel⟩):bS P w K mg base iN (k+1) f fd ps (mP K ps.length (aF F N.length)):=
 Ij D'.fn S λX e1 e2 e3 e4 e5=>by subst e1 e2 e3 e4 e5;exact bE X (.mk X)
theorem aQ{P:Program}{w:World}{K:aA}{mg:Str->Option Value}{base:Heap}{x:Str}{st:Stmt}{f:Addr}{fd:FuncData}{N ps:List Str}{k:Nat}{F:SF}(D':Def K mg x st ps f fd)
  (bE:∀X:Cx,Sx X P w K mg base->Fx X N (eN st) k->jS X (iC st) F)(S:cW N ps (eN st):=by exact ⟨rfl,rfl,rfl,by decide +kernel,rfl,by decide +kernel,by decide +kernel⟩):Oz P w K mg base x st ps (k+1) (aF F N.length):=
 ⟨f,fd,D',AA D' bE S⟩
theorem gw{X X':Cx}{x:Str}{st:Stmt}{ps:List Str}{j:Nat}{φ:List D->Option Sl}(e1:X'.prog=X.prog)(e2:X'.w=X.w)(e3:X'.K=X.K)(e4:X'.mg=X.mg)(e5:X'.base=X.base)(O:Oz X.prog X.w X.K X.mg X.base x st ps j φ):Oz X'.prog X'.w X'.K X'.mg X'.base x st ps j φ:=by
 rw [e1,e2,e3,e4,e5];exact O
theorem Fx.cl{X:Cx}{N:List Str}{sc:Scope}{k j:Nat}{full:Bool}{x:Str}{st:Stmt}{ps:List Str}{φ:List D->Option Sl}{e:Expr}{es:List Expr}{fs:En->Option (List D)}{p pos:Pos}(h:Fx X N sc k full)(O:Oz X.prog X.w X.K X.mg X.base x st ps j φ)(ha:AV X (e::es) fs)(hj:j<=k:=by decide)(hg:sc.names.lookup x=some .globalImplicit:=by rfl)(kH:(x==("__debug__":Str))=false:=by decide)(he:starEach (e::es) X.env=(false,eval e X.env)::starEach es X.env:=by rfl)(dQ:(backTo pos (starEach es X.env)).any (·.1)=false:=by rfl):
  EV X (.Call (.Name x p) (e::es) [] pos) (aN ps.length φ fs):=by
 obtain ⟨f,fd,D',F⟩:=O
 exact b6h F (h.room.mono hj) (h.g hg) D'.m D'.fn.kp D'.bd ha kH he dQ
structure FI(K:aA)(n:Str)(t:Stmt)(f:Addr)(od an:Option Addr)(sl:Array (Option Value))(oc kV dc pm cd ct:Value):Prop where
 a:jY K mainGlobals n=some (some (.ref f))
 l:K.lookup f=some ⟨oc,od,.func (jZ n n (lS t) (iC t) (eN t) .none kV dc pm an cd ct),sl⟩
 c:DN K cd n=true
 k:vn K (.ref f)=true
section
variable {K:aA}{mg:Str->Option Value}{h:Heap}{n:Str}{t:Stmt}{f:Addr}{od an:Option Addr}{sl:Array (Option Value)}{oc kV dc pm cd ct:Value}{ps:List Str}
theorem C6(X:K.In h)(G:h.Ns mainGlobals mg)(i:FI K n t f od an sl oc kV dc pm cd ct)(hb:∀(kV doc pm:Value) (an:Option Addr) (du ct:Value) (us:List Value),us.length=ps.length->bindArgs (jZ n n (lS t) (iC t) (eN t) .none kV doc pm an du ct) ⟨us,[]⟩=pure (ps.zip us)):Def K mg n t ps f (jZ n n (lS t) (iC t) (eN t) .none kV dc pm an cd ct):=
 ⟨PQ i.l i.c i.k,(PQ i.l i.c i.k).binds hb,IH X G i.a⟩
theorem di(X:K.In h)(G:h.Ns mainGlobals mg)(i:FI K n t f od an sl oc kV dc pm cd ct)(hb:∀(kV doc pm:Value) (an:Option Addr) (du ct a0:Value),bindArgs (jZ n n (lS t) (iC t) (eN t) .none kV doc pm an du ct) ⟨[a0],[]⟩=pure (ps.zip [a0]):=by intros;rfl)(hl:ps.length=1:=by rfl):Def K mg n t ps f (jZ n n (lS t) (iC t) (eN t) .none kV dc pm an cd ct):=
 C6 X G i λ_ _ _ _ _ _ us hu=>by obtain ⟨_,rfl⟩:=OZ (hu.trans hl);exact hb ..
theorem cP(X:K.In h)(G:h.Ns mainGlobals mg)(i:FI K n t f od an sl oc kV dc pm cd ct)(hb:∀(kV doc pm:Value) (an:Option Addr) (du ct a0 a1:Value),bindArgs (jZ n n (lS t) (iC t) (eN t) .none kV doc pm an du ct) ⟨[a0,a1],[]⟩=pure (ps.zip [a0,a1]):=by intros;rfl)(hl:ps.length=2:=by rfl):Def K mg n t ps f (jZ n n (lS t) (iC t) (eN t) .none kV dc pm an cd ct):=
 C6 X G i λ_ _ _ _ _ _ us hu=>by obtain ⟨_,_,rfl⟩:=O0 (hu.trans hl);exact hb ..
theorem uy(X:K.In h)(G:h.Ns mainGlobals mg)(i:FI K n t f od an sl oc kV dc pm cd ct)(hb:∀(kV doc pm:Value) (an:Option Addr) (du ct a0 a1 a2:Value),bindArgs (jZ n n (lS t) (iC t) (eN t) .none kV doc pm an du ct) ⟨[a0,a1,a2],[]⟩=pure (ps.zip [a0,a1,a2]):=by intros;rfl)(hl:ps.length=3:=by rfl):Def K mg n t ps f (jZ n n (lS t) (iC t) (eN t) .none kV dc pm an cd ct):=
 C6 X G i λ_ _ _ _ _ _ us hu=>by obtain ⟨_,_,_,rfl⟩:=Pc (hu.trans hl);exact hb ..
theorem qX(X:K.In h)(G:h.Ns mainGlobals mg)(i:FI K n t f od an sl oc kV dc pm cd ct)(hb:∀(kV doc pm:Value) (an:Option Addr) (du ct a0 a1 a2 a3:Value),bindArgs (jZ n n (lS t) (iC t) (eN t) .none kV doc pm an du ct) ⟨[a0,a1,a2,a3],[]⟩=pure (ps.zip [a0,a1,a2,a3]):=by intros;rfl)(hl:ps.length=4:=by rfl):Def K mg n t ps f (jZ n n (lS t) (iC t) (eN t) .none kV dc pm an cd ct):=
 C6 X G i λ_ _ _ _ _ _ us hu=>by obtain ⟨_,_,_,_,rfl⟩:=zf (hu.trans hl);exact hb ..
end
end DL
namespace DL
open PySem L2
theorem b8o(i j:Int):c6 (.int i) (.int j)=some (.sh (.int (i-j))):=rfl
end DL
namespace DL
open PySem PySem.Spec PyProof.Rows L2
def xh(K:aA)(O:Addr->Prop)(J:It)(H:Hp)(ds:List D):Prop:=
 ∀(O':Addr->Prop) (H2:Hp),(∀q u,H q=some u->¬O q->H2 q=some u/\¬O' q)->(∀q,O' q->H2 q≠none) ->
  ∀i:Nat,(∀d,ds[i]?=some d->J.go i H2/\∀x H3,J.uc i H2 x H3->aq H2 H3/\Is K O' H3 x d)/\(ds.length<=i->J.stop i H2)
def IV(X:Cx)(tg it:Expr)(f:En->Option (List D)):Prop:=
 ∃wi:TI,PI X tg it wi/\∀(O:Addr->Prop) (B:Hp) (σ:L2.St) (H:Hp) (env:En) (ds:List D) (R:It->Hp->Prop),Rel X.K O B σ H env->f env=some ds ->
  (∀J H',aq H H'->xh X.K (OO O σ env) J H' ds->R J H')->wi σ H R
theorem KJ{K:aA}{O:Addr->Prop}{H H2:Hp}{k:Bool}{p:Addr}{xs:List V}(kp:∀q u,H q=some u->¬O q->H2 q=some u)(h:Sq K H k p xs)(hp:¬O p):Sq K H2 k p xs:=by
 cases k with
 | true =>
  rcases h with (h | ⟨o,h⟩) | h
  .exact .inl (.inl (kp _ _ h hp))
  .exact .inl (.inr ⟨o,kp _ _ h hp⟩)
  .exact .inr h
 | false =>
  rcases h with (h | ⟨o,h⟩) | h
  .exact .inl (.inl (kp _ _ h hp))
  .exact .inl (.inr ⟨o,kp _ _ h hp⟩)
  .exact .inr h
noncomputable def eW(f:En->Option Sl):En->Option (List D):=λenv=>(f env).bind λr=>(eQ r.d).map (·.2)
section
variable {X:Cx}{tg it:Expr}{fa:En->Option Sl}
theorem pW(hi:EV X it fa):IV X tg it (eW fa):=by
 obtain ⟨ti,pi,ki⟩:=hi
 refine ⟨_,Pq pi,λO B σ H env ds R Rl e q=>?_⟩
 obtain ⟨r,e1,e2⟩:=bind_some e
 obtain ⟨⟨k,gk⟩,e4,e5⟩:=map_some e2
 cases e5
 refine ki O B σ H env r _ Rl e1 λv H1 s1 r1=>?_
 obtain ⟨p,xs,rfl,h1,h2,h3⟩:=(r1.is λq=>Rl.oo).nH e4
 refine ⟨p,rfl,?_⟩
 have key:∀(O':Addr->Prop) (H2:Hp),(∀q u,H1 q=some u->¬OO O σ env q->H2 q=some u/\¬O' q)->Sq X.K H2 k p xs/\aK X.K O' H2 xs gk:=λO' H2 kp=>by
  refine ⟨?_,h2.map (λq hq hn=>?_) λq u e n=>(kp q u e n).1⟩
  .rcases h3 with h3 | h3
   .exact KJ (λq u e n=>(kp q u e n).1) h1 h3
   .exact h3 H2
  .cases e:H1 q with
   | none=>exact (hq e).elim
   | some u=>exact (kp q u e hn).2
 cases k with
 | true =>
  refine .inl ⟨⟨xs,h1⟩,q _ H1 s1 λO' H2 kp hO i=>⟨λd hd=>?_,λhl=>?_⟩⟩
  .obtain ⟨hq,hs⟩:=key O' H2 kp
   obtain ⟨x,hx,pG⟩:=hs.get hd
   refine ⟨⟨xs,x,hq,hx⟩,λy H3 hy=>?_⟩
   obtain ⟨rfl,hy⟩:=hy
   have:=hy xs hq
   rw [hx] at this
   cases this
   exact ⟨aq.refl _,pG⟩
  .obtain ⟨hq,hs⟩:=key O' H2 kp
   exact ⟨xs,hq,by rw [hs.length];exact hl⟩
 | false =>
  refine .inr ⟨⟨xs,h1⟩,q _ H1 s1 λO' H2 kp hO i=>⟨λd hd=>?_,λhl=>?_⟩⟩
  .obtain ⟨hq,hs⟩:=key O' H2 kp
   obtain ⟨x,hx,pG⟩:=hs.get hd
   refine ⟨⟨xs,x,hq,hx⟩,λy H3 hy=>?_⟩
   obtain ⟨rfl,hy⟩:=hy
   have:=hy xs hq
   rw [hx] at this
   cases this
   exact ⟨aq.refl _,pG⟩
  .obtain ⟨hq,hs⟩:=key O' H2 kp
   exact ⟨xs,hq,by rw [hs.length];exact hl⟩
theorem b2X{K:aA}{O:Addr->Prop}{H:Hp}(lo:Int)(n:Nat):xh K O (oz lo n) H (bD lo n):=λO' H2 _ _ i=>by
 refine ⟨λd hd=>?_,λhl=>show n<=i by simpa [bD] using hl⟩
 unfold bD at hd
 rw [rJ] at hd
 obtain ⟨k,hk,rfl⟩:=map_some hd
 obtain ⟨hi,rfl⟩:=iu.mp hk
 rw [List.length_range] at hi
 refine ⟨hi,λx H3 hy=>?_⟩
 obtain ⟨rfl,rfl⟩:=hy
 rw [List.getElem_range]
 exact ⟨aq.refl _,Is.int _⟩
noncomputable def gC(h:List D->Option (List D))(f:En->Option (List D)):En->Option (List D):=λenv=>(f env).bind h
noncomputable def Bm(f:En->Option (List D))(g:GF)(F:SF):SF:=λenv=>(f env).bind λds=>forL g F ds env
theorem KL(hp:PassesOwn (model X.prog X.w) X.A X.env X.xe)(hc:X.calm=true)(hi:IV X tg it fi)(hg:GV X tg g)(hb:jS X body F)
  (hs:∀x,foldedSetIterable it X.env x=pure x:=by intro _;rfl):SV X (.For tg it body [] pos) (Bm fi g F):=by
 obtain ⟨wi,pi,ki⟩:=hi
 obtain ⟨qJ,pg,kg⟩:=hg
 obtain ⟨tb,pb,kb⟩:=hb
 refine ⟨_,J1 hp hc pi pg pb hs,λO B σ H env fl ai D R e q=>?_⟩
 obtain ⟨ds,e1,e2⟩:=bind_some e
 refine ki O B σ H env ds _ R e1 λJ H1 s1 wk=>?_
 have q':dD X.K O B σ H1 env D fl ai:=q.from (Gd.refl s1)
 refine ⟨λi m cY H2=>m=ds.length-i/\i<=ds.length/\Left X.K O B σ H1 env g F ds fl ai i cY H2,⟨ds.length,by simp,nv _,⟨env,R.grow s1,Gd.refl (aq.refl _),e2⟩⟩,?_⟩
 rintro i m cY H2 ⟨rfl,hi,L⟩
 obtain ⟨bq,R2,gd,ee⟩:=id L
 have w:=wk (OO O cY bq) H2 (λa u ea na=>by
  obtain ⟨h1,h2⟩:=gd a u ea λz=>na (.inr z)
  exact ⟨h1,λz=>z.elim (λz=>na (.inl z)) h2⟩) (λa=>R2.oo) i
 by_cases aT:i<ds.length
 .obtain ⟨go,yl⟩:=w.1 ds[i] (by simp [aT])
  refine .inr ⟨go,Left X.K O B σ H1 env g F ds fl ai (i+1),λaD H' p'=>⟨ds.length-(i+1),by ext aT,rfl,aT,p'⟩,λx H3 hy=>?_⟩
  obtain ⟨s3,hx⟩:=yl x H3 hy
  have Af:ds.drop i=ds[i]::ds.drop (i+1):=j0 aT
  rw [Af,forL] at ee
  cases HC:g ds[i] bq with
  | none=>rw [HC] at ee;cases ee
  | some ml =>
   rw [HC] at ee
   refine kg O B cY H3 bq ml x ds[i] _ (R2.grow s3) hx HC λSR H4 R4 g4=>?_
   dsimp only at ee
   cases hF:F ml with
   | none=>rw [hF] at ee;cases ee
   | some y =>
    obtain ⟨f2,fT⟩:=y
    rw [hF] at ee
    have Ia:=gd.trans ((Gd.refl s3).trans g4)
    refine kb O B SR H4 ml f2 fT _ R4 hF ?_
    cases f2 with
    | nx=>exact λF2 H5 R5 g5=>⟨fT,R5,Ia.trans g5,ee⟩
    | ct=>exact λF2 H5 R5 g5=>⟨fT,R5,Ia.trans g5,ee⟩
    | bk=>cases ee;exact λF2 H5 R5 g5=>q' F2 H5 R5 (Ia.trans g5)
    | rt r=>cases ee;exact q'
 .exact .inl ⟨w.2 (by ext aT),Fe (by ext aT) q' L⟩
end
noncomputable def rl(cD sc:Scope):Scope:=
 { cD with names:=cD.names.map λ(n,k)=>if (k==.free&&sc.kind==.function&&sc.names.lookup n==some .cell) then (n,.cell) else (n,k) }
theorem Lu{sc:Scope}:∀{names:List (Str×NameKind)} {x:Str} {k:NameKind},names.lookup x=some k ->
  (names.map λ(n,k)=>if (k==nV&&sc.kind==.function&&sc.names.lookup n==some .cell) then (n,vm) else (n,k)).lookup x=some (if (k==nV&&sc.kind==.function&&sc.names.lookup x==some .cell) then vm else k)
 | [],_,_,h=>by simp at h
 | (n,k')::r,x,k,h=>by
  have ih:=@Lu sc r x k
  show List.lookup x ((if (k'==nV&&sc.kind==.function&&sc.names.lookup n==some .cell)=true then (n,vm) else (n,k'))::_)=_
  cases hx:x==n with
  | true =>
   simp only [nj,hx] at h
   cases h
   have e:x=n:=by simpa using hx
   subst e
   split<;>simp [nj]
  | false =>
   simp only [nj,hx] at h
   split
   .simp only [nj,hx];exact ih h
   .simp only [nj,hx];exact ih h
theorem b0B{sc:Scope}:∀{names:List (Str×NameKind)} {x:Str} {k:NameKind},
  (names.map λ(n,k)=>if (k==nV&&sc.kind==.function&&sc.names.lookup n==some .cell) then (n,vm) else (n,k)).lookup x=some k->∃k',names.lookup x=some k'/\k=if (k'==nV&&sc.kind==.function&&sc.names.lookup x==some .cell) then vm else k'
 | names,x,k,h=>by
  cases e:names.lookup x with
  | some k'=>have:=Lu (sc:=sc) e;rw [h] at this;exact ⟨k',rfl,dq this⟩
  | none =>
   exfalso
   induction names with
   | nil=>simp at h
   | cons y r ih =>
    obtain ⟨n,k'⟩:=y
    have h':List.lookup x ((if (k'==nV&&sc.kind==.function&&sc.names.lookup n==some .cell)=true then (n,vm) else (n,k'))::(r.map λ(n,k)=>if (k==nV&&sc.kind==.function&&sc.names.lookup n==some .cell) then (n,vm) else (n,k)))=some k:=h
    cases hx:x==n with
    | true=>simp [nj,hx] at e
    | false =>
     simp only [nj,hx] at e
     apply ih _ e
     split at h'
     .simpa only [nj,hx] using h'
     .simpa only [nj,hx] using h'
noncomputable def e7(cells:List (Str×Addr)):List (Str×NameKind)->List (Str×Addr)->List (Str×Addr)
 | [],acc=>acc
 | (n,k)::r,acc=>e7 cells r (if k==.free then (n,(cells.lookup n).getD 0)::acc else acc)
theorem LY:∀(names:List (Str×NameKind)) (acc:List (Str×Addr)),(∀y∈names,y.2=.free->∃c,env.cells.lookup y.1=some c) ->
  (forIn names acc λ(x:Str×NameKind) r=>(if (x.2==.free)=true then do let a <-cellOf env x.1;pure (nh ((x.1,a)::r)) else pure (nh r):Sem (ForInStep (List (Str×Addr)))))=pure (e7 env.cells names acc)
 | [],acc,_=>rfl
 | (n,k)::r,acc,h=>by
  rw [A1]
  have hr:∀y∈r,y.2=.free->∃c,env.cells.lookup y.1=some c:=λy hy=>h y (bW _ hy)
  cases hk:k==nV with
  | true =>
   have ek:k=.free:=by simpa using hk
   obtain ⟨c,hc⟩:=h (n,k) bK ek
   replace hc:env.cells.lookup n=some c:=hc
   have uR:cellOf env n=pure c:=by unfold cellOf;rw [hc]
   simp only [if_true]
   rw [uR]
   simp only [pure_bind]
   rw [LY r _ hr]
   conv=>rhs;unfold e7
   rw [hk,hc]
   rfl
  | false =>
   simp only [rL,if_false,pure_bind]
   rw [LY r _ hr]
   conv=>rhs;unfold e7
   rw [hk]
   rfl
theorem a7f(h:∀y∈sc.names,y.2=.free->∃c,env.cells.lookup y.1=some c):closureFor sc env=pure (e7 env.cells sc.names []):=by
 unfold closureFor
 rw [<-LY sc.names [] h]
 show (forIn sc.names [] _ >>= λcs=>pure cs)=_
 rw [bind_pure]
theorem Qn:∀(names:List (Str×NameKind)) (acc:List (Str×Addr)) {c:Addr},(e7 cells names acc).lookup x=some c->acc.lookup x=some c\/((x,nV)∈names/\c=(cells.lookup x).getD 0)
 | [],acc,c,h=>.inl h
 | (n,k)::r,acc,c,h=>by
  unfold e7 at h
  rcases Qn r _ h with h1 | ⟨h,e⟩
  .clear h
   have h:=h1
   clear h1
   cases hk:k==nV with
   | false=>rw [hk] at h;exact .inl (by simpa using h)
   | true =>
    rw [hk] at h
    simp only [if_true] at h
    have ek:k=.free:=by simpa using hk
    cases hx:x==n with
    | true =>
     simp only [nj,hx] at h
     have e:x=n:=by simpa using hx
     subst e ek
     exact .inr ⟨bK,(dq h).symm⟩
    | false =>
     simp only [nj,hx] at h
     exact .inl h
  .exact .inr ⟨bW _ h,e⟩
theorem Q7:∀(names:List (Str×NameKind)) (acc:List (Str×Addr)),((∃c,acc.lookup x=some c)\/(x,nV)∈names)->∃c,(e7 cells names acc).lookup x=some c
 | [],acc,h=>h.elim id λz=>nomatch z
 | (n,k)::r,acc,h=>by
  unfold e7
  refine Q7 r _ ?_
  cases hk:k==nV with
  | false =>
   rcases h with h | h
   .exact .inl (by simpa using h)
   .rcases bH.mp h with e | h
    .cases e;simp at hk
    .exact .inr h
  | true =>
   simp only [if_true]
   cases hx:x==n with
   | true=>exact .inl ⟨_,by simp only [nj,hx];rfl⟩
   | false =>
    rcases h with ⟨c,h⟩ | h
    .exact .inl ⟨c,by simp only [nj,hx];exact h⟩
    .rcases bH.mp h with e | h
     .cases e;simp at hx
     .exact .inr h
structure cX(N:List Str)(sc:Scope)(N':List Str)(caps:List Nat)(nt:Nat)(cD:Scope):Prop where
 kind:cD.kind=.function
 loc:∀y∈cD.names,y.2=.local->cD.names.lookup y.1=some .local
 px:∀y∈cD.names,y.2≠.cell
 free:∀y∈cD.names,y.2=.free->sc.names.lookup y.1=some .cell\/sc.names.lookup y.1=some .free
 nd:N'.Nodup
 len:N'.length=nt+caps.length
 Z8:caps.map (λi=>N[i]?)=(N'.drop nt).map some
 fr:∀x∈N'.drop nt,cD.names.lookup x=some .free
theorem Mf{names:List (Str×NameKind)}{x:Str}(h:names.lookup x=some k):(x,k)∈names:=tL h
noncomputable def iX:List Nat->En->Option En
 | [],_=>some []
 | i::is,env=>match env[i]? with
  | some (.sh d)=>(iX is env).map (Sl.sh d::·)
  | _=>none
noncomputable def jK(g:GF)(fc:En->Option Bool)(fe:En->Option Sl):List D->En->Option (List D)
 | [],_=>some []
 | d::ds,e=>(g d e).bind λe1=>(fc e1).bind λb=>if b=true then (fe e1).bind λr=>(jK g fc fe ds e1).bind λrs=>some (r.d::rs) else jK g fc fe ds e1
noncomputable def fZ(fi:En->Option (List D))(caps:List Nat)(nt:Nat)(g:GF)(fc:En->Option Bool)(fe:En->Option Sl):En->Option Sl:=λenv =>
 (fi env).bind λds=>(iX caps env).bind λcs=>if ds.length<=16777216 then (jK g fc fe ds (jn nt Sl.no++cs)).map Sl.ow else none
noncomputable def dR:List Nat->L2.St->L2.St
 | [],_=>[]
 | i::is,σ=>(σ[i]?).getD none::dR is σ
theorem P4{K:aA}{O:Addr->Prop}{B:Hp}{σ:L2.St}{H:Hp}{env:En}(R:Rel K O B σ H env):∀{caps:List Nat} {cs:En},iX caps env=some cs->cs.length=caps.length/\(dR caps σ).length=caps.length /\
  ∀(j:Nat) (s:Sl),cs[j]?=some s->∃(d:D) (v:V) (i:Nat),s=Sl.sh d/\(dR caps σ)[j]?=some (some v)/\Is K (OO O σ env) H v d/\caps[j]?=some i/\σ[i]?=some (some v)
 | [],cs,e=>by cases e;exact ⟨rfl,rfl,λj s h=>by simp at h⟩
 | i::is,cs,e=>by
  unfold iX at e
  cases h:env[i]? with
  | none=>rw [h] at e;cases e
  | some s =>
   rw [h] at e
   cases s with
   | no=>cases e
   | ow ds=>cases e
   | dw ds=>cases e
   | sh d =>
    obtain ⟨cs',e1,rfl⟩:=map_some (show (iX is env).map (Sl.sh d::·)=some cs from e)
    obtain ⟨l1,l2,ih⟩:=P4 R e1
    obtain ⟨v,hv,hi⟩:=R.sh i d h
    refine ⟨by simp [l1],by simp [dR,l2],λj s hj=>?_⟩
    cases j with
    | zero=>simp at hj;subst hj;exact ⟨d,v,i,rfl,by simp [dR,hv],hi,rfl,hv⟩
    | succ j =>
     obtain ⟨d',v',i',a1,a2,a3,a4,a5⟩:=ih j s (by simpa using hj)
     exact ⟨d',v',i',a1,by simpa [dR] using a2,a3,by simpa using a4,a5⟩
def CN(X:Cx)(ifs:List Expr)(f:En->Option Bool):Prop:=
 ∃t:TT,(∀(pins:List (Addr×Obj)) (s:Shared) (σ:L2.St) (H:Hp) (Q:Bool->Hp->Prop),Inv X pins σ H s->t σ H Q ->
   wpAny (model X.prog X.w) X.A (forIn ifs true λc r=>if r=true then do let ok <-isTrue c X.env (eval c X.env);pure (nh ok) else pure (nh r)) (TP X pins σ Q) X.xe s) /\
  ∀(O:Addr->Prop) (B:Hp) (σ:L2.St) (H:Hp) (env:En) (b:Bool) (Q:Bool->Hp->Prop),Rel X.K O B σ H env->f env=some b->(∀H',aq H H'->Q b H')->t σ H Q
noncomputable def jL:En->Option Bool:=λ_=>some true
theorem mE:CN X [] jL:=⟨λ_ H Q=>Q true H,λpins s σ H Q I h=>wpAny_tests_nil ⟨H,I,h⟩,λO B σ H env b Q R e q=>by cases e;exact q H (aq.refl _)⟩
theorem b8m(h:TV X c f):CN X [c] f:=by
 obtain ⟨t,p,k⟩:=h
 exact ⟨t,λpins s σ H Q I h=>wpAny_tests_one (p pins s σ H Q I h),k⟩
section
variable {prog:Program}{w:World}{A:Around}{R:Result->Shared->Prop}{s:Shared}
theorem a9k{elt target iter:Expr}{ifs:List Expr}{scope:Scope}{pos:Pos}{it acc:Value}{env:Env}(I:Nat->Shared->Prop){N:Value->Shared->Prop}(hN:∀x s',N x s'->False)
  (turn:∀n s,I n s->wpAny (model prog w) A (pyNext it) (λr aO=>match r with
   | none=>R (.ok .next) aO
   | some v=>wpAny (model prog w) A (letOwnedTupleGo target it v) (λ_ sF=>wpAny (model prog w) A (assign target env v) (λ_ ko =>
     wpAny (model prog w) A (forIn ifs true λc r=>if r=true then do let ok <-isTrue c env (eval c env);pure (nh ok) else pure (nh r)) (λok oX =>
      if ok=true then wpAny (model prog w) A (eval elt env) (λx yo =>
       wpAny (model prog w) A (call (.builtin "list.append") [acc,x]) (λ_ yn=>∃m,m<n/\I m yn) N yo) N oX
      else ∃m,m<n/\I m oX) N ko) N sF) N aO) N s)
  (n:Nat)(h:I n s):
  codeAny (model prog w) A (.compLoop (.ListComp elt [⟨target,iter,ifs,0⟩] scope pos) 0 it acc env) R s:=by
 refine codeAny_loop rfl I (λn s hI=>?_) n h
 show wpAny _ A ((compTurn (.ListComp elt [⟨target,iter,ifs,0⟩] scope pos) 0 it acc env).onRaise (λx=>do noteFrame x env;theTreesLotGoes x)) _ _ s
 refine wpAny_noted ?_
 rw [compTurn_list]
 have no:∀{P:Value->Shared->Prop} (x:Value) (s':Shared),N x s'->P x s':=λx s' z=>(hN x s' z).elim
 refine ar (IJ (ar (jG (turn n s hI) (λr aO h₁=>?_) no)))
 cases r with
 | none=>exact aZ h₁
 | some v =>
  refine ar (jG h₁ (λ_ sF zz=>?_) no)
  refine ar (jG zz (λ_ ko G7=>ar (jG G7 (λok oX zy=>?_) no)) no)
  cases ok with
  | false=>exact aZ ⟨rfl,zy⟩
  | true =>
   exact ar (ar (jG zy (λx yo G6=>ar (jG G6 (λ_ yn G5=>aZ (aZ ⟨rfl,G5⟩)) no)) no))
end
section
variable {X:Cx}{N N':List Str}{sc cD:Scope}{k:Nat}{full:Bool}{elt iter tg:Expr}{ifs:List Expr}{pos:Pos}{fi:En->Option (List D)}{caps:List Nat}{nt:Nat}{g:GF}{fc:En->Option Bool}{fe:En->Option Sl}
noncomputable def tm(X:Cx)(N':List Str)(cD:Scope)(ex:List Addr)(s:Shared)(H:Hp):Cx where
 prog:=X.prog
 w:=X.w
 K:=X.K
 mg:=X.mg
 base:=X.base
 A:=X.A
 N:=N'
 cS:=s
 oA:=H
 env:=compEnvC cD (e7 X.env.cells cD.names []) s.heap.objs.size X.env
 outer:=X.stack
 stack:=X.stack
 ex:=ex
 fn:=λ_=>false
 calm:=true
 pn:=[]
 xe:=λ_ _=>False
theorem tT(C:cX N sc N' caps nt cD)(oD:X.env.scope=sc){pins:List (Addr×Obj)}{σ:L2.St}{H:Hp}{s:Shared}(I:Inv X pins σ H s){x:Str}{c:Addr}(h:(e7 X.env.cells cD.names []).lookup x=some c):X.env.cells.lookup x=some c:=by
 rcases Qn _ _ h with h | ⟨h,e⟩
 .simp at h
 .obtain ⟨c',oE⟩:=I.ok.has x (by
   show X.env.scope.names.lookup x=_\/X.env.scope.names.lookup x=_
   rw [oD]
   exact C.free _ h rfl)
  rw [oE] at e
  rw [e];exact oE
theorem Pg(h:cD.names.lookup x=some .free):∃c,(e7 X.env.cells cD.names []).lookup x=some c:=Q7 _ _ (.inr (Mf h))
theorem b36(C:cX N sc N' caps nt cD)(oD:X.env.scope=sc)(hc:X.calm=true){pins:List (Addr×Obj)}{σ:L2.St}{H:Hp}{s s3:Shared}{fp:List Addr}(I:Inv X pins σ H s)(I3:Inv X pins σ H s3)
  (hf:∀b∈fp,cV X pins H b)(Ad:∀b∈fp,∃o,s3.heap.get? b=some o)(hs:s3.heap.objs.size=s.heap.objs.size+1):(tm X N' cD (s.heap.objs.size::fp) s3 H).Ok:=by
 have small:∀x c,X.env.cells.lookup x=some c->c<s.heap.objs.size:=λx c e=>by
  obtain ⟨v,z⟩:=I.cell x c e
  exact z.lt
 have kd:∀x,((tm X N' cD (s.heap.objs.size::fp) s3 H).env.kindOf x=some .cell\/(tm X N' cD (s.heap.objs.size::fp) s3 H).env.kindOf x=some .free)->cD.names.lookup x=some .free:=λx h=>by
  have h':∃k,(rl cD X.env.scope).names.lookup x=some k/\(k=.cell\/k=.free):=h.elim (λz=>⟨_,z,.inl rfl⟩) λz=>⟨_,z,.inr rfl⟩
  obtain ⟨k,e,hk⟩:=h'
  obtain ⟨k',e1,e2⟩:=b0B e
  have nc:k'≠.cell:=C.px _ (Mf e1)
  by_cases sX:(k'==nV&&X.env.scope.kind==.function&&X.env.scope.names.lookup x==some .cell)=true
  .have:k'=.free:=by
    have:=(Be _ _▸(Be _ _▸sX).1).1
    simpa using this
   rw [e1,this]
  .rw [if_neg sX] at e2
   subst e2
   rcases hk with rfl | rfl
   .exact (nc rfl).elim
   .exact e1
 refine ⟨I.ok.mod,C.kind,I.ok.glob,I.ok.blt,bh _,λx y c h1 h2=>I.ok.inj x y c (tT C oD I h1) (tT C oD I h2),λx h=>Pg (kd x h),λ_ _ (z:false=true) _=>(nomatch z),λ_=>I.ok.hd hc,I.ok.frames,.inl rfl,λb hb=>⟨?_,λx c e=>?_⟩,λb o e=>?_,?_,λb o e hb=>?_,λb hb sU=>?_,I3.stack,λb hb=>I.mO b hb⟩
 .show b≠s3.heap.objs.size
  rcases bH.mp hb with rfl | hb
  .rw [hs];exact dE (vi _)
  .obtain ⟨o,e⟩:=Ad b hb
   exact dE (bJ e)
 .have e':=tT C oD I e
  rcases bH.mp hb with rfl | hb
  .exact dE (small x c e')
  .exact (hf b hb).2.2.2.2.1 x c e'
 .exact I3.bs b o e
 .exact fg I.ok.nW I3.sz
 .have lt:b<X.base.objs.size:=bJ e
  have h0:=I.ok.nW
  have h1:=I.sz
  rcases bH.mp hb with rfl | hb
  .exact absurd (jl lt (fg h0 h1)) (oH _)
  .rcases (hf b hb).2.2.2.1 with z | z
   .exact I.ok.pq b o e z
   .exact absurd (jl lt (fg h0 z)) (oH _)
 .rcases bH.mp hb with rfl | hb
  .obtain ⟨_,o,ho,_⟩:=I.stack.mem sU
   exact absurd (bJ ho) (oH _)
  .rcases bH.mp (I.fL b sU) with z | z
   .exact (hf b hb).2.1 z
   .exact (hf b hb).2.2.1 z
theorem E6{α:Type}{n j:Nat}{x y:α}{l:List α}(h:(jn n x++l)[j]?=some y):y=x\/(n<=j/\l[j-n]?=some y):=by
 by_cases hj:j<n
 .rw [vw (by simpa using hj),Er,if_pos hj] at h
  exact .inl (dq h).symm
 .rw [rG (by simpa using hj),Em] at h
  exact .inr ⟨by ext hj,h⟩
theorem b2m(C:cX N sc N' caps nt cD)(oD:X.env.scope=sc)(hN:X.N=N)(hc:X.calm=true){pins:List (Addr×Obj)}{σ:L2.St}{H:Hp}{s s3 s4:Shared}{fp:List Addr}(I:Inv X pins σ H s)(I3:Inv X pins σ H s3)
  (hf:∀b∈fp,cV X pins H b)(Ad:∀b∈fp,∃o,s3.heap.get? b=some o)(hs:s3.heap.objs.size=s.heap.objs.size+1)
  (q8:s4.os=s3.os)(hg:s4.gens=s3.gens)(hk:∀b o,s3.heap.get? b=some o->s4.heap.get? b=some o)(qg:s4.heap.Ns s3.heap.objs.size λ_=>none):
  Inv (tm X N' cD (s.heap.objs.size::fp) s3 H) [] (jn nt none++dR caps σ) H s4:=by
 have sl:∀(caps:List Nat) (σ:L2.St),(dR caps σ).length=caps.length:=λcaps σ=>by
  induction caps with
  | nil=>rfl
  | cons i r ih=>simp [dR,ih]
 have sg:∀(caps:List Nat) (σ:L2.St) (j:Nat) (v:V),(dR caps σ)[j]?=some (some v)->∃i,caps[j]?=some i/\σ[i]?=some (some v):=λcaps σ=>by
  induction caps with
  | nil=>intro j v h;simp [dR] at h
  | cons i r ih =>
   intro j v h
   cases j with
   | zero =>
    have h':(σ[i]?).getD none=some v:=by simpa [dR] using h
    refine ⟨i,rfl,?_⟩
    cases e:σ[i]? with
    | none=>rw [e] at h';cases h'
    | some o=>rw [e] at h';exact congrArg some h'
   | succ j =>
    obtain ⟨i',e1,e2⟩:=ih j v (by simpa [dR] using h)
    exact ⟨i',by simpa using e1,e2⟩
 refine ⟨b36 C oD hc I I3 hf Ad hs,q8,by rw [hg];exact I3.bare,Un.kept hk,⟨_,qg,λi x v h1 h2 h3=>?_⟩,λx c e=>?_,I3.aY.fresh (bh _),λx c e=>I3.dZ x c (tT C oD I e),λp hp=>absurd (show p∈([]:List (Addr×Obj)) from hp) (by simp),I3.aY.kept hk,?_⟩
 .have h1:N'[i]?=some x:=h1
  rcases E6 h2 with z | ⟨hi,h2⟩
  .cases z
  .obtain ⟨i',e1,e2⟩:=sg caps σ _ v h2
   have hd:(N'.drop nt)[i-nt]?=some x:=by rw [List.getElem?_drop,Nat.add_sub_cancel' hi];exact h1
   have hm:=congrArg (λl=>l[i-nt]?) C.Z8
   simp only [rJ,e1,hd,Je] at hm
   have XZ:X.N[i']?=some x:=by rw [hN];exact dq hm
   have Ab:=C.fr x (JA hd)
   have dJ:=C.free _ (Mf Ab) rfl
   obtain ⟨m,hn,hl⟩:=I3.loc
   obtain ⟨u,r,l⟩:=hl i' x v XZ e2 (by rw [oD];exact .inr dJ)
   refine ⟨u,r,.inr ⟨?_,?_⟩⟩
   .have e:=Lu (sc:=X.env.scope) Ab
    show (rl cD X.env.scope).names.lookup x=_\/(rl cD X.env.scope).names.lookup x=_
    have e':(rl cD X.env.scope).names.lookup x=_:=e
    rw [e']
    split
    .exact .inl rfl
    .exact .inr rfl
   .rcases l with ⟨k,_⟩ | ⟨k,c,e,z⟩
    .exfalso
     have k:X.env.scope.names.lookup x=some .local:=k
     rw [oD] at k
     dsimp only at dJ
     rw [k] at dJ
     rcases dJ with z | z<;>cases z
    .obtain ⟨c',oE⟩:=Pg (X:=X) Ab
     have:=tT C oD I oE
     rw [e] at this
     cases this
     exact ⟨c,oE,z.keeps hk⟩
 .obtain ⟨v,z⟩:=I3.cell x c (tT C oD I e)
  exact ⟨v,z.keeps hk⟩
 .show (jn nt none++dR caps σ).length=N'.length
  rw [dC,Em,sl,C.len]
theorem b2G(r:au xs us):xs.length=us.length:=r.length
theorem b2l{pins pl:List (Addr×Obj)}{σ aD:L2.St}{H2 H':Hp}{s2 s3 s1:Shared}{fp:List Addr}{h':Heap}{xs:List V}{ys:List Value}(I2:Inv X pins σ H2 s2)(uH:s3.os=s2.os)(Ap:∀b o,s2.heap.get? b=some o->s3.heap.get? b=some o)
  (hsz:s3.heap.objs.size=s2.heap.objs.size+1)(f2:∀b∈fp,cV X pins H2 b)(I':Inv (tm X N' cD (s2.heap.objs.size::fp) s3 H2) pl aD H' s1)(sb:A8 s3.heap.objs.size s1.heap h')
  (hn:H' s2.heap.objs.size=none)(hl:∃n,s1.heap.get? s2.heap.objs.size=some { cls:=.type "list",data:=.seq ys.toArray n })(hv:au xs ys)(hz:xs.length<=sizeLine):
  Inv X pins σ (upd H' s2.heap.objs.size (.lst xs)) { s1 with heap:=h' }:=by
 have Wn:∀b,b<s3.heap.objs.size->b≠s3.heap.objs.size:=λb h=>dE h
 have ze:∀b,b<s2.heap.objs.size->b≠s2.heap.objs.size:=λb h=>dE h
 have out:∀b o,s2.heap.get? b=some o->b∉fp->b∉s2.heap.objs.size::fp:=λb o e n z=>(bH.mp z).elim (ze b (bJ e)) n
 have hC:H' s3.heap.objs.size=none:=I'.free
 have up:∀b o,s2.heap.get? b=some o->∀o',s1.heap.get? b=some o'->h'.get? b=some o':=λb o e o' e'=>(sb.2 b (Wn b (bJ (Ap b o e)))).trans e'
 have sL:∀b u,H' b=some u->b≠s2.heap.objs.size:=λb u e z=>by rw [z,hn] at e;cases e
 have u:=I'.base
 refine I2.AO (s':={ s1 with heap:=h' }) (ch:=fp) (I'.os.trans uH) ⟨λb o e n hb hx=>?_,λb o e n hb hx=>?_,λb o e n hx=>?_,λb o e hx=>?_,λb zs e=>?_,λb o v e=>?_,λb ps e=>?_⟩ (λb v e=>?_) I'.bare (λb hb=>?_)
 .exact up b o e o (u.keep b o (Ap b o e) n hb (out b o e hx))
 .obtain ⟨sl,e1⟩:=u.slot b o (Ap b o e) n hb (out b o e hx)
  exact ⟨sl,up b o e _ e1⟩
 .rw [cL (ze b (bJ e))]
  exact u.free b o (Ap b o e) n (out b o e hx)
 .obtain ⟨o',e1⟩:=u.there b o (Ap b o e) (out b o e hx)
  exact ⟨o',up b o e _ e1⟩
 .have:=u.eL b zs e
  rw [cL (sL b _ this)];exact this
 .have:=u.fx b o v e
  rw [cL (sL b _ this)];exact this
 .obtain ⟨more,this⟩:=u.fK b ps e
  exact ⟨more,by rw [cL (sL b _ this)];exact this⟩
 .by_cases hb:b=s2.heap.objs.size
  .subst hb
   rw [lW] at e
   cases e
   obtain ⟨n,e1⟩:=hl
   exact ⟨hz,ys,n,hv,(sb.2 _ (by rw [hsz];exact dE (vi _))).trans e1⟩
  .rw [cL hb] at e
   refine (I'.aY b v e).jr (λc w hc q=>(sb.2 c ?_).trans q) (λc _ _ q=>by rw [cL (sL c _ q)];exact q) λc zs q=>by rw [cL (sL c _ q)];exact q
   rintro rfl
   rcases hc with z | z
   .rw [<-z,hC] at e;cases e
   .rw [hC] at z;cases z
 .obtain ⟨_,g1,_,g3,g4,g5⟩:=f2 b hb
  exact ⟨g3,g1,g4,g5⟩
theorem Q8(h:Fx X N sc k full)(C:cX N sc N' caps nt cD){wi:TI}(pi:PI X tg iter wi)(ki:∀(O:Addr->Prop) (B:Hp) (σ:L2.St) (H:Hp) (env:En) (ds:List D) (R:It->Hp->Prop),Rel X.K O B σ H env->fi env=some ds->(∀J H',aq H H'->xh X.K (OO O σ env) J H' ds->R J H')->wi σ H R)
  (hb:∀X':Cx,X'.prog=X.prog->X'.w=X.w->X'.K=X.K->X'.mg=X.mg->X'.base=X.base->Fx X' N' (rl cD sc) k false->GV X' tg g/\CN X' ifs fc/\EV X' elt fe)
  (sU:∀x,foldedSetIterable iter X.env x=pure x){pins:List (Addr×Obj)}{s:Shared}{σ:L2.St}{H:Hp}(I:Inv X pins σ H s){O:Addr->Prop}{B:Hp}{env:En}{r:Sl}(R:Rel X.K O B σ H env)(e:fZ fi caps nt g fc fe env=some r)
  {use:Option (Value->Sem Unit)}{QQ:Value->Shared->Prop}
  (fin:∀(C0 p:Addr) (H':Hp) (s':Shared),(∃m,s'.heap.Ns C0 m)->cV X pins H' C0->(∀h',A8 C0 s'.heap h'->Inv X pins σ H' { s' with heap:=h' })->aq H H'->Res X.K (OO O σ env) H H' (.ref p) r ->
   compPost (model X.prog X.w) X.A X.xe use QQ (.ref p) C0 (.ok .next) s'):
  wpAny (model X.prog X.w) X.A (comprehension (.ListComp elt [⟨tg,iter,ifs,0⟩] cD pos) cD X.env (firstIterPos [⟨tg,iter,ifs,0⟩] pos) (newList []) (firstAsync [⟨tg,iter,ifs,0⟩]) (firstIter [⟨tg,iter,ifs,0⟩] X.env) use) QQ X.xe s:=by
 obtain ⟨ds,e1,e2⟩:=bind_some e
 obtain ⟨cs,e3,e4⟩:=bind_some e2
 by_cases hlen:ds.length<=16777216
 case neg=>rw [if_neg hlen] at e4;cases e4
 rw [if_pos hlen] at e4
 obtain ⟨rs,e5,rfl⟩:=map_some e4
 have Ai:closureFor cD X.env=pure (e7 X.env.cells cD.names []):=a7f λy hy hf=>I.ok.has y.1 (by
  show X.env.scope.names.lookup y.1=_\/X.env.scope.names.lookup y.1=_
  rw [h.sc]
  exact C.free y hy hf)
 have Xp:=pi pins s σ H (λJ H'=>aq H H'/\xh X.K (OO O σ env) J H' ds) I (ki O B σ H env ds _ R e1 λJ H' s' wk=>⟨s',wk⟩)
 refine wpAny_comprehension_free (use:=use) rfl sU Ai C.kind C.loc (a9 Xp λxv s1 h1=>a9 h1 λG1 s2 h2=>?_)
 obtain ⟨it,fp,tn,J,H2,rfl,I2,T,gv,f2,gJ,wk⟩:=h2
 refine rH (wpAny_newFunctionEnv C.px (by intro y hy;simp at hy) (λh₁ me l9=>?_) C.kind)
 dsimp only at me l9 ⊢
 generalize HZ:s2.heap.push { cls:=.type "list",dict:=none,data:=.seq ([]:List Value).toArray }=H3 at me l9 ⊢
 have hsz:H3.objs.size=s2.heap.objs.size+1:=by rw [<-HZ,nR]
 have zl:∀b o,s2.heap.get? b=some o->H3.get? b=some o:=λb o e=>by rw [<-HZ];exact bI _ e
 have C9:∀b o,H3.get? b=some o->h₁.get? b=some o:=λb o e=>l9.extBut b o (dE (bJ e)) (bI _ e)
 have I3:Inv X pins σ H2 { s2 with heap:=H3 }:=I2.kept (t':=s2.toks) zl
 have y3:∀b∈fp,b<s2.heap.objs.size:=λb hb=>by obtain ⟨o,eo,_⟩:=T.obj 0 _ gv b hb;exact bJ eo
 have sL:∀b∈fp,b≠s2.heap.objs.size:=λb hb=>dE (y3 b hb)
 have Ad:∀b∈fp,∃o,H3.get? b=some o:=λb hb=>by obtain ⟨o,eo,_⟩:=T.obj 0 _ gv b hb;exact ⟨o,zl b o eo⟩
 have R2:=R.grow gJ
 obtain ⟨lc,ls,cg⟩:=P4 R2 e3
 generalize lJ:tm X N' cD (s2.heap.objs.size::fp) { s2 with heap:=H3 } H2=X'
 have I4:∀t,Inv X' [] (jn nt none++dR caps σ) H2 { s2 with heap:=h₁,toks:=t }:=λt=>by
  rw [<-lJ]
  exact b2m (s3:={ s2 with heap:=H3 }) (s4:={ s2 with heap:=h₁,toks:=t }) C h.sc h.n h.calm I2 I3 f2 Ad hsz rfl rfl C9 (by simpa using me)
 have hP:X'.prog=X.prog:=by rw [<-lJ];rfl
 have hW:X'.w=X.w:=by rw [<-lJ];rfl
 have hK:X'.K=X.K:=by rw [<-lJ];rfl
 have hE:X'.env=compEnvC cD (e7 X.env.cells cD.names []) H3.objs.size X.env:=by rw [<-lJ];rfl
 have hA:X'.A=X.A:=by rw [<-lJ];rfl
 have hx:X'.xe=λ_ _=>False:=by rw [<-lJ];rfl
 have HM:X'.calm=true:=by rw [<-lJ];rfl
 have HQ:=hb X' hP hW hK (by rw [<-lJ];rfl) (by rw [<-lJ];rfl) ⟨by rw [<-lJ];rfl,by rw [hE];show rl cD X.env.scope=_;rw [h.sc],HM,λz=>(nomatch z),by rw [hx];exact A2,by rw [hA];exact h.room,C.nd,λz=>(nomatch z)⟩
 obtain ⟨⟨qJ,pg,kg⟩,⟨tc,pc,kc⟩,te,pe,ke⟩:=HQ
 have Ii:∀{H':Hp} {pl:List (Addr×Obj)},(∀b∈fp,H' b=none)->(∀p∈pl,∀b∈fp,p.1≠b)->∀b∈fp,cV X' pl H' b:=λ{H' pl} hn dQ b hb=>by
  obtain ⟨_,g1,g2,g3,g4,g5⟩:=f2 b hb
  rw [<-lJ]
  refine ⟨hn b hb,dE (jl (y3 b hb) (by show s2.heap.objs.size<=H3.objs.size;rw [hsz];exact AU _)),λz=>?_,.inl (bW _ hb),λx c e=>g4 x c (tT C h.sc I2 e),λp hp=>dQ p (by simpa [tm] using hp) b hb⟩
  rcases bH.mp (I2.fL b z) with z | z
  .exact g1 z
  .exact g2 z
 have R0:Rel X'.K (OO O σ env) H2 (jn nt none++dR caps σ) H2 (jn nt Sl.no++cs):=by
  have qW:∀(i:Nat) (es:Sl),(jn nt Sl.no++cs)[i]?=some es->es.own->False:=λi es e o=>by
   rcases E6 e with z | ⟨_,z⟩
   .cases z;exact o
   .obtain ⟨d,_,_,z,_⟩:=cg _ _ z
    cases z;exact o
  have noOwn:∀p,¬km (jn nt none++dR caps σ) (jn nt Sl.no++cs) p:=λp ⟨i,es,e,o,_⟩=>qW i es e o
  rw [hK]
  refine ⟨aq.refl _,R2.dm,by simp [lc,ls],λi d e=>?_,λi es e=>(qW i _ e trivial).elim,λi es e=>(qW i _ e trivial).elim,λi j es fs p e _ _ _ o=>(qW i es e o).elim⟩
  rcases E6 e with z | ⟨hi,z⟩
  .cases z
  .obtain ⟨d',v,i',z1,z2,z3,_⟩:=cg _ _ z
   cases z1
   refine ⟨v,?_,z3.less λp hp=>hp.elim id λz=>(noOwn p z).elim⟩
   rw [rG (by simpa using hi),Em]
   exact z2
 have loop:∀t,codeAny (model X.prog X.w) X.A (.compLoop (.ListComp elt [⟨tg,iter,ifs,0⟩] cD pos) 0 (.ref it) (.ref s2.heap.objs.size) (compEnvC cD (e7 X.env.cells cD.names []) H3.objs.size X.env))
   (compPost (model X.prog X.w) X.A X.xe use QQ (.ref s2.heap.objs.size) H3.objs.size) { s2 with heap:=h₁,toks:=t }:=λt=>by
  refine a9k (N:=λ_ _=>False) (λn s'=>∃(i:Nat) (aD:L2.St) (H':Hp) (ai:En) (ys:List Value) (xs:List V) (sH C3:List D),n=ds.length-i/\i<=ds.length/\Inv X' [] aD H' s'/\tn i s'.heap/\(∀b∈fp,H' b=none)/\H' s2.heap.objs.size=none /\
    s'.heap.PlainList s2.heap.objs.size ys.toArray/\au xs ys/\Rel X'.K (OO O σ env) H2 aD H' ai/\Gd (jn nt none++dR caps σ) (jn nt Sl.no++cs) H2 aD ai H' /\
    aK X'.K (OO (OO O σ env) aD ai) H' xs sH/\jK g fc fe (ds.drop i) ai=some C3/\sH++C3=rs/\sH.length<=i) (λ_ _ z=>z) ?_ ds.length
   ⟨0,_,H2,_,[],[],[],rs,by simp,nv _,I4 t,T.keep _ _ _ gv (λb _ o e=>C9 b o (zl b o e)),λb hb=>(f2 b hb).1,I2.aY.fresh (bh _),⟨_,C9 _ _ (by rw [<-HZ];exact eG _ rfl)⟩,.nil,R0,Gd.refl (aq.refl _),.nil,by simpa using e5,rfl,bh _⟩
  rintro n s3 ⟨i,jo,xS,ml,ys,xs,sH,C3,rfl,hi,J3,iS,Ax,HU,M9,vx,R3,NY,zt,AN,wq,Hj⟩
  have yL:Inv X' (rZ [s2.heap.objs.size] s3.heap) jo xS s3:=by
   refine J3.fu λp hp=>?_
   obtain ⟨hb,e⟩:=Lw hp
   have hb:p.1=s2.heap.objs.size:=by simpa using hb
   obtain ⟨n,en⟩:=M9
   rw [hb,en] at e
   refine ⟨by rw [hb,en];exact e,by rw [hb];exact HU,?_,λz=>?_,λv z=>?_⟩
   .rw [hb,hE]
    show s2.heap.objs.size≠H3.objs.size
    rw [hsz]
    exact dE (vi _)
   .rw [hb,<-lJ] at z
    obtain ⟨_,o,ho,_⟩:=I2.stack.mem z
    exact absurd (bJ ho) (oH _)
   .rw [<-dq e] at z;cases z
  have apart:∀p∈rZ [s2.heap.objs.size] s3.heap,∀b∈fp,p.1≠b:=λp hp b hb z=>by
   have e:p.1=s2.heap.objs.size:=by simpa using (Lw hp).1
   exact sL b hb (z.symm.trans e)
  have pP:∀{pl:List (Addr×Obj)} {aD:L2.St} {H':Hp} {s':Shared},Inv X' pl aD H' s'->(∀p∈rZ [s2.heap.objs.size] s3.heap,p∈pl)->s'.heap.PlainList s2.heap.objs.size ys.toArray/\H' s2.heap.objs.size=none:=λ{pl aD H' s'} J jw=>by
   obtain ⟨n,en⟩:=M9
   obtain ⟨q1,q2,_⟩:=J.pin _ (fY _ (jw _ (B9 (fp:=[s2.heap.objs.size]) (by simp) en)))
   exact ⟨⟨n,q1⟩,q2⟩
  have w:=wk (OO (OO O σ env) jo ml) xS (λa u ea na=>by
   obtain ⟨h1,h2⟩:=NY a u ea λ⟨i,es,e,o,_⟩=>by
    rcases E6 e with z | ⟨_,z⟩
    .cases z;exact o
    .obtain ⟨d,_,_,z,_⟩:=cg _ _ z
     cases z;exact o
   exact ⟨h1,λz=>z.elim na h2⟩) (λa=>R3.oo) i
  by_cases aT:i<ds.length
  .obtain ⟨go,yl⟩:=w.1 ds[i] (by simp [aT])
   have Af:ds.drop i=ds[i]::ds.drop (i+1):=j0 aT
   rw [Af,jK] at AN
   obtain ⟨fT,c1,c2⟩:=bind_some AN
   obtain ⟨b,c2,c3⟩:=bind_some c2
   have ti:=T.item X' hP hW hK HM i _ s3 jo xS (λ_ _=>False) yL (Ii Ax apart) iS go
   rw [hA] at ti
   refine a9 ti λr s4 ⟨u,hr,h4⟩=>?_
   subst hr
   refine a9 h4 λ_ s5 ⟨x,H5,I5,r5,y5,uh,Ih⟩=>?_
   obtain ⟨Gv,Xf⟩:=yl x H5 y5
   have MW:=I5.pinned (Ii Ih apart) (T.obj _ _ uh)
   have sO:∀{aD:L2.St} {H':Hp} {s':Shared},Inv X' (rZ [s2.heap.objs.size] s3.heap++rZ fp s5.heap) aD H' s'->tn (i+1) s'.heap/\∀b∈fp,H' b=none:=λ{aD H' s'} J=>by
    refine ⟨T.keep _ _ _ uh λb hb o e=>(J.pin (b,o) (fY _ (fY _ (B9 hb e)))).1,λb hb=>?_⟩
    obtain ⟨o,e,_⟩:=T.obj _ _ uh b hb
    exact (J.pin (b,o) (fY _ (fY _ (B9 hb e)))).2.1
   have M':=pg _ s5 jo H5 x u _ MW r5 (kg (OO O σ env) H2 jo H5 ml fT x ds[i] (λlE H6=>Rel X'.K (OO O σ env) H2 lE H6 fT/\Gd jo ml H5 lE fT H6) (R3.grow Gv) (hK▸Xf) c1 λlE H6 R6 g6=>⟨R6,g6⟩)
   rw [hP,hW,hA,hE,hx] at M'
   refine a9 M' λ_ s6 ⟨lE,H6,I6,R6,g6⟩=>?_
   have Nb:=pc _ s6 lE H6 (λb' H'=>b'=b/\aq H6 H') I6 (kc (OO O σ env) H2 lE H6 fT b _ R6 c2 λH' s'=>⟨rfl,s'⟩)
   rw [hP,hW,hA,hE,hx] at Nb
   refine a9 Nb λok s7 ⟨H7,I7,aY,Gu⟩=>?_
   subst aY
   have R7:=R6.grow Gu
   have NX:=NY.trans ((Gd.refl Gv).trans (g6.trans (Gd.refl Gu)))
   have Nr:aK X'.K (OO (OO O σ env) lE fT) H7 xs sH:=((Gd.refl Gv).trans (g6.trans (Gd.refl Gu))).C' zt
   cases ok with
   | false =>
    rw [if_neg my] at c3 ⊢
    obtain ⟨Ta,Yb⟩:=sO I7
    obtain ⟨U1,XR⟩:=pP I7 λp hp=>gR _ hp
    exact ⟨ds.length-(i+1),by ext aT,i+1,lE,H7,fT,ys,xs,sH,C3,rfl,aT,I7.fu (λ_ z=>nomatch z),Ta,Yb,XR,U1,vx,R7,NX,Nr,c3,wq,by ext Hj⟩
   | true =>
    rw [if_pos rfl] at c3 ⊢
    obtain ⟨r,d3,d4⟩:=bind_some c3
    obtain ⟨Ue,d5,d6⟩:=bind_some d4
    clear c3 d4 AN
    obtain rfl:=dq d6
    have Na:=pe _ s7 lE H7 (λv H'=>aq H7 H'/\Is X'.K (OO (OO O σ env) lE fT) H' v r.d) I7 (ke (OO O σ env) H2 lE H7 fT r _ R7 d3 λv H' s' rr=>⟨s',rr.is λp=>R7.oo⟩)
    rw [hP,hW,hA,hE,hx] at Na
    refine a9 Na λy s8 ⟨v,H8,I8,ry,Gq,hv⟩=>?_
    obtain ⟨S',Ya⟩:=sO I8
    obtain ⟨U0,NN⟩:=pP I8 λp hp=>gR _ hp
    have Xa:ys.length=sH.length:=by rw [<-b2G vx,zt.length]
    refine wpAny_list_append_plain (hsz:=by rw [dM,Xa,iY];ext hlen Hj aT) U0 λh' UZ M7=>?_
    have J8:Inv X' [] lE H8 s8:=I8.fu λ_ z=>nomatch z
    have J9:Inv X' [] lE H8 { s8 with heap:=h' }:=J8.turned (t':=s8.toks) (it:=s2.heap.objs.size) (λb o hb e=>(M7.2 b hb).trans e) NN
     (by rw [hE];show s2.heap.objs.size≠H3.objs.size;rw [hsz];exact dE (vi _)) (.inl (by rw [<-lJ];exact bK))
     (λx c e=>by
      rw [hE] at e
      obtain ⟨_,z⟩:=I2.cell x c (tT C h.sc I2 e)
      exact dE z.lt) (λp hp=>by rw [<-lJ] at hp;exact absurd hp (by simp [tm]))
    refine ⟨ds.length-(i+1),by ext aT,i+1,lE,H8,fT,ys++[y],xs++[v],sH++[r.d],Ue,rfl,aT,J9,T.keep _ _ _ S' λb hb o e=>(M7.2 b (sL b hb)).trans e,Ya,NN,by simpa using UZ,vx.append (.cons ry .nil),R7.grow Gq,NX.trans (Gd.refl Gq),(Nr.grow Gq).append (.cons hv .nil),d5,by rw [<-wq];simp,by simp;assumption⟩
  .have HB:i=ds.length:=by ext hi aT
   have td:=T.done X' hP hW hK HM i _ s3 jo xS (λ_ _=>False) yL (Ii Ax apart) iS (w.2 (by ext aT))
   rw [hA] at td
   refine a9 td λr s4 ⟨hr,CO⟩=>?_
   subst hr
   obtain ⟨U2,m7⟩:=pP CO λp hp=>hp
   rw [ny (by ext aT),jK] at AN
   obtain rfl:=dq AN
   rw [nT] at wq
   subst wq
   obtain ⟨m4,NF,_⟩:=CO.loc
   rw [hE] at NF
   obtain ⟨n4,Ye⟩:=U2
   rw [<-lJ] at CO
   have NL:H2 s2.heap.objs.size=none:=I2.aY.fresh (bh _)
   have qi:s2.heap.objs.size<=H3.objs.size:=by rw [hsz];exact AU _
   have X5:xS H3.objs.size=none:=CO.free
   have bP:H3.objs.size≠s2.heap.objs.size:=by rw [hsz];exact Nat.succ_ne_self _
   refine fin H3.objs.size s2.heap.objs.size (upd xS s2.heap.objs.size (.lst xs)) s4 ⟨m4,NF⟩ (I2.jC qi (by rw [cL bP];exact X5)) (λh' sb=>b2l (s3:={ s2 with heap:=H3 }) (ys:=ys) I2 rfl zl hsz f2 CO sb m7 ⟨n4,Ye⟩ vx (by rw [zt.length,iY];ext hlen hi Hj)) ?_ ⟨_,xs,rfl,gJ.free NL,lW,?_⟩
   .intro b o e
    have e2:=gJ b o e
    rw [cL (j' e2 NL)]
    exact R3.same b o e2
   .rw [hK] at zt
    refine zt.map (λp hp hn z=>hn (.inl (z.elim id λz=>?_))) λp u e _=>by rw [cL (j' e m7)];exact e
    rw [z,m7] at hp
    exact (hp rfl).elim
 exact codeAny_compStart_list (loop _) (T.self _ 0 _ _ _ (T.keep _ _ _ gv (λb _ o e=>C9 b o (zl b o e))) (loop _))
theorem qB(h:Fx X N sc k full)(C:cX N sc N' caps nt cD)(hi:IV X tg iter fi)
  (hb:∀X':Cx,X'.prog=X.prog->X'.w=X.w->X'.K=X.K->X'.mg=X.mg->X'.base=X.base->Fx X' N' (rl cD sc) k false->GV X' tg g/\CN X' ifs fc/\EV X' elt fe)
  (sU:∀x,foldedSetIterable iter X.env x=pure x:=by intro _;rfl):EV X (.ListComp elt [⟨tg,iter,ifs,0⟩] cD pos) (fZ fi caps nt g fc fe):=by
 obtain ⟨wi,pi,ki⟩:=hi
 refine ⟨λσ H Q=>∃O B env r,Rel X.K O B σ H env/\fZ fi caps nt g fc fe env=some r/\∀v H',aq H H'->Res X.K (OO O σ env) H H' v r->Q v H',?_,λO B σ H env r Q R e q=>⟨O,B,env,r,R,e,q⟩⟩
 rintro pins s σ H Q I ⟨O,B,env,r,R,e,q⟩
 rw [eval_ListComp]
 exact Q8 h C pi ki hb sU I R e (use:=none) λC0 p H' s' ⟨m,hn⟩ _ hI sm rr=>⟨m,hn,λh' sb=>⟨.ref p,H',hI h' sb,rfl,q _ H' sm rr⟩⟩
theorem xq{i:Nat}{x:Str}{pos' yt:Pos}(b:Bool)(h:Fx X N sc k full)(C:cX N sc N' caps nt cD)(hi:IV X tg iter fi)
  (hb:∀X':Cx,X'.prog=X.prog->X'.w=X.w->X'.K=X.K->X'.mg=X.mg->X'.base=X.base->Fx X' N' (rl cD sc) k false->GV X' tg g/\CN X' ifs fc/\EV X' elt fe)
  (hN:N[i]?=some x:=by rfl)(hv:Loc sc x:=by first | exact bO rfl | exact aW rfl)(hf:full=true\/sc.names.lookup x=some .local:=by first | exact bO rfl | exact aW rfl)(h1:(sc.names.lookup x==some .local)=true:=by rfl)(h2:(pos'.line==pos.line)=true:=by rfl)(h3:(cD.names.any λ(n,k)=>n==x&&(k==.local||k==.cell))=false:=by rfl)
  (sU:∀x,foldedSetIterable iter X.env x=pure x:=by intro _;rfl):SV X (.Assign [.Name x pos'] (.ListComp elt [⟨tg,iter,ifs,0⟩] cD pos) yt) (bif b then dP i (fZ fi caps nt g fc fe) else bg i (fZ fi caps nt g fc fe)):=by
 obtain ⟨wi,pi,ki⟩:=hi
 refine ⟨λD σ H=>∃O B env fl ai,Rel X.K O B σ H env/\(bif b then dP i (fZ fi caps nt g fc fe) else bg i (fZ fi caps nt g fc fe)) env=some (fl,ai)/\dD X.K O B σ H env D fl ai,?_,λO B σ H env fl ai D R e q=>⟨O,B,env,fl,ai,R,e,q⟩⟩
 rintro pins s σ H D I ⟨O,B,env,fl,ai,R,e,q⟩
 obtain ⟨r,e1,hl,pE,t,rfl,ht⟩:∃r,fZ fi caps nt g fc fe env=some r/\i<env.length/\fl=.nx/\∃t,ai=env.set i t/\(t=r\/t=.sh r.d):=by
  cases b with
  | true =>
   dsimp only [cond] at e
   obtain ⟨r,e1,e2⟩:=bind_some e
   obtain ⟨hl,e3⟩:=iM e2
   cases e3
   exact ⟨r,e1,hl,rfl,_,rfl,.inl rfl⟩
  | false =>
   dsimp only [cond] at e
   obtain ⟨r,e1,e2⟩:=bind_some e
   obtain ⟨hl,e3⟩:=iM e2
   cases e3
   exact ⟨r,e1,hl,rfl,_,rfl,.inr rfl⟩
 subst pE
 have hs:swapsWith (.ListComp elt [⟨tg,iter,ifs,0⟩] cD pos) (some (.Name x pos')) yt.line X.env=pure true:=by
  have hk:X.env.blockKind=.function:=by unfold Env.blockKind;rw [I.ok.kind];rfl
  have sS:X.env.kindOf x=sc.names.lookup x:=by unfold DA;rw [h.sc]
  unfold swapsWith
  dsimp only
  rw [hk,sS,h1,show (pos'.line==(Expr.ListComp elt [⟨tg,iter,ifs,0⟩] cD pos).pos.line)=true from h2,h3]
  rfl
 rw [exec_Assign_Name_used _ _ _ _ hs]
 refine ar (IJ (ar ?_))
 show wpAny _ _ (comprehension _ cD X.env _ (newList []) _ _ (some (assign (.Name x pos') X.env)) >>= λ_=>pure ()) _ _ _
 refine ar (Q8 h C pi ki hb sU I R e1 (use:=some (assign (.Name x pos') X.env)) λC0 p H' s' ⟨m,hn⟩ mh hI sm rr=>?_)
 have I':Inv X pins σ H' s':=hI s'.heap (Heap.SameBut.refl _ _)
 refine wpAny_assign_Name (Rj (v:=.ref p) I' h.sJ (h.ix hN) (h.loc hv) rfl (λs2 I2 ⟨a,sb,ha⟩=>?_) (h.sG hf))
 have qm:C0≠a:=λz=>by
  rcases ha with ha | ha
  .exact mh.2.1 (z.trans ha)
  .exact mh.2.2.2.2.1 x a ha z.symm
 obtain ⟨o,es,ep,ho,rest⟩:=hn
 refine ⟨m,⟨o,es,ep,(sb.2 C0 qm).trans ho,rest⟩,λh' T'=>?_⟩
 refine aZ (aZ ?_)
 have I3:Inv X pins (σ.set i (some (.ref p))) H' { s2 with heap:=h' }:=I2.turned (t':=s2.toks) (it:=C0) (λb o hb e=>(T'.2 b hb).trans e) mh.1 mh.2.1 mh.2.2.2.1 mh.2.2.2.2.1 mh.2.2.2.2.2
 have hr:Res X.K (OO O σ env) H H' (.ref p) t:=by
  rcases ht with rfl | rfl
  .exact rr
  .exact rr.is λq=>R.oo
 obtain ⟨R',g'⟩:=R.set sm hr hl
 exact ⟨_,H',I3,q _ H' R' g'⟩
end
end DL
namespace DL
open PySem PySem.Spec PyProof.Rows L2
section
variable {X:Cx}{pins:List (Addr×Obj)}{σ:L2.St}{H:Hp}{s:Shared}
theorem K7(I:Inv X pins σ H s)(hA:A'.handled=none)(hq:Sq X.K H k p xs)
  (h:∀(ao:List Value) (h2:Heap) (St:Nat->Heap->Prop),au xs ao->Walks X.prog X.w A' s.heap.objs.size [s.heap.objs.size,p] [s.heap.objs.size] ao.length (λi v=>ao[i]?=some v) St->St 0 h2 ->
   (∀b o,s.heap.get? b=some o->h2.get? b=some o)->(∀b∈[s.heap.objs.size,p],b<h2.objs.size)->Q (.ref s.heap.objs.size) { s with heap:=h2 }):wpAny (model X.prog X.w) A' (pyIter (.ref p)) Q E s:=by
 cases k with
 | true =>
  obtain ⟨ao,rv,pl,hz⟩:=I.list (show dX X.K H p xs from hq)
  have aT:p<s.heap.objs.size:=by obtain ⟨o,n,e,_⟩:=pl;exact bJ e
  refine wI pl.isList ?_
  have W:=Walks.list (prog:=X.prog) (w:=X.w) hA s.heap.objs.size p (dE aT) ao.toArray
  refine h ao _ (λi h=>h.IsListIter s.heap.objs.size p i/\h.IsList p ao.toArray) rv (by simpa using W) ⟨⟨_,eG _ rfl,rfl,rfl⟩,pl.isList.push _⟩ (λb o e=>bI _ e) λb hb=>?_
  rw [nR]
  rcases bH.mp hb with rfl | hb
  .exact vi _
  .rw [bU.mp hb];exact Nat.lt_succ_of_lt aT
 | false =>
  obtain ⟨ao,rv,pl,hz⟩:=I.tuple (show eJ X.K H p xs from hq)
  have br:s.heap.IsTuple p ao.toArray:=pl
  have aT:p<s.heap.objs.size:=by obtain ⟨o,e,_⟩:=pl;exact bJ e
  refine rM br ?_
  have W:=Walks.tuple (prog:=X.prog) (w:=X.w) hA s.heap.objs.size p (dE aT) ao.toArray
  refine h ao _ (λi h=>h.IsTupleIter s.heap.objs.size p i/\h.IsTuple p ao.toArray) rv (by simpa using W) ⟨⟨_,eG _ rfl,rfl,rfl⟩,?_⟩ (λb o e=>bI _ e) λb hb=>?_
  .obtain ⟨o,e,r⟩:=br
   exact ⟨o,bI _ e,r⟩
  .rw [nR]
   rcases bH.mp hb with rfl | hb
   .exact vi _
   .rw [bU.mp hb];exact Nat.lt_succ_of_lt aT
theorem LX(I:Inv X pins σ H s){h2 h':Heap}{tk:Nat}(k1:∀b o,s.heap.get? b=some o->h2.get? b=some o)(k2:∀b o,b∉[s.heap.objs.size]->h2.get? b=some o->h'.get? b=some o):Inv X pins σ H { s with heap:=h',toks:=tk }:=
 I.kept λb o e=>k2 b o (λz=>absurd (bJ e) (by rw [bU.mp z];exact oH _)) (k1 b o e)
end
noncomputable def j6:List D->Option (List Int)
 | []=>some []
 | .int i::ds=>(j6 ds).map (i::·)
 | _::_=>none
noncomputable def fA:List D->Option (List Bool)
 | []=>some []
 | .bl i::ds=>(fA ds).map (i::·)
 | _::_=>none
theorem BY:∀(ns:List Int),j6 (ns.map D.int)=some ns
 | []=>rfl
 | n::r=>by rw [fF,j6,BY r];rfl
theorem Qk:∀(ns:List Bool),fA (ns.map D.bl)=some ns
 | []=>rfl
 | n::r=>by rw [fF,fA,Qk r];rfl
theorem LZ:∀{ds:List D} {ns:List Int},j6 ds=some ns->ds=ns.map D.int
 | [],ns,e=>by cases e;rfl
 | .int i::ds,ns,e=>by
  obtain ⟨r,e1,rfl⟩:=map_some (show (j6 ds).map (i::·)=some ns from e)
  rw [LZ e1];rfl
 | .aR::_,_,e=>by cases e
 | .bl _::_,_,e=>by cases e
 | .str _::_,_,e=>by cases e
 | .tup _::_,_,e=>by cases e
 | .lst _ _::_,_,e=>by cases e
theorem Q6:∀{ds:List D} {ns:List Bool},fA ds=some ns->ds=ns.map D.bl
 | [],ns,e=>by cases e;rfl
 | .bl i::ds,ns,e=>by
  obtain ⟨r,e1,rfl⟩:=map_some (show (fA ds).map (i::·)=some ns from e)
  rw [Q6 e1];rfl
 | .aR::_,_,e=>by cases e
 | .int _::_,_,e=>by cases e
 | .str _::_,_,e=>by cases e
 | .tup _::_,_,e=>by cases e
 | .lst _ _::_,_,e=>by cases e
theorem Lq{K:aA}{O:Addr->Prop}{H:Hp}:∀{xs:List V} {ns:List Int},aK K O H xs (ns.map D.int)->xs=ns.map V.int
 | _,[],.nil=>rfl
 | _,n::r,.cons h t=>by rw [fH h,Lq t];rfl
theorem Qx{K:aA}{O:Addr->Prop}{H:Hp}:∀{xs:List V} {ns:List Bool},aK K O H xs (ns.map D.bl)->xs=ns.map V.bl
 | _,[],.nil=>rfl
 | _,n::r,.cons h t=>by rw [rT h,Qx t];rfl
theorem b2H{ns:List Int}(r:au (ns.map V.int) ao){i:Nat}(h:ao[i]?=some v):∃t,v=.int (ns.getD i 0) t:=by
 have hl:=r.length
 have hi:=(iu.mp h).1
 have sT:i<ns.length:=by rw [bB] at hl;ext hl hi
 obtain ⟨u,hu,ru⟩:=r.get (show (ns.map V.int)[i]?=some (.int ns[i]) by simp [sT])
 rw [h] at hu
 cases hu
 obtain ⟨t,e⟩:=ru
 exact ⟨t,by rw [e];simp [sT]⟩
theorem b5k{ns:List Bool}(r:au (ns.map V.bl) ao){i:Nat}(h:ao[i]?=some v):v=.bool (ns.getD i false):=by
 have hl:=r.length
 have hi:=(iu.mp h).1
 have sT:i<ns.length:=by rw [bB] at hl;ext hl hi
 obtain ⟨u,hu,ru⟩:=r.get (show (ns.map V.bl)[i]?=some (.bl ns[i]) by simp [sT])
 rw [h] at hu
 cases hu
 obtain rfl:v=jH ns[i]:=ru
 simp [sT]
section
variable {X:Cx}{a:Expr}{p pos:Pos}{ba:En->Option (Bool×List D)}
theorem preSum_eq(ns:List Int):∀j,j<=ns.length->preSum (λi=>ns.getD i 0) j=(ns.take j).sum
 | 0,_=>rfl
 | j+1,h=>by
  have hj:j<ns.length:=h
  rw [preSum,preSum_eq ns j (wG hj),<-List.take_append_getElem hj,A0]
  simp [hj]
theorem Rt(ns:List Bool):(eH ns.length).all (λi=>ns.getD i false)=ns.all id:=by
 rw [Bool.eq_iff_iff,Ec,Ec]
 constructor
 .intro h x hx
  obtain ⟨i,hi,rfl⟩:=oG.mp hx
  have:=h i (oJ.mpr hi)
  simpa [hi] using this
 .intro h i hi
  have hi:=oJ.mp hi
  have:=h ns[i] (nU hi)
  simpa [hi] using this
theorem b2e(hc:X.calm=true):cK X (.builtin "sum") (λxs H Q=>∃p k ns,xs=[.ref p]/\Sq X.K H k p (mw V.int ns)/\Q (.int ns.sum) H):=by
 intro pins s σ H xs us Q I r h
 obtain ⟨p,k,ns,rfl,hq,q⟩:=h
 obtain ⟨u,rfl,ru⟩:=r.one
 cases ru
 refine call_sum_walkAnyS (K7 (A':=X.A.in1) I (I.ok.hd hc) hq λao h2 St rv W yp k1 mh=>?_)
 refine ⟨_,_,_,_,_,_,_,λi=>ns.getD i 0,rfl,W.toS,yp,mh,λi v hv=>b2H rv hv,λs' t' M=>?_⟩
 have hl:ao.length=ns.length:=by rw [<-rv.length];simp
 have e:preSum (λi=>ns.getD i 0) ao.length=ns.sum:=by rw [hl,preSum_eq ns _ (bh _)];simp
 rw [e]
 obtain ⟨h',g',d',t2,o'⟩:=s'
 obtain ⟨m1,m2,m3,m4,m5⟩:=M
 have m2:g'=s.gens:=m2
 have m3:d'=s.drawn:=m3
 have m4:o'=s.os:=m4
 subst m2 m3 m4
 exact ⟨.int ns.sum,H,LX I k1 m1,⟨t',rfl⟩,q⟩
theorem b2k(hc:X.calm=true):cK X (.builtin "all") (λxs H Q=>∃p k ns,xs=[.ref p]/\Sq X.K H k p (mw V.bl ns)/\Q (.bl (ns.all id)) H):=by
 intro pins s σ H xs us Q I r h
 obtain ⟨p,k,ns,rfl,hq,q⟩:=h
 obtain ⟨u,rfl,ru⟩:=r.one
 cases ru
 refine call_all_walk (K7 (A':=X.A.in1) I (I.ok.hd hc) hq λao h2 St rv W yp k1 mh=>?_)
 refine ⟨_,_,_,_,_,_,λi=>ns.getD i false,rfl,W,yp,λi v s Q E hP hQ=>?_,λh' tk hk=>?_⟩
 .rw [b5k rv hP]
  exact tP hQ
 .have hl:ao.length=ns.length:=by rw [<-rv.length];simp
  rw [hl,Rt]
  exact ⟨.bl _,H,LX I k1 hk,rfl,q⟩
noncomputable def y7:List Int->Int
 | []=>0
 | n::r=>r.foldl (λa b=>if b<a then b else a) n
noncomputable def za:List Int->Int
 | []=>0
 | n::r=>r.foldl (λa b=>if b>a then b else a) n
noncomputable def iq(f:En->Option (Bool×List D)):En->Option Sl:=λenv=>(f env).bind λx=>(j6 x.2).map λns=>.sh (.int ns.sum)
noncomputable def nO(f:En->Option (Bool×List D)):En->Option Sl:=λenv=>(f env).bind λx=>(fA x.2).map λns=>.sh (.bl (ns.all id))
noncomputable def AM(f:En->Option (Bool×List D)):En->Option Sl:=λenv=>(f env).bind λx=>(fA x.2).map λns=>.sh (.bl (ns.any id))
noncomputable def AK(f:En->Option (Bool×List D)):En->Option Sl:=λenv=>(f env).bind λx=>(j6 x.2).bind λns=>if ns≠[] then some (.sh (.int (y7 ns))) else none
noncomputable def AL(f:En->Option (Bool×List D)):En->Option Sl:=λenv=>(f env).bind λx=>(j6 x.2).bind λns=>if ns≠[] then some (.sh (.int (za ns))) else none
theorem tW(hg:Gl X "sum")(hm:X.mg "sum" = none)(hc:X.calm=true)(ha:BV X a ba)(hs:starEach [a] X.env=[(false,eval a X.env)]:=by rfl):EV X (.Call (.Name "sum" p) [a] [] pos) (iq ba):=by
 obtain ⟨t,pt,k⟩:=ha
 refine ⟨_,vQ (b2e hc) hg hm (by decide +kernel) (pV pt qz hs) (by decide) (by decide) hs rfl,λO B σ H env s Q R e q=>?_⟩
 obtain ⟨⟨kk,ds⟩,e1,e2⟩:=bind_some e
 obtain ⟨ns,e3,rfl⟩:=map_some e2
 have tf:=LZ e3
 dsimp only at tf
 subst tf
 refine k O B σ H env kk _ _ R e1 λl xs H1 s1 hq hx=>⟨l,kk,ns,rfl,?_,q _ H1 s1 (Is.int _)⟩
 rw [<-Lq hx];exact hq
theorem J4(hg:Gl X "all")(hm:X.mg "all" = none)(hc:X.calm=true)(ha:BV X a ba)(hs:starEach [a] X.env=[(false,eval a X.env)]:=by rfl):EV X (.Call (.Name "all" p) [a] [] pos) (nO ba):=by
 obtain ⟨t,pt,k⟩:=ha
 refine ⟨_,vQ (b2k hc) hg hm (by decide +kernel) (pV pt qz hs) (by decide) (by decide) hs rfl,λO B σ H env s Q R e q=>?_⟩
 obtain ⟨⟨kk,ds⟩,e1,e2⟩:=bind_some e
 obtain ⟨ns,e3,rfl⟩:=map_some e2
 have tf:=Q6 e3
 dsimp only at tf
 subst tf
 refine k O B σ H env kk _ _ R e1 λl xs H1 s1 hq hx=>⟨l,kk,ns,rfl,?_,q _ H1 s1 (Is.bl _)⟩
 rw [<-Qx hx];exact hq
end
end DL
namespace DL
open PySem PySem.Spec PyProof.Rows L2
noncomputable def mz:List (Option Bool)->Option (List Bool)
 | []=>some []
 | some b::r=>(mz r).map (b::·)
 | none::_=>none
noncomputable def bw:Nat->D->D->Option Bool
 | _,.int i,.int j=>some (decide (i=j))
 | _,.bl i,.bl j=>some (decide (i=j))
 | _,.str i,.str j=>some (decide (i=j))
 | _,.aR,.aR=>some true
 | _,.bl i,.int j=>some (decide ((if i then 1 else 0)=j))
 | _,.int i,.bl j=>some (decide (i=(if j then 1 else 0)))
 | n+1,.tup a,.tup b=>(mz (pM (bw n) a b)).map λbs=>bs.all id&&decide (a.length=b.length)
 | n+1,.lst _ a,.lst _ b=>if a.length=b.length then (mz (pM (bw n) a b)).map λbs=>bs.all id else some false
 | 0,.tup _,.tup _=>none
 | 0,.lst _ _,.lst _ _=>none
 | _,.exc _,_=>none
 | _,_,.exc _=>none
 | _,.fy _ _,_=>none
 | _,_,.fy _ _=>none
 | _,_,_=>some false
theorem BQ:∀{os:List (Option Bool)} {bs:List Bool},mz os=some bs->os.length=bs.length/\∀(i:Nat) (b:Bool),bs[i]?=some b->os[i]?=some (some b)
 | [],bs,e=>by cases e;exact ⟨rfl,λi b h=>by simp at h⟩
 | some b::r,bs,e=>by
  obtain ⟨bs',e1,rfl⟩:=map_some (show (mz r).map (b::·)=some bs from e)
  obtain ⟨l,ih⟩:=BQ e1
  refine ⟨by simp [l],λi c h=>?_⟩
  cases i with
  | zero=>simpa using h
  | succ i=>simpa using ih i c (by simpa using h)
 | none::_,bs,e=>by cases e
theorem all_range{bs:List Bool}{n:Nat}(h:bs.length=n):(eH n).all (λi=>bs.getD i false)=bs.all id:=by rw [<-h];exact Rt bs
section
variable {X:Cx}{pins:List (Addr×Obj)}{σ:L2.St}{H:Hp}{s:Shared}{O O':Addr->Prop}
noncomputable def CM(K:aA)(O:Addr->Prop)(H:Hp)(v:V):D->Prop
 | .aR=>v=.aR
 | .bl b=>v=.bl b
 | .int i=>v=.int i
 | .str x=>v=.str x
 | .tup ds=>∃p xs,v=.ref p/\eJ K H p xs/\aK K O H xs ds
 | .lst _ ds=>∃p xs,v=.ref p/\dX K H p xs/\aK K O H xs ds
 | .exc _=>True
 | .fy _ _=>True
theorem Is.oC{K:aA}{v:V}{d:D}(h:Is K O H v d):CM K O H v d:=by
 cases d with
 | aR=>exact PU h
 | bl b=>exact rT h
 | int i=>exact fH h
 | str x=>exact J7 h
 | tup ds=>exact w9 h
 | lst r ds =>
  obtain ⟨p,xs,e,h1,h2⟩:=h.seq (k:=true) (ds:=ds) rfl
  exact ⟨p,xs,e,h1,h2⟩
 | exc n=>trivial
 | fy n m=>trivial
theorem Fk(I:Inv X pins σ H s)(h:eJ X.K H p xs)(h':dX X.K H p ys):False:=by
 obtain ⟨_,_,⟨o,e1,c1,_⟩,_⟩:=I.tuple h
 obtain ⟨_,_,⟨o',_,e2,c2,_⟩,_⟩:=I.list h'
 rw [e1] at e2
 cases e2
 rw [c1] at c2
 injection c2 with c3
 exact absurd c3 (by decide)
theorem zip_get{n:Nat}{i:Nat}{o:Option Bool}(h:(pM (bw n) a b)[i]?=some o):∃x y,a[i]?=some x/\b[i]?=some y/\bw n x y=o:=by
 rw [Jm] at h
 cases ha:a[i]? with
 | none=>rw [ha] at h;simp at h
 | some x =>
  cases hb:b[i]? with
  | none=>rw [ha,hb] at h;simp at h
  | some y=>rw [ha,hb] at h;exact ⟨x,y,rfl,rfl,by simpa using h⟩
theorem QX(I:Inv X pins σ H s):∀(n:Nat) {v:V} {d d':D} {b:Bool},Is X.K O H v d->Is X.K O' H v d'->bw n d d'=some b->b=true:=by
 intro n
 induction n with
 | zero =>
  intro v d d' b h h' e
  have h:=h.oC
  have h':=h'.oC
  cases d<;>cases d'<;>simp only [CM] at h h'<;>simp only [bw,dU,reduceCtorEq] at e<;>first
   | (subst h;cases h';exact e.symm)
   | (subst h;cases h';rw [<-e];simp;done)
   | (subst h;cases h';done)
   | (subst h;obtain ⟨_,_,h',_⟩:=h';cases h';done)
   | (subst h';obtain ⟨_,_,h,_⟩:=h;cases h;done)
   | (obtain ⟨_,_,rfl,h,_⟩:=h;obtain ⟨_,_,hr,h',_⟩:=h';cases hr;first | exact (Fk I h h').elim | exact (Fk I h' h).elim)
 | succ n ih =>
  intro v d d' b h h' e
  have key:∀{xs:List V} {ds gk:List D} {bs:List Bool},aK X.K O H xs ds->aK X.K O' H xs gk->mz (pM (bw n) ds gk)=some bs->bs.all id=true:=λ{xs ds gk bs} a1 a2 ea=>by
   obtain ⟨_,g⟩:=BQ ea
   rw [Ec]
   intro c hc
   obtain ⟨i,hi,rfl⟩:=oG.mp hc
   obtain ⟨x,y,ex,ey,Yc⟩:=zip_get (g i _ (mx hi))
   obtain ⟨z,ez,iz⟩:=a1.get ex
   obtain ⟨z',NZ,W6⟩:=a2.get ey
   rw [ez] at NZ
   cases NZ
   exact ih iz W6 Yc
  have h:=h.oC
  have h':=h'.oC
  cases d<;>cases d'<;>simp only [CM] at h h'<;>simp only [bw,dU,reduceCtorEq] at e<;>first
   | (subst h;cases h';exact e.symm)
   | (subst h;cases h';rw [<-e];simp;done)
   | (subst h;cases h';done)
   | (subst h;obtain ⟨_,_,h',_⟩:=h';cases h';done)
   | (subst h';obtain ⟨_,_,h,_⟩:=h;cases h;done)
   | (obtain ⟨_,_,rfl,h,_⟩:=h;obtain ⟨_,_,hr,h',_⟩:=h';cases hr;first | exact (Fk I h h').elim | exact (Fk I h' h).elim)
   | skip
  .obtain ⟨_,xs,rfl,h,a1⟩:=h
   obtain ⟨_,ys,hr,h',a2⟩:=h'
   cases hr
   cases I.fJ h h'
   obtain ⟨bs,e1,rfl⟩:=map_some e
   rw [key a1 a2 e1,<-a1.length,<-a2.length]
   simp
  .obtain ⟨_,xs,rfl,h,a1⟩:=h
   obtain ⟨_,ys,hr,h',a2⟩:=h'
   cases hr
   cases I.h7 h h'
   rw [if_pos (by rw [<-a1.length,<-a2.length])] at e
   obtain ⟨bs,e1,rfl⟩:=map_some e
   exact key a1 a2 e1
theorem Qs{xs:List V}{ao:List Value}{O:Addr->Prop}{K:aA}{ds:List D}(r:au xs ao)(a:aK K O H xs ds){j:Nat}(h:j<ao.toArray.size):∃d v,ds[j]?=some d/\Is K O H v d/\RelV v ao.toArray[j]:=by
 have hj:j<ao.length:=by simpa using h
 have hl:=r.length
 obtain ⟨d,hd,hv⟩:=a.pI (i:=j) (x:=xs[j]'(by ext hj hl)) (mx (by ext hj hl))
 obtain ⟨u,hu,ru⟩:=r.get (i:=j) (x:=xs[j]'(by ext hj hl)) (mx (by ext hj hl))
 rw [mx hj] at hu
 refine ⟨d,_,hd,hv,?_⟩
 rw [List.getElem_toArray,dq hu]
 exact ru
open PySem.SeqAt in
theorem PN(I:Inv X pins σ H s)(hu:A.units<cLine)(h:CM X.K O H v d)(h':CM X.K O' H v' d')(r:RelV v u)(r':RelV v' u')(e:bw n d d'=some b)
  (hn:(∀a c,d=.tup a->d'=.tup c->False)/\∀a c r r',d=.lst r a->d'=.lst r' c->False):EqAt A s u u' b/\RcAt A s u u' b/\RcNeAt A s u u' (!b):=by
 cases d with
 | aR =>
  cases d' with
  | aR =>
   subst h;obtain rfl:u=fW:=r
   subst h';obtain rfl:u'=fW:=r'
   simp only [bw,dU] at e
   subst e
   exact ⟨EqAt.same _,RcAt.none_none,RcNeAt.none_none⟩
  | bl k' =>
   subst h;obtain rfl:u=fW:=r
   subst h';obtain rfl:u'=jH k':=r'
   simp only [bw,dU] at e
   subst e
   exact ⟨EqAt.none_bool k',RcAt.none_bool k',RcNeAt.none_bool k'⟩
  | int k' =>
   subst h;obtain rfl:u=fW:=r
   subst h';obtain ⟨t',rfl⟩:=r'
   simp only [bw,dU] at e
   subst e
   exact ⟨EqAt.none_int k' t',RcAt.none_int k' t',RcNeAt.none_int k' t'⟩
  | str k' =>
   subst h;obtain rfl:u=fW:=r
   subst h';obtain ⟨t',rfl⟩:=r'
   simp only [bw,dU] at e
   subst e
   exact ⟨EqAt.none_str k' t',RcAt.none_str k' t',RcNeAt.none_str k' t'⟩
  | tup gk =>
   subst h;obtain rfl:u=fW:=r
   obtain ⟨p',jq,rfl,c8,_⟩:=h';obtain ⟨its',_,br,_⟩:=I.tuple c8;obtain rfl:u'=dN p':=r';replace br:s.heap.IsTuple p' its'.toArray:=br
   simp only [bw,dU] at e
   subst e
   exact ⟨EqAt.none_tuple br hu,RcAt.none_tuple br hu,RcNeAt.none_tuple br hu⟩
  | lst o6 gk =>
   subst h;obtain rfl:u=fW:=r
   obtain ⟨p',jq,rfl,c8,_⟩:=h';obtain ⟨its',_,br,_⟩:=I.list c8;obtain rfl:u'=dN p':=r';replace br:=br.isList
   simp only [bw,dU] at e
   subst e
   exact ⟨EqAt.none_list br hu,RcAt.none_list br hu,RcNeAt.none_list br hu⟩
  | exc n'=>simp [bw] at e
  | fy n' m'=>simp [bw] at e
 | bl k =>
  cases d' with
  | aR =>
   subst h;obtain rfl:u=jH k:=r
   subst h';obtain rfl:u'=fW:=r'
   simp only [bw,dU] at e
   subst e
   exact ⟨EqAt.bool_none k,RcAt.bool_none k,RcNeAt.bool_none k⟩
  | bl k' =>
   subst h;obtain rfl:u=jH k:=r
   subst h';obtain rfl:u'=jH k':=r'
   simp only [bw,dU] at e
   subst e
   exact ⟨EqAt.bool_bool k k',RcAt.bool_bool k k',RcNeAt.bool_bool k k'⟩
  | int k' =>
   subst h;obtain rfl:u=jH k:=r
   subst h';obtain ⟨t',rfl⟩:=r'
   simp only [bw,dU] at e
   subst e
   exact ⟨EqAt.bool_int k k' t',RcAt.bool_int k k' t',RcNeAt.bool_int k k' t'⟩
  | str k' =>
   subst h;obtain rfl:u=jH k:=r
   subst h';obtain ⟨t',rfl⟩:=r'
   simp only [bw,dU] at e
   subst e
   exact ⟨EqAt.bool_str k k' t',RcAt.bool_str k k' t',RcNeAt.bool_str k k' t'⟩
  | tup gk =>
   subst h;obtain rfl:u=jH k:=r
   obtain ⟨p',jq,rfl,c8,_⟩:=h';obtain ⟨its',_,br,_⟩:=I.tuple c8;obtain rfl:u'=dN p':=r';replace br:s.heap.IsTuple p' its'.toArray:=br
   simp only [bw,dU] at e
   subst e
   exact ⟨EqAt.bool_tuple k br hu,RcAt.bool_tuple k br hu,RcNeAt.bool_tuple k br hu⟩
  | lst o6 gk =>
   subst h;obtain rfl:u=jH k:=r
   obtain ⟨p',jq,rfl,c8,_⟩:=h';obtain ⟨its',_,br,_⟩:=I.list c8;obtain rfl:u'=dN p':=r';replace br:=br.isList
   simp only [bw,dU] at e
   subst e
   exact ⟨EqAt.bool_list k br hu,RcAt.bool_list k br hu,RcNeAt.bool_list k br hu⟩
  | exc n'=>simp [bw] at e
  | fy n' m'=>simp [bw] at e
 | int k =>
  cases d' with
  | aR =>
   subst h;obtain ⟨t,rfl⟩:=r
   subst h';obtain rfl:u'=fW:=r'
   simp only [bw,dU] at e
   subst e
   exact ⟨EqAt.int_none k t,RcAt.int_none k t,RcNeAt.int_none k t⟩
  | bl k' =>
   subst h;obtain ⟨t,rfl⟩:=r
   subst h';obtain rfl:u'=jH k':=r'
   simp only [bw,dU] at e
   subst e
   exact ⟨EqAt.int_bool k t k',RcAt.int_bool k t k',RcNeAt.int_bool k t k'⟩
  | int k' =>
   subst h;obtain ⟨t,rfl⟩:=r
   subst h';obtain ⟨t',rfl⟩:=r'
   simp only [bw,dU] at e
   subst e
   exact ⟨EqAt.int_int k t k' t',RcAt.int_int k t k' t',RcNeAt.int_int k t k' t'⟩
  | str k' =>
   subst h;obtain ⟨t,rfl⟩:=r
   subst h';obtain ⟨t',rfl⟩:=r'
   simp only [bw,dU] at e
   subst e
   exact ⟨EqAt.int_str k t k' t',RcAt.int_str k t k' t',RcNeAt.int_str k t k' t'⟩
  | tup gk =>
   subst h;obtain ⟨t,rfl⟩:=r
   obtain ⟨p',jq,rfl,c8,_⟩:=h';obtain ⟨its',_,br,_⟩:=I.tuple c8;obtain rfl:u'=dN p':=r';replace br:s.heap.IsTuple p' its'.toArray:=br
   simp only [bw,dU] at e
   subst e
   exact ⟨EqAt.int_tuple k t br hu,RcAt.int_tuple k t br hu,RcNeAt.int_tuple k t br hu⟩
  | lst o6 gk =>
   subst h;obtain ⟨t,rfl⟩:=r
   obtain ⟨p',jq,rfl,c8,_⟩:=h';obtain ⟨its',_,br,_⟩:=I.list c8;obtain rfl:u'=dN p':=r';replace br:=br.isList
   simp only [bw,dU] at e
   subst e
   exact ⟨EqAt.int_list k t br hu,RcAt.int_list k t br hu,RcNeAt.int_list k t br hu⟩
  | exc n'=>simp [bw] at e
  | fy n' m'=>simp [bw] at e
 | str k =>
  cases d' with
  | aR =>
   subst h;obtain ⟨t,rfl⟩:=r
   subst h';obtain rfl:u'=fW:=r'
   simp only [bw,dU] at e
   subst e
   exact ⟨EqAt.str_none k t,RcAt.str_none k t,RcNeAt.str_none k t⟩
  | bl k' =>
   subst h;obtain ⟨t,rfl⟩:=r
   subst h';obtain rfl:u'=jH k':=r'
   simp only [bw,dU] at e
   subst e
   exact ⟨EqAt.str_bool k t k',RcAt.str_bool k t k',RcNeAt.str_bool k t k'⟩
  | int k' =>
   subst h;obtain ⟨t,rfl⟩:=r
   subst h';obtain ⟨t',rfl⟩:=r'
   simp only [bw,dU] at e
   subst e
   exact ⟨EqAt.str_int k t k' t',RcAt.str_int k t k' t',RcNeAt.str_int k t k' t'⟩
  | str k' =>
   subst h;obtain ⟨t,rfl⟩:=r
   subst h';obtain ⟨t',rfl⟩:=r'
   simp only [bw,dU] at e
   subst e
   exact ⟨EqAt.str_str k t k' t',RcAt.str_str k t k' t',RcNeAt.str_str k t k' t'⟩
  | tup gk =>
   subst h;obtain ⟨t,rfl⟩:=r
   obtain ⟨p',jq,rfl,c8,_⟩:=h';obtain ⟨its',_,br,_⟩:=I.tuple c8;obtain rfl:u'=dN p':=r';replace br:s.heap.IsTuple p' its'.toArray:=br
   simp only [bw,dU] at e
   subst e
   exact ⟨EqAt.str_tuple k t br hu,RcAt.str_tuple k t br hu,RcNeAt.str_tuple k t br hu⟩
  | lst o6 gk =>
   subst h;obtain ⟨t,rfl⟩:=r
   obtain ⟨p',jq,rfl,c8,_⟩:=h';obtain ⟨its',_,br,_⟩:=I.list c8;obtain rfl:u'=dN p':=r';replace br:=br.isList
   simp only [bw,dU] at e
   subst e
   exact ⟨EqAt.str_list k t br hu,RcAt.str_list k t br hu,RcNeAt.str_list k t br hu⟩
  | exc n'=>simp [bw] at e
  | fy n' m'=>simp [bw] at e
 | tup ds =>
  cases d' with
  | aR =>
   obtain ⟨p,xs,rfl,hq,_⟩:=h;obtain ⟨ao,_,pl,_⟩:=I.tuple hq;obtain rfl:u=dN p:=r;replace pl:s.heap.IsTuple p ao.toArray:=pl
   subst h';obtain rfl:u'=fW:=r'
   simp only [bw,dU] at e
   subst e
   exact ⟨EqAt.tuple_none pl hu,RcAt.tuple_none pl hu,RcNeAt.tuple_none pl hu⟩
  | bl k' =>
   obtain ⟨p,xs,rfl,hq,_⟩:=h;obtain ⟨ao,_,pl,_⟩:=I.tuple hq;obtain rfl:u=dN p:=r;replace pl:s.heap.IsTuple p ao.toArray:=pl
   subst h';obtain rfl:u'=jH k':=r'
   simp only [bw,dU] at e
   subst e
   exact ⟨EqAt.tuple_bool k' pl hu,RcAt.tuple_bool k' pl hu,RcNeAt.tuple_bool k' pl hu⟩
  | int k' =>
   obtain ⟨p,xs,rfl,hq,_⟩:=h;obtain ⟨ao,_,pl,_⟩:=I.tuple hq;obtain rfl:u=dN p:=r;replace pl:s.heap.IsTuple p ao.toArray:=pl
   subst h';obtain ⟨t',rfl⟩:=r'
   simp only [bw,dU] at e
   subst e
   exact ⟨EqAt.tuple_int k' t' pl hu,RcAt.tuple_int k' t' pl hu,RcNeAt.tuple_int k' t' pl hu⟩
  | str k' =>
   obtain ⟨p,xs,rfl,hq,_⟩:=h;obtain ⟨ao,_,pl,_⟩:=I.tuple hq;obtain rfl:u=dN p:=r;replace pl:s.heap.IsTuple p ao.toArray:=pl
   subst h';obtain ⟨t',rfl⟩:=r'
   simp only [bw,dU] at e
   subst e
   exact ⟨EqAt.tuple_str k' t' pl hu,RcAt.tuple_str k' t' pl hu,RcNeAt.tuple_str k' t' pl hu⟩
  | tup gk=>exact (hn.1 _ _ rfl rfl).elim
  | lst o6 gk =>
   obtain ⟨p,xs,rfl,hq,_⟩:=h;obtain ⟨ao,_,pl,_⟩:=I.tuple hq;obtain rfl:u=dN p:=r;replace pl:s.heap.IsTuple p ao.toArray:=pl
   obtain ⟨p',jq,rfl,c8,_⟩:=h';obtain ⟨its',_,br,_⟩:=I.list c8;obtain rfl:u'=dN p':=r';replace br:=br.isList
   simp only [bw,dU] at e
   subst e
   exact ⟨EqAt.tuple_list pl br hu,RcAt.tuple_list pl br hu,RcNeAt.tuple_list pl br hu⟩
  | exc n'=>simp [bw] at e
  | fy n' m'=>simp [bw] at e
 | lst ro ds =>
  cases d' with
  | aR =>
   obtain ⟨p,xs,rfl,hq,_⟩:=h;obtain ⟨ao,_,pl,_⟩:=I.list hq;obtain rfl:u=dN p:=r;replace pl:=pl.isList
   subst h';obtain rfl:u'=fW:=r'
   simp only [bw,dU] at e
   subst e
   exact ⟨EqAt.list_none pl hu,RcAt.list_none pl hu,RcNeAt.list_none pl hu⟩
  | bl k' =>
   obtain ⟨p,xs,rfl,hq,_⟩:=h;obtain ⟨ao,_,pl,_⟩:=I.list hq;obtain rfl:u=dN p:=r;replace pl:=pl.isList
   subst h';obtain rfl:u'=jH k':=r'
   simp only [bw,dU] at e
   subst e
   exact ⟨EqAt.list_bool k' pl hu,RcAt.list_bool k' pl hu,RcNeAt.list_bool k' pl hu⟩
  | int k' =>
   obtain ⟨p,xs,rfl,hq,_⟩:=h;obtain ⟨ao,_,pl,_⟩:=I.list hq;obtain rfl:u=dN p:=r;replace pl:=pl.isList
   subst h';obtain ⟨t',rfl⟩:=r'
   simp only [bw,dU] at e
   subst e
   exact ⟨EqAt.list_int k' t' pl hu,RcAt.list_int k' t' pl hu,RcNeAt.list_int k' t' pl hu⟩
  | str k' =>
   obtain ⟨p,xs,rfl,hq,_⟩:=h;obtain ⟨ao,_,pl,_⟩:=I.list hq;obtain rfl:u=dN p:=r;replace pl:=pl.isList
   subst h';obtain ⟨t',rfl⟩:=r'
   simp only [bw,dU] at e
   subst e
   exact ⟨EqAt.list_str k' t' pl hu,RcAt.list_str k' t' pl hu,RcNeAt.list_str k' t' pl hu⟩
  | tup gk =>
   obtain ⟨p,xs,rfl,hq,_⟩:=h;obtain ⟨ao,_,pl,_⟩:=I.list hq;obtain rfl:u=dN p:=r;replace pl:=pl.isList
   obtain ⟨p',jq,rfl,c8,_⟩:=h';obtain ⟨its',_,br,_⟩:=I.tuple c8;obtain rfl:u'=dN p':=r';replace br:s.heap.IsTuple p' its'.toArray:=br
   simp only [bw,dU] at e
   subst e
   exact ⟨EqAt.list_tuple pl br hu,RcAt.list_tuple pl br hu,RcNeAt.list_tuple pl br hu⟩
  | lst o6 gk=>exact (hn.2 _ _ _ _ rfl rfl).elim
  | exc n'=>simp [bw] at e
  | fy n' m'=>simp [bw] at e
 | exc n=>cases d'<;>simp [bw] at e
 | fy n m=>cases d'<;>simp [bw] at e
open PySem.SeqAt in
theorem Pk(I:Inv X pins σ H s):∀(n:Nat) {A:Around} {u u':Value} {v v':V} {d d':D} {b:Bool},A.units+n<cLine->Is X.K O H v d->Is X.K O' H v' d'->RelV v u->RelV v' u'->bw n d d'=some b ->
  EqAt A s u u' b/\RcAt A s u u' b/\RcNeAt A s u u' (!b):=by
 intro n
 induction n with
 | zero =>
  intro A u u' v v' d d' b hu h h' r r' e
  refine PN I ‹_› h.oC h'.oC r r' e ⟨?_,?_⟩
  .rintro a c rfl rfl;simp [bw] at e
  .rintro a c ro o6 rfl rfl;simp [bw] at e
 | succ n ih =>
  intro A u u' v v' d d' b hu h h' r r' e
  have elems:∀{xs ys:List V} {ao cQ:List Value} {ds es:List D} {bs:List Bool},au xs ao->au ys cQ->aK X.K O H xs ds->aK X.K O' H ys es->mz (pM (bw n) ds es)=some bs ->
    ∀j (h1:j<ao.toArray.size) (h2:j<cQ.toArray.size),EqAt A.in1 s ao.toArray[j] cQ.toArray[j] (bs.getD j false):=λ{xs ys ao cQ ds es bs} rx ry ax ay ea j h1 h2=>by
   obtain ⟨d1,v1,e1,i1,r1⟩:=Qs rx ax h1
   obtain ⟨d2,v2,e2,i2,r2⟩:=Qs ry ay h2
   obtain ⟨hl,g⟩:=BQ ea
   have hz:(pM (bw n) ds es)[j]?=some (bw n d1 d2):=by rw [Jm,e1,e2]
   have hj:j<bs.length:=by rw [<-hl];exact (iu.mp hz).1
   have:=g j bs[j] (mx hj)
   rw [hz] at this
   have e3:bs.getD j false=bs[j]:=by simp [hj]
   rw [e3]
   exact (ih (A:=A.in1) (by show A.units+1+n<_;ext hu) i1 i2 r1 r2 (dq this)).1
  by_cases ht:∃a c,d=.tup a/\d'=.tup c
  .obtain ⟨ds,es,rfl,rfl⟩:=ht
   simp only [bw] at e
   obtain ⟨bs,e1,rfl⟩:=map_some e
   obtain ⟨p,xs,rfl,hq,ax⟩:=h.oC
   obtain ⟨p',ys,rfl,c8,ay⟩:=h'.oC
   obtain ⟨ao,rx,pl,_⟩:=I.tuple hq
   obtain ⟨cQ,ry,br,_⟩:=I.tuple c8
   obtain rfl:u=dN p:=r
   obtain rfl:u'=dN p':=r'
   have pl:s.heap.IsTuple p ao.toArray:=pl
   have br:s.heap.IsTuple p' cQ.toArray:=br
   have hlen:bs.length=min ds.length es.length:=by rw [<-(BQ e1).1,Jw]
   have l1:ao.toArray.size=ds.length:=by rw [dM,<-rx.length,ax.length]
   have l2:cQ.toArray.size=es.length:=by rw [dM,<-ry.length,ay.length]
   have val:((eH (min ao.toArray.size cQ.toArray.size)).all (λj=>bs.getD j false)&&ao.toArray.size==cQ.toArray.size)=(bs.all id&&decide (ds.length=es.length)):=by
    rw [l1,l2,all_range hlen]
    rfl
   have rc:=RcAt.tuples pl br (by ext hu) (elems rx ry ax ay e1)
   have rn:=RcNeAt.tuples pl br (by ext hu) (elems rx ry ax ay e1)
   rw [val] at rc rn
   refine ⟨?_,rc,rn⟩
   by_cases hp:p=p'
   .subst hp
    have:=QX I (n+1) h h' (show bw (n+1) (.tup ds) (.tup es)=some (bs.all id&&decide (ds.length=es.length)) by simp only [bw];rw [e1];rfl)
    rw [this]
    exact EqAt.same _
   .exact .of_refs hp rc
  by_cases hl:∃a c ro o6,d=.lst ro a/\d'=.lst o6 c
  .obtain ⟨ds,es,ro,o6,rfl,rfl⟩:=hl
   have e0:=e
   simp only [bw] at e
   obtain ⟨p,xs,rfl,hq,ax⟩:=h.oC
   obtain ⟨p',ys,rfl,c8,ay⟩:=h'.oC
   obtain ⟨ao,rx,pl,_⟩:=I.list hq
   obtain ⟨cQ,ry,br,_⟩:=I.list c8
   obtain rfl:u=dN p:=r
   obtain rfl:u'=dN p':=r'
   have l1:ao.toArray.size=ds.length:=by rw [dM,<-rx.length,ax.length]
   have l2:cQ.toArray.size=es.length:=by rw [dM,<-ry.length,ay.length]
   have fin:RcAt A s (.ref p) (.ref p') b->RcNeAt A s (.ref p) (.ref p') (!b)->EqAt A s (.ref p) (.ref p') b/\RcAt A s (.ref p) (.ref p') b/\RcNeAt A s (.ref p) (.ref p') (!b):=λrc rn=>by
    refine ⟨?_,rc,rn⟩
    by_cases hp:p=p'
    .subst hp
     rw [QX I (n+1) h h' e0]
     exact EqAt.same _
    .exact .of_refs hp rc
   by_cases hlen:ds.length=es.length
   .rw [if_pos hlen] at e
    obtain ⟨bs,e1,rfl⟩:=map_some e
    have Ak:bs.length=ds.length:=by rw [<-(BQ e1).1,Jw];ext hlen
    have rc:=RcAt.lists pl.isList br.isList (by ext l1 l2 hlen) (by ext hu) (elems rx ry ax ay e1)
    have rn:=RcNeAt.lists pl.isList br.isList (by ext l1 l2 hlen) (by ext hu) (elems rx ry ax ay e1)
    rw [l1,all_range Ak] at rc rn
    exact fin rc rn
   .rw [if_neg hlen] at e
    cases e
    have bP:(ao.toArray.size != cQ.toArray.size)=true:=by rw [l1,l2];simpa using hlen
    exact fin (RcAt.lists_lengths pl.isList br.isList bP (by ext hu)) (RcNeAt.lists_lengths pl.isList br.isList bP (by ext hu))
  refine PN I (by ext hu) h.oC h'.oC r r' e ⟨λa c e1 e2=>ht ⟨a,c,e1,e2⟩,λa c ro o6 e1 e2=>hl ⟨a,c,ro,o6,e1,e2⟩⟩
noncomputable def dj:D->D->Option Sl:=λa b=>(bw 8 a b).map λk=>.sh (.bl k)
noncomputable def gy:D->D->Option Sl:=λa b=>(bw 8 a b).map λk=>.sh (.bl !k)
theorem nD(hu:X.A.units+8<cLine):jT X (compareOp .Eq) dj:=by
 refine ⟨λx y H Q=>∃O O' a b k,Is X.K O H x a/\Is X.K O' H y b/\bw 8 a b=some k/\Q (.bl k) H,?_,λO H x y a b s Q hO hx hy e q=>?_⟩
 .intro pins s σ H x y v u Q I rx ry h
  obtain ⟨O,O',a,b,k,hx,hy,e,q⟩:=h
  exact (Pk I 8 hu hx hy rx ry e).2.1 _ _ _ _ ⟨.bl k,H,I,rfl,q⟩
 .obtain ⟨k,e1,rfl⟩:=map_some e
  exact ⟨O,O,a,b,k,hx,hy,e1,q _ H (aq.refl _) (Is.bl _)⟩
theorem BE(hu:X.A.units+8<cLine):jT X (compareOp .NotEq) gy:=by
 refine ⟨λx y H Q=>∃O O' a b k,Is X.K O H x a/\Is X.K O' H y b/\bw 8 a b=some k/\Q (.bl !k) H,?_,λO H x y a b s Q hO hx hy e q=>?_⟩
 .intro pins s σ H x y v u Q I rx ry h
  obtain ⟨O,O',a,b,k,hx,hy,e,q⟩:=h
  exact (Pk I 8 hu hx hy rx ry e).2.2 _ _ _ _ ⟨.bl _,H,I,rfl,q⟩
 .obtain ⟨k,e1,rfl⟩:=map_some e
  exact ⟨O,O,a,b,k,hx,hy,e1,q _ H (aq.refl _) (Is.bl _)⟩
end
theorem Fx.u8{X:Cx}{N:List Str}{sc:Scope}{k:Nat}{full:Bool}(h:Fx X N sc k full):X.A.units+8<cLine:=by have:=h.room.un;ext this
end DL
namespace DL
open PySem PySem.Spec PyProof.Rows L2
theorem b0S{P:Program}{w:World}{K:aA}{tg:Expr}(it:Addr)(lo:Int)(n:Nat):Turn P w K tg (oz lo n) [it] it (λi h=>IsLongIter h it (lo+(i:Nat)*1) ((n:Int)-(i:Nat)) 1) where
 mem:=by simp
 obj:=λi h st b hb=>by
  have e:b=it:=by simpa using hb
  subst e
  exact ⟨_,st,λv z=>by
   have z':DV _=wC v:=z
   cases z'⟩
 keep:=λi h h' st k=>k it (by simp) _ st
 item:=by
  intro X hP hw hK hc i pins s σ H E I hf st hg
  subst hP hw hK
  obtain ⟨f0,f1,f2,f3,f4,f5⟩:=hf it (by simp)
  have W:=Walks.longrange (prog:=X.prog) (w:=X.w) (I.ok.hd hc) it lo 1 n
  refine W.item i s _ _ hg st λv h' tk hv ak kk=>?_
  obtain ⟨t,rfl⟩:=hv
  have I1:Inv X pins σ H { s with heap:=h',toks:=tk }:=I.turned (λb o hb e=>kk b o (by simpa using hb) e) f0 f1 f3 f4 f5
  refine ⟨_,rfl,EE (s:={ s with heap:=h',toks:=tk }) (n:="longrange_iterator") ak rfl rfl (by decide) ⟨.int (lo+i),H,I1,⟨t,?_⟩,⟨rfl,rfl⟩,ak,λb hb=>(hf b hb).1⟩⟩
  rw [AW]
 done:=by
  intro X hP hw hK hc i pins s σ H E I hf st hg
  subst hP hw hK
  obtain ⟨f0,f1,f2,f3,f4,f5⟩:=hf it (by simp)
  exact wpAny_pyNext_long_end (I.ok.hd hc) st (by have:n<=i:=hg;ext this) λh' eb=>⟨rfl,I.turned (t':=s.toks) (λb o hb e=>eb b o hb e) f0 f1 f3 f4 f5⟩
 self:=λ_ _ _ _ _ st h=>wpAny_pyIter_longiter st h
section
variable {X:Cx}{tg:Expr}
theorem b1e{pins:List (Addr×Obj)}{σ:L2.St}{H:Hp}{s:Shared}{R:It->Hp->Prop}{E:Value->Shared->Prop}{lo hi:Int}{t u v:Tok}{tk:Nat}(I:Inv X pins σ H s)
  (q:R (oz lo (hi-lo).toNat) H):wpAny (model X.prog X.w) X.A (pyIter (.ref s.heap.objs.size)) (MR X pins σ tg R) E { s with heap:=s.heap.push { cls:=.type "range",data:=.fields #[.int lo t,.int hi u,.int 1 v] },toks:=tk }:=by
 have I1:Inv X pins σ H { s with heap:=s.heap.push { cls:=.type "range",data:=.fields #[.int lo t,.int hi u,.int 1 v] },toks:=tk }:=I.kept λb o e=>bI _ e
 have e1:lo+((0:Nat):Int)*1=lo:=by simp
 have e2:(((hi-lo).toNat:Nat):Int)-((0:Nat):Int)=Es lo hi 1:=by rw [DH];split<;>lia
 have fin:∀b∈[(s.heap.push { cls:=.type "range",data:=.fields #[.int lo t,.int hi u,.int 1 v] }).objs.size],cV X pins H b:=λb hb=>by
  have e:b=(s.heap.push { cls:=.type "range",data:=.fields #[.int lo t,.int hi u,.int 1 v] }).objs.size:=by simpa using hb
  subst e
  exact I1.jC (bh _) (I1.aY.fresh (bh _))
 by_cases NB:Jv lo hi 1=true
 .refine wpAny_pyIter_range (IM ..) NB ?_
  refine ⟨_,[(s.heap.push { cls:=.type "range",data:=.fields #[.int lo t,.int hi u,.int 1 v] }).objs.size],_,_,H,rfl,I1.kept (t':=tk) λb o e=>bI _ e,RR _ lo (hi-lo).toNat,?_,fin,q⟩
  show IsRangeIter _ _ (lo+((0:Nat):Int)*1) ((((hi-lo).toNat:Nat):Int)-((0:Nat):Int)) 1
  rw [e1,e2]
  exact eG _ rfl
 .refine wpAny_pyIter_longrange (IM ..) (by simpa using NB) ?_
  refine ⟨_,[(s.heap.push { cls:=.type "range",data:=.fields #[.int lo t,.int hi u,.int 1 v] }).objs.size],_,_,H,rfl,I1.kept (t':=tk) λb o e=>bI _ e,b0S _ lo (hi-lo).toNat,?_,fin,q⟩
  show IsLongIter _ _ (lo+((0:Nat):Int)*1) ((((hi-lo).toNat:Nat):Int)-((0:Nat):Int)) 1
  rw [e1,e2]
  exact eG _ rfl
noncomputable def b8n(ta:TA):TI:=λσ H R=>ta σ H λvs H1=>∃j:Int,vs=[.int j]/\R (oz 0 j.toNat) H1
theorem b0p(hg:Gl X "range")(hm:X.mg "range" = none)(ha:PA X [a] ta)(hs:starEach [a] X.env=[(false,eval a X.env)]:=by rfl):PI X tg (.Call (.Name "range" p) [a] [] pos) (b8n ta):=by
 intro pins s σ H R I h
 refine Call_ (rW I hg hm boot_range (Bf (a9 (ha pos pins s σ H _ I h) λus s1 ⟨vs,H1,I1,r1,q1⟩=>?_) hs rfl))
 obtain ⟨j,e,q⟩:=q1
 subst e
 cases r1 with
 | cons r rr =>
  cases rr
  obtain ⟨t,rfl⟩:=r
  exact call_range_1 (b1e I1 (by simpa using q))
noncomputable def EH:List D->Option (List D)
 | [.int j]=>some (bD 0 j.toNat)
 | _=>none
noncomputable def yA:List D->Option (List D)
 | [.int i,.int j]=>some (bD i (j-i).toNat)
 | _=>none
theorem b3x(uP:Gl X "range")(hm:X.mg "range" = none)(ha:AV X [a] fs)(h1:starEach [a] X.env=[(false,eval a X.env)]:=by rfl):IV X tg (.Call (.Name "range" p) [a] [] pos) (gC EH fs):=by
 obtain ⟨ti,pi,ki⟩:=ha
 refine ⟨_,b0p uP hm pi h1,λO B σ H env ds R Rl e q=>?_⟩
 obtain ⟨as,e1,e2⟩:=bind_some e
 refine ki O B σ H env as _ Rl e1 λvs H1 s1 r1=>?_
 unfold EH at e2
 split at e2
 .cases e2
  exact ⟨_,Qy r1,q _ H1 s1 (b2X _ _)⟩
 .cases e2
end
end DL
namespace DL
open PySem PySem.Spec PyProof.Rows L2
noncomputable def lY(b:Bool):String:=if b then "list_iterator" else "tuple_iterator"
def fq(b:Bool)(h:Heap)(it l:Addr)(k:Nat):Prop:=match b with
 | true=>h.IsListIter it l k
 | false=>h.IsTupleIter it l k
def g0(b:Bool)(h:Heap)(l:Addr)(items:Array Value):Prop:=match b with
 | true=>h.IsList l items
 | false=>h.IsTuple l items
theorem fq.keep(x:fq b h it l k)(e:∀o,h.get? it=some o->h'.get? it=some o):fq b h' it l k:=by
 cases b with
 | true=>obtain ⟨o,ho,r⟩:=x;exact ⟨o,e _ ho,r⟩
 | false=>obtain ⟨o,ho,r⟩:=x;exact ⟨o,e _ ho,r⟩
theorem g0.keep(x:g0 b h l items)(e:∀o,h.get? l=some o->h'.get? l=some o):g0 b h' l items:=by
 cases b with
 | true=>obtain ⟨o,ho,r⟩:=x;exact ⟨o,e _ ho,r⟩
 | false=>obtain ⟨o,ho,r⟩:=x;exact ⟨o,e _ ho,r⟩
theorem fq.lt(x:fq b h it l k):it<h.objs.size:=by
 cases b with
 | true=>obtain ⟨o,ho,r⟩:=x;exact bJ ho
 | false=>obtain ⟨o,ho,r⟩:=x;exact bJ ho
theorem g0.lt(x:g0 b h l items):l<h.objs.size:=by
 cases b with
 | true=>obtain ⟨o,ho,r⟩:=x;exact bJ ho
 | false=>obtain ⟨o,ho,r⟩:=x;exact bJ ho
theorem fq.jt(x:fq b h it l k):∃o,h.get? it=some o/\∀v,o.data≠.cell v:=by
 cases b with
 | true=>obtain ⟨o,ho,_,d⟩:=x;exact ⟨o,ho,λv z=>by rw [d] at z;cases z⟩
 | false=>obtain ⟨o,ho,_,d⟩:=x;exact ⟨o,ho,λv z=>by rw [d] at z;cases z⟩
section
variable {prog:Program}{w:World}{A:Around}{E:Value->Shared->Prop}{s:Shared}
theorem Fj(hit:fq b s.heap it l i)(hl:g0 b s.heap l items)(hx:items[i]?=some x)
  (hQ:∀h',fq b h' it l (i+1)->A8 it s.heap h'->Q x { s with heap:=h' }):wpAny (model prog w) A (tJ (.ref it)) Q E s:=by
 cases b with
 | true=>exact wpAny_nextOf_list_item hit hl hx hQ
 | false =>
  have ik:s.heap.IsTupleIter it l i:=hit
  obtain ⟨o,ho,hc,hd⟩:=id ik
  obtain ⟨ol,Hn,_,nl,wy⟩:=(show s.heap.IsTuple l items from hl)
  unfold tJ
  refine ar (vv (name:=qt "__next__") ik.typeIs Eh (tD Eh ik.typeIs OK ?_ (OL _)))
  show wpAny _ _ (field (.ref it) 0 >>= _) _ _ s
  refine ar (lK ho hd (x:=.ref l) rfl ?_)
  show wpAny _ _ (if (dN l==fW)=true then _ else _) _ _ s
  rw [if_neg (show ¬((dN l==fW)=true) from my)]
  show wpAny _ _ (field (.ref it) 1 >>= _) _ _ s
  refine ar (lK ho hd (x:=.int i 0) rfl ?_)
  show wpAny _ _ (seqItems? (.ref l) >>= _) _ _ s
  refine ar (pN Hn wy ?_)
  simp only [wJ,hx]
  refine ar (wpAny_setField ho hd (by simp) (aZ ⟨x,rfl,aZ (hQ _ ?_ (OF ..))⟩))
  exact ⟨_,El _ ho (Obj.isFreed_of_fields (Obj.data_mapFields hd _)),(Obj.cls_mapFields ..).trans hc,by rw [Obj.data_mapFields hd];simp [rawInt]⟩
theorem E3(hh:A.handled=none)(hit:fq b s.heap it l i)(hl:g0 b s.heap l items)(hx:items[i]?=none)
  (hE:∀h' e,Heap.ExtBut it s.heap h'->(∃o,h'.get? e=some o/\o.cls=.type "StopIteration")->E (.ref e) { s with heap:=h' }):wpAny (model prog w) A (tJ (.ref it)) Q E s:=by
 cases b with
 | true=>exact wpAny_nextOf_list_end hh hit hl hx hE
 | false =>
  have ik:s.heap.IsTupleIter it l i:=hit
  obtain ⟨o,ho,hc,hd⟩:=id ik
  obtain ⟨ol,Hn,_,nl,wy⟩:=(show s.heap.IsTuple l items from hl)
  unfold tJ
  refine ar (vv (name:=qt "__next__") ik.typeIs Eh (tD Eh ik.typeIs OK ?_ (OL _)))
  show wpAny _ _ (field (.ref it) 0 >>= _) _ _ s
  refine ar (lK ho hd (x:=.ref l) rfl ?_)
  show wpAny _ _ (if (dN l==fW)=true then _ else _) _ _ s
  rw [if_neg (show ¬((dN l==fW)=true) from my)]
  show wpAny _ _ (field (.ref it) 1 >>= _) _ _ s
  refine ar (lK ho hd (x:=.int i 0) rfl ?_)
  show wpAny _ _ (seqItems? (.ref l) >>= _) _ _ s
  refine ar (pN Hn wy ?_)
  simp only [wJ,hx]
  refine ar (vd (ar (wpAny_setField ho hd (by simp) ?_)))
  show wpAny _ _ (newExc (.type "StopIteration") [] >>= _) _ _ _
  refine ar ?_
  simp only [newExc,newTuple]
  refine ar (rH ?_ (by size_fits))
  refine ar (m:=firstArgMember _ _) (wpAny_of_eq (a:=fW) (by first | rfl | (simp only [firstArgMember];rfl)) ?_)
  refine rH ?_ (by size_fits)
  simp only [raiseNew]
  refine ar (wpAny_handled ?_)
  first | rw [show A.in1.handled=none from hh] | rw [hh]
  refine ar (aZ (wpAny_throw ?_))
  exact hE _ _ (((OF ..).extBut.push _).push _) ⟨_,eG _ rfl,rfl⟩
structure FX(z TI TO i1 i2 l1 l2:Addr):Prop where
 a1:TI≠z
 a2:TO≠z
 a3:i1≠z
 a4:i2≠z
 a6:TO≠i1
 a7:TO≠i2
 a8:i1≠i2
 b1:l1≠z
 b2:l1≠TO
 b3:l1≠i1
 b4:l1≠i2
 c1:l2≠z
 c2:l2≠TO
 c3:l2≠i1
 c4:l2≠i2
theorem b2F{b1 b2:Bool}{z TI TO i1 i2 l1 l2:Addr}{k1 k2:Nat}{xs ys:Array Value}{x y a b:Value}{Q:Option Value->Shared->Prop}(D:FX z TI TO i1 i2 l1 l2)
  (hz:IsZip s.heap z TI TO .none)(nM:IsPair s.heap TI (.ref i1) (.ref i2))(oF:IsPair s.heap TO a b)(h1:fq b1 s.heap i1 l1 k1)(h2:fq b2 s.heap i2 l2 k2)(lI:g0 b1 s.heap l1 xs)(gM:g0 b2 s.heap l2 ys)(hx:xs[k1]?=some x)(hy:ys[k2]?=some y)
  (hQ:∀h',IsZip h' z TI TO (rawInt s.heap.objs.size)->IsPair h' TO x y->fq b1 h' i1 l1 (k1+1)->fq b2 h' i2 l2 (k2+1)->IsPair h' s.heap.objs.size x y->h'.objs.size=s.heap.objs.size+1 ->
   (∀c o,c≠z->c≠TO->c≠i1->c≠i2->s.heap.get? c=some o->h'.get? c=some o)->Q (some (.ref s.heap.objs.size)) { s with heap:=h' }):wpAny (model prog w) A (pyNext (.ref z)) Q E s:=by
 have hT:s.TypeIs (.ref z) "zip":=⟨_,hz,rfl⟩
 unfold pyNext
 refine ar (A3 (vv (name:=qt "__next__") hT D6 (tD D6 hT F.entry_zip_next ?_ (F.args_zip_next_1 _))))
 show wpAny _ _ (field (.ref z) 2 >>= _) _ _ _
 refine ar (lK hz rfl (x:=.bool false) rfl ?_)
 show wpAny _ _ (field (.ref z) 3 >>= _) _ _ _
 refine ar (lK hz rfl (x:=.ref TI) rfl (ar (pN nM rfl ?_)))
 show wpAny _ _ (Ew (.ref z) >>= _) _ _ _
 refine ar ?_
 unfold Ew
 refine ar (lK hz rfl (x:=.none) rfl (aZ ?_))
 simp only [if_true]
 refine ar (vd (ar (lK hz rfl (x:=.ref TO) rfl (ar (wK hz (by simp) λg1 sP s1=>?_)))))
 replace sP:IsZip g1 z TI TO .ellipsis:=sP
 refine ar ?_
 simp only [Eb,Jd,A1,List.forIn_nil]
 refine ar (ar (DF ?_))
 show wpAny _ _ (tJ (.ref i1) >>= _) _ _ _
 refine ar (Fj (h1.keep λo e=>s1.extBut _ _ D.a3 e) (lI.keep λo e=>s1.extBut _ _ D.b1 e) hx λg2 NV s2=>aZ ?_)
 have t2:IsPair g2 TO a b:=s2.extBut _ _ D.a6 (s1.extBut _ _ D.a2 oF)
 refine ar (pN t2 rfl (ar (Jz t2 λg3 t3 s3=>?_)))
 replace t3:IsPair g3 TO x b:=t3
 refine ar (tF (aZ (ar (ar (DF ?_)))))
 show wpAny _ _ (tJ (.ref i2) >>= _) _ _ _
 refine ar (Fj (h2.keep λo e=>s3.extBut _ _ D.a7.symm (s2.extBut _ _ D.a8.symm (s1.extBut _ _ D.a4 e))) (gM.keep λo e=>s3.extBut _ _ D.c2 (s2.extBut _ _ D.c3 (s1.extBut _ _ D.c1 e))) hy λg4 X6 s4=>aZ ?_)
 have t4:IsPair g4 TO x b:=s4.extBut _ _ D.a7 t3
 refine ar (pN t4 rfl (ar (Jz t4 λg5 t5 s5=>?_)))
 replace t5:IsPair g5 TO x y:=t5
 refine ar (tF (aZ (aZ (ar (pN t5 rfl (ar (Ji ?_)))))))
 have hsz:g5.objs.size=s.heap.objs.size:=by rw [s5.1,s4.1,s3.1,s2.1,s1.1]
 have Nx:IsZip g5 z TI TO .ellipsis:=s5.extBut _ _ D.a2.symm (s4.extBut _ _ D.a4.symm (s3.extBut _ _ D.a2.symm (s2.extBut _ _ D.a3.symm sP)))
 have k5:∀c o,c≠z->c≠TO->c≠i1->c≠i2->s.heap.get? c=some o->g5.get? c=some o:=λc o c1 c2 c3 c4 e=>s5.extBut _ _ c2 (s4.extBut _ _ c4 (s3.extBut _ _ c2 (s2.extBut _ _ c3 (s1.extBut _ _ c1 e))))
 have j1:fq b1 g5 i1 l1 (k1+1):=NV.keep λo e=>s5.extBut _ _ D.a6.symm (s4.extBut _ _ D.a8 (s3.extBut _ _ D.a6.symm e))
 have j2:fq b2 g5 i2 l2 (k2+1):=X6.keep λo e=>s5.extBut _ _ D.a7.symm e
 have zB:z<g5.objs.size:=bJ Nx
 show wpAny _ _ (OR (.ref z) (.ref g5.objs.size) >>= _) _ _ _
 refine ar ?_
 unfold OR
 have W':IsZip (g5.push { cls:=.type "tuple",data:=.seq #[x,y] }) z TI TO .ellipsis:=bI _ Nx
 refine ar (wK W' (by simp) λg7 G9 s7=>?_)
 replace G9:IsZip g7 z TI TO (rawInt g5.objs.size):=G9
 refine wK G9 (by simp) λg8 Dg s8=>?_
 replace Dg:IsZip g8 z TI TO (rawInt g5.objs.size):=Dg
 have up:∀c o,c≠z->g5.get? c=some o->g8.get? c=some o:=λc o c1 e=>s8.extBut _ _ c1 (s7.extBut _ _ c1 (bI _ e))
 have t8:IsPair g8 g5.objs.size x y:=s8.extBut _ _ (vt zB) (s7.extBut _ _ (vt zB) (eG _ rfl))
 have z8:g8.objs.size=g5.objs.size+1:=by rw [s8.1,s7.1,nR]
 rw [hsz] at Dg t8 z8
 refine aZ ⟨_,rfl,aZ ?_⟩
 show Q (some (.ref g5.objs.size)) _
 rw [hsz]
 exact hQ g8 Dg (up _ _ D.a2 t5) (j1.keep λo e=>up _ o D.a3 e) (j2.keep λo e=>up _ o D.a4 e) t8 z8 λc o c1 c2 c3 c4 e=>up c o c1 (k5 c o c1 c2 c3 c4 e)
theorem b5h{b1 b2:Bool}{z TI TO i1 i2 l1 l2:Addr}{k1 k2:Nat}{xs ys:Array Value}{a b:Value}{Q:Option Value->Shared->Prop}(hh:A.handled=none)(D:FX z TI TO i1 i2 l1 l2)
  (hz:IsZip s.heap z TI TO .none)(nM:IsPair s.heap TI (.ref i1) (.ref i2))(oF:IsPair s.heap TO a b)(h1:fq b1 s.heap i1 l1 k1)(h2:fq b2 s.heap i2 l2 k2)(lI:g0 b1 s.heap l1 xs)(gM:g0 b2 s.heap l2 ys)(HG:xs[k1]?=none\/ys[k2]?=none)
  (hQ:∀h',(∀c o,c≠z->c≠TO->c≠i1->c≠i2->s.heap.get? c=some o->h'.get? c=some o)->Q none { s with heap:=h' }):wpAny (model prog w) A (pyNext (.ref z)) Q E s:=by
 have hT:s.TypeIs (.ref z) "zip":=⟨_,hz,rfl⟩
 unfold pyNext
 have fin:∀(h':Heap) (e:Addr),(∀c o,c≠z->c≠TO->c≠i1->c≠i2->s.heap.get? c=some o->h'.get? c=some o)->(∃o,h'.get? e=some o/\o.cls=.type "StopIteration") ->
   wpAny (model prog w) A (isInstance (.ref e) (.type "StopIteration") >>= λb=>if b=true then pure none else throw (.ref e)) Q E { s with heap:=h' }:=λh' e hk ⟨o,ho,hc⟩ =>
  ar (wpAny_isInstance (T:="StopIteration") (b:=true) ⟨o,ho,hc⟩ isSubtype_stop (aZ (hQ _ hk)))
 refine ar (A3 (vv (name:=qt "__next__") hT D6 (tD D6 hT F.entry_zip_next ?_ (F.args_zip_next_1 _))))
 show wpAny _ _ (field (.ref z) 2 >>= _) _ _ _
 refine ar (lK hz rfl (x:=.bool false) rfl ?_)
 show wpAny _ _ (field (.ref z) 3 >>= _) _ _ _
 refine ar (lK hz rfl (x:=.ref TI) rfl (ar (pN nM rfl ?_)))
 show wpAny _ _ (Ew (.ref z) >>= _) _ _ _
 refine ar ?_
 unfold Ew
 refine ar (lK hz rfl (x:=.none) rfl (aZ ?_))
 simp only [if_true]
 refine ar (vd (ar (lK hz rfl (x:=.ref TO) rfl (ar (wK hz (by simp) λg1 sP s1=>?_)))))
 replace sP:IsZip g1 z TI TO .ellipsis:=sP
 refine ar ?_
 simp only [Eb,Jd,A1,List.forIn_nil]
 refine ar (ar (DF ?_))
 show wpAny _ _ (tJ (.ref i1) >>= _) _ _ _
 cases hx:xs[k1]? with
 | none =>
  refine ar (E3 hh (h1.keep λo e=>s1.extBut _ _ D.a3 e) (lI.keep λo e=>s1.extBut _ _ D.b1 e) hx λg2 e s2 he=>?_)
  obtain ⟨oe,uK,uR⟩:=he
  have wm:IsZip g2 z TI TO .ellipsis:=s2 _ _ D.a3.symm sP
  have HF:e≠z:=λx=>by subst x;rw [wm] at uK;cases uK;simp at uR
  exact wK wm (by simp) λg3 _ s3=>fin g3 e (λc o c1 _ c3 _ x=>s3.extBut _ _ c1 (s2 _ _ c3 (s1.extBut _ _ c1 x))) ⟨oe,s3.extBut _ _ HF uK,uR⟩
 | some x =>
  have hy:ys[k2]?=none:=by rcases HG with h | h;rw [hx] at h;cases h;exact h
  refine ar (Fj (h1.keep λo e=>s1.extBut _ _ D.a3 e) (lI.keep λo e=>s1.extBut _ _ D.b1 e) hx λg2 NV s2=>aZ ?_)
  have t2:IsPair g2 TO a b:=s2.extBut _ _ D.a6 (s1.extBut _ _ D.a2 oF)
  refine ar (pN t2 rfl (ar (Jz t2 λg3 t3 s3=>?_)))
  refine ar (tF (aZ (ar (ar (DF ?_)))))
  show wpAny _ _ (tJ (.ref i2) >>= _) _ _ _
  refine ar (E3 hh (h2.keep λo e=>s3.extBut _ _ D.a7.symm (s2.extBut _ _ D.a8.symm (s1.extBut _ _ D.a4 e))) (gM.keep λo e=>s3.extBut _ _ D.c2 (s2.extBut _ _ D.c3 (s1.extBut _ _ D.c1 e))) hy λg4 e s4 he=>?_)
  obtain ⟨oe,uK,uR⟩:=he
  have Ny:IsZip g4 z TI TO .ellipsis:=s4 _ _ D.a4.symm (s3.extBut _ _ D.a2.symm (s2.extBut _ _ D.a3.symm sP))
  have HF:e≠z:=λx=>by subst x;rw [Ny] at uK;cases uK;simp at uR
  exact wK Ny (by simp) λg5 _ s5=>fin g5 e (λc o c1 c2 c3 c4 x=>s5.extBut _ _ c1 (s4 _ _ c4 (s3.extBut _ _ c2 (s2.extBut _ _ c3 (s1.extBut _ _ c1 x))))) ⟨oe,s5.extBut _ _ HF uK,uR⟩
end
end DL
namespace DL
open PySem PySem.Spec PyProof.Rows L2
section
variable {X:Cx}{pins:List (Addr×Obj)}{σ:L2.St}{H:Hp}{s:Shared}
theorem xk{t':Nat}{h':Heap}{ch:List Addr}(I:Inv X pins σ H s)(hf:∀b∈ch,cV X pins H b)(k:∀b o,b∉ch->s.heap.get? b=some o->h'.get? b=some o):Inv X pins σ H { s with heap:=h',toks:=t' }:=by
 have y4:∀b u,H b=some u->b∉ch:=λb u e z=>by rw [(hf b z).1] at e;cases e
 refine I.step (g':=s.gens) (d':=s.drawn) (ch:=ch) (λb hb=>?_) (λb o _ _ hc e _=>k b o hc e) (λb o _ _ hc e _=>⟨o.slots,k b o hc e⟩) (λ_ _ _ _ n=>n)
  (λb o hc e=>⟨o,k b o hc e⟩) (λ_ _ e=>e) (λ_ _ _ e=>e) (λb ps e=>⟨#[],by rw [e];simp⟩) (λm hm=>?_) (λb u e=>?_) I.bare
 .obtain ⟨_,h1,_,h3,h4,h5⟩:=hf b hb
  exact ⟨h3,h1,h4,h5⟩
 .obtain ⟨o,es,ep,ho,r⟩:=hm
  exact ⟨o,es,ep,k _ o (λz=>(hf _ z).2.1 rfl) ho,r⟩
 .refine (I.aY b u e).jr (λc v hc q=>k c v ?_ q) (λ_ _ _ q=>q) λ_ _ q=>q
  rcases hc with z | z
  .rw [z];exact y4 b u e
  .exact y4 c _ z
theorem oO(I:Inv X pins σ H s)(h:Sq X.K H b l xs):∃ao:List Value,au xs ao/\g0 b s.heap l ao.toArray:=by
 cases b with
 | true=>obtain ⟨ao,r,p,_⟩:=I.list h;exact ⟨ao,r,p.isList⟩
 | false=>obtain ⟨ao,r,p,_⟩:=I.tuple h;exact ⟨ao,r,p⟩
theorem Ki(I:Inv X pins σ H s)(h:Sq X.K H b l xs)(h':Sq X.K H b l ys):xs=ys:=by
 cases b with
 | true=>exact I.h7 h h'
 | false=>exact I.fJ h h'
end
noncomputable def MU(K:aA)(b1 b2:Bool)(l1 l2:Addr):It:=
 ⟨λi H=>∃xs ys x y,Sq K H b1 l1 xs/\Sq K H b2 l2 ys/\xs[i]?=some x/\ys[i]?=some y,
 λi H v H'=>∃p x y,v=.ref p/\H p=none/\H'=upd H p (.tup [x,y])/\(∀xs,Sq K H b1 l1 xs->xs[i]?=some x)/\(∀ys,Sq K H b2 l2 ys->ys[i]?=some y),
 λi H=>∃xs ys,Sq K H b1 l1 xs/\Sq K H b2 l2 ys/\(xs.length<=i\/ys.length<=i)⟩
theorem R9{h:Heap}{c:Addr}{o p:Obj}(hc:c<h.objs.size)(e:(h.push p).get? c=some o):h.get? c=some o:=by
 have q:(h.objs.push p)[c]?=h.objs[c]?:=by rw [Array.getElem?_push,if_neg (dE hc)]
 unfold Heap.get? Heap.push at e
 unfold Heap.get?
 rw [<-q];exact e
theorem b5i(h1:l1<n)(h2:l2<n):FX (n+4) (n+2) (n+3) n (n+1) l1 l2:=by
 have Z:=zipApart_new h1 h2
 exact ⟨Z.1,Z.2,Z.3,Z.4,Z.8,Z.9,Z.10,Z.11,Z.12,Z.13,Z.14,Z.15,Z.16,Z.17,Z.18⟩
theorem b2J{P:Program}{w:World}{K:aA}{elts:List Expr}{kk:Nat}{pos:Pos}{b1 b2:Bool}{z TI TO i1 i2 l1 l2:Addr}(D:FX z TI TO i1 i2 l1 l2)(d1:TI≠TO)(d2:TI≠i1)(d3:TI≠i2):
  Turn P w K (.Tuple elts kk pos) (MU K b1 b2 l1 l2) [z,TI,TO,i1,i2] z (λi h=>IsZip h z TI TO .none/\IsPair h TI (.ref i1) (.ref i2)/\(∃a b,IsPair h TO a b)/\fq b1 h i1 l1 i/\fq b2 h i2 l2 i) where
 mem:=by simp
 obj:=λi h ⟨hz,nM,⟨a,b,oF⟩,h1,h2⟩ c hc=>by
  simp only [bH,gO,or_false] at hc
  rcases hc with rfl | rfl | rfl | rfl | rfl
  .exact ⟨_,hz,λv q=>nomatch (show DV _=wC v from q)⟩
  .exact ⟨_,nM,λv q=>nomatch (show Data.seq _ _=wC v from q)⟩
  .exact ⟨_,oF,λv q=>nomatch (show Data.seq _ _=wC v from q)⟩
  .exact h1.jt
  .exact h2.jt
 keep:=λi h h' ⟨hz,nM,⟨a,b,oF⟩,h1,h2⟩ k=>⟨k z (by simp) _ hz,k TI (by simp) _ nM,⟨a,b,k TO (by simp) _ oF⟩,h1.keep λo e=>k i1 (by simp) o e,h2.keep λo e=>k i2 (by simp) o e⟩
 item:=by
  intro X hP hw hK hc i pins s σ H E I hf ⟨hz,nM,⟨a,b,oF⟩,h1,h2⟩ hg
  subst hP hw hK
  obtain ⟨xs,ys,x,y,q1,q2,hx,hy⟩:=hg
  obtain ⟨zm,r1,p1⟩:=oO I q1
  obtain ⟨cQ,r2,p2⟩:=oO I q2
  obtain ⟨u1,Di,Ud⟩:=r1.get hx
  obtain ⟨u2,Hg,Uc⟩:=r2.get hy
  refine b2F D hz nM oF h1 h2 p1 p2 (by simpa using Di) (by simpa using Hg) λh' z8 t8 j1 j2 nw sz kp=>?_
  refine ⟨_,rfl,wpAny_letOwnedTupleGo_zip (s:={ s with heap:=h' }) z8 λh9 z9 sb=>?_⟩
  have fresh:H s.heap.objs.size=none:=I.aY.fresh (bh _)
  have aT:∀c∈[z,TO,i1,i2],c<s.heap.objs.size:=λc hc=>by
   simp only [bH,gO,or_false] at hc
   rcases hc with rfl | rfl | rfl | rfl
   .exact bJ hz
   .exact bJ oF
   .exact h1.lt
   .exact h2.lt
  have up:∀c o,c∉[z,TO,i1,i2]->s.heap.get? c=some o->h9.get? c=some o:=λc o hc e=>by
   simp only [bH,gO,or_false,not_or] at hc
   exact sb.extBut _ _ hc.1 (kp c o hc.1 hc.2.1 hc.2.2.1 hc.2.2.2 e)
  have nz:s.heap.objs.size≠z:=vt (aT z (by simp))
  have GI:IsPair h9 s.heap.objs.size u1 u2:=sb.extBut _ _ nz nw
  have I1:Inv X pins σ (upd H s.heap.objs.size (.tup [x,y])) { s with heap:=s.heap.push { cls:=.type "tuple",data:=.seq #[u1,u2] },toks:=s.toks }:=
   I.laid (λb o e=>bI _ e) (bh _) ⟨by simp [sizeLine],[u1,u2],.cons Ud (.cons Uc .nil),⟨_,eG _ rfl,rfl,_,rfl⟩⟩
  have I2:Inv X pins σ (upd H s.heap.objs.size (.tup [x,y])) { s with heap:=h9,toks:=s.toks }:=xk (s:={ s with heap:=s.heap.push { cls:=.type "tuple",data:=.seq #[u1,u2] },toks:=s.toks }) (ch:=[z,TO,i1,i2]) (t':=s.toks) I1 (λc hc=>by
    obtain ⟨f0,f1,f2,f3,f4,f5⟩:=hf c (by simp only [bH,gO,or_false] at hc ⊢;grind)
    exact ⟨by rw [cL (dE (aT c hc))];exact f0,f1,f2,f3,f4,f5⟩) λc o hc e=>by
   by_cases hs:c<s.heap.objs.size
   .exact up c o hc (R9 hs e)
   .have rg:c=s.heap.objs.size:=by
     have:=bJ e
     rw [nR] at this
     exact D5 (Nat.lt_succ_iff.mp this) (IY hs)
    subst rg
    have e2:(s.heap.push { cls:=.type "tuple",data:=.seq #[u1,u2] }).get? s.heap.objs.size=some _:=eG _ rfl
    rw [e2] at e;cases e
    exact GI
  refine ⟨.ref s.heap.objs.size,_,I2,rfl,⟨_,x,y,rfl,fresh,rfl,λzs uD=>by rw [Ki I uD q1];exact hx,λzs uD=>by rw [Ki I uD q2];exact hy⟩,⟨z9,up TI _ (by simp [d1,d2,d3,D.a1]) nM,⟨u1,u2,sb.extBut _ _ D.a2 t8⟩,j1.keep λo e=>sb.extBut _ _ D.a3 e,j2.keep λo e=>sb.extBut _ _ D.a4 e⟩,λc hc=>?_⟩
  rw [cL ?_]
  .exact (hf c hc).1
  .simp only [bH,gO,or_false] at hc
   rcases hc with rfl | rfl | rfl | rfl | rfl
   .exact dE (aT _ (by simp))
   .exact dE (bJ nM)
   .exact dE (aT _ (by simp))
   .exact dE (aT _ (by simp))
   .exact dE (aT _ (by simp))
 done:=by
  intro X hP hw hK hc i pins s σ H E I hf ⟨hz,nM,⟨a,b,oF⟩,h1,h2⟩ hg
  subst hP hw hK
  obtain ⟨xs,ys,q1,q2,hl⟩:=hg
  obtain ⟨zm,r1,p1⟩:=oO I q1
  obtain ⟨cQ,r2,p2⟩:=oO I q2
  have e1:=r1.length
  have e2:=r2.length
  refine b5h (I.ok.hd hc) D hz nM oF h1 h2 p1 p2 ?_ λh' kp=>⟨rfl,xk (ch:=[z,TO,i1,i2]) (t':=s.toks) I (λc hc=>hf c (by simp only [bH,gO,or_false] at hc ⊢;grind)) λc o hc e=>?_⟩
  .rcases hl with hl | hl
   .exact .inl (by simp;ext e1 hl)
   .exact .inr (by simp;ext e2 hl)
  .simp only [bH,gO,or_false,not_or] at hc
   exact kp c o hc.1 hc.2.1 hc.2.2.1 hc.2.2.2 e
 self:=λ_ _ _ _ _ st h=>wpAny_pyIter_zip st.1 h
noncomputable abbrev CT(b1:Bool)(h:Heap)(l1:Addr):Heap:=h.push { cls:=.type (lY b1),data:=.fields #[.ref l1,.int 0 0] }
noncomputable abbrev CS(b1 b2:Bool)(h:Heap)(l1 l2:Addr):Heap:=(CT b1 h l1).push { cls:=.type (lY b2),data:=.fields #[.ref l2,.int 0 0] }
noncomputable abbrev CQ(b1 b2:Bool)(h:Heap)(l1 l2:Addr):Heap:=(CS b1 b2 h l1 l2).push { cls:=.type "tuple",data:=.seq #[.ref h.objs.size,.ref (CT b1 h l1).objs.size] }
noncomputable abbrev sA(b1 b2:Bool)(h:Heap)(l1 l2:Addr):Heap:=(CQ b1 b2 h l1 l2).push { cls:=.type "tuple",data:=.seq #[.none,.none] }
noncomputable abbrev oW(b1 b2:Bool)(h:Heap)(l1 l2:Addr):Heap:=(sA b1 b2 h l1 l2).push { cls:=.type "zip",data:=.fields #[.none,.bool false,.bool false,.ref (CS b1 b2 h l1 l2).objs.size,.ref (CQ b1 b2 h l1 l2).objs.size] }
theorem a7Z(l1 l2:Addr)(xs ys:Array Value):Meets (Builtin.«zip.__new__» ⟨[.type "zip",.ref l1,.ref l2],[]⟩) (λ_ R s=>s.heap.IsList l1 xs/\s.heap.IsList l2 ys/\R (.ok (.ret (.ref (sA true true s.heap l1 l2).objs.size))) { s with heap:=oW true true s.heap l1 l2 }):=
 .of_wp λprog w A R s h=>by
  obtain ⟨hp,g,d,tk,os⟩:=s;obtain ⟨lI,gM,h⟩:=h
  have jw:=sub_zip
  have uW:DU (rD ⟨hp,g,d,tk,os⟩) l1 xs:=lI
  have uV:DU (rD ⟨hp.push { cls:=.type "list_iterator",data:=.fields #[.ref l1,.int 0 0] },g,d,tk,os⟩) l2 ys:=Of gM _
  wp_walk using wI uW,wI uV
  exact ⟨_,rfl,h⟩
theorem a70(l1 l2:Addr)(xs ys:Array Value):Meets (Builtin.«zip.__new__» ⟨[.type "zip",.ref l1,.ref l2],[]⟩) (λ_ R s=>s.heap.IsList l1 xs/\s.heap.IsTuple l2 ys/\R (.ok (.ret (.ref (sA true false s.heap l1 l2).objs.size))) { s with heap:=oW true false s.heap l1 l2 }):=
 .of_wp λprog w A R s h=>by
  obtain ⟨hp,g,d,tk,os⟩:=s;obtain ⟨lI,gM,h⟩:=h
  have jw:=sub_zip
  have uW:DU (rD ⟨hp,g,d,tk,os⟩) l1 xs:=lI
  have uV:A7 (rD ⟨hp.push { cls:=.type "list_iterator",data:=.fields #[.ref l1,.int 0 0] },g,d,tk,os⟩) l2 ys:=g0.keep (b:=false) gM λo e=>bI _ e
  wp_walk using wI uW,rM uV
  exact ⟨_,rfl,h⟩
theorem a71(l1 l2:Addr)(xs ys:Array Value):Meets (Builtin.«zip.__new__» ⟨[.type "zip",.ref l1,.ref l2],[]⟩) (λ_ R s=>s.heap.IsTuple l1 xs/\s.heap.IsList l2 ys/\R (.ok (.ret (.ref (sA false true s.heap l1 l2).objs.size))) { s with heap:=oW false true s.heap l1 l2 }):=
 .of_wp λprog w A R s h=>by
  obtain ⟨hp,g,d,tk,os⟩:=s;obtain ⟨lI,gM,h⟩:=h
  have jw:=sub_zip
  have uW:A7 (rD ⟨hp,g,d,tk,os⟩) l1 xs:=lI
  have uV:DU (rD ⟨hp.push { cls:=.type "tuple_iterator",data:=.fields #[.ref l1,.int 0 0] },g,d,tk,os⟩) l2 ys:=Of gM _
  wp_walk using rM uW,wI uV
  exact ⟨_,rfl,h⟩
theorem a72(l1 l2:Addr)(xs ys:Array Value):Meets (Builtin.«zip.__new__» ⟨[.type "zip",.ref l1,.ref l2],[]⟩) (λ_ R s=>s.heap.IsTuple l1 xs/\s.heap.IsTuple l2 ys/\R (.ok (.ret (.ref (sA false false s.heap l1 l2).objs.size))) { s with heap:=oW false false s.heap l1 l2 }):=
 .of_wp λprog w A R s h=>by
  obtain ⟨hp,g,d,tk,os⟩:=s;obtain ⟨lI,gM,h⟩:=h
  have jw:=sub_zip
  have uW:A7 (rD ⟨hp,g,d,tk,os⟩) l1 xs:=lI
  have uV:A7 (rD ⟨hp.push { cls:=.type "tuple_iterator",data:=.fields #[.ref l1,.int 0 0] },g,d,tk,os⟩) l2 ys:=g0.keep (b:=false) gM λo e=>bI _ e
  wp_walk using rM uW,rM uV
  exact ⟨_,rfl,h⟩
theorem b0x(b1 b2:Bool)(l1 l2:Addr)(xs ys:Array Value):Meets (Builtin.«zip.__new__» ⟨[.type "zip",.ref l1,.ref l2],[]⟩) (λ_ R s=>g0 b1 s.heap l1 xs/\g0 b2 s.heap l2 ys/\R (.ok (.ret (.ref (sA b1 b2 s.heap l1 l2).objs.size))) { s with heap:=oW b1 b2 s.heap l1 l2 }):=by
 cases b1<;>cases b2
 .exact a72 l1 l2 xs ys
 .exact a71 l1 l2 xs ys
 .exact a70 l1 l2 xs ys
 .exact a7Z l1 l2 xs ys
section
variable {prog:Program}{w:World}{A:Around}{E:Value->Shared->Prop}{s:Shared}
theorem KI(e:h.get? it=some { cls:=.type (lY b),data:=.fields #[.ref l,.int 0 0] }):fq b h it l 0:=by
 cases b with
 | true=>exact ⟨_,e,rfl,rfl⟩
 | false=>exact ⟨_,e,rfl,rfl⟩
theorem b2d(lI:g0 b1 s.heap l1 xs)(gM:g0 b2 s.heap l2 ys)
  (h:∀h',IsZip h' (s.heap.objs.size+4) (s.heap.objs.size+2) (s.heap.objs.size+3) .none->IsPair h' (s.heap.objs.size+2) (.ref s.heap.objs.size) (.ref (s.heap.objs.size+1)) ->
   IsPair h' (s.heap.objs.size+3) .none .none->fq b1 h' s.heap.objs.size l1 0->fq b2 h' (s.heap.objs.size+1) l2 0->h'.objs.size=s.heap.objs.size+5 ->
   (∀c o,s.heap.get? c=some o->h'.get? c=some o)->Q (.ref (s.heap.objs.size+4)) { s with heap:=h' }):
  wpAny (model prog w) A (call (.type "zip") [.ref l1,.ref l2]) Q E s:=by
 refine callType_new F.called_zip (by decide) (F.typeCall_zip_2 _ _) (F.newCall_zip_2 _ _) (λobj=>F.args_object_init_3 obj _ _) F.entry_zip_new (b0x b1 b2 l1 l2 xs ys) ⟨lI,gM,?_⟩
 have z1:(CT b1 s.heap l1).objs.size=s.heap.objs.size+1:=nR ..
 have z2:(CS b1 b2 s.heap l1 l2).objs.size=s.heap.objs.size+2:=by rw [nR,z1]
 have z3:(CQ b1 b2 s.heap l1 l2).objs.size=s.heap.objs.size+3:=by rw [nR,z2]
 have z4:(sA b1 b2 s.heap l1 l2).objs.size=s.heap.objs.size+4:=by rw [nR,z3]
 have z5:(oW b1 b2 s.heap l1 l2).objs.size=s.heap.objs.size+5:=by rw [nR,z4]
 have g5:(oW b1 b2 s.heap l1 l2).get? (sA b1 b2 s.heap l1 l2).objs.size=some _:=eG _ rfl
 have g4:(oW b1 b2 s.heap l1 l2).get? (CQ b1 b2 s.heap l1 l2).objs.size=some _:=bI _ (eG _ rfl)
 have g3:(oW b1 b2 s.heap l1 l2).get? (CS b1 b2 s.heap l1 l2).objs.size=some _:=bI _ (bI _ (eG _ rfl))
 have g2:(oW b1 b2 s.heap l1 l2).get? (CT b1 s.heap l1).objs.size=some _:=bI _ (bI _ (bI _ (eG _ rfl)))
 have g1:(oW b1 b2 s.heap l1 l2).get? s.heap.objs.size=some _:=bI _ (bI _ (bI _ (bI _ (eG _ rfl))))
 show _/\_
 rw [z2,z3,z4] at g5
 rw [z1,z2] at g3
 rw [z3] at g4
 rw [z1] at g2
 rw [z4]
 exact ⟨⟨_,g5,rfl⟩,h _ g5 g3 g4 (KI g1) (KI g2) z5 λc o x =>
  bI _ (bI _ (bI _ (bI _ (bI _ x))))⟩
end
section
variable {X:Cx}{elts:List Expr}{kk:Nat}{tp:Pos}
noncomputable def G3(K:aA)(ta:TA):TI:=λσ H R=>ta σ H λvs H1=>∃b1 b2 l1 l2 xs ys,vs=[.ref l1,.ref l2]/\Sq K H1 b1 l1 xs/\Sq K H1 b2 l2 ys/\R (MU K b1 b2 l1 l2) H1
theorem b7O{a b:Expr}{ta:TA}{p pos:Pos}(hg:Gl X "zip")(hm:X.mg "zip" = none)(ha:PA X [a,b] ta)(hs:starEach [a,b] X.env=[(false,eval a X.env),(false,eval b X.env)]:=by rfl)(ig:starEach [b] X.env=[(false,eval b X.env)]:=by rfl):
  PI X (.Tuple elts kk tp) (.Call (.Name "zip" p) [a,b] [] pos) (G3 X.K ta):=by
 intro pins s σ H R I h
 refine Call_ (rW I hg hm boot_zip (Bf (a9 (ha pos pins s σ H _ I h) λus s1 ⟨vs,H1,I1,r1,q1⟩=>?_) (by rw [hs,ig]) (by rw [ig];rfl)))
 obtain ⟨b1,b2,l1,l2,xs,ys,e,q1,q2,q⟩:=q1
 subst e
 cases r1 with
 | cons r rr =>
  cases rr with
  | cons r' rr =>
   cases rr
   cases r
   cases r'
   obtain ⟨zm,Ug,p1⟩:=oO I1 q1
   obtain ⟨cQ,rr2,p2⟩:=oO I1 q2
   refine b2d p1 p2 λh' z0 t0 o0 j1 j2 sz kp=>?_
   refine wpAny_pyIter_zip (s:={ s1 with heap:=h' }) z0 ?_
   have Nl:=p1.lt
   have ze:=p2.lt
   have D:=b5i Nl ze
   have Z:=zipApart_new Nl ze
   have ge:∀c∈[s1.heap.objs.size+4,s1.heap.objs.size+2,s1.heap.objs.size+3,s1.heap.objs.size,s1.heap.objs.size+1],s1.heap.objs.size<=c:=λc hc=>by
    simp only [bH,gO,or_false] at hc
    rcases hc with rfl | rfl | rfl | rfl | rfl
    .exact tN _ _
    .exact tN _ _
    .exact tN _ _
    .exact bh _
    .exact tN _ _
   exact ⟨_,_,_,_,H1,rfl,I1.kept (t':=s1.toks) kp,b2J D Z.5 Z.6 Z.7,⟨z0,t0,⟨_,_,o0⟩,j1,j2⟩,λc hc=>I1.jC (ge c hc) (I1.aY.fresh (ge c hc)),q⟩
noncomputable def gu(a b:List D):List D:=pM (λd e=>D.tup [d,e]) a b
noncomputable def iO:List D->Option (List D)
 | [a,b]=>(eQ a).bind λp=>(eQ b).map λq=>gu p.2 q.2
 | _=>none
theorem b2E{K:aA}{O:Addr->Prop}{H:Hp}{b1 b2:Bool}{l1 l2:Addr}{xs ys:List V}{as bs:List D}(h1:Sq K H b1 l1 xs)(i1:aK K O H xs as)(n1:¬O l1\/∀H',Sq K H' b1 l1 xs)(h2:Sq K H b2 l2 ys)(i2:aK K O H ys bs)(n2:¬O l2\/∀H',Sq K H' b2 l2 ys):
  xh K O (MU K b1 b2 l1 l2) H (gu as bs):=λO' H2 kp hO i=>by
 have key:∀{b:Bool} {l:Addr} {zs:List V} {cs:List D},Sq K H b l zs->aK K O H zs cs->(¬O l\/∀H',Sq K H' b l zs)->Sq K H2 b l zs/\aK K O' H2 zs cs:=λ{b l zs cs} h1 i1 n1=>by
  refine ⟨?_,i1.map (λq hq hn=>?_) λq u e n=>(kp q u e n).1⟩
  .rcases n1 with h3 | h3
   .exact KJ (λq u e n=>(kp q u e n).1) h1 h3
   .exact h3 H2
  .cases e:H q with
   | none=>exact (hq e).elim
   | some u=>exact (kp q u e hn).2
 obtain ⟨p1,s1⟩:=key h1 i1 n1
 obtain ⟨p2,s2⟩:=key h2 i2 n2
 refine ⟨λd hd=>?_,λhl=>⟨xs,ys,p1,p2,?_⟩⟩
 .unfold gu at hd
  rw [Jm] at hd
  cases ea:as[i]? with
  | none=>simp [ea] at hd
  | some da =>
   cases eb:bs[i]? with
   | none=>simp [ea,eb] at hd
   | some db =>
    simp only [ea,eb] at hd
    cases hd
    obtain ⟨x,hx,dx⟩:=s1.get ea
    obtain ⟨y,hy,dy⟩:=s2.get eb
    refine ⟨⟨xs,ys,x,y,p1,p2,hx,hy⟩,λv H3 hv=>?_⟩
    obtain ⟨p,x',y',rfl,hp,rfl,f1,f2⟩:=hv
    have e1:=f1 xs p1
    have e2:=f2 ys p2
    rw [hx] at e1;cases e1
    rw [hy] at e2;cases e2
    have sm:aq H2 (upd H2 p (.tup [x,y])):=λq u e=>by rw [cL (j' e hp)];exact e
    exact ⟨sm,.tup (λz=>hO p z hp) (.inl lW) (.cons (dx.grow sm) (.cons (dy.grow sm) .nil))⟩
 .have e1:=s1.length
  have e2:=s2.length
  simp only [gu,Jw] at hl
  ext e1 e2 hl
theorem ET{a b:Expr}{fs:En->Option (List D)}{p pos:Pos}(uP:Gl X "zip")(hm:X.mg "zip" = none)(ha:AV X [a,b] fs)(h1:starEach [a,b] X.env=[(false,eval a X.env),(false,eval b X.env)]:=by rfl)
  (h2:starEach [b] X.env=[(false,eval b X.env)]:=by rfl):IV X (.Tuple elts kk tp) (.Call (.Name "zip" p) [a,b] [] pos) (gC iO fs):=by
 obtain ⟨ti,pi,ki⟩:=ha
 refine ⟨_,b7O uP hm pi h1 h2,λO B σ H env ds R Rl e q=>?_⟩
 obtain ⟨as,e1,e2⟩:=bind_some e
 refine ki O B σ H env as _ Rl e1 λvs H1 s1 r1=>?_
 unfold iO at e2
 split at e2
 .rename_i da db
  obtain ⟨⟨k1,as⟩,ea,e2⟩:=bind_some e2
  obtain ⟨⟨k2,bs⟩,eb,e2⟩:=map_some e2
  cases e2
  cases r1 with
  | cons ra rr =>
   cases rr with
   | cons rb rr =>
    cases rr
    obtain ⟨l1,xs,rfl,g1,i1,n1⟩:=ra.nH ea
    obtain ⟨l2,ys,rfl,g2,i2,n2⟩:=rb.nH eb
    exact ⟨k1,k2,l1,l2,xs,ys,rfl,g1,g2,q _ H1 s1 (b2E g1 i1 n1 g2 i2 n2)⟩
 .cases e2
end
end DL
namespace DL
open PySem PySem.Spec PyProof.Rows L2
section
variable {prog:Program}{w:World}{A:Around}{E:Value->Shared->Prop}{s:Shared}
end
section
variable {X:Cx}
noncomputable def nZ(lo:Int)(n:Nat):List V:=(eH n).map λ(k:Nat)=>V.int (lo+k)
theorem b0f{lo:Int}:∀{n:Nat} {ao:List Value},ao.length=n->(∀(j:Nat) (v:Value),ao[j]?=some v->∃t,v=jk (lo+j*1) t)->au (nZ lo n) ao:=by
 intro n ao hl h
 have key:∀(m:Nat) (k:Nat) (ys:List Value),ys.length=m->(∀(j:Nat) (v:Value),ys[j]?=some v->∃t,v=jk (lo+(k+j:Nat)) t)->au ((List.range' k m).map λ(k:Nat)=>V.int (lo+k)) ys:=by
  intro m
  induction m with
  | zero =>
   intro k ys hy _
   rw [Bb.mp hy]
   exact .nil
  | succ m ih =>
   intro k ys hy hh
   cases ys with
   | nil=>cases hy
   | cons y ys =>
    rw [List.range'_succ,fF]
    refine .cons ?_ (ih (k+1) ys (by simpa using hy) λj v e=>?_)
    .obtain ⟨t,e⟩:=hh 0 y rfl
     exact ⟨t,by simpa using e⟩
    .obtain ⟨t,e'⟩:=hh (j+1) v (by simpa using e)
     exact ⟨t,by rw [e',show k+(j+1)=k+1+j by ext]⟩
 unfold nZ
 rw [List.range_eq_range']
 exact key n 0 ao hl λj v e=>by
  obtain ⟨t,e'⟩:=h j v e
  exact ⟨t,by rw [e',AW,rE]⟩
noncomputable def Ph(fs:En->Option (List D)):En->Option Sl:=λenv=>(fs env).bind λds=>match ds with
 | [.int i,.int j]=>if (j-i).toNat<=16777216 then some (.ow (bD i (j-i).toNat)) else none
 | _=>none
theorem Qg{K:aA}{O:Addr->Prop}{H:Hp}(lo:Int)(n:Nat):aK K O H (nZ lo n) (bD lo n):=by
 unfold nZ bD
 have:=aK.ints (K:=K) (O:=O) (H:=H) ((eH n).map λ(k:Nat)=>lo+(k:Int))
 rw [dS,dS] at this
 exact this
end
end DL
namespace DL
open PySem PySem.Spec PyProof.Rows L2
theorem a9f(l:Addr)(items:Array Value)(n:Nat)(fy:Option Addr)(sl:Array (Option Value)):
  Meets (Builtin.«enumerate.__new__» ⟨[.type "enumerate",.ref l],[]⟩) (λ_ R s=>s.heap.get? l=some { cls:=.type "tuple",dict:=fy,data:=.seq items n,slots:=sl } /\
   R (.ok (.ret (.ref (s.heap.push { cls:=.type (lY false),data:=.fields #[.ref l,.int 0 0] }).objs.size)))
    { s with heap:=(s.heap.push { cls:=.type (lY false),data:=.fields #[.ref l,.int 0 0] }).push { cls:=.type "enumerate",data:=.fields #[.none,.bool false,.ref s.heap.objs.size,rawInt 0,.none,.none] } }):=
 .of_wp λprog w A R s h=>by
  obtain ⟨hp,g,d,tk,os⟩:=s;obtain ⟨hl,h⟩:=h
  have sub:=sub_enumerate
  have hL:A7 (rD ⟨hp,g,d,tk,os⟩) l items:=⟨_,hl,rfl,n,rfl⟩
  wp_walk using Et hl
  refine wpAny_stack_any λst=>aZ ?_
  split
  .rename_i c _ _ _ _ _
   cases (c==tx "enumerate")
   .wp_walk using Et hl,rM hL
    exact ⟨_,rfl,h⟩
   .wp_walk using Et hl,rM hL
    exact ⟨_,rfl,h⟩
  .wp_walk using Et hl,rM hL
   exact ⟨_,rfl,h⟩
section
variable {prog:Program}{w:World}{A:Around}{E:Value->Shared->Prop}{s:Shared}
theorem b1Y(hL:g0 b s.heap l items)
  (h:∀h',IsEnum h' (s.heap.objs.size+1) s.heap.objs.size 0 .none->fq b h' s.heap.objs.size l 0->h'.objs.size=s.heap.objs.size+2 ->
   (∀c o,s.heap.get? c=some o->h'.get? c=some o)->Q (.ref (s.heap.objs.size+1)) { s with heap:=h' }):
  wpAny (model prog w) A (call (.type "enumerate") [.ref l]) Q E s:=by
 cases b with
 | true=>exact call_enumerate_list hL h
 | false =>
  obtain ⟨⟨c,fy,dt,sl⟩,hl,hc,n,hd⟩:=(show s.heap.IsTuple l items from hL)
  replace hc:c=.type "tuple":=hc
  replace hd:dt=.seq items n:=hd
  subst hc hd
  refine callType_new F.called_enumerate (by decide) (F.typeCall_enumerate_1 _) (F.newCall_enumerate_1 _) (λobj=>F.args_object_init_2 obj _) F.entry_enumerate_new (a9f l items n fy sl) ⟨hl,?_⟩
  have hz:(s.heap.push { cls:=.type (lY false),data:=.fields #[.ref l,.int 0 0] }).objs.size=s.heap.objs.size+1:=nR ..
  show _/\_
  rw [hz]
  have he:=eG (s.heap.push { cls:=.type (lY false),data:=.fields #[.ref l,.int 0 0] })
    (o:={ cls:=.type "enumerate",data:=.fields #[.none,.bool false,.ref s.heap.objs.size,rawInt 0,.none,.none] }) rfl
  rw [hz] at he
  exact ⟨⟨_,he,rfl⟩,h _ he (KI (bI _ (eG _ rfl))) (by rw [nR,hz]) λb o x=>bI _ (bI _ x)⟩
theorem b0G(hh:A.handled=none)(it l:Addr)(bP:l≠it)(items:Array Value):
  Draws prog w A it [it,l] items.size (λi v=>items[i]?=some v) (λi h=>fq b h it l i/\g0 b h l items) where
 live:=λ_ _ st=>let ⟨o,ho,_⟩:=st.1.jt;⟨o,ho⟩
 frame:=λ_ _ _ st hk=>⟨st.1.keep λo e=>hk it (by simp) o e,st.2.keep λo e=>hk l (by simp) o e⟩
 item:=λi s Q E hi st hQ=>by
  refine Fj st.1 st.2 (x:=items[i]) (by simp [hi]) λh' ik md=>?_
  exact hQ _ h' s.toks (by simp [hi]) ⟨ik,st.2.keep λo e=>md.extBut _ _ bP e⟩ md
 done:=λs Q E st hE=>E3 hh st.1 st.2 (by simp) hE
theorem b3P{b:Bool}{i:Nat}(hh:A.handled=none)
  (he:IsEnum s.heap e it i old)(hit:fq b s.heap it l i)(hl:g0 b s.heap l items)(hx:items[i]?=none)
  (hQ:∀h',Heap.ExtBut it s.heap h'->Q none { s with heap:=h' }):wpAny (model prog w) A (pyNext (.ref e)) Q E s:=by
 have hT:s.TypeIs (.ref e) "enumerate":=⟨_,he,rfl⟩
 unfold pyNext
 refine ar (A3 (vv (name:=qt "__next__") hT Oy (tD Oy hT F.entry_enumerate_next ?_ (F.args_enumerate_next_1 _))))
 show wpAny _ _ (field (.ref e) 2 >>= _) _ _ _
 refine ar (lK he rfl (x:=.ref it) rfl ?_)
 refine ar (E3 hh hit hl hx λh' x XH jX=>?_)
 obtain ⟨o,ho,hc⟩:=jX
 exact ar (wpAny_isInstance (T:="StopIteration") (b:=true) ⟨o,ho,hc⟩ isSubtype_stop (aZ (hQ _ XH)))
theorem b6i(he:IsEnum h e it i old)(hl:g0 b h l items):e≠l:=λz=>by
 subst z
 have q:∃o,h.get? e=some o/\∃xs n,o.data=.seq xs n:=by
  cases b with
  | true=>obtain ⟨o,ho,_,n,hd⟩:=hl;exact ⟨o,ho,_,n,hd⟩
  | false=>obtain ⟨o,ho,_,n,hd⟩:=hl;exact ⟨o,ho,_,n,hd⟩
 obtain ⟨o,ho,xs,n,hd⟩:=q
 have:=he.symm.trans ho
 cases this
 cases hd
theorem zq(hi:fq b h it l i)(hl:g0 b h l items):l≠it:=λz=>by
 subst z
 cases b with
 | true=>obtain ⟨o,ho,_,n,hd⟩:=hl;obtain ⟨o',jy,_,pG⟩:=hi;rw [ho] at jy;cases jy;rw [hd] at pG;cases pG
 | false=>obtain ⟨o,ho,_,n,hd⟩:=hl;obtain ⟨o',jy,_,pG⟩:=hi;rw [ho] at jy;cases jy;rw [hd] at pG;cases pG
end
noncomputable def MV(K:aA)(b:Bool)(l:Addr):It:=
 ⟨λi H=>∃xs x,Sq K H b l xs/\xs[i]?=some x,
 λi H v H'=>∃p x,v=.ref p/\H p=none/\H'=upd H p (.tup [.int i,x])/\∀xs,Sq K H b l xs->xs[i]?=some x,
 λi H=>∃xs,Sq K H b l xs/\xs.length<=i⟩
theorem b0U{P:Program}{w:World}{K:aA}{elts:List Expr}{kk:Nat}{pos:Pos}{b:Bool}{e it l:Addr}(d1:e≠it):Turn P w K (.Tuple elts kk pos) (MV K b l) [e,it] e (λi h=>(∃old,IsEnum h e it (i:Int) old)/\fq b h it l i) where
 mem:=by simp
 obj:=λi h ⟨⟨old,he⟩,hit⟩ c hc=>by
  simp only [bH,gO,or_false] at hc
  rcases hc with rfl | rfl
  .exact ⟨_,he,λv q=>nomatch (show DV _=wC v from q)⟩
  .exact hit.jt
 keep:=λi h h' ⟨⟨old,he⟩,hit⟩ k=>⟨⟨old,k e (by simp) _ he⟩,hit.keep λo x=>k it (by simp) o x⟩
 item:=by
  intro X hP hw hK hc i pins s σ H E I hf ⟨⟨old,he⟩,hit⟩ hg
  subst hP hw hK
  obtain ⟨xs,x,q1,hx⟩:=hg
  obtain ⟨ao,r1,p1⟩:=oO I q1
  obtain ⟨u,hu,ru⟩:=r1.get hx
  refine wpAny_pyNext_enum_itemD (b0G (A:=X.A.in1) (I.ok.hd hc) it l (zq hit p1) ao.toArray) he ⟨hit,p1⟩ (by have:=iu.mp hu;simpa using this.1) d1 (by simp [d1,b6i he p1]) λx' h' tk jX sW ik ht sz kp=>?_
  have Dw:u=x':=by simpa [hu] using jX
  subst Dw
  refine ⟨_,rfl,wpAny_letOwnedTupleGo_enum (s:={ s with heap:=h',toks:=tk+1 }) sW λh9 XG sb=>?_⟩
  have fresh:H s.heap.objs.size=none:=I.aY.fresh (bh _)
  have aT:∀c∈[e,it],c<s.heap.objs.size:=λc hc=>by
   simp only [bH,gO,or_false] at hc
   rcases hc with rfl | rfl
   .exact bJ he
   .exact hit.lt
  have up:∀c o,c∉[e,it]->s.heap.get? c=some o->h9.get? c=some o:=λc o hc x=>by
   simp only [bH,gO,or_false,not_or] at hc
   exact sb.extBut _ _ hc.1 (kp c o hc.1 hc.2 x)
  have ne:s.heap.objs.size≠e:=vt (aT e (by simp))
  have GI:h9.get? s.heap.objs.size=some { cls:=.type "tuple",data:=.seq #[.int i tk,u] }:=sb.extBut _ _ ne ht
  have I1:Inv X pins σ (upd H s.heap.objs.size (.tup [.int i,x])) { s with heap:=s.heap.push { cls:=.type "tuple",data:=.seq #[.int i tk,u] },toks:=tk+1 }:=
   I.laid (λb o e=>bI _ e) (bh _) ⟨by simp [sizeLine],[.int i tk,u],.cons ⟨_,rfl⟩ (.cons ru .nil),⟨_,eG _ rfl,rfl,_,rfl⟩⟩
  have I2:Inv X pins σ (upd H s.heap.objs.size (.tup [.int i,x])) { s with heap:=h9,toks:=tk+1 }:=xk (s:={ s with heap:=s.heap.push { cls:=.type "tuple",data:=.seq #[.int i tk,u] },toks:=tk+1 }) (ch:=[e,it]) (t':=tk+1) I1 (λc hc=>by
    obtain ⟨f0,f1,f2,f3,f4,f5⟩:=hf c hc
    exact ⟨by rw [cL (dE (aT c hc))];exact f0,f1,f2,f3,f4,f5⟩) λc o hc y=>by
   by_cases hs:c<s.heap.objs.size
   .exact up c o hc (R9 hs y)
   .have rg:c=s.heap.objs.size:=by
     have:=bJ y
     rw [nR] at this
     exact D5 (Nat.lt_succ_iff.mp this) (IY hs)
    subst rg
    have e2:(s.heap.push { cls:=.type "tuple",data:=.seq #[.int i tk,u] }).get? s.heap.objs.size=some _:=eG _ rfl
    rw [e2] at y;cases y
    exact GI
  refine ⟨.ref s.heap.objs.size,_,I2,rfl,⟨_,x,rfl,fresh,rfl,λzs uD=>by rw [Ki I uD q1];exact hx⟩,⟨⟨_,XG⟩,fq.keep ik.1 λo y=>sb.extBut _ _ d1.symm y⟩,λc hc=>?_⟩
  rw [cL (dE (aT c hc))]
  exact (hf c hc).1
 done:=by
  intro X hP hw hK hc i pins s σ H E I hf ⟨⟨old,he⟩,hit⟩ hg
  subst hP hw hK
  obtain ⟨xs,q1,hl⟩:=hg
  obtain ⟨ao,r1,p1⟩:=oO I q1
  have e1:=r1.length
  refine b3P (I.ok.hd hc) he hit p1 (by simp;ext hl e1) λh' kp=>⟨rfl,xk (ch:=[e,it]) (t':=s.toks) I hf λc o hc y=>?_⟩
  simp only [bH,gO,or_false,not_or] at hc
  exact kp c o hc.2 y
 self:=λ_ _ _ _ _ st h=>by
  obtain ⟨⟨old,he⟩,_⟩:=st
  exact wpAny_pyIter_enum he h
section
variable {X:Cx}{elts:List Expr}{kk:Nat}{tp:Pos}
noncomputable def zx(K:aA)(ta:TA):TI:=λσ H R=>ta σ H λvs H1=>∃b l xs,vs=[.ref l]/\Sq K H1 b l xs/\R (MV K b l) H1
theorem b5H{a:Expr}{ta:TA}{p pos:Pos}(hg:Gl X "enumerate")(hm:X.mg "enumerate" = none)(ha:PA X [a] ta)(hs:starEach [a] X.env=[(false,eval a X.env)]:=by rfl)(hn:starEach [] X.env=[]:=by rfl):
  PI X (.Tuple elts kk tp) (.Call (.Name "enumerate" p) [a] [] pos) (zx X.K ta):=by
 intro pins s σ H R I h
 refine Call_ (rW I hg hm boot_enumerate (Bf (a9 (ha pos pins s σ H _ I h) λus s1 ⟨vs,H1,I1,r1,q1⟩=>?_) (by rw [hs,hn]) (by rw [hn];rfl)))
 obtain ⟨b,l,xs,e,q1,q⟩:=q1
 subst e
 cases r1 with
 | cons r rr =>
  cases rr
  cases r
  obtain ⟨ao,Ug,p1⟩:=oO I1 q1
  refine b1Y p1 λh' z0 j1 sz kp=>?_
  refine wpAny_pyIter_enum (s:={ s1 with heap:=h' }) z0 ?_
  have ge:∀c∈[s1.heap.objs.size+1,s1.heap.objs.size],s1.heap.objs.size<=c:=λc hc=>by
   simp only [bH,gO,or_false] at hc
   rcases hc with rfl | rfl
   .exact tN _ _
   .exact bh _
  exact ⟨_,_,_,_,H1,rfl,I1.kept (t':=s1.toks) kp,b0U (Nat.succ_ne_self _),⟨⟨_,z0⟩,j1⟩,λc hc=>I1.jC (ge c hc) (I1.aY.fresh (ge c hc)),q⟩
noncomputable def pR(ds:List D):List D:=ds.zipIdx.map λp=>D.tup [.int p.2,p.1]
noncomputable def vI:List D->Option (List D)
 | [.lst _ ds]=>some (pR ds)
 | [.tup ds]=>some (pR ds)
 | _=>none
theorem Rb{K:aA}{O:Addr->Prop}{H:Hp}{b:Bool}{l:Addr}{xs:List V}{as:List D}(h1:Sq K H b l xs)(i1:aK K O H xs as)(n1:¬O l\/∀H',Sq K H' b l xs):
  xh K O (MV K b l) H (pR as):=λO' H2 kp hO i=>by
 have p1:Sq K H2 b l xs:=by
  rcases n1 with h3 | h3
  .exact KJ (λq u e n=>(kp q u e n).1) h1 h3
  .exact h3 H2
 have s1:aK K O' H2 xs as:=i1.map (λq hq hn=>by
  cases e:H q with
  | none=>exact (hq e).elim
  | some u=>exact (kp q u e hn).2) λq u e n=>(kp q u e n).1
 refine ⟨λd hd=>?_,λhl=>⟨xs,p1,?_⟩⟩
 .unfold pR at hd
  rw [rJ,List.getElem?_zipIdx] at hd
  cases ea:as[i]? with
  | none=>simp [ea] at hd
  | some da =>
   simp only [ea,Je,rE] at hd
   cases hd
   obtain ⟨x,hx,dx⟩:=s1.get ea
   refine ⟨⟨xs,x,p1,hx⟩,λv H3 hv=>?_⟩
   obtain ⟨p,x',rfl,hp,rfl,f1⟩:=hv
   have e1:=f1 xs p1
   rw [hx] at e1;cases e1
   have sm:aq H2 (upd H2 p (.tup [.int i,x])):=λq u e=>by rw [cL (j' e hp)];exact e
   exact ⟨sm,.tup (λz=>hO p z hp) (.inl lW) (.cons (.int _) (.cons (dx.grow sm) .nil))⟩
 .have e1:=s1.length
  simp only [pR,bB,N7] at hl
  ext e1 hl
theorem KC{a:Expr}{fs:En->Option (List D)}{p pos:Pos}(uP:Gl X "enumerate")(hm:X.mg "enumerate" = none)(ha:AV X [a] fs)(h1:starEach [a] X.env=[(false,eval a X.env)]:=by rfl)
  (h2:starEach [] X.env=[]:=by rfl):IV X (.Tuple elts kk tp) (.Call (.Name "enumerate" p) [a] [] pos) (gC vI fs):=by
 obtain ⟨ti,pi,ki⟩:=ha
 refine ⟨_,b5H uP hm pi h1 h2,λO B σ H env ds R Rl e q=>?_⟩
 obtain ⟨as,e1,e2⟩:=bind_some e
 refine ki O B σ H env as _ Rl e1 λvs H1 s1 r1=>?_
 unfold vI at e2
 split at e2
 .rename_i ro da
  cases e2
  cases r1 with
  | cons ra rr =>
   cases rr
   obtain ⟨l1,xs,rfl,g1,i1,n1⟩:=ra.nH (k:=true) (ds:=da) rfl
   exact ⟨true,l1,xs,rfl,g1,q _ H1 s1 (Rb g1 i1 n1)⟩
 .rename_i da
  cases e2
  cases r1 with
  | cons ra rr =>
   cases rr
   obtain ⟨l1,xs,rfl,g1,i1,n1⟩:=ra.nH (k:=false) (ds:=da) rfl
   exact ⟨false,l1,xs,rfl,g1,q _ H1 s1 (Rb g1 i1 n1)⟩
 .cases e2
end
end DL
namespace SO
section pure
variable {α:Type}
def eh(κ:α->Int)(l:List α):Prop:=l.Pairwise λx y=>κ x<κ y
structure Inv(κ:α->Int)(la lb out:List α)(ia ib:Nat):Prop where
 perm:out.Perm (la.take ia++lb.take ib)
 e9:eh κ out
 lo:∀x∈out,(∀y∈la.drop ia,κ x<κ y)/\∀y∈lb.drop ib,κ x<κ y
variable {κ:α->Int}{la lb out:List α}{ia ib:Nat}
theorem Inv.sym(h:Inv κ la lb out ia ib):Inv κ lb la out ib ia:=⟨h.perm.trans A9,h.e9,λx hx=>⟨(h.lo x hx).2,(h.lo x hx).1⟩⟩
theorem xx(h:eh κ l)(i:Nat):eh κ (l.drop i):=h.sublist (List.drop_sublist ..)
theorem K8(h:eh κ l)(i:Nat):eh κ (l.take i):=h.sublist (List.take_sublist ..)
theorem Ly(h:eh κ l)(i:Nat):∀x∈l.take i,∀y∈l.drop i,κ x<κ y:=by
 have:eh κ (l.take i++l.drop i):=by rw [nY];exact h
 exact (gQ.mp this).2.2
theorem Inv.a(h:Inv κ la lb out ia ib)(sa:eh κ la)(k:Nat)(hk:∀x∈(la.drop ia).take k,∀y∈lb.drop ib,κ x<κ y):Inv κ la lb (out++(la.drop ia).take k) (ia+k) ib:=by
 refine ⟨?_,gQ.mpr ⟨h.e9,K8 (xx sa ia) k,λx hx y hy=>(h.lo x hx).1 y (vC hy)⟩,λx hx=>?_⟩
 .rw [List.take_add,fB]
  refine (h.perm.append_right _).trans ?_
  rw [fB]
  exact A9.append_left _
 .rw [<-List.drop_drop]
  rcases bT.mp hx with hx | hx
  .exact ⟨λy hy=>(h.lo x hx).1 y (tM hy),(h.lo x hx).2⟩
  .exact ⟨λy hy=>Ly (xx sa ia) k x hx y hy,hk x hx⟩
theorem Inv.b(h:Inv κ la lb out ia ib)(sb:eh κ lb)(k:Nat)(hk:∀x∈(lb.drop ib).take k,∀y∈la.drop ia,κ x<κ y):Inv κ la lb (out++(lb.drop ib).take k) ia (ib+k):=(h.sym.a sb k hk).sym
theorem Inv.last(h:Inv κ la lb out ia ib)(sa:eh κ la)(sb:eh κ lb)(hm:∀x∈lb.drop ib,∀y∈la.drop ia,κ x<κ y):eh κ (out++lb.drop ib++la.drop ia)/\(out++lb.drop ib++la.drop ia).Perm (la++lb):=by
 refine ⟨gQ.mpr ⟨gQ.mpr ⟨h.e9,xx sb ib,λx hx=>(h.lo x hx).2⟩,xx sa ia,λx hx y hy=>?_⟩,?_⟩
 .rcases bT.mp hx with hx | hx
  .exact (h.lo x hx).1 y hy
  .exact hm x hx y hy
 .have e:la++lb=(la.take ia++la.drop ia)++(lb.take ib++lb.drop ib):=by rw [nY,nY]
  rw [e,fB]
  refine (h.perm.append_right _).trans ?_
  simp only [fB]
  refine Jl _ ?_
  refine A9.trans ?_
  simp only [fB]
  refine (A9).trans ?_
  simp only [fB]
  refine Jl _ ?_
  exact AY _
theorem Inv.done(h:Inv κ la lb out ia ib)(sa:eh κ la)(sb:eh κ lb)(hm:∀x∈la.drop ia,∀y∈lb.drop ib,κ x<κ y):eh κ (out++la.drop ia++lb.drop ib)/\(out++la.drop ia++lb.drop ib).Perm (la++lb):=
 have q:=h.sym.last sb sa hm
 ⟨q.1,q.2.trans A9⟩
theorem zu:Inv κ la lb [] 0 0:=⟨by simp,I0,λx hx=>nomatch hx⟩
theorem b1D(sa:eh κ A)(sb:eh κ B)(h1:∀x∈A.take k,∀y∈B,κ x<κ y)(h2:∀x∈B.drop m,∀y∈A,κ y<κ x)(sm:eh κ M)(pm:M.Perm (A.drop k++B.take m)):
  eh κ (A.take k++M++B.drop m)/\(A.take k++M++B.drop m).Perm (A++B):=by
 constructor
 .refine gQ.mpr ⟨gQ.mpr ⟨K8 sa k,sm,λx hx y hy=>?_⟩,xx sb m,λx hx y hy=>?_⟩
  .rcases bT.mp (pm.mem_iff.mp hy) with hy | hy
   .exact Ly sa k x hx y hy
   .exact h1 x hx y (vC hy)
  .rcases bT.mp hx with hx | hx
   .exact h1 x hx y (tM hy)
   .rcases bT.mp (pm.mem_iff.mp hx) with hx | hx
    .exact h2 y hy x (tM hx)
    .exact Ly sb m x hx y hy
 .have e:A++B=(A.take k++A.drop k)++(B.take m++B.drop m):=by rw [nY,nY]
  rw [e,fB]
  simp only [fB]
  refine Jl _ ?_
  rw [<-fB]
  exact pm.append_right _
theorem jB(m:List α):∀(xs:Array α) (o n:Nat) (k:Nat),o+n+m.length<=xs.size->((m.zipIdx n).foldl (λa p=>a.setIfInBounds (o+p.2) p.1) xs)[k]?=if o+n<=k/\k<o+n+m.length then m[k-(o+n)]? else xs[k]?:=by
 induction m with
 | nil=>intro xs o n k h;simp only [Jd,List.foldl_nil,List.length_nil];rw [if_neg (by ext)]
 | cons x m ih =>
  intro xs o n k h
  simp only [nk] at h
  rw [Eb,rO,ih _ o (n+1) k (by simp only [Array.size_setIfInBounds];ext h)]
  simp only [nk]
  by_cases c:o+(n+1)<=k/\k<o+(n+1)+m.length
  .rw [if_pos c,if_pos (by ext c),show k-(o+n)=(k-(o+(n+1)))+1 by ext c,List.getElem?_cons_succ]
  .rw [if_neg c,Array.getElem?_setIfInBounds]
   by_cases c2:o+n=k
   .subst c2
    rw [if_pos rfl,if_pos (by ext h),if_pos (by ext)]
    simp
   .rw [if_neg c2,if_neg (by ext c c2)]
theorem b0h{P A S m:List α}{xs:Array α}(e:xs.toList=P++A++S)(hl:m.length=A.length):(m.zipIdx.foldl (λa p=>a.setIfInBounds (P.length+p.2) p.1) xs).toList=P++m++S:=by
 have hs:xs.size=P.length+A.length+S.length:=by rw [<-gP,e];simp;ext
 refine List.ext_getElem? λk=>?_
 rw [tH,jB m xs P.length 0 k (by ext hl hs),Nat.add_zero,<-tH,e]
 by_cases h1:k<P.length
 .rw [if_neg (by ext h1),fB,fB,vw h1,vw h1]
 .by_cases h2:k<P.length+m.length
  .rw [if_pos ⟨by ext h1,h2⟩,fB,rG (by ext h1),vw (by ext h1 h2)]
  .rw [if_neg (by ext h2),rG (by simp;ext hl h2),rG (by simp;ext h2)]
   simp [hl]
noncomputable def ly:Nat->List (List α)->List (Nat×Nat×Nat)->Prop
 | _,[],[]=>True
 | o,R::Rs,p::ps=>p.1=o/\p.2.1=R.length/\ly (o+R.length) Rs ps
 | _,_,_=>False
theorem ly.len:∀{o:Nat} {Rs:List (List α)} {ps:List (Nat×Nat×Nat)},ly o Rs ps->ps.length=Rs.length
 | _,[],[],_=>rfl
 | _,R::Rs,p::ps,h=>by simp [h.2.2.len]
theorem ly.app:∀{o:Nat} {Rs Ss:List (List α)} {ps qs:List (Nat×Nat×Nat)},ly o Rs ps->ly (o+Rs.flatten.length) Ss qs->ly o (Rs++Ss) (ps++qs)
 | o,[],Ss,[],qs,_,h=>by simpa using h
 | o,R::Rs,Ss,p::ps,qs,h,k=>⟨h.1,h.2.1,h.2.2.app (by rw [D0,dC,<-IG] at k;exact k)⟩
theorem ly.split:∀{o:Nat} {Rs Ss:List (List α)} {ps:List (Nat×Nat×Nat)},ly o (Rs++Ss) ps->ly o Rs (ps.take Rs.length)/\ly (o+Rs.flatten.length) Ss (ps.drop Rs.length)
 | o,[],Ss,ps,h=>⟨trivial,by simpa using h⟩
 | o,R::Rs,Ss,p::ps,h=>by
  obtain ⟨k1,k2⟩:=ly.split (Rs:=Rs) h.2.2
  refine ⟨⟨h.1,h.2.1,k1⟩,?_⟩
  rw [D0,dC,<-IG]
  exact k2
end pure
open PySem PyProof.Rows
noncomputable def a9d:Bool → Keyed → Array Keyed → Nat → Nat → Nat → StateT SortSt Sem (Option Nat):=sortPriv% PySem.Builtin.gallop
noncomputable def b3k:Array Keyed → Array Keyed → StateT SortSt Sem (Array Keyed):=sortPriv% PySem.Builtin.mergeLo
noncomputable def b3l:Array Keyed → Array Keyed → StateT SortSt Sem (Array Keyed):=sortPriv% PySem.Builtin.mergeHi
noncomputable def setG':Nat → StateT SortSt Sem Unit:=sortPriv% PySem.Builtin.setMinGallop
section
variable {prog:Program}{w:World}{A:Around}{E:Value->Shared->Prop}{s:Shared}
theorem xg{σ α:Type}{M:Model}{m:StateT σ Sem α}{Q:α->σ->Prop}{st:σ}(h:wpS M A E s m Q st):wpAny M A (m st) (λr s'=>s'=s/\Q r.1 r.2) E s:=h
structure Ask(prog:Program)(w:World)(s:Shared)(kd:SortKind)(κ:Keyed->Int)(C:Keyed->Prop):Prop where
 lt:∀{x y:Keyed},C x->C y->κ x≠κ y->∀{A:Around} {E:Value->Shared->Prop} {Q:Bool->Shared->Prop},Q (decide (κ x<κ y)) s->wpAny (model prog w) A (keyLt' kd x.1 y.1) Q E s
variable {kd:SortKind}{κ:Keyed->Int}{C:Keyed->Prop}
theorem zd(hk:Ask prog w s kd κ C){st:SortSt}{Q:Option Bool->SortSt->Prop}(hd:kindOf st=kd)(hx:C x)(hy:C y)(bP:κ x≠κ y)(h:Q (some (decide (κ x<κ y))) st):wpS (model prog w) A E s (lt' x y) Q st:=by
 rw [lt'_eq]
 refine aP (nQ ?_)
 rw [hd]
 exact aP (wpS_lift (A3 (hk.lt hx hy bP ⟨rfl,aX h⟩)))
theorem iA{Q:Keyed->SortSt->Prop}{st:SortSt}(hi:i<arr.size)(h:Q arr[i] st):wpS (model prog w) A E s (elem' arr i) Q st:=by
 rw [elem'_eq,getElem?_pos arr i hi]
 exact aX h
noncomputable def kv(κ:Keyed->Int)(arr:Array Keyed)(i:Nat):Int:=match arr[i]? with
 | some p=>κ p
 | none=>0
theorem iK(h:i<arr.size):kv κ arr i=κ arr[i]:=by unfold kv;rw [getElem?_pos arr i h]
theorem Bj(h:xs[i]?=ys[j]?):kv κ xs i=kv κ ys j:=by unfold kv;rw [h]
theorem Z9(hk:Ask prog w s kd κ C){st:SortSt}(hd:kindOf st=kd){Q:Option Bool->SortSt->Prop}(hC:C key)(hj:j<arr.size)(hx:C arr[j])(bP:κ arr[j]≠κ key)(h:Q (some (decide (kv κ arr j<κ key))) st):
  wpS (model prog w) A E s (elem' arr j >>= λx=>if left=true then lt' x key else lt' key x >>= λr=>pure (IK (λx=>!x) r)) Q st:=by
 refine aP (iA hj ?_)
 rw [iK hj] at h
 cases left with
 | true =>
  rw [if_pos rfl]
  exact zd hk hd hx hC bP h
 | false =>
  rw [if_neg (by decide)]
  refine aP (zd hk hd hC hx (gm bP) (aX ?_))
  have e:(!decide (κ key<κ arr[j]))=decide (κ arr[j]<κ key):=by
   by_cases c:κ key<κ arr[j]
   .rw [decide_eq_true c,decide_eq_false (by ext hj c)];rfl
   .rw [decide_eq_false c,decide_eq_true (by ext hj bP c)];rfl
  rw [Je,e]
  exact h
theorem Dv(hk:Ask prog w s kd κ C){st:SortSt}(hd:kindOf st=kd){Q:Option Nat->SortSt->Prop}(hC:C key)(hn:base+n<=arr.size)(hh:hint<n)
  (hA:∀j (h:j<arr.size),base<=j->j<base+n->C arr[j]/\κ arr[j]≠κ key)(hs:∀i j,i<j->j<n->kv κ arr (base+i)<kv κ arr (base+j))
  (h:∀k,k<=n->(∀i,i<k->kv κ arr (base+i)<κ key)->(∀i,k<=i->i<n->κ key<kv κ arr (base+i))->Q (some k) st):wpS (model prog w) A E s (a9d left key arr base n hint) Q st:=by
 have ask:∀i,i<n->∀{Q:Option Bool->SortSt->Prop},Q (some (decide (kv κ arr (base+i)<κ key))) st->wpS (model prog w) A E s (elem' arr (base+i) >>= λx=>if left=true then lt' x key else lt' key x >>= λr=>pure (IK (λx=>!x) r)) Q st:=λi hi Q hQ =>
  have hj:base+i<arr.size:=by ext hn hi
  Z9 hk hd hC hj (hA _ hj (by ext) (by ext hi)).1 (hA _ hj (by ext) (by ext hi)).2 hQ
 have ne:∀i,i<n->kv κ arr (base+i)≠κ key:=λi hi=>by
  have hj:base+i<arr.size:=by ext hn hi
  rw [iK hj]
  exact (hA _ hj (by ext) (by ext hi)).2
 have dn:∀i j,i<=j->j<n->kv κ arr (base+j)<κ key->kv κ arr (base+i)<κ key:=λi j h1 h2 h3=>by
  by_cases c:i=j
  .subst c;exact h3
  .have:=hs i j (by ext h1 c) h2;ext h3 this
 have up:∀i j,i<=j->j<n->κ key<kv κ arr (base+i)->κ key<kv κ arr (base+j):=λi j h1 h2 h3=>by
  by_cases c:i=j
  .subst c;exact h3
  .have:=hs i j (by ext h1 c) h2;ext h3 this
 unfold wpS
 wp_delta
 wp_delta
 wp_delta
 refine xg (Q:=Q) (aP (ask hint hh ?_))
 dsimp only
 have tail:∀lo hi:Nat,lo<=hi->hi<=n->(∀i,i<lo->kv κ arr (base+i)<κ key)->(∀i,hi<=i->i<n->κ key<kv κ arr (base+i)) ->
   wpS (model prog w) A E s (forIn [0:n] ((none,lo,hi):Option (Option Nat)×Nat×Nat) (λx q=>if q.2.1≥q.2.2 then pure (DM (none,q.2.1,q.2.2)) else
    (elem' arr (base+(q.2.1+(q.2.2-q.2.1)/2)) >>= λx=>if left=true then lt' x key else lt' key x >>= λr=>pure (IK (λx=>!x) r)) >>= λr=>match r with
     | some more=>if more=true then pure (nh (none,q.2.1+(q.2.2-q.2.1)/2+1,q.2.2)) else pure (nh (none,q.2.1,q.2.1+(q.2.2-q.2.1)/2))
     | x=>pure (DM (some none,q.2.1,q.2.2)))) (λq ak=>ak=st/\∃k,q.1=none/\q.2.2=k/\k<=n/\(∀i,i<k->kv κ arr (base+i)<κ key)/\∀i,k<=i->i<n->κ key<kv κ arr (base+i)) st:=λlo hi h1 h2 h3 h4=>by
  refine kR (λx q ak=>ak=st/\∃l r,q=(none,l,r)/\l<=r/\r<=n/\r-l<=n-x/\(∀i,i<l->kv κ arr (base+i)<κ key)/\∀i,r<=i->i<n->κ key<kv κ arr (base+i)) (λx q ak _ hx hI=>?_) (λq ak hI=>?_) ⟨rfl,lo,hi,rfl,h1,h2,by ext h2,h3,h4⟩
  .obtain ⟨rfl,l,r,rfl,j1,j2,j3,j4,j5⟩:=hI
   dsimp only
   by_cases c:l≥r
   .rw [if_pos c]
    obtain rfl:l=r:=by ext j1 c
    exact aX ⟨rfl,l,rfl,rfl,j2,j4,j5⟩
   .rw [if_neg c]
    refine aP (ask _ (by lia) ?_)
    dsimp only
    by_cases c2:kv κ arr (base+(l+(r-l)/2))<κ key
    .rw [if_pos (decide_eq_true c2)]
     exact aX ⟨rfl,_,_,rfl,by lia,‹_›,by ext j3,λi hi=>dn i _ (by ext hi) (by lia) c2,j5⟩
    .rw [if_neg (by simpa using c2)]
     have:=ne (l+(r-l)/2) (by lia)
     exact aX ⟨rfl,_,_,rfl,by ext,by lia,by lia,j4,λi hi h'=>up _ i hi h' (by ext c2 this)⟩
  .obtain ⟨rfl,l,r,rfl,j1,j2,j3,j4,j5⟩:=hI
   obtain rfl:l=r:=by ext j1 j3
   exact ⟨rfl,l,rfl,rfl,j2,j4,j5⟩
 by_cases c:kv κ arr (base+hint)<κ key
 .rw [if_pos (decide_eq_true c)]
  refine aP (kQ (kR (λx q ak=>ak=st/\∃l o,q=(none,l,o)/\l<o/\x+1<=o/\hint+l<n/\kv κ arr (base+(hint+l))<κ key) (Q:=λq ak=>ak=st/\∃l o,q=(none,l,o)/\l<o/\hint+l<n/\kv κ arr (base+(hint+l))<κ key/\(o<n-hint->κ key<kv κ arr (base+(hint+o)))) (λx q ak _ hx hI=>?_) (λq ak hI=>?_) ⟨rfl,0,1,rfl,by decide,by decide,‹_›,c⟩) λq ak hI=>?_)
  .obtain ⟨rfl,l,o,rfl,j1,j2,j3,j4⟩:=hI
   dsimp only
   by_cases c1:o≥n-hint
   .rw [if_pos c1]
    exact aX ⟨rfl,l,o,rfl,j1,j3,j4,λz=>absurd z (by ext c1)⟩
   .rw [if_neg c1]
    refine aP (ask (hint+o) (by ext c1) ?_)
    dsimp only
    by_cases c2:kv κ arr (base+(hint+o))<κ key
    .rw [if_neg (by simpa using c2)]
     exact aX ⟨rfl,o,2*o+1,rfl,by ext,by ext j2,by ext c1,c2⟩
    .rw [if_pos (by simpa using c2)]
     have:=ne (hint+o) (by ext c1)
     exact aX ⟨rfl,l,o,rfl,j1,j3,j4,λ_=>by ext c2 this⟩
  .obtain ⟨rfl,l,o,rfl,j1,j2,j3,j4⟩:=hI
   exact ⟨rfl,l,o,rfl,j1,j3,j4,λz=>absurd z (by ext j2)⟩
  .obtain ⟨rfl,l,o,rfl,j1,j3,j4,j5⟩:=hI
   dsimp only
   refine aP (kQ (tail (hint+l+1) (hint+min o (n-hint)) (by ext j1 j3) (by ext hh) (λi hi=>dn i _ (by ext hi) j3 j4) λi hi h'=>?_) λq ak hI=>?_)
   .by_cases c1:o<n-hint
    .exact up (hint+o) i (by ext hi c1) h' (j5 c1)
    .ext hi h' c1
   .obtain ⟨rfl,k,e1,rfl,k1,k2,k3⟩:=hI
    rw [e1]
    exact aX (h _ k1 k2 k3)
 .rw [if_neg (by simpa using c)]
  have c0:=ne hint hh
  refine aP (kQ (kR (λx q ak=>ak=st/\∃l o,q=(none,l,o)/\l<o/\x+1<=o/\l<=hint/\κ key<kv κ arr (base+(hint-l))) (Q:=λq ak=>ak=st/\∃l o,q=(none,l,o)/\l<o/\l<=hint/\κ key<kv κ arr (base+(hint-l))/\(o<hint+1->kv κ arr (base+(hint-o))<κ key)) (λx q ak _ hx hI=>?_) (λq ak hI=>?_) ⟨rfl,0,1,rfl,by decide,by decide,by ext,by rw [Nat.sub_zero];ext c c0⟩) λq ak hI=>?_)
  .obtain ⟨rfl,l,o,rfl,j1,j2,j3,j4⟩:=hI
   dsimp only
   by_cases c1:o≥hint+1
   .rw [if_pos c1]
    exact aX ⟨rfl,l,o,rfl,j1,j3,j4,λz=>absurd z (by ext c1)⟩
   .rw [if_neg c1]
    refine aP (ask (hint-o) (by ext hh) ?_)
    dsimp only
    by_cases c2:kv κ arr (base+(hint-o))<κ key
    .rw [if_pos (decide_eq_true c2)]
     exact aX ⟨rfl,l,o,rfl,j1,j3,j4,λ_=>c2⟩
    .rw [if_neg (by simpa using c2)]
     have:=ne (hint-o) (by ext hh)
     exact aX ⟨rfl,o,2*o+1,rfl,by ext,by ext j2,by ext c1,by ext c2 this⟩
  .obtain ⟨rfl,l,o,rfl,j1,j2,j3,j4⟩:=hI
   exact ⟨rfl,l,o,rfl,j1,j3,j4,λz=>absurd z (by ext hh j2)⟩
  .obtain ⟨rfl,l,o,rfl,j1,j3,j4,j5⟩:=hI
   dsimp only
   refine aP (kQ (tail (hint+1-min o (hint+1)) (hint-l) (by ext j1) (by ext hh) (λi hi=>?_) λi hi h'=>up _ i hi h' j4) λq ak hI=>?_)
   .by_cases c1:o<hint+1
    .exact dn i (hint-o) (by ext hi) (by ext hh) (j5 c1)
    .ext hi c1
   .obtain ⟨rfl,k,e1,rfl,k1,k2,k3⟩:=hI
    rw [e1]
    exact aX (h _ k1 k2 k3)
end
section
variable {κ:Keyed->Int}
theorem KE{a:Array Keyed}{i k:Nat}(h:x∈(a.toList.drop i).take k):∃j,∃hj:j<a.size,i<=j/\j<i+k/\x=a[j]:=by
 obtain ⟨n,hn,e⟩:=oG.mp h
 simp only [iZ,nr,gP] at hn
 refine ⟨i+n,by ext hn:1,by ext:1,by ext hn:1,?_⟩
 rw [<-e]
 simp
theorem BU{a:Array Keyed}{i:Nat}(h:x∈a.toList.drop i):∃j,∃hj:j<a.size,i<=j/\x=a[j]:=by
 obtain ⟨n,hn,e⟩:=oG.mp h
 simp only [nr,gP] at hn
 refine ⟨i+n,by ext hn:1,by ext:1,?_⟩
 rw [<-e]
 simp
theorem fM(h:eh κ a.toList)(h1:i<j)(h2:j<a.size):kv κ a i<kv κ a j:=by
 rw [iK (by ext h1 h2:1),iK h2]
 have:=wR.mp h i j (by simp;ext h1 h2:1) (by simpa using h2) h1
 simpa using this
theorem QM(a:Array Keyed)(i k:Nat):(a.extract i (i+k)).toList=(a.toList.drop i).take k:=by
 rw [Ek,Ef,Jr]
theorem Fv(a:Array Keyed)(i:Nat):(a.extract i a.size).toList=a.toList.drop i:=by
 rw [Ek,Ef]
 exact wV (by simp)
theorem K4{a:Array Keyed}{i:Nat}(h:i<a.size):(a.toList.drop i).take 1=[a[i]]:=by
 rw [j0 (by simpa using h)]
 simp
end
noncomputable abbrev sg(st:SortSt)(g:Nat):SortSt:=AX (kindOf st) (arrOf st) (pendingOf st) g (failedOf st)
section
variable {prog:Program}{w:World}{A:Around}{E:Value->Shared->Prop}{s:Shared}{kd:SortKind}{κ:Keyed->Int}{C:Keyed->Prop}
theorem EL{st:SortSt}{Q:Unit->SortSt->Prop}(h:Q () (sg st g)):wpS (model prog w) A E s (setG' g) Q st:=by
 show wpS _ _ _ _ (modify _) _ _
 exact qu h
theorem wW{st:SortSt}{Q:Unit->SortSt->Prop}(h:Q () st):wpS (model prog w) A E s (liftM (rule t):StateT SortSt Sem Unit) Q st:=wpS_lift (vd ⟨rfl,h⟩)
structure gr(κ:Keyed->Int)(C:Keyed->Prop)(a b:Array Keyed):Prop where
 sa:eh κ a.toList
 sb:eh κ b.toList
 ca:∀x∈a.toList,C x
 cb:∀x∈b.toList,C x
 ne:∀x∈a.toList,∀y∈b.toList,κ x≠κ y
variable {a b:Array Keyed}
theorem gr.Dd(T:gr κ C a b)(h:i<a.size):C a[i]:=T.ca _ (by simp)
theorem gr.Dc(T:gr κ C a b)(h:i<b.size):C b[i]:=T.cb _ (by simp)
theorem gr.wg(T:gr κ C a b)(hi:i<a.size)(hj:j<b.size):κ a[i]≠κ b[j]:=T.ne _ (by simp) _ (by simp)
theorem As(hk:Ask prog w s kd κ C)(T:gr κ C a b){st:SortSt}(hd:kindOf st=kd){Q:Option Nat->SortSt->Prop}(hi:i<a.size)(hj:j<b.size)
  (h:∀k,i+k<=a.size->(∀x∈(a.toList.drop i).take k,∀y∈b.toList.drop j,κ x<κ y)->(∀y∈a.toList.drop (i+k),κ b[j]<κ y)->Q (some k) st):wpS (model prog w) A E s (a9d l b[j] a i (a.size-i) 0) Q st:=by
 refine Dv hk hd (T.Dc hj) (by ext hi) (by ext hi) (λn hn _ _=>⟨T.Dd hn,T.wg hn hj⟩) (λx y h1 h2=>fM T.sa (by ext h1) (by ext h2)) λk k1 k2 k3=>h k (by ext hi k1) (λx hx y hy=>?_) λy hy=>?_
 .obtain ⟨n,hn,n1,n2,rfl⟩:=KE hx
  obtain ⟨m,hm,m1,rfl⟩:=BU hy
  have e:=k2 (n-i) (by ext n1 n2)
  rw [show i+(n-i)=n by ext n1,iK hn] at e
  by_cases c:j=m
  .subst c;exact e
  .have:=fM T.sb (show j<m by ext m1 c) hm
   rw [iK hj,iK hm] at this
   ext hn hm hj e this
 .obtain ⟨n,hn,n1,rfl⟩:=BU hy
  have e:=k3 (n-i) (by ext n1) (by ext hn n1)
  rw [show i+(n-i)=n by ext n1,iK hn] at e
  exact e
theorem gr.sym(T:gr κ C a b):gr κ C b a:=⟨T.sb,T.sa,T.cb,T.ca,λx hx y hy z=>T.ne y hy x hx z.symm⟩
theorem Inv.o8{out:Array Keyed}{ia ib:Nat}(h:Inv κ a.toList b.toList out.toList ia ib)(T:gr κ C a b)(hi:ia<a.size)(hk:∀y∈b.toList.drop ib,κ a[ia]<κ y):Inv κ a.toList b.toList (out.push a[ia]).toList (ia+1) ib:=by
 rw [wQ,<-K4 hi]
 refine h.a T.sa 1 λx hx y hy=>?_
 rw [K4 hi,bU] at hx
 rw [hx]
 exact hk y hy
theorem Inv.o7{out:Array Keyed}{ia ib:Nat}(h:Inv κ a.toList b.toList out.toList ia ib)(T:gr κ C a b)(hi:ib<b.size)(hk:∀y∈a.toList.drop ia,κ b[ib]<κ y):Inv κ a.toList b.toList (out.push b[ib]).toList ia (ib+1):=(h.sym.o8 T.sym hi hk).sym
theorem Inv.yv(h:Inv κ a.toList b.toList out.toList ia ib)(T:gr κ C a b)(k:Nat)(hk:∀x∈(a.toList.drop ia).take k,∀y∈b.toList.drop ib,κ x<κ y):Inv κ a.toList b.toList (out++a.extract ia (ia+k)).toList (ia+k) ib:=by
 rw [nX,QM]
 exact h.a T.sa k hk
theorem Inv.Gn(h:Inv κ a.toList b.toList out.toList ia ib)(T:gr κ C a b)(k:Nat)(hk:∀x∈(b.toList.drop ib).take k,∀y∈a.toList.drop ia,κ x<κ y):Inv κ a.toList b.toList (out++b.extract ib (ib+k)).toList ia (ib+k):=(h.sym.yv T.sym k hk).sym
theorem E8(T:gr κ C a b)(hi:i<a.size)(hj:j<b.size)(h:κ b[j]<κ a[i]):∀y∈a.toList.drop i,κ b[j]<κ y:=λy hy=>by
 obtain ⟨n,hn,n1,rfl⟩:=BU hy
 by_cases c:i=n
 .subst c;exact h
 .have:=fM T.sa (show i<n by ext n1 c) hn
  rw [iK hi,iK hn] at this
  ext hj hn hi h this
def Mg(κ:Keyed->Int)(a b r:Array Keyed):Prop:=eh κ r.toList/\r.toList.Perm (a.toList++b.toList)
theorem Inv.g9(h:Inv κ a.toList b.toList out.toList ia ib)(T:gr κ C a b)(hm:ia=a.size\/ib=b.size):Mg κ a b (out++a.extract ia a.size++b.extract ib b.size):=by
 unfold Mg
 rw [nX,nX,Fv,Fv]
 refine h.done T.sa T.sb λx hx y hy=>?_
 obtain ⟨n,hn,n1,rfl⟩:=BU hx
 obtain ⟨m,hm,m1,rfl⟩:=BU hy
 lia
theorem Inv.ju(h:Inv κ a.toList b.toList out.toList ia ib)(T:gr κ C a b)(hm:∀x∈b.toList,∀y∈a.toList.drop (a.size-1),κ x<κ y)(hi:ia+1=a.size):Mg κ a b (out++b.extract ib b.size++a.extract ia a.size):=by
 unfold Mg
 rw [nX,nX,Fv,Fv]
 exact h.last T.sa T.sb λx hx y hy=>hm x (tM hx) y (by rw [<-hi];exact hy)
theorem ER{n:Nat}(h:2<=n)(h':¬n-1=1):2<=n-1:=by ext h h'
theorem b7s(h:¬m=1)(h':¬m=0):2<=m:=by ext h h'
theorem zp{β γ:Type}{M:Model}{c:γ->Prop}[∀v,Decidable (c v)]{x y:γ->StateT SortSt Sem β}{Q:β->SortSt->Prop}{st:SortSt}(u:γ->γ)(hx:∀v,x v=y (u v))(h:∀u,wpS M A E s (y u) Q st):∀v,wpS M A E s (if c v then x v else y v) Q st:=λv=>by
 rw [hx]
 split<;>exact h _
theorem Ez{β γ δ:Type}{M:Model}{c:Prop}[Decidable c]{R:γ->δ->Prop}{x y:γ->δ->StateT SortSt Sem β}{Q:β->SortSt->Prop}{st:SortSt}(P:γ->δ->Prop)(hF:∀u v,P u v->wpS M A E s (y u v) Q st)
  (h1:∀u v,R u v->(∀u v,P u v->wpS M A E s (y u v) Q st)->c->wpS M A E s (x u v) Q st)(h2:∀u v,R u v->¬c->P u v):∀u v,R u v->wpS M A E s (if c then x u v else y u v) Q st:=λu v hR=>by
 by_cases hc:c
 .rw [if_pos hc];exact h1 u v hR hF hc
 .rw [if_neg hc];exact hF u v (h2 u v hR hc)
structure J(κ:Keyed->Int)(a b out:Array Keyed)(ia ib:Nat):Prop where
 inv:Inv κ a.toList b.toList out.toList ia ib
 la:ia+1<a.size
 lb:ib<b.size
theorem Wk(hk:Ask prog w s kd κ C)(T:gr κ C a b){st:SortSt}(hd:kindOf st=kd){Q:Array Keyed->SortSt->Prop}(ha:0<a.size)(hb:0<b.size)(h0:κ b[0]<κ a[0])(hm:∀x∈b.toList,∀y∈a.toList.drop (a.size-1),κ x<κ y)
  (h:∀r g,Mg κ a b r->Q r (sg st g)):wpS (model prog w) A E s (b3k a b) Q st:=by
 unfold wpS
 wp_delta
 wp_delta
 wp_delta
 refine xg (Q:=Q) (aP (wW (aP (iA hb ?_))))
 dsimp only
 have i0:Inv κ a.toList b.toList (#[b[0]]:Array Keyed).toList 0 1:=(zu (κ:=κ) (la:=a.toList) (lb:=b.toList)).o7 (out:=#[]) T hb (E8 T ha hb h0)
 by_cases c1:1=b.size
 .rw [if_pos (by simpa using c1)]
  exact aX (h _ (gallopOf st) (i0.g9 T (.inr c1)))
 rw [if_neg (by simpa using c1)]
 by_cases c2:0+1=a.size
 .rw [if_pos (by simpa using c2)]
  exact aX (h _ (gallopOf st) (i0.ju T hm c2))
 rw [if_neg (by simpa using c2)]
 refine aP (nQ ?_)
 refine aP (kQ (kR (λx q ak=>(∃g,ak=sg st g)/\∃out ia ib mg,q=(none,out,ia,ib,mg)/\J κ a b out ia ib/\x+1<=ia+ib) (Q:=λq ak=>(∃g,ak=sg st g)/\∃r,q.1=some r/\Mg κ a b r) (λx q ak _ hx hI=>?_) (λq ak hI=>?_) ⟨⟨gallopOf st,rfl⟩,_,_,_,_,rfl,⟨i0,by ext ha c2,by ext hb c1⟩,by decide⟩) λq ak hI=>?_)
 .obtain ⟨⟨g,rfl⟩,out,ia,ib,mg,rfl,hJ,hp⟩:=hI
  dsimp only
  refine aP (kQ (kR (λx q ak=>(∃g,ak=sg st g)/\∃fP jh l8 ac bc,q=(none,fP,jh,l8,ac,bc)/\J κ a b fP jh l8/\ia+ib+x<=jh+l8) (Q:=λq ak=>(∃g,ak=sg st g)/\((∃r,q.1=some r/\Mg κ a b r)\/∃fP jh l8 ac bc,q=(none,fP,jh,l8,ac,bc)/\J κ a b fP jh l8/\ia+ib+1<=jh+l8)) (λx q ak _ hx hI=>?_) (λq ak hI=>?_) ⟨⟨_,rfl⟩,_,_,_,_,_,rfl,hJ,by ext⟩) λq ak hI=>?_)
  .obtain ⟨⟨g,rfl⟩,out,ia,ib,ac,bc,rfl,hJ,hp⟩:=hI
   dsimp only
   refine aP (iA hJ.lb (aP (iA (vj hJ.la) (aP (zd hk hd (T.Dc hJ.lb) (T.Dd _) (gm (T.wg _ hJ.lb)) ?_)))))
   dsimp only
   have la:=hJ.la
   have lb:=hJ.lb
   by_cases c:κ b[ib]<κ a[ia]
   .rw [if_pos (decide_eq_true c)]
    refine aP (iA hJ.lb ?_)
    have i2:=hJ.inv.o7 T hJ.lb (E8 T (by ext la) lb c)
    by_cases d1:ib+1=b.size
    .rw [if_pos (by simpa using d1)]
     exact aX ⟨⟨_,rfl⟩,.inl ⟨_,rfl,i2.g9 T (.inr d1)⟩⟩
    rw [if_neg (by simpa using d1)]
    by_cases d2:bc+1≥mg
    .rw [if_pos d2]
     exact aX ⟨⟨_,rfl⟩,.inr ⟨_,_,_,_,_,rfl,⟨i2,la,by ext lb d1⟩,by ext hp⟩⟩
    .rw [if_neg d2]
     exact aX ⟨⟨_,rfl⟩,_,_,_,_,_,rfl,⟨i2,la,by ext lb d1⟩,by ext hp⟩
   .rw [if_neg (by simpa using c)]
    refine aP (iA (vj hJ.la) ?_)
    have bP:=T.wg (vj hJ.la) hJ.lb
    have i2:=hJ.inv.o8 T (vj hJ.la) (E8 T.sym lb (by ext la) (by ext la lb ha hb c bP))
    by_cases d1:ia+1+1=a.size
    .rw [if_pos (by simpa using d1)]
     exact aX ⟨⟨_,rfl⟩,.inl ⟨_,rfl,i2.ju T hm d1⟩⟩
    rw [if_neg (by simpa using d1)]
    by_cases d2:ac+1≥mg
    .rw [if_pos d2]
     exact aX ⟨⟨_,rfl⟩,.inr ⟨_,_,_,_,_,rfl,⟨i2,by ext la d1,lb⟩,by ext hp⟩⟩
    .rw [if_neg d2]
     exact aX ⟨⟨_,rfl⟩,_,_,_,_,_,rfl,⟨i2,by ext la d1,lb⟩,by ext hp⟩
  .obtain ⟨hg,out,ia,ib,ac,bc,rfl,hJ,hp⟩:=hI
   exact ⟨hg,.inr ⟨_,_,_,_,_,rfl,hJ,by ext hb hp⟩⟩
  .obtain ⟨⟨g,rfl⟩,⟨r,e,hr⟩ | ⟨fP,jh,l8,ac,bc,rfl,HX,uJ⟩⟩:=hI
   .obtain ⟨q1,q2⟩:=q
    dsimp only at e
    rw [e]
    exact aX ⟨⟨_,rfl⟩,_,rfl,hr⟩
   dsimp only
   refine aP (wW ?_)
   refine aP (kQ (kR (λx q ak=>(∃g,ak=sg st g)/\∃out ja jb mg ac bc,q=(none,out,ja,jb,mg,ac,bc)/\J κ a b out ja jb/\jh+l8<=ja+jb) (Q:=λq ak=>(∃g,ak=sg st g)/\((∃r,q.1=some r/\Mg κ a b r)\/∃out ja jb mg ac bc,q=(none,out,ja,jb,mg,ac,bc)/\J κ a b out ja jb/\jh+l8<=ja+jb)) (λx q ak _ hx hI=>?_) (λq ak hI=>?_) ⟨⟨_,rfl⟩,_,_,_,_,_,_,rfl,HX,by ext⟩) λq ak hI=>?_)
   .obtain ⟨⟨g,rfl⟩,out,ja,jb,mg,ac,bc,rfl,hJ,hp⟩:=hI
    dsimp only
    have la:=hJ.la
    have lb:=hJ.lb
    revert mg
    refine zp (λmg=>mg-1) (λ_=>rfl) λmg=>?_
    refine aP (EL (aP (iA lb (aP ?_))))
    refine As hk T ?_ (vj la) lb λk k1 k2 k3=>?_
    .exact hd
    dsimp only
    have hR:Inv κ a.toList b.toList out.toList ja jb/\(k=0->∀y∈a.toList.drop ja,κ b[jb]<κ y)/\(k=0->ja+1<a.size)/\jh+l8<=ja+jb/\ja+k<=a.size/\(∀x∈(a.toList.drop ja).take k,∀y∈b.toList.drop jb,κ x<κ y)/\∀y∈a.toList.drop (ja+k),κ b[jb]<κ y:=⟨hJ.inv,λz=>by rw [z] at k3;exact k3,λ_=>la,hp,k1,k2,k3⟩
    clear hJ la hp k1 k2 k3
    revert out ja
    refine Ez (λo j=>Inv κ a.toList b.toList o.toList j jb/\j+1<a.size/\(∀y∈a.toList.drop j,κ b[jb]<κ y)/\jh+l8<=j+jb) ?_ (λout ja hR hF d0=>?_) λout ja hR d0=>⟨hR.1,hR.2.2.1 (vD d0),hR.2.1 (vD d0),hR.2.2.2.1⟩
    .rintro o j ⟨i1,hj,k3,hp⟩
     have Dm:=vj hj
     refine aP (iA lb ?_)
     have i2:=i1.o7 T lb k3
     by_cases d3:jb+1=b.size
     .rw [if_pos (by simpa using d3)]
      exact aX ⟨⟨_,rfl⟩,.inl ⟨_,rfl,i2.g9 T (.inr d3)⟩⟩
     rw [if_neg (by simpa using d3)]
     have l2:jb+1<b.size:=Bc lb d3
     refine aP (iA Dm (aP ?_))
     refine As hk T.sym ?_ l2 Dm λm m1 m2 m3=>?_
     .exact hd
     dsimp only
     have hR:Inv κ a.toList b.toList (o.push b[jb]).toList j (jb+1)/\(m=0->∀y∈b.toList.drop (jb+1),κ a[j]<κ y)/\jb+1<b.size/\jh+l8<=j+(jb+1)/\jb+1+m<=b.size/\(∀x∈(b.toList.drop (jb+1)).take m,∀y∈a.toList.drop j,κ x<κ y)/\∀y∈b.toList.drop (jb+1+m),κ a[j]<κ y:=⟨i2,λz=>by rw [z] at m3;exact m3,l2,Nat.le_succ_of_le hp,m1,m2,m3⟩
     clear i2 l2 m1 m2 m3
     generalize o.push b[jb]=o2 at hR ⊢
     generalize jb+1=j2 at hR ⊢
     revert o2 j2
     refine Ez (λp q=>Inv κ a.toList b.toList p.toList j q/\q<b.size/\(∀y∈b.toList.drop q,κ a[j]<κ y)/\jh+l8<=j+q) ?_ (λo2 j2 hR hF d4=>?_) λout ja hR d0=>⟨hR.1,hR.2.2.1,hR.2.1 (vD d0),hR.2.2.2.1⟩
     .rintro p q ⟨i3,hq,m3,hp⟩
      refine aP (iA Dm ?_)
      have i4:=i3.o8 T Dm m3
      by_cases d6:j+1+1=a.size
      .rw [if_pos (by simpa using d6)]
       exact aX ⟨⟨_,rfl⟩,.inl ⟨_,rfl,i4.ju T hm d6⟩⟩
      rw [if_neg (by simpa using d6)]
      have hJ:J κ a b (p.push a[j]) (j+1) q:=⟨i4,Bc hj d6,hq⟩
      have wt:jh+l8<=j+1+q:=fg hp (Jy (AU j) q)
      by_cases d7:(decide (k<7)&&decide (m<7))=true
      .rw [if_pos d7]
       exact aX ⟨⟨_,rfl⟩,.inr ⟨_,_,_,_,_,_,rfl,hJ,wt⟩⟩
      .rw [if_neg d7]
       exact aX ⟨⟨_,rfl⟩,_,_,_,_,_,_,rfl,hJ,wt⟩
     .obtain ⟨i2,_,l2,hp,m1,m2,m3⟩:=hR
      have i3:=i2.Gn T m m2
      by_cases d5:j2+m=b.size
      .rw [if_pos (by simpa using d5)]
       exact aX ⟨⟨_,rfl⟩,.inl ⟨_,rfl,i3.g9 T (.inr d5)⟩⟩
      rw [if_neg (by simpa using d5)]
      exact hF _ _ ⟨i3,Bc m1 d5,m3,fg hp (Nat.add_le_add_left (tN j2 m) j)⟩
    .obtain ⟨i0,_,la,hp,k1,k2,k3⟩:=hR
     have i1:=i0.yv T k k2
     by_cases d1:ja+k+1=a.size
     .rw [if_pos (by simpa using d1)]
      exact aX ⟨⟨_,rfl⟩,.inl ⟨_,rfl,i1.ju T hm d1⟩⟩
     rw [if_neg (by simpa using d1)]
     by_cases d2:ja+k=a.size
     .rw [if_pos (by simpa using d2)]
      exact aX ⟨⟨_,rfl⟩,.inl ⟨_,rfl,i1.g9 T (.inl d2)⟩⟩
     rw [if_neg (by simpa using d2)]
     exact hF _ _ ⟨i1,Bc (Bc k1 d2) d1,k3,fg hp (Jy (tN ja k) jb)⟩
   .obtain ⟨hg,out,ja,jb,mg,ac,bc,rfl,hJ,hp⟩:=hI
    exact ⟨hg,.inr ⟨_,_,_,_,_,_,rfl,hJ,‹_›⟩⟩
   .obtain ⟨⟨g,rfl⟩,⟨r,e,hr⟩ | ⟨out,ja,jb,mg,ac,bc,rfl,hJ,hp⟩⟩:=hI
    .obtain ⟨q1,q2⟩:=q
     dsimp only at e
     rw [e]
     exact aX ⟨⟨_,rfl⟩,_,rfl,hr⟩
    .dsimp only
     exact aP (EL (aX ⟨⟨_,rfl⟩,_,_,_,_,rfl,hJ,by lia⟩))
 .obtain ⟨_,out,ia,ib,mg,rfl,hJ,hp⟩:=hI
  have la:=hJ.la
  have lb:=hJ.lb
  ext _ hb hp la lb
 .obtain ⟨⟨g,rfl⟩,r,e,hr⟩:=hI
  rw [e]
  exact aX (h _ _ hr)
end
section
variable {prog:Program}{w:World}{A:Around}{E:Value->Shared->Prop}{s:Shared}{kd:SortKind}{κ:Keyed->Int}{C:Keyed->Prop}{a b:Array Keyed}
noncomputable def ng(κ:Keyed->Int)(x:Keyed):Int:=-κ x
theorem dG:eh (ng κ) l.reverse↔eh κ l:=by
 unfold eh
 rw [List.pairwise_reverse]
 constructor<;>exact λh=>h.imp λz=>by unfold ng at *;ext z
theorem qw(l:List Keyed)(h:n<=l.length):l.reverse.drop (l.length-n)=(l.take n).reverse:=by
 rw [List.reverse_take]
theorem O7(l:List Keyed)(h:n<=l.length)(hk:k<=n):(l.reverse.drop (l.length-n)).take (n-k)=((l.take n).drop k).reverse:=by
 rw [qw l h,List.reverse_drop,iZ,D4 h]
theorem Fu(a:Array Keyed)(n:Nat):(a.extract 0 n).toList=a.toList.take n:=by
 rw [Ek,Ef]
 rfl
theorem K1(a:Array Keyed)(i n:Nat):(a.extract i n).toList=(a.toList.take n).drop i:=by
 rw [Ek,Ef,Jh]
structure H(κ:Keyed->Int)(a b out:Array Keyed)(na nb:Nat):Prop where
 inv:Inv (ng κ) a.toList.reverse b.toList.reverse out.toList (a.toList.length-na) (b.toList.length-nb)
 la:na<=a.toList.length
 lb:nb<=b.toList.length
variable {out:Array Keyed}{na nb:Nat}
theorem H.sym(h:H κ a b out na nb):H κ b a out nb na:=⟨h.inv.sym,h.lb,h.la⟩
theorem H.seg(h:H κ a b out na nb)(T:gr κ C a b)(hk:k<=na)(hx:∀x∈(a.toList.take na).drop k,∀y∈b.toList.take nb,κ y<κ x):H κ a b (out++(a.extract k na).reverse) k nb:=by
 have la:=h.la
 refine ⟨?_,by ext hk la,h.lb⟩
 have i:=h.inv.a (dG.mpr T.sa) (na-k) λx jX y hy=>?_
 .rw [O7 _ h.la hk,show a.toList.length-na+(na-k)=a.toList.length-k by ext hk la] at i
  rw [nX,Ej,K1]
  exact i
 .rw [O7 _ h.la hk] at jX
  rw [qw _ h.lb] at hy
  have:=hx x (wN.mp jX) y (wN.mp hy)
  unfold ng
  ext this
theorem H.push(h:H κ a b out na nb)(T:gr κ C a b)(h0:0<na)(hn:na-1<a.size)(hx:∀y∈b.toList.take nb,κ y<κ a[na-1]):H κ a b (out.push a[na-1]) (na-1) nb:=by
 have la:=h.la
 rw [gP] at la
 have e:(a.toList.take na).drop (na-1)=[a[na-1]]:=by
  rw [Jh,show na-(na-1)=1 by ext h0,K4 hn]
 have:=h.seg T (k:=na-1) (by ext) λx jX y hy=>by
  rw [e,bU] at jX
  rw [jX]
  exact hx y hy
 have e2:out++(a.extract (na-1) na).reverse=out.push a[na-1]:=by
  apply Array.toList_inj.mp
  rw [nX,Ej,K1,e,wQ]
  rfl
 rw [e2] at this
 exact this
theorem H.y8(h:H κ a b out na nb)(T:gr κ C a b)(hm:na=0\/nb=0):Mg κ a b (a.extract 0 na++b.extract 0 nb++out.reverse):=by
 have q:=h.inv.last (dG.mpr T.sa) (dG.mpr T.sb) λx hx y hy=>by
  rw [qw _ h.lb,wN] at hx
  rw [qw _ h.la,wN] at hy
  rcases hm with rfl | rfl
  .rw [List.take_zero] at hy;cases hy
  .rw [List.take_zero] at hx;cases hx
 have e:(a.extract 0 na++b.extract 0 nb++out.reverse).toList=(out.toList++b.toList.reverse.drop (b.toList.length-nb)++a.toList.reverse.drop (a.toList.length-na)).reverse:=by
  rw [qw _ h.lb,qw _ h.la,nX,nX,Ej,Fu,Fu]
  simp
 unfold Mg
 rw [e]
 refine ⟨?_,?_⟩
 .have:=q.1
  rw [<-Ou (as:=out.toList++_++_)] at this
  exact dG.mp this
 .refine (wO _).trans (q.2.trans ?_)
  exact (wO _).append (wO _)
theorem H.C7(h:H κ a b out na nb)(T:gr κ C a b)(hm:∀x∈b.toList.take nb,∀y∈a.toList,κ x<κ y):Mg κ a b (b.extract 0 nb++a.extract 0 na++out.reverse):=by
 have q:=h.inv.done (dG.mpr T.sa) (dG.mpr T.sb) λx hx y hy=>by
  rw [qw _ h.la,wN] at hx
  rw [qw _ h.lb,wN] at hy
  have:=hm y hy x (vC hx)
  unfold ng
  ext this
 have e:(b.extract 0 nb++a.extract 0 na++out.reverse).toList=(out.toList++a.toList.reverse.drop (a.toList.length-na)++b.toList.reverse.drop (b.toList.length-nb)).reverse:=by
  rw [qw _ h.lb,qw _ h.la,nX,nX,Ej,Fu,Fu]
  simp
 unfold Mg
 rw [e]
 refine ⟨?_,?_⟩
 .have:=q.1
  rw [<-Ou (as:=out.toList++_++_)] at this
  exact dG.mp this
 .refine (wO _).trans (q.2.trans ?_)
  exact (wO _).append (wO _)
theorem JY(h:x∈a.toList.take n):∃j,∃hj:j<a.size,j<n/\x=a[j]:=by
 obtain ⟨j,hj,_,j2,e⟩:=KE (i:=0) (k:=n) (by rw [DK];exact h)
 exact ⟨j,hj,by ext j2,e⟩
theorem JU(T:gr κ C a b)(hi:i<a.size)(hj:j<b.size)(h:κ b[j]<κ a[i]):∀y∈b.toList.take (j+1),κ y<κ a[i]:=λy hy=>by
 obtain ⟨m,hm,m1,rfl⟩:=JY hy
 by_cases c:m=j
 .subst c;exact h
 .have:=fM T.sb (show m<j by ext m1 c) hj
  rw [iK hm,iK hj] at this
  ext hm hi hj h this
theorem Ar(hk:Ask prog w s kd κ C)(T:gr κ C a b){st:SortSt}(hd:kindOf st=kd){Q:Option Nat->SortSt->Prop}(hn:n<=a.size)(h0:0<n)(hj:j<b.size)
  (h:∀k,k<=n->(∀x∈(a.toList.take n).drop k,∀y∈b.toList.take (j+1),κ y<κ x)->(∀y∈a.toList.take k,κ y<κ b[j])->Q (some k) st):wpS (model prog w) A E s (a9d l b[j] a 0 n (n-1)) Q st:=by
 refine Dv hk hd (T.Dc hj) (by ext hn) (by ext h0) (λn hn _ _=>⟨T.Dd hn,T.wg hn hj⟩) (λx y h1 h2=>fM T.sa (by ext h1) (by ext hn h2)) λk k1 k2 k3=>h k ‹_› (λx hx=>?_) λy hy=>?_
 .rw [Jh] at hx
  obtain ⟨m,hm,m1,m2,rfl⟩:=KE hx
  have e:=k3 m ‹_› (by ext k1 m2)
  rw [rE,iK hm] at e
  exact JU T hm hj e
 .obtain ⟨m,hm,m1,rfl⟩:=JY hy
  have e:=k2 m ‹_›
  rw [rE,iK hm] at e
  exact e
theorem Wl(hk:Ask prog w s kd κ C)(T:gr κ C a b){st:SortSt}(hd:kindOf st=kd){Q:Array Keyed->SortSt->Prop}(ha:0<a.size)(hb:0<b.size)(h0:κ b[0]<κ a[0])(hm:∀x∈b.toList,κ x<κ a[a.size-1])
  (h:∀r g,Mg κ a b r->Q r (sg st g)):wpS (model prog w) A E s (b3l a b) Q st:=by
 unfold wpS
 wp_delta
 wp_delta
 wp_delta
 refine xg (Q:=Q) (aP (wW (aP (iA (show a.size-1<a.size by ext ha) ?_))))
 dsimp only
 have hz:H κ a b #[] a.size b.size:=⟨by rw [gP,gP,A6,A6];exact zu,by simp,by simp⟩
 have i0:H κ a b #[a[a.size-1]] (a.size-1) b.size:=hz.push T ha (by ext ha) λy hy=>hm y (vC hy)
 have hf:∀x∈b.toList.take 1,∀y∈a.toList,κ x<κ y:=λx hx y hy=>by
  obtain ⟨m,hm,m1,rfl⟩:=JY hx
  obtain rfl:m=0:=by ext m1
  exact E8 T ha hb h0 y (by rw [DK];exact hy)
 by_cases c1:a.size-1=0
 .rw [if_pos (by simpa using c1)]
  exact aX (h _ (gallopOf st) (i0.y8 T (.inl c1)))
 rw [if_neg (by simpa using c1)]
 by_cases c2:b.size=1
 .rw [if_pos (by simpa using c2)]
  exact aX (h _ (gallopOf st) (i0.C7 T (by rw [c2];exact hf)))
 rw [if_neg (by simpa using c2)]
 refine aP (nQ ?_)
 refine aP (kQ (kR (λx q ak=>(∃g,ak=sg st g)/\∃na nb out mg,q=(none,na,nb,out,mg)/\H κ a b out na nb/\1<=na/\2<=nb/\na+nb+x+1<=a.size+b.size) (Q:=λq ak=>(∃g,ak=sg st g)/\∃r,q.1=some r/\Mg κ a b r) (λx q ak _ hx hI=>?_) (λq ak hI=>?_) ⟨⟨gallopOf st,rfl⟩,_,_,_,_,rfl,i0,by ext ha c1,by ext hb c2,by ext ha⟩) λq ak hI=>?_)
 .obtain ⟨⟨g,rfl⟩,na,nb,out,mg,rfl,hJ,ga,gb,hp⟩:=hI
  dsimp only
  refine aP (kQ (kR (λx q ak=>(∃g,ak=sg st g)/\∃mU mT fP ac bc,q=(none,mU,mT,fP,ac,bc)/\H κ a b fP mU mT/\1<=mU/\2<=mT/\mU+mT+x<=na+nb) (Q:=λq ak=>(∃g,ak=sg st g)/\((∃r,q.1=some r/\Mg κ a b r)\/∃mU mT fP ac bc,q=(none,mU,mT,fP,ac,bc)/\H κ a b fP mU mT/\1<=mU/\2<=mT/\mU+mT+1<=na+nb)) (λx q ak _ hx hI=>?_) (λq ak hI=>?_) ⟨⟨_,rfl⟩,_,_,_,_,_,rfl,hJ,ga,gb,by ext⟩) λq ak hI=>?_)
  .obtain ⟨⟨g,rfl⟩,na,nb,out,ac,bc,rfl,hJ,ga,gb,hp⟩:=hI
   dsimp only
   have la:=hJ.la
   have lb:=hJ.lb
   rw [gP] at la lb
   have xa:na-1<a.size:=by ext ga la
   have xb:nb-1<b.size:=by ext gb lb
   refine aP (iA xb (aP (iA xa (aP (zd hk hd (T.Dc xb) (T.Dd xa) (gm (T.wg xa xb)) ?_)))))
   dsimp only
   by_cases c:κ b[nb-1]<κ a[na-1]
   .rw [if_pos (decide_eq_true c)]
    refine aP (iA xa ?_)
    have i2:=hJ.push T ‹_› xa (by have:=JU T xa xb c;rw [show nb-1+1=nb by ext gb] at this;exact this)
    by_cases d1:na-1=0
    .rw [if_pos (by simpa using d1)]
     exact aX ⟨⟨_,rfl⟩,.inl ⟨_,rfl,i2.y8 T (.inl d1)⟩⟩
    rw [if_neg (by simpa using d1)]
    by_cases d2:ac+1≥mg
    .rw [if_pos d2]
     exact aX ⟨⟨_,rfl⟩,.inr ⟨_,_,_,_,_,rfl,i2,by ext d1,‹_›,by ext hp d1⟩⟩
    .rw [if_neg d2]
     exact aX ⟨⟨_,rfl⟩,_,_,_,_,_,rfl,i2,by ext d1,‹_›,by ext hp d1⟩
   .rw [if_neg (by simpa using c)]
    refine aP (iA xb ?_)
    have bP:=T.wg xa xb
    have i2:=(hJ.sym.push T.sym (by ext gb) xb (by have:=JU T.sym xb xa (by ext xa xb c bP);rw [show na-1+1=na by ext ga] at this;exact this)).sym
    by_cases d1:nb-1=1
    .rw [if_pos (by simpa using d1)]
     exact aX ⟨⟨_,rfl⟩,.inl ⟨_,rfl,i2.C7 T (by rw [d1];exact hf)⟩⟩
    rw [if_neg (by simpa using d1)]
    by_cases d2:bc+1≥mg
    .rw [if_pos d2]
     exact aX ⟨⟨_,rfl⟩,.inr ⟨_,_,_,_,_,rfl,i2,‹_›,by ext gb d1,by ext gb hp⟩⟩
    .rw [if_neg d2]
     exact aX ⟨⟨_,rfl⟩,_,_,_,_,_,rfl,i2,‹_›,by ext gb d1,by ext gb hp⟩
  .obtain ⟨hg,na,nb,out,ac,bc,rfl,hJ,ga,gb,hp⟩:=hI
   exact ⟨hg,.inr ⟨_,_,_,_,_,rfl,hJ,ga,gb,by ext ha hb hp⟩⟩
  .obtain ⟨⟨g,rfl⟩,⟨r,e,hr⟩ | ⟨mU,mT,fP,ac,bc,rfl,HX,X8,X7,uJ⟩⟩:=hI
   .obtain ⟨q1,q2⟩:=q
    dsimp only at e
    rw [e]
    exact aX ⟨⟨_,rfl⟩,_,rfl,hr⟩
   dsimp only
   refine aP (wW ?_)
   refine aP (kQ (kR (λx q ak=>(∃g,ak=sg st g)/\∃ja jb out mg ac bc,q=(none,ja,jb,out,mg,ac,bc)/\H κ a b out ja jb/\1<=ja/\2<=jb/\ja+jb<=mU+mT) (Q:=λq ak=>(∃g,ak=sg st g)/\((∃r,q.1=some r/\Mg κ a b r)\/∃ja jb out mg ac bc,q=(none,ja,jb,out,mg,ac,bc)/\H κ a b out ja jb/\1<=ja/\2<=jb/\ja+jb<=mU+mT)) (λx q ak _ hx hI=>?_) (λq ak hI=>?_) ⟨⟨_,rfl⟩,_,_,_,_,_,_,rfl,HX,X8,X7,by ext⟩) λq ak hI=>?_)
   .obtain ⟨⟨g,rfl⟩,ja,jb,out,mg,ac,bc,rfl,hJ,ga,gb,hp⟩:=hI
    dsimp only
    have la:=hJ.la
    have lb:=hJ.lb
    rw [gP] at la lb
    have xb:jb-1<b.size:=by ext gb lb
    revert mg
    refine zp (λmg=>mg-1) (λ_=>rfl) λmg=>?_
    refine aP (EL (aP (iA xb (aP ?_))))
    refine Ar hk T ?_ la ga xb λk k1 k2 k3=>?_
    .exact hd
    dsimp only
    have jj:jb-1+1=jb:=Nat.sub_add_cancel (Nat.le_of_succ_le gb)
    rw [jj] at k2
    have hR:H κ a b out ja jb/\(ja-k=0->1<=ja/\ja<=k)/\k<=ja/\(∀x∈(a.toList.take ja).drop k,∀y∈b.toList.take jb,κ y<κ x):=⟨hJ,λz=>⟨ga,Ox z⟩,k1,k2⟩
    have Xz:k<=a.size:=fg k1 la
    have Xo:k+jb<=mU+mT:=fg (Jy k1 jb) hp
    clear hJ k2 la ga hp k1
    generalize ja-k=cnt at hR ⊢
    revert out ja
    refine Ez (λn o=>H κ a b o n jb/\n=k/\1<=n) ?_ (λja out hR hF d0=>?_) λja out hR d0=>⟨hR.1,D5 (hR.2.1 (vD d0)).2 hR.2.2.1,(hR.2.1 (vD d0)).1⟩
    .rintro n o ⟨i1,rfl,hn⟩
     have xa:n-1<a.size:=jl (Nat.sub_lt hn Nat.one_pos) Xz
     refine aP (iA xb ?_)
     have i2:=(i1.sym.push T.sym (Nat.lt_of_succ_le (Nat.le_of_succ_le gb)) xb k3).sym
     by_cases d3:jb-1=1
     .rw [if_pos (by simpa using d3)]
      exact aX ⟨⟨_,rfl⟩,.inl ⟨_,rfl,i2.C7 T (by rw [d3];exact hf)⟩⟩
     rw [if_neg (by simpa using d3)]
     have g2:2<=jb-1:=ER gb d3
     have g3:jb-1<=b.size:=wG xb
     refine aP (iA xa (aP ?_))
     refine Ar hk T.sym ?_ g3 (vj g2) xa λm m1 m2 m3=>?_
     .exact hd
     dsimp only
     rw [Nat.sub_add_cancel hn] at m2
     have hR:H κ a b (o.push b[jb-1]) n (jb-1)/\(jb-1-m=0->2<=jb-1/\jb-1<=m)/\m<=jb-1/\(∀x∈(b.toList.take (jb-1)).drop m,∀y∈a.toList.take n,κ y<κ x):=⟨i2,λz=>⟨g2,Ox z⟩,m1,m2⟩
     have ND:n-1+m<=mU+mT:=fg (Nat.add_le_add (Nat.sub_le n 1) (fg m1 (Nat.sub_le jb 1))) Xo
     clear i2 g2 g3 m1 m2
     generalize jb-1-m=IA at hR ⊢
     generalize o.push b[jb-1]=o2 at hR ⊢
     generalize jb-1=j2 at hR ⊢
     revert o2 j2
     refine Ez (λp q=>H κ a b p n q/\q=m/\2<=q) ?_ (λo2 j2 hR hF d4=>?_) λout ja hR d0=>⟨hR.1,D5 (hR.2.1 (vD d0)).2 hR.2.2.1,(hR.2.1 (vD d0)).1⟩
     .rintro p q ⟨i3,rfl,hq⟩
      refine aP (iA xa ?_)
      have i4:=i3.push T hn xa m3
      by_cases d6:n-1=0
      .rw [if_pos (by simpa using d6)]
       exact aX ⟨⟨_,rfl⟩,.inl ⟨_,rfl,i4.y8 T (.inl d6)⟩⟩
      rw [if_neg (by simpa using d6)]
      have h6:1<=n-1:=Nat.pos_of_ne_zero d6
      by_cases d7:(decide (cnt<7)&&decide (IA<7))=true
      .rw [if_pos d7]
       exact aX ⟨⟨_,rfl⟩,.inr ⟨_,_,_,_,_,_,rfl,i4,h6,hq,ND⟩⟩
      .rw [if_neg d7]
       exact aX ⟨⟨_,rfl⟩,_,_,_,_,_,_,rfl,i4,h6,hq,ND⟩
     .obtain ⟨i2,_,m1,m2⟩:=hR
      have i3:=(i2.sym.seg T.sym m1 m2).sym
      by_cases d5:m=1
      .rw [if_pos (by simpa using d5)]
       exact aX ⟨⟨_,rfl⟩,.inl ⟨_,rfl,i3.C7 T (by rw [d5];exact hf)⟩⟩
      rw [if_neg (by simpa using d5)]
      by_cases d8:m=0
      .rw [if_pos (by simpa using d8)]
       exact aX ⟨⟨_,rfl⟩,.inl ⟨_,rfl,i3.y8 T (.inr d8)⟩⟩
      rw [if_neg (by simpa using d8)]
      exact hF _ _ ⟨i3,rfl,b7s d5 d8⟩
    .obtain ⟨hJ,_,k1,k2⟩:=hR
     have i1:=hJ.seg T k1 k2
     by_cases d1:k=0
     .rw [if_pos (by simpa using d1)]
      exact aX ⟨⟨_,rfl⟩,.inl ⟨_,rfl,i1.y8 T (.inl d1)⟩⟩
     rw [if_neg (by simpa using d1)]
     exact hF _ _ ⟨i1,rfl,Nat.pos_of_ne_zero d1⟩
   .obtain ⟨hg,ja,jb,out,mg,ac,bc,rfl,hJ,ga,gb,hp⟩:=hI
    exact ⟨hg,.inr ⟨_,_,_,_,_,_,rfl,hJ,ga,gb,‹_›⟩⟩
   .obtain ⟨⟨g,rfl⟩,⟨r,e,hr⟩ | ⟨ja,jb,out,mg,ac,bc,rfl,hJ,ga,gb,hp⟩⟩:=hI
    .obtain ⟨q1,q2⟩:=q
     dsimp only at e
     rw [e]
     exact aX ⟨⟨_,rfl⟩,_,rfl,hr⟩
    .dsimp only
     exact aP (EL (aX ⟨⟨_,rfl⟩,_,_,_,_,rfl,hJ,ga,gb,by lia⟩))
 .obtain ⟨_,na,nb,out,mg,rfl,hJ,ga,gb,hp⟩:=hI
  ext _ hp
 .obtain ⟨⟨g,rfl⟩,r,e,hr⟩:=hI
  rw [e]
  exact aX (h _ _ hr)
end
section
variable {prog:Program}{w:World}{A:Around}{E:Value->Shared->Prop}{s:Shared}{kd:SortKind}{κ:Keyed->Int}{C:Keyed->Prop}
theorem b5j{σ:Type}{M:Model}{Q:PUnit->σ->Prop}{st ak:σ}(h:Q ⟨⟩ ak):wpS M A E s (set ak:StateT σ Sem PUnit) Q st:=by
 unfold wpS
 rw [StateT.run_set]
 exact aZ ⟨rfl,h⟩
theorem P7(e:arr.toList=P++R++S)(h:i<R.length):kv κ arr (P.length+i)=κ R[i]:=by
 unfold kv
 have:arr[P.length+i]?=some R[i]:=by
  rw [<-tH,e,fB,rG (by ext),vw (by ext h)]
  simp [h]
 rw [this]
def ub(κ:Keyed->Int)(l:List Keyed):Prop:=(l.map κ).Nodup
theorem ub.ne{arr:Array Keyed}(h:ub κ arr.toList){i j:Nat}(hi:i<arr.size)(hj:j<arr.size)(cR:i≠j):κ arr[i]≠κ arr[j]:=λz=>by
 refine cR ((List.getElem_inj (h₀:=by simpa using hi) (h₁:=by simpa using hj) h).mp ?_)
 simpa using z
theorem ub.app(h:ub κ (l++m)):∀x∈l,∀y∈m,κ x≠κ y:=λx hx y hy z=>by
 unfold ub at h
 rw [fX,DZ] at h
 exact h.2.2 _ (dz.mpr ⟨x,hx,rfl⟩) _ (dz.mpr ⟨y,hy,rfl⟩) z
theorem E7{R:List Keyed}(h:eh κ R){i j:Nat}(cR:i<j)(hj:j<R.length):κ (R[i]'(by ext cR hj))<κ R[j]:=wR.mp h i j (by ext cR hj) hj cR
theorem Wm(hk:Ask prog w s kd κ C){st:SortSt}(hd:kindOf st=kd)(hf:failedOf st=none){Q:Bool->SortSt->Prop}(e:(arrOf st).toList=P++R1++R2++S)(hC:∀x∈(arrOf st).toList,C x)(hD:ub κ (arrOf st).toList)
  (s1:eh κ R1)(s2:eh κ R2)(n1:R1≠[])(n2:R2≠[])(e1:(pendingOf st)[i]?=some (P.length,R1.length,pw))(e2:(pendingOf st)[i+1]?=some (P.length+R1.length,R2.length,p2))
  (h:∀ak R,kindOf ak=kd->failedOf ak=none->(arrOf ak).toList=P++R++S->eh κ R->R.Perm (R1++R2)->pendingOf ak=((pendingOf st).setIfInBounds i (P.length,R1.length+R2.length,pw)).eraseIdxIfInBounds (i+1)->Q true ak):wpS (model prog w) A E s (mergeAt' i) Q st:=by
 have l1:=vE.mpr n1
 have l2:=vE.mpr n2
 have hz:(arrOf st).size=P.length+R1.length+R2.length+S.length:=by rw [<-gP,e];simp only [dC]
 have eA:(arrOf st).toList=P++R1++(R2++S):=by rw [e,fB]
 have eB:(arrOf st).toList=(P++R1)++R2++S:=e
 have lB:(P++R1).length=P.length+R1.length:=dC ..
 have kA:∀j (hj:j<R1.length),kv κ (arrOf st) (P.length+j)=κ R1[j]:=λj hj=>P7 eA hj
 have kB:∀j (hj:j<R2.length),kv κ (arrOf st) (P.length+R1.length+j)=κ R2[j]:=λj hj=>by rw [<-lB];exact P7 eB hj
 have b0:P.length+R1.length<(arrOf st).size:=by ext l2 hz:1
 have Nn:κ (arrOf st)[P.length+R1.length]=κ R2[0]:=by rw [<-iK (κ:=κ) b0,<-kB 0 l2];rfl
 have aL:P.length+R1.length-1<(arrOf st).size:=by ext b0:1
 have Np:κ (arrOf st)[P.length+R1.length-1]=κ R1[R1.length-1]:=by rw [<-iK (κ:=κ) aL,<-kA _ (by ext l1:1)];congr 1;ext l1:1
 have Dt:∀j (hj:j<(arrOf st).size),C (arrOf st)[j]:=λj hj=>hC _ (by simp)
 have z1:P.length+R1.length<=(arrOf st).size:=by ext b0:1
 have z2:P.length+R1.length+R2.length<=(arrOf st).size:=by ext hz:1
 have plain:(∀x∈R1,∀y∈R2,κ x<κ y)->eh κ (R1++R2):=λz=>gQ.mpr ⟨s1,s2,z⟩
 unfold wpS
 wp_delta
 wp_delta
 wp_delta
 refine xg (Q:=Q) (aP (nQ ?_))
 rw [e1,e2]
 dsimp only
 refine aP (b5j (aP (iA b0 (aP ?_))))
 refine Dv hk ?_ (Dt _ b0) z1 l1 (λj hj h1 h2=>⟨Dt j hj,hD.ne hj b0 (by ext h2:1)⟩) (λx y hx hy=>by rw [kA _ (by ext hx hy:1),kA _ hy];exact E7 s1 hx hy) λk k1 k2 k3=>?_
 .exact hd
 dsimp only
 have c2:∀x∈R1.take k,∀y∈R2,κ x<κ y:=λx hx y hy=>by
  obtain ⟨j,hj,rfl⟩:=oG.mp hx
  obtain ⟨m,hm,rfl⟩:=oG.mp hy
  rw [iZ] at hj
  have:=k2 j (by ext hj:1)
  rw [kA j (by ext hj:1),Nn] at this
  rw [DY]
  by_cases c:m=0
  .subst c;exact this
  .have:=E7 s2 (show 0<m by ext c:1) hm
   lia
 by_cases d1:R1.length-k=0
 .rw [if_pos (by simpa using d1)]
  refine aX (h _ (R1++R2) hd hf (by show (arrOf st).toList=_;rw [e];simp) (plain ?_) (AY _) rfl)
  rw [wV (by ext d1:1)] at c2
  exact c2
 rw [if_neg (by simpa using d1)]
 have ek:P.length+k+(R1.length-k)-1=P.length+R1.length-1:=by ext k1:1
 rw [ek]
 refine aP (iA aL (aP ?_))
 refine Dv hk ?_ (Dt _ aL) z2 (by ext l2:1) (λj hj h1 h2=>⟨Dt j hj,hD.ne hj aL (by ext l1 h1:1)⟩) (λx y hx hy=>by rw [kB _ (by ext hx hy:1),kB _ hy];exact E7 s2 hx hy) λm m1 m2 m3=>?_
 .exact hd
 dsimp only
 have c3:∀x∈R2.drop m,∀y∈R1,κ y<κ x:=λx hx y hy=>by
  obtain ⟨j,hj,rfl⟩:=oG.mp hx
  obtain ⟨n,hn,rfl⟩:=oG.mp hy
  rw [nr] at hj
  have:=m3 (m+j) (by ext:1) (by ext hj:1)
  rw [kB _ (by ext hj:1),Np] at this
  rw [List.getElem_drop]
  by_cases c:n=R1.length-1
  .subst c;exact this
  .have:=E7 s1 (show n<R1.length-1 by ext hn c:1) (by ext l1:1)
   lia
 by_cases d2:m=0
 .rw [if_pos (by simpa using d2)]
  refine aX (h _ (R1++R2) hd hf (by show (arrOf st).toList=_;rw [e];simp) (plain λx hx y hy=>c3 y (by rw [d2];exact hy) x hx) (AY _) rfl)
 rw [if_neg (by simpa using d2)]
 have eX:((arrOf st).extract (P.length+k) (P.length+R1.length)).toList=R1.drop k:=by
  rw [K1,eA,OM (by simp),<-lB,List.take_length,List.drop_append,ny (by ext:1),D3]
  congr 1
  ext:1
 have eY:((arrOf st).extract (P.length+R1.length) (P.length+R1.length+m)).toList=R2.take m:=by
  rw [QM,eB,fB,<-lB,List.drop_append,List.drop_length,D3,A6,DK,OM m1]
 have zX:((arrOf st).extract (P.length+k) (P.length+R1.length)).size=R1.length-k:=by rw [<-gP,eX,nr]
 have zY:((arrOf st).extract (P.length+R1.length) (P.length+R1.length+m)).size=m:=by rw [<-gP,eY,iZ];ext m1:1
 have X4:∀x∈R1,C x:=λx hx=>hC x (by rw [e];simp [hx])
 have X3:∀x∈R2,C x:=λx hx=>hC x (by rw [e];simp [hx])
 have bP:∀x∈R1,∀y∈R2,κ x≠κ y:=λx hx y hy=>by
  rw [eA] at hD
  exact hD.app x (by simp [hx]) y (by simp [hy])
 have T:gr κ C ((arrOf st).extract (P.length+k) (P.length+R1.length)) ((arrOf st).extract (P.length+R1.length) (P.length+R1.length+m)):=by
  refine ⟨?_,?_,?_,?_,?_⟩
  .rw [eX];exact xx s1 k
  .rw [eY];exact K8 s2 m
  .rw [eX];exact λx hx=>X4 x (tM hx)
  .rw [eY];exact λx hx=>X3 x (vC hx)
  .rw [eX,eY];exact λx hx y hy=>bP x (tM hx) y (vC hy)
 have gX:∀j (hj:j<((arrOf st).extract (P.length+k) (P.length+R1.length)).size),κ ((arrOf st).extract (P.length+k) (P.length+R1.length))[j]=κ (R1[k+j]'(by ext zX hj:1)):=λj hj=>by
  rw [<-Ot]
  simp only [eX,List.getElem_drop]
 have gY:∀j (hj:j<((arrOf st).extract (P.length+R1.length) (P.length+R1.length+m)).size),κ ((arrOf st).extract (P.length+R1.length) (P.length+R1.length+m))[j]=κ (R2[j]'(by ext m1 zY hj:1)):=λj hj=>by
  rw [<-Ot]
  simp only [eY,DY]
 have pX:0<((arrOf st).extract (P.length+k) (P.length+R1.length)).size:=by ext d1 zX:1
 have pY:0<((arrOf st).extract (P.length+R1.length) (P.length+R1.length+m)).size:=by ext d2 zY:1
 have h0:κ ((arrOf st).extract (P.length+R1.length) (P.length+R1.length+m))[0]<κ ((arrOf st).extract (P.length+k) (P.length+R1.length))[0]:=by
  rw [gX 0 pX,gY 0 pY]
  have:=k3 k (bh _) (by ext zX pX:1)
  rw [kA k (by ext zX pX:1),Nn] at this
  exact this
 have mZ:∀x∈((arrOf st).extract (P.length+R1.length) (P.length+R1.length+m)).toList,κ x<κ R1[R1.length-1]:=λx hx=>by
  rw [eY] at hx
  obtain ⟨j,hj,rfl⟩:=oG.mp hx
  rw [iZ] at hj
  have:=m2 j (by ext m1 zY hj:1)
  rw [kB j (by ext m1 zY hj:1),Np] at this
  rw [DY]
  exact this
 have rest:∀(r:Array Keyed) (g:Nat),Mg κ ((arrOf st).extract (P.length+k) (P.length+R1.length)) ((arrOf st).extract (P.length+R1.length) (P.length+R1.length+m)) r->Q true (AX (kindOf st) (r.toList.zipIdx.foldl (λa x=>match x with | (p,j)=>a.setIfInBounds (P.length+k+j) p) (arrOf st)) (((pendingOf st).setIfInBounds i (P.length,R1.length+R2.length,pw)).eraseIdxIfInBounds (i+1)) g (failedOf st)):=λr g hM=>by
  unfold Mg at hM
  rw [eX,eY] at hM
  obtain ⟨q1,q2⟩:=b1D s1 s2 c2 c3 hM.1 hM.2
  refine h _ (R1.take k++r.toList++R2.drop m) hd hf ?_ q1 q2 rfl
  have hl:r.toList.length=(R1.drop k++R2.take m).length:=hM.2.length_eq
  have eP:(arrOf st).toList=(P++R1.take k)++(R1.drop k++R2.take m)++(R2.drop m++S):=by
   rw [e]
   have x1:R1=R1.take k++R1.drop k:=(nY ..).symm
   have x2:R2=R2.take m++R2.drop m:=(nY ..).symm
   generalize R1.take k=u at *
   generalize R1.drop k=u2 at *
   generalize R2.take m=v at *
   generalize R2.drop m=v2 at *
   rw [x1,x2]
   simp only [fB]
  have lP:(P++R1.take k).length=P.length+k:=by rw [dC,iZ];ext hz lB k1:1
  have:=b0h eP hl
  rw [lP] at this
  show (r.toList.zipIdx.foldl (λa x=>a.setIfInBounds (P.length+k+x.2) x.1) (arrOf st)).toList=_
  rw [this]
  simp only [fB]
 by_cases d3:R1.length-k<=m
 .rw [if_pos d3]
  refine aP ?_
  refine Wk hk T ?_ pX pY h0 (λx hx y hy=>?_) λr g hM=>?_
  .exact hd
  .rw [eX,zX,List.drop_drop,show k+(R1.length-k-1)=R1.length-1 by ext l1 hz lB zX pX:1,j0 (by ext l1 hz lB:1),show R1.length-1+1=R1.length by ext l1 hz lB:1,List.drop_length,bU] at hy
   rw [hy]
   exact mZ x hx
  .refine aP (qu (aP (nQ (aX ?_))))
   have:=rest r g hM
   show Q (failedOf st).isNone _
   rw [hf]
   exact this
 .rw [if_neg d3]
  refine aP ?_
  refine Wl hk T ?_ pX pY h0 (λx hx=>?_) λr g hM=>?_
  .exact hd
  .rw [gX _ (by ext zX pX:1)]
   have:=mZ x hx
   simp only [zX,show k+(R1.length-k-1)=R1.length-1 by ext l1 hz lB zX pX:1]
   exact this
  .refine aP (qu (aP (nQ (aX ?_))))
   have:=rest r g hM
   show Q (failedOf st).isNone _
   rw [hf]
   exact this
end
section
variable {prog:Program}{w:World}{A:Around}{E:Value->Shared->Prop}{s:Shared}{kd:SortKind}{κ:Keyed->Int}{C:Keyed->Prop}
structure Bs(κ:Keyed->Int)(C:Keyed->Prop)(kd:SortKind)(st:SortSt)(lo:Nat)(ak:SortSt):Prop where
 perm:(arrOf ak).Perm (arrOf st)
 ahead:∀k,k<lo->(arrOf ak)[k]?=(arrOf st)[k]?
 rest:ak=setArr st (arrOf ak)
theorem Bs.refl{st:SortSt}{lo:Nat}:Bs κ C kd st lo st:=⟨tz _,λ_ _=>rfl,rfl⟩
theorem Bs.put{st ak:SortSt}{lo:Nat}(h:Bs κ C kd st lo ak){xs:Array Keyed}(hp:xs.Perm (arrOf ak))(ha:∀k,k<lo->xs[k]?=(arrOf ak)[k]?):Bs κ C kd st lo (setArr ak xs):=
 ⟨hp.trans h.perm,λk hk=>(ha k hk).trans (h.ahead k hk),by rw [h.rest]⟩
structure Al(κ:Keyed->Int)(C:Keyed->Prop)(kd:SortKind)(st:SortSt):Prop where
 kind:kindOf st=kd
 all:∀x∈(arrOf st).toList,C x
 dst:ub κ (arrOf st).toList
theorem Al.of{st ak:SortSt}(h:Al κ C kd st)(hp:(arrOf ak).Perm (arrOf st))(hk:kindOf ak=kd):Al κ C kd ak:=
 have p:=wU.mp hp
 ⟨hk,λx hx=>h.all x (p.mem_iff.mp hx),(p.map κ).nodup_iff.mpr h.dst⟩
theorem Al.bs{st ak:SortSt}{lo:Nat}(h:Al κ C kd st)(b:Bs κ C kd st lo ak):Al κ C kd ak:=h.of b.perm (by rw [b.rest];exact h.kind)
theorem Al.ne{st:SortSt}(h:Al κ C kd st)(hi:i<(arrOf st).size)(hj:j<(arrOf st).size)(cR:i≠j):kv κ (arrOf st) i≠kv κ (arrOf st) j:=by
 rw [iK hi,iK hj]
 exact h.dst.ne hi hj cR
theorem Bk(hk:Ask prog w s kd κ C){st:SortSt}(hA:Al κ C kd st){Q:Option Bool->SortSt->Prop}(hi:i<(arrOf st).size)(hj:j<(arrOf st).size)(cR:i≠j)(h:Q (some (decide (kv κ (arrOf st) i<kv κ (arrOf st) j))) st):wpS (model prog w) A E s (ltAt' i j) Q st:=by
 rw [ltAt'_eq]
 refine aP (nQ ?_)
 show wpS _ _ _ _ (do let p <-elem' (arrOf st) i;let q <-elem' (arrOf st) j;lt' p q) Q st
 refine aP (iA hi (aP (iA hj ?_)))
 rw [iK hi,iK hj] at h
 exact zd hk hA.kind (hA.all _ (by simp)) (hA.all _ (by simp)) (hA.dst.ne hi hj cR) h
def Up(κ:Keyed->Int)(xs:Array Keyed)(lo k:Nat):Prop:=∀i j,i<j->j<k->kv κ xs (lo+i)<kv κ xs (lo+j)
def Dn(κ:Keyed->Int)(xs:Array Keyed)(lo k:Nat):Prop:=∀i j,i<j->j<k->kv κ xs (lo+j)<kv κ xs (lo+i)
theorem Up.next{lo x:Nat}(h:Up κ xs lo x)(hx:1<=x)(hl:kv κ xs (lo+(x-1))<kv κ xs (lo+x)):Up κ xs lo (x+1):=λi j cR hj=>by
 by_cases c:j<x
 .exact h i j cR c
 .obtain rfl:j=x:=by ext hj c
  by_cases d:i=j-1
  .subst d;exact hl
  .have:=h i (j-1) (by ext cR d) (by ext hx);ext hl this
theorem Dn.next{lo x:Nat}(h:Dn κ xs lo x)(hx:1<=x)(hl:kv κ xs (lo+x)<kv κ xs (lo+(x-1))):Dn κ xs lo (x+1):=λi j cR hj=>by
 by_cases c:j<x
 .exact h i j cR c
 .obtain rfl:j=x:=by ext hj c
  by_cases d:i=j-1
  .subst d;exact hl
  .have:=h i (j-1) (by ext cR d) (by ext hx);ext hl this
theorem Bw(hk:Ask prog w s kd κ C){st:SortSt}(hA:Al κ C kd st){lo a nrem:Nat}{Q:Option (Option Nat)×Nat->SortSt->Prop}(hn:lo+nrem<=(arrOf st).size)(ha:1<=a)(NM:a<=nrem)(hu:Up κ (arrOf st) lo a)
  (h:∀n,a<=n->n<=nrem->Up κ (arrOf st) lo n->(n=nrem\/n<nrem/\kv κ (arrOf st) (lo+n)<kv κ (arrOf st) (lo+(n-1)))->Q (none,n) st):
  wpS (model prog w) A E s (forIn [a:nrem] ((none,a):Option (Option Nat)×Nat) λ_ q=>ltAt' (lo+q.2) (lo+q.2-1) >>= λr=>match r with
   | some b=>if b=true then pure (DM (none,q.2)) else pure (nh (none,q.2+1))
   | x=>pure (DM (some none,q.2))) Q st:=by
 refine kR (λx c ak=>ak=st/\c=(none,x)/\Up κ (arrOf st) lo x) (λx c ak h1 h2 hI=>?_) (λc ak hI=>?_) ⟨rfl,rfl,hu⟩
 .obtain ⟨rfl,rfl,mV⟩:=hI
  dsimp only
  rw [show lo+x-1=lo+(x-1) by ext ha h1]
  refine aP (Bk hk hA (by ext h2 hn) (by ext h2 hn) (by ext ha h1) ?_)
  dsimp only
  by_cases c:kv κ (arrOf ak) (lo+x)<kv κ (arrOf ak) (lo+(x-1))
  .rw [if_pos (decide_eq_true c)]
   exact aX (h x h1 (by ext h2) mV (.inr ⟨h2,c⟩))
  .rw [if_neg (by simpa using c)]
   have:=hA.ne (i:=lo+x) (j:=lo+(x-1)) (by ext h2 hn) (by ext h2 hn) (by ext ha h1)
   exact aX ⟨rfl,rfl,mV.next (by ext ha h1) (by ext c this)⟩
 .obtain ⟨rfl,rfl,mV⟩:=hI
  rw [show max a nrem=nrem by ext NM] at mV ⊢
  exact h nrem NM (bh _) mV (.inl rfl)
theorem PV{xs:Array Keyed}{lo n:Nat}(hn:lo+n<=xs.size)(k:Nat):kv κ (mirror xs lo (lo+n) ((lo+n-lo)/2)) (lo+k)=if k<n then kv κ xs (lo+(n-1-k)) else kv κ xs (lo+k):=by
 have e:=Ju (i:=lo) hn (lo+k)
 by_cases h:k<n
 .rw [if_pos (by ext h),show lo+(lo+n)-1-(lo+k)=lo+(n-1-k) by ext h] at e
  rw [if_pos h];exact Bj e
 .rw [if_neg (by ext h)] at e
  rw [if_neg h];exact Bj e
theorem Iz(hk:Ask prog w s kd κ C){st:SortSt}(hA:Al κ C kd st){lo nrem:Nat}{Q:Option Nat->SortSt->Prop}(hn:lo+nrem<=(arrOf st).size)(h1:1<=nrem)
  (h:∀m ak,Bs κ C kd st lo ak->1<=m->m<=nrem->Up κ (arrOf ak) lo m->Q (some m) ak):wpS (model prog w) A E s (countRun' lo nrem) Q st:=by
 unfold wpS
 wp_delta
 wp_delta
 wp_delta
 refine xg (Q:=Q) (aP ?_)
 refine Bw hk hA hn (bh 1) h1 (λi j _ _=>by lia) λn n1 n2 hu Hm=>?_
 dsimp only
 by_cases c1:n=nrem
 .rw [if_pos (by simpa using c1)]
  exact aX (h n st Bs.refl n1 n2 hu)
 rw [if_neg (by simpa using c1)]
 have aT:kv κ (arrOf st) (lo+n)<kv κ (arrOf st) (lo+(n-1)):=by ext Hm c1
 by_cases c2:n>1
 .rw [if_pos c2,show lo+n-1=lo+(n-1) by ext c2]
  refine aP (Bk hk hA (by ext hn h1) (by ext hn n2 c2) (by ext c2) ?_)
  dsimp only
  have h0:=hu 0 (n-1) (by ext c2) (by ext c2)
  rw [Nat.add_zero] at h0
  rw [if_pos (decide_eq_true h0)]
  exact aX (h n st Bs.refl n1 n2 hu)
 rw [if_neg c2]
 obtain rfl:n=1:=by ext n1 c2
 refine aP (wW ?_)
 refine aP (kQ (kR (λx c ak=>ak=st/\c=(none,x,0)/\Dn κ (arrOf st) lo x) (Q:=λc ak=>ak=st/\∃x,c=(none,x,0)/\2<=x/\x<=nrem/\Dn κ (arrOf st) lo x) (λx c ak g1 g2 hI=>?_) (λc ak hI=>?_) ⟨rfl,rfl,λi j cR hj=>?_⟩) λc ak hI=>?_)
 .obtain ⟨rfl,rfl,hs⟩:=hI
  dsimp only
  rw [show lo+x-1=lo+(x-1) by ext g1]
  have bP:=hA.ne (i:=lo+x) (j:=lo+(x-1)) (by ext g2 hn) (by ext g2 hn) (by ext g1)
  refine aP (Bk hk hA (by ext g2 hn) (by ext g2 hn) (by ext g1) ?_)
  dsimp only
  by_cases c:kv κ (arrOf ak) (lo+x)<kv κ (arrOf ak) (lo+(x-1))
  .rw [if_pos (decide_eq_true c),if_neg (by decide)]
   exact aX ⟨rfl,rfl,hs.next (by ext g1) c⟩
  .rw [if_neg (by simpa using c)]
   refine aP (Bk hk hA (by ext g2 hn) (by ext g2 hn) (by ext g1) ?_)
   dsimp only
   rw [if_pos (decide_eq_true (by ext bP c))]
   exact aX ⟨rfl,x,rfl,‹_›,by ext g2,hs⟩
 .obtain ⟨rfl,rfl,hs⟩:=hI
  rw [show max (1+1) nrem=nrem by ext c1 Hm] at hs ⊢
  exact ⟨rfl,nrem,rfl,by ext c1 Hm,by ext,hs⟩
 .obtain ⟨rfl,rfl⟩:i=0/\j=1:=by ext cR hj
  exact aT
 .obtain ⟨rfl,x,rfl,x1,x2,hs⟩:=hI
  dsimp only
  rw [if_neg (by decide)]
  refine aP (wpS_reverse ?_)
  have hb:Bs κ C kd ak lo (setArr ak (mirror (arrOf ak) lo (lo+x) ((lo+x-lo)/2))):=Bs.refl.put (rC _ _ _ _) λk hk=>by
   have e:=Ju (xs:=arrOf ak) (i:=lo) (j:=lo+x) (by ext hn x2) k
   rw [if_neg (by ext hk)] at e
   exact e
  refine aP ?_
  refine Bw hk (hA.bs hb) ?_ (by ext x1) x2 (λi j cR hj=>?_) λm m1 m2 hm _=>aX (h m _ hb (by ext x1 m1) m2 hm)
  .show lo+nrem<=(mirror (arrOf ak) lo (lo+x) ((lo+x-lo)/2)).size
   rw [DT]
   exact hn
  .show kv κ (mirror (arrOf ak) lo (lo+x) ((lo+x-lo)/2)) (lo+i)<kv κ (mirror (arrOf ak) lo (lo+x) ((lo+x-lo)/2)) (lo+j)
   rw [PV (by ext hn x2),PV (by ext hn x2),if_pos (by ext cR hj),if_pos hj]
   exact hs _ _ (by ext cR hj) (by ext hj)
theorem JH(hk:Ask prog w s kd κ C){st:SortSt}(hA:Al κ C kd st){lo n ok:Nat}{Q:Bool->SortSt->Prop}(hn:lo+n<=(arrOf st).size)(aY:1<=ok)(Xq:ok<=n)(hs:Up κ (arrOf st) lo ok)
  (h:∀ak,Bs κ C kd st lo ak->Up κ (arrOf ak) lo n->Q true ak):wpS (model prog w) A E s (binarySort' lo n ok) Q st:=by
 rw [binarySort'_eq]
 refine aP (kQ (kR (λk c ak=>c=(none,())/\Bs κ C kd st lo ak/\Up κ (arrOf ak) lo k) (Q:=λc ak=>c=(none,())/\Bs κ C kd st lo ak/\Up κ (arrOf ak) lo n) (λk c ak g1 g2 hI=>?_) (λc ak hI=>?_) ⟨rfl,Bs.refl,?_⟩) λc ak hI=>?_)
 .obtain ⟨rfl,uX,md⟩:=hI
  have NU:=hA.bs uX
  have hsz:(arrOf ak).size=(arrOf st).size:=uX.perm.size_eq
  refine aP (kQ (kR (λx c gv=>gv=ak/\∃l r,c=(none,l,r)/\l<=r/\r<=k/\r-l<=k-x/\(∀i,i<l->kv κ (arrOf ak) (lo+i)<kv κ (arrOf ak) (lo+k))/\∀i,r<=i->i<k->kv κ (arrOf ak) (lo+k)<kv κ (arrOf ak) (lo+i))
   (Q:=λc gv=>gv=ak/\∃l r,c=(none,l,r)/\l<=k/\(∀i,i<l->kv κ (arrOf ak) (lo+i)<kv κ (arrOf ak) (lo+k))/\∀i,l<=i->i<k->kv κ (arrOf ak) (lo+k)<kv κ (arrOf ak) (lo+i)) (λx c gv f1 f2 hJ=>?_) (λc gv hJ=>?_) ⟨rfl,0,k,rfl,by ext,by ext,by ext,λi z=>by contradiction,λi z1 z2=>by ext z1 z2⟩) λc gv hJ=>?_)
  .obtain ⟨rfl,l,r,rfl,j1,j2,j3,j4,j5⟩:=hJ
   dsimp only
   by_cases qi:l≥r
   .rw [if_pos qi]
    obtain rfl:l=r:=by ext j1 qi
    exact aX ⟨rfl,l,l,rfl,j2,j4,j5⟩
   .rw [if_neg qi]
    refine aP (Bk hk NU (by ext hn g2 hsz) (by lia) (by lia) ?_)
    dsimp only
    have bP:=NU.ne (i:=lo+k) (j:=lo+(l+r)/2) (by ext hn g2 hsz) (by lia) (by lia)
    by_cases hl:kv κ (arrOf gv) (lo+k)<kv κ (arrOf gv) (lo+(l+r)/2)
    .rw [if_pos (decide_eq_true hl)]
     refine aX ⟨rfl,l,(l+r)/2,rfl,by lia,by lia,by lia,j4,λi z1 z2=>?_⟩
     by_cases hi:i=(l+r)/2
     .subst hi;exact hl
     .have:=md ((l+r)/2) i (by ext z1 hi) z2;ext hl this
    .rw [if_neg (by simpa using hl)]
     refine aX ⟨rfl,(l+r)/2+1,r,rfl,by lia,‹_›,by lia,λi z1=>?_,j5⟩
     by_cases hi:i=(l+r)/2
     .subst hi;ext bP hl
     .have:=md i ((l+r)/2) (by ext z1 hi) (by lia);ext hl this
  .obtain ⟨rfl,l,r,rfl,j1,j2,j3,j4,j5⟩:=hJ
   obtain rfl:l=r:=by ext j1 j3
   exact ⟨rfl,l,l,rfl,j2,j4,j5⟩
  .obtain ⟨rfl,l,r,rfl,j2,j4,j5⟩:=hJ
   show wpS _ _ _ _ (do moveDown' (lo+k) (lo+l);pure (nh (none,()))) _ _
   rw [moveDown'_eq]
   have Xy:lo+k<(arrOf gv).size:=by ext hn g2 hsz
   have Dr:=getElem?_bubble Xy (lo+k-(lo+l)) (by ext)
   refine aP (qu (aX ⟨rfl,uX.put (bubble_perm _ _ _) λq hq=>?_,λi j cR hj=>?_⟩))
   .have e:=Dr q
    rw [if_neg (by ext hq),if_neg (by ext hq)] at e
    exact e
   have kb:∀m,kv κ (bubble (arrOf gv) (lo+k) (lo+k-(lo+l))) (lo+m)=if m=l then kv κ (arrOf gv) (lo+k) else if l<m/\m<=k then kv κ (arrOf gv) (lo+(m-1)) else kv κ (arrOf gv) (lo+m):=λm=>by
    have e:=Dr (lo+m)
    by_cases c1:m=l
    .rw [if_pos (by ext j2 c1)] at e;rw [if_pos c1];exact Bj e
    .rw [if_neg (by ext j2 c1)] at e;rw [if_neg c1]
     by_cases c2:l<m/\m<=k
     .rw [if_pos (by ext c2),show lo+m-1=lo+(m-1) by ext c2] at e;rw [if_pos c2];exact Bj e
     .rw [if_neg (by ext c2)] at e;rw [if_neg c2];exact Bj e
   show kv κ (bubble (arrOf gv) (lo+k) (lo+k-(lo+l))) (lo+i)<kv κ (bubble (arrOf gv) (lo+k) (lo+k-(lo+l))) (lo+j)
   rw [kb,kb]
   repeat' split
   all_goals first
    | (exfalso;lia)
    | exact j4 _ (by lia)
    | exact j5 _ (by lia) (by ext cR hj)
    | exact md _ _ (by lia) (by lia)
 .obtain ⟨hc,uX,md⟩:=hI
  rw [show max (max ok 1) n=n by ext aY Xq] at md
  exact ⟨hc,uX,md⟩
 .rw [show max ok 1=ok by ext aY];exact hs
 .obtain ⟨rfl,uX,md⟩:=hI
  exact aX (h ak uX md)
end
section
variable {prog:Program}{w:World}{A:Around}{E:Value->Shared->Prop}{s:Shared}{kd:SortKind}{κ:Keyed->Int}{C:Keyed->Prop}
structure St(κ:Keyed->Int)(C:Keyed->Prop)(kd:SortKind)(a₀:Array Keyed)(st:SortSt)(Rs:List (List Keyed)):Prop where
 perm:(arrOf st).Perm a₀
 kind:kindOf st=kd
 failed:failedOf st=none
 pre:(arrOf st).toList.take Rs.flatten.length=Rs.flatten
 le:Rs.flatten.length<=a₀.size
 sI:ly 0 Rs (pendingOf st).toList
 run:∀R∈Rs,R≠[]/\eh κ R
variable {a₀:Array Keyed}
structure Kn(κ:Keyed->Int)(C:Keyed->Prop)(a₀:Array Keyed):Prop where
 all:∀x∈a₀.toList,C x
 dst:ub κ a₀.toList
theorem St.al{st:SortSt}(h:St κ C kd a₀ st Rs)(k:Kn κ C a₀):Al κ C kd st:=
 have p:=wU.mp h.perm
 ⟨h.kind,λx hx=>k.all x (p.mem_iff.mp hx),(p.map κ).nodup_iff.mpr k.dst⟩
theorem St.cnt{st:SortSt}(h:St κ C kd a₀ st Rs):(pendingOf st).size=Rs.length:=by rw [<-gP];exact h.sI.len
theorem EM(hk:Ask prog w s kd κ C)(k:Kn κ C a₀){st:SortSt}(h:St κ C kd a₀ st (Xs++R1::R2::Ys))(hi:i=Xs.length){Q:Bool->SortSt->Prop}
  (hQ:∀ak R,St κ C kd a₀ ak (Xs++R::Ys)->(Xs++R::Ys).flatten.length=(Xs++R1::R2::Ys).flatten.length->(arrOf ak).toList.drop (Xs++R1::R2::Ys).flatten.length=(arrOf st).toList.drop (Xs++R1::R2::Ys).flatten.length->Q true ak):wpS (model prog w) A E s (mergeAt' i) Q st:=by
 have hz:(arrOf st).size=a₀.size:=h.perm.size_eq
 have eF:(Xs++R1::R2::Ys).flatten=Xs.flatten++R1++R2++Ys.flatten:=by simp
 have al:=h.al k
 have r1:=h.run R1 (by simp)
 have r2:=h.run R2 (by simp)
 obtain ⟨q1,q2⟩:=h.sI.split
 rw [rE] at q2
 have Xm:=h.sI.len
 generalize hp:(pendingOf st).toList=ps at *
 obtain ⟨u,v,pv,e3⟩:∃u v pv,ps.drop Xs.length=u::v::pv:=by
  match hd:ps.drop Xs.length,q2 with
  | u::v::pv,_=>exact ⟨u,v,pv,rfl⟩
 rw [e3] at q2
 obtain ⟨u1,u2,v1,v2,q3⟩:=q2
 have Ir:ps=ps.take Xs.length++u::v::pv:=by rw [<-e3,nY]
 have lt:(ps.take Xs.length).length=Xs.length:=by rw [iZ,Xm,dC];ext
 have g1:(pendingOf st)[i]?=some (Xs.flatten.length,R1.length,u.2.2):=by
  rw [<-tH,hp,Ir,rG (by ext hi lt),lt,hi,A6]
  show some u=_
  rw [<-u1,<-u2]
 have g2:(pendingOf st)[i+1]?=some (Xs.flatten.length+R1.length,R2.length,v.2.2):=by
  rw [<-tH,hp,Ir,rG (by ext hi lt),lt,hi,Jr]
  show some v=_
  rw [<-v1,<-v2]
 have eA:(arrOf st).toList=Xs.flatten++R1++R2++(Ys.flatten++(arrOf st).toList.drop (Xs++R1::R2::Ys).flatten.length):=by
  have:=nY (Xs++R1::R2::Ys).flatten.length (arrOf st).toList
  rw [h.pre] at this
  rw [<-fB,<-eF]
  exact this.symm
 refine Wm hk h.kind h.failed eA al.all al.dst r1.2 r2.2 r1.1 r2.1 g1 g2 λak R a1 a2 a3 a4 a5 a6=>?_
 have lR:R.length=R1.length+R2.length:=by rw [a5.length_eq,dC]
 have Iu:(Xs++R::Ys).flatten=Xs.flatten++R++Ys.flatten:=by simp
 have lF:(Xs++R::Ys).flatten.length=(Xs++R1::R2::Ys).flatten.length:=by rw [eF,Iu];simp only [dC];ext lR
 refine hQ ak R ⟨?_,a1,a2,?_,by rw [lF];exact h.le,?_,λS hS=>?_⟩ lF ?_
 .refine Array.Perm.trans (wU.mpr ?_) h.perm
  generalize (arrOf st).toList.drop (Xs++R1::R2::Ys).flatten.length=D at *
  rw [a3,eA]
  refine List.Perm.append_right _ ?_
  rw [fB Xs.flatten]
  exact a5.append_left _
 .rw [a3,Iu,<-fB,List.take_left]
 .have e6:(pendingOf ak).toList=ps.take Xs.length++(Xs.flatten.length,R1.length+R2.length,u.2.2)::pv:=by
   rw [a6,Array.toList_eraseIdxIfInBounds,Array.toList_setIfInBounds,hp,hi]
   conv=>lhs;rw [Ir]
   rw [List.set_append_right _ _ (by ext lt),lt,A6,List.set_cons_zero,List.eraseIdx_append_of_length_le (by ext lt),lt,Jr]
   rfl
  rw [e6]
  refine q1.app ?_
  rw [rE]
  refine ⟨rfl,lR.symm,?_⟩
  rw [lR,<-IG]
  exact q3
 .rcases bT.mp hS with hS | hS
  .exact h.run S (gR _ hS)
  .rcases bH.mp hS with rfl | hS
   .refine ⟨λz=>?_,a4⟩
    rw [z] at lR
    have:=vE.mpr r1.1
    simp at lR
    ext lR this
   .exact h.run S (fY _ (by simp [hS]))
 .generalize (arrOf st).toList.drop (Xs++R1::R2::Ys).flatten.length=D at *
  rw [<-lF,a3,Iu,<-fB,List.drop_left]
theorem Kh{Rs:List (List Keyed)}(h:2<=Rs.length):∃Xs R1 R2,Rs=Xs++R1::R2::[]/\Xs.length=Rs.length-2:=by
 refine ⟨Rs.take (Rs.length-2),Rs[Rs.length-2],Rs[Rs.length-1],?_,by rw [iZ];ext:1⟩
 conv=>lhs;rw [<-nY (Rs.length-2) Rs]
 congr 1
 rw [j0 (by ext h:1),j0 (by ext h:1),ny (by ext:1)]
 simp only [show Rs.length-2+1=Rs.length-1 by ext h:1]
theorem b7F{Rs:List (List Keyed)}(h:3<=Rs.length):∃Xs R1 R2 R3,Rs=Xs++R1::R2::[R3]/\Xs.length=Rs.length-3:=by
 refine ⟨Rs.take (Rs.length-3),Rs[Rs.length-3],Rs[Rs.length-2],Rs[Rs.length-1],?_,by rw [iZ];ext:1⟩
 conv=>lhs;rw [<-nY (Rs.length-3) Rs]
 congr 1
 rw [j0 (by ext h:1),j0 (by ext h:1),j0 (by ext h:1),ny (by ext:1)]
 simp only [show Rs.length-3+1=Rs.length-2 by ext h:1,show Rs.length-2+1=Rs.length-1 by ext h:1]
theorem Qq{xs:Array Keyed}{lo n:Nat}(h:Up κ xs lo n)(hn:lo+n<=xs.size):eh κ ((xs.toList.drop lo).take n):=by
 refine wR.mpr λi j hi hj cR=>?_
 simp only [iZ,nr,gP] at hi hj
 have:=h i j cR (by ext hj:1)
 rw [iK (by ext hi:1),iK (by ext hj:1)] at this
 simpa using this
theorem b0K{xs ys:Array Keyed}{n:Nat}(h:∀k,k<n->xs[k]?=ys[k]?):xs.toList.take n=ys.toList.take n:=by
 refine List.ext_getElem? λk=>?_
 rw [N6,N6,tH,tH]
 split
 .exact h k ‹_›
 .rfl
theorem b3I{Rs:List (List Keyed)}(h:∀R∈Rs,R≠[]):Rs.length<=Rs.flatten.length:=by
 induction Rs with
 | nil=>exact bh _
 | cons R Rs ih =>
  have:=ih λS hS=>h S (by simp [hS])
  have:=vE.mpr (h R (by simp))
  rw [D0,dC,nk]
  lia
theorem St.push{st:SortSt}(h:St κ C kd a₀ st Rs){ak:SortSt}(e1:arrOf ak=arrOf st)(e2:kindOf ak=kindOf st)(e3:failedOf ak=failedOf st)(hq:ly 0 Rs q)(e4:(pendingOf ak).toList=q++[(Rs.flatten.length,n,0)])
  (hn:1<=n)(hl:Rs.flatten.length+n<=a₀.size)(hs:eh κ (((arrOf st).toList.drop Rs.flatten.length).take n)):St κ C kd a₀ ak (Rs++[((arrOf st).toList.drop Rs.flatten.length).take n]):=by
 have hz:(arrOf st).toList.length=a₀.size:=by rw [gP];exact h.perm.size_eq
 have ln:(((arrOf st).toList.drop Rs.flatten.length).take n).length=n:=by rw [iZ,nr];ext hl hz
 have eF:(Rs++[((arrOf st).toList.drop Rs.flatten.length).take n]).flatten=Rs.flatten++((arrOf st).toList.drop Rs.flatten.length).take n:=by simp
 have lF:(Rs++[((arrOf st).toList.drop Rs.flatten.length).take n]).flatten.length=Rs.flatten.length+n:=by rw [eF,dC,ln]
 refine ⟨by rw [e1];exact h.perm,by rw [e2];exact h.kind,by rw [e3];exact h.failed,?_,by rw [lF];exact hl,?_,λR hR=>?_⟩
 .rw [lF,e1,List.take_add,h.pre,eF]
 .rw [e4]
  refine hq.app ⟨?_,ln.symm,trivial⟩
  exact (rE _).symm
 .rcases bT.mp hR with hR | hR
  .exact h.run R hR
  .rw [bU.mp hR]
   refine ⟨λz=>?_,hs⟩
   rw [z] at ln
   simp at ln
   ext hn ln
theorem ly.mod{α:Type}(f:Nat×Nat×Nat->Nat×Nat×Nat)(hf:∀x,(f x).1=x.1/\(f x).2.1=x.2.1):∀{o:Nat} {Rs:List (List α)} {ps:List (Nat×Nat×Nat)} (i:Nat),ly o Rs ps->ly o Rs (ps.modify i f)
 | _,[],[],i,_=>by cases i<;>exact trivial
 | o,R::Rs,p::ps,0,h=>⟨by rw [(hf p).1];exact h.1,by rw [(hf p).2];exact h.2.1,h.2.2⟩
 | o,R::Rs,p::ps,i+1,h=>⟨h.1,h.2.1,h.2.2.mod f hf i⟩
theorem St.weigh{st:SortSt}(h:St κ C kd a₀ st Rs){ak:SortSt}(hb:Bs κ C kd st Rs.flatten.length ak):St κ C kd a₀ ak Rs:=
 ⟨hb.perm.trans h.perm,by rw [hb.rest];exact h.kind,by rw [hb.rest];exact h.failed,by rw [b0K hb.ahead];exact h.pre,h.le,by rw [hb.rest];exact h.sI,h.run⟩
theorem yz(hk:Ask prog w s kd κ C)(k:Kn κ C a₀){st:SortSt}{Q:Unit->SortSt->Prop}(h:St κ C kd a₀ st [])(h2:2<=a₀.size)
  (hQ:∀ak,(arrOf ak).Perm a₀->failedOf ak=none->eh κ (arrOf ak).toList->Q () ak):wpS (model prog w) A E s sortRuns' Q st:=by
 unfold wpS
 wp_delta
 wp_delta
 wp_delta
 refine xg (Q:=Q) (aP (nQ ?_))
 dsimp only
 have hz:(arrOf st).size=a₀.size:=h.perm.size_eq
 simp only [hz]
 refine aP (kQ (kR (λx c ak=>∃Rs:List (List Keyed),c=(none,Rs.flatten.length)/\St κ C kd a₀ ak Rs/\x<=Rs.flatten.length) (Q:=λc ak=>∃Rs:List (List Keyed),c=(none,Rs.flatten.length)/\St κ C kd a₀ ak Rs/\Rs.flatten.length=a₀.size) (λx c ak _ hx hI=>?_) (λc ak hI=>?_) ⟨[],rfl,h,bh _⟩) λc ak hI=>?_)
 .obtain ⟨Rs,rfl,hS,hp⟩:=hI
  dsimp only
  have hle:=hS.le
  by_cases c1:Rs.flatten.length≥a₀.size
  .rw [if_pos c1]
   exact aX ⟨Rs,rfl,hS,by ext hle c1⟩
  rw [if_neg c1]
  have wo:(arrOf ak).size=a₀.size:=hS.perm.size_eq
  refine aP ?_
  refine Iz hk (hS.al k) (by ext c1 wo) (by ext c1) λm gv hb m1 m2 hu=>?_
  dsimp only
  have S2:=hS.weigh hb
  have wm:(arrOf gv).size=a₀.size:=S2.perm.size_eq
  generalize (sortPriv% PySem.Builtin.minRun) a₀.size a₀.size 0 = mr
  by_cases c2:m<mr
  .rw [if_pos c2]
   refine aP (wW (aP ?_))
   generalize hF:min (a₀.size-Rs.flatten.length) mr=n
   refine JH hk (S2.al k) (by ext c1 wm hF) m1 (by ext m2 c2 hF) hu λiS XO Hf=>?_
   rw [if_neg (by decide)]
   have S3:=S2.weigh XO
   have n1:1<=n:=by ext m1 m2 c2 hF
   have n2:Rs.flatten.length+n<=a₀.size:=by ext c1 hF
   have G':(arrOf iS).size=a₀.size:=S3.perm.size_eq
   have uH:=Qq Hf (by ext n2 G')
   have l3:(((arrOf iS).toList.drop Rs.flatten.length).take n).length=n:=by rw [iZ,nr,gP];ext n2 G'
   refine aP (nQ ?_)
   cases XM:(pendingOf iS).back? with
   | none =>
    dsimp only
    refine aP (qu (aX ⟨Rs++[((arrOf iS).toList.drop Rs.flatten.length).take n],?_,S3.push rfl rfl rfl S3.sI (wQ ..) n1 n2 uH,?_⟩))
    .rw [tK,dC,tI,l3]
    .rw [tK,dC,tI,l3]
     ext hp n1
   | some p =>
    obtain ⟨s1,ux,p3⟩:=p
    dsimp only
    refine aP (kQ (kR (λx c ak=>c=(none,())/\∃Ts:List (List Keyed),St κ C kd a₀ ak Ts/\Ts.flatten.length=Rs.flatten.length/\(arrOf ak).toList.drop Rs.flatten.length=(arrOf iS).toList.drop Rs.flatten.length) (Q:=λc ak=>c=(none,())/\∃Ts:List (List Keyed),St κ C kd a₀ ak Ts/\Ts.flatten.length=Rs.flatten.length/\(arrOf ak).toList.drop Rs.flatten.length=(arrOf iS).toList.drop Rs.flatten.length) (λx c ak _ hx hI=>?_) (λc ak hI=>hI) ⟨rfl,Rs,S3,rfl,rfl⟩) λc ak hI=>?_)
    .obtain ⟨rfl,Ts,hT,hl,ha⟩:=hI
     refine aP (nQ ?_)
     have hc:=hT.cnt
     simp only [hc]
     by_cases c3:Ts.length>1
     .rw [if_pos c3]
      cases hg:(pendingOf ak)[Ts.length-2]? with
      | none=>exact aX ⟨rfl,Ts,hT,hl,ha⟩
      | some p =>
       obtain ⟨p1,p2,p3⟩:=p
       dsimp only
       split
       .exact aX ⟨rfl,Ts,hT,hl,ha⟩
       .obtain ⟨Xs,R1,R2,rfl,hX⟩:=Kh (Rs:=Ts) ‹_›
        refine aP ?_
        refine EM hk k hT hX.symm λwa R uU sR m7=>?_
        rw [if_neg (by decide)]
        exact aX ⟨rfl,_,uU,sR.trans hl,by rw [hl] at m7;exact m7.trans ha⟩
     .rw [if_neg c3]
      exact aX ⟨rfl,Ts,hT,hl,ha⟩
    .obtain ⟨rfl,Ts,hT,hl,ha⟩:=hI
     dsimp only
     refine aP (qu (aP (qu (aX ⟨Ts++[((arrOf ak).toList.drop Ts.flatten.length).take n],?_,hT.push rfl rfl rfl (hT.sI.mod (λx=>(x.1,x.2.1,power' a₀.size (2*s1+ux) (2*s1+ux+ux+n) a₀.size)) (λ_=>⟨rfl,rfl⟩) ((pendingOf ak).size-1)) (by rw [hl];exact (wQ ..).trans (by rw [Od];rfl)) n1 (by ext n2 hl) (by rw [hl,ha];exact uH),?_⟩))))
     .rw [tK,dC,tI,hl,ha,l3]
     .rw [tK,dC,tI,hl,ha,l3]
      ext hp n1
  .rw [if_neg c2]
   obtain ⟨n,rfl⟩:∃n,n=m:=⟨_,rfl⟩
   obtain ⟨iS,rfl⟩:∃iS,iS=gv:=⟨_,rfl⟩
   have S3:=S2
   have Hf:=hu
   have n1:1<=n:=by assumption
   have n2:Rs.flatten.length+n<=a₀.size:=by ext c1 m2
   have G':(arrOf iS).size=a₀.size:=S3.perm.size_eq
   have uH:=Qq Hf (by ext wm n2)
   have l3:(((arrOf iS).toList.drop Rs.flatten.length).take n).length=n:=by rw [iZ,nr,gP];ext wm n2
   refine aP (nQ ?_)
   cases XM:(pendingOf iS).back? with
   | none =>
    dsimp only
    refine aP (qu (aX ⟨Rs++[((arrOf iS).toList.drop Rs.flatten.length).take n],?_,S3.push rfl rfl rfl S3.sI (wQ ..) n1 n2 uH,?_⟩))
    .rw [tK,dC,tI,l3]
    .rw [tK,dC,tI,l3]
     ext hp m1
   | some p =>
    obtain ⟨s1,ux,p3⟩:=p
    dsimp only
    refine aP (kQ (kR (λx c ak=>c=(none,())/\∃Ts:List (List Keyed),St κ C kd a₀ ak Ts/\Ts.flatten.length=Rs.flatten.length/\(arrOf ak).toList.drop Rs.flatten.length=(arrOf iS).toList.drop Rs.flatten.length) (Q:=λc ak=>c=(none,())/\∃Ts:List (List Keyed),St κ C kd a₀ ak Ts/\Ts.flatten.length=Rs.flatten.length/\(arrOf ak).toList.drop Rs.flatten.length=(arrOf iS).toList.drop Rs.flatten.length) (λx c ak _ hx hI=>?_) (λc ak hI=>hI) ⟨rfl,Rs,S3,rfl,rfl⟩) λc ak hI=>?_)
    .obtain ⟨rfl,Ts,hT,hl,ha⟩:=hI
     refine aP (nQ ?_)
     have hc:=hT.cnt
     simp only [hc]
     by_cases c3:Ts.length>1
     .rw [if_pos c3]
      cases hg:(pendingOf ak)[Ts.length-2]? with
      | none=>exact aX ⟨rfl,Ts,hT,hl,ha⟩
      | some p =>
       obtain ⟨p1,p2,p3⟩:=p
       dsimp only
       split
       .exact aX ⟨rfl,Ts,hT,hl,ha⟩
       .obtain ⟨Xs,R1,R2,rfl,hX⟩:=Kh (Rs:=Ts) ‹_›
        refine aP ?_
        refine EM hk k hT hX.symm λwa R uU sR m7=>?_
        rw [if_neg (by decide)]
        exact aX ⟨rfl,_,uU,sR.trans hl,by rw [hl] at m7;exact m7.trans ha⟩
     .rw [if_neg c3]
      exact aX ⟨rfl,Ts,hT,hl,ha⟩
    .obtain ⟨rfl,Ts,hT,hl,ha⟩:=hI
     dsimp only
     refine aP (qu (aP (qu (aX ⟨Ts++[((arrOf ak).toList.drop Ts.flatten.length).take n],?_,hT.push rfl rfl rfl (hT.sI.mod (λx=>(x.1,x.2.1,power' a₀.size (2*s1+ux) (2*s1+ux+ux+n) a₀.size)) (λ_=>⟨rfl,rfl⟩) ((pendingOf ak).size-1)) (by rw [hl];exact (wQ ..).trans (by rw [Od];rfl)) n1 (by ext n2 hl) (by rw [hl,ha];exact uH),?_⟩))))
     .rw [tK,dC,tI,hl,ha,l3]
     .rw [tK,dC,tI,hl,ha,l3]
      ext hp m1
 .obtain ⟨Rs,rfl,hS,hp⟩:=hI
  have hle:=hS.le
  exact ⟨Rs,rfl,hS,by ext hp hle⟩
 .obtain ⟨Rs,rfl,hS,hp⟩:=hI
  dsimp only
  have hr:Rs.length<=a₀.size:=by rw [<-hp];exact b3I λR hR=>(hS.run R hR).1
  refine aP (kQ (kR (λx c ak=>c=(none,())/\∃Rs:List (List Keyed),St κ C kd a₀ ak Rs/\Rs.flatten.length=a₀.size/\Rs.length<=max 1 (a₀.size-x)) (Q:=λc ak=>c=(none,())/\∃Rs:List (List Keyed),St κ C kd a₀ ak Rs/\Rs.flatten.length=a₀.size/\Rs.length<=1) (λx c ak _ hx hI=>?_) (λc ak hI=>?_) ⟨rfl,Rs,hS,hp,by ext hr⟩) λc ak hI=>?_)
  .obtain ⟨rfl,Rs,hS,hp,hl⟩:=hI
   refine aP (nQ ?_)
   have hc:=hS.cnt
   simp only [hc]
   by_cases c1:Rs.length<=1
   .rw [if_pos c1]
    exact aX ⟨rfl,Rs,hS,hp,c1⟩
   rw [if_neg c1]
   refine aP ?_
   have key:∀j,(j=Rs.length-2\/(3<=Rs.length/\j=Rs.length-3))->∀{Q:Bool->SortSt->Prop},(∀ak Ts,St κ C kd a₀ ak Ts->Ts.flatten.length=Rs.flatten.length->Ts.length+1=Rs.length->Q true ak)->wpS (model prog w) A E s (mergeAt' j) Q ak:=λj hj Q hq=>by
    rcases hj with rfl | ⟨h3,rfl⟩
    .obtain ⟨Xs,R1,R2,rfl,hX⟩:=Kh (Rs:=Rs) (by ext c1)
     exact EM hk k hS hX.symm λwa R uU sR _=>hq wa _ uU sR (by simp)
    .obtain ⟨Xs,R1,R2,R3,rfl,hX⟩:=b7F (Rs:=Rs) ‹_›
     exact EM hk k hS hX.symm λwa R uU sR _=>hq wa _ uU sR (by simp)
   refine key _ ?_ λwa Ts hT h1 h2=>?_
   .by_cases c2:Rs.length-2>0
    .rw [if_pos c2]
     split
     .exact .inr ⟨by ext c2,by ext⟩
     .exact .inl rfl
    .rw [if_neg c2]
     exact .inl rfl
   .rw [if_neg (by decide)]
    exact aX ⟨rfl,Ts,hT,by ext hp h1,by ext hl h2⟩
  .obtain ⟨rfl,Rs,hS,hp,hl⟩:=hI
   exact ⟨rfl,Rs,hS,hp,by ext hl⟩
  .obtain ⟨rfl,Rs,hS,hp,hl⟩:=hI
   refine aX (hQ _ hS.perm hS.failed ?_)
   have e:(arrOf ak).toList=Rs.flatten:=by
    have:=hS.pre
    rw [wV (by rw [gP,hS.perm.size_eq];ext hp)] at this
    exact this
   rw [e]
   match Rs,hl,hS.run,hp with
   | [],_,_,hp=>exact I0
   | [R],_,hr,_ =>
    rw [D0,List.flatten_nil,nT]
    exact (hr R (by simp)).2
end
end SO
noncomputable def mC:Nat:=1600000
namespace TS
open PySem PyProof.Rows
noncomputable abbrev kTup:Bool → SortKind:=sortPriv% PySem.Builtin.KeyKind.tuples
theorem b54(x y:Value):keyLt' (kTup true) x y=(do
  let us <-Eo x
  let vs <-Eo y
  for ((p,q),i) in (us.toList.zip vs.toList).zipIdx do
   if !(<-eqBool p q) then return <-oneLt' (true&&i==0) p q
  return decide (us.size<vs.size)):=rfl
section
variable {prog:Program}{w:World}{A:Around}{E:Value->Shared->Prop}{s:Shared}
theorem b3o(hx:s.heap.get? x=some ox)(dx:ox.data=.seq (jk a t::us).toArray n)
  (hy:s.heap.get? y=some oy)(dy:oy.data=.seq (jk b u::vs).toArray m)(bP:a≠b)(h:Q (decide (a<b)) s):wpAny (model prog w) A (keyLt' (kTup true) (.ref x) (.ref y)) Q E s:=by
 rw [b54]
 refine ar (wD hx dx (ar (wD hy dy ?_)))
 dsimp only
 rw [JB,Eb,A1]
 refine ar (ar ?_)
 dsimp only
 refine ar (wpAny_eqBool_int ?_)
 rw [if_pos (by simp [bP])]
 exact ar (oneLt_int (aZ (aZ (aZ h))))
noncomputable def kI(ky:Value->Int)(xs:Array Keyed)(i:Nat):Int:=match xs[i]? with
 | some p=>ky p.1
 | none=>0
structure TB(a₀:Array Keyed)(st:SortSt):Prop where
 perm:(arrOf st).Perm a₀
 kind:kindOf st=kTup true
 failed:failedOf st=none
 pend:pendingOf st=#[]
def CK(s:Shared)(ky:Value->Int)(a₀:Array Keyed):Prop:=∀p∈a₀.toList,∃x o t us n,p.1=.ref x/\s.heap.get? x=some o/\o.data=.seq (jk (ky p.1) t::us).toArray n
def v9(ky:Value->Int)(a₀:Array Keyed):Prop:=(a₀.toList.map λp=>ky p.1).Nodup
variable {ky:Value->Int}{a₀:Array Keyed}
def FZ(ky:Value->Int)(xs:Array Keyed)(k:Nat):Prop:=∀i j,i<j->j<k->kI ky xs i<kI ky xs j
theorem yy{st:SortSt}{Q:Unit->SortSt->Prop}(hk:CK s ky a₀)(hd:v9 ky a₀)(hB:TB a₀ st)(h2:2<=a₀.size)(de:a₀.size<mC)
  (h:∀ak,(arrOf ak).Perm a₀->failedOf ak=none->FZ ky (arrOf ak) a₀.size->Q () ak):wpS (model prog w) A E s sortRuns' Q st:=by
 refine SO.yz (kd:=kTup true) (κ:=λp=>ky p.1) (C:=λp=>∃x o t us n,p.1=.ref x/\s.heap.get? x=some o/\o.data=.seq (jk (ky p.1) t::us).toArray n) ⟨λ{x y} cx cy bP=>?_⟩ ⟨hk,hd⟩ ⟨hB.perm,hB.kind,hB.failed,rfl,nv _,by rw [hB.pend];trivial,λR hR=>nomatch hR⟩ h2 λak p f i=>h ak p f λa b Am hb=>?_
 .obtain ⟨x1,o,t,us,n,e1,e2,e3⟩:=cx
  obtain ⟨y1,o',t',us',n',f1,f2,f3⟩:=cy
  intro A E Q hQ
  generalize ky x.1=kx at *
  generalize ky y.1=kz at *
  rw [e1,f1]
  exact b3o e2 e3 f2 f3 bP hQ
 .exact SO.fM i Am (by rw [p.size_eq];exact hb)
def TupAt(s:Shared)(ky:Value->Int)(v:Value):Prop:=∃x o t us n,v=.ref x/\s.heap.get? x=some o/\o.cls=.type "tuple" /\ o.data=.seq (jk (ky v) t::us).toArray n
theorem b8t(vs:List Value)(hv:∀v∈vs,TupAt s ky v)(h:∀ts:List Tok,ts.length=vs.length->Q (pM (λv t=>some (jk (ky v) t)) vs ts) s):wpAny (model prog w) A (vs.mapM firstOfTuple') Q E s:=by
 induction vs generalizing Q with
 | nil=>rw [List.mapM_nil];exact aZ (h [] rfl)
 | cons v vs ih =>
  rw [List.mapM_cons]
  obtain ⟨x,o,t,us,n,e1,e2,e3,e4⟩:=hv v bK
  have ht:s.TypeIs v "tuple":=by rw [e1];exact ⟨o,e2,e3⟩
  have one:wpAny (model prog w) A (firstOfTuple' v) (λr s'=>s'=s/\r=some (jk (ky v) t)) E s:=by
   show wpAny _ _ (typeOf v >>= λT=>if (T != tx "tuple")=true then pure none else Eo v >>= λus=>pure us[0]?) _ _ _
   refine ar (DR ht ?_)
   rw [if_neg (by simp)]
   have li:wpAny (model prog w) A (Eo (.ref x)) (λus s'=>wpAny (model prog w) A (pure us[0]?) (λr s'=>s'=s/\r=some (jk (ky v) t)) E s') E s:=wD e2 e4 (aZ ⟨rfl,rfl⟩)
   rw [<-e1] at li
   exact ar li
  refine ar (jG one (λr s' hr=>?_) λ_ _ z=>z)
  obtain ⟨rfl,rfl⟩:=hr
  exact ar (ih (λu hu=>hv u (bW _ hu)) λts hl=>aZ (h (t::ts) (by simp [hl])))
theorem zj(vs:List Value){Q:SortKind->Shared->Prop}(bP:vs≠[])(hv:∀v∈vs,TupAt s ky v)(h:Q (kTup true) s):wpAny (model prog w) A (keyKind' vs.toArray) Q E s:=by
 rw [keyKind'_eq,List.mapM_toArray,map_eq_pure_bind]
 refine ar (ar (b8t vs hv λts hl=>aZ ?_))
 have hi:∀(us:List Value) (ts:List Tok),ts.length=us.length->(pM (λv t=>some (jk (ky v) t)) us ts).all (·.isSome)=true/\∃ws ns,(pM (λv t=>some (jk (ky v) t)) us ts).filterMap id=ws/\IntsAre ws ns/\ws.length=us.length:=λus=>by
  induction us with
  | nil=>intro ts _;exact ⟨by simp,[],[],by simp,.nil,rfl⟩
  | cons u us ih =>
   intro ts hl
   cases ts with
   | nil=>simp at hl
   | cons t ts =>
    obtain ⟨h1,ws,ns,h2,h3,h4⟩:=ih ts (by simpa using hl)
    exact ⟨by simpa using h1,_::ws,_::ns,by simp [h2],.cons (ky u) t h3,by simp [h4]⟩
 obtain ⟨h1,ws,ns,h2,h3,h4⟩:=hi vs ts hl
 rw [if_pos (by simpa using h1)]
 refine ar (vd (ar ?_))
 have e:(pM (λv t=>some (jk (ky v) t)) vs ts).toArray.filterMap id=ws.toArray:=by simp [h2]
 rw [e,oneTypeOnly'_eq,List.mapM_toArray,mapM_typeOf_ints h3]
 have Hq:ws≠[]:=λz=>by rw [z] at h4;exact bP (Bb.mp h4.symm)
 cases ws with
 | nil=>exact absurd rfl Hq
 | cons a ws =>
  simp only [map_pure,pure_bind]
  have jA:((mw (λ_=>tx "int") (a::ws)).toArray.all λx=>x==tx "int")=true:=by simp
  have h0:(mw (λ_=>tx "int") (a::ws)).toArray[0]?=some (tx "int"):=by simp
  rw [h0]
  simp only [jA,if_true]
  exact aZ (aZ h)
theorem b70{vs:List Value}{xs:Array Keyed}(hp:xs.Perm (pairsOf vs))(hi:FZ ky xs (pairsOf vs).size):(xs.map (·.2)).toList.Perm vs/\(xs.map (·.2)).toList.Pairwise λx y=>ky x<ky y:=by
 have dQ:=wU.mp hp
 have hz:(vs.zip vs).map (·.2)=vs:=by rw [List.map_snd_zip];exact bh _
 have pA:∀p∈xs.toList,p.1=p.2:=λp uJ=>by
  have:=dQ.mem_iff.mp uJ
  rw [DJ] at this
  have key:∀(us:List Value) (p:Value×Value),p∈us.zip us->p.1=p.2:=λus=>by
   induction us with
   | nil=>intro p z;cases z
   | cons u us ih =>
    intro p z
    rcases bH.mp z with rfl | z
    .rfl
    .exact ih p z
  exact key vs p this
 rw [Array.toList_map]
 refine ⟨by have:=dQ.map (·.2);rw [DJ,hz] at this;exact this,?_⟩
 rw [tO,wR]
 intro i j h1 h2 cR
 have hsz:xs.size=(pairsOf vs).size:=hp.size_eq
 have g:∀k (hk:k<xs.toList.length),kI ky xs k=ky (xs.toList[k]).2:=λk hk=>by
  have qh:k<xs.size:=by simpa using hk
  unfold kI
  rw [getElem?_pos _ k qh]
  have:=pA xs.toList[k] (nU hk)
  show ky (xs[k]).1=_
  rw [<-this]
  simp
 rw [<-g i h1,<-g j h2]
 exact hi i j cR (by rw [<-hsz];simpa using h2)
theorem yu(zS:s.heap.get? l0=some (seqObj "list" vs.toArray n))(hv:∀v∈vs,TupAt s ky v)(hd:(vs.map ky).Nodup)(de:vs.length<mC)
  (h:∀out:Array Value,out.toList.Perm vs->(out.toList.Pairwise λx y=>ky x<ky y)->P (.done (.ret .none)) { s with heap:=sortedHeap s.heap l0 vs out }):wpAny (model prog w) A (Builtin.«list.sort» ⟨[.ref l0],[]⟩) P E s:=by
 have aT:l0<s.heap.objs.size:=bJ zS
 obtain ⟨k1,Dl⟩:∃k1,(s.heap.update l0 (fD λ_=>#[])).get? l0=some (seqObj "list" #[] k1):=⟨_,D2 zS λ_=>#[]⟩
 rw [list_sort_plain]
 have hZ:vs.length<=sizeLine:=by rw [iY];unfold mC at de;ext de
 have NP:vs.toArray.size<=sizeLine:=by rw [dM];exact hZ
 have XT:vs.toArray.toList.length<=sizeLine:=NP
 refine ar (wD zS rfl (ar (wH (hsz:=NP) zS rfl (ar (DC Dl rfl (ar (Ji (hsz:=XT) (ar (DE (pO ?_))))))))))
 have lI:(((s.heap.update l0 (fD λ_=>#[])).push (seqObj "tuple" vs.toArray 0)).push (seqObj "list" #[] 0)).get? l0=some (seqObj "list" #[] k1):=bI _ (bI _ Dl)
 have up:∀b o,b≠l0->s.heap.get? b=some o->(((s.heap.update l0 (fD λ_=>#[])).push (seqObj "tuple" vs.toArray 0)).push (seqObj "list" #[] 0)).get? b=some o:=λb o hb e =>
  bI _ (bI _ ((oK _ _ (gm hb)).trans e))
 have zD:∀v∈vs,TupAt { s with heap:=((s.heap.update l0 (fD λ_=>#[])).push (seqObj "tuple" vs.toArray 0)).push (seqObj "list" #[] 0) } ky v:=λv zE=>by
  obtain ⟨x,o,t,us,m,e1,e2,e3,e4⟩:=hv v zE
  have hx:x≠l0:=λz=>by
   rw [z,zS] at e2
   cases e2
   have:("list":String) = "tuple":=Value.type.inj e3
   exact absurd this (by decide)
  exact ⟨x,o,t,us,m,e1,up x o hx e2,e3,e4⟩
 dsimp only
 show wpAny _ _ _ _ _ { s with heap:=((s.heap.update l0 (fD λ_=>#[])).push (seqObj "tuple" vs.toArray 0)).push (seqObj "list" #[] 0) }
 generalize hS:({ s with heap:=((s.heap.update l0 (fD λ_=>#[])).push (seqObj "tuple" vs.toArray 0)).push (seqObj "list" #[] 0) }:Shared)=S at zD ⊢
 have XX:S.heap=((s.heap.update l0 (fD λ_=>#[])).push (seqObj "tuple" vs.toArray 0)).push (seqObj "list" #[] 0):=by rw [<-hS]
 have gM:S.heap.get? l0=some (seqObj "list" #[] k1):=by rw [XX];exact lI
 have ends:∀st:SortSt,(arrOf st).Perm (pairsOf vs)->failedOf st=none->FZ ky (arrOf st) (pairsOf vs).size ->
   wpAny (model prog w) A (do
    let touched:=(<-seqEpoch l0) != k1
    Builtin.List.listUpdate (.ref l0) λ_=>(arrOf st).map (·.2)
    if let some e:=failedOf st then rule "list.sort.comparison-raised";throw e
    if touched then rule "list.sort.modified";raiseError "ValueError" "list modified during sort"
    ret .none) P E S:=λst hp hf hi=>by
  obtain ⟨o1,o2⟩:=b70 hp hi
  refine ar (DC gM rfl (ar (wH gM rfl ?_ (hsz2:=?_))))
  .rw [hf]
   simp only [bne_self_eq_false,rL,if_false]
   refine aZ ?_
   have:=h _ o1 o2
   rw [<-hS]
   exact this
  .rw [Array.size_map,hp.size_eq,DQ,iY];unfold mC at de;ext de
 have zW:CK S ky (pairsOf vs):=λp hp=>by
  rw [DJ] at hp
  obtain ⟨x,o,t,us,m,e1,e2,e3,e4⟩:=zD p.1 (ve hp).1
  exact ⟨x,o,t,us,m,e1,e2,e4⟩
 have Ag:v9 ky (pairsOf vs):=by
  unfold v9
  rw [DJ,show (vs.zip vs).map (λp=>ky p.1)=((vs.zip vs).map (·.1)).map ky by rw [dS];rfl,List.map_fst_zip (bh _)]
  exact hd
 have hsz:vs.toArray.size=vs.length:=by simp
 by_cases h2:vs.toArray.size<2
 .rw [if_pos h2]
  refine ar (aZ ?_)
  rw [if_pos h2,StateT.run_pure]
  refine ar (aZ ?_)
  exact ends (AX general' (pairsOf vs) #[] 7 none) (tz _) rfl λi j cR hj=>by rw [DQ] at hj;ext hsz h2 cR hj
 .rw [if_neg h2]
  refine ar (zj vs (λz=>by rw [z] at hsz;simp at h2;simp [z] at h2) zD ?_)
  rw [if_neg h2]
  refine ar (jG (yy (a₀:=pairsOf vs) (st:=AX (kTup true) (pairsOf vs) #[] 7 none) (Q:=λ_ ak=>(arrOf ak).Perm (pairsOf vs)/\failedOf ak=none/\FZ ky (arrOf ak) (pairsOf vs).size) zW Ag ⟨tz _,rfl,rfl,rfl⟩ (by rw [DQ];ext hsz h2) (by rw [DQ];exact de) λak a b c=>⟨a,b,c⟩) (λr s' hr=>?_) λ_ _ z=>z)
  obtain ⟨rfl,p1,p2,p3⟩:=hr
  exact ends r.2 p1 p2 p3
theorem qM(hl:s.heap.IsList l vs.toArray)(hv:∀v∈vs,TupAt s ky v)(hd:(vs.map ky).Nodup)(de:vs.length<mC)
  (h:∀out:Array Value,out.toList.Perm vs->(out.toList.Pairwise λx y=>ky x<ky y)->Q (.ref (s.heap.objs.size+1)) { s with heap:=sortedAll s.heap vs out }):wpAny (model prog w) A (call (.builtin "sorted") [.ref l]) Q E s:=by
 refine Calls.call_function_entry kind_sorted plain_sorted entry_sorted (args_sorted1 _) ?_
 unfold Builtin.«sorted»
 have hZ:vs.length<=sizeLine:=by rw [iY];unfold mC at de;ext de
 refine ar (m:=checkCount "sorted" 1 1 _) (aZ (ar (collect_list (hsz:=hZ) hl (ar (DE (hsz:=hZ) ?_)))))
 have z1:((s.heap.push (seqObj "list" #[] 0)).update s.heap.objs.size (fD (·++vs.toArray))).objs.size=s.heap.objs.size+1:=(IX ..).trans (Dz _ _)
 have z2:(((s.heap.push (seqObj "list" #[] 0)).update s.heap.objs.size (fD (·++vs.toArray))).push (seqObj "list" vs.toArray 0)).get? (s.heap.objs.size+1)=some (seqObj "list" vs.toArray 0):=by
  rw [<-z1]
  exact eG _ rfl
 have up:∀b o,s.heap.get? b=some o->(((s.heap.push (seqObj "list" #[] 0)).update s.heap.objs.size (fD (·++vs.toArray))).push (seqObj "list" vs.toArray 0)).get? b=some o:=λb o e =>
  bI _ ((oK _ _ (vt (bJ e))).trans (bI _ e))
 show wpAny _ _ _ _ _ { s with heap:=((s.heap.push (seqObj "list" #[] 0)).update s.heap.objs.size (fD (·++vs.toArray))).push (seqObj "list" vs.toArray 0) }
 rw [z1]
 have He:∀v∈vs,TupAt { s with heap:=((s.heap.push (seqObj "list" #[] 0)).update s.heap.objs.size (fD (·++vs.toArray))).push (seqObj "list" vs.toArray 0) } ky v:=λv zE=>by
  obtain ⟨x,o,t,us,m,e1,e2,e3,e4⟩:=hv v zE
  exact ⟨x,o,t,us,m,e1,up x o e2,e3,e4⟩
 refine ar (pO (tD slot_list_sort ⟨_,z2,rfl⟩ entry_list_sort (yu z2 He hd de λout o1 o2=>⟨_,rfl,?_⟩) (args_list_sort _)))
 exact aZ ⟨_,rfl,h out o1 o2⟩
end
end TS
namespace DL
open PySem PySem.Spec PyProof.Rows L2
theorem Rr{α β:Type}{f:α->β}{l:List β}{ts:List α}(h:l.Perm (ts.map f)):∃us:List α,us.Perm ts/\us.map f=l:=by
 generalize e:ts.map f=m at h
 induction h generalizing ts with
 | nil=>exact ⟨[],by rw [List.map_eq_nil_iff.mp e],rfl⟩
 | cons x _ ih =>
  cases ts with
  | nil=>cases e
  | cons t ts =>
   cases e
   obtain ⟨us,h1,h2⟩:=ih rfl
   exact ⟨t::us,h1.cons t,by rw [fF,h2]⟩
 | swap x y l =>
  match ts,e with
  | a::b::ts,e =>
   cases e
   exact ⟨b::a::ts,List.Perm.swap _ _ _,rfl⟩
 | trans _ _ W9 W8 =>
  obtain ⟨us,h1,h2⟩:=W8 e
  obtain ⟨ws,h3,h4⟩:=W9 h2
  exact ⟨ws,h3.trans h1,h4⟩
noncomputable def w8(s:Shared):Value->Int
 | .ref x=>match s.heap.get? x with
  | some o=>match o.data with
   | .seq xs _=>match xs[0]? with
    | some (jk a _)=>a
    | _=>0
   | _=>0
  | _=>0
 | _=>0
section
variable {X:Cx}
theorem a9o:cK X (.builtin "sorted") (λxs H Q=>∃(p:Addr) (ts:List (Addr×Int×D)),xs=[.ref p]/\Sq X.K H true p (ts.map λt=>V.ref t.1)/\(∀t∈ts,∃zs,eJ X.K H t.1 (.int t.2.1::zs))/\(ts.map (·.2.1)).Nodup/\ts.length<mC /\
  ∀(us:List (Addr×Int×D)) (a:Addr),us.Perm ts->(us.Pairwise λx y=>x.2.1<y.2.1)->H a=none->Q (.ref a) (upd H a (.lst (us.map λt=>V.ref t.1)))):=by
 intro pins s σ H xs vs Q I r h
 obtain ⟨p,ts,rfl,hq,Nz,pB,de,q⟩:=h
 obtain ⟨u,rfl,ru⟩:=r.one
 cases ru
 obtain ⟨ao,rv,pl⟩:=oO (b:=true) I hq
 have hits:ao=ts.map λt=>dN t.1:=by
  clear pl hq Nz pB de q
  induction ts generalizing ao with
  | nil=>cases rv;rfl
  | cons t ts ih =>
   cases rv with
   | cons a b =>
    cases a
    rw [fF,ih _ b]
 subst hits
 have wu:∀t∈ts,TS.TupAt s (w8 s) (.ref t.1)/\w8 s (.ref t.1)=t.2.1:=λt ht=>by
  obtain ⟨zs,hz⟩:=Nz t ht
  obtain ⟨ws,qP,pt,_⟩:=I.tuple hz
  obtain ⟨o,ho,hc,n,hd⟩:=(show s.heap.IsTuple t.1 ws.toArray from pt)
  cases qP with
  | cons a b =>
   obtain ⟨tk,rfl⟩:=a
   have e:w8 s (.ref t.1)=t.2.1:=by
    unfold w8
    dsimp only
    rw [ho]
    dsimp only
    rw [hd]
    rfl
   exact ⟨⟨t.1,o,tk,_,n,rfl,ho,hc,by rw [e];exact hd⟩,e⟩
 have Ht:(ts.map λt=>dN t.1).map (w8 s)=ts.map (·.2.1):=by
  rw [dS]
  exact Eu λt ht=>(wu t ht).2
 refine TS.qM (ky:=w8 s) pl (λv hv=>?_) (by rw [Ht];exact pB) (by rw [bB];exact de) λout o1 o2=>?_
 .obtain ⟨t,ht,rfl⟩:=dz.mp hv
  exact (wu t ht).1
 .obtain ⟨us,u1,u2⟩:=Rr o1
  have u3:us.Pairwise λx y=>x.2.1<y.2.1:=by
   rw [<-u2,tO] at o2
   refine o2.imp_of_mem λ{x y} hx hy z=>?_
   rwa [(wu x (u1.subset hx)).2,(wu y (u1.subset hy)).2] at z
  obtain ⟨e,he⟩:=sortedAll_at s.heap (ts.map λt=>dN t.1) out
  have fr:H (s.heap.objs.size+1)=none:=I.aY.fresh (AU _)
  refine ⟨.ref (s.heap.objs.size+1),_,I.laid (o:=.lst (us.map λt=>V.ref t.1)) (t':=s.toks) (λb o e=>sortedAll_old e) (AU _) ⟨?_,out.toList,e,?_,?_⟩,rfl,q us _ u1 u3 fr⟩
  .rw [bB,u1.length_eq,iY];unfold mC at de;ext de
  .rw [<-u2]
   clear u1 u3 u2
   induction us with
   | nil=>exact .nil
   | cons t us ih=>exact .cons rfl ih
  .simpa using he
noncomputable def zk:D->Option (Int×D)
 | .tup (.int k::ds)=>some (k,.tup (.int k::ds))
 | _=>none
noncomputable def Bo:List D->Option (List (Int×D))
 | []=>some []
 | d::ds=>(zk d).bind λk=>(Bo ds).map λks=>k::ks
noncomputable def w4(ds:List D):Option (List D):=(Bo ds).bind λks=>if (ks.map (·.1)).Nodup/\ks.length<mC then some ((ks.mergeSort λa b=>decide (a.1<=b.1)).map (·.2)) else none
noncomputable def E1(f:En->Option Sl):En->Option Sl:=λenv=>(f env).bind λr=>match r.d with
 | .lst _ ds=>(w4 ds).map Sl.ow
 | _=>none
theorem RZ:∀{l m:List (Int×D)},l.Perm m->(l.map (·.1)).Nodup->(l.Pairwise λa b=>a.1<=b.1)->(m.Pairwise λa b=>a.1<=b.1)->l=m
 | [],m,h,_,_,_=>(List.nil_perm.mp h).symm
 | a::l,[],h,_,_,_=>by have:=h.length_eq;simp at this
 | a::l,b::m,h,hn,hl,hm=>by
  have Am:a=b:=by
   have h1:a∈b::m:=h.subset bK
   have h2:b∈a::l:=h.symm.subset bK
   have e:a.1=b.1:=by
    have k1:b.1<=a.1:=by
     rcases bH.mp h1 with z | z
     .rw [z];exact cU _
     .exact (ir.mp hm).1 a z
    have k2:a.1<=b.1:=by
     rcases bH.mp h2 with z | z
     .rw [z];exact cU _
     .exact (ir.mp hl).1 b z
    ext k1 k2
   rcases bH.mp h2 with z | z
   .exact z.symm
   .have:=(tB.mp hn).1
    exact absurd (dz.mpr ⟨b,z,e.symm⟩) this
  subst Am
  rw [RZ (h.cons_inv) (tB.mp hn).2 (ir.mp hl).2 (ir.mp hm).2]
theorem b1U(hg:Gl X "sorted")(hm:X.mg "sorted" = none)(he:EV X e fa)(hs:starEach [e] X.env=[(false,eval e X.env)]:=by rfl):EV X (.Call (.Name "sorted" p) [e] [] pos) (E1 fa):=by
 obtain ⟨t,pt,k⟩:=he
 refine ⟨_,vQ a9o hg hm (by decide +kernel) (pV pt qz hs) (by decide) (by decide) hs rfl,λO B σ H env s Q R e q=>?_⟩
 obtain ⟨r,e1,e2⟩:=bind_some e
 refine k O B σ H env r _ R e1 λv H1 s1 r1=>?_
 have hi:=r1.is λq=>R.oo
 cases hd:r.d with
 | lst b ds =>
  rw [hd] at e2 hi
  obtain ⟨rs,e3,rfl⟩:=map_some (show (w4 ds).map Sl.ow=some s from e2)
  obtain ⟨ks,e4,e5⟩:=bind_some e3
  obtain ⟨⟨pB,de⟩,rfl⟩:=iM e5
  obtain ⟨a,xs,rfl,h2,h3⟩:=hi.seq (k:=true) rfl
  have lay:∀{xs:List V} {ds:List D} {ks:List (Int×D)},aK X.K (OO O σ env) H1 xs ds->Bo ds=some ks->∃ts:List (Addr×Int×D),xs=ts.map (λt=>V.ref t.1)/\ks=ts.map (λt=>t.2)/\∀t∈ts,Is X.K (OO O σ env) H1 (.ref t.1) t.2.2/\∃zs,eJ X.K H1 t.1 (.int t.2.1::zs):=λ{xs ds ks} hI=>by
   intro hk
   induction ds generalizing xs ks with
   | nil=>cases hI;cases hk;exact ⟨[],rfl,rfl,λ_ z=>nomatch z⟩
   | cons d ds ih =>
    cases hI with
    | cons i1 i2 =>
     rename_i x jq
     obtain ⟨kd,f1,f2⟩:=bind_some hk
     obtain ⟨ks',f3,f4⟩:=map_some f2
     obtain ⟨ts,g1,g2,g3⟩:=ih i2 f3
     obtain ⟨kk,rest,rfl,rfl⟩:∃kk rest,d=.tup (.int kk::rest)/\kd=(kk,d):=by
      unfold zk at f1
      split at f1
      .cases f1;exact ⟨_,_,rfl,rfl⟩
      .cases f1
     obtain ⟨ad,zs,rfl,hz,uD⟩:=i1.seq (k:=false) rfl
     cases uD with
     | cons z1 z2 =>
      obtain rfl:=fH z1
      refine ⟨(ad,kk,.tup (.int kk::rest))::ts,by rw [g1];rfl,by rw [<-f4,g2];rfl,λt ht=>?_⟩
      rcases bH.mp ht with rfl | ht
      .exact ⟨i1,_,hz⟩
      .exact g3 t ht
  obtain ⟨ts,rfl,rfl,g3⟩:=lay h3 e4
  rw [dS] at pB
  rw [bB] at de
  refine ⟨a,ts,rfl,h2,λt ht=>(g3 t ht).2,pB,de,λus c u1 u2 hc=>?_⟩
  have pA:us.map (λt=>t.2)=(ts.map λt=>t.2).mergeSort λa b=>decide (a.1<=b.1):=by
   refine RZ ((u1.map _).trans (Oc _ _).symm) ?_ ?_ ?_
   .rw [dS];exact (u1.map _).nodup_iff.mpr pB
   .rw [tO];exact u2.imp λ{x y} z=>A5 z
   .have:=Ol (le:=λa b:Int×D=>decide (a.1<=b.1)) (λa b c h1 h2=>by simp at *;ext h1 h2) (λa b=>by simp;ext) (ts.map λt=>t.2)
    exact this.imp λ{x y} z=>by simpa using z
  rw [<-pA,dS] at q
  refine q _ _ (s1.trans (lV hc _)) ((xo hc ?_).from s1)
  have conv:∀ws:List (Addr×Int×D),(∀t∈ws,Is X.K (OO O σ env) H1 (.ref t.1) t.2.2)->aK X.K (OO O σ env) H1 (ws.map λt=>V.ref t.1) (ws.map λt=>t.2.2):=λws=>by
   induction ws with
   | nil=>exact λ_=>.nil
   | cons w ws ih=>exact λhw=>.cons (hw w bK) (ih λz hz=>hw z (bW _ hz))
  exact conv us λt ht=>(g3 t (u1.subset ht)).1
 | _=>rw [hd] at e2;cases e2
noncomputable def O2(f:En->Option Sl):En->Option Sl:=λenv=>(iJ (f env)).map λb=>.sh (.int (if b then 1 else 0))
end
end DL
namespace DL
open PySem PySem.Spec PyProof.Rows L2
section
variable {prog:Program}{w:World}{A:Around}{E:Value->Shared->Prop}{s:Shared}{a₀:Array Keyed}
end
section
variable {X:Cx}{pins:List (Addr×Obj)}{s:Shared}{σ:L2.St}{H:Hp}
theorem xW(I:Inv X pins σ H s)(hf:cV X pins H a)(new:c7 X.prog X.w (upd H a o) s.heap a o):Inv X pins σ (upd H a o) s:=by
 have ne:∀b u,H b=some u->b≠a:=λb u e z=>by rw [z,hf.1] at e;cases e
 refine I.step (g':=s.gens) (t':=s.toks) (d':=s.drawn) (ch:=[a]) (h':=s.heap) (H':=upd H a o) (λb hb=>?_) (λb o _ _ _ e _=>e) (λb o _ _ _ e _=>⟨o.slots,e⟩) (λb o hc e n=>by rw [cL (by simpa using hc)];exact n) (λb o _ e=>⟨o,e⟩)
  (λb xs e=>by rw [cL (ne b _ e)];exact e) (λb o u e=>by rw [cL (ne b _ e)];exact e) (λb ps e=>⟨#[],by rw [cL (ne b _ e),e];simp⟩) (λm hm=>hm) (λb u e=>?_) I.bare
 .obtain rfl:b=a:=by simpa using hb
  exact ⟨hf.2.2.2.1,hf.2.1,hf.2.2.2.2.1,hf.2.2.2.2.2⟩
 .by_cases hb:b=a
  .subst hb
   rw [lW] at e
   cases e
   exact new
  .rw [cL hb] at e
   exact (I.aY b u e).jr (λ_ _ _ q=>q) (λc _ _ q=>by rw [cL (ne c _ q)];exact q) λc xs q=>by rw [cL (ne c _ q)];exact q
theorem b34(F:bS X.prog X.w X.K X.mg X.base iN k f fd ps (mP X.K ps.length φ))(h1:ps.length=1)(hr:bp k A')(hA:A'.frames=X.A.frames)(hb:Binds X.K fd ps [])
  (I:Inv X pins σ H s)(rx:RelV x v)(hO:oS X.K O H)(hx:Is X.K O H x d)(e:φ [d]=some (.sh (.int n))):
  wpAny (model X.prog X.w) A' (call (.ref f) [v]) (λu s'=>∃t H',u=.int n t/\Inv X pins σ H' s'/\aq H H'/\∀b o,s.heap.get? b=some o->cV X pins H b->s'.heap.get? b=some o/\cV X pins H' b) E s:=by
 have e0:=I.fU
 have E0:iG X.prog X.w X.K X.mg X.base A' X.stack s H:=⟨hA.trans e0.frames,e0.mod,e0.bs,e0.nW,e0.eS,e0.qp,e0.aY,e0.bare⟩
 refine wpAny_call (DS (F.run A' X.stack s H ⟨[v],[]⟩ [v] [x] (λu H'=>u=.int n/\aq H H') (λ_ _ _=>False) hr E0 (hb s [v] I.uB (by simp [h1])) (.cons rx .nil) ⟨O,[d],.sh (.int n),hO,.cons hx .nil,by simp [h1],e,λv' H' sm r=>⟨fH r,sm⟩⟩) λr s' hq=>?_)
 cases r with
 | error e=>exact iI hq
 | ok fl =>
  cases fl with
  | ret u =>
   obtain ⟨v',H',os,bare,un,aY,rv,rfl,sm⟩:=hq
   obtain ⟨t,rfl⟩:=rv
   obtain ⟨hh,g,d',t',yV⟩:=s'
   obtain rfl:yV=s.os:=os
   refine ⟨t,H',rfl,I.call (h':=hh) (g':=g) (d':=d') (t':=t') (ch:=[]) un aY bare (λb z=>absurd z (by simp)),sm,λb o eb hf=>?_⟩
   have GK:b∉mj X.stack:=λz=>by
    rcases bH.mp (I.fL b z) with z | z
    .exact hf.2.1 z
    .exact hf.2.2.1 z
   exact ⟨un.keep b o eb hf.1 GK (by simp),un.free b o eb hf.1 (by simp),hf.2⟩
  | next=>exact iI hq
  | brk=>exact iI hq
  | cont=>exact iI hq
noncomputable def Gh(φ:List D->Option Sl)(d0 d1:D):Option Sl:=match φ [d0],φ [d1] with
 | some (.sh (.int k0)),some (.sh (.int k1))=>some (.ow (if k1<k0 then [d1,d0] else [d0,d1]))
 | _,_=>none
noncomputable def yr(φ:List D->Option Sl):D->Option Sl
 | .lst _ [d0,d1]=>Gh φ d0 d1
 | _=>none
noncomputable def b8E(φ:List D->Option Sl)(f:En->Option Sl):En->Option Sl:=λenv=>(f env).bind λr=>yr φ r.d
end
end DL
namespace DL
open PySem PySem.Spec PyProof.Rows L2
section
variable {X:Cx}{N:List Str}{sc:Scope}{k:Nat}{full:Bool}{pos pos' p1 p2 p3 p4:Pos}{e c:Expr}{fa:En->Option Sl}{ga:En->Option Bool}
noncomputable def iT(i:Nat)(f:En->Option Sl):SF:=λenv=>match env[i]? with
 | some (.sh (.int m))=>match f env with
  | some (.sh (.int n))=>some (.nx,env.set i (.sh (.int (m+n))))
  | _=>none
 | _=>none
theorem Rw(h:iT i f env=some y):∃m n,env[i]?=some (.sh (.int m))/\f env=some (.sh (.int n))/\y=(.nx,env.set i (.sh (.int (m+n)))):=by
 unfold iT at h
 split at h
 .rename_i m e1
  split at h
  .rename_i n e2
   cases h
   exact ⟨m,n,e1,e2,rfl⟩
  .cases h
 .cases h
theorem Fx.aug(h:Fx X N sc k full)(i:Nat)(he:EV X e fa)(hN:N[i]?=some x:=by rfl)(hv:Loc sc x:=by first | exact bO rfl | exact aW rfl)
  (hf:full=true\/sc.names.lookup x=some .local:=by first | exact bO rfl | exact aW rfl):SV X (.AugAssign (.Name x pos') .Add e pos) (iT i fa):=by
 obtain ⟨t,p,kk⟩:=he
 refine ⟨_,J0 h.sJ (h.ix hN) (h.loc hv) p PR (h.sG hf),λO B σ H env fl ai D R e q=>?_⟩
 obtain ⟨m,n,hi,e1,e2⟩:=Rw e
 cases e2
 obtain ⟨v,e3,hv⟩:=R.sh i _ hi
 obtain rfl:=fH hv
 refine ⟨_,e3,kk O B σ H env _ _ R e1 λv H1 s1 r1=>?_⟩
 obtain rfl:=fH r1
 refine ⟨m,n,rfl,rfl,?_⟩
 obtain ⟨R',g'⟩:=R.set (v:=.int (m+n)) (r:=.sh (.int (m+n))) s1 (Is.int (m+n)) (iu.mp hi).1
 exact q _ H1 R' g'
noncomputable def O8(i j:Nat)(c:En->Option Bool)(f:En->Option Sl):SF:=λenv=>match env[i]? with
 | some (.ow ds)=>forL (gN j) (cE c (av f) cZ) ds env
 | _=>none
end
end DL
namespace DL
open PySem L2
def Wo{α:Type}(o:Option α)(Q:α->Prop):Prop:=∃a,o=some a/\Q a
section
variable {α β:Type}
theorem a0g{a:α}{Q:α->Prop}:Wo (some a) Q↔Q a:=⟨λ⟨_,e,h⟩=>by cases e;exact h,λh=>⟨a,rfl,h⟩⟩
theorem a0o:Wo (none:Option α) Q↔False:=⟨λ⟨_,e,_⟩=>(nomatch e),iI⟩
theorem a0j{o:Option α}{f:α->Option β}{Q:β->Prop}:Wo (o.bind f) Q↔Wo o λa=>Wo (f a) Q:=by
 cases o with
 | none=>simp [Wo]
 | some a=>simp [Wo]
theorem a1J{o:Option α}{f:α->β}{Q:β->Prop}:Wo (o.map f) Q↔Wo o λa=>Q (f a):=by
 cases o with
 | none=>simp [Wo]
 | some a=>simp [Wo]
theorem iL{c:Prop}[Decidable c]{a:α}{Q:α->Prop}:Wo (if c then some a else none) Q↔c/\Q a:=by
 by_cases h:c
 .rw [if_pos h,a0g];exact ⟨λz=>⟨h,z⟩,λz=>z.2⟩
 .rw [if_neg h,a0o];exact ⟨iI,λz=>h z.1⟩
theorem Wo.mono{o:Option α}{P Q:α->Prop}(h:Wo o P)(k:∀a,P a->Q a):Wo o Q:=let ⟨a,e,p⟩:=h;⟨a,e,k a p⟩
theorem Wo.eq{o:Option α}{a:α}(h:Wo o λx=>x=a):o=some a:=let ⟨_,e,p⟩:=h;by rw [e,p]
theorem mG{o:Option α}{P Q:α->Prop}(k:∀a,P a↔Q a):Wo o P↔Wo o Q:=⟨λh=>h.mono λa=>(k a).mp,λh=>h.mono λa=>(k a).mpr⟩
end
noncomputable def oY(G:SF)(Q:Fl×En->Prop):Fl×En->Prop
 | (.nx,e)=>Wo (G e) Q
 | p=>Q p
theorem a5C:oY G Q (.nx,e)↔Wo (G e) Q:=eE
theorem b09:oY G Q (.bk,e)↔Q (.bk,e):=eE
theorem b08:oY G Q (.ct,e)↔Q (.ct,e):=eE
theorem b07:oY G Q (.rt r,e)↔Q (.rt r,e):=eE
theorem Wo_seq:Wo (ah F G env) Q↔Wo (F env) (oY G Q):=by
 unfold ah
 cases h:F env with
 | none=>simp [Wo]
 | some p =>
  obtain ⟨fl,e⟩:=p
  rw [a0g]
  cases fl with
  | nx=>exact eE
  | bk=>rw [b09];exact a0g
  | ct=>rw [b08];exact a0g
  | rt r=>rw [b07];exact a0g
theorem a2U:Wo (cE c F G env) Q↔Wo (c env) λb=>(b=true->Wo (F env) Q)/\(b=false->Wo (G env) Q):=by
 unfold cE
 cases h:c env with
 | none=>simp [Wo]
 | some b=>cases b<;>simp [a0g]
theorem b6K:Wo (cZ env) Q↔Q (.nx,env):=a0g
theorem Wo_bk:Wo (Gp env) Q↔Q (.bk,env):=a0g
theorem Wo_ct:Wo (Ua env) Q↔Q (.ct,env):=a0g
theorem b8X:Wo (av f env) Q↔Wo (f env) λr=>Q (.rt r,env):=a1J
theorem b6J:Wo (yw env) Q↔Q (.rt (.sh .aR),env):=a0g
theorem b8W:Wo (dP i f env) Q↔Wo (f env) λr=>i<env.length/\Q (.nx,env.set i r):=by
 unfold dP;rw [a0j];simp only [iL]
theorem b2p:Wo (bg i f env) Q↔Wo (f env) λr=>i<env.length/\Q (.nx,env.set i (.sh r.d)):=by
 unfold bg;rw [a0j];simp only [iL]
theorem b7f{f:En->Option Sl}{env:En}{Q:Fl×En->Prop}:Wo (yx f env) Q↔Wo (f env) λ_=>Q (.nx,env):=a1J
noncomputable def kW:Option Sl->(Sl->Prop)->Prop
 | some (.sh d),Q=>Q (.sh d)
 | _,_=>False
theorem b6u:kW (some (.sh d)) Q↔Q (.sh d):=eE
theorem Wo_eV:Wo (eV i env) Q↔kW env[i]? Q:=by
 unfold eV
 cases env[i]? with
 | none=>simp [C1,kW,Wo]
 | some s=>cases s<;>simp [C1,kW,Wo]
theorem Wo_eC:Wo (eC d env) Q↔Q (.sh d):=a0g
theorem b9f:Wo (aa g fa fb env) Q↔Wo (fa env) λx=>Wo (fb env) λy=>Wo (g x.d y.d) Q:=by
 unfold aa;rw [a0j];simp only [a0j]
theorem b81:Wo (kM f env) Q↔Wo (f env) λx=>Wo (uY x.d) Q:=a0j
theorem b6Q:Wo (uY (.int i)) Q↔Q (.sh (.int (-i))):=a0g
theorem b6W:Wo (aV (.int i) (.int j)) Q↔Q (.sh (.int (i+j))):=a0g
theorem b6O:Wo (c6 (.int i) (.int j)) Q↔Q (.sh (.int (i-j))):=by rw [b8o,a0g]
theorem b6S:Wo (eR (.int i) (.int j)) Q↔MulC i j/\Q (.sh (.int (i*j))):=iL
theorem b6V:Wo (dk (.int i) (.int j)) Q↔DivC i j/\Q (.sh (.int (i/j))):=iL
theorem b6T:Wo (bY (.int i) (.int j)) Q↔0<j/\Q (.sh (.int (i%j))):=iL
theorem b6P:Wo (fS (.int i) (.int j)) Q↔PowC i j/\Q (.sh (.int (i^j.toNat))):=iL
theorem b84:Wo (iV (.int i) (.int j)) Q↔Q (.sh (.bl (decide (i<j)))):=a0g
theorem b85:Wo (qo (.int i) (.int j)) Q↔Q (.sh (.bl (decide (i<=j)))):=a0g
theorem b86:Wo (rj (.int i) (.int j)) Q↔Q (.sh (.bl (decide (j<i)))):=a0g
theorem b87:Wo (X9 (.int i) (.int j)) Q↔Q (.sh (.bl (decide (j<=i)))):=a0g
theorem b88:Wo (dj (.int i) (.int j)) Q↔Q (.sh (.bl (decide (i=j)))):=a0g
theorem b83:Wo (gy (.int i) (.int j)) Q↔Q (.sh (.bl (!decide (i=j)))):=a0g
theorem b6U:Wo (dj (.bl i) (.bl j)) Q↔Q (.sh (.bl (decide (i=j)))):=a0g
theorem b6R:Wo (gy (.bl i) (.bl j)) Q↔Q (.sh (.bl (!decide (i=j)))):=a0g
theorem b4r:Wo (dj (.int i) .aR) Q↔Q (.sh (.bl false)):=a0g
theorem b4o:Wo (gy (.int i) .aR) Q↔Q (.sh (.bl true)):=a0g
theorem b4q:Wo (dj .aR (.int i)) Q↔Q (.sh (.bl false)):=a0g
theorem b4n:Wo (gy .aR (.int i)) Q↔Q (.sh (.bl true)):=a0g
theorem b4p:Wo (dj .aR .aR) Q↔Q (.sh (.bl true)):=a0g
theorem b4m:Wo (gy .aR .aR) Q↔Q (.sh (.bl false)):=a0g
theorem b82:Wo (rh a .aR) Q↔Q (.sh (.bl a.c5)):=a0g
theorem b6L:Wo (Au a .aR) Q↔Q (.sh (.bl (!a.c5))):=a0g
theorem b8T:Wo (bX f env) Q↔Wo (f env) λr=>Wo (iJ (some r)) Q:=by
 unfold bX
 cases f env with
 | none=>simp [iJ,Wo]
 | some r=>rw [a0g]
theorem b9j:Wo (iJ (some (.sh (.bl b)))) Q↔Q b:=a0g
theorem b6D:Wo (cO f env) Q↔Wo (f env) λr=>Wo (iQ r.d) Q:=a0j
theorem b6C:Wo (iQ (.bl b)) Q↔Q b:=a0g
theorem b6B:Wo (iQ (.int b)) Q↔Q (b != 0):=a0g
theorem b6y:Wo (iQ (.tup ds)) Q↔Q (!ds.isEmpty):=a0g
theorem b6A:Wo (iQ (.lst r ds)) Q↔Q (!ds.isEmpty):=a0g
theorem b6z:Wo (iQ .aR) Q↔Q false:=a0g
theorem b4e:Wo (Bp f env) Q↔Wo (f env) λr=>Q (!r.2.isEmpty):=by
 unfold Bp;rw [a0j];simp only [a0g]
theorem b6F:Wo (oP f g env) Q↔Wo (f env) λb=>(b=true->Wo (g env) Q)/\(b=false->Q false):=by
 unfold oP
 cases f env with
 | none=>simp [Wo]
 | some b=>cases b<;>simp [a0g]
theorem b8S:Wo (iR f g env) Q↔Wo (f env) λb=>(b=true->Q true)/\(b=false->Wo (g env) Q):=by
 unfold iR
 cases f env with
 | none=>simp [Wo]
 | some b=>cases b<;>simp [a0g]
theorem b6E:Wo (oQ f env) Q↔Wo (f env) λb=>Q (!b):=a1J
theorem b7d:Wo (jE f g env) Q↔Wo (f env) λr=>Wo (iJ (some r)) λb=>(b=true->Wo (g env) Q)/\(b=false->Q (.sh (.bl false))):=by
 unfold jE
 cases f env with
 | none=>simp [Wo,iJ]
 | some r =>
  rw [a0g]
  cases iJ (some r) with
  | none=>simp [Wo]
  | some b=>cases b<;>simp [a0g]
theorem b9c:Wo (AJ f g env) Q↔Wo (f env) λr=>Wo (iJ (some r)) λb=>(b=true->Q (.sh (.bl true)))/\(b=false->Wo (g env) Q):=by
 unfold AJ
 cases f env with
 | none=>simp [Wo,iJ]
 | some r =>
  rw [a0g]
  cases iJ (some r) with
  | none=>simp [Wo]
  | some b=>cases b<;>simp [a0g]
theorem b65:Wo (mn f env) Q↔Wo (f env) λr=>Wo (iJ (some r)) λb=>Q (.sh (.bl !b)):=by
 unfold mn
 cases f env with
 | none=>simp [Wo,iJ]
 | some r=>rw [a0g,a1J]
theorem b9e:Wo (m8 c f g env) Q↔Wo (c env) λb=>(b=true->Wo (f env) Q)/\(b=false->Wo (g env) Q):=by
 unfold m8
 cases c env with
 | none=>simp [Wo]
 | some b=>cases b<;>simp [a0g]
theorem b7l:Wo (ae env) Q↔Q []:=a0g
theorem b4F:Wo (af f g env) Q↔Wo (f env) λr=>Wo (g env) λds=>Q (r.d::ds):=by
 unfold af;rw [a0j];simp only [a0j,a0g]
theorem b62:Wo (bF f env) Q↔Wo (f env) λds=>ds.length<=16777216/\Q (.sh (.tup ds)):=by
 unfold bF;rw [a0j];simp only [iL]
theorem b68:Wo (bG f env) Q↔Wo (f env) λds=>ds.length<=16777216/\Q (.ow ds):=by
 unfold bG;rw [a0j];simp only [iL]
noncomputable def jJ:Option Sl->(Bool×List D->Prop)->Prop
 | some (.sh (.tup ds)),Q=>Q (false,ds)
 | some (.sh (.lst _ ds)),Q=>Q (true,ds)
 | some (.ow ds),Q=>Q (true,ds)
 | _,_=>False
theorem b8O:jJ (some (.sh (.tup ds))) Q↔Q (false,ds):=eE
theorem b8Q:jJ (some (.sh (.lst r ds))) Q↔Q (true,ds):=eE
theorem b8P:jJ (some (.ow ds)) Q↔Q (true,ds):=eE
theorem Wo_bV:Wo (bV i env) Q↔jJ env[i]? Q:=by
 unfold bV
 cases env[i]? with
 | none=>simp [wc,jJ,Wo]
 | some s=>cases s with
  | no=>simp [wc,jJ,Wo]
  | dw ds=>simp [wc,jJ,Wo]
  | ow ds=>simp [wc,jJ,Wo]
  | sh d=>cases d<;>simp [wc,jJ,Wo,eQ]
theorem b9g:Wo (fE f env) Q↔Wo (f env) λr=>Wo (eQ r.d) Q:=a0j
theorem b8U:Wo (eQ (.tup ds)) Q↔Q (false,ds):=a0g
theorem b8V:Wo (eQ (.lst r ds)) Q↔Q (true,ds):=a0g
theorem b69:Wo (bZ f env) Q↔Wo (f env) λx=>Q (.sh (.int x.2.length)):=a1J
theorem b4y:Wo (eList f env) Q↔Wo (f env) λx=>Q (.ow x.2):=a1J
theorem b2s:Wo (By f env) Q↔Wo (f env) λx=>x.1=true/\Q (.sh (.tup x.2)):=by
 unfold By;rw [a0j];simp only [iL]
def G0(xs:List D)(d:D)(Q:Sl->Prop):Prop:=match d with
 | .int i=>Wo (eI xs i) λd=>Q (.sh d)
 | _=>False
theorem ixQ_i:G0 xs (.int i) Q↔Wo (eI xs i) λd=>Q (.sh d):=eE
theorem b9d:Wo (az f g env) Q↔Wo (f env) λx=>Wo (g env) λy=>G0 x.2 y.d Q:=by
 unfold az
 rw [a0j]
 refine mG λx=>?_
 rw [a0j]
 refine mG λy=>?_
 unfold G0
 cases y.d<;>simp [a1J,a0o]
theorem df{α:Type}{xs:List α}{n:Nat}:eI xs (n:Int)=xs[n]?:=by
 unfold eI jg
 rw [if_pos (by ext)]
 by_cases h:n<xs.length
 .rw [if_pos (by ext h)];simp
 .rw [if_neg (by ext h),List.getElem?_eq_none (by ext h)];rfl
theorem atI_0{α:Type}{x:α}{xs:List α}:eI (x::xs) 0=some x:=df (n:=0)
theorem atI_1{α:Type}{x y:α}{xs:List α}:eI (x::y::xs) 1=some y:=df (n:=1)
theorem atI_2{α:Type}{x y z:α}{xs:List α}:eI (x::y::z::xs) 2=some z:=df (n:=2)
theorem atI_3{α:Type}{x y z u:α}{xs:List α}:eI (x::y::z::u::xs) 3=some u:=df (n:=3)
theorem b4A:Wo (aN n φ fs env) Q↔Wo (fs env) λds=>ds.length=n/\Wo (φ ds) Q:=by
 unfold aN
 rw [a0j]
 have h:∀ds:List D,Wo (if ds.length=n then φ ds else none) Q↔ds.length=n/\Wo (φ ds) Q:=λds=>by
  by_cases h:ds.length=n<;>simp [h,a0o]
 simp only [h]
theorem b2x:Wo (tU g fs env) Q↔Wo (fs env) λds=>Wo (g ds) Q:=a0j
theorem b4D:Wo (w6 [.int i,.int j]) Q↔Q (.sh (.int (min i j))):=by
 have:(if j<i then j else i)=min i j:=by simp only [Int.min_def];split<;>split<;>lia
 unfold w6;rw [a0g,this]
theorem b4E:Wo (w5 [.int i,.int j]) Q↔Q (.sh (.int (max i j))):=by
 have:(if j>i then j else i)=max i j:=by simp only [Int.max_def];split<;>split<;>lia
 unfold w5;rw [a0g,this]
theorem b7a:Wo (jD T f env) Q↔Wo (f env) λr=>Wo (jv T r.d) Q:=a0j
theorem b3A:Wo (jv T (.aR)) Q↔Q (.sh (.bl (bj T (.aR)))):=a0g
theorem b59:Wo (jv T (.bl b)) Q↔Q (.sh (.bl (bj T (.bl b)))):=a0g
theorem b3C:Wo (jv T (.int i)) Q↔Q (.sh (.bl (bj T (.int i)))):=a0g
theorem b3z:Wo (jv T (.str x)) Q↔Q (.sh (.bl (bj T (.str x)))):=a0g
theorem b3y:Wo (jv T (.tup ds)) Q↔Q (.sh (.bl (bj T (.tup ds)))):=a0g
theorem b3B:Wo (jv T (.lst r ds)) Q↔Q (.sh (.bl (bj T (.lst r ds)))):=a0g
noncomputable def aJ(Q:Sl->Prop):Fl×En->Prop
 | (.rt r,_)=>Q r
 | (.nx,_)=>Q (.sh .aR)
 | _=>False
theorem b6j:aJ Q (.rt r,e)↔Q r:=eE
theorem b6k:aJ Q (.nx,e)↔Q (.sh .aR):=eE
theorem cM:Wo (aF F N ds) Q↔Wo (F (n0 N ds)) (aJ Q):=by
 unfold aF
 cases F (n0 N ds) with
 | none=>simp [Wo]
 | some p =>
  obtain ⟨fl,e⟩:=p
  rw [a0g]
  cases fl<;>simp [a0g,a0o,aJ]
theorem b89:Wo (fO f g F env) Q↔Wo (f env) λr=>Wo (eQ r.d) λx=>Wo (forL g F x.2 env) Q:=by
 unfold fO;rw [a0j];simp only [a0j]
theorem b6X:Wo (EK h f g F env) Q↔Wo (f env) λds=>Wo (h ds) λis=>Wo (forL g F is env) Q:=by
 unfold EK;rw [a0j];simp only [a0j]
theorem b6H:Wo (qQ [.int j]) Q↔R62 j/\Q (bD 0 j.toNat):=iL
theorem b6G:Wo (Gx [.int i,.int j]) Q↔(R62 i/\R62 j)/\Q (bD i (j-i).toNat):=iL
noncomputable def rQ(I:En->Prop)(Q:Fl×En->Prop):Fl×En->Prop
 | (.nx,e)=>I e
 | (.ct,e)=>I e
 | (.bk,e)=>Q (.nx,e)
 | (.rt r,e)=>Q (.rt r,e)
theorem b2L:rQ I Q (.nx,e)↔I e:=eE
theorem b2M:rQ I Q (.ct,e)↔I e:=eE
theorem b2N:rQ I Q (.bk,e)↔Q (.nx,e):=eE
theorem b2K:rQ I Q (.rt r,e)↔Q (.rt r,e):=eE
theorem nE{α:Type}(enc:α->D)(I:List α->En->Prop)(xs:List α)(turn:∀pre a post env,xs=pre++a::post->I pre env->Wo (g (enc a) env) λe=>Wo (F e) (rQ (I (pre++[a])) Q))
  (done:∀env,I xs env->Q (.nx,env)):∀{env:En},I [] env->Wo (forL g F (xs.map enc) env) Q:=by
 have key:∀(post pre:List α) (env:En),xs=pre++post->I pre env->Wo (forL g F (post.map enc) env) Q:=by
  intro post
  induction post with
  | nil =>
   intro pre env e h
   rw [nT] at e
   subst e
   exact ⟨_,rfl,done env h⟩
  | cons a post ih =>
   intro pre env e h
   obtain ⟨e1,h1,p,h2,h3⟩:=turn pre a post env e h
   rw [fF]
   unfold forL
   rw [h1]
   dsimp only
   rw [h2]
   obtain ⟨fl,e2⟩:=p
   cases fl with
   | nx=>exact ih (pre++[a]) e2 (by rw [e,fB];rfl) h3
   | ct=>exact ih (pre++[a]) e2 (by rw [e,fB];rfl) h3
   | bk=>exact ⟨_,rfl,h3⟩
   | rt r=>exact ⟨_,rfl,h3⟩
 exact λ{env} h=>key xs [] env rfl h
theorem b5v(lo:Int)(n:Nat)(I:Nat->En->Prop)(turn:∀(k:Nat) env,k<n->I k env->Wo (g (.int (lo+k)) env) λe=>Wo (F e) (rQ (I (k+1)) Q))
  (done:∀env,I n env->Q (.nx,env))(h:I 0 env):Wo (forL g F (bD lo n) env) Q:=by
 unfold bD
 refine nE (λ(k:Nat)=>D.int (lo+(k:Int))) (λpre env=>I pre.length env) (eH n) (λpre a post env e h=>?_) (λenv h=>done env (by simpa using h)) h
 have hl:=congrArg tG e
 have ha:(eH n)[pre.length]?=some a:=by rw [e];simp
 simp at hl
 rw [List.getElem?_range (by ext hl)] at ha
 cases ha
 simpa using turn pre.length env (by ext hl) h
theorem Wo_gN:Wo (gN i d env) Q↔i<env.length/\Q (env.set i (.sh d)):=iL
theorem Wo_gT:Wo (gT n u (.tup ds) env) Q↔ds.length=n/\Wo (u ds env) Q:=by
 unfold gT
 by_cases h:ds.length=n<;>simp [h,a0o]
theorem b4l:Wo (oM [] env) Q↔Q env:=a0g
theorem b2r:Wo (fG g u (d::ds) env) Q↔Wo (g d env) λe=>Wo (u ds e) Q:=a0j
theorem b9i:Wo (qO f g env) Q↔Wo (f env) λr=>Wo (g r.d env) λe=>Q (.nx,e):=by
 unfold qO;rw [a0j];simp only [a1J]
noncomputable def bR:Option Sl->(List D->Prop)->Prop
 | some (.ow ds),Q=>Q ds
 | _,_=>False
theorem b8R:bR (some (.ow ds)) Q↔Q ds:=eE
theorem b9k:Wo (dY i f env) Q↔bR env[i]? λds=>Wo (f env) λr=>ds.length<16777216/\Q (.nx,env.set i (.ow (ds++[r.d]))):=by
 unfold dY
 cases env[i]? with
 | none=>simp [a0o,bR]
 | some s=>cases s with
  | no=>simp [a0o,bR]
  | dw d=>simp [a0o,bR]
  | sh d=>simp [a0o,bR]
  | ow ds=>dsimp only [bR];rw [a0j];simp only [iL]
def uZ(env:En)(i:Nat)(ds:List D)(d:D)(Q:Fl×En->Prop):Prop:=match d with
 | .lst false es=>ds.length+es.length<=16777216/\Q (.nx,env.set i (.ow (ds++es)))
 | _=>False
theorem b8v:uZ env i ds (.lst false es) Q↔ds.length+es.length<=16777216/\Q (.nx,env.set i (.ow (ds++es))):=eE
theorem b9a:Wo (kq i f env) Q↔bR env[i]? λds=>Wo (f env) λr=>uZ env i ds r.d Q:=by
 unfold kq
 cases env[i]? with
 | none=>simp [a0o,bR]
 | some s=>cases s with
  | no=>simp [a0o,bR]
  | dw d=>simp [a0o,bR]
  | sh d=>simp [a0o,bR]
  | ow ds =>
   dsimp only [bR];rw [a0j]
   refine mG λr=>?_
   unfold uZ
   cases r.d with
   | lst ro es=>cases ro<;>simp [iL,a0o]
   | _=>simp [a0o]
theorem b8Y:Wo (lX i j env) Q↔bR env[j]? λds=>Wo ds[ds.length-1]? λd=>(i<env.length/\i≠j)/\Q (.nx,(env.set j (.ow ds.dropLast)).set i (.sh d)):=by
 unfold lX
 cases env[j]? with
 | none=>simp [a0o,bR]
 | some s=>cases s with
  | no=>simp [a0o,bR]
  | dw d=>simp [a0o,bR]
  | sh d=>simp [a0o,bR]
  | ow ds=>dsimp only [bR];rw [a0j];simp only [iL]
def JT(env:En)(i:Nat)(ds:List D)(d:D)(k:D)(Q:Fl×En->Prop):Prop:=match k with
 | .int n=>Wo (jg ds.length n) λj=>Q (.nx,env.set i (.ow (ds.set j d)))
 | _=>False
theorem b56:JT env i ds d (.int n) Q↔Wo (jg ds.length n) λj=>Q (.nx,env.set i (.ow (ds.set j d))):=eE
theorem b6M:Wo (wZ i f g env) Q↔bR env[i]? λds=>Wo (f env) λr=>Wo (g env) λk=>JT env i ds r.d k.d Q:=by
 unfold wZ
 cases env[i]? with
 | none=>simp [a0o,bR]
 | some s=>cases s with
  | no=>simp [a0o,bR]
  | dw d=>simp [a0o,bR]
  | sh d=>simp [a0o,bR]
  | ow ds =>
   dsimp only [bR];rw [a0j]
   refine mG λr=>?_
   rw [a0j]
   refine mG λk=>?_
   unfold JT
   cases k.d<;>simp [a0j,a0g,a0o]
theorem Pd:Wo (o5 i F env) Q↔Wo (F (pJ i env)) Q:=eE
theorem OW(h:env[i]?=some (.ow ds)):pJ i env=env.set i (.sh (.lst false ds)):=by unfold pJ;rw [h]
noncomputable def Bh(env:En):Option Sl->(Fl×En->Prop)->Prop
 | some (.ow ds),Q=>Q (.rt (.ow ds),env)
 | some (.dw ds),Q=>Q (.rt (.dw ds),env)
 | some (.sh d),Q=>Q (.rt (.sh d),env)
 | _,_=>False
theorem b6w:Bh env (some (.ow ds)) Q↔Q (.rt (.ow ds),env):=eE
theorem b6v:Bh env (some (.sh d)) Q↔Q (.rt (.sh d),env):=eE
theorem b6I:Wo (oN i env) Q↔Bh env env[i]? Q:=by
 unfold oN
 cases env[i]? with
 | none=>simp [a0o,Bh]
 | some s=>cases s<;>simp [a0o,a0g,Bh]
theorem b80:Wo (kD env) Q↔Q none:=a0g
def pQ(d:D)(Q:Option Int->Prop):Prop:=match d with
 | .int i=>Q (some i)
 | _=>False
theorem pQ_i:pQ (.int i) Q↔Q (some i):=eE
theorem b8Z:Wo (jV f env) Q↔Wo (f env) λr=>pQ r.d Q:=by
 unfold jV
 rw [a0j]
 refine mG λr=>?_
 unfold pQ
 cases r.d<;>simp [a0g,a0o]
theorem b9b:Wo (kJ f lo hi env) Q↔Wo (f env) λx=>Wo (lo env) λl=>Wo (hi env) λh =>
  (x.1=true->Q (.ow (cutD x.2 l h)))/\(x.1=false->¬(HT.be x.2.length 0 l=0/\HT.be x.2.length x.2.length h=x.2.length)/\Q (.sh (.tup (cutD x.2 l h)))):=by
 unfold kJ
 rw [a0j]
 simp only [a0j]
 have h:∀(x:Bool×List D) (l h:Option Int),Wo (if x.1=true then some (Sl.ow (cutD x.2 l h)) else if ¬(HT.be x.2.length 0 l=0/\HT.be x.2.length x.2.length h=x.2.length) then some (.sh (.tup (cutD x.2 l h))) else none) Q ↔
   (x.1=true->Q (.ow (cutD x.2 l h)))/\(x.1=false->¬(HT.be x.2.length 0 l=0/\HT.be x.2.length x.2.length h=x.2.length)/\Q (.sh (.tup (cutD x.2 l h)))):=λx l h=>by
  obtain ⟨k,ds⟩:=x
  cases k
  .simp only [rL,if_false,iL];simp
  .simp [a0g]
 simp only [h]
theorem Sl_sh:Sl.d (.sh d)=d:=rfl
theorem Sl_ow:Sl.d (.ow ds)=.lst false ds:=rfl
theorem b4u:Wo (aV (.lst false a) (.lst false b)) Q↔a.length+b.length<=16777216/\Q (.ow (a++b)):=iL
theorem b4s:Wo (aV (.tup a) (.tup b)) Q↔a.length+b.length<=16777216/\Q (.sh (.tup (a++b))):=iL
theorem b4t:Wo (aV (.str a) (.str b)) Q↔a.length+b.length<=16777216/\Q (.sh (.str (a++b))):=iL
theorem a89 :bj "int" .aR=false:=rfl
theorem b0D:bj "int" (.bl b)=true:=rfl
theorem a9b:bj "int" (.int i)=true:=rfl
theorem a88:bj "int" (.str x)=false:=rfl
theorem a87:bj "int" (.tup ds)=false:=rfl
theorem a9a:bj "int" (.lst r ds)=false:=rfl
theorem a8i :bj "bool" .aR=false:=rfl
theorem a9c:bj "bool" (.bl b)=true:=rfl
theorem a8k:bj "bool" (.int i)=false:=rfl
theorem a8h:bj "bool" (.str x)=false:=rfl
theorem a8g:bj "bool" (.tup ds)=false:=rfl
theorem a8j:bj "bool" (.lst r ds)=false:=rfl
theorem a83 :bj "str" .aR=false:=rfl
theorem b0C:bj "str" (.bl b)=false:=rfl
theorem a85:bj "str" (.int i)=false:=rfl
theorem a82:bj "str" (.str x)=true:=rfl
theorem a81:bj "str" (.tup ds)=false:=rfl
theorem a84:bj "str" (.lst r ds)=false:=rfl
theorem a8d :bj "list" .aR=false:=rfl
theorem a86:bj "list" (.bl b)=false:=rfl
theorem a8f:bj "list" (.int i)=false:=rfl
theorem a8c:bj "list" (.str x)=false:=rfl
theorem a8b:bj "list" (.tup ds)=false:=rfl
theorem a8e:bj "list" (.lst r ds)=true:=rfl
theorem a65 :bj "tuple" .aR=false:=rfl
theorem a8a:bj "tuple" (.bl b)=false:=rfl
theorem a67:bj "tuple" (.int i)=false:=rfl
theorem a64:bj "tuple" (.str x)=false:=rfl
theorem a63:bj "tuple" (.tup ds)=true:=rfl
theorem a66:bj "tuple" (.lst r ds)=false:=rfl
theorem Fd{α β:Type}{f:α->β}{xs:List α}{i:Int}(z:α)(h0:0<=i)(h:i<xs.length):eI (xs.map f) i=some (f (xs.getD i.toNat z)):=by
 unfold eI jg
 rw [bB,if_pos h0,if_pos h]
 have:i.toNat<xs.length:=by ext h0 h
 simp [this]
theorem a9t:Wo (forL g F [] env) Q↔Q (.nx,env):=a0g
theorem a8D:Wo (forL g F (d::ds) env) Q↔Wo (g d env) λe=>Wo (F e) (rQ (λe=>Wo (forL g F ds e) Q) Q):=by
 rw [forL]
 cases g d env with
 | none=>simp [a0o]
 | some e =>
  rw [a0g]
  dsimp only
  cases F e with
  | none=>simp [a0o]
  | some p =>
   obtain ⟨fl,e2⟩:=p
   rw [a0g]
   cases fl<;>simp [rQ,a0g]
theorem b1K:D.c5 .aR=true:=rfl
theorem b3E:D.c5 (.bl b)=false:=rfl
theorem b1M:D.c5 (.int i)=false:=rfl
theorem b1J:D.c5 (.str x)=false:=rfl
theorem b1I:D.c5 (.tup ds)=false:=rfl
theorem b1L:D.c5 (.lst r ds)=false:=rfl
theorem Kt(xs:List Int){i:Int}(h0:0<=i)(h1:i<xs.length)(h:∀v∈xs,Q (.int v))(e:ds=xs.map D.int:=by rfl):Wo (eI ds i) Q:=by
 have hi:i.toNat<xs.length:=by ext h0 h1
 rw [e,Fd 0 h0 h1,a0g,show xs.getD i.toNat 0=xs[i.toNat] by simp [hi]]
 exact h _ (nU hi)
theorem b7g:Wo (fZ fi caps nt g fc fe env) Q↔Wo (fi env) λds=>Wo (iX caps env) λcs=>ds.length<=16777216/\Wo (jK g fc fe ds (jn nt Sl.no++cs)) λrs=>Q (.ow rs):=by
 unfold fZ
 rw [a0j]
 refine mG λds=>?_
 rw [a0j]
 refine mG λcs=>?_
 by_cases h:ds.length<=16777216
 .rw [if_pos h,a1J];exact ⟨λz=>⟨h,z⟩,λz=>z.2⟩
 .rw [if_neg h,a0o];exact ⟨iI,λz=>h z.1⟩
theorem b7i:Wo (iX [] env) Q↔Q []:=a0g
theorem b7h:Wo (iX (i::is) env) Q↔kW env[i]? λs=>Wo (iX is env) λcs=>Q (s::cs):=by
 rw [iX]
 cases h:env[i]? with
 | none=>simp [a0o,kW]
 | some s=>cases s<;>simp [a0o,kW,a1J]
theorem rep0{l:En}:jn 0 Sl.no++l=l:=rfl
theorem rep1{l:En}:jn 1 Sl.no++l=Sl.no::l:=rfl
theorem rep2{l:En}:jn 2 Sl.no++l=Sl.no::Sl.no::l:=rfl
theorem rep3{l:En}:jn 3 Sl.no++l=Sl.no::Sl.no::Sl.no::l:=rfl
theorem rep4{l:En}:jn 4 Sl.no++l=Sl.no::Sl.no::Sl.no::Sl.no::l:=rfl
theorem b4d:Wo (jL env) Q↔Q true:=a0g
theorem b4B:Wo (jK g fc fe [] e) Q↔Q []:=a0g
theorem b4C:Wo (jK g fc fe (d::ds) e) Q↔Wo (g d e) λe1=>Wo (fc e1) λb =>
  (b=true->Wo (fe e1) λr=>Wo (jK g fc fe ds e1) λrs=>Q (r.d::rs))/\(b=false->Wo (jK g fc fe ds e1) Q):=by
 rw [jK,a0j]
 refine mG λe1=>?_
 rw [a0j]
 refine mG λb=>?_
 cases b
 .rw [if_neg my];simp
 .rw [if_pos rfl,a0j];simp only [a0j,a0g];simp
theorem b60:Wo (eW f env) Q↔Wo (f env) λr=>Wo (eQ r.d) λx=>Q x.2:=by
 unfold eW;rw [a0j];simp only [a1J]
theorem b61:Wo (gC h f env) Q↔Wo (f env) λds=>Wo (h ds) Q:=a0j
theorem b6Z:Wo (Bm f g F env) Q↔Wo (f env) λds=>Wo (forL g F ds env) Q:=a0j
theorem nF{α:Type}(enc:α->D)(f:α->D)(P:En->Prop)(xs:List α)
  (h:∀a∈xs,∀e,P e->Wo (g (enc a) e) λe1=>P e1/\Wo (fc e1) λb=>b=true/\Wo (fe e1) λr=>r.d=f a):∀{e:En},P e->jK g fc fe (xs.map enc) e=some (xs.map f):=by
 induction xs with
 | nil=>intro e _;rfl
 | cons a xs ih =>
  intro e he
  obtain ⟨e1,g1,p1,b,c1,rfl,r,f1,f2⟩:=h a bK e he
  rw [fF,jK,g1,ni,c1,ni,if_pos rfl,f1,ni,ih (λb hb=>h b (bW _ hb)) p1,f2]
  rfl
theorem a9j{α:Type}(enc:α->D)(p:α->Bool)(f:α->D)(P:En->Prop)(xs:List α)
  (h:∀a∈xs,∀e,P e->Wo (g (enc a) e) λe1=>P e1/\Wo (fc e1) λb=>b=p a/\(p a=true->Wo (fe e1) λr=>r.d=f a)):∀{e:En},P e->jK g fc fe (xs.map enc) e=some ((xs.filter p).map f):=by
 induction xs with
 | nil=>intro e _;rfl
 | cons a xs ih =>
  intro e he
  obtain ⟨e1,g1,p1,b,c1,rfl,k⟩:=h a bK e he
  have Nw:=ih (λb hb=>h b (bW _ hb)) p1
  rw [fF,jK,g1,ni,c1,ni]
  cases hp:p a with
  | true =>
   obtain ⟨r,f1,f2⟩:=k hp
   rw [if_pos rfl,f1,ni,Nw,f2,List.filter_cons_of_pos hp]
   rfl
  | false=>rw [if_neg my,Nw,List.filter_cons_of_neg (by simp [hp])]
theorem b63:Wo (iq f env) Q↔Wo (f env) λx=>Wo (j6 x.2) λns=>Q (.sh (.int ns.sum)):=by
 unfold iq;rw [a0j];simp only [a1J]
theorem b7e:Wo (nO f env) Q↔Wo (f env) λx=>Wo (fA x.2) λns=>Q (.sh (.bl (ns.all id))):=by
 unfold nO;rw [a0j];simp only [a1J]
theorem b7c:Wo (AM f env) Q↔Wo (f env) λx=>Wo (fA x.2) λns=>Q (.sh (.bl (ns.any id))):=by
 unfold AM;rw [a0j];simp only [a1J]
theorem b66:Wo (AK f env) Q↔Wo (f env) λx=>Wo (j6 x.2) λns=>ns≠[]/\Q (.sh (.int (y7 ns))):=by
 unfold AK;rw [a0j];simp only [a0j,iL]
theorem b67:Wo (AL f env) Q↔Wo (f env) λx=>Wo (j6 x.2) λns=>ns≠[]/\Q (.sh (.int (za ns))):=by
 unfold AL;rw [a0j];simp only [a0j,iL]
theorem b6N:Wo (j6 (ns.map D.int)) Q↔Q ns:=by rw [BY,a0g]
theorem b2y:Wo (fA (ns.map D.bl)) Q↔Q ns:=by rw [Qk,a0g]
theorem b4j:Wo (j6 []) Q↔Q []:=a0g
theorem b4k:Wo (j6 (.int i::ds)) Q↔Wo (j6 ds) λns=>Q (i::ns):=by
 show Wo ((j6 ds).map (i::·)) Q↔_
 rw [a1J]
theorem b7j:Wo (fA []) Q↔Q []:=a0g
theorem b7k:Wo (fA (.bl i::ds)) Q↔Wo (fA ds) λns=>Q (i::ns):=by
 show Wo ((fA ds).map (i::·)) Q↔_
 rw [a1J]
theorem EZ(P:D->Prop)(hi:i<env.length)
  (hc:Wo (c env) λb=>(b=true->Wo (f env) λr=>P r.d)/\(b=false->∃d,env[i]?=some (.sh d)/\P d))(h:∀d,P d->Q (.nx,env.set i (.sh d))):Wo (cE c (bg i f) cZ env) Q:=by
 rw [a2U]
 refine hc.mono λb hb=>⟨λe=>?_,λe=>?_⟩
 .rw [b2p]
  exact (hb.1 e).mono λr hr=>⟨hi,h _ hr⟩
 .obtain ⟨d,e1,e2⟩:=hb.2 e
  rw [b6K]
  have:=h d e2
  rwa [show env.set i (.sh d)=env by
   obtain ⟨h1,h2⟩:=iu.mp e1
   rw [<-h2,List.set_getElem_self]] at this
theorem iw{α:Type}{xs:List α}{x:α}:eI (xs++[x]) (-1)=some x:=by
 unfold eI jg
 rw [if_neg (by decide),if_pos (by rw [dC,Jo];ext),dC,Jo]
 have:(-1+((xs.length+1:Nat):Int)).toNat=xs.length:=by ext
 rw [this]
 simp
theorem B7(I:Nat->En->Prop)(turn:∀n env,I n env->Wo (c env) λb=>(b=true->Wo (F env) (rQ (λe=>∃m,m<n/\I m e) Q))/\(b=false->Q (.nx,env))):
  ∀(fuel n:Nat) {env:En},n<fuel->I n env->Wo (qG c F fuel env) Q
 | 0,n,env,h,_=>absurd h (Jc _)
 | fuel+1,n,env,h,hI=>by
  obtain ⟨b,e1,h1,h2⟩:=turn n env hI
  rw [qG,e1]
  cases b with
  | false=>exact ⟨_,rfl,h2 rfl⟩
  | true =>
   obtain ⟨⟨fl,e2⟩,e3,h3⟩:=h1 rfl
   dsimp only
   rw [e3]
   cases fl with
   | nx=>obtain ⟨m,hm,HY⟩:=h3;exact B7 I turn fuel m (by ext h hm) HY
   | ct=>obtain ⟨m,hm,HY⟩:=h3;exact B7 I turn fuel m (by ext h hm) HY
   | bk=>exact ⟨_,rfl,h3⟩
   | rt r=>exact ⟨_,rfl,h3⟩
theorem KY:Wo (BG m c F env) Q↔Wo (qG c F (m env) env) Q:=eE
noncomputable def fV{α:Type}(xs:List α)(lo hi:Option Int):List α:=(xs.drop (HT.be xs.length 0 lo)).take (HT.be xs.length xs.length hi-HT.be xs.length 0 lo)
theorem BR{α:Type}{f:α->D}(xs:List α)(lo hi:Option Int):cutD (xs.map f) lo hi=(fV xs lo hi).map f:=by
 unfold cutD fV
 rw [bB,<-List.map_drop,<-List.map_take]
theorem QV{α:Type}(xs:List α)(lo hi:Option Int):(fV xs lo hi).length<=xs.length:=by
 unfold fV
 rw [iZ,nr]
 ext
theorem b18{α:Type}(xs:List α){n:Nat}:fV xs (some (n:Int)) none=xs.drop n:=by
 unfold fV
 rw [HT.js,HT.oZ]
 by_cases h:n<=xs.length
 .rw [D4 h,wV (by simp)]
 .rw [Nat.min_eq_right (by ext h),ny (bh _),ny (by ext h)];simp
theorem b4h:Wo (EH [.int j]) Q↔Q (bD 0 j.toNat):=a0g
theorem b4g:Wo (yA [.int i,.int j]) Q↔Q (bD i (j-i).toNat):=a0g
def Gk(d:D)(l h:Option Int)(Q:Sl->Prop):Prop:=match d with
 | .tup ds=>Q (.sh (.tup (cutD ds l h)))
 | _=>False
theorem slQ_t:Gk (.tup ds) l h Q↔Q (.sh (.tup (cutD ds l h))):=eE
theorem b64:Wo (rp f lo hi env) Q↔Wo (f env) λx=>Wo (lo env) λl=>Wo (hi env) λh=>Gk x.d l h Q:=by
 unfold rp
 simp only [a0j]
 refine mG λx=>mG λl=>mG λh=>?_
 unfold Gk
 cases x.d<;>simp [a0g,a0o]
theorem b39:Wo (iO [.tup a,.tup b]) Q↔Q (gu a b):=a0g
theorem b4a:Wo (iO [.tup a,.lst r b]) Q↔Q (gu a b):=a0g
theorem b4b:Wo (iO [.lst r a,.tup b]) Q↔Q (gu a b):=a0g
theorem b4c:Wo (iO [.lst r a,.lst r' b]) Q↔Q (gu a b):=a0g
def GR(ds:List D)(Q:Sl->Prop):Prop:=match ds with
 | [.int i,.int j]=>(j-i).toNat<=16777216/\Q (.ow (bD i (j-i).toNat))
 | _=>False
theorem lrQ_i:GR [.int i,.int j] Q↔(j-i).toNat<=16777216/\Q (.ow (bD i (j-i).toNat)):=eE
theorem b2w:Wo (Ph fs env) Q↔Wo (fs env) λds=>GR ds Q:=by
 unfold Ph
 rw [a0j]
 refine mG λds=>?_
 unfold GR
 split
 .exact iL
 .exact a0o
def Bu(i:Nat)(env:En)(a b:Sl)(Q:Fl×En->Prop):Prop:=match a,b with
 | .sh (.int m),.sh (.int n)=>Q (.nx,env.set i (.sh (.int (m+n))))
 | _,_=>False
theorem b8N:Bu i env (.sh (.int m)) (.sh (.int n)) Q↔Q (.nx,env.set i (.sh (.int (m+n)))):=eE
theorem b9h:Wo (iT i f env) Q↔kW env[i]? λa=>Wo (f env) λr=>Bu i env a r Q:=by
 constructor
 .rintro ⟨y,e,h⟩
  obtain ⟨m,n,e1,e2,rfl⟩:=Rw e
  rw [e1];exact ⟨_,e2,h⟩
 .intro h
  cases hi:env[i]? with
  | none=>rw [hi] at h;exact h.elim
  | some s =>
   rw [hi] at h
   cases s with
   | no=>exact h.elim
   | ow ds=>exact h.elim
   | dw ds=>exact h.elim
   | sh d =>
    obtain ⟨r,e1,h⟩:=h
    cases d with
    | int m =>
     cases r with
     | sh d2 =>
      cases d2 with
      | int n=>exact ⟨_,by unfold iT;rw [hi,e1],h⟩
      | _=>exact h.elim
     | _=>exact h.elim
    | _=>exact h.elim
theorem b6Y:Wo (O8 i j c f env) Q↔bR env[i]? λds=>Wo (forL (gN j) (cE c (av f) cZ) ds env) Q:=by
 unfold O8
 cases h:env[i]? with
 | none=>simp [a0o,bR]
 | some s=>cases s<;>simp [a0o,bR]
theorem b4v:Wo (vI [.tup ds]) Q↔Q (pR ds):=a0g
theorem b4w:Wo (vI [.lst r ds]) Q↔Q (pR ds):=a0g
theorem b2v:Wo (b8E φ f env) Q↔Wo (f env) λr=>Wo (yr φ r.d) Q:=a0j
def Gi(d:D)(Q:Sl->Prop):Prop:=match d with
 | .lst _ ds=>Wo (w4 ds) λrs=>Q (.ow rs)
 | _=>False
theorem srQ_l:Gi (.lst r ds) Q↔Wo (w4 ds) λrs=>Q (.ow rs):=eE
theorem b0M:Wo (E1 f env) Q↔Wo (f env) λr=>Gi r.d Q:=by
 unfold E1
 rw [a0j]
 refine mG λr=>?_
 cases r.d<;>simp [Gi,a0o,a1J]
theorem b4z:Wo (O2 f env) Q↔Wo (f env) λr=>Wo (iJ (some r)) λb=>Q (.sh (.int (if b=true then 1 else 0))):=by
 unfold O2
 cases f env with
 | none=>simp [Wo,iJ]
 | some r=>rw [a0g,a1J]
end DL
namespace DL
theorem JR(h1:-A<=a)(h2:a<=A)(h3:-B<=b)(h4:b<=B):-(A*B)<=a*b/\a*b<=A*B:=by
 have hA:0<=A:=by ext h1 h2
 have hB:0<=B:=by ext h3 h4
 have e1:(A-a)*(B+b)=A*B+A*b-a*B-a*b:=by grind
 have e2:(A+a)*(B-b)=A*B-A*b+a*B-a*b:=by grind
 have e3:(A-a)*(B-b)=A*B-A*b-a*B+a*b:=by grind
 have e4:(A+a)*(B+b)=A*B+A*b+a*B+a*b:=by grind
 have f1:=oI (show 0<=A-a by ext h2) (show 0<=B+b by ext h3)
 have f2:=oI (show 0<=A+a by ext h1) (show 0<=B-b by ext h4)
 have f3:=oI (show 0<=A-a by ext h2) (show 0<=B-b by ext h4)
 have f4:=oI (show 0<=A+a by ext h1) (show 0<=B+b by ext h3)
 ext e1 e2 e3 e4 f1 f2 f3 f4
theorem xn(h:-(10^250)<=i)(h2:i<=10^250)(h3:-(10^250)<=j)(h4:j<=10^250):MulC i j:=.inr (.inr ⟨⟨h,h2⟩,h3,h4⟩)
theorem Ky(h:0<j)(h2:j<=10^250):DivC i j:=⟨h,h2⟩
theorem QZ{a b:Int}(hb:0<b):a/b*b<=a/\a<(a/b+1)*b:=by
 have h1:=Int.emod_add_mul_ediv a b
 have h2:=rN a (Int.ne_of_gt hb)
 have h3:=rK a hb
 generalize a/b=q at *
 exact ⟨by grind,by grind⟩
end DL
namespace DL
open PySem PySem.Spec PyProof.Rows L2
def Tr(h:Heap)(e T:Addr)(c:Value):Prop:=∃oe vs a0 oT ts,h.get? e=some oe/\(oe.cls=c/\vs[0]?=some a0)/\oe.data=.fields vs/\vs[1]?=some (.ref T)/\T≠e/\h.get? T=some oT/\oT.data=.fields ts/\ts[3]?=some .none
structure Lies(h0:Heap)(H:Hp)(h:Heap)(e:Addr)(c:Value):Prop where
 new:h0.get? e=none
 un:H e=none
 tr:∃T,h0.get? T=none/\H T=none/\Tr h e T c
structure Moved(H:Hp)(l:List Env)(ex:List Addr)(h h':Heap):Prop where
 un:Un (mj l) ex H H h h'
section
variable {P:Program}{w:World}{K:aA}{mg:Str->Option Value}{base:Heap}{N:List Str}{qual:Str}{scope:Scope}{f:Addr}{cd:Value}{A:Around}{outer:List Env}{s:Shared}{H:Hp}{E:XK}
end
end DL
namespace DL
open PySem PySem.Spec PyProof.Rows L2
noncomputable abbrev RF:=En->Option (Str×En)
section
variable {X:Cx}{W:L2.St->Hp->Value->Prop}{e a b c:Expr}{es:List Expr}{st:Stmt}{rest sa sb:List Stmt}{F G:SF}{r r':RF}{re:En->Option Str}{fa:En->Option Sl}{ga:En->Option Bool}{fs:En->Option (List D)}{pos p aS np:Pos}
noncomputable def EW:SF:=λ_=>none
theorem Qv:SV X st EW:=⟨λ_ _ _=>False,λ_ _ _ _ _ _ h=>h.elim,λ_ _ _ _ _ _ _ _ _ e _=>by cases e⟩
theorem EV.gh(h:EV X.gh e fa):EV X e fa:=let ⟨t,p,k⟩:=h;⟨t,p.gh,k⟩
theorem TV.gh(h:TV X.gh e ga):TV X e ga:=let ⟨t,p,k⟩:=h;⟨t,p.gh,k⟩
theorem jS.gh(h:jS X.gh rest F):jS X rest F:=let ⟨t,p,k⟩:=h;⟨t,p.gh,k⟩
theorem SV.gh(h:SV X.gh st F):SV X st F:=let ⟨t,p,k⟩:=h;⟨t,λpins s σ H D I hw=>jG (p pins s σ H D (I.fm _) hw) (λ_ _ q=>q.cN) λ_ _ z=>iI z,k⟩
theorem AV.gh(h:AV X.gh es fs):AV X es fs:=let ⟨t,p,k⟩:=h;⟨t,λpo pins s σ H Q I hw=>jG (p po pins s σ H Q (I.fm _) hw) (λ_ _ ⟨v,H',I',r,q⟩=>⟨v,H',I'.cN,r,q⟩) λ_ _ z=>iI z,k⟩
end
noncomputable abbrev xV:List Value:=[.type "ValueError",.type "Exception",.type "BaseException",.type "object"]
structure ExcC(K:aA)(C:Addr):Prop where
 ob:∃(bm:List Value) (N:Addr) (nm q:Str) (bs:List Value) (HI:Bool) (sn:List Str) (sub:List Value) (ab:Bool) (col:Option Bool) (dd:Option Addr) (k0 k1 k2 k3 k5:Option Value),K.lookup C=some (excClassObj nm q C N bs bm HI sn sub ab col dd k0 k1 k2 k3 k5 "ValueError.__new__") /\
  PySem.W.nsOkIn K N=true/\jY K N "__init__" = some none/\PySem.W.tailIn K xV bm=true
section
variable {X:Cx}{W:L2.St->Hp->Value->Prop}{e:Expr}{es:List Expr}{fs:En->Option (List D)}{pos p aS np:Pos}{x:Str}{C:Addr}
end
section
variable {P:Program}{w:World}{K:aA}{mg:Str->Option Value}{base:Heap}
end
end DL
namespace DL
open PySem PySem.Spec PyProof.Rows L2
section
variable {X:Cx}{pins:List (Addr×Obj)}{σ:L2.St}{H:Hp}{s:Shared}{h':Heap}
noncomputable abbrev HK(X:Cx)(v:Value):Cx:={ X with A:=X.A.mark (some v),calm:=false,xe:=λ_ _=>False }
end
theorem Rel.drop{K:aA}{O:Addr->Prop}{B H:Hp}{σ:L2.St}{env:En}(R:Rel K O B σ H env)(i:Nat):Rel K O B (σ.set i none) H (env.set i .no)/\Gd σ env H (σ.set i none) (env.set i .no) H:=by
 have own:∀q,km (σ.set i none) (env.set i .no) q->km σ env q:=λq ⟨j,ds,e1,o,e2⟩=>by
  by_cases hj:j=i
  .subst hj
   rw [D1] at e1
   simp at e1
   rw [<-e1.2] at o
   exact o.elim
  .rw [fj (gm hj)] at e1 e2
   exact ⟨j,ds,e1,o,e2⟩
 have oo:∀q,OO O (σ.set i none) (env.set i .no) q->OO O σ env q:=λq z=>z.elim .inl λz=>.inr (own q z)
 have at_:∀{j:Nat} {x:Sl},(env.set i .no)[j]?=some x->x≠.no->j≠i/\env[j]?=some x:=λ{j x} e hx=>by
  by_cases hj:j=i
  .subst hj
   rw [D1] at e
   simp at e
   exact absurd e.2.symm hx
  .rw [fj (gm hj)] at e
   exact ⟨hj,e⟩
 refine ⟨⟨R.same,R.mq,by simp [R.len],λj d e=>?_,λj ds e=>?_,λj ds e=>?_,λj k ds es p e1 e2 e3 e4 o1 o2=>?_⟩,λq u e n=>⟨e,λz=>n (own q z)⟩⟩
 .obtain ⟨hj,e⟩:=at_ e (λz=>nomatch z)
  obtain ⟨v,e1,h⟩:=R.sh j d e
  exact ⟨v,by rw [fj (gm hj)];exact e1,h.less oo⟩
 .obtain ⟨hj,e⟩:=at_ e (λz=>nomatch z)
  obtain ⟨p,xs,e1,e2,e3,h⟩:=R.ow j ds e
  exact ⟨p,xs,by rw [fj (gm hj)];exact e1,e2,e3,h.less oo⟩
 .obtain ⟨hj,e⟩:=at_ e (λz=>nomatch z)
  obtain ⟨p,e1,e2,e3⟩:=R.dw j ds e
  exact ⟨p,by rw [fj (gm hj)];exact e1,e2,e3⟩
 .obtain ⟨hj,e1⟩:=at_ e1 (λz=>by rw [z] at o1;exact o1)
  obtain ⟨hk,e2⟩:=at_ e2 (λz=>by rw [z] at o2;exact o2)
  rw [fj (gm hj)] at e3
  rw [fj (gm hk)] at e4
  exact R.sep j k ds es p e1 e2 e3 e4 o1 o2
end DL
namespace DL
open PySem PySem.Spec PyProof.Rows L2
structure Hx(X:Cx)(N:List Str)(sc:Scope):Prop where
 n:X.N=N
 sc:X.env.scope=sc
 fn:∀x,X.fn x=true
 nd:N.Nodup
section
variable {X:Cx}{N:List Str}{sc:Scope}{k i:Nat}{n Cn:Str}{hc:Value}{body M4:List Stmt}{b0:Stmt}{Fb Fh:SF}{rb:RF}{hit:Str->Bool}{np q0 pos:Pos}
end
end DL
namespace DL
open PySem PySem.W PySem.Spec PySem.Calls PyProof.Rows L2 PySem.Builtin.ObjectAttr PySem.Builtin PySem.Builtin.Getset_descriptor
section
variable {prog:Program}{w:World}{A:Around}{E:Value->Shared->Prop}{s:Shared}{K:Frag}{x C:Addr}
structure MY(K:Frag)(C:Addr):Prop where
 ga:findIn K (.ref C) "__getattribute__" = some (some (.builtin "BaseException.__getattribute__"))
 no:findIn K (.ref C) "__getattr__" = some none
 at_:findIn K (.ref C) "__class__" = some (some (.builtin "object.__class__"))
 get:specialIn K (.builtin "object.__class__") "__get__" = some (some (.builtin "getset_descriptor.__get__"))
 tk:takesIn K (.builtin "object.__class__")=some true
 mro:mroIn K C (.type "object")=some true
 mrB:mroIn K C (.type "BaseException")=some true
end
section
variable {X:Cx}{a:Expr}{pos p p2:Pos}{fa:En->Option Sl}
end
section
variable {X:Cx}{N:List Str}{sc:Scope}{pos p p1 p2 pos' aS:Pos}{e a b:Expr}{fa fb:En->Option Sl}
theorem Hx.v(h:Hx X N sc)(i:Nat)(hN:N[i]?=some x:=by rfl)(hv:gU sc x:=by first | exact bO rfl | exact aW (bO rfl) | exact aW (aW rfl))(hd:(x==("__debug__":Str))=false:=by rfl)
  (cI:(x==("__classdict__":Str))=false:=by rfl):EV X (.Name x pos) (eV i):=PM i (by rw [h.n];exact hN) (by rw [h.sc];exact hv) hd cI
theorem Hx.g(h:Hx X N sc)(hg:sc.names.lookup x=some .globalImplicit:=by rfl):Gl X x:=by
 show X.env.kindOf x=some .globalImplicit
 unfold DA
 rw [h.sc]
 exact hg
theorem Hx.set(h:Hx X N sc)(i:Nat)(he:EV X e fa)(hN:N[i]?=some x:=by rfl)(hv:Loc sc x:=by first | exact bO rfl | exact aW rfl)
  (hs:swapsWith e (some (.Name x pos')) pos.line X.env=pure false:=by rfl):SV X (.Assign [.Name x pos'] e pos) (dP i fa):=PH (by rw [h.n];exact h.nd) (by rw [h.n];exact hN) (by rw [h.sc];exact hv) he hs (.inl (h.fn x))
theorem Hx.app(h:Hx X N sc)(i:Nat)(ha:EV X e fa)(hN:N[i]?=some x:=by rfl)(hv:gU sc x:=by first | exact bO rfl | exact aW (bO rfl) | exact aW (aW rfl))(hd:(x==("__debug__":Str))=false:=by rfl)
  (cI:(x==("__classdict__":Str))=false:=by rfl)(hs:starEach [e] X.env=[(false,eval e X.env)]:=by rfl)
  (cJ:attributeBase (.Name x p1) "append" X.env (eval (.Name x p1) X.env)=eval (.Name x p1) X.env:=by rfl)
  (il:((backTo aS (starEach [e] X.env)).all (λx=>!x.1)&&(backToKw aS (keywordEach [] X.env)).all (λx=>x.1.isSome)
   && decide ([e].length+([]:List Keyword).length+(if ([]:List Keyword).isEmpty then 0 else 1)<30))=true:=by rfl)
  (cH:(p2.endLine==aS.line)=true:=by rfl)
  (qZ:swapsWith (.Call (.Attribute (.Name x p1) "append" p2) [e] [] aS) none pos.line X.env=pure false:=by rfl):
  SV X (.Expr (.Call (.Attribute (.Name x p1) "append" p2) [e] [] aS) pos) (dY i fa):=Rk ha (by rw [h.n];exact hN) (by rw [h.sc];exact hv) hd cI hs cJ il cH qZ
end
structure Cl(K:Frag)(mg:Str->Option Value)(x:Str)(C:Addr):Prop where
 ns:nsIn K mainGlobals x=some (some (.ref C))
 m:mg x=some (.ref C)
 ck:MY K C
 cd:(clsIn K C).isSome=true
theorem Fx.gh{X:Cx}{N:List Str}{sc:Scope}{k:Nat}{full:Bool}(h:Fx X N sc k full):Fx X.gh N sc k full:=⟨h.n,h.sc,h.calm,h.fn,A2,h.room,h.nd,h.top⟩
theorem Hx.aC{X:Cx}{N:List Str}{sc:Scope}{pos pos':Pos}{e:Expr}{fa:En->Option Sl}(h:Hx X N sc)(i:Nat){x:Str}(he:EV X e fa)(hN:N[i]?=some x:=by rfl)(hv:Loc sc x:=by first | exact bO rfl | exact aW rfl)
  (hs:swapsWith e (some (.Name x pos')) pos.line X.env=pure false:=by rfl):SV X (.Assign [.Name x pos'] e pos) (bg i fa):=Qo (by rw [h.n];exact h.nd) (by rw [h.n];exact hN) (by rw [h.sc];exact hv) he hs (.inl (h.fn x))
theorem b2q:Wo (EW env) Q↔False:=a0o
end DL
namespace DL
open PySem PySem.Spec PyProof.Rows L2
theorem b6f{P:Program}{w:World}{K:aA}{mg:Str->Option Value}{base:Heap}{k n:Nat}{f:Addr}{fd:FuncData}{ps:List Str}{φ:List D->Option Sl}(h:∀ds r,φ ds=some r->False):bS P w K mg base iN k f fd ps (mP K n φ):=
 ⟨λvs H Q E q=>by obtain ⟨O,ds,r,_,_,_,e,_⟩:=q;exact (h ds r e).elim,λA outer s H args us vs Q E _ _ _ _ q=>by obtain ⟨O,ds,r,_,_,_,e,_⟩:=q;exact (h ds r e).elim⟩
section
variable {X:Cx}{W:L2.St->Hp->Value->Prop}{it tg:Expr}{re:En->Option Str}{pos:Pos}
end
theorem b5O{P:Program}{w:World}{K:aA}{mg:Str->Option Value}{base:Heap}{x:Str}{st:Stmt}{ps:List Str}{j:Nat}{f:Addr}{fd:FuncData}(D':Def K mg x st ps f fd):Oz P w K mg base x st ps j λ_=>none:=⟨f,fd,D',b6f λ_ _ z=>nomatch z⟩
end DL
namespace DL
open PySem PySem.Spec PyProof.Rows L2
section
variable {prog:Program}{w:World}{A:Around}{R:Result->Shared->Prop}{I:Addr}{fp wr:List Addr}{n:Nat}{P:Nat->Value->Prop}{St:Nat->Heap->Prop}
def CP(prog:Program)(w:World)(A:Around)(P:Nat->Value->Prop)(KH:Heap->Prop)(bt:Nat->Nat->Bool):Prop:=∀i j x y (s:Shared) (Q:Value->Shared->Prop) (E:Value->Shared->Prop),P i x->P j y->KH s.heap->Q (.bool (bt i j)) s->wpAny (model prog w) A (richCompare .Lt x y) Q E s
theorem GQ(W:Walks prog w A.in1 I fp wr n P St)(bt:Nat->Nat->Bool)(cmp:CP prog w A.in1 P KH bt)(S:Addr)(nS:S∉fp)
  (kk:∀h h':Heap,KH h->(∀b o,b∉wr->b≠S->h.get? b=some o->h'.get? b=some o)->KH h'):
  ∀(m j:Nat) (s:Shared) (best:Value) (c:Nat),n-(j+1)=m->j+1<=n->St (j+1) s.heap->KH s.heap->P (argBest bt j) best->s.heap.get? S=some { cls:=.type "list",dict:=none,data:=.seq #[best,best] c,slots:=#[] } ->
  (∀v h' tk,P (argBest bt (n-1)) v->(∀b o,b∉wr->b≠S->s.heap.get? b=some o->h'.get? b=some o)->R (.ok (.ret v)) { s with heap:=h',toks:=tk })->codeAny (model prog w) A (.builtin "min.loop" ⟨[.ref I,.none,.ref S],[]⟩) R s:=by
 have nw:S∉wr:=λz=>nS (W.sub _ z)
 have nm:(toString "min" ++ toString ".loop":String) = "min.loop":=by decide
 intro m
 induction m with
 | zero =>
  intro j s best c e1 e2 st kh pb hS hR
  have ej:j+1=n:=by ext e1 e2
  apply vo IW
  rw [vF vh]
  show wpAny _ A.in1 (seqItems? (.ref S) >>= _) _ _ _
  apply ar
  refine pN hS rfl ?_
  show wpAny _ A.in1 (tryCatch (pyNext (.ref I)) _ >>= _) _ _ _
  apply ar
  refine DI (W.done s _ _ (ej▸st) λh1 tk k1=>?_)
  have s9:=k1 S _ nw hS
  show wpAny _ A.in1 (updateSeq S (λ_=>#[]) >>= _) _ _ ⟨_,_,_,_,_⟩
  apply ar
  refine Jb s9 rfl ?_
  apply ar
  refine tF (aZ ?_)
  exact hR best _ tk (by rw [<-ej];exact pb) λb o nb qe e=>(oK _ _ (gm qe)).trans (k1 b o nb e)
 | succ m ih =>
  intro j s best c e1 e2 st kh pb hS hR
  have lt:j+1<n:=by ext e1
  apply vo IW
  rw [vF vh]
  show wpAny _ A.in1 (seqItems? (.ref S) >>= _) _ _ _
  apply ar
  refine pN hS rfl ?_
  show wpAny _ A.in1 (tryCatch (pyNext (.ref I)) _ >>= _) _ _ _
  apply ar
  refine DI (W.item (j+1) s _ _ lt st λv h1 tk pv CZ k1=>?_)
  have s9:=k1 S _ nw hS
  have GX:KH h1:=kk _ _ kh λb o nb _ e=>k1 b o nb e
  show wpAny _ A.in1 (tryCatch (holding [v,v] (richCompare .Lt v best >>= _)) _ >>= _) _ _ ⟨_,_,_,_,_⟩
  apply ar
  refine DI (pO ?_)
  apply ar
  refine cmp (j+1) (argBest bt j) v best _ _ _ pv pb GX ?_
  apply ar
  refine pO (tP ?_)
  apply ar
  refine tF (aZ ?_)
  cases hb:bt (j+1) (argBest bt j) with
  | true =>
   simp only [if_true]
   apply ar
   refine Jb s9 rfl ?_
   apply ar
   apply tF
   rw [nm]
   have k2:∀b o,b≠S->h1.get? b=some o->(h1.update S λx=>{ x with data:=.seq #[v,v] (c+1) }).get? b=some o:=λb o nb e=>(oK _ _ (gm nb)).trans e
   refine aZ ⟨vk vh _,ih (j+1) _ v _ (by ext e1) lt (W.frame _ _ _ CZ λb bf o e=>?_) (kk _ _ GX λb o nb qe e=>?_) (by simp only [argBest,hb,if_true];exact pv) (El _ s9 rfl) λv2 h2 xZ yH k2=>?_⟩
   .exact (oK _ _ (λz:S=b=>nS (z▸bf))).trans e
   .exact (oK _ _ (gm qe)).trans e
   .exact hR v2 h2 xZ yH λb o nb qe e=>k2 b o nb qe ((oK _ _ (gm qe)).trans (k1 b o nb e))
  | false =>
   simp only [rL,if_false]
   apply ar
   apply tF
   rw [nm]
   refine aZ ⟨vk vh _,ih (j+1) _ best c (by ext e1) lt CZ GX (by simp only [argBest,hb,rL,if_false];exact pb) s9 λv2 h2 xZ yH k2=>?_⟩
   exact hR v2 h2 xZ yH λb o nb qe e=>k2 b o nb qe (k1 b o nb e)
theorem b2h
  (h:wpAny (model prog w) A.in1 (pyIter x) (λit s2=>∃I fp wr n P St bt KH,it=.ref I/\Walks prog w A.in1 I fp wr n P St/\St 0 s2.heap/\(∀b∈fp,b<s2.heap.objs.size)/\0<n/\CP prog w A.in1 P KH bt /\
   (∀h h':Heap,KH h->(∀b o,b∉wr->b≠s2.heap.objs.size->h.get? b=some o->h'.get? b=some o)->KH h')/\KH s2.heap /\
   ∀v h' tk,P (argBest bt (n-1)) v->(∀b o,b∉wr->s2.heap.get? b=some o->h'.get? b=some o)->Q v { s2 with heap:=h',toks:=tk }) E s):
  wpAny (model prog w) A (call (.builtin "min") [x]) Q E s:=by
 have nm:(toString "min" ++ toString ".loop":String) = "min.loop":=by decide
 apply call_function_tree F.kind_min F.plain_min F.entry_min (F.args_min1 _)
 show wpAny _ A.in1 (Builtin.Builtins.bindParams "min" ["key","default"] 0 ⟨[],[]⟩ >>= _) _ _ _
 apply ar
 refine wpAny_of_eq (a:=[none,none]) rfl ?_
 apply ar
 apply aZ
 apply ar
 refine a9 h λit s2 h2=>?_
 obtain ⟨I,fp,wr,n,P,St,bt,KH,rfl,W,st,mh,hn,cmp,kk,kh,hQ⟩:=h2
 apply ar
 refine rH ?_
 have nS:s2.heap.objs.size∉fp:=λz=>oH _ (mh _ z)
 have nw:s2.heap.objs.size∉wr:=λz=>nS (W.sub _ z)
 rw [nm]
 refine aZ ⟨vk vh _,?_⟩
 apply vo IW
 rw [vF vh]
 show wpAny _ A.in1 (seqItems? (.ref s2.heap.objs.size) >>= _) _ _ ⟨_,_,_,_,_⟩
 apply ar
 refine pN (eG _ rfl) rfl ?_
 show wpAny _ A.in1 (tryCatch (pyNext (.ref I)) _ >>= _) _ _ _
 apply ar
 refine DI (W.item 0 _ _ _ hn (W.frame _ _ _ st λb _ o e=>bI _ e) λv h1 tk pv CZ k1=>?_)
 have s9:=k1 _ _ nw (eG _ rfl)
 show wpAny _ A.in1 (updateSeq s2.heap.objs.size (λ_=>#[v,v]) >>= _) _ _ ⟨_,_,_,_,_⟩
 apply ar
 refine Jb s9 rfl ?_
 rw [nm]
 have Nq:∀b o,b∉wr->s2.heap.get? b=some o->h1.get? b=some o:=λb o nb e=>k1 b o nb (bI _ e)
 refine aZ ⟨vk vh _,GQ W bt cmp _ nS kk _ 0 _ v _ rfl hn (W.frame _ _ _ CZ λb bf o e=>?_) (kk _ _ kh λb o nb qe e=>?_) pv (El _ s9 rfl) λv2 h2 xZ yH k2=>?_⟩
 .exact (oK _ _ (λz:s2.heap.objs.size=b=>nS (z▸bf))).trans e
 .exact (oK _ _ (gm qe)).trans (Nq b o nb e)
 .exact hQ v2 h2 xZ yH λb o nb e=>k2 b o nb (dE (bJ e)) ((oK _ _ (gm (dE (bJ e)))).trans (Nq b o nb e))
end
noncomputable def fQ:List (List Int)->List Int
 | []=>[]
 | x::r=>r.foldl (λm y=>if HT.lexLt y m then y else m) x
theorem Pf(ns:List (List Int)):∀j,j<ns.length->argBest (λi j=>HT.lexLt (ns.getD i []) (ns.getD j [])) j<ns.length/\ns.getD (argBest (λi j=>HT.lexLt (ns.getD i []) (ns.getD j [])) j) []=fQ (ns.take (j+1))
 | 0,h=>by
  refine ⟨h,?_⟩
  cases ns with
  | nil=>cases h
  | cons n r=>rfl
 | j+1,h=>by
  obtain ⟨h1,h2⟩:=Pf ns j (by ext h)
  have e:ns.take (j+1+1)=ns.take (j+1)++[ns.getD (j+1) []]:=by rw [List.take_add_one];simp [h]
  have e2:fQ (ns.take (j+1+1))=if HT.lexLt (ns.getD (j+1) []) (fQ (ns.take (j+1))) then ns.getD (j+1) [] else fQ (ns.take (j+1)):=by
   rw [e]
   cases ns with
   | nil=>cases h
   | cons n r=>simp only [List.take_succ_cons,Ea,fQ,DX,rO,List.foldl_nil];rfl
  rw [e2,<-h2]
  simp only [argBest]
  split
  .exact ⟨h,rfl⟩
  .exact ⟨h1,rfl⟩
section
variable {X:Cx}{a b:Expr}{ba:En->Option (Bool×List D)}{fa fb:En->Option Sl}{p pos:Pos}{W:L2.St->Hp->Value->Prop}{re:En->Option Str}
theorem Q2:∀{ns:List Int} {ao:List Value},au (ns.map V.int) ao->IntsAre ao ns
 | [],_,.nil=>.nil
 | n::r,_,.cons h t=>by obtain ⟨u,rfl⟩:=h;exact .cons _ _ (Q2 t)
end
end DL
namespace DL
open PySem PySem.Spec PyProof.Rows L2
section
variable {X:Cx}{a b c:Expr}{pos:Pos}{fa fb fc:En->Option Sl}
end
end DL
namespace DL
open PySem PySem.Spec PyProof.Rows L2
section
variable {X X':Cx}
def MX(mg:Str->Option Value)(x:Str)(n:Int):Prop:=∃t,mg x=some (.int n t)
theorem b3L(hg:Gl X x)(hm:MX X.mg x n)(hd:(x==("__debug__":Str))=false:=by decide):EV X (.Name x pos) (eC (.int n)):=by
 obtain ⟨t,hm⟩:=hm
 refine ⟨_,b5K (v:=.int n) hg hm ⟨t,rfl⟩ hd,λO B σ H env s Q R e q=>?_⟩
 cases e
 exact q _ H (aq.refl _) (Is.int _)
end
section
variable {X:Cx}{N:List Str}{sc:Scope}{k:Nat}{full:Bool}{pos pos':Pos}{e:Expr}{fa:En->Option Sl}
noncomputable def wX(C:Int->Int->Prop)[∀i j,Decidable (C i j)](g:Int->Int->Int)(i:Nat)(f:En->Option Sl):SF:=λenv=>match env[i]? with
 | some (.sh (.int m))=>match f env with
  | some (.sh (.int n))=>if C m n then some (.nx,env.set i (.sh (.int (g m n)))) else none
  | _=>none
 | _=>none
theorem RI{C:Int->Int->Prop}[∀i j,Decidable (C i j)]{g:Int->Int->Int}{i:Nat}{f:En->Option Sl}{env:En}{y:Fl×En}(h:wX C g i f env=some y):∃m n,env[i]?=some (.sh (.int m))/\f env=some (.sh (.int n))/\C m n/\y=(.nx,env.set i (.sh (.int (g m n)))):=by
 unfold wX at h
 split at h
 .rename_i m e1
  split at h
  .rename_i n e2
   obtain ⟨hc,h⟩:=iM h
   exact ⟨m,n,e1,e2,hc,h.symm⟩
  .cases h
 .cases h
noncomputable instance (i j:Int):Decidable (lD i j):=by unfold lD;infer_instance
noncomputable def EI:Nat->(En->Option Sl)->SF:=wX lD λi j=>i*j
noncomputable def EJ:Nat->(En->Option Sl)->SF:=wX (λ_ _=>True) λi j=>i-j
theorem W7:CF X .Mult (λx y H Q=>∃i j,x=.int i/\y=.int j/\lD i j/\Q (.int (i*j)) H):=λpins s σ H x y v u Q I r1 r2 h=>b6b pins s σ H x y v u Q I r1 r2 h
theorem Fx.Kl(h:Fx X N sc k full)(i:Nat)(he:EV X e fa)(hN:N[i]?=some x:=by rfl)(hv:Loc sc x:=by first | exact bO rfl | exact aW rfl)
  (hf:full=true\/sc.names.lookup x=some .local:=by first | exact bO rfl | exact aW rfl):SV X (.AugAssign (.Name x pos') .Mult e pos) (EI i fa):=by
 obtain ⟨t,p,kk⟩:=he
 refine ⟨_,J0 h.sJ (h.ix hN) (h.loc hv) p W7 (h.sG hf),λO B σ H env fl ai D R e q=>?_⟩
 obtain ⟨m,n,hi,e1,hc,e2⟩:=RI e
 cases e2
 obtain ⟨v,e3,hv⟩:=R.sh i _ hi
 obtain rfl:=fH hv
 refine ⟨_,e3,kk O B σ H env _ _ R e1 λv H1 s1 r1=>?_⟩
 obtain rfl:=fH r1
 refine ⟨m,n,rfl,rfl,hc,?_⟩
 obtain ⟨R',g'⟩:=R.set (v:=.int (m*n)) (r:=.sh (.int (m*n))) s1 (Is.int (m*n)) (iu.mp hi).1
 exact q _ H1 R' g'
theorem Fx.Kk(h:Fx X N sc k full)(i:Nat)(he:EV X e fa)(hN:N[i]?=some x:=by rfl)(hv:Loc sc x:=by first | exact bO rfl | exact aW rfl)
  (hf:full=true\/sc.names.lookup x=some .local:=by first | exact bO rfl | exact aW rfl):SV X (.AugAssign (.Name x pos') .Sub e pos) (EJ i fa):=by
 obtain ⟨t,p,kk⟩:=he
 refine ⟨_,J0 h.sJ (h.ix hN) (h.loc hv) p b8l (h.sG hf),λO B σ H env fl ai D R e q=>?_⟩
 obtain ⟨m,n,hi,e1,hc,e2⟩:=RI e
 cases e2
 obtain ⟨v,e3,hv⟩:=R.sh i _ hi
 obtain rfl:=fH hv
 refine ⟨_,e3,kk O B σ H env _ _ R e1 λv H1 s1 r1=>?_⟩
 obtain rfl:=fH r1
 refine ⟨m,n,rfl,rfl,?_⟩
 obtain ⟨R',g'⟩:=R.set (v:=.int (m-n)) (r:=.sh (.int (m-n))) s1 (Is.int (m-n)) (iu.mp hi).1
 exact q _ H1 R' g'
end
end DL
namespace TS
open PySem PyProof.Rows
section
variable {prog:Program}{w:World}{A:Around}{E:Value->Shared->Prop}{s:Shared}
end
end TS
namespace KS
open PySem PySem.W PyProof.Rows
noncomputable def go{α:Type}(cmp:Nat->Nat->Bool):KasT α->α
 | .ret a=>a
 | .ask i j k=>go cmp (k (cmp i j))
theorem xl{α β:Type}(cmp:Nat->Nat->Bool)(f:α->KasT β):∀t:KasT α,go cmp (t.bind f)=go cmp (f (go cmp t))
 | .ret a=>rfl
 | .ask i j k=>xl cmp f (k (cmp i j))
section
variable (K:Nat->Int)
noncomputable def kI(p:Array Nat)(i:Nat):Int:=K (p.getD i 0)
def su(p:Array Nat)(k:Nat):Prop:=∀i j,i<=j->j<k->kI K p i<=kI K p j
def CI(p:Array Nat)(k:Nat):Prop:=∀i j,i<=j->j<k->kI K p j<=kI K p i
noncomputable abbrev eZ(i j:Nat):Bool:=decide (K i<K j)
variable {K}
theorem Bn(h:p[i]?=q[j]?):kI K p i=kI K q j:=by
 unfold kI
 rw [OJ,OJ,h]
theorem Ka(hj:j<=p.size)(k:Nat):kI K (mirror p i j ((j-i)/2)) k=if i<=k/\k<j then kI K p (i+j-1-k) else kI K p k:=by
 have e:=Ju (i:=i) hj k
 by_cases h1:i<=k/\k<j
 .rw [if_pos h1] at e ⊢;exact Bn e
 .rw [if_neg h1] at e ⊢;exact Bn e
theorem BL(hj:j<=p.size)(he:∀k,i<=k->k<j->kI K p k=kI K p (j-1))(k:Nat):kI K (mirror p i j ((j-i)/2)) k=kI K p k:=by
 rw [Ka hj]
 split
 .rw [he _ (by omega) (by omega),he k (by omega) (by omega)]
 .rfl
theorem gD:∀(f n:Nat),1<=n->su K p n->∃m,go (eZ K) (kas_asc p f n)=m/\n<=m/\m<=n+f/\su K p m/\(m=n+f\/kI K p m<kI K p (m-1))
 | 0,n,_,hs=>⟨n,rfl,by ext,by ext,hs,.inl rfl⟩
 | f+1,n,hn,hs=>by
  unfold kas_asc
  show ∃m,go (eZ K) (if decide (kI K p n<kI K p (n-1))=true then .ret n else kas_asc p f (n+1))=m/\_
  by_cases c:kI K p n<kI K p (n-1)
  .rw [if_pos (decide_eq_true c)]
   exact ⟨n,rfl,by ext,by ext,hs,.inr c⟩
  .rw [if_neg (by simpa using c)]
   obtain ⟨m,e,m1,m2,m3,m4⟩:=gD f (n+1) (by ext) λi j cR hj=>by
    by_cases d:j<n
    .exact hs i j cR d
    .obtain rfl:j=n:=by ext hj d
     by_cases d2:i=j
     .subst d2;exact cU _
     .have:=hs i (j-1) (by ext cR d2) (by ext hn);ext c this
   exact ⟨m,e,by ext m1,by ext m2,m3,m4.elim (λz=>.inl (by ext z)) .inr⟩
theorem desc:∀(f:Nat) (p:Array Nat) (n q:Nat),1<=n->n+f<=p.size->CI K p n->q+1<=n->(∀i,n-(q+1)<=i->i<n->kI K p i=kI K p (n-1)) ->
  ∃p' m q',go (eZ K) (tu f p n q)=(p',m,q')/\p'.Perm p/\n<=m/\m<=n+f/\CI K p' m/\q'+1<=m/\∀i,m-(q'+1)<=i->i<m->kI K p' i=kI K p' (m-1)
 | 0,p,n,q,_,_,hs,hq,he=>⟨p,n,q,rfl,tz _,by ext,by ext,hs,hq,he⟩
 | f+1,p,n,q,hn,hz,hs,hq,he=>by
  have next:∀p':Array Nat,(∀k,kI K p' k=kI K p k)->kI K p n<=kI K p (n-1)->CI K p' (n+1):=λp' hk hl i j cR hj=>by
   rw [hk,hk]
   by_cases d:j<n
   .exact hs i j cR d
   .obtain rfl:j=n:=by ext hj d
    by_cases d2:i=j
    .subst d2;exact cU _
    .have:=hs i (j-1) (by ext cR d2) (by ext hn);ext hl this
  unfold tu
  show ∃p' m q',go (eZ K) (if decide (kI K p n<kI K p (n-1))=true then (if q>0 then tu f (m9 p (n-(q+1)) n) (n+1) 0 else tu f p (n+1) 0) else .ask (p.getD (n-1) 0) (p.getD n 0) λd=>if d=true then .ret (p,n,q) else tu f p (n+1) (q+1))=(p',m,q')/\_
  by_cases c:kI K p n<kI K p (n-1)
  .rw [if_pos (decide_eq_true c)]
   by_cases cq:q>0
   .rw [if_pos cq]
    obtain ⟨p',m,q',e,k1,k2,k3,k4,k5,k6⟩:=desc f (m9 p (n-(q+1)) n) (n+1) 0 (by ext) (by unfold m9;rw [DT];ext hz) (next _ (BL (by ext hz) he) (by ext c)) (by ext) λi h1 h2=>by congr 1;ext h1 h2
    exact ⟨p',m,q',e,k1.trans (rC _ _ _ _),by ext k2,by ext k3,k4,k5,k6⟩
   .rw [if_neg cq]
    obtain ⟨p',m,q',e,k1,k2,k3,k4,k5,k6⟩:=desc f p (n+1) 0 (by ext) (by ext hz) (next _ (λ_=>rfl) (by ext c)) (by ext) λi h1 h2=>by congr 1;ext h1 h2
    exact ⟨p',m,q',e,k1,by ext k2,by ext k3,k4,k5,k6⟩
  .rw [if_neg (by simpa using c)]
   show ∃p' m q',go (eZ K) (if decide (kI K p (n-1)<kI K p n)=true then .ret (p,n,q) else tu f p (n+1) (q+1))=(p',m,q')/\_
   by_cases c2:kI K p (n-1)<kI K p n
   .rw [if_pos (decide_eq_true c2)]
    exact ⟨p,n,q,rfl,tz _,by ext,by ext,hs,hq,he⟩
   .rw [if_neg (by simpa using c2)]
    have heq:kI K p n=kI K p (n-1):=by ext c c2
    obtain ⟨p',m,q',e,k1,k2,k3,k4,k5,k6⟩:=desc f p (n+1) (q+1) (by ext) (by ext hz) (next _ (λ_=>rfl) (by ext c2)) (by ext hq) λi h1 h2=>by
     rw [show n+1-1=n by ext]
     by_cases d:i=n
     .subst d;rfl
     .rw [heq];exact he i (by ext h1) (by ext h2 d)
    exact ⟨p',m,q',e,k1,by ext k2,by ext k3,k4,k5,k6⟩
theorem PJ(h1:1<=n)(hn:n<=nrem)(hz:nrem<=p.size)(hs:CI K p n):∃m p',go (eZ K) (kas_tail3 n nrem p)=(m,p')/\p'.Perm p/\1<=m/\m<=nrem/\su K p' m:=by
 unfold kas_tail3
 rw [xl]
 obtain ⟨m,e,m1,m2,m3,_⟩:=gD (K:=K) (p:=m9 p 0 n) (nrem-n) n h1 λi j cR hj=>by
  unfold m9
  rw [Ka (by ext hn hz),Ka (by ext hn hz),if_pos (by ext cR hj),if_pos (by ext hj)]
  exact hs _ _ (by ext cR) (by ext hj)
 rw [e]
 exact ⟨m,_,rfl,rC _ _ _ _,by ext h1 m1,by ext hn m2,m3⟩
theorem O1(hn:n+1<=nrem)(hz:nrem<=p.size)(hs:CI K p (n+1)):∃m p',go (eZ K) (A4 n nrem p)=(m,p')/\p'.Perm p/\1<=m/\m<=nrem/\su K p' m:=by
 unfold A4
 rw [xl]
 obtain ⟨p',m,q',e,k1,k2,k3,k4,k5,k6⟩:=desc (K:=K) (nrem-(n+1)) p (n+1) 0 (by ext) (by ext hn hz) hs (by ext) λi h1 h2=>by congr 1;ext h1 h2
 have wo:p'.size=p.size:=k1.size_eq
 rw [e]
 dsimp only
 by_cases c:q'>0
 .rw [if_pos c]
  obtain ⟨a,b,e2,j1,j2,j3,j4⟩:=PJ (K:=K) (p:=m9 p' (m-(q'+1)) m) (n:=m) (nrem:=nrem) (by ext k5) (by ext hn k3) (by unfold m9;rw [DT];ext hz wo) λi j cR hj=>by
   unfold m9
   rw [BL (by ext hn hz k3 wo) k6,BL (by ext hn hz k3 wo) k6]
   exact k4 i j cR hj
  exact ⟨a,b,e2,j1.trans ((rC _ _ _ _).trans k1),j2,j3,j4⟩
 .rw [if_neg c]
  obtain ⟨a,b,e2,j1,j2,j3,j4⟩:=PJ (K:=K) (p:=p') (n:=m) (nrem:=nrem) (by ext k5) (by ext hn k3) (by ext hz wo) k4
  exact ⟨a,b,e2,j1.trans k1,j2,j3,j4⟩
theorem cnt(h1:1<=nrem)(hz:nrem<=p.size):∃m p',go (eZ K) (kas_count nrem p)=(m,p')/\p'.Perm p/\1<=m/\m<=nrem/\su K p' m:=by
 unfold kas_count
 rw [xl]
 obtain ⟨n,e,n1,n2,n3,n4⟩:=gD (K:=K) (p:=p) (nrem-1) 1 (by ext) λi j cR hj=>by
  obtain rfl:i=j:=by ext cR hj
  exact cU _
 rw [e]
 by_cases c:n=nrem
 .rw [if_pos (by simpa using c)]
  exact ⟨n,p,rfl,tz _,n1,by ext c,n3⟩
 rw [if_neg (by simpa using c)]
 have aT:kI K p n<kI K p (n-1):=n4.resolve_left (by ext h1 c)
 by_cases c2:n>1
 .rw [if_pos c2]
  show ∃m p',go (eZ K) (if decide (kI K p 0<kI K p (n-1))=true then .ret (n,p) else A4 n nrem (m9 p 0 n))=(m,p')/\_
  by_cases c3:kI K p 0<kI K p (n-1)
  .rw [if_pos (decide_eq_true c3)]
   exact ⟨n,p,rfl,tz _,n1,by ext h1 n2,n3⟩
  .rw [if_neg (by simpa using c3)]
   have jA:∀k,0<=k->k<n->kI K p k=kI K p (n-1):=λk _ hk=>by
    have:=n3 0 k (by ext) hk
    have:=n3 k (n-1) (by ext hk) (by ext c2)
    lia
   obtain ⟨a,b,e2,j1,j2,j3,j4⟩:=O1 (K:=K) (p:=m9 p 0 n) (n:=n) (nrem:=nrem) (by ext h1 n2 c) (by unfold m9;rw [DT];ext hz) λi j cR hj=>by
    unfold m9
    rw [BL (by ext h1 hz n2) jA,BL (by ext h1 hz n2) jA]
    by_cases d:j<n
    .rw [jA i (by ext) (by ext cR d),jA j (by ext) d];exact cU _
    .obtain rfl:j=n:=by ext hj d
     by_cases d2:i=j
     .subst d2;exact cU _
     .rw [jA i (by ext) (by ext cR d2)];ext aT
   exact ⟨a,b,e2,j1.trans (rC _ _ _ _),j2,j3,j4⟩
 .rw [if_neg c2]
  obtain rfl:n=1:=by ext n1 c2
  exact O1 (K:=K) (by ext h1 c) hz λi j cR hj=>by
   by_cases d:i=j
   .subst d;exact cU _
   .obtain ⟨rfl,rfl⟩:i=0/\j=1:=by ext cR hj d
    exact A5 aT
theorem Kd(hs:su K p k):∀(f l r:Nat),l<=r->r<=k->r-l<=f->(∀i,i<l->kI K p i<=kI K p k)->(∀i,r<=i->i<k->kI K p k<kI K p i) ->
  ∃m,go (eZ K) (wB p k f l r)=m/\m<=k/\(∀i,i<m->kI K p i<=kI K p k)/\∀i,m<=i->i<k->kI K p k<kI K p i
 | 0,l,r,h1,h2,h3,h4,h5=>by
  obtain rfl:l=r:=by ext h1 h3
  exact ⟨l,rfl,h2,h4,h5⟩
 | f+1,l,r,h1,h2,h3,h4,h5=>by
  unfold wB
  by_cases c:l≥r
  .rw [if_pos c]
   obtain rfl:l=r:=by ext h1 c
   exact ⟨l,rfl,h2,h4,h5⟩
  .rw [if_neg c]
   show ∃m,go (eZ K) (if decide (kI K p k<kI K p ((l+r)/2))=true then wB p k f l ((l+r)/2) else wB p k f ((l+r)/2+1) r)=m/\_
   by_cases c2:kI K p k<kI K p ((l+r)/2)
   .rw [if_pos (decide_eq_true c2)]
    exact Kd hs f l _ (by lia) (by lia) (by lia) h4 λi z1 z2=>by
     have:=hs ((l+r)/2) i z1 z2;ext c2 this
   .rw [if_neg (by simpa using c2)]
    exact Kd hs f _ r (by lia) (by ext h2) (by lia) (λi z=>by
     have:=hs i ((l+r)/2) (by ext z) (by lia);ext c2 this) h5
theorem bin:∀(f:Nat) (p:Array Nat) (k:Nat),1<=k->k+f<=p.size->su K p k->∃p',go (eZ K) (kas_bin f p k)=p'/\p'.Perm p/\su K p' (k+f)
 | 0,p,k,_,_,hs=>⟨p,rfl,tz _,hs⟩
 | f+1,p,k,hk,hz,hs=>by
  unfold kas_bin
  rw [xl]
  obtain ⟨l,e,l1,l2,l3⟩:=Kd (K:=K) hs k 0 k (by ext) (by ext) (by ext) (λi z=>by ext z) λi z1 z2=>by ext z1 z2
  rw [e]
  have hb:=getElem?_bubble (xs:=p) (src:=k) (by ext hz) (k-l) (by ext)
  rw [show k-(k-l)=l by ext l1] at hb
  have kb:∀m,kI K (bubble p k (k-l)) m=if m=l then kI K p k else if l<m/\m<=k then kI K p (m-1) else kI K p m:=λm=>by
   have e:=hb m
   by_cases c1:m=l
   .rw [if_pos c1] at e ⊢;exact Bn e
   .rw [if_neg c1] at e ⊢
    by_cases c2:l<m/\m<=k
    .rw [if_pos c2] at e ⊢;exact Bn e
    .rw [if_neg c2] at e ⊢;exact Bn e
  obtain ⟨p',e',j1,j2⟩:=bin f (bubble p k (k-l)) (k+1) (by ext) (by rw [bubble_size];ext hz) λi j cR hj=>by
   rw [kb,kb]
   repeat' split
   all_goals first
    | (exfalso;lia)
    | exact cU _
    | exact l2 _ (by lia)
    | exact A5 (l3 _ (by lia) (by lia))
    | exact hs _ _ (by lia) (by lia)
  exact ⟨p',e',j1.trans (bubble_perm _ _ _),by rw [show k+(f+1)=k+1+f by ext];exact j2⟩
noncomputable def ord(K:Nat->Int)(n:Nat):List Nat:=(go (eZ K) (AR n)).toList
theorem cG(K:Nat->Int)(n:Nat)(h:1<=n):(ord K n).Perm (eH n)/\(ord K n).Pairwise λi j=>K i<=K j:=by
 have key:∃p',go (eZ K) (AR n)=p'/\p'.Perm (IU (eH n))/\su K p' n:=by
  unfold AR
  rw [xl]
  obtain ⟨m,p,e,k1,k2,k3,k4⟩:=cnt (K:=K) (p:=IU (eH n)) (nrem:=n) h (by simp)
  rw [e]
  dsimp only
  have hz:p.size=n:=by rw [k1.size_eq];simp
  by_cases c:m<n
  .rw [if_pos c]
   obtain ⟨p',e',j1,j2⟩:=bin (K:=K) (n-max m 1) p (max m 1) (by ext) (by ext hz c) (by rw [show max m 1=m by ext k2];exact k4)
   exact ⟨p',e',j1.trans k1,by rw [show max m 1+(n-max m 1)=n by ext c] at j2;exact j2⟩
  .rw [if_neg c]
   obtain rfl:m=n:=by ext k3 c
   exact ⟨p,rfl,k1,k4⟩
 obtain ⟨p,e,k1,k2⟩:=key
 unfold ord
 rw [e]
 refine ⟨wU.mp k1,wR.mpr λi j hi hj cR=>?_⟩
 have hz:p.size=n:=by rw [k1.size_eq];simp
 simp only [gP] at hi hj
 have:=k2 i j (by ext cR) (by ext hj hz)
 unfold kI at this
 simpa [hi,hj] using this
end
end KS
namespace KS
open PySem PySem.W PyProof.Rows
noncomputable def Ok{α:Type}(n:Nat)(R:α->Prop):KasT α->Prop
 | .ret a=>R a
 | .ask i j k=>i<n/\j<n/\∀b,Ok n R (k b)
theorem Ok.bind{α β:Type}{n:Nat}{R:α->Prop}{S:β->Prop}{f:α->KasT β}(hf:∀a,R a->Ok n S (f a)):∀{t:KasT α},Ok n R t->Ok n S (t.bind f)
 | .ret a,h=>hf a h
 | .ask i j k,h=>⟨h.1,h.2.1,λb=>Ok.bind hf (h.2.2 b)⟩
theorem sC{α:Type}{n:Nat}{cm:Nat->Nat->(Bool->Shared->Prop)->Shared->Prop}{cmp:Nat->Nat->Bool}{s:Shared}(h:∀i j,i<n->j<n->∀Q,Q (cmp i j) s->cm i j Q s){R:α->Prop}{Q:α->Shared->Prop}:∀{t:KasT α},Ok n R t->Q (go cmp t) s->t.kasWp cm Q s
 | .ret _,_,q=>q
 | .ask i j k,o,q=>h i j o.1 o.2.1 _ (sC h (o.2.2 (cmp i j)) q)
section
variable {n:Nat}
def En(n:Nat)(p:Array Nat):Prop:=∀k,p.getD k 0<n
theorem En.perm(h0:0<n)(h:En n p)(e:q.Perm p):En n q:=λk=>by
 by_cases hk:k<q.size
 .have hm:q[k]∈p.toList:=(wU.mp e).mem_iff.mp (by simp)
  obtain ⟨i,hi,e2⟩:=oG.mp hm
  have:=h i
  rw [gP] at hi
  simp only [Dy,hi,hk,dite_true] at this ⊢
  simp at e2
  have e3:q[k]=p[i]:=e2.symm
  show q[k]<n
  rw [e3]
  exact this
 .simp [Dy,hk,h0]
theorem JZ{p:Array Nat}(h:En n p):∀f m,Ok n (λ_=>True) (kas_asc p f m)
 | 0,m=>trivial
 | f+1,m=>by
  unfold kas_asc
  refine ⟨h _,h _,λb=>?_⟩
  dsimp only
  split
  .trivial
  .exact JZ h f (m+1)
theorem E4(h0:0<n):∀f (p:Array Nat) m q,En n p->Ok n (λr=>En n r.1) (tu f p m q)
 | 0,p,m,q,h=>h
 | f+1,p,m,q,h=>by
  unfold tu
  refine ⟨h _,h _,λb=>?_⟩
  dsimp only
  split
  .split
   .exact E4 h0 f _ _ _ (h.perm h0 (rC _ _ _ _))
   .exact E4 h0 f _ _ _ h
  .refine ⟨h _,h _,λb=>?_⟩
   dsimp only
   split
   .exact h
   .exact E4 h0 f _ _ _ h
theorem QG(h0:0<n)(h:En n p)(a b:Nat):Ok n (λr=>En n r.2) (kas_tail3 a b p):=by
 unfold kas_tail3
 have e:En n (m9 p 0 a):=h.perm h0 (rC _ _ _ _)
 exact (JZ e _ _).bind λm _=>(show Ok n (λr:Nat×Array Nat=>En n r.2) (.ret (m,m9 p 0 a)) from e)
theorem QF(h0:0<n)(h:En n p)(a b:Nat):Ok n (λr=>En n r.2) (A4 a b p):=by
 unfold A4
 refine (E4 h0 _ _ _ _ h).bind λr hr=>?_
 split
 .exact QG h0 (hr.perm h0 (rC _ _ _ _)) _ _
 .exact QG h0 hr _ _
theorem b3i(h0:0<n)(h:En n p)(b:Nat):Ok n (λr=>En n r.2) (kas_count b p):=by
 unfold kas_count
 refine (JZ h _ _).bind λm _=>?_
 split
 .exact h
 .split
  .refine ⟨h _,h _,λb=>?_⟩
   dsimp only
   split
   .exact h
   .exact QF h0 (h.perm h0 (rC _ _ _ _)) _ _
  .exact QF h0 h _ _
theorem K3{p:Array Nat}(h:En n p)(k:Nat):∀f l r,Ok n (λ_=>True) (wB p k f l r)
 | 0,l,r=>trivial
 | f+1,l,r=>by
  unfold wB
  split
  .trivial
  .refine ⟨h _,h _,λb=>?_⟩
   dsimp only
   split
   .exact K3 h k f _ _
   .exact K3 h k f _ _
theorem Pp(h0:0<n):∀f (p:Array Nat) k,En n p->Ok n (λ_=>True) (kas_bin f p k)
 | 0,p,k,h=>trivial
 | f+1,p,k,h=>by
  unfold kas_bin
  exact (K3 h k _ _ _).bind λl _=>Pp h0 f _ _ (h.perm h0 (bubble_perm _ _ _))
theorem qU(h0:0<n):Ok n (λ_=>True) (AR n):=by
 unfold AR
 have e:En n (IU (eH n)):=λk=>by
  by_cases hk:k<n
  .simp [Dy,hk]
  .simp [Dy,hk,h0]
 refine (b3i h0 e n).bind λr hr=>?_
 split
 .exact Pp h0 _ _ _ hr
 .trivial
end
end KS
namespace PT
open PySem PySem.W PyProof.Rows
section
variable {prog:Program}{w:World}{A:Around}{E:Value->Shared->Prop}{s:Shared}
end
end PT
namespace DL
open PySem PySem.Spec PyProof.Rows L2
section
variable {X:Cx}
end
end DL
namespace DL
open PySem PySem.W PySem.Spec PyProof.Rows L2
theorem Fx.sw{X:Cx}{N:List Str}{sc:Scope}{k:Nat}{full:Bool}(h:Fx X N sc k full){x:Str}{l:Nat}(h1:(sc.names.lookup x==some .local)=false):swapsWith (.ListComp elt gs cD pos) (some (.Name x pos')) l X.env=pure false:=by
 have sS:X.env.kindOf x=sc.names.lookup x:=by unfold DA;rw [h.sc]
 unfold swapsWith
 dsimp only
 rw [sS,h1,Bool.and_false,Jj,Jj]
noncomputable def bA{α:Type}(kz:List Int)(d:α)(vs:List α):List α:=if vs.length<2 then vs else (KS.ord (λi=>kz.getD i 0) vs.length).map λi=>vs.getD i d
theorem Lx{α:Type}(kz:List Int)(d:α)(vs:List α):(bA kz d vs).Perm vs:=by
 unfold bA
 split
 .exact AY _
 .rename_i hn
  have h:=(KS.cG (λi=>kz.getD i 0) vs.length (by ext hn)).1.map λi=>vs.getD i d
  refine h.trans ?_
  have:(eH vs.length).map (λi=>vs.getD i d)=vs:=by
   refine D9 (by simp) λi h1 h2=>?_
   simp at h1
   simp [h1]
  rw [this]
theorem K6:∀{xs:List V} {vs:List Value},au xs vs->∀i (h1:i<xs.length) (h2:i<vs.length),RelV xs[i] vs[i]
 | _::_,_::_,.cons a b,0,_,_=>a
 | _::_,_::_,.cons a b,i+1,h1,h2=>K6 b i (by simpa using h1) (by simpa using h2)
theorem KR{K:aA}{O:Addr->Prop}{H:Hp}:∀{xs:List V} {ds:List D},aK K O H xs ds->∀i (h1:i<xs.length) (h2:i<ds.length),Is K O H xs[i] ds[i]
 | _::_,_::_,.cons a b,0,_,_=>a
 | _::_,_::_,.cons a b,i+1,h1,h2=>KR b i (by simpa using h1) (by simpa using h2)
theorem ints_get:∀{vs:List Value} {ns:List Int},IntsAre vs ns->∀i,i<vs.length->∃t,vs.getD i fW=.int (ns.getD i 0) t
 | _,_,.cons n t h,0,_=>⟨t,rfl⟩
 | _,_,.cons n t h,i+1,hi=>by
  obtain ⟨t',e⟩:=ints_get h i (by simpa using hi)
  exact ⟨t',by simpa using e⟩
theorem b3d(rv:au xs vs)(hl:vs.length=xs.length):au (bA kz (.int 0) xs) (bA kz fW vs):=by
 unfold bA
 by_cases h2:xs.length<2
 .rw [if_pos h2,if_pos (by ext hl h2:1)];exact rv
 rw [if_neg h2,if_neg (by ext hl h2:1),hl]
 have hm:∀i∈KS.ord (λi=>kz.getD i 0) xs.length,i<xs.length:=λi hi=>oJ.mp ((KS.cG (λi=>kz.getD i 0) xs.length (by ext h2:1)).1.mem_iff.mp hi)
 generalize KS.ord (λi=>kz.getD i 0) xs.length=os at *
 induction os with
 | nil=>exact .nil
 | cons i os ih =>
  have hi:=hm i (bK ..)
  refine .cons ?_ (ih λj hj=>hm j (bW _ hj))
  have:=K6 rv i hi (by ext hl hi:1)
  simpa [hi,show i<vs.length by ext hl hi:1] using this
section
variable {X:Cx}{pins:List (Addr×Obj)}{s:Shared}{σ:L2.St}{H:Hp}
theorem zo{α β:Type}{c:Prop}[Decidable c]{M:Model}{A:Around}{a b:Sem α}{f:α->Sem β}{Q:β->Shared->Prop}{E:Value->Shared->Prop}{s:Shared}(h:wpAny M A ((if c then a else b) >>= f) Q E s):wpAny M A (if c then a >>= f else b >>= f) Q E s:=by
 by_cases hc:c
 .rw [if_pos hc] at h ⊢;exact h
 .rw [if_neg hc] at h ⊢;exact h
theorem Rv{k:Nat}{f it:Addr}(hr:bp (k+1) X.A)(I:Inv X pins σ H s){xs:List V}{kz:List Int}(ji:kz.length=xs.length)(de:xs.length<64)
  (HL:∀{A':Around} {Q':List Value->Shared->Prop} {E':Value->Shared->Prop},A'.handled=X.A.handled->(∀h' tk vs,(∀b o,s.heap.get? b=some o->h'.get? b=some o)->s.heap.objs.size<=h'.objs.size->au xs vs->Q' vs { s with heap:=h',toks:=tk })->wpAny (model X.prog X.w) A' (collect (.ref it)) Q' E' s)
  (Hz:∀(H1:Hp) (s1:Shared) (j:Nat) (v:Value) (x:V),Inv X pins σ H1 s1->aq H H1->RelV x v->xs[j]?=some x->wpAny (model X.prog X.w) X.A.in1.in1 (call (.ref f) [v]) (λu s'=>∃t H',u=.int (kz.getD j 0) t/\Inv X pins σ H' s'/\aq H1 H'/\∀b o,s1.heap.get? b=some o->cV X pins H1 b->s'.heap.get? b=some o/\cV X pins H' b) (λ_ _=>False) s1)
  {Q:VK}(q:∀a H',aq H H'->H' a=none->Q (.ref a) (upd H' a (.lst (bA kz (.int 0) xs)))):
  wpAny (model X.prog X.w) X.A (call (.builtin "sorted") [.ref it] [(qt "key",.ref f)]) (EP X pins σ Q) X.xe s:=by
 refine call_function_entry_kw kind_sorted plain_sorted entry_sorted (ksk_s1 _ _) ?_
 unfold Builtin.«sorted»
 refine ar (m:=checkCount "sorted" 1 1 _) (aZ (ar (HL rfl λhC xY vs kC zC rv=>?_)))
 have rf:vs.length=xs.length:=rv.length.symm
 have hZ:vs.length<=sizeLine:=by rw [iY];ext de rf:1
 refine ar (DE ?_ hZ)
 obtain ⟨hL,AF⟩:∃hL,hL=hC.push (seqObj "list" vs.toArray 0):=⟨_,rfl⟩
 have gL:hL.get? hC.objs.size=some (seqObj "list" vs.toArray 0):=by rw [AF];exact eG _ rfl
 have zL:hL.objs.size=hC.objs.size+1:=by rw [AF,Dz]
 have kL:∀b o,s.heap.get? b=some o->hL.get? b=some o:=λb o e=>by rw [AF];exact bI _ (kC b o e)
 show wpAny _ _ _ _ _ { s with heap:=hC.push (seqObj "list" vs.toArray 0),toks:=xY }
 rw [<-AF]
 clear AF kC
 generalize ha:hC.objs.size=a at *
 refine ar (pO (wpAny_call_entry_kw slot_list_sort ⟨_,gL,rfl⟩ entry_list_sort ?_ (ksk_l1 _ _)))
 show wpAny (model X.prog X.w) X.A.in1.in1 (Builtin.«list.sort» ⟨[.ref a],[(qt "key",.ref f)]⟩) _ _ _
 rw [ksk_t1]
 unfold ksk_tree
 have fa:cV X pins H a:=I.jC (by ext zC:1) (I.aY.fresh (by ext zC:1))
 refine ar (wD gL rfl (ar (wH gL rfl ?_ (by rw [dM];exact hZ) (nv _))))
 obtain ⟨c1,g1⟩:∃c1,(hL.update a (fD λ_=>(#[]:Array Value))).get? a=some (seqObj "list" #[] c1):=⟨_,D2 gL λ_=>#[]⟩
 obtain ⟨hU,eU⟩:∃hU,hU=hL.update a (fD λ_=>(#[]:Array Value)):=⟨_,rfl⟩
 rw [<-eU] at g1
 have zU:hU.objs.size=a+1:=by rw [eU,IX,zL]
 have kU:∀b o,s.heap.get? b=some o->hU.get? b=some o:=λb o e=>by
  have aT:b<s.heap.objs.size:=bJ e
  rw [eU,wL _ _ _ _ (dE (jl aT zC))]
  exact kL b o e
 show wpAny _ _ _ _ _ { s with toks:=xY,heap:=hL.update a (fD λ_=>(#[]:Array Value)) }
 rw [<-eU]
 clear eU kL gL zL
 refine ar (DC g1 rfl (ar (Ji (ar (DE (pO ?_) (nv _))) (by show vs.toArray.size<=_;rw [dM];exact hZ))))
 obtain ⟨hK,eK⟩:∃hK,hK=(hU.push (seqObj "tuple" vs.toArray 0)).push (seqObj "list" #[] 0):=⟨_,rfl⟩
 have zT:(hU.push (seqObj "tuple" vs.toArray 0)).objs.size=a+2:=by rw [Dz,zU]
 have gK:hK.get? (a+2)=some (seqObj "list" #[] 0):=by rw [eK,<-zT];exact eG _ rfl
 have gA:hK.get? a=some (seqObj "list" #[] c1):=by rw [eK];exact bI _ (bI _ g1)
 have kK:∀b o,s.heap.get? b=some o->hK.get? b=some o:=λb o e=>by rw [eK];exact bI _ (bI _ (kU b o e))
 show wpAny _ _ _ _ _ { s with toks:=xY,heap:=(hU.push (seqObj "tuple" vs.toArray 0)).push (seqObj "list" #[] 0) }
 rw [<-eK]
 show wpAny _ _ (ksk_rest a (.ref f) false vs.toArray c1 (.ref (hU.push (seqObj "tuple" vs.toArray 0)).objs.size)) _ _ _
 rw [zT]
 clear eK zT g1 kU zU
 generalize hk:a+2=kS at *
 have fk:cV X pins H kS:=I.jC (by ext zC hk:1) (I.aY.fresh (by ext zC hk:1))
 have Ng:kS≠a:=by ext hk:1
 have I3:Inv X pins σ H { s with toks:=xY,heap:=hK }:=I.kept (t':=xY) kK
 unfold ksk_rest
 refine ar (vd ?_)
 rw [List.forIn_toArray]
 refine ar (ksk_fold (λi s'=>∃H' kA c,Inv X pins σ H' s'/\aq H H'/\cV X pins H' kS/\cV X pins H' a/\s'.heap.get? kS=some (seqObj "list" kA c)/\s'.heap.get? a=some (seqObj "list" #[] c1)/\IntsAre kA.toList (kz.take i)) vs 0 _ ⟨H,#[],0,I3,aq.refl _,fk,fa,gK,gA,.nil⟩ (λj x s' hj hI=>?_) λs' hI=>?_)
 .obtain ⟨H1,kA,c,I1,sm,f1,f2,g3,g4,ia⟩:=hI
  rw [rE] at ia ⊢
  obtain ⟨zZ,XA⟩:=iu.mp hj
  have NK:j<xs.length:=by ext rf zZ:1
  have rx:RelV xs[j] x:=by rw [<-XA];exact K6 rv j NK zZ
  obtain ⟨kv,N2⟩:∃kv,kv=kz.getD j 0:=⟨_,rfl⟩
  have ek:kz.take (j+1)=kz.take j++[kv]:=by rw [List.take_succ,mx (by ext ji rf zZ:1),N2];simp [show j<kz.length by ext ji rf zZ:1]
  have ck:=Hz H1 s' j x xs[j] I1 sm rx (mx NK)
  rw [<-N2] at ck
  refine ar (A3 (jG ck (λu s2 he=>?_) λ_ _ z=>z.elim))
  .obtain ⟨t,H2,rfl,I2,Tc,kp⟩:=he
   dsimp only
   obtain ⟨g5,f5⟩:=kp kS _ g3 f1
   obtain ⟨g6,f6⟩:=kp a _ g4 f2
   have hz:kA.size<=64:=by
    have:=ia.length
    rw [gP,iZ] at this
    ext de rf zZ this:1
   refine ar (wH g5 rfl (aZ ⟨rfl,?_⟩) (by rw [iY];ext hz:1) (by rw [Array.size_push,iY];ext hz:1))
   obtain ⟨c2,g7⟩:∃c2,(s2.heap.update kS (fD (·.push (.int kv t)))).get? kS=some (seqObj "list" (kA.push (.int kv t)) c2):=⟨_,D2 g5 (·.push (.int kv t))⟩
   have Nm:∀b o,b∉[kS]->s2.heap.get? b=some o->(s2.heap.update kS (fD (·.push (.int kv t)))).get? b=some o:=λb o hb e=>by
    rw [wL _ _ _ _ (by simpa using hb)]
    exact e
   refine ⟨H2,kA.push (.int kv t),c2,xk (ch:=[kS]) (t':=s2.toks) I2 (λb hb=>by rw [bU.mp hb];exact f5) Nm,sm.trans Tc,f5,f6,g7,Nm a _ (by simpa using Ng.symm) g6,?_⟩
   rw [ek,show (kA.push (jk kv t)).toList=kA.toList++[jk kv t] by simp]
   exact ksk_snoc ia
 .obtain ⟨H1,kA,c,I1,sm,f1,f2,g3,g4,ia⟩:=hI
  have jh:IntsAre kA.toList kz:=by rw [rE,rf,<-ji,List.take_length] at ia;exact ia
  have zR:kA.toList.length=vs.length:=by rw [jh.length,ji,rf]
  have HA:kA.size=vs.length:=by rw [<-gP];exact zR
  refine ar (wD g3 rfl ?_)
  unfold ksk_end
  dsimp only
  rw [if_neg (by decide)]
  have runK:∀{E:Value->Shared->Prop},wpAny (model X.prog X.w) X.A.in1.in1 (if vs.toArray.size<2 then pure general' else keyKind' kA) (λkind s2=>s2=s'/\wpAny (model X.prog X.w) X.A.in1.in1 ((if vs.toArray.size<2 then pure () else sortRuns').run (AX kind (if false=true then (kA.zip vs.toArray).reverse else kA.zip vs.toArray) #[] 7 none)) (λr s2=>s2=s'/\(arrOf r.2).map (·.2)=(bA kz fW vs).toArray/\failedOf r.2=none) E s') E s':=λ{E}=>by
   rw [if_neg (show ¬(false=true) by decide)]
   by_cases h2:vs.length<2
   .rw [if_pos (by simpa using h2),if_pos (by simpa using h2)]
    refine aZ ⟨rfl,aZ ⟨rfl,?_,rfl⟩⟩
    show (kA.zip vs.toArray).map (·.2)=_
    rw [show bA kz fW vs=vs by unfold bA;rw [if_pos h2],Array.map_snd_zip (by simp;ext HA:1)]
   rw [if_neg (by simpa using h2),if_neg (by simpa using h2),ksk_kind jh (by ext HA h2:1)]
   refine aZ ⟨rfl,?_⟩
   have:=kat_run (prog:=X.prog) (w:=X.w) (A:=X.A.in1.in1) (E:=E) (s:=s') (ks:=kA.toList) (vs:=vs) (κ:=oneType') (Q:=λak s2=>s2=s'/\(arrOf ak).map (·.2)=(bA kz fW vs).toArray/\failedOf ak=none) (G:=λp s2=>s2=s'/\p.toList=KS.ord (λi=>kz.getD i 0) vs.length) zR (by ext h2:1) (by ext de rf:1) (λp ak s2 hz ha hf hp=>⟨hp.1,by
    rw [kat_snds zR ha,hp.2]
    unfold bA
    rw [if_neg (by ext h2:1)],hf⟩) (KS.sC (n:=vs.length) (cmp:=KS.eZ λi=>kz.getD i 0) (λi j hi hj C hC=>by
     unfold kas_ask
     obtain ⟨t1,e1⟩:=ints_get jh i (by ext zR hi:1)
     obtain ⟨t2,e2⟩:=ints_get jh j (by ext zR hj:1)
     rw [e1,e2]
     exact kat_lt_int hC) (KS.qU (by ext h2:1)) ⟨rfl,rfl⟩)
   rw [Array.toArray_toList] at this
   exact this
  refine zo (ar (jG runK (λkind s2 hq=>?_) λ_ _ e=>e))
  obtain ⟨rfl,run⟩:=hq
  refine ar (jG run ?_ λ_ _ e=>e)
  rintro ⟨⟨⟩,ak⟩ s2 ⟨rfl,hp,hf⟩
  dsimp only at hp hf ⊢
  unfold ksk_tail
  dsimp only
  rw [hp,hf]
  have jx:(bA kz fW vs).toArray.size=vs.length:=by rw [dM];exact (Lx kz _ vs).length_eq
  generalize XY:(bA kz fW vs).toArray=out at *
  have Wq:∀b o,b∉[kS,a]->s2.heap.get? b=some o->(s2.heap.update kS (fD λ_=>(#[]:Array Value))).get? b=some o:=λb o hb e=>by
   rw [wL _ _ _ _ (by simp at hb;exact hb.1)]
   exact e
  have g5:(s2.heap.update kS (fD λ_=>(#[]:Array Value))).get? a=some (seqObj "list" #[] c1):=by
   rw [wL _ _ _ _ Ng.symm]
   exact g4
  refine ar (wH g3 rfl (ar (tF (ar (DC g5 rfl (ar (wH g5 rfl ?_ (nv _) ?_)))))) (by rw [HA];exact hZ) (nv _))
  .simp only [bne_self_eq_false,rL,if_false]
   obtain ⟨c2,g6⟩:∃c2,((s2.heap.update kS (fD λ_=>(#[]:Array Value))).update a (fD λ_=>out)).get? a=some (seqObj "list" out c2):=⟨_,D2 g5 λ_=>out⟩
   refine aZ ⟨_,rfl,aZ ⟨_,rfl,?_⟩⟩
   have I5:Inv X pins σ H1 { s2 with heap:=(s2.heap.update kS (fD λ_=>(#[]:Array Value))).update a (fD λ_=>out),toks:=s2.toks }:=xk (ch:=[kS,a]) (t':=s2.toks) I1 (λb hb=>by
    rcases bH.mp hb with rfl | hb
    .exact f1
    .rw [bU.mp hb];exact f2) λb o hb e=>by
     rw [wL _ _ _ _ (by simp at hb;exact hb.2)]
     exact Wq b o hb e
   refine ⟨.ref a,_,xW (o:=.lst (bA kz (.int 0) xs)) I5 f2 ⟨by rw [(Lx kz _ xs).length_eq,iY];ext de:1,out.toList,c2,?_,by simpa using g6⟩,rfl,q a H1 sm f2.1⟩
   rw [<-XY]
   exact b3d rv (by ext rf:1)
  .simp only [rL,if_false]
   rw [jx]
   ext hZ:1
theorem b1c(F:bS X.prog X.w X.K X.mg X.base iN k f fd ps (mP X.K ps.length φ))(h1:ps.length=1)(hr:bp (k+1) X.A)(hb:Binds X.K fd ps [])
  (I:Inv X pins σ H s)(hq:Sq X.K H true p xs)(hO:oS X.K O H)(ix:aK X.K O H xs ds)(ek:ds.map (λd=>φ [d])=kz.map λk=>some (.sh (.int k)))(de:xs.length<64)(q:∀a H',aq H H'->H' a=none->Q (.ref a) (upd H' a (.lst (bA kz (.int 0) xs)))):
  wpAny (model X.prog X.w) X.A (call (.builtin "sorted") [.ref p] [(qt "key",.ref f)]) (EP X pins σ Q) X.xe s:=by
 obtain ⟨vs,rv,pl⟩:=oO (b:=true) I hq
 have Hy:ds.length=xs.length:=ix.length.symm
 have ji:kz.length=xs.length:=by have:=congrArg tG ek;rw [bB,bB] at this;ext Hy this
 have Hi:bp k X.A.in1.in1:=⟨hr.hd,by have:=hr.dp;show X.A.depth+3*k+5<_;ext this,by have:=hr.un;show X.A.units+1+1+16*k+200<_;ext this⟩
 refine Rv hr I ji de (λ_ h=>collect_list pl (h _ s.toks vs (λb o e=>?_) ?_ rv) ?_) (λH1 s1 j v x I1 sm rx hx=>?_) q
 .rw [wL _ _ _ _ (dE (bJ e))]
  exact bI _ e
 .rw [IX,Dz];ext
 .have:=rv.length;rw [iY];ext de this
 .obtain ⟨hj,rfl⟩:=iu.mp hx
  have ev:φ [ds[j]]=some (.sh (.int (kz.getD j 0))):=by
   have:=congrArg (λl=>l[j]?) ek
   simp [show j<ds.length by ext Hy hj,show j<kz.length by ext ji hj] at this
   simp [show j<kz.length by ext ji hj,this]
  exact b34 F h1 Hi rfl hb I1 (O:=O) rx (hO.grow sm) ((KR ix j hj (by ext Hy ji hj)).grow sm) ev
noncomputable def kE(φ:List D->Option Sl):List D->Option (List Int)
 | []=>some []
 | d::ds=>match φ [d] with
  | some (.sh (.int k))=>(kE φ ds).map λks=>k::ks
  | _=>none
theorem Qz:∀{ds:List D} {kz:List Int},kE φ ds=some kz->ds.map (λd=>φ [d])=kz.map λk=>some (.sh (.int k))
 | [],kz,h=>by cases h;rfl
 | d::ds,kz,h=>by
  unfold kE at h
  split at h
  .rename_i k e
   obtain ⟨ks,e2,rfl⟩:=map_some h
   rw [fF,fF,e,Qz e2]
  .cases h
noncomputable def b7x(K:aA)(φ:List D->Option Sl)(te:TE):TE:=λσ H Q=>te σ H λxv H1=>∃(O:Addr->Prop) (p:Addr) (xs:List V) (ds:List D) (kz:List Int),xv=.ref p/\Sq K H1 true p xs/\oS K O H1/\aK K O H1 xs ds/\ds.map (λd=>φ [d])=kz.map (λk=>some (.sh (.int k)))/\xs.length<64 /\
 ∀a H',aq H1 H'->H' a=none->Q (.ref a) (upd H' a (.lst (bA kz (.int 0) xs)))
theorem b28{k:Nat}{f:Addr}{fd:FuncData}{ps:List Str}{φ:List D->Option Sl}{e:Expr}{te:TE}{x:Str}{p pos kp np:Pos}(F:bS X.prog X.w X.K X.mg X.base iN k f fd ps (mP X.K ps.length φ))(h1:ps.length=1)(hr:bp (k+1) X.A)(Aa:Gl X x)(Hr:X.mg x=some (.ref f))(hb:Binds X.K fd ps [])
  (hg:Gl X "sorted")(hm:X.mg "sorted" = none)(he:PE X e te)(hs:starEach [e] X.env=[(false,eval e X.env)]:=by rfl)(kH:(x==("__debug__":Str))=false:=by decide):PE X (.Call (.Name "sorted" p) [e] [⟨some "key",.Name x np,kp⟩] pos) (b7x X.K φ te):=by
 intro pins s σ H Q I h
 refine Bd (rW I hg hm boot_sorted ?_)
 refine callWith_builtin_kwB (first:=[]) (by rw [hs];rfl) rfl ?_
 rw [hs]
 refine evalArgs_kwB rfl ?_
 refine JC (a9 (he pins s σ H _ I h) λu s1 ⟨xv,H1,I1,r1,q1⟩=>I9 ?_)
 refine kws_cons (KD I1 Aa Hr (kws_nil ?_) kH)
 obtain ⟨O,p,xs,ds,kz,rfl,hq,hO,ix,ek,de,q⟩:=q1
 cases r1
 exact b1c F h1 hr hb I1 hq hO ix ek de q
noncomputable def qL(φ:List D->Option Sl):D->Option Sl
 | .lst _ ds=>(kE φ ds).bind λkz=>if ds.length<64 then some (.ow (bA kz .aR ds)) else none
 | _=>none
noncomputable def Bx(φ:List D->Option Sl)(f:En->Option Sl):En->Option Sl:=λenv=>(f env).bind λr=>qL φ r.d
theorem QH{K:aA}{O:Addr->Prop}{H:Hp}{kz:List Int}{xs:List V}{ds:List D}(hi:aK K O H xs ds):aK K O H (bA kz (.int 0) xs) (bA kz .aR ds):=by
 have hl:ds.length=xs.length:=hi.length.symm
 unfold bA
 by_cases h2:xs.length<2
 .rw [if_pos h2,if_pos (by ext hl h2:1)];exact hi
 rw [if_neg h2,if_neg (by ext hl h2:1),hl]
 have hm:∀i∈KS.ord (λi=>kz.getD i 0) xs.length,i<xs.length:=λi hi=>oJ.mp ((KS.cG (λi=>kz.getD i 0) xs.length (by ext h2:1)).1.mem_iff.mp hi)
 generalize KS.ord (λi=>kz.getD i 0) xs.length=os at *
 induction os with
 | nil=>exact .nil
 | cons i os ih =>
  have hj:=hm i (bK ..)
  refine .cons ?_ (ih λj hj=>hm j (bW _ hj))
  have:=KR hi i hj (by ext hl hj:1)
  simpa [hj,show i<ds.length by ext hl hj:1] using this
theorem b3J{k:Nat}{f:Addr}{fd:FuncData}{ps:List Str}{φ:List D->Option Sl}{e:Expr}{fa:En->Option Sl}{x:Str}{p pos kp np:Pos}(F:bS X.prog X.w X.K X.mg X.base iN k f fd ps (mP X.K ps.length φ))(h1:ps.length=1)(hr:bp (k+1) X.A)(Aa:Gl X x)(Hr:X.mg x=some (.ref f))(hb:Binds X.K fd ps [])
  (hg:Gl X "sorted")(hm:X.mg "sorted" = none)(he:EV X e fa)(hs:starEach [e] X.env=[(false,eval e X.env)]:=by rfl)(kH:(x==("__debug__":Str))=false:=by decide):EV X (.Call (.Name "sorted" p) [e] [⟨some "key",.Name x np,kp⟩] pos) (Bx φ fa):=by
 obtain ⟨t,pt,kk⟩:=he
 refine ⟨_,b28 F h1 hr Aa Hr hb hg hm pt hs kH,λO B σ H env s Q R e q=>?_⟩
 obtain ⟨r,e1,e2⟩:=bind_some e
 refine kk O B σ H env r _ R e1 λv H1 s1 r1=>?_
 have hi:=r1.is λq=>R.oo
 unfold qL at e2
 split at e2
 .rename_i ro ds hd
  rw [hd] at hi
  obtain ⟨kz,e3,e4⟩:=bind_some e2
  obtain ⟨de,rfl⟩:=iM e4
  obtain ⟨a,xs,rfl,g2,g3⟩:=hi.seq (k:=true) rfl
  have hl:ds.length=xs.length:=g3.length.symm
  refine ⟨OO O σ env,a,xs,ds,kz,rfl,g2,(R.grow s1).dm,g3,Qz e3,by ext de hl,λc H2 s2 hc=>?_⟩
  refine q _ _ ((s1.trans s2).trans (lV hc _)) ((xo hc ?_).from (s1.trans s2))
  exact (QH g3).grow s2
 .cases e2
theorem b2t(e:f env=some (.sh (.lst r ds)))(hk:kE φ ds=some kz)(de:ds.length<64):Wo (Bx φ f env) Q↔Q (.ow (bA kz .aR ds)):=by
 unfold Bx
 rw [e,ni]
 show Wo ((kE φ ds).bind _) Q↔_
 rw [hk,ni,if_pos de,a0g]
end
noncomputable def xR(K:aA)(l:Addr)(n:Nat):It:=
 ⟨λi H=>∃xs x,Sq K H true l xs/\xs.length=n/\i<n/\xs[n-1-i]?=some x,
 λi H v H'=>H'=H/\∀xs,Sq K H true l xs->xs[n-1-i]?=some v,
 λi _=>n<=i⟩
section
variable {X:Cx}{tg:Expr}
end
theorem Fx.qL{X:Cx}{N:List Str}{sc:Scope}{k j:Nat}{full:Bool}{x:Str}{st:Stmt}{ps:List Str}{φ:List D->Option Sl}{e:Expr}{fa:En->Option Sl}{p pos kp np:Pos}(h:Fx X N sc k full)(O:Oz X.prog X.w X.K X.mg X.base x st ps j φ)(hm:X.mg "sorted" = none)(he:EV X e fa)(hj:j+1<=k:=by decide)(h1:ps.length=1:=by rfl)(Aa:sc.names.lookup x=some .globalImplicit:=by rfl)(hg:sc.names.lookup ("sorted":Str)=some .globalImplicit:=by rfl)
  (hs:starEach [e] X.env=[(false,eval e X.env)]:=by rfl)(kH:(x==("__debug__":Str))=false:=by decide):EV X (.Call (.Name "sorted" p) [e] [⟨some "key",.Name x np,kp⟩] pos) (Bx φ fa):=by
 obtain ⟨f,fd,D',F⟩:=O
 exact b3J F h1 (h.room.mono hj) (h.g Aa) D'.m D'.bd (h.g hg) hm he hs kH
end DL
namespace DL
open PySem PySem.W PySem.Spec PyProof.Rows L2
theorem Rf:∀{l:List Value},TriplesOk l->codeAmong pos (l++[rawInt a,rawInt b,c])=some cv->codeAmong pos l=some cv\/cv=c
 | [],_,h=>by
  simp only [D3,rawInt,codeAmong] at h
  split at h
  .exact .inr (dq h).symm
  .cases h
 | .int x t::.int y u::d::r,ht,h=>by
  simp only [Ea,codeAmong] at h ⊢
  split at h
  .rename_i hc
   rw [if_pos hc]
   exact .inl h
  .rename_i hc
   rw [if_neg hc]
   exact Rf (l:=r) ht h
structure Lm(X:Cx)(c P:Addr):Prop where
 tab:tabIn X.K "dealt" = some (c,P)
 hd:codeHdIn X.K c P=true
 code:X.env.code=.ref c
 qual:X.env.qual ++ "<lambda>" = dI
section
variable {X:Cx}{pins:List (Addr×Obj)}{s:Shared}{σ:L2.St}{H:Hp}
theorem b3s(L:Lm X c P)(I:Inv X pins σ H s)(tb:Tb X.K H)(pF:defaultsOf params X.env=([],[]))(wz:closureFor scope X.env=pure rA)
  (q:∀f c' jF pm oc H' s',aq H H'->Inv X pins σ H' s'->H' f=some (.gz (kla_obj "<lambda>" dI params body scope rA pm c' jF) (.own f))->H' c'=some (.gz oc (.own P))->ES dI oc->Q (.ref f) s'):
  wpAny (model X.prog X.w) A (eval (.Lambda params body scope pos) X.env) Q E s:=by
 have hP:=tb c P L.tab
 obtain ⟨ps,e,ht,codes⟩:=I.aY P _ hP
 have C:CodeHd s.heap c P:=(codeHd_of_K I.mod.C8 L.hd).keeps I.bk
 obtain ⟨bm,ob,b1,b2,b3,b4,b5,b6⟩:=I.mod.bmod
 have EG:=I.bk _ _ b3
 have hg:s.heap.Ns mainGlobals X.mg:=I.mod.glob.keeps I.bk
 have XE:mainGlobals≠P:=λz=>by
  obtain ⟨o,es,ep,e1,hd,_⟩:=hg
  rw [z,e] at e1;cases e1;cases hd
 have XN:bm≠mainGlobals:=λz=>by
  obtain ⟨o,es,ep,e1,hd,_⟩:=hg
  rw [<-z,EG] at e1;cases e1;rw [b6] at hd;cases hd
 have Ds:bm≠P:=λz=>by rw [z,e] at EG;cases EG;cases b4
 have hb:s.heap.BuiltinsAt X.mg P:=⟨bm,ob,b1,b2,XN,Ds,EG,b4,b5,b6⟩
 refine kla_eval pF ?_
 rw [L.qual]
 have lay:∀(H1:Hp) (s1:Shared),aq H H1->Inv X pins σ H1 s1->∀c' oc jF pm (tk:Nat),H1 c'=some (.gz oc (.own P))->ES dI oc->Q (.ref s1.heap.objs.size) { s1 with heap:=s1.heap.push (kla_obj "<lambda>" dI params body scope rA pm c' jF),toks:=tk }:=λH1 s1 sm I1 c' oc jF pm tk h1 h2=>by
  have hf:=I1.aY.fresh (bh s1.heap.objs.size)
  have I2:=I1.laid (t':=tk) (o:=.gz (kla_obj "<lambda>" dI params body scope rA pm c' jF) (.own s1.heap.objs.size)) (h':=s1.heap.push (kla_obj "<lambda>" dI params body scope rA pm c' jF)) (λb u e=>bI _ e) (bh _) ⟨eG _ rfl,_,eG _ rfl⟩
  exact q _ c' jF pm oc _ _ (sm.trans (lV hf _)) I2 lW (by rw [cL (j' h1 hf)];exact h1) h2
 cases hc:codeAmong pos ps.toList with
 | some cv =>
  obtain ⟨c',oc,rfl,oE,ho⟩:=codes pos cv hc
  refine kla_makeFunctionHit wz I.ok.glob hg L.code C e ht hc hb λjF h' tk keep sz=>?_
  exact lay H { s with heap:=h',toks:=s.toks } (aq.refl _) (I.kept (t':=s.toks) keep) c' oc jF _ tk oE ho
 | none =>
  refine kla_makeFunction wz I.ok.glob hg L.code C e ht hc XE hb λc' jF h' tk hx qi aT Hh NA=>?_
  obtain ⟨c2,oc,vs,t,e2,zN,hd,hv⟩:=Hh
  cases e2
  have hf:H c'=none:=I.aY.fresh qi
  have nP:∀{b:Addr},H b=none->b≠P:=λh z=>by rw [z,hP] at h;cases h
  have I1:Inv X pins σ (upd H c' (.gz oc (.own P))) { s with heap:=h',toks:=s.toks }:=by
   refine I.un (t':=s.toks) ⟨λb o e1 n _ _=>hx b o (nP n) e1,λb o e1 n _ _=>⟨o.slots,hx b o (nP n) e1⟩,λb o e1 n _=>?_,λb o e1 _=>?_,λb xs e1=>?_,λb o u e1=>?_,λb ps e1=>⟨#[],?_⟩⟩ λb u q1=>?_
   .rw [cL (dE (jl (bJ e1) qi))];exact n
   .by_cases hb:b=P
    .rw [hb];exact ⟨_,NA⟩
    .exact ⟨o,hx b o hb e1⟩
   .rw [cL (j' e1 hf)];exact e1
   .rw [cL (j' e1 hf)];exact e1
   .rw [cL (j' e1 hf),e1];simp
   .by_cases hb:b=c'
    .subst hb
     rw [lW] at q1;cases q1
     exact ⟨zN,_,zN⟩
    .rw [cL hb] at q1
     by_cases Ds:b=P
     .subst Ds
      rw [hP] at q1;cases q1
      refine ⟨_,NA,?_,λpos' cv h1=>?_⟩
      .rw [nX]
       exact TriplesOk_snoc _ _ _ _ ht
      .rw [nX] at h1
       rcases Rf ht h1 with h1 | rfl
       .obtain ⟨d,od,rfl,h2,h3⟩:=codes pos' cv h1
        exact ⟨d,od,rfl,by rw [cL (j' h2 hf)];exact h2,h3⟩
       .exact ⟨c',oc,rfl,lW,vs,t,hd,hv⟩
     .refine (I.aY b u q1).jr (λd v h1 r=>hx d v ?_ r) (λd v _ r=>by rw [cL (j' r hf)];exact r) λd xs r=>by rw [cL (j' r hf)];exact r
      rcases h1 with rfl | h1
      .exact Ds
      .exact λz=>by rw [z,hP] at h1;cases h1
  exact lay _ { s with heap:=h',toks:=s.toks } (lV hf _) I1 c' oc jF _ tk lW ⟨vs,t,hd,hv⟩
end
section
variable {prog:Program}{w:World}{A:Around}{E:Value->Shared->Prop}{s:Shared}
theorem a9l{b:Int}{n:Nat}(hh:A.handled=none)(hr:IsRange s.heap r 0 b 1 t u v)(uF:Jv 0 b 1=true)(hn:Es 0 b 1=n)(hlen:n<=2^24)
  (h:∀h' tk (vs:List Value),(∀b o,s.heap.get? b=some o->h'.get? b=some o)->s.heap.objs.size<=h'.objs.size->ItemsOf (λi v=>∃t,v=.int (0+i*1) t) vs.toArray n->Q vs { s with heap:=h',toks:=tk }):
  wpAny (model prog w) A (collect (.ref r)) Q E s:=by
 unfold collect
 refine ar (wpAny_runValue (vo PySem.F.entry_proto_collect ?_))
 rw [vF PySem.F.plain_proto_collect _]
 show wpAny _ A.in1 (newList [] >>= λl=>again (.builtin "list.__iadd__" ⟨[l,.ref r],[]⟩)) _ _ s
 refine ar (rH ?_)
 refine aZ ⟨vk Oj _,vo PySem.F.entry_list_iadd ?_⟩
 rw [vF Oj _]
 show wpAny _ A.in1 (Builtin.List.listExtendWith (.ref s.heap.objs.size) (.ref r) (.ref s.heap.objs.size)) _ _ { s with heap:=s.heap.push (seqObj "list" #[] 0) }
 have hS:(s.heap.push (seqObj "list" #[] 0)).get? s.heap.objs.size=some { cls:=.type "list",data:=.seq #[] 0 }:=eG _ rfl
 refine wpAny_extend_range (R:=wants _ E) (s:={ s with heap:=s.heap.push (seqObj "list" #[] 0) }) (A:=A) ?_ (bI _ hr) uF hn hlen s.heap.objs.size (.ref s.heap.objs.size) 0 hS λh' tk acc c' hk NQ HS=>?_
 .exact hh
 .show wpAny _ A (load s.heap.objs.size >>= _) _ _ _
  refine ar (wpAny_load NQ ?_)
  refine aZ (h h' tk acc.toList (λb o e=>hk b o (dE (bJ e)) (bI _ e)) (wG (bJ NQ)) (by simpa using HS))
end
section
variable {X:Cx}{pins:List (Addr×Obj)}{s:Shared}{σ:L2.St}{H:Hp}
structure qc(sc:Scope)(x y:Str):Prop where
 kind:sc.kind=.function
 co:sc.isCoroutine=false
 gen:sc.isGenerator=false
 sM:∀z∈sc.names,z.2≠.cell
 free:∀z∈sc.names,z.2=.free->z.1=x
 hx:sc.names.lookup x=some .free
 hy:sc.names.lookup y=some .local
 ne:y≠x
noncomputable def JM(X:Cx)(A:Around)(s:Shared)(H:Hp)(env:Env)(N:List Str):Cx where
 prog:=X.prog
 w:=X.w
 K:=X.K
 mg:=X.mg
 base:=X.base
 A:=A.deeper env
 N:=N
 cS:=s
 oA:=H
 env:=env
 outer:=X.stack
 stack:=env::X.stack
 ex:=[]
 calm:=true
 fn:=λ_=>false
 pn:=[]
 xe:=λ_ _=>False
theorem b3t{A':Around}{k:Nat}{x y:Str}{i:Nat}(S:qc sc x y)(I:Inv X pins σ H s)(hA:A'.frames=X.A.frames)(hr:bp (k+1) A')
  (hf:H f=some (.gz (kla_obj "<lambda>" dI params body sc [(x,cc)] pm c' jF) (.own f)))(hc:H c'=some (.gz oc (.own P)))(ho:ES dI oc)
  (hN:X.N[i]?=some x)(uN:X.env.scope.names.lookup x=some .cell)(HK:X.env.cells.lookup x=some cc)
  (ip:∀v,bindArgs (kla_fn "<lambda>" dI params body sc [(x,cc)] pm (.ref c') jF) ⟨[v],[]⟩=pure [(y,v)])(bE:∀X':Cx,X'.prog=X.prog->X'.w=X.w->X'.K=X.K->X'.mg=X.mg->X'.base=X.base->Fx X' [y,x] sc k false->EV X' body fb){n:Int}(rx:RelV xv v)(zA:σ[i]?=some (some vr))(hO:oS X.K O H)(i1:Is X.K O H xv dv)(i2:Is X.K O H vr dr)(e:fb [.sh dv,.sh dr]=some (.sh (.int n))):
  wpAny (model X.prog X.w) A' (call (.ref f) [v]) (λu s'=>∃t H',u=.int n t/\Inv X pins σ H' s'/\aq H H'/\∀b o,s.heap.get? b=some o->cV X pins H b->s'.heap.get? b=some o/\cV X pins H' b) E s:=by
 have gf:=(I.aY f _ hf).1
 have gc:=(I.aY c' _ hc).1
 obtain ⟨vs,t,hd,hv⟩:=ho
 obtain ⟨m,hm,hl⟩:=I.loc
 obtain ⟨u,ru,lk⟩:=hl i x vr hN zA (.inr (.inl uN))
 have dJ:s.heap.IsCell cc (some u):=by
  rcases lk with ⟨z,_⟩ | ⟨_,c,e1,z⟩
  .have:X.env.scope.names.lookup x=some .local:=z
   rw [uN] at this;cases this
  .rw [HK] at e1;cases e1;exact z
 refine wpAny_call (kla_callFunE (body:=body) hr.depth gf rfl S.co S.gen rfl ⟨c',oc,vs,t,rfl,gc,hd,hv⟩ ?_)
 rw [ip]
 refine aZ (wpAny_newFunctionEnv S.sM (λz hz=>by rw [bU.mp hz];exact S.hy) (λh1 qg uG=>⟨I.nolimit.fresh _ uG,?_⟩) S.kind)
 have hk:∀b o,s.heap.get? b=some o->h1.get? b=some o:=λb o e1=>uG.extBut b o (dE (bJ e1)) (bI _ e1)
 show codeAny _ _ (.expr body (envX dI sc s.heap.objs.size f (.ref c') [(x,cc)])) _ _
 generalize mi:envX dI sc s.heap.objs.size f (.ref c') [(x,cc)]=env at *
 have e0:=I.fU
 have uw:∀b:Addr,b∉(JM X A' s H env [y,x]).ex:=λb z=>absurd (show b∈([]:List Addr) from z) (by simp)
 have wA:∀z c,env.cells.lookup z=some c->z=x/\c=cc:=λz c h=>by
  rw [<-mi] at h
  have h:([(x,cc)]:List (Str×Addr)).lookup z=some c:=h
  rw [nj] at h
  split at h
  .rename_i hz;cases h;exact ⟨by simpa using hz,rfl⟩
  .cases h
 have J:Inv (JM X A' s H env [y,x]) [] [some xv,some vr] H { s with heap:=h1,toks:=s.toks+[(y,v)].length }:=by
  have Ab:=hA.trans e0.frames
  refine ⟨⟨e0.mod,by rw [<-mi];exact S.kind,by rw [<-mi];rfl,by rw [<-mi];rfl,by rw [<-mi];exact bh _,λz1 z2 c h1 h2=>?_,λz hz=>?_,λz c h=>(nomatch h),λ_=>hr.hd,Ow Ab,.inr ⟨rfl,by rw [<-mi];rfl⟩,λb z=>absurd z (uw b),e0.bs,e0.nW,λb _ _=>uw b,λb z=>absurd z (uw b),e0.eS,e0.qp⟩,
   rfl,e0.bare,Un.kept hk,⟨_,by rw [<-mi];exact qg,λj z w h1 h2 h3=>?_⟩,λz c h=>?_,by rw [<-mi];exact I.aY.fresh (bh _),λz c h=>?_,λp hp=>absurd (show p∈([]:List (Addr×Obj)) from hp) (by simp),I.aY.kept hk,rfl⟩
  .exact (wA z1 c h1).1.trans (wA z2 c h2).1.symm
  .have:z=x:=by
    rcases hz with hz | hz
    .rw [<-mi] at hz
     exact absurd rfl (S.sM _ (tL hz))
    .rw [<-mi] at hz
     exact S.free _ (tL hz) rfl
   subst this
   exact ⟨cc,by rw [<-mi];show ([(z,cc)]:List (Str×Addr)).lookup z=_;simp⟩
  .match j,h1,h2 with
   | 0,h1,h2 =>
    cases h1;cases h2
    refine ⟨v,rx,.inl ⟨by rw [<-mi];exact S.hy,?_⟩⟩
    show ([(y,v)]:List (Str×Value)).reverse.lookup y=_
    simp
   | 1,h1,h2 =>
    cases h1;cases h2
    obtain ⟨o,ho,hd⟩:=dJ
    exact ⟨u,ru,.inr ⟨.inr (by rw [<-mi];exact S.hx),cc,by rw [<-mi];show ([(x,cc)]:List (Str×Addr)).lookup x=_;simp,o,hk _ _ ho,hd⟩⟩
  .obtain ⟨rfl,rfl⟩:=wA z c h
   obtain ⟨o,ho,hd⟩:=dJ
   exact ⟨_,o,hk _ _ ho,hd⟩
  .obtain ⟨rfl,rfl⟩:=wA z c h
   exact I.dZ z c HK
 obtain ⟨tt,pt,kk⟩:=bE (JM X A' s H env [y,x]) rfl rfl rfl rfl rfl ⟨rfl,by show env.scope=sc;rw [<-mi],rfl,λz=>(nomatch z),A2,hr.deeper _,by simp [S.ne],λz=>(nomatch z)⟩
 have R:Rel X.K O H [some xv,some vr] H [.sh dv,.sh dr]:=by
  have qV:∀(j:Nat) (t:Sl),([.sh dv,.sh dr]:En)[j]?=some t->t.own->False:=λj t e1 o=>by
   match j,e1 with
   | 0,e1=>cases e1;exact o
   | 1,e1=>cases e1;exact o
  have no:∀p,¬km [some xv,some vr] [.sh dv,.sh dr] p:=λp ⟨j,es,e1,o,_⟩=>qV j es e1 o
  refine ⟨aq.refl _,hO,rfl,λj d e1=>?_,λj es e1=>(qV j _ e1 trivial).elim,λj es e1=>(qV j _ e1 trivial).elim,λj j2 es fs p e1 _ _ _ o _=>(qV j _ e1 o).elim⟩
  .match j,e1 with
   | 0,e1=>cases e1;exact ⟨xv,rfl,i1.less λq z=>z.elim id λz=>(no q z).elim⟩
   | 1,e1=>cases e1;exact ⟨vr,rfl,i2.less λq z=>z.elim id λz=>(no q z).elim⟩
 have run:=pt [] _ _ H (λw H'=>w=.int n/\aq H H') J (kk O H _ H _ _ _ R e λw H' sm rr=>⟨fH rr,sm⟩)
 refine kla_codeExpr (jG run (λw s' hq=>?_) λ_ _ z=>z.elim)
 obtain ⟨w',H',J',qP,rfl,sm⟩:=hq
 obtain ⟨tok,rfl⟩:=qP
 obtain ⟨hh,g,d',t',yV⟩:=s'
 obtain rfl:yV=s.os:=J'.os
 have un:Un (mj X.stack) [] H H' s.heap hh:=J'.base
 refine ⟨tok,H',rfl,I.call (h':=hh) (g':=g) (d':=d') (t':=t') (ch:=[]) un J'.aY J'.bare (λb z=>absurd z (by simp)),sm,λb o eb hf=>?_⟩
 have GK:b∉mj X.stack:=λz=>by
  rcases bH.mp (I.fL b z) with z | z
  .exact hf.2.1 z
  .exact hf.2.2.1 z
 exact ⟨un.keep b o eb hf.1 GK (by simp),un.free b o eb hf.1 (by simp),hf.2⟩
end
section
variable {X:Cx}
theorem b19:cK X (.type "range") (λxs H Q=>∃j:Int,xs=[.int j]/\∀p,H p=none->Q (.ref p) (upd H p (.uj 0 j))):=by
 intro pins s σ H xs us Q I r h
 obtain ⟨j,rfl,q⟩:=h
 cases r with
 | cons r rr =>
  cases rr
  obtain ⟨t,rfl⟩:=r
  refine call_range_1 ⟨.ref s.heap.objs.size,_,I.laid (o:=.uj 0 j) (λb o e=>bI _ e) (bh _) ?_,rfl,q _ (I.aY.fresh (bh _))⟩
  exact ⟨_,_,_,eG _ rfl⟩
noncomputable def b7y(K:aA)(i:Nat)(fb:En->Option Sl)(te:TE):TE:=λσ H Q=>te σ H λxv H1=>∃(O:Addr->Prop) (p:Addr) (n:Nat) (vr:V) (dr:D) (kz:List Int),xv=.ref p/\H1 p=some (.uj 0 n)/\n<64/\kz.length=n/\σ[i]?=some (some vr)/\oS K O H1/\Is K O H1 vr dr /\
 (∀j:Nat,j<n->fb [.sh (.int j),.sh dr]=some (.sh (.int (kz.getD j 0))))/\∀a H',aq H1 H'->H' a=none->Q (.ref a) (upd H' a (.lst (bA kz (.int 0) (nZ 0 n))))
theorem b29(L:Lm X c P)(S:qc sc x y)(hc:X.calm=true)(hr:bp 2 X.A)(hg:Gl X "sorted")(hm:X.mg "sorted" = none)
  (hN:X.N[i]?=some x)(uN:X.env.scope.names.lookup x=some .cell)(pF:defaultsOf params X.env=([],[]))(uQ:∀cc,X.env.cells.lookup x=some cc->closureFor sc X.env=pure [(x,cc)])
  (ip:∀cc pm c' jF v,bindArgs (kla_fn "<lambda>" dI params body sc [(x,cc)] pm (.ref c') jF) ⟨[v],[]⟩=pure [(y,v)])
  (bE:∀X':Cx,X'.prog=X.prog->X'.w=X.w->X'.K=X.K->X'.mg=X.mg->X'.base=X.base->Fx X' [y,x] sc 0 false->EV X' body fb)
  (he:PE X e te)(hs:starEach [e] X.env=[(false,eval e X.env)]:=by rfl):PE X (.Call (.Name "sorted" p) [e] [⟨some "key",.Lambda params body sc lp,kp⟩] pos) (b7y X.K i fb te):=by
 intro pins s σ H Q I h
 obtain ⟨cc,Aj⟩:=I.ok.has x (.inl uN)
 refine Bd (rW I hg hm boot_sorted ?_)
 refine callWith_builtin_kwB (first:=[]) (by rw [hs];rfl) rfl ?_
 rw [hs]
 refine evalArgs_kwB rfl ?_
 refine JC (a9 (he pins s σ H _ I h) λu s1 ⟨xv,H1,I1,r1,q1⟩=>I9 ?_)
 obtain ⟨O,p,n,vr,dr,kz,rfl,hp,de,ji,zA,hO,hi,wu,q⟩:=q1
 cases r1
 refine kws_cons (b3s L I1 hO.2 pF (uQ cc Aj) λf c' jF pm oc H2 s2 sm I2 hf oE ho=>kws_nil ?_)
 obtain ⟨t,u,v,Xl⟩:=I2.aY p _ (sm _ _ hp)
 have Hi:bp 1 X.A.in1.in1:=⟨hr.hd,by have:=hr.dp;show X.A.depth+3*1+5<_;ext this,by have:=hr.un;show X.A.units+1+1+16*1+200<_;ext this⟩
 have Hv:(nZ 0 n).length=n:=by unfold nZ;simp
 refine Rv hr I2 (ji.trans Hv.symm) (by ext de Hv) (λhA h=>a9l (n:=n) (hA.trans (I.ok.hd hc)) Xl ?_ ?_ (by ext de) λh' tk vs k1 k2 it=>h h' tk vs k1 k2 (b0f (by simpa using it.1) λk v e=>it.2 k v (by simpa using e))) (λH3 s3 j v xv I3 Gj rx hx=>?_) λa H' s' hn=>q a H' (sm.trans s') hn
 .have hz:Es 0 n 1=n:=by rw [DH];split<;>lia
  unfold Jv
  rw [hz]
  simp [Builtin.Range.rangeFitsLong]
  lia
 .rw [DH];split<;>lia
 .obtain ⟨hj,rfl⟩:=iu.mp hx
  have XB:j<n:=by ext Hv hj
  have M8:=sm.trans Gj
  have ej:(nZ 0 n)[j]=.int j:=by unfold nZ;simp
  rw [ej] at rx
  exact b3t (A':=X.A.in1.in1) (k:=0) S I3 rfl Hi (Gj _ _ hf) (Gj _ _ oE) ho hN uN Aj (ip cc pm c' jF) bE rx zA (hO.grow M8) (Is.int _) (hi.grow M8) (wu j XB)
noncomputable def qf(fb:En->Option Sl)(d:D)(j:Nat):Option Int:=match fb [.sh (.int j),.sh d] with
 | some (.sh (.int k))=>some k
 | _=>none
theorem b3v(h:qf fb d j=some k):fb [.sh (.int j),.sh d]=some (.sh (.int k)):=by
 unfold qf at h
 split at h
 .rename_i k' e
  cases h
  exact e
 .cases h
noncomputable def EX(i:Nat)(fb:En->Option Sl)(fs:En->Option (List D)):En->Option Sl:=λenv=>(fs env).bind λds=>match ds,env[i]? with
 | [.int n],some (.sh d)=>if n<64/\0<=n/\∀j,j<n.toNat->(qf fb d j).isSome=true then some (.ow (bA ((eH n.toNat).map λj=>(qf fb d j).getD 0) .aR (bD 0 n.toNat))) else none
 | _,_=>none
theorem b3K{c P:Addr}(L:Lm X c P){N:List Str}{M6:Scope}{k:Nat}(h:Fx X N M6 k){params:Arguments}{body a:Expr}{sc:Scope}{x y:Str}{i:Nat}{fs:En->Option (List D)}{fb:En->Option Sl}{p pos kp lp p2 pf:Pos}(S:qc sc x y)(hr:bp 2 X.A)(hg:Gl X "sorted")(hm:X.mg "sorted" = none)(wx:Gl X "range")(Hu:X.mg "range" = none)
  (hN:N[i]?=some x)(uN:M6.names.lookup x=some .cell)(pF:defaultsOf params X.env=([],[]))(uQ:∀cc,X.env.cells.lookup x=some cc->closureFor sc X.env=pure [(x,cc)])
  (ip:∀cc pm c' jF v,bindArgs (kla_fn "<lambda>" dI params body sc [(x,cc)] pm (.ref c') jF) ⟨[v],[]⟩=pure [(y,v)])
  (bE:∀X':Cx,X'.prog=X.prog->X'.w=X.w->X'.K=X.K->X'.mg=X.mg->X'.base=X.base->Fx X' [y,x] sc 0 false->EV X' body fb)
  (ha:AV X [a] fs)(hs:starEach [Expr.Call (.Name "range" p2) [a] [] pf] X.env=[(false,eval (.Call (.Name "range" p2) [a] [] pf) X.env)]:=by rfl)(h1:starEach [a] X.env=[(false,eval a X.env)]:=by rfl):
  EV X (.Call (.Name "sorted" p) [.Call (.Name "range" p2) [a] [] pf] [⟨some "key",.Lambda params body sc lp,kp⟩] pos) (EX i fb fs):=by
 obtain ⟨t,pt,kk⟩:=ha
 refine ⟨_,b29 L S h.calm hr hg hm (by rw [h.n];exact hN) (by rw [h.sc];exact uN) pF uQ ip bE (Rq b19 wx Hu boot_range pt (by decide) (by decide) (by rw [h1];rfl) rfl) hs,λO B σ H env s Q R e q=>?_⟩
 obtain ⟨ds,e1,e2⟩:=bind_some e
 refine kk O B σ H env ds _ R e1 λvs H1 s1 r1=>?_
 split at e2
 .rename_i n d hd
  obtain ⟨⟨de,h0,hk⟩,rfl⟩:=iM e2
  obtain ⟨vr,zA,hi⟩:=R.sh i d hd
  obtain ⟨m,rfl⟩:∃m:Nat,n=m:=⟨n.toNat,by ext h0⟩
  rw [wJ] at *
  have ev:vs=[.int m]:=by
   cases r1 with
   | cons a b=>cases b;cases a;rfl
  refine ⟨m,ev,λpp hp=>?_⟩
  have s2:=s1.trans (lV hp (.uj 0 m))
  refine ⟨OO O σ env,pp,m,vr,d,(eH m).map λj=>(qf fb d j).getD 0,rfl,lW,by ext de,by simp,zA,(R.grow s2).dm,hi.grow s2,λj hj=>b3v ?_,λa H' sm ha=>q _ _ ((s2.trans sm).trans (lV ha _)) ((xo ha ?_).from (s2.trans sm))⟩
  .obtain ⟨k,hk⟩:=Om.mp (hk j hj)
   simp [hj,hk]
  .by_cases h2:(nZ 0 m).length<2
   .have:bA ((eH m).map λj=>(qf fb d j).getD 0) (.int 0) (nZ 0 m)=nZ 0 m:=by unfold bA;rw [if_pos h2]
    rw [this,show bA ((eH m).map λj=>(qf fb d j).getD 0) .aR (bD 0 m)=bD 0 m by unfold bA;rw [if_pos (by unfold bD nZ at *;simpa using h2)]]
    exact Qg _ _
   .exact (QH (Qg 0 m))
 .cases e2
theorem b2u(e:fs env=some [.int n])(he:env[i]?=some (.sh d))(de:n<64)(hk:∀j,j<n->fb [.sh (.int j),.sh d]=some (.sh (.int (kf j)))):
  Wo (EX i fb fs env) Q↔Q (.ow (bA ((eH n).map kf) .aR (bD 0 n))):=by
 have qh:∀j,j<n->qf fb d j=some (kf j):=λj hj=>by unfold qf;rw [hk j hj]
 unfold EX
 rw [e,he,ni]
 dsimp only
 rw [if_pos ⟨by ext de,by ext,λj hj=>by rw [qh j (by ext hj)];rfl⟩,a0g,wJ]
 have:((eH n).map λj=>(qf fb d j).getD 0)=(eH n).map kf:=Eu λj hj=>by rw [qh j (oJ.mp hj)];rfl
 rw [this]
end
theorem b8K(h:sc.names.filter (λz=>z.2==.free)=[(x,.free)])(hc:env.cells.lookup x=some cc):closureFor sc env=pure [(x,cc)]:=by
 have wA:cellOf env x=pure cc:=by unfold cellOf;rw [hc]
 have key:∀(l:List (Str×NameKind)) (cs:List (Str×Addr)),(l.filter (λz=>z.2==.free)=[]->(forIn l cs λz r=>if (z.2==.free)=true then cellOf env z.1 >>= λc=>pure (nh ((z.1,c)::r)) else pure (nh r))=(pure cs:Sem _)) /\
   (l.filter (λz=>z.2==.free)=[(x,.free)]->(forIn l cs λz r=>if (z.2==.free)=true then cellOf env z.1 >>= λc=>pure (nh ((z.1,c)::r)) else pure (nh r))=(pure ((x,cc)::cs):Sem _)):=by
  intro l
  induction l with
  | nil=>exact λcs=>⟨λ_=>rfl,λh=>nomatch h⟩
  | cons z l ih =>
   intro cs
   rw [List.filter_cons,A1]
   by_cases hz:(z.2==.free)=true
   .rw [if_pos hz,if_pos hz]
    refine ⟨λh=>(nomatch h),λh=>?_⟩
    obtain ⟨rfl,h2⟩:=IF h
    rw [wA]
    exact (ih _).1 h2
   .rw [if_neg hz,if_neg hz]
    exact ⟨λh=>(ih _).1 h,λh=>(ih _).2 h⟩
 have:=(key sc.names []).2 h
 unfold closureFor
 dsimp only
 rw [bind_pure]
 exact this
theorem b2O{K:aA}{x:Str}{fd:FuncData}(ht:tabIn K x=some (c,P))(hn:nsIn K mainGlobals x=some (some (.ref f)))(hl:K.lookup f=some ⟨oc,od,.func fd,sl⟩):fd.code=.ref c:=by
 unfold tabIn at ht
 rw [hn] at ht
 dsimp only at ht
 rw [hl] at ht
 dsimp only at ht
 split at ht
 .rename_i c' e
  split at ht
  .split at ht
   .cases ht;exact e
   .cases ht
  .cases ht
 .cases ht
section
variable {P:Program}{w:World}{K:aA}{mg:Str->Option Value}{base:Heap}
theorem AB{st:Stmt}{f:Addr}{fd:FuncData}{N ps:List Str}{k:Nat}{F:SF}{c T:Addr}(Fn:sy K "dealt" "dealt" st f fd)(cI:fd.code=.ref c)(hT:tabIn K "dealt" = some (c,T))(hC:codeHdIn K c T=true)(S:cW N ps (eN st))
  (bE:∀X:Cx,X.prog=P->X.w=w->X.K=K->X.mg=mg->X.base=base->Fx X N (eN st) k->Lm X c T->jS X (iC st) F):bS P w K mg base iN (k+1) f fd ps (mP K ps.length (aF F N.length)):=by
 obtain ⟨oc,od,kV,doc,pm,an,du,ct,qR,rfl,lk,HP⟩:=Fn.ex
 obtain rfl:du=.ref c:=cI
 refine OV lk HP S (λvs H Q E h=>?_) λA outer s H vs Q E hr h=>?_
 .obtain ⟨O,ds,r,_,_,hl,_⟩:=h
  exact hl
 obtain ⟨O,ds,r,hO,hi,hl,e,q⟩:=h
 obtain ⟨t,p,kk⟩:=bE (kO iN P w K mg base N "dealt" (eN st) f (.ref c) A outer s H E).gh rfl rfl rfl rfl rfl ⟨rfl,rfl,rfl,λ_ _=>rfl,A2,hr,S.nd,λ_=>⟨rfl,rfl,rfl⟩⟩ ⟨hT,hC,rfl,show (("dealt":Str) ++ ".<locals>.") ++ "<lambda>" = dI by decide +kernel⟩
 refine ⟨t,p.gh,?_⟩
 unfold aF at e
 cases hF:F (n0 N.length ds) with
 | none=>rw [hF] at e;cases e
 | some y =>
  obtain ⟨fl,ai⟩:=y
  rw [hF] at e
  refine kk O H (start N vs) H (n0 N.length ds) fl ai _ (Ru hO hi) hF ?_
  cases fl with
  | nx=>cases e;exact λaD H' R' _=>q .aR H' R'.same Is.aR
  | bk=>cases e
  | ct=>cases e
  | rt r=>cases e;exact λv H' s h=>q v H' s h
end
theorem Az{P:Program}{w:World}{K:aA}{mg:Str->Option Value}{base:Heap}{st:Stmt}{f:Addr}{fd:FuncData}{N ps:List Str}{k:Nat}{F:SF}{c T:Addr}(D':Def K mg "dealt" st ps f fd)(cI:fd.code=.ref c)(hT:tabIn K "dealt" = some (c,T))(hC:codeHdIn K c T=true)
  (bE:∀X:Cx,Sx X P w K mg base->Fx X N (eN st) k->Lm X c T->jS X (iC st) F)(S:cW N ps (eN st):=by exact ⟨rfl,rfl,rfl,by decide +kernel,rfl,by decide +kernel,by decide +kernel⟩):Oz P w K mg base "dealt" st ps (k+1) (aF F N.length):=
 ⟨f,fd,D',AB D'.fn cI hT hC S λX e1 e2 e3 e4 e5=>by subst e1 e2 e3 e4 e5;exact bE X (.mk X)⟩
end DL
namespace DL
open PySem PySem.Spec PyProof.Rows L2
section
open PySem.SeqAt
open PySem.AutoSeq1 (wpAny_loadPart')
open PySem.MeetsSeq PySem.MeetsSeq2 PySem.MeetsSeq3
theorem a8W(l b:Addr)(items aI:Array Value)(n n2:Nat)(dd mv:Option Addr)(sl lG:Array (Option Value))(ns ms:List Int)(hi:IntsAre items.toList ns)(hj:IntsAre aI.toList ms)(k:Nat):
  ∀i:Nat,items.size-i=k->i<=items.size->i<=aI.size->Meets (Builtin.«list.__eq__.loop» ⟨[.ref l,.ref b,rawInt i,rawInt 0],[]⟩)
   (λA R s=>s.heap.get? l=some { cls:=.type "list",dict:=dd,data:=.seq items n,slots:=sl }/\s.heap.get? b=some { cls:=.type "list",dict:=mv,data:=.seq aI n2,slots:=lG } /\
    R (.ok (.ret (.bool (HT.lexLt (ns.drop i) (ms.drop i))))) s):=by
 have z1:items.size=ns.length:=by rw [<-hi.length];simp
 have z2:aI.size=ms.length:=by rw [<-hj.length];simp
 induction k with
 | zero =>
  intro i hk l1 l2 prog w A R s h
  obtain ⟨hp,g,d,tk,os⟩:=s;obtain ⟨hl,hb,h⟩:=h
  wp_walk using lL hl,lL hb
  have z7:items[((i:Nat):Int).toNat]?=none:=by simp;ext hk
  rw [z7]
  wp_walk using lL hl,lL hb
  have e:HT.lexLt (ns.drop i) (ms.drop i)=decide (items.size<aI.size):=by
   rw [ny (by ext z1 hk)]
   by_cases c:i<ms.length
   .rw [j0 c,HT.h8]
    exact (decide_eq_true (by ext z2 hk c)).symm
   .rw [ny (by ext c),HT.iU]
    exact (decide_eq_false (by ext z2 l1 c)).symm
  rw [e] at h
  show R (.ok (.ret (.bool (decide (items.size<aI.size))))) _
  exact h
 | succ k ih =>
  intro i hk l1 l2 prog w A R s h
  obtain ⟨hp,g,d,tk,os⟩:=s;obtain ⟨hl,hb,h⟩:=h
  have aT:i<items.size:=by ext hk
  have z7:items[((i:Nat):Int).toNat]?=some items[i]:=by simp [aT]
  by_cases c:i<aI.size
  .wp_walk using lL hl,lL hb
   have uO:aI[((i:Nat):Int).toNat]?=some aI[i]:=by simp [c]
   have hc:((i:Int)+1)=((i+1:Nat):Int):=by push_cast;rfl
   obtain ⟨t,et⟩:=hi.int_at i items[i] (by simp [aT])
   obtain ⟨u,eu⟩:=hj.int_at i aI[i] (by simp [c])
   rw [j0 (show i<ns.length by ext z1 aT),j0 (show i<ms.length by ext z2 c),HT.dH] at h
   have e1:ns.getD i 0=ns[i]:=by simp [show i<ns.length by ext z1 aT]
   have e2:ms.getD i 0=ms[i]:=by simp [show i<ms.length by ext z2 c]
   rw [e1] at et
   rw [e2] at eu
   rw [z7,uO]
   refine ar ?_
   rw [et,eu]
   refine EqAt.int_int _ t _ u prog w _ _ ?_
   by_cases m6:ns[i]=ms[i]
   .rw [if_pos m6] at h
    rw [show (ns[i]==ms[i])=true by simpa using m6]
    wp_walk
    rw [hc]
    exact ⟨vk plain_eq_loop _,vo entry_eq_loop (by
     rw [vF plain_eq_loop _]
     exact ih (i+1) (by ext z1 hk aT) (by ext z1 aT) (by ext z2 c) prog w A R _ ⟨hl,hb,h⟩)⟩
   .rw [if_neg m6] at h
    rw [show (ns[i]==ms[i])=false by simpa using m6]
    wp_walk using lL hl,lL hb
    rw [z7,uO]
    have zH:=HT.kr A.in1 ⟨hp,g,d,tk,os⟩ ns[i] t ms[i] u prog w
    rw [et,eu]
    wp_walk using zH
    exact h
  .wp_walk using lL hl,lL hb
   have uO:aI[((i:Nat):Int).toNat]?=none:=by simp;ext c
   rw [z7,uO]
   wp_walk using lL hl,lL hb
   rw [j0 (show i<ns.length by ext z1 aT),ny (show ms.length<=i by ext z2 c),HT.ic] at h
   show R (.ok (.ret (.bool (decide (items.size<aI.size))))) _
   rw [decide_eq_false (by ext aT c)]
   exact h
theorem a8X(l b:Addr)(items aI:Array Value)(n n2:Nat)(dd mv:Option Addr)(sl lG:Array (Option Value))(ns ms:List Int)(hi:IntsAre items.toList ns)(hj:IntsAre aI.toList ms):
  Meets (Builtin.«list.__lt__» ⟨[.ref l,.ref b],[]⟩)
   (λA R s=>s.heap.get? l=some { cls:=.type "list",dict:=dd,data:=.seq items n,slots:=sl }/\s.heap.get? b=some { cls:=.type "list",dict:=mv,data:=.seq aI n2,slots:=lG } /\
    R (.ok (.ret (.bool (HT.lexLt ns ms)))) s):=by
 intro prog w A R s h
 obtain ⟨hp,g,d,tk,os⟩:=s;obtain ⟨hl,hb,h⟩:=h
 have f3:=AutoSeq1.sub_list_list
 wp_walk using lL hl,lL hb
 exact ⟨vk plain_eq_loop _,vo entry_eq_loop (by
  rw [vF plain_eq_loop _]
  exact a8W l b items aI n n2 dd mv sl lG ns ms hi hj _ 0 rfl (nv _) (nv _) prog w A R _ ⟨hl,hb,by simpa using h⟩)⟩
end
section
variable {prog:Program}{w:World}{A:Around}{E:Value->Shared->Prop}{s:Shared}
theorem b3n(hl:s.heap.IsList l items)(hb:s.heap.IsList b aI)(hi:IntsAre items.toList ns)(hj:IntsAre aI.toList ms)
  (hu:A.units<cLine)(h:Q (.bool (HT.lexLt ns ms)) s):wpAny (model prog w) A (richCompare .Lt (.ref l) (.ref b)) Q E s:=by
 obtain ⟨⟨cls,dd,data,sl⟩,ho,hc,n,hd⟩:=id hl
 obtain ⟨⟨u6,mv,data2,lG⟩,lH,pH,n2,hd2⟩:=id hb
 simp only at hc hd pH hd2
 subst hc hd pH hd2
 exact richCompare_meets_room (op:=.Lt) ⟨_,ho,rfl⟩ ⟨_,lH,rfl⟩ PySem.F.slot_list_lt PySem.F.entry_list_lt (PySem.F.args_list_lt_2 _ _) (a8X l b items aI n n2 dd mv sl lG ns ms hi hj)
  ⟨ho,lH,show jH (HT.lexLt ns ms)≠Oq/\Q (.bool (HT.lexLt ns ms)) s from ⟨(λx=>nomatch x),h⟩⟩ hu
theorem all_ints{items aI:Array Value}{ns ms:List Int}(hi:IntsAre items.toList ns)(hj:IntsAre aI.toList ms)(hs:items.size=aI.size):((eH items.size).all λj=>ns.getD j 0==ms.getD j 0)=decide (ns=ms):=by
 have z1:items.size=ns.length:=by rw [<-hi.length];simp
 have z2:aI.size=ms.length:=by rw [<-hj.length];simp
 by_cases c:ns=ms
 .rw [decide_eq_true c,c]
  simp
 .rw [decide_eq_false c,Bool.eq_false_iff]
  intro h
  refine c (D9 (by ext hs z1 z2) λj h1 h2=>?_)
  have:=Ec.mp h j (oJ.mpr (by ext z1 h1))
  simpa [h1,h2] using this
theorem b3N(hl:s.heap.IsList l items)(hb:s.heap.IsList b aI)(hi:IntsAre items.toList ns)(hj:IntsAre aI.toList ms)(hu:A.units<cLine):SeqAt.EqAt A s (.ref l) (.ref b) (decide (ns=ms)):=by
 have z1:items.size=ns.length:=by rw [<-hi.length];simp
 have z2:aI.size=ms.length:=by rw [<-hj.length];simp
 by_cases NI:l=b
 .subst NI
  have e:items=aI:=by
   obtain ⟨o,ho,_,n,hd⟩:=hl
   obtain ⟨o2,lH,_,n2,hd2⟩:=hb
   rw [ho] at lH;cases lH
   rw [hd] at hd2;cases hd2;rfl
  subst e
  have:ns=ms:=by
   refine D9 (by ext z1 z2) λj h1 h2=>?_
   obtain ⟨t,e1⟩:=hi.int_at j items[j] (by simp [show j<items.size by ext z1 h1])
   obtain ⟨u,e2⟩:=hj.int_at j items[j] (by simp [show j<items.size by ext z1 z2 h1])
   have h:=e1.symm.trans e2
   injection h with h
   rw [vy,vy,mx h1,mx h2] at h
   exact h
  rw [decide_eq_true this]
  exact SeqAt.EqAt.same _
 .refine SeqAt.EqAt.of_refs NI ?_
  by_cases hs:items.size=aI.size
  .rw [<-all_ints hi hj hs]
   refine SeqAt.RcAt.lists hl hb hs hu λj h1 h2=>?_
   obtain ⟨t,e1⟩:=hi.int_at j items[j] (by simp [h1])
   obtain ⟨u,e2⟩:=hj.int_at j aI[j] (by simp [h2])
   rw [e1,e2]
   exact SeqAt.EqAt.int_int _ _ _ _
  .rw [decide_eq_false λz=>hs (by rw [z1,z2,z])]
   exact SeqAt.RcAt.lists_lengths hl hb (by simpa using hs) hu
end
section
open PySem.SeqAt
open PySem.AutoSeq1 (wpAny_loadPart')
open PySem.MeetsSeq PySem.MeetsSeq2 PySem.MeetsSeq3
theorem QB:∀ns:List Int,HT.lexLt ns ns=false
 | []=>rfl
 | n::r=>by rw [HT.dH,if_pos rfl];exact QB r
theorem a7w(p q l b:Addr)(it wj:Array Value)(a c:Int)(t u:Tok)(n n2:Nat)(dd mv:Option Addr)(sl lG:Array (Option Value))(ns ms:List Int)(hi:IntsAre it.toList ns)(hj:IntsAre wj.toList ms):
  Meets (Builtin.«tuple.__lt__» ⟨[.ref p,.ref q],[]⟩)
   (λA R s=>s.heap.get? p=some { cls:=.type "tuple",dict:=dd,data:=.seq #[.int a t,.ref l] n,slots:=sl }/\s.heap.get? q=some { cls:=.type "tuple",dict:=mv,data:=.seq #[.int c u,.ref b] n2,slots:=lG }/\s.heap.IsList l it/\s.heap.IsList b wj/\A.units+1<cLine /\
    R (.ok (.ret (.bool (HT.lexLt (a::ns) (c::ms))))) s):=
 .of_wp λprog w A R s h=>by
  obtain ⟨hp,g,d,tk,os⟩:=s;obtain ⟨h1,h2,h3,h4,hu,h⟩:=h
  have f2:=AutoSeq1.sub_tuple_tuple
  have mV:A.in1.units<cLine:=hu
  have e1:=EqAt.int_int (A:=A.in1) (s:=⟨hp,g,d,tk,os⟩) a t c u
  have e2:=b3N (A:=A.in1) (s:=⟨hp,g,d,tk,os⟩) h3 h4 hi hj mV
  rw [HT.dH] at h
  wp_walk using lL h1,lL h2,wpAny_forIn_list _ (λrest b' s'=>b'.1=none/\s'=⟨hp,g,d,tk,os⟩/\((rest=[(jk a t,jk c u),(dN l,dN b)]/\R (.ok (.ret (.bool (if a=c then HT.lexLt ns ms else decide (a<c))))) ⟨hp,g,d,tk,os⟩)\/(rest=[(dN l,dN b)]/\R (.ok (.ret (.bool (HT.lexLt ns ms)))) ⟨hp,g,d,tk,os⟩)\/(rest=[]/\R (.ok (.ret (.bool false))) ⟨hp,g,d,tk,os⟩))) _
  case turn =>
   rintro ⟨y,x⟩ rest b' s' ⟨m6,rfl,⟨hz,hR⟩ | ⟨hz,hR⟩ | ⟨hz,_⟩⟩
   .obtain ⟨h5,rfl⟩:=IF hz
    cases h5
    refine ar (e1 prog w _ _ ?_)
    by_cases qm:a=c
    .rw [if_pos qm] at hR
     rw [show (a==c)=true by simpa using qm]
     wp_walk
     exact ⟨rfl,rfl,.inr (.inl ⟨rfl,hR⟩)⟩
    .rw [if_neg qm] at hR
     rw [show (a==c)=false by simpa using qm]
     have zH:=HT.kr A.in1 ⟨hp,g,d,tk,os⟩ a t c u prog w
     wp_walk using zH
     exact ⟨_,rfl,by simpa using hR⟩
   .obtain ⟨h5,rfl⟩:=IF hz
    cases h5
    refine ar (e2 prog w _ _ ?_)
    by_cases qm:ns=ms
    .rw [decide_eq_true qm]
     wp_walk
     rw [qm,QB] at hR
     exact ⟨rfl,rfl,.inr (.inr ⟨rfl,hR⟩)⟩
    .rw [decide_eq_false qm]
     have zH:=λ(E:Value->Shared->Prop) (Q:Value->Shared->Prop) (h:Q (.bool (HT.lexLt ns ms)) ⟨hp,g,d,tk,os⟩)=>b3n (prog:=prog) (w:=w) (A:=A.in1) (E:=E) (s:=⟨hp,g,d,tk,os⟩) h3 h4 hi hj mV h
     wp_walk using zH
     exact ⟨_,rfl,by simpa using hR⟩
   .cases hz
  case fin =>
   rintro ⟨b1,b2⟩ s' ⟨m6,rfl,⟨hz,hR⟩ | ⟨hz,hR⟩ | ⟨hz,hR⟩⟩
   .cases hz
   .cases hz
   .simp only at m6
    subst m6
    wp_walk
    exact ⟨_,rfl,by simpa [Builtin.Tuple.tupleCompareSizes] using hR⟩
  case h=>exact ⟨rfl,rfl,.inl ⟨rfl,h⟩⟩
end
end DL
namespace DL
open PySem PySem.Spec PyProof.Rows L2
section
variable {prog:Program}{w:World}{A:Around}{E:Value->Shared->Prop}{s:Shared}
theorem b3m(hp:IsTup s.heap p #[.int a t,.ref l])(hq:IsTup s.heap q #[.int c u,.ref b])(hl:s.heap.IsList l it)(hb:s.heap.IsList b wj)(hi:IntsAre it.toList ns)(hj:IntsAre wj.toList ms)
  (hu:A.units+1<cLine)(h:Q (.bool (HT.lexLt (a::ns) (c::ms))) s):wpAny (model prog w) A (richCompare .Lt (.ref p) (.ref q)) Q E s:=by
 obtain ⟨⟨cls,dd,data,sl⟩,ho,hc,n,hd⟩:=id hp
 obtain ⟨⟨u6,mv,data2,lG⟩,lH,pH,n2,hd2⟩:=id hq
 simp only at hc hd pH hd2
 subst hc hd pH hd2
 exact richCompare_meets_room (op:=.Lt) ⟨_,ho,rfl⟩ ⟨_,lH,rfl⟩ PySem.F.slot_tuple_lt PySem.F.entry_tuple_lt (PySem.F.args_tuple_lt_2 _ _) (a7w p q l b it wj a c t u n n2 dd mv sl lG ns ms hi hj)
  ⟨ho,lH,hl,hb,hu,show jH (HT.lexLt (a::ns) (c::ms))≠Oq/\Q (.bool (HT.lexLt (a::ns) (c::ms))) s from ⟨(λx=>nomatch x),h⟩⟩ (by ext hu)
end
section
variable {X:Cx}{a:Expr}{ba:En->Option (Bool×List D)}{p pos:Pos}
theorem b2g(hc:X.calm=true)(hu:X.A.units+2<cLine):cK X (.builtin "min") (λxs H Q=>∃(q:Addr) (k:Bool) (vs:List V) (rs:List (List Int)),xs=[.ref q]/\Sq X.K H k q vs/\rs≠[]/\vs.length=rs.length /\
  (∀i v,vs[i]?=some v->∃c l a ns,v=.ref c/\eJ X.K H c [.int a,.ref l]/\dX X.K H l (ns.map V.int)/\rs.getD i []=a::ns)/\∀i v,vs[i]?=some v->rs.getD i []=fQ rs->Q v H):=by
 intro pins s σ H xs us Q I r h
 obtain ⟨q,k,vs,rs,rfl,hq,bP,hlen,wq,qq⟩:=h
 obtain ⟨u,rfl,ru⟩:=r.one
 cases ru
 refine b2h (K7 (A':=X.A.in1) I (I.ok.hd hc) hq λao h2 St rv W yp k1 mh=>?_)
 have hl:ao.length=rs.length:=by rw [<-rv.length,hlen]
 have hp:0<rs.length:=vE.mpr bP
 have hsz:s.heap.objs.size<h2.objs.size:=mh _ bK
 have eL:∀i v,ao[i]?=some v->∃c l it a t ns,v=.ref c/\(c<s.heap.objs.size/\l<s.heap.objs.size)/\IsTup s.heap c #[.int a t,.ref l]/\s.heap.IsList l it/\IntsAre it.toList ns/\rs.getD i []=a::ns:=λi v hv=>by
  have hi:i<vs.length:=by rw [rv.length];exact (iu.mp hv).1
  obtain ⟨c,l,a,ns,e1,e2,e3,e4⟩:=wq i vs[i] (mx hi)
  obtain ⟨u',mV,C2⟩:=rv.get (mx hi)
  rw [hv] at mV
  cases mV
  rw [e1] at C2
  obtain rfl:v=dN c:=C2
  obtain ⟨items,Ub,pl,_⟩:=I.tuple e2
  obtain ⟨li,rl,U3⟩:=oO (b:=true) I e3
  cases Ub with
  | cons r1 r2 =>
   cases r2 with
   | cons r2 r3 =>
    cases r3
    cases r2
    obtain ⟨t,rfl⟩:=r1
    have yJ:s.heap.IsList l li.toArray:=U3
    exact ⟨c,l,li.toArray,a,t,ns,rfl,⟨pl.lt,let ⟨_,ho,_⟩:=yJ;bJ ho⟩,pl,yJ,by simpa using Q2 rl,e4⟩
 refine ⟨_,_,_,_,_,_,λi j=>HT.lexLt (rs.getD i []) (rs.getD j []),λh=>∀b o,b<s.heap.objs.size->s.heap.get? b=some o->h.get? b=some o,rfl,W,yp,mh,by ext hl hp,?_,?_,λb o _ e=>k1 b o e,λv h' tk hv hk=>?_⟩
 .intro i j x y s' Q' E' hx hy kh c8
  obtain ⟨c,l,it1,a1,t1,ns1,rfl,⟨l1,l2⟩,⟨o1,g1,r1⟩,⟨o2,g2,r2⟩,i1,w1⟩:=eL i x hx
  obtain ⟨d,m,wj,a2,t2,ns2,rfl,⟨l3,l4⟩,⟨o3,g3,r3⟩,⟨o4,g4,r4⟩,i2,w2⟩:=eL j y hy
  have c8:Q' (jH (HT.lexLt (rs.getD i []) (rs.getD j []))) s':=c8
  rw [w1,w2] at c8
  exact b3m ⟨o1,kh c o1 l1 g1,r1⟩ ⟨o3,kh d o3 l3 g3,r3⟩ ⟨o2,kh l o2 l2 g2,r2⟩ ⟨o4,kh m o4 l4 g4,r4⟩ i1 i2 (by show X.A.units+1+1<_;exact hu) c8
 .intro h h' kh kp b o lb e
  exact kp b o (λz=>by rw [bU.mp z] at lb;exact oH _ lb) (dE (Nat.lt_trans lb hsz)) (kh b o lb e)
 .obtain ⟨b1,b2⟩:=Pf rs (ao.length-1) (by ext hl hp)
  have e2:rs.take (ao.length-1+1)=rs:=by rw [wV];ext hl
  rw [e2] at b2
  have hi:=(iu.mp hv).1
  have sT:argBest (λi j=>HT.lexLt (rs.getD i []) (rs.getD j [])) (ao.length-1)<vs.length:=by rw [rv.length];exact hi
  obtain ⟨u',mV,C2⟩:=rv.get (mx sT)
  rw [hv] at mV
  cases mV
  exact ⟨_,H,LX I k1 hk,C2,qq _ _ (mx sT) b2⟩
noncomputable def Df(x:List Int):D:=.tup [.int (x.headD 0),.lst false (x.tail.map D.int)]
noncomputable def kF:List D->Option (List (List Int))
 | []=>some []
 | .tup [.int a,.lst false ds]::r=>(j6 ds).bind λx=>(kF r).map ((a::x)::·)
 | _::_=>none
theorem Rc:∀{ds:List D} {rs:List (List Int)},kF ds=some rs->ds=rs.map Df/\∀x∈rs,x≠[]
 | [],rs,e=>by cases e;exact ⟨rfl,λ_ h=>nomatch h⟩
 | d::r,rs,e=>by
  unfold kF at e
  split at e
  .rename_i h;cases h
  .rename_i a ds r' h
   cases h
   obtain ⟨x,e1,e2⟩:=bind_some e
   obtain ⟨y,e3,rfl⟩:=map_some e2
   obtain ⟨f1,f2⟩:=Rc e3
   refine ⟨?_,λz hz=>?_⟩
   .rw [fF,<-f1,LZ e1];rfl
   .rcases bH.mp hz with rfl | hz
    .exact λz=>nomatch z
    .exact f2 z hz
  .cases e
noncomputable def EF(f:En->Option (Bool×List D)):En->Option Sl:=λenv=>(f env).bind λx=>(kF x.2).bind λrs=>if rs≠[] then some (.sh (Df (fQ rs))) else none
theorem b6g(hg:Gl X "min")(hm:X.mg "min" = none)(hc:X.calm=true)(hu:X.A.units+8<cLine)(ha:BV X a ba)(hs:starEach [a] X.env=[(false,eval a X.env)]:=by rfl):EV X (.Call (.Name "min" p) [a] [] pos) (EF ba):=by
 obtain ⟨t,pt,k⟩:=ha
 refine ⟨_,vQ (b2g hc (by ext hu)) hg hm (by decide +kernel) (pV pt qz hs) (by decide) (by decide) hs rfl,λO B σ H env s Q R e q=>?_⟩
 obtain ⟨⟨kk,ds⟩,e1,e2⟩:=bind_some e
 obtain ⟨rs,e3,e4⟩:=bind_some e2
 obtain ⟨bP,rfl⟩:=iM e4
 obtain ⟨tf,e5⟩:=Rc e3
 dsimp only at tf
 subst tf
 refine k O B σ H env kk _ _ R e1 λl xs H1 s1 hq hx=>⟨l,kk,xs,rs,rfl,hq,bP,by rw [hx.length,bB],λi v hv=>?_,λi v hv em=>?_⟩
 .obtain ⟨d,hd,hi⟩:=hx.pI hv
  rw [rJ] at hd
  obtain ⟨x,ex,rfl⟩:=map_some hd
  obtain ⟨c,ys,rfl,h1,h2⟩:=w9 hi
  cases h2 with
  | cons g1 g2 =>
   cases g2 with
   | cons g2 g3 =>
    cases g3
    rw [fH g1] at h1
    obtain ⟨m,zs,rfl,g4,g5⟩:=g2.seq (k:=true) rfl
    refine ⟨c,m,_,x.tail,rfl,h1,?_,?_⟩
    .rw [<-Lq g5];exact g4
    .rw [vy,ex]
     have:=e5 x (JA ex)
     show x=_
     cases x with
     | nil=>exact absurd rfl this
     | cons a r=>rfl
 .obtain ⟨d,hd,hi⟩:=hx.pI hv
  rw [rJ] at hd
  obtain ⟨x,ex,rfl⟩:=map_some hd
  rw [vy,ex] at em
  have em:x=fQ rs:=em
  rw [em] at hi
  exact q _ H1 s1 hi
theorem Q1{α:Type}{f:α->Int}{g:α->List Int}:∀(xs:List α),kF (xs.map λx=>.tup [.int (f x),.lst false ((g x).map D.int)])=some (xs.map λx=>f x::g x)
 | []=>rfl
 | x::r=>by
  show ((j6 ((g x).map D.int)).bind λy=>(kF (r.map λx=>.tup [.int (f x),.lst false ((g x).map D.int)])).map ((f x::y)::·))=_
  rw [Q1 r,BY]
  rfl
theorem b4x(e:f env=some (k,ds))(h:kF ds=some rs)(hn:rs≠[]):Wo (EF f env) Q↔Q (.sh (Df (fQ rs))):=by
 unfold EF
 rw [e,ni]
 show Wo ((kF ds).bind _) Q↔_
 rw [h,ni,if_pos hn,a0g]
end
end DL
namespace DL
open PySem PySem.Spec PyProof.Rows L2
section
variable {X:Cx}{a b c:Expr}{pos:Pos}{fa fb fc:En->Option Sl}
noncomputable def rq(f:En->Option Bool):En->Option Sl:=λenv=>(f env).map λb=>.sh (.bl b)
theorem b3M(ho:jT X (compareOp op) g)(jy:jT X (compareOp yZ) g')(ha:EV X a fa)(hb:EV X b fb)(hc:EV X c fc)(hm:lastMarks [op,yZ] [b,c]=false:=by with_unfolding_all rfl):
  EV X (.Compare a [op,yZ] [b,c] pos) (rq (oP (bX (aa g fa fb)) (bX (aa g' fb fc)))):=by
 obtain ⟨r,hr,hg⟩:=ho
 obtain ⟨r',mY,HD⟩:=jy
 obtain ⟨ta,pa,ka⟩:=ha
 obtain ⟨tb,pb,kb⟩:=hb
 obtain ⟨tc,pc,kc⟩:=hc
 refine ⟨_,b3b hr mY pa pb pc hm,λO B σ H env k Q R e q=>?_⟩
 obtain ⟨bb,e',rfl⟩:=map_some e
 clear e
 have e:=e'
 clear e'
 unfold oP at e
 cases e1:bX (aa g fa fb) env with
 | none=>rw [e1] at e;cases e
 | some b1 =>
  rw [e1] at e
  obtain ⟨x,ex,e3⟩:=bind_some (xr e1)
  obtain ⟨y,ey,e4⟩:=bind_some e3
  refine ka O B σ H env x _ R ex λv H1 s1 h1=>?_
  refine kb O B σ H1 env y _ (R.grow s1) ey λu H2 s2 h2=>?_
  have R2:=(R.grow s1).grow s2
  refine hg (OO O σ env) H2 v u x.d y.d _ _ (λq=>R2.oo) ((h1.is λq=>R.oo).grow s2) (h2.is λq=>(R.grow s1).oo) e4 λw H3 s3 h3=>?_
  refine ⟨b1,rT h3,?_⟩
  cases b1 with
  | false =>
   cases e
   rw [if_neg (by decide)]
   exact q _ H3 ((s1.trans s2).trans s3) (Is.bl _)
  | true =>
   rw [if_pos rfl]
   obtain ⟨y',N0,e5⟩:=bind_some (xr e)
   rw [ey] at N0
   cases N0
   obtain ⟨z,ez,e6⟩:=bind_some e5
   have R3:=R2.grow s3
   refine kc O B σ H3 env z _ R3 ez λw' H4 s4 h4=>?_
   have R4:=R3.grow s4
   refine HD (OO O σ env) H4 u w' y.d z.d _ _ (λq=>R4.oo) (((h2.is λq=>(R.grow s1).oo).grow s3).grow s4) (h4.is λq=>R3.oo) e6 λw2 H5 s5 h5=>?_
   exact q _ H5 ((((s1.trans s2).trans s3).trans s4).trans s5) (by rw [rT h5];exact Is.bl _)
theorem b7b:Wo (rq f env) Q↔Wo (f env) λb=>Q (.sh (.bl b)):=by
 unfold rq
 cases f env with
 | none=>simp [a0o]
 | some b=>simp [a0g]
end
end DL
namespace DL
open PySem PySem.Spec PyProof.Rows L2
section
variable {X:Cx}{b e:Expr}{fa fb:En->Option Sl}{pos:Pos}
theorem b1Q:CH X (λo i H Q=>∃p xs k v,o=.ref p/\i=.int k/\dX X.K H p xs/\0<=k/\xs[k.toNat]?=some v/\Q v H):=by
 intro pins s σ H o i ov iv Q I ro ri h
 obtain ⟨p,xs,k,v,rfl,rfl,hq,h0,hv,q⟩:=h
 cases ro
 obtain ⟨t,rfl⟩:=ri
 obtain ⟨ao,r,pl,hz⟩:=I.list hq
 obtain ⟨w,ew,qP⟩:=r.get hv
 have hn:=vL
 have hl:=r.length
 have hk:=(iu.mp hv).1
 exact wpAny_getItem_list pl.isList h0 (by ext hz hn hk) (by simpa using ew) ⟨v,H,I,qP,q⟩
theorem b58{α:Type}{c:Prop}[Decidable c]{o:Option α}{y:α}(h:(if c then o else none)=some y):c/\o=some y:=by
 by_cases hc:c
 .rw [if_pos hc] at h;exact ⟨hc,h⟩
 .rw [if_neg hc] at h;cases h
noncomputable def wY(i:Nat)(g f:En->Option Sl):SF:=λenv=>match env[i]? with
 | some (.ow ds)=>(g env).bind λk=>match k.d with
  | .int n=>if 0<=n then (match ds[n.toNat]? with
   | some (.int m)=>(f env).bind λr=>(match r.d with
    | .int v=>some (.nx,env.set i (.ow (ds.set n.toNat (.int (m+v)))))
    | _=>none)
   | _=>none) else none
  | _=>none
 | _=>none
theorem b5s{i:Nat}{x:Str}{p1 p2:Pos}(hb:EV X b fb)(ha:EV X e fa)(hN:X.N[i]?=some x)(hv:gU X.env.scope x)(hd:(x==("__debug__":Str))=false:=by decide)(cI:(x==("__classdict__":Str))=false:=by decide)
  (HR:∀ov iv new,augStore b ov iv new=(do holding [new,ov,iv] (setItem ov iv new);release [new,ov,iv] [];pure .next):=by intros;rfl):
  SV X (.AugAssign (.Subscript (.Name x p1) b p2) .Add e pos) (wY i fb fa):=by
 obtain ⟨t,p,k⟩:=ha
 obtain ⟨t',p',k'⟩:=hb
 refine ⟨_,b5E (rY hN hv hd cI) p' b1Q p PR QN HR,λO B σ H env fl ai D R e q=>?_⟩
 unfold wY at e
 cases h:env[i]? with
 | none=>rw [h] at e;cases e
 | some s =>
  rw [h] at e
  cases s with
  | no=>cases e
  | sh d=>cases e
  | dw d=>cases e
  | ow ds =>
   obtain ⟨kk,e2,e3⟩:=bind_some e
   obtain ⟨l,xs,f1,f2,f3,f4⟩:=R.ow i ds h
   refine ⟨_,f1,?_⟩
   refine k' O B σ H env kk _ R e2 λw H1 s1 r1=>?_
   have hi:=r1.is λq=>R.oo
   cases hd:kk.d with
   | int n =>
    rw [hd] at hi e3
    obtain rfl:=fH hi
    obtain ⟨h0,e4⟩:=b58 e3
    cases hm:ds[n.toNat]? with
    | none=>rw [hm] at e4;cases e4
    | some dm =>
     rw [hm] at e4
     cases dm with
     | int m =>
      obtain ⟨r,e5,e6⟩:=bind_some e4
      obtain ⟨xm,Xd,im⟩:=f4.get hm
      obtain rfl:=fH im
      refine ⟨l,xs,n,.int m,rfl,rfl,.inl (.inl (s1 _ _ f3)),h0,Xd,?_⟩
      refine k O B σ H1 env r _ (R.grow s1) e5 λv H2 s2 r2=>?_
      have uO:=r2.is λq=>(R.grow s1).oo
      cases hd2:r.d with
      | int j =>
       rw [hd2] at uO e6
       obtain rfl:=fH uO
       cases e6
       have gJ:=s1.trans s2
       have aT:=(iu.mp hm).1
       refine ⟨m,j,rfl,rfl,l,xs,n,n.toNat,rfl,rfl,gJ _ _ f3,?_,?_⟩
       .unfold jg
        rw [if_pos h0,if_pos (by have:=f4.length;ext aT this)]
       .obtain ⟨R',g'⟩:=(R.grow gJ).wr h f1 ((f4.grow gJ).set (Is.int (m+j)) n.toNat)
        exact q _ _ R' (g'.from gJ)
      | _=>rw [hd2] at e6;cases e6
     | _=>cases e4
   | _=>rw [hd] at e3;cases e3
theorem Fx.Kj{N:List Str}{sc:Scope}{kk:Nat}{full:Bool}(h:Fx X N sc kk full)(i:Nat){x:Str}{p1 p2:Pos}(hb:EV X b fb)(ha:EV X e fa)(hN:N[i]?=some x:=by rfl)(hv:gU sc x:=by first | exact bO rfl | exact aW (bO rfl) | exact aW (aW rfl))(hd:(x==("__debug__":Str))=false:=by rfl)(cI:(x==("__classdict__":Str))=false:=by rfl)
  (HR:∀ov iv new,augStore b ov iv new=(do holding [new,ov,iv] (setItem ov iv new);release [new,ov,iv] [];pure .next):=by intros;rfl):
  SV X (.AugAssign (.Subscript (.Name x p1) b p2) .Add e pos) (wY i fb fa):=b5s hb ha (h.ix hN) (h.qd hv) hd cI HR
theorem b4f{i:Nat}{env:En}{ds:List D}{n:Nat}{m v:Int}(he:env[i]?=some (.ow ds))(hg:g env=some (.sh (.int n)))(hm:ds[n]?=some (.int m))(hf:f env=some (.sh (.int v))):Wo (wY i g f env) Q↔Q (.nx,env.set i (.ow (ds.set n (.int (m+v))))):=by
 unfold wY
 rw [he]
 dsimp only
 rw [hg,ni]
 show Wo (if (0:Int)<=n then _ else _) Q↔_
 rw [if_pos (by ext),wJ,hm]
 dsimp only
 rw [hf,ni]
 exact a0g
end
section
variable {X:Cx}{W:L2.St->Hp->Value->Prop}{re:En->Option Str}{pos:Pos}
end
end DL
namespace My
open PySem L2 DL
noncomputable def top(i:Nat):Stmt:=PySem.Challenge.pw_offerhouse_k56_whole_none_cheaper.main.body.getD i (.Pass ⟨0,0,0,0⟩)
noncomputable abbrev Sj:Stmt:=top 54
noncomputable abbrev Mm{α:Type}(Y:Str->Stmt->List Str->α):α:=Y "_law_whole" Sj ["found"]
noncomputable def Ma:SF:=
 (av (jE (jD "int" (eV 0)) (mn (jD "bool" (eV 0)))))
noncomputable def xD:List D->Option Sl:=aF Ma 1
theorem lh:Wo (xD [a0]) Q↔Wo (Ma [.sh a0]) (aJ Q):=cM
noncomputable abbrev RT:Stmt:=top 55
noncomputable abbrev LJ{α:Type}(Y:Str->Stmt->List Str->α):α:=Y "_law_cost" RT ["rows","x"]
noncomputable def LR:SF:=
 (ah (fO (eV 0) (gT 4 (fG (gN 2) (fG (gN 3) (fG (gN 4) (fG (gN 5) oM)))))
 (cE (oP (bX (aa qo (eV 2) (eV 1))) (bX (aa qo (eV 1) (eV 3))))
 (av (aa aV (eV 4) (aa eR (eV 5) (aa c6 (eV 1) (eV 2))))) cZ))
 (av (eC .aR)))
noncomputable def Ct:List D->Option Sl:=aF LR 6
theorem mL:Wo (Ct [a0,a1]) Q↔Wo (LR [.sh a0,.sh a1,.no,.no,.no,.no]) (aJ Q):=cM
noncomputable abbrev Sk:Stmt:=top 57
noncomputable abbrev Mn{α:Type}(Y:Str->Stmt->List Str->α):α:=Y "_law_worth" Sk ["every","shares"]
noncomputable def Mb:SF:=
 (ah (cE (iR (oQ (cO (jD "list" (eV 1)))) (bX (aa gy (bZ (bV 1)) (bZ (bV 0)))))
 (av (eC .aR)) cZ)
 (ah (bg 2 (eC (.int 0)))
 (ah (Bm (gC iO (af (eV 0) (af (eV 1) ae))) (gT 2 (fG (gN 3) (fG (gN 4) oM)))
 (ah (bg 5 (eC .aR))
 (ah (cE (cO (aN 1 xD (af (eV 4) ae)))
 (bg 5 (aN 2 Ct (af (eV 3) (af (eV 4) ae)))) cZ)
 (ah (cE (bX (aa rh (eV 5) (eC .aR)))
 (av (eC .aR)) cZ)
 (bg 2 (aa aV (eV 2) (eV 5)))))))
 (av (eV 2)))))
noncomputable def xE:List D->Option Sl:=aF Mb 6
theorem lg:Wo (xE [a0,a1]) Q↔Wo (Mb [.sh a0,.sh a1,.no,.no,.no,.no]) (aJ Q):=cM
noncomputable abbrev SK:Stmt:=top 40
noncomputable abbrev MM{α:Type}(Y:Str->Stmt->List Str->α):α:=Y "how_many_picks" SK ["forms"]
noncomputable def ML:SF:=
 (ah (bg 1 (eC (.int 1)))
 (ah (fO (eV 0) (gN 2)
 (EI 1 (bZ (bV 2))))
 (av (eV 1))))
noncomputable def xP:List D->Option Sl:=aF ML 3
theorem f':Wo (xP [a0]) Q↔Wo (ML [.sh a0,.no,.no]) (aJ Q):=cM
noncomputable abbrev QS:Stmt:=top 39
noncomputable abbrev KP{α:Type}(Y:Str->Stmt->List Str->α):α:=Y "picks" QS ["forms"]
noncomputable def BP:SF:=
 (ah (cE (bX (aa rj (aN 1 xP (af (eV 0) ae)) (eC (.int 100))))
 EW cZ)
 (ah (cE (bX (aa dj (aN 1 xP (af (eV 0) ae)) (eC (.int 0))))
 (av (bG ae)) cZ)
 (ah (bg 1 (bG (af (bG ae) ae)))
 (ah (fO (eV 0) (gN 2)
 (ah (dP 3 (bG ae))
 (ah (fO (eV 1) (gN 4)
 (kq 3 (fZ (eW (eV 2)) [4] 1 (gN 0) jL (aa aV (eV 1) (bG (af (eV 0) ae))))))
 (o5 3 (bg 1 (eV 3))))))
 (av (eV 1))))))
noncomputable def r6:List D->Option Sl:=aF BP 5
theorem jO:Wo (r6 [a0]) Q↔Wo (BP [.sh a0,.no,.no,.no,.no]) (aJ Q):=cM
noncomputable abbrev RP:Stmt:=top 42
noncomputable abbrev Ln{α:Type}(Y:Str->Stmt->List Str->α):α:=Y "reaches" RP ["rows","x"]
noncomputable def LG:SF:=
 (av (rq (oP (bX (aa qo (iq (fE (fZ (eW (eV 0)) [] 1 (gN 0) jL (az (bV 0) (eC (.int 0)))))) (eV 1))) (bX (aa qo (eV 1) (iq (fE (fZ (eW (eV 0)) [] 1 (gN 0) jL (az (bV 0) (eC (.int 1)))))))))))
noncomputable def vS:List D->Option Sl:=aF LG 2
theorem oh:Wo (vS [a0,a1]) Q↔Wo (LG [.sh a0,.sh a1]) (aJ Q):=cM
noncomputable abbrev RN:Stmt:=top 7
noncomputable abbrev Lk{α:Type}(Y:Str->Stmt->List Str->α):α:=Y "line_at" RN ["line","low","x"]
noncomputable def LC:SF:=
 (av (aa aV (az (bV 0) (eC (.int 0))) (aa eR (az (bV 0) (eC (.int 1))) (aa c6 (eV 2) (eV 1)))))
noncomputable def tZ:List D->Option Sl:=aF LC 3
theorem oj:Wo (tZ [a0,a1,a2]) Q↔Wo (LC [.sh a0,.sh a1,.sh a2]) (aJ Q):=cM
noncomputable abbrev Sb:Stmt:=top 18
noncomputable abbrev L1{α:Type}(Y:Str->Stmt->List Str->α):α:=Y "drawn_to" Sb ["row","x"]
noncomputable def LP:SF:=
 (av (aN 3 tZ (af (bF (af (az (bV 0) (eC (.int 2))) (af (az (bV 0) (eC (.int 3))) ae))) (af (az (bV 0) (eC (.int 0))) (af (eV 1) ae)))))
noncomputable def sd:List D->Option Sl:=aF LP 2
theorem mN:Wo (sd [a0,a1]) Q↔Wo (LP [.sh a0,.sh a1]) (aJ Q):=cM
noncomputable abbrev QP:Stmt:=top 44
noncomputable abbrev KN{α:Type}(Y:Str->Stmt->List Str->α):α:=Y "dealt" QP ["rows","x"]
noncomputable def Kp:SF:=
 (ah (dP 2 (fZ (eW (eV 0)) [] 1 (gN 0) jL (az (bV 0) (eC (.int 0)))))
 (ah (bg 3 (aa c6 (eV 1) (iq (bV 2))))
 (ah (fO (EX 0 (az (fE (az (bV 1) (eV 0))) (eC (.int 3))) (af (bZ (bV 0)) ae)) (gN 4)
 (ah (bg 5 (tU w6 (af (eV 3) (af (aa c6 (az (fE (az (bV 0) (eV 4))) (eC (.int 1))) (az (fE (az (bV 0) (eV 4))) (eC (.int 0)))) ae))))
 (ah (wY 2 (eV 4) (eV 5))
 (EJ 3 (eV 5)))))
 (oN 2))))
noncomputable def xB:List D->Option Sl:=aF Kp 6
theorem sr:Wo (xB [a0,a1]) Q↔Wo (Kp [.sh a0,.sh a1,.no,.no,.no,.no]) (aJ Q):=cM
noncomputable abbrev SI:Stmt:=top 43
noncomputable abbrev MI{α:Type}(Y:Str->Stmt->List Str->α):α:=Y "cost_and_shares" SI ["rows","x"]
noncomputable def MH:SF:=
 (ah (bg 2 (aN 2 xB (af (eV 0) (af (eV 1) ae))))
 (av (bF (af (iq (fE (fZ (gC iO (af (eV 0) (af (eV 2) ae))) [] 2 (gT 2 (fG (gN 0) (fG (gN 1) oM))) jL (aN 2 sd (af (eV 0) (af (eV 1) ae)))))) (af (eV 2) ae)))))
noncomputable def r9:List D->Option Sl:=aF MH 3
theorem fC:Wo (r9 [a0,a1]) Q↔Wo (MH [.sh a0,.sh a1,.no]) (aJ Q):=cM
noncomputable abbrev SE:Stmt:=top 41
noncomputable abbrev MF{α:Type}(Y:Str->Stmt->List Str->α):α:=Y "best_dealt" SE ["forms","x"]
noncomputable def L3:SF:=
 (ah (bg 2 (fZ (eW (aN 1 r6 (af (eV 0) ae))) [1] 1 (gN 0) (cO (aN 2 vS (af (eV 0) (af (eV 1) ae)))) (aN 2 r9 (af (eV 0) (af (eV 1) ae)))))
 (ah (cE (oQ (cO (eV 2)))
 EW cZ)
 (av (az (fE (EF (bV 2))) (eC (.int 1))))))
noncomputable def Cc:List D->Option Sl:=aF L3 3
theorem jR:Wo (Cc [a0,a1]) Q↔Wo (L3 [.sh a0,.sh a1,.no]) (aJ Q):=cM
noncomputable abbrev So:Stmt:=top 47
noncomputable abbrev Mq{α:Type}(Y:Str->Stmt->List Str->α):α:=Y "shares_at" So ["forms","x"]
noncomputable def Me:SF:=
 (av (aN 2 Cc (af (eV 0) (af (eV 1) ae))))
noncomputable def Cr:List D->Option Sl:=aF Me 2
theorem kX:Wo (Cr [a0,a1]) Q↔Wo (Me [.sh a0,.sh a1]) (aJ Q):=cM
noncomputable abbrev RX:Stmt:=top 23
noncomputable abbrev LM{α:Type}(Y:Str->Stmt->List Str->α):α:=Y "place_of" RX ["form","x"]
noncomputable def Sa:En->Nat:=λ_=>1000000
noncomputable def LV:SF:=
 (ah (bg 2 (eC (.int 0)))
 (ah (bg 3 (bZ (bV 0)))
 (ah (BG Sa (bX (aa iV (eV 2) (eV 3)))
 (ah (bg 4 (aa dk (aa aV (eV 2) (eV 3)) (eC (.int 2))))
 (cE (bX (aa iV (az (fE (az (bV 0) (eV 4))) (eC (.int 1))) (eV 1)))
 (bg 2 (aa aV (eV 4) (eC (.int 1)))) (bg 3 (eV 4)))))
 (av (eV 2)))))
noncomputable def xI:List D->Option Sl:=aF LV 5
theorem mI:Wo (xI [a0,a1]) Q↔Wo (LV [.sh a0,.sh a1,.no,.no,.no]) (aJ Q):=cM
noncomputable abbrev RK:Stmt:=top 22
noncomputable abbrev Lh{α:Type}(Y:Str->Stmt->List Str->α):α:=Y "cost_at" RK ["form","x"]
noncomputable def Lz:SF:=
 (ah (bg 2 (aN 2 xI (af (eV 0) (af (eV 1) ae))))
 (ah (cE (iR (bX (aa dj (eV 2) (bZ (bV 0)))) (bX (aa iV (eV 1) (az (fE (az (bV 0) (eV 2))) (eC (.int 0))))))
 (av (eC .aR)) cZ)
 (av (aN 2 sd (af (az (bV 0) (eV 2)) (af (eV 1) ae))))))
noncomputable def B5:List D->Option Sl:=aF Lz 3
theorem ot:Wo (B5 [a0,a1]) Q↔Wo (Lz [.sh a0,.sh a1,.no]) (aJ Q):=cM
noncomputable abbrev RU:Stmt:=top 58
noncomputable abbrev LK{α:Type}(Y:Str->Stmt->List Str->α):α:=Y "_law_good" RU ["every","forms","found","shares"]
noncomputable def LS:SF:=
 (ah (bg 4 (iq (bV 3)))
 (ah (bg 5 (aN 2 B5 (af (eV 2) (af (eV 4) ae))))
 (ah (cE (iR (oQ (cO (aN 1 xD (af (eV 5) ae)))) (bX (aa rj (eV 5) (aN 2 xE (af (eV 0) (af (eV 3) ae))))))
 (av (eC (.bl false))) cZ)
 (ah (bg 6 (aN 2 Cr (af (eV 1) (af (eV 4) ae))))
 (av (jE (aa dj (aN 2 xE (af (eV 0) (af (eV 6) ae))) (eV 5)) (aa dj (iq (bV 6)) (eV 4))))))))
noncomputable def Cu:List D->Option Sl:=aF LS 7
theorem mK:Wo (Cu [a0,a1,a2,a3]) Q↔Wo (LS [.sh a0,.sh a1,.sh a2,.sh a3,.no,.no,.no]) (aJ Q):=cM
noncomputable abbrev Si:Stmt:=top 56
noncomputable abbrev Ml{α:Type}(Y:Str->Stmt->List Str->α):α:=Y "_law_share" Si ["rows","m"]
noncomputable def L':SF:=
 (ah (qO (az (bV 0) (aa bY (eV 1) (bZ (bV 0)))) (gT 4 (fG (gN 2) (fG (gN 3) (fG (gN 4) (fG (gN 5) oM))))))
 (av (az (fE (bG (af (eV 2) (af (eV 3) (af (aa dk (aa aV (eV 2) (eV 3)) (eC (.int 2))) (af (aa aV (eV 2) (aa bY (eV 1) (aa aV (aa c6 (eV 3) (eV 2)) (eC (.int 1))))) ae)))))) (aa bY (aa dk (eV 1) (eC (.int 7))) (eC (.int 4))))))
noncomputable def vV:List D->Option Sl:=aF L' 6
theorem lj:Wo (vV [a0,a1]) Q↔Wo (L' [.sh a0,.sh a1,.no,.no,.no,.no]) (aJ Q):=cM
noncomputable abbrev Su:Stmt:=top 50
noncomputable abbrev Mi{α:Type}(Y:Str->Stmt->List Str->α):α:=Y "_law_mixed" Su ["cell","k"]
noncomputable def L8:SF:=
 (ah (bg 2 (aa eR (aa aV (aa bY (eV 0) (aa fS (eC (.int 10)) (eC (.int 60)))) (eC (.int 3))) (aa aV (eC (.int 16180339887498948482045868343656381177203)) (aa eR (aa eR (eC (.int 2)) (eV 1)) (eV 1)))))
 (ah (bg 2 (aa aV (eV 2) (aa eR (eC (.int 6151)) (eV 1))))
 (av (aa bY (aa eR (eV 2) (eV 2)) (aa aV (aa fS (eC (.int 10)) (eC (.int 60))) (eC (.int 33)))))))
noncomputable def p7:List D->Option Sl:=aF L8 3
theorem lr:Wo (p7 [a0,a1]) Q↔Wo (L8 [.sh a0,.sh a1,.no]) (aJ Q):=cM
noncomputable abbrev Sr:Stmt:=top 17
noncomputable abbrev Mh{α:Type}(Y:Str->Stmt->List Str->α):α:=Y "holds_one" Sr ["row"]
noncomputable def L7:SF:=
 (av (aa dj (az (bV 0) (eC (.int 0))) (az (bV 0) (eC (.int 1)))))
noncomputable def sf:List D->Option Sl:=aF L7 1
theorem lu:Wo (sf [a0]) Q↔Wo (L7 [.sh a0]) (aJ Q):=cM
noncomputable abbrev SH:Stmt:=top 16
noncomputable abbrev Mu{α:Type}(Y:Str->Stmt->List Str->α):α:=Y "may_follow" SH ["ahead","row"]
noncomputable def L5:SF:=
 (ah (cE (bX (aa gy (az (bV 1) (eC (.int 0))) (aa aV (az (bV 0) (eC (.int 1))) (eC (.int 1)))))
 (av (aa rj (az (bV 1) (eC (.int 0))) (az (bV 0) (eC (.int 1))))) cZ)
 (av (jE (mn (aN 1 sf (af (eV 0) ae))) (aa gy (az (bV 1) (eC (.int 2))) (aN 2 sd (af (eV 0) (af (az (bV 1) (eC (.int 0))) ae)))))))
noncomputable def Ce:List D->Option Sl:=aF L5 2
theorem jP:Wo (Ce [a0,a1]) Q↔Wo (L5 [.sh a0,.sh a1]) (aJ Q):=cM
noncomputable abbrev RS:Stmt:=top 15
noncomputable abbrev LI{α:Type}(Y:Str->Stmt->List Str->α):α:=Y "is_whole" RS ["part"]
noncomputable def LQ:SF:=
 (av (jE (jD "int" (eV 0)) (mn (jD "bool" (eV 0)))))
noncomputable def Cs:List D->Option Sl:=aF LQ 1
theorem mM:Wo (Cs [a0]) Q↔Wo (LQ [.sh a0]) (aJ Q):=cM
noncomputable abbrev SJ:Stmt:=top 14
noncomputable abbrev MK{α:Type}(Y:Str->Stmt->List Str->α):α:=Y "is_plain_stretch" SJ ["row"]
noncomputable def MJ:SF:=
 (ah (cE (iR (oQ (cO (jD "tuple" (eV 0)))) (bX (aa gy (bZ (bV 0)) (eC (.int 4)))))
 (av (eC (.bl false))) cZ)
 (ah (cE (oQ (cO (nO (fE (fZ (eW (eV 0)) [] 1 (gN 0) jL (aN 1 Cs (af (eV 0) ae)))))))
 (av (eC (.bl false))) cZ)
 (av (AJ (aa iV (az (bV 0) (eC (.int 0))) (az (bV 0) (eC (.int 1)))) (jE (aa dj (az (bV 0) (eC (.int 0))) (az (bV 0) (eC (.int 1)))) (aa dj (az (bV 0) (eC (.int 3))) (eC (.int 0))))))))
noncomputable def Cv:List D->Option Sl:=aF MJ 1
theorem e8:Wo (Cv [a0]) Q↔Wo (MJ [.sh a0]) (aJ Q):=cM
noncomputable abbrev RL:Stmt:=top 13
noncomputable abbrev Li{α:Type}(Y:Str->Stmt->List Str->α):α:=Y "is_form" RL ["value"]
noncomputable def LA:SF:=
 (ah (cE (oQ (cO (jD "tuple" (eV 0))))
 (av (eC (.bl false))) cZ)
 (ah (cE (oQ (cO (nO (fE (fZ (eW (eV 0)) [] 1 (gN 0) jL (aN 1 Cv (af (eV 0) ae)))))))
 (av (eC (.bl false))) cZ)
 (av (nO (fE (fZ (gC iO (af (eV 0) (af (rp (eV 0) (jV (eC (.int 1))) kD) ae))) [] 2 (gT 2 (fG (gN 0) (fG (gN 1) oM))) jL (aN 2 Ce (af (eV 0) (af (eV 1) ae)))))))))
noncomputable def B6:List D->Option Sl:=aF LA 1
theorem oq:Wo (B6 [a0]) Q↔Wo (LA [.sh a0]) (aJ Q):=cM
noncomputable abbrev QT:Stmt:=top 21
noncomputable abbrev KQ{α:Type}(Y:Str->Stmt->List Str->α):α:=Y "plain" QT ["row"]
noncomputable def Kr:SF:=
 (av (m8 (cO (aN 1 sf (af (eV 0) ae))) (bF (af (az (bV 0) (eC (.int 0))) (af (az (bV 0) (eC (.int 1))) (af (az (bV 0) (eC (.int 2))) (af (eC (.int 0)) ae))))) (eV 0)))
noncomputable def r8:List D->Option Sl:=aF Kr 1
theorem sj:Wo (r8 [a0]) Q↔Wo (Kr [.sh a0]) (aJ Q):=cM
noncomputable abbrev Sw:Stmt:=top 20
noncomputable abbrev MB{α:Type}(Y:Str->Stmt->List Str->α):α:=Y "laid_beside" Sw ["ahead","row"]
noncomputable def Mw:SF:=
 (ah (bg 2 (m8 (cO (aN 1 sf (af (eV 0) ae))) (aa c6 (az (bV 1) (eC (.int 2))) (az (bV 0) (eC (.int 2)))) (az (bV 0) (eC (.int 3)))))
 (ah (cE (bX (aa gy (az (bV 1) (eC (.int 2))) (aN 3 tZ (af (bF (af (az (bV 0) (eC (.int 2))) (af (eV 2) ae))) (af (az (bV 0) (eC (.int 0))) (af (az (bV 1) (eC (.int 0))) ae))))))
 (av (bG (af (eV 0) (af (aN 1 r8 (af (eV 1) ae)) ae)))) cZ)
 (ah (cE (iR (cO (aN 1 sf (af (eV 1) ae))) (bX (aa dj (az (bV 1) (eC (.int 3))) (eV 2))))
 (av (bG (af (bF (af (az (bV 0) (eC (.int 0))) (af (az (bV 1) (eC (.int 1))) (af (az (bV 0) (eC (.int 2))) (af (eV 2) ae))))) ae))) cZ)
 (ah (bg 3 (aN 1 r8 (af (bF (af (aa aV (az (bV 1) (eC (.int 0))) (eC (.int 1))) (af (az (bV 1) (eC (.int 1))) (af (aa aV (az (bV 1) (eC (.int 2))) (az (bV 1) (eC (.int 3)))) (af (az (bV 1) (eC (.int 3))) ae))))) ae)))
 (av (bG (af (bF (af (az (bV 0) (eC (.int 0))) (af (az (bV 1) (eC (.int 0))) (af (az (bV 0) (eC (.int 2))) (af (eV 2) ae))))) (af (eV 3) ae))))))))
noncomputable def Cf:List D->Option Sl:=aF Mw 4
theorem je:Wo (Cf [a0,a1]) Q↔Wo (Mw [.sh a0,.sh a1,.no,.no]) (aJ Q):=cM
noncomputable abbrev Qu:Stmt:=top 19
noncomputable abbrev Kf{α:Type}(Y:Str->Stmt->List Str->α):α:=Y "laid" Qu ["rows"]
noncomputable def JW:SF:=
 (ah (dP 1 (bG ae))
 (ah (fO (eV 0) (gN 2)
 (cE (oP (Bp (bV 1)) (bX (aa dj (aa aV (az (fE (az (bV 1) (kM (eC (.int 1))))) (eC (.int 1))) (eC (.int 1))) (az (bV 2) (eC (.int 0))))))
 (ah (lX 3 1)
 (kq 1 (aN 2 Cf (af (eV 3) (af (eV 2) ae))))) (dY 1 (aN 1 r8 (af (eV 2) ae)))))
 (av (By (bV 1)))))
noncomputable def p6:List D->Option Sl:=aF JW 4
theorem vY:Wo (p6 [a0]) Q↔Wo (JW [.sh a0,.no,.no,.no]) (aJ Q):=cM
noncomputable abbrev SD:Stmt:=top 11
noncomputable abbrev Mv{α:Type}(Y:Str->Stmt->List Str->α):α:=Y "stretch_on" SD ["line","low","first","last"]
noncomputable def L6:SF:=
 (av (bF (af (eV 2) (af (eV 3) (af (aN 3 tZ (af (eV 0) (af (eV 1) (af (eV 2) ae)))) (af (az (bV 0) (eC (.int 1))) ae))))))
noncomputable def t6:List D->Option Sl:=aF L6 4
theorem jN:Wo (t6 [a0,a1,a2,a3]) Q↔Wo (L6 [.sh a0,.sh a1,.sh a2,.sh a3]) (aJ Q):=cM
noncomputable abbrev SN:Stmt:=top 9
noncomputable abbrev Mt{α:Type}(Y:Str->Stmt->List Str->α):α:=Y "span_or_none" SN ["first","last"]
noncomputable def Mr:SF:=
 (av (m8 (bX (aa qo (eV 0) (eV 1))) (bF (af (eV 0) (af (eV 1) ae))) (eC .aR)))
noncomputable def xO:List D->Option Sl:=aF Mr 2
theorem iD:Wo (xO [a0,a1]) Q↔Wo (Mr [.sh a0,.sh a1]) (aJ Q):=cM
noncomputable abbrev Pa:Stmt:=top 5
noncomputable abbrev uf{α:Type}(Y:Str->Stmt->List Str->α):α:=Y "up" Pa ["a","b"]
noncomputable def v7:SF:=
 (av (kM (aa dk (kM (eV 0)) (eV 1))))
noncomputable def BF:List D->Option Sl:=aF v7 2
theorem MN:Wo (BF [a0,a1]) Q↔Wo (v7 [.sh a0,.sh a1]) (aJ Q):=cM
noncomputable abbrev Qt:Stmt:=top 6
noncomputable abbrev Ke{α:Type}(Y:Str->Stmt->List Str->α):α:=Y "down" Qt ["a","b"]
noncomputable def JV:SF:=
 (av (aa dk (eV 0) (eV 1)))
noncomputable def BZ:List D->Option Sl:=aF JV 2
theorem vZ:Wo (BZ [a0,a1]) Q↔Wo (JV [.sh a0,.sh a1]) (aJ Q):=cM
noncomputable abbrev Sn:Stmt:=top 8
noncomputable abbrev Mp{α:Type}(Y:Str->Stmt->List Str->α):α:=Y "no_dearer" Sn ["one","other","low","high"]
noncomputable def Md:SF:=
 (ah (bg 4 (aa c6 (az (bV 0) (eC (.int 0))) (az (bV 1) (eC (.int 0)))))
 (ah (bg 5 (aa c6 (az (bV 0) (eC (.int 1))) (az (bV 1) (eC (.int 1)))))
 (ah (cE (bX (aa rj (eV 5) (eC (.int 0))))
 (av (aN 2 xO (af (eV 2) (af (tU w6 (af (eV 3) (af (aa aV (eV 2) (aN 2 BZ (af (kM (eV 4)) (af (eV 5) ae)))) ae))) ae)))) cZ)
 (ah (cE (bX (aa iV (eV 5) (eC (.int 0))))
 (av (aN 2 xO (af (tU w5 (af (eV 2) (af (aa aV (eV 2) (aN 2 BF (af (eV 4) (af (kM (eV 5)) ae)))) ae))) (af (eV 3) ae)))) cZ)
 (av (m8 (bX (aa rj (eV 4) (eC (.int 0)))) (eC .aR) (bF (af (eV 2) (af (eV 3) ae)))))))))
noncomputable def Cq:List D->Option Sl:=aF Md 6
theorem kY:Wo (Cq [a0,a1,a2,a3]) Q↔Wo (Md [.sh a0,.sh a1,.sh a2,.sh a3,.no,.no]) (aJ Q):=cM
noncomputable abbrev SG:Stmt:=top 10
noncomputable abbrev MG{α:Type}(Y:Str->Stmt->List Str->α):α:=Y "lower_line" SG ["one","other","low","high"]
noncomputable def L4:SF:=
 (ah (bg 4 (aN 4 Cq (af (eV 0) (af (eV 1) (af (eV 2) (af (eV 3) ae))))))
 (ah (cE (bX (aa rh (eV 4) (eC .aR)))
 (av (bG (af (aN 4 t6 (af (eV 1) (af (eV 2) (af (eV 2) (af (eV 3) ae))))) ae))) cZ)
 (ah (dP 5 (bG ae))
 (ah (cE (bX (aa iV (eV 2) (az (bV 4) (eC (.int 0)))))
 (dY 5 (aN 4 t6 (af (eV 1) (af (eV 2) (af (eV 2) (af (aa c6 (az (bV 4) (eC (.int 0))) (eC (.int 1))) ae)))))) cZ)
 (ah (dY 5 (aN 4 t6 (af (eV 0) (af (eV 2) (af (az (bV 4) (eC (.int 0))) (af (az (bV 4) (eC (.int 1))) ae))))))
 (ah (cE (bX (aa iV (az (bV 4) (eC (.int 1))) (eV 3)))
 (dY 5 (aN 4 t6 (af (eV 1) (af (eV 2) (af (aa aV (az (bV 4) (eC (.int 1))) (eC (.int 1))) (af (eV 3) ae)))))) cZ)
 (oN 5)))))))
noncomputable def Cd:List D->Option Sl:=aF L4 6
theorem jQ:Wo (Cd [a0,a1,a2,a3]) Q↔Wo (L4 [.sh a0,.sh a1,.sh a2,.sh a3,.no,.no]) (aJ Q):=cM
noncomputable abbrev Sm:Stmt:=top 27
noncomputable abbrev Mo{α:Type}(Y:Str->Stmt->List Str->α):α:=Y "line_from" Sm ["row","low"]
noncomputable def Mc:SF:=
 (av (bF (af (aN 2 sd (af (eV 0) (af (eV 1) ae))) (af (az (bV 0) (eC (.int 3))) ae))))
noncomputable def xF:List D->Option Sl:=aF Mc 2
theorem kZ:Wo (xF [a0,a1]) Q↔Wo (Mc [.sh a0,.sh a1]) (aJ Q):=cM
noncomputable abbrev PD:Stmt:=top 26
noncomputable abbrev JP{α:Type}(Y:Str->Stmt->List Str->α):α:=Y "met" PD ["one","other"]
noncomputable def PY:En->Nat:=λ_=>1000000
noncomputable def JL:SF:=
 (ah (dP 2 (bG ae))
 (ah (bg 3 (eC (.int 0)))
 (ah (bg 4 (eC (.int 0)))
 (ah (BG PY (oP (bX (aa iV (eV 3) (bZ (bV 0)))) (bX (aa iV (eV 4) (bZ (bV 1)))))
 (ah (bg 5 (az (bV 0) (eV 3)))
 (ah (bg 6 (az (bV 1) (eV 4)))
 (ah (bg 7 (tU w5 (af (az (bV 5) (eC (.int 0))) (af (az (bV 6) (eC (.int 0))) ae))))
 (ah (bg 8 (tU w6 (af (az (bV 5) (eC (.int 1))) (af (az (bV 6) (eC (.int 1))) ae))))
 (ah (cE (bX (aa qo (eV 7) (eV 8)))
 (dY 2 (bF (af (eV 7) (af (eV 8) (af (aN 2 xF (af (eV 5) (af (eV 7) ae))) (af (aN 2 xF (af (eV 6) (af (eV 7) ae))) ae)))))) cZ)
 (cE (bX (aa iV (az (bV 5) (eC (.int 1))) (az (bV 6) (eC (.int 1)))))
 (iT 3 (eC (.int 1))) (iT 4 (eC (.int 1))))))))))
 (oN 2)))))
noncomputable def BN:List D->Option Sl:=aF JL 9
theorem Cz:Wo (BN [a0,a1]) Q↔Wo (JL [.sh a0,.sh a1,.no,.no,.no,.no,.no,.no,.no]) (aJ Q):=cM
noncomputable abbrev Sz:Stmt:=top 33
noncomputable abbrev MD{α:Type}(Y:Str->Stmt->List Str->α):α:=Y "lesser_rows" Sz ["one","other"]
noncomputable def MA:SF:=
 (ah (dP 2 (bG ae))
 (ah (fO (aN 2 BN (af (eV 0) (af (eV 1) ae))) (gT 4 (fG (gN 3) (fG (gN 4) (fG (gN 5) (fG (gN 6) oM)))))
 (kq 2 (aN 4 Cd (af (eV 5) (af (eV 6) (af (eV 3) (af (eV 4) ae)))))))
 (oN 2)))
noncomputable def Cj:List D->Option Sl:=aF MA 7
theorem jc:Wo (Cj [a0,a1]) Q↔Wo (MA [.sh a0,.sh a1,.no,.no,.no,.no,.no]) (aJ Q):=cM
noncomputable abbrev PC:Stmt:=top 28
noncomputable abbrev JO{α:Type}(Y:Str->Stmt->List Str->α):α:=Y "cut" PC ["row","low","high"]
noncomputable def JJ:SF:=
 (av (bF (af (eV 1) (af (eV 2) (af (aN 2 sd (af (eV 0) (af (eV 1) ae))) (af (az (bV 0) (eC (.int 3))) ae))))))
noncomputable def xp:List D->Option Sl:=aF JJ 3
theorem CB:Wo (xp [a0,a1,a2]) Q↔Wo (JJ [.sh a0,.sh a1,.sh a2]) (aJ Q):=cM
noncomputable abbrev RO:Stmt:=top 29
noncomputable abbrev Ll{α:Type}(Y:Str->Stmt->List Str->α):α:=Y "outside" RO ["form","spans"]
noncomputable def RH:En->Nat:=λ_=>1000000
noncomputable def LF:SF:=
 (ah (dP 2 (bG ae))
 (ah (bg 3 (eC (.int 0)))
 (ah (fO (eV 0) (gN 4)
 (ah (bg 5 (az (bV 4) (eC (.int 0))))
 (ah (BG RH (oP (bX (aa iV (eV 3) (bZ (bV 1)))) (bX (aa qo (az (fE (az (bV 1) (eV 3))) (eC (.int 0))) (az (bV 4) (eC (.int 1))))))
 (ah (cE (bX (aa iV (eV 5) (az (fE (az (bV 1) (eV 3))) (eC (.int 0)))))
 (dY 2 (aN 3 xp (af (eV 4) (af (eV 5) (af (aa c6 (az (fE (az (bV 1) (eV 3))) (eC (.int 0))) (eC (.int 1))) ae))))) cZ)
 (ah (bg 5 (tU w5 (af (eV 5) (af (aa aV (az (fE (az (bV 1) (eV 3))) (eC (.int 1))) (eC (.int 1))) ae))))
 (ah (cE (bX (aa rj (az (fE (az (bV 1) (eV 3))) (eC (.int 1))) (az (bV 4) (eC (.int 1)))))
 Gp cZ)
 (iT 3 (eC (.int 1)))))))
 (cE (bX (aa qo (eV 5) (az (bV 4) (eC (.int 1)))))
 (dY 2 (aN 3 xp (af (eV 4) (af (eV 5) (af (az (bV 4) (eC (.int 1))) ae))))) cZ))))
 (oN 2))))
noncomputable def xH:List D->Option Sl:=aF LF 6
theorem oi:Wo (xH [a0,a1]) Q↔Wo (LF [.sh a0,.sh a1,.no,.no,.no,.no]) (aJ Q):=cM
noncomputable abbrev RY:Stmt:=top 24
noncomputable abbrev LN{α:Type}(Y:Str->Stmt->List Str->α):α:=Y "spans_of" RY ["form"]
noncomputable def LW:SF:=
 (ah (dP 1 (bG ae))
 (ah (fO (eV 0) (gN 2)
 (cE (oP (Bp (bV 1)) (bX (aa dj (aa aV (az (fE (az (bV 1) (kM (eC (.int 1))))) (eC (.int 1))) (eC (.int 1))) (az (bV 2) (eC (.int 0))))))
 (ah (lX 3 1)
 (dY 1 (bF (af (az (bV 3) (eC (.int 0))) (af (az (bV 2) (eC (.int 1))) ae))))) (dY 1 (bF (af (az (bV 2) (eC (.int 0))) (af (az (bV 2) (eC (.int 1))) ae))))))
 (av (By (bV 1)))))
noncomputable def vX:List D->Option Sl:=aF LW 4
theorem mH:Wo (vX [a0]) Q↔Wo (LW [.sh a0,.no,.no,.no]) (aJ Q):=cM
noncomputable abbrev QR:Stmt:=top 31
noncomputable abbrev KO{α:Type}(Y:Str->Stmt->List Str->α):α:=Y "least" QR ["one","other"]
noncomputable def Kq:SF:=
 (ah (bg 2 (aa aV (aN 2 xH (af (eV 0) (af (aN 1 vX (af (eV 1) ae)) ae))) (aN 2 xH (af (eV 1) (af (aN 1 vX (af (eV 0) ae)) ae)))))
 (av (aN 1 p6 (af (E1 (aa aV (aN 2 Cj (af (eV 0) (af (eV 1) ae))) (eV 2))) ae))))
noncomputable def qE:List D->Option Sl:=aF Kq 3
theorem sk:Wo (qE [a0,a1]) Q↔Wo (Kq [.sh a0,.sh a1,.no]) (aJ Q):=cM
noncomputable abbrev RW:Stmt:=top 32
noncomputable abbrev kj{α:Type}(Y:Str->Stmt->List Str->α):α:=Y "least_of" RW ["forms"]
noncomputable def Ci:List D->Option Sl:=λ_=>none
noncomputable def Sd:SF:=
 (ah (cE (bX (aa iV (bZ (bV 0)) (eC (.int 2))))
 (av (m8 (cO (eV 0)) (az (bV 0) (eC (.int 0))) (bF ae))) cZ)
 (ah (bg 1 (aa dk (bZ (bV 0)) (eC (.int 2))))
 (av (aN 2 qE (af (aN 1 Ci (af (kJ (bV 0) kD (jV (eV 1))) ae)) (af (aN 1 Ci (af (kJ (bV 0) (jV (eV 1)) kD) ae)) ae))))))
noncomputable def xJ:List D->Option Sl:=aF Sd 2
theorem a7o:Wo (xJ [a0]) Q↔Wo (Sd [.sh a0,.no]) (aJ Q):=cM
noncomputable def Se:SF:=
 (ah (cE (bX (aa iV (bZ (bV 0)) (eC (.int 2))))
 (av (m8 (cO (eV 0)) (az (bV 0) (eC (.int 0))) (bF ae))) cZ)
 (ah (bg 1 (aa dk (bZ (bV 0)) (eC (.int 2))))
 (av (aN 2 qE (af (aN 1 xJ (af (kJ (bV 0) kD (jV (eV 1))) ae)) (af (aN 1 xJ (af (kJ (bV 0) (jV (eV 1)) kD) ae)) ae))))))
noncomputable def xK:List D->Option Sl:=aF Se 2
theorem a7n:Wo (xK [a0]) Q↔Wo (Se [.sh a0,.no]) (aJ Q):=cM
noncomputable def Sf:SF:=
 (ah (cE (bX (aa iV (bZ (bV 0)) (eC (.int 2))))
 (av (m8 (cO (eV 0)) (az (bV 0) (eC (.int 0))) (bF ae))) cZ)
 (ah (bg 1 (aa dk (bZ (bV 0)) (eC (.int 2))))
 (av (aN 2 qE (af (aN 1 xK (af (kJ (bV 0) kD (jV (eV 1))) ae)) (af (aN 1 xK (af (kJ (bV 0) (jV (eV 1)) kD) ae)) ae))))))
noncomputable def xM:List D->Option Sl:=aF Sf 2
theorem a7m:Wo (xM [a0]) Q↔Wo (Sf [.sh a0,.no]) (aJ Q):=cM
noncomputable def Sg:SF:=
 (ah (cE (bX (aa iV (bZ (bV 0)) (eC (.int 2))))
 (av (m8 (cO (eV 0)) (az (bV 0) (eC (.int 0))) (bF ae))) cZ)
 (ah (bg 1 (aa dk (bZ (bV 0)) (eC (.int 2))))
 (av (aN 2 qE (af (aN 1 xM (af (kJ (bV 0) kD (jV (eV 1))) ae)) (af (aN 1 xM (af (kJ (bV 0) (jV (eV 1)) kD) ae)) ae))))))
noncomputable def xN:List D->Option Sl:=aF Sg 2
theorem a7l:Wo (xN [a0]) Q↔Wo (Sg [.sh a0,.no]) (aJ Q):=cM
noncomputable def Mz:SF:=
 (ah (cE (bX (aa iV (bZ (bV 0)) (eC (.int 2))))
 (av (m8 (cO (eV 0)) (az (bV 0) (eC (.int 0))) (bF ae))) cZ)
 (ah (bg 1 (aa dk (bZ (bV 0)) (eC (.int 2))))
 (av (aN 2 qE (af (aN 1 xN (af (kJ (bV 0) kD (jV (eV 1))) ae)) (af (aN 1 xN (af (kJ (bV 0) (jV (eV 1)) kD) ae)) ae))))))
noncomputable def vW:List D->Option Sl:=aF Mz 2
theorem eO:Wo (vW [a0]) Q↔Wo (Mz [.sh a0,.no]) (aJ Q):=cM
noncomputable abbrev RQ:Stmt:=top 37
noncomputable abbrev Lo{α:Type}(Y:Str->Stmt->List Str->α):α:=Y "step_of" RQ ["row"]
noncomputable def LH:SF:=
 (av (az (bV 0) (eC (.int 3))))
noncomputable def t7:List D->Option Sl:=aF LH 1
theorem og:Wo (t7 [a0]) Q↔Wo (LH [.sh a0]) (aJ Q):=cM
noncomputable abbrev Ri:Stmt:=top 36
noncomputable abbrev Lb{α:Type}(Y:Str->Stmt->List Str->α):α:=Y "poured" Ri ["rows"]
noncomputable def KW:SF:=
 (ah (bg 1 (iq (fE (fZ (eW (eV 0)) [] 1 (gN 0) jL (az (bV 0) (eC (.int 0)))))))
 (ah (bg 2 (iq (fE (fZ (eW (eV 0)) [] 1 (gN 0) jL (az (bV 0) (eC (.int 2)))))))
 (ah (dP 3 (bG (af (bF (af (eV 1) (af (eV 1) (af (eV 2) (af (eC (.int 0)) ae))))) ae)))
 (ah (fO (Bx t7 (eV 0)) (gN 4)
 (ah (bg 5 (aa c6 (az (bV 4) (eC (.int 1))) (az (bV 4) (eC (.int 0)))))
 (ah (cE (bX (aa rj (eV 5) (eC (.int 0))))
 (dY 3 (bF (af (aa aV (eV 1) (eC (.int 1))) (af (aa aV (eV 1) (eV 5)) (af (aa aV (eV 2) (az (bV 4) (eC (.int 3)))) (af (az (bV 4) (eC (.int 3))) ae)))))) cZ)
 (ah (iT 1 (eV 5))
 (iT 2 (aa eR (az (bV 4) (eC (.int 3))) (eV 5)))))))
 (o5 3 (av (aN 1 p6 (af (eV 3) ae))))))))
noncomputable def vU:List D->Option Sl:=aF KW 6
theorem p9:Wo (vU [a0]) Q↔Wo (KW [.sh a0,.no,.no,.no,.no,.no]) (aJ Q):=cM
noncomputable abbrev SM:Stmt:=top 38
noncomputable abbrev Ms{α:Type}(Y:Str->Stmt->List Str->α):α:=Y "least_poured" SM ["forms"]
noncomputable def FU:SF:=
 (av (aN 1 vW (af (fZ (eW (aN 1 r6 (af (eV 0) ae))) [] 1 (gN 0) jL (aN 1 vU (af (eV 0) ae))) ae)))
noncomputable def Cy:List D->Option Sl:=aF FU 1
theorem d9:Wo (Cy [a0]) Q↔Wo (FU [.sh a0]) (aJ Q):=cM
noncomputable abbrev Rx:Stmt:=top 46
noncomputable abbrev La{α:Type}(Y:Str->Stmt->List Str->α):α:=Y "joined" Rx ["forms"]
noncomputable def KU:SF:=
 (av (aN 1 Cy (af (eV 0) ae)))
noncomputable def xy:List D->Option Sl:=aF KU 1
theorem qa:Wo (xy [a0]) Q↔Wo (KU [.sh a0]) (aJ Q):=cM
noncomputable abbrev RM:Stmt:=top 52
noncomputable abbrev Lj{α:Type}(Y:Str->Stmt->List Str->α):α:=Y "_law_row" RM ["at","m","ahead"]
noncomputable def LB:SF:=
 (ah (bg 3 (aa aV (eV 0) (az (fE (bG (af (eC (.int 0)) (af (eC (.int 0)) (af (eC (.int 1)) (af (aa aV (eC (.int 1)) (aa bY (eV 1) (eC (.int 7)))) (af (aa bY (eV 1) (aa fS (eC (.int 10)) (eC (.int 40)))) ae))))))) (aa bY (aa dk (eV 1) (eC (.int 8))) (eC (.int 5))))))
 (ah (bg 1 (aN 2 p7 (af (eV 1) (af (eC (.int 61)) ae))))
 (ah (bg 4 (az (fE (bG (af (eC (.int 0)) (af (eC (.int 1)) (af (aa bY (eV 1) (eC (.int 6))) (af (aa bY (eV 1) (aa fS (eC (.int 10)) (eC (.int 40)))) ae)))))) (aa bY (aa dk (eV 1) (eC (.int 16))) (eC (.int 4)))))
 (ah (bg 1 (aN 2 p7 (af (eV 1) (af (eC (.int 62)) ae))))
 (ah (bg 5 (aa c6 (aa bY (aa dk (eV 1) (eC (.int 4))) (eC (.int 41))) (eC (.int 20))))
 (ah (cE (bX (aa dj (aa bY (eV 1) (eC (.int 4))) (eC (.int 0))))
 (bg 5 (aa c6 (aa bY (aa dk (eV 1) (eC (.int 4))) (aa fS (eC (.int 10)) (eC (.int 45)))) (aa eR (eC (.int 5)) (aa fS (eC (.int 10)) (eC (.int 44)))))) cZ)
 (ah (cE (bX (aa dj (aa bY (eV 1) (eC (.int 4))) (eC (.int 1))))
 (bg 5 (aa aV (az (bV 2) (eC (.int 2))) (aa eR (az (bV 2) (eC (.int 3))) (aa c6 (eV 3) (az (bV 2) (eC (.int 0))))))) cZ)
 (ah (bg 1 (aN 2 p7 (af (eV 1) (af (eC (.int 63)) ae))))
 (ah (bg 6 (aa c6 (aa bY (aa dk (eV 1) (eC (.int 3))) (eC (.int 7))) (eC (.int 3))))
 (ah (cE (bX (aa dj (aa bY (eV 1) (eC (.int 3))) (eC (.int 0))))
 (bg 6 (aa c6 (aa bY (aa dk (eV 1) (eC (.int 3))) (aa fS (eC (.int 10)) (eC (.int 30)))) (aa eR (eC (.int 5)) (aa fS (eC (.int 10)) (eC (.int 29)))))) cZ)
 (av (bF (af (eV 3) (af (aa aV (eV 3) (eV 4)) (af (eV 5) (af (eV 6) ae))))))))))))))))
noncomputable def xG:List D->Option Sl:=aF LB 7
theorem om:Wo (xG [a0,a1,a2]) Q↔Wo (LB [.sh a0,.sh a1,.sh a2,.no,.no,.no,.no]) (aJ Q):=cM
noncomputable abbrev RV:Stmt:=top 53
noncomputable abbrev LL{α:Type}(Y:Str->Stmt->List Str->α):α:=Y "_law_rows" RV ["m","many"]
noncomputable def LU:SF:=
 (ah (bg 2 (aa c6 (aa bY (aa dk (eV 0) (eC (.int 5))) (eC (.int 41))) (eC (.int 20))))
 (ah (cE (bX (aa dj (aa bY (eV 0) (eC (.int 5))) (eC (.int 0))))
 (bg 2 (aa c6 (aa bY (aa dk (eV 0) (eC (.int 5))) (aa fS (eC (.int 10)) (eC (.int 45)))) (aa eR (eC (.int 5)) (aa fS (eC (.int 10)) (eC (.int 44)))))) cZ)
 (ah (dP 3 (bG ae))
 (ah (bg 4 (bF (af (eC (.int 0)) (af (eC (.int 0)) (af (eC (.int 0)) (af (eC (.int 1)) ae))))))
 (ah (EK qQ (af (eV 1) ae) (gN 5)
 (ah (bg 0 (aN 2 p7 (af (eV 0) (af (aa aV (eC (.int 70)) (eV 5)) ae))))
 (ah (bg 4 (aN 3 xG (af (eV 2) (af (eV 0) (af (eV 4) ae)))))
 (ah (dY 3 (eV 4))
 (bg 2 (aa aV (az (bV 4) (eC (.int 1))) (eC (.int 1))))))))
 (oN 3))))))
noncomputable def se:List D->Option Sl:=aF LU 6
theorem mJ:Wo (se [a0,a1]) Q↔Wo (LU [.sh a0,.sh a1,.no,.no,.no,.no]) (aJ Q):=cM
noncomputable abbrev Sv:Stmt:=top 51
noncomputable abbrev Mj{α:Type}(Y:Str->Stmt->List Str->α):α:=Y "_law_seeds" Sv ["cells","most"]
noncomputable def L9:SF:=
 (ah (dP 2 (fZ (gC EH (af (eV 1) ae)) [] 1 (gN 0) jL (aN 2 p7 (af (eV 0) (af (eC (.int 40)) ae)))))
 (ah (Bm (gC vI (af (eV 0) ae)) (gT 2 (fG (gN 3) (fG (gN 4) oM)))
 (ah (bg 5 (aa bY (eV 3) (eV 1)))
 (wZ 2 (aN 2 p7 (af (aa aV (az (bV 2) (eV 5)) (aa bY (eV 4) (aa fS (eC (.int 10)) (eC (.int 60))))) (af (aa bY (eV 3) (eC (.int 37))) ae))) (eV 5))))
 (oN 2)))
noncomputable def xC:List D->Option Sl:=aF L9 6
theorem lq:Wo (xC [a0,a1]) Q↔Wo (L9 [.sh a0,.sh a1,.no,.no,.no,.no]) (aJ Q):=cM
noncomputable abbrev Sy:Stmt:=top 49
noncomputable abbrev MC{α:Type}(Y:Str->Stmt->List Str->α):α:=Y "_law_cell_at" Sy ["script","k"]
noncomputable def Mx:SF:=
 (ah (cE (bX (aa iV (eV 1) (bZ (bV 0))))
 (av (az (bV 0) (eV 1))) cZ)
 (av (eC (.int 0))))
noncomputable def Cg:List D->Option Sl:=aF Mx 2
theorem jd:Wo (Cg [a0,a1]) Q↔Wo (Mx [.sh a0,.sh a1]) (aJ Q):=cM
noncomputable abbrev BH:Stmt:=top 59
noncomputable abbrev ya{α:Type}(Y:Str->Stmt->List Str->α):α:=Y "law" BH ["script"]
noncomputable def JK:SF:=
 (ah (bg 1 (az (fE (bG (af (bG (af (eC (.int 3)) (af (eC (.int 3)) ae))) (af (bG (af (eC (.int 2)) (af (eC (.int 2)) (af (eC (.int 2)) ae)))) (af (bG (af (eC (.int 4)) (af (eC (.int 2)) ae))) (af (bG (af (eC (.int 3)) (af (eC (.int 2)) (af (eC (.int 1)) ae)))) ae)))))) (aa bY (aN 2 Cg (af (eV 0) (af (eC (.int 0)) ae))) (eC (.int 4)))))
 (ah (bg 2 (aN 2 xC (af (kJ (bV 0) (jV (eC (.int 1))) kD) (af (bZ (bV 1)) ae))))
 (ah (bg 3 (fZ (gC iO (af (eV 2) (af (eV 1) ae))) [] 2 (gT 2 (fG (gN 0) (fG (gN 1) oM))) jL (aN 2 se (af (eV 0) (af (eV 1) ae)))))
 (ah (bg 4 (fZ (eW (eV 3)) [] 1 (gN 0) jL (aN 1 p6 (af (eV 0) ae))))
 (ah (bg 5 (aN 1 xy (af (eV 4) ae)))
 (ah (cE (oQ (cO (aN 1 B6 (af (eV 5) ae))))
 (av (eC (.bl false))) cZ)
 (ah (Bm (gC vI (af (aa aV (bG (af (eC (.int 0)) ae)) (kJ (bV 0) kD (jV (eC (.int 20))))) ae)) (gT 2 (fG (gN 6) (fG (gN 7) oM)))
 (ah (bg 8 (fZ (gC vI (af (eV 3) ae)) [7,6] 2 (gT 2 (fG (gN 0) (fG (gN 1) oM))) jL (aN 2 vV (af (eV 1) (af (aN 2 p7 (af (eV 2) (af (aa aV (aa eR (eC (.int 3)) (eV 3)) (eV 0)) ae))) ae)))))
 (cE (oQ (cO (aN 4 Cu (af (eV 3) (af (eV 4) (af (eV 5) (af (eV 8) ae)))))))
 (av (eC (.bl false))) cZ)))
 (av (eC (.bl true))))))))))
noncomputable def E5:List D->Option Sl:=aF JK 9
theorem CA:Wo (E5 [a0]) Q↔Wo (JK [.sh a0,.no,.no,.no,.no,.no,.no,.no,.no]) (aJ Q):=cM
section
variable {P:Program}{w:World}{K:aA}{mg:Str->Option Value}{base:Heap}
variable (z_max:mg "max" = none)
variable (z_min:mg "min" = none)
variable (z_all:mg "all" = none)
variable (z_zip:mg "zip" = none)
variable (z_isinstance:mg "isinstance" = none)
variable (z_tuple:mg "tuple" = none)
variable (z_len:mg "len" = none)
variable (z_bool:mg "bool" = none)
variable (z_int:mg "int" = none)
variable (z_sorted:mg "sorted" = none)
variable (z_sum:mg "sum" = none)
variable (z_MOST_PICKS:MX mg "MOST_PICKS" 100)
variable (z_range:mg "range" = none)
variable (z_enumerate:mg "enumerate" = none)
variable (z_list:mg "list" = none)
include z_isinstance z_bool z_int in
theorem a7R(D':Mm (Def K mg) a d):Mm (Oz P w K mg base) 1 xD:=aQ (N:=["found"]) D' λX r h=>by
 cases r
 exact (aM (bC (Bz (vK (bO rfl) h.g z_isinstance h.g z_int (by decide +kernel) (h.v 0)) (xj (J5 (vK (aW (bO rfl)) h.g z_isinstance h.g z_bool (by decide +kernel) (h.v 0)))))))
variable (vR:Mm (Oz P w K mg base) 1 xD)
theorem a8Q(D':LJ (Def K mg) a d):LJ (Oz P w K mg base) 1 Ct:=aQ (N:=["rows","x","low","high","price","step"]) D' λX r h=>by
 cases r
 exact (aE (qA h.own h.calm (h.v 0) (qy (n:=4) h.calm (gp (h.tg 2) (gp (h.tg 3) (gp (h.tg 4) (gp (h.tg 5) qC))))) (aM (dA (iP (BB (dg tR (h.v 2) (h.v 1)) (BI (dg tR (h.v 1) (h.v 3))))) (aM (bC (aH dW (h.v 4) (aH n5 (h.v 5) (aH j9 (h.v 1) (h.v 2)))))) dO))) (aM (bC rV)))
variable (Fy:LJ (Oz P w K mg base) 1 Ct)
include z_zip z_isinstance z_len z_list vR Fy in
theorem a7Q(D':Mn (Def K mg) a d):Mn (Oz P w K mg base) 2 xE:=aQ (N:=["every","shares","total","rows","share","cost"]) D' λX r h=>by
 cases r
 exact (aE (dA (iP (Bq (rX (jM (vK (aW (aW (aW (bO rfl)))) h.g z_isinstance h.g z_list (by decide +kernel) (h.v 1)))) (BC (dg (BE h.u8) (iB h.g z_len (h.bv 1)) (iB h.g z_len (h.bv 0)))))) (aM (bC rV)) dO) (aE (h.aC 2 aj) (aE (KL h.own h.calm (ET h.g z_zip (ag (h.v 0) (ag (h.v 1) aw))) (qy (n:=2) h.calm (gp (h.tg 3) (gp (h.tg 4) qC))) (aE (h.aC 5 rV) (aE (dA (jM (h.cl vR (ag (h.v 4) aw))) (aM (h.aC 5 (h.cl Fy (ag (h.v 3) (ag (h.v 4) aw))))) dO) (aE (dA (dg Po (h.v 5) rV) (aM (bC rV)) dO) (aM (h.aC 2 (aH dW (h.v 2) (h.v 5)))))))) (aM (bC (h.v 2))))))
variable (B3:Mn (Oz P w K mg base) 2 xE)
include z_len in
theorem a4E(D':MM (Def K mg) a d):MM (Oz P w K mg base) 1 xP:=aQ (N:=["forms","many","form"]) D' λX r h=>by
 cases r
 exact (aE (h.aC 1 aj) (aE (qA h.own h.calm (h.v 0) (h.tg 2) (aM (h.Kl 1 (iB h.g z_len (h.bv 2))))) (aM (bC (h.v 1)))))
variable (Cw:MM (Oz P w K mg base) 1 xP)
include z_MOST_PICKS Cw in
theorem b3f(D':KP (Def K mg) a d):KP (Oz P w K mg base) 2 r6:=aQ (N:=["forms","ways","form","longer","rows"]) D' λX r h=>by
 cases r
 exact (aE (dA (dg vJ (h.cl Cw (ag (h.v 0) aw)) (b3L h.g z_MOST_PICKS)) (aM Qv) dO) (aE (dA (dg (nD h.u8) (h.cl Cw (ag (h.v 0) aw)) aj) (aM (bC (gq aw))) dO) (aE (h.aC 1 (gq (ag (gq aw) aw))) (aE (qA h.own h.calm (h.v 0) (h.tg 2) (aE (h.set 3 (gq aw)) (aE (qA h.own h.calm (h.v 1) (h.tg 4) (aM (h.ext 3 (qB (N':=["row","rows"]) (caps:=[4]) (nt:=1) h ⟨rfl,by decide +kernel,by decide +kernel,by decide +kernel,by decide +kernel,rfl,rfl,by decide +kernel⟩ (pW (h.v 2)) (λX1 cC cw cu cn cj h1=>⟨(h1.tg 0),mE,(aH dW (h1.v 1) (gq (ag (h1.v 0) aw)))⟩))))) (aM (PF 3 (h.aC 1 (h.v 3))))))) (aM (bC (h.v 1)))))))
variable (vM:KP (Oz P w K mg base) 2 r6)
include z_sum in
theorem b0r(D':Ln (Def K mg) a d):Ln (Oz P w K mg base) 1 vS:=aQ (N:=["rows","x"]) D' λX r h=>by
 cases r
 exact (aM (bC (b3M tR tR (tW h.g z_sum h.calm (gE (qB (N':=["row"]) (caps:=[]) (nt:=1) h ⟨rfl,by decide +kernel,by decide +kernel,by decide +kernel,by decide +kernel,rfl,rfl,by decide +kernel⟩ (pW (h.v 0)) (λX1 cC cw cu cn cj h1=>⟨(h1.tg 0),mE,(aG (h1.bv 0) aj)⟩)))) (h.v 1) (tW h.g z_sum h.calm (gE (qB (N':=["row"]) (caps:=[]) (nt:=1) h ⟨rfl,by decide +kernel,by decide +kernel,by decide +kernel,by decide +kernel,rfl,rfl,by decide +kernel⟩ (pW (h.v 0)) (λX1 cC cw cu cn cj h1=>⟨(h1.tg 0),mE,(aG (h1.bv 0) aj)⟩)))))))
variable (Fq:Ln (Oz P w K mg base) 1 vS)
theorem b0t(D':Lk (Def K mg) a d):Lk (Oz P w K mg base) 1 tZ:=aQ (N:=["line","low","x"]) D' λX r h=>by
 cases r
 exact (aM (bC (aH dW (aG (h.bv 0) aj) (aH n5 (aG (h.bv 0) aj) (aH j9 (h.v 2) (h.v 1))))))
variable (qD:Lk (Oz P w K mg base) 1 tZ)
include qD in
theorem a8S(D':L1 (Def K mg) a d):L1 (Oz P w K mg base) 2 sd:=aQ (N:=["row","x"]) D' λX r h=>by
 cases r
 exact (aM (bC (h.cl qD (ag (gS (ag (aG (h.bv 0) aj) (ag (aG (h.bv 0) aj) aw))) (ag (aG (h.bv 0) aj) (ag (h.v 1) aw))))))
variable (lT:L1 (Oz P w K mg base) 2 sd)
include z_min z_len z_sorted z_sum z_range in
theorem b3h(D':KN (Def K mg) a d){cT pT:Addr}(cI:d.code=.ref cT)(hT:nu K "dealt" = some (cT,pT))(hC:Ed K cT pT=true):KN (Oz P w K mg base) 3 xB:=Az (N:=["rows","x","shares","left","place","more"]) D' cI hT hC λX r h L=>by
 cases r
 exact (aE (xq (i:=2) true (N':=["row"]) (caps:=[]) (nt:=1) h ⟨rfl,by decide +kernel,by decide +kernel,by decide +kernel,by decide +kernel,rfl,rfl,by decide +kernel⟩ (pW (h.v 0)) (λX1 cC cw cu cn cj h1=>⟨(h1.tg 0),mE,(aG (h1.bv 0) aj)⟩)) (aE (h.aC 3 (aH j9 (h.v 1) (tW h.g z_sum h.calm (h.bv 2)))) (aE (qA h.own h.calm (b3K L h ⟨rfl,rfl,rfl,by decide +kernel,by decide +kernel,by decide +kernel,by decide +kernel,by decide +kernel⟩ (h.room.mono (by decide)) h.g z_sorted h.g z_range (i:=0) rfl (by decide +kernel) rfl (λcc hc=>b8K (by decide +kernel) hc) (λ_ _ _ _ _=>rfl) (λX' _ _ _ _ _ h'=>(aG (gE (aG (h'.bv 1) (h'.v 0))) aj)) (ag (iB h.g z_len (h.bv 0)) aw)) (h.tg 4) (aE (h.aC 5 (xt (Kx h.calm) h.g z_min (by decide +kernel) (ag (h.v 3) (ag (aH j9 (aG (gE (aG (h.bv 0) (h.v 4))) aj) (aG (gE (aG (h.bv 0) (h.v 4))) aj)) aw)))) (aE (h.Kj 2 (h.v 4) (h.v 5)) (aM (h.Kk 3 (h.v 5)))))) (aM (h.l5 2)))))
variable (EY:KN (Oz P w K mg base) 3 xB)
include z_zip z_sum lT EY in
theorem a4a(D':MI (Def K mg) a d):MI (Oz P w K mg base) 4 r9:=aQ (N:=["rows","x","shares"]) D' λX r h=>by
 cases r
 exact (aE (h.aC 2 (h.cl EY (ag (h.v 0) (ag (h.v 1) aw)))) (aM (bC (gS (ag (tW h.g z_sum h.calm (gE (qB (N':=["row","share"]) (caps:=[]) (nt:=2) h ⟨rfl,by decide +kernel,by decide +kernel,by decide +kernel,by decide +kernel,rfl,rfl,by decide +kernel⟩ (ET h.g z_zip (ag (h.v 0) (ag (h.v 2) aw))) (λX1 cC cw cu cn cj h1=>⟨(qy (n:=2) h1.calm (gp (h1.tg 0) (gp (h1.tg 1) qC))),mE,(h1.cl (gw cC cw cu cn cj lT) (ag (h1.v 0) (ag (h1.v 1) aw)))⟩)))) (ag (h.v 2) aw))))))
variable (FO:MI (Oz P w K mg base) 4 r9)
include z_min vM Fq FO in
theorem a6Y(D':MF (Def K mg) a d):MF (Oz P w K mg base) 5 Cc:=aQ (N:=["forms","x","found"]) D' λX r h=>by
 cases r
 exact (aE (xq (i:=2) false (N':=["rows","x"]) (caps:=[1]) (nt:=1) h ⟨rfl,by decide +kernel,by decide +kernel,by decide +kernel,by decide +kernel,rfl,rfl,by decide +kernel⟩ (pW (h.cl vM (ag (h.v 0) aw))) (λX1 cC cw cu cn cj h1=>⟨(h1.tg 0),(b8m (jM (h1.cl (gw cC cw cu cn cj Fq) (ag (h1.v 0) (ag (h1.v 1) aw))))),(h1.cl (gw cC cw cu cn cj FO) (ag (h1.v 0) (ag (h1.v 1) aw)))⟩)) (aE (dA (rX (jM (h.v 2))) (aM Qv) dO) (aM (bC (aG (gE (b6g h.g z_min h.calm h.u8 (h.bv 2))) aj)))))
variable (FE:MF (Oz P w K mg base) 5 Cc)
include FE in
theorem a7N(D':Mq (Def K mg) a d):Mq (Oz P w K mg base) 6 Cr:=aQ (N:=["forms","x"]) D' λX r h=>by
 cases r
 exact (aM (bC (h.cl FE (ag (h.v 0) (ag (h.v 1) aw)))))
variable (FN:Mq (Oz P w K mg base) 6 Cr)
include z_len in
theorem a8N(D':LM (Def K mg) a d):LM (Oz P w K mg base) 1 xI:=aQ (N:=["form","x","first","behind","middle"]) D' λX r h=>by
 cases r
 exact (aE (h.aC 2 aj) (aE (h.aC 3 (iB h.g z_len (h.bv 0))) (aE (K' Sa h.own (dg j7 (h.v 2) (h.v 3)) (aE (h.aC 4 (aH j8 (aH dW (h.v 2) (h.v 3)) aj)) (aM (dA (dg j7 (aG (gE (aG (h.bv 0) (h.v 4))) aj) (h.v 1)) (aM (h.aC 2 (aH dW (h.v 4) aj))) (aM (h.aC 3 (h.v 4))))))) (aM (bC (h.v 2))))))
variable (FC:LM (Oz P w K mg base) 1 xI)
include z_len lT FC in
theorem b0w(D':Lh (Def K mg) a d):Lh (Oz P w K mg base) 3 B5:=aQ (N:=["form","x","place"]) D' λX r h=>by
 cases r
 exact (aE (h.aC 2 (h.cl FC (ag (h.v 0) (ag (h.v 1) aw)))) (aE (dA (iP (Bq (dg (nD h.u8) (h.v 2) (iB h.g z_len (h.bv 0))) (BC (dg j7 (h.v 1) (aG (gE (aG (h.bv 0) (h.v 2))) aj))))) (aM (bC rV)) dO) (aM (bC (h.cl lT (ag (aG (h.bv 0) (h.v 2)) (ag (h.v 1) aw)))))))
variable (Fm:Lh (Oz P w K mg base) 3 B5)
include z_sum vR B3 FN Fm in
theorem a8P(D':LK (Def K mg) a d):LK (Oz P w K mg base) 7 Cu:=aQ (N:=["every","forms","found","shares","x","cost","told"]) D' λX r h=>by
 cases r
 exact (aE (h.aC 4 (tW h.g z_sum h.calm (h.bv 3))) (aE (h.aC 5 (h.cl Fm (ag (h.v 2) (ag (h.v 4) aw)))) (aE (dA (iP (Bq (rX (jM (h.cl vR (ag (h.v 5) aw)))) (BC (dg vJ (h.v 5) (h.cl B3 (ag (h.v 0) (ag (h.v 3) aw))))))) (aM (bC tQ)) dO) (aE (h.aC 6 (h.cl FN (ag (h.v 1) (ag (h.v 4) aw)))) (aM (bC (Bz (tV (nD h.u8) (h.cl B3 (ag (h.v 0) (ag (h.v 6) aw))) (h.v 5)) (xj (tV (nD h.u8) (tW h.g z_sum h.calm (h.bv 6)) (h.v 4))))))))))
variable (Fz:LK (Oz P w K mg base) 7 Cu)
include z_len in
theorem a7S(D':Ml (Def K mg) a d):Ml (Oz P w K mg base) 1 vV:=aQ (N:=["rows","m","low","high","price","step"]) D' λX r h=>by
 cases r
 exact (aE (b7C (aG (h.bv 0) (aH gF (h.v 1) (iB h.g z_len (h.bv 0)))) (qy (n:=4) h.calm (gp (h.tg 2) (gp (h.tg 3) (gp (h.tg 4) (gp (h.tg 5) qC)))))) (aM (bC (aG (gE (gq (ag (h.v 2) (ag (h.v 3) (ag (aH j8 (aH dW (h.v 2) (h.v 3)) aj) (ag (aH dW (h.v 2) (aH gF (h.v 1) (aH dW (aH j9 (h.v 3) (h.v 2)) aj))) aw)))))) (aH gF (aH j8 (h.v 1) aj) aj)))))
variable (FK:Ml (Oz P w K mg base) 1 vV)
theorem a7U(D':Mi (Def K mg) a d):Mi (Oz P w K mg base) 1 p7:=aQ (N:=["cell","k","big"]) D' λX r h=>by
 cases r
 exact (aE (h.aC 2 (aH n5 (aH dW (aH gF (h.v 0) (aH pZ aj aj)) aj) (aH dW aj (aH n5 (aH n5 aj (h.v 1)) (h.v 1))))) (aE (h.aC 2 (aH dW (h.v 2) (aH n5 aj (h.v 1)))) (aM (bC (aH gF (aH n5 (h.v 2) (h.v 2)) (aH dW (aH pZ aj aj) aj))))))
variable (lU:Mi (Oz P w K mg base) 1 p7)
theorem a7V(D':Mh (Def K mg) a d):Mh (Oz P w K mg base) 1 sf:=aQ (N:=["row"]) D' λX r h=>by
 cases r
 exact (aM (bC (tV (nD h.u8) (aG (h.bv 0) aj) (aG (h.bv 0) aj))))
variable (p8:Mh (Oz P w K mg base) 1 sf)
include lT p8 in
theorem a6V(D':Mu (Def K mg) a d):Mu (Oz P w K mg base) 3 Ce:=aQ (N:=["ahead","row"]) D' λX r h=>by
 cases r
 exact (aE (dA (dg (BE h.u8) (aG (h.bv 1) aj) (aH dW (aG (h.bv 0) aj) aj)) (aM (bC (tV vJ (aG (h.bv 1) aj) (aG (h.bv 0) aj)))) dO) (aM (bC (Bz (J5 (h.cl p8 (ag (h.v 0) aw))) (xj (tV (BE h.u8) (aG (h.bv 1) aj) (h.cl lT (ag (h.v 0) (ag (aG (h.bv 1) aj) aw)))))))))
variable (FG:Mu (Oz P w K mg base) 3 Ce)
include z_isinstance z_bool z_int in
theorem a8R(D':LI (Def K mg) a d):LI (Oz P w K mg base) 1 Cs:=aQ (N:=["part"]) D' λX r h=>by
 cases r
 exact (aM (bC (Bz (vK (bO rfl) h.g z_isinstance h.g z_int (by decide +kernel) (h.v 0)) (xj (J5 (vK (aW (bO rfl)) h.g z_isinstance h.g z_bool (by decide +kernel) (h.v 0)))))))
variable (Fw:LI (Oz P w K mg base) 1 Cs)
include z_all z_isinstance z_tuple z_len Fw in
theorem a3J(D':MK (Def K mg) a d):MK (Oz P w K mg base) 2 Cv:=aQ (N:=["row"]) D' λX r h=>by
 cases r
 exact (aE (dA (iP (Bq (rX (jM (vK (aW (aW (aW (aW rfl)))) h.g z_isinstance h.g z_tuple (by decide +kernel) (h.v 0)))) (BC (dg (BE h.u8) (iB h.g z_len (h.bv 0)) aj)))) (aM (bC tQ)) dO) (aE (dA (rX (jM (J4 h.g z_all h.calm (gE (qB (N':=["part"]) (caps:=[]) (nt:=1) h ⟨rfl,by decide +kernel,by decide +kernel,by decide +kernel,by decide +kernel,rfl,rfl,by decide +kernel⟩ (pW (h.v 0)) (λX1 cC cw cu cn cj h1=>⟨(h1.tg 0),mE,(h1.cl (gw cC cw cu cn cj Fw) (ag (h1.v 0) aw))⟩)))))) (aM (bC tQ)) dO) (aM (bC (AE (tV j7 (aG (h.bv 0) aj) (aG (h.bv 0) aj)) (xj (Bz (tV (nD h.u8) (aG (h.bv 0) aj) (aG (h.bv 0) aj)) (xj (tV (nD h.u8) (aG (h.bv 0) aj) aj)))))))))
variable (FW:MK (Oz P w K mg base) 2 Cv)
include z_all z_zip z_isinstance z_tuple FG FW in
theorem b0v(D':Li (Def K mg) a d):Li (Oz P w K mg base) 4 B6:=aQ (N:=["value"]) D' λX r h=>by
 cases r
 exact (aE (dA (rX (jM (vK (aW (aW (aW (aW rfl)))) h.g z_isinstance h.g z_tuple (by decide +kernel) (h.v 0)))) (aM (bC tQ)) dO) (aE (dA (rX (jM (J4 h.g z_all h.calm (gE (qB (N':=["row"]) (caps:=[]) (nt:=1) h ⟨rfl,by decide +kernel,by decide +kernel,by decide +kernel,by decide +kernel,rfl,rfl,by decide +kernel⟩ (pW (h.v 0)) (λX1 cC cw cu cn cj h1=>⟨(h1.tg 0),mE,(h1.cl (gw cC cw cu cn cj FW) (ag (h1.v 0) aw))⟩)))))) (aM (bC tQ)) dO) (aM (bC (J4 h.g z_all h.calm (gE (qB (N':=["ahead","row"]) (caps:=[]) (nt:=2) h ⟨rfl,by decide +kernel,by decide +kernel,by decide +kernel,by decide +kernel,rfl,rfl,by decide +kernel⟩ (ET h.g z_zip (ag (h.v 0) (ag (b1V (h.v 0) (n9 aj) n8) aw))) (λX1 cC cw cu cn cj h1=>⟨(qy (n:=2) h1.calm (gp (h1.tg 0) (gp (h1.tg 1) qC))),mE,(h1.cl (gw cC cw cu cn cj FG) (ag (h1.v 0) (ag (h1.v 1) aw)))⟩))))))))
variable (Fo:Li (Oz P w K mg base) 4 B6)
include p8 in
theorem b3e(D':KQ (Def K mg) a d):KQ (Oz P w K mg base) 2 r8:=aQ (N:=["row"]) D' λX r h=>by
 cases r
 exact (aM (bC (rP (jM (h.cl p8 (ag (h.v 0) aw))) (gS (ag (aG (h.bv 0) aj) (ag (aG (h.bv 0) aj) (ag (aG (h.bv 0) aj) (ag aj aw))))) (h.v 0))))
variable (tX:KQ (Oz P w K mg base) 2 r8)
include qD p8 tX in
theorem a6i(D':MB (Def K mg) a d):MB (Oz P w K mg base) 3 Cf:=aQ (N:=["ahead","row","step","rest"]) D' λX r h=>by
 cases r
 exact (aE (h.aC 2 (rP (jM (h.cl p8 (ag (h.v 0) aw))) (aH j9 (aG (h.bv 1) aj) (aG (h.bv 0) aj)) (aG (h.bv 0) aj))) (aE (dA (dg (BE h.u8) (aG (h.bv 1) aj) (h.cl qD (ag (gS (ag (aG (h.bv 0) aj) (ag (h.v 2) aw))) (ag (aG (h.bv 0) aj) (ag (aG (h.bv 1) aj) aw))))) (aM (bC (gq (ag (h.v 0) (ag (h.cl tX (ag (h.v 1) aw)) aw))))) dO) (aE (dA (iP (Bq (jM (h.cl p8 (ag (h.v 1) aw))) (BC (dg (nD h.u8) (aG (h.bv 1) aj) (h.v 2))))) (aM (bC (gq (ag (gS (ag (aG (h.bv 0) aj) (ag (aG (h.bv 1) aj) (ag (aG (h.bv 0) aj) (ag (h.v 2) aw))))) aw)))) dO) (aE (h.aC 3 (h.cl tX (ag (gS (ag (aH dW (aG (h.bv 1) aj) aj) (ag (aG (h.bv 1) aj) (ag (aH dW (aG (h.bv 1) aj) (aG (h.bv 1) aj)) (ag (aG (h.bv 1) aj) aw))))) aw))) (aM (bC (gq (ag (gS (ag (aG (h.bv 0) aj) (ag (aG (h.bv 1) aj) (ag (aG (h.bv 0) aj) (ag (h.v 2) aw))))) (ag (h.v 3) aw)))))))))
variable (FH:MB (Oz P w K mg base) 3 Cf)
include z_tuple tX FH in
theorem b5S(D':Kf (Def K mg) a d):Kf (Oz P w K mg base) 4 p6:=aQ (N:=["rows","made","row","ahead"]) D' λX r h=>by
 cases r
 exact (aE (h.set 1 (gq aw)) (aE (qA h.own h.calm (h.v 0) (h.tg 2) (aM (dA (iP (BB (Qp (h.bv 1)) (BI (dg (nD h.u8) (aH dW (aG (gE (aG (h.bv 1) (xi aj))) aj) aj) (aG (h.bv 2) aj))))) (aE (h.pop 3 1) (aM (h.ext 1 (h.cl FH (ag (h.v 3) (ag (h.v 2) aw)))))) (aM (h.app 1 (h.cl tX (ag (h.v 2) aw))))))) (aM (bC (QY h.g z_tuple (h.bv 1))))))
variable (qx:Kf (Oz P w K mg base) 4 p6)
include qD in
theorem a6T(D':Mv (Def K mg) a d):Mv (Oz P w K mg base) 2 t6:=aQ (N:=["line","low","first","last"]) D' λX r h=>by
 cases r
 exact (aM (bC (gS (ag (h.v 2) (ag (h.v 3) (ag (h.cl qD (ag (h.v 0) (ag (h.v 1) (ag (h.v 2) aw)))) (ag (aG (h.bv 0) aj) aw)))))))
variable (vT:Mv (Oz P w K mg base) 2 t6)
theorem a5G(D':Mt (Def K mg) a d):Mt (Oz P w K mg base) 1 xO:=aQ (N:=["first","last"]) D' λX r h=>by
 cases r
 exact (aM (bC (rP (dg tR (h.v 0) (h.v 1)) (gS (ag (h.v 0) (ag (h.v 1) aw))) rV)))
variable (Cb:Mt (Oz P w K mg base) 1 xO)
theorem y0(D':uf (Def K mg) a d):uf (Oz P w K mg base) 1 BF:=aQ (N:=["a","b"]) D' λX r h=>by
 cases r
 exact (aM (bC (xi (aH j8 (xi (h.v 0)) (h.v 1)))))
variable (O_up:uf (Oz P w K mg base) 1 BF)
theorem b5T(D':Ke (Def K mg) a d):Ke (Oz P w K mg base) 1 BZ:=aQ (N:=["a","b"]) D' λX r h=>by
 cases r
 exact (aM (bC (aH j8 (h.v 0) (h.v 1))))
variable (EO:Ke (Oz P w K mg base) 1 BZ)
include z_max z_min Cb O_up EO in
theorem a7O(D':Mp (Def K mg) a d):Mp (Oz P w K mg base) 2 Cq:=aQ (N:=["one","other","low","high","above","slope"]) D' λX r h=>by
 cases r
 exact (aE (h.aC 4 (aH j9 (aG (h.bv 0) aj) (aG (h.bv 1) aj))) (aE (h.aC 5 (aH j9 (aG (h.bv 0) aj) (aG (h.bv 1) aj))) (aE (dA (dg vJ (h.v 5) aj) (aM (bC (h.cl Cb (ag (h.v 2) (ag (xt (Kx h.calm) h.g z_min (by decide +kernel) (ag (h.v 3) (ag (aH dW (h.v 2) (h.cl EO (ag (xi (h.v 4)) (ag (h.v 5) aw)))) aw))) aw))))) dO) (aE (dA (dg j7 (h.v 5) aj) (aM (bC (h.cl Cb (ag (xt (Kw h.calm) h.g z_max (by decide +kernel) (ag (h.v 2) (ag (aH dW (h.v 2) (h.cl O_up (ag (h.v 4) (ag (xi (h.v 5)) aw)))) aw))) (ag (h.v 3) aw))))) dO) (aM (bC (rP (dg vJ (h.v 4) aj) rV (gS (ag (h.v 2) (ag (h.v 3) aw))))))))))
variable (FL:Mp (Oz P w K mg base) 2 Cq)
include vT FL in
theorem a6W(D':MG (Def K mg) a d):MG (Oz P w K mg base) 3 Cd:=aQ (N:=["one","other","low","high","span","rows"]) D' λX r h=>by
 cases r
 exact (aE (h.aC 4 (h.cl FL (ag (h.v 0) (ag (h.v 1) (ag (h.v 2) (ag (h.v 3) aw)))))) (aE (dA (dg Po (h.v 4) rV) (aM (bC (gq (ag (h.cl vT (ag (h.v 1) (ag (h.v 2) (ag (h.v 2) (ag (h.v 3) aw))))) aw)))) dO) (aE (h.set 5 (gq aw)) (aE (dA (dg j7 (h.v 2) (aG (h.bv 4) aj)) (aM (h.app 5 (h.cl vT (ag (h.v 1) (ag (h.v 2) (ag (h.v 2) (ag (aH j9 (aG (h.bv 4) aj) aj) aw))))))) dO) (aE (h.app 5 (h.cl vT (ag (h.v 0) (ag (h.v 2) (ag (aG (h.bv 4) aj) (ag (aG (h.bv 4) aj) aw)))))) (aE (dA (dg j7 (aG (h.bv 4) aj) (h.v 3)) (aM (h.app 5 (h.cl vT (ag (h.v 1) (ag (h.v 2) (ag (aH dW (aG (h.bv 4) aj) aj) (ag (h.v 3) aw))))))) dO) (aM (h.l5 5))))))))
variable (FF:MG (Oz P w K mg base) 3 Cd)
include lT in
theorem a7P(D':Mo (Def K mg) a d):Mo (Oz P w K mg base) 3 xF:=aQ (N:=["row","low"]) D' λX r h=>by
 cases r
 exact (aM (bC (gS (ag (h.cl lT (ag (h.v 0) (ag (h.v 1) aw))) (ag (aG (h.bv 0) aj) aw)))))
variable (B4:Mo (Oz P w K mg base) 3 xF)
include z_max z_min z_len B4 in
theorem b73(D':JP (Def K mg) a d):JP (Oz P w K mg base) 4 BN:=aQ (N:=["one","other","parts","first","second","mine","yours","low","high"]) D' λX r h=>by
 cases r
 exact (aE (h.set 2 (gq aw)) (aE (h.aC 3 aj) (aE (h.aC 4 aj) (aE (K' PY h.own (iP (BB (dg j7 (h.v 3) (iB h.g z_len (h.bv 0))) (BI (dg j7 (h.v 4) (iB h.g z_len (h.bv 1)))))) (aE (h.aC 5 (aG (h.bv 0) (h.v 3))) (aE (h.aC 6 (aG (h.bv 1) (h.v 4))) (aE (h.aC 7 (xt (Kw h.calm) h.g z_max (by decide +kernel) (ag (aG (h.bv 5) aj) (ag (aG (h.bv 6) aj) aw)))) (aE (h.aC 8 (xt (Kx h.calm) h.g z_min (by decide +kernel) (ag (aG (h.bv 5) aj) (ag (aG (h.bv 6) aj) aw)))) (aE (dA (dg tR (h.v 7) (h.v 8)) (aM (h.app 2 (gS (ag (h.v 7) (ag (h.v 8) (ag (h.cl B4 (ag (h.v 5) (ag (h.v 7) aw))) (ag (h.cl B4 (ag (h.v 6) (ag (h.v 7) aw))) aw))))))) dO) (aM (dA (dg j7 (aG (h.bv 5) aj) (aG (h.bv 6) aj)) (aM (h.aug 3 aj)) (aM (h.aug 4 aj)))))))))) (aM (h.l5 2))))))
variable (Ey:JP (Oz P w K mg base) 4 BN)
include FF Ey in
theorem a6a(D':MD (Def K mg) a d):MD (Oz P w K mg base) 5 Cj:=aQ (N:=["one","other","rows","low","high","mine","yours"]) D' λX r h=>by
 cases r
 exact (aE (h.set 2 (gq aw)) (aE (qA h.own h.calm (h.cl Ey (ag (h.v 0) (ag (h.v 1) aw))) (qy (n:=4) h.calm (gp (h.tg 3) (gp (h.tg 4) (gp (h.tg 5) (gp (h.tg 6) qC))))) (aM (h.ext 2 (h.cl FF (ag (h.v 5) (ag (h.v 6) (ag (h.v 3) (ag (h.v 4) aw)))))))) (aM (h.l5 2))))
variable (FT:MD (Oz P w K mg base) 5 Cj)
include lT in
theorem b75(D':JO (Def K mg) a d):JO (Oz P w K mg base) 3 xp:=aQ (N:=["row","low","high"]) D' λX r h=>by
 cases r
 exact (aM (bC (gS (ag (h.v 1) (ag (h.v 2) (ag (h.cl lT (ag (h.v 0) (ag (h.v 1) aw))) (ag (aG (h.bv 0) aj) aw)))))))
variable (Bi:JO (Oz P w K mg base) 3 xp)
include z_max z_len Bi in
theorem b0s(D':Ll (Def K mg) a d):Ll (Oz P w K mg base) 4 xH:=aQ (N:=["form","spans","rows","place","row","low"]) D' λX r h=>by
 cases r
 exact (aE (h.set 2 (gq aw)) (aE (h.aC 3 aj) (aE (qA h.own h.calm (h.v 0) (h.tg 4) (aE (h.aC 5 (aG (h.bv 4) aj)) (aE (K' RH h.own (iP (BB (dg j7 (h.v 3) (iB h.g z_len (h.bv 1))) (BI (dg tR (aG (gE (aG (h.bv 1) (h.v 3))) aj) (aG (h.bv 4) aj))))) (aE (dA (dg j7 (h.v 5) (aG (gE (aG (h.bv 1) (h.v 3))) aj)) (aM (h.app 2 (h.cl Bi (ag (h.v 4) (ag (h.v 5) (ag (aH j9 (aG (gE (aG (h.bv 1) (h.v 3))) aj) aj) aw)))))) dO) (aE (h.aC 5 (xt (Kw h.calm) h.g z_max (by decide +kernel) (ag (h.v 5) (ag (aH dW (aG (gE (aG (h.bv 1) (h.v 3))) aj) aj) aw)))) (aE (dA (dg vJ (aG (gE (aG (h.bv 1) (h.v 3))) aj) (aG (h.bv 4) aj)) (aM b2Q) dO) (aM (h.aug 3 aj)))))) (aM (dA (dg tR (h.v 5) (aG (h.bv 4) aj)) (aM (h.app 2 (h.cl Bi (ag (h.v 4) (ag (h.v 5) (ag (aG (h.bv 4) aj) aw)))))) dO))))) (aM (h.l5 2)))))
variable (BX:Ll (Oz P w K mg base) 4 xH)
include z_tuple in
theorem a8M(D':LN (Def K mg) a d):LN (Oz P w K mg base) 1 vX:=aQ (N:=["form","spans","row","ahead"]) D' λX r h=>by
 cases r
 exact (aE (h.set 1 (gq aw)) (aE (qA h.own h.calm (h.v 0) (h.tg 2) (aM (dA (iP (BB (Qp (h.bv 1)) (BI (dg (nD h.u8) (aH dW (aG (gE (aG (h.bv 1) (xi aj))) aj) aj) (aG (h.bv 2) aj))))) (aE (h.pop 3 1) (aM (h.app 1 (gS (ag (aG (h.bv 3) aj) (ag (aG (h.bv 2) aj) aw)))))) (aM (h.app 1 (gS (ag (aG (h.bv 2) aj) (ag (aG (h.bv 2) aj) aw)))))))) (aM (bC (QY h.g z_tuple (h.bv 1))))))
variable (B8:LN (Oz P w K mg base) 1 vX)
include z_sorted qx FT BX B8 in
theorem b3g(D':KO (Def K mg) a d):KO (Oz P w K mg base) 6 qE:=aQ (N:=["one","other","alone"]) D' λX r h=>by
 cases r
 exact (aE (h.aC 2 (aH dW (h.cl BX (ag (h.v 0) (ag (h.cl B8 (ag (h.v 1) aw)) aw))) (h.cl BX (ag (h.v 1) (ag (h.cl B8 (ag (h.v 0) aw)) aw))))) (aM (bC (h.cl qx (ag (b1U h.g z_sorted (aH dW (h.cl FT (ag (h.v 0) (ag (h.v 1) aw))) (h.v 2))) aw)))))
variable (lO:KO (Oz P w K mg base) 6 qE)
theorem a6g(D':kj (Def K mg) a d):kj (Oz P w K mg base) 1 Ci:=b5O D'
variable (O_least_of__0:kj (Oz P w K mg base) 1 Ci)
include z_len lO O_least_of__0 in
theorem a6f(D':kj (Def K mg) a d):kj (Oz P w K mg base) 7 xJ:=aQ (N:=["forms","half"]) D' λX r h=>by
 cases r
 exact (aE (dA (dg j7 (iB h.g z_len (h.bv 0)) aj) (aM (bC (rP (jM (h.v 0)) (aG (h.bv 0) aj) (gS aw)))) dO) (aE (h.aC 1 (aH j8 (iB h.g z_len (h.bv 0)) aj)) (aM (bC (h.cl lO (ag (h.cl O_least_of__0 (ag (oR (h.bv 0) n8 (n9 (h.v 1))) aw)) (ag (h.cl O_least_of__0 (ag (oR (h.bv 0) (n9 (h.v 1)) n8) aw)) aw)))))))
variable (Ck:kj (Oz P w K mg base) 7 xJ)
include z_len lO Ck in
theorem a6e(D':kj (Def K mg) a d):kj (Oz P w K mg base) 8 xK:=aQ (N:=["forms","half"]) D' λX r h=>by
 cases r
 exact (aE (dA (dg j7 (iB h.g z_len (h.bv 0)) aj) (aM (bC (rP (jM (h.v 0)) (aG (h.bv 0) aj) (gS aw)))) dO) (aE (h.aC 1 (aH j8 (iB h.g z_len (h.bv 0)) aj)) (aM (bC (h.cl lO (ag (h.cl Ck (ag (oR (h.bv 0) n8 (n9 (h.v 1))) aw)) (ag (h.cl Ck (ag (oR (h.bv 0) (n9 (h.v 1)) n8) aw)) aw)))))))
variable (Cm:kj (Oz P w K mg base) 8 xK)
include z_len lO Cm in
theorem a6d(D':kj (Def K mg) a d):kj (Oz P w K mg base) 9 xM:=aQ (N:=["forms","half"]) D' λX r h=>by
 cases r
 exact (aE (dA (dg j7 (iB h.g z_len (h.bv 0)) aj) (aM (bC (rP (jM (h.v 0)) (aG (h.bv 0) aj) (gS aw)))) dO) (aE (h.aC 1 (aH j8 (iB h.g z_len (h.bv 0)) aj)) (aM (bC (h.cl lO (ag (h.cl Cm (ag (oR (h.bv 0) n8 (n9 (h.v 1))) aw)) (ag (h.cl Cm (ag (oR (h.bv 0) (n9 (h.v 1)) n8) aw)) aw)))))))
variable (Co:kj (Oz P w K mg base) 9 xM)
include z_len lO Co in
theorem a6c(D':kj (Def K mg) a d):kj (Oz P w K mg base) 10 xN:=aQ (N:=["forms","half"]) D' λX r h=>by
 cases r
 exact (aE (dA (dg j7 (iB h.g z_len (h.bv 0)) aj) (aM (bC (rP (jM (h.v 0)) (aG (h.bv 0) aj) (gS aw)))) dO) (aE (h.aC 1 (aH j8 (iB h.g z_len (h.bv 0)) aj)) (aM (bC (h.cl lO (ag (h.cl Co (ag (oR (h.bv 0) n8 (n9 (h.v 1))) aw)) (ag (h.cl Co (ag (oR (h.bv 0) (n9 (h.v 1)) n8) aw)) aw)))))))
variable (Cp:kj (Oz P w K mg base) 10 xN)
include z_len lO Cp in
theorem a6b(D':kj (Def K mg) a d):kj (Oz P w K mg base) 11 vW:=aQ (N:=["forms","half"]) D' λX r h=>by
 cases r
 exact (aE (dA (dg j7 (iB h.g z_len (h.bv 0)) aj) (aM (bC (rP (jM (h.v 0)) (aG (h.bv 0) aj) (gS aw)))) dO) (aE (h.aC 1 (aH j8 (iB h.g z_len (h.bv 0)) aj)) (aM (bC (h.cl lO (ag (h.cl Cp (ag (oR (h.bv 0) n8 (n9 (h.v 1))) aw)) (ag (h.cl Cp (ag (oR (h.bv 0) (n9 (h.v 1)) n8) aw)) aw)))))))
variable (FR:kj (Oz P w K mg base) 11 vW)
theorem b0q(D':Lo (Def K mg) a d):Lo (Oz P w K mg base) 1 t7:=aQ (N:=["row"]) D' λX r h=>by
 cases r
 exact (aM (bC (aG (h.bv 0) aj)))
variable (Ft:Lo (Oz P w K mg base) 1 t7)
include z_sorted z_sum qx Ft in
theorem b1m(D':Lb (Def K mg) a d):Lb (Oz P w K mg base) 6 vU:=aQ (N:=["rows","low","price","made","row","more"]) D' λX r h=>by
 cases r
 exact (aE (h.aC 1 (tW h.g z_sum h.calm (gE (qB (N':=["row"]) (caps:=[]) (nt:=1) h ⟨rfl,by decide +kernel,by decide +kernel,by decide +kernel,by decide +kernel,rfl,rfl,by decide +kernel⟩ (pW (h.v 0)) (λX1 cC cw cu cn cj h1=>⟨(h1.tg 0),mE,(aG (h1.bv 0) aj)⟩))))) (aE (h.aC 2 (tW h.g z_sum h.calm (gE (qB (N':=["row"]) (caps:=[]) (nt:=1) h ⟨rfl,by decide +kernel,by decide +kernel,by decide +kernel,by decide +kernel,rfl,rfl,by decide +kernel⟩ (pW (h.v 0)) (λX1 cC cw cu cn cj h1=>⟨(h1.tg 0),mE,(aG (h1.bv 0) aj)⟩))))) (aE (h.set 3 (gq (ag (gS (ag (h.v 1) (ag (h.v 1) (ag (h.v 2) (ag aj aw))))) aw))) (aE (qA h.own h.calm (h.qL Ft z_sorted (h.v 0)) (h.tg 4) (aE (h.aC 5 (aH j9 (aG (h.bv 4) aj) (aG (h.bv 4) aj))) (aE (dA (dg vJ (h.v 5) aj) (aM (h.app 3 (gS (ag (aH dW (h.v 1) aj) (ag (aH dW (h.v 1) (h.v 5)) (ag (aH dW (h.v 2) (aG (h.bv 4) aj)) (ag (aG (h.bv 4) aj) aw))))))) dO) (aE (h.aug 1 (h.v 5)) (aM (h.aug 2 (aH n5 (aG (h.bv 4) aj) (h.v 5)))))))) (aM (PF 3 (bC (h.cl qx (ag (h.v 3) aw)))))))))
variable (Fc:Lb (Oz P w K mg base) 6 vU)
include vM FR Fc in
theorem a5H(D':Ms (Def K mg) a d):Ms (Oz P w K mg base) 12 Cy:=aQ (N:=["forms"]) D' λX r h=>by
 cases r
 exact (aM (bC (h.cl FR (ag (qB (N':=["rows"]) (caps:=[]) (nt:=1) h ⟨rfl,by decide +kernel,by decide +kernel,by decide +kernel,by decide +kernel,rfl,rfl,by decide +kernel⟩ (pW (h.cl vM (ag (h.v 0) aw))) (λX1 cC cw cu cn cj h1=>⟨(h1.tg 0),mE,(h1.cl (gw cC cw cu cn cj Fc) (ag (h1.v 0) aw))⟩)) aw))))
variable (FP:Ms (Oz P w K mg base) 12 Cy)
include FP in
theorem b1n(D':La (Def K mg) a d):La (Oz P w K mg base) 13 xy:=aQ (N:=["forms"]) D' λX r h=>by
 cases r
 exact (aM (bC (h.cl FP (ag (h.v 0) aw))))
variable (E9:La (Oz P w K mg base) 13 xy)
include lU in
theorem b0u(D':Lj (Def K mg) a d):Lj (Oz P w K mg base) 2 xG:=aQ (N:=["at","m","ahead","low","wide","price","step"]) D' λX r h=>by
 cases r
 exact (aE (h.aC 3 (aH dW (h.v 0) (aG (gE (gq (ag aj (ag aj (ag aj (ag (aH dW aj (aH gF (h.v 1) aj)) (ag (aH gF (h.v 1) (aH pZ aj aj)) aw))))))) (aH gF (aH j8 (h.v 1) aj) aj)))) (aE (h.aC 1 (h.cl lU (ag (h.v 1) (ag aj aw)))) (aE (h.aC 4 (aG (gE (gq (ag aj (ag aj (ag (aH gF (h.v 1) aj) (ag (aH gF (h.v 1) (aH pZ aj aj)) aw)))))) (aH gF (aH j8 (h.v 1) aj) aj))) (aE (h.aC 1 (h.cl lU (ag (h.v 1) (ag aj aw)))) (aE (h.aC 5 (aH j9 (aH gF (aH j8 (h.v 1) aj) aj) aj)) (aE (dA (dg (nD h.u8) (aH gF (h.v 1) aj) aj) (aM (h.aC 5 (aH j9 (aH gF (aH j8 (h.v 1) aj) (aH pZ aj aj)) (aH n5 aj (aH pZ aj aj))))) dO) (aE (dA (dg (nD h.u8) (aH gF (h.v 1) aj) aj) (aM (h.aC 5 (aH dW (aG (h.bv 2) aj) (aH n5 (aG (h.bv 2) aj) (aH j9 (h.v 3) (aG (h.bv 2) aj)))))) dO) (aE (h.aC 1 (h.cl lU (ag (h.v 1) (ag aj aw)))) (aE (h.aC 6 (aH j9 (aH gF (aH j8 (h.v 1) aj) aj) aj)) (aE (dA (dg (nD h.u8) (aH gF (h.v 1) aj) aj) (aM (h.aC 6 (aH j9 (aH gF (aH j8 (h.v 1) aj) (aH pZ aj aj)) (aH n5 aj (aH pZ aj aj))))) dO) (aM (bC (gS (ag (h.v 3) (ag (aH dW (h.v 3) (h.v 4)) (ag (h.v 5) (ag (h.v 6) aw)))))))))))))))))
variable (Fp:Lj (Oz P w K mg base) 2 xG)
include z_range lU Fp in
theorem a8O(D':LL (Def K mg) a d):LL (Oz P w K mg base) 3 se:=aQ (N:=["m","many","at","rows","ahead","k"]) D' λX r h=>by
 cases r
 exact (aE (h.aC 2 (aH j9 (aH gF (aH j8 (h.v 0) aj) aj) aj)) (aE (dA (dg (nD h.u8) (aH gF (h.v 0) aj) aj) (aM (h.aC 2 (aH j9 (aH gF (aH j8 (h.v 0) aj) (aH pZ aj aj)) (aH n5 aj (aH pZ aj aj))))) dO) (aE (h.set 3 (gq aw)) (aE (h.aC 4 (gS (ag aj (ag aj (ag aj (ag aj aw)))))) (aE (b2P h.own h.calm h.g z_range (ag (h.v 1) aw) (h.tg 5) (aE (h.aC 0 (h.cl lU (ag (h.v 0) (ag (aH dW aj (h.v 5)) aw)))) (aE (h.aC 4 (h.cl Fp (ag (h.v 2) (ag (h.v 0) (ag (h.v 4) aw))))) (aE (h.app 3 (h.v 4)) (aM (h.aC 2 (aH dW (aG (h.bv 4) aj) aj))))))) (aM (h.l5 3)))))))
variable (FA:LL (Oz P w K mg base) 3 se)
include z_range z_enumerate lU in
theorem a7T(D':Mj (Def K mg) a d):Mj (Oz P w K mg base) 2 xC:=aQ (N:=["cells","most","seeds","k","cell","at"]) D' λX r h=>by
 cases r
 exact (aE (xq (i:=2) true (N':=["k"]) (caps:=[]) (nt:=1) h ⟨rfl,by decide +kernel,by decide +kernel,by decide +kernel,by decide +kernel,rfl,rfl,by decide +kernel⟩ (b3x h.g z_range (ag (h.v 1) aw)) (λX1 cC cw cu cn cj h1=>⟨(h1.tg 0),mE,(h1.cl (gw cC cw cu cn cj lU) (ag (h1.v 0) (ag aj aw)))⟩)) (aE (KL h.own h.calm (KC h.g z_enumerate (ag (h.v 0) aw)) (qy (n:=2) h.calm (gp (h.tg 3) (gp (h.tg 4) qC))) (aE (h.aC 5 (aH gF (h.v 3) (h.v 1))) (aM (h.item 2 (h.cl lU (ag (aH dW (aG (h.bv 2) (h.v 5)) (aH gF (h.v 4) (aH pZ aj aj))) (ag (aH gF (h.v 3) aj) aw))) (h.v 5))))) (aM (h.l5 2))))
variable (FJ:Mj (Oz P w K mg base) 2 xC)
include z_len in
theorem a6h(D':MC (Def K mg) a d):MC (Oz P w K mg base) 1 Cg:=aQ (N:=["script","k"]) D' λX r h=>by
 cases r
 exact (aE (dA (dg j7 (h.v 1) (iB h.g z_len (h.bv 0))) (aM (bC (aG (h.bv 0) (h.v 1)))) dO) (aM (bC aj)))
variable (FQ:MC (Oz P w K mg base) 1 Cg)
include z_zip z_len z_enumerate Fz FK lU Fo qx E9 FA FJ FQ in
theorem b74(D':ya (Def K mg) a d):bS P w K mg base iN 14 a d ["script"] (mP K 1 E5):=AA (N:=["script","counts","seeds","every","forms","found","k","cell","shares"]) D' λX r h=>by
 cases r
 exact (aE (h.aC 1 (aG (gE (gq (ag (gq (ag aj (ag aj aw))) (ag (gq (ag aj (ag aj (ag aj aw)))) (ag (gq (ag aj (ag aj aw))) (ag (gq (ag aj (ag aj (ag aj aw)))) aw)))))) (aH gF (h.cl FQ (ag (h.v 0) (ag aj aw))) aj))) (aE (h.aC 2 (h.cl FJ (ag (oR (h.bv 0) (n9 aj) n8) (ag (iB h.g z_len (h.bv 1)) aw)))) (aE (xq (i:=3) false (N':=["seed","many"]) (caps:=[]) (nt:=2) h ⟨rfl,by decide +kernel,by decide +kernel,by decide +kernel,by decide +kernel,rfl,rfl,by decide +kernel⟩ (ET h.g z_zip (ag (h.v 2) (ag (h.v 1) aw))) (λX1 cC cw cu cn cj h1=>⟨(qy (n:=2) h1.calm (gp (h1.tg 0) (gp (h1.tg 1) qC))),mE,(h1.cl (gw cC cw cu cn cj FA) (ag (h1.v 0) (ag (h1.v 1) aw)))⟩)) (aE (xq (i:=4) false (N':=["rows"]) (caps:=[]) (nt:=1) h ⟨rfl,by decide +kernel,by decide +kernel,by decide +kernel,by decide +kernel,rfl,rfl,by decide +kernel⟩ (pW (h.v 3)) (λX1 cC cw cu cn cj h1=>⟨(h1.tg 0),mE,(h1.cl (gw cC cw cu cn cj qx) (ag (h1.v 0) aw))⟩)) (aE (h.aC 5 (h.cl E9 (ag (h.v 4) aw))) (aE (dA (rX (jM (h.cl Fo (ag (h.v 5) aw)))) (aM (bC tQ)) dO) (aE (KL h.own h.calm (KC h.g z_enumerate (ag (aH dW (gq (ag aj aw)) (oR (h.bv 0) n8 (n9 aj))) aw)) (qy (n:=2) h.calm (gp (h.tg 6) (gp (h.tg 7) qC))) (aE (xq (i:=8) false (N':=["j","rows","cell","k"]) (caps:=[7,6]) (nt:=2) h ⟨rfl,by decide +kernel,by decide +kernel,by decide +kernel,by decide +kernel,rfl,rfl,by decide +kernel⟩ (KC h.g z_enumerate (ag (h.v 3) aw)) (λX1 cC cw cu cn cj h1=>⟨(qy (n:=2) h1.calm (gp (h1.tg 0) (gp (h1.tg 1) qC))),mE,(h1.cl (gw cC cw cu cn cj FK) (ag (h1.v 1) (ag (h1.cl (gw cC cw cu cn cj lU) (ag (h1.v 2) (ag (aH dW (aH n5 aj (h1.v 3)) (h1.v 0)) aw))) aw)))⟩)) (aM (dA (rX (jM (h.cl Fz (ag (h.v 3) (ag (h.v 4) (ag (h.v 5) (ag (h.v 8) aw))))))) (aM (bC tQ)) dO)))) (aM (bC tQ)))))))))
end
theorem all_mk{l:Jf}{w:World}{K:aA}{h:Heap}{mg:Str->Option Value}{fa:Addr}(X:K.In h)(G:h.Ns mainGlobals mg)(XF:mg "law" = some (.ref fa))
  (i1:FI K "_law_whole" Sj f1 od1 an1 sl1 oc1 kV1 dc1 pm1 cd1 ct1)
  (i2:FI K "_law_cost" RT f2 od2 an2 lG oc2 kV2 dc2 pm2 cd2 ct2)
  (i3:FI K "_law_worth" Sk f3 od3 an3 sl3 oc3 kV3 dc3 pm3 cd3 ct3)
  (i4:FI K "how_many_picks" SK f4 od4 an4 sl4 oc4 kV4 dc4 pm4 cd4 ct4)
  (i5:FI K "picks" QS f5 od5 an5 sl5 oc5 kV5 dc5 pm5 cd5 ct5)
  (i6:FI K "reaches" RP f6 od6 an6 sl6 oc6 kV6 dc6 pm6 cd6 ct6)
  (i7:FI K "line_at" RN f7 od7 an7 sl7 oc7 kV7 dc7 pm7 cd7 ct7)
  (i8:FI K "drawn_to" Sb f8 od8 an8 sl8 oc8 kV8 dc8 pm8 cd8 ct8)
  (i9:FI K "dealt" QP f9 od9 an9 sl9 oc9 kV9 dc9 pm9 cd9 ct9)
  (i10:FI K "cost_and_shares" SI f10 VF an10 T9 Wj W5 YS UY Z7 Zu)
  (i11:FI K "best_dealt" SE f11 VE an11 T8 Wi W4 YR UX Z6 Zt)
  (i12:FI K "shares_at" So f12 VD an12 T7 Wh W3 YQ UW Z5 Zs)
  (i13:FI K "place_of" RX f13 VC an13 T6 Wg W2 YO UU Z4 Zr)
  (i14:FI K "cost_at" RK f14 VB an14 T5 Wf W1 YN UT Z3 Zq)
  (i15:FI K "_law_good" RU f15 VA an15 T4 We W0 YM US Z2 Zp)
  (i16:FI K "_law_share" Si f16 Vz an16 T3 Wc WZ YL UR Z1 Zo)
  (i17:FI K "_law_mixed" Su f17 Vy an17 T2 Wb WY YK UQ Z0 Zn)
  (i18:FI K "holds_one" Sr f18 Vx an18 T1 Wa WX YJ UP ZZ Zm)
  (i19:FI K "may_follow" SH f19 Vw an19 TZ V' WW YI UO ZY Zl)
  (i20:FI K "is_whole" RS f20 Vv an20 TY V9 WU YH UN ZX Zk)
  (i21:FI K "is_plain_stretch" SJ f21 Vu an21 TX V8 WT YG UM ZW Zj)
  (i22:FI K "is_form" RL f22 Vt an22 TU V7 WS YF UL ZV Zi)
  (i23:FI K "plain" QT f23 Vs an23 TR V6 WR YE UK ZU Zh)
  (i24:FI K "laid_beside" Sw f24 Vr an24 TQ V5 WQ YD UJ ZT Zg)
  (i25:FI K "laid" Qu f25 Vq an25 TN V4 WO YC UI ZS Zf)
  (i26:FI K "stretch_on" SD f26 Vp an26 TM V3 WN YB UH ZR Ze)
  (i27:FI K "span_or_none" SN f27 Vo an27 TL V2 WM YA UG ZQ Zd)
  (i28:FI K "up" Pa f28 Vn an28 TK V1 WL Yz UE ZP Zc)
  (i29:FI K "down" Qt f29 Vm an29 TJ V0 WK Yy UD ZO Zb)
  (i30:FI K "no_dearer" Sn f30 Vl an30 TH VZ WJ Yx UC ZN Za)
  (i31:FI K "lower_line" SG f31 Vk an31 TF VY WI Yw UB ZM Y')
  (i32:FI K "line_from" Sm f32 Vj an32 TC VX WH Yv UA ZL Y9)
  (i33:FI K "met" PD f33 Vi an33 Tz VW WG Yu Uz ZK Y8)
  (i34:FI K "lesser_rows" Sz f34 Vh an34 Tw VV WE Yt Uy ZJ Y7)
  (i35:FI K "cut" PC f35 Vg an35 Tv VU WD Yr Ux ZI Y6)
  (i36:FI K "outside" RO f36 Vf an36 Tu VT WC Yq Uw ZH Y5)
  (i37:FI K "spans_of" RY f37 Ve an37 Tt VS WB Yp Uv ZG Y4)
  (i38:FI K "least" QR f38 Vd an38 Tq VR WA Yo Uu ZF Y3)
  (i39:FI K "least_of" RW f39 Vc an39 Tp VQ Wz Yn Ut ZE Y2)
  (i40:FI K "step_of" RQ f40 Vb an40 To VP Wy Ym Us ZD Y1)
  (i41:FI K "poured" Ri f41 Va an41 Tn VO Wx Yl Ur ZC Y0)
  (i42:FI K "least_poured" SM f42 U' an42 Tj VN Ww Yk Uq ZA YZ)
  (i43:FI K "joined" Rx f43 U9 an43 Ti VM Wv Yj Uo Zz YY)
  (i44:FI K "_law_row" RM f44 U8 an44 Th VL Wu Yi Um Zy YX)
  (i45:FI K "_law_rows" RV f45 U7 an45 Tg VJ Wt Yh Ul Zx YW)
  (i46:FI K "_law_seeds" Sv f46 U6 an46 Tf VI Ws Yg Uk Zw YV)
  (i47:FI K "_law_cell_at" Sy f47 U5 an47 Te VH Wr Yf Uj Zv YU)
  (i48:FI K "law" BH f48 U4 Km Td VG GZ Iw GG IC Iy)
  (zmax:jY K mainGlobals "max" = some none)
  (zmin:jY K mainGlobals "min" = some none)
  (zall:jY K mainGlobals "all" = some none)
  (zzip:jY K mainGlobals "zip" = some none)
  (zisinstance:jY K mainGlobals "isinstance" = some none)
  (ztuple:jY K mainGlobals "tuple" = some none)
  (zlen:jY K mainGlobals "len" = some none)
  (zbool:jY K mainGlobals "bool" = some none)
  (zint:jY K mainGlobals "int" = some none)
  (zsorted:jY K mainGlobals "sorted" = some none)
  (zsum:jY K mainGlobals "sum" = some none)
  (zMOST_PICKS:∃t,jY K mainGlobals "MOST_PICKS" = some (some (.int 100 t)))
  (zrange:jY K mainGlobals "range" = some none)
  (zenumerate:jY K mainGlobals "enumerate" = some none)
  (zlist:jY K mainGlobals "list" = some none)
  {cT pT:Addr}(hT:nu K "dealt" = some (cT,pT))(hC:Ed K cT pT=true)
  (fin:∀ns:List Int,ns.length<=63->E5 [.lst true (ns.map D.int)]=some (.sh (.bl true))):
  ∃fd:FuncData,(∀(s:Shared) (v:Value),BindsTo s fd ⟨[v],[]⟩ [("script",v)])/\∀base:Heap,K.In base->base.Ns mainGlobals mg->bS l.prog w K mg base iN 14 fa fd ["script"] (spT K):=by
 have e:=XF.symm.trans (IH X G i48.a)
 cases e
 have z_max:=nC X G zmax
 have z_min:=nC X G zmin
 have z_all:=nC X G zall
 have z_zip:=nC X G zzip
 have z_isinstance:=nC X G zisinstance
 have z_tuple:=nC X G ztuple
 have z_len:=nC X G zlen
 have z_bool:=nC X G zbool
 have z_int:=nC X G zint
 have z_sorted:=nC X G zsorted
 have z_sum:=nC X G zsum
 have z_MOST_PICKS:MX mg "MOST_PICKS" 100:=zMOST_PICKS.imp λ_ q=>IH X G q
 have z_range:=nC X G zrange
 have z_enumerate:=nC X G zenumerate
 have z_list:=nC X G zlist
 refine ⟨jZ "law" "law" (lS BH) (iC BH) (eN BH) .none GZ Iw GG Km IC Iy,λs v=>.of_eq rfl,λbase _ _=>?_⟩
 have vR:=a7R (P:=l.prog) (w:=w) (base:=base) z_isinstance z_bool z_int (di X G i1)
 have Fy:=a8Q (P:=l.prog) (w:=w) (base:=base) (cP X G i2)
 have B3:=a7Q z_zip z_isinstance z_len z_list vR Fy (cP X G i3)
 have Cw:=a4E (P:=l.prog) (w:=w) (base:=base) z_len (di X G i4)
 have vM:=b3f z_MOST_PICKS Cw (di X G i5)
 have Fq:=b0r (P:=l.prog) (w:=w) (base:=base) z_sum (cP X G i6)
 have qD:=b0t (P:=l.prog) (w:=w) (base:=base) (uy X G i7)
 have lT:=a8S qD (cP X G i8)
 have EY:=b3h (P:=l.prog) (w:=w) (base:=base) z_min z_len z_sorted z_sum z_range (cP X G i9) (b2O hT i9.a i9.l) hT hC
 have FO:=a4a z_zip z_sum lT EY (cP X G i10)
 have FE:=a6Y z_min vM Fq FO (cP X G i11)
 have FN:=a7N FE (cP X G i12)
 have FC:=a8N (P:=l.prog) (w:=w) (base:=base) z_len (cP X G i13)
 have Fm:=b0w z_len lT FC (cP X G i14)
 have Fz:=a8P z_sum vR B3 FN Fm (qX X G i15)
 have FK:=a7S (P:=l.prog) (w:=w) (base:=base) z_len (cP X G i16)
 have lU:=a7U (P:=l.prog) (w:=w) (base:=base) (cP X G i17)
 have p8:=a7V (P:=l.prog) (w:=w) (base:=base) (di X G i18)
 have FG:=a6V lT p8 (cP X G i19)
 have Fw:=a8R (P:=l.prog) (w:=w) (base:=base) z_isinstance z_bool z_int (di X G i20)
 have FW:=a3J z_all z_isinstance z_tuple z_len Fw (di X G i21)
 have Fo:=b0v z_all z_zip z_isinstance z_tuple FG FW (di X G i22)
 have tX:=b3e p8 (di X G i23)
 have FH:=a6i qD p8 tX (cP X G i24)
 have qx:=b5S z_tuple tX FH (di X G i25)
 have vT:=a6T qD (qX X G i26)
 have Cb:=a5G (P:=l.prog) (w:=w) (base:=base) (cP X G i27)
 have O_up:=y0 (P:=l.prog) (w:=w) (base:=base) (cP X G i28)
 have EO:=b5T (P:=l.prog) (w:=w) (base:=base) (cP X G i29)
 have FL:=a7O z_max z_min Cb O_up EO (qX X G i30)
 have FF:=a6W vT FL (qX X G i31)
 have B4:=a7P lT (cP X G i32)
 have Ey:=b73 z_max z_min z_len B4 (cP X G i33)
 have FT:=a6a FF Ey (cP X G i34)
 have Bi:=b75 lT (uy X G i35)
 have BX:=b0s z_max z_len Bi (cP X G i36)
 have B8:=a8M (P:=l.prog) (w:=w) (base:=base) z_tuple (di X G i37)
 have lO:=b3g z_sorted qx FT BX B8 (cP X G i38)
 have O_least_of__0:=a6g (P:=l.prog) (w:=w) (base:=base) (di X G i39)
 have Ck:=a6f z_len lO O_least_of__0 (di X G i39)
 have Cm:=a6e z_len lO Ck (di X G i39)
 have Co:=a6d z_len lO Cm (di X G i39)
 have Cp:=a6c z_len lO Co (di X G i39)
 have FR:=a6b z_len lO Cp (di X G i39)
 have Ft:=b0q (P:=l.prog) (w:=w) (base:=base) (di X G i40)
 have Fc:=b1m z_sorted z_sum qx Ft (di X G i41)
 have FP:=a5H vM FR Fc (di X G i42)
 have E9:=b1n FP (di X G i43)
 have Fp:=b0u lU (uy X G i44)
 have FA:=a8O z_range lU Fp (cP X G i45)
 have FJ:=a7T z_range z_enumerate lU (cP X G i46)
 have FQ:=a6h (P:=l.prog) (w:=w) (base:=base) z_len (cP X G i47)
 have O_law:=b74 z_zip z_len z_enumerate Fz FK lU Fo qx E9 FA FJ FQ (di X G i48)
 exact b8c O_law fin
end My
open PySem L2 DL
def vcNames:String:="a0g a0o a0j a1J a5C b09 b08 b07 Wo_seq b6K Wo_bk Wo_ct b8X b6J b8W b2p b9h b8N b6Y b7f b6u Wo_eV Wo_eC b9f b81 b6Q b6W b6O b6S b6V b2v b6T b6P b84 b85 b86 b87 b88 b83 b6U b6R b4r b4o b4q b4n b4p b4m b7g b7i b7h rep0 rep1 rep2 rep3 rep4 b4d b4B b4C b60 b61 b6Z b63 b7e b7c b66 b67 b6N b2y b4j b4k b7j b7k b82 b6L b1K b3E b1M b1J b1I b1L b8T b9j b6D b6C b6B b6y b6A b6z b4e b6F b8S b6E b7d b9c b65 b9e b7l b4F b62 b68 b8O b8Q b8P Wo_bV b9g b8U b8V b69 b4y b2s ixQ_i b9d atI_0 atI_1 atI_2 atI_3 b4A b2x b4D b4E b7a b6j b6k b89 b6X a9t a8D b6H b6G b4h b4g b2L b2M b2N b2K Wo_gN Wo_gT b4l b2r b9i b8R b9k b8v b9a b8Y b56 b6M b6w b6v b6I b80 pQ_i b8Z b9b b2w lrQ_i b64 slQ_t b39 b4a b4b b4c b4w b4v srQ_l b0M b4z b4s b4u Sl_sh Sl_ow b4t List.getElem?_cons_zero List.getElem?_cons_succ List.set_cons_zero List.set_cons_succ List.length_cons List.length_nil a89 b0D a9b a88 a87 a9a a8i a9c a8k a8h a8g a8j a83 b0C a85 a82 a81 a84 a8d a86 a8f a8c a8b a8e a65 a8a a67 a64 a63 a66 decide_eq_true_eq decide_eq_false_iff_not Bool.not_eq_true' Bool.not_eq_false' Bool.not_true Bool.not_false true_and and_true forall_const Bool.true_eq_false Bool.false_eq_true false_implies reduceCtorEq implies_true true_implies Int.reduceToNat Nat.reduceAdd Nat.reduceLT Nat.reduceLeDiff Nat.reduceSub Int.reduceLT Int.reduceLE Int.reduceEq Int.cast_ofNat_Int not_true_eq_false not_false_eq_true"
local macro_rules | `(tactic| walk_at "vc")=>do
 let ls ← ((vcNames.splitOn " ") ++ ["a2U","b2q","b3A","b59","b3C","b3z","b3y","b3B"]).toArray.mapM fun s=>`(Lean.Parser.Tactic.simpLemma| $(Lean.mkIdent s.toName):ident)
 `(tactic| first | simp only [$ls,*] | dsimp only | skip)
local macro_rules | `(tactic| walk_at "v1")=>do
 let ls ← (vcNames.splitOn " ").toArray.mapM fun s=>`(Lean.Parser.Tactic.simpLemma| $(Lean.mkIdent s.toName):ident)
 `(tactic| first | simp only [$ls,*] | dsimp only | skip)
local macro_rules | `(tactic| walk_at "sc")=>`(tactic| first | omega | (simp only [DivC,PowC,MulC,LIM,R62]; omega) | rfl | decide)
local macro_rules | `(tactic| walk_at "go")=>`(tactic| (walk_at "vc"; repeat' first | apply c4j | intro _); all_goals try (walk_at "sc"))
local macro_rules | `(tactic| walk_at "sp")=>`(tactic| (repeat' first | apply And.intro | intro _); all_goals first | (exfalso; omega) | walk_at "sc" | ((repeat apply Exists.intro); rfl) | skip)
local macro_rules | `(tactic| walk_at "st")=>`(tactic| repeat (refine And.intro ?_ ?_; · first | (simp only [DivC,PowC,MulC,LIM,R62]; omega) | omega))
namespace My
noncomputable abbrev Row:=Int×Int×Int×Int
noncomputable def Row.d(r:Row):D:=.tup [.int r.1,.int r.2.1,.int r.2.2.1,.int r.2.2.2]
theorem c9(r:Row):Row.d r=.tup [.int r.1,.int r.2.1,.int r.2.2.1,.int r.2.2.2]:=rfl
noncomputable def Row.at(r:Row)(x:Int):Int:=r.2.2.1+r.2.2.2*(x-r.1)
def pS(r:Row):Prop:=r.1<=r.2.1/\(r.1=r.2.1->r.2.2.2=0)
def BA(a r:Row):Prop:=a.2.1<r.1/\(r.1=a.2.1+1->a.1<a.2.1/\r.2.2.1≠a.at r.1)
noncomputable def bo(R:Row->Row->Prop):List Row->Prop
 | a::b::rs=>R a b/\bo R (b::rs)
 | _=>True
theorem bo.snoc{R:Row->Row->Prop}{r:Row}:∀{rs:List Row},bo R rs->(∀a,rs.getLast?=some a->R a r)->bo R (rs++[r])
 | [],_,_=>trivial
 | [a],_,h=>⟨h a rfl,trivial⟩
 | a::b::rs,h,k=>⟨h.1,h.2.snoc (rs:=b::rs) λc hc=>k c (by simpa using hc)⟩
theorem bo.tail{R:Row->Row->Prop}{r:Row}{rs:List Row}(h:bo R (r::rs)):bo R rs:=by
 cases rs with
 | nil=>trivial
 | cons q rs=>exact h.2
def Canon(rs:List Row):Prop:=(∀r∈rs,pS r)/\bo BA rs
def aB(B:Int)(r:Row):Prop:=(-B<=r.1/\r.1<=B)/\(-B<=r.2.1/\r.2.1<=B)/\(-B<=r.2.2.1/\r.2.2.1<=B)/\(-B<=r.2.2.2/\r.2.2.2<=B)
noncomputable def look:List Row->Int->Option Int
 | [],_=>none
 | r::rs,x=>if r.1<=x/\x<=r.2.1 then some (r.at x) else look rs x
noncomputable def rm:Option Int->D
 | none=>.aR
 | some i=>.int i
def dF(rs:List Row):Prop:=(∀r∈rs,r.1<=r.2.1)/\rs.Pairwise λa b=>a.2.1<b.1
theorem Canon.gD:∀{rs:List Row},Canon rs->dF rs
 | [],_=>⟨λ_ z=>(nomatch z),.nil⟩
 | [r],h=>⟨λq hq=>(h.1 q hq).1,rF _ _⟩
 | r::q::rs,h=>by
  obtain ⟨i1,i2⟩:=Canon.gD (rs:=q::rs) ⟨λa ha=>h.1 a (bW _ ha),h.2.2⟩
  refine ⟨λa ha=>(h.1 a ha).1,ir.mpr ⟨λa ha=>?_,i2⟩⟩
  have h1:=h.2.1.1
  rcases bH.mp ha with rfl | ha
  .exact h1
  .have:=(ir.mp i2).1 a ha
   have:=i1 q bK
   lia
theorem Ls{x:Int}{post:List Row}:∀{pre:List Row},(∀q∈pre,q.2.1<x)->look (pre++post) x=look post x
 | [],_=>rfl
 | r::pre,h=>by
  have:=h r bK
  rw [Ea,look,if_neg (by ext this)]
  exact Ls λq hq=>h q (bW _ hq)
theorem RC{x:Int}:∀{rs:List Row},(∀q∈rs,x<q.1\/q.2.1<x)->look rs x=none
 | [],_=>rfl
 | r::rs,h=>by
  have:=h r bK
  rw [look,if_neg (by ext this)]
  exact RC λq hq=>h q (bW _ hq)
theorem BS{x c:Int}:∀{rs:List Row},look rs x=some c->∃r∈rs,r.1<=x/\x<=r.2.1/\c=r.at x
 | [],h=>by cases h
 | r::rs,h=>by
  rw [look] at h
  split at h
  .exact ⟨r,bK,by lia,by lia,(dq h).symm⟩
  .obtain ⟨q,hq,k⟩:=BS h
   exact ⟨q,bW _ hq,k⟩
theorem pU{rs:List Row}(h:dF rs){r:Row}(hr:r∈rs){x:Int}(h1:r.1<=x)(h2:x<=r.2.1):look rs x=some (r.at x):=by
 obtain ⟨pre,post,rfl⟩:=N5 hr
 rw [Ls λq hq=>?_,look,if_pos ⟨h1,h2⟩]
 have:=(gQ.mp h.2).2.2 q hq r bK
 ext h1 this
def Val(rs:List Row)(x c:Int):Prop:=∃r∈rs,r.1<=x/\x<=r.2.1/\c=r.at x
theorem xu{rs:List Row}(h:dF rs){x c:Int}:look rs x=some c↔Val rs x c:=
 ⟨BS,λ⟨r,hr,h1,h2,e⟩=>by rw [pU h hr h1 h2,e]⟩
theorem Val.app{rs qs:List Row}{x c:Int}:Val (rs++qs) x c↔Val rs x c\/Val qs x c:=by
 unfold Val
 constructor
 .rintro ⟨r,hr,h⟩
  rcases bT.mp hr with hr | hr
  .exact .inl ⟨r,hr,h⟩
  .exact .inr ⟨r,hr,h⟩
 .rintro (⟨r,hr,h⟩ | ⟨r,hr,h⟩)
  .exact ⟨r,gR _ hr,h⟩
  .exact ⟨r,fY _ hr,h⟩
theorem Val.one{r:Row}{x c:Int}:Val [r] x c↔r.1<=x/\x<=r.2.1/\c=r.at x:=by
 unfold Val
 simp
theorem Val.two{r q:Row}{x c:Int}:Val [r,q] x c↔(r.1<=x/\x<=r.2.1/\c=r.at x)\/(q.1<=x/\x<=q.2.1/\c=q.at x):=by
 unfold Val
 simp
noncomputable def total(rs:List Row):Int:=(rs.map λr=>r.2.1-r.1+1).sum
theorem vP(rs qs:List Row):total (rs++qs)=total rs+total qs:=by unfold total;rw [fX,A0]
theorem bo.append{R:Row->Row->Prop}:∀{rs qs:List Row},bo R rs->bo R qs->(∀a b,rs.getLast?=some a->qs.head?=some b->R a b)->bo R (rs++qs)
 | [],_,_,h,_=>h
 | [a],[],_,_,_=>trivial
 | [a],b::qs,_,h,k=>⟨k a b rfl rfl,h⟩
 | a::b::rs,qs,h,h',k=>⟨h.1,bo.append (rs:=b::rs) h.2 h' λc d hc hd=>k c d (by simpa using hc) hd⟩
theorem bo.left{R:Row->Row->Prop}:∀{rs qs:List Row},bo R (rs++qs)->bo R rs
 | [],_,_=>trivial
 | [a],_,_=>trivial
 | a::b::rs,qs,h=>⟨h.1,bo.left (rs:=b::rs) h.2⟩
theorem bo.mid{R:Row->Row->Prop}{b:Row}:∀{rs:List Row},bo R (rs++[b])->∀a,rs.getLast?=some a->R a b
 | [],_,a,h=>by cases h
 | [a],h,c,hc=>by cases hc;exact h.1
 | a::c::rs,h,d,hd=>bo.mid (rs:=c::rs) h.2 d (by simpa using hd)
theorem bo.get{R:Row->Row->Prop}:∀{rs:List Row},bo R rs->∀(k:Nat) (h:k+1<rs.length),R (rs[k]'(by ext h:1)) rs[k+1]
 | [],_,k,h=>absurd h (by simp)
 | [a],_,k,h=>absurd h (by simp)
 | a::b::rs,h,0,_=>h.1
 | a::b::rs,h,k+1,hk=>bo.get (rs:=b::rs) h.2 k (by simpa using hk)
theorem KZ{rs:List Row}{n:Nat}(h:n<rs.length):eI (rs.map Row.d) (n:Int)=some (Row.d rs[n]):=by
 rw [DL.df];simp [h]
theorem aB.mono{A B:Int}{r:Row}(h:aB A r)(Am:A<=B):aB B r:=by unfold aB at *;ext h Am
noncomputable def gx(c k:Int):Int:=((c%10^60+3)*(16180339887498948482045868343656381177203+2*k*k)+6151*k)*((c%10^60+3)*(16180339887498948482045868343656381177203+2*k*k)+6151*k)%(10^60+33)
theorem vO(c k:Int):0<=gx c k/\gx c k<10^60+33:=⟨rN _ (by decide),rK _ (by decide)⟩
theorem vN(c k:Int)(h0:0<=k)(h1:k<=10^6):p7 [.int c,.int k]=some (.sh (.int (gx c k))):=by
 refine Wo.eq (lr.mpr ?_)
 unfold L8 gx
 have m1:=rN c (show (10^60:Int)≠0 by decide)
 have m2:=rK c (show (0:Int)<10^60 by decide)
 have k1:0<=2*k*k:=oI (by ext h0) h0
 have k2:2*k*k<=2*10^6*10^6:=Int.mul_le_mul (by ext h1) h1 h0 (by ext)
 walk_at "vc"
 generalize c%10^60=a at *
 generalize 2*k*k=q at *
 have b1:=JR (a:=a+3) (b:=16180339887498948482045868343656381177203+q) (A:=10^61) (B:=10^42) (by ext m1) (by ext m2) (by lia) (by lia)
 have b2:MulC (a+3) (16180339887498948482045868343656381177203+q):=xn (by ext m1) (by ext m2) (by lia) (by lia)
 generalize (a+3)*(16180339887498948482045868343656381177203+q)=b at *
 have b3:MulC (b+6151*k) (b+6151*k):=xn (by lia) (by lia) (by lia) (by lia)
 have b4:MulC 2 k:=.inr (.inl (by ext h0 h1))
 have b5:MulC (2*k) k:=.inr (.inl (by ext h0 h1))
 have b6:MulC 6151 k:=.inr (.inl (by ext h0 h1))
 have b7:PowC 10 60:=by decide
 simp [b2,b3,b4,b5,b6,b7,jU]
theorem Ra(cs:List Int):pR (cs.map D.int)=cs.zipIdx.map λp=>D.tup [.int p.2,.int p.1]:=by
 unfold pR
 rw [List.zipIdx_map,dS]
 rfl
theorem Rn{α:Type}{cs:List α}{pre post:List (α×Nat)}{a:α×Nat}(e:cs.zipIdx=pre++a::post):a.2=pre.length/\pre.length<cs.length:=by
 have h:=congrArg (λl=>l[pre.length]?) e
 have hl:=congrArg tG e
 simp at h hl
 obtain ⟨x,_,h⟩:=h
 exact ⟨by rw [<-h],by ext hl⟩
theorem b6m(cs:List Int)(most:Int)(h0:1<=most)(h1:most<=1000)(hl:cs.length<=1000){r:Bool}:∃ss:List Int,xC [.lst r (cs.map D.int),.int most]=some (.ow (ss.map D.int))/\(ss.length:Int)=most/\∀s∈ss,0<=s/\s<10^60+33:=by
 have key:Wo (xC [.lst r (cs.map D.int),.int most]) λs=>∃ss:List Int,s=.ow (ss.map D.int)/\(ss.length:Int)=most/\∀v∈ss,0<=v/\v<10^60+33:=by
  refine lq.mpr ?_
  unfold L9
  walk_at "vc"
  unfold bD
  rw [nF (λ(k:Nat)=>D.int (0+(k:Int))) (λk=>.int (gx k 40)) (λe=>∃j,e=[j]) (eH most.toNat) (λk _ e he=>by
   obtain ⟨j,rfl⟩:=he
   walk_at "vc"
   rw [IT,vN _ _ (by decide) (by decide)]
   walk_at "vc"
   exact ⟨_,rfl⟩) ⟨_,rfl⟩]
  walk_at "vc"
  rw [Ra,bB,List.length_range]
  refine ⟨by ext h1,?_⟩
  refine nE (λp:Int×Nat=>D.tup [.int p.2,.int p.1]) (λpre env=>∃x3 x4 x5,∃ss:List Int,env=[.sh (.lst r (cs.map D.int)),.sh (.int most),.ow (ss.map D.int),x3,x4,x5]/\(ss.length:Int)=most/\∀v∈ss,0<=v/\v<10^60+33) cs.zipIdx (λpre a post env e h=>?_) (λenv h=>?_)
   ⟨_,_,_,(eH most.toNat).map λ(k:Nat)=>gx k 40,by rw [dS];rfl,by simp;ext h0,λv hv=>by obtain ⟨k,_,rfl⟩:=dz.mp hv;exact vO _ _⟩
  .obtain ⟨x3,x4,x5,ss,rfl,hs,hv⟩:=h
   obtain ⟨ea,hp⟩:=Rn e
   obtain ⟨c,n⟩:=a
   have m1:=rN (n:Int) (show most≠0 by ext h0)
   have m2:=rK (n:Int) (show 0<most by ext h0)
   have m3:=rN (n:Int) (show (37:Int)≠0 by ext)
   have m4:=rK (n:Int) (show (0:Int)<37 by ext)
   walk_at "vc"
   generalize (n:Int)%most=j at *
   rw [Fd 0 m1 (by ext hs m2)]
   walk_at "vc"
   rw [vN _ _ m3 (by lia)]
   walk_at "vc"
   have hj:jg (ss.map D.int).length j=some j.toNat:=by
    unfold jg
    rw [if_pos m1,bB,if_pos (by ext hs m2)]
   rw [hj]
   walk_at "vc"
   refine ⟨by walk_at "sc",by walk_at "sc",by walk_at "sc",?_⟩
   refine ⟨_,_,_,ss.set j.toNat (gx _ _),by rw [List.map_set],by rw [Jg];exact hs,λv zE=>?_⟩
   rcases List.mem_or_eq_of_mem_set zE with h | h
   .exact hv v h
   .rw [h];exact vO _ _
  .obtain ⟨x3,x4,x5,ss,rfl,hs,hv⟩:=h
   walk_at "vc"
   exact ⟨ss,rfl,hs,hv⟩
 obtain ⟨s,e,l,rfl,h⟩:=key
 exact ⟨l,e,h⟩
theorem Z'{at_ m:Int}{a:Row}(hm:0<=m/\m<10^60+33)(h1:-(10^46)<=at_/\at_<=10^46)(h2:-(10^46)<=a.1/\a.1<=10^46)(h3:-(10^30)<=a.2.2.2/\a.2.2.2<=10^30):
  ∃l w p s:Int,xG [.int at_,.int m,a.d]=some (.sh (Row.d (l,l+w,p,s)))/\(at_<=l/\l<=at_+10^40)/\(0<=w/\w<=10^40)/\((-(10^45)<=p/\p<=10^45)\/p=a.at l)/\(-(10^30)<=s/\s<=10^30):=by
 have key:Wo (xG [.int at_,.int m,a.d]) λo=>∃l w p s:Int,o=.sh (Row.d (l,l+w,p,s))/\(at_<=l/\l<=at_+10^40)/\(0<=w/\w<=10^40)/\((-(10^45)<=p/\p<=10^45)\/p=a.at l)/\(-(10^30)<=s/\s<=10^30):=by
  refine om.mpr ?_
  unfold LB
  walk_at "v1"
  walk_at "st"
  refine Kt [0,0,1,1+m%7,m%10^40] (rN _ (by decide)) (rK _ (by decide)) λg hg=>?_
  have hg:0<=g/\g<=10^40:=by simp at hg;lia
  walk_at "v1"
  rw [vN _ _ (by decide) (by decide)]
  walk_at "v1"
  have q1:=vO m 61
  generalize gx m 61=m1 at *
  walk_at "st"
  refine Kt [0,1,m1%6,m1%10^40] (rN _ (by decide)) (rK _ (by decide)) λw hw=>?_
  have hw:0<=w/\w<=10^40:=by simp at hw;lia
  walk_at "v1"
  rw [vN _ _ (by decide) (by decide)]
  walk_at "v1"
  have q2:=vO m1 62
  generalize gx m1 62=m2 at *
  walk_at "st"
  refine EZ (λd=>∃p:Int,d=.int p /\ -(10^45)<=p/\p<=10^45) (by simp) ?_ λd hd=>?_
  .walk_at "vc"
   simp [DivC,PowC,MulC,jU,LIM]
   lia
  obtain ⟨p,rfl,hp⟩:=hd
  walk_at "v1"
  refine EZ (λd=>∃p:Int,d=.int p/\((-(10^45)<=p/\p<=10^45)\/p=a.at (at_+g))) (by simp) ?_ λd hd=>?_
  .have hmul:MulC a.2.2.2 (at_+g-a.1):=xn (by ext h3) (by ext h3) (by ext h1 h2 hg) (by ext h1 h2 hg)
   rw [c9 a]
   walk_at "vc"
   simp [hmul,Row.at,jU]
   lia
  obtain ⟨p',rfl,uJ⟩:=hd
  walk_at "v1"
  rw [vN _ _ (by decide) (by decide)]
  walk_at "v1"
  have q3:=vO m2 63
  generalize gx m2 63=m3 at *
  walk_at "st"
  refine EZ (λd=>∃s:Int,d=.int s /\ -(10^30)<=s/\s<=10^30) (by simp) ?_ λd hd=>?_
  .walk_at "vc"
   simp [DivC,PowC,MulC,jU,LIM]
   lia
  obtain ⟨s,rfl,hs⟩:=hd
  walk_at "vc"
  exact ⟨at_+g,w,p',s,rfl,by ext hg,hw,uJ,hs⟩
 obtain ⟨o,e,l,w,p,s,rfl,h⟩:=key
 exact ⟨l,w,p,s,e,h⟩
def oU(r:Row):Prop:=(-(10^46)<=r.1/\r.1<=10^46)/\(-(10^46)<=r.2.1/\r.2.1<=10^46)/\(-(10^79)<=r.2.2.1/\r.2.2.1<=10^79)/\(-(10^30)<=r.2.2.2/\r.2.2.2<=10^30)
theorem b38{rs:List Row}{r:Row}(h:dF rs)(hr:r.1<=r.2.1)(hl:∀q∈rs,q.2.1<r.1):dF (rs++[r]):=by
 refine ⟨λq hq=>?_,gQ.mpr ⟨h.2,rF _ _,λa ha b hb=>?_⟩⟩
 .rcases bT.mp hq with h' | h'
  .exact h.1 q h'
  .rw [bU.mp h'];exact hr
 .rw [bU.mp hb];exact hl a ha
theorem b6p{m many:Int}(hm:0<=m/\m<10^60+33)(h0:0<=many)(h1:many<=10):∃rs:List Row,se [.int m,.int many]=some (.ow (rs.map Row.d))/\(rs.length:Int)=many/\dF rs/\∀r∈rs,oU r:=by
 have key:Wo (se [.int m,.int many]) λo=>∃rs:List Row,o=.ow (rs.map Row.d)/\(rs.length:Int)=many/\dF rs/\∀r∈rs,oU r:=by
  refine mJ.mpr ?_
  unfold LU
  walk_at "v1"
  walk_at "st"
  refine EZ (λd=>∃a:Int,d=.int a /\ -(10^45)<=a/\a<=10^45) (by simp) ?_ λd hd=>?_
  .walk_at "vc"
   simp [DivC,PowC,MulC,jU,LIM]
   lia
  obtain ⟨at0,rfl,ha0⟩:=hd
  walk_at "v1"
  refine ⟨by walk_at "sc",?_⟩
  refine b5v _ _ (λk env=>∃x6,∃(rs:List Row) (a:Row) (at_ m:Int),env=[.sh (.int m),.sh (.int many),.sh (.int at_),.ow (rs.map Row.d),.sh a.d,x6]/\rs.length=k/\dF rs/\(0<=m/\m<10^60+33)/\(-(10^45)<=at_/\at_<=10^45+k*10^41)/\(∀r∈rs,r.2.1<at_) /\
   (-(10^46)<=a.1/\a.1<=10^46)/\(-(10^30)<=a.2.2.2/\a.2.2.2<=10^30)/\(-(k*10^77)<=a.2.2.1/\a.2.2.1<=k*10^77)/\∀r∈rs,oU r) (λk env hk h=>?_) (λenv h=>?_)
   ⟨_,[],(0,0,0,1),at0,m,rfl,rfl,⟨λ_ z=>(nomatch z),.nil⟩,hm,by lia,λ_ z=>(nomatch z),by decide,by decide,by simp,λ_ z=>(nomatch z)⟩
  .obtain ⟨x6,rs,a,at_,m,rfl,hl,hA,hm,sZ,aT,HV,m7,HU,hb⟩:=h
   have NJ:(k:Int)<10:=by ext h1 hk
   walk_at "v1"
   rw [vN _ _ (by ext) (by ext NJ)]
   walk_at "v1"
   have q1:=vO m (70+(0+(k:Int)))
   generalize gx m (70+(0+(k:Int)))=m1 at *
   obtain ⟨l,w,p,s,er,gM,hw,hp,hs⟩:=Z' (at_:=at_) (a:=a) q1 (by lia) HV m7
   rw [er]
   walk_at "vc"
   rw [c9]
   walk_at "vc"
   rw [bB]
   have zK:-((k+1)*10^77)<=p/\p<=(k+1)*10^77:=by
    rcases hp with h | h
    .lia
    .have:=JR (a:=a.2.2.2) (b:=l-a.1) (A:=10^30) (B:=3*10^46) (by ext m7) (by ext m7) (by ext sZ HV gM) (by lia)
     unfold Row.at at h
     lia
   refine ⟨by ext hl NJ,?_⟩
   refine ⟨_,rs++[(l,l+w,p,s)],(l,l+w,p,s),l+w+1,m1,by rw [fX];rfl,by simp [hl],b38 hA (by dsimp only;ext hw) (λq hq=>by have:=aT q hq;dsimp only;ext gM this),q1,by push_cast;lia,λr hr=>?_,by dsimp only;lia,hs,by push_cast;exact zK,λr hr=>?_⟩
   .rcases bT.mp hr with h | h
    .have:=aT r h;ext gM hw this
    .rw [bU.mp h];dsimp only;ext
   .rcases bT.mp hr with h | h
    .exact hb r h
    .rw [bU.mp h];unfold oU;dsimp only;lia
  .obtain ⟨x6,rs,a,at_,m,rfl,hl,hA,hm,sZ,aT,HV,m7,HU,hb⟩:=h
   walk_at "vc"
   exact ⟨rs,rfl,by ext h0 hl,hA,hb⟩
 obtain ⟨o,e,rs,rfl,h⟩:=key
 exact ⟨rs,e,h⟩
theorem Kc{p s l x:Int}(h1:-(10^250)<=s)(h2:s<=10^250)(h3:-(10^250)<=x-l)(h4:x-l<=10^250):tZ [.tup [.int p,.int s],.int l,.int x]=some (.sh (.int (p+s*(x-l)))):=by
 refine Wo.eq (oj.mpr ?_)
 unfold LC
 walk_at "go"
theorem BK{r:Row}{x:Int}(h1:-(10^250)<=r.2.2.2)(h2:r.2.2.2<=10^250)(h3:-(10^250)<=x-r.1)(h4:x-r.1<=10^250):sd [r.d,.int x]=some (.sh (.int (r.at x))):=by
 refine Wo.eq (mN.mpr ?_)
 unfold LP
 rw [c9 r]
 walk_at "vc"
 rw [Kc h1 h2 h3 h4]
 walk_at "vc"
 rfl
theorem b8C{a b:Int}(h:0<b)(h2:b<=10^250):BZ [.int a,.int b]=some (.sh (.int (a/b))):=by
 refine Wo.eq (vZ.mpr ?_)
 unfold JV
 walk_at "go"
theorem Io{a b:Int}(h:0<b)(h2:b<=10^250):BF [.int a,.int b]=some (.sh (.int (-(-a/b)))):=by
 refine Wo.eq (MN.mpr ?_)
 unfold v7
 walk_at "go"
noncomputable def pK:Option (Int×Int)->D
 | none=>.aR
 | some (a,b)=>.tup [.int a,.int b]
noncomputable def wb(a b:Int):Option (Int×Int):=if a<=b then some (a,b) else none
theorem OT(a b:Int):xO [.int a,.int b]=some (.sh (pK (wb a b))):=by
 refine Wo.eq (iD.mpr ?_)
 unfold Mr
 walk_at "go"
 all_goals simp [wb,pK, *]
noncomputable def nd(a s low high:Int):Option (Int×Int):=if 0<s then wb low (min high (low+(-a)/s)) else if s<0 then wb (max low (low + -((-a)/(-s)))) high else if 0<a then none else some (low,high)
theorem Ip{p1 s1 p2 s2 low high:Int}(h:-(10^250)<=s1-s2)(h2:s1-s2<=10^250):
  Cq [.tup [.int p1,.int s1],.tup [.int p2,.int s2],.int low,.int high]=some (.sh (pK (nd (p1-p2) (s1-s2) low high))):=by
 refine Wo.eq (kY.mpr ?_)
 unfold Md
 walk_at "vc"
 refine ⟨λhs=>?_,λhs=>⟨λig=>?_,λig=>⟨λha=>?_,λha=>?_⟩⟩⟩
 .rw [b8C hs h2]
  walk_at "vc"
  rw [OT]
  walk_at "vc"
  rw [nd,if_pos hs]
 .rw [Io (by ext ig) (by ext h)]
  walk_at "vc"
  rw [OT]
  walk_at "vc"
  rw [nd,if_neg hs,if_pos ig]
 .rw [nd,if_neg hs,if_neg ig,if_pos ha];rfl
 .rw [nd,if_neg hs,if_neg ig,if_neg ha];rfl
theorem P'{a s low high:Int}(zQ:low<=high):match nd a s low high with
  | none=>∀x,low<=x->x<=high->0<a+s*(x-low)
  | some (f,l)=>(low<=f/\f<=l/\l<=high/\(f=low\/l=high))/\∀x,low<=x->x<=high->(a+s*(x-low)<=0↔f<=x/\x<=l):=by
 unfold nd
 by_cases hs:0<s
 .rw [if_pos hs]
  obtain ⟨f1,f2⟩:=QZ (a:=-a) hs
  generalize (-a)/s=q at *
  have key:∀x,a+s*(x-low)<=0↔x-low<=q:=λx=>by
   constructor
   .intro h
    rcases Int.lt_or_le q (x-low) with h' | h'
    .have:=Ei (show q+1<=x-low by ext h') (A5 hs)
     grind
    .exact h'
   .intro h
    have:=Ei h (A5 hs)
    grind
  unfold wb
  by_cases hm:low<=min high (low+q)
  .rw [if_pos hm]
   refine ⟨⟨by ext,by ext hm,by ext,.inl rfl⟩,λx h1 h2=>?_⟩
   rw [key]
   ext h1 h2
  .rw [if_neg hm]
   intro x h1 h2
   have:=not_congr (key x)
   ext zQ hm h1 this
 .rw [if_neg hs]
  by_cases ig:s<0
  .rw [if_pos ig]
   obtain ⟨f1,f2⟩:=QZ (a:=-a) (b:=-s) (by ext ig)
   generalize (-a)/(-s)=q at *
   have key:∀x,a+s*(x-low)<=0 ↔ -q<=x-low:=λx=>by
    constructor
    .intro h
     rcases Int.lt_or_le (x-low) (-q) with h' | h'
     .have:=Ei (show x-low+1 <= -q by ext h') (show 0 <= -s by ext ig)
      grind
     .exact h'
    .intro h
     have:=Ei h (show 0 <= -s by ext ig)
     grind
   unfold wb
   by_cases hm:max low (low + -q)<=high
   .rw [if_pos hm]
    refine ⟨⟨by ext,by ext hm,by ext,.inr rfl⟩,λx h1 h2=>?_⟩
    rw [key]
    ext h1 h2
   .rw [if_neg hm]
    intro x h1 h2
    have:=not_congr (key x)
    ext zQ hm h2 this
  .rw [if_neg ig]
   have:s=0:=by ext hs ig
   subst this
   by_cases ha:0<a
   .rw [if_pos ha];intro x _ _;ext ha
   .rw [if_neg ha];exact ⟨⟨by ext,by ext zQ,by ext,.inl rfl⟩,λx h1 h2=>by ext ha h1 h2⟩
theorem ED{p s l f g:Int}(h1:-(10^250)<=s)(h2:s<=10^250)(h3:-(10^250)<=f-l)(h4:f-l<=10^250):t6 [.tup [.int p,.int s],.int l,.int f,.int g]=some (.sh (.tup [.int f,.int g,.int (p+s*(f-l)),.int s])):=by
 refine Wo.eq (jN.mpr ?_)
 unfold L6
 walk_at "vc"
 rw [Kc h1 h2 h3 h4]
 walk_at "go"
noncomputable def gZ(p s l f g:Int):Row:=(f,g,p+s*(f-l),s)
noncomputable def pz(p1 s1 p2 s2 low high:Int):List Row:=match nd (p1-p2) (s1-s2) low high with
 | none=>[gZ p2 s2 low low high]
 | some (f,l)=>(if low<f then [gZ p2 s2 low low (f-1)] else [])++[gZ p1 s1 low f l]++(if l<high then [gZ p2 s2 low (l+1) high] else [])
theorem b8A{p1 s1 p2 s2 low high:Int}(zQ:low<=high)(hw:high-low<=10^200)(h1:-(10^200)<=s1)(h2:s1<=10^200)(h3:-(10^200)<=s2)(h4:s2<=10^200):
  Cd [.tup [.int p1,.int s1],.tup [.int p2,.int s2],.int low,.int high]=some (.ow ((pz p1 s1 p2 s2 low high).map Row.d)):=by
 refine Wo.eq (jQ.mpr ?_)
 unfold L4
 walk_at "vc"
 rw [Ip (by ext h1 h4) (by ext h2 h3)]
 have sp:=P' (a:=p1-p2) (s:=s1-s2) (low:=low) (high:=high) zQ
 unfold pz
 cases pB:nd (p1-p2) (s1-s2) low high with
 | none =>
  dsimp only [pK]
  walk_at "vc"
  rw [ED (by ext h3) (by ext h4) (by ext) (by ext)]
  walk_at "vc"
  rfl
 | some fl =>
  obtain ⟨f,l⟩:=fl
  rw [pB] at sp
  obtain ⟨⟨q1,q2,q3,q4⟩,q5⟩:=sp
  dsimp only [pK]
  walk_at "vc"
  rw [ED (by ext h3) (by ext h4) (by ext) (by ext),ED (by ext h1) (by ext h2) (by ext q1) (by ext hw q2 q3),ED (by ext h3) (by ext h4) (by ext q1 q2) (by ext hw q3)]
  walk_at "vc"
  refine ⟨λa=>?_,λa=>?_⟩<;>(repeat' first | apply c4j | intro _)<;>simp [*,Row.d,gZ]
theorem EC(r:Row):sf [r.d]=some (.sh (.bl (decide (r.1=r.2.1)))):=by
 refine Wo.eq (lu.mpr ?_)
 unfold L7
 rw [c9 r]
 walk_at "go"
noncomputable def fI(r:Row):Row:=if r.1=r.2.1 then (r.1,r.2.1,r.2.2.1,0) else r
theorem E2(r:Row):r8 [r.d]=some (.sh (fI r).d):=by
 refine Wo.eq (sj.mpr ?_)
 unfold Kr
 walk_at "vc"
 rw [EC]
 walk_at "vc"
 unfold fI
 refine ⟨λh=>?_,λh=>?_⟩
 .rw [if_pos h,c9]
  walk_at "vc"
  rfl
 .rw [if_neg h]
noncomputable def lN(a r:Row):Int:=if a.1=a.2.1 then r.2.2.1-a.2.2.1 else a.2.2.2
noncomputable def lQ(a r:Row):List Row:=if r.2.2.1≠a.2.2.1+lN a r*(r.1-a.1) then [a,fI r] else if r.1=r.2.1\/r.2.2.2=lN a r then [(a.1,r.2.1,a.2.2.1,lN a r)] else
 [(a.1,r.1,a.2.2.1,lN a r),fI (r.1+1,r.2.1,r.2.2.1+r.2.2.2,r.2.2.2)]
theorem b30{a r:Row}(ha:aB (3*10^140) a)(hr:aB (10^140) r):Cf [a.d,r.d]=some (.ow ((lQ a r).map Row.d)):=by
 refine Wo.eq (je.mpr ?_)
 unfold Mw
 walk_at "v1"
 rw [EC]
 unfold aB at ha hr
 have Dj:Wo (some (Sl.sh (D.bl (decide (a.1=a.2.1))))) λUh=>Wo (iQ Uh.d) λb=>True:=⟨_,rfl,_,rfl,trivial⟩
 have uG:-(10^200)<=lN a r/\lN a r<=10^200:=by unfold lN;split<;>omega
 rw [c9 a,c9 r]
 walk_at "v1"
 have fin:∀{st:Int},st=lN a r->Wo (ah (cE (bX (aa gy (az (bV 1) (eC (.int 2))) (aN 3 tZ (af (bF (af (az (bV 0) (eC (.int 2))) (af (eV 2) ae))) (af (az (bV 0) (eC (.int 0))) (af (az (bV 1) (eC (.int 0))) ae))))))
   (av (bG (af (eV 0) (af (aN 1 r8 (af (eV 1) ae)) ae)))) cZ)
   (ah (cE (iR (cO (aN 1 sf (af (eV 1) ae))) (bX (aa dj (az (bV 1) (eC (.int 3))) (eV 2))))
   (av (bG (af (bF (af (az (bV 0) (eC (.int 0))) (af (az (bV 1) (eC (.int 1))) (af (az (bV 0) (eC (.int 2))) (af (eV 2) ae))))) ae))) cZ)
   (ah (bg 3 (aN 1 r8 (af (bF (af (aa aV (az (bV 1) (eC (.int 0))) (eC (.int 1))) (af (az (bV 1) (eC (.int 1))) (af (aa aV (az (bV 1) (eC (.int 2))) (az (bV 1) (eC (.int 3)))) (af (az (bV 1) (eC (.int 3))) ae))))) ae)))
   (av (bG (af (bF (af (az (bV 0) (eC (.int 0))) (af (az (bV 1) (eC (.int 0))) (af (az (bV 0) (eC (.int 2))) (af (eV 2) ae))))) (af (eV 3) ae)))))) [.sh (.tup [.int a.1,.int a.2.1,.int a.2.2.1,.int a.2.2.2]),.sh (.tup [.int r.1,.int r.2.1,.int r.2.2.1,.int r.2.2.2]),.sh (.int st),.no])
   (aJ λx=>x=.ow ((lQ a r).map Row.d)):=by
  rintro st rfl
  walk_at "vc"
  rw [Kc (by ext uG) (by ext uG) (by ext ha hr) (by ext ha hr),<-c9 r,E2,EC]
  have e2:=E2 (r.1+1,r.2.1,r.2.2.1+r.2.2.2,r.2.2.2)
  rw [c9] at e2
  dsimp only at e2
  rw [e2]
  walk_at "vc"
  unfold lQ
  refine ⟨λh=>?_,λh=>⟨λh1=>?_,λh1=>⟨λh2=>?_,λh2=>?_⟩⟩⟩
  .rw [if_pos h];rfl
  .rw [if_neg (by simpa using h),if_pos (.inl h1)];rfl
  .rw [if_neg (by simpa using h),if_pos (.inr h2)];rfl
  .rw [if_neg (by simpa using h),if_neg (by simp [h1,h2])];rfl
 refine ⟨λh=>?_,λh=>?_⟩
 .exact Wo_seq.mp (fin (by unfold lN;rw [if_pos h]))
 .exact Wo_seq.mp (fin (by unfold lN;rw [if_neg h]))
theorem Rg{a r:Row}(ha:pS a)(hr:r.1<=r.2.1)(hn:r.1=a.2.1+1):(∀q∈lQ a r,pS q)/\bo BA (lQ a r)/\(∀x c,Val (lQ a r) x c↔(a.1<=x/\x<=a.2.1/\c=a.at x)\/(r.1<=x/\x<=r.2.1/\c=r.at x)) /\
  total (lQ a r)=(a.2.1-a.1+1)+(r.2.1-r.1+1)/\(∃q,(lQ a r).head?=some q/\q.1=a.1/\q.2.2.1=a.2.2.1)/\(∃q,(lQ a r).getLast?=some q/\q.2.1=r.2.1)/\(lQ a r).length<=2:=by
 obtain ⟨a0,a1,a2,a3⟩:=a
 obtain ⟨r0,r1,r2,r3⟩:=r
 unfold pS at ha
 dsimp only at ha hr hn
 have dQ:∀r:Row,r.1<=r.2.1->pS (fI r)/\(fI r).1=r.1/\(fI r).2.1=r.2.1/\(fI r).2.2.1=r.2.2.1/\∀x,r.1<=x->x<=r.2.1->(fI r).at x=r.at x:=λr h=>by
  unfold fI
  split
  .rename_i e
   refine ⟨⟨by dsimp only;ext h,λ_=>rfl⟩,rfl,rfl,rfl,λx h1 h2=>?_⟩
   have:x=r.1:=by ext e h1 h2
   unfold Row.at
   dsimp only
   rw [this];simp
  .rename_i e
   exact ⟨⟨h,λz=>absurd z e⟩,rfl,rfl,rfl,λ_ _ _=>rfl⟩
 generalize hs:lN (a0,a1,a2,a3) (r0,r1,r2,r3)=s
 have zG:a0=a1->s=r2-a2:=λe=>by rw [<-hs];unfold lN;dsimp only;rw [if_pos e]
 have ig:a0≠a1->s=a3:=λe=>by rw [<-hs];unfold lN;dsimp only;rw [if_neg e]
 unfold lQ
 dsimp only
 rw [hs]
 by_cases bP:r2≠a2+s*(r0-a0)
 .rw [if_pos bP]
  have NW:a0≠a1:=λe=>bP (by rw [zG e,hn,<-e];grind)
  have hs:=ig NW
  obtain ⟨p1,p2,p3,p4,p5⟩:=dQ (r0,r1,r2,r3) hr
  dsimp only at p2 p3 p4 p5
  refine ⟨λq hq=>?_,⟨⟨by rw [p2];dsimp only;ext hn,λ_=>⟨by dsimp only;ext ha NW,?_⟩⟩,trivial⟩,λx c=>?_,?_,⟨_,rfl,rfl,rfl⟩,⟨_,rfl,p3⟩,by simp⟩
  .simp at hq
   rcases hq with rfl | rfl
   .exact ha
   .exact p1
  .rw [p4,p2]
   unfold Row.at
   dsimp only
   rw [<-hs];exact bP
  .rw [Val.two,p2,p3]
   constructor
   .rintro (h | ⟨h1,h2,h3⟩)
    .exact .inl h
    .exact .inr ⟨h1,h2,by rw [h3,p5 x h1 h2]⟩
   .rintro (h | ⟨h1,h2,h3⟩)
    .exact .inl h
    .exact .inr ⟨h1,h2,by rw [h3,p5 x h1 h2]⟩
  .unfold total
   simp [p2,p3]
 .have he:r2=a2+s*(r0-a0):=Classical.not_not.mp bP
  rw [if_neg bP]
  have va:∀x,a0<=x->x<=a1->a2+s*(x-a0)=a2+a3*(x-a0):=λx h1 h2=>by
   by_cases e:a0=a1
   .have:x=a0:=by ext h1 h2 e
    rw [this];simp
   .rw [ig e]
  by_cases hj:r0=r1\/r3=s
  .rw [if_pos hj]
   have vr:∀x,r0<=x->x<=r1->a2+s*(x-a0)=r2+r3*(x-r0):=λx h1 h2=>by
    have e1:a2+s*(x-a0)=r2+s*(x-r0):=by rw [he];grind
    rw [e1]
    rcases hj with e | e
    .have:x=r0:=by ext h1 h2 e
     rw [this];simp
    .rw [e]
   refine ⟨λq hq=>?_,trivial,λx c=>?_,?_,⟨_,rfl,rfl,rfl⟩,⟨_,rfl,rfl⟩,by simp⟩
   .simp at hq
    subst hq
    exact ⟨by dsimp only;ext ha hr hn,λz=>by dsimp only at z;ext ha hr hn z⟩
   .rw [Val.one]
    unfold Row.at
    dsimp only
    constructor
    .rintro ⟨h1,h2,h3⟩
     by_cases hx:x<=a1
     .exact .inl ⟨h1,hx,by rw [h3];exact va x h1 hx⟩
     .exact .inr ⟨by ext hn hx,h2,by rw [h3];exact vr x (by ext hn hx) h2⟩
    .rintro (⟨h1,h2,h3⟩ | ⟨h1,h2,h3⟩)
     .exact ⟨h1,by ext hr hn h2,by rw [h3];exact (va x h1 h2).symm⟩
     .exact ⟨by ext ha hn h1,h2,by rw [h3];exact (vr x h1 h2).symm⟩
   .unfold total
    simp
    ext hn
  .rw [if_neg hj]
   have XD:r0≠r1:=λe=>hj (.inl e)
   have XC:r3≠s:=λe=>hj (.inr e)
   obtain ⟨p1,p2,p3,p4,p5⟩:=dQ (r0+1,r1,r2+r3,r3) (by dsimp only;ext hr XD)
   dsimp only at p2 p3 p4 p5
   have vp:∀x,Row.at (r0+1,r1,r2+r3,r3) x=r2+r3*(x-r0):=λx=>by unfold Row.at;dsimp only;grind
   refine ⟨λq hq=>?_,⟨⟨by rw [p2];dsimp only;ext,λ_=>⟨by dsimp only;ext ha hn,?_⟩⟩,trivial⟩,λx c=>?_,?_,⟨_,rfl,rfl,rfl⟩,⟨_,rfl,p3⟩,by simp⟩
   .simp at hq
    rcases hq with rfl | rfl
    .exact ⟨by dsimp only;ext ha hn,λz=>by dsimp only at z;ext ha hn z⟩
    .exact p1
   .rw [p4,p2]
    unfold Row.at
    dsimp only
    have:a2+s*(r0+1-a0)=r2+s:=by rw [he];grind
    rw [this]
    ext XC
   .rw [Val.two,p2,p3]
    unfold Row.at at vp p5 ⊢
    dsimp only at vp p5 ⊢
    constructor
    .rintro (⟨h1,h2,h3⟩ | ⟨h1,h2,h3⟩)
     .by_cases hx:x<=a1
      .exact .inl ⟨h1,hx,by rw [h3];exact va x h1 hx⟩
      .have:x=r0:=by ext hn h2 hx
       exact .inr ⟨by ext hn hx,by ext hr h2,by rw [h3,this,<-he];simp⟩
     .refine .inr ⟨by ext h1,h2,?_⟩
      rw [p5 x h1 h2,vp] at h3
      exact h3
    .rintro (⟨h1,h2,h3⟩ | ⟨h1,h2,h3⟩)
     .exact .inl ⟨h1,by ext hn h2,by rw [h3];exact (va x h1 h2).symm⟩
     .by_cases hx:x=r0
      .exact .inl ⟨by ext ha hn hx,by ext hx,by rw [h3,hx,<-he];simp⟩
      .refine .inr ⟨by ext h1 hx,h2,?_⟩
       rw [p5 x (by ext h1 hx) h2,vp]
       exact h3
   .unfold total
    simp [p2,p3]
    ext hn
theorem b2n{a r:Row}(ha:aB (3*10^140) a/\(-(2*10^140)<=a.2.2.1/\a.2.2.1<=2*10^140))(hr:aB (10^140) r):∀q∈lQ a r,aB (3*10^140) q/\(-(2*10^140)<=q.2.2.1/\q.2.2.1<=2*10^140):=by
 unfold aB at *
 have hs:-(3*10^140)<=lN a r/\lN a r<=3*10^140:=by unfold lN;split<;>omega
 have hp:∀z:Row,((fI z).1=z.1/\(fI z).2.1=z.2.1/\(fI z).2.2.1=z.2.2.1/\((fI z).2.2.2=z.2.2.2\/(fI z).2.2.2=0)):=λz=>by unfold fI;split<;>simp
 intro q hq
 unfold lQ at hq
 split at hq
 .simp at hq
  rcases hq with rfl | rfl
  .exact ha
  .have:=hp r;ext hr this
 .split at hq
  .simp at hq
   subst hq
   dsimp only
   ext ha hr hs
  .simp at hq
   rcases hq with rfl | rfl
   .dsimp only;ext ha hr hs
   .have:=hp (r.1+1,r.2.1,r.2.2.1+r.2.2.2,r.2.2.2)
    dsimp only at this
    ext hr this
theorem b25{r:Row}(h:r.1<=r.2.1):pS (fI r)/\(fI r).1=r.1/\(fI r).2.1=r.2.1/\(fI r).2.2.1=r.2.2.1/\∀x,r.1<=x->x<=r.2.1->(fI r).at x=r.at x:=by
 unfold fI
 split
 .rename_i e
  refine ⟨⟨by dsimp only;ext h,λ_=>rfl⟩,rfl,rfl,rfl,λx h1 h2=>?_⟩
  have:x=r.1:=by ext e h1 h2
  unfold Row.at
  dsimp only
  rw [this];simp
 .rename_i e
  exact ⟨⟨h,λz=>absurd z e⟩,rfl,rfl,rfl,λ_ _ _=>rfl⟩
structure Laid(pre ms:List Row):Prop where
 canon:Canon ms
 val:∀x c,Val ms x c↔Val pre x c
 total:total ms=total pre
 last:∀a r,ms.getLast?=some a->pre.getLast?=some r->a.2.1=r.2.1
 none:ms=[]↔pre=[]
 len:ms.length<=pre.length
 bd:∀q∈ms,aB (3*10^140) q/\(-(2*10^140)<=q.2.2.1/\q.2.2.1<=2*10^140)
theorem Laid.append{pre ms:List Row}{r:Row}(h:Laid pre ms)(hr:r.1<=r.2.1)(hb:aB (10^140) r)(hf:∀a,ms.getLast?=some a->a.2.1<r.1/\a.2.1+1≠r.1):Laid (pre++[r]) (ms++[fI r]):=by
 obtain ⟨p1,p2,p3,p4,p5⟩:=b25 hr
 refine ⟨⟨λq hq=>?_,h.canon.2.snoc λa ha=>?_⟩,λx c=>?_,?_,λa q ha hq=>?_,by simp,by simp;exact h.len,λq hq=>?_⟩
 .rcases bT.mp hq with hq | hq
  .exact h.canon.1 q hq
  .rw [bU.mp hq];exact p1
 .have:=hf a ha
  exact ⟨by rw [p2];ext this,λz=>by rw [p2] at z;ext this z⟩
 .rw [Val.app,Val.app,h.val x c,Val.one,Val.one,p2,p3]
  constructor
  .rintro (h | ⟨h1,h2,h3⟩)
   .exact .inl h
   .exact .inr ⟨h1,h2,by rw [h3,p5 x h1 h2]⟩
  .rintro (h | ⟨h1,h2,h3⟩)
   .exact .inl h
   .exact .inr ⟨h1,h2,by rw [h3,p5 x h1 h2]⟩
 .rw [vP,vP,h.total]
  unfold My.total
  simp [p2,p3]
 .simp at ha hq
  subst ha hq
  exact p3
 .rcases bT.mp hq with hq | hq
  .exact h.bd q hq
  .rw [bU.mp hq]
   have:(fI r).2.2.2=r.2.2.2\/(fI r).2.2.2=0:=by unfold fI;split<;>simp
   unfold aB at *
   ext hb p2 p3 p4 this
theorem Laid.vH{pre ms:List Row}{a r:Row}(h:Laid pre (ms++[a]))(hr:r.1<=r.2.1)(hb:aB (10^140) r)(hn:a.2.1+1=r.1):Laid (pre++[r]) (ms++lQ a r):=by
 obtain ⟨b1,b2,b3,b4,⟨q1,b5,b6,b7⟩,⟨q2,b8,b9⟩,b10⟩:=Rg (h.canon.1 a (by simp)) hr hn.symm
 have bP:lQ a r≠[]:=λz=>by rw [z] at b5;cases b5
 refine ⟨⟨λq hq=>?_,h.canon.2.left.append b2 λc d hc hd=>?_⟩,λx c=>?_,?_,λc q hc hq=>?_,by simp [bP],?_,λq hq=>?_⟩
 .rcases bT.mp hq with hq | hq
  .exact h.canon.1 q (by simp [hq])
  .exact b1 q hq
 .rw [b5] at hd
  cases hd
  have:=h.canon.2.mid c hc
  unfold BA at this ⊢
  rw [b6,b7]
  exact this
 .rw [Val.app,Val.app,Val.one,b3,<-h.val,Val.app,Val.one,or_assoc]
 .have e:=h.total
  rw [vP] at e
  rw [vP,vP,b4,<-e]
  unfold My.total
  simp
  ext
 .rw [List.getLast?_append,b8] at hc
  simp at hc hq
  subst hc hq
  exact b9
 .have:=h.len
  simp at this ⊢
  ext b10 this
 .rcases bT.mp hq with hq | hq
  .exact h.bd q (by simp [hq])
  .exact b2n (h.bd a (by simp)) hb q hq
theorem Kb{rows:List Row}(ha:dF rows)(hb:∀r∈rows,aB (10^140) r)(hl:rows.length<=8000000){ro:Bool}:∃fs:List Row,p6 [.lst ro (rows.map Row.d)]=some (.sh (.tup (fs.map Row.d)))/\Laid rows fs:=by
 have key:Wo (p6 [.lst ro (rows.map Row.d)]) λs=>∃fs:List Row,s=.sh (.tup (fs.map Row.d))/\Laid rows fs:=by
  refine vY.mpr ?_
  unfold JW
  walk_at "vc"
  refine nE Row.d (λpre env=>∃x2 x3,∃ms:List Row,env=[.sh (.lst ro (rows.map Row.d)),.ow (ms.map Row.d),x2,x3]/\Laid pre ms) rows (λpre r post env e h=>?_) (λenv h=>?_)
   ⟨_,_,[],rfl,⟨⟨λ_ z=>(nomatch z),trivial⟩,λ_ _=>eE,rfl,λ_ _ z=>(nomatch z),eE,bh _,λ_ z=>(nomatch z)⟩⟩
  .obtain ⟨x2,x3,ms,rfl,h⟩:=h
   have hr:r∈rows:=by rw [e];simp
   have mX:=ha.1 r hr
   have Dk:=hb r hr
   have hlen:ms.length<=8000000:=fg h.len (fg (by rw [e];simp) hl)
   have ij:∀q,pre.getLast?=some q->q.2.1<r.1:=λq hq=>by
    have:=ha.2
    rw [e] at this
    exact (gQ.mp this).2.2 q (OI hq) r bK
   rcases Jk ms with rfl | ⟨ns,a,e2⟩
   .walk_at "vc"
    simp only [wF,List.isEmpty_nil,Bool.not_true,rL,false_implies,true_implies,true_and]
    rw [E2]
    walk_at "vc"
    have:=h.append mX Dk (λ_ z=>nomatch z)
    exact ⟨_,_,[fI r],rfl,this⟩
   .have e2:ms=ns++[a]:=by simpa using e2
    subst e2
    have zJ:pre≠[]:=λz=>by have:=h.none.mpr z;simp at this
    obtain ⟨q,hq⟩:∃q,pre.getLast?=some q:=⟨pre.getLast zJ,List.getLast?_eq_some_getLast zJ⟩
    have mZ:=h.last a q (by simp) hq
    have aT:=ij q hq
    walk_at "vc"
    have em:(mw Row.d (ns++[a])).isEmpty=false:=by simp
    rw [em,fX,fF,wF,DL.iw,c9 a,c9 r]
    walk_at "vc"
    refine ⟨λhe=>?_,λhe=>?_⟩
    .have ed:(mw Row.d ns++[D.tup [D.int a.1,D.int a.2.1,D.int a.2.2.1,D.int a.2.2.2]])[(mw Row.d ns++[D.tup [D.int a.1,D.int a.2.1,D.int a.2.2.1,D.int a.2.2.2]]).length-1]?=some (D.tup [D.int a.1,D.int a.2.1,D.int a.2.2.1,D.int a.2.2.2]):=by simp
     rw [ed,OH]
     walk_at "vc"
     rw [<-c9 a,<-c9 r,b30 (h.bd a (by simp)).1 Dk]
     walk_at "vc"
     have hb2:=(Rg (h.canon.1 a (by simp)) mX he.symm).2.2.2.2.2.2
     simp at hlen
     refine ⟨by decide,by simp;lia,_,_,ns++lQ a r,by rw [fX],h.vH mX Dk he⟩
    .rw [<-c9 a,<-c9 r,E2]
     walk_at "vc"
     simp at hlen
     refine ⟨by simp;lia,_,_,ns++[a]++[fI r],by rw [fX,fX];rfl,h.append mX Dk λc hc=>?_⟩
     simp at hc
     subst hc
     exact ⟨by ext mZ aT,he⟩
  .obtain ⟨x2,x3,ms,rfl,h⟩:=h
   walk_at "vc"
   exact ⟨ms,rfl,h⟩
 obtain ⟨s,e,fs,rfl,h⟩:=key
 exact ⟨fs,e,h⟩
theorem Canon.tail{r:Row}{rs:List Row}(h:Canon (r::rs)):Canon rs:=⟨λq hq=>h.1 q (bW _ hq),h.2.tail⟩
structure Met where
 lo:Int
 hi:Int
 a:Row
 b:Row
noncomputable def bM:List Row->List Row->List Met
 | a::as,b::bs=>(if max a.1 b.1<=min a.2.1 b.2.1 then [⟨max a.1 b.1,min a.2.1 b.2.1,a,b⟩] else [])++(if a.2.1<b.2.1 then bM as (b::bs) else bM (a::as) bs)
 | _,_=>[]
termination_by as bs=>as.length+bs.length
theorem BW{bs:List Row}:bM [] bs=[]:=by rw [bM];simp
theorem B'{as:List Row}:bM as []=[]:=by rw [bM];simp
theorem xA{a b:Row}{as bs:List Row}:bM (a::as) (b::bs)=(if max a.1 b.1<=min a.2.1 b.2.1 then [⟨max a.1 b.1,min a.2.1 b.2.1,a,b⟩] else [])++(if a.2.1<b.2.1 then bM as (b::bs) else bM (a::as) bs):=by rw [bM]
theorem n6{m:Met}:∀{n:Nat} {A B:List Row},A.length+B.length<=n->m∈bM A B->m.a∈A/\m.b∈B/\m.lo=max m.a.1 m.b.1/\m.hi=min m.a.2.1 m.b.2.1/\m.lo<=m.hi
 | n,[],B,_,h=>by rw [BW] at h;cases h
 | n,a::as,[],_,h=>by rw [B'] at h;cases h
 | 0,a::as,b::bs,hn,_=>absurd hn (by simp)
 | n+1,a::as,b::bs,hn,h=>by
  rw [xA] at h
  rcases bT.mp h with h | h
  .split at h
   .simp at h;subst h;simp;lia
   .cases h
  .split at h
   .obtain ⟨h1,h2,h3⟩:=n6 (n:=n) (by simp at hn ⊢;ext hn) h
    exact ⟨bW _ h1,h2,h3⟩
   .obtain ⟨h1,h2,h3⟩:=n6 (n:=n) (by simp at hn ⊢;ext hn) h
    exact ⟨h1,bW _ h2,h3⟩
theorem Fi:∀{n:Nat} {A B:List Row},A.length+B.length<=n->dF A->dF B->(bM A B).Pairwise λm k=>m.hi<k.lo
 | n,[],B,_,_,_=>by rw [BW];exact .nil
 | n,a::as,[],_,_,_=>by rw [B'];exact .nil
 | 0,a::as,b::bs,hn,_,_=>absurd hn (by simp)
 | n+1,a::as,b::bs,hn,ha,hb=>by
  have ta:dF as:=⟨λq hq=>ha.1 q (bW _ hq),(ir.mp ha.2).2⟩
  have tb:dF bs:=⟨λq hq=>hb.1 q (bW _ hq),(ir.mp hb.2).2⟩
  rw [xA]
  refine gQ.mpr ⟨?_,?_,λm hm k hk=>?_⟩
  .split<;>simp
  .split
   .exact Fi (n:=n) (by simp at hn ⊢;ext hn) ta hb
   .exact Fi (n:=n) (by simp at hn ⊢;ext hn) ha tb
  .have em:m.hi=min a.2.1 b.2.1:=by
    split at hm
    .simp at hm;subst hm;rfl
    .cases hm
   split at hk
   .obtain ⟨h1,h2,h3,_⟩:=n6 (bh _) hk
    have:=(ir.mp ha.2).1 _ h1
    ext em h3 this
   .obtain ⟨h1,h2,h3,_⟩:=n6 (bh _) hk
    have:=(ir.mp hb.2).1 _ h2
    ext em h3 this
theorem Lf{x:Int}{a' b':Row}:∀{n:Nat} {A B:List Row},A.length+B.length<=n->dF A->dF B->a'∈A->b'∈B->a'.1<=x->x<=a'.2.1->b'.1<=x->x<=b'.2.1->∃m∈bM A B,m.a=a'/\m.b=b'/\m.lo<=x/\x<=m.hi
 | n,[],B,_,_,_,h,_,_,_,_,_=>by cases h
 | n,a::as,[],_,_,_,_,h,_,_,_,_=>by cases h
 | 0,a::as,b::bs,hn,_,_,_,_,_,_,_,_=>absurd hn (by simp)
 | n+1,a::as,b::bs,hn,ha,hb,h1,h2,x1,x2,x3,x4=>by
  have ta:dF as:=⟨λq hq=>ha.1 q (bW _ hq),(ir.mp ha.2).2⟩
  have tb:dF bs:=⟨λq hq=>hb.1 q (bW _ hq),(ir.mp hb.2).2⟩
  rw [xA]
  by_cases hh:a'=a/\b'=b
  .obtain ⟨rfl,rfl⟩:=hh
   refine ⟨⟨max a'.1 b'.1,min a'.2.1 b'.2.1,a',b'⟩,?_,rfl,rfl,by dsimp only;ext x1 x3,by dsimp only;ext x2 x4⟩
   rw [if_pos (by ext x1 x2 x3 x4)];simp
  .have rest:∃m∈(if a.2.1<b.2.1 then bM as (b::bs) else bM (a::as) bs),m.a=a'/\m.b=b'/\m.lo<=x/\x<=m.hi:=by
    split
    .rename_i aT
     have nN:a'∈as:=by
      rcases bH.mp h1 with e | e
      .rcases bH.mp h2 with e2 | e2
       .exact absurd ⟨e,e2⟩ hh
       .have:=(ir.mp hb.2).1 _ e2
        subst e;ext _ x2 x3 this aT
      .exact e
     exact Lf (n:=n) (by simp at hn ⊢;ext hn) ta hb nN h2 x1 x2 x3 x4
    .rename_i aT
     have Aq:b'∈bs:=by
      rcases bH.mp h2 with e | e
      .rcases bH.mp h1 with e2 | e2
       .exact absurd ⟨e2,e⟩ hh
       .have:=(ir.mp ha.2).1 _ e2
        subst e;ext _ x1 x4 this aT
      .exact e
     exact Lf (n:=n) (by simp at hn ⊢;ext hn) ha tb h1 Aq x1 x2 x3 x4
   obtain ⟨m,hm,k⟩:=rest
   exact ⟨m,fY _ hm,k⟩
theorem Lg:∀{n:Nat} {A B:List Row},A.length+B.length<=n->(bM A B).length<=A.length+B.length
 | n,[],B,_=>by rw [BW];simp
 | n,a::as,[],_=>by rw [B'];simp
 | 0,a::as,b::bs,hn=>absurd hn (by simp)
 | n+1,a::as,b::bs,hn=>by
  rw [xA,dC]
  have h1:(if max a.1 b.1<=min a.2.1 b.2.1 then [(⟨max a.1 b.1,min a.2.1 b.2.1,a,b⟩:Met)] else []).length<=1:=by split<;>simp
  by_cases hc:a.2.1<b.2.1
  .have:=Lg (n:=n) (A:=as) (B:=b::bs) (by simp at hn ⊢;ext hn)
   rw [if_pos hc]
   simp at this ⊢;ext h1 this
  .have:=Lg (n:=n) (A:=a::as) (B:=bs) (by simp at hn ⊢;ext hn)
   rw [if_neg hc]
   simp at this ⊢;ext h1 this
theorem b52{rs:List Row}(h:dF rs){x:Int}{o:Option Int}(k:∀c,Val rs x c↔o=some c):look rs x=o:=by
 cases o with
 | some c=>exact (xu h).mpr ((k c).mpr rfl)
 | none =>
  cases e:look rs x with
  | none=>rfl
  | some c=>exact nomatch (k c).mp ((xu h).mp e)
theorem Lc{rs:List Row}(h:dF rs){x c:Int}:Val rs x c↔look rs x=some c:=(xu h).symm
noncomputable def tS(r:Row)(x:Int):D:=.tup [.int (r.at x),.int r.2.2.2]
theorem PX(r:Row)(x:Int):tS r x=.tup [.int (r.at x),.int r.2.2.2]:=rfl
noncomputable def Met.d(m:Met):D:=.tup [.int m.lo,.int m.hi,tS m.a m.lo,tS m.b m.lo]
theorem y9(m:Met):Met.d m=.tup [.int m.lo,.int m.hi,tS m.a m.lo,tS m.b m.lo]:=rfl
theorem Pj{r:Row}{x:Int}(h1:-(10^250)<=r.2.2.2)(h2:r.2.2.2<=10^250)(h3:-(10^250)<=x-r.1)(h4:x-r.1<=10^250):xF [r.d,.int x]=some (.sh (tS r x)):=by
 refine Wo.eq (kZ.mpr ?_)
 unfold Mc
 walk_at "vc"
 rw [BK h1 h2 h3 h4,c9]
 walk_at "vc"
 rfl
theorem AG{A B:List Row}(ha:∀r∈A,aB (10^200) r)(hb:∀r∈B,aB (10^200) r)(l1:A.length<=400000)(l2:B.length<=400000):BN [.tup (A.map Row.d),.tup (B.map Row.d)]=some (.ow ((bM A B).map Met.d)):=by
 refine Wo.eq (Cz.mpr ?_)
 unfold JL
 walk_at "v1"
 rw [KY]
 refine B7 (λn env=>∃x5 x6 x7 x8,∃(f s:Nat) (ms:List Met),env=[.sh (.tup (A.map Row.d)),.sh (.tup (B.map Row.d)),.ow (ms.map Met.d),.sh (.int f),.sh (.int s),x5,x6,x7,x8]/\n=(A.length-f)+(B.length-s)/\f<=A.length/\s<=B.length/\ms.length<=f+s/\ms++bM (A.drop f) (B.drop s)=bM A B) (λn env h=>?_) _ (A.length+B.length) (show A.length+B.length<1000000 by ext l1 l2) ⟨_,_,_,_,0,0,[],rfl,by simp,by simp,by simp,by simp,rfl⟩
 obtain ⟨x5,x6,x7,x8,f,s,ms,rfl,rfl,hf,hs,uM,e⟩:=h
 walk_at "v1"
 rw [bB,bB]
 refine ⟨λh1=>⟨λh2=>?_,λh2=>?_⟩,λh1=>?_⟩
 .have nN:f<A.length:=by ext h1
  have Aq:s<B.length:=by ext h2
  have d1:A.drop f=A[f]::A.drop (f+1):=j0 nN
  have d2:B.drop s=B[s]::B.drop (s+1):=j0 Aq
  have b1:=ha A[f] (nU nN)
  have b2:=hb B[s] (nU Aq)
  rw [KZ nN,KZ Aq]
  generalize A[f]=a at *
  generalize B[s]=b at *
  rw [d1,d2,xA] at e
  unfold aB at b1 b2
  have ea:=Pj (r:=a) (x:=max a.1 b.1) (by ext b1) (by ext b1) (by ext) (by ext b1 b2)
  have eb:=Pj (r:=b) (x:=max a.1 b.1) (by ext b2) (by ext b2) (by ext) (by ext b1 b2)
  rw [c9] at ea eb
  rw [c9,c9]
  walk_at "v1"
  rw [a2U]
  walk_at "v1"
  rw [ea,eb]
  walk_at "v1"
  rw [bB]
  refine ⟨λhc=>⟨by ext l1 l2 uM h1 h2,?_⟩,λhc=>?_⟩
  .rw [if_pos hc] at e
   rw [a2U]
   walk_at "vc"
   refine ⟨λh3=>?_,λh3=>?_⟩
   .rw [if_pos h3,<-d2] at e
    exact ⟨(A.length-(f+1))+(B.length-s),by ext h1,_,_,_,_,f+1,s,ms++[⟨max a.1 b.1,min a.2.1 b.2.1,a,b⟩],by rw [fX];rfl,rfl,by ext h1,hs,by simp;ext uM,by rw [fB];exact e⟩
   .rw [if_neg h3,<-d1] at e
    exact ⟨(A.length-f)+(B.length-(s+1)),by ext h2,_,_,_,_,f,s+1,ms++[⟨max a.1 b.1,min a.2.1 b.2.1,a,b⟩],by rw [fX];rfl,rfl,hf,by ext h2,by simp;ext uM,by rw [fB];exact e⟩
  .rw [if_neg hc,D3] at e
   rw [a2U]
   walk_at "vc"
   refine ⟨λh3=>?_,λh3=>?_⟩
   .rw [if_pos h3,<-d2] at e
    exact ⟨(A.length-(f+1))+(B.length-s),by ext h1,_,_,_,_,f+1,s,ms,rfl,rfl,by ext h1,hs,by ext uM,e⟩
   .rw [if_neg h3,<-d1] at e
    exact ⟨(A.length-f)+(B.length-(s+1)),by ext h2,_,_,_,_,f,s+1,ms,rfl,rfl,hf,by ext h2,by ext uM,e⟩
 .have:B.drop s=[]:=ny (by ext h2)
  rw [this,B',nT] at e
  rw [e]
 .have:A.drop f=[]:=ny (by ext h1)
  rw [this,BW,nT] at e
  rw [e]
noncomputable abbrev Span:=Int×Int
def gH(ss:List Span)(x:Int):Prop:=∃s∈ss,s.1<=x/\x<=s.2
noncomputable def Span.d(s:Span):D:=.tup [.int s.1,.int s.2]
theorem Kg(s:Span):Span.d s=.tup [.int s.1,.int s.2]:=rfl
structure aU(pre:List Row)(ss:List Span):Prop where
 ok:∀s∈ss,s.1<=s.2
 apart:ss.Pairwise λa b=>a.2+1<b.1
 qr:∀x,gH ss x↔∃r∈pre,r.1<=x/\x<=r.2.1
 last:ss.getLast?.map (·.2)=pre.getLast?.map (·.2.1)
 head:ss.head?.map (·.1)=pre.head?.map (·.1)
 sum:(ss.map λs=>s.2-s.1+1).sum=total pre
 sub:∀r∈pre,∃s∈ss,s.1<=r.1/\r.2.1<=s.2
 len:ss.length<=pre.length
 ends:∀s∈ss,(∃r∈pre,r.1=s.1)/\∃r∈pre,r.2.1=s.2
theorem aU.nil:aU [] []:=⟨λ_ z=>(nomatch z),.nil,λx=>⟨λ⟨_,z,_⟩=>(nomatch z),λ⟨_,z,_⟩=>(nomatch z)⟩,rfl,rfl,rfl,λ_ z=>(nomatch z),bh _,λ_ z=>(nomatch z)⟩
theorem gH.app{a b:List Span}{x:Int}:gH (a++b) x↔gH a x\/gH b x:=by
 unfold gH
 constructor
 .rintro ⟨s,hs,h⟩
  rcases bT.mp hs with hs | hs
  .exact .inl ⟨s,hs,h⟩
  .exact .inr ⟨s,hs,h⟩
 .rintro (⟨s,hs,h⟩ | ⟨s,hs,h⟩)
  .exact ⟨s,gR _ hs,h⟩
  .exact ⟨s,fY _ hs,h⟩
theorem gH.one{s:Span}{x:Int}:gH [s] x↔s.1<=x/\x<=s.2:=by unfold gH;simp
theorem Qe{pre:List Row}{r:Row}{x:Int}:(∃q∈pre++[r],q.1<=x/\x<=q.2.1)↔(∃q∈pre,q.1<=x/\x<=q.2.1)\/(r.1<=x/\x<=r.2.1):=by
 constructor
 .rintro ⟨q,hq,h⟩
  rcases bT.mp hq with hq | hq
  .exact .inl ⟨q,hq,h⟩
  .rw [bU.mp hq] at h;exact .inr h
 .rintro (⟨q,hq,h⟩ | h)
  .exact ⟨q,gR _ hq,h⟩
  .exact ⟨r,by simp,h⟩
theorem aU.more{pre:List Row}{ss:List Span}{r:Row}(h:aU pre ss)(hr:r.1<=r.2.1)(hf:∀a,ss.getLast?=some a->a.2+1<r.1):aU (pre++[r]) (ss++[(r.1,r.2.1)]):=by
 have hb:∀s∈ss,s.2+1<r.1:=λs hs=>by
  rcases Jk ss with rfl | ⟨ts,t,e⟩
  .cases hs
  .have e:ss=ts++[t]:=by simpa using e
   subst e
   have h1:=hf t (by simp)
   rcases bT.mp hs with hs | hs
   .have:=(gQ.mp h.apart).2.2 s hs t (by simp)
    have:=h.ok t (by simp)
    omega
   .rw [bU.mp hs];exact h1
 refine ⟨λs hs=>?_,gQ.mpr ⟨h.apart,rF _ _,λa ha b m6=>?_⟩,λx=>?_,by simp,?_,?_,λq hq=>?_,by have:=h.len;simp;ext this,λs hs=>?_⟩
 .rcases bT.mp hs with hs | hs
  .exact h.ok s hs
  .rw [bU.mp hs];exact hr
 .rw [bU.mp m6];exact hb a ha
 .rw [gH.app,gH.one,Qe,h.qr]
 .have:=h.head
  cases ss with
  | nil=>cases pre with
   | nil=>rfl
   | cons q qs=>simp at this
  | cons s ts=>cases pre with
   | nil=>simp at this
   | cons q qs=>simpa using this
 .rw [fX,A0,h.sum,vP];unfold total;simp
 .rcases bT.mp hq with hq | hq
  .obtain ⟨s,hs,k⟩:=h.sub q hq
   exact ⟨s,gR _ hs,k⟩
  .rw [bU.mp hq];exact ⟨_,fY _ bK,cU _,cU _⟩
 .rcases bT.mp hs with hs | hs
  .obtain ⟨⟨a,ha,e1⟩,⟨b,hb,e2⟩⟩:=h.ends s hs
   exact ⟨⟨a,gR _ ha,e1⟩,⟨b,gR _ hb,e2⟩⟩
  .rw [bU.mp hs];exact ⟨⟨r,by simp,rfl⟩,⟨r,by simp,rfl⟩⟩
theorem aU.glue{pre:List Row}{ss:List Span}{s:Span}{r:Row}(h:aU pre (ss++[s]))(hr:r.1<=r.2.1)(hn:s.2+1=r.1):aU (pre++[r]) (ss++[(s.1,r.2.1)]):=by
 have hs:=h.ok s (by simp)
 have hp:=(gQ.mp h.apart)
 refine ⟨λt ht=>?_,gQ.mpr ⟨hp.1,rF _ _,λa ha b m6=>?_⟩,λx=>?_,by simp,?_,?_,λq hq=>?_,by have:=h.len;simp at this ⊢;ext this,λt ht=>?_⟩
 .rcases bT.mp ht with ht | ht
  .exact h.ok t (by simp [ht])
  .rw [bU.mp ht];show s.1<=r.2.1;ext hr hn hs
 .rw [bU.mp m6];exact hp.2.2 a ha s (by simp)
 .have:=h.qr x
  rw [gH.app,gH.one] at this ⊢
  rw [Qe,<-this]
  dsimp only
  constructor
  .rintro (h | h)
   .exact .inl (.inl h)
   .by_cases hx:x<=s.2
    .exact .inl (.inr ⟨h.1,hx⟩)
    .exact .inr ⟨by ext hn hx,h.2⟩
  .rintro ((h | h) | h)
   .exact .inl h
   .exact .inr ⟨h.1,by ext hr hn h⟩
   .exact .inr ⟨by ext hn hs h,h.2⟩
 .have:=h.head
  cases pre with
  | nil=>cases ss<;>simp at this
  | cons q qs=>cases ss with
   | nil=>simpa using this
   | cons t ts=>simpa using this
 .have:=h.sum
  rw [fX,A0] at this ⊢
  rw [vP,<-this]
  unfold total
  simp
  ext hn
 .rcases bT.mp hq with hq | hq
  .obtain ⟨t,ht,k1,k2⟩:=h.sub q hq
   rcases bT.mp ht with ht | ht
   .exact ⟨t,gR _ ht,k1,k2⟩
   .rw [bU.mp ht] at k1 k2
    exact ⟨_,fY _ bK,k1,by dsimp only;ext hr hn k2⟩
  .rw [bU.mp hq];exact ⟨_,fY _ bK,by dsimp only;ext hn hs,cU _⟩
 .rcases bT.mp ht with ht | ht
  .obtain ⟨⟨a,ha,e1⟩,⟨b,hb,e2⟩⟩:=h.ends t (by simp [ht])
   exact ⟨⟨a,gR _ ha,e1⟩,⟨b,gR _ hb,e2⟩⟩
  .rw [bU.mp ht]
   obtain ⟨⟨a,ha,e1⟩,_⟩:=h.ends s (by simp)
   exact ⟨⟨a,gR _ ha,e1⟩,⟨r,by simp,rfl⟩⟩
theorem Qi{rs:List Row}(ha:dF rs)(hl:rs.length<=8000000):∃ss:List Span,vX [.tup (rs.map Row.d)]=some (.sh (.tup (ss.map Span.d)))/\aU rs ss:=by
 have key:Wo (vX [.tup (rs.map Row.d)]) λs=>∃ss:List Span,s=.sh (.tup (ss.map Span.d))/\aU rs ss:=by
  refine mH.mpr ?_
  unfold LW
  walk_at "vc"
  refine nE Row.d (λpre env=>∃x2 x3,∃ss:List Span,env=[.sh (.tup (rs.map Row.d)),.ow (ss.map Span.d),x2,x3]/\aU pre ss) rs (λpre r post env e h=>?_) (λenv h=>?_) ⟨_,_,[],rfl,aU.nil⟩
  .obtain ⟨x2,x3,ss,rfl,h⟩:=h
   have hr:r∈rs:=by rw [e];simp
   have mX:=ha.1 r hr
   have hlen:ss.length<=8000000:=fg h.len (fg (by rw [e];simp) hl)
   rcases Jk ss with rfl | ⟨ts,a,e2⟩
   .rw [c9 r]
    walk_at "vc"
    simp only [wF,List.isEmpty_nil,Bool.not_true,rL,false_implies,true_implies,true_and]
    walk_at "vc"
    exact ⟨_,_,[(r.1,r.2.1)],rfl,h.more mX (λ_ z=>nomatch z)⟩
   .have e2:ss=ts++[a]:=by simpa using e2
    subst e2
    have aT:a.2<r.1:=by
     have kG:=h.last
     cases hq:pre.getLast? with
     | none=>rw [hq] at kG;simp at kG
     | some q =>
      rw [hq] at kG
      simp at kG
      have:=ha.2
      rw [e] at this
      have:=(gQ.mp this).2.2 q (OI hq) r bK
      ext kG this
    walk_at "vc"
    have em:(mw Span.d (ts++[a])).isEmpty=false:=by simp
    rw [em,fX,fF,wF,DL.iw,Kg a,c9 r]
    walk_at "vc"
    simp at hlen
    refine ⟨λhe=>?_,λhe=>?_⟩
    .have ed:(mw Span.d ts++[D.tup [D.int a.1,D.int a.2]])[(mw Span.d ts++[D.tup [D.int a.1,D.int a.2]]).length-1]?=some (D.tup [D.int a.1,D.int a.2]):=by simp
     rw [ed,OH]
     walk_at "vc"
     refine ⟨by decide,by simp;lia,_,_,ts++[(a.1,r.2.1)],by rw [fX];rfl,h.glue mX he⟩
    .refine ⟨by simp;lia,_,_,ts++[a]++[(r.1,r.2.1)],by rw [fX,fX];rfl,h.more mX λc hc=>?_⟩
     simp at hc
     subst hc
     ext aT he
  .obtain ⟨x2,x3,ss,rfl,h⟩:=h
   walk_at "vc"
   exact ⟨ss,rfl,h⟩
 obtain ⟨s,e,fs,rfl,h⟩:=key
 exact ⟨fs,e,h⟩
noncomputable def iW(r:Row)(lo hi:Int):Row:=(lo,hi,r.at lo,r.2.2.2)
theorem BJ{r:Row}{lo hi x:Int}:(iW r lo hi).at x=r.at x:=by unfold iW Row.at;dsimp only;grind
def ou(ss:List Span):Prop:=(∀s∈ss,s.1<=s.2)/\ss.Pairwise λa b=>a.2<b.1
noncomputable def lM(r:Row)(low:Int):List Row:=if low<=r.2.1 then [iW r low r.2.1] else []
noncomputable def mD(r:Row)(low to:Int):List Row:=if low<to then [iW r low (to-1)] else []
noncomputable def bQ(r:Row)(low:Int):List Span->List Row×List Span
 | []=>(lM r low,[])
 | s::ss=>if s.1<=r.2.1 then
   (if s.2>r.2.1 then (mD r low s.1++lM r (max low (s.2+1)),s::ss) else (mD r low s.1++(bQ r (max low (s.2+1)) ss).1,(bQ r (max low (s.2+1)) ss).2))
  else (lM r low,s::ss)
noncomputable def cF:List Row->List Span->List Row
 | [],_=>[]
 | r::rs,ss=>(bQ r r.1 ss).1++cF rs (bQ r r.1 ss).2
theorem Ro{r:Row}:∀{ss:List Span} {low:Int},r.1<=low->ou ss ->
  (∀q∈(bQ r low ss).1,low<=q.1/\q.1<=q.2.1/\q.2.1<=r.2.1/\∀x,q.at x=r.at x)/\((bQ r low ss).1.Pairwise λa b=>a.2.1<b.1) /\
  (∀x,(∃q∈(bQ r low ss).1,q.1<=x/\x<=q.2.1)↔low<=x/\x<=r.2.1/\¬gH ss x)/\(bQ r low ss).2 <:+ ss/\(∀x,r.2.1<x->(gH ss x↔gH (bQ r low ss).2 x))/\(bQ r low ss).1.length+(bQ r low ss).2.length<=ss.length+1
 | [],low,hl,_=>by
  unfold bQ lM
  dsimp only
  have hI:∀x,¬gH [] x:=λx ⟨s,h,_⟩=>nomatch h
  split
  .refine ⟨λq hq=>?_,rF _ _,λx=>?_,vg _,λ_ _=>eE,by simp⟩
   .simp at hq;subst hq;exact ⟨cU _,by unfold iW;dsimp only;lia,cU _,λx=>BJ⟩
   .simp [iW,hI]
  .refine ⟨λq hq=>(nomatch hq),.nil,λx=>?_,vg _,λ_ _=>eE,by simp⟩
   simp;lia
 | s::ss,low,hl,hs=>by
  have zG:=hs.1 s bK
  have ht:ou ss:=⟨λq hq=>hs.1 q (bW _ hq),(ir.mp hs.2).2⟩
  have hp:=(ir.mp hs.2).1
  have hI:∀x,gH (s::ss) x↔(s.1<=x/\x<=s.2)\/gH ss x:=λx=>by unfold gH;simp
  have pD:∀x,x<=s.2->¬gH ss x:=λx hx ⟨t,Xi,h1,h2⟩=>by have:=hp t Xi;ext hx h1 this
  have lp:∀lo,(∀q∈lM r lo,q.1=lo/\q.2.1=r.2.1/\lo<=r.2.1/\∀x,q.at x=r.at x)/\(lM r lo).length<=1/\(∀x,(∃q∈lM r lo,q.1<=x/\x<=q.2.1)↔lo<=x/\x<=r.2.1):=λlo=>by
   unfold lM
   split
   .refine ⟨λq hq=>?_,by simp,λx=>by simp [iW]⟩
    simp at hq;subst hq;exact ⟨rfl,rfl,by assumption,λx=>BJ⟩
   .exact ⟨λq hq=>(nomatch hq),by simp,λx=>by simp;lia⟩
  have fp:(∀q∈mD r low s.1,q.1=low/\q.2.1=s.1-1/\low<s.1/\∀x,q.at x=r.at x)/\(mD r low s.1).length<=1/\(∀x,(∃q∈mD r low s.1,q.1<=x/\x<=q.2.1)↔low<=x/\x<s.1):=by
   unfold mD
   split
   .refine ⟨λq hq=>?_,by simp,λx=>by simp [iW];ext⟩
    simp at hq;subst hq;exact ⟨rfl,rfl,by assumption,λx=>BJ⟩
   .exact ⟨λq hq=>(nomatch hq),by simp,λx=>by simp;lia⟩
  have pw:∀(L:List Row),L.length<=1->L.Pairwise λa b=>a.2.1<b.1:=λL hL=>by
   match L,hL with
   | [],_=>exact .nil
   | [_],_=>exact rF _ _
  obtain ⟨f1,f2,f3⟩:=fp
  have app:∀(L M:List Row) x,(∃q∈L++M,q.1<=x/\x<=q.2.1)↔(∃q∈L,q.1<=x/\x<=q.2.1)\/(∃q∈M,q.1<=x/\x<=q.2.1):=λL M x=>by
   constructor
   .rintro ⟨q,hq,k⟩
    rcases bT.mp hq with h | h
    .exact .inl ⟨q,h,k⟩
    .exact .inr ⟨q,h,k⟩
   .rintro (⟨q,hq,k⟩ | ⟨q,hq,k⟩)
    .exact ⟨q,gR _ hq,k⟩
    .exact ⟨q,fY _ hq,k⟩
  unfold bQ
  by_cases c1:s.1<=r.2.1
  .rw [if_pos c1]
   by_cases c2:s.2>r.2.1
   .rw [if_pos c2]
    dsimp only
    obtain ⟨l1,l2,l3⟩:=lp (max low (s.2+1))
    refine ⟨λq hq=>?_,gQ.mpr ⟨pw _ f2,pw _ l2,λa ha b hb=>?_⟩,λx=>?_,vg _,λ_ _=>eE,?_⟩
    .rcases bT.mp hq with h | h
     .obtain ⟨e1,e2,e3,e4⟩:=f1 q h;exact ⟨by ext e1,by ext e1 e2 e3,by ext c1 e2,e4⟩
     .obtain ⟨e1,e2,e3,e4⟩:=l1 q h;ext _ c2 e3
    .obtain ⟨e1,e2,e3,e4⟩:=l1 b hb;ext c2 e3
    .rw [app,f3,l3,hI]
     have:=pD x
     constructor
     .rintro (h | h)
      .exact ⟨by ext h,by ext c1 h,λz=>z.elim (by ext h) (this (by ext c1 c2 h))⟩
      .ext _ c2 h
     .intro ⟨h1,h2,h3⟩
      by_cases hx:x<s.1
      .exact .inl ⟨h1,hx⟩
      .exact absurd (.inl ⟨by ext hx,by ext c2 h2⟩) h3
    .have e:((mD r low s.1++lM r (max low (s.2+1)))).length<=1:=by
      have:lM r (max low (s.2+1))=[]:=by unfold lM;rw [if_neg (by ext c2)]
      rw [this];simpa using f2
     simp at e ⊢;ext e
   .rw [if_neg c2]
    dsimp only
    obtain ⟨i1,i2,i3,i4,i5,i6⟩:=Ro (r:=r) (ss:=ss) (low:=max low (s.2+1)) (by ext hl) ht
    refine ⟨λq hq=>?_,gQ.mpr ⟨pw _ f2,i2,λa ha b hb=>?_⟩,λx=>?_,i4.trans (List.suffix_cons _ _),λx hx=>?_,?_⟩
    .rcases bT.mp hq with h | h
     .obtain ⟨e1,e2,e3,e4⟩:=f1 q h;exact ⟨by ext e1,by ext e1 e2 e3,by ext c1 e2,e4⟩
     .obtain ⟨e1,e2,e3,e4⟩:=i1 q h;exact ⟨by ext e1,e2,e3,e4⟩
    .obtain ⟨e1,e2,e3,e4⟩:=f1 a ha;have g1:=(i1 b hb).1;show a.2.1<b.1;ext zG e2 g1
    .rw [app,f3,i3,hI]
     have:=pD x
     constructor
     .rintro (h | ⟨h1,h2,h3⟩)
      .exact ⟨by ext h,by ext c1 h,λz=>z.elim (by ext h) (this (by ext zG h))⟩
      .exact ⟨by ext h1,h2,λz=>z.elim (by ext h1) h3⟩
     .intro ⟨h1,h2,h3⟩
      by_cases hx:x<s.1
      .exact .inl ⟨h1,hx⟩
      .have h4:¬x<=s.2:=λz=>h3 (.inl ⟨by ext hx,z⟩)
       exact .inr ⟨by ext h1 h4,h2,λz=>h3 (.inr z)⟩
    .rw [hI,<-i5 x hx]
     exact ⟨λz=>z.elim (by lia) id,.inr⟩
    .simp at i6 ⊢;ext f2 i6
  .rw [if_neg c1]
   dsimp only
   obtain ⟨l1,l2,l3⟩:=lp low
   refine ⟨λq hq=>?_,pw _ l2,λx=>?_,vg _,λ_ _=>eE,by simp;ext l2⟩
   .obtain ⟨e1,e2,e3,e4⟩:=l1 q hq;exact ⟨by ext e1,by ext e1 e2 e3,by ext e2,e4⟩
   .rw [l3,hI]
    have:=pD x
    constructor
    .intro h
     exact ⟨h.1,h.2,λz=>z.elim (by ext c1 h) (this (by ext zG c1 h))⟩
    .intro h;exact ⟨h.1,h.2.1⟩
theorem Ca:∀{rs:List Row} {ss:List Span},dF rs->ou ss->dF (cF rs ss)/\(∀q∈cF rs ss,∃r∈rs,r.1<=q.1/\q.2.1<=r.2.1/\q.2.2.1=r.at q.1/\q.2.2.2=r.2.2.2)/\(∀x c,Val (cF rs ss) x c↔Val rs x c/\¬gH ss x)/\(cF rs ss).length<=rs.length+ss.length
 | [],ss,_,_=>⟨⟨λ_ z=>(nomatch z),.nil⟩,λ_ z=>(nomatch z),λx c=>⟨λ⟨_,z,_⟩=>(nomatch z),λ⟨⟨_,z,_⟩,_⟩=>(nomatch z)⟩,by simp [cF]⟩
 | r::rs,ss,ha,hs=>by
  have ta:dF rs:=⟨λq hq=>ha.1 q (bW _ hq),(ir.mp ha.2).2⟩
  have hp:=(ir.mp ha.2).1
  obtain ⟨i1,i2,i3,i4,i5,i6⟩:=Ro (r:=r) (ss:=ss) (cU _) hs
  unfold cF
  generalize (bQ r r.1 ss).1=P at *
  generalize (bQ r r.1 ss).2=tt at *
  have md:ou tt:=⟨λq hq=>hs.1 q (i4.subset hq),hs.2.sublist i4.sublist⟩
  obtain ⟨j1,j2,j3,j4⟩:=Ca ta md
  refine ⟨⟨λq hq=>?_,gQ.mpr ⟨i2,j1.2,λa XQ b hb=>?_⟩⟩,λq hq=>?_,λx c=>?_,?_⟩
  .rcases bT.mp hq with h | h
   .exact (i1 q h).2.1
   .exact j1.1 q h
  .obtain ⟨q,hq,k1,k2,_⟩:=j2 b hb
   have:=hp q hq
   have:=i1 a XQ
   show a.2.1<b.1
   lia
  .rcases bT.mp hq with h | h
   .obtain ⟨k1,k2,k3,k4⟩:=i1 q h
    refine ⟨r,bK,k1,k3,?_,?_⟩
    .rw [<-k4];unfold Row.at;rw [DP,IS,DO]
    .have e1:=k4 q.1
     have e2:=k4 (q.1+1)
     unfold Row.at at e1 e2
     grind
   .obtain ⟨r',mY,k⟩:=j2 q h
    exact ⟨r',bW _ mY,k⟩
  .rw [Val.app,j3]
   have e0:Val (r::rs) x c↔(r.1<=x/\x<=r.2.1/\c=r.at x)\/Val rs x c:=by unfold Val;simp
   have eP:Val P x c↔(r.1<=x/\x<=r.2.1/\¬gH ss x)/\c=r.at x:=by
    rw [<-i3 x]
    constructor
    .rintro ⟨q,hq,h1,h2,h3⟩
     exact ⟨⟨q,hq,h1,h2⟩,by rw [h3,(i1 q hq).2.2.2]⟩
    .rintro ⟨⟨q,hq,h1,h2⟩,h3⟩
     exact ⟨q,hq,h1,h2,by rw [h3,(i1 q hq).2.2.2]⟩
   rw [eP,e0]
   have zh:Val rs x c->r.2.1<x:=λ⟨q,hq,h1,_⟩=>by have:=hp q hq;ext h1 this
   constructor
   .rintro (⟨⟨h1,h2,h3⟩,h4⟩ | ⟨h1,h2⟩)
    .exact ⟨.inl ⟨h1,h2,h4⟩,h3⟩
    .exact ⟨.inr h1,λz=>h2 ((i5 x (zh h1)).mp z)⟩
   .rintro ⟨⟨h1,h2,h3⟩ | h1,h4⟩
    .exact .inl ⟨⟨h1,h2,h4⟩,h3⟩
    .exact .inr ⟨h1,λz=>h4 ((i5 x (zh h1)).mpr z)⟩
  .simp at i6 j4 ⊢;ext i6 j4
theorem O3{r:Row}{lo hi:Int}(h1:-(10^250)<=r.2.2.2)(h2:r.2.2.2<=10^250)(h3:-(10^250)<=lo-r.1)(h4:lo-r.1<=10^250):xp [r.d,.int lo,.int hi]=some (.sh (iW r lo hi).d):=by
 refine Wo.eq (CB.mpr ?_)
 unfold JJ
 walk_at "vc"
 rw [BK h1 h2 h3 h4,c9]
 walk_at "vc"
 rfl
theorem b37{ss:List Span}{n:Nat}(h:n<ss.length):eI (ss.map Span.d) (n:Int)=some (Span.d ss[n]):=by
 rw [DL.df];simp [h]
def F1(s:Span):Prop:=(-(10^200)<=s.1/\s.1<=10^200)/\(-(10^200)<=s.2/\s.2<=10^200)
theorem Q9{rs:List Row}{ss:List Span}(hb:∀r∈rs,aB (10^200) r)(hs:∀s∈ss,F1 s)(l1:rs.length<=400000)(l2:ss.length<=400000):xH [.tup (rs.map Row.d),.tup (ss.map Span.d)]=some (.ow ((cF rs ss).map Row.d)):=by
 refine Wo.eq (oi.mpr ?_)
 unfold LF
 walk_at "v1"
 refine nE Row.d (λpre env=>∃x4 x5,∃(done post:List Row) (pl:Nat),env=[.sh (.tup (rs.map Row.d)),.sh (.tup (ss.map Span.d)),.ow (done.map Row.d),.sh (.int pl),x4,x5]/\rs=pre++post/\pl<=ss.length/\done.length<=2*pre.length+pl/\done++cF post (ss.drop pl)=cF rs ss) rs (λpre r post env e h=>?_) (λenv h=>?_) ⟨_,_,[],rs,0,rfl,rfl,by simp,by simp,rfl⟩
 .obtain ⟨x4,x5,done,pd,pl,rfl,e0,dQ,wy,jx⟩:=h
  obtain rfl:pd=r::post:=Ep (e0.symm.trans e)
  have ij:pre.length<=400000:=by have:=congrArg tG e;simp at this;ext l1 this
  have ql:=hb r (by rw [e];simp)
  unfold aB at ql
  rw [c9 r]
  walk_at "v1"
  rw [KY,<-c9 r]
  refine Wo.mono (P:=λy=>y.1=.nx/\∃(d3:List Row) (p3:Nat) (lw:Int),y.2=[.sh (.tup (rs.map Row.d)),.sh (.tup (ss.map Span.d)),.ow (d3.map Row.d),.sh (.int p3),.sh r.d,.sh (.int lw)]/\p3<=ss.length/\d3.length<=2*pre.length+p3+1/\(-(10^200)<=lw/\lw<=10^200+1)/\d3++lM r lw=done++(bQ r r.1 (ss.drop pl)).1/\ss.drop p3=(bQ r r.1 (ss.drop pl)).2) ?_ (λy hy=>?_)
  .refine B7 (λn env=>∃(d2:List Row) (p2:Nat) (lw:Int),env=[.sh (.tup (rs.map Row.d)),.sh (.tup (ss.map Span.d)),.ow (d2.map Row.d),.sh (.int p2),.sh r.d,.sh (.int lw)]/\n=ss.length-p2/\p2<=ss.length/\d2.length<=2*pre.length+p2/\(-(10^200)<=lw/\lw<=10^200+1)/\d2++(bQ r lw (ss.drop p2)).1=done++(bQ r r.1 (ss.drop pl)).1/\(bQ r lw (ss.drop p2)).2=(bQ r r.1 (ss.drop pl)).2) (λn env h=>?_) _ (ss.length-pl) (show ss.length-pl<1000000 by ext l2) ⟨done,pl,r.1,rfl,rfl,dQ,wy,by ext ql,rfl,rfl⟩
   obtain ⟨d2,p2,lw,rfl,rfl,zK,hd2,q9,o1,o2⟩:=h
   have pL:=λhi=>O3 (r:=r) (lo:=lw) (hi:=hi) (by ext ql) (by ext ql) (by ext ql q9) (by ext ql q9)
   rw [c9] at pL ⊢
   walk_at "v1"
   rw [bB]
   refine ⟨λh1=>?_,λh1=>?_⟩
   .have nN:p2<ss.length:=by ext h1
    have dd:ss.drop p2=ss[p2]::ss.drop (p2+1):=j0 nN
    have Ak:=hs ss[p2] (nU nN)
    have sZ:=b37 nN
    rw [sZ]
    generalize ss[p2]=s at *
    unfold F1 at Ak
    rw [dd,bQ] at o1 o2
    rw [Kg]
    walk_at "v1"
    refine ⟨λh2=>?_,λh2=>?_⟩
    .rw [if_pos h2] at o1 o2
     walk_at "v1"
     rw [Kg] at sZ
     refine Wo.mono (P:=λy=>y=(.nx,[.sh (.tup (rs.map Row.d)),.sh (.tup (ss.map Span.d)),.ow ((d2++mD r lw s.1).map Row.d),.sh (.int p2),.sh (.tup [.int r.1,.int r.2.1,.int r.2.2.1,.int r.2.2.2]),.sh (.int lw)])) ?_ (λy hy=>?_)
     .walk_at "vc"
      rw [sZ]
      walk_at "vc"
      rw [pL]
      walk_at "vc"
      rw [bB]
      unfold mD
      refine ⟨λh=>⟨by ext l2 ij hd2 h1,?_⟩,λh=>?_⟩
      .rw [if_pos h,fX];rfl
      .rw [if_neg h,nT]
     .subst hy
      have pE:(mD r lw s.1).length<=1:=by unfold mD;split<;>simp
      walk_at "v1"
      rw [sZ]
      walk_at "v1"
      rw [a2U]
      walk_at "vc"
      rw [sZ]
      walk_at "vc"
      refine ⟨λh3=>?_,λh3=>?_⟩
      .rw [if_pos h3] at o1 o2
       exact ⟨d2++mD r lw s.1,p2,max lw (s.2+1),rfl,zK,by simp;ext hd2 pE,by ext q9 Ak,by rw [fB];exact o1,by rw [dd];exact o2⟩
      .rw [if_neg h3] at o1 o2
       exact ⟨ss.length-(p2+1),by ext h1,d2++mD r lw s.1,p2+1,max lw (s.2+1),rfl,rfl,by ext h1,by simp;ext hd2 pE,by ext q9 Ak,by rw [fB];exact o1,o2⟩
    .rw [if_neg h2] at o1 o2
     exact ⟨d2,p2,lw,rfl,zK,by ext hd2,q9,o1,by rw [dd];exact o2⟩
   .have dd:ss.drop p2=[]:=ny (by ext h1)
    rw [dd,bQ] at o1 o2
    exact ⟨d2,p2,lw,rfl,zK,by ext hd2,q9,o1,by rw [dd];exact o2⟩
  .obtain ⟨fl,ai⟩:=y
   obtain ⟨h1,d3,p3,lw,h2,wt,HJ,q9,o1,o2⟩:=hy
   dsimp only at h1 h2
   subst h1 h2
   have pL:=O3 (r:=r) (lo:=lw) (hi:=r.2.1) (by ext ql) (by ext ql) (by ext ql q9) (by ext ql q9)
   rw [c9] at pL ⊢
   walk_at "vc"
   rw [pL]
   walk_at "vc"
   rw [bB]
   rw [cF,<-o2,<-fB,<-o1] at jx
   refine ⟨λh=>⟨by ext l2 ij wt HJ,_,_,d3++[iW r lw r.2.1],post,p3,by rw [fX];rfl,by rw [e];simp,wt,by simp;ext HJ,?_⟩,λh=>⟨_,_,d3,post,p3,rfl,by rw [e];simp,wt,by simp;ext HJ,?_⟩⟩
   .rw [lM,if_pos h] at jx
    exact jx
   .rw [lM,if_neg h,nT] at jx
    exact jx
 .obtain ⟨x4,x5,done,pd,pl,rfl,e0,dQ,wy,jx⟩:=h
  have:pd=[]:=by simpa using e0
  subst this
  walk_at "vc"
  rw [<-jx];simp [cF]
theorem mF{c:En->Option Bool}{F:SF}{env:En}{Q:Fl×En->Prop}(hc:Wo (c env) λb=>b=false)(h:Q (.nx,env)):Wo (cE c F cZ env) Q:=by
 rw [a2U]
 exact hc.mono λb hb=>⟨λz=>(by rw [hb] at z;cases z),λ_=>(by rw [b6K];exact h)⟩
noncomputable abbrev lC:=Int×Int
noncomputable def lC.at(l:lC)(low x:Int):Int:=l.1+l.2*(x-low)
noncomputable def ei:Int->List Row->Int->Prop
 | at_,[],e=>at_=e
 | at_,r::rs,e=>r.1=at_/\at_<=r.2.1/\ei (r.2.1+1) rs e
theorem ei.le:∀{rs:List Row} {a e:Int},ei a rs e->a<=e
 | [],_,_,h=>Int.le_of_eq h
 | r::rs,a,e,h=>by have:=h.2.2.le;have:=h.2.1;lia
theorem ei.mem:∀{rs:List Row} {a e:Int} {r:Row},ei a rs e->r∈rs->a<=r.1/\r.1<=r.2.1/\r.2.1<e
 | [],_,_,_,_,h=>nomatch h
 | r::rs,a,e,q,h,k=>by
  obtain ⟨h1,h2,h3⟩:=h
  have:=h3.le
  rcases bH.mp k with rfl | k
  .ext h1 h2 this
  .have:=h3.mem k;ext h2 this
noncomputable def ku(l:lC)(low:Int)(r:Row):List Row:=pz r.2.2.1 r.2.2.2 (l.at low r.1) l.2 r.1 r.2.1
theorem b5A{l:lC}{low:Int}{r:Row}(h:r.1<=r.2.1):ei r.1 (ku l low r) (r.2.1+1)/\(∀q∈ku l low r,(q.2.2.2=r.2.2.2\/q.2.2.2=l.2)/\r.1<=q.1/\q.2.1<=r.2.1/\∀x,q.1<=x->x<=q.2.1->q.at x=min (r.at x) (l.at low x)) /\
  (ku l low r).length<=2/\((∀x,r.1<=x->x<=r.2.1->r.at x<=l.at low x)->(ku l low r).length=1)/\((∀x,r.1<=x->x<=r.2.1->l.at low x<r.at x)->(ku l low r).length=1):=by
 obtain ⟨f,g,c,s⟩:=r
 dsimp only at h
 have sp:=P' (a:=c-l.at low f) (s:=s-l.2) (low:=f) (high:=g) h
 have gap:∀x,c-l.at low f+(s-l.2)*(x-f)=Row.at (f,g,c,s) x-l.at low x:=λx=>by unfold Row.at lC.at;dsimp only;grind
 have v1:∀a b x,Row.at (gZ c s f a b) x=Row.at (f,g,c,s) x:=λa b x=>by unfold Row.at gZ;dsimp only;grind
 have v2:∀a b x,Row.at (gZ (l.at low f) l.2 f a b) x=l.at low x:=λa b x=>by unfold Row.at gZ lC.at;dsimp only;grind
 simp only [gap] at sp
 unfold ku pz
 dsimp only
 cases pB:nd (c-l.at low f) (s-l.2) f g with
 | none =>
  rw [pB] at sp
  refine ⟨⟨rfl,h,rfl⟩,λq hq=>?_,by simp,λ_=>rfl,λ_=>rfl⟩
  obtain rfl:=bU.mp hq
  refine ⟨.inr rfl,cU _,cU _,λx h1 h2=>?_⟩
  rw [v2]
  have:=sp x h1 h2
  ext this
 | some fl =>
  obtain ⟨a,b⟩:=fl
  rw [pB] at sp
  obtain ⟨⟨q1,q2,q3,q4⟩,q5⟩:=sp
  have A:∀x,a<=x->x<=b->Row.at (gZ c s f a b) x=min (Row.at (f,g,c,s) x) (l.at low x):=λx h1 h2=>by
   rw [v1];have:=(q5 x (by ext q1 h1) (by ext q3 h2)).mpr ⟨h1,h2⟩;ext this
  have B:∀a' b' x,f<=x->x<=g->¬(a<=x/\x<=b)->Row.at (gZ (l.at low f) l.2 f a' b') x=min (Row.at (f,g,c,s) x) (l.at low x):=λa' b' x h1 h2 h3=>by
   rw [v2];have:=(not_congr (q5 x h1 h2)).mpr h3;ext this
  dsimp only
  by_cases hf:f<a
  .have hl:¬b<g:=by ext q4 hf
   rw [if_pos hf,if_neg hl]
   refine ⟨⟨rfl,by show f<=a-1;ext hf,⟨by show a=a-1+1;ext,by show a-1+1<=b;ext q2,by show b+1=g+1;ext q3 hl⟩⟩,λq hq=>?_,by simp,λz=>?_,λz=>?_⟩
   .simp at hq
    rcases hq with rfl | rfl
    .exact ⟨.inr rfl,cU _,by show a-1<=g;ext q2 q3,λx h1 h2=>B _ _ x h1 (by have:x<=a-1:=h2;ext q2 q3 this) (by have:x<=a-1:=h2;ext this)⟩
    .exact ⟨.inl rfl,by show f<=a;ext q1,by show b<=g;ext q3,λx h1 h2=>A x h1 h2⟩
   .exfalso;have:=(not_congr (q5 f (by ext) (by ext h))).mpr (by ext hf);have:=z f (by ext) (by ext h);lia
   .exfalso;have:=(q5 a (by ext q1) (by ext q2 q3)).mpr (by ext q2);have:=z a (by ext q1) (by ext q2 q3);lia
  .have NH:a=f:=by ext q1 hf
   rw [if_neg hf]
   by_cases hl:b<g
   .rw [if_pos hl]
    refine ⟨⟨NH,by show f<=b;ext q1 q2,⟨rfl,by show b+1<=g;ext hl,rfl⟩⟩,λq hq=>?_,by simp,λz=>?_,λz=>?_⟩
    .simp at hq
     rcases hq with rfl | rfl
     .exact ⟨.inl rfl,by show f<=a;ext q1,by show b<=g;ext q3,λx h1 h2=>A x h1 h2⟩
     .exact ⟨.inr rfl,by show f<=b+1;ext q1 q2,cU _,λx h1 h2=>B _ _ x (by have:b+1<=x:=h1;ext q1 q2 this) h2 (by have:b+1<=x:=h1;ext this)⟩
    .exfalso;have:=(not_congr (q5 g (by ext h) (by ext))).mpr (by ext hl);have:=z g (by ext h) (by ext);lia
    .exfalso;have:=(q5 a (by ext q1) (by ext h hf)).mpr (by ext q2);have:=z a (by ext q1) (by ext h hf);lia
   .rw [if_neg hl]
    refine ⟨⟨NH,by show f<=b;ext h hl,by show b+1=g+1;ext q3 hl⟩,λq hq=>?_,by simp,λ_=>rfl,λ_=>rfl⟩
    simp at hq
    subst hq
    exact ⟨.inl rfl,by show f<=a;ext q1,by show b<=g;ext q3,λx h1 h2=>A x h1 h2⟩
theorem ei.qr:∀{rs:List Row} {a e x:Int},ei a rs e->a<=x->x<e->∃q∈rs,q.1<=x/\x<=q.2.1
 | [],a,e,x,h,h1,h2=>by have:a=e:=h;ext _ h1 h2 this
 | r::rs,a,e,x,⟨h1,h2,h3⟩,k1,k2=>by
  by_cases hx:x<=r.2.1
  .exact ⟨r,bK,by ext h1 k1,hx⟩
  .obtain ⟨q,hq,k⟩:=h3.qr (x:=x) (by ext hx) k2
   exact ⟨q,bW _ hq,k⟩
theorem ei.gD:∀{rs:List Row} {a e:Int},ei a rs e->rs.Pairwise λp q=>p.2.1<q.1
 | [],_,_,_=>.nil
 | r::rs,a,e,⟨h1,h2,h3⟩=>ir.mpr ⟨λq hq=>by have:=h3.mem hq;ext this,h3.gD⟩
def kN(a b:Row):Prop:=a.2.1<b.1\/b.2.1<a.1
theorem RB:∀rs:List Row,Bo (rs.map Row.d)=some (rs.map λr=>(r.1,Row.d r))
 | []=>rfl
 | r::rs=>by
  rw [fF,Bo,RB rs]
  rfl
theorem b06{rs:List Row}(hv:∀r∈rs,r.1<=r.2.1)(hd:rs.Pairwise kN)(de:rs.length<mC):∃ts:List Row,w4 (rs.map Row.d)=some (ts.map Row.d)/\dF ts/\(∀x c,Val ts x c↔Val rs x c)/\ts.Perm rs:=by
 have bP:(rs.map (·.1)).Nodup:=by
  rw [List.Nodup,tO]
  refine hd.imp_of_mem λ{a b} ha hb h=>?_
  have:=hv a ha;have:=hv b hb
  unfold kN at h
  lia
 obtain ⟨ts,t1,t2⟩:=Rr (Oc (rs.map λr=>(r.1,Row.d r)) λa b=>decide (a.1<=b.1))
 have hle:ts.Pairwise λa b=>a.1<=b.1:=by
  have:=Ol (le:=λa b:Int×D=>decide (a.1<=b.1)) (λa b c h1 h2=>by simp at *;ext h1 h2) (λa b=>by simp;ext) (rs.map λr=>(r.1,Row.d r))
  rw [<-t2,tO] at this
  exact this.imp λ{x y} z=>by simpa using z
 have XI:ts.Pairwise kN:=(t1.pairwise_iff (λ{a b} h=>by unfold kN at *;ext h)).mpr hd
 have Hb:∀r∈ts,r.1<=r.2.1:=λr hr=>hv r (t1.subset hr)
 refine ⟨ts,?_,⟨Hb,?_⟩,λx c=>?_,t1⟩
 .unfold w4
  rw [RB,ni,if_pos ⟨by rw [dS];exact bP,by rw [bB];exact de⟩,<-t2,dS]
  rfl
 .refine (hle.and XI).imp_of_mem λ{a b} ha hb h=>?_
  have:=Hb a ha;have:=Hb b hb
  obtain ⟨h1,h2⟩:=h
  unfold kN at h2
  ext this h1 h2
 .unfold Val
  exact ⟨λ⟨r,hr,k⟩=>⟨r,t1.subset hr,k⟩,λ⟨r,hr,k⟩=>⟨r,t1.symm.subset hr,k⟩⟩
noncomputable def fR(m:Met):List Row:=pz (m.a.at m.lo) m.a.2.2.2 (m.b.at m.lo) m.b.2.2.2 m.lo m.hi
theorem tY{m:Met}(h:m.lo<=m.hi):ei m.lo (fR m) (m.hi+1)/\(∀q∈fR m,(q.2.2.2=m.a.2.2.2\/q.2.2.2=m.b.2.2.2)/\m.lo<=q.1/\q.2.1<=m.hi/\∀x,q.1<=x->x<=q.2.1->q.at x=min (m.a.at x) (m.b.at x))/\(fR m).length<=2:=by
 obtain ⟨h1,h2,h3,_⟩:=b5A (l:=(m.b.at m.lo,m.b.2.2.2)) (low:=m.lo) (r:=(m.lo,m.hi,m.a.at m.lo,m.a.2.2.2)) h
 have e0:ku (m.b.at m.lo,m.b.2.2.2) m.lo (m.lo,m.hi,m.a.at m.lo,m.a.2.2.2)=fR m:=by
  unfold ku fR lC.at
  dsimp only
  rw [DP,IS,DO]
 rw [e0] at h1 h2 h3
 refine ⟨h1,λq hq=>?_,h3⟩
 obtain ⟨k1,k2,k3,k4⟩:=h2 q hq
 refine ⟨k1,k2,k3,λx x1 x2=>?_⟩
 rw [k4 x x1 x2]
 have e1:Row.at (m.lo,m.hi,m.a.at m.lo,m.a.2.2.2) x=m.a.at x:=BJ (r:=m.a) (lo:=m.lo) (hi:=m.hi)
 have e2:lC.at (m.b.at m.lo,m.b.2.2.2) m.lo x=m.b.at x:=BJ (r:=m.b) (lo:=m.lo) (hi:=m.hi)
 rw [e1,e2]
noncomputable def ie(A B:List Row):List Row:=(bM A B).flatMap fR
theorem Le{A B:List Row}{q:Row}(h:q∈ie A B):∃m∈bM A B,q∈fR m/\m.a∈A/\m.b∈B/\m.lo=max m.a.1 m.b.1/\m.hi=min m.a.2.1 m.b.2.1/\m.lo<=q.1/\q.1<=q.2.1/\q.2.1<=m.hi/\(q.2.2.2=m.a.2.2.2\/q.2.2.2=m.b.2.2.2)/\∀x,q.1<=x->x<=q.2.1->q.at x=min (m.a.at x) (m.b.at x):=by
 obtain ⟨m,hm,hq⟩:=qv.mp h
 obtain ⟨k1,k2,k3,k4,k5⟩:=n6 (bh _) hm
 obtain ⟨c1,c2,_⟩:=tY k5
 have:=c1.mem hq
 obtain ⟨d1,d2,d3,d4⟩:=c2 q hq
 exact ⟨m,hm,hq,k1,k2,k3,k4,d2,this.2.1,d3,d1,d4⟩
theorem b3p{A B:List Row}(ha:dF A)(hb:dF B):dF (ie A B)/\∀x c,Val (ie A B) x c↔∃p q,look A x=some p/\look B x=some q/\c=min p q:=by
 refine ⟨⟨λq hq=>?_,?_⟩,λx c=>⟨λ⟨q,hq,h1,h2,h3⟩=>?_,λ⟨p,q,h1,h2,h3⟩=>?_⟩⟩
 .obtain ⟨m,_,_,_,_,_,_,_,k,_⟩:=Le hq;exact k
 .unfold ie
  rw [List.pairwise_flatMap]
  refine ⟨λm hm=>?_,?_⟩
  .exact (tY (n6 (bh _) hm).2.2.2.2).1.gD
  .refine (Fi (bh _) ha hb).imp_of_mem λ{m k} hm hk h x hx y hy=>?_
   have c1:=(tY (n6 (bh _) hm).2.2.2.2).1.mem hx
   have c2:=(tY (n6 (bh _) hk).2.2.2.2).1.mem hy
   show x.2.1<y.1
   ext h c1 c2
 .obtain ⟨m,hm,_,k1,k2,k3,k4,k5,k6,k7,_,k8⟩:=Le hq
  exact ⟨_,_,pU ha k1 (by ext h1 k3 k5) (by ext h2 k4 k7),pU hb k2 (by ext h1 k3 k5) (by ext h2 k4 k7),by rw [h3,k8 x h1 h2]⟩
 .obtain ⟨a,XS,a1,a2,rfl⟩:=BS h1
  obtain ⟨b,m6,b1,b2,rfl⟩:=BS h2
  obtain ⟨m,hm,rfl,rfl,m1,m2⟩:=Lf (x:=x) (bh _) ha hb XS m6 a1 a2 b1 b2
  obtain ⟨c1,c2,_⟩:=tY (n6 (bh _) hm).2.2.2.2
  obtain ⟨q,hq,q1,q2⟩:=c1.qr (x:=x) m1 (by ext m2)
  exact ⟨q,qv.mpr ⟨m,hm,hq⟩,q1,q2,by rw [h3,(c2 q hq).2.2.2 x q1 q2]⟩
theorem b3q(A B:List Row):(ie A B).length<=2*(bM A B).length:=by
 unfold ie
 have:∀ms:List Met,(∀m∈ms,m.lo<=m.hi)->(ms.flatMap fR).length<=2*ms.length:=λms=>by
  induction ms with
  | nil=>intro _;simp
  | cons m ms ih =>
   intro h
   have:=ih λk hk=>h k (bW _ hk)
   have:=(tY (h m bK)).2.2
   rw [DW,dC,nk]
   lia
 exact this _ λm hm=>(n6 (bh _) hm).2.2.2.2
theorem Lv:∀{n:Nat} {A B:List Row},A.length+B.length<=n->(bM A B).length=0\/(bM A B).length+1<=A.length+B.length
 | n,[],B,_=>by rw [BW];exact .inl rfl
 | n,a::as,[],_=>by rw [B'];exact .inl rfl
 | 0,a::as,b::bs,hn=>absurd hn (by simp)
 | n+1,a::as,b::bs,hn=>by
  rw [xA,dC]
  have h1:(if max a.1 b.1<=min a.2.1 b.2.1 then [(⟨max a.1 b.1,min a.2.1 b.2.1,a,b⟩:Met)] else []).length<=1:=by split<;>simp
  by_cases hc:a.2.1<b.2.1
  .have:=Lv (n:=n) (A:=as) (B:=b::bs) (by simp at hn ⊢;ext hn)
   rw [if_pos hc]
   simp only [nk] at this ⊢;ext h1 this
  .have:=Lv (n:=n) (A:=a::as) (B:=bs) (by simp at hn ⊢;ext hn)
   rw [if_neg hc]
   simp only [nk] at this ⊢;ext h1 this
theorem b3U{A B:List Row}(ha:∀r∈A,aB (10^140) r)(hb:∀r∈B,aB (10^140) r)(l1:A.length<=400000)(l2:B.length<=400000):Cj [.tup (A.map Row.d),.tup (B.map Row.d)]=some (.ow ((ie A B).map Row.d)):=by
 refine Wo.eq (jc.mpr ?_)
 unfold MA
 walk_at "v1"
 rw [AG (λr hr=>(ha r hr).mono (by decide)) (λr hr=>(hb r hr).mono (by decide)) (by ext l1) (by ext l2)]
 walk_at "v1"
 have uM:=Lg (A:=A) (B:=B) (bh _)
 refine nE Met.d (λpre env=>∃x3 x4 x5 x6,env=[.sh (.tup (A.map Row.d)),.sh (.tup (B.map Row.d)),.ow ((pre.flatMap fR).map Row.d),x3,x4,x5,x6]) (bM A B) (λpre m post env e h=>?_) (λenv h=>?_) ⟨_,_,_,_,rfl⟩
 .obtain ⟨x3,x4,x5,x6,rfl⟩:=h
  have hm:m∈bM A B:=by rw [e];simp
  obtain ⟨k1,k2,k3,k4,k5⟩:=n6 (bh _) hm
  have b1:=ha _ k1
  have b2:=hb _ k2
  unfold aB at b1 b2
  have dQ:(pre.flatMap fR).length<=2*pre.length:=by
   have:∀ms:List Met,(∀m∈ms,m.lo<=m.hi)->(ms.flatMap fR).length<=2*ms.length:=λms=>by
    induction ms with
    | nil=>intro _;simp
    | cons m ms ih =>
     intro h
     have:=ih λk hk=>h k (bW _ hk)
     have:=(tY (h m bK)).2.2
     rw [DW,dC,nk]
     omega
   exact this _ λk hk=>(n6 (A:=A) (B:=B) (bh _) (by rw [e];simp [hk])).2.2.2.2
  have Hl:pre.length<=800000:=by have:=congrArg tG e;simp at this;ext l1 l2 uM this
  have el:=b8A (p1:=m.a.at m.lo) (s1:=m.a.2.2.2) (p2:=m.b.at m.lo) (s2:=m.b.2.2.2) k5 (by ext k3 k4 b2) (by ext b1) (by ext b1) (by ext b2) (by ext b2)
  rw [y9,PX,PX]
  walk_at "v1"
  rw [el]
  walk_at "v1"
  have gM:=(tY k5).2.2
  refine ⟨?_,.sh (.int m.lo),.sh (.int m.hi),.sh (tS m.a m.lo),.sh (tS m.b m.lo),?_⟩
  .rw [bB,bB]
   show (pre.flatMap fR).length+(fR m).length<=_
   ext dQ Hl gM
  .rw [Ob,fX]
   simp only [DW,List.flatMap_nil,nT]
   rfl
 .obtain ⟨x3,x4,x5,x6,rfl⟩:=h
  walk_at "vc"
  rfl
theorem QE:∀{xs ys:List Int},xs.Nodup->xs ⊆ ys->xs.length<=ys.length
 | [],_,_,_=>nv _
 | x::xs,ys,h,s=>by
  obtain ⟨h1,h2⟩:=tB.mp h
  have hx:=s (bK ..)
  have k:=QE h2 (ys:=ys.erase x) λy hy=>by
   have:y≠x:=λz=>h1 (z▸hy)
   exact (List.mem_erase_of_ne this).mpr (s (bW _ hy))
  rw [List.length_erase_of_mem hx] at k
  have:=List.length_pos_of_mem hx
  rw [nk]
  ext k this
theorem Lr{r q:Row}{lo:Int}(h:q∈lM r lo):q.2.1=r.2.1:=by
 unfold lM at h
 split at h
 .rw [bU.mp h];rfl
 .exact absurd h gO
theorem RE{r q:Row}{lo to:Int}(h:q∈mD r lo to):q.2.1=to-1:=by
 unfold mD at h
 split at h
 .rw [bU.mp h];rfl
 .exact absurd h gO
theorem QI{r q:Row}:∀{ss:List Span} {low:Int},(q∈(bQ r low ss).1->q.2.1=r.2.1\/∃s∈ss,q.2.1=s.1-1)/\(bQ r low ss).2 <:+ ss
 | [],low=>⟨λh=>.inl (Lr h),vg _⟩
 | s::ss,low=>by
  unfold bQ
  split
  .split
   .refine ⟨λh=>?_,vg _⟩
    rcases bT.mp h with h | h
    .exact .inr ⟨s,bK ..,RE h⟩
    .exact .inl (Lr h)
   .obtain ⟨i1,i2⟩:=QI (r:=r) (q:=q) (ss:=ss) (low:=max low (s.2+1))
    refine ⟨λh=>?_,i2.trans (List.suffix_cons _ _)⟩
    rcases bT.mp h with h | h
    .exact .inr ⟨s,bK ..,RE h⟩
    .rcases i1 h with k | ⟨t,ht,k⟩
     .exact .inl k
     .exact .inr ⟨t,bW _ ht,k⟩
  .exact ⟨λh=>.inl (Lr h),vg _⟩
theorem K5{q:Row}:∀{rs:List Row} {ss:List Span},q∈cF rs ss->(∃r∈rs,q.2.1=r.2.1)\/∃s∈ss,q.2.1=s.1-1
 | [],_,h=>absurd h gO
 | r::rs,ss,h=>by
  obtain ⟨i1,i2⟩:=QI (r:=r) (q:=q) (ss:=ss) (low:=r.1)
  rcases bT.mp (show q∈(bQ r r.1 ss).1++cF rs (bQ r r.1 ss).2 from h) with h | h
  .rcases i1 h with k | k
   .exact .inl ⟨r,bK ..,k⟩
   .exact .inr k
  .rcases K5 h with ⟨z,hz,k⟩ | ⟨s,hs,k⟩
   .exact .inl ⟨z,bW _ hz,k⟩
   .exact .inr ⟨s,i2.subset hs,k⟩
theorem b50{A B:List Row}(ca:dF A)(cb:dF B){sa sb:List Span}(SA:aU A sa)(SB:aU B sb):(bM A B).length+(cF A sb).length+(cF B sa).length<=2*(A.length+B.length):=by
 have Bv:∀{L:List Row} {ss:List Span},aU L ss->ou ss:=λ{L ss} S=>⟨S.ok,S.apart.imp λ{a b} h=>by ext h⟩
 obtain ⟨a1,a2,a3,a4⟩:=Ca ca (Bv SB)
 obtain ⟨b1,b2,b3,b4⟩:=Ca cb (Bv SA)
 have mm:=λm (h:m∈bM A B)=>n6 (A:=A) (B:=B) (bh _) h
 have ma:=Fi (A:=A) (B:=B) (bh _) ca cb
 have key:=QE (xs:=(bM A B).map Met.hi++((cF A sb).map (λr=>r.2.1)++(cF B sa).map λr=>r.2.1)) (ys:=(A.map (λr=>r.2.1)++B.map λr=>r.2.1)++(A.map (λr=>r.1-1)++B.map λr=>r.1-1)) ?_ ?_
 .simp only [dC,bB] at key
  ext key
 .have gD:∀{L:List Row},dF L->(L.map λr=>r.2.1).Nodup:=λ{L} h=>by
   unfold List.Nodup
   rw [tO]
   refine h.2.imp_of_mem λ{x y} hx hy z e=>?_
   have:=h.1 y hy
   ext z e this
  refine DZ.mpr ⟨?_,DZ.mpr ⟨gD a1,gD b1,?_⟩,?_⟩
  .unfold List.Nodup
   rw [tO]
   refine ma.imp_of_mem λ{x y} hx hy z e=>?_
   have:=(mm y hy).2.2.2.2
   ext z e this
  .intro x hx y hy e
   obtain ⟨p,hp,rfl⟩:=dz.mp hx
   obtain ⟨q,hq,rfl⟩:=dz.mp hy
   have k1:=(a3 p.2.1 _).mp ⟨p,hp,a1.1 p hp,cU _,rfl⟩
   have k2:=(b3 q.2.1 _).mp ⟨q,hq,b1.1 q hq,cU _,rfl⟩
   obtain ⟨r,hr,r1,r2,_⟩:=k1.1
   exact k2.2 ((SA.qr _).mpr ⟨r,hr,by ext e r1,by ext e r2⟩)
  .intro x hx y hy e
   obtain ⟨m,hm,rfl⟩:=dz.mp hx
   obtain ⟨i1,i2,i3,i4,i5⟩:=mm m hm
   rcases bT.mp hy with hy | hy
   .obtain ⟨q,hq,rfl⟩:=dz.mp hy
    have k2:=(a3 q.2.1 _).mp ⟨q,hq,a1.1 q hq,cU _,rfl⟩
    exact k2.2 ((SB.qr _).mpr ⟨m.b,i2,by ext i3 i5 e,by ext i4 e⟩)
   .obtain ⟨q,hq,rfl⟩:=dz.mp hy
    have k2:=(b3 q.2.1 _).mp ⟨q,hq,b1.1 q hq,cU _,rfl⟩
    exact k2.2 ((SA.qr _).mpr ⟨m.a,i1,by ext i3 i5 e,by ext i4 e⟩)
 .intro x hx
  have De:∀{r:Row},(r∈A\/r∈B)->r.2.1∈(A.map (λr=>r.2.1)++B.map λr=>r.2.1)++(A.map (λr=>r.1-1)++B.map λr=>r.1-1):=λ{r} h=>by
   refine gR _ ?_
   rcases h with h | h
   .exact gR _ (dz.mpr ⟨r,h,rfl⟩)
   .exact fY _ (dz.mpr ⟨r,h,rfl⟩)
  have Nu:∀{r:Row},(r∈A\/r∈B)->r.1-1∈(A.map (λr=>r.2.1)++B.map λr=>r.2.1)++(A.map (λr=>r.1-1)++B.map λr=>r.1-1):=λ{r} h=>by
   refine fY _ ?_
   rcases h with h | h
   .exact gR _ (dz.mpr ⟨r,h,rfl⟩)
   .exact fY _ (dz.mpr ⟨r,h,rfl⟩)
  rcases bT.mp hx with hx | hx
  .obtain ⟨m,hm,rfl⟩:=dz.mp hx
   obtain ⟨i1,i2,i3,i4,i5⟩:=mm m hm
   by_cases c:m.a.2.1<=m.b.2.1
   .rw [show m.hi=m.a.2.1 by ext i4 c];exact De (.inl i1)
   .rw [show m.hi=m.b.2.1 by ext i4 c];exact De (.inr i2)
  .rcases bT.mp hx with hx | hx
   .obtain ⟨q,hq,rfl⟩:=dz.mp hx
    rcases K5 hq with ⟨r,hr,k⟩ | ⟨s,hs,k⟩
    .rw [k];exact De (.inl hr)
    .obtain ⟨⟨r1,h1,e1⟩,_⟩:=SB.ends s hs
     rw [k,show s.1=r1.1 by ext e1];exact Nu (.inr h1)
   .obtain ⟨q,hq,rfl⟩:=dz.mp hx
    rcases K5 hq with ⟨r,hr,k⟩ | ⟨s,hs,k⟩
    .rw [k];exact De (.inr hr)
    .obtain ⟨⟨r1,h1,e1⟩,_⟩:=SA.ends s hs
     rw [k,show s.1=r1.1 by ext e1];exact Nu (.inl h1)
noncomputable def nJ:Option Int->Option Int->Option Int
 | some a,some b=>some (min a b)
 | some a,none=>some a
 | none,b=>b
theorem QO{A:List Row}(ha:dF A){x:Int}:(∃r∈A,r.1<=x/\x<=r.2.1)↔look A x≠none:=by
 constructor
 .rintro ⟨r,hr,h1,h2⟩
  rw [pU ha hr h1 h2];exact λz=>nomatch z
 .intro h
  cases e:look A x with
  | none=>exact absurd e h
  | some c=>obtain ⟨r,hr,h1,h2,_⟩:=BS e;exact ⟨r,hr,h1,h2⟩
theorem b6q{A B:List Row}{V C:Int}(ca:dF A)(cb:dF B)(ha:∀r∈A,aB (10^140) r)(hb:∀r∈B,aB (10^140) r)(hV:V<=10^140)(hC:C<=10^140)
  (va:∀x c,look A x=some c->(-V<=x/\x<=V)/\(-C<=c/\c<=C))(vb:∀x c,look B x=some c->(-V<=x/\x<=V)/\(-C<=c/\c<=C))(hl:4*(A.length+B.length)<=mC):
  ∃fs:List Row,qE [.tup (A.map Row.d),.tup (B.map Row.d)]=some (.sh (.tup (fs.map Row.d)))/\Canon fs/\(∀x,look fs x=nJ (look A x) (look B x))/\fs.length<=3*(A.length+B.length):=by
 have hN:mC<=1600000/\0<mC:=by decide
 obtain ⟨sa,ea,SA⟩:=Qi ca (by ext hl hN)
 obtain ⟨sb,eb,SB⟩:=Qi cb (by ext hl hN)
 have OS:∀{L:List Row} {ss:List Span},aU L ss->(∀r∈L,aB (10^140) r)->∀s∈ss,F1 s:=λ{L ss} S hL s hs=>by
  obtain ⟨⟨r1,h1,e1⟩,⟨r2,h2,e2⟩⟩:=S.ends s hs
  have k1:=hL r1 h1
  have k2:=hL r2 h2
  unfold aB at k1 k2
  unfold F1
  ext e1 e2 k1 k2
 have Bv:∀{L:List Row} {ss:List Span},aU L ss->ou ss:=λ{L ss} S=>⟨S.ok,S.apart.imp λ{a b} h=>by ext h⟩
 have oa:=Q9 (rs:=A) (ss:=sb) (λr hr=>(ha r hr).mono (by decide)) (OS SB hb) (by ext hl hN) (by have:=SB.len;ext hl hN this)
 have ob:=Q9 (rs:=B) (ss:=sa) (λr hr=>(hb r hr).mono (by decide)) (OS SA ha) (by ext hl hN) (by have:=SA.len;ext hl hN this)
 obtain ⟨a1,a2,a3,a4⟩:=Ca ca (Bv SB)
 obtain ⟨b1,b2,b3,b4⟩:=Ca cb (Bv SA)
 obtain ⟨c1,c2⟩:=b3p ca cb
 have la:=SA.len
 have lb:=SB.len
 have ll:=b3q A B
 have lm:=Lv (A:=A) (B:=B) (bh _)
 have Nv:∀x,gH sa x↔look A x≠none:=λx=>(SA.qr x).trans (QO ca)
 have G2:∀x,gH sb x↔look B x≠none:=λx=>(SB.qr x).trans (QO cb)
 have M1:∀r∈ie A B++(cF A sb++cF B sa),r.1<=r.2.1:=λr hr=>by
  rcases bT.mp hr with h | h
  .exact c1.1 r h
  .exact (bT.mp h).elim (a1.1 r) (b1.1 r)
 have apart:∀{L M:List Row},(∀r∈L,r.1<=r.2.1)->(∀r∈M,r.1<=r.2.1)->(∀x c d,Val L x c->Val M x d->False)->∀a∈L,∀b∈M,kN a b:=λ{L M} hL hM hx a An b sY=>by
  have h1:=hL a An
  have h2:=hM b sY
  by_cases h:a.2.1<b.1\/b.2.1<a.1
  .exact h
  .exact (hx (max a.1 b.1) _ _ ⟨a,An,by ext,by ext h1 h,rfl⟩ ⟨b,sY,by ext,by ext h2 h,rfl⟩).elim
 have own:∀{L:List Row},dF L->L.Pairwise kN:=λ{L} h=>h.2.imp λ{a b} z=>.inl z
 have HH:(ie A B++(cF A sb++cF B sa)).Pairwise kN:=by
  refine gQ.mpr ⟨own c1,gQ.mpr ⟨own a1,own b1,apart a1.1 b1.1 λx c d h1 h2=>?_⟩,λa An b sY=>?_⟩
  .obtain ⟨k1,k2⟩:=(a3 x c).mp h1
   obtain ⟨k3,k4⟩:=(b3 x d).mp h2
   rw [G2,Lc cb] at *
   exact k2 (by rw [k3];exact λz=>nomatch z)
  .rcases bT.mp sY with sY | sY
   .refine apart c1.1 a1.1 (λx c d h1 h2=>?_) a An b sY
    obtain ⟨p,q,k1,k2,_⟩:=(c2 x c).mp h1
    obtain ⟨_,k4⟩:=(a3 x d).mp h2
    exact k4 ((G2 x).mpr (by rw [k2];exact λz=>nomatch z))
   .refine apart c1.1 b1.1 (λx c d h1 h2=>?_) a An b sY
    obtain ⟨p,q,k1,k2,_⟩:=(c2 x c).mp h1
    obtain ⟨_,k4⟩:=(b3 x d).mp h2
    exact k4 ((Nv x).mpr (by rw [k1];exact λz=>nomatch z))
 have mo:=b50 ca cb SA SB
 have de:(ie A B++(cF A sb++cF B sa)).length<mC:=by
  rw [dC,dC]
  ext hl hN ll lm mo
 obtain ⟨ts,es,YT,S0,GD⟩:=b06 M1 HH de
 have Hc:∀x c,Val (ie A B++(cF A sb++cF B sa)) x c↔nJ (look A x) (look B x)=some c:=λx c=>by
  rw [Val.app,Val.app,c2,a3,b3,Nv,G2,Lc ca,Lc cb]
  cases look A x with
  | none=>cases look B x<;>simp [nJ]
  | some a=>cases look B x<;>simp [nJ,eq_comm]
 have HQ:∀r∈ts,aB (10^140) r:=λr hr=>by
  have mY:=GD.subset hr
  have hle:=M1 r mY
  rcases bT.mp mY with h | h
  .obtain ⟨m,_,_,k1,k2,k3,k4,k5,k6,k7,k8,k9⟩:=Le h
   have q1:=ha _ k1
   have q2:=hb _ k2
   have v1:=va _ _ (pU ca k1 (x:=r.1) (by ext k3 k5) (by ext hle k4 k7))
   have v2:=vb _ _ (pU cb k2 (x:=r.1) (by ext k3 k5) (by ext hle k4 k7))
   have e1:r.at r.1=r.2.2.1:=by unfold Row.at;simp
   have e2:=k9 r.1 (cU _) hle
   rw [e1] at e2
   unfold aB at *
   ext hV hC hle k4 k7 k8 q1 q2 v1 v2 e2
  .have key:∀{L:List Row} {q:Row},dF L->(∀r∈L,aB (10^140) r)->(∀x c,look L x=some c->(-V<=x/\x<=V)/\(-C<=c/\c<=C))->(∃r∈L,r.1<=q.1/\q.2.1<=r.2.1/\q.2.2.1=r.at q.1/\q.2.2.2=r.2.2.2)->q.1<=q.2.1->aB (10^140) q:=λ{L q} hA hL hv ⟨z,hz,k1,k2,k3,k4⟩ hq=>by
    have q1:=hL z hz
    have v1:=hv _ _ (pU hA hz (x:=q.1) (by ext k1) (by ext hq k2))
    unfold aB at *
    rw [k3,k4]
    ext hC hq k1 k2 q1 v1
   rcases bT.mp h with h | h
   .exact key ca ha va (a2 r h) hle
   .exact key cb hb vb (b2 r h) hle
 obtain ⟨fs,ef,L⟩:=Kb YT HQ (by rw [GD.length_eq];ext hN de) (ro:=false)
 have lk:∀x,look fs x=nJ (look A x) (look B x):=λx=>b52 L.canon.gD λc=>by rw [L.val,S0,Hc]
 refine ⟨fs,?_,L.canon,lk,?_⟩
 .refine Wo.eq (sk.mpr ?_)
  unfold Kq
  walk_at "vc"
  rw [eb,ea]
  walk_at "vc"
  rw [oa,ob]
  walk_at "vc"
  rw [b3U (λr hr=>(ha r hr).mono (by decide)) (λr hr=>(hb r hr).mono (by decide)) (by ext hl hN) (by ext hl hN)]
  walk_at "vc"
  rw [<-fX,<-fX,es]
  walk_at "vc"
  rw [ef]
  walk_at "vc"
  simp only [bB,dC]
  ext hl hN ll mo
 .have:=L.len
  have:=GD.length_eq
  rw [dC,dC] at this
  lia
theorem Ql{fs:List Row}(h:Canon fs){B C:Int}(hC:0<=C)(hb:∀x c,look fs x=some c->(-B<=x/\x<=B)/\(-C<=c/\c<=C)):∀r∈fs,(-B<=r.1/\r.1<=B)/\(-B<=r.2.1/\r.2.1<=B)/\(-C<=r.2.2.1/\r.2.2.1<=C)/\(-(2*C)<=r.2.2.2/\r.2.2.2<=2*C):=λr hr=>by
 have ok:=h.1 r hr
 unfold pS at ok
 have l1:=pU h.gD hr (x:=r.1) (cU _) ok.1
 have l2:=pU h.gD hr (x:=r.2.1) ok.1 (cU _)
 have b1:=hb _ _ l1
 have b2:=hb _ _ l2
 have e1:r.at r.1=r.2.2.1:=by unfold Row.at;simp
 rw [e1] at b1
 refine ⟨b1.1,b2.1,b1.2,?_⟩
 by_cases hs:r.1=r.2.1
 .rw [ok.2 hs];ext hC
 .have l3:=pU h.gD hr (x:=r.1+1) (by ext) (by ext ok hs)
  have b3:=hb _ _ l3
  have e3:r.at (r.1+1)=r.2.2.1+r.2.2.2:=by unfold Row.at;rw [show r.1+1-r.1=1 by ext,AW]
  rw [e3] at b3
  ext b1 b3
noncomputable def Gl(φ:List D->Option Sl):SF:=
 (ah (cE (bX (aa iV (bZ (bV 0)) (eC (.int 2))))
 (av (m8 (cO (eV 0)) (az (bV 0) (eC (.int 0))) (bF ae))) cZ)
 (ah (bg 1 (aa dk (bZ (bV 0)) (eC (.int 2))))
 (av (aN 2 qE (af (aN 1 φ (af (kJ (bV 0) kD (jV (eV 1))) ae)) (af (aN 1 φ (af (kJ (bV 0) (jV (eV 1)) kD) ae)) ae))))))
theorem b8H{α:Type}(xs:List α){k:Nat}(h:k<=xs.length):fV xs none (some (k:Int))=xs.take k:=by
 unfold fV
 have e1:HT.be xs.length 0 none=0:=rfl
 have e2:HT.be xs.length xs.length (some (k:Int))=min k xs.length:=HT.js _ _ k
 rw [e1,e2,DK,Nat.sub_zero,D4 h]
theorem b8I{α:Type}(xs:List α){k:Nat}(h:k<=xs.length):fV xs (some (k:Int)) none=xs.drop k:=by
 unfold fV
 have e1:HT.be xs.length 0 (some (k:Int))=min k xs.length:=HT.js _ _ k
 have e2:HT.be xs.length xs.length none=xs.length:=rfl
 rw [e1,e2,D4 h,wV]
 rw [nr]
 ext
structure FV(V C:Int)(f:List Row):Prop where
 canon:Canon f
 bd:∀x c,look f x=some c->(-V<=x/\x<=V)/\(-C<=c/\c<=C)
theorem FV.row{V C:Int}{f:List Row}(h:FV V C f)(hV:V<=10^140)(hC:0<=C/\2*C<=10^140):∀r∈f,aB (10^140) r:=λr hr=>by
 have:=Ql h.canon hC.1 h.bd r hr
 unfold aB
 ext hV hC this
def lz(Fs:List (List Row))(f:List Row):Prop:=∀x v,look f x=some v↔(∃g∈Fs,look g x=some v)/\∀g∈Fs,∀w,look g x=some w->v<=w
theorem lz.fv{V C:Int}{Fs:List (List Row)}{f:List Row}(h:lz Fs f)(cf:Canon f)(hF:∀g∈Fs,FV V C g):FV V C f:=⟨cf,λx c e=>by
 obtain ⟨⟨g,hg,k⟩,_⟩:=(h x c).mp e
 exact (hF g hg).bd x c k⟩
theorem lz.merge{Fs Gs:List (List Row)}{a b f:List Row}(ha:lz Fs a)(hb:lz Gs b)(lk:∀x,look f x=nJ (look a x) (look b x)):lz (Fs++Gs) f:=λx v=>by
 rw [lk]
 have no:∀{Hs:List (List Row)} {h:List Row},lz Hs h->look h x=none->∀g∈Hs,look g x=none:=λ{Hs h} hh e=>by
  have key:∀Ks:List (List Row),(∀g∈Ks,g∈Hs)->(∃g∈Ks,look g x≠none)->∃v,(∃g∈Ks,look g x=some v)/\∀g∈Ks,∀w,look g x=some w->v<=w:=λKs=>by
   induction Ks with
   | nil=>rintro _ ⟨g,hg,_⟩;cases hg
   | cons k Ks ih =>
    intro hs hex
    by_cases hK:∃g∈Ks,look g x≠none
    .obtain ⟨v,⟨g,hg,e1⟩,m⟩:=ih (λg hg=>hs g (bW _ hg)) hK
     cases ek:look k x with
     | none=>exact ⟨v,⟨g,bW _ hg,e1⟩,λq hq w hw=>by
       rcases bH.mp hq with rfl | hq
       .rw [ek] at hw;cases hw
       .exact m q hq w hw⟩
     | some u =>
      by_cases zF:u<=v
      .exact ⟨u,⟨k,bK ..,ek⟩,λq hq w hw=>by
        rcases bH.mp hq with rfl | hq
        .rw [ek] at hw;cases hw;exact cU _
        .exact IQ zF (m q hq w hw)⟩
      .exact ⟨v,⟨g,bW _ hg,e1⟩,λq hq w hw=>by
        rcases bH.mp hq with rfl | hq
        .rw [ek] at hw;cases hw;ext zF
        .exact m q hq w hw⟩
    .obtain ⟨g,hg,e1⟩:=hex
     rcases bH.mp hg with rfl | hg
     .cases ek:look g x with
      | none=>exact absurd ek e1
      | some u=>exact ⟨u,⟨g,bK ..,ek⟩,λq hq w hw=>by
        rcases bH.mp hq with rfl | hq
        .rw [ek] at hw;cases hw;exact cU _
        .exact absurd ⟨q,hq,by rw [hw];exact λz=>nomatch z⟩ hK⟩
     .exact absurd ⟨g,hg,e1⟩ hK
  intro g hg
  refine Classical.byContradiction λz=>?_
  obtain ⟨v,hv⟩:=key Hs (λ_ h=>h) ⟨g,hg,z⟩
  rw [(hh x v).mpr hv] at e
  cases e
 cases ea:look a x with
 | none =>
  have n1:=no ha ea
  show look b x=some v↔_
  rw [hb x v]
  constructor
  .rintro ⟨⟨g,hg,e⟩,m⟩
   exact ⟨⟨g,fY _ hg,e⟩,λq hq w hw=>(bT.mp hq).elim (λz=>by rw [n1 q z] at hw;cases hw) λz=>m q z w hw⟩
  .rintro ⟨⟨g,hg,e⟩,m⟩
   exact ⟨(bT.mp hg).elim (λz=>by rw [n1 g z] at e;cases e) λz=>⟨g,z,e⟩,λq hq=>m q (fY _ hq)⟩
 | some u =>
  obtain ⟨⟨g1,Dq,e1⟩,m1⟩:=(ha x u).mp ea
  cases eb:look b x with
  | none =>
   have n2:=no hb eb
   show some u=some v↔_
   constructor
   .intro z
    cases z
    exact ⟨⟨g1,gR _ Dq,e1⟩,λq hq w hw=>(bT.mp hq).elim (λz=>m1 q z w hw) λz=>by rw [n2 q z] at hw;cases hw⟩
   .rintro ⟨⟨g,hg,e⟩,m⟩
    rcases bT.mp hg with z | z
    .have k1:=m g1 (gR _ Dq) u e1
     have k2:=m1 g z v e
     rw [show u=v by ext k1 k2]
    .rw [n2 g z] at e;cases e
  | some t =>
   obtain ⟨⟨g2,wx,e2⟩,m2⟩:=(hb x t).mp eb
   show some (min u t)=some v↔_
   constructor
   .intro z
    cases z
    refine ⟨?_,λq hq w hw=>?_⟩
    .by_cases c:u<=t
     .exact ⟨g1,gR _ Dq,by rw [e1,show min u t=u by ext c]⟩
     .exact ⟨g2,fY _ wx,by rw [e2,show min u t=t by ext c]⟩
    .rcases bT.mp hq with z | z
     .have:=m1 q z w hw;ext this
     .have:=m2 q z w hw;ext this
   .rintro ⟨⟨g,hg,e⟩,m⟩
    have k1:=m g1 (gR _ Dq) u e1
    have k2:=m g2 (fY _ wx) t e2
    congr 1
    rcases bT.mp hg with z | z
    .have:=m1 g z v e;ext k1 k2 this
    .have:=m2 g z v e;ext k1 k2 this
def CJ(φ:List D->Option Sl)(K n m:Nat):Prop:=∀{V C:Int} {Fs:List (List Row)} {r:Bool},V<=10^140->0<=C/\2*C<=10^140->(∀f∈Fs,FV V C f/\f.length<=K)->Fs≠[]->Fs.length<=n->∃fs:List Row,φ [.lst r (Fs.map λf=>.tup (f.map Row.d))]=some (.sh (.tup (fs.map Row.d)))/\Canon fs/\lz Fs fs/\fs.length<=m
theorem P9{φ ψ:List D->Option Sl}{K:Nat}(W:∀{a0:D} {Q:Sl->Prop},Wo (ψ [a0]) Q↔Wo (Gl φ [.sh a0,.no]) (aJ Q)):CJ ψ K 1 K:=λ{V C Fs r} hV hC hF bP hl=>by
 match Fs,bP,hl with
 | [f],_,_ =>
  refine ⟨f,Wo.eq (W.mpr ?_),(hF f (bK ..)).1.canon,λx v=>?_,(hF f (bK ..)).2⟩
  .unfold Gl
   dsimp only [mw]
   walk_at "vc"
   exact λz=>nomatch z
  .exact ⟨λe=>⟨⟨f,bK ..,e⟩,λg hg w hw=>by rw [bU.mp hg] at hw;rw [e] at hw;cases hw;exact cU _⟩,λ⟨⟨g,hg,e⟩,_⟩=>by rw [bU.mp hg] at e;exact e⟩
theorem Fg{φ ψ:List D->Option Sl}{K n m:Nat}(hn:n<=1000)(hm:8*m<=mC)(Xw:K<=6*m)(h:CJ φ K n m)(W:∀{a0:D} {Q:Sl->Prop},Wo (ψ [a0]) Q↔Wo (Gl φ [.sh a0,.no]) (aJ Q)):CJ ψ K (2*n) (6*m):=λ{V C Fs r} hV hC hF bP hl=>by
 by_cases hlen:Fs.length<2
 .have q0:=vE.mpr bP
  obtain ⟨fs,e,c,k,l⟩:=P9 W hV hC hF bP (by ext hlen) (r:=r)
  exact ⟨fs,e,c,k,by ext Xw l⟩
 .obtain ⟨k,hk⟩:∃k:Nat,(Fs.length:Int)/2=k:=⟨((Fs.length:Int)/2).toNat,by lia⟩
  have Dl:1<=k:=by lia
  have sS:k<Fs.length:=by lia
  have nA:Fs.take k≠[]:=JF (by rw [iZ];ext Dl sS)
  have nB:Fs.drop k≠[]:=JF (by rw [nr];ext sS)
  have NT:∀f∈Fs.take k,FV V C f/\f.length<=K:=λf hf=>hF f (vC hf)
  have NS:∀f∈Fs.drop k,FV V C f/\f.length<=K:=λf hf=>hF f (tM hf)
  obtain ⟨A,ea,cA,mA,lA⟩:=h (r:=false) hV hC NT nA (by rw [iZ];lia)
  obtain ⟨B,eb,cB,mB,lB⟩:=h (r:=false) hV hC NS nB (by rw [nr];lia)
  have vA:=mA.fv cA λf hf=>(NT f hf).1
  have vB:=mB.fv cB λf hf=>(NS f hf).1
  obtain ⟨fs,ef,cf,lk,lf⟩:=b6q (V:=V) (C:=C) cA.gD cB.gD (vA.row hV hC) (vB.row hV hC) hV (by ext hC) vA.bd vB.bd (by ext hm lA lB)
  have mf:=mA.merge mB lk
  rw [nY] at mf
  refine ⟨fs,Wo.eq (W.mpr ?_),cf,mf,by ext lA lB lf⟩
  unfold Gl
  walk_at "v1"
  refine mF ?_ ?_
  .walk_at "vc"
   rw [bB]
   ext hlen
  walk_at "v1"
  rw [bB,hk,BR,BR,b8H _ (by ext sS),b8I _ (by ext sS)]
  walk_at "v1"
  refine ⟨Ky (by decide) (by decide),?_⟩
  rw [ea]
  walk_at "v1"
  rw [eb]
  walk_at "v1"
  rw [ef]
  walk_at "vc"
noncomputable def fl:List (Int×Int)->Int->Int
 | [],_=>0
 | p::L,t=>if t<=p.2 then p.1*t else p.1*p.2+fl L (t-p.2)
noncomputable def gl:List (Int×Int)->Int->Int
 | [],_=>0
 | p::L,l=>p.2*min 0 (p.1-l)+gl L l
noncomputable def tw:List (Int×Int)->Int
 | []=>0
 | p::L=>p.2+tw L
def Wd(L:List (Int×Int)):Prop:=∀p∈L,0<=p.2
theorem Wd.tl{p:Int×Int}{L:List (Int×Int)}(h:Wd (p::L)):0<=p.2/\Wd L:=⟨h p (bK ..),λq hq=>h q (bW _ hq)⟩
theorem EN:∀{L:List (Int×Int)},Wd L->0<=tw L
 | [],_=>cU _
 | p::L,h=>by have:=EN h.tl.2;have:=h.tl.1;unfold tw;lia
theorem Qf{l:Int}:∀{L:List (Int×Int)},(∀p∈L,l<=p.1)->gl L l=0
 | [],_=>rfl
 | p::L,h=>by
  have:=h p (bK ..)
  unfold gl
  rw [Qf λq hq=>h q (bW _ hq),show min 0 (p.1-l)=0 by ext this]
  simp
def Up(L:List (Int×Int)):Prop:=L.Pairwise λa b=>a.1<=b.1
theorem OU:∀{L:List (Int×Int)},L≠[]->Wd L->Up L->∀{t:Int},0<=t->t<=tw L->∃p∈L,fl L t=p.1*t+gl L p.1
 | [],h,_,_,_,_,_=>(h rfl).elim
 | p::L,_,h,hu,t,h0,h1=>by
  obtain ⟨Di,Hg⟩:=ir.mp hu
  have nN:t<=p.2+tw L:=h1
  by_cases ht:t<=p.2
  .refine ⟨p,bK ..,?_⟩
   unfold fl
   rw [if_pos ht,Qf (l:=p.1)]
   .ext
   .intro q hq
    rcases bH.mp hq with rfl | hq
    .exact cU _
    .exact Di q hq
  .have hn:L≠[]:=λz=>by subst z;simp [tw] at nN;ext ht nN
   obtain ⟨q,hq,e⟩:=OU hn h.tl.2 Hg (t:=t-p.2) (by ext ht) (by ext nN)
   refine ⟨q,bW _ hq,?_⟩
   have Xn:=Di q hq
   unfold fl gl
   rw [if_neg ht,e,show min 0 (p.1-q.1)=p.1-q.1 by ext Xn,AS,AS,IP p.2 p.1,IP p.2 q.1]
   ext
noncomputable def cs:List (Int×Int)->Int
 | []=>0
 | p::L=>p.1*p.2+cs L
theorem KA{L:List (Int×Int)}(h:Wd L):fl L 0=0:=by
 cases L with
 | nil=>rfl
 | cons r P=>unfold fl;rw [if_pos h.tl.1];simp
theorem b7t(L M:List (Int×Int)):tw (L++M)=tw L+tw M:=by
 induction L with
 | nil=>show tw M=0+tw M;ext
 | cons p L ih=>show p.2+tw (L++M)=p.2+tw L+tw M;ext ih
theorem b8J(L M:List (Int×Int)):cs (L++M)=cs L+cs M:=by
 induction L with
 | nil=>show cs M=0+cs M;ext
 | cons p L ih=>show p.1*p.2+cs (L++M)=p.1*p.2+cs L+cs M;ext ih
noncomputable def jW(q:Int×Int)(x p:Int):List Row:=if q.2>0 then [(x+1,x+q.2,p+q.1,q.1)] else []
noncomputable def mk:List (Int×Int)->Int->Int->List Row
 | [],_,_=>[]
 | q::L,x,p=>jW q x p++mk L (x+q.2) (p+q.1*q.2)
theorem PZ:∀(L:List (Int×Int)) (q:Int×Int) (x p:Int),mk (L++[q]) x p=mk L x p++jW q (x+tw L) (p+cs L)
 | [],q,x,p=>by show jW q x p++[]=[]++jW q (x+0) (p+0);simp
 | r::L,q,x,p=>by
  show jW r x p++mk (L++[q]) (x+r.2) (p+r.1*r.2)=(jW r x p++mk L (x+r.2) (p+r.1*r.2))++jW q (x+(r.2+tw L)) (p+(r.1*r.2+cs L))
  rw [PZ L q,fB,show x+r.2+tw L=x+(r.2+tw L) by ext,show p+r.1*r.2+cs L=p+(r.1*r.2+cs L) by ext]
theorem Qr{A B:List Row}{x c:Int}:Val (A++B) x c↔Val A x c\/Val B x c:=by
 unfold Val
 constructor
 .rintro ⟨r,hr,h⟩
  rcases bT.mp hr with hr | hr
  .exact .inl ⟨r,hr,h⟩
  .exact .inr ⟨r,hr,h⟩
 .rintro (⟨r,hr,h⟩ | ⟨r,hr,h⟩)
  .exact ⟨r,gR _ hr,h⟩
  .exact ⟨r,fY _ hr,h⟩
theorem b5Y{q:Int×Int}{x p y c:Int}:Val (jW q x p) y c↔x<y/\y<=x+q.2/\c=p+q.1*(y-x):=by
 unfold jW Val
 have e:∀y,Row.at (x+1,x+q.2,p+q.1,q.1) y=p+q.1*(y-x):=λy=>by
  show p+q.1+q.1*(y-(x+1))=_
  rw [show y-(x+1)=(y-x)-1 by ext,AS,AW]
  ext
 split
 .constructor
  .rintro ⟨r,hr,h1,h2,h3⟩
   rw [bU.mp hr] at h1 h2 h3
   rw [e] at h3
   dsimp only at h1 h2
   exact ⟨by ext h1,h2,h3⟩
  .rintro ⟨h1,h2,h3⟩
   exact ⟨_,bU.mpr rfl,by dsimp only;ext h1,h2,by rw [e];exact h3⟩
 .constructor
  .rintro ⟨r,hr,_⟩
   exact absurd hr (gO)
  .rintro ⟨h1,h2,h3⟩
   lia
theorem Pl:∀{L:List (Int×Int)},Wd L->∀{x p y c:Int},Val (mk L x p) y c↔x<y/\y<=x+tw L/\c=p+fl L (y-x)
 | [],_,x,p,y,c=>by
  constructor
  .rintro ⟨r,hr,_⟩
   exact absurd hr (gO)
  .rintro ⟨h1,h2,h3⟩
   have:y<=x+0:=h2
   ext _ h1 this
 | q::L,h,x,p,y,c=>by
  have hq:=h.tl.1
  have hP:=EN h.tl.2
  show Val (jW q x p++mk L (x+q.2) (p+q.1*q.2)) y c↔x<y/\y<=x+(q.2+tw L)/\_
  rw [Qr,b5Y,Pl h.tl.2,show fl (q::L) (y-x)=if y-x<=q.2 then q.1*(y-x) else q.1*q.2+fl L (y-x-q.2) from rfl]
  by_cases hy:y-x<=q.2
  .rw [if_pos hy]
   constructor
   .rintro (⟨h1,h2,h3⟩ | ⟨h1,h2,h3⟩)
    .exact ⟨h1,by ext hP hy,h3⟩
    .ext hy h1
   .rintro ⟨h1,h2,h3⟩
    exact .inl ⟨h1,by ext hy,h3⟩
  .rw [if_neg hy,show y-(x+q.2)=y-x-q.2 by ext]
   constructor
   .rintro (⟨h1,h2,h3⟩ | ⟨h1,h2,h3⟩)
    .ext hy h2
    .exact ⟨by ext hq hy,by ext h2,by ext h3⟩
   .rintro ⟨h1,h2,h3⟩
    exact .inr ⟨by ext hy,by ext h2,by ext h3⟩
noncomputable def Sh:List (List Row)->Int->Int->Prop
 | [],x,c=>x=0/\c=0
 | F::Fs,x,c=>∃y cy z cz,Val F y cy/\Sh Fs z cz/\y+z=x/\cy+cz=c
def Jn(Fs:List (List Row))(x c:Int):Prop:=Sh Fs x c/\∀c',Sh Fs x c'->c<=c'
theorem Sh.app:∀{Fs Gs:List (List Row)} {x c:Int},Sh (Fs++Gs) x c↔∃y cy z cz,Sh Fs y cy/\Sh Gs z cz/\y+z=x/\cy+cz=c
 | [],Gs,x,c=>by
  constructor
  .intro h
   exact ⟨0,0,x,c,⟨rfl,rfl⟩,h,by ext,by ext⟩
  .rintro ⟨y,cy,z,cz,⟨rfl,rfl⟩,h,rfl,rfl⟩
   rw [IT,IT]
   exact h
 | F::Fs,Gs,x,c=>by
  constructor
  .rintro ⟨y,cy,z,cz,v,h,rfl,rfl⟩
   obtain ⟨p,cp,q,cq,h1,h2,rfl,rfl⟩:=Sh.app.mp h
   exact ⟨y+p,cy+cp,q,cq,⟨y,cy,p,cp,v,h1,rfl,rfl⟩,h2,by ext,by ext⟩
  .rintro ⟨y,cy,z,cz,⟨p,cp,q,cq,v,h1,rfl,rfl⟩,h2,rfl,rfl⟩
   exact ⟨p,cp,q+z,cq+cz,v,Sh.app.mpr ⟨q,cq,z,cz,h1,h2,rfl,rfl⟩,by ext,by ext⟩
theorem Sh.perm{Fs Gs:List (List Row)}(h:Fs.Perm Gs):∀{x c:Int},Sh Fs x c->Sh Gs x c:=by
 induction h with
 | nil=>exact id
 | cons F _ ih=>rintro x c ⟨y,cy,z,cz,v,h,e1,e2⟩;exact ⟨y,cy,z,cz,v,ih h,e1,e2⟩
 | swap F G Fs =>
  rintro x c ⟨y,cy,z,cz,v,⟨p,cp,q,cq,w,h,rfl,rfl⟩,rfl,rfl⟩
  exact ⟨p,cp,y+q,cy+cq,w,⟨y,cy,q,cq,v,h,rfl,rfl⟩,by ext,by ext⟩
 | trans _ _ i1 i2=>intro x c h;exact i2 (i1 h)
theorem Jn.perm{Fs Gs:List (List Row)}(h:Fs.Perm Gs){x c:Int}(j:Jn Fs x c):Jn Gs x c:=⟨j.1.perm h,λc' k=>j.2 c' (k.perm h.symm)⟩
theorem Jn.merge{Fs Gs:List (List Row)}{f:List Row}(hf:∀x c,Val f x c↔Jn Fs x c)(ex:∀x c,Sh Fs x c->∃m,Jn Fs x m){x c:Int}:Jn (f::Gs) x c↔Jn (Fs++Gs) x c:=by
 have up:∀{x c},Sh (f::Gs) x c->Sh (Fs++Gs) x c:=λ{x c} ⟨y,cy,z,cz,v,h,e1,e2⟩=>Sh.app.mpr ⟨y,cy,z,cz,((hf _ _).mp v).1,h,e1,e2⟩
 have dn:∀{x c},Sh (Fs++Gs) x c->∃c',c'<=c/\Sh (f::Gs) x c':=λ{x c} h=>by
  obtain ⟨y,cy,z,cz,h1,h2,e1,e2⟩:=Sh.app.mp h
  obtain ⟨m,hm⟩:=ex y cy h1
  exact ⟨m+cz,by have:=hm.2 _ h1;ext e2 this,y,m,z,cz,(hf _ _).mpr hm,h2,e1,rfl⟩
 constructor
 .rintro ⟨h,k⟩
  refine ⟨up h,λc' h'=>?_⟩
  obtain ⟨Ex,l,Du⟩:=dn h'
  have:=k Ex Du
  ext l this
 .rintro ⟨h,k⟩
  obtain ⟨Ex,l,Du⟩:=dn h
  have:=k Ex (up Du)
  have:Ex=c:=by ext l this
  subst this
  exact ⟨Du,λc' h'=>k c' (up h')⟩
noncomputable def St:List (Int×Int)->Int->Int->Prop
 | [],t,k=>t=0/\k=0
 | q::L,t,k=>∃a u v,(0<=a/\a<=q.2)/\St L u v/\a+u=t/\q.1*a+v=k
theorem St.mq:∀{L:List (Int×Int)} {t k:Int},St L t k->0<=t/\t<=tw L
 | [],t,k,h=>by unfold tw;have:=h.1;ext this
 | q::L,t,k,⟨a,u,v,ha,h,e,_⟩=>by have:=St.mq h;unfold tw;ext ha e this
theorem St.ge:∀{L:List (Int×Int)} {t k:Int},St L t k->∀l,l*t+gl L l<=k
 | [],t,k,⟨h1,h2⟩,l=>by subst h1 h2;unfold gl;simp
 | q::L,t,k,⟨a,u,v,ha,h,e1,e2⟩,l=>by
  have i:=St.ge h l
  subst e1 e2
  unfold gl
  have m:q.2*min 0 (q.1-l)<=(q.1-l)*a:=by
   by_cases hs:0<=q.1-l
   .rw [Int.min_eq_left hs,IS]
    exact oI hs ha.1
   .rw [Int.min_eq_right (by ext hs),IP]
    exact Int.mul_le_mul_of_nonpos_left (by ext hs) ha.2
  rw [Int.mul_add]
  rw [Int.sub_mul] at m
  ext i m
theorem St.fl:∀{L:List (Int×Int)},Wd L->∀{t:Int},0<=t->t<=tw L->St L t (fl L t)
 | [],_,t,h0,h1=>⟨by unfold tw at h1;ext h0 h1,rfl⟩
 | q::L,h,t,h0,h1=>by
  obtain ⟨hq,hL⟩:=h.tl
  unfold My.fl
  unfold tw at h1
  by_cases ht:t<=q.2
  .rw [if_pos ht]
   have:=St.fl hL (t:=0) (cU _) (EN hL)
   rw [KA hL] at this
   exact ⟨t,0,0,⟨h0,ht⟩,this,by ext,by ext⟩
  .rw [if_neg ht]
   exact ⟨q.2,t-q.2,_,⟨hq,cU _⟩,St.fl hL (by ext ht) (by ext h1),by ext,rfl⟩
theorem St.perm{L M:List (Int×Int)}(h:L.Perm M):∀{t k:Int},St L t k->St M t k:=by
 induction h with
 | nil=>exact id
 | cons q _ ih=>rintro t k ⟨a,u,v,ha,h,e1,e2⟩;exact ⟨a,u,v,ha,ih h,e1,e2⟩
 | swap q p L =>
  rintro t k ⟨a,u,v,ha,⟨b,u',v',hb,h,rfl,rfl⟩,rfl,rfl⟩
  exact ⟨b,a+u',p.1*a+v',hb,⟨a,u',v',ha,h,rfl,rfl⟩,by ext,by ext⟩
 | trans _ _ i1 i2=>intro t k h;exact i2 (i1 h)
theorem St.least{L:List (Int×Int)}(hn:L≠[])(hw:Wd L)(hu:Up L){t k:Int}(h:St L t k):My.fl L t<=k:=by
 obtain ⟨d1,d2⟩:=h.mq
 obtain ⟨p,_,e⟩:=OU hn hw hu d1 d2
 have:=h.ge p.1
 ext e this
noncomputable def ud(r:Row):Int:=r.2.1-r.1
noncomputable def pk(r:Row):Int×Int:=(r.2.2.2,ud r)
noncomputable def X0(R:List Row):Int:=(R.map λr=>r.1).sum
noncomputable def P0(R:List Row):Int:=(R.map λr=>r.2.2.1).sum
noncomputable def one(R:List Row):List (List Row):=R.map λr=>[r]
theorem fN:∀{R:List Row} {x c:Int},Sh (one R) x c↔St (R.map pk) (x-X0 R) (c-P0 R)
 | [],x,c=>by unfold one X0 P0;simp [Sh,St]
 | r::R,x,c=>by
  have ih:=@fN R
  constructor
  .rintro ⟨y,cy,z,cz,⟨q,hq,h1,h2,h3⟩,h,e1,e2⟩
   rw [bU.mp hq] at h1 h2 h3
   refine ⟨y-r.1,z-X0 R,cz-P0 R,⟨by ext h1,by show _<=ud r;unfold ud;ext h2⟩,ih.mp h,?_,?_⟩
   .unfold X0;rw [fF,tE];ext e1
   .unfold P0;rw [fF,tE]
    show r.2.2.2*(y-r.1)+_=_
    unfold Row.at at h3
    ext h3 e2
  .rintro ⟨a,u,v,ha,h,e1,e2⟩
   have NO:a<=ud r:=ha.2
   unfold ud at NO
   unfold X0 at e1
   unfold P0 at e2
   rw [fF,tE] at e1 e2
   refine ⟨r.1+a,r.2.2.1+r.2.2.2*a,X0 R+u,P0 R+v,⟨r,bU.mpr rfl,by ext ha,by ext NO,?_⟩,ih.mpr ?_,?_,?_⟩
   .unfold Row.at
    rw [show r.1+a-r.1=a by ext]
   .rw [show X0 R+u-X0 R=u by ext,show P0 R+v-P0 R=v by ext];exact h
   .unfold X0;ext e1
   .unfold P0
    have e2:r.2.2.2*a+v=c-(r.2.2.1+(R.map λr=>r.2.2.1).sum):=e2
    ext e2
noncomputable def prod:List (List Row)->List (List Row)
 | []=>[[]]
 | F::Fs=>F.flatMap λr=>(prod Fs).map λR=>r::R
theorem bz:∀{Fs:List (List Row)} {x c:Int},Sh Fs x c↔∃R∈prod Fs,Sh (one R) x c
 | [],x,c=>by unfold prod;simp [one,Sh]
 | F::Fs,x,c=>by
  constructor
  .rintro ⟨y,cy,z,cz,⟨r,hr,h1,h2,h3⟩,h,e1,e2⟩
   obtain ⟨R,hR,k⟩:=bz.mp h
   exact ⟨r::R,qv.mpr ⟨r,hr,dz.mpr ⟨R,hR,rfl⟩⟩,y,cy,z,cz,⟨r,bU.mpr rfl,h1,h2,h3⟩,k,e1,e2⟩
  .rintro ⟨S,hS,k⟩
   obtain ⟨r,hr,hS⟩:=qv.mp hS
   obtain ⟨R,hR,rfl⟩:=dz.mp hS
   obtain ⟨y,cy,z,cz,⟨q,hq,h1,h2,h3⟩,h,e1,e2⟩:=k
   rw [bU.mp hq] at h1 h2 h3
   exact ⟨y,cy,z,cz,⟨r,hr,h1,h2,h3⟩,bz.mpr ⟨R,hR,h⟩,e1,e2⟩
theorem xw:∀{Fs:List (List Row)} {R:List Row},R∈prod Fs->R.length=Fs.length/\∀r∈R,∃F∈Fs,r∈F
 | [],R,h=>by
  rw [bU.mp h]
  exact ⟨rfl,λr z=>nomatch z⟩
 | F::Fs,S,h=>by
  obtain ⟨r,hr,hS⟩:=qv.mp h
  obtain ⟨R,hR,rfl⟩:=dz.mp hS
  obtain ⟨i1,i2⟩:=xw hR
  refine ⟨by simp [i1],λq hq=>?_⟩
  rcases bH.mp hq with rfl | hq
  .exact ⟨F,bK ..,hr⟩
  .obtain ⟨G,hG,k⟩:=i2 q hq
   exact ⟨G,bW _ hG,k⟩
theorem b55{Fs:List (List Row)}{φ:List Row->List Row}{f:List Row}(hp:∀R∈prod Fs,∀x c,look (φ R) x=some c↔Jn (one R) x c)(hx:∀R∈prod Fs,∀x c,Sh (one R) x c->∃m,Jn (one R) x m)
  (hm:∀x v,look f x=some v↔(∃R∈prod Fs,look (φ R) x=some v)/\∀R∈prod Fs,∀w,look (φ R) x=some w->v<=w)(x c:Int):look f x=some c↔Jn Fs x c:=by
 rw [hm]
 constructor
 .rintro ⟨⟨R,hR,e⟩,m⟩
  refine ⟨bz.mpr ⟨R,hR,((hp R hR x c).mp e).1⟩,λc' h'=>?_⟩
  obtain ⟨S,hS,k⟩:=bz.mp h'
  obtain ⟨v,hv⟩:=hx S hS x c' k
  have:=m S hS v ((hp S hS x v).mpr hv)
  have:=hv.2 c' k
  lia
 .rintro ⟨h,m⟩
  obtain ⟨R,hR,k⟩:=bz.mp h
  refine ⟨⟨R,hR,(hp R hR x c).mpr ⟨k,λc' h'=>m c' (bz.mpr ⟨R,hR,h'⟩)⟩⟩,λS hS w e=>m w (bz.mpr ⟨S,hS,((hp S hS x w).mp e).1⟩)⟩
def CD(q:Int×Int):Prop:=(-(2*10^130)<=q.1/\q.1<=2*10^130)/\(0<=q.2/\q.2<=2*10^60)/\(-(2*10^130)<=q.1*q.2/\q.1*q.2<=2*10^130)
def SW(L:List (Int×Int)):Prop:=∀q∈L,CD q
theorem SW.wd{L:List (Int×Int)}(h:SW L):Wd L:=λq hq=>(h q hq).2.1.1
theorem SW.tl{p:Int×Int}{L:List (Int×Int)}(h:SW (p::L)):CD p/\SW L:=⟨h p (bK ..),λq hq=>h q (bW _ hq)⟩
theorem JQ:∀{L:List (Int×Int)},SW L->0<=tw L/\tw L<=L.length*(2*10^60)
 | [],_=>by show 0<=(0:Int)/\(0:Int)<=_;simp
 | p::L,h=>by
  have:=JQ h.tl.2
  have hq:=h.tl.1
  unfold CD at hq
  show 0<=p.2+tw L/\p.2+tw L<=((L.length+1:Nat):Int)*(2*10^60)
  omega
theorem xc:∀{L:List (Int×Int)},SW L->∀{x p:Int} {r:Row},r∈mk L x p->(x<r.1/\r.1<=r.2.1/\r.2.1<=x+tw L)/\(-(L.length*(2*10^130))<=r.2.2.1-p/\r.2.2.1-p<=L.length*(2*10^130))/\(-(2*10^130)<=r.2.2.2/\r.2.2.2<=2*10^130)
 | [],_,x,p,r,hr=>absurd hr gO
 | q::L,h,x,p,r,hr=>by
  have hq:=h.tl.1
  unfold CD at hq
  have hP:=(JQ h.tl.2).1
  have hm:=hq.2.2
  show _/\(-(((L.length+1:Nat):Int)*(2*10^130))<=_/\_<=((L.length+1:Nat):Int)*(2*10^130))/\_
  rw [show tw (q::L)=q.2+tw L from rfl]
  rcases bT.mp (show r∈jW q x p++mk L (x+q.2) (p+q.1*q.2) from hr) with hr | hr
  .unfold jW at hr
   split at hr
   .rw [bU.mp hr]
    dsimp only
    omega
   .exact absurd hr gO
  .have:=xc h.tl.2 hr
   generalize q.1*q.2=z at *
   omega
theorem P1:∀{L:List (Int×Int)},SW L->∀(x p:Int),dF (mk L x p)
 | [],_,x,p=>⟨λ_ z=>absurd z gO,.nil⟩
 | q::L,h,x,p=>by
  refine ⟨λr hr=>(xc h hr).1.2.1,?_⟩
  show (jW q x p++mk L (x+q.2) (p+q.1*q.2)).Pairwise _
  refine gQ.mpr ⟨?_,(P1 h.tl.2 _ _).2,λa ha b hb=>?_⟩
  .unfold jW
   split
   .exact rF _ _
   .exact .nil
  .have:=(xc h.tl.2 hb).1.1
   unfold jW at ha
   split at ha
   .rw [bU.mp ha]
    exact this
   .exact absurd ha gO
noncomputable def sN(L:List (Int×Int))(x p:Int):List Row:=(x,x,p,0)::mk L x p
theorem b5X{L:List (Int×Int)}(h:SW L)(x p:Int):dF (sN L x p):=by
 refine ⟨λr hr=>?_,ir.mpr ⟨λr hr=>(xc h hr).1.1,(P1 h x p).2⟩⟩
 rcases bH.mp hr with rfl | hr
 .exact cU _
 .exact (xc h hr).1.2.1
theorem b5W{L:List (Int×Int)}(h:Wd L){x p y c:Int}:Val (sN L x p) y c↔x<=y/\y<=x+tw L/\c=p+fl L (y-x):=by
 have hP:=EN h
 rw [show sN L x p=[(x,x,p,0)]++mk L x p from rfl,Qr,Pl h]
 have e:Val [(x,x,p,0)] y c↔y=x/\c=p:=by
  unfold Val
  constructor
  .rintro ⟨r,hr,h1,h2,h3⟩
   rw [bU.mp hr] at h1 h2 h3
   unfold Row.at at h3
   dsimp only at h1 h2 h3
   exact ⟨by ext h1 h2,by ext h3⟩
  .rintro ⟨rfl,rfl⟩
   exact ⟨_,bU.mpr rfl,cU _,cU _,by unfold Row.at;simp⟩
 rw [e]
 constructor
 .rintro (⟨rfl,rfl⟩ | ⟨h1,h2,h3⟩)
  .refine ⟨cU _,by ext hP,?_⟩
   rw [DP,KA h]
   ext
  .exact ⟨by ext h1,h2,h3⟩
 .rintro ⟨h1,h2,h3⟩
  by_cases hy:y=x
  .subst hy
   rw [DP,KA h] at h3
   exact .inl ⟨rfl,by ext h3⟩
  .exact .inr ⟨by ext h1 hy,h2,h3⟩
theorem b3R(r:Row):t7 [r.d]=some (.sh (.int r.2.2.2)):=by
 refine Wo.eq (og.mpr ?_)
 unfold LH
 rw [c9]
 walk_at "vc"
def PB(r:Row):Prop:=r.1<=r.2.1/\(-(10^60)<=r.1/\r.2.1<=10^60)/\(-(10^130)<=r.2.2.1/\r.2.2.1<=10^130)/\(-(10^130)<=r.at r.2.1/\r.at r.2.1<=10^130)/\(-(2*10^130)<=r.2.2.2/\r.2.2.2<=2*10^130)
theorem QA:∀(R:List Row),kE t7 (R.map Row.d)=some (R.map λr=>r.2.2.2)
 | []=>rfl
 | r::R=>by
  show (match t7 [r.d] with | some (.sh (.int k))=>(kE t7 (R.map Row.d)).map λks=>k::ks | _=>none)=_
  rw [b3R,QA R]
  rfl
noncomputable def e9(R:List Row):List Row:=bA (R.map λr=>r.2.2.2) (0,0,0,0) R
theorem yq(R:List Row):bA (R.map λr=>r.2.2.2) D.aR (R.map Row.d)=(e9 R).map Row.d:=by
 unfold e9 bA
 rw [bB]
 by_cases h2:R.length<2
 .rw [if_pos h2,if_pos h2]
 rw [if_neg h2,if_neg h2,dS]
 refine Eu λi hi=>?_
 have hi:i<R.length:=oJ.mp ((KS.cG (λi=>(R.map λr=>r.2.2.2).getD i 0) R.length (by ext h2)).1.mem_iff.mp hi)
 simp [hi]
theorem B2(R:List Row):(e9 R).Perm R:=Lx _ _ R
theorem b7E(R:List Row):Up ((e9 R).map pk):=by
 unfold e9 bA Up
 by_cases h2:R.length<2
 .rw [if_pos h2]
  cases R with
  | nil=>exact .nil
  | cons a t =>
   cases t with
   | nil=>exact rF _ _
   | cons b t=>simp at h2;ext _ h2
 rw [if_neg h2,dS,tO]
 have S:=KS.cG (λi=>(R.map λr=>r.2.2.2).getD i 0) R.length (by ext h2)
 refine List.Pairwise.imp_of_mem (λ{i j} hi hj h=>?_) S.2
 have hi:i<R.length:=oJ.mp (S.1.mem_iff.mp hi)
 have hj:j<R.length:=oJ.mp (S.1.mem_iff.mp hj)
 simp [hi,hj] at h
 simpa [pk,hi,hj] using h
theorem PB.sw{R:List Row}(h:∀r∈R,PB r):SW (R.map pk):=λq hq=>by
 obtain ⟨r,hr,rfl⟩:=dz.mp hq
 have:=h r hr
 unfold PB at this
 unfold CD pk ud
 dsimp only
 unfold Row.at at this
 ext this
theorem O5:∀{R:List Row},(∀r∈R,PB r)->(-(R.length*10^60)<=X0 R/\X0 R<=R.length*10^60)/\(-(R.length*10^130)<=P0 R/\P0 R<=R.length*10^130)
 | [],_=>by simp [X0,P0]
 | r::R,h=>by
  have ih:=O5 λq hq=>h q (bW _ hq)
  have:=h r (bK ..)
  unfold PB at this
  unfold X0 P0 at *
  simp only [fF,tE,nk]
  omega
theorem b77{L:List (Int×Int)}(h:SW L)(hl:L.length<=6){x p:Int}(hx:-(10^62)<=x/\x<=10^62)(hp:-(10^132)<=p/\p<=10^132):∀r∈sN L x p,aB (10^140) r:=λr hr=>by
 have ht:=JQ h
 unfold aB
 rcases bH.mp hr with rfl | hr
 .dsimp only
  ext hx hp
 .have:=xc h hr
  omega
theorem EU:∀(L:List (Int×Int)) (x p:Int),(mk L x p).length<=L.length
 | [],_,_=>bh _
 | q::L,x,p=>by
  have:=EU L (x+q.2) (p+q.1*q.2)
  show (jW q x p++mk L (x+q.2) (p+q.1*q.2)).length<=L.length+1
  rw [dC]
  unfold jW
  split<;>simp<;>ext this
theorem b8x{R:List Row}(h:∀r∈R,PB r)(h6:R.length<=6){ro:Bool}:∃fs:List Row,vU [.lst ro (R.map Row.d)]=some (.sh (.tup (fs.map Row.d)))/\Laid (sN ((e9 R).map pk) (X0 R) (P0 R)) fs:=by
 have hs:∀r∈e9 R,PB r:=λr hr=>h r ((B2 R).mem_iff.mp hr)
 have hS:=PB.sw hs
 have kG:(e9 R).length=R.length:=(B2 R).length_eq
 have hx:=O5 h
 obtain ⟨fs,ef,LD⟩:=Kb (b5X hS (X0 R) (P0 R)) (b77 hS (by rw [bB];ext h6 kG) (by lia) (by lia)) (by
  have:=EU ((e9 R).map pk) (X0 R) (P0 R)
  rw [bB] at this
  show _+1<=_
  ext h6 kG this) (ro:=false)
 refine ⟨fs,?_,LD⟩
 refine Wo.eq (p9.mpr ?_)
 unfold KW
 walk_at "v1"
 rw [nF Row.d (λr=>.int r.1) (λe=>∃x0,e=[x0]) R (λr hr e he=>?_) ⟨_,rfl⟩]
 .rw [show R.map (λr=>D.int r.1)=(R.map λr=>r.1).map D.int by rw [dS];rfl]
  walk_at "v1"
  refine ⟨by rw [bB];ext h6,by rw [bB];ext h6,?_⟩
  rw [nF Row.d (λr=>.int r.2.2.1) (λe=>∃x0,e=[x0]) R (λr hr e he=>?_) ⟨_,rfl⟩]
  .rw [show R.map (λr=>D.int r.2.2.1)=(R.map λr=>r.2.2.1).map D.int by rw [dS];rfl]
   walk_at "v1"
   rw [b2t (r:=ro) (ds:=R.map Row.d) (by rfl) (QA R) (by rw [bB];ext h6),yq R]
   walk_at "v1"
   rw [show (R.map λr=>r.1).sum=X0 R from rfl,show (R.map λr=>r.2.2.1).sum=P0 R from rfl]
   refine nE Row.d (λpre env=>∃x4 x5,env=[.sh (.lst ro (R.map Row.d)),.sh (.int (X0 R+tw (pre.map pk))),.sh (.int (P0 R+cs (pre.map pk))),.ow ((sN (pre.map pk) (X0 R) (P0 R)).map Row.d),x4,x5]) (e9 R) (λpre r post env e hI=>?_) (λenv hI=>?_) ⟨.no,.no,?_⟩
   .obtain ⟨x4,x5,rfl⟩:=hI
    have hr:=hs r (by rw [e];simp)
    have dQ:pre.length<=6:=by rw [<-kG,e,dC] at h6;ext h6
    have NG:=EU (pre.map pk) (X0 R) (P0 R)
    rw [bB] at NG
    unfold PB at hr
    have hm:MulC r.2.2.2 (r.2.1-r.1):=xn (by ext hr) (by ext hr) (by ext hr) (by ext hr)
    rw [c9]
    walk_at "v1"
    rw [fX,N4,b7t,b8J]
    unfold sN
    rw [PZ]
    generalize hM:mk (pre.map pk) (X0 R) (P0 R)=M at *
    generalize tw (pre.map pk)=T at *
    generalize cs (pre.map pk)=C at *
    rw [show tw [pk r]=r.2.1-r.1 by show (r.2.1-r.1)+0=_;ext,show cs [pk r]=r.2.2.2*(r.2.1-r.1) by show r.2.2.2*(r.2.1-r.1)+0=_;ext]
    unfold jW pk ud
    dsimp only
    generalize hW:r.2.1-r.1=W at *
    refine Wo.mono (P:=λq=>q=(.nx,[.sh (.lst ro (R.map Row.d)),.sh (.int (X0 R+T)),.sh (.int (P0 R+C)),.ow (((X0 R,X0 R,P0 R,0)::(M++if W>0 then [(X0 R+T+1,X0 R+T+W,P0 R+C+r.2.2.2,r.2.2.2)] else [])).map Row.d),.sh r.d,.sh (.int W)])) ?_ λq hq=>?_
    .rw [a2U,c9 r]
     walk_at "vc"
     refine ⟨λh=>?_,λh=>?_⟩
     .rw [if_pos h]
      refine ⟨by rw [bB,nk];ext dQ NG,?_⟩
      rw [<-Ea,fX (l₂:=[(X0 R+T+1,X0 R+T+W,P0 R+C+r.2.2.2,r.2.2.2)])]
      rfl
     .rw [if_neg h,nT]
    subst hq
    rw [c9 r]
    walk_at "vc"
    rw [show X0 R+(T+W)=X0 R+T+W by ext,show P0 R+(C+r.2.2.2*W)=P0 R+C+r.2.2.2*W by ext]
    exact ⟨hm,_,_,rfl⟩
   .obtain ⟨x4,x5,rfl⟩:=hI
    walk_at "v1"
    rw [Pd,OW (by rfl)]
    walk_at "v1"
    rw [ef]
    walk_at "vc"
   .show _=[_,Sl.sh (D.int (X0 R+0)),Sl.sh (D.int (P0 R+0)),Sl.ow [Row.d (X0 R,X0 R,P0 R,0)],_,_]
    rw [DO,DO]
    rfl
  .obtain ⟨x0,rfl⟩:=he
   rw [c9]
   walk_at "vc"
   exact ⟨_,rfl⟩
 .obtain ⟨x0,rfl⟩:=he
  rw [c9]
  walk_at "vc"
  exact ⟨_,rfl⟩
theorem yR{r:Row}(h:PB r){y:Int}(h1:r.1<=y)(h2:y<=r.2.1):-(10^130)<=r.at y/\r.at y<=10^130:=by
 unfold PB at h
 unfold Row.at at *
 by_cases hs:0<=r.2.2.2
 .have:=oI hs (show 0<=y-r.1 by ext h1)
  have:=oI hs (show 0<=r.2.1-y by ext h2)
  simp only [AS] at *
  omega
 .have:=oI (show 0 <= -r.2.2.2 by ext hs) (show 0<=y-r.1 by ext h1)
  have:=oI (show 0 <= -r.2.2.2 by ext hs) (show 0<=r.2.1-y by ext h2)
  simp only [Int.neg_mul,AS] at *
  omega
theorem JN:∀{R:List Row},(∀r∈R,PB r)->∀{x c:Int},Sh (one R) x c->(-(R.length*10^60)<=x/\x<=R.length*10^60)/\(-(R.length*10^130)<=c/\c<=R.length*10^130)
 | [],_,x,c,h=>by
  obtain ⟨rfl,rfl⟩:=h
  simp
 | r::R,hb,x,c,⟨y,cy,z,cz,⟨q,hq,k1,k2,k3⟩,h,e1,e2⟩=>by
  have i:=JN (λq hq=>hb q (bW _ hq)) h
  have hr:=hb r (bK ..)
  rw [bU.mp hq] at k1 k2 k3
  have a:=yR hr k1 k2
  unfold PB at hr
  rw [nk]
  omega
theorem b6n{R:List Row}(h:∀r∈R,PB r)(h6:R.length<=6){ro:Bool}:∃fs:List Row,vU [.lst ro (R.map Row.d)]=some (.sh (.tup (fs.map Row.d)))/\Canon fs/\fs.length<=R.length+1/\(∀x c,look fs x=some c↔Jn (one R) x c)/\∀x c,Sh (one R) x c->∃m,Jn (one R) x m:=by
 obtain ⟨fs,ef,LD⟩:=b8x h h6 (ro:=ro)
 have hs:∀r∈e9 R,PB r:=λr hr=>h r ((B2 R).mem_iff.mp hr)
 have hS:=PB.sw hs
 have kG:(e9 R).length=R.length:=(B2 R).length_eq
 have lst:∀{t k:Int},St ((e9 R).map pk) t k->fl ((e9 R).map pk) t<=k:=λ{t k} hk=>by
  by_cases bP:(e9 R).map pk=[]
  .rw [bP] at hk ⊢
   obtain ⟨_,rfl⟩:=hk
   exact cU _
  .exact hk.least bP hS.wd (b7E R)
 have hp:((e9 R).map pk).Perm (R.map pk):=(B2 R).map pk
 have j:∀x c,Jn (one R) x c↔X0 R<=x/\x<=X0 R+tw ((e9 R).map pk)/\c=P0 R+fl ((e9 R).map pk) (x-X0 R):=λx c=>by
  constructor
  .rintro ⟨k,m⟩
   have k':=(fN.mp k).perm hp.symm
   have d:=k'.mq
   have f:=St.fl hS.wd d.1 d.2
   have:=m (P0 R+fl ((e9 R).map pk) (x-X0 R)) (fN.mpr (by rw [show P0 R+fl ((e9 R).map pk) (x-X0 R)-P0 R=fl ((e9 R).map pk) (x-X0 R) by ext];exact f.perm hp))
   have:=lst k'
   exact ⟨by ext d,by ext d,by lia⟩
  .rintro ⟨k1,k2,rfl⟩
   refine ⟨fN.mpr (by rw [show P0 R+fl ((e9 R).map pk) (x-X0 R)-P0 R=fl ((e9 R).map pk) (x-X0 R) by ext];exact (St.fl hS.wd (by ext k1) (by ext k2)).perm hp),λc' k=>?_⟩
   have:=lst ((fN.mp k).perm hp.symm)
   ext this
 refine ⟨fs,ef,LD.canon,?_,λx c=>?_,λx c k=>?_⟩
 .have:=LD.len
  have l2:=EU ((e9 R).map pk) (X0 R) (P0 R)
  rw [bB] at l2
  have l3:(sN ((e9 R).map pk) (X0 R) (P0 R)).length=(mk ((e9 R).map pk) (X0 R) (P0 R)).length+1:=rfl
  ext kG this l2 l3
 .rw [xu LD.canon.gD,LD.val,b5W hS.wd,j]
 .have d:=((fN.mp k).perm hp.symm).mq
  exact ⟨_,(j x _).mpr ⟨by ext d,by ext d,rfl⟩⟩
theorem Bt{i:Nat}{m n:Int}{f:En->Option Sl}{env:En}{Q:Fl×En->Prop}(e1:env[i]?=some (.sh (.int m)))(e2:f env=some (.sh (.int n)))(hc:lD m n)(h:Q (.nx,env.set i (.sh (.int (m*n))))):Wo (EI i f env) Q:=
 ⟨_,by unfold EI wX;rw [e1];dsimp only;rw [e2];dsimp only;rw [if_pos hc],h⟩
noncomputable def eM(R:List Row):D:=.lst false (R.map Row.d)
noncomputable def gj(F:List Row):D:=.tup (F.map Row.d)
noncomputable def np(Fs:List (List Row)):Nat:=(Fs.map tG).foldl (·*·) 1
theorem Qa(Fs:List (List Row))(F:List Row):np (Fs++[F])=np Fs*F.length:=by
 unfold np;rw [fX,DX];rfl
theorem Kz{Fs:List (List Row)}(h:∀F∈Fs,F.length<=900000){ro:Bool}:xP [.lst ro (Fs.map gj)]=some (.sh (.int (np Fs))):=by
 refine Wo.eq (f'.mpr ?_)
 unfold ML
 walk_at "v1"
 refine nE gj (λpre env=>∃x2,env=[.sh (.lst ro (Fs.map gj)),.sh (.int (np pre)),x2]) Fs (λpre F post env e hI=>?_) (λenv hI=>?_) ⟨_,rfl⟩
 .obtain ⟨x2,rfl⟩:=hI
  have hF:=h F (by rw [e];simp)
  rw [show gj F=.tup (F.map Row.d) from rfl]
  walk_at "v1"
  refine Bt (m:=np pre) (n:=F.length) rfl (by show some (Sl.sh (.int ((F.map Row.d).length:Int)))=_;rw [bB]) (.inr ⟨by ext,by ext hF⟩) ?_
  rw [Qa,Int.natCast_mul]
  exact ⟨_,rfl⟩
 .obtain ⟨x2,rfl⟩:=hI
  walk_at "vc"
noncomputable def nI(W:List (List Row))(F:List Row):List (List Row):=W.flatMap λR=>F.map λr=>R++[r]
noncomputable def ft(Fs:List (List Row)):List (List Row):=Fs.foldl nI [[]]
theorem b20(Fs:List (List Row))(F:List Row):ft (Fs++[F])=nI (ft Fs) F:=by
 unfold ft;rw [DX];rfl
theorem b21(W:List (List Row))(R F:List Row):nI (W++[R]) F=nI W F++F.map λr=>R++[r]:=by
 unfold nI
 rw [Ob]
 simp
theorem BO(F:List Row):∀W:List (List Row),(nI W F).length=W.length*F.length
 | []=>by unfold nI;simp
 | R::W=>by
  have:=BO F W
  unfold nI at *
  rw [DW,dC,this,bB,nk,Nat.add_mul]
  ext
theorem Pw:∀{Fs:List (List Row)} {W:List (List Row)} {R:List Row},R∈Fs.foldl nI W↔∃A∈W,∃B∈prod Fs,R=A++B
 | [],W,R=>by
  unfold prod
  simp
 | F::Fs,W,R=>by
  rw [rO,Pw]
  constructor
  .rintro ⟨A,hA,B,hB,rfl⟩
   obtain ⟨C,hC,hA⟩:=qv.mp hA
   obtain ⟨r,hr,rfl⟩:=dz.mp hA
   exact ⟨C,hC,r::B,qv.mpr ⟨r,hr,dz.mpr ⟨B,hB,rfl⟩⟩,by simp⟩
  .rintro ⟨A,hA,B,hB,rfl⟩
   obtain ⟨r,hr,hB⟩:=qv.mp hB
   obtain ⟨C,hC,rfl⟩:=dz.mp hB
   exact ⟨A++[r],qv.mpr ⟨A,hA,dz.mpr ⟨r,hr,rfl⟩⟩,C,hC,by simp⟩
theorem bL{Fs:List (List Row)}{R:List Row}:R∈ft Fs↔R∈prod Fs:=by
 unfold ft
 rw [Pw]
 constructor
 .rintro ⟨A,hA,B,hB,rfl⟩
  rw [bU.mp hA]
  exact hB
 .intro h
  exact ⟨[],bU.mpr rfl,R,h,rfl⟩
theorem Lp:∀(l:List Nat) (a:Nat),l.foldl (·*·) a=a*l.foldl (·*·) 1
 | [],a=>by simp
 | x::l,a=>by
  rw [rO,rO,Lp l (a*x),Lp l (1*x),Nat.one_mul,DD]
theorem BD(A B:List (List Row)):np (A++B)=np A*np B:=by
 unfold np
 rw [fX,DX,Lp]
theorem QW{Fs:List (List Row)}(pE:Fs.length<=100)(hp:np Fs<=100)(h0:np Fs≠0){ro:Bool}:r6 [.lst ro (Fs.map gj)]=some (.sh (.lst false ((ft Fs).map eM)))/\(ft Fs).length=np Fs:=by
 have o9:∀{pre post:List (List Row)},Fs=pre++post->np pre<=100/\np pre≠0:=λ{pre post} e=>by
  rw [e,BD] at hp h0
  have a:np pre≠0:=λz=>h0 (by rw [z,Nat.zero_mul])
  have b:np post≠0:=λz=>h0 (by rw [z,Nat.mul_zero])
  exact ⟨fg (Nat.le_mul_of_pos_right _ (by ext b)) hp,a⟩
 have one_le:∀{pre post:List (List Row)} {F:List Row},Fs=pre++F::post->np pre*F.length<=100/\F.length<=100:=λ{pre post F} e=>by
  have e':Fs=(pre++[F])++post:=by rw [e];simp
  have k:=o9 e'
  rw [Qa] at k
  refine ⟨k.1,fg (Nat.le_mul_of_pos_left _ ?_) k.1⟩
  have:=(o9 e).2
  ext this
 have hlen:∀F∈Fs,F.length<=900000:=λF hF=>by
  obtain ⟨pre,post,e⟩:=N5 hF
  have:=(one_le e).2
  ext this
 have pl:∀{pre post:List (List Row)},Fs=pre++post->(ft pre).length=np pre:=λ{pre}=>by
  intro post _
  have key:∀(l:List (List Row)) (W:List (List Row)),(l.foldl nI W).length=W.length*np l:=λl=>by
   induction l with
   | nil=>intro W;unfold np;simp
   | cons F l ih =>
    intro W
    rw [rO,ih,BO,DD,show F::l=[F]++l from rfl,BD,show np [F]=F.length by unfold np;simp]
  unfold ft
  rw [key]
  simp
 have em:=Kz hlen (ro:=ro)
 refine ⟨?_,pl (pre:=Fs) (post:=[]) (by simp)⟩
 refine Wo.eq (jO.mpr ?_)
 unfold BP
 walk_at "v1"
 refine mF ?_ ?_
 .walk_at "vc"
  rw [em]
  walk_at "vc"
  ext hp
 walk_at "v1"
 refine mF ?_ ?_
 .walk_at "vc"
  rw [em]
  walk_at "vc"
  ext h0
 walk_at "v1"
 refine nE gj (λpre env=>∃x2 x3 x4,env=[.sh (.lst ro (Fs.map gj)),.sh (.lst false ((ft pre).map eM)),x2,x3,x4]) Fs (λpre F post env e hI=>?_) (λenv hI=>?_) ⟨_,_,_,rfl⟩
 .obtain ⟨x2,x3,x4,rfl⟩:=hI
  have k1:=one_le e
  have k2:=pl e
  rw [show gj F=.tup (F.map Row.d) from rfl]
  walk_at "v1"
  refine nE eM (λW env=>∃x4,env=[.sh (.lst ro (Fs.map gj)),.sh (.lst false ((ft pre).map eM)),.sh (.tup (F.map Row.d)),.ow ((nI W F).map eM),x4]) (ft pre) (λW R mQ env e' h=>?_) (λenv h=>?_) ⟨_,rfl⟩
  .obtain ⟨x4,rfl⟩:=h
   have hW:=BO F W
   have XW:W.length<=np pre:=by rw [<-k2,e',dC];ext
   have XU:W.length*F.length<=np pre*F.length:=Nat.mul_le_mul_right _ XW
   rw [show eM R=.lst false (R.map Row.d) from rfl]
   walk_at "v1"
   rw [nF Row.d (λr=>eM (R++[r])) (λe=>∃x0,e=[x0,.sh (.lst false (R.map Row.d))]) F (λr hr e he=>?_) ⟨_,rfl⟩]
   .rw [bB,a0g]
    walk_at "v1"
    refine ⟨by ext k1,by rw [bB,bB,hW];ext k1 XU,_,by rw [b21,fX,dS];rfl⟩
   .obtain ⟨x0,rfl⟩:=he
    walk_at "vc"
    have hR:R.length=pre.length:=(xw (bL.mp (by rw [e'];simp))).1
    have:=congrArg tG e
    rw [dC] at this
    refine ⟨⟨_,rfl⟩,by rw [bB];lia,?_⟩
    unfold eM
    rw [fX]
    rfl
  .obtain ⟨x4,rfl⟩:=h
   rw [a5C,Pd,OW (by rfl)]
   walk_at "vc"
   rw [<-b20]
   exact ⟨_,_,_,rfl⟩
 .obtain ⟨x2,x3,x4,rfl⟩:=hI
  walk_at "vc"
theorem FV.pb{f:List Row}(h:FV (10^60) (10^130) f):∀r∈f,PB r:=λr hr=>by
 have k:=Ql h.canon (by decide) h.bd r hr
 have o:=h.canon.gD.1 r hr
 have v:=(h.bd r.2.1 _ (pU h.canon.gD hr o (cU _))).2
 unfold PB
 ext k o v
theorem b78:vW [.lst false []]=some (.sh (.tup [])):=by
 refine Wo.eq (eO.mpr ?_)
 unfold Mz
 walk_at "vc"
 exact λz=>nomatch z
theorem b17{Fs:List (List Row)}{K n m:Nat}(h4:Fs.length<=4)(hK:Fs.length+1<=K)(hF:∀F∈Fs,FV (10^60) (10^130) F)(hlen:∀F∈Fs,F.length<=900000)(hp:np Fs<=n)(hn:n<=100)(LO:CJ vW K n m){ro:Bool}:
  ∃f:List Row,xy [.lst ro (Fs.map gj)]=some (.sh (.tup (f.map Row.d)))/\Canon f/\f.length<=m/\(∀x c,look f x=some c↔Jn Fs x c)/\∀x c,Sh Fs x c->∃m,Jn Fs x m:=by
 have uu:∀R:List Row,∃f:List Row,(R.length<=6/\∀r∈R,PB r)->vU [.lst false (R.map Row.d)]=some (.sh (.tup (f.map Row.d)))/\Canon f/\f.length<=R.length+1/\(∀x c,look f x=some c↔Jn (one R) x c)/\∀x c,Sh (one R) x c->∃m,Jn (one R) x m:=λR=>by
  by_cases h:R.length<=6/\∀r∈R,PB r
  .obtain ⟨f,e⟩:=b6n h.2 h.1 (ro:=false)
   exact ⟨f,λ_=>e⟩
  .exact ⟨[],λz=>absurd z h⟩
 obtain ⟨ff,Ac⟩:=Jq uu
 have hR:∀R∈prod Fs,(R.length<=6/\∀r∈R,PB r)/\R.length=Fs.length:=λR hR=>by
  obtain ⟨l,k⟩:=xw hR
  exact ⟨⟨by ext h4 l,λr hr=>by obtain ⟨F,Ao,mY⟩:=k r hr;exact (hF F Ao).pb r mY⟩,l⟩
 have wrap:∀{f:List Row},Cy [.lst ro (Fs.map gj)]=some (.sh (.tup (f.map Row.d)))->xy [.lst ro (Fs.map gj)]=some (.sh (.tup (f.map Row.d))):=λ{f} e=>by
  refine Wo.eq (qa.mpr ?_)
  unfold KU
  walk_at "v1"
  rw [e]
  walk_at "vc"
 have Yd:∀x c,Sh Fs x c->∃R∈prod Fs,∃v,look (ff R) x=some v:=λx c h=>by
  obtain ⟨R,gi,k⟩:=bz.mp h
  obtain ⟨_,_,_,e4,e5⟩:=Ac R (hR R gi).1
  obtain ⟨v,hv⟩:=e5 x c k
  exact ⟨R,gi,v,(e4 x v).mpr hv⟩
 by_cases h0:np Fs=0
 .have em:=Kz hlen (ro:=ro)
  rw [h0] at em
  have none_:∀R,R∉prod Fs:=λR gi=>by
   have key:∀(l:List (List Row)) (W:List (List Row)),(l.foldl nI W).length=W.length*np l:=λl=>by
    induction l with
    | nil=>intro W;unfold np;simp
    | cons F l ih =>
     intro W
     rw [rO,ih,BO,DD,show F::l=[F]++l from rfl,BD,show np [F]=F.length by unfold np;simp]
   have h1:=key Fs [[]]
   rw [h0,Nat.mul_zero] at h1
   have h2:=bL.mpr gi
   unfold ft at h2
   rw [Bb.mp h1] at h2
   cases h2
  have y2:∀x c,¬Sh Fs x c:=λx c h=>by obtain ⟨R,gi,_⟩:=bz.mp h;exact none_ R gi
  refine ⟨[],wrap ?_,⟨λr z=>(nomatch z),trivial⟩,nv _,λx c=>⟨λz=>(nomatch z),λz=>absurd z.1 (y2 x c)⟩,λx c h=>absurd h (y2 x c)⟩
  refine Wo.eq (d9.mpr ?_)
  unfold FU
  walk_at "v1"
  have ep:r6 [.lst ro (Fs.map gj)]=some (.ow []):=by
   refine Wo.eq (jO.mpr ?_)
   unfold BP
   walk_at "v1"
   refine mF ?_ ?_
   .walk_at "vc"
    rw [em]
    walk_at "vc"
   walk_at "v1"
   rw [a2U]
   walk_at "vc"
   rw [em]
   walk_at "vc"
  rw [ep]
  walk_at "vc"
  rw [b78]
  walk_at "vc"
  rfl
 .obtain ⟨ep,dQ⟩:=QW (ro:=ro) (by ext h4) (by ext hp hn) h0
  have bP:(ft Fs).map ff≠[]:=JF (by rw [bB,dQ];ext h0)
  have X2:∀f∈(ft Fs).map ff,FV (4*10^60) (4*10^130) f/\f.length<=K:=λf hf=>by
   obtain ⟨R,gi,rfl⟩:=dz.mp hf
   have gi:=bL.mp gi
   obtain ⟨k,l⟩:=hR R gi
   obtain ⟨_,e2,e3,e4,_⟩:=Ac R k
   refine ⟨⟨e2,λx c h=>?_⟩,by ext hK l e3⟩
   have b:=JN k.2 ((e4 x c).mp h).1
   have sR:R.length<=4:=by ext h4 l
   lia
  obtain ⟨fs,e,c,mf,lf⟩:=LO (V:=4*10^60) (C:=4*10^130) (r:=false) (by decide) (by decide) X2 bP (by rw [bB,dQ];exact hp)
  have Nk:∀x v,look fs x=some v↔(∃R∈prod Fs,look (ff R) x=some v)/\∀R∈prod Fs,∀w,look (ff R) x=some w->v<=w:=λx v=>by
   rw [mf x v]
   constructor
   .rintro ⟨⟨g,hg,e⟩,k⟩
    obtain ⟨R,gi,rfl⟩:=dz.mp hg
    exact ⟨⟨R,bL.mp gi,e⟩,λS hS w hw=>k _ (dz.mpr ⟨S,bL.mpr hS,rfl⟩) w hw⟩
   .rintro ⟨⟨R,gi,e⟩,k⟩
    refine ⟨⟨ff R,dz.mpr ⟨R,bL.mpr gi,rfl⟩,e⟩,λg hg w hw=>?_⟩
    obtain ⟨S,hS,rfl⟩:=dz.mp hg
    exact k S (bL.mp hS) w hw
  have jj:=b55 (φ:=ff) (f:=fs) (λR gi=>(Ac R (hR R gi).1).2.2.2.1) (λR gi=>(Ac R (hR R gi).1).2.2.2.2) Nk
  refine ⟨fs,wrap ?_,c,lf,jj,λx v h=>?_⟩
  .refine Wo.eq (d9.mpr ?_)
   unfold FU
   walk_at "v1"
   rw [ep]
   walk_at "v1"
   rw [nF eM (λR=>.tup ((ff R).map Row.d)) (λe=>∃x0,e=[x0]) (ft Fs) (λR gi e he=>?_) ⟨_,rfl⟩]
   .walk_at "v1"
    rw [dS] at e
    rw [bB,dQ]
    refine ⟨by ext hp hn,?_⟩
    rw [show (λR=>D.tup ((ff R).map Row.d))=(λf:List Row=>D.tup (f.map Row.d))∘ff from rfl,e]
    walk_at "vc"
   .obtain ⟨x0,rfl⟩:=he
    rw [show eM R=.lst false (R.map Row.d) from rfl]
    walk_at "vc"
    rw [(Ac R (hR R (bL.mp gi)).1).1]
    walk_at "vc"
    exact ⟨_,rfl⟩
  .-- sE least over sE picks is there
   have key:∀(l:List (List Row)),(∃R∈l,∃v,look (ff R) x=some v)->∃v,(∃R∈l,look (ff R) x=some v)/\∀R∈l,∀w,look (ff R) x=some w->v<=w:=λl=>by
    induction l with
    | nil=>rintro ⟨R,z,_⟩;cases z
    | cons S l ih =>
     rintro ⟨R,gi,v,e⟩
     by_cases hl:∃R∈l,∃v,look (ff R) x=some v
     .obtain ⟨v,⟨T,hT,eT⟩,k⟩:=ih hl
      cases hS:look (ff S) x with
      | none=>exact ⟨v,⟨T,bW _ hT,eT⟩,λQ hQ w hw=>by
        rcases bH.mp hQ with rfl | hQ
        .rw [hS] at hw;cases hw
        .exact k Q hQ w hw⟩
      | some u =>
       by_cases zF:u<=v
       .exact ⟨u,⟨S,bK ..,hS⟩,λQ hQ w hw=>by
         rcases bH.mp hQ with rfl | hQ
         .rw [hS] at hw;cases hw;exact cU _
         .have:=k Q hQ w hw;ext zF this⟩
       .exact ⟨v,⟨T,bW _ hT,eT⟩,λQ hQ w hw=>by
         rcases bH.mp hQ with rfl | hQ
         .rw [hS] at hw;cases hw;ext zF
         .exact k Q hQ w hw⟩
     .rcases bH.mp gi with rfl | gi
      .exact ⟨v,⟨R,bK ..,e⟩,λQ hQ w hw=>by
        rcases bH.mp hQ with rfl | hQ
        .rw [e] at hw;cases hw;exact cU _
        .exact absurd ⟨Q,hQ,w,hw⟩ hl⟩
      .exact absurd ⟨R,gi,v,e⟩ hl
   obtain ⟨w,hw⟩:=key (prod Fs) (Yd x v h)
   exact ⟨w,(jj x w).mp ((Nk x w).mpr hw)⟩
def gg(r:Row)(y:Int):Prop:=r.1<=y/\y<=r.2.1
def Conv(r s:Row)(x c:Int):Prop:=(∃y z,gg r y/\gg s z/\y+z=x/\c=r.at y+s.at z)/\∀y z,gg r y->gg s z->y+z=x->c<=r.at y+s.at z
theorem Conv.sym{r s:Row}{x c:Int}(h:Conv r s x c):Conv s r x c:=by
 obtain ⟨⟨y,z,hy,hz,e,k⟩,m⟩:=h
 exact ⟨⟨z,y,hz,hy,by ext e,by ext k⟩,λy z hy hz e=>by have:=m z y hz hy (by ext e);ext this⟩
theorem Conv.mq{r s:Row}{x c:Int}(h:Conv r s x c):r.1+s.1<=x/\x<=r.2.1+s.2.1:=by
 obtain ⟨⟨y,z,hy,hz,e,k⟩,m⟩:=h
 unfold gg at hy hz
 ext hy hz e
theorem P6{u v:Row}(h:u.2.2.2<=v.2.2.2){x i j:Int}(hi:0<=i/\i<=u.2.1-u.1)(hj:0<=j/\j<=v.2.1-v.1)(e:x=u.1+v.1+i+j)(hl:i=u.2.1-u.1\/j=0):Conv u v x (u.2.2.1+v.2.2.1+u.2.2.2*i+v.2.2.2*j):=by
 refine ⟨⟨u.1+i,v.1+j,by unfold gg;ext hi,by unfold gg;ext hj,by ext e,by unfold Row.at;rw [show u.1+i-u.1=i by ext,show v.1+j-v.1=j by ext];ext⟩,λy z hy hz k=>?_⟩
 unfold gg at hy hz
 unfold Row.at
 have:=oI (show 0<=v.2.2.2-u.2.2.2 by ext h) (show 0<=i-(y-u.1) by ext e hl hy hz k)
 have e2:z-v.1=j+(i-(y-u.1)):=by ext e k
 rw [e2]
 generalize y-u.1=q at *
 grind
theorem Conv.ex{u v:Row}(hu:u.1<=u.2.1)(hv:v.1<=v.2.1){x:Int}(h1:u.1+v.1<=x)(h2:x<=u.2.1+v.2.1):∃c,Conv u v x c:=by
 have key:∀{u v:Row},u.1<=u.2.1->v.1<=v.2.1->u.2.2.2<=v.2.2.2->u.1+v.1<=x->x<=u.2.1+v.2.1->∃c,Conv u v x c:=λ{u v} hu hv hs h1 h2=>by
  by_cases c:x-(u.1+v.1)<=u.2.1-u.1
  .exact ⟨_,P6 hs (i:=x-(u.1+v.1)) (j:=0) (by ext h1 c) (by ext hv) (by ext) (.inr rfl)⟩
  .exact ⟨_,P6 hs (i:=u.2.1-u.1) (j:=x-(u.1+v.1)-(u.2.1-u.1)) (by ext hu) (by ext h2 c) (by ext) (.inl rfl)⟩
 by_cases hs:u.2.2.2<=v.2.2.2
 .exact key hu hv hs h1 h2
 .obtain ⟨c,h⟩:=key hv hu (by ext hs) (by ext h1) (by ext h2)
  exact ⟨c,h.sym⟩
def MQ(A B:List Row)(x c:Int):Prop:=(∃y z cy cz,Val A y cy/\Val B z cz/\y+z=x/\c=cy+cz)/\∀y z cy cz,Val A y cy->Val B z cz->y+z=x->c<=cy+cz
theorem MQ.sym{A B:List Row}{x c:Int}(h:MQ A B x c):MQ B A x c:=by
 obtain ⟨⟨y,z,cy,cz,hy,hz,e,k⟩,m⟩:=h
 exact ⟨⟨z,y,cz,cy,hz,hy,by ext e,by ext k⟩,λy z cy cz hy hz e=>by have:=m z y cz cy hz hy (by ext e);ext this⟩
theorem none_of{α:Type}{o:Option α}(h:¬Wo o λ_=>True):o=none:=by
 cases o with
 | none=>rfl
 | some a=>exact absurd ⟨a,rfl,trivial⟩ h
noncomputable def dh(rs:List Row)(i:Nat):Row:=rs.getD i (0,0,0,0)
def Pt(l:Int)(r:Row)(y:Int):Prop:=gg r y/\(r.2.2.2<l->y=r.2.1)/\(l<r.2.2.2->y=r.1)
structure Gr(rs:List Row)(x:Int)(pre post:List Nat)(ys:List Int)(left:Int):Prop where
 len:ys.length=rs.length
 rest:∀i∈post,ys.getD i 0=(dh rs i).1
 box:∀i∈pre,gg (dh rs i) (ys.getD i 0)
 nn:0<=left
 sum:ys.sum+left=x
 full:0<left->∀i∈pre,ys.getD i 0=(dh rs i).2.1
 M2:left=0->∃l,(∀i∈pre,Pt l (dh rs i) (ys.getD i 0))/\∀i∈post,l<=(dh rs i).2.2.2
theorem sum_set:∀{ys:List Int} {k:Nat} {m:Int},k<ys.length->(ys.set k (ys.getD k 0+m)).sum=ys.sum+m
 | [],k,m,h=>absurd h (Jc _)
 | y::ys,0,m,_=>by
  show (y+m)+ys.sum=y+ys.sum+m
  ext
 | y::ys,k+1,m,h=>by
  have:=sum_set (ys:=ys) (k:=k) (m:=m) (by simpa using h)
  show y+(ys.set k (ys.getD k 0+m)).sum=y+ys.sum+m
  ext this
theorem Q0{ys:List Int}{k i:Nat}{v:Int}(h:k<ys.length):(ys.set k v).getD i 0=if i=k then v else ys.getD i 0:=by
 rw [vy,D1]
 by_cases c:k=i
 .subst c;simp [h]
 .rw [if_neg c,if_neg (gm c),<-vy]
theorem Gr.next{rs:List Row}{x:Int}{pre post:List Nat}{k:Nat}{ys:List Int}{left:Int}(g:Gr rs x pre (k::post) ys left)(hk:k<rs.length)(hp:k∉pre)(hq:k∉post)(h1:∀i∈pre,(dh rs i).2.2.2<=(dh rs k).2.2.2)(h2:∀j∈post,(dh rs k).2.2.2<=(dh rs j).2.2.2)(hw:(dh rs k).1<=(dh rs k).2.1):
  Gr rs x (pre++[k]) post (ys.set k (ys.getD k 0+min left ((dh rs k).2.1-(dh rs k).1))) (left-min left ((dh rs k).2.1-(dh rs k).1)):=by
 have hl:k<ys.length:=by rw [g.len];exact hk
 have e0:=g.rest k (bK ..)
 have nn:=g.nn
 have ek:∀i,i≠k->(ys.set k (ys.getD k 0+min left ((dh rs k).2.1-(dh rs k).1))).getD i 0=ys.getD i 0:=λi hi=>by rw [Q0 hl,if_neg hi]
 have Dx:(ys.set k (ys.getD k 0+min left ((dh rs k).2.1-(dh rs k).1))).getD k 0=(dh rs k).1+min left ((dh rs k).2.1-(dh rs k).1):=by rw [Q0 hl,if_pos rfl,e0]
 have np:∀i∈pre,i≠k:=λi hi z=>hp (z▸hi)
 have nq:∀i∈post,i≠k:=λi hi z=>hq (z▸hi)
 refine ⟨by rw [Jg];exact g.len,λi hi=>by rw [ek i (nq i hi)];exact g.rest i (bW _ hi),λi hi=>?_,by ext,by rw [sum_set hl];have:=g.sum;ext this,λq0 i hi=>?_,λhz=>?_⟩
 .rcases bT.mp hi with hi | hi
  .rw [ek i (np i hi)];exact g.box i hi
  .rw [bU.mp hi,Dx]
   unfold gg
   ext hw nn
 .rcases bT.mp hi with hi | hi
  .rw [ek i (np i hi)];exact g.full (by ext hw q0) i hi
  .rw [bU.mp hi,Dx]
   ext q0
 .by_cases hL:left=0
  .obtain ⟨l,t1,t2⟩:=g.M2 hL
   refine ⟨l,λi hi=>?_,λi hi=>t2 i (bW _ hi)⟩
   rcases bT.mp hi with hi | hi
   .rw [ek i (np i hi)];exact t1 i hi
   .rw [bU.mp hi,Dx]
    have:=t2 k (bK ..)
    unfold Pt gg
    ext hz hL this
  .refine ⟨(dh rs k).2.2.2,λi hi=>?_,h2⟩
   rcases bT.mp hi with hi | hi
   .rw [ek i (np i hi)]
    have:=g.full (by ext nn hL) i hi
    have:=h1 i hi
    have:=g.box i hi
    unfold Pt
    exact ⟨g.box i hi,λ_=>g.full (by ext nn hL) i hi,λz=>by lia⟩
   .rw [bU.mp hi,Dx]
    unfold Pt gg
    ext nn hz
theorem RD(f:Nat->Int):∀(os:List Nat),∃l,∀i∈os,l<=f i
 | []=>⟨0,λ_ h=>nomatch h⟩
 | i::os=>by
  obtain ⟨l,h⟩:=RD f os
  refine ⟨min l (f i),λj hj=>?_⟩
  rcases bH.mp hj with rfl | hj
  .ext
  .have:=h j hj;ext this
theorem Gr.start{rs:List Row}{x:Int}{os:List Nat}(h:∀i∈os,i<rs.length)(hx:(rs.map λr=>r.1).sum<=x):Gr rs x [] os (rs.map λr=>r.1) (x-(rs.map λr=>r.1).sum):=by
 refine ⟨by simp,λi hi=>?_,λi hi=>(nomatch hi),by ext hx,by ext,λ_ i hi=>(nomatch hi),λ_=>?_⟩
 .have:=h i hi
  unfold dh
  simp [this]
 .obtain ⟨l,hl⟩:=RD (λi=>(dh rs i).2.2.2) os
  exact ⟨l,λi hi=>(nomatch hi),hl⟩
theorem Rp{l:Int}:∀{rs:List Row} {ys:List Int},ys.length=rs.length->(∀i,i<rs.length->Pt l (dh rs i) (ys.getD i 0))->Paired (Pt l) rs ys
 | [],[],_,_=>.nil
 | r::rs,y::ys,hl,h=>.cons (h 0 (by simp)) (Rp (by simpa using hl) λi hi=>h (i+1) (by simpa using hi))
theorem Gr.done{rs:List Row}{x:Int}{os:List Nat}{ys:List Int}{left:Int}(g:Gr rs x os [] ys left)(ho:∀i,i<rs.length->i∈os)(hx:x<=(rs.map λr=>r.2.1).sum):∃l,Paired (Pt l) rs ys/\ys.sum=x:=by
 have hz:left=0:=by
  by_cases hp:0<left
  .have:ys=rs.map λr=>r.2.1:=by
    refine D9 (by rw [g.len];simp) λi h1 h2=>?_
    have hi:i<rs.length:=by rw [<-g.len];exact h1
    have:=g.full hp i (ho i hi)
    unfold dh at this
    simpa [h1,hi] using this
   have hs:=g.sum
   rw [this] at hs
   ext hx hp hs
  .have:=g.nn;ext hp this
 obtain ⟨l,t1,_⟩:=g.M2 hz
 exact ⟨l,Rp g.len λi hi=>t1 i (ho i hi),by have:=g.sum;ext hz this⟩
noncomputable def iy:List Row->List Int->Int
 | r::rs,y::ys=>r.at y+iy rs ys
 | _,_=>0
theorem QK{l:Int}:∀{rs:List Row} {ys zs:List Int},Paired (Pt l) rs ys->Paired gg rs zs->iy rs ys-l*ys.sum<=iy rs zs-l*zs.sum
 | _,_,_,.nil,.nil=>cU _
 | _,_,_,.cons (a:=r) (b:=y) p ps,.cons (b:=z) q qs=>by
  have ih:=QK ps qs
  obtain ⟨⟨b1,b2⟩,p1,p2⟩:=p
  obtain ⟨q1,q2⟩:=q
  have key:r.at y-l*y<=r.at z-l*z:=by
   unfold Row.at
   have h0:0<=(r.2.2.2-l)*(z-y):=by
    by_cases c:r.2.2.2<l
    .have:=p1 c
     exact Int.mul_nonneg_of_nonpos_of_nonpos (by ext c) (by ext q2 this)
    .by_cases d:l<r.2.2.2
     .have:=p2 d
      exact oI (by ext d) (by ext q1 this)
     .have:r.2.2.2-l=0:=by ext c d
      rw [this,Int.zero_mul]
      exact cU _
   grind
  simp only [tE,iy,Int.mul_add]
  ext ih key
theorem b1S{l x:Int}{rs:List Row}{ys zs:List Int}(h:Paired (Pt l) rs ys)(hs:ys.sum=x)(h':Paired gg rs zs)(md:zs.sum=x):iy rs ys<=iy rs zs:=by
 have:=QK h h'
 rw [hs,md] at this
 ext this
theorem Br{i:Nat}{m n:Int}{f:En->Option Sl}{env:En}{Q:Fl×En->Prop}(e1:env[i]?=some (.sh (.int m)))(e2:f env=some (.sh (.int n)))(h:Q (.nx,env.set i (.sh (.int (m-n))))):Wo (EJ i f env) Q:=
 ⟨_,by unfold EJ wX;rw [e1];dsimp only;rw [e2];dsimp only;rw [if_pos trivial],h⟩
noncomputable def um(kz:List Int)(n:Nat):List Nat:=if n<2 then eH n else KS.ord (λi=>kz.getD i 0) n
theorem b3c(kz:List Int)(n:Nat):(um kz n).Perm (eH n):=by
 unfold um
 split
 .exact AY _
 .exact (KS.cG _ n (by lia)).1
theorem b71(kz:List Int)(n:Nat):(um kz n).Pairwise λi j=>kz.getD i 0<=kz.getD j 0:=by
 unfold um
 split
 .rename_i h
  match n,h with
  | 0,_=>exact .nil
  | 1,_=>exact rF _ _
 .exact (KS.cG _ n (by omega)).2
theorem yU(kz:List Int)(n:Nat):bA kz D.aR (bD 0 n)=(um kz n).map λ(i:Nat)=>D.int i:=by
 have hl:(bD 0 n).length=n:=by unfold bD;simp
 unfold bA um
 rw [hl]
 by_cases h:n<2
 .rw [if_pos h,if_pos h]
  unfold bD
  simp
 .rw [if_neg h,if_neg h]
  refine Eu λi hi=>?_
  have hi:i<n:=oJ.mp ((KS.cG (λi=>kz.getD i 0) n (by ext h)).1.mem_iff.mp hi)
  unfold bD
  simp [hi]
theorem Pe{rs:List Row}{j:Nat}(hj:j<rs.length):eI (rs.map Row.d) (j:Int)=some (Row.d (dh rs j)):=by
 rw [KZ hj]
 unfold dh
 simp [hj]
theorem b6r{rs:List Row}(hl:rs.length<64)(hw:∀r∈rs,r.1<=r.2.1){x:Int}(h1:(rs.map λr=>r.1).sum<=x)(h2:x<=(rs.map λr=>r.2.1).sum){ro:Bool}:∃ys:List Int,xB [.lst ro (rs.map Row.d),.int x]=some (.ow (ys.map D.int))/\∃l,Paired (Pt l) rs ys/\ys.sum=x:=by
 have key:Wo (xB [.lst ro (rs.map Row.d),.int x]) λs=>∃ys:List Int,s=.ow (ys.map D.int)/\∃l,Paired (Pt l) rs ys/\ys.sum=x:=by
  refine sr.mpr ?_
  unfold Kp
  walk_at "v1"
  rw [nF Row.d (λr=>.int r.1) (λe=>∃x0,e=[x0]) rs (λr hr e he=>?_) ⟨_,rfl⟩]
  .rw [show rs.map (λr=>D.int r.1)=(rs.map λr=>r.1).map D.int by rw [dS];rfl]
   walk_at "v1"
   refine ⟨by rw [bB];ext hl,?_⟩
   have hk:∀j,j<rs.length->az (fE (az (bV 1) (eV 0))) (eC (D.int 3)) [.sh (.int (j:Nat)),.sh (.lst ro (rs.map Row.d))]=some (.sh (.int (dh rs j).2.2.2)):=λj hj=>Wo.eq (by
    walk_at "vc"
    rw [Pe hj]
    walk_at "vc"
    rw [c9]
    walk_at "vc")
   rw [b2u (n:=rs.length) (d:=.lst ro (rs.map Row.d)) (kf:=λj=>(dh rs j).2.2.2) (Wo.eq (by walk_at "vc";simp)) rfl hl hk,yU]
   have pm:=b3c ((eH rs.length).map λj=>(dh rs j).2.2.2) rs.length
   have up:=b71 ((eH rs.length).map λj=>(dh rs j).2.2.2) rs.length
   generalize um ((eH rs.length).map λj=>(dh rs j).2.2.2) rs.length=os at *
   have nd:os.Nodup:=pm.nodup_iff.mpr List.nodup_range
   have hm:∀i,i∈os↔i<rs.length:=λi=>by rw [pm.mem_iff,oJ]
   have up:os.Pairwise λi j=>(dh rs i).2.2.2<=(dh rs j).2.2.2:=up.imp_of_mem λ{i j} hi hj h=>by
    simpa [(hm i).mp hi,(hm j).mp hj] using h
   walk_at "v1"
   refine nE (λi:Nat=>D.int i) (λpre env=>∃ys left post x4 x5,os=pre++post/\env=[.sh (.lst ro (rs.map Row.d)),.sh (.int x),.ow (ys.map D.int),.sh (.int left),x4,x5]/\Gr rs x pre post ys left) os (λpre k post env e hI=>?_) (λenv hI=>?_) ⟨_,_,os,_,_,rfl,rfl,Gr.start (λi hi=>(hm i).mp hi) h1⟩
   .obtain ⟨ys,left,mQ,x4,x5,e',rfl,g⟩:=hI
    obtain rfl:mQ=k::post:=Ep (e'.symm.trans e)
    have qh:k<rs.length:=(hm k).mp (by rw [e];simp)
    rw [e] at nd up
    have n1:=DZ.mp nd
    have u1:=gQ.mp up
    have Xg:(dh rs k).1<=(dh rs k).2.1:=by
     unfold dh
     rw [vy,mx qh]
     exact hw _ (nU qh)
    have gn:=g.next qh (λz=>n1.2.2 k z k (bK ..) rfl) (tB.mp n1.2.1).1 (λi hi=>u1.2.2 i hi k (bK ..)) (ir.mp u1.2.1).1 Xg
    walk_at "v1"
    rw [Pe qh]
    walk_at "v1"
    rw [c9]
    walk_at "v1"
    have Xb:(ys.map D.int)[k]?=some (D.int (ys.getD k 0)):=by
     have:k<ys.length:=by rw [g.len];exact qh
     simp [this]
    rw [b4f (n:=k) (m:=ys.getD k 0) (v:=min left ((dh rs k).2.1-(dh rs k).1)) (by rfl) (by rfl) Xb (by rfl),a5C]
    refine Br (by rfl) (by rfl) ?_
    walk_at "v1"
    refine ⟨_,_,post,.sh (.int k),.sh (.int (min left ((dh rs k).2.1-(dh rs k).1))),by rw [e];simp,?_,gn⟩
    simp [List.map_set]
   .obtain ⟨ys,left,mQ,x4,x5,e',rfl,g⟩:=hI
    obtain rfl:mQ=[]:=Ep (e'.symm.trans (nT os).symm)
    walk_at "v1"
    obtain ⟨l,h3,h4⟩:=g.done (λi hi=>(hm i).mpr hi) h2
    exact ⟨ys,rfl,l,h3,h4⟩
  .obtain ⟨x0,rfl⟩:=he
   rw [c9]
   walk_at "vc"
   exact ⟨_,rfl⟩
 obtain ⟨s,e,ys,rfl,h⟩:=key
 exact ⟨ys,e,h⟩
noncomputable def qj(x:List Int):Int:=x.headD 0
theorem fold_min:∀(r:List (List Int)) (m:List Int),m≠[]->(∀x∈r,x≠[])->(r.foldl (λm y=>if HT.lexLt y m then y else m) m)∈m::r/\∀x∈m::r,qj (r.foldl (λm y=>if HT.lexLt y m then y else m) m)<=qj x
 | [],m,_,_=>⟨bU.mpr rfl,λx hx=>by rw [bU.mp hx];exact cU _⟩
 | y::r,m,hm,hr=>by
  have hy:=hr y (bK ..)
  have hd:qj (if HT.lexLt y m then y else m)<=qj y/\qj (if HT.lexLt y m then y else m)<=qj m:=by
   cases y with
   | nil=>exact absurd rfl hy
   | cons a ys =>
    cases m with
    | nil=>exact absurd rfl hm
    | cons b ms =>
     rw [HT.dH]
     show qj (if _ then _ else _)<=a/\qj (if _ then _ else _)<=b
     by_cases c:a=b
     .subst c
      rw [if_pos rfl]
      split<;>exact ⟨cU _,cU _⟩
     .rw [if_neg c]
      by_cases d:a<b
      .rw [if_pos (decide_eq_true d)];show a<=a/\a<=b;ext d
      .rw [if_neg (by simpa using d)];show b<=a/\b<=b;ext d
  obtain ⟨h1,h2⟩:=fold_min r (if HT.lexLt y m then y else m) (by split<;>assumption) λx hx=>hr x (bW _ hx)
  rw [rO]
  refine ⟨?_,λx hx=>?_⟩
  .rcases bH.mp h1 with h1 | h1
   .rw [h1]
    split
    .exact bW _ (bK ..)
    .exact bK ..
   .exact bW _ (bW _ h1)
  .have h0:=h2 _ (bK ..)
   rcases bH.mp hx with rfl | hx
   .ext hd h0
   .rcases bH.mp hx with rfl | hx
    .ext hd h0
    .exact h2 x (bW _ hx)
theorem b5Z{rs:List (List Int)}(hn:rs≠[])(h:∀x∈rs,x≠[]):fQ rs∈rs/\∀x∈rs,qj (fQ rs)<=qj x:=by
 cases rs with
 | nil=>exact absurd rfl hn
 | cons m r=>exact fold_min r m (h m (bK ..)) λx hx=>h x (bW _ hx)
def Reach(rs:List Row)(x:Int):Prop:=(rs.map λr=>r.1).sum<=x/\x<=(rs.map λr=>r.2.1).sum
noncomputable instance (rs:List Row) (x:Int):Decidable (Reach rs x):=by unfold Reach;infer_instance
theorem b13{rs:List Row}(hl:rs.length<64){x:Int}{ro:Bool}:vS [.lst ro (rs.map Row.d),.int x]=some (.sh (.bl (decide (Reach rs x)))):=by
 have c1:∀(x0:Sl),jK (gN 0) jL (az (bV 0) (eC (D.int 0))) (rs.map Row.d) [x0]=some ((rs.map λr=>r.1).map D.int):=λx0=>by
  rw [nF Row.d (λr=>.int r.1) (λe=>∃x0,e=[x0]) rs (λr hr e he=>?_) ⟨_,rfl⟩,dS]
  .rfl
  .obtain ⟨x0,rfl⟩:=he
   rw [c9]
   walk_at "vc"
   exact ⟨_,rfl⟩
 have c2:∀(x0:Sl),jK (gN 0) jL (az (bV 0) (eC (D.int 1))) (rs.map Row.d) [x0]=some ((rs.map λr=>r.2.1).map D.int):=λx0=>by
  rw [nF Row.d (λr=>.int r.2.1) (λe=>∃x0,e=[x0]) rs (λr hr e he=>?_) ⟨_,rfl⟩,dS]
  .rfl
  .obtain ⟨x0,rfl⟩:=he
   rw [c9]
   walk_at "vc"
   exact ⟨_,rfl⟩
 refine Wo.eq (oh.mpr ?_)
 unfold LG
 walk_at "vc"
 rw [b7b]
 walk_at "vc"
 have hz:(rs.map Row.d).length<=16777216:=by rw [bB];ext hl
 refine ⟨hz,?_⟩
 rw [c1,a0g,BY,a0g]
 refine ⟨λh=>⟨hz,?_⟩,λh=>?_⟩
 .rw [c2,a0g,BY,a0g]
  unfold Reach
  simp [h]
 .unfold Reach
  simp [h]
theorem Qw:∀{rs:List Row} {ys:List Int},Paired gg rs ys->gu (rs.map Row.d) (ys.map D.int)=(rs.zip ys).map λp=>.tup [p.1.d,.int p.2]
 | _,_,.nil=>rfl
 | _,_,.cons p ps=>by
  show D.tup [_,_]::gu _ _=D.tup [_,_]::_
  rw [Qw ps]
  rfl
theorem QU:∀{rs:List Row} {ys:List Int},Paired gg rs ys->((rs.zip ys).map λp=>p.1.at p.2).sum=iy rs ys
 | _,_,.nil=>rfl
 | _,_,.cons p ps=>by
  rw [JB,fF,tE,QU ps]
  rfl
theorem L0:∀{rs:List Row} {ys:List Int} {p:Row×Int},Paired gg rs ys->p∈rs.zip ys->p.1∈rs/\gg p.1 p.2
 | _,_,_,.nil,h=>absurd h (by simp)
 | _,_,p,.cons q qs,h=>by
  rw [JB] at h
  rcases bH.mp h with rfl | h
  .exact ⟨bK ..,q⟩
  .exact ⟨bW _ (L0 qs h).1,(L0 qs h).2⟩
theorem FD{l:Int}:∀{rs:List Row} {ys:List Int},Paired (Pt l) rs ys->Paired gg rs ys
 | _,_,.nil=>.nil
 | _,_,.cons p ps=>.cons p.1 (FD ps)
theorem b3X{rs:List Row}(hl:rs.length<64)(hb:∀r∈rs,PB r){x:Int}(hx:Reach rs x){ro:Bool}:∃ys:List Int,r9 [.lst ro (rs.map Row.d),.int x]=some (.sh (.tup [.int (iy rs ys),.lst false (ys.map D.int)]))/\∃l,Paired (Pt l) rs ys/\ys.sum=x:=by
 obtain ⟨ys,ed,l,hp,hs⟩:=b6r hl (λr hr=>(hb r hr).1) hx.1 hx.2 (ro:=ro)
 have hq:=FD hp
 have hly:ys.length=rs.length:=hq.length.symm
 refine ⟨ys,?_,l,hp,hs⟩
 refine Wo.eq (fC.mpr ?_)
 unfold MH
 walk_at "v1"
 rw [ed]
 walk_at "v1"
 rw [Qw hq,nF (λp:Row×Int=>.tup [p.1.d,.int p.2]) (λp=>.int (p.1.at p.2)) (λe=>∃x0 x1,e=[x0,x1]) (rs.zip ys) (λp uJ e he=>?_) ⟨_,_,rfl⟩]
 .rw [show (rs.zip ys).map (λp=>D.int (p.1.at p.2))=((rs.zip ys).map λp=>p.1.at p.2).map D.int by rw [dS];rfl]
  walk_at "v1"
  rw [QU hq]
  refine ⟨?_,?_⟩
  .rw [bB,List.length_zip];ext hl
  .trivial
 .obtain ⟨x0,x1,rfl⟩:=he
  obtain ⟨m1,m2⟩:=L0 hq uJ
  have:=hb _ m1
  unfold PB at this
  unfold gg at m2
  walk_at "vc"
  refine ⟨⟨_,_,rfl⟩,?_⟩
  rw [BK (by ext this) (by ext this) (by ext m2) (by ext m2 this)]
  walk_at "vc"
theorem fo:∀{R:List Row} {x c:Int},Sh (one R) x c↔∃ys:List Int,Paired gg R ys/\ys.sum=x/\iy R ys=c
 | [],x,c=>by
  constructor
  .rintro ⟨rfl,rfl⟩
   exact ⟨[],.nil,rfl,rfl⟩
  .rintro ⟨ys,h,rfl,rfl⟩
   cases h
   exact ⟨rfl,rfl⟩
 | r::R,x,c=>by
  show (∃y cy z cz,Val [r] y cy/\Sh (one R) z cz/\y+z=x/\cy+cz=c)↔_
  constructor
  .rintro ⟨y,cy,z,cz,⟨q,hq,h1,h2,rfl⟩,h,rfl,rfl⟩
   rw [bU.mp hq] at h1 h2 ⊢
   obtain ⟨ys,p,rfl,rfl⟩:=fo.mp h
   exact ⟨y::ys,.cons ⟨h1,h2⟩ p,rfl,rfl⟩
  .rintro ⟨ys,h,rfl,rfl⟩
   cases h with
   | cons a b =>
    rename_i y ys
    exact ⟨y,r.at y,ys.sum,iy R ys,⟨r,bU.mpr rfl,a.1,a.2,rfl⟩,fo.mpr ⟨ys,b,rfl,rfl⟩,rfl,rfl⟩
theorem ME:∀{R:List Row} {ys:List Int},Paired gg R ys->Reach R ys.sum
 | _,_,.nil=>⟨cU _,cU _⟩
 | _,_,.cons (a:=r) (b:=y) a b=>by
  have h:=ME b
  unfold Reach at h ⊢
  unfold gg at a
  simp only [fF,tE]
  ext a h
noncomputable def kn(x:Int)(R:List Row):List Int:=Classical.epsilon λys:List Int=>r9 [.lst false (R.map Row.d),.int x]=some (.sh (.tup [.int (iy R ys),.lst false (ys.map D.int)]))/\∃l,Paired (Pt l) R ys/\ys.sum=x
theorem Ld{x:Int}{R:List Row}(hl:R.length<64)(h:∀r∈R,PB r)(hx:Reach R x):r9 [.lst false (R.map Row.d),.int x]=some (.sh (.tup [.int (iy R (kn x R)),.lst false ((kn x R).map D.int)]))/\∃l,Paired (Pt l) R (kn x R)/\(kn x R).sum=x:=
 Classical.epsilon_spec (b3X hl h hx (ro:=false))
theorem b0H{W:List (List Row)}(hW:∀R∈W,R.length<64/\∀r∈R,PB r)(x:Int):jK (gN 0) (cO (aN 2 vS (af (eV 0) (af (eV 1) ae)))) (aN 2 r9 (af (eV 0) (af (eV 1) ae))) (W.map eM) [.no,.sh (.int x)] =
  some ((W.filter λR=>decide (Reach R x)).map λR=>.tup [.int (iy R (kn x R)),.lst false ((kn x R).map D.int)]):=by
 refine a9j eM (λR=>decide (Reach R x)) _ (λe=>∃x0,e=[x0,.sh (.int x)]) W (λR hR e he=>?_) ⟨_,rfl⟩
 obtain ⟨x0,rfl⟩:=he
 obtain ⟨m1,m2⟩:=hW R hR
 rw [show eM R=.lst false (R.map Row.d) from rfl]
 walk_at "vc"
 refine ⟨⟨_,rfl⟩,?_⟩
 rw [b13 m1]
 walk_at "vc"
 intro h
 rw [(Ld m1 m2 h).1]
 walk_at "vc"
theorem a9p{Fs:List (List Row)}(hW:∀R∈prod Fs,R.length<64/\∀r∈R,PB r){x:Int}(bP:(ft Fs).filter (λR=>decide (Reach R x))≠[]):∃R∈prod Fs,∃ys:List Int,Df (fQ (((ft Fs).filter λR=>decide (Reach R x)).map λR=>iy R (kn x R)::kn x R))=.tup [.int (iy R ys),.lst false (ys.map D.int)]/\Paired gg R ys/\ys.sum=x/\Jn Fs x (iy R ys):=by
 have mem:∀R,R∈(ft Fs).filter (λR=>decide (Reach R x))↔R∈prod Fs/\Reach R x:=λR=>by rw [D8,bL,decide_eq_true_iff]
 obtain ⟨h1,h2⟩:=b5Z (rs:=((ft Fs).filter λR=>decide (Reach R x)).map λR=>iy R (kn x R)::kn x R) (by simpa using bP) λz hz=>by
  obtain ⟨p,_,rfl⟩:=dz.mp hz
  exact λz=>nomatch z
 generalize fQ (((ft Fs).filter λR=>decide (Reach R x)).map λR=>iy R (kn x R)::kn x R)=m at *
 obtain ⟨R,hR,rfl⟩:=dz.mp h1
 obtain ⟨mR,rR⟩:=(mem R).mp hR
 obtain ⟨_,l,q1,q2⟩:=Ld (hW R mR).1 (hW R mR).2 rR
 refine ⟨R,mR,kn x R,rfl,FD q1,q2,bz.mpr ⟨R,mR,fo.mpr ⟨_,FD q1,q2,rfl⟩⟩,λc' hc=>?_⟩
 obtain ⟨S,mS,hS⟩:=bz.mp hc
 obtain ⟨zs,p,e1,rfl⟩:=fo.mp hS
 have rS:Reach S x:=by rw [<-e1];exact ME p
 obtain ⟨_,l',t1,t2⟩:=Ld (hW S mS).1 (hW S mS).2 rS
 have:=h2 _ (dz.mpr ⟨S,(mem S).mpr ⟨mS,rS⟩,rfl⟩)
 exact IQ this (b1S t1 t2 p e1)
theorem b3S{Fs:List (List Row)}(h:∀F∈Fs,F.length<=900000)(h0:np Fs=0){ro:Bool}:r6 [.lst ro (Fs.map gj)]=some (.ow []):=by
 have em:=Kz h (ro:=ro)
 rw [h0] at em
 refine Wo.eq (jO.mpr ?_)
 unfold BP
 walk_at "v1"
 refine mF ?_ ?_
 .walk_at "vc"
  rw [em]
  walk_at "vc"
 walk_at "v1"
 rw [a2U]
 walk_at "vc"
 rw [em]
 walk_at "vc"
theorem b5z(Fs:List (List Row)):(ft Fs).length=np Fs:=by
 have key:∀(l:List (List Row)) (W:List (List Row)),(l.foldl nI W).length=W.length*np l:=λl=>by
  induction l with
  | nil=>intro W;unfold np;simp
  | cons F l ih =>
   intro W
   rw [rO,ih,BO,DD,show F::l=[F]++l from rfl,BD,show np [F]=F.length by unfold np;simp]
 have:=key Fs [[]]
 unfold ft
 simpa using this
theorem b3W{Fs:List (List Row)}(pE:Fs.length<64)(hF:∀F∈Fs,∀r∈F,PB r)(hlen:∀F∈Fs,F.length<=900000)(hp:np Fs<=100){x:Int}{ro:Bool}:(bg 2 (fZ (eW (aN 1 r6 (af (eV 0) ae))) [1] 1 (gN 0) (cO (aN 2 vS (af (eV 0) (af (eV 1) ae)))) (aN 2 r9 (af (eV 0) (af (eV 1) ae))))) [.sh (.lst ro (Fs.map gj)),.sh (.int x),.no] =
  some (.nx,[.sh (.lst ro (Fs.map gj)),.sh (.int x),.sh (.lst false (((ft Fs).filter λR=>decide (Reach R x)).map λR=>.tup [.int (iy R (kn x R)),.lst false ((kn x R).map D.int)]))]):=by
 refine Wo.eq ?_
 walk_at "v1"
 by_cases h0:np Fs=0
 .rw [b3S hlen h0]
  have:ft Fs=[]:=Bb.mp (by rw [b5z,h0])
  walk_at "v1"
  rw [this]
  rfl
 .obtain ⟨ep,dQ⟩:=QW (Fs:=Fs) (ro:=ro) (by ext pE) hp h0
  rw [ep]
  walk_at "v1"
  refine ⟨by rw [bB,dQ];ext hp,?_⟩
  rw [b0H λR hR=>?_]
  .walk_at "v1"
  .obtain ⟨l,k⟩:=xw (bL.mp hR)
   exact ⟨by ext pE l,λr hr=>by obtain ⟨F,Ao,mY⟩:=k r hr;exact hF F Ao r mY⟩
theorem b6s{Fs:List (List Row)}(pE:Fs.length<64)(hF:∀F∈Fs,∀r∈F,PB r)(hlen:∀F∈Fs,F.length<=900000)(hp:np Fs<=100){x c:Int}(h:Sh Fs x c){ro:Bool}:
  ∃R∈prod Fs,∃ys:List Int,Cc [.lst ro (Fs.map gj),.int x]=some (.sh (.lst false (ys.map D.int)))/\Paired gg R ys/\ys.sum=x/\Jn Fs x (iy R ys):=by
 have hW:∀R∈prod Fs,R.length<64/\∀r∈R,PB r:=λR hR=>by
  obtain ⟨l,k⟩:=xw hR
  exact ⟨by ext pE l,λr hr=>by obtain ⟨F,Ao,mY⟩:=k r hr;exact hF F Ao r mY⟩
 have bP:(ft Fs).filter (λR=>decide (Reach R x))≠[]:=λz=>by
  obtain ⟨S,mS,hS⟩:=bz.mp h
  obtain ⟨zs,p,e1,_⟩:=fo.mp hS
  have:S∈(ft Fs).filter (λR=>decide (Reach R x)):=by
   rw [D8,bL,decide_eq_true_iff,<-e1]
   exact ⟨mS,ME p⟩
  rw [z] at this
  cases this
 obtain ⟨R,mR,ys,e,q⟩:=a9p hW bP
 refine ⟨R,mR,ys,?_,q⟩
 refine Wo.eq (jR.mpr ?_)
 unfold L3
 rw [Wo_seq,b3W pE hF hlen hp,a0g,a5C]
 have hm:((ft Fs).filter (λR=>decide (Reach R x))).map (λR=>iy R (kn x R)::kn x R)≠[]:=by simpa using bP
 generalize (ft Fs).filter (λR=>decide (Reach R x))=F at *
 walk_at "v1"
 refine mF ?_ ?_
 .walk_at "vc"
  cases F with
  | nil=>exact absurd rfl bP
  | cons a b=>simp
 rw [a5C]
 walk_at "v1"
 rw [b4x (k:=true) (by rfl) (Q1 F) hm,e]
 walk_at "vc"
theorem EB(i:Int):Cs [.int i]=some (.sh (.bl true)):=by
 refine Wo.eq (mM.mpr ?_)
 unfold LQ
 walk_at "go"
theorem AH{r:Row}(ok:pS r):Cv [r.d]=some (.sh (.bl true)):=by
 refine Wo.eq (e8.mpr ?_)
 unfold MJ
 unfold pS at ok
 rw [c9]
 walk_at "v1"
 refine mF ?_ ?_
 .walk_at "vc"
 walk_at "v1"
 refine mF ?_ ?_
 .walk_at "vc"
  rw [EB,EB,EB,EB]
  walk_at "vc"
  simp
 walk_at "vc"
 by_cases h:r.1<r.2.1
 .simp [h]
 .have h2:r.1=r.2.1:=by ext ok h
  simp [h,h2,ok.2 h2]
theorem Iq{a r:Row}(ok:pS a)(Ay:BA a r)(h1:aB (10^140) a)(h2:aB (10^140) r):Ce [a.d,r.d]=some (.sh (.bl true)):=by
 refine Wo.eq (jP.mpr ?_)
 unfold L5
 unfold pS at ok
 unfold aB at h1 h2
 unfold BA at Ay
 rw [c9 r]
 walk_at "v1"
 rw [a2U,c9 a]
 walk_at "v1"
 rw [<-c9 a,EC,BK (by ext h1) (by ext h1) (by ext ok Ay) (by ext h1 h2)]
 walk_at "vc"
 refine ⟨λh=>?_,λh=>⟨λh2=>?_,λh2=>?_⟩⟩
 .simp;ext Ay
 .have:=(Ay.2 h).2
  simp [this]
 .have:=(Ay.2 h).1
  exact absurd h2 (by ext this)
theorem zip_rows{α β:Type}{f:α->D}{g:β->D}(xs:List α)(ys:List β):gu (xs.map f) (ys.map g)=(xs.zip ys).map λp=>.tup [f p.1,g p.2]:=by
 unfold gu
 rw [List.zipWith_map,List.zip,List.map_zipWith]
theorem b1w{R:Row->Row->Prop}:∀{rs:List Row},bo R rs->∀p∈rs.zip (rs.drop 1),R p.1 p.2:=λ{rs} h p hp=>by
 obtain ⟨k,hk,rfl⟩:=oG.mp hp
 simp at hk ⊢
 have:=h.get k (by ext hk:1)
 simpa [Nat.add_comm] using this
theorem AI{rs:List Row}(hc:Canon rs)(hb:∀r∈rs,aB (10^140) r)(hl:rs.length<=900000):B6 [.tup (rs.map Row.d)]=some (.sh (.bl true)):=by
 refine Wo.eq (oq.mpr ?_)
 unfold LA
 walk_at "v1"
 refine mF ?_ ?_
 .walk_at "vc"
 walk_at "v1"
 refine mF ?_ ?_
 .walk_at "vc"
  rw [bB]
  refine ⟨by ext hl,?_⟩
  rw [nF Row.d (λ_=>.bl true) (λe=>∃x,e=[x]) rs (λr hr e ⟨x,hx⟩=>by
   subst hx
   walk_at "vc"
   rw [AH (hc.1 r hr)]
   walk_at "vc"
   exact ⟨_,rfl⟩) ⟨_,rfl⟩]
  rw [a0g,show rs.map (λ_=>D.bl true)=(rs.map λ_=>true).map D.bl by rw [dS];rfl,b2y]
  simp
 walk_at "v1"
 rw [BR,show fV rs (some 1) none=rs.drop 1 from b18 rs (n:=1),zip_rows]
 refine ⟨by simp;lia,?_⟩
 rw [nF (λ(p:Row×Row)=>D.tup [p.1.d,p.2.d]) (λ_=>.bl true) (λe=>∃x y,e=[x,y]) (rs.zip (rs.drop 1)) (λp hp e ⟨x,y,hx⟩=>by
  subst hx
  have m1:=(ve hp).1
  have m2:=tM (ve hp).2
  walk_at "vc"
  rw [Iq (hc.1 _ m1) (b1w hc.2 p hp) (hb _ m1) (hb _ m2)]
  walk_at "vc"
  exact ⟨_,_,rfl⟩) ⟨_,_,rfl⟩]
 rw [a0g,show (rs.zip (rs.drop 1)).map (λ_=>D.bl true)=((rs.zip (rs.drop 1)).map λ_=>true).map D.bl by rw [dS];rfl,b2y]
 simp
theorem Kv{rs:List Row}{n:Nat}(h:n<rs.length):eI (rs.map Row.d) (n:Int)=some (Row.d rs[n]):=by
 rw [DL.df];simp [h]
theorem b6o{rs:List Row}(ha:dF rs)(hl:rs.length<=900000)(x:Int):∃n:Nat,xI [.tup (rs.map Row.d),.int x]=some (.sh (.int n))/\n<=rs.length/\(∀i (h:i<rs.length),i<n->rs[i].2.1<x)/\(∀i (h:i<rs.length),n<=i->x<=rs[i].2.1):=by
 have mono:∀i j (hi:i<rs.length) (hj:j<rs.length),i<=j->rs[i].2.1<=rs[j].2.1:=λi j hi hj h=>by
  rcases Nat.lt_or_eq_of_le h with h | rfl
  .have:=(wR.mp ha.2) i j hi hj h
   have:=ha.1 _ (nU hj)
   lia
  .exact cU _
 have key:Wo (xI [.tup (rs.map Row.d),.int x]) λs=>∃n:Nat,s=.sh (.int n)/\n<=rs.length/\(∀i (h:i<rs.length),i<n->rs[i].2.1<x)/\(∀i (h:i<rs.length),n<=i->x<=rs[i].2.1):=by
  refine mI.mpr ?_
  unfold LV
  walk_at "vc"
  rw [bB,KY]
  refine B7 (λm env=>∃x4,∃f b:Nat,env=[.sh (.tup (rs.map Row.d)),.sh (.int x),.sh (.int f),.sh (.int b),x4]/\m=b-f/\f<=b/\b<=rs.length/\(∀i (h:i<rs.length),i<f->rs[i].2.1<x)/\(∀i (h:i<rs.length),b<=i->x<=rs[i].2.1)) (λm env h=>?_) _ rs.length
   (show rs.length<1000000 by ext hl) ⟨_,0,rs.length,rfl,by simp,by simp,bh _,λi h z=>absurd z (Jc _),λi h z=>absurd h (by ext z)⟩
  obtain ⟨x4,f,b,rfl,rfl,h1,h2,h3,h4⟩:=h
  walk_at "vc"
  refine ⟨λaT=>?_,λqi=>⟨f,rfl,by ext h1 h2,h3,λi h z=>h4 i h (by ext qi z)⟩⟩
  have hm:((f:Int)+b)/2=(((f+b)/2:Nat):Int):=by lia
  have pC:(f+b)/2<rs.length:=by lia
  rw [hm,Kv pC,c9]
  walk_at "vc"
  refine ⟨by walk_at "sc",λhc=>?_,λhc=>?_⟩
  .exact ⟨b-((f+b)/2+1),by lia,_,(f+b)/2+1,b,rfl,rfl,by lia,h2,λi h z=>Int.lt_of_le_of_lt (mono i ((f+b)/2) h pC (by ext z)) hc,h4⟩
  .exact ⟨(f+b)/2-f,by lia,_,f,(f+b)/2,rfl,rfl,by lia,by ext pC,h3,λi h z=>IQ (by ext pC hc) (mono ((f+b)/2) i pC h z)⟩
 obtain ⟨s,e,n,rfl,h⟩:=key
 exact ⟨n,e,h⟩
theorem b3Y{rs:List Row}(ha:dF rs)(hl:rs.length<=900000)(hb:∀r∈rs,aB (10^140) r){x:Int}(hx:-(10^140)<=x/\x<=10^140):B5 [.tup (rs.map Row.d),.int x]=some (.sh (rm (look rs x))):=by
 refine Wo.eq (ot.mpr ?_)
 unfold Lz
 walk_at "vc"
 obtain ⟨n,en,hn,h1,h2⟩:=b6o ha hl x
 rw [en]
 walk_at "vc"
 rw [bB]
 have split:rs=rs.take n++rs.drop n:=(nY n rs).symm
 have ij:∀q∈rs.take n,q.2.1<x:=λq hq=>by
  obtain ⟨i,hi,rfl⟩:=oG.mp hq
  rw [iZ] at hi
  rw [DY]
  exact h1 i (by ext hi) (by ext hi)
 have lk:look rs x=look (rs.drop n) x:=by
  have:=Ls (x:=x) (post:=rs.drop n) ij
  rwa [<-split] at this
 refine ⟨λhe=>?_,λhe=>?_⟩
 .have:rs.drop n=[]:=ny (by ext he)
  rw [lk,this];rfl
 .have aT:n<rs.length:=by ext hn he
  have hd:rs.drop n=rs[n]::rs.drop (n+1):=j0 aT
  have hr:=hb rs[n] (nU aT)
  have hle:=h2 n aT (bh _)
  unfold aB at hr
  rw [Kv aT,c9]
  walk_at "vc"
  refine ⟨λDh=>?_,λDh=>?_⟩
  .rw [lk,RC];rfl
   intro q hq
   rw [hd] at hq
   rcases bH.mp hq with rfl | hq
   .exact .inl Dh
   .have hp:=ha.2
    rw [split,hd] at hp
    have:=(ir.mp (gQ.mp hp).2.1).1 q hq
    have:=ha.1 rs[n] (nU aT)
    exact .inl (by omega)
  .rw [<-c9,BK (by ext aT hr) (by ext aT hr) (by ext aT Dh) (by ext aT hx hr)]
   walk_at "vc"
   rw [lk,hd,look,if_pos ⟨by ext aT Dh,hle⟩]
   rfl
theorem b15{rs:List Row}{x:Int}(hb:∀r∈rs,aB (10^120) r)(hx:-(10^120)<=x/\x<=10^120){ro:Bool}:Ct [.lst ro (rs.map Row.d),.int x]=some (.sh (rm (look rs x))):=by
 refine Wo.eq (mL.mpr ?_)
 unfold LR
 walk_at "v1"
 refine nE Row.d (λpre env=>∃x2 x3 x4 x5 rest,env=[.sh (.lst ro (rs.map Row.d)),.sh (.int x),x2,x3,x4,x5]/\rs=pre++rest/\look rs x=look rest x) rs (λpre r post env e h=>?_) (λenv h=>?_) ⟨_,_,_,_,rs,rfl,rfl,rfl⟩
 .obtain ⟨x2,x3,x4,x5,rest,rfl,e2,ji⟩:=h
  obtain rfl:rest=r::post:=Ep (e2.symm.trans e)
  have hr:=hb r (by rw [e];simp)
  unfold aB at hr
  have hm:MulC r.2.2.2 (x-r.1):=xn (by ext hr) (by ext hr) (by ext hx hr) (by ext hx hr)
  rw [look] at ji
  rw [c9 r]
  walk_at "vc"
  refine ⟨λh1=>⟨λh2=>⟨hm,?_⟩,λh2=>?_⟩,λh1=>?_⟩
  .rw [ji,if_pos ⟨h1,h2⟩];rfl
  .rw [if_neg (by ext h2)] at ji
   exact ⟨_,_,_,_,post,rfl,by rw [e];simp,ji⟩
  .rw [if_neg (by ext h1)] at ji
   exact ⟨_,_,_,_,post,rfl,by rw [e];simp,ji⟩
 .obtain ⟨x2,x3,x4,x5,rest,rfl,e2,ji⟩:=h
  have:rest=[]:=by simpa using e2
  subst this
  walk_at "vc"
  rw [ji];rfl
theorem GS:CJ vW 4 16 5184:=
 Fg (n:=8) (m:=864) (by decide) (by decide) (by decide) (Fg (n:=4) (m:=144) (by decide) (by decide) (by decide) (Fg (n:=2) (m:=24) (by decide) (by decide) (by decide) (Fg (n:=1) (m:=4) (by decide) (by decide) (by decide) (P9 (φ:=Ci) a7o) (φ:=xJ) a7n) (φ:=xK) a7m) (φ:=xM) a7l) (φ:=xN) eO
theorem b3Z(ns:List Int)(k:Int)(hk:0<=k){r:Bool}:Cg [.lst r (ns.map D.int),.int k]=some (.sh (.int (ns.getD k.toNat 0))):=by
 refine Wo.eq (jd.mpr ?_)
 unfold Mx
 walk_at "vc"
 rw [bB]
 refine ⟨λh=>?_,λh=>?_⟩
 .rw [Fd 0 hk h]
  walk_at "vc"
 .have:ns.length<=k.toNat:=by ext h
  simp [this]
theorem b8M{r:Row}(h:oU r){x:Int}(h1:r.1<=x)(h2:x<=r.2.1):-(2*10^79)<=r.at x/\r.at x<=2*10^79:=by
 unfold oU at h
 have e2:=JR (a:=r.2.2.2) (b:=x-r.1) (A:=10^30) (B:=2*10^46) (by ext h) (by ext h) (by ext h1) (by ext h h2)
 unfold Row.at
 omega
theorem PL{rs:List Row}(hb:∀r∈rs,oU r){x c:Int}(h:Val rs x c):(-(10^46)<=x/\x<=10^46)/\(-(2*10^79)<=c/\c<=2*10^79):=by
 obtain ⟨r,hr,h1,h2,rfl⟩:=h
 have b:=hb r hr
 refine ⟨?_,b8M b h1 h2⟩
 unfold oU at b
 ext h1 h2 b
noncomputable abbrev QQ:=List Row×List Row
structure lx(q:QQ):Prop where
 gD:dF q.1
 bd:∀r∈q.1,oU r
 laid:Laid q.1 q.2
 ne:q.1≠[]
 len:q.1.length<=4
theorem lx.fv{q:QQ}(h:lx q):FV (10^46) (2*10^79) q.2:=⟨h.laid.canon,λx c e=>PL h.bd ((h.laid.val x c).mp ((xu h.laid.canon.gD).mp e))⟩
theorem lx.Ie{q:QQ}(h:lx q):FV (10^60) (10^130) q.2:=⟨h.fv.canon,λx c e=>by have:=h.fv.bd x c e;ext this⟩
noncomputable abbrev TT:=QQ×Int×Int
theorem O9:∀{ts:List TT},(∀t∈ts,Val t.1.2 t.2.1 t.2.2)->Sh (ts.map λt=>t.1.2) (ts.map λt=>t.2.1).sum (ts.map λt=>t.2.2).sum
 | [],_=>⟨rfl,rfl⟩
 | t::ts,h=>⟨t.2.1,t.2.2,_,_,h t (bK ..),O9 λu hu=>h u (bW _ hu),by simp,by simp⟩
theorem Qj(i:Int):xD [.int i]=some (.sh (.bl true)):=by
 refine Wo.eq (lh.mpr ?_)
 unfold Ma
 walk_at "vc"
theorem O4:∀{qs:List QQ} {R:List Row} {ys:List Int},R∈prod (qs.map λq=>q.2)->Paired gg R ys->∃ts:List TT,ts.map (λt=>t.1)=qs/\ts.map (λt=>t.2.1)=ys/\(ts.map λt=>t.2.2).sum=iy R ys/\∀t∈ts,Val t.1.2 t.2.1 t.2.2
 | [],R,ys,hR,p=>by
  rw [wF,prod,bU] at hR
  subst hR
  cases p
  exact ⟨[],rfl,rfl,rfl,λ_ z=>nomatch z⟩
 | q::qs,R,ys,hR,p=>by
  rw [fF,prod] at hR
  obtain ⟨r,hr,hR⟩:=qv.mp hR
  obtain ⟨R',gi,rfl⟩:=dz.mp hR
  cases p with
  | cons h p =>
   rename_i y ys
   obtain ⟨ts,e1,e2,e3,e4⟩:=O4 gi p
   refine ⟨(q,y,r.at y)::ts,by rw [fF,e1],by rw [fF,e2],by rw [fF,tE,e3];rfl,λt ht=>?_⟩
   rcases bH.mp ht with rfl | ht
   .exact ⟨r,hr,h.1,h.2,rfl⟩
   .exact e4 t ht
theorem Qd{ts:List TT}(hl:ts.length<=1000)(hq:∀t∈ts,lx t.1)(h:∀t∈ts,Val t.1.2 t.2.1 t.2.2){r r':Bool}:xE [.lst r (ts.map λt=>eM t.1.1),.lst r' ((ts.map λt=>t.2.1).map D.int)]=some (.sh (.int (ts.map λt=>t.2.2).sum)):=by
 refine Wo.eq (lg.mpr ?_)
 unfold Mb
 walk_at "v1"
 refine mF ?_ ?_
 .walk_at "vc"
  simp
 walk_at "v1"
 rw [dS,show (ts.map λt=>eM t.1.1)=ts.map ((λt:TT=>eM t.1.1)) from rfl,zip_rows,List.zip_eq_zipWith,List.zipWith_self,dS]
 generalize hd1:D.lst r (ts.map λt=>eM t.1.1)=d1
 generalize hd2:D.lst r' (ts.map (D.int∘λt=>t.2.1))=d2
 refine nE (λt:TT=>D.tup [eM t.1.1,.int t.2.1]) (λpre env=>∃x3 x4 x5,env=[.sh d1,.sh d2,.sh (.int (pre.map λt=>t.2.2).sum),x3,x4,x5]) ts (λpre t post env e hI=>?_) (λenv hI=>?_) ⟨_,_,_,rfl⟩
 .obtain ⟨x3,x4,x5,rfl⟩:=hI
  have ht:=h t (by rw [e];simp)
  have hk:=hq t (by rw [e];simp)
  have hv:=(hk.laid.val _ _).mp ht
  have hb:=PL hk.bd hv
  have hc:=b15 (rs:=t.1.1) (x:=t.2.1) (λr hr=>by have:=hk.bd r hr;unfold oU at this;unfold aB;ext this) (by ext hb) (ro:=false)
  rw [(xu hk.gD).mpr hv] at hc
  walk_at "v1"
  rw [a2U]
  walk_at "v1"
  rw [Qj]
  walk_at "v1"
  rw [show eM t.1.1=.lst false (t.1.1.map Row.d) from rfl,hc]
  walk_at "v1"
  rw [show rm (some t.2.2)=.int t.2.2 from rfl]
  refine mF ?_ ?_
  .walk_at "vc"
  walk_at "v1"
  exact ⟨_,_,_,by rw [fX,A0,N4,List.sum_singleton]⟩
 .obtain ⟨x3,x4,x5,rfl⟩:=hI
  walk_at "vc"
theorem b6l{q:QQ}(h:lx q){m:Int}(hm:0<=m/\m<10^60+33){r:Bool}:∃y,vV [.lst r (q.1.map Row.d),.int m]=some (.sh (.int y))/\∃c,Val q.1 y c:=by
 have key:Wo (vV [.lst r (q.1.map Row.d),.int m]) λs=>∃y,s=.sh (.int y)/\∃c,Val q.1 y c:=by
  refine lj.mpr ?_
  unfold L'
  walk_at "v1"
  rw [bB]
  have hl:0<q.1.length:=vE.mpr h.ne
  have h0:=rN m (b:=(q.1.length:Int)) (by ext hl)
  have h1:=rK m (b:=(q.1.length:Int)) (by ext hl)
  generalize m%(q.1.length:Int)=i at h0 h1
  obtain ⟨j,rfl⟩:=Oi h0
  have hj:j<q.1.length:=by ext h1
  have hr:q.1[j]∈q.1:=nU hj
  refine ⟨by ext hl,?_⟩
  rw [Kv hj,a0g]
  generalize q.1[j]=w at hr
  have hw:=h.gD.1 w hr
  have hb:=h.bd w hr
  unfold oU at hb
  have v:∀y,w.1<=y->y<=w.2.1->∃c,Val q.1 y c:=λy a b=>⟨_,w,hr,a,b,rfl⟩
  have h2:=rN m (b:=w.2.1-w.1+1) (by ext hw)
  have h3:=rK m (b:=w.2.1-w.1+1) (by ext hw)
  rw [c9 w]
  walk_at "v1"
  refine ⟨Ky (by ext) (by ext),by ext hw,Ky (by ext) (by ext),Kt [w.1,w.2.1,(w.1+w.2.1)/2,w.1+m%(w.2.1-w.1+1)] (by omega) (by show m/7%4<4;omega) λy hy=>⟨y,rfl,v y ?_ ?_⟩⟩<;>(simp only [bH,gO,or_false] at hy;omega)
 obtain ⟨s,e,y,rfl,k⟩:=key
 exact ⟨y,e,k⟩
theorem Py{qs:List QQ}(hq:∀q∈qs,lx q)(hl:qs.length<=3){x c:Int}(h:Sh (qs.map λq=>q.2) x c):(-(4*10^60)<=x/\x<=4*10^60)/\(-(4*10^130)<=c/\c<=4*10^130):=by
 obtain ⟨R,hR,k⟩:=bz.mp h
 obtain ⟨l,m⟩:=xw hR
 rw [bB] at l
 have b:=JN (λr hr=>by obtain ⟨F,hF,mY⟩:=m r hr;obtain ⟨q,c8,rfl⟩:=dz.mp hF;exact (hq q c8).Ie.pb r mY) k
 omega
theorem b8B{qs:List QQ}(hq:∀q∈qs,lx q)(hl:qs.length<=3)(hp:np (qs.map λq=>q.2)<=16){f:List Row}(Ff:FV (4*10^60) (4*10^130) f)(lf:f.length<=5184)(jf:∀x c,look f x=some c↔Jn (qs.map λq=>q.2) x c)(xf:∀x c,Sh (qs.map λq=>q.2) x c->∃m,Jn (qs.map λq=>q.2) x m)
  {ts:List TT}(ht:ts.map (λt=>t.1)=qs)(hv:∀t∈ts,Val t.1.2 t.2.1 t.2.2):Cu [.lst false (qs.map λq=>eM q.1),.lst false ((qs.map λq=>q.2).map gj),.tup (f.map Row.d),.lst false ((ts.map λt=>t.2.1).map D.int)]=some (.sh (.bl true)):=by
 have tq:∀{us:List TT},us.map (λt=>t.1)=qs->(∀t∈us,lx t.1)/\us.length<=3/\(us.map λt=>eM t.1.1)=qs.map λq=>eM q.1:=λ{us} e=>by
  subst e
  exact ⟨λt h=>hq _ (dz.mpr ⟨t,h,rfl⟩),by simpa using hl,by rw [dS];rfl⟩
 have hS:Sh (qs.map λq=>q.2) (ts.map λt=>t.2.1).sum (ts.map λt=>t.2.2).sum:=by
  have:=O9 hv
  rwa [show (ts.map λt=>t.1.2)=qs.map λq=>q.2 by rw [<-ht,dS];rfl] at this
 obtain ⟨m,hm⟩:=xf _ _ hS
 have bx:=Py hq hl hS
 obtain ⟨R,mR,ys,e0,p,hs,hj⟩:=b6s (Fs:=qs.map λq=>q.2) (by rw [bB];ext hl) (λF h=>by obtain ⟨q,c8,rfl⟩:=dz.mp h;exact (hq q c8).Ie.pb) (λF h=>by obtain ⟨q,c8,rfl⟩:=dz.mp h;have:=(hq q c8).laid.len;have:=(hq q c8).len;omega) (by ext hp) hS (ro:=false)
 have em:iy R ys=m:=Int.le_antisymm (hj.2 _ hm.1) (hm.2 _ hj.1)
 obtain ⟨us,u1,u2,u3,u4⟩:=O4 mR p
 have w1:=Qd (by have:=(tq ht).2.1;ext this) (tq ht).1 hv (r:=false) (r':=false)
 have w2:=Qd (by have:=(tq u1).2.1;ext this) (tq u1).1 u4 (r:=false) (r':=false)
 rw [(tq ht).2.2] at w1
 rw [(tq u1).2.2,u2,u3,em] at w2
 have hle:m<=(ts.map λt=>t.2.2).sum:=hm.2 _ hS
 have ec:=b3Y Ff.canon.gD (by omega) (Ff.row (by decide) (by decide)) (x:=(ts.map λt=>t.2.1).sum) (by ext bx)
 rw [(jf _ _).mpr hm] at ec
 refine Wo.eq (mK.mpr ?_)
 unfold LS
 walk_at "v1"
 rw [ec,show rm (some m)=.int m from rfl]
 walk_at "v1"
 refine mF ?_ ?_
 .walk_at "v1"
  rw [Qj]
  walk_at "v1"
  rw [w1]
  walk_at "vc"
  ext hle
 have es:Cr [.lst false ((qs.map λq=>q.2).map gj),.int (ts.map λt=>t.2.1).sum]=some (.sh (.lst false (ys.map D.int))):=by
  refine Wo.eq (kX.mpr ?_)
  unfold Me
  walk_at "v1"
  rw [e0]
  walk_at "vc"
 walk_at "v1"
 rw [es]
 walk_at "v1"
 rw [w2]
 walk_at "v1"
 simp [hs]
theorem b4i{ds:List D}{i:Int}{Q:D->Prop}(h0:0<=i)(h1:i<ds.length)(h:∀d∈ds,Q d):Wo (eI ds i) Q:=by
 obtain ⟨n,rfl⟩:=Oi h0
 have hn:n<ds.length:=by ext h1
 have:=Fd (f:=λd:D=>d) (xs:=ds) (ds[n]) h0 (by simpa using hn)
 rw [List.map_id'] at this
 refine ⟨ds[n],?_,h _ (nU _)⟩
 rw [this]
 simp [hn]
theorem b3O{α:Type}(enc:α->D)(cs:List α):pR (cs.map enc)=cs.zipIdx.map λp=>D.tup [.int p.2,enc p.1]:=by
 unfold pR
 rw [List.zipIdx_map,dS]
 rfl
noncomputable def M0:List (List Nat):=[[3,3],[2,2,2],[4,2],[3,2,1]]
theorem xT:∀zs∈M0,2<=zs.length/\zs.length<=3/\zs.foldr (·*·) 1<=16/\∀n∈zs,1<=n/\n<=4:=by decide
theorem Pn{g:Int×Nat->QQ}:∀{ps:List (Int×Nat)},(∀p∈ps,(g p).2.length<=p.2)->np ((ps.map g).map λq=>q.2)<=(ps.map λp=>p.2).foldr (·*·) 1
 | [],_=>bh _
 | p::ps,h=>by
  rw [fF,fF,fF,List.foldr_cons,show ((g p).2::mw (λq=>q.2) (mw g ps))=[(g p).2]++(ps.map g).map λq=>q.2 from rfl,BD]
  exact Nat.mul_le_mul (by unfold np;simpa using h p (bK ..)) (Pn λq hq=>h q (bW _ hq))
theorem b8y{m:Int}{n:Nat}(hm:0<=m/\m<10^60+33)(h0:1<=n)(h1:n<=4):∃q:QQ,se [.int m,.int n]=some (.ow (q.1.map Row.d))/\p6 [eM q.1]=some (.sh (gj q.2))/\lx q/\q.2.length<=n:=by
 obtain ⟨rs,er,mX,hA,hB⟩:=b6p hm (many:=n) (by ext) (by ext h1)
 obtain ⟨fs,ef,L⟩:=Kb hA (λr hr=>by have:=hB r hr;unfold oU at this;unfold aB;ext this) (by ext h1 mX) (ro:=false)
 have:=L.len
 exact ⟨(rs,fs),er,ef,⟨hA,hB,L,λz=>by subst z;simp at mX;ext h0 mX,by show rs.length<=4;ext h1 mX⟩,by show fs.length<=n;ext mX this⟩
theorem fin(ns:List Int)(qg:ns.length<=63):E5 [.lst true (ns.map D.int)]=some (.sh (.bl true)):=by
 refine Wo.eq (CA.mpr ?_)
 unfold JK
 walk_at "v1"
 rw [b3Z _ _ (by decide)]
 walk_at "v1"
 refine b4i (by lia) (by simp;lia) λd hd=>?_
 obtain ⟨zs,hz,rfl⟩:∃zs∈M0,d=.lst false (zs.map λ(n:Nat)=>D.int n):=by
  simp only [bH,gO,or_false] at hd
  rcases hd with rfl | rfl | rfl | rfl
  .exact ⟨[3,3],by decide,rfl⟩
  .exact ⟨[2,2,2],by decide,rfl⟩
  .exact ⟨[4,2],by decide,rfl⟩
  .exact ⟨[3,2,1],by decide,rfl⟩
 obtain ⟨z1,z2,z3,z4⟩:=xT zs hz
 walk_at "v1"
 rw [BR,bB]
 obtain ⟨ss,es,NC,uG⟩:=b6m (fV ns (some 1) none) zs.length (by ext z1) (by ext z2) (by have:=QV ns (some 1) none;ext qg this) (r:=false)
 have Xj:ss.length=zs.length:=by ext NC
 rw [es]
 walk_at "v1"
 obtain ⟨g,hg⟩:∃g:Int×Nat->QQ,∀p:Int×Nat,((0<=p.1/\p.1<10^60+33)/\1<=p.2/\p.2<=4)->se [.int p.1,.int p.2]=some (.ow ((g p).1.map Row.d))/\p6 [eM (g p).1]=some (.sh (gj (g p).2))/\lx (g p)/\(g p).2.length<=p.2:=
  Jq λp:Int×Nat=>(Classical.em ((0<=p.1/\p.1<10^60+33)/\1<=p.2/\p.2<=4)).elim (λh=>(b8y h.1 h.2.1 h.2.2).elim λq k=>⟨q,λ_=>k⟩) λh=>⟨([],[]),λz=>absurd z h⟩
 have Dp:∀p∈ss.zip zs,se [.int p.1,.int p.2]=some (.ow ((g p).1.map Row.d))/\p6 [eM (g p).1]=some (.sh (gj (g p).2))/\lx (g p)/\(g p).2.length<=p.2:=λp hp=>by
  have:=ve hp
  exact hg p ⟨uG _ this.1,z4 _ this.2⟩
 have G8:(ss.zip zs).length<=3:=by rw [List.length_zip];ext z2
 rw [zip_rows,nF (λp:Int×Nat=>D.tup [.int p.1,.int p.2]) (λp=>eM (g p).1) (λe=>∃x y,e=[x,y]) (ss.zip zs) (λp hp e he=>by
  obtain ⟨x,y,rfl⟩:=he
  walk_at "v1"
  rw [(Dp p hp).1]
  walk_at "vc"
  exact ⟨⟨_,_,rfl⟩,rfl⟩) ⟨_,_,rfl⟩]
 refine ⟨by rw [bB];ext G8,?_⟩
 rw [a0g]
 refine ⟨by rw [bB];ext G8,?_⟩
 rw [nF (λp:Int×Nat=>eM (g p).1) (λp=>gj (g p).2) (λe=>∃x,e=[x]) (ss.zip zs) (λp hp e he=>by
  obtain ⟨x,rfl⟩:=he
  walk_at "v1"
  rw [(Dp p hp).2.1]
  walk_at "vc"
  exact ⟨_,rfl⟩) ⟨_,rfl⟩]
 generalize zI:(ss.zip zs).map g=qs
 have e1:((ss.zip zs).map λp=>eM (g p).1)=qs.map λq=>eM q.1:=by rw [<-zI,dS];rfl
 have e2:((ss.zip zs).map λp=>gj (g p).2)=(qs.map λq=>q.2).map gj:=by rw [<-zI,dS,dS];rfl
 have hq:∀q∈qs,lx q:=λq h=>by
  rw [<-zI] at h
  obtain ⟨p,hp,rfl⟩:=dz.mp h
  exact (Dp p hp).2.2.1
 have hl:qs.length<=3:=by rw [<-zI,bB];exact G8
 have hp:np (qs.map λq=>q.2)<=16:=by
  have:=Pn (g:=g) (ps:=ss.zip zs) λp hp=>(Dp p hp).2.2.2
  rw [zI,List.map_snd_zip (by ext NC)] at this
  ext z3 this
 obtain ⟨f,ef,cf,lf,jf,xf⟩:=b17 (Fs:=qs.map λq=>q.2) (K:=4) (n:=16) (by rw [bB];ext hl) (by rw [bB];ext hl) (λF h=>by obtain ⟨q,c8,rfl⟩:=dz.mp h;exact (hq q c8).Ie) (λF h=>by obtain ⟨q,c8,rfl⟩:=dz.mp h;have:=(hq q c8).laid.len;have:=(hq q c8).len;lia) hp (by decide) (λ{V C Fs r} a b c d e=>GS a b c d e) (ro:=false)
 have Ff:FV (4*10^60) (4*10^130) f:=⟨cf,λx c e=>Py hq hl ((jf x c).mp e).1⟩
 rw [e1,e2,a0g,ef,a0g]
 refine mF ?_ ?_
 .walk_at "vc"
  rw [AI cf (Ff.row (by decide) (by decide)) (by lia)]
  walk_at "vc"
 walk_at "v1"
 rw [BR]
 have wz:=QV ns none (some 20)
 generalize rg:fV ns none (some 20)=cs at wz
 rw [show [D.int 0]++cs.map D.int=(0::cs).map D.int from rfl,Ra]
 refine ⟨by rw [bB];ext qg wz,?_⟩
 refine nE (λp:Int×Nat=>D.tup [.int p.2,.int p.1]) (λpre env=>∃x6 x7 x8,env=[.sh (.lst true (ns.map D.int)),.sh (.lst false (zs.map λ(n:Nat)=>D.int n)),.sh (.lst false (ss.map D.int)),.sh (.lst false (qs.map λq=>eM q.1)),.sh (.lst false ((qs.map λq=>q.2).map gj)),.sh (.tup (f.map Row.d)),x6,x7,x8]) (0::cs).zipIdx (λpre a post env e h=>?_) (λenv h=>?_) ⟨_,_,_,rfl⟩
 .obtain ⟨x6,x7,x8,rfl⟩:=h
  obtain ⟨ea,dQ⟩:=Rn e
  obtain ⟨c,n⟩:=a
  have hn:n<=64:=by simp at dQ ea;ext qg wz dQ ea
  walk_at "v1"
  rw [b3O (λq:QQ=>eM q.1) qs]
  have uu:∀p:QQ×Nat,∃y:Int×Int,lx p.1->vV [eM p.1.1,.int (gx c (3*(n:Int)+(p.2:Int)))]=some (.sh (.int y.1))/\Val p.1.1 y.1 y.2:=λp=>by
   by_cases h:lx p.1
   .obtain ⟨y,k1,v,k2⟩:=b6l h (vO c (3*(n:Int)+(p.2:Int))) (r:=false)
    exact ⟨(y,v),λ_=>⟨k1,k2⟩⟩
   .exact ⟨(0,0),λz=>absurd z h⟩
  obtain ⟨Y,hY⟩:=Jq uu
  have Hk:∀p∈qs.zipIdx,lx p.1/\p.2<3:=λp hp=>by
   obtain ⟨q,j⟩:=p
   have h1:=List.mem_zipIdx' hp
   exact ⟨by show lx q;rw [h1.2];exact hq _ (nU _),by show j<3;lia⟩
  rw [nF (λp:QQ×Nat=>D.tup [.int p.2,eM p.1.1]) (λp=>D.int (Y p).1) (λe=>∃x y,e=[x,y,.sh (.int c),.sh (.int n)]) qs.zipIdx (λp hp e he=>by
   obtain ⟨x,y,rfl⟩:=he
   have h2:=Hk p hp
   walk_at "v1"
   rw [vN _ _ (by ext) (by lia)]
   walk_at "v1"
   rw [(hY p h2.1).1]
   walk_at "vc"
   exact ⟨⟨_,_,rfl⟩,xn (by ext) (by ext) (by ext) (by ext hn)⟩) ⟨_,_,rfl⟩]
  walk_at "v1"
  have hg:=b8B hq hl hp Ff lf jf xf (ts:=qs.zipIdx.map λp=>(p.1,(Y p).1,(Y p).2)) (by rw [dS];exact List.zipIdx_map_fst 0 qs) (λt ht=>by
   obtain ⟨p,hp,rfl⟩:=dz.mp ht
   exact ((Hk p hp).1.laid.val _ _).mpr (hY p (Hk p hp).1).2)
  rw [show mw D.int (mw (λt:TT=>t.2.1) (qs.zipIdx.map λp=>(p.1,(Y p).1,(Y p).2)))=qs.zipIdx.map λp=>D.int (Y p).1 by rw [dS,dS];rfl] at hg
  refine ⟨by rw [bB,N7];ext hl,?_⟩
  refine mF ?_ ⟨_,_,_,rfl⟩
  walk_at "vc"
  rw [hg]
  walk_at "vc"
 .obtain ⟨x6,x7,x8,rfl⟩:=h
  walk_at "vc"
end My
namespace PySem.W.Fast
theorem tw14015347071675475984:True:=trivial
theorem tw3537048262930527947:True:=trivial
theorem tw15735256841322200532:True:=trivial
theorem tw9057338395811831174:True:=trivial
theorem tw7486918664902526597:True:=trivial
theorem tw4119882193860704147:True:=trivial
theorem tw4976575580165407065:True:=trivial
theorem tw14836973527504918503:True:=trivial
theorem tw3930803012602305417:True:=trivial
theorem tw4793167022944148345:True:=trivial
theorem tw16349856814049726649:True:=trivial
theorem tw10580630872472964061:True:=trivial
theorem tw10805307384790542886:True:=trivial
theorem tw8287842725707025527:True:=trivial
theorem tw8815180509557314673:True:=trivial
theorem tw2339645320610215200:True:=trivial
theorem tw9757388553058870635:True:=trivial
theorem tw259671995926271577:True:=trivial
theorem tw14603406698711639888:True:=trivial
theorem tw5953859844600464781:True:=trivial
theorem tw6386849587561785852:True:=trivial
theorem tw6216702951773360207:True:=trivial
theorem tw3921386545362457479:True:=trivial
theorem tw3045646453751316397:True:=trivial
theorem tw17741961500788318915:True:=trivial
theorem tw9842754463019187308:True:=trivial
theorem tw7972254172624818104:True:=trivial
theorem tw17182719392994354664:True:=trivial
theorem tw5924836945307742037:True:=trivial
theorem tw14171750038172867597:True:=trivial
theorem tw12410419597087823175:True:=trivial
theorem tw15828092536445261270:True:=trivial
theorem tw1998760083811707395:True:=trivial
theorem tw17962198699615181009:True:=trivial
theorem tw9511192145251093172:True:=trivial
theorem tw13682292758216351369:True:=trivial
theorem tw828080242420749595:True:=trivial
theorem tw13669173121855290414:True:=trivial
theorem tw3080548639289122904:True:=trivial
theorem tw4002773213306531409:True:=trivial
theorem tw16478239411756772629:True:=trivial
theorem tw11480026019359813630:True:=trivial
theorem tw4479221502989501161:True:=trivial
theorem tw6758313190311233043:True:=trivial
theorem tw65548103523155051:True:=trivial
theorem tw14885992934680906364:True:=trivial
theorem tw4370401353060349678:True:=trivial
theorem tw11996449240323782543:True:=trivial
theorem tw5510725703794458355:True:=trivial
theorem tw8904565528860442103:True:=trivial
theorem tw11317755683609116632:True:=trivial
theorem tw14138617365838881846:True:=trivial
theorem tw12421411656879362856:True:=trivial
theorem tw17078063696014293177:True:=trivial
theorem tw6199483958866056735:True:=trivial
theorem tw11334330804750191855:True:=trivial
theorem tw14342764126111323298:True:=trivial
theorem tw2701648558023063571:True:=trivial
theorem tw6393260200942592162:True:=trivial
theorem tw17260693250915338800:True:=trivial
theorem tw8450626057701195094:True:=trivial
theorem tw5728459565111633583:True:=trivial
theorem tw8558064436404183383:True:=trivial
theorem tw17129193330644597666:True:=trivial
theorem tw9183580332276890680:True:=trivial
theorem tw16090076862809443033:True:=trivial
theorem tw14306471290792612695:True:=trivial
theorem tw7037422045909598702:True:=trivial
theorem tw8175064527696919501:True:=trivial
theorem tw6283287231795862896:True:=trivial
theorem tw1544024576051197200:True:=trivial
theorem tw13675551581087241681:True:=trivial
theorem tw14853518066386900904:True:=trivial
theorem tw14820069787210740976:True:=trivial
theorem tw11899414700594332906:True:=trivial
theorem tw10439219406207665302:True:=trivial
theorem tw5390661034899560598:True:=trivial
theorem tw10805895695587656714:True:=trivial
theorem tw13946355079387692455:True:=trivial
theorem tw9150576629999202164:True:=trivial
theorem tw15819980057722194021:True:=trivial
theorem tw10993985683925160768:True:=trivial
theorem tw12025541266793107142:True:=trivial
theorem tw17855978846113642084:True:=trivial
theorem tw2815090016810449033:True:=trivial
theorem tw4030289279265666176:True:=trivial
theorem tw16923318410483995939:True:=trivial
theorem tw4068236887890861327:True:=trivial
theorem tw11019088986835383891:True:=trivial
theorem tw9192946866323706402:True:=trivial
theorem tw11560550813530069609:True:=trivial
theorem tw10276509012266230727:True:=trivial
theorem tw8165364874221190473:True:=trivial
theorem tw13041145751636338885:True:=trivial
theorem tw10710320028287215679:True:=trivial
theorem tw13994517213841588332:True:=trivial
theorem tw12475990694599215692:True:=trivial
theorem tw2622836086738042378:True:=trivial
theorem tw8394735775404311326:True:=trivial
theorem tw17211623623335136453:True:=trivial
theorem tw16910057778909059814:True:=trivial
theorem tw203813013479225993:True:=trivial
theorem tw3909167600185197913:True:=trivial
theorem tw8688550579460932155:True:=trivial
theorem tw4536288287681662671:True:=trivial
theorem tw309625638976390838:True:=trivial
theorem tw4362018093531023952:True:=trivial
theorem tw5654133667114470206:True:=trivial
theorem tw16477263046780186574:True:=trivial
theorem tw6391150526758654146:True:=trivial
theorem tw1053023597642118391:True:=trivial
theorem tw11742484275747906325:True:=trivial
theorem tw824382715986777955:True:=trivial
theorem tw5134719464330652247:True:=trivial
theorem tw253963113641326751:True:=trivial
theorem tw3142856627912369291:True:=trivial
theorem tw12653109147724542024:True:=trivial
theorem tw7462337615858126914:True:=trivial
theorem tw3616460246705855311:True:=trivial
theorem tw13832589014026495528:True:=trivial
theorem tw12992626935208912619:True:=trivial
theorem tw8218153024558801024:True:=trivial
theorem tw1879687406041430312:True:=trivial
theorem tw7732944019577918610:True:=trivial
theorem tw3546651787768465378:True:=trivial
theorem tw14447838007123068586:True:=trivial
theorem tw1430250644755006438:True:=trivial
theorem tw1984976340907184655:True:=trivial
theorem tw7449267268019602808:True:=trivial
theorem tw911034490794258565:True:=trivial
theorem tw362627783865120775:True:=trivial
theorem tw10569030874429974690:True:=trivial
theorem tw9711172378268696485:True:=trivial
theorem tw5311576090721832026:True:=trivial
theorem tw3315935314293178502:True:=trivial
theorem tw2101618277353301749:True:=trivial
theorem tw5174031275471777887:True:=trivial
theorem tw11132278601013806295:True:=trivial
theorem tw954305870395903970:True:=trivial
theorem tw8386604969550693929:True:=trivial
theorem tw14715852553163636456:True:=trivial
theorem tw347737187715100989:True:=trivial
theorem tw10463866345096015767:True:=trivial
theorem tw1897524774998357070:True:=trivial
theorem tw9098213732069217108:True:=trivial
theorem tw13989765428411685372:True:=trivial
theorem tw130920254641499036:True:=trivial
theorem tw5706441691638071744:True:=trivial
theorem tw9922347592365892130:True:=trivial
theorem tw14710279426007186838:True:=trivial
theorem tw13763280025000927182:True:=trivial
theorem tw8238562115749625308:True:=trivial
theorem tw16518471915411775503:True:=trivial
theorem tw5672696166602027670:True:=trivial
theorem tw3174050829934375193:True:=trivial
theorem tw2262025500398086348:True:=trivial
theorem tw17587066635855597788:True:=trivial
theorem tw16950697380148467813:True:=trivial
theorem tw5934479573188103798:True:=trivial
theorem tw13245353476629684727:True:=trivial
theorem tw153274292120623179:True:=trivial
theorem tw568101123902710851:True:=trivial
theorem tw3998267656616904167:True:=trivial
theorem tw6822654408796491215:True:=trivial
theorem tw14652993848267768180:True:=trivial
theorem tw154112786500411329:True:=trivial
theorem tw17355119015551803576:True:=trivial
theorem tw9547984442348389988:True:=trivial
theorem tw11135820104154418384:True:=trivial
theorem tw9053330523225385572:True:=trivial
theorem tw14896412181876723654:True:=trivial
theorem tw13873212670799708045:True:=trivial
theorem tw1266644458405031766:True:=trivial
theorem tw4818198970076747574:True:=trivial
theorem tw7742184448528814759:True:=trivial
theorem tw16589641055940718901:True:=trivial
theorem tw15605253185413641211:True:=trivial
theorem tw16935481625556525183:True:=trivial
theorem tw6006891802644413047:True:=trivial
theorem tw1040238273691006186:True:=trivial
theorem tw16240485652461673997:True:=trivial
theorem tw9240562168251212356:True:=trivial
theorem tw12716547290154567368:True:=trivial
theorem tw1564018301576666050:True:=trivial
theorem tw764740310832512052:True:=trivial
theorem tw14465059611059727982:True:=trivial
theorem tw341828809559949423:True:=trivial
theorem tw15231387484962299815:True:=trivial
theorem tw12670628312785453356:True:=trivial
theorem tw12692050059429517409:True:=trivial
theorem tw17748238665135146971:True:=trivial
theorem tw1051751845476094004:True:=trivial
theorem tw17770211820556683149:True:=trivial
theorem tw5969364487646364014:True:=trivial
theorem tw11397251283883507631:True:=trivial
theorem tw9013986780722277950:True:=trivial
theorem tw754907249617697567:True:=trivial
theorem tw10590858039779000926:True:=trivial
theorem tw18437321214977469896:True:=trivial
end PySem.W.Fast
open PySem PySem.W PyProof.Rows
set_option maxRecDepth 100000 in
set_option maxHeartbeats 0 in
theorem PySem.Challenge.cw_offerhouse_k56_whole_none_cheaper_holds : PySem.Challenge.rw_offerhouse_k56_whole_none_cheaper.Holds := by
  w_on; o_law; k_head; (case hw => w_witness2)
  k_fill
  refine DL.xU (l := PySem.Challenge.rw_offerhouse_k56_whole_none_cheaper) (k := 14) ⟨rfl, by decide, by decide⟩ rfl rfl (fun w h Y => ⟨PySem.W.km_in_of Y, PySem.W.km_tabs_of Y⟩) (fun w => by kernel_rfl) ?F
  case F =>
    intro w mg fa h KX G zO
    refine' My.all_mk (cT := 277) (pT := 275) KX G zO ?i1 ?i2 ?i3 ?i4 ?i5 ?i6 ?i7 ?i8 ?i9 ?i10 ?i11 ?i12 ?i13 ?i14 ?i15 ?i16 ?i17 ?i18 ?i19 ?i20 ?i21 ?i22 ?i23 ?i24 ?i25 ?i26 ?i27 ?i28 ?i29 ?i30 ?i31 ?i32 ?i33 ?i34 ?i35 ?i36 ?i37 ?i38 ?i39 ?i40 ?i41 ?i42 ?i43 ?i44 ?i45 ?i46 ?i47 ?i48 ?zmax ?zmin ?zall ?zzip ?zisinstance ?ztuple ?zlen ?zbool ?zint ?zsorted ?zsum ?zMOST_PICKS ?zrange ?zenumerate ?zlist ?hT ?hC ?fin
    (case i1 => constructor <;> k_is)
    (case i2 => constructor <;> k_is)
    (case i3 => constructor <;> k_is)
    (case i4 => constructor <;> k_is)
    (case i5 => constructor <;> k_is)
    (case i6 => constructor <;> k_is)
    (case i7 => constructor <;> k_is)
    (case i8 => constructor <;> k_is)
    (case i9 => constructor <;> k_is)
    (case i10 => constructor <;> k_is)
    (case i11 => constructor <;> k_is)
    (case i12 => constructor <;> k_is)
    (case i13 => constructor <;> k_is)
    (case i14 => constructor <;> k_is)
    (case i15 => constructor <;> k_is)
    (case i16 => constructor <;> k_is)
    (case i17 => constructor <;> k_is)
    (case i18 => constructor <;> k_is)
    (case i19 => constructor <;> k_is)
    (case i20 => constructor <;> k_is)
    (case i21 => constructor <;> k_is)
    (case i22 => constructor <;> k_is)
    (case i23 => constructor <;> k_is)
    (case i24 => constructor <;> k_is)
    (case i25 => constructor <;> k_is)
    (case i26 => constructor <;> k_is)
    (case i27 => constructor <;> k_is)
    (case i28 => constructor <;> k_is)
    (case i29 => constructor <;> k_is)
    (case i30 => constructor <;> k_is)
    (case i31 => constructor <;> k_is)
    (case i32 => constructor <;> k_is)
    (case i33 => constructor <;> k_is)
    (case i34 => constructor <;> k_is)
    (case i35 => constructor <;> k_is)
    (case i36 => constructor <;> k_is)
    (case i37 => constructor <;> k_is)
    (case i38 => constructor <;> k_is)
    (case i39 => constructor <;> k_is)
    (case i40 => constructor <;> k_is)
    (case i41 => constructor <;> k_is)
    (case i42 => constructor <;> k_is)
    (case i43 => constructor <;> k_is)
    (case i44 => constructor <;> k_is)
    (case i45 => constructor <;> k_is)
    (case i46 => constructor <;> k_is)
    (case i47 => constructor <;> k_is)
    (case i48 => constructor <;> k_is)
    (case zmax => k_is)
    (case zmin => k_is)
    (case zall => k_is)
    (case zzip => k_is)
    (case zisinstance => k_is)
    (case ztuple => k_is)
    (case zlen => k_is)
    (case zbool => k_is)
    (case zint => k_is)
    (case zsorted => k_is)
    (case zsum => k_is)
    (case zMOST_PICKS => exact ⟨_, by k_is⟩)
    (case zrange => k_is)
    (case zenumerate => k_is)
    (case zlist => k_is)
    (case hT => kernel_rfl)
    (case hC => kernel_rfl)
    (case fin => exact My.fin)
