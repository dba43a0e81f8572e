import PyProof.Rows.All
import Wide.All
import OpenK.AllK
import Wide.FinOn
import Lean
import PyProof.EqAt
import PyProof.EqKinds
import PyProof.TupleCall
import PySem.Challenge.RW_offerhouse_k79_whole_shown_is_cheapest
set_option Elab.async false
set_option linter.all false
set_option synthInstance.maxSize 10000
set_option synthInstance.maxHeartbeats 60000
namespace QA
inductive E | v (i:Nat) | k (n:Nat) | i (z:Int) | u (b:Bool) (x y:E) | a (x y:E) | s (x y:E) | n (x:E) | m (s:Bool) (n:Nat) (z:Int) (x:E) | c (x:E)
inductive F | le (d t:Bool) (x y:E) | eq (t:Bool) (x y:E) | ff | no (f:F) | an (f g:F) | or (f g:F) | im (f g:F) | io (f g:F)
structure C where
  i:List Int
  n:List Nat
noncomputable def gi:List Int->Nat->Int
  | [],_=>0
  | x::_,0=>x
  | _::l,i+1=>gi l i
noncomputable def gn:List Nat->Nat->Nat
  | [],_=>0
  | x::_,0=>x
  | _::l,i+1=>gn l i
noncomputable def den (c:C):E->Nat × Int
  | .v i=>(gn c.n i,gi c.i i)
  | .k n=>(n,0)
  | .i z=>(0,z)
  | .u b x y=>(cond b (max (den c x).1 (den c y).1) (min (den c x).1 (den c y).1),cond b (max (den c x).2 (den c y).2) (min (den c x).2 (den c y).2))
  | .a x y=>((den c x).1+(den c y).1,(den c x).2+(den c y).2)
  | .s x y=>((den c x).1 - (den c y).1,(den c x).2 - (den c y).2)
  | .n x=>(0,- (den c x).2)
  | .m s n z x=>(cond s (n * (den c x).1) ((den c x).1 * n),cond s (z * (den c x).2) ((den c x).2 * z))
  | .c x=>((den c x).2.toNat,((den c x).1:Int))
noncomputable def dF (c:C):F->Prop
  | .le d t x y=>cond d (cond t ((den c x).1 < (den c y).1) ((den c x).2 < (den c y).2)) (cond t ((den c x).1<=(den c y).1) ((den c x).2<=(den c y).2))
  | .eq t x y=>cond t ((den c x).1=(den c y).1) ((den c x).2=(den c y).2)
  | .ff=>False
  | .no f=>¬ dF c f
  | .an f g=>dF c f/\dF c g
  | .or f g=>dF c f ∨ dF c g
  | .im f g=>dF c f->dF c g
  | .io f g=>(dF c f ↔ dF c g)
noncomputable def ev (r:Nat->Int):List Int->Int
  | []=>0
  | c::l=>c * r 0+ev (λi=>r (i+1)) l
noncomputable def ad:List Int->List Int->List Int
  | [],m=>m
  | x::l,[]=>x::l
  | x::l,y::m=>Int.add x y::ad l m
noncomputable def sc (k:Int):List Int->List Int
  | []=>[]
  | x::l=>Int.mul k x::sc k l
theorem ev_ad:∀ (l m:List Int) (r:Nat->Int),ev r (ad l m)=ev r l+ev r m
  | [],m,r=>(Int.zero_add _).symm
  | x::l,[],r=>(Int.add_zero _).symm
  | x::l,y::m,r=>by
    show (x+y) * r 0+ev _ (ad l m)=(x * r 0+ev _ l)+(y * r 0+ev _ m)
    rw [ev_ad l m,Int.add_mul];omega
theorem ev_sc (k:Int):∀ (l:List Int) (r:Nat->Int),ev r (sc k l)=k * ev r l
  | [],r=>(Int.mul_zero k).symm
  | x::l,r=>by
    show k * x * r 0+ev _ (sc k l)=k * (x * r 0+ev _ l)
    rw [ev_sc k l,Int.mul_add,Int.mul_assoc]
noncomputable def zz:List Int->List Int
  | []=>[]
  | k::l=>k::0::0::l
noncomputable def ui:Nat->List Int
  | 0=>[0,1]
  | i+1=>zz (ui i)
noncomputable def un:Nat->List Int
  | 0=>[0,0,1]
  | i+1=>zz (un i)
noncomputable def rr (c:C):Nat->Nat->Int
  | j,0=>gi c.i j
  | j,1=>(gn c.n j:Int)
  | j,i+2=>rr c (j+1) i
noncomputable def rho (c:C) (j:Nat):Nat->Int
  | 0=>1
  | i+1=>rr c j i
theorem ev_zz {c:C} {j:Nat}:∀ l,ev (rho c j) (zz l)=ev (rho c (j+1)) l
  | []=>rfl
  | k::l=>by
    show k * 1+(0 * _+(0 * _+ev _ l))=k * 1+ev _ l
    rw [Int.zero_mul,Int.zero_mul,Int.zero_add,Int.zero_add];rfl
theorem ev_ui {c:C}:∀ (i j:Nat),ev (rho c j) (ui i)=gi c.i (j+i)
  | 0,j=>by show 0 * _+(1 * gi c.i j+0)=gi c.i j;omega
  | i+1,j=>by show ev _ (zz _)=_;rw [ev_zz,ev_ui i];congr 1;omega
theorem ev_un {c:C}:∀ (i j:Nat),ev (rho c j) (un i)=(gn c.n (j+i):Int)
  | 0,j=>by show 0 * _+(0 * _+(1 * (gn c.n j:Int)+0))=(gn c.n j:Int);omega
  | i+1,j=>by show ev _ (zz _)=_;rw [ev_zz,ev_un i];congr 2;omega
noncomputable def ge (k:Int) (x y:List Int):List Int:=ad [k] (ad y (sc (-1) x))
theorem ev_ge {c:C} {k:Int} {x y:List Int}:ev (rho c 0) (ge k x y)=k+ev (rho c 0) y - ev (rho c 0) x:=by
  unfold ge;rw [ev_ad,ev_ad,ev_sc];show k * 1+0+_=_;omega
noncomputable def Al (r:Nat->Int) (l:List (List Int)):Prop:=∀ x∈l,0<=ev r x
theorem al_c {r:Nat->Int} {x:List Int} {l:List (List Int)} (h:0<=ev r x) (hl:Al r l):Al r (x::l):=List.forall_mem_cons.mpr ⟨h,hl⟩
theorem al_n {r:Nat->Int}:Al r []:=λ_ h=>nomatch h
theorem al_a {r:Nat->Int} {l m:List (List Int)} (h:Al r l) (hl:Al r m):Al r (l++m):=λx hx=>(List.mem_append.mp hx).elim (h x) (hl x)
noncomputable abbrev A:=List Int × List (List Int)
noncomputable def G (c:C) (P:List A) (v:Int):Prop:=∃ q∈P,ev (rho c 0) q.1=v/\Al (rho c 0) q.2
noncomputable def cp (P Q:List A) (f:List Int->List Int->List A):List A:=P.flatMap λp=>Q.flatMap λq=>(f p.1 q.1).map λr=>(r.1,r.2++(p.2++q.2))
theorem cp_ok {c:C} {P Q:List A} {f:List Int->List Int->List A} {x y v:Int} (hx:G c P x) (hy:G c Q y) (hf:∀ l m,ev (rho c 0) l=x->ev (rho c 0) m=y->G c (f l m) v):G c (cp P Q f) v:=by
  obtain ⟨p,p1,p2,p3⟩:=hx;obtain ⟨q,q1,q2,q3⟩:=hy;obtain ⟨r,r1,r2,r3⟩:=hf _ _ p2 q2
  exact ⟨_,List.mem_flatMap.mpr ⟨p,p1,List.mem_flatMap.mpr ⟨q,q1,List.mem_map.mpr ⟨r,r1,rfl⟩⟩⟩,r2,al_a r3 (al_a p3 q3)⟩
noncomputable def e0:List A:=[([],[])]
noncomputable def li:E->Bool->List A
  | .v i,t=>[(cond t (un i) (ui i),[])]
  | .k n,t=>[(cond t [(n:Int)] [],[])]
  | .i z,t=>[(cond t [] [z],[])]
  | .u b x y,t=>cp (li x t) (li y t) λl m=>[(cond b l m,[ge 0 m l]),(cond b m l,[ge 0 l m])]
  | .a x y,t=>cp (li x t) (li y t) λl m=>[(ad l m,[])]
  | .s x y,t=>cp (li x t) (li y t) λl m=>(ge 0 m l,cond t [ge 0 m l] [])::cond t [([],[ge 0 l m])] []
  | .n x,t=>cp (li x t) e0 λl _=>[(cond t [] (sc (-1) l),[])]
  | .m _ n z x,t=>cp (li x t) e0 λl _=>[(sc (cond t (n:Int) z) l,[])]
  | .c x,t=>cp (li x (!t)) e0 λl _=>(l,cond t [l] [])::cond t [([],[ge 0 l []])] []
noncomputable def va (c:C) (t:Bool) (e:E):Int:=cond t ((den c e).1:Int) (den c e).2
theorem g1 {c:C} {l:List Int} {v:Int} {L:List A} {k:List (List Int)} (h:ev (rho c 0) l=v) (hk:Al (rho c 0) k):G c ((l,k)::L) v:=⟨_,List.mem_cons_self ..,h,hk⟩
theorem g2 {c:C} {q:A} {v:Int} {L:List A} (h:G c L v):G c (q::L) v:=h.elim λx hx=>⟨x,List.mem_cons_of_mem _ hx.1,hx.2⟩
theorem ge_1 {c:C} {l m:List Int} {x y:Int} (hx:ev (rho c 0) l=x) (hy:ev (rho c 0) m=y) (h:y<=x):Al (rho c 0) [ge 0 m l]:=al_c (by rw [ev_ge];omega) al_n
theorem li_ok {c:C} (e:E):∀ (t:Bool),G c (li e t) (va c t e):=by
  have z0:G c e0 0:=g1 rfl al_n
  have k1:∀ k,ev (rho c 0) [k]=k:=λk=>by show k * 1+0=k;omega
  induction e with
  | v i=>intro t;cases t <;> exact g1 ((by first | exact ev_ui i 0 | exact ev_un i 0:ev _ _=_).trans (by rw [Nat.zero_add];rfl)) al_n
  | k n=>intro t;cases t;exact g1 rfl al_n;exact g1 (k1 _) al_n
  | i z=>intro t;cases t;exact g1 (k1 _) al_n;exact g1 rfl al_n
  | u b x y hx hy =>
    intro t;refine cp_ok (hx t) (hy t) λl m e1 e2=>?_
    rcases Int.le_total (va c t y) (va c t x) with h | h
    · refine g1 ?_ (ge_1 e1 e2 h)
      cases t <;> cases b <;> (show ev _ _=_;simp only [cond_true,cond_false];first | rw [e1] | rw [e2]) <;> (simp only [va,den,cond_true,cond_false] at *;omega)
    · refine g2 (g1 ?_ (ge_1 e2 e1 h))
      cases t <;> cases b <;> (show ev _ _=_;simp only [cond_true,cond_false];first | rw [e1] | rw [e2]) <;> (simp only [va,den,cond_true,cond_false] at *;omega)
  | a x y hx hy =>
    intro t;refine cp_ok (hx t) (hy t) λl m e1 e2=>g1 ?_ al_n
    rw [ev_ad,e1,e2];cases t <;> simp only [va,den,cond_true,cond_false];omega
  | s x y hx hy =>
    intro t;refine cp_ok (hx t) (hy t) λl m e1 e2=>?_
    cases t with
    | false=>exact g1 (by rw [ev_ge,e1,e2];simp only [va,den,cond_false];omega) al_n
    | true =>
      rcases Int.le_total (va c true y) (va c true x) with h | h
      · exact g1 (by rw [ev_ge,e1,e2];simp only [va,den,cond_true] at *;omega) (ge_1 e1 e2 h)
      · exact g2 (g1 (by show (0:Int)=_;simp only [va,den,cond_true] at *;omega) (ge_1 e2 e1 h))
  | n x hx =>
    intro t;refine cp_ok (hx t) z0 λl m e1 e2=>g1 ?_ al_n
    cases t with
    | false=>show ev _ (sc _ _)=_;rw [ev_sc,e1];simp only [va,den,cond_false];omega
    | true=>rfl
  | m s n z x hx =>
    intro t;refine cp_ok (hx t) z0 λl m e1 e2=>g1 ?_ al_n
    rw [ev_sc,e1];cases t <;> cases s <;> simp only [va,den,cond_true,cond_false,Int.natCast_mul,Int.mul_comm]
  | c x hx =>
    intro t;refine cp_ok (hx (!t)) z0 λl m e1 e2=>?_
    cases t with
    | false=>exact g1 e1 al_n
    | true =>
      rcases Int.le_total 0 (va c false x) with h | h
      · exact g1 (by rw [e1];simp only [va,den,cond_true,cond_false,Bool.not_true] at *;omega) (al_c (by rw [e1];exact h) al_n)
      · exact g2 (g1 (by show (0:Int)=_;simp only [va,den,cond_true,cond_false] at *;omega) (ge_1 rfl e1 h))
noncomputable def sg:Int->Ordering
  | .ofNat 0=>.eq
  | .ofNat _=>.gt
  | .negSucc _=>.lt
noncomputable abbrev B:=Int × Int × List Int
structure P3 where
  p:List B
  n:List B
  z:List (List Int)
noncomputable def p1 (k a:Int) (r:List Int) (q:P3):Ordering->P3
  | .eq=>⟨q.p,q.n,(k::r)::q.z⟩
  | .gt=>⟨(a,k,r)::q.p,q.n,q.z⟩
  | .lt=>⟨q.p,(Int.neg a,k,r)::q.n,q.z⟩
noncomputable def ex:Nat->List Int->Int × List Int
  | _,[]=>(0,[])
  | 0,a::l=>(a,l)
  | j+1,a::l=>((ex j l).1,a::(ex j l).2)
noncomputable def p2 (j:Nat) (q:P3):List Int->P3
  | []=>q
  | k::l=>p1 k (ex j l).1 (ex j l).2 q (sg (ex j l).1)
noncomputable def pt (j:Nat):List (List Int)->P3
  | []=>⟨[],[],[]⟩
  | x::l=>p2 j (pt j l) x
noncomputable def ct (q:P3):Bool:=Nat.ble (Nat.mul q.p.length q.n.length) (Nat.succ (Nat.add q.p.length q.n.length))
noncomputable def bs (l:List (List Int)):Nat->Nat->Nat
  | 0,_=>0
  | n+1,j=>cond (ct (pt j l)) j (bs l n (j+1))
noncomputable def gc:List Int->Nat
  | []=>0
  | x::l=>Nat.gcd x.natAbs (gc l)
noncomputable def dv (g:Int):List Int->List Int
  | []=>[]
  | x::l=>x / g::dv g l
noncomputable def t1 (k:Int) (l:List Int):Nat->List Int
  | 0=>[k]
  | 1=>k::l
  | g+2=>k / ((g+2:Nat):Int)::dv ((g+2:Nat):Int) l
noncomputable def tg:List Int->List Int
  | []=>[]
  | k::l=>t1 k l (gc l)
noncomputable def co (a b:B):List Int:=tg (ad (sc b.1 (a.2.1::a.2.2)) (sc a.1 (b.2.1::b.2.2)))
noncomputable def cr (n:List B) (z:List (List Int)) (p:List B):List (List Int):=(p.flatMap λa=>n.map λb=>co a b)++z
noncomputable def f1:List Int->Bool
  | [.negSucc _]=>true
  | _=>false
noncomputable def f0 (l:List (List Int)) (j:Nat) (f:List (List Int)->Bool):Bool:=f (cr (pt j l).n (pt j l).z (pt j l).p)
noncomputable def fm:Nat->List (List Int)->Bool
  | 0,l=>l.any f1
  | n+1,l=>l.any f1 || (Nat.ble l.length 300 && f0 l (bs l (n+1) 0) (fm n))
noncomputable def dr:Nat->(Nat->Int)->Nat->Int
  | 0,r,i=>r (i+1)
  | _+1,r,0=>r 0
  | j+1,r,i+1=>dr j (λi=>r (i+1)) i
theorem ex_ok:∀ (j:Nat) (l:List Int) (r:Nat->Int),ev r l=(ex j l).1 * r j+ev (dr j r) (ex j l).2
  | 0,[],r=>by show 0=0 * _+0;rw [Int.zero_mul];rfl
  | j+1,[],r=>by show 0=0 * _+0;rw [Int.zero_mul];rfl
  | 0,a::l,r=>rfl
  | j+1,a::l,r=>by
    show a * r 0+ev _ l=(ex j l).1 * r (j+1)+(a * r 0+ev (dr j λi=>r (i+1)) (ex j l).2)
    rw [ex_ok j l];exact Int.add_left_comm ..
noncomputable def sh (j:Nat) (r:Nat->Int):Nat->Int
  | 0=>r 0
  | i+1=>dr j (λi=>r (i+1)) i
theorem ev_cut {r:Nat->Int} {j:Nat} {k:Int} {l:List Int}:ev r (k::l)=(ex j l).1 * r (j+1)+ev (sh j r) (k::(ex j l).2):=by
  show k * r 0+ev _ l=(ex j l).1 * r (j+1)+(k * r 0+ev (dr j λi=>r (i+1)) (ex j l).2)
  rw [ex_ok j l];exact Int.add_left_comm ..
noncomputable def Bp (r:Nat->Int) (y:Int) (a:B):Prop:=0 < a.1/\0<=a.1 * y+ev r (a.2.1::a.2.2)
noncomputable def P0 (r:Nat->Int) (j:Nat) (q:P3):Prop:=(∀ a∈q.p,Bp (sh j r) (r (j+1)) a)/\(∀ a∈q.n,Bp (sh j r) (-r (j+1)) a)/\Al (sh j r) q.z
theorem sg_ok (a:Int):(sg a=.eq/\a=0) ∨ (sg a=.gt/\0 < a) ∨ (sg a=.lt/\a < 0):=by
  match a with
  | .ofNat 0=>exact .inl ⟨rfl,rfl⟩
  | .ofNat (n+1)=>exact .inr (.inl ⟨rfl,Int.natCast_pos.mpr (Nat.succ_pos n)⟩)
  | .negSucc _=>exact .inr (.inr ⟨rfl,by omega⟩)
theorem p2_ok {r:Nat->Int} {j:Nat} {q:P3} (h:P0 r j q):∀ {x:List Int},0<=ev r x->P0 r j (p2 j q x)
  | [],_=>h
  | k::l,hx=>by
    rw [ev_cut (j:=j)] at hx
    show P0 r j (p1 k (ex j l).1 (ex j l).2 q (sg (ex j l).1))
    rcases sg_ok (ex j l).1 with ⟨e,g⟩ | ⟨e,g⟩ | ⟨e,g⟩ <;> rw [e]
    · exact ⟨h.1,h.2.1,al_c (by rw [g,Int.zero_mul,Int.zero_add] at hx;exact hx) h.2.2⟩
    · exact ⟨List.forall_mem_cons.mpr ⟨⟨g,hx⟩,h.1⟩,h.2⟩
    · exact ⟨h.1,List.forall_mem_cons.mpr ⟨⟨Int.neg_pos_of_neg g,by show 0<=-(ex j l).1 * -r (j+1)+_;rw [Int.neg_mul_neg];exact hx⟩,h.2.1⟩,h.2.2⟩
theorem pt_ok {r:Nat->Int} (j:Nat):∀ {l:List (List Int)},Al r l->P0 r j (pt j l)
  | [],_=>⟨λ_ h=>(nomatch h),λ_ h=>(nomatch h),al_n⟩
  | x::l,h=>p2_ok (pt_ok j λy hy=>h y (List.mem_cons_of_mem _ hy)) (h x (List.mem_cons_self ..))
theorem gc_dv:∀ (l:List Int) (g:Nat) (r:Nat->Int),g ∣ gc l->ev r l=g * ev r (dv g l)
  | [],g,r,_=>(Int.mul_zero _).symm
  | x::l,g,r,h=>by
    have h3:(g:Int) * (x / g)=x:=Int.mul_ediv_cancel' (Int.ofNat_dvd_left.mpr (Nat.dvd_trans h (Nat.gcd_dvd_left ..)))
    show x * _+ev _ l=g * (x / g * _+ev _ (dv g l))
    rw [gc_dv l g _ (Nat.dvd_trans h (Nat.gcd_dvd_right ..)),Int.mul_add,← Int.mul_assoc,h3]
theorem t1_ok {r:Nat->Int} (hr:r 0=1) {k:Int} {l:List Int} (h:0<=ev r (k::l)):∀ {g},g=gc l->0<=ev r (t1 k l g)
  | 0,e=>by
    have h:0<=k * r 0+ev _ l:=h
    rw [gc_dv l 0 _ (by rw [e];exact Nat.dvd_refl _),Int.natCast_zero,Int.zero_mul] at h;exact h
  | 1,e=>h
  | g+2,e=>by
    have h:0<=k * r 0+ev _ l:=h
    show 0<=k / ((g+2:Nat):Int) * r 0+ev _ (dv ((g+2:Nat):Int) l)
    rw [gc_dv l (g+2) _ (by rw [e];exact Nat.dvd_refl _),hr,Int.mul_one] at h
    rw [hr,Int.mul_one]
    have hg:0 < ((g+2:Nat):Int):=by omega
    generalize ((g+2:Nat):Int)=d at *
    generalize ev _ (dv d l)=y at *
    have:-y<=k / d:=(Int.le_ediv_iff_mul_le hg).mpr (by rw [Int.neg_mul,Int.mul_comm];omega)
    omega
theorem co_ok {r:Nat->Int} (hr:r 0=1) {y:Int} {a b:B} (h1:Bp r y a) (h2:Bp r (-y) b):0<=ev r (co a b):=by
  refine t1_ok hr ?_ rfl
  show 0<=ev r (ad (sc b.1 (a.2.1::a.2.2)) (sc a.1 (b.2.1::b.2.2)))
  rw [ev_ad,ev_sc,ev_sc]
  have e1:=Int.mul_nonneg (Int.le_of_lt h2.1) h1.2
  have e2:=Int.mul_nonneg (Int.le_of_lt h1.1) h2.2
  rw [Int.mul_add] at e1 e2
  have:a.1 * (b.1 * -y)=- (b.1 * (a.1 * y)):=by rw [Int.mul_neg,Int.mul_neg,Int.mul_left_comm]
  omega
theorem f1_ok {r:Nat->Int} (hr:r 0=1) {l:List (List Int)} (h:Al r l):¬ l.any f1=true:=λk=>by
  obtain ⟨x,h1,h2⟩:=List.any_eq_true.mp k
  have:=h x h1
  unfold f1 at h2;split at h2
  · have t:0<=_ * r 0+0:=this
    rw [hr] at t;omega
  · cases h2
theorem fm_ok:∀ (n:Nat) {r:Nat->Int} {l:List (List Int)},r 0=1->Al r l->¬ fm n l=true
  | 0,r,l,hr,h=>f1_ok hr h
  | n+1,r,l,hr,h=>λk=>by
    rcases Bool.or_eq_true_iff.mp k with k | k
    · exact f1_ok hr h k
    · obtain ⟨i,j,m⟩:=pt_ok (bs l (n+1) 0) h
      refine fm_ok n (r:=sh _ r) hr (al_a (λx hx=>?_) m) (Bool.and_eq_true_iff.mp k).2
      obtain ⟨a,a1,a2⟩:=List.mem_flatMap.mp hx
      obtain ⟨b,b1,rfl⟩:=List.mem_map.mp a2
      exact co_ok (r:=sh _ r) hr (i a a1) (j b b1)
noncomputable abbrev T:=List (Bool × F)
noncomputable def al (t:Bool) (x y:E) (cs:List (List Int)) (k:List Int->List Int->List (List Int)->Bool):Bool:=(li x t).all λp=>(li y t).all λq=>k p.1 q.1 (p.2++(q.2++cs))
noncomputable def tb (w:Nat):Nat->T->List (List Int)->Bool
  | 0,_,_=>false
  | n+1,[],cs=>fm w cs
  | n+1,(b,f)::r,cs=>match f with
    | .le d t x y=>al t x y cs λl m cs=>tb w n r (cond b (ge (cond d (-1) 0) l m) (ge (cond d 0 (-1)) m l)::cs)
    | .eq t x y=>al t x y cs λl m cs=>cond b (tb w n r (ge 0 l m::ge 0 m l::cs)) (tb w n r (ge (-1) l m::cs) && tb w n r (ge (-1) m l::cs))
    | .ff=>cond b true (tb w n r cs)
    | .no f=>tb w n ((!b,f)::r) cs
    | .an f g=>cond b (tb w n ((true,f)::(true,g)::r) cs) (tb w n ((false,f)::r) cs && tb w n ((false,g)::r) cs)
    | .or f g=>cond b (tb w n ((true,f)::r) cs && tb w n ((true,g)::r) cs) (tb w n ((false,f)::(false,g)::r) cs)
    | .im f g=>cond b (tb w n ((false,f)::r) cs && tb w n ((true,g)::r) cs) (tb w n ((true,f)::(false,g)::r) cs)
    | .io f g=>tb w n ((b,g)::(true,f)::r) cs && tb w n ((!b,g)::(false,f)::r) cs
noncomputable def hd (c:C) (q:Bool × F):Prop:=cond q.1 (dF c q.2) (¬ dF c q.2)
theorem al_ok {c:C} {t:Bool} {x y:E} {cs:List (List Int)} {k:List Int->List Int->List (List Int)->Bool} (h:al t x y cs k=true) (hc:Al (rho c 0) cs):∃ l m d,ev (rho c 0) l=va c t x/\ev (rho c 0) m=va c t y/\Al (rho c 0) d/\k l m d=true:=by
  obtain ⟨p,p1,p2,p3⟩:=li_ok (c:=c) x t;obtain ⟨q,q1,q2,q3⟩:=li_ok (c:=c) y t
  exact ⟨_,_,_,p2,q2,al_a p3 (al_a q3 hc),List.all_eq_true.mp (List.all_eq_true.mp h p p1) q q1⟩
theorem tb_ok {c:C} {w:Nat}:∀ (n:Nat) {r:T} {cs:List (List Int)},Al (rho c 0) cs->(∀ q∈r,hd c q)->¬ tb w n r cs=true
  | 0,_,_,_,_=>nofun
  | n+1,[],cs,hc,hr=>fm_ok w rfl hc
  | n+1,(b,f)::r,cs,hc,hr=>λh=>by
    obtain ⟨hq,hr'⟩:=List.forall_mem_cons.mp hr
    have I:∀ {p q},hd c p->hd c q->tb w n (p::q::r) cs=true->False:=λh1 h2 h3=>tb_ok n hc (List.forall_mem_cons.mpr ⟨h1,List.forall_mem_cons.mpr ⟨h2,hr'⟩⟩) h3
    have J:∀ {p},hd c p->tb w n (p::r) cs=true->False:=λh1 h3=>tb_ok n hc (List.forall_mem_cons.mpr ⟨h1,hr'⟩) h3
    cases f with
    | le d t x y =>
      have h:al t x y cs (λl m cs=>tb w n r (cond b (ge (cond d (-1) 0) l m) (ge (cond d 0 (-1)) m l)::cs))=true:=h
      obtain ⟨l,m,e,h1,h2,he,h3⟩:=al_ok h hc
      refine tb_ok n (al_c ?_ he) hr' h3
      cases b <;> cases t <;> cases d <;> (show 0<=ev _ (ge _ _ _);rw [ev_ge,h1,h2];simp only [hd,dF,va,cond_true,cond_false] at *;omega)
    | eq t x y =>
      have h:al t x y cs (λl m cs=>cond b (tb w n r (ge 0 l m::ge 0 m l::cs)) (tb w n r (ge (-1) l m::cs) && tb w n r (ge (-1) m l::cs)))=true:=h
      obtain ⟨l,m,e,h1,h2,he,h3⟩:=al_ok h hc
      cases b with
      | true =>
        refine tb_ok n (al_c ?_ (al_c ?_ he)) hr' h3 <;>
        cases t <;> (rw [ev_ge,h1,h2];simp only [hd,dF,va,cond_true,cond_false] at *;omega)
      | false =>
        obtain ⟨h4,h5⟩:=Bool.and_eq_true_iff.mp h3
        rcases Int.lt_or_lt_of_ne (a:=ev (rho c 0) l) (b:=ev (rho c 0) m) (by rw [h1,h2];cases t <;> (simp only [hd,dF,va,cond_true,cond_false] at *;omega)) with g | g
        · exact tb_ok n (al_c (by rw [ev_ge];omega) he) hr' h4
        · exact tb_ok n (al_c (by rw [ev_ge];omega) he) hr' h5
    | ff =>
      cases b with
      | true=>exact hq
      | false=>exact tb_ok n hc hr' h
    | no f =>
      cases b with
      | true=>exact J (p:=(false,f)) hq h
      | false=>exact J (p:=(true,f)) (Classical.not_not.mp hq) h
    | an f g =>
      cases b with
      | true=>exact I (p:=(true,f)) (q:=(true,g)) hq.1 hq.2 h
      | false =>
        obtain ⟨h4,h5⟩:=Bool.and_eq_true_iff.mp h
        by_cases k:dF c f
        · exact J (p:=(false,g)) (λz=>hq ⟨k,z⟩) h5
        · exact J (p:=(false,f)) k h4
    | or f g =>
      cases b with
      | false=>exact I (p:=(false,f)) (q:=(false,g)) (λz=>hq (.inl z)) (λz=>hq (.inr z)) h
      | true =>
        obtain ⟨h4,h5⟩:=Bool.and_eq_true_iff.mp h
        rcases (hq:dF c f ∨ dF c g) with k | k
        · exact J (p:=(true,f)) k h4
        · exact J (p:=(true,g)) k h5
    | im f g =>
      cases b with
      | false=>exact I (p:=(true,f)) (q:=(false,g)) (Classical.byContradiction λz=>hq λy=>(z y).elim) (λz=>hq λ_=>z) h
      | true =>
        obtain ⟨h4,h5⟩:=Bool.and_eq_true_iff.mp h
        by_cases k:dF c f
        · exact J (p:=(true,g)) (hq k) h5
        · exact J (p:=(false,f)) k h4
    | io f g =>
      obtain ⟨h4,h5⟩:=Bool.and_eq_true_iff.mp h
      by_cases k:dF c f
      · refine I (p:=(b,g)) (q:=(true,f)) ?_ k h4
        cases b with
        | true=>exact hq.mp k
        | false=>exact λz=>hq ⟨λ_=>z,λ_=>k⟩
      · refine I (p:=(!b,g)) (q:=(false,f)) ?_ k h5
        cases b with
        | true=>exact λz=>k (hq.mpr z)
        | false=>exact Classical.byContradiction λz=>hq ⟨λy=>(k y).elim,λy=>(z y).elim⟩
noncomputable def mx:E->Nat
  | .v i=>i+1
  | .a x y=>(mx x).max (mx y)
  | .s x y=>(mx x).max (mx y)
  | .u _ x y=>(mx x).max (mx y)
  | .m _ _ _ x=>mx x
  | .n x=>mx x
  | .c x=>mx x
  | _=>0
noncomputable def mF:F->Nat
  | .le _ _ x y=>(mx x).max (mx y)
  | .eq _ x y=>(mx x).max (mx y)
  | .ff=>0
  | .no f=>mF f
  | .an f g=>(mF f).max (mF g)
  | .or f g=>(mF f).max (mF g)
  | .im f g=>(mF f).max (mF g)
  | .io f g=>(mF f).max (mF g)
noncomputable def nz:Nat->List (List Int)
  | 0=>[]
  | i+1=>un i::nz i
theorem nz_ok {c:C}:∀ n,Al (rho c 0) (nz n)
  | 0=>al_n
  | n+1=>al_c (by rw [ev_un];exact Int.natCast_nonneg _) (nz_ok n)
noncomputable def ok (f:F):Bool:=tb (mF f+mF f) 400 [(false,f)] (nz (mF f))
noncomputable abbrev Wit (c:C) (f:F):Prop:=ok f=true->dF c f
theorem R {c:C} {f:F}:Wit c f:=λh=>Classical.byContradiction λk=>tb_ok 400 (nz_ok _) (r:=[(false,f)]) (List.forall_mem_cons.mpr ⟨k,λ_ h=>absurd h List.not_mem_nil⟩) h
class AI (e:Int) (l:List Int) (l':outParam (List Int)) (n:outParam Nat):Prop
instance:AI e [] [e] 0:=⟨⟩
instance (priority:=low) [AI e l l' n]:AI e (d::l) (d::l') (.succ n):=⟨⟩
instance:AI e (e::l) (e::l) 0:=⟨⟩
class AN (e:Nat) (l:List Nat) (l':outParam (List Nat)) (n:outParam Nat):Prop
instance:AN e [] [e] 0:=⟨⟩
instance (priority:=low) [AN e l l' n]:AN e (d::l) (d::l') (.succ n):=⟨⟩
instance:AN e (e::l) (e::l) 0:=⟨⟩
class RI (e:Int) (c:C) (c':outParam C) (x:outParam E):Prop
class RN (e:Nat) (c:C) (c':outParam C) (x:outParam E):Prop
instance (priority:=low) [AI e i i' k]:RI e ⟨i,n⟩ ⟨i',n⟩ (.v k):=⟨⟩
instance (priority:=low) [AN e n n' k]:RN e ⟨i,n⟩ ⟨i,n'⟩ (.v k):=⟨⟩
class LN (e:Nat):Prop
instance:LN 0:=⟨⟩
instance:LN 1:=⟨⟩
instance:LN 10:=⟨⟩
instance:LN 100:=⟨⟩
instance:LN 1000:=⟨⟩
instance:LN 10000:=⟨⟩
instance:LN 1000000:=⟨⟩
instance:LN 130:=⟨⟩
instance:LN 132:=⟨⟩
instance:LN 139:=⟨⟩
instance:LN 140:=⟨⟩
instance:LN 16:=⟨⟩
instance:LN 1600000:=⟨⟩
instance:LN 16777216:=⟨⟩
instance:LN 18:=⟨⟩
instance:LN 2:=⟨⟩
instance:LN 20:=⟨⟩
instance:LN 200:=⟨⟩
instance:LN 250:=⟨⟩
instance:LN 251:=⟨⟩
instance:LN 3:=⟨⟩
instance:LN 30:=⟨⟩
instance:LN 4:=⟨⟩
instance:LN 40:=⟨⟩
instance:LN 400000:=⟨⟩
instance:LN 41:=⟨⟩
instance:LN 42:=⟨⟩
instance:LN 5:=⟨⟩
instance:LN 50:=⟨⟩
instance:LN 51:=⟨⟩
instance:LN 52:=⟨⟩
instance:LN 6:=⟨⟩
instance:LN 60:=⟨⟩
instance:LN 62:=⟨⟩
instance:LN 63:=⟨⟩
instance:LN 64:=⟨⟩
instance:LN 8:=⟨⟩
instance:LN 800000:=⟨⟩
instance:LN 8000000:=⟨⟩
instance:LN 85:=⟨⟩
instance:LN 86:=⟨⟩
instance:LN 900000:=⟨⟩
class LI (e:Int):Prop
instance:LI 0:=⟨⟩
instance:LI 1:=⟨⟩
instance:LI 10:=⟨⟩
instance:LI 100:=⟨⟩
instance:LI 1000:=⟨⟩
instance:LI 2:=⟨⟩
instance:LI 3:=⟨⟩
instance:LI 4:=⟨⟩
instance [LI a]:LI (-a):=⟨⟩
instance (priority:=500) [LN e]:RN e c c (.k e):=⟨⟩
instance (priority:=500) [LI e]:RI e c c (.i e):=⟨⟩
instance [LI a] [LN b]:RI (a ^ b) c c (.i (a ^ b)):=⟨⟩
instance [LN a] [LN b]:RN (a ^ b) c c (.k (a ^ b)):=⟨⟩
instance [RI a c d x] [RI b d e y]:RI (max a b) c e (.u true x y):=⟨⟩
instance [RI a c d x] [RI b d e y]:RI (min a b) c e (.u false x y):=⟨⟩
instance [RN a c d x] [RN b d e y]:RN (max a b) c e (.u true x y):=⟨⟩
instance [RN a c d x] [RN b d e y]:RN (min a b) c e (.u false x y):=⟨⟩
instance [RI a c d x] [RI b d e y]:RI (a+b) c e (.a x y):=⟨⟩
instance [RN a c d x] [RN b d e y]:RN (a+b) c e (.a x y):=⟨⟩
instance [RI a c d x] [RI b d e y]:RI (a - b) c e (.s x y):=⟨⟩
instance [RN a c d x] [RN b d e y]:RN (a - b) c e (.s x y):=⟨⟩
instance [RI a c d x]:RI (-a) c d (.n x):=⟨⟩
instance [LI a] [RI b c d y]:RI (a * b) c d (.m true 0 a y):=⟨⟩
instance [LI a] [RI b c d y]:RI (b * a) c d (.m false 0 a y):=⟨⟩
instance [LN a] [RN b c d y]:RN (a * b) c d (.m true a 0 y):=⟨⟩
instance [LN a] [RN b c d y]:RN (b * a) c d (.m false a 0 y):=⟨⟩
instance [RN a c d x]:RI (Nat.cast a) c d (.c x):=⟨⟩
instance [RI a c d x]:RN (Int.toNat a) c d (.c x):=⟨⟩

class RF (p:Prop) (c:C) (c':outParam C) (f:outParam F):Prop
instance {a b:Int} [RI a c d x] [RI b d e y]:RF (a<=b) c e (.le false false x y):=⟨⟩
instance {a b:Int} [RI a c d x] [RI b d e y]:RF (a < b) c e (.le true false x y):=⟨⟩
instance {a b:Int} [RI a c d x] [RI b d e y]:RF (b ≥ a) c e (.le false false x y):=⟨⟩
instance {a b:Int} [RI a c d x] [RI b d e y]:RF (b > a) c e (.le true false x y):=⟨⟩
instance {a b:Int} [RI a c d x] [RI b d e y]:RF (a=b) c e (.eq false x y):=⟨⟩
instance {a b:Int} [RI a c d x] [RI b d e y]:RF (a ≠ b) c e (.no (.eq false x y)):=⟨⟩
instance {a b:Nat} [RN a c d x] [RN b d e y]:RF (a<=b) c e (.le false true x y):=⟨⟩
instance {a b:Nat} [RN a c d x] [RN b d e y]:RF (a < b) c e (.le true true x y):=⟨⟩
instance {a b:Nat} [RN a c d x] [RN b d e y]:RF (b ≥ a) c e (.le false true x y):=⟨⟩
instance {a b:Nat} [RN a c d x] [RN b d e y]:RF (b > a) c e (.le true true x y):=⟨⟩
instance {a b:Nat} [RN a c d x] [RN b d e y]:RF (a=b) c e (.eq true x y):=⟨⟩
instance {a b:Nat} [RN a c d x] [RN b d e y]:RF (a ≠ b) c e (.no (.eq true x y)):=⟨⟩
instance:RF False c c .ff:=⟨⟩
instance [RF p c d f]:RF (¬p) c d (.no f):=⟨⟩
instance [RF p c d f] [RF q d e g]:RF (p/\q) c e (.an f g):=⟨⟩
instance [RF p c d f] [RF q d e g]:RF (p ∨ q) c e (.or f g):=⟨⟩
instance [RF p c d f] [RF q d e g]:RF (p->q) c e (.im f g):=⟨⟩
instance [RF p c d f] [RF q d e g]:RF (p ↔ q) c e (.io f g):=⟨⟩
theorem Rw (p:Prop) [RF p ⟨[],[]⟩ c f]:Wit c f:=R
end QA
local macro_rules
  | `(tactic| ext $ps:rintroPat*:$_:num)=>`(tactic| (refine id ?_;ext $ps*))
  | `(tactic| ext $ps:rintroPat*)=>do
    let mut ty ← `(_)
    let mut f:=false
    let mut hs:=#[]
    for p in ps do
      match p with
      | `(rintroPat| $h:ident)=>hs:=hs.push (← `($h:ident))
      | _=>f:=true
    for h in hs.reverse do ty ← `(type_of% $h->$ty)
    let t ← `(tactic| (refine (?g:$ty) $hs*;refine (QA.R:type_of% (QA.Rw (type_of% ?g))) ?_;decide +kernel))
    if f then `(tactic| (exfalso;$t)) else return t
set_option Elab.async false
set_option linter.all false
set_option maxRecDepth 100000
open And renaming intro->c4T
open Array renaming length_toList->gS,toList_append->pU,getElem?_toList->tM,perm_iff_toList_perm->xm,toList_push->w4,toList_extract->D6,toList_reverse->D5,getD_eq_getD_getElem?->Pc,getElem_toList->ON,toList_modify->O8,getD->DE
open Array.Perm renaming refl->tJ
open Bool renaming false_ne_true->nh,false_eq_true->oh,and_eq_true->vz
open Classical renaming axiomOfChoice->xc
open False renaming elim->kP
open ForInStep renaming yield->qy,done->DW
open Iff renaming rfl->fQ
open Int renaming le_refl->cD,emod_lt_of_pos->js,emod_nonneg->jq,mul_nonneg->oU,mul_le_mul_of_nonneg_left->Bh,le_ediv_iff_mul_le->JC,le_of_lt->A6,toNat_natCast->Jq,mul_sub->A9,ediv_nonneg->IM,sub_self->Du,add_zero->Dt,mul_one->DC,not_le->DG,mul_zero->Jb,le_trans->IL,mul_comm->IK,zero_add->IJ
open List renaming length_map->aQ,mem_cons_of_mem->bG,mem_cons_self->bw,mem_singleton->bY,mem_cons->br,length_append->cX,mem_append->bW,getElem?_eq_some_iff->gH,size_toArray->dG,getElem?_eq_getElem->gu,mem_append_right->gi,mem_map->cF,mem_append_left->gv,map_map->cJ,append_assoc->fJ,getElem?_set_ne->gW,pairwise_append->gU,map_append->eR,getElem?_set_self->jt,length_cons->gh,not_mem_nil->gq,map_cons->fg,pairwise_cons->iM,drop_eq_getElem_cons->ni,length_take->jr,getElem?_map->kT,take_append_drop->n8,mem_flatMap->j0,replicate->jo,range->fI,getElem_mem->lN,getElem?_append_right->rR,mem_iff_getElem->pV,drop_eq_nil_of_le->rT,length_drop->og,lookup_cons->n9,append_nil->nk,length_pos_iff->qz,pairwise_singleton->tP,getElem?_append_left->vH,flatten_singleton->tO,foldl_cons->oW,length_range->qA,getD_eq_getElem?_getD->xl,mem_of_mem_take->tS,mem_of_mem_drop->tR,take_of_length_le->vt,mem_range->oV,pairwise_iff_getElem->xg,flatten_append->tI,pairwise_map->rO,mem_zipIdx_iff_getElem?->Bg,length->mn,flatMap_cons->tK,length_eq_zero_iff->Bj,map->jn,zipWith->pS,suffix_refl->vv,perm_append_comm->Bm,extract_eq_take_drop->Ep,mem_of_getElem?->Bl,nodup_cons->vF,length_nil->vE,reverse_perm->wZ,getElem?_replicate->Ea,mem_reverse->wY,zip_cons_cons->Bc,length_replicate->D8,foldl_append->Ba,sum_cons->vm,ne_nil_of_length_pos->Jw,map_congr_left->Eg,flatten_cons->Ed,getElem_take->Ec,length_singleton->JB,getElem?_zipWith->JA,eq_nil_or_concat->JL,eq_nil_iff_forall_not_mem->Pt,all_eq_true->Ej,zipIdx_cons->Ei,take_append_of_le_length->Pr,cons_append->Eh,getLast?_eq_some_getLast->Pq,mem_of_getLast?->Jl,filterMap_cons->Jk,of_mem_zip->DO,forIn_cons->DN,sum_append->DM,length_zipWith->Ji,flatMap_append->Jf,map_nil->A0,drop_zero->DV,getLast?_eq_some_iff->Pl,nodup_append->Jo,pairwise_mergeSort->Ph,mem_filter->Js,length_set->IU,dropLast_eq_take->OW,zipIdx_nil->IS,nil_append->IP,mem_iff_getElem?->OT,getElem?_eq_none->OS,getElem?_append->OQ,reverse_reverse->OP,dropLast_concat->OL,getElem?_of_mem->OJ,foldl_nil->I9,drop_take->I0,mergeSort_perm->O7,take_succ_cons->O6,mem_filterMap->O5,zip_nil_right->O4,getElem_range->O2,getElem?_take->O1,append_of_mem->O0,map_singleton->OZ,foldl->DD,toArray->Jc
open List.Pairwise renaming nil->Jp
open List.Perm renaming append_left->Jz,refl->DX
open Nat renaming le_refl->bo,ne_of_lt->dq,le_trans->eQ,lt_of_lt_of_le->jI,lt_irrefl->lO,eq_zero_of_not_pos->vq,le_add_right->rN,zero_le->n6,lt_of_succ_lt->vD,lt_succ_self->vy,lt_of_le_of_ne->Bb,zero_add->tF,le_of_not_lt->Bf,ne_of_gt->vo,add_sub_cancel_left->JE,le_of_lt->w8,add_le_add_right->JJ,le_antisymm->DJ,sub_self->A7,le_succ->A3,mul_assoc->D4,min_eq_left->IQ,le_of_sub_eq_zero->OU,mul_le_mul_right->OK,log2_lt->DA,add_assoc->IW,lt_trans->Jd
open Ne renaming symm->fH
open Option renaming bind_some->rM,map_eq_some_iff->Bi,map->tG,isNone->D0,map_some->IT,getD_none->OI
open Option.some renaming inj->dj,injEq->dY
open Or renaming inr->bX,inl->di
open PyProof.Rows renaming wpS_bind->aN,wpS_pure->aX,callWith_type1->vI,wpS_forRange->kW,slot_tuple_getitem->Em,wpS_mono->kR,mirror_perm->rJ,wpS_modify->qx,listUpdate_at->w9,listItems_at->w6,wpS_get->n0,callWith_builtin_kwB->Jm,getElem?_mirror_all->Jg,get?_update_seq->DI,pairsOf_toList->DU,pairsOf_size->Dv,mirror_size->Dx,seqEpoch_at->Dw,boot_range->DH,size_push'->DF
open PyProof.Rows.SortSt renaming mk'->AZ
open PySem renaming wpAny_bind->ao,wpAny_pure->aU,wpAny_seqItems->kX,sizeLine_eq->iY,wpAny_tryCatch->nj,wpAny_holding->nr,wpAny_newObj_type->qB,wpAny_pyIter_tuple->rV,wpAny_field->lL,wpAny_letGo->lK,wpAny_callSpecial?_slot->xf,plainId_quiet->oS,wpAny_truthy_bool->tL,codeAny_builtin->rQ,wpAny_updateSeq->rP,wpAny_mono->m9,mem_of_lookup->xk,wpAny_call_entry->vC,wpAny_Call_Name_kw->xi,wpAny_setField_rec->xh,Builtin->c11,wpAny_passesOwn->vG,wpAny_pyIter_list->w5,wpAny_loadPart'->D7,wpAny_rule->tH,wpAny_updateSeq_pair->JK,wpAny_attempt->A2,wpAny_execs_nil->DP,wpAny_pyIter_range->Je,intBits_le_64->DT,wpAny_onRaise->DR,wpAny_newList->DQ,noFill_tuple_add->Jv,codeAny_mono->DZ,wpAny_newTuple->Ja,wpAny_of_eq->Dz,wpAny_standAt->IZ,seq_tuple_add->IY
open PySem.Around renaming under_plainId->rS
open PySem.AutoSeq1 renaming wpAny_loadPart'->Eb,sub_tuple_tuple->Pk
open PySem.Builtin.Builtins renaming bindParams->Jy
open PySem.Builtin.Int renaming intBits->Jj
open PySem.Builtin.List renaming listItems->D9,listTooLong->JH
open PySem.Builtin.Range renaming rangeSize->Bk,small->Jh,rangeFitsLong->Pd
open PySem.Builtin.Slice renaming slicePlaces->Er,sliceAdjust->Jx,sliceApplied->Pa
open PySem.Builtin.SmallTypes renaming nextOf->tQ,ownedTupleIsFree->Ek,ownedTupleHandOut->Po
open PySem.Builtin.Tuple renaming tupleExact->Eo,tupleCompareSizes->Pp
open PySem.Calls renaming spliced_cons->Ef,spliced_nil->Ee,Name_function_global->Pb,callWith_builtin->Pm
open PySem.Data renaming cell->vk,fields->A4
open PySem.F renaming plain_min_loop->nq,slot_tuple_iterator_next->El,plain_max_loop->vw,entry_min_loop->wX,args_tuple_add_2->JI,entry_tuple_add->JG,plainAttrs_list->JF,slot_tuple_add->JD,args_tuple_iterator_next_1->Pf,entry_tuple_iterator_next->Pe,slot_zip_next->DK,entry_max_loop->Jt,slot_list_append->OY,slot_list_extend->OX,slot_enumerate_next->OV,slot_list_pop->O3
open PySem.Heap renaming get?_push_of_some->bC,get?_update_other->fU,get?_push_size->fj,lt_size->bU,get?_update_self->tN,size_push->oi,get?_update_ne->xj,SameBut->A1,IsTuple->A8,size_update->Ju,IsList->Dy
open PySem.Heap.IsList renaming push->OG
open PySem.Heap.SameBut renaming update->O9
open PySem.IsRange renaming new->DB
open PySem.NameKind renaming free->n5,cell->vn
open PySem.Obj renaming mapSeq->fS
open PySem.PassesOwn renaming never->OF
open PySem.Shared renaming heap->rK
open PySem.Str renaming ofString->rL
open PySem.Value renaming ref->dX,none->gr,bool->kQ,int->lM,type->vj,notImplemented->OR
open PySem.W renaming Frag->aJ,fnOf->ju,mg_none_of->pT,nsIn->m8,tabIn->oT,kas_rev->m7,tabObj->Be,keepIn->Bd,kas_descPart->A5,codeIn->DY,methodObj->Jr,kas_desc->tE,cellsFrom_some->Pn,kas_place->wW,mg_of->IX,codeHdIn->OH,kas_sort->AY,OpenLaw->OE
open PySem.W.WData renaming layableAll->Pj,int->DS,weightAll->Pg,weight->OM,list->OD
open Sum renaming inl->vi,inr->vh
theorem T1{a b c:Nat}(h:a+c<=b):a<=b:=eQ (rN _ _) h
theorem TZ{a b c:Nat}(h:a<=b):a-c<=b:=eQ (Nat.sub_le _ _) h
namespace L2
open PySem PySem.Spec PyProof.Rows
abbrev Key:=Sum Int Str
def PM:Key->Value->Bool
 | .inl k,v=>Value.isInt k v
 | .inr x,v=>Value.isStrOf x v
def G4(w:World):Key->Int
 | .inl k=>hashInt k
 | .inr x=>hashStr w x
theorem sr:∀{k:Key} {v:Value},PM k v=true->(∃i t,k=vi i/\v=lM i t)\/(∃x t,k=vh x/\v=Value.str x t)
 | .inl i,v,h=>by
  obtain ⟨t,e⟩:=Value.isInt_shape (k:=i) (v:=v) h
  exact .inl ⟨i,t,rfl,e⟩
 | .inr x,v,h=>by
  obtain ⟨t,e⟩:=Value.isStrOf_shape (x:=x) (v:=v) h
  exact .inr ⟨x,t,rfl,e⟩
theorem b8E(a b:Int):decide ((vi a:Key)=vi b)=(a==b):=by
 by_cases e:a=b
 .subst e;simp
 .have h:¬(vi a:Key)=vi b:=λq=>e (Sum.inl.inj q)
  rw [decide_eq_false h]
  exact (beq_eq_false_iff_ne.mpr e).symm
theorem b8B(a b:Str):decide ((vh a:Key)=vh b)=decide (a=b):=by
 by_cases e:a=b
 .subst e;simp
 .have h:¬(vh a:Key)=vh b:=λq=>e (Sum.inr.inj q)
  rw [decide_eq_false h,decide_eq_false e]
theorem b8D(a:Int)(b:Str):decide ((vi a:Key)=vh b)=false:=decide_eq_false (λq=>nomatch q)
theorem b8C(a:Str)(b:Int):decide ((vh a:Key)=vi b)=false:=decide_eq_false (λq=>nomatch q)
def KJ(prog:Program)(w:World):PySem.KeyKind prog w Key where
 is:=PM
 hash:=G4 w
 inj:=λv a b ha hb=>by
  rcases sr ha with ⟨i,t,rfl,rfl⟩ | ⟨x,t,rfl,rfl⟩
  .rcases sr hb with ⟨j,u,rfl,e⟩ | ⟨y,u,rfl,e⟩
   .injection e with e1 _;rw [e1]
   .exact nomatch e
  .rcases sr hb with ⟨j,u,rfl,e⟩ | ⟨y,u,rfl,e⟩
   .exact nomatch e
   .injection e with e1 _;rw [e1]
 byValue:=λk v h=>by
  rcases sr h with ⟨i,t,rfl,rfl⟩ | ⟨x,t,rfl,rfl⟩<;>rfl
 pyHash:=λhv h=>by
  rcases sr hv with ⟨i,t,rfl,rfl⟩ | ⟨x,t,rfl,rfl⟩
  .exact wpAny_pyHash_int h
  .exact wpAny_pyHash_str h
 eqBool:=λhu hv h=>by
  rcases sr hu with ⟨i,t,rfl,rfl⟩ | ⟨x,t,rfl,rfl⟩
  .rcases sr hv with ⟨j,u,rfl,rfl⟩ | ⟨y,u,rfl,rfl⟩
   .rw [b8E] at h;exact wpAny_eqBool_int h
   .rw [b8D] at h;exact SeqAt.EqAt.int_str i t y u _ _ _ _ h
  .rcases sr hv with ⟨j,u,rfl,rfl⟩ | ⟨y,u,rfl,rfl⟩
   .rw [b8C] at h;exact SeqAt.EqAt.str_int x t j u _ _ _ _ h
   .rw [b8B] at h;exact wpAny_eqBool_str h
 «strs»:=λk x t v h=>by
  rcases sr h with ⟨i,u,rfl,e⟩ | ⟨y,u,rfl,e⟩
  .exact nomatch e
  .injection e with e1 _
   subst e1
   cases v<;>rfl
end L2
namespace L2
open PySem PySem.Spec PyProof.Rows
inductive V where
 | aR | bl (b:Bool) | int (i:Int) | str (x:Str) | Bn (b:Array UInt8) | Iu (b:UInt64) | ref (a:Addr) | ty (n:String)
 deriving DecidableEq
def RelV:V->Value->Prop
 | .aR,u=>u=gr
 | .bl b,u=>u=kQ b
 | .int i,u=>∃t,u=lM i t
 | .str x,u=>∃t,u=Value.str x t
 | .Bn b,u=>∃t,u=Value.bytes b t
 | .Iu b,u=>∃t,u=Value.float b t
 | .ref a,u=>u=dX a
 | .ty n,u=>u=vj n
abbrev aA:List V->List Value->Prop:=Paired RelV
theorem aA.length(r:aA xs us):xs.length=us.length:=Paired.length r
theorem aA.get:∀{xs:List V} {us:List Value} {i:Nat} {x:V},aA xs us->xs[i]?=some x->∃u,us[i]?=some u/\RelV x u
 | _,_,_,_,.nil,e=>by simp at e
 | _,_,0,_,.cons r _,e=>by simp at e;subst e;exact ⟨_,rfl,r⟩
 | _,_,i+1,x,.cons _ t,e=>by
  obtain ⟨u,h1,h2⟩:=aA.get (i:=i) (x:=x) t (by simpa using e)
  exact ⟨u,by simpa using h1,h2⟩
theorem aA.set(r:RelV x u):∀{xs:List V} {us:List Value} (i:Nat),aA xs us->aA (xs.set i x) (us.set i u)
 | _,_,_,.nil=>.nil
 | _,_,0,.cons _ t=>.cons r t
 | _,_,i+1,.cons q t=>.cons q (aA.set r i t)
theorem aA.append:∀{xs ys:List V} {us ws:List Value},aA xs us->aA ys ws->aA (xs++ys) (us++ws)
 | _,_,_,_,.nil,s=>s
 | _,_,_,_,.cons r t,s=>.cons r (aA.append t s)
theorem aA.take:∀{xs:List V} {us:List Value} (n:Nat),aA xs us->aA (xs.take n) (us.take n)
 | _,_,0,_=>.nil
 | _,_,_+1,.nil=>.nil
 | _,_,n+1,.cons r t=>.cons r (aA.take n t)
theorem aA.drop:∀{xs:List V} {us:List Value} (n:Nat),aA xs us->aA (xs.drop n) (us.drop n)
 | _,_,0,r=>r
 | _,_,_+1,.nil=>.nil
 | _,_,n+1,.cons _ t=>aA.drop n t
def CC:Option V->Option Value->Prop
 | some v,some u=>RelV v u
 | none,none=>True
 | _,_=>False
def KV{κ:Type}:List (κ×V)->List (κ×Value)->Prop:=Paired λ(p:κ×V) (q:κ×Value)=>p.1=q.1/\RelV p.2 q.2
def kV:Key->V
 | .inl i=>.int i
 | .inr x=>.str x
inductive HO where
 /-- a list -/
 | lst (xs:List V)
 /-- a tuple (never changes) -/
 | tup (xs:List V)
 /-- a dict sH keys are ints and texts;one sH keys are tuples of ints and texts (sI empty one is both) -/
 | dK (bB:List (Key×V)) | dT (bB:List (List Key×V))
 /-- a set of ints: ak members,ak size -/
 | set (S:Int->Bool) (n:Nat)
 /-- an instance of sI class at C,ak dict at dx,ak attributes -/
 | ins (C dx:Addr) (fs:List (Str×V))
 /-- sI dict of sI instance at x -/
 | own (x:Addr)
 /-- sI dict of an exception -/
 | xd (fs:List (Str×V))
 /-- a bound method,f of x -/
 | met (f x:Addr)
 /-- a range object lo,lo+1,.. below hi -/
 | GB (lo hi:Int)
 /-- a yt T7 is known to sI object (sI script;a dict while a loop walks it): read,never written while it is so -/
 | kJ (o:Obj) (u:HO)
 /-- a code pB table -/
 | uw (ps:Array Value)
 /-- a code pB table sH codes are all called q,and are ak own -/
 | tab (q:Str)
 /-- any other yt,by T3 is true of ak one object (a def of NB own: SetO a S n:=HO.ext λh=>..) -/
 | ext (φ:Heap->Prop)
def ownOf:HO->Option Addr
 | .own x=>some x
 | .kJ _ (.own x)=>some x
 | _=>none
def b8I(q:Str)(o:Obj):Prop:=∃vs t,o.data=.fields vs/\vs[1]?=some (.str q t)
abbrev Hp:=Addr->Option HO
def upd(H:Hp)(a:Addr)(o:HO):Hp:=λb=>if b=a then some o else H b
theorem qd:upd H a o a=some o:=by unfold upd;rw [if_pos rfl]
theorem df(h:b≠a):upd H a o b=H b:=by unfold upd;rw [if_neg h]
theorem qe{H:Hp}{a b:Addr}{o:HO}(h:H a=some o)(h':H b=none):a≠b:=by
 intro e;subst e;rw [h] at h';cases h'
section
variable (P:Program)(w:World)
def cH(H:Hp)(h:Heap)(a:Addr):HO->Prop
 | .lst xs=>xs.length<=sizeLine/\∃(ak:List Value) (n:Nat),aA xs ak/\h.get? a=some { cls:=.type "list",data:=.seq ak.toArray n }
 | .tup xs=>xs.length<=sizeLine/\∃ak:List Value,aA xs ak/\IsTup h a ak.toArray
 | .dK bB=>bB.length<=sizeLine/\(a==sysModules)=false/\∃vs,KV bB vs/\h.DictOf (KJ P w) a vs
 | .dT bB=>bB.length<=sizeLine/\(a==sysModules)=false/\∃xs:List (List Key×Addr×Value),
   Paired (λ(p:List Key×V) (q:List Key×Addr×Value)=>p.1=q.1/\H q.2.1=some (.tup (p.1.map kV))/\RelV p.2 q.2.2) bB xs /\
   ∃o es ep,h.get? a=some o/\o.ExactDict/\o.data=.dict es ep/\es.toList=xs.map (entryOfKey (tupleKind (KJ P w)))/\(xs.map (·.1)).Nodup
 | .set S n=>h.SetOf (intKind P w) a S n
 | .ins C dx fs=>H dx=some (.own a)/\fs.length<=1000/\dx≠a/\h.get? a=some (PySem.W.instObj C dx) /\
   ∃mA,h.Ns1 dx mA/\(∀f,CC (fs.lookup f) (mA f))/\PySem.Within mA (fs.map (·.1))
 | .own _=>∃o,h.get? a=some o
 | .xd fs=>∃mA,h.Ns1 a mA/\∀f,CC (fs.lookup f) (mA f)
 | .GB lo hi=>∃t u v,h.get? a=some { cls:=.type "range",data:=.fields #[.int lo t,.int hi u,.int 1 v] }
 | .kJ o u=>h.get? a=some o/\cH H h a u
 | .uw ps=>h.get? a=some { cls:=.none,data:=.fields ps }
 | .tab q=>∃ps,h.get? a=some (Be ps)/\TriplesOk ps.toList/\∀pos cv,codeAmong pos ps.toList=some cv->∃c oc,cv=.ref c/\H c=some (.kJ oc (.own a))/\b8I q oc
 | .met f x=>h.get? a=some (Jr (.ref f) (.ref x))
 | .ext φ=>φ h/\(∃o,h.get? a=some o)/\∀h1 h2:Heap,φ h1->(∀o,h1.get? a=some o->h2.get? a=some o)->φ h2
def iK(H:Hp)(h:Heap):Prop:=∀a o,H a=some o->cH P w H h a o
end
section
variable {P:Program}{w:World}{H H':Hp}{h h':Heap}{a:Addr}{o:HO}
theorem cH.lt(x:cH P w H h a o):a<h.objs.size:=by
 cases o with
 | lst xs=>obtain ⟨_,_,_,_,e⟩:=x;exact bU e
 | tup xs=>obtain ⟨_,_,_,p⟩:=x;exact p.lt
 | dK bB=>obtain ⟨_,_,_,_,o,_,_,e,_⟩:=x;exact bU e
 | dT bB=>obtain ⟨_,_,_,_,o,_,_,e,_⟩:=x;exact bU e
 | set S n=>obtain ⟨o,_,_,_,e,_⟩:=x;exact bU e
 | ins C dx fs=>obtain ⟨_,_,_,e,_⟩:=x;exact bU e
 | own y=>obtain ⟨_,e⟩:=x;exact bU e
 | xd fs=>obtain ⟨_,⟨_,_,_,e,_⟩,_⟩:=x;exact bU e
 | GB lo hi=>obtain ⟨_,_,_,e⟩:=x;exact bU e
 | kJ ob u=>obtain ⟨e,_⟩:=x;exact bU e
 | uw ps=>exact bU (show h.get? a=some _ from x)
 | tab q=>obtain ⟨_,e,_⟩:=x;exact bU e
 | met f y=>exact bU (show h.get? a=some _ from x)
 | ext φ=>obtain ⟨_,⟨_,e⟩,_⟩:=x;exact bU e
theorem Paired.zo{α β:Type}{F G:α->β->Prop}:∀{zp:List α} {l₂:List β},Paired F zp l₂->(∀a b,F a b->G a b)->Paired G zp l₂
 | _,_,.nil,_=>.nil
 | _,_,.cons r t,f=>.cons (f _ _ r) (Paired.zo t f)
theorem cH.km(x:cH P w H h a o)(k:∀b u,(b=a\/H b=some (.own a))->h.get? b=some u->h'.get? b=some u)
  (ho:∀b u,ownOf u=some a->H b=some u->H' b=some u)(ht:∀b xs,H b=some (.tup xs)->H' b=some (.tup xs)):cH P w H' h' a o:=by
 induction o with
 | lst xs=>obtain ⟨z,ak,n,r,e⟩:=x;exact ⟨z,ak,n,r,k _ _ (.inl rfl) e⟩
 | tup xs=>obtain ⟨z,ak,r,ob,e,c⟩:=x;exact ⟨z,ak,r,ob,k _ _ (.inl rfl) e,c⟩
 | dK bB=>obtain ⟨z,y,vs,r,ob,es,ep,e,c⟩:=x;exact ⟨z,y,vs,r,ob,es,ep,k _ _ (.inl rfl) e,c⟩
 | dT bB =>
  obtain ⟨z,y,xs,r,ob,es,ep,e,c⟩:=x
  exact ⟨z,y,xs,Paired.zo r λp q z=>⟨z.1,ht _ _ z.2.1,z.2.2⟩,ob,es,ep,k _ _ (.inl rfl) e,c⟩
 | set S n=>obtain ⟨ob,es,ep,t,e,c⟩:=x;exact ⟨ob,es,ep,t,k _ _ (.inl rfl) e,c⟩
 | ins C dx fs =>
  obtain ⟨d,z,ne,e,mA,⟨od,es,ep,e2,c⟩,r⟩:=x
  exact ⟨ho _ _ rfl d,z,ne,k _ _ (.inl rfl) e,mA,⟨od,es,ep,k _ _ (.inr d) e2,c⟩,r⟩
 | own y=>obtain ⟨ob,e⟩:=x;exact ⟨ob,k _ _ (.inl rfl) e⟩
 | xd fs=>obtain ⟨mA,⟨od,es,ep,e,c⟩,r⟩:=x;exact ⟨mA,⟨od,es,ep,k _ _ (.inl rfl) e,c⟩,r⟩
 | GB lo hi=>obtain ⟨t,u,v,e⟩:=x;exact ⟨t,u,v,k _ _ (.inl rfl) e⟩
 | kJ ob u ih=>obtain ⟨e,q⟩:=x;exact ⟨k _ _ (.inl rfl) e,ih q⟩
 | uw ps =>
  have e:h.get? a=some { cls:=.none,data:=.fields ps }:=x
  show h'.get? a=some { cls:=.none,data:=.fields ps }
  exact k a _ (.inl rfl) e
 | tab q =>
  obtain ⟨ps,e,ht,z⟩:=x
  exact ⟨ps,k _ _ (.inl rfl) e,ht,λpos cv hc=>let ⟨c,oc,e1,e2,e3⟩:=z pos cv hc;⟨c,oc,e1,ho _ _ rfl e2,e3⟩⟩
 | met f y =>
  have e:h.get? a=some (Jr (.ref f) (.ref y)):=x
  show h'.get? a=some (Jr (.ref f) (.ref y))
  exact k a _ (.inl rfl) e
 | ext φ=>obtain ⟨p,⟨o,e⟩,st⟩:=x;exact ⟨st _ _ p λo q=>k _ _ (.inl rfl) q,⟨o,k _ _ (.inl rfl) e⟩,st⟩
theorem iK.lt(x:iK P w H h)(e:H a=some o):a<h.objs.size:=(x a o e).lt
theorem iK.fresh(x:iK P w H h)(e:h.objs.size<=a):H a=none:=by
 cases q:H a with
 | none=>rfl
 | some u=>exact absurd (jI (x.lt q) e) (lO _)
theorem iK.kept(x:iK P w H h)(k:∀b u,h.get? b=some u->h'.get? b=some u):iK P w H h':=λa o e =>
 (x a o e).km (λb u _ q=>k b u q) (λ_ _ _ q=>q) λ_ _ q=>q
theorem iK.laid(x:iK P w H h)(k:∀b u,h.get? b=some u->h'.get? b=some u)(hp:h.objs.size<=a)(new:cH P w (upd H a o) h' a o):iK P w (upd H a o) h':=λb u e=>by
 have hn:=x.fresh hp
 by_cases hb:b=a
 .subst hb;rw [qd] at e;cases e;exact new
 .rw [df hb] at e
  exact (x b u e).km (λc v _ q=>k c v q) (λc _ _ q=>by rw [df (qe q hn)];exact q) λc xs q=>by rw [df (qe q hn)];exact q
end
def Rd(H:Hp)(a:Addr)(u:HO):Prop:=H a=some u\/∃o,H a=some (.kJ o u)
theorem Rd.ok(r:Rd H a u)(x:iK P w H h):cH P w H h a u:=by
 rcases r with r | ⟨o,r⟩
 .exact x a u r
 .obtain ⟨_,q⟩:=x a _ r
  exact q
def F7:Option HO->Prop
 | some (.lst _)=>True
 | some (.dK _)=>True
 | some (.dT _)=>True
 | some (.set _ _)=>True
 | some (.ins _ _ _)=>True
 | some (.ext _)=>True
 | some (.tab _)=>True
 | _=>False
section
variable {P:Program}{w:World}{H:Hp}{h h':Heap}{x e:Addr}{o':HO}
theorem iK.write(ok:iK P w H h)(mu:F7 (H x))(he:e=x\/H e=some (.own x))(k:∀b u,b≠e->h.get? b=some u->h'.get? b=some u)(tj:∃u,h'.get? e=some u)
  (new:cH P w (upd H x o') h' x o'):iK P w (upd H x o') h':=λb u q=>by
 have GS:∀c y,H c=some (.own y)->c≠x:=λc y r z=>by subst z;rw [r] at mu;exact mu
 have GR:∀c xs,H c=some (.tup xs)->c≠x:=λc xs r z=>by subst z;rw [r] at mu;exact mu
 have GU:∀c y u,ownOf u=some y->H c=some u->c≠x:=λc y u hu r z=>by
  subst z;rw [r] at mu
  cases u with
  | own y=>exact mu
  | kJ o v=>exact mu
  | _=>cases hu
 by_cases hb:b=x
 .subst hb;rw [qd] at q;cases q;exact new
 .rw [df hb] at q
  by_cases u4:b=e
  .have q':H b=some (.own x):=by
    rcases he with z | z
    .exact absurd (u4.trans z) hb
    .rw [u4];exact z
   rw [q] at q';cases q'
   obtain ⟨v,hv⟩:=tj
   exact ⟨v,by rw [u4];exact hv⟩
  .refine (ok b u q).km (λc v hc r=>k c v ?_ r) (λc u hu r=>by rw [df (GU c b u hu r)];exact r) λc xs r=>by rw [df (GR c xs r)];exact r
   rcases hc with rfl | hc
   .exact u4
   .rintro rfl
    rcases he with z | z
    .exact GS c b hc z
    .rw [hc] at z;cases z;exact hb rfl
end
structure Un(fs ex:List Addr)(H H':Hp)(h h':Heap):Prop where
 keep:∀b o,h.get? b=some o->H b=none->b∉fs->b∉ex->h'.get? b=some o
 slot:∀b o,h.get? b=some o->H b=none->b∈fs->b∉ex->∃sl,h'.get? b=some { o with slots:=sl }
 free:∀b o,h.get? b=some o->H b=none->b∉ex->H' b=none
 there:∀b o,h.get? b=some o->b∉ex->∃o',h'.get? b=some o'
 dP:∀b xs,H b=some (.tup xs)->H' b=some (.tup xs)
 iS:∀b o u,H b=some (.kJ o u)->H' b=some (.kJ o u)
 jy:∀b ps,H b=some (.uw ps)->∃more,H' b=some (.uw (ps++more))
section
variable {fs ZO ex OA:List Addr}{H H1 H2:Hp}{h h1 h2 h':Heap}{a x e:Addr}{o:HO}
theorem Un.any(u:Un fs ex H H1 h h1)(q:h.get? b=some ob)(n:H b=none)(hx:b∉ex):∃sl,h1.get? b=some { ob with slots:=sl }:=by
 by_cases hb:b∈fs
 .exact u.slot b ob q n hb hx
 .exact ⟨ob.slots,u.keep b ob q n hb hx⟩
theorem Un.kept(k:∀b u,h.get? b=some u->h'.get? b=some u):Un fs ex H H h h':=
 ⟨λb ob q _ _ _=>k b ob q,λb ob q _ _ _=>⟨ob.slots,k b ob q⟩,λ_ _ _ n _=>n,λb ob q _=>⟨ob,k b ob q⟩,λ_ _ q=>q,λ_ _ _ q=>q,λ_ ps q=>⟨#[],by rw [q];simp⟩⟩
theorem Un.refl:Un fs ex H H h h:=Un.kept λ_ _ q=>q
theorem Un.laid(k:∀b u,h.get? b=some u->h'.get? b=some u)(hp:h.objs.size<=a)(hn:H a=none):Un fs ex H (upd H a o) h h' where
 keep:=λb u q _ _ _=>k b u q
 slot:=λb u q _ _ _=>⟨u.slots,k b u q⟩
 free:=λb u q n _=>by rw [df (dq (jI (bU q) hp))];exact n
 there:=λb u q _=>⟨u,k b u q⟩
 dP:=λb xs q=>by rw [df (qe q hn)];exact q
 iS:=λb u xs q=>by rw [df (qe q hn)];exact q
 jy:=λb ps q=>⟨#[],by rw [df (qe q hn),q];simp⟩
theorem Un.write(mu:F7 (H x))(he:e=x\/H e=some (.own x))(k:∀b u,b≠e->h.get? b=some u->h'.get? b=some u)(tj:∃u,h'.get? e=some u):Un fs ex H (upd H x o) h h':=by
 have hx:∀b,H b=none->b≠x:=λb n z=>by subst z;rw [n] at mu;exact mu
 have hb:∀b,H b=none->b≠e:=λb n z=>by
  subst z
  rcases he with r | r
  .exact hx b n r
  .rw [n] at r;cases r
 have hm:∀b u,H b=some u->¬F7 (some u)->b≠x:=λb u q nm z=>by subst z;rw [q] at mu;exact nm mu
 refine ⟨λb u q n _ _=>k b u (hb b n) q,λb u q n _ _=>⟨u.slots,k b u (hb b n) q⟩,λb u q n _=>by rw [df (hx b n)];exact n,λb u q _=>?_,
  λb xs q=>by rw [df (hm b _ q λz=>z)];exact q,λb u xs q=>by rw [df (hm b _ q λz=>z)];exact q,λb ps q=>⟨#[],by rw [df (hm b _ q λz=>z),q];simp⟩⟩
 by_cases u4:b=e
 .subst u4;exact tj
 .exact ⟨u,k b u u4 q⟩
end
def CT(h:Heap)(H:Hp):List Addr:=(fI h.objs.size).filter λa=>(H a).isSome
def jE(h:Heap)(H:Hp):Heap:=PySem.W.hideAll h (CT h H)
theorem b2p(h:Heap)(H:Hp):(jE h H).objs.size=h.objs.size:=PySem.W.hideAll_size _ _
theorem b4t(e:h.get? b=some o)(n:H b=none):(jE h H).get? b=some o:=
 PySem.W.hideAll_get _ e λhm=>by
  have q:(H b).isSome=true:=(Js.mp hm).2
  rw [n] at q;simp at q
theorem b6u(e:(jE h H).get? b=some o):h.get? b=some o/\H b=none:=by
 have e':h.get? b=some o:=PySem.W.of_hideAll (CT h H) e
 refine ⟨e',?_⟩
 cases q:H b with
 | none=>rfl
 | some x =>
  have hm:b∈CT h H:=Js.mpr ⟨oV.mpr (bU e'),by simp [q]⟩
  have z:(jE h H).get? b=none:=PySem.W.hideAll_none (CT h H) hm
  rw [z] at e;cases e
end L2
namespace L2
open PySem PySem.Spec PyProof.Rows
structure Mod(K:aJ)(mg:Str->Option Value)(base:Heap):Prop where
 G3:K.In base
 glob:base.Ns mainGlobals mg
 blt:∃mb,base.Ns builtinsNs mb/\∀x:Str,x ≠ "__name__" -> mb x=bootBuiltins x
 nolimit:base.NoLimit
 bmod:∃bm ob,mg "__builtins__" = some (.ref bm)/\bm≠builtinsNs/\base.get? bm=some ob/\ob.cls=.type "module" /\ ob.dict=some builtinsNs/\ob.data=.plain
structure Cx where
 prog:Program
 w:World
 K:aJ
 mg:Str->Option Value
 base:Heap
 A:Around
 N:List Str
 dB:Shared
 qj:Hp
 env:Env
 outer:List Env
 stack:List Env
 ex:List Addr
 fn:Str->Bool
 calm:Bool
 pn:List (Addr×Obj)
 xe:Value->Shared->Prop
def oR(l:List Env):List Addr:=l.filterMap (·.frame)
abbrev Cx.fs(X:Cx):List Addr:=oR X.outer
def jV(sc:Scope)(x:Str):Prop:=sc.names.lookup x=some .local\/sc.names.lookup x=some .cell\/sc.names.lookup x=some .free
def Loc(sc:Scope)(x:Str):Prop:=sc.names.lookup x=some .local\/sc.names.lookup x=some .cell
def Look(env:Env)(h:Heap)(m:Str->Option Value)(x:Str)(u:Value):Prop:=
 (env.kindOf x=some .local/\m x=some u)\/((env.kindOf x=some .cell\/env.kindOf x=some .free)/\∃c,env.cells.lookup x=some c/\h.IsCell c (some u))
structure Cx.Ok(X:Cx):Prop where
 mod:Mod X.K X.mg X.base
 kind:X.env.scope.kind=.function
 glob:X.env.globals=mainGlobals
 blt:X.env.builtins=builtinsNs
 above:X.dB.heap.objs.size<=X.env.locals
 inj:∀x y c,X.env.cells.lookup x=some c->X.env.cells.lookup y=some c->x=y
 has:∀x,(X.env.kindOf x=some .cell\/X.env.kindOf x=some .free)->∃c,X.env.cells.lookup x=some c
 AX:∀x c,X.fn x=true->X.env.cells.lookup x=some c->X.dB.heap.objs.size<=c
 hd:X.calm=true->X.A.handled=none
 frames:X.A.frames=some X.stack
 CV:X.stack=X.outer\/(X.stack=X.env::X.outer/\X.env.frame=some X.env.locals)
 Oy:∀b∈X.ex,b≠X.env.locals/\∀x c,X.env.cells.lookup x=some c->c≠b
 bs:∀b o,X.base.get? b=some o->X.dB.heap.get? b=some o/\X.qj b=none
 rW:X.base.objs.size<=X.dB.heap.objs.size
 pC:∀b o,X.base.get? b=some o->b∉X.ex
 rE:∀b∈X.ex,b∉X.fs
 gF:X.dB.heap.FunFrames X.base X.outer
 ve:∀b∈X.fs,X.qj b=none
structure Inv(X:Cx)(pins:List (Addr×Obj))(σ:List (Option V))(H:Hp)(s:Shared):Prop where
 ok:X.Ok
 os:s.os=X.dB.os
 bare:AllBare s.gens
 base:Un X.fs X.ex X.qj H X.dB.heap s.heap
 loc:∃m,s.heap.Ns X.env.locals m/\∀(i:Nat) (x:Str) (v:V),X.N[i]?=some x->σ[i]?=some (some v)->jV X.env.scope x->∃u,RelV v u/\Look X.env s.heap m x u
 cell:∀x c,X.env.cells.lookup x=some c->∃v,s.heap.IsCell c v
 free:H X.env.locals=none
 fm:∀x c,X.env.cells.lookup x=some c->H c=none
 pin:∀p∈X.pn++pins,s.heap.get? p.1=some p.2/\H p.1=none/\p.1≠X.env.locals/\p.1∉X.fs/\∀v,p.2.data≠.cell v
 bh:iK X.prog X.w H s.heap
 len:σ.length=X.N.length
section
variable {X:Cx}{pins:List (Addr×Obj)}{σ:List (Option V)}{H H':Hp}{s:Shared}{h':Heap}
theorem Cx.Ok.GX(ok:X.Ok)(e:X.base.get? b=some o):b∉X.fs:=λhb=>by
 have:=(ok.gF.mem hb).1
 rw [e] at this;cases this
theorem Inv.bs(I:Inv X pins σ H s):∀b o,X.base.get? b=some o->s.heap.get? b=some o/\H b=none:=λb o e =>
 ⟨I.base.keep b o (I.ok.bs b o e).1 (I.ok.bs b o e).2 (I.ok.GX e) (I.ok.pC b o e),I.base.free b o (I.ok.bs b o e).1 (I.ok.bs b o e).2 (I.ok.pC b o e)⟩
theorem Inv.bk(I:Inv X pins σ H s):∀b o,X.base.get? b=some o->s.heap.get? b=some o:=λb o e=>(I.bs b o e).1
theorem Inv.mod(I:Inv X pins σ H s):Mod X.K X.mg X.base:=I.ok.mod
theorem Inv.uM(I:Inv X pins σ H s):X.K.In s.heap:=I.ok.mod.G3.keeps I.bk
theorem Inv.lt(I:Inv X pins σ H s):X.env.locals<s.heap.objs.size:=let ⟨_,hn,_⟩:=I.loc;hn.lt
theorem Inv.sz(I:Inv X pins σ H s):X.dB.heap.objs.size<=s.heap.objs.size:=eQ I.ok.above (w8 I.lt)
theorem Inv.GW(I:Inv X pins σ H s){a:Addr}(h:s.heap.objs.size<=a):a∉X.fs:=λhb=>by
 obtain ⟨_,o,ho,_⟩:=I.ok.gF.mem hb
 exact absurd (jI (bU ho) (eQ I.sz h)) (lO _)
theorem Inv.vg(I:Inv X pins σ H s):∀x c,X.env.cells.lookup x=some c->c≠X.env.locals:=λx c e z=>by
 obtain ⟨v,o,ho,hd⟩:=I.cell x c e
 obtain ⟨m,⟨o',es,ep,jD,pN,_⟩,_⟩:=I.loc
 rw [z,jD] at ho;cases ho;rw [pN] at hd;cases hd
theorem Inv.gF(I:Inv X pins σ H s):s.heap.FunFrames X.base X.outer:=by
 have all:∀(l:List Env),(∀b∈oR l,b∈X.fs)->X.dB.heap.FunFrames X.base l->s.heap.FunFrames X.base l:=by
  intro l
  induction l with
  | nil=>intro _ _;trivial
  | cons env r ih =>
   intro hs hl
   obtain ⟨hk,⟨L,o,hf,hn,ho,hd⟩,hr⟩:=hl
   have hL:L∈X.fs:=hs L (by unfold oR;rw [Jk,hf];exact bw)
   obtain ⟨sl,e⟩:=I.base.slot L o ho (I.ok.ve L hL) hL λz=>I.ok.rE L z hL
   exact ⟨hk,⟨L,_,hf,hn,e,hd⟩,ih (λb hb=>hs b (by unfold oR;rw [Jk,hf];exact bG _ hb)) hr⟩
 exact all X.outer (λ_ hb=>hb) I.ok.gF
theorem Inv.stack(I:Inv X pins σ H s):s.heap.FunFrames X.base X.stack:=by
 rcases I.ok.CV with e | ⟨e,hf⟩
 .rw [e];exact I.gF
 .rw [e]
  obtain ⟨m,hn,_⟩:=I.loc
  refine .cons (by rw [I.ok.kind];decide) hf hn ?_ I.gF
  exact Heap.get?_none_of_le (eQ I.ok.rW I.ok.above)
theorem Inv.ij(I:Inv X pins σ H s):∀b∈oR X.stack,b∈X.env.locals::X.fs:=λb hb=>by
 rcases I.ok.CV with e | ⟨e,hf⟩
 .rw [e] at hb;exact bG _ hb
 .rw [e] at hb
  unfold oR at hb
  rw [Jk,hf] at hb
  exact hb
theorem Inv.mM(I:Inv X pins σ H s):∀b∈oR X.stack,H b=none:=λb hb=>by
 rcases br.mp (I.ij b hb) with e | hb
 .rw [e];exact I.free
 .obtain ⟨_,o,ho,_⟩:=I.ok.gF.mem hb
  exact I.base.free b o ho (I.ok.ve b hb) λz=>I.ok.rE b z hb
theorem Inv.step{g':Array GenState}{t':Nat}{d':Drawn}{ch:List Addr}(I:Inv X pins σ H s)
  (qr:∀b∈ch,(b∈X.ex\/X.dB.heap.objs.size<=b)/\b≠X.env.locals/\(∀x c,X.env.cells.lookup x=some c->c≠b)/\∀p∈X.pn++pins,p.1≠b)
  (keep:∀b o,b≠X.env.locals->b∉X.fs->b∉ch->s.heap.get? b=some o->H b=none->h'.get? b=some o)
  (slot:∀b o,b≠X.env.locals->b∈X.fs->b∉ch->s.heap.get? b=some o->H b=none->∃sl,h'.get? b=some { o with slots:=sl })(free:∀b o,b∉ch->s.heap.get? b=some o->H b=none->H' b=none)
  (there:∀b o,b∉ch->s.heap.get? b=some o->∃o',h'.get? b=some o')
  (dP:∀b xs,H b=some (.tup xs)->H' b=some (.tup xs))(iS:∀b o u,H b=some (.kJ o u)->H' b=some (.kJ o u))(jy:∀b ps,H b=some (.uw ps)->∃more,H' b=some (.uw (ps++more)))
  (ns:∀m,s.heap.Ns X.env.locals m->h'.Ns X.env.locals m)(bh:iK X.prog X.w H' h')(hg:AllBare g'):
  Inv X pins σ H' { s with heap:=h',gens:=g',drawn:=d',toks:=t' }:=by
 have NG:∀b o,X.dB.heap.get? b=some o->b≠X.env.locals:=λb o e=>dq (jI (bU e) I.ok.above)
 have C3:∀b o,X.dB.heap.get? b=some o->b∉X.ex->b∉ch:=λb o e hx hb=>by
  rcases (qr b hb).1 with z | z
  .exact hx z
  .exact absurd (jI (bU e) z) (lO _)
 have cellK:∀x c,X.env.cells.lookup x=some c->∀v,s.heap.IsCell c v->h'.IsCell c v:=λx c e v ⟨o,ho,hd⟩=>by
  have zj:c∉ch:=λz=>(qr c z).2.2.1 x c e rfl
  by_cases hc:c∈X.fs
  .obtain ⟨sl,q⟩:=slot c o (I.vg x c e) hc zj ho (I.fm x c e)
   exact ⟨_,q,hd⟩
  .exact ⟨o,keep c o (I.vg x c e) hc zj ho (I.fm x c e),hd⟩
 refine ⟨I.ok,I.os,hg,⟨λb o e n hb hx=>?_,λb o e n hb hx=>?_,λb o e n hx=>?_,λb o e hx=>?_,λb xs e=>dP b xs (I.base.dP b xs e),λb o xs e=>iS b o xs (I.base.iS b o xs e),λb ps e=>?_⟩,?_,λx c e=>?_,?_,λx c e=>?_,λp hp=>?_,bh,I.len⟩
 .exact keep b o (NG b o e) hb (C3 b o e hx) (I.base.keep b o e n hb hx) (I.base.free b o e n hx)
 .obtain ⟨sl,e1⟩:=I.base.slot b o e n hb hx
  obtain ⟨U7,e2⟩:=slot b _ (NG b o e) hb (C3 b o e hx) e1 (I.base.free b o e n hx)
  exact ⟨U7,e2⟩
 .obtain ⟨o',e1⟩:=I.base.there b o e hx
  exact free b o' (C3 b o e hx) e1 (I.base.free b o e n hx)
 .obtain ⟨o',e1⟩:=I.base.there b o e hx
  exact there b o' (C3 b o e hx) e1
 .obtain ⟨m1,e1⟩:=I.base.jy b ps e
  obtain ⟨m2,e2⟩:=jy b _ e1
  exact ⟨m1++m2,by rw [e2,Array.append_assoc]⟩
 .obtain ⟨m,hn,hl⟩:=I.loc
  refine ⟨m,ns m hn,λi x v e1 e2 e3=>?_⟩
  obtain ⟨u,r,l⟩:=hl i x v e1 e2 e3
  refine ⟨u,r,?_⟩
  rcases l with l | ⟨k,c,e,z⟩
  .exact .inl l
  .exact .inr ⟨k,c,e,cellK x c e _ z⟩
 .obtain ⟨v,z⟩:=I.cell x c e
  exact ⟨v,cellK x c e v z⟩
 .obtain ⟨m,⟨o,_,_,ho,_⟩,_⟩:=I.loc
  exact free _ o (λz=>(qr _ z).2.1 rfl) ho I.free
 .obtain ⟨v,o,ho,hd⟩:=I.cell x c e
  exact free c o (λz=>(qr c z).2.2.1 x c e rfl) ho (I.fm x c e)
 .obtain ⟨e,n,ne,nf,d⟩:=I.pin p hp
  have zj:p.1∉ch:=λz=>(qr p.1 z).2.2.2 p hp rfl
  exact ⟨keep p.1 p.2 ne nf zj e n,free p.1 p.2 zj e n,ne,nf,d⟩
theorem Inv.un(I:Inv X pins σ H s)(u:Un X.fs [] H H' s.heap h')(bh:iK X.prog X.w H' h'):Inv X pins σ H' { s with heap:=h',toks:=t' }:=by
 obtain ⟨m,⟨o,es,ep,ho,r⟩,_⟩:=id I.loc
 obtain ⟨sl,hL⟩:=u.any ho I.free (by simp)
 exact I.step (g':=s.gens) (d':=s.drawn) (ch:=[]) (λ_ z=>nomatch z) (λb o _ hb _ e n=>u.keep b o e n hb (by simp)) (λb o _ hb _ e n=>u.slot b o e n hb (by simp)) (λb o _ e n=>u.free b o e n (by simp)) (λb o _ e=>u.there b o e (by simp)) u.dP u.iS u.jy (λm' hm=>by
  obtain ⟨o',Iv,Iw,jD,r'⟩:=hm
  rw [ho] at jD;cases jD
  exact ⟨_,Iv,Iw,hL,r'⟩) bh I.bare
theorem Inv.call(I:Inv X pins σ H s)(u:Un (oR X.stack) ch H H' s.heap h')(bh:iK X.prog X.w H' h')(hg:AllBare g')
  (qr:∀b∈ch,(b∈X.ex\/X.dB.heap.objs.size<=b)/\b≠X.env.locals/\(∀x c,X.env.cells.lookup x=some c->c≠b)/\∀p∈X.pn++pins,p.1≠b):
  Inv X pins σ H' { s with heap:=h',gens:=g',drawn:=d',toks:=t' }:=by
 obtain ⟨m,⟨o,es,ep,ho,r⟩,_⟩:=id I.loc
 obtain ⟨sl,hL⟩:=u.any ho I.free λz=>(qr _ z).2.1 rfl
 exact I.step (ch:=ch) qr (λb o hL hb hc e n=>u.keep b o e n (λz=>(br.mp (I.ij b z)).elim hL hb) hc) (λb o _ _ hc e n=>u.any e n hc) (λb o hc e n=>u.free b o e n hc) (λb o hc e=>u.there b o e hc) u.dP u.iS u.jy (λm' hm=>by
  obtain ⟨o',Iv,Iw,jD,r'⟩:=hm
  rw [ho] at jD;cases jD
  exact ⟨_,Iv,Iw,hL,r'⟩) bh hg
theorem Inv.turned(I:Inv X pins σ H s)(k:∀b o,b≠it->s.heap.get? b=some o->h'.get? b=some o)(hn:H it=none)(hL:it≠X.env.locals)
  (h1:it∈X.ex\/X.dB.heap.objs.size<=it)(h2:∀x c,X.env.cells.lookup x=some c->c≠it)(h3:∀p∈X.pn++pins,p.1≠it):Inv X pins σ H { s with heap:=h',toks:=t' }:=by
 have zi:∀b u,H b=some u->b≠it:=λb u e z=>by rw [z,hn] at e;cases e
 refine I.step (g':=s.gens) (d':=s.drawn) (ch:=[it]) (λb hb=>?_) (λb o _ _ hc e _=>k b o (λz=>hc (by simp [z])) e) (λb o _ _ hc e _=>⟨o.slots,k b o (λz=>hc (by simp [z])) e⟩) (λ_ _ _ _ n=>n)
  (λb o hc e=>⟨o,k b o (λz=>hc (by simp [z])) e⟩) (λ_ _ e=>e) (λ_ _ _ e=>e) (λb ps e=>⟨#[],by rw [e];simp⟩) (λm hm=>?_) (λb u e=>?_) I.bare
 .have e:b=it:=by simpa using hb
  subst e
  exact ⟨h1,hL,h2,h3⟩
 .obtain ⟨o,es,ep,ho,r⟩:=hm
  exact ⟨o,es,ep,k _ o (fH hL) ho,r⟩
 .refine (I.bh b u e).km (λc v hc q=>k c v ?_ q) (λ_ _ _ q=>q) λ_ _ q=>q
  rcases hc with z | z
  .rw [z];exact zi b u e
  .exact zi c _ z
theorem Inv.tok(I:Inv X pins σ H s)(t:Nat):Inv X pins σ H { s with toks:=t }:=I.un (h':=s.heap) (t':=t) Un.refl I.bh
theorem Inv.kept(I:Inv X pins σ H s)(k:∀b u,s.heap.get? b=some u->h'.get? b=some u):Inv X pins σ H { s with heap:=h',toks:=t' }:=I.un (Un.kept k) (I.bh.kept k)
theorem Inv.laid{a:Addr}{o:HO}{t':Nat}(I:Inv X pins σ H s)(k:∀b u,s.heap.get? b=some u->h'.get? b=some u)(hp:s.heap.objs.size<=a)(new:cH X.prog X.w (upd H a o) h' a o):
  Inv X pins σ (upd H a o) { s with heap:=h',toks:=t' }:=I.un (Un.laid k hp (I.bh.fresh hp)) (I.bh.laid k hp new)
theorem Inv.write(I:Inv X pins σ H s)(mu:F7 (H x))(he:e=x\/H e=some (.own x))(k:∀b u,b≠e->s.heap.get? b=some u->h'.get? b=some u)(tj:∃u,h'.get? e=some u)
  (new:cH X.prog X.w (upd H x o) h' x o):Inv X pins σ (upd H x o) { s with heap:=h',toks:=t' }:=I.un (Un.write mu he k tj) (I.bh.write mu he k tj new)
theorem Inv.fN(I:Inv X pins σ H s)(h:∀p∈yU,s.heap.get? p.1=some p.2/\H p.1=none/\p.1≠X.env.locals/\p.1∉X.fs/\∀v,p.2.data≠.cell v):Inv X yU σ H s:=
 ⟨I.ok,I.os,I.bare,I.base,I.loc,I.cell,I.free,I.fm,λp hp=>(bW.mp hp).elim (λz=>I.pin p (gv _ z)) (h p),I.bh,I.len⟩
theorem RM{N:List Str}(hN:N.Nodup){i j:Nat}{x:Str}(a:N[i]?=some x)(b:N[j]?=some x):i=j:=by
 obtain ⟨h1,e1⟩:=gH.mp a
 obtain ⟨h2,e2⟩:=gH.mp b
 exact (List.getElem_inj hN).mp (e1.trans e2.symm)
theorem Sb(I:Inv X pins σ H s)(hN:X.N.Nodup)(hi:X.N[i]?=some x)(hx:Loc X.env.scope x)(r:RelV v u)
  (h:∀s',Inv X pins (σ.set i (some v)) H s'->(∃a,A1 a s.heap s'.heap/\(a=X.env.locals\/X.env.cells.lookup x=some a))->Q () s')(hf:X.fn x=true\/X.env.scope.names.lookup x=some .local:=by first | exact .inl rfl | exact .inr rfl | assumption):wpAny M A (storeName X.env x u) Q E s:=by
 obtain ⟨m,hn,hl⟩:=id I.loc
 have Ib:(X.env.scope.kind==.class||(X.env.scope.kind==.module&&X.env.locals != X.env.globals))=false:=by rw [I.ok.kind];rfl
 have Am:i<σ.length:=by rw [I.len];exact (gH.mp hi).1
 have vg:=I.vg
 have tracked:∀{a:Addr} {h':Heap},(∃o,s.heap.get? a=some o/\H a=none)->A1 a s.heap h'->iK X.prog X.w H h':=λ{a h'} ha hs b ob e=>by
  obtain ⟨_,_,tf⟩:=ha
  refine (I.bh b ob e).km (λc w' hc q=>(hs.2 c ?_).trans q) (λ_ _ _ q=>q) λ_ _ q=>q
  rintro rfl
  rcases hc with rfl | hc
  .rw [tf] at e;cases e
  .rw [tf] at hc;cases hc
 rcases hx with hk | hk
 .refine wpAny_storeName_local hk hn (λh' Y7 hs=>?_) Ib
  obtain ⟨oL,_,_,Y4,_⟩:=id hn
  refine h _ ⟨I.ok,I.os,I.bare,⟨λb o e n hb hx=>?_,λb o e n hb hx=>?_,I.base.free,λb o e hx=>?_,I.base.dP,I.base.iS,I.base.jy⟩,⟨_,Y7,λj y v' e1 e2 e3=>?_⟩,λy c e=>?_,I.free,I.fm,λp hp=>?_,tracked ⟨oL,Y4,I.free⟩ hs,by simpa using I.len⟩ ⟨_,hs,.inl rfl⟩
  .exact (hs.2 b (dq (jI (bU e) I.ok.above))).trans (I.base.keep b o e n hb hx)
  .obtain ⟨sl,e1⟩:=I.base.slot b o e n hb hx
   exact ⟨sl,(hs.2 b (dq (jI (bU e) I.ok.above))).trans e1⟩
  .obtain ⟨o',e1⟩:=I.base.there b o e hx
   exact ⟨o',(hs.2 b (dq (jI (bU e) I.ok.above))).trans e1⟩
  .by_cases hj:j=i
   .subst hj
    rw [hi] at e1;cases e1
    rw [jt Am] at e2
    cases e2
    exact ⟨u,r,.inl ⟨hk,by simp⟩⟩
   .rw [gW (fH hj)] at e2
    obtain ⟨u',r',q⟩:=hl j y v' e1 e2 e3
    refine ⟨u',r',?_⟩
    rcases q with ⟨k,e⟩ | ⟨k,c,e,z⟩
    .refine .inl ⟨k,?_⟩
     have:y≠x:=λe=>hj (RM hN e1 (e▸hi))
     simp [this,e]
    .exact .inr ⟨k,c,e,z.sameBut hs (vg y c e)⟩
  .obtain ⟨w',z⟩:=I.cell y c e
   exact ⟨w',z.sameBut hs (vg y c e)⟩
  .obtain ⟨e,n,ne,nf,d⟩:=I.pin p hp
   exact ⟨(hs.2 p.1 ne).trans e,n,ne,nf,d⟩
 .have HV:X.fn x=true:=by
   rcases hf with z | z
   .exact z
   .rw [z] at hk;cases hk
  obtain ⟨c,hc⟩:=I.ok.has x (.inl hk)
  obtain ⟨w',z⟩:=I.cell x c hc
  refine wpAny_storeName_cell I.ok.kind hk hc z (λh' tx hs=>?_)
  obtain ⟨oc,N2,HA⟩:=id z
  refine h { s with heap:=h' } ⟨I.ok,I.os,I.bare,⟨λb o e n hb hx=>?_,λb o e n hb hx=>?_,I.base.free,λb o e hx=>?_,I.base.dP,I.base.iS,I.base.jy⟩,⟨m,hn.sameBut hs (fH (vg x c hc)),λj y v' e1 e2 e3=>?_⟩,λy c' e=>?_,I.free,I.fm,λp hp=>?_,tracked ⟨oc,N2,I.fm x c hc⟩ hs,by simpa using I.len⟩ ⟨c,hs,.inr hc⟩
  .exact (hs.2 b (dq (jI (bU e) (I.ok.AX x c HV hc)))).trans (I.base.keep b o e n hb hx)
  .obtain ⟨sl,e1⟩:=I.base.slot b o e n hb hx
   exact ⟨sl,(hs.2 b (dq (jI (bU e) (I.ok.AX x c HV hc)))).trans e1⟩
  .obtain ⟨o',e1⟩:=I.base.there b o e hx
   exact ⟨o',(hs.2 b (dq (jI (bU e) (I.ok.AX x c HV hc)))).trans e1⟩
  .by_cases hj:j=i
   .subst hj
    rw [hi] at e1;cases e1
    rw [jt Am] at e2
    cases e2
    exact ⟨u,r,.inr ⟨.inl hk,c,hc,tx⟩⟩
   .rw [gW (fH hj)] at e2
    obtain ⟨u',r',q⟩:=hl j y v' e1 e2 e3
    refine ⟨u',r',?_⟩
    rcases q with q | ⟨k,c',e,z'⟩
    .exact .inl q
    .refine .inr ⟨k,c',e,z'.sameBut hs ?_⟩
     rintro rfl
     exact hj (RM hN e1 (I.ok.inj _ _ _ e hc▸hi))
  .by_cases Oa:c'=c
   .subst Oa;exact ⟨_,tx⟩
   .obtain ⟨w2,z2⟩:=I.cell y c' e
    exact ⟨w2,z2.sameBut hs Oa⟩
  .obtain ⟨e,n,ne,nf,d⟩:=I.pin p hp
   refine ⟨(hs.2 p.1 ?_).trans e,n,ne,nf,d⟩
   intro q
   rw [q,N2] at e
   have q':oc=p.2:=dj e
   exact d w' (by rw [<-q'];exact HA)
theorem Ld(I:Inv X pins σ H s)(hN:X.N.Nodup)(hi:X.N[i]?=some x)(hx:Loc X.env.scope x)(r:RelV v u)
  (h:∀s',Inv X pins (σ.set i (some v)) H s'->Q () s')(hf:X.fn x=true\/X.env.scope.names.lookup x=some .local:=by first | exact .inl rfl | exact .inr rfl | assumption):wpAny M A (storeName X.env x u) Q E s:=
 Sb I hN hi hx r (λs' I' _=>h s' I') hf
theorem Inv.AW(I:Inv X pins σ H s)(ho:s'.os=s.os)(u:Un (oR X.stack) ch H H' s.heap s'.heap)(bh:iK X.prog X.w H' s'.heap)(hg:AllBare s'.gens)
  (qr:∀b∈ch,(b∈X.ex\/X.dB.heap.objs.size<=b)/\b≠X.env.locals/\(∀x c,X.env.cells.lookup x=some c->c≠b)/\∀p∈X.pn++pins,p.1≠b):Inv X pins σ H' s':=by
 obtain ⟨h',g',d',t',o'⟩:=s'
 have e:o'=s.os:=ho
 subst e
 exact I.call (g':=g') (t':=t') (d':=d') u bh hg qr
end
abbrev XK:=Value->Option Addr->Hp->Prop
abbrev St:=List (Option V)
abbrev VK:=V->Hp->Prop
abbrev TE:=St->Hp->VK->Prop
abbrev TT:=St->Hp->(Bool->Hp->Prop)->Prop
abbrev TA:=St->Hp->(List V->Hp->Prop)->Prop
structure Ends where
 nx:St->Hp->Prop
 rt:VK
 bk:St->Hp->Prop:=λ_ _=>False
 ct:St->Hp->Prop:=λ_ _=>False
abbrev TS:=Ends->St->Hp->Prop
def EP(X:Cx)(pins:List (Addr×Obj))(σ:St)(Q:VK)(u:Value)(s':Shared):Prop:=∃v H',Inv X pins σ H' s'/\RelV v u/\Q v H'
def TP(X:Cx)(pins:List (Addr×Obj))(σ:St)(Q:Bool->Hp->Prop)(b:Bool)(s':Shared):Prop:=∃H',Inv X pins σ H' s'/\Q b H'
def AP(X:Cx)(pins:List (Addr×Obj))(σ:St)(Q:List V->Hp->Prop)(us:List Value)(s':Shared):Prop:=∃vs H',Inv X pins σ H' s'/\aA vs us/\Q vs H'
def SP(X:Cx)(pins:List (Addr×Obj))(D:Ends)(f:Flow)(s':Shared):Prop:=
 match f with
 | .next=>∃aI H',Inv X pins aI H' s'/\D.nx aI H'
 | .brk=>∃aI H',Inv X pins aI H' s'/\D.bk aI H'
 | .cont=>∃aI H',Inv X pins aI H' s'/\D.ct aI H'
 | .ret u=>∃v aI H',Inv X pins aI H' s'/\RelV v u/\D.rt v H'
def PE(X:Cx)(e:Expr)(t:TE):Prop:=
 ∀(pins:List (Addr×Obj)) (s:Shared) (σ:St) (H:Hp) (Q:VK),Inv X pins σ H s->t σ H Q->wpAny (model X.prog X.w) X.A (eval e X.env) (EP X pins σ Q) X.xe s
def PT(X:Cx)(e:Expr)(t:TT):Prop:=
 ∀(pins:List (Addr×Obj)) (s:Shared) (σ:St) (H:Hp) (Q:Bool->Hp->Prop),Inv X pins σ H s->t σ H Q->wpAny (model X.prog X.w) X.A (isTrue e X.env (eval e X.env)) (TP X pins σ Q) X.xe s
def PW(X:Cx)(e:Expr)(t:TT):Prop:=
 ∀(whole:Sem Value) (pins:List (Addr×Obj)) (s:Shared) (σ:St) (H:Hp) (Q:Bool->Hp->Prop),Inv X pins σ H s->t σ H Q->wpAny (model X.prog X.w) X.A (isTrue e X.env whole) (TP X pins σ Q) X.xe s
theorem PW.pt(h:PW X e t):PT X e t:=h _
def PA(X:Cx)(es:List Expr)(t:TA):Prop:=
 ∀(pos:Pos) (pins:List (Addr×Obj)) (s:Shared) (σ:St) (H:Hp) (Q:List V->Hp->Prop),Inv X pins σ H s->t σ H Q->wpAny (model X.prog X.w) X.A (spliced (backTo pos (starEach es X.env))) (AP X pins σ Q) X.xe s
def PS(X:Cx)(st:Stmt)(t:TS):Prop:=
 ∀(pins:List (Addr×Obj)) (s:Shared) (σ:St) (H:Hp) (D:Ends),Inv X pins σ H s->t D σ H->wpAny (model X.prog X.w) X.A (exec st X.env) (SP X pins D) X.xe s
def nF(X:Cx)(st:List Stmt)(t:TS):Prop:=
 ∀(pins:List (Addr×Obj)) (s:Shared) (σ:St) (H:Hp) (D:Ends),Inv X pins σ H s->t D σ H->wpAny (model X.prog X.w) X.A (execs st X.env) (SP X pins D) X.xe s
theorem aZ{α:Type}{t:Sem α}{Q Q':α->Shared->Prop}{M:Model}{A:Around}{E:Value->Shared->Prop}{s:Shared}(h:wpAny M A t Q E s)(hQ:∀a s,Q a s->Q' a s):wpAny M A t Q' E s:=m9 h hQ λ_ _ x=>x
end L2
namespace L2
open PySem PySem.Spec PyProof.Rows
section
variable {X:Cx}
theorem bin{a b:Expr}{ta tb:TE}(ha:PE X a ta)(hb:PE X b tb){pins:List (Addr×Obj)}{s:Shared}{σ:St}{H:Hp}{R:V->V->Hp->Prop}(I:Inv X pins σ H s)(h:ta σ H λx H1=>tb σ H1 λy H2=>R x y H2)
  {α:Type}{Q:α->Shared->Prop}{f:Value->Value->Sem α}
  (hf:∀v u s2 x y H2,Inv X pins σ H2 s2->RelV x v->RelV y u->R x y H2->wpAny (model X.prog X.w) X.A (f v u) Q X.xe s2):
  wpAny (model X.prog X.w) X.A (eval a X.env) (λv bb=>wpAny (model X.prog X.w) X.A (eval b X.env) (λu kf=>wpAny (model X.prog X.w) X.A (f v u) Q X.xe kf) X.xe bb) X.xe s:=by
 refine aZ (ha pins s σ H _ I h) λv s1 ⟨x,H1,I1,r1,q1⟩=>?_
 refine aZ (hb pins s1 σ H1 _ I1 q1) λu s2 ⟨y,H2,I2,r2,q2⟩=>?_
 exact hf v u s2 x y H2 I2 r1 r2 q2
def Ge(i:Nat):TE:=λσ H Q=>∃v,σ[i]?=some (some v)/\Q v H
def tC(v:V):TE:=λ_ H Q=>Q v H
theorem vT{i:Nat}{x:Str}{pos:Pos}(hN:X.N[i]?=some x)(hv:jV X.env.scope x)(hd:(x==("__debug__":Str))=false:=by decide)(eH:(x==("__classdict__":Str))=false:=by decide):PE X (.Name x pos) (Ge i):=by
 intro pins s σ H Q I h
 obtain ⟨v,e,h⟩:=h
 obtain ⟨m,hn,hl⟩:=I.loc
 obtain ⟨u,r,l⟩:=hl i x v hN e hv
 have fin:EP X pins σ Q u s:=⟨v,H,I,r,h⟩
 rcases l with ⟨hk,hm⟩ | ⟨hk,c,hc,fO⟩
 .exact wpAny_Name (wpAny_loadName_local I.ok.kind hk hn hm fin) hd
 .rcases hk with hk | hk
  .exact wpAny_Name (wpAny_loadName_cell I.ok.kind hk hc fO fin) hd
  .exact wpAny_Name (wpAny_loadName_free I.ok.kind hk hc fO fin eH) hd
theorem b8l{i j pos}:PE X (.Constant (.int i) j pos) (tC (.int i)):=λ_ _ _ H _ I h=>wpAny_Constant_int ⟨.int i,H,I.tok _,⟨_,rfl⟩,h⟩
theorem yZ{b j pos}:PE X (.Constant (.bool b) j pos) (tC (.bl b)):=λ_ _ _ H _ I h=>Constant_bool ⟨.bl b,H,I,rfl,h⟩
theorem b8j{j pos}:PE X (.Constant .none j pos) (tC .aR):=λ_ _ _ H _ I h=>Constant_none ⟨.aR,H,I,rfl,h⟩
theorem b8i{x j pos}:PE X (.Constant (.str x) j pos) (tC (.str x)):=λ_ _ _ H _ I h=>Calls.Constant_str ⟨.str x,H,I.tok _,⟨_,rfl⟩,h⟩
def Gl(X:Cx)(x:Str):Prop:=X.env.kindOf x=some .globalImplicit
theorem KG{E:Value->Shared->Prop}{pins:List (Addr×Obj)}{s:Shared}{σ:St}{H:Hp}{x:Str}{u:Value}{pos:Pos}{Q:Value->Shared->Prop}(I:Inv X pins σ H s)(hg:Gl X x)(hm:X.mg x=some u)(h:Q u s)
  (hd:(x==("__debug__":Str))=false:=by decide):wpAny (model X.prog X.w) X.A (eval (.Name x pos) X.env) Q E s:=
 Pb I.ok.kind hg (Calls.loadGlobal_global (by rw [I.ok.glob];exact I.mod.glob.keeps I.bk) hm h) hd
theorem qb{E:Value->Shared->Prop}{pins:List (Addr×Obj)}{s:Shared}{σ:St}{H:Hp}{x:Str}{u:Value}{pos:Pos}{Q:Value->Shared->Prop}(I:Inv X pins σ H s)(hg:Gl X x)(hm:X.mg x=none)(hv:bootBuiltins x=some u)(h:Q u s)
  (hn:x ≠ "__name__":=by decide)(hd:(x==("__debug__":Str))=false:=by decide):wpAny (model X.prog X.w) X.A (eval (.Name x pos) X.env) Q E s:=by
 obtain ⟨mb,h1,h2⟩:=I.mod.blt
 exact Pb I.ok.kind hg (Calls.loadGlobal_builtin (by rw [I.ok.glob];exact I.mod.glob.keeps I.bk) hm (by rw [I.ok.blt];exact h1.keeps I.bk) ((h2 x hn).trans hv) h) hd
theorem b6k(hg:Gl X x)(hm:X.mg x=some u)(r:RelV v u)(hd:(x==("__debug__":Str))=false:=by decide):PE X (.Name x pos) (tC v):=
 λ_ _ _ H _ I h=>KG I hg hm ⟨v,H,I,r,h⟩ hd
variable {a b:Expr}{ta tb:TE}{pos:Pos}
variable {tA CU:TT}{rest:List Expr}
def Gr(t u:TT):TT:=λσ H Q=>t σ H λc H1=>if c=true then u σ H1 Q else Q false H1
def T'(t u:TT):TT:=λσ H Q=>t σ H λc H1=>if c=true then Q true H1 else u σ H1 Q
def Gi(t:TT):TT:=λσ H Q=>t σ H λc H1=>Q (!c) H1
theorem b58(ha:PT X a tA):PW X (.BoolOp .And [a] pos) tA:=by
 intro wh pins s σ H Q I h
 refine isTrue_and (aZ (ha pins s σ H Q I h) λc s1 e=>?_)
 cases c with
 | true=>exact isTrue_and_nil e
 | false=>exact e
theorem b8b(ha:PT X a tA):PW X (.BoolOp .Or [a] pos) tA:=by
 intro wh pins s σ H Q I h
 refine isTrue_or (aZ (ha pins s σ H Q I h) λc s1 e=>?_)
 cases c with
 | false=>exact isTrue_or_nil e
 | true=>exact e
theorem b8c(ha:PT X a tA)(hb:PW X (.BoolOp .And (b::rest) pos) CU):PW X (.BoolOp .And (a::b::rest) pos) (Gr tA CU):=by
 intro wh pins s σ H Q I h
 refine isTrue_and (aZ (ha pins s σ H _ I h) λc s1 ⟨H1,I1,q1⟩=>?_)
 cases c with
 | true=>exact hb wh pins s1 σ H1 Q I1 q1
 | false=>exact ⟨H1,I1,q1⟩
theorem pw_or(ha:PT X a tA)(hb:PW X (.BoolOp .Or (b::rest) pos) CU):PW X (.BoolOp .Or (a::b::rest) pos) (T' tA CU):=by
 intro wh pins s σ H Q I h
 refine isTrue_or (aZ (ha pins s σ H _ I h) λc s1 ⟨H1,I1,q1⟩=>?_)
 cases c with
 | true=>exact ⟨H1,I1,q1⟩
 | false=>exact hb wh pins s1 σ H1 Q I1 q1
theorem b8d(ha:PT X a tA):PT X (.UnaryOp .Not a pos) (Gi tA):=by
 intro pins s σ H Q I h
 exact isTrue_not (ha pins s σ H (λc H1=>Q (!c) H1) I h)
def Ua(t:TT)(ta tb:TE):TE:=λσ H Q=>t σ H λc H1=>if c=true then ta σ H1 Q else tb σ H1 Q
theorem b30(hc:PT X c tA)(ha:PE X a ta)(hb:PE X b tb):PE X (.IfExp c a b pos) (Ua tA ta tb):=by
 intro pins s σ H Q I h
 refine wpAny_IfExp (aZ (hc pins s σ H _ I h) λd s1 ⟨H1,I1,q1⟩=>?_)
 cases d with
 | true=>exact ha pins s1 σ H1 Q I1 q1
 | false=>exact hb pins s1 σ H1 Q I1 q1
end
end L2
namespace L2
open PySem PySem.Spec PyProof.Rows
def fF(K:aJ)(H:Hp)(a:Addr)(xs:List V):Prop:=
 Rd H a (.lst xs) \/
  ∃(o:Obj) (ak:Array Value) (n:Nat),K.lookup a=some o/\o.cls=.type "list" /\ o.dict=none/\o.data=.seq ak n/\ak.size<=sizeLine/\aA xs ak.toList
def dN(K:aJ)(H:Hp)(a:Addr)(xs:List V):Prop:=
 Rd H a (.tup xs) \/
  ∃(o:Obj) (ak:Array Value) (n:Nat),K.lookup a=some o/\o.cls=.type "tuple" /\ o.data=.seq ak n/\ak.size<=sizeLine/\aA xs ak.toList
def KA:Value->Option V
 | .none=>some .aR
 | .bool b=>some (.bl b)
 | .int i _=>some (.int i)
 | .str x _=>some (.str x)
 | .bytes b _=>some (.Bn b)
 | .float b _=>some (.Iu b)
 | .ref a=>some (.ref a)
 | .type n=>some (.ty n)
 | _=>none
theorem RelV.abs(r:RelV x u):KA u=some x:=by
 cases x with
 | aR=>cases r;rfl
 | bl _=>cases r;rfl
 | int _=>obtain ⟨t,rfl⟩:=r;rfl
 | str _=>obtain ⟨t,rfl⟩:=r;rfl
 | Bn _=>obtain ⟨t,rfl⟩:=r;rfl
 | Iu _=>obtain ⟨t,rfl⟩:=r;rfl
 | ref _=>cases r;rfl
 | ty _=>cases r;rfl
theorem RelV.inj(r:RelV x u)(q:RelV y u):x=y:=dj (r.abs.symm.trans q.abs)
theorem aA.inj:∀{xs ys:List V} {us:List Value},aA xs us->aA ys us->xs=ys
 | _,_,_,.nil,.nil=>rfl
 | _,_,_,.cons r t,.cons r' t'=>by rw [r.inj r',aA.inj t t']
section
variable {X:Cx}{pins:List (Addr×Obj)}{σ:St}{H:Hp}{s:Shared}{a:Addr}{xs ys:List V}
theorem fF.of{K:aJ}(h:H a=some (.lst xs)):fF K H a xs:=.inl (.inl h)
theorem Inv.list(I:Inv X pins σ H s)(h:fF X.K H a xs):∃ak:List Value,aA xs ak/\PlainL s.heap a ak.toArray/\xs.length<=sizeLine:=by
 rcases h with h | ⟨o,ak,n,hk,hc,hd,hs,hz,r⟩
 .obtain ⟨z,ak,n,r,e⟩:=h.ok I.bh
  exact ⟨ak,r,⟨_,n,e,rfl,rfl,rfl⟩,z⟩
 .refine ⟨ak.toList,r,⟨o,n,I.uM a o hk,hc,hd,by simpa using hs⟩,?_⟩
  have e:=r.length
  simp only [gS] at e
  ext hz e
theorem Inv.tuple(I:Inv X pins σ H s)(h:dN X.K H a xs):∃ak:List Value,aA xs ak/\IsTup s.heap a ak.toArray/\xs.length<=sizeLine:=by
 rcases h with h | ⟨o,ak,n,hk,hc,hs,hz,r⟩
 .obtain ⟨z,ak,r,p⟩:=h.ok I.bh
  exact ⟨ak,r,p,z⟩
 .refine ⟨ak.toList,r,⟨o,I.uM a o hk,hc,n,by simpa using hs⟩,?_⟩
  have e:=r.length
  simp only [gS] at e
  ext hz e
theorem Inv.ir(I:Inv X pins σ H s)(h:fF X.K H a xs)(h':fF X.K H a ys):xs=ys:=by
 obtain ⟨ak,r,⟨o,n,e,_,_,d⟩,_⟩:=I.list h
 obtain ⟨its',r',⟨o',n',e',_,_,d'⟩,_⟩:=I.list h'
 rw [e] at e';cases e'
 rw [d] at d'
 injection d' with d1 _
 have:ak=its':=by simpa using congrArg Array.toList d1
 subst this
 exact r.inj r'
theorem Inv.fX(I:Inv X pins σ H s)(h:dN X.K H a xs)(h':dN X.K H a ys):xs=ys:=by
 obtain ⟨ak,r,⟨o,e,_,n,d⟩,_⟩:=I.tuple h
 obtain ⟨its',r',⟨o',e',_,n',d'⟩,_⟩:=I.tuple h'
 rw [e] at e';cases e'
 rw [d] at d'
 injection d' with d1 _
 have:ak=its':=by simpa using congrArg Array.toList d1
 subst this
 exact r.inj r'
end
abbrev Cx.iP(X:Cx)(E:Value->Shared->Prop):Cx:={ X with xe:=E }
abbrev Cx.zf(X:Cx):Cx:=X.iP λ_ _=>False
theorem Cx.Ok.iP{X:Cx}(ok:X.Ok)(E:Value->Shared->Prop):(X.iP E).Ok:=
 ⟨ok.mod,ok.kind,ok.glob,ok.blt,ok.above,ok.inj,ok.has,ok.AX,ok.hd,ok.frames,ok.CV,ok.Oy,ok.bs,ok.rW,ok.pC,ok.rE,ok.gF,ok.ve⟩
theorem Cx.Ok.dZ{X:Cx}(ok:(X.iP E).Ok):X.Ok:=
 ⟨ok.mod,ok.kind,ok.glob,ok.blt,ok.above,ok.inj,ok.has,ok.AX,ok.hd,ok.frames,ok.CV,ok.Oy,ok.bs,ok.rW,ok.pC,ok.rE,ok.gF,ok.ve⟩
section
variable {X:Cx}{pins:List (Addr×Obj)}{σ:St}{H:Hp}{s:Shared}{E:Value->Shared->Prop}
theorem Inv.iP(I:Inv X pins σ H s)(E:Value->Shared->Prop):Inv (X.iP E) pins σ H s:=⟨I.ok.iP E,I.os,I.bare,I.base,I.loc,I.cell,I.free,I.fm,I.pin,I.bh,I.len⟩
theorem Inv.dZ(I:Inv (X.iP E) pins σ H s):Inv X pins σ H s:=⟨I.ok.dZ,I.os,I.bare,I.base,I.loc,I.cell,I.free,I.fm,I.pin,I.bh,I.len⟩
theorem SP.dZ(h:SP (X.iP E) pins D f s'):SP X pins D f s':=by
 cases f with
 | next=>obtain ⟨aI,H',I,q⟩:=h;exact ⟨aI,H',I.dZ,q⟩
 | brk=>obtain ⟨aI,H',I,q⟩:=h;exact ⟨aI,H',I.dZ,q⟩
 | cont=>obtain ⟨aI,H',I,q⟩:=h;exact ⟨aI,H',I.dZ,q⟩
 | ret u=>obtain ⟨v,aI,H',I,r,q⟩:=h;exact ⟨v,aI,H',I.dZ,r,q⟩
theorem nF.zf{st:List Stmt}{t:TS}(h:nF X.zf st t):nF X st t:=λpins s σ H D I hw =>
 m9 (h pins s σ H D (I.iP _) hw) (λ_ _ q=>q.dZ) λ_ _ z=>kP z
end
section
variable {X:Cx}{st:Stmt}{rest:List Stmt}{t u:TS}{e:Expr}{te:TE}{pos:Pos}
def yx:TS:=λD σ H=>D.nx σ H
def Gg(t u:TS):TS:=λD σ H=>t { D with nx:=u D } σ H
theorem b6c:nF X [] yx:=λ_ _ σ H _ I h=>DP ⟨σ,H,I,h⟩
theorem b3S(h1:PS X st t)(h2:nF X rest u):nF X (st::rest) (Gg t u):=by
 intro pins s σ H D I h
 refine wpAny_execs_cons (aZ (h1 pins s σ H { D with nx:=u D } I h) λf s1 q=>?_)
 cases f with
 | next =>
  obtain ⟨aI,H',I',q⟩:=q
  exact h2 pins s1 aI H' D I' q
 | ret v=>exact q
 | brk=>exact q
 | cont=>exact q
theorem b6b(h1:PS X st t):nF X [st] t:=by
 intro pins s σ H D I h
 refine wpAny_execs_cons (aZ (h1 pins s σ H D I h) λf s1 q=>?_)
 cases f with
 | next=>exact DP q
 | ret v=>exact q
 | brk=>exact q
 | cont=>exact q
def b7X:TS:=λD σ H=>D.bk σ H
theorem b3U:PS X (.Break pos) b7X:=λ_ _ σ H _ I h=>wpAny_Break ⟨σ,H,I,h⟩
theorem Inv.quiet{pins:List (Addr×Obj)}{σ:St}{H:Hp}{s:Shared}(I:Inv X pins σ H s):interactive X.env=false:=by simp [interactive,I.ok.kind]
def yy(te:TE):TS:=λD σ H=>te σ H λ_ H1=>D.nx σ H1
theorem KN(he:PE X e te)(hs:swapsWith e none pos.line X.env=pure false:=by rfl):PS X (.Expr e pos) (yy te):=by
 intro pins s σ H D I h
 exact wpAny_Expr_any (aZ (he pins s σ H _ I h) λv s1 ⟨x,H1,I1,r1,q1⟩=>⟨σ,H1,I1,q1⟩) I.quiet hs
def Gh(te:TE):TS:=λD σ H=>te σ H D.rt
theorem Qd(he:PE X e te):PS X (.Return (some e) pos) (Gh te):=by
 intro pins s σ H D I h
 exact wpAny_Return_some (aZ (he pins s σ H _ I h) λv s1 ⟨x,H1,I1,r1,q1⟩=>⟨x,σ,H1,I1,r1,q1⟩)
def Gm(c:TT)(t u:TS):TS:=λD σ H=>c σ H λb H1=>if b=true then t D σ H1 else u D σ H1
theorem yS(hc:PT X c tc)(ha:nF X a t)(hb:nF X b u):PS X (.If c a b pos) (Gm tc t u):=by
 intro pins s σ H D I h
 refine wpAny_If (aZ (hc pins s σ H _ I h) λd s1 ⟨H1,I1,q1⟩=>?_)
 cases d with
 | true=>exact ha pins s1 σ H1 D I1 q1
 | false=>exact hb pins s1 σ H1 D I1 q1
end
abbrev TG:=V->St->Hp->(St->Hp->Prop)->Prop
abbrev uk:=List V->St->Hp->(St->Hp->Prop)->Prop
def PG(X:Cx)(target:Expr)(t:TG):Prop:=
 ∀(pins:List (Addr×Obj)) (s:Shared) (σ:St) (H:Hp) (v:V) (u:Value) (Q:St->Hp->Prop),Inv X pins σ H s->RelV v u->t v σ H Q ->
  wpAny (model X.prog X.w) X.A (assign target X.env u) (λ_ s'=>∃aI H',Inv X pins aI H' s'/\Q aI H') X.xe s
def CF(X:Cx)(ts:List Expr)(t:uk):Prop:=
 ∀(pins:List (Addr×Obj)) (s:Shared) (σ:St) (H:Hp) (vs:List V) (us:List Value) (Q:St->Hp->Prop),Inv X pins σ H s->aA vs us->t vs σ H Q ->
  wpAny (model X.prog X.w) X.A (assignInOrder ((assignEach ts X.env).map (·.2)) us) (λ_ s'=>∃aI H',Inv X pins aI H' s'/\Q aI H') X.xe s
abbrev wz:=V->V->V->Hp->(Hp->Prop)->Prop
def CD(X:Cx)(t:wz):Prop:=
 ∀(pins:List (Addr×Obj)) (s:Shared) (σ:St) (H:Hp) (o i v:V) (ov iv u:Value) (Q:Hp->Prop),Inv X pins σ H s->RelV o ov->RelV i iv->RelV v u->t o i v H Q ->
  wpAny (model X.prog X.w) X.A (setItem ov iv u) (λ_ s'=>∃H',Inv X pins σ H' s'/\Q H') X.xe s
abbrev Nh:=V->V->Hp->VK->Prop
def Ni(X:Cx)(op:Operator)(t:Nh):Prop:=
 ∀(pins:List (Addr×Obj)) (s:Shared) (σ:St) (H:Hp) (x y:V) (v u:Value) (Q:VK),Inv X pins σ H s->RelV x v->RelV y u->t x y H Q ->
  wpAny (model X.prog X.w) X.A (inplaceOp op v u) (EP X pins σ Q) X.xe s
section
variable {X:Cx}{pos:Pos}
def PL(i:Nat):TG:=λv σ H Q=>Q (σ.set i (some v)) H
theorem b6h(hN:X.N.Nodup)(hi:X.N[i]?=some x)(hx:Loc X.env.scope x)(hf:X.fn x=true\/X.env.scope.names.lookup x=some .local:=by first | exact .inl rfl | exact .inr rfl | assumption):PG X (.Name x pos) (PL i):=by
 intro pins s σ H v u Q I r h
 exact wpAny_assign_Name (Ld I hN hi hx r (λs' I'=>⟨_,H,I',h⟩) hf)
def Ik:uk:=λvs σ H Q=>vs=[]/\Q σ H
def AF(t:TG)(u:uk):uk:=λvs σ H Q=>∃v r,vs=v::r/\t v σ H λaI H'=>u r aI H' Q
theorem b6g:CF X [] Ik:=by
 intro pins s σ H vs us Q I r h
 obtain ⟨e,h⟩:=h
 subst e
 cases r
 exact assignInOrder_nil ⟨σ,H,I,h⟩
theorem b3X{e:Expr}{es:List Expr}{t:TG}{u:uk}(h1:PG X e t)(h2:CF X es u)
  (hs:(assignEach (e::es) X.env).map (·.2)=assign e X.env::(assignEach es X.env).map (·.2):=by rfl):CF X (e::es) (AF t u):=by
 intro pins s σ H vs us Q I r h
 obtain ⟨v,vr,e1,h⟩:=h
 subst e1
 cases r with
 | cons r rr =>
  rw [hs]
  refine assignInOrder_cons (aZ (h1 pins s σ H _ _ _ I r h) λ_ s1 ⟨iL,H1,I1,q1⟩=>?_)
  exact h2 pins s1 iL H1 _ _ Q I1 rr q1
def Ij(K:aJ)(n:Nat)(t:uk):TG:=λv σ H Q=>∃a xs,v=.ref a/\dN K H a xs/\xs.length=n/\t xs σ H Q
theorem b8f{es:List Expr}{k:Nat}{t:uk}{n:Nat}(hc:X.calm=true)(h:CF X es t)
  (hn:(assignEach es X.env).length=n:=by rfl)(Df:(assignEach es X.env).findIdx? (·.1)=none:=by rfl):PG X (.Tuple es k pos) (Ij X.K n t):=by
 intro pins s σ H v u Q I r hw
 obtain ⟨a,xs,e1,hq,hl,hw⟩:=hw
 subst e1
 cases r
 obtain ⟨ak,rv,ht,hz⟩:=I.tuple hq
 refine assign_Tuple_tuple (I.ok.hd hc) ht (by simp [hn,<-hl,rv.length]) Df λh' hx=>?_
 have I1:Inv X pins σ H { s with heap:=h' }:=I.kept (t':=s.toks) λb o e=>hx b o (dq (bU e)) e
 exact h pins _ σ H xs _ Q I1 (by simpa using rv) hw
def aP(to ti:TE)(t:wz):TG:=λv σ H Q=>to σ H λo H1=>ti σ H1 λi H2=>t o i v H2 λH3=>Q σ H3
theorem b8g{o i:Expr}{to ti:TE}{t:wz}(ho:PE X o to)(hi:PE X i ti)(hs:CD X t)
  (ha:∀v,assign (.Subscript o i pos) X.env v=(do
   let ov <-holding [v] (eval o X.env)
   let iv <-holding [v,ov] (eval i X.env)
   standAt pos
   holding [v,ov,iv] (setItem ov iv v)
   release [v,ov,iv] []):=by intro _;rfl):PG X (.Subscript o i pos) (aP to ti t):=by
 intro pins s σ H v u Q I r h
 rw [ha]
 refine ao (nr (aZ (ho pins s σ H _ I h) λov s1 ⟨x,H1,I1,r1,q1⟩=>?_))
 refine ao (nr (aZ (hi pins s1 σ H1 _ I1 q1) λiv s2 ⟨y,H2,I2,r2,q2⟩=>?_))
 refine ao (IZ (ao (nr (aZ (hs pins s2 σ H2 x y v ov iv u _ I2 r1 r2 r q2) λ_ s3 ⟨H3,I3,q3⟩=>?_))))
 exact wpAny_release ⟨σ,H3,I3,q3⟩
def yA(te:TE)(g:TG):TS:=λD σ H=>te σ H λx H1=>g x σ H1 D.nx
theorem Qb{tg e:Expr}{te:TE}{g:TG}(he:PE X e te)(hg:PG X tg g)(hs:swapsWithSole [tg] e pos.line X.env=pure false:=by rfl)(hw:swappedStores [tg] e X.env=pure none:=by rfl)
  (h1:(assignEach [tg] X.env).map (·.2)=[assign tg X.env]:=by rfl):PS X (.Assign [tg] e pos) (yA te g):=by
 intro pins s σ H D I h
 refine wpAny_Assign_stores (aZ (he pins s σ H _ I h) λv s1 ⟨x,H1,I1,r1,q1⟩=>?_) hs hw
 rw [h1]
 exact aZ (hg pins s1 σ H1 x v _ I1 r1 q1) λ_ s2 q=>q
theorem Ku(hN:X.N.Nodup)(hi:X.N[i]?=some x)(hx:Loc X.env.scope x)(he:PE X e te)(hs:swapsWith e (some (.Name x pos')) pos.line X.env=pure false:=by rfl)(hf:X.fn x=true\/X.env.scope.names.lookup x=some .local:=by first | exact .inl rfl | exact .inr rfl | assumption):
  PS X (.Assign [.Name x pos'] e pos) (yA te (PL i)):=by
 intro pins s σ H D I h
 refine wpAny_Assign_Name (aZ (he pins s σ H _ I h) λv s1 ⟨y,H1,I1,r1,q1⟩=>?_) hs
 exact Ld I1 hN hi hx r1 (λs2 I2=>⟨_,H1,I2,q1⟩) hf
def Gq(i:Nat)(te:TE)(ti:Nh):TS:=λD σ H=>∃x,σ[i]?=some (some x)/\te σ H λy H1=>ti x y H1 λz H2=>D.nx (σ.set i (some z)) H2
theorem Qc(hN:X.N.Nodup)(hi:X.N[i]?=some x)(hx:Loc X.env.scope x)(he:PE X e te)(ho:Ni X op ti)(hf:X.fn x=true\/X.env.scope.names.lookup x=some .local:=by first | exact .inl rfl | exact .inr rfl | assumption):
  PS X (.AugAssign (.Name x pos') op e pos) (Gq i te ti):=by
 intro pins s σ H D I h
 obtain ⟨v,e1,h⟩:=h
 obtain ⟨m,hn,hl⟩:=I.loc
 have qP:jV X.env.scope x:=by rcases hx with k | k;exact .inl k;exact .inr (.inl k)
 obtain ⟨u,r,l⟩:=hl i x v hi e1 qP
 refine wpAny_AugAssign_Name ?_
 have go:wpAny (model X.prog X.w) X.A (eval e X.env) (λw kf=>wpAny (model X.prog X.w) X.A (inplaceOp op u w) (λr o8=>wpAny (model X.prog X.w) X.A (storeName X.env x r) (λ_=>SP X pins D .next) X.xe o8) X.xe kf) X.xe s:=by
  refine aZ (he pins s σ H _ I h) λw s1 ⟨y,H1,I1,r1,q1⟩=>?_
  refine aZ (ho pins s1 σ H1 v y u w _ I1 r r1 q1) λz s2 ⟨zv,H2,I2,r2,q2⟩=>?_
  exact Ld I2 hN hi hx r2 (λs3 I3=>⟨_,H2,I3,q2⟩) hf
 rcases l with ⟨hk,hm⟩ | ⟨hk,c,hc,fO⟩
 .exact wpAny_loadName_local I.ok.kind hk hn hm go
 .rcases hk with hk | hk
  .exact wpAny_loadName_cell I.ok.kind hk hc fO go
  .rcases hx with k | k
   .have:X.env.scope.names.lookup x=some .free:=hk
    rw [k] at this;cases this
   .have:X.env.scope.names.lookup x=some .free:=hk
    rw [k] at this;cases this
def YK(f:Int->Int->Int):Nh:=λx y H Q=>∃i j,x=.int i/\y=.int j/\Q (.int (f i j)) H
theorem b8J:Ni X .Add (YK λi j=>i+j):=by
 intro pins s σ H x y v u Q I r1 r2 h
 obtain ⟨i,j,e1,e2,q⟩:=h
 subst e1;subst e2
 obtain ⟨t,rfl⟩:=r1
 obtain ⟨t',rfl⟩:=r2
 exact iadd_int ⟨.int _,H,I.tok _,⟨_,rfl⟩,q⟩
end
section
variable {X:Cx}{pos:Pos}
def b7S(c:TT)(tb:TS):TS:=λD σ H=>∃W:Nat->St->Hp->Prop,(∃m,W m σ H)/\∀m σ H,W m σ H ->
 c σ H λb H1=>if b=true then ∃N:St->Hp->Prop,(∀aI H',N aI H'->∃m',m'<m/\W m' aI H')/\tb { D with nx:=N,ct:=N,bk:=D.nx } σ H1 else D.nx σ H1
theorem b3T(hp:PassesOwn (model X.prog X.w) X.A X.env X.xe)(hc:PT X c tc)(hb:nF X body tb):PS X (.While c body [] pos) (b7S tc tb):=by
 intro pins s σ H D I h
 obtain ⟨W,⟨m0,w0⟩,turn⟩:=h
 refine wpAny_While (codeAny_whileLoop (λn s'=>∃aI H',Inv X pins aI H' s'/\W n aI H') ?_ m0 ⟨σ,H,I,w0⟩)
 rintro n s1 ⟨iL,H1,I1,w1⟩
 refine vG hp (aZ (hc pins s1 iL H1 _ I1 (turn n iL H1 w1)) λb s2 ⟨H2,I2,q2⟩=>?_)
 cases b with
 | true =>
  obtain ⟨N,hN,q2⟩:=q2
  rw [if_pos rfl]
  refine vG hp (aZ (hb pins s2 iL H2 _ I2 q2) λf s3 q3=>?_)
  cases f with
  | next =>
   obtain ⟨jw,H3,I3,n3⟩:=q3
   obtain ⟨m',hm,w3⟩:=hN jw H3 n3
   exact ⟨m',hm,jw,H3,I3,w3⟩
  | cont =>
   obtain ⟨jw,H3,I3,n3⟩:=q3
   obtain ⟨m',hm,w3⟩:=hN jw H3 n3
   exact ⟨m',hm,jw,H3,I3,w3⟩
  | brk=>exact q3
  | ret v=>exact q3
 | false =>
  rw [if_neg nh]
  exact DP ⟨iL,H2,I2,q2⟩
end
structure It where
 go:Nat->Hp->Prop
 ur:Nat->Hp->V->Hp->Prop
 stop:Nat->Hp->Prop
def cV(X:Cx)(pins:List (Addr×Obj))(H:Hp)(b:Addr):Prop:=
 H b=none/\b≠X.env.locals/\b∉X.fs/\(b∈X.ex\/X.dB.heap.objs.size<=b)/\(∀x c,X.env.cells.lookup x=some c->c≠b)/\∀p∈X.pn++pins,p.1≠b
theorem Inv.iT{X:Cx}{pins:List (Addr×Obj)}{σ:St}{H H':Hp}{s:Shared}{b:Addr}(I:Inv X pins σ H s)(hb:s.heap.objs.size<=b)(hn:H' b=none):cV X pins H' b:=by
 refine ⟨hn,vo (jI I.lt hb),I.GW hb,.inr (eQ I.sz hb),λx c e z=>?_,λp hp z=>?_⟩
 .obtain ⟨v,q⟩:=I.cell x c e
  exact absurd (jI q.lt (by rw [z];exact hb)) (lO _)
 .exact absurd (jI (bU (I.pin p hp).1) (by rw [z];exact hb)) (lO _)
structure Turn(P:Program)(w:World)(K:aJ)(tg:Expr)(J:It)(fp:List Addr)(it:Addr)(tn:Nat->Heap->Prop):Prop where
 mem:it∈fp
 obj:∀i h,tn i h->∀b∈fp,∃o,h.get? b=some o/\∀v,o.data≠.cell v
 keep:∀i h h',tn i h->(∀b∈fp,∀o,h.get? b=some o->h'.get? b=some o)->tn i h'
 item:∀(X:Cx),X.prog=P->X.w=w->X.K=K->X.calm=true->∀(i:Nat) (pins:List (Addr×Obj)) (s:Shared) (σ:St) (H:Hp) (E:Value->Shared->Prop),Inv X pins σ H s->(∀b∈fp,cV X pins H b)->tn i s.heap->J.go i H ->
  wpAny (model P w) X.A (pyNext (.ref it)) (λr s1=>∃u,r=some u /\
   wpAny (model P w) X.A (letOwnedTupleGo tg (.ref it) u) (λ_ s2=>∃x H',Inv X pins σ H' s2/\RelV x u/\J.ur i H x H'/\tn (i+1) s2.heap/\∀b∈fp,H' b=none) E s1) E s
 done:∀(X:Cx),X.prog=P->X.w=w->X.K=K->X.calm=true->∀(i:Nat) (pins:List (Addr×Obj)) (s:Shared) (σ:St) (H:Hp) (E:Value->Shared->Prop),Inv X pins σ H s->(∀b∈fp,cV X pins H b)->tn i s.heap->J.stop i H ->
  wpAny (model P w) X.A (pyNext (.ref it)) (λr s1=>r=none/\Inv X pins σ H s1) E s
 self:∀(A:Around) (i:Nat) (s:Shared) (Q:Value->Shared->Prop) (E:Value->Shared->Prop),tn i s.heap->Q (.ref it) s->wpAny (model P w) A (pyIter (.ref it)) Q E s
abbrev TI:=St->Hp->(It->Hp->Prop)->Prop
def F6(X:Cx)(pins:List (Addr×Obj))(σ:St)(tg:Expr)(R:It->Hp->Prop)(G7:Value)(s2:Shared):Prop:=
 ∃(it:Addr) (fp:List Addr) (tn:Nat->Heap->Prop) (J:It) (H':Hp),G7=.ref it/\Inv X pins σ H' s2/\Turn X.prog X.w X.K tg J fp it tn/\tn 0 s2.heap/\(∀b∈fp,cV X pins H' b)/\R J H'
def PI(X:Cx)(tg iter:Expr)(wi:TI):Prop:=
 ∀(pins:List (Addr×Obj)) (s:Shared) (σ:St) (H:Hp) (R:It->Hp->Prop),Inv X pins σ H s->wi σ H R ->
  wpAny (model X.prog X.w) X.A (eval iter X.env) (λv s1=>wpAny (model X.prog X.w) X.A (pyIter v) (F6 X pins σ tg R) X.xe s1) X.xe s
theorem Bp(ho:s.heap.get? it=some o)(hc:o.cls=.type n)(hd:o.data=.fields vs)
  (hn:["enumerate","zip","dict_itemiterator","dict_reverseitemiterator","odict_iterator","itertools.zip_longest","itertools.pairwise"].contains n=false)(hQ:Q () s):wpAny M A (letOwnedTupleGo tg (.ref it) u) Q E s:=by
 unfold letOwnedTupleGo
 cases tg<;>first
  | exact aU hQ
  | (cases u<;>first
    | exact aU hQ
    | (refine ao (wpAny_load ho ?_)
       rw [hc,hd]
       show wpAny M A (if (["enumerate","zip","dict_itemiterator","dict_reverseitemiterator","odict_iterator","itertools.zip_longest","itertools.pairwise"].contains n&&vs[0]?==some (rawInt _))=true then _ else _) Q E s
       rw [if_neg (by intro h;rw [hn,Bool.false_and] at h;cases h)]
       exact aU hQ))
def CK(K:aJ)(a:Addr):It:=
 ⟨λi H=>∃xs x,fF K H a xs/\xs[i]?=some x,λi H x H'=>H'=H/\∀xs,fF K H a xs->xs[i]?=some x,λi H=>∃xs,fF K H a xs/\xs.length<=i⟩
def CJ(K:aJ)(a:Addr):It:=
 ⟨λi H=>∃xs x,dN K H a xs/\xs[i]?=some x,λi H x H'=>H'=H/\∀xs,dN K H a xs->xs[i]?=some x,λi H=>∃xs,dN K H a xs/\xs.length<=i⟩
def nG(lo:Int)(n:Nat):It:=⟨λi _=>i<n,λi H x H'=>H'=H/\x=.int (lo+i),λi _=>n<=i⟩
theorem b08{P:Program}{w:World}{K:aJ}{tg:Expr}(a it:Addr):Turn P w K tg (CK K a) [it] it (λi h=>h.IsListIter it a i) where
 mem:=by simp
 obj:=λi h st b hb=>by
  have e:b=it:=by simpa using hb
  subst e
  obtain ⟨o,e,c,d⟩:=st
  exact ⟨o,e,λv z=>by rw [d] at z;cases z⟩
 keep:=λi h h' st k=>st.at λo e=>k it (by simp) o e
 item:=by
  intro X hP hw hK hc i pins s σ H E I hf st hg
  subst hP hw hK
  obtain ⟨xs,x,hq,hx⟩:=hg
  obtain ⟨ak,rv,p,hz⟩:=I.list hq
  obtain ⟨u,hu,ru⟩:=rv.get hx
  obtain ⟨f0,f1,f2,f3,f4,f5⟩:=hf it (by simp)
  refine wpAny_pyNext_list_item st p.isList (x:=u) (by simpa using hu) λh' aj sb=>?_
  have I1:Inv X pins σ H { s with heap:=h' }:=I.turned (t':=s.toks) (λb o hb e=>(sb.2 b hb).trans e) f0 f1 f3 f4 f5
  obtain ⟨o,e,c,d⟩:=id aj
  exact ⟨u,rfl,Bp (s:={ s with heap:=h' }) e c d (by decide) ⟨x,H,I1,ru,⟨rfl,λys hy=>by rw [I.ir hy hq];exact hx⟩,aj,λb hb=>(hf b hb).1⟩⟩
 done:=by
  intro X hP hw hK hc i pins s σ H E I hf st hg
  subst hP hw hK
  obtain ⟨xs,hq,hx⟩:=hg
  obtain ⟨ak,rv,p,hz⟩:=I.list hq
  obtain ⟨f0,f1,f2,f3,f4,f5⟩:=hf it (by simp)
  have hl:=rv.length
  exact wpAny_pyNext_list_end (I.ok.hd hc) st p.isList (by simp;ext hx hl) λh' eb=>⟨rfl,I.turned (t':=s.toks) (λb o hb e=>eb b o hb e) f0 f1 f3 f4 f5⟩
 self:=λ_ _ _ _ _ st h=>wpAny_pyIter_listiter st h
theorem b0q{P:Program}{w:World}{K:aJ}{tg:Expr}(a it:Addr):Turn P w K tg (CJ K a) [it] it (λi h=>h.IsTupleIter it a i) where
 mem:=by simp
 obj:=λi h st b hb=>by
  have e:b=it:=by simpa using hb
  subst e
  obtain ⟨o,e,c,d⟩:=st
  exact ⟨o,e,λv z=>by rw [d] at z;cases z⟩
 keep:=λi h h' st k=>st.at λo e=>k it (by simp) o e
 item:=by
  intro X hP hw hK hc i pins s σ H E I hf st hg
  subst hP hw hK
  obtain ⟨xs,x,hq,hx⟩:=hg
  obtain ⟨ak,rv,p,hz⟩:=I.tuple hq
  obtain ⟨u,hu,ru⟩:=rv.get hx
  obtain ⟨f0,f1,f2,f3,f4,f5⟩:=hf it (by simp)
  refine wpAny_pyNext_tuple_item st (show s.heap.IsTuple a ak.toArray from p) (x:=u) (by simpa using hu) λh' aj sb=>?_
  have I1:Inv X pins σ H { s with heap:=h' }:=I.turned (t':=s.toks) (λb o hb e=>(sb.2 b hb).trans e) f0 f1 f3 f4 f5
  obtain ⟨o,e,c,d⟩:=id aj
  exact ⟨u,rfl,Bp (s:={ s with heap:=h' }) e c d (by decide) ⟨x,H,I1,ru,⟨rfl,λys hy=>by rw [I.fX hy hq];exact hx⟩,aj,λb hb=>(hf b hb).1⟩⟩
 done:=by
  intro X hP hw hK hc i pins s σ H E I hf st hg
  subst hP hw hK
  obtain ⟨xs,hq,hx⟩:=hg
  obtain ⟨ak,rv,p,hz⟩:=I.tuple hq
  obtain ⟨f0,f1,f2,f3,f4,f5⟩:=hf it (by simp)
  have hl:=rv.length
  exact wpAny_pyNext_tuple_end (I.ok.hd hc) st (show s.heap.IsTuple a ak.toArray from p) (by simp;ext hx hl) λh' eb=>⟨rfl,I.turned (t':=s.toks) (λb o hb e=>eb b o hb e) f0 f1 f3 f4 f5⟩
 self:=λ_ _ _ _ _ st h=>wpAny_pyIter_tupleiter st h
theorem S4{P:Program}{w:World}{K:aJ}{tg:Expr}(it:Addr)(lo:Int)(n:Nat):Turn P w K tg (nG lo n) [it] it (λi h=>IsRangeIter h it (lo+(i:Nat)*1) ((n:Int)-(i:Nat)) 1) where
 mem:=by simp
 obj:=λi h st b hb=>by
  have e:b=it:=by simpa using hb
  subst e
  exact ⟨_,st,λv z=>by
   have z':A4 _=vk v:=z
   cases z'⟩
 keep:=λi h h' st k=>k it (by simp) _ st
 item:=by
  intro X hP hw hK hc i pins s σ H E I hf st hg
  subst hP hw hK
  obtain ⟨f0,f1,f2,f3,f4,f5⟩:=hf it (by simp)
  have W:=Walks.range (prog:=X.prog) (w:=X.w) (I.ok.hd hc) it lo 1 n
  refine W.item i s _ _ hg st λv h' tk hv aj kk=>?_
  obtain ⟨t,rfl⟩:=hv
  have I1:Inv X pins σ H { s with heap:=h',toks:=tk }:=I.turned (λb o hb e=>kk b o (by simpa using hb) e) f0 f1 f3 f4 f5
  refine ⟨_,rfl,Bp (s:={ s with heap:=h',toks:=tk }) (n:="range_iterator") aj rfl rfl (by decide) ⟨.int (lo+i),H,I1,⟨t,?_⟩,⟨rfl,rfl⟩,aj,λb hb=>(hf b hb).1⟩⟩
  rw [DC]
 done:=by
  intro X hP hw hK hc i pins s σ H E I hf st hg
  subst hP hw hK
  obtain ⟨f0,f1,f2,f3,f4,f5⟩:=hf it (by simp)
  exact wpAny_pyNext_range_end (I.ok.hd hc) st (by have:n<=i:=hg;ext this) λh' eb=>⟨rfl,I.turned (t':=s.toks) (λb o hb e=>eb b o hb e) f0 f1 f3 f4 f5⟩
 self:=λ_ _ _ _ _ st h=>wpAny_pyIter_rangeiter st h
end L2
namespace L2
open PySem PySem.Spec PyProof.Rows
section
variable {X:Cx}{tg:Expr}
theorem b3O{pins:List (Addr×Obj)}{σ:St}{H:Hp}{s:Shared}{R:It->Hp->Prop}{E:Value->Shared->Prop}{lo hi:Int}{t u v:Tok}{tk:Nat}(I:Inv X pins σ H s)(h1:-(2^62)<=lo)(h2:lo<2^62)(h3:-(2^62)<=hi)(h4:hi<2^62)
  (q:R (nG lo (hi-lo).toNat) H):wpAny (model X.prog X.w) X.A (pyIter (.ref s.heap.objs.size)) (F6 X pins σ tg R) E { s with heap:=s.heap.push { cls:=.type "range",data:=.fields #[.int lo t,.int hi u,.int 1 v] },toks:=tk }:=by
 refine Je (DB ..) (small_one h1 h2 h3 h4) ?_
 have I1:Inv X pins σ H { s with heap:=s.heap.push { cls:=.type "range",data:=.fields #[.int lo t,.int hi u,.int 1 v] },toks:=tk }:=I.kept λb o e=>bC _ e
 refine ⟨(s.heap.push { cls:=.type "range",data:=.fields #[.int lo t,.int hi u,.int 1 v] }).objs.size,[(s.heap.push { cls:=.type "range",data:=.fields #[.int lo t,.int hi u,.int 1 v] }).objs.size],_,_,H,rfl,
  I1.kept (t':=tk) λb o e=>bC _ e,S4 _ lo (hi-lo).toNat,?_,λb hb=>?_,q⟩
 .have e1:lo+((0:Nat):Int)*1=lo:=by simp
  have e2:(((hi-lo).toNat:Nat):Int)-((0:Nat):Int)=Bk lo hi 1:=by rw [rangeSize_one];split<;>lia
  show IsRangeIter _ _ (lo+((0:Nat):Int)*1) ((((hi-lo).toNat:Nat):Int)-((0:Nat):Int)) 1
  rw [e1,e2]
  exact fj _ rfl
 .have e:b=(s.heap.push { cls:=.type "range",data:=.fields #[.int lo t,.int hi u,.int 1 v] }).objs.size:=by simpa using hb
  subst e
  exact I1.iT (bo _) (I1.bh.fresh (bo _))
def zN(ta:TA):TI:=λσ H R=>ta σ H λvs H1=>∃j:Int,vs=[.int j] /\ -(2^62)<=j/\j<2^62/\R (nG 0 j.toNat) H1
theorem b1F(hg:Gl X "range")(hm:X.mg "range" = none)(ha:PA X [a] ta)(hs:starEach [a] X.env=[(false,eval a X.env)]:=by rfl):PI X tg (.Call (.Name "range" p) [a] [] pos) (zN ta):=by
 intro pins s σ H R I h
 refine Call_ (qb I hg hm DH (vI (aZ (ha pos pins s σ H _ I h) λus s1 ⟨vs,H1,I1,r1,q1⟩=>?_) hs rfl))
 obtain ⟨j,e,q1,q2,q⟩:=q1
 subst e
 cases r1 with
 | cons r rr =>
  cases rr
  obtain ⟨t,rfl⟩:=r
  exact call_range_1 (b3O I1 (by decide) (by decide) q1 q2 (by simpa using q))
def Gn(wi:TI)(g:TG)(tb:TS):TS:=λD σ H=>wi σ H λJ H1=>∃W:Nat->Nat->St->Hp->Prop,(∃m,W 0 m σ H1)/\∀i m σ H,W i m σ H ->
 (J.stop i H/\D.nx σ H)\/(J.go i H/\∃N:St->Hp->Prop,(∀aI H',N aI H'->∃m',m'<m/\W (i+1) m' aI H')/\∀x H',J.ur i H x H'->g x σ H' λcO H2=>tb { D with nx:=N,ct:=N,bk:=D.nx } cO H2)
def r6(fp:List Addr)(h:Heap):List (Addr×Obj):=fp.filterMap λb=>(h.get? b).map λo=>(b,o)
theorem Ca(hb:b∈fp)(e:h.get? b=some o):(b,o)∈r6 fp h:=O5.mpr ⟨b,hb,by rw [e];rfl⟩
theorem LL(hp:p∈r6 fp h):p.1∈fp/\h.get? p.1=some p.2:=by
 obtain ⟨b,hb,e⟩:=O5.mp hp
 cases q:h.get? b with
 | none=>rw [q] at e;cases e
 | some o =>
  rw [q] at e
  have e':(b,o)=p:=dj e
  subst e'
  exact ⟨hb,q⟩
theorem Inv.pinned{pins:List (Addr×Obj)}{σ:St}{H:Hp}{s:Shared}{fp:List Addr}(I:Inv X pins σ H s)(hf:∀b∈fp,cV X pins H b)(ho:∀b∈fp,∃o,s.heap.get? b=some o/\∀v,o.data≠.cell v):Inv X (pins++r6 fp s.heap) σ H s:=
 I.fN λp hp=>(bW.mp hp).elim (λz=>I.pin p (gi _ z)) λz=>by
  obtain ⟨hb,e⟩:=LL z
  obtain ⟨f0,f1,f2,_⟩:=hf p.1 hb
  obtain ⟨o,e',d⟩:=ho p.1 hb
  rw [e] at e';cases e'
  exact ⟨e,f0,f1,f2,d⟩
theorem Inv.ie{pins pl:List (Addr×Obj)}{σ:St}{H:Hp}{s:Shared}(I:Inv X (pins++pl) σ H s):Inv X pins σ H s:=I.fN λp hp=>I.pin p (gi _ (gv _ hp))
theorem Kt(hp:PassesOwn (model X.prog X.w) X.A X.env X.xe)(hc:X.calm=true)(hi:PI X tg iter wi)(hg:PG X tg g)(hb:nF X body tb)
  (hs:∀x,foldedSetIterable iter X.env x=pure x:=by intro _;rfl):PS X (.For tg iter body [] pos) (Gn wi g tb):=by
 intro pins s σ H D I h
 refine wpAny_For (aZ (hi pins s σ H _ I h) λv s1 h1=>aZ h1 λG7 s2 h2=>?_) hs
 obtain ⟨it,fp,tn,J,H2,e,I2,T,gC,f2,W,⟨m0,w0⟩,turn⟩:=h2
 subst e
 have uz:∀{H':Hp},(∀b∈fp,H' b=none)->∀b∈fp,cV X pins H' b:=λhn b hb=>⟨hn b hb,(f2 b hb).2⟩
 refine codeAny_forLoop_any (λn s'=>∃i aI H',Inv X pins aI H' s'/\tn i s'.heap/\(∀b∈fp,H' b=none)/\W i n aI H') ?_ m0 ⟨0,σ,H2,I2,gC,λb hb=>(f2 b hb).1,w0⟩
 rintro n s3 ⟨i,jw,H3,I3,iQ,AH,w3⟩
 rcases turn i n jw H3 w3 with ⟨stop,qn⟩ | ⟨go,N,hN,step⟩
 .refine vG hp (aZ (T.done X rfl rfl rfl hc i pins s3 jw H3 X.xe I3 (uz AH) iQ stop) λr s4 ⟨hr,I4⟩=>?_)
  subst hr
  exact DP ⟨jw,H3,I4,qn⟩
 .refine vG hp (aZ (T.item X rfl rfl rfl hc i pins s3 jw H3 X.xe I3 (uz AH) iQ go) λr s4 ⟨u,hr,h4⟩=>?_)
  subst hr
  refine vG hp (aZ h4 λ_ s5 ⟨x,H5,I5,r5,y5,uA,Io⟩=>?_)
  have Nm:=I5.pinned (uz Io) (T.obj _ _ uA)
  refine vG hp (aZ (hg _ s5 jw H5 x u _ Nm r5 (step x H5 y5)) λ_ s6 ⟨lE,H6,I6,q6⟩=>?_)
  refine vG hp (aZ (hb _ s6 lE H6 _ I6 q6) λf s7 q7=>?_)
  have again:∀{o6:St} {H7:Hp},Inv X (pins++r6 fp s5.heap) o6 H7 s7->N o6 H7->∃m,m<n/\∃i aI H',Inv X pins aI H' s7/\tn i s7.heap/\(∀b∈fp,H' b=none)/\W i m aI H':=λ{o6 H7} I7 n7=>by
   obtain ⟨m',hm,w7⟩:=hN o6 H7 n7
   refine ⟨m',hm,i+1,o6,H7,I7.ie,T.keep _ _ _ uA λb hb o e=>(I7.pin (b,o) (gi _ (gi _ (Ca hb e)))).1,λb hb=>?_,w7⟩
   obtain ⟨o,e,d⟩:=T.obj _ _ uA b hb
   exact (I7.pin (b,o) (gi _ (gi _ (Ca hb e)))).2.1
  cases f with
  | next=>obtain ⟨o6,H7,I7,n7⟩:=q7;exact again I7 n7
  | cont=>obtain ⟨o6,H7,I7,n7⟩:=q7;exact again I7 n7
  | brk=>obtain ⟨o6,H7,I7,q7⟩:=q7;exact ⟨o6,H7,I7.ie,q7⟩
  | ret v=>obtain ⟨x7,o6,H7,I7,r7,q7⟩:=q7;exact ⟨x7,o6,H7,I7.ie,r7,q7⟩
end
theorem b4w{K:aJ}{a:Addr}{xs:List V}{g:TG}{tb:TS}{D:Ends}{σ:St}{H:Hp}(Pv:Nat->St->Hp->Prop)(h0:Pv 0 σ H)(hl:∀i σ H,i<=xs.length->Pv i σ H->fF K H a xs)
  (hs:∀i x σ H,xs[i]?=some x->Pv i σ H->g x σ H λcO H2=>tb { D with nx:=Pv (i+1),ct:=Pv (i+1),bk:=D.nx } cO H2)(hd:∀σ H,Pv xs.length σ H->D.nx σ H):
  ∃W:Nat->Nat->St->Hp->Prop,(∃m,W 0 m σ H)/\∀i m σ H,W i m σ H ->
   ((CK K a).stop i H/\D.nx σ H)\/((CK K a).go i H/\∃N:St->Hp->Prop,(∀aI H',N aI H'->∃m',m'<m/\W (i+1) m' aI H')/\∀x H',(CK K a).ur i H x H'->g x σ H' λcO H2=>tb { D with nx:=N,ct:=N,bk:=D.nx } cO H2):=by
 refine ⟨λi m σ H=>m=xs.length-i/\i<=xs.length/\Pv i σ H,⟨xs.length,by simp,n6 _,h0⟩,?_⟩
 rintro i m σ H ⟨rfl,hi,p⟩
 have q:=hl i σ H hi p
 by_cases aT:i<xs.length
 .refine .inr ⟨⟨xs,xs[i],q,by simp [aT]⟩,Pv (i+1),λaI H' p'=>⟨xs.length-(i+1),by ext aT,rfl,aT,p'⟩,λx H' y=>?_⟩
  obtain ⟨e,y⟩:=y
  subst e
  exact hs i x σ _ (y xs q) p
 .have e:i=xs.length:=by ext hi aT
  subst e
  exact .inl ⟨⟨xs,q,bo _⟩,hd σ H p⟩
theorem b6N{K:aJ}{a:Addr}{xs:List V}{g:TG}{tb:TS}{D:Ends}{σ:St}{H:Hp}(Pv:Nat->St->Hp->Prop)(h0:Pv 0 σ H)(hl:∀i σ H,i<=xs.length->Pv i σ H->dN K H a xs)
  (hs:∀i x σ H,xs[i]?=some x->Pv i σ H->g x σ H λcO H2=>tb { D with nx:=Pv (i+1),ct:=Pv (i+1),bk:=D.nx } cO H2)(hd:∀σ H,Pv xs.length σ H->D.nx σ H):
  ∃W:Nat->Nat->St->Hp->Prop,(∃m,W 0 m σ H)/\∀i m σ H,W i m σ H ->
   ((CJ K a).stop i H/\D.nx σ H)\/((CJ K a).go i H/\∃N:St->Hp->Prop,(∀aI H',N aI H'->∃m',m'<m/\W (i+1) m' aI H')/\∀x H',(CJ K a).ur i H x H'->g x σ H' λcO H2=>tb { D with nx:=N,ct:=N,bk:=D.nx } cO H2):=by
 refine ⟨λi m σ H=>m=xs.length-i/\i<=xs.length/\Pv i σ H,⟨xs.length,by simp,n6 _,h0⟩,?_⟩
 rintro i m σ H ⟨rfl,hi,p⟩
 have q:=hl i σ H hi p
 by_cases aT:i<xs.length
 .refine .inr ⟨⟨xs,xs[i],q,by simp [aT]⟩,Pv (i+1),λaI H' p'=>⟨xs.length-(i+1),by ext aT,rfl,aT,p'⟩,λx H' y=>?_⟩
  obtain ⟨e,y⟩:=y
  subst e
  exact hs i x σ _ (y xs q) p
 .have e:i=xs.length:=by ext hi aT
  subst e
  exact .inl ⟨⟨xs,q,bo _⟩,hd σ H p⟩
theorem b2s{lo:Int}{n:Nat}{g:TG}{tb:TS}{D:Ends}{σ:St}{H:Hp}(Pv:Nat->St->Hp->Prop)(h0:Pv 0 σ H)
  (hs:∀i σ H,i<n->Pv i σ H->g (.int (lo+i)) σ H λcO H2=>tb { D with nx:=Pv (i+1),ct:=Pv (i+1),bk:=D.nx } cO H2)(hd:∀σ H,Pv n σ H->D.nx σ H):
  ∃W:Nat->Nat->St->Hp->Prop,(∃m,W 0 m σ H)/\∀i m σ H,W i m σ H ->
   ((nG lo n).stop i H/\D.nx σ H)\/((nG lo n).go i H/\∃N:St->Hp->Prop,(∀aI H',N aI H'->∃m',m'<m/\W (i+1) m' aI H')/\∀x H',(nG lo n).ur i H x H'->g x σ H' λcO H2=>tb { D with nx:=N,ct:=N,bk:=D.nx } cO H2):=by
 refine ⟨λi m σ H=>m=n-i/\i<=n/\Pv i σ H,⟨n,by simp,n6 _,h0⟩,?_⟩
 rintro i m σ H ⟨rfl,hi,p⟩
 by_cases aT:i<n
 .refine .inr ⟨aT,Pv (i+1),λaI H' p'=>⟨n-(i+1),by ext aT,rfl,aT,p'⟩,λx H' y=>?_⟩
  obtain ⟨e,y⟩:=y
  subst e y
  exact hs i σ _ aT p
 .have e:i=n:=by ext hi aT
  subst e
  exact .inl ⟨bo _,hd σ H p⟩
end L2
namespace L2
open PySem PySem.Spec PyProof.Rows
abbrev R2:=V->V->Hp->VK->Prop
def fW(X:Cx)(f:Value->Value->Sem Value)(r:R2):Prop:=
 ∀(pins:List (Addr×Obj)) (s:Shared) (σ:St) (H:Hp) (x y:V) (v u:Value) (Q:VK),Inv X pins σ H s->RelV x v->RelV y u->r x y H Q ->
  wpAny (model X.prog X.w) X.A (f v u) (EP X pins σ Q) X.xe s
def Nf(X:Cx)(f:Value->Sem Value)(r:V->Hp->VK->Prop):Prop:=
 ∀(pins:List (Addr×Obj)) (s:Shared) (σ:St) (H:Hp) (x:V) (v:Value) (Q:VK),Inv X pins σ H s->RelV x v->r x H Q ->
  wpAny (model X.prog X.w) X.A (f v) (EP X pins σ Q) X.xe s
def oY(X:Cx)(f:Value)(r:List V->Hp->VK->Prop):Prop:=
 ∀(pins:List (Addr×Obj)) (s:Shared) (σ:St) (H:Hp) (xs:List V) (us:List Value) (Q:VK),Inv X pins σ H s->aA xs us->r xs H Q ->
  wpAny (model X.prog X.w) X.A (call f us) (EP X pins σ Q) X.xe s
def Ng(X:Cx)(r:V->Hp->(Bool->Hp->Prop)->Prop):Prop:=
 ∀(pins:List (Addr×Obj)) (s:Shared) (σ:St) (H:Hp) (x:V) (v:Value) (Q:Bool->Hp->Prop),Inv X pins σ H s->RelV x v->r x H Q ->
  wpAny (model X.prog X.w) X.A (truthy v) (TP X pins σ Q) X.xe s
def yw(r:R2)(ta tb:TE):TE:=λσ H Q=>ta σ H λx H1=>tb σ H1 λy H2=>r x y H2 Q
def T8(r:V->Hp->VK->Prop)(ta:TE):TE:=λσ H Q=>ta σ H λx H1=>r x H1 Q
def rI(C:Int->Int->Prop)(g:Int->Int->V):R2:=λx y H Q=>∃i j,x=.int i/\y=.int j/\C i j/\Q (g i j) H
def sM(g:Int->Int->V):R2:=λx y H Q=>∃i j,x=.int i/\y=.int j/\Q (g i j) H
def rU(g:Int->V):V->Hp->VK->Prop:=λx H Q=>∃i,x=.int i/\Q (g i) H
section
variable {X:Cx}{a b c:Expr}{ta tb tc:TE}{pos:Pos}
theorem vJ(ha:PE X a ta)(hb:PE X b tb){pins:List (Addr×Obj)}{s:Shared}{σ:St}{H:Hp}{R:V->V->Hp->Prop}(I:Inv X pins σ H s)
  (h:ta σ H λx H1=>tb σ H1 λy H2=>R x y H2){Q:Value->Shared->Prop}{f:Value->Value->Sem Value}
  (hf:∀v u s2 x y H2,Inv X pins σ H2 s2->RelV x v->RelV y u->R x y H2->wpAny (model X.prog X.w) X.A (f v u) Q X.xe s2):
  wpAny (model X.prog X.w) X.A (eval a X.env) (λv bb=>wpAny (model X.prog X.w) X.A (eval b X.env) (λu kf=>wpAny (model X.prog X.w) X.A (f v u) Q X.xe kf) X.xe bb) X.xe s:=by
 refine aZ (ha pins s σ H _ I h) λv s1 ⟨x,H1,I1,r1,q1⟩=>?_
 refine aZ (hb pins s1 σ H1 _ I1 q1) λu s2 ⟨y,H2,I2,r2,q2⟩=>?_
 exact hf v u s2 x y H2 I2 r1 r2 q2
theorem yX(ho:fW X (binaryOp op) r)(ha:PE X a ta)(hb:PE X b tb):PE X (.BinOp a op b pos) (yw r ta tb):=by
 intro pins s σ H Q I h
 exact wpAny_BinOp (vJ ha hb I h λv u s2 x y H2 I2 rx ry q=>ho pins s2 σ H2 x y v u Q I2 rx ry q)
theorem yW(ho:Nf X (unaryOp op) r)(ha:PE X a ta):PE X (.UnaryOp op a pos) (T8 r ta):=by
 intro pins s σ H Q I h
 exact UnaryOp_ (aZ (ha pins s σ H _ I h) λv s1 ⟨x,H1,I1,r1,q1⟩=>ho pins s1 σ H1 x v Q I1 r1 q1)
theorem uF{f:Value->Value->Sem Value}{C:Int->Int->Prop}{g:Int->Int->Int}
  (rule:∀(i j:Int) (t u:Tok) (s:Shared) (Q:Value->Shared->Prop) (E:Value->Shared->Prop),C i j->Q (.int (g i j) s.toks) { s with toks:=s.toks+1 }->wpAny (model X.prog X.w) X.A (f (.int i t) (.int j u)) Q E s):
  fW X f (rI C λi j=>.int (g i j)):=by
 intro pins s σ H x y v u Q I rx ry h
 obtain ⟨i,j,rfl,rfl,hc,q⟩:=h
 obtain ⟨t,rfl⟩:=rx
 obtain ⟨t',rfl⟩:=ry
 exact rule i j t t' s _ _ hc ⟨.int (g i j),H,I.tok _,⟨_,rfl⟩,q⟩
theorem GO{f:Value->Value->Sem Value}{g:Int->Int->Int}
  (rule:∀(i j:Int) (t u:Tok) (s:Shared) (Q:Value->Shared->Prop) (E:Value->Shared->Prop),Q (.int (g i j) s.toks) { s with toks:=s.toks+1 }->wpAny (model X.prog X.w) X.A (f (.int i t) (.int j u)) Q E s):
  fW X f (sM λi j=>.int (g i j)):=by
 intro pins s σ H x y v u Q I rx ry h
 obtain ⟨i,j,rfl,rfl,q⟩:=h
 obtain ⟨t,rfl⟩:=rx
 obtain ⟨t',rfl⟩:=ry
 exact rule i j t t' s _ _ ⟨.int (g i j),H,I.tok _,⟨_,rfl⟩,q⟩
theorem qZ{f:Value->Value->Sem Value}{g:Int->Int->Bool}
  (rule:∀(i j:Int) (t u:Tok) (s:Shared) (Q:Value->Shared->Prop) (E:Value->Shared->Prop),Q (.bool (g i j)) s->wpAny (model X.prog X.w) X.A (f (.int i t) (.int j u)) Q E s):
  fW X f (sM λi j=>.bl (g i j)):=by
 intro pins s σ H x y v u Q I rx ry h
 obtain ⟨i,j,rfl,rfl,q⟩:=h
 obtain ⟨t,rfl⟩:=rx
 obtain ⟨t',rfl⟩:=ry
 exact rule i j t t' s _ _ ⟨.bl (g i j),H,I,rfl,q⟩
def lD(i j:Int):Prop:=(-(2^64)<i/\i<2^64)\/(-(2^64)<j/\j<2^64)
theorem lD.ok(h:lD i j):IntMulOk i j:=by
 rcases h with ⟨h1,h2⟩ | ⟨h1,h2⟩
 .exact .of_left (DT h1 h2)
 .exact .of_right (DT h1 h2)
theorem uE:fW X (binaryOp .Add) (sM λi j=>.int (i+j)):=GO λ_ _ _ _ _ _ _ q=>add_int q
theorem b6J:fW X (inplaceOp .Mult) (rI lD λi j=>.int (i*j)):=uF λ_ _ _ _ _ _ _ hc q=>imul_int q hc.ok
theorem T5{f:Value->Sem Value}{g:Int->Int}
  (rule:∀(i:Int) (t:Tok) (s:Shared) (Q:Value->Shared->Prop) (E:Value->Shared->Prop),Q (.int (g i) s.toks) { s with toks:=s.toks+1 }->wpAny (model X.prog X.w) X.A (f (.int i t)) Q E s):
  Nf X f (rU λi=>.int (g i)):=by
 intro pins s σ H x v Q I rx h
 obtain ⟨i,rfl,q⟩:=h
 obtain ⟨t,rfl⟩:=rx
 exact rule i t s _ _ ⟨.int (g i),H,I.tok _,⟨_,rfl⟩,q⟩
theorem b7N:Nf X (unaryOp .USub) (rU λi=>.int (-i)):=T5 λ_ _ _ _ _ q=>neg_int q
end
section
variable {X:Cx}{a b c:Expr}{ta tb tc:TE}{pos:Pos}
theorem Qu{pins:List (Addr×Obj)}{σ:St}{H:Hp}{s:Shared}{Q:VK}{k k':Bool}(I:Inv X pins σ H s)(q:Q (.bl k) H)(e:k=k'):EP X pins σ Q (.bool k') s:=by
 subst e
 exact ⟨.bl k,H,I,rfl,q⟩
theorem y6:fW X (compareOp .Lt) (sM λi j=>.bl (decide (i<j))):=qZ λ_ _ _ _ _ _ _ q=>lt_int q
theorem y7:fW X (compareOp .LtE) (sM λi j=>.bl (decide (i<=j))):=qZ λ_ _ _ _ _ _ _ q=>le_int q
theorem y8:fW X (compareOp .Gt) (sM λi j=>.bl (decide (j<i))):=qZ λ_ _ _ _ _ _ _ q=>gt_int q
theorem y9:fW X (compareOp .GtE) (sM λi j=>.bl (decide (j<=i))):=qZ λ_ _ _ _ _ _ _ q=>ge_int q
theorem b8p:fW X (compareOp .Is) (λx y H Q=>y=.aR/\Q (.bl (decide (x=.aR))) H):=by
 intro pins s σ H x y v u Q I rx ry h
 obtain ⟨rfl,q⟩:=h
 cases ry
 refine is_none_gen (Qu I q ?_)
 cases x<;>first
  | (cases rx;rfl)
  | (obtain ⟨t,rfl⟩:=rx;rfl)
theorem b6q:fW X (compareOp .IsNot) (λx y H Q=>y=.aR/\Q (.bl (!decide (x=.aR))) H):=by
 intro pins s σ H x y v u Q I rx ry h
 obtain ⟨rfl,q⟩:=h
 cases ry
 refine isnot_none_gen (Qu I q ?_)
 cases x<;>first
  | (cases rx;rfl)
  | (obtain ⟨t,rfl⟩:=rx;rfl)
theorem fW.or(h:fW X f r)(h':fW X f r'):fW X f (λx y H Q=>r x y H Q\/r' x y H Q):=by
 intro pins s σ H x y v u Q I rx ry q
 rcases q with q | q
 .exact h pins s σ H x y v u Q I rx ry q
 .exact h' pins s σ H x y v u Q I rx ry q
theorem P9(b:Expr)(h:op≠.In:=by decide)(h2:op≠.NotIn:=by decide):behindInMarks op b=false:=by
 have e1:(op==CmpOp.In)=false:=by cases op<;>first | rfl | exact absurd rfl h
 have e2:(op==CmpOp.NotIn)=false:=by cases op<;>first | rfl | exact absurd rfl h2
 cases b<;>simp [behindInMarks,e1,e2]
theorem b6l(ho:fW X (compareOp op) r)(ha:PE X a ta)(hb:PE X b tb)(hm:behindInMarks op b=false):PE X (.Compare a [op] [b] pos) (yw r ta tb):=by
 intro pins s σ H Q I h
 exact wpAny_Compare1 (vJ ha hb I h λv u s2 x y H2 I2 rx ry q=>ho pins s2 σ H2 x y v u Q I2 rx ry q) hm
def PX(t:TE):TT:=λσ H Q=>t σ H λx H'=>∃k,x=.bl k/\Q k H'
theorem b6a(ho:fW X (compareOp op) r)(ha:PE X a ta)(hb:PE X b tb)(hm:behindInMarks op b=false):PT X (.Compare a [op] [b] pos) (PX (yw r ta tb)):=by
 intro pins s σ H Q I h
 refine wpAny_isTrue_Compare1 (aZ (ha pins s σ H _ I h) λv s1 ⟨x,H1,I1,r1,q1⟩=>aZ (hb pins s1 σ H1 _ I1 q1) λu s2 ⟨y,H2,I2,r2,q2⟩ =>
  aZ (ho pins s2 σ H2 x y v u _ I2 r1 r2 q2) λc s3 ⟨z,H3,I3,r3,k,e,q3⟩=>?_) hm
 subst e
 cases r3
 exact tL ⟨H3,I3,q3⟩
def b7V(r r':R2)(ta tb tc:TE):TE:=λσ H Q=>ta σ H λx H1=>tb σ H1 λy H2=>r x y H2 λz H3=>∃k,z=.bl k /\
 (if k=true then tc σ H3 λw' H4=>r' y w' H4 Q else Q (.bl false) H3)
theorem b3R(ho:fW X (compareOp op) r)(jD:fW X (compareOp za) r')(ha:PE X a ta)(hb:PE X b tb)(hc:PE X c tc)
  (hm:lastMarks [op,za] [b,c]=false:=by with_unfolding_all rfl):PT X (.Compare a [op,za] [b,c] pos) (PX (b7V r r' ta tb tc)):=by
 intro pins s σ H Q I h
 refine isTrue_chain (aZ (ha pins s σ H _ I h) λv s1 ⟨x,H1,I1,r1,q1⟩=>test_link (aZ (hb pins s1 σ H1 _ I1 q1) λu s2 ⟨y,H2,I2,r2,q2⟩ =>
  aZ (ho pins s2 σ H2 x y v u _ I2 r1 r2 q2) λd s3 ⟨z,H3,I3,r3,k,e,q3⟩=>?_)) hm
 subst e
 cases r3
 refine tL ?_
 cases k with
 | false =>
  obtain ⟨k',e',q'⟩:=q3
  cases e'
  exact ite_ff ⟨H3,I3,q'⟩
 | true =>
  refine ite_tt (test_last (aZ (hc pins s3 σ H3 _ I3 q3) λw' s4 ⟨z',H4,I4,r4,q4⟩=>aZ (jD pins s4 σ H4 y z' u w' _ I4 r2 r4 q4) λd' s5 ⟨z2,H5,I5,r5,k2,e2,q5⟩=>?_))
  subst e2
  cases r5
  exact tL ⟨H5,I5,q5⟩
def wy(K:aJ)(x:V)(H:Hp)(k:Bool):Prop:=
 match x with
 | .aR=>k=false
 | .bl b=>k=b
 | .int i=>k=(i != 0)
 | .str y=>y.length<=sizeLine/\k=((y.length:Int) != 0)
 | .Bn y=>y.size<=sizeLine/\k=((y.size:Int) != 0)
 | .ref p=>(∃xs,fF K H p xs/\k=!xs.isEmpty)\/(∃xs,dN K H p xs/\k=!xs.isEmpty)\/∃bB,H p=some (.dK bB)/\k=!bB.isEmpty
 | _=>False
theorem b0R{κ:Type}{bB:List (κ×V)}{vs:List (κ×Value)}(r:KV bB vs):(!vs.isEmpty)=!bB.isEmpty:=by
 cases r<;>rfl
theorem SE(r:aA xs ak):(!ak.toArray.isEmpty)=!xs.isEmpty:=by
 cases r<;>simp
theorem xB:(sizeLine:Nat)<2^63:=by rw [iY];decide
theorem b7R:Ng X (λx H Q=>∃k,wy X.K x H k/\Q k H):=by
 intro pins s σ H x v Q I rx h
 obtain ⟨k,e,q⟩:=h
 have hl:=xB
 have hs:sizeLine=16777216:=iY
 cases x with
 | aR =>
  cases rx
  have e':k=false:=e
  subst e'
  exact truthy_none ⟨H,I,q⟩
 | bl b =>
  cases rx
  have e':k=b:=e
  subst e'
  exact tL ⟨H,I,q⟩
 | int i =>
  obtain ⟨t,rfl⟩:=rx
  have e':k=(i != 0):=e
  subst e'
  exact PySem.P.truthy_int ⟨H,I,q⟩
 | str y =>
  obtain ⟨t,rfl⟩:=rx
  obtain ⟨hy,e'⟩:y.length<=sizeLine/\k=((y.length:Int) != 0):=e
  subst e'
  exact PySem.P.truthy_str (by ext hs hy) ⟨H,I.tok _,q⟩
 | Bn y =>
  obtain ⟨t,rfl⟩:=rx
  obtain ⟨hy,e'⟩:y.size<=sizeLine/\k=((y.size:Int) != 0):=e
  subst e'
  exact PySem.W.truthy_bytes (eQ ‹_› (by decide)) ⟨H,I.tok _,q⟩
 | ref p =>
  cases rx
  have e':(∃xs,fF X.K H p xs/\k=!xs.isEmpty)\/(∃xs,dN X.K H p xs/\k=!xs.isEmpty)\/∃bB,H p=some (.dK bB)/\k=!bB.isEmpty:=e
  rcases e' with ⟨xs,hx,e'⟩ | ⟨xs,hx,e'⟩ | ⟨bB,hx,e'⟩
  .subst e'
   obtain ⟨ak,r,pl,hz⟩:=I.list hx
   have hlen:=r.length
   exact wpAny_truthy_list pl.isList (by simp only [dG];ext hs hz hlen) ⟨H,I.tok _,by rw [SE r];exact q⟩
  .subst e'
   obtain ⟨ak,r,pl,hz⟩:=I.tuple hx
   have hlen:=r.length
   exact truthy_tuple pl (by simp only [dG];ext hs hz hlen) ⟨H,I.tok _,by rw [SE r];exact q⟩
  .subst e'
   obtain ⟨hz,hS,vs,r,m⟩:bB.length<=sizeLine/\(p==sysModules)=false/\∃vs,KV bB vs/\s.heap.DictOf (KJ X.prog X.w) p vs:=I.bh p _ hx
   have hlen:bB.length=vs.length:=Paired.length r
   exact wpAny_truthy_dict hS m (by ext hs hz hlen) ⟨H,I.tok _,by rw [b0R r];exact q⟩
 | _=>exact (show False from e).elim
theorem Rx(ha:PE X a ta)(he:∀whole,isTrue a X.env whole=(do let v <-whole;standAt a.pos;holding [v] (truthy v))):
  PT X a (λσ H Q=>ta σ H λx H'=>∃k,wy X.K x H' k/\Q k H'):=by
 intro pins s σ H Q I h
 exact isTrue_plain (aZ (ha pins s σ H _ I h) λv s1 ⟨x,H1,I1,r1,q1⟩=>b7R pins s1 σ H1 x v Q I1 r1 q1) (he _)
theorem lZ:fW X (binaryOp .Add) (λx y H Q=>∃i j,x=.str i/\y=.str j/\i.length+j.length<=sizeLine/\Q (.str (i++j)) H):=by
 intro pins s σ H x y v u Q I rx ry h
 obtain ⟨i,j,rfl,rfl,hz,q⟩:=h
 obtain ⟨t,rfl⟩:=rx
 obtain ⟨t',rfl⟩:=ry
 exact add_str (λt' tk=>⟨.str (i++j),H,I.tok _,⟨_,rfl⟩,q⟩) hz
theorem vals1(r:aA [x] us):∃u,us=[u]/\RelV x u:=by
 cases r with
 | cons r1 r2=>cases r2;exact ⟨_,rfl,r1⟩
theorem vals2(r:aA [x,y] us):∃u w',us=[u,w']/\RelV x u/\RelV y w':=by
 cases r with
 | cons r1 r2 =>
  cases r2 with
  | cons r3 r4=>cases r4;exact ⟨_,_,rfl,r1,r3⟩
theorem b22(hc:X.calm=true):oY X (.builtin "max") (λxs H Q=>∃i j,xs=[.int i,.int j]/\Q (.int (if j>i then j else i)) H):=by
 intro pins s σ H xs us Q I r h
 obtain ⟨i,j,rfl,q⟩:=h
 obtain ⟨u,w',rfl,⟨t,rfl⟩,⟨t',rfl⟩⟩:=vals2 r
 refine max_two_ints (I.ok.hd hc) λh' tk k=>⟨_,H,I.kept k,?_,q⟩
 by_cases hj:j>i
 .rw [if_pos hj,if_pos hj];exact ⟨_,rfl⟩
 .rw [if_neg hj,if_neg hj];exact ⟨_,rfl⟩
theorem b20(hc:X.calm=true):oY X (.builtin "min") (λxs H Q=>∃i j,xs=[.int i,.int j]/\Q (.int (if j<i then j else i)) H):=by
 intro pins s σ H xs us Q I r h
 obtain ⟨i,j,rfl,q⟩:=h
 obtain ⟨u,w',rfl,⟨t,rfl⟩,⟨t',rfl⟩⟩:=vals2 r
 refine min_two_ints (I.ok.hd hc) λh' tk k=>⟨_,H,I.kept k,?_,q⟩
 by_cases hj:j<i
 .rw [if_pos hj,if_pos hj];exact ⟨_,rfl⟩
 .rw [if_neg hj,if_neg hj];exact ⟨_,rfl⟩
end
end L2
namespace L2
open PySem PySem.Spec PyProof.Rows
section
variable {prog:Program}{w:World}{A:Around}{E:Value->Shared->Prop}{s:Shared}{K:aJ}{x dx C f:Addr}{mA:Str->Option Value}{name:Str}{v:Value}
end
section
variable {P:Program}{w:World}{H H':Hp}{h h':Heap}{a C dx:Addr}{fs ZO:List (Str×V)}
end
section
variable {X:Cx}{pins:List (Addr×Obj)}{σ:St}{H:Hp}{s:Shared}{a C dx:Addr}{fs:List (Str×V)}{f:Str}{v:V}{A:Around}{E:Value->Shared->Prop}
end
section
variable {X:Cx}{o e value:Expr}{f:Str}{pos pos' T6:Pos}{ta tv:TE}
end
section
variable {X:Cx}{pins:List (Addr×Obj)}{σ:St}{H:Hp}{s:Shared}{A:Around}{E:Value->Shared->Prop}{Q:Value->Shared->Prop}{c:Value}{b:Bool}
end
end L2
namespace L2
open PySem PySem.Spec PyProof.Rows
structure cL(k:Nat)(A:Around):Prop where
 hd:A.handled=none
 dp:A.depth+3*k+5<recursionLimit
 un:A.units+16*k+200<cLine
theorem cL.mono(r:cL k A)(h:j<=k):cL j A:=⟨r.hd,by have:=r.dp;ext h this,by have:=r.un;ext h this⟩
theorem cL.deeper(r:cL (k+1) A)(env:Env):cL k (A.deeper env):=
 ⟨r.hd,by have:=r.dp;show A.depth+1+3*k+5<_;ext this,by have:=r.un;show A.units+3+16*k+200<_;ext this⟩
theorem cL.depth(r:cL k A):A.depth<recursionLimit:=by have:=r.dp;ext this
def Gj:TA:=λ_ H Q=>Q [] H
def yz(ta:TE)(tr:TA):TA:=λσ H Q=>ta σ H λx H1=>tr σ H1 λxs H2=>Q (x::xs) H2
section
variable {X:Cx}{e:Expr}{es:List Expr}{te:TE}{t:TA}{pos:Pos}
theorem qI:PA X [] Gj:=λ_ _ _ _ H Q I h=>Ee ⟨[],H,I,.nil,h⟩
theorem qJ(ha:PE X e te)(hr:PA X es t)(hs:starEach (e::es) X.env=(false,eval e X.env)::starEach es X.env:=by rfl):PA X (e::es) (yz te t):=by
 intro pos pins s σ H Q I h
 rw [hs]
 show wpAny _ _ (spliced ((false,eval e X.env)::backTo pos (starEach es X.env))) _ _ s
 refine Ef (aZ (ha pins s σ H _ I h) λu s1 ⟨x,H1,I1,r1,q1⟩=>?_)
 exact aZ (hr pos pins s1 σ H1 _ I1 q1) λus s2 ⟨xs,H2,I2,r2,q2⟩=>⟨x::xs,H2,I2,.cons r1 r2,q2⟩
def Gf(t:TA):TE:=λσ H Q=>t σ H λxs H1=>xs.length<=sizeLine/\∀p,H1 p=none->Q (.ref p) (upd H1 p (.tup xs))
def Gk(t:TA):TE:=λσ H Q=>t σ H λxs H1=>xs.length<=sizeLine/\∀p,H1 p=none->Q (.ref p) (upd H1 p (.lst xs))
theorem b8h{x1}(h:PA X es t):PE X (.Tuple es x1 pos) (Gf t):=by
 intro pins s σ H Q I hq
 refine wpAny_Tuple_spliced (aZ (h pos pins s σ H _ I hq) λus s1 ⟨xs,H1,I1,r,z,q⟩=>⟨by rw [<-r.length];exact z,?_⟩)
 have hf:H1 s1.heap.objs.size=none:=I1.bh.fresh (bo _)
 refine ⟨.ref s1.heap.objs.size,upd H1 s1.heap.objs.size (.tup xs),I1.laid (t':=s1.toks) (λb u e=>bC _ e) (bo _) ?_,rfl,q _ hf⟩
 exact ⟨z,us,r,⟨_,fj _ rfl,rfl,_,rfl⟩⟩
theorem b8k(h:PA X es t):PE X (.List es pos) (Gk t):=by
 intro pins s σ H Q I hq
 refine wpAny_List_spliced (aZ (h pos pins s σ H _ I hq) λus s1 ⟨xs,H1,I1,r,z,q⟩=>⟨by rw [<-r.length];exact z,?_⟩)
 have hf:H1 s1.heap.objs.size=none:=I1.bh.fresh (bo _)
 refine ⟨.ref s1.heap.objs.size,upd H1 s1.heap.objs.size (.lst xs),I1.laid (t':=s1.toks) (λb u e=>bC _ e) (bo _) ?_,rfl,q _ hf⟩
 exact ⟨z,us,0,r,fj _ rfl⟩
end
abbrev Sp:=List V->Hp->VK->XK->Prop
abbrev qm:=List Env->Hp->Shared->XK->Value->Shared->Prop
structure ql(P:Program)(w:World)(K:aJ)(mg:Str->Option Value)(base:Heap)(A:Around)(outer:List Env)(s:Shared)(H:Hp):Prop where
 frames:A.frames=some outer
 mod:Mod K mg base
 bs:∀b o,base.get? b=some o->s.heap.get? b=some o/\H b=none
 rW:base.objs.size<=s.heap.objs.size
 gF:s.heap.FunFrames base outer
 ve:∀b∈oR outer,H b=none
 bh:iK P w H s.heap
 bare:AllBare s.gens
def CE(outer:List Env)(P:Program)(w:World)(H:Hp)(s:Shared)(Q:VK)(u:Value)(s':Shared):Prop:=
 ∃v H',s'.os=s.os/\AllBare s'.gens/\Un (oR outer) [] H H' s.heap s'.heap/\iK P w H' s'.heap/\RelV v u/\Q v H'
def CR(CX:qm)(outer:List Env)(P:Program)(w:World)(H:Hp)(s:Shared)(Q:VK)(E:XK)(r:Result)(s':Shared):Prop:=
 match r with
 | .ok (.ret u)=>CE outer P w H s Q u s'
 | .ok _=>False
 | .error e=>CX outer H s E e s'
structure cW(P:Program)(w:World)(K:aJ)(mg:Str->Option Value)(base:Heap)(CX:qm)(k:Nat)(f:Addr)(fd:FuncData)(ps:List Str)(sp:Sp):Prop where
 len:∀vs H Q E,sp vs H Q E->vs.length=ps.length
 run:∀(A:Around) (outer:List Env) (s:Shared) (H:Hp) (args:Args) (us:List Value) (vs:List V) (Q:VK) (E:XK),cL k A->ql P w K mg base A outer s H->BindsTo s fd args (ps.zip us)->aA vs us->sp vs H Q E ->
  codeAny (model P w) A (.call (.ref f) args) (CR CX outer P w H s Q E) s
theorem cW.imp{P:Program}{w:World}{K:aJ}{mg:Str->Option Value}{base:Heap}{CX:qm}{k:Nat}{f:Addr}{fd:FuncData}{ps:List Str}{sp Nu:Sp}(F:cW P w K mg base CX k f fd ps sp)
  (h:∀vs H Q E,Nu vs H Q E->sp vs H Q E):cW P w K mg base CX k f fd ps Nu:=
 ⟨λvs H Q E q=>F.len vs H Q E (h _ _ _ _ q),λA outer s H args us vs Q E hr he hb hv hs=>F.run A outer s H args us vs Q E hr he hb hv (h _ _ _ _ hs)⟩
section
variable {X:Cx}{pins:List (Addr×Obj)}{σ:St}{H:Hp}{s s':Shared}
theorem Inv.gG(I:Inv X pins σ H s):ql X.prog X.w X.K X.mg X.base X.A X.stack s H:=
 ⟨I.ok.frames,I.ok.mod,I.bs,eQ I.ok.rW I.sz,I.stack,I.mM,I.bh,I.bare⟩
theorem Inv.after(I:Inv X pins σ H s)(h:CE X.stack X.prog X.w H s Q u s'):EP X pins σ Q u s':=by
 obtain ⟨v,H',os,bare,un,bh,r,q⟩:=h
 obtain ⟨hh,g,d,t,GN⟩:=s'
 obtain rfl:GN=s.os:=os
 exact ⟨v,H',I.call (h':=hh) (g':=g) (d':=d) (t':=t) (ch:=[]) un bh bare (λb z=>absurd z (by simp)),r,q⟩
end
def PV(sp:Sp)(tB:List V)(E:XK)(t:TA):TE:=λσ H Q=>t σ H λvs H1=>sp (vs++tB) H1 Q E
def Binds(K:aJ)(fd:FuncData)(ps:List Str)(ds:List Value):Prop:=
 ∀(s:Shared) (us:List Value),K.In s.heap->(us++ds).length=ps.length->BindsTo s fd ⟨us,[]⟩ (ps.zip (us++ds))
theorem Binds.all{K:aJ}{fd:FuncData}{ps:List Str}(h:∀us:List Value,us.length=ps.length->bindArgs fd ⟨us,[]⟩=pure (ps.zip us)):Binds K fd ps []:=λs us _ hl=>by
 rw [nk] at hl ⊢
 exact .of_eq (h us hl)
def J7(CX:qm)(X:Cx)(E:XK):Prop:=∀(pins:List (Addr×Obj)) (σ:St) (H:Hp) (s:Shared) (e:Value) (s':Shared),Inv X pins σ H s->CX X.stack H s E e s'->X.xe e s'
section
variable {X:Cx}{CX:qm}{k:Nat}{f C:Addr}{fd:FuncData}{ps:List Str}{sp:Sp}{tB:List V}{ds:List Value}{E:XK}{x m:Str}{p pos apos:Pos}{e o:Expr}{es:List Expr}{ta:TE}{t:TA}
theorem b79{pins:List (Addr×Obj)}{σ:St}{H:Hp}{s:Shared}{Q:VK}{us:List Value}{vs:List V}(F:cW X.prog X.w X.K X.mg X.base CX k f fd ps sp)(hr:cL k X.A)(hb:Binds X.K fd ps ds)(hd:aA tB ds)(hx:J7 CX X E)
  (I:Inv X pins σ H s)(r:aA vs us)(h:sp (vs++tB) H Q E):wpAny (model X.prog X.w) X.A (call (.ref f) us) (EP X pins σ Q) X.xe s:=by
 have r2:aA (vs++tB) (us++ds):=r.append hd
 have hl:(us++ds).length=ps.length:=by rw [<-r2.length];exact F.len _ _ _ _ h
 refine wpAny_call (DZ (F.run X.A X.stack s H ⟨us,[]⟩ (us++ds) (vs++tB) Q E hr I.gG (hb s us I.uM hl) r2 h) λr s' hq=>?_)
 cases r with
 | error e=>exact hx pins σ H s e s' I hq
 | ok fl =>
  cases fl with
  | ret u=>exact I.after hq
  | next=>exact kP hq
  | brk=>exact kP hq
  | cont=>exact kP hq
theorem b6m(F:cW X.prog X.w X.K X.mg X.base CX k f fd ps sp)(hr:cL k X.A)(hg:Gl X x)(hm:X.mg x=some (.ref f))(hk:Bd X.K (.ref f)=true)(hb:Binds X.K fd ps ds)(hd:aA tB ds)(hx:J7 CX X E)
  (ha:PA X (e::es) t)(kG:(x==("__debug__":Str))=false:=by decide)(he:starEach (e::es) X.env=(false,eval e X.env)::starEach es X.env:=by rfl)(dk:(backTo pos (starEach es X.env)).any (·.1)=false:=by rfl):
  PE X (.Call (.Name x p) (e::es) [] pos) (PV sp tB E t):=by
 intro pins s σ H Q I h
 refine xi (KG I hg hm ?_ kG)
 refine PySem.W.callWith_K (h₀:=X.base) I.ok.mod.G3 hk (aZ (ha pos pins s σ H _ I h) λus s1 ⟨vs,H1,I1,r,q⟩=>⟨I1.uM,?_⟩) he dk
 exact b79 F hr hb hd hx I1 r q
end
section
variable {X:Cx}{CX:qm}{k:Nat}{f C:Addr}{fd:FuncData}{ps ks:List Str}{sp:Sp}{E:XK}{x m:Str}{p pos apos XQ:Pos}{e o:Expr}{es:List Expr}{kws:List Keyword}{te ta:TE}{t tk:TA}{nm:Option Str}
variable {g:List Value->List Value->List Value}{gV:List V->List V->List V}
end
structure dI(N P:List Str)(sc:Scope):Prop where
 kind:sc.kind=.function
 co:sc.isCoroutine=false
 gen:sc.isGenerator=false
 nd:N.Nodup
 pre:N.take P.length=P
 par:∀x∈P,sc.names.lookup x=some .local\/sc.names.lookup x=some .cell
 uG:∀y∈sc.names,y.2≠.free
theorem Sy{kindOf:Str->Option NameKind}{x:Str}:∀{binds:List (Str×Value)} {m:Str->Option Value},(∀v,(x,v)∉binds)->bindL kindOf binds m x=m x
 | [],_,_=>rfl
 | (n,v)::r,m,h=>by
  unfold bindL
  rw [Sy λw hw=>h w (bG _ hw)]
  split
  .have:x≠n:=by rintro rfl;exact h v bw
   simp [this]
  .rfl
theorem Sv{kindOf:Str->Option NameKind}{x:Str}:∀{binds:List (Str×Value)} {m:Str->Option Value},(∀v,(x,v)∉binds)->bindC kindOf binds m x=m x
 | [],_,_=>rfl
 | (n,v)::r,m,h=>by
  unfold bindC
  rw [Sv λw hw=>h w (bG _ hw)]
  split
  .rfl
  .have:x≠n:=by rintro rfl;exact h v bw
   simp [this]
theorem Sw{kindOf:Str->Option NameKind}{x:Str}{v:Value}:∀{P:List Str} {vs:List Value} {i:Nat} {m:Str->Option Value},P.Nodup->P[i]?=some x->vs[i]?=some v->kindOf x=some .local ->
  bindL kindOf (P.zip vs) m x=some v
 | [],_,_,_,_,h,_,_=>by simp at h
 | _::_,[],_,_,_,_,h,_=>by simp at h
 | p::P,w::vs,0,m,nd,h1,h2,hk=>by
  simp at h1 h2;subst h1;subst h2
  show bindL kindOf ((p,w)::P.zip vs) m p=_
  unfold bindL
  rw [Sy λv hv=>(vF.mp nd).1 (DO hv).1,if_pos hk]
  simp
 | p::P,w::vs,i+1,m,nd,h1,h2,hk=>by
  show bindL kindOf ((p,w)::P.zip vs) m x=_
  unfold bindL
  exact Sw (i:=i) (vF.mp nd).2 (by simpa using h1) (by simpa using h2) hk
theorem Su{kindOf:Str->Option NameKind}{x:Str}{v:Value}:∀{P:List Str} {vs:List Value} {i:Nat} {m:Str->Option Value},P.Nodup->P[i]?=some x->vs[i]?=some v->kindOf x≠some .local ->
  bindC kindOf (P.zip vs) m x=some v
 | [],_,_,_,_,h,_,_=>by simp at h
 | _::_,[],_,_,_,_,h,_=>by simp at h
 | p::P,w::vs,0,m,nd,h1,h2,hk=>by
  simp at h1 h2;subst h1;subst h2
  show bindC kindOf ((p,w)::P.zip vs) m p=_
  unfold bindC
  rw [Sv λv hv=>(vF.mp nd).1 (DO hv).1,if_neg hk]
  simp
 | p::P,w::vs,i+1,m,nd,h1,h2,hk=>by
  show bindC kindOf ((p,w)::P.zip vs) m x=_
  unfold bindC
  exact Su (i:=i) (vF.mp nd).2 (by simpa using h1) (by simpa using h2) hk
def start(N:List Str)(vs:List V):St:=vs.map some++jo (N.length-vs.length) none
def mj(CX:qm)(P:Program)(w:World)(K:aJ)(mg:Str->Option Value)(base:Heap)(N:List Str)(qual:Str)(scope:Scope)(f:Addr)(cd:Value)(A:Around)(outer:List Env)(s:Shared)(H:Hp)(E:XK):Cx where
 prog:=P
 w:=w
 K:=K
 mg:=mg
 base:=base
 A:=A.deeper (envOfC qual scope s.heap.objs.size f cd)
 N:=N
 dB:=s
 qj:=H
 env:=envOfC qual scope s.heap.objs.size f cd
 outer:=outer
 stack:=envOfC qual scope s.heap.objs.size f cd::outer
 ex:=[]
 calm:=true
 fn:=λ_=>true
 pn:=[]
 xe:=λe s'=>wpAny (model P w) (A.deeper (envOfC qual scope s.heap.objs.size f cd)) (leaving (envOfC qual scope s.heap.objs.size f cd) e) (λ_ GA=>CX outer H s E e GA) (λe' GA=>CX outer H s E e' GA) s'
theorem Rh{sc:Scope}{n:Nat}{x:Str}(h:sc.names.lookup x=some .cell):∃c,(cellsFrom n sc.names []).lookup x=some c:=by
 have q:=Pn sc.names n [] (.inl h)
 exact Option.isSome_iff_exists.mp q
theorem b2m{CX:qm}{P:Program}{w:World}{K:aJ}{mg:Str->Option Value}{base:Heap}{N ps:List Str}{qual:Str}{scope:Scope}{f:Addr}{cd:Value}{A:Around}{outer:List Env}{s s1:Shared}{H:Hp}{E:XK}{us:List Value}{vs:List V}
  (S:dI N ps scope)(hd:A.handled=none)(e0:ql P w K mg base A outer s H)(hl:vs.length=ps.length)(r:aA vs us)
  (x:InCallC s s.heap.objs.size (bindL (envOfC qual scope s.heap.objs.size f cd).kindOf (ps.zip us) λ_=>none) (cellsFrom (s.heap.objs.size+1) scope.names []) (bindC (envOfC qual scope s.heap.objs.size f cd).kindOf (ps.zip us) λ_=>none) s1):
  Inv (mj CX P w K mg base N qual scope f cd A outer s H E) [] (start N vs) H s1:=by
 have dk:ps.length<=N.length:=by have:=congrArg mn S.pre;rw [jr] at this;ext this
 obtain ⟨h1,tk,rfl,hk⟩:=x.done
 have GY:∀b:Addr,b∉(mj CX P w K mg base N qual scope f cd A outer s H E).ex:=λb z=>absurd (show b∈([]:List Addr) from z) (by simp)
 refine ⟨⟨e0.mod,S.kind,rfl,rfl,bo _,λy z c h1 h2=>?_,λy hy=>?_,λy c _ h=>?_,λ_=>hd,Around.frames_deeper e0.frames,.inr ⟨rfl,rfl⟩,λb z=>absurd z (GY b),e0.bs,e0.rW,λb _ _=>GY b,λb z=>absurd z (GY b),e0.gF,e0.ve⟩,
  rfl,e0.bare,Un.kept hk,⟨_,x.toInCall.ns,λi y v h1 h2 h3=>?_⟩,λy c h=>⟨_,x.cell y c h⟩,e0.bh.fresh (bo _),λy c h=>?_,λp hp=>absurd (show p∈([]:List (Addr×Obj)) from hp) (by simp),e0.bh.kept hk,?_⟩
 .exact name_of_addr x.apart (xk h1) (xk h2)
 .have hy:scope.names.lookup y=some .cell\/scope.names.lookup y=some .free:=hy
  rcases hy with hy | hy
  .exact Rh hy
  .exact absurd rfl (S.uG _ (xk hy))
 .exact w8 (x.above y c (xk h))
 .have hi:i<vs.length:=by
   unfold start at h2
   by_cases hi:i<vs.length
   .exact hi
   .rw [rR (by simpa using hi)] at h2
    rw [Ea] at h2
    split at h2<;>cases h2
  have ha:vs[i]?=some v:=by
   unfold start at h2
   rw [vH (by simpa using hi),kT] at h2
   cases e:vs[i]? with
   | none=>rw [e] at h2;cases h2
   | some a=>rw [e] at h2;cases h2;rfl
  obtain ⟨u,hu,rv⟩:=r.get ha
  have hp:ps[i]?=some y:=by
   rw [<-S.pre,List.getElem?_take_of_lt (by ext hl hi)];exact h1
  have NI:ps.Nodup:=by rw [<-S.pre];exact S.nd.sublist (List.take_sublist _ _)
  refine ⟨u,rv,?_⟩
  rcases S.par y (Bl hp) with k | k
  .exact .inl ⟨k,Sw NI hp hu k⟩
  .obtain ⟨c,e⟩:=Rh (n:=s.heap.objs.size+1) k
   refine .inr ⟨.inl k,c,e,?_⟩
   have q:=x.cell y c e
   rw [Su NI hp hu (by show scope.names.lookup y≠_;rw [k];decide)] at q
   exact q
 .exact e0.bh.fresh (w8 (x.above y c (xk h)))
 .unfold start
  show _=N.length
  rw [cX,aQ,D8]
  ext hl dk
theorem AL{CX:qm}{P:Program}{w:World}{K:aJ}{mg:Str->Option Value}{base:Heap}{k:Nat}{f:Addr}{name qual:Str}{params:Arguments}{body:List Stmt}{scope:Scope}{dV kV doc pm dh ct oc:Value}{an od:Option Addr}
  {sO:Array (Option Value)}{N ps:List Str}{sp:Sp}(lk:K.lookup f=some ⟨oc,od,.func (ju name qual params body scope dV kV doc pm an dh ct),sO⟩)(eH:DY K dh qual=true)(S:dI N ps scope)
  (len:∀vs H Q E,sp vs H Q E->vs.length=ps.length)
  (eI:∀(A:Around) (outer:List Env) (s:Shared) (H:Hp) (vs:List V) (Q:VK) (E:XK),cL k (A.deeper (envOfC qual scope s.heap.objs.size f dh))->sp vs H Q E ->
   ∃t,nF (mj CX P w K mg base N qual scope f dh A outer s H E) body t/\t { nx:=λ_ H'=>Q .aR H',rt:=Q } (start N vs) H):
  cW P w K mg base CX (k+1) f (ju name qual params body scope dV kV doc pm an dh ct) ps sp:=by
 refine ⟨len,λA outer s H args us vs Q E hr e0 hb r wN=>?_⟩
 have hl:=len _ _ _ _ wN
 have KX:K.In s.heap:=e0.mod.G3.keeps λb o e=>(e0.bs b o e).1
 have lim:s.heap.NoLimit:=e0.mod.nolimit.keeps λb o e=>(e0.bs b o e).1
 have Ah:∀y∈ps.zip us,scope.names.lookup y.1=some .local\/(scope.names.lookup y.1=some .cell/\((cellsFrom (s.heap.objs.size+1) scope.names []).lookup y.1).isSome=true):=λ⟨n,v⟩ hy=>by
  rcases S.par n (DO hy).1 with q | q
  .exact .inl q
  .exact .inr ⟨q,Pn _ _ _ (.inl q)⟩
 refine codeAny_call_function hr.depth (KX _ _ lk) rfl S.co S.gen rfl (PySem.W.codeRec_of KX eH) (hb _ _ _ _ ?_)
 refine wpAny_newFunctionEnv_cells S.kind Ah λenv he s1 x=>?_
 subst he
 refine ⟨lim.keeps x.toInCall.keep,codeAny_func ?_⟩
 obtain ⟨t,ht,hq⟩:=eI A outer s H vs Q E (hr.deeper _) wN
 have I:Inv (mj CX P w K mg base N qual scope f dh A outer s H E) [] (start N vs) H s1:=b2m S hr.hd e0 hl r x
 refine m9 (ht [] s1 (start N vs) H _ I hq) (λfl s' hs=>?_) λe s' hs=>hs
 have fin:∀{aI:St} {H':Hp} {v:V} {u:Value},Inv (mj CX P w K mg base N qual scope f dh A outer s H E) [] aI H' s'->RelV v u->Q v H'->CE outer P w H s Q u s':=
  λ{aI H' v u} J rv q=>⟨v,H',J.os,J.bare,J.base,J.bh,rv,q⟩
 cases fl with
 | ret u =>
  obtain ⟨v,aI,H',J,rv,q⟩:=hs
  exact fin J rv q
 | next =>
  obtain ⟨aI,H',J,q⟩:=hs
  exact fin (v:=V.aR) (u:=gr) J rfl q
 | brk =>
  obtain ⟨_,_,_,q⟩:=hs
  exact kP q
 | cont =>
  obtain ⟨_,_,_,q⟩:=hs
  exact kP q
end L2
namespace L2
open PySem PySem.Spec PyProof.Rows
section
variable {X:Cx}{x:Str}{p pos:Pos}{e:Expr}{es:List Expr}{t:TA}{id T:String}{r:List V->Hp->VK->Prop}
def Nr(r:List V->Hp->VK->Prop)(t:TA):TE:=λσ H Q=>t σ H λvs H1=>r vs H1 Q
theorem xK(hc:oY X (.builtin id) r)(hg:Gl X x)(hm:X.mg x=none)(hv:bootBuiltins x=some (.builtin id))(ha:PA X (e::es) t)(hn:x ≠ "__name__":=by decide)(kG:(x==("__debug__":Str))=false:=by decide)
  (he:starEach (e::es) X.env=(false,eval e X.env)::starEach es X.env:=by rfl)(dk:(backTo pos (starEach es X.env)).any (·.1)=false:=by rfl):PE X (.Call (.Name x p) (e::es) [] pos) (Nr r t):=by
 intro pins s σ H Q I h
 refine xi (qb I hg hm hv ?_ hn kG)
 exact PyProof.Rows.callWith_builtin1 (aZ (ha pos pins s σ H _ I h) λus s1 ⟨vs,H1,I1,r1,q1⟩=>hc pins s1 σ H1 vs us Q I1 r1 q1) he dk
theorem RS(hc:oY X (.type T) r)(hg:Gl X x)(hm:X.mg x=none)(hv:bootBuiltins x=some (.type T))(ha:PA X (e::es) t)(hn:x ≠ "__name__":=by decide)(kG:(x==("__debug__":Str))=false:=by decide)
  (he:starEach (e::es) X.env=(false,eval e X.env)::starEach es X.env:=by rfl)(dk:(backTo pos (starEach es X.env)).any (·.1)=false:=by rfl):PE X (.Call (.Name x p) (e::es) [] pos) (Nr r t):=by
 intro pins s σ H Q I h
 refine xi (qb I hg hm hv ?_ hn kG)
 exact vI (aZ (ha pos pins s σ H _ I h) λus s1 ⟨vs,H1,I1,r1,q1⟩=>hc pins s1 σ H1 vs us Q I1 r1 q1) he dk
end
end L2
namespace HT
open PySem PyProof.Rows
def lexLt:List Int->List Int->Bool
 | [],[]=>false
 | [],_::_=>true
 | _::_,[]=>false
 | x::xs,y::ys=>if x=y then lexLt xs ys else decide (x<y)
theorem cc(x y:Int)(xs ys:List Int):lexLt (x::xs) (y::ys)=if x=y then lexLt xs ys else decide (x<y):=rfl
theorem c8:lexLt [] []=false:=rfl
theorem eE(y:Int)(ys:List Int):lexLt [] (y::ys)=true:=rfl
theorem eG(x:Int)(xs:List Int):lexLt (x::xs) []=false:=rfl
theorem kM(A:Around)(s:Shared)(a:Int)(t:Tok)(c:Int)(u:Tok):∃e,SeqAt.EqAt A s (.int a t) (.int c u) e/\(e=true↔a=c):=
 ⟨(a==c),SeqAt.EqAt.int_int a t c u,by simp⟩
theorem b3M(A:Around)(s:Shared)(a:Int)(t:Tok)(c:Int)(u:Tok)(prog:Program)(w:World)(E:Value->Shared->Prop)(Q:Value->Shared->Prop)(h:Q (.bool (decide (a<c))) s):
  wpAny (model prog w) A (richCompare .Lt (.int a t) (.int c u)) Q E s:=
 (PyProof.Rows.lt_int h:wpAny (model prog w) A (compareOp .Lt (.int a t) (.int c u)) Q E s)
section
open PySem.SeqAt
open PySem.AutoSeq1 (wpAny_loadPart')
open PySem.MeetsSeq PySem.MeetsSeq2 PySem.MeetsSeq3
theorem a7k(l b:Addr)(items dD:Array Value)(n n2:Nat)(dd qv:Option Addr)(sl o9:Array (Option Value))(ns ms:List Int)(hi:IntsAre items.toList ns)(hj:IntsAre dD.toList ms):
  Meets (Builtin.«tuple.__lt__» ⟨[.ref l,.ref b],[]⟩)
   (λ_ R s=>s.heap.get? l=some { cls:=.type "tuple",dict:=dd,data:=.seq items n,slots:=sl }/\s.heap.get? b=some { cls:=.type "tuple",dict:=qv,data:=.seq dD n2,slots:=o9 } /\
    R (.ok (.ret (.bool (lexLt ns ms)))) s):=
 .of_wp λprog w A R s h=>by
  obtain ⟨hp,g,d,tk,os⟩:=s;obtain ⟨hl,hb,h⟩:=h
  have f2:=Pk
  have z1:items.size=ns.length:=by rw [<-hi.length];simp
  have z2:dD.size=ms.length:=by rw [<-hj.length];simp
  wp_walk using D7 hl,D7 hb,wpAny_forIn_list _ (λrest b s'=>b.1=none/\s'=⟨hp,g,d,tk,os⟩/\∃(vs ws:List Value) (wI wK:List Int),rest=vs.zip ws /\
   IntsAre vs wI/\IntsAre ws wK/\wI.length+dD.size=wK.length+items.size/\R (.ok (.ret (.bool (lexLt wI wK)))) ⟨hp,g,d,tk,os⟩) _
  case turn =>
   rintro ⟨y,x⟩ rest b s' ⟨md,rfl,vs,ws,wI,wK,hz,Hj,Dd,hlen,hR⟩
   cases Hj with
   | nil=>rw [List.zip_nil_left] at hz;cases hz
   | cons a t Hi =>
    cases Dd with
    | nil=>rw [O4] at hz;cases hz
    | cons c u Hg =>
     rw [Bc] at hz
     injection hz with YO z7
     injection YO with hy hx
     subst hy hx
     rw [cc] at hR
     simp only [gh] at hlen
     obtain ⟨e,he,An⟩:=kM A.in1 ⟨hp,g,d,tk,os⟩ a t c u
     refine ao (he prog w _ _ ?_)
     cases e with
     | true =>
      rw [if_pos (An.mp rfl)] at hR
      wp_walk
      exact ⟨rfl,rfl,_,_,_,_,z7,Hi,Hg,by ext hlen,hR⟩
     | false =>
      rw [if_neg (λq=>absurd (An.mpr q) nh)] at hR
      have Ht:=b3M A.in1 ⟨hp,g,d,tk,os⟩ a t c u prog w
      wp_walk using Ht
      exact ⟨_,rfl,by simpa using hR⟩
  case fin =>
   rintro ⟨b1,b2⟩ s' ⟨md,rfl,vs,ws,wI,wK,hz,Hj,Dd,hlen,hR⟩
   simp only at md
   subst md
   have hv:lexLt wI wK=decide (items.size<dD.size):=by
    cases Hj with
    | nil =>
     cases Dd with
     | nil =>
      simp only [vE] at hlen
      rw [c8]
      exact (decide_eq_false (by ext hlen)).symm
     | cons c u hw =>
      simp only [vE,gh] at hlen
      rw [eE]
      exact (decide_eq_true (by ext hlen)).symm
    | cons a t hv =>
     cases Dd with
     | nil =>
      simp only [vE,gh] at hlen
      rw [eG]
      exact (decide_eq_false (by ext hlen)).symm
     | cons c u hw =>
      rw [Bc] at hz
      cases hz
   rw [hv] at hR
   wp_walk
   exact ⟨_,rfl,by simpa [Pp] using hR⟩
  case h =>
   exact ⟨rfl,rfl,items.toList,dD.toList,ns,ms,rfl,hi,hj,by ext z1 z2,h⟩
end
section
variable {prog:Program}{w:World}{A:Around}{E:Value->Shared->Prop}{s:Shared}
theorem iq(hl:IsTup s.heap l items)(hb:IsTup s.heap b dD)(hi:IntsAre items.toList ns)(hj:IntsAre dD.toList ms)
  (hu:A.units<cLine)(h:Q (.bool (lexLt ns ms)) s):wpAny (model prog w) A (compareOp .Lt (.ref l) (.ref b)) Q E s:=by
 obtain ⟨⟨cls,dd,data,sl⟩,ho,hc,n,hd⟩:=id hl
 obtain ⟨⟨AS,qv,data2,o9⟩,qo,tu,n2,hd2⟩:=id hb
 simp only at hc hd tu hd2
 subst hc hd tu hd2
 exact richCompare_meets_room (op:=.Lt) ⟨_,ho,rfl⟩ ⟨_,qo,rfl⟩ PySem.F.slot_tuple_lt PySem.F.entry_tuple_lt (PySem.F.args_tuple_lt_2 _ _) (a7k l b items dD n n2 dd qv sl o9 ns ms hi hj)
  ⟨ho,qo,show kQ (lexLt ns ms)≠OR/\Q (.bool (lexLt ns ms)) s from ⟨(λx=>nomatch x),h⟩⟩ hu
theorem rH(ht:IsTup s.heap t vs.toArray)(hb:IsTup s.heap b ws.toArray)(hv:vs≠[])
  (h1:ws=[]->Q (.ref t) s)(h2:ws≠[]->Q (.ref s.heap.objs.size) { s with heap:=s.heap.push { cls:=.type "tuple",data:=.seq (vs++ws).toArray } })
  (hsz:vs.length+ws.length<=sizeLine):wpAny (model prog w) A (binaryOp .Add (.ref t) (.ref b)) Q E s:=by
 obtain ⟨⟨cls,dd,data,sl⟩,ho,hc,n,hd⟩:=id ht
 obtain ⟨⟨AS,qv,data2,o9⟩,qo,tu,n2,hd2⟩:=id hb
 simp only at hc hd tu hd2
 subst hc hd tu hd2
 have e:vs.toArray++ws.toArray=(vs++ws).toArray:=by simp
 by_cases hw:ws=[]
 .exact concat_meets ⟨_,ho,rfl⟩ ⟨_,qo,rfl⟩ Jv IY JD JG (JI _ _)
   (tuple_addW1 t b vs.toArray ws.toArray n n2 dd qv sl o9 (by simpa using hv) (by simp [hw])) ⟨ho,qo,h1 hw⟩
 .refine concat_meets ⟨_,ho,rfl⟩ ⟨_,qo,rfl⟩ Jv IY JD JG (JI _ _)
   (tuple_addW2 t b vs.toArray ws.toArray n n2 dd qv sl o9 (by simpa using hv) (by simpa using hw) (by rw [dG,dG];exact hsz)) ⟨ho,qo,?_⟩
  rw [e]
  exact h2 hw
def bz(n d:Nat):Option Int->Nat
 | none=>d
 | some v=>if v<0 then (v+(n:Int)).toNat else min v.toNat n
theorem mO(n d k:Nat):bz n d (some (k:Int))=min k n:=by
 show (if (k:Int)<0 then ((k:Int)+(n:Int)).toNat else min (k:Int).toNat n)=min k n
 rw [if_neg (by ext),Jq]
theorem b78(n d:Nat)(hd:d<=n)(o:Option Int):bz n d o<=n:=by
 cases o with
 | none=>exact hd
 | some v =>
  show (if v<0 then (v+(n:Int)).toNat else min v.toNat n)<=n
  by_cases hv:v<0
  .rw [if_pos hv];ext hv
  .rw [if_neg hv];exact Nat.min_le_right _ _
theorem QP(v:Int)(n d:Nat):(if v<0 then max (v+(n:Int)) 0 else min v (n:Int))=((bz n d (some v):Nat):Int):=by
 show (if v<0 then max (v+(n:Int)) 0 else min v (n:Int))=(((if v<0 then (v+(n:Int)).toNat else min v.toNat n):Nat):Int)
 by_cases hv:v<0
 .simp only [if_pos hv];ext
 .simp only [if_neg hv];ext hv
theorem b0Y(lo hi:Option Int)(n:Nat):Jx lo hi 1 (n:Int)=(((bz n 0 lo:Nat):Int),((bz n n hi:Nat):Int)):=by
 have h1:¬((1:Int)<0):=by decide
 unfold Jx
 simp only [h1,if_false]
 refine Prod.ext ?_ ?_
 .cases lo with
  | none=>rfl
  | some v=>exact QP v n 0
 .cases hi with
  | none=>rfl
  | some v=>exact QP v n n
theorem b0z(i j:Nat):Er (i:Int) (j:Int) 1=j-i:=by
 unfold Er
 have h1:(1:Int)>0:=by decide
 simp only [h1,if_true,Int.ediv_one]
 split<;>lia
theorem SH(p:IsPart v o)(h:Q o s):wpAny (model prog w) A (Builtin.Slice.slicePartIndex v) Q E s:=by
 cases p with
 | none=>exact slicePart_none h
 | int i t=>exact slicePart_int h
theorem a5z{lo hi:Option Int}{n:Nat}(hs:s.heap.IsSliceOf sl vl vu .none)(pl:IsPart vl lo)(pu:IsPart vu hi)
  (h:Q (((bz n 0 lo:Nat):Int),1,bz n n hi-bz n 0 lo) s):wpAny (model prog w) A (Pa (.ref sl) (pure (n:Int))) Q E s:=by
 obtain ⟨os,uV,wV,Dm⟩:=id hs
 unfold Pa Builtin.Slice.sliceFields
 refine ao (ao (lL uV Dm (x:=vl) rfl (ao (lL uV Dm (x:=vu) rfl (ao (lL uV Dm (x:=.none) rfl (aU ?_)))))))
 refine ao (slicePart_none ?_)
 show wpAny _ _ (if ((1:Int)==0)=true then _ else _) _ _ s
 rw [if_neg (by decide)]
 refine ao (SH pl (ao (SH pu (ao (aU ?_)))))
 show wpAny _ _ (match Jx lo hi 1 (n:Int) with | (lo,hi)=>pure (lo,(1:Int),Er lo hi 1)) _ _ s
 rw [b0Y lo hi n]
 show wpAny _ _ (pure (((bz n 0 lo:Nat):Int),(1:Int),Er ((bz n 0 lo:Nat):Int) ((bz n n hi:Nat):Int) 1)) _ _ s
 rw [b0z]
 exact aU h
theorem b3W(xs:Array Value)(i k:Nat):((fI k).filterMap λ(m:Nat)=>xs[((i:Int)+(m:Int)*1).toNat]?).toArray=((xs.toList.drop i).take k).toArray:=by
 have e:(λ(m:Nat)=>xs[((i:Int)+(m:Int)*1).toNat]?)=λm=>xs[i+m]?:=by
  funext m
  have:((i:Int)+(m:Int)*1).toNat=i+m:=by ext
  rw [this]
 rw [e]
 have:=pick_run xs i k
 rw [List.filterMap_map] at this
 have e2:((λx=>xs[x]?)∘λx=>i+x)=λm=>xs[i+m]?:=rfl
 rw [e2] at this
 rw [this]
theorem fP{items:Array Value}{lo hi:Option Int}(ht:IsTup s.heap t items)(hs:s.heap.IsSliceOf sl vl vu .none)(pl:IsPart vl lo)(pu:IsPart vu hi)
  (hw:¬(bz items.size 0 lo=0/\bz items.size items.size hi=items.size))
  (h:Q (.ref s.heap.objs.size) { s with heap:=s.heap.push { cls:=.type "tuple",data:=.seq ((items.toList.drop (bz items.size 0 lo)).take (bz items.size items.size hi-bz items.size 0 lo)).toArray } })
  (hsz:items.size<=sizeLine):wpAny (model prog w) A (getItem (.ref t) (.ref sl)) Q E s:=by
 have mV:sizeOk (.seq ((items.toList.drop (bz items.size 0 lo)).take (bz items.size items.size hi-bz items.size 0 lo)).toArray):=by
  show ((items.toList.drop (bz items.size 0 lo)).take (bz items.size items.size hi-bz items.size 0 lo)).toArray.size<=sizeLine
  rw [dG,jr,og,gS]
  ext hsz
 have hj:bz items.size items.size hi<=items.size:=b78 _ _ (bo _) hi
 obtain ⟨os,uV,wV,Dm⟩:=id hs
 have Az:s.TypeIs (.ref sl) "slice":=⟨os,uV,wV⟩
 unfold getItem
 try with_reducible refine nr ?_
 first | refine ao (aU ?_) | skip
 refine ao (wpAny_sequenceKey ht.typeIs (by decide) ?_)
 refine ao (xf (name:=rL "__getitem__") ht.typeIs Em
  (vC Em ht.typeIs entry_tuple_getitem ?_ (args_tuple_getitem _ _)))
 show wpAny _ _ (Builtin.Tuple.tupleItemsOf (.ref t) >>= _) _ _ s
 refine ao (tupleItemsOf_ ht ?_)
 refine ao (wpAny_typeOf Az ?_)
 rw [if_pos (by decide)]
 refine ao (a5z hs pl pu ?_)
 have Y5:¬((((bz items.size 0 lo:Nat):Int)==0&&(1:Int)==1&&(bz items.size items.size hi-bz items.size 0 lo)==items.size)=true):=by
  intro q
  rw [vz,vz] at q
  have q1:((bz items.size 0 lo:Nat):Int)=0:=eq_of_beq q.1.1
  have q2:bz items.size items.size hi-bz items.size 0 lo=items.size:=eq_of_beq q.2
  exact hw ⟨by ext q1,by ext q1 q2⟩
 show wpAny _ _ (if (((bz items.size 0 lo:Nat):Int)==0&&(1:Int)==1&&(bz items.size items.size hi-bz items.size 0 lo)==items.size)=true then _ else _) _ _ s
 rw [if_neg Y5,b3W]
 first
  | exact ao (m:=Eo _) (qB (aU ⟨_,rfl,aU h⟩) mV)
  | exact ao (m:=Eo _) (qB (ao (aU (aU ⟨_,rfl,aU h⟩))) mV)
  | exact ao (ao (m:=Eo _) (qB (aU (aU ⟨_,rfl,aU h⟩)) mV))
  | exact ao (ao (m:=Eo _) (qB (aU ⟨_,rfl,aU h⟩) mV))
end
end HT
namespace L2
open PySem PySem.Spec PyProof.Rows
abbrev TO:=St->Hp->(Option Int->Hp->Prop)->Prop
def PO(X:Cx)(e:Option Expr)(t:TO):Prop:=
 ∀(pins:List (Addr×Obj)) (s:Shared) (σ:St) (H:Hp) (Q:Option Int->Hp->Prop),Inv X pins σ H s->t σ H Q ->
  wpAny (model X.prog X.w) X.A (evalPart e X.env) (λu s'=>∃o H',Inv X pins σ H' s'/\IsPart u o/\Q o H') X.xe s
def b5Y:TO:=λ_ H Q=>Q none H
def yv(t:TE):TO:=λσ H Q=>t σ H λx H1=>∃i,x=.int i/\Q (some i) H1
section
variable {X:Cx}{e:Expr}{te:TE}{lo hi:Option Expr}{tl th:TO}{pos p2:Pos}
theorem b6e:PO X none b5Y:=by
 intro pins s σ H Q I h
 rw [evalPart_none]
 exact aU ⟨none,H,I,.none,h⟩
theorem b6d(h:PE X e te):PO X (some e) (yv te):=by
 intro pins s σ H Q I hw
 rw [evalPart_some]
 refine aZ (h pins s σ H _ I hw) λu s1 ⟨x,H1,I1,r1,q1⟩=>?_
 obtain ⟨i,rfl,q⟩:=q1
 obtain ⟨t,rfl⟩:=r1
 exact ⟨some i,H1,I1,.int i t,q⟩
def wA(X:Cx)(r:V->Option Int->Option Int->Hp->VK->Prop):Prop:=
 ∀(pins:List (Addr×Obj)) (s:Shared) (σ:St) (H:Hp) (x:V) (v vl vu:Value) (lo hi:Option Int) (sl:Addr) (Q:VK),Inv X pins σ H s->RelV x v->s.heap.IsSliceOf sl vl vu .none->IsPart vl lo->IsPart vu hi->r x lo hi H Q ->
  ∃T id,typeLookup (.type T) "__getitem__" = pure (some (.builtin id))/\s.TypeIs v T/\wpAny (model X.prog X.w) X.A (getItem v (.ref sl)) (EP X pins σ Q) X.xe s
theorem wA.or(h:wA X r)(h':wA X r'):wA X (λx lo hi H Q=>r x lo hi H Q\/r' x lo hi H Q):=by
 intro pins s σ H x v vl vu lo hi sl Q I rx hs pl pu q
 rcases q with q | q
 .exact h pins s σ H x v vl vu lo hi sl Q I rx hs pl pu q
 .exact h' pins s σ H x v vl vu lo hi sl Q I rx hs pl pu q
def T9(r:V->Option Int->Option Int->Hp->VK->Prop)(te:TE)(tl th:TO):TE:=λσ H Q=>te σ H λx H1=>tl σ H1 λl H2=>th σ H2 λu H3=>r x l u H3 Q
theorem b3Z(hr:wA X r)(he:PE X e te)(hl:PO X lo tl)(hu:PO X hi th):PE X (.Subscript e (.Slice lo hi none p2) pos) (T9 r te tl th):=by
 intro pins s σ H Q I h
 refine Subscript_ (aZ (he pins s σ H _ I h) λv s1 ⟨x,H1,I1,r1,q1⟩=>?_)
 refine wpAny_Slice (aZ (hl pins s1 σ H1 _ I1 q1) λvl s2 ⟨l,H2,I2,pl,q2⟩=>aZ (hu pins s2 σ H2 _ I2 q2) λvu s3 ⟨u,H3,I3,pu,q3⟩=>?_)
 rw [evalPart_none]
 refine aU ?_
 have I4:Inv X pins σ H3 { s3 with heap:=s3.heap.push { cls:=.type "slice",data:=.fields #[vl,vu,.none] } }:=I3.kept (t':=s3.toks) λb ob q=>bC _ q
 obtain ⟨T,id,hT,ht,hg⟩:=hr pins { s3 with heap:=s3.heap.push { cls:=.type "slice",data:=.fields #[vl,vu,.none] } } σ H3 x v vl vu l u s3.heap.objs.size Q I4 r1 (Heap.IsSliceOf.new ..) pl pu q3
 show wpAny (model X.prog X.w) X.A (subscriptTail e (.Slice lo hi none p2) v (.ref s3.heap.objs.size)) (EP X pins σ Q) X.xe { s3 with heap:=s3.heap.push { cls:=.type "slice",data:=.fields #[vl,vu,.none] } }
 exact tail_any (ops:=[.ref s3.heap.objs.size,v]) ht hT hg (by with_unfolding_all rfl)
def kO(xs:List V)(lo hi:Option Int):List V:=(xs.drop (HT.bz xs.length 0 lo)).take (HT.bz xs.length xs.length hi-HT.bz xs.length 0 lo)
theorem SQ(xs:List V)(lo hi:Option Int):(kO xs lo hi).length<=xs.length:=by
 unfold kO
 rw [jr,og]
 ext
def GC(K:aJ):V->Option Int->Option Int->Hp->VK->Prop:=λx lo hi H Q=>∃a xs,x=.ref a/\dN K H a xs /\
 ¬(HT.bz xs.length 0 lo=0/\HT.bz xs.length xs.length hi=xs.length)/\∀p,H p=none->Q (.ref p) (upd H p (.tup (kO xs lo hi)))
theorem b74:wA X (GC X.K):=by
 intro pins s σ H x v vl vu lo hi sl Q I rx hs pl pu h
 obtain ⟨a,xs,rfl,hx,hw,q⟩:=h
 cases rx
 obtain ⟨ak,r,ht,hz⟩:=I.tuple hx
 have hlen:ak.toArray.size=xs.length:=by rw [dG];exact r.length.symm
 refine ⟨"tuple",_,Em.lookup,ht.typeIs,?_⟩
 refine HT.fP ht hs pl pu (by rw [hlen];exact hw) ?_ (by rw [hlen];exact hz)
 rw [hlen]
 refine ⟨.ref s.heap.objs.size,_,I.laid (t':=s.toks) (o:=.tup (kO xs lo hi)) (λb ob q=>bC _ q) (bo _) ?_,rfl,q _ (I.bh.fresh (bo _))⟩
 exact ⟨eQ (SQ xs lo hi) hz,_,(r.drop (HT.bz xs.length 0 lo)).take (HT.bz xs.length xs.length hi-HT.bz xs.length 0 lo),IsTup.new _ _⟩
def yQ(K:aJ):R2:=λx y H Q=>∃a b xs ys,x=.ref a/\y=.ref b/\dN K H a xs/\dN K H b ys/\xs≠[]/\xs.length+ys.length<=sizeLine /\
 (ys=[]->Q (.ref a) H)/\(ys≠[]->∀p,H p=none->Q (.ref p) (upd H p (.tup (xs++ys))))
theorem aA.eO(r:aA xs us):us=[]↔xs=[]:=by
 cases r with
 | nil=>simp
 | cons _ _=>simp
theorem qY:fW X (binaryOp .Add) (yQ X.K):=by
 intro pins s σ H x y v u Q I rx ry h
 obtain ⟨a,b,xs,ys,rfl,rfl,ha,hb,hx,hz,q1,q2⟩:=h
 cases rx
 cases ry
 obtain ⟨ak,r1,p1,_⟩:=I.tuple ha
 obtain ⟨cw,r2,p2,_⟩:=I.tuple hb
 refine HT.rH p1 p2 (λz=>hx (r1.eO.mp z)) (λz=>⟨.ref a,H,I,rfl,q1 (r2.eO.mp z)⟩) (λz=>?_) (by rw [<-r1.length,<-r2.length];exact hz)
 refine ⟨.ref s.heap.objs.size,_,I.laid (t':=s.toks) (o:=.tup (xs++ys)) (λb ob q=>bC _ q) (bo _) ?_,rfl,q2 (λw=>z (r2.eO.mpr w)) _ (I.bh.fresh (bo _))⟩
 exact ⟨by rw [cX];exact hz,_,r1.append r2,IsTup.new _ _⟩
end
end L2
namespace L2
open PySem PySem.Spec PyProof.Rows
def l6(n:Nat)(i:Int):Option Nat:=if 0<=i then (if i<n then some i.toNat else none) else if -(n:Int)<=i then some (i+n).toNat else none
def fB{α:Type}(xs:List α)(i:Int):Option α:=(l6 xs.length i).bind λj=>xs[j]?
theorem Q9(h:l6 n i=some j):seqIndex? i n=some j/\j<n /\ -(n:Int)<=i/\i<n:=by
 unfold l6 at h
 by_cases h0:0<=i
 .rw [if_pos h0] at h
  by_cases h1:i<n
  .rw [if_pos h1] at h
   have e:i.toNat=j:=dj h
   exact ⟨by rw [seqIndex_of h0 h1,e],by ext h0 h1 e,by ext h0,h1⟩
  .rw [if_neg h1] at h;cases h
 .rw [if_neg h0] at h
  by_cases h1:-(n:Int)<=i
  .rw [if_pos h1] at h
   have e:(i+n).toNat=j:=dj h
   exact ⟨by rw [seqIndex_neg (by ext h0) h1,e],by ext h0 h1 e,h1,by ext h0⟩
  .rw [if_neg h1] at h;cases h
theorem K1{α:Type}{xs:List α}{i:Int}{v:α}(h:fB xs i=some v):∃j,seqIndex? i xs.length=some j/\xs[j]?=some v/\j<xs.length /\ -(xs.length:Int)<=i/\i<xs.length:=by
 unfold fB at h
 cases e:l6 xs.length i with
 | none=>rw [e] at h;cases h
 | some j =>
  rw [e] at h
  obtain ⟨h1,h2,h3,h4⟩:=Q9 e
  exact ⟨j,h1,h,h2,h3,h4⟩
def QE(b:Expr):Prop:=∀o i,subscripted b false o i=operate [o,i] (getItem o i)
def sD(X:Cx)(r:R2):Prop:=
 ∀(value slice:Expr) (pins:List (Addr×Obj)) (s:Shared) (σ:St) (H:Hp) (x y:V) (v u:Value) (Q:VK),Inv X pins σ H s->RelV x v->RelV y u->r x y H Q ->
  subscripted slice false v u=operate [v,u] (getItem v u)->wpAny (model X.prog X.w) X.A (subscriptTail value slice v u) (EP X pins σ Q) X.xe s
def TX(X:Cx)(id:String)(r:V->List V->Hp->VK->Prop):Prop:=
 ∀(pins:List (Addr×Obj)) (s:Shared) (σ:St) (H:Hp) (x:V) (xs:List V) (v:Value) (us:List Value) (Q:VK),Inv X pins σ H s->RelV x v->aA xs us->r x xs H Q ->
  wpAny (model X.prog X.w) X.A (call (.builtin id) (v::us)) (EP X pins σ Q) X.xe s
section
variable {X:Cx}{a b:Expr}{ta tb:TE}{pos:Pos}
theorem sD.or(h:sD X r)(h':sD X r'):sD X (λx y H Q=>r x y H Q\/r' x y H Q):=by
 intro value slice pins s σ H x y v u Q I rx ry q hs
 rcases q with q | q
 .exact h value slice pins s σ H x y v u Q I rx ry q hs
 .exact h' value slice pins s σ H x y v u Q I rx ry q hs
theorem yY(hr:sD X r)(ha:PE X a ta)(hb:PE X b tb)(hs:QE b):PE X (.Subscript a b pos) (yw r ta tb):=by
 intro pins s σ H Q I h
 exact Subscript_ (vJ ha hb I h λv u s2 x y H2 I2 rx ry q=>hr a b pins s2 σ H2 x y v u Q I2 rx ry q (hs _ _))
def yP(K:aJ):R2:=λx y H Q=>∃p xs i v,x=.ref p/\y=.int i/\fF K H p xs/\fB xs i=some v/\Q v H
def yN(K:aJ):R2:=λx y H Q=>∃p xs i v,x=.ref p/\y=.int i/\dN K H p xs/\fB xs i=some v/\Q v H
def yO:R2:=λx y H Q=>∃z i c,x=.str z/\y=.int i/\z.length<=sizeLine/\fB z.cps.toList i=some c/\Q (.str ⟨#[c]⟩) H
theorem rg:sD X (yP X.K):=by
 intro value slice pins s σ H x y v u Q I rx ry h hs
 obtain ⟨p,xs,i,z,rfl,rfl,hq,he,q⟩:=h
 cases rx
 obtain ⟨t,rfl⟩:=ry
 obtain ⟨ak,r,pl,hz⟩:=I.list hq
 obtain ⟨j,h1,h2,h3,h4,h5⟩:=K1 he
 obtain ⟨w,ew,yH⟩:=r.get h2
 have hl:=r.length
 have hn:=xB
 have fin:EP X pins σ Q w s:=⟨z,H,I,yH,q⟩
 by_cases h0:0<=i
 .have hj:i.toNat=j:=by
   rw [seqIndex_of h0 h5] at h1
   exact dj h1
  exact item_listR pl.isList h0 (by ext hz h5 hn) (by rw [hj];simpa using ew) fin hs
 .have hj:(i+(ak.toArray.size:Int)).toNat=j:=by
   rw [seqIndex_neg (DG.mp ‹_›) h4] at h1
   rw [dG,<-hl]
   exact dj h1
  exact subscriptTail_builtinR (x:=w) pl.isList.typeIs slot_list_getitem.lookup
   (wpAny_getItem_list_neg (Q:=λr s'=>r=w/\EP X pins σ Q r s') pl.isList (DG.mp ‹_›) (by rw [dG]<;>lia) (by lia) (by rw [hj];simpa using ew) ⟨rfl,fin⟩) hs
theorem uN:sD X (yN X.K):=by
 intro value slice pins s σ H x y v u Q I rx ry h hs
 obtain ⟨p,xs,i,z,rfl,rfl,hq,he,q⟩:=h
 cases rx
 obtain ⟨t,rfl⟩:=ry
 obtain ⟨ak,r,pl,hz⟩:=I.tuple hq
 obtain ⟨j,h1,h2,h3,h4,h5⟩:=K1 he
 obtain ⟨w,ew,yH⟩:=r.get h2
 have hl:=r.length
 have hn:=xB
 have fin:EP X pins σ Q w s:=⟨z,H,I,yH,q⟩
 exact subscriptTail_builtinR (x:=w) pl.typeIs Em.lookup
  (getItem_tuple (j:=j) (Q:=λr s'=>r=w/\EP X pins σ Q r s') pl (by (clear he hs h1 h2 h5 ew;omega)) (by (clear he hs h1 h2 h4 ew;omega)) (by rw [dG,<-hl];exact h1) (by simpa using ew) ⟨rfl,fin⟩) hs
theorem b8G:sD X yO:=by
 intro value slice pins s σ H x y v u Q I rx ry h hs
 obtain ⟨z,i,c,rfl,rfl,hz,he,q⟩:=h
 obtain ⟨t,rfl⟩:=rx
 obtain ⟨t',rfl⟩:=ry
 obtain ⟨j,h1,h2,h3,h4,h5⟩:=K1 he
 have hl:z.cps.toList.length=z.length:=by simp [Str.length]
 rw [hl] at h1 h4 h5
 have hn:=xB
 exact tail_any (typeIs_str s z t) slot_str_getitem.lookup (getItem_str (c:=c) (by
  have e1:decide (i < -(2^63:Int))=false:=decide_eq_false (by lia)
  have e2:decide (i≥2^63)=false:=decide_eq_false (by lia)
  rw [e1,e2,Bool.or_false]) (by rw [h1];simpa using h2) ⟨.str ⟨#[c]⟩,H,I.tok _,⟨_,rfl⟩,q⟩) hs
def Vd(K:aJ):R2:=λx y H Q=>yP K x y H Q\/yN K x y H Q\/yO x y H Q
theorem b8H:sD X (Vd X.K):=rg.or (uN.or b8G)
theorem b0P(ak:List Value)(n j:Nat)(u:Value):fS (·.setIfInBounds j u) { cls:=.type "list",data:=.seq ak.toArray n }={ cls:=.type "list",data:=.seq (ak.set j u).toArray n }:=by
 simp [fS]
theorem Inv.lst(I:Inv X pins σ H s)(h:H p=some (.lst xs)):
  ∃(ak:List Value) (n:Nat),aA xs ak/\s.heap.get? p=some { cls:=.type "list",data:=.seq ak.toArray n }/\xs.length<=sizeLine:=by
 obtain ⟨z,ak,n,r,e⟩:=I.bh p _ h
 exact ⟨ak,n,r,e,z⟩
theorem Inv.uK{pins:List (Addr×Obj)}{σ:St}{H:Hp}{s:Shared}{p:Addr}{xs ys:List V}{ak its':List Value}{n n':Nat}{f:Obj->Obj}(I:Inv X pins σ H s)(h:H p=some (.lst xs))
  (ho:s.heap.get? p=some { cls:=.type "list",data:=.seq ak.toArray n })(hf:f { cls:=.type "list",data:=.seq ak.toArray n }={ cls:=.type "list",data:=.seq its'.toArray n' })(r:aA ys its')(hz:ys.length<=sizeLine)(t:Nat):
  Inv X pins σ (upd H p (.lst ys)) { s with heap:=s.heap.update p f,toks:=t }:=by
 have e:(s.heap.update p f).get? p=some { cls:=.type "list",data:=.seq its'.toArray n' }:=by
  rw [tN f ho (by rw [hf]<;>rfl),hf]
 refine I.write (x:=p) (e:=p) (by rw [h];trivial) (.inl rfl) (λb u hb q=>(fU _ _ (fH hb)).trans q) ⟨_,e⟩ ?_
 exact ⟨hz,its',n',r,e⟩
def yM:V->V->V->Hp->(Hp->Prop)->Prop:=λo i v H Q=>∃p xs k j,o=.ref p/\i=.int k/\H p=some (.lst xs)/\l6 xs.length k=some j/\Q (upd H p (.lst (xs.set j v)))
theorem b3E:CD X yM:=by
 intro pins s σ H o i v ov iv u Q I ro ri rv h
 obtain ⟨p,xs,k,j,rfl,rfl,hp,hj,q⟩:=h
 cases ro
 obtain ⟨t,rfl⟩:=ri
 obtain ⟨ak,n,r,ho,hz⟩:=I.lst hp
 obtain ⟨h1,h2,h3,h4⟩:=Q9 hj
 have hl:=r.length
 have hn:=xB
 have I':Inv X pins σ (upd H p (.lst (xs.set j v))) { s with heap:=s.heap.update p (fS (·.setIfInBounds j u)) }:=
  I.uK hp ho (b0P ak n j u) (r.set rv j) (by rw [IU];exact hz) s.toks
 by_cases h0:0<=k
 .have hk:k.toNat=j:=by
   rw [seqIndex_of h0 h4] at h1
   exact dj h1
  exact PySem.W.ki_setAt ho h0 (by lia) (by rw [dG,<-hl];exact h4) (by rw [hk];exact ⟨_,I',q⟩)
 .have hk:(k+(ak.toArray.size:Int)).toNat=j:=by
   rw [seqIndex_neg (DG.mp ‹_›) h3] at h1
   rw [dG,<-hl]
   exact dj h1
  exact PySem.W.ki_setBack ho (DG.mp ‹_›) (by rw [dG,<-hl];exact h3) (by lia) (by rw [hk];exact ⟨_,I',q⟩)
theorem a8o(lo hi:Option Int)(n:Nat):(sliceBounds lo hi none n).1=((HT.bz n 0 lo:Nat):Int)/\(sliceBounds lo hi none n).2.1=((HT.bz n n hi:Nat):Int)/\(sliceBounds lo hi none n).2.2=1:=by
 refine ⟨?_,?_,rfl⟩
 .cases lo with
  | none=>simp [sliceBounds,HT.bz]
  | some i =>
   simp only [sliceBounds,HT.bz,OI,show (1:Int)>0 by decide,if_true]
   by_cases h:i<0
   .simp only [h,if_true]<;>lia
   .simp only [h,if_false]<;>lia
 .cases hi with
  | none=>simp [sliceBounds,HT.bz]
  | some i =>
   simp only [sliceBounds,HT.bz,OI,show (1:Int)>0 by decide,if_true]
   by_cases h:i<0
   .simp only [h,if_true]<;>omega
   .simp only [h,if_false]<;>omega
theorem a7u(ak:List Value)(lo hi:Option Int):slicePick ak.toArray lo hi none=((ak.drop (HT.bz ak.length 0 lo)).take (HT.bz ak.length ak.length hi-HT.bz ak.length 0 lo)).toArray:=by
 obtain ⟨h1,h2,h3⟩:=a8o lo hi ak.toArray.size
 unfold slicePick
 rw [h1,h2,h3]
 simp only [sliceRange_one,pick_run,dG]<;>rfl
def GD(K:aJ):V->Option Int->Option Int->Hp->VK->Prop:=λx lo hi H Q=>∃a xs,x=.ref a/\fF K H a xs/\∀p,H p=none->Q (.ref p) (upd H p (.lst (kO xs lo hi)))
theorem qV:wA X (GD X.K):=by
 intro pins s σ H x v vl vu lo hi sl Q I rx hs pl pu h
 obtain ⟨a,xs,rfl,hx,q⟩:=h
 cases rx
 obtain ⟨ak,r,ht,hz⟩:=I.list hx
 have hlen:=r.length
 refine ⟨"list",_,slot_list_getitem.lookup,ht.isList.typeIs,?_⟩
 refine wpAny_getItem_list_slice ht.isList hs pl pu .none (by simp) ?_ (by rw [dG]<;>lia)
 rw [a7u,<-hlen]
 refine ⟨.ref s.heap.objs.size,_,I.laid (t':=s.toks) (o:=.lst (kO xs lo hi)) (λb ob q=>bC _ q) (bo _) ?_,rfl,q _ (I.bh.fresh (bo _))⟩
 exact ⟨eQ (SQ xs lo hi) hz,_,0,(r.drop (HT.bz xs.length 0 lo)).take (HT.bz xs.length xs.length hi-HT.bz xs.length 0 lo),fj _ rfl⟩
theorem a80:oY X (.builtin "len") (λxs H Q=>∃p ys,xs=[.ref p]/\(fF X.K H p ys\/dN X.K H p ys)/\Q (.int ys.length) H):=by
 intro pins s σ H xs us Q I r h
 obtain ⟨p,ys,rfl,hq,q⟩:=h
 obtain ⟨u,rfl,rx⟩:=vals1 r
 cases rx
 have hn:=xB
 rcases hq with hq | hq
 .obtain ⟨ak,r',pl,hz⟩:=I.list hq
  have hlen:=r'.length
  exact Calls.call_len_list pl.isList (by simp only [dG]<;>lia) ⟨.int ys.length,H,I.tok _,⟨s.toks+1,by rw [dG,hlen]⟩,q⟩
 .obtain ⟨ak,r',pl,hz⟩:=I.tuple hq
  have hlen:=r'.length
  exact len_tuple pl (by simp only [dG]<;>omega) ⟨.int ys.length,H,I.tok _,⟨s.toks+1,by rw [dG,hlen]⟩,q⟩
theorem a8Z:oY X (.type "list") (λxs H Q=>∃p ys,xs=[.ref p]/\(fF X.K H p ys\/dN X.K H p ys)/\∀l,H l=none->Q (.ref l) (upd H l (.lst ys))):=by
 intro pins s σ H xs us Q I r h
 obtain ⟨p,ys,rfl,hq,q⟩:=h
 obtain ⟨u,rfl,rx⟩:=vals1 r
 cases rx
 have fin:∀(ak:List Value),aA ys ak->ys.length<=sizeLine->∀(h':Heap) (c':Nat),(∀b o',s.heap.get? b=some o'->h'.get? b=some o') ->
   h'.get? s.heap.objs.size=some { cls:=.type "list",dict:=none,data:=.seq ak.toArray c',slots:=#[] }->EP X pins σ Q (.ref s.heap.objs.size) { s with heap:=h' }:=λak r' hz h' c' kp e =>
  ⟨.ref s.heap.objs.size,_,I.laid (t':=s.toks) kp (bo _) (show cH X.prog X.w _ h' _ (.lst ys) from ⟨hz,ak,c',r',e⟩),rfl,q _ (I.bh.fresh (bo _))⟩
 rcases hq with hq | hq
 .obtain ⟨ak,r',pl,hz⟩:=I.list hq
  have hlen:=r'.length
  obtain ⟨o,ho,hc,n,hd⟩:=pl.isList
  exact call_list_seq p (.inl rfl) ho hc hd (λh' c' kp e=>fin ak r' hz h' c' kp e) (by simp only [dG]<;>omega)
 .obtain ⟨ak,r',pl,hz⟩:=I.tuple hq
  have hlen:=r'.length
  obtain ⟨o,ho,hc,n,hd⟩:=pl
  exact call_list_seq p (.inr rfl) ho hc hd (λh' c' kp e=>fin ak r' hz h' c' kp e) (by simp only [dG]<;>omega)
theorem a73:oY X (.type "tuple") (λxs H Q=>∃p ys,xs=[.ref p]/\((fF X.K H p ys/\∀l,H l=none->Q (.ref l) (upd H l (.tup ys)))\/(dN X.K H p ys/\Q (.ref p) H))):=by
 intro pins s σ H xs us Q I r h
 obtain ⟨p,ys,rfl,h⟩:=h
 obtain ⟨u,rfl,rx⟩:=vals1 r
 cases rx
 rcases h with ⟨hq,q⟩ | ⟨hq,q⟩
 .obtain ⟨ak,r',pl,hz⟩:=I.list hq
  have hlen:=r'.length
  refine call_tuple_list pl.isList (λh' kp=>?_) (by simp only [dG]<;>omega)
  have I1:Inv X pins σ H { s with heap:=h' }:=I.kept (t':=s.toks) kp
  have I2:Inv X pins σ (upd H h'.objs.size (.tup ys)) { s with heap:=h'.push { cls:=.type "tuple",data:=.seq ak.toArray } }:=
   I1.laid (t':=s.toks) (λb o e=>bC _ e) (bo _) (show cH X.prog X.w _ _ _ (.tup ys) from ⟨hz,ak,r',IsTup.new _ _⟩)
  exact ⟨.ref h'.objs.size,_,I2,rfl,q _ (I1.bh.fresh (bo _))⟩
 .obtain ⟨ak,r',pl,hz⟩:=I.tuple hq
  exact call_tuple_same pl ⟨.ref p,H,I,rfl,q⟩
def Gc(K:aJ)(T:String)(x:V)(H:Hp):Prop:=match x with
 | .str _=>T = "str"
 | .int _=>T = "int"
 | .ref p=>(T = "list" /\ ∃xs,fF K H p xs)\/(T = "tuple" /\ ∃o,K.lookup p=some o/\o.cls=.type "tuple" /\ o.dict=none) \/
   (T = "dict" /\ ((∃bB,H p=some (.dK bB))\/∃bB,H p=some (.dT bB)))\/(T = "set" /\ ∃S n,H p=some (.set S n))
 | _=>False
theorem Qn{pins:List (Addr×Obj)}{σ:St}{H:Hp}{s:Shared}{T:String}{x:V}{v:Value}(I:Inv X pins σ H s)(r:RelV x v)(ty:Gc X.K T x H):
  s.TypeIs v T/\∀a,v=.ref a->∃ob,s.heap.get? a=some ob/\ob.dict=none:=by
 cases x with
 | str z =>
  obtain ⟨t,rfl⟩:=r
  cases (show T = "str" from ty)
  exact ⟨typeIs_str s z t,λ_ e=>nomatch e⟩
 | int i =>
  obtain ⟨t,rfl⟩:=r
  cases (show T = "int" from ty)
  exact ⟨typeIs_int s i t,λ_ e=>nomatch e⟩
 | ref p =>
  cases r
  rcases ty with ⟨rfl,xs,hq⟩ | ⟨rfl,o,hk,hc,hd⟩ | ⟨rfl,hk⟩ | ⟨rfl,S,n,hk⟩
  .obtain ⟨ak,_,pl,_⟩:=I.list hq
   refine ⟨pl.isList.typeIs,λa e=>?_⟩
   cases e
   obtain ⟨o,n,e,c,hd,_⟩:=pl
   exact ⟨o,e,hd⟩
  .refine ⟨⟨o,I.uM p o hk,hc⟩,λa e=>?_⟩
   cases e
   exact ⟨o,I.uM _ o hk,hd⟩
  .have z:∃o,s.heap.get? p=some o/\o.ExactDict:=by
    rcases hk with ⟨bB,hk⟩ | ⟨bB,hk⟩
    .obtain ⟨_,_,_,_,o,_,_,e,ex,_⟩:=I.bh p _ hk
     exact ⟨o,e,ex⟩
    .obtain ⟨_,_,_,_,o,_,_,e,ex,_⟩:=I.bh p _ hk
     exact ⟨o,e,ex⟩
   obtain ⟨o,e,ex⟩:=z
   refine ⟨⟨o,e,ex.1⟩,λa e2=>?_⟩
   cases e2
   exact ⟨o,e,ex.2.1⟩
  .obtain ⟨o,_,_,_,e,ex,_⟩:=I.bh p _ hk
   refine ⟨⟨o,e,ex.1⟩,λa e2=>?_⟩
   cases e2
   exact ⟨o,e,ex.2.1⟩
 | _=>exact kP ty
def Gp(K:aJ)(T:String)(r:V->List V->Hp->VK->Prop)(to:TE):TE:=λσ H Q=>to σ H λx H1=>Gc K T x H1/\r x [] H1 Q
def Ub(K:aJ)(T:String)(r:V->List V->Hp->VK->Prop)(to:TE)(t:TA):TE:=λσ H Q=>to σ H λx H1=>Gc K T x H1/\t σ H1 λxs H2=>r x xs H2 Q
variable {o e:Expr}{es:List Expr}{to:TE}{t:TA}{name:Str}{apos aW:Pos}{T id:String}{r:V->List V->Hp->VK->Prop}
theorem b8m(pa:PlainAttrs T)(slot:Slot T name id)(Hq:typeOf (.builtin id)=pure (.type "method_descriptor"))(hm:TX X id r)(ho:PE X o to)
  (cT:attributeBase o name X.env (eval o X.env)=eval o X.env:=by rfl)(cS:(apos.endLine==aW.line)=true:=by rfl):PE X (.Call (.Attribute o name apos) [] [] aW) (Gp X.K T r to):=by
 intro pins s σ H Q I h
 refine wpAny_Call_method0_late cT cS (aZ (ho pins s σ H _ I h) λv s1 ⟨x,H1,I1,r1,ty,q1⟩=>?_)
 obtain ⟨h1,h2⟩:=Qn I1 r1 ty
 exact ⟨T,id,pa,slot,Hq,h1,h2,Pm rfl (PySem.evalArgs_none (hm pins s1 σ H1 x [] v [] Q I1 r1 .nil q1))⟩
theorem PC(pa:PlainAttrs T)(slot:Slot T name id)(Hq:typeOf (.builtin id)=pure (.type "method_descriptor"))(hm:TX X id r)(ho:PE X o to)(ha:PA X (e::es) t)
  (cT:attributeBase o name X.env (eval o X.env)=eval o X.env:=by rfl)
  (jF:((backTo aW (starEach (e::es) X.env)).all (λx=>!x.1)&&(backToKw aW (keywordEach [] X.env)).all (λx=>x.1.isSome)
   && decide ((e::es).length+([]:List Keyword).length+(if ([]:List Keyword).isEmpty then 0 else 1)<30))=true:=by rfl)
  (cS:(apos.endLine==aW.line)=true:=by rfl)(hs:starEach (e::es) X.env=(false,eval e X.env)::starEach es X.env:=by rfl)(uU:(backTo aW (starEach es X.env)).any (·.1)=false:=by rfl):
  PE X (.Call (.Attribute o name apos) (e::es) [] aW) (Ub X.K T r to t):=by
 intro pins s σ H Q I h
 refine wpAny_Call_method_late cT jF cS rfl (aZ (ho pins s σ H _ I h) λv s1 ⟨x,H1,I1,r1,ty,q1⟩=>?_)
 obtain ⟨h1,h2⟩:=Qn I1 r1 ty
 refine ⟨T,id,pa,slot,Hq,h1,h2,?_⟩
 have hA:=ha aW pins s1 σ H1 _ I1 q1
 rw [hs] at hA ⊢
 refine Pm (by show (false||(backTo aW (starEach es X.env)).any (·.1))=false;rw [uU]<;>rfl) (Calls.evalArgs_plain ?_)
 exact aZ hA λus s2 ⟨vs,H2,I2,r2,q2⟩=>hm pins s2 σ H2 x vs v us Q I2 r1 r2 q2
end
end L2
namespace L2
open PySem PySem.Spec PyProof.Rows
def Nj(X:Cx)(id:String)(r:V->List V->Hp->VK->Prop):Prop:=
 ∀(pins:List (Addr×Obj)) (s:Shared) (σ:St) (H:Hp) (x:V) (xs:List V) (v:Value) (us:List Value) (Q:VK),Inv X pins σ H s->RelV x v->aA xs us->r x xs H Q ->
  wpAny (model X.prog X.w) X.A (call (.builtin id) (v::us)) (EP X pins σ Q) X.xe s
theorem aA.one:∀{x:V} {us:List Value},aA [x] us->∃u,us=[u]/\RelV x u
 | _,_,.cons r .nil=>⟨_,rfl,r⟩
theorem aA.zero:∀{us:List Value},aA [] us->us=[]
 | _,.nil=>rfl
theorem aA.dropLast(h:aA xs us):aA xs.dropLast us.dropLast:=by
 induction h with
 | nil=>exact .nil
 | cons r t ih =>
  cases t with
  | nil=>exact .nil
  | cons q t'=>exact .cons r ih
theorem b0U{α:Type}(l:List α):l.eraseIdx (l.length-1)=l.dropLast:=by
 induction l with
 | nil=>rfl
 | cons a r ih =>
  cases r with
  | nil=>rfl
  | cons b r =>
   have e:(a::b::r).length-1=((b::r).length-1)+1:=by
    have h1:(a::b::r).length=r.length+2:=rfl
    have h2:(b::r).length=r.length+1:=rfl
    assumption
   rw [e,List.eraseIdx_cons_succ,ih]
   all_goals rfl
section
variable {X:Cx}{pins:List (Addr×Obj)}{σ:St}{H:Hp}{s:Shared}{l b:Addr}{xs ys zs:List V}
theorem Inv.uL{ak its':List Value}{n:Nat}{t':Nat}(I:Inv X pins σ H s)(hH:H l=some (.lst xs))
  (e:s.heap.get? l=some { cls:=.type "list",data:=.seq ak.toArray n })(hf:f ak.toArray=its'.toArray)(hv:aA ys its')(hz:ys.length<=sizeLine):
  Inv X pins σ (upd H l (.lst ys)) { s with heap:=s.heap.update l (fS f),toks:=t' }:=by
 have q:=PySem.IsL.update e f
 rw [hf] at q
 refine I.write (x:=l) (e:=l) (by rw [hH];exact trivial) (.inl rfl) (λb' u hb hu=>(fU s.heap (fS f) (fH hb)).trans hu) ⟨_,q⟩ ?_
 exact ⟨hz,its',_,hv,q⟩
theorem Inv.G1(I:Inv X pins σ H s)(hv:aA ys ak)(hz:ys.length<=sizeLine):
  Inv X pins σ (upd H s.heap.objs.size (.lst ys)) { s with heap:=s.heap.push { cls:=.type "list",data:=.seq ak.toArray },toks:=t' }:=
 I.laid (λ_ _ q=>bC _ q) (bo _) ⟨hz,ak,0,hv,fj _ rfl⟩
theorem Inv.fresh(I:Inv X pins σ H s):H s.heap.objs.size=none:=I.bh.fresh (bo _)
theorem Inv.nR(I:Inv X pins σ H s)(hH:H l=some (.lst xs)):xs.length<=sizeLine/\∃(ak:List Value) (n:Nat),aA xs ak/\xs.length=ak.length/\s.heap.get? l=some { cls:=.type "list",data:=.seq ak.toArray n }:=by
 obtain ⟨z,ak,n,r,e⟩:=I.bh l _ hH
 exact ⟨z,ak,n,r,r.length,e⟩
theorem b39(h:n<=sizeLine):JH n=false:=by
 unfold JH
 exact decide_eq_false (Nat.not_lt.mpr ‹_›)
end
section
variable {X:Cx}
def b57:V->List V->Hp->VK->Prop:=λx vs H Q=>∃l xs y,x=.ref l/\vs=[y]/\H l=some (.lst xs)/\xs.length<sizeLine/\Q .aR (upd H l (.lst (xs++[y])))
theorem b1S:Nj X "list.append" b57:=by
 intro pins s σ H x vs v us Q I rx rv h
 obtain ⟨l,xs,y,rfl,rfl,hH,hz,q⟩:=h
 cases rx
 obtain ⟨u,rfl,ru⟩:=rv.one
 obtain ⟨z,ak,n,r,hl,e⟩:=I.nR hH
 refine call_meets OY ⟨_,e,rfl⟩ F.entry_list_append (F.args_list_append_2 _ _) (PySem.list_append l ak.toArray n u (by rw [dG];lia)) ⟨e,?_⟩
 refine ⟨.aR,_,I.uL (its':=ak++[u]) hH e (by simp) (r.append (.cons ru .nil)) ?_,rfl,q⟩
 rw [cX,JB]
 assumption
def b56:V->List V->Hp->VK->Prop:=λx vs H Q=>∃l b xs zs,x=.ref l/\vs=[.ref b]/\H l=some (.lst xs)/\H b=some (.lst zs)/\xs.length+zs.length<=sizeLine/\Q .aR (upd H l (.lst (xs++zs)))
theorem b1R:Nj X "list.extend" b56:=by
 intro pins s σ H x vs v us Q I rx rv h
 obtain ⟨l,b,xs,zs,rfl,rfl,hH,hB,hz,q⟩:=h
 cases rx
 obtain ⟨u,rfl,ru⟩:=rv.one
 cases ru
 obtain ⟨z,ak,n,r,hl,e⟩:=I.nR hH
 obtain ⟨z2,cw,n2,r2,jm,e2⟩:=I.nR hB
 have hsz:ak.toArray.size+cw.toArray.size<=sizeLine:=by rw [dG,dG];lia
 have Ad:¬(!ak.toArray.isEmpty&&JH (ak.toArray.size+cw.toArray.size))=true:=by
  rw [b39 hsz,Bool.and_false]
  exact nh
 refine call_meets OX ⟨_,e,rfl⟩ F.entry_list_extend (F.args_list_extend_2 _ _)
  (AutoSeq1.list_extend_list_list_0 l ak.toArray n b cw.toArray n2 Ad (by rw [dG];exact T1 ‹_›) (eQ ‹_› (by decide))) ⟨e,e2,?_⟩
 refine ⟨.aR,_,I.uL (its':=ak++cw) hH e (by simp) (r.append r2) ?_,rfl,q⟩
 rw [cX]
 assumption
def GG:V->List V->Hp->VK->Prop:=λx vs H Q=>∃l xs y,x=.ref l/\vs=[]/\H l=some (.lst xs)/\xs[xs.length-1]?=some y/\Q y (upd H l (.lst xs.dropLast))
theorem b8t:Nj X "list.pop" GG:=by
 intro pins s σ H x vs v us Q I rx rv h
 obtain ⟨l,xs,y,rfl,rfl,hH,hy,q⟩:=h
 cases rx
 have YU:=rv.zero
 subst YU
 obtain ⟨z,ak,n,r,hl,e⟩:=I.nR hH
 obtain ⟨u,hu,ru⟩:=r.get hy
 have sT:ak.toArray[ak.toArray.size-1]?=some u:=by
  show ak.toArray[ak.length-1]?=some u
  rw [<-tM,<-hl]
  exact hu
 refine call_meets O3 ⟨_,e,rfl⟩ F.entry_list_pop (F.args_list_pop_1 _) (MeetsSeq.list_pop_last l ak.toArray n u sT (by rw [dG];lia)) ⟨e,?_⟩
 refine ⟨y,_,I.uL (its':=ak.dropLast) hH e ?_ r.dropLast ?_,ru,q⟩
 .show ak.toArray.eraseIdxIfInBounds (ak.toArray.size-1)=ak.dropLast.toArray
  rw [dG,List.eraseIdxIfInBounds_toArray,b0U]
 .rw [List.length_dropLast]
  exact TZ ‹_›
def GH:R2:=λx y H Q=>∃l b xs zs,x=.ref l/\y=.ref b/\H l=some (.lst xs)/\H b=some (.lst zs)/\xs.length+zs.length<=sizeLine/\∀p,H p=none->Q (.ref p) (upd H p (.lst (xs++zs)))
theorem uD:fW X (binaryOp .Add) GH:=by
 intro pins s σ H x y v u Q I rx ry h
 obtain ⟨l,b,xs,zs,rfl,rfl,hH,hB,hz,q⟩:=h
 cases rx
 cases ry
 obtain ⟨z,ak,n,r,hl,e⟩:=I.nR hH
 obtain ⟨z2,cw,n2,r2,jm,e2⟩:=I.nR hB
 refine PySem.P.add_list e e2 ?_ (by rw [dG,dG];omega)
 have ea:ak.toArray++cw.toArray=(ak++cw).toArray:=by simp
 rw [ea]
 exact ⟨.ref _,_,I.G1 (t':=s.toks) (r.append r2) (by rw [cX];assumption),rfl,q _ I.fresh⟩
end
section
variable {prog:Program}{w:World}{A:Around}{E:Value->Shared->Prop}{s:Shared}
end
section
variable {X:Cx}
end
end L2
namespace Np
open PySem PySem.W PySem.Calls PyProof.Rows
theorem a6v:∀(ns:List Int) (vs:List Value),WellAll P h vs (ns.map DS)->IntsAre vs ns:=by
 intro ns
 induction ns with
 | nil =>
  intro vs w
  rw [A0] at w
  cases w
  exact .nil
 | cons n ns ih =>
  intro vs w
  rw [fg] at w
  cases w with
  | cons a b =>
   cases a
   exact .cons _ _ (ih _ b)
theorem nK{l:OpenLaw}{n:Nat}(hn:l.most=some n){h:Heap}
  (iy:l.row.toRowW.claim.pre args=true)(Hf:WellAll P h vals args):
  ∃a vs ns,vals=[dX a]/\args=[OD (ns.map DS)]/\h.get? a=some { cls:=.type "list",data:=.seq vs.toArray }/\IntsAre vs ns/\ns.length<=n:=by
 have YW:WShape.hasAll [] args [.list .int]=true:=(pre_splitW iy).1
 have hc:l.pre.holds [] { args:=args }=true:=(pre_splitW iy).2
 obtain ⟨d,r,rfl,h1,h2⟩:=hasAllW_cons YW
 obtain rfl:=hasAllW_nil h2
 obtain ⟨xs,rfl,h3⟩:=hasW_list h1
 obtain ⟨ns,rfl⟩:=items_int h3
 have hlen:ns.length<=n:=by
  unfold OpenLaw.pre at hc
  have h4:(WTm.not (.lt (.lit (.int (n:Int))) (.len (.arg 0)))).holds [] { args:=[.list (ns.map .int)] }=true:=by
   have h4:=(holds_andW hc).1
   rw [hn] at h4
   exact h4
  have h5:=condW_of h4 (w_not (w_lt w_lit (w_len_list (w_arg rfl))))
  rw [aQ] at h5
  refine Bf λq=>?_
  have q':(n:Int)<((ns.length:Nat):Int):=by exact Int.ofNat_lt.mpr ‹_›
  first
   | (rw [decide_eq_true q'] at h5;exact absurd h5 (by decide))
   | (simp at h5;omega)
 cases Hf with
 | cons w1 w2 =>
  cases w2
  cases w1 with
  | list ho dE=>exact ⟨_,_,ns,rfl,rfl,ho,a6v ns _ dE,hlen⟩
theorem nN(l:OpenLaw)(args:List WData):l.row.toRowW.claim.post args (.bool true) args=true:=
 postW_of (r:=l.row.toRowW) (X:=(true==true))
  (show WShape.has [] (.bool true) .bool=true by first | rfl | decide | simp [WShape.has,WShape.arms,WShape.armsAll])
  (show (WTm.eq .res (.lit (.bool true))).value [] { args:=args,res:=some (.bool true),after:=args }=some (.bool (true==true)) from w_eq_bool (w_res rfl) w_lit) rfl
section
variable {prog:Program}{w:World}{A:Around}{E:Value->Shared->Prop}{s:Shared}{K:Frag}
end
end Np
namespace L2
open PySem PySem.Spec PyProof.Rows
theorem Sd:∀{vs:List Value} {ns:List Int},IntsAre vs ns->aA (ns.map V.int) vs
 | _,_,.nil=>.nil
 | _,_,.cons n t h=>.cons ⟨t,rfl⟩ (Sd h)
theorem Sj{α:Type}{c:Prop}[Decidable c]{a b:α}(h:(if c then some a else none)=some b):c/\a=b:=by
 by_cases hc:c
 .rw [if_pos hc] at h;exact ⟨hc,dj h⟩
 .rw [if_neg hc] at h;cases h
def rf:Str:="dealt.<locals>.<lambda>"
def Tb(K:aJ)(H:Hp):Prop:=∀c P,oT K "dealt" = some (c,P)->H P=some (.tab rf)
def JU(K:aJ)(ts:List Addr):Bool:=match oT K "dealt" with
 | some (c,P)=>OH K c P&&(K.lookup P).isNone&&ts.contains P
 | none=>true
theorem b4j{P:Program}{w:World}{K:aJ}{mg mb:Str->Option Value}{CX:qm}{k:Nat}{fa a:Addr}{fd:FuncData}{x:Str}{sp:Sp}{bb:Shared}{vs:List Value}{ns:List Int}{ts:List Addr}
  (KX:K.In bb.heap)(sY:bb.heap.Ns mainGlobals mg)(hb:bb.heap.Ns builtinsNs mb)(Dp:∀x:Str,x ≠ "__name__" -> mb x=bootBuiltins x)(HJ:bb.heap.NoLimit)(hg:bb.gens=#[])
  (Zn:∃bm ob,mg "__builtins__" = some (.ref bm)/\bm≠builtinsNs/\bb.heap.get? bm=some ob/\ob.cls=.type "module" /\ ob.dict=some builtinsNs/\ob.data=.plain)
  (hL:JU K ts=true)(Az:∀P∈ts,bb.heap.get? P=some (Be #[]))
  (ha:bb.heap.get? a=some { cls:=.type "list",data:=.seq vs.toArray })(hi:IntsAre vs ns)(hl:ns.length<=sizeLine)(hr:cL k callerA)
  (F:∀base:Heap,K.In base->base.Ns mainGlobals mg->cW P w K mg base CX k fa fd [x] sp)(Av:∀(s:Shared) (u:Value),BindsTo s fd ⟨[u],[]⟩ [(x,u)])
  (wN:∀H:Hp,Tb K H->fF K H a (ns.map V.int)->sp [.ref a] H (λv H'=>v=.bl true/\Tb K H') λ_ _ _=>False)
  (ZG:∀H e s',CX [] H bb (λ_ _ _=>False) e s'->False):
  codeAny (model P w) callerA (.call (.ref fa) ⟨[.ref a],[]⟩) (λr s'=>r=.ok (.ret (.bool true))/\OldK bb.heap s'.heap/\s'.os=bb.os/\AllBare s'.gens) bb:=by
 have rv:=Sd hi
 have G2:=hi.length
 have tabs:∀c P,oT K "dealt" = some (c,P)->OH K c P=true/\K.lookup P=none/\bb.heap.get? P=some (Be #[]):=λc P e=>by
  unfold JU at hL
  rw [e] at hL
  simp only [vz,Option.isNone_iff_eq_none,List.contains_iff_mem] at hL
  exact ⟨hL.1.1,hL.1.2,Az P hL.2⟩
 have core:∀H:Hp,Tb K H->fF K H a (ns.map V.int)->iK P w H bb.heap->(∀b,H b≠none->(b=a/\∃o xs,H b=some (.kJ o (.lst xs)))\/∃c,oT K "dealt" = some (c,b))->(H a≠none->K.lookup a=none) ->
   codeAny (model P w) callerA (.call (.ref fa) ⟨[.ref a],[]⟩) (λr s'=>r=.ok (.ret (.bool true))/\OldK bb.heap s'.heap/\s'.os=bb.os/\AllBare s'.gens) bb:=by
  intro H hO hS bh hA hK
  have jJ:∀{b:Addr} {o:Obj},bb.heap.get? b=some o->H b=none->(jE bb.heap H).get? b=some o:=λe n=>b4t e n
  have ND:∀{b:Addr} {o:Obj},bb.heap.get? b=some o->(∀xs n,o.data≠.seq xs n)->(∀xs,o.data=.fields xs->o.cls≠.none)->H b=none:=λ{b o} e d d2=>by
   cases q:H b with
   | none=>rfl
   | some u =>
    rcases hA b (by rw [q];simp) with ⟨e',_⟩ | ⟨c,e'⟩
    .subst e'
     rw [ha] at e;cases e
     exact absurd rfl (d _ _)
    .rw [(tabs c b e').2.2] at e;cases e
     exact absurd rfl (d2 _ rfl)
  have C1:∀{b:Addr} {m:Str->Option Value},bb.heap.Ns b m->(jE bb.heap H).Ns b m:=λ{b m} ⟨o,es,ep,e,d,r⟩=>⟨o,es,ep,jJ e (ND e (λ_ _ z=>by rw [d] at z;cases z) λ_ z=>by rw [d] at z;cases z),d,r⟩
  have Oj:K.In (jE bb.heap H):=λb o e=>jJ (KX b o e) (by
   cases q:H b with
   | none=>rfl
   | some u =>
    rcases hA b (by rw [q];simp) with ⟨e',_⟩ | ⟨c,e'⟩
    .subst e'
     rw [hK (by rw [q];simp)] at e;cases e
    .rw [(tabs c b e').2.1] at e;cases e)
  have hM:Mod K mg (jE bb.heap H):=⟨Oj,C1 sY,⟨mb,C1 hb,Dp⟩,let ⟨mc,h1,h2⟩:=HJ;⟨mc,C1 h1,h2⟩,let ⟨bm,ob,b1,b2,b3,b4,b5,b6⟩:=Zn;⟨bm,ob,b1,b2,jJ b3 (ND b3 (λ_ _ z=>by rw [b6] at z;cases z) λ_ z=>by rw [b6] at z;cases z),b4,b5,b6⟩⟩
  have e0:ql P w K mg (jE bb.heap H) callerA [] bb H:=⟨rfl,hM,λb o e=>b6u e,Nat.le_of_eq (b2p _ _),trivial,λb hb=>absurd (show b∈([]:List Addr) from hb) (by simp),bh,.of_eq hg⟩
  refine DZ ((F _ Oj (C1 sY)).run callerA [] bb H ⟨[.ref a],[]⟩ [.ref a] [.ref a] _ _ hr e0 (Av bb (.ref a)) (.cons rfl .nil) (wN H hO hS)) λr s' h=>?_
  cases r with
  | error e=>exact (ZG H e s' h).elim
  | ok fl =>
   cases fl with
   | next=>exact kP h
   | brk=>exact kP h
   | cont=>exact kP h
   | ret u =>
    obtain ⟨v,H',os,bare,un,Ab,r',q,qT⟩:=h
    subst q
    obtain rfl:u=kQ true:=r'
    have old:∀b o,bb.heap.get? b=some o->s'.heap.get? b=some o\/∃c ps,oT K "dealt" = some (c,b)/\s'.heap.get? b=some (Be ps):=λb o e=>by
     cases q:H b with
     | none=>exact .inl (un.keep b o e q (by intro z;exact absurd (show b∈([]:List Addr) from z) (by simp)) (by simp))
     | some u =>
      rcases hA b (by rw [q];simp) with ⟨_,ob,xs,z⟩ | ⟨c,e'⟩
      .have z2:=un.iS b ob _ z
       obtain ⟨e1,_⟩:=bh b _ z
       obtain ⟨e2,_⟩:=Ab b _ z2
       rw [e] at e1;cases e1
       exact .inl e2
      .obtain ⟨ps,e2,_⟩:=Ab b _ (qT c b e')
       exact .inr ⟨c,ps,e',e2⟩
    refine ⟨rfl,⟨λb o e=>?_,λb o e=>?_⟩,os,bare⟩
    .rcases old b o e with z | ⟨c,ps,e',z⟩
     .exact .inl z
     .obtain ⟨t1,_,t3⟩:=tabs c b e'
      rw [t3] at e;cases e
      exact .inr (.inl ⟨((PySem.W.codeHd_of_K KX t1).tab t3).isCodeTable,rfl,#[],ps,rfl,by rw [Array.empty_append];exact z⟩)
    .rcases old b o e with z | ⟨c,ps,e',z⟩
     .exact ⟨o,z⟩
     .exact ⟨_,z⟩
 have NC:∀(H:Hp) (b:Addr),(∃c,oT K "dealt" = some (c,b))->cH P w H bb.heap b (.tab rf):=λH b ⟨c,e⟩=>⟨#[],(tabs c b e).2.2,trivial,λpos cv h=>by simp [codeAmong] at h⟩
 have NH:∀c b,oT K "dealt" = some (c,b)->b≠a:=λc b e z=>by
  have:=(tabs c b e).2.2
  rw [z,ha] at this
  cases this
 cases hk:K.lookup a with
 | some o =>
  have e:=KX a o hk
  rw [ha] at e
  cases e
  refine core (λb=>if (oT K "dealt").map (·.2)=some b then some (.tab rf) else none) (λc b e=>if_pos (by rw [e];rfl)) (.inr ⟨_,vs.toArray,_,hk,rfl,rfl,rfl,by rw [dG,G2];exact hl,by simpa using rv⟩) (λb u z=>?_) (λb z=>?_) λz=>?_
  .obtain ⟨hc,rfl⟩:=(Sj z)
   obtain ⟨⟨c,b'⟩,e,rfl⟩:=Bi.mp hc
   exact NC _ _ ⟨c,e⟩
  .by_cases hc:(oT K "dealt").map (·.2)=some b
   .obtain ⟨⟨c,b'⟩,e,rfl⟩:=Bi.mp hc
    exact .inr ⟨c,e⟩
   .exact absurd (if_neg hc) z
  .by_cases hc:(oT K "dealt").map (·.2)=some a
   .obtain ⟨⟨c,b'⟩,e,e2⟩:=Bi.mp hc
    exact absurd e2 (NH c b' e)
   .exact absurd (if_neg hc) z
 | none =>
  refine core (λb=>if b=a then some (.kJ { cls:=.type "list",data:=.seq vs.toArray } (.lst (ns.map V.int))) else if (oT K "dealt").map (·.2)=some b then some (.tab rf) else none) (λc b e=>by show (if b=a then _ else _)=_;rw [if_neg (NH c b e),if_pos (by rw [e];rfl)]) (.inl (.inr ⟨{ cls:=.type "list",data:=.seq vs.toArray },if_pos rfl⟩)) (λb u z=>?_) (λb z=>?_) λ_=>hk
  .by_cases hb:b=a
   .have z':=(if_pos hb).symm.trans z
    cases z'
    subst hb
    exact ⟨ha,by rw [aQ];exact hl,vs,_,rv,ha⟩
   .obtain ⟨hc,rfl⟩:=Sj ((if_neg hb).symm.trans z)
    obtain ⟨⟨c,b'⟩,e,rfl⟩:=Bi.mp hc
    exact NC _ _ ⟨c,e⟩
  .by_cases hb:b=a
   .exact .inl ⟨hb,_,_,if_pos hb⟩
   .by_cases hc:(oT K "dealt").map (·.2)=some b
    .obtain ⟨⟨c,b'⟩,e,rfl⟩:=Bi.mp hc
     exact .inr ⟨c,e⟩
    .exact absurd ((if_neg hb).trans (if_neg hc)) z
end L2
namespace L2
open PySem PySem.Spec PyProof.Rows
end L2
namespace L2
open PySem PySem.Spec PyProof.Rows
def j8(s:Stmt):Arguments:=match s with
 | .FunctionDef _ a _ _ _ _ _ _ _ _=>a
 | _=>{ posonlyargs:=[],args:=[],vararg:=none,kwonlyargs:=[],kw_defaults:=[],kwarg:=none,defaults:=[] }
def iH(s:Stmt):List Stmt:=match s with
 | .FunctionDef _ _ b _ _ _ _ _ _ _=>b
 | _=>[]
def fK(s:Stmt):Scope:=match s with
 | .FunctionDef _ _ _ _ _ _ sc _ _ _=>sc
 | _=>{ kind:=.function,names:=[],isGenerator:=false,isCoroutine:=false }
abbrev jX:qm:=λ_ _ _ _ _ _=>False
abbrev E0:XK:=λ_ _ _=>False
theorem y3:J7 jX X E0:=λ_ _ _ _ _ _ _ h=>h.elim
structure um(K:aJ)(x qual:Str)(st:Stmt)(f:Addr)(fd:FuncData):Prop where
 ex:∃(oc:Value) (od:Option Addr) (kV doc pm:Value) (an:Option Addr) (dh ct:Value) (sO:Array (Option Value)),
  fd=ju x qual (j8 st) (iH st) (fK st) .none kV doc pm an dh ct/\K.lookup f=some ⟨oc,od,.func fd,sO⟩/\DY K dh qual=true
 kp:Bd K (.ref f)=true
section
variable {P:Program}{w:World}{K:aJ}{mg:Str->Option Value}{base:Heap}
theorem um.ok{x qual:Str}{st:Stmt}{f:Addr}{fd:FuncData}{N ps:List Str}{k:Nat}{sp:Sp}(F:um K x qual st f fd)(S:dI N ps (fK st))(len:∀vs H Q E,sp vs H Q E->vs.length=ps.length)
  (eI:∀(dh:Value) (A:Around) (outer:List Env) (s:Shared) (H:Hp) (vs:List V) (Q:VK) (E:XK),cL k (A.deeper (envOfC qual (fK st) s.heap.objs.size f dh))->sp vs H Q E ->
   ∃t,nF (mj jX P w K mg base N qual (fK st) f dh A outer s H E).zf (iH st) t/\t { nx:=λ_ H'=>Q .aR H',rt:=Q } (start N vs) H):cW P w K mg base jX (k+1) f fd ps sp:=by
 obtain ⟨oc,od,kV,doc,pm,an,dh,ct,sO,rfl,lk,eH⟩:=F.ex
 refine AL lk eH S len λA outer s H vs Q E hr wN=>?_
 obtain ⟨t,h,q⟩:=eI dh A outer s H vs Q E hr wN
 exact ⟨t,h.zf,q⟩
theorem um.binds{x qual:Str}{st:Stmt}{f:Addr}{fd:FuncData}{ps:List Str}(F:um K x qual st f fd)
  (h:∀(kV doc pm:Value) (an:Option Addr) (dh ct:Value) (us:List Value),us.length=ps.length->bindArgs (ju x qual (j8 st) (iH st) (fK st) .none kV doc pm an dh ct) ⟨us,[]⟩=pure (ps.zip us)):Binds K fd ps []:=by
 obtain ⟨oc,od,kV,doc,pm,an,dh,ct,sO,rfl,lk,eH⟩:=F.ex
 exact .all (h kV doc pm an dh ct)
theorem Qw{x qual:Str}{st:Stmt}{f:Addr}{oc:Value}{od an:Option Addr}{sO:Array (Option Value)}{kV doc pm dh ct:Value}(l:K.lookup f=some ⟨oc,od,.func (ju x qual (j8 st) (iH st) (fK st) .none kV doc pm an dh ct),sO⟩)
  (c:DY K dh qual=true)(k:Bd K (.ref f)=true):um K x qual st f (ju x qual (j8 st) (iH st) (fK st) .none kV doc pm an dh ct):=⟨⟨oc,od,kV,doc,pm,an,dh,ct,sO,rfl,l,c⟩,k⟩
end
section
variable {X:Cx}
end
def aq(H H':Hp):Prop:=∀b o,H b=some o->H' b=some o
theorem aq.refl(H:Hp):aq H H:=λ_ _ h=>h
theorem aq.trans(a:aq H H1)(b:aq H1 H2):aq H H2:=λc o h=>b c o (a c o h)
theorem aq.free(e:aq H H')(h:H' l=Option.none):H l=Option.none:=by
 cases q:H l with
 | none=>rfl
 | some o =>
  rw [e l o q] at h
  cases h
end L2
set_option maxHeartbeats 4000000
namespace DL
open PySem PySem.Spec PyProof.Rows L2
section
variable {prog:Program}{w:World}{A:Around}{E:Value->Shared->Prop}{s:Shared}
theorem b4P{ws:List Value}(ht:IsTup s.heap t #[])(hb:IsTup s.heap b ws.toArray)(h1:Q (.ref b) s):wpAny (model prog w) A (binaryOp .Add (.ref t) (.ref b)) Q E s:=by
 obtain ⟨⟨cls,dd,data,sl⟩,ho,hc,n,hd⟩:=id ht
 obtain ⟨⟨AS,qv,data2,o9⟩,qo,tu,n2,hd2⟩:=id hb
 simp only at hc hd tu hd2
 subst hc hd tu hd2
 exact concat_meets ⟨_,ho,rfl⟩ ⟨_,qo,rfl⟩ Jv IY JD JG (JI _ _)
   (tuple_addW0 t b #[] ws.toArray n n2 dd qv sl o9 rfl) ⟨ho,qo,h1⟩
end
section
variable {X:Cx}
noncomputable def yR(K:aJ):R2:=λx y H Q=>∃a b ys,x=.ref a/\y=.ref b/\dN K H a []/\dN K H b ys/\Q (.ref b) H
theorem b6r:fW X (binaryOp .Add) (yR X.K):=by
 intro pins s σ H x y v u Q I rx ry h
 obtain ⟨a,b,ys,rfl,rfl,ha,hb,q1⟩:=h
 cases rx
 cases ry
 obtain ⟨ak,r1,p1,_⟩:=I.tuple ha
 obtain ⟨cw,r2,p2,_⟩:=I.tuple hb
 cases r1
 exact b4P p1 p2 ⟨.ref b,H,I,rfl,q1⟩
end
end DL
namespace DL
open PySem PySem.Spec PyProof.Rows L2
inductive D where
 | aR | bl (b:Bool) | int (i:Int) | str (x:Str) | tup (ds:List D) | lst (ro:Bool) (ds:List D) | exc (n:Str) | fx (fz:Bool) (bB:List (Int×Int))
 deriving Inhabited
inductive Sl where
 | no | sh (d:D) | ow (ds:List D) | dw (bB:List (Int×Int))
 deriving Inhabited
noncomputable abbrev En:=List Sl
noncomputable def Sl.d:Sl->D
 | .no=>.aR
 | .sh d=>d
 | .ow ds=>.lst false ds
 | .dw bB=>.fx false bB
def IH(p C:Addr)(h:Heap):Prop:=∃o,h.get? p=some o/\o.cls=.ref C
mutual
inductive Is (K:aJ) (O:Addr->Prop) (H:Hp):V->D->Prop
 | aR:Is K O H .aR .aR
 | bl (b:Bool):Is K O H (.bl b) (.bl b)
 | int (i:Int):Is K O H (.int i) (.int i)
 | str (x:Str):Is K O H (.str x) (.str x)
 | tup {p:Addr} {xs:List V} {ds:List D} (ho:¬O p) (hp:Rd H p (.tup xs)) (hs:aK K O H xs ds):Is K O H (.ref p) (.tup ds)
 | l4 {p:Addr} {xs:List V} {ds:List D} (hp:dN K (λ_=>none) p xs) (hs:aK K O H xs ds):Is K O H (.ref p) (.tup ds)
 | lst {p:Addr} {xs:List V} {ds:List D} (ho:¬O p) (hp:H p=some (.lst xs)) (hs:aK K O H xs ds):Is K O H (.ref p) (.lst false ds)
 | lY {p:Addr} {xs:List V} {ds:List D} (ho:¬O p) (hp:Rd H p (.lst xs)) (hs:aK K O H xs ds):Is K O H (.ref p) (.lst true ds)
 | l5 {p:Addr} {xs:List V} {ds:List D} (hp:fF K (λ_=>none) p xs) (hs:aK K O H xs ds):Is K O H (.ref p) (.lst true ds)
 | exc {p C:Addr} {n:Str} (ho:¬O p) (hn:m8 K mainGlobals n=some (some (.ref C))) (hp:H p=some (.ext (IH p C))):Is K O H (.ref p) (.exc n)
 | fx {p:Addr} {bB:List (Int×Int)} (ho:¬O p) (hp:H p=some (.dK (bB.map λq=>(.inl q.1,.int q.2)))):Is K O H (.ref p) (.fx false bB)
 | rG {p:Addr} {bB:List (Int×Int)} {o:Obj} (ho:¬O p) (hp:H p=some (.kJ o (.dK (bB.map λq=>(.inl q.1,.int q.2))))):Is K O H (.ref p) (.fx true bB)
inductive aK (K:aJ) (O:Addr->Prop) (H:Hp):List V->List D->Prop
 | nil:aK K O H [] []
 | cons {x:V} {d:D} {xs:List V} {ds:List D} (h:Is K O H x d) (t:aK K O H xs ds):aK K O H (x::xs) (d::ds)
end
theorem Qf{O:Addr->Prop}{H H':Hp}(hH:∀q u,H q=some u->¬O q->H' q=some u){p:Addr}{u:HO}(ho:¬O p)(h:Rd H p u):Rd H' p u:=by
 rcases h with h | ⟨o,h⟩
 .exact .inl (hH p u h ho)
 .exact .inr ⟨o,hH p _ h ho⟩
theorem Q8(h:Rd H p u):H p≠none:=by
 rcases h with h | ⟨o,h⟩<;>rw [h]<;>exact λz=>nomatch z
theorem Fk{K:aJ}{H:Hp}{p:Addr}{xs:List V}(h:fF K (λ_=>none) p xs):fF K H p xs:=by
 rcases h with (h | ⟨o,h⟩) | h
 .cases h
 .cases h
 .exact .inr h
theorem Fm{K:aJ}{H:Hp}{p:Addr}{xs:List V}(h:dN K (λ_=>none) p xs):dN K H p xs:=by
 rcases h with (h | ⟨o,h⟩) | h
 .cases h
 .cases h
 .exact .inr h
section
variable {K:aJ}{O O':Addr->Prop}{H H':Hp}
mutual
theorem Is.map(hO:∀q,H q≠none->¬O q->¬O' q)(hH:∀q u,H q=some u->¬O q->H' q=some u):∀{v:V} {d:D},Is K O H v d->Is K O' H' v d
 | _,_,.aR=>.aR
 | _,_,.bl b=>.bl b
 | _,_,.int i=>.int i
 | _,_,.str x=>.str x
 | _,_,.tup ho hp hs=>.tup (hO _ (Q8 hp) ho) (Qf hH ho hp) (aK.map hO hH hs)
 | _,_,.l4 hp hs=>.l4 hp (aK.map hO hH hs)
 | _,_,.lst ho hp hs=>.lst (hO _ (by rw [hp];exact λz=>nomatch z) ho) (hH _ _ hp ho) (aK.map hO hH hs)
 | _,_,.lY ho hp hs=>.lY (hO _ (Q8 hp) ho) (Qf hH ho hp) (aK.map hO hH hs)
 | _,_,.l5 hp hs=>.l5 hp (aK.map hO hH hs)
 | _,_,.exc ho hn hp=>.exc (hO _ (by rw [hp];exact λz=>nomatch z) ho) hn (hH _ _ hp ho)
 | _,_,.fx ho hp=>.fx (hO _ (by rw [hp];exact λz=>nomatch z) ho) (hH _ _ hp ho)
 | _,_,.rG ho hp=>.rG (hO _ (by rw [hp];exact λz=>nomatch z) ho) (hH _ _ hp ho)
theorem aK.map(hO:∀q,H q≠none->¬O q->¬O' q)(hH:∀q u,H q=some u->¬O q->H' q=some u):∀{v:List V} {d:List D},aK K O H v d->aK K O' H' v d
 | _,_,.nil=>.nil
 | _,_,.cons h t=>.cons (Is.map hO hH h) (aK.map hO hH t)
end
theorem Is.grow(s:aq H H')(h:Is K O H v d):Is K O H' v d:=h.map (λ_ _ z=>z) λq u e _=>s q u e
theorem aK.grow(s:aq H H')(h:aK K O H v d):aK K O H' v d:=h.map (λ_ _ z=>z) λq u e _=>s q u e
theorem Is.less(hO:∀q,O' q->O q)(h:Is K O H v d):Is K O' H v d:=h.map (λ_ _ z w=>z (hO _ w)) λ_ _ e _=>e
theorem aK.less(hO:∀q,O' q->O q)(h:aK K O H v d):aK K O' H v d:=h.map (λ_ _ z w=>z (hO _ w)) λ_ _ e _=>e
theorem aK.length:∀{v:List V} {d:List D},aK K O H v d->v.length=d.length
 | _,_,.nil=>rfl
 | _,_,.cons _ t=>by rw [gh,gh,aK.length t]
theorem aK.append:∀{v w:List V} {d e:List D},aK K O H v d->aK K O H w e->aK K O H (v++w) (d++e)
 | _,_,_,_,.nil,s=>s
 | _,_,_,_,.cons h t,s=>.cons h (aK.append t s)
theorem aK.get:∀{v:List V} {ds:List D} {i:Nat} {d:D},aK K O H v ds->ds[i]?=some d->∃x,v[i]?=some x/\Is K O H x d
 | _,_,_,_,.nil,e=>by simp at e
 | _,_,0,_,.cons h _,e=>by simp at e;subst e;exact ⟨_,rfl,h⟩
 | _,_,i+1,d,.cons _ t,e=>by
  obtain ⟨u,h1,h2⟩:=aK.get (i:=i) (d:=d) t (by simpa using e)
  exact ⟨u,by simpa using h1,h2⟩
theorem aK.jG:∀{v:List V} {ds:List D} {i:Nat} {x:V},aK K O H v ds->v[i]?=some x->∃d,ds[i]?=some d/\Is K O H x d
 | _,_,_,_,.nil,e=>by simp at e
 | _,_,0,_,.cons h _,e=>by simp at e;subst e;exact ⟨_,rfl,h⟩
 | _,_,i+1,d,.cons _ t,e=>by
  obtain ⟨u,h1,h2⟩:=aK.jG (i:=i) (x:=d) t (by simpa using e)
  exact ⟨u,by simpa using h1,h2⟩
theorem aK.take:∀{v:List V} {d:List D} (n:Nat),aK K O H v d->aK K O H (v.take n) (d.take n)
 | _,_,0,_=>.nil
 | _,_,_+1,.nil=>.nil
 | _,_,n+1,.cons h t=>.cons h (aK.take n t)
theorem aK.drop:∀{v:List V} {d:List D} (n:Nat),aK K O H v d->aK K O H (v.drop n) (d.drop n)
 | _,_,0,h=>h
 | _,_,_+1,.nil=>.nil
 | _,_,n+1,.cons _ t=>aK.drop n t
theorem aK.set(h:Is K O H x d):∀{v:List V} {ds:List D} (n:Nat),aK K O H v ds->aK K O H (v.set n x) (ds.set n d)
 | _,_,_,.nil=>.nil
 | _,_,0,.cons _ t=>.cons h t
 | _,_,n+1,.cons h' t=>.cons h' (aK.set h n t)
theorem aK.fB(h:aK K O H v ds)(e:L2.fB ds i=some d):∃x,L2.fB v i=some x/\Is K O H x d:=by
 unfold L2.fB at e ⊢
 rw [h.length]
 cases q:l6 ds.length i with
 | none=>rw [q] at e;cases e
 | some j =>
  rw [q] at e
  exact h.get e
theorem aK.dropLast(h:aK K O H v d):aK K O H v.dropLast d.dropLast:=by
 rw [OW,OW,h.length]
 exact h.take _
theorem aK.ints:∀(ns:List Int),aK K O H (ns.map V.int) (ns.map D.int)
 | []=>.nil
 | n::r=>.cons (.int n) (aK.ints r)
def Sq(K:aJ)(H:Hp)(k:Bool)(p:Addr)(xs:List V):Prop:=if k=true then fF K H p xs else dN K H p xs
noncomputable def eh:D->Option (Bool×List D)
 | .tup ds=>some (false,ds)
 | .lst _ ds=>some (true,ds)
 | _=>none
theorem Is.seq(h:Is K O H v d)(e:eh d=some (k,ds)):∃p xs,v=.ref p/\Sq K H k p xs/\aK K O H xs ds:=by
 cases h with
 | tup ho hp hs=>cases e;exact ⟨_,_,rfl,.inl hp,hs⟩
 | l4 hp hs=>cases e;exact ⟨_,_,rfl,Fm hp,hs⟩
 | lst ho hp hs=>cases e;exact ⟨_,_,rfl,.inl (.inl hp),hs⟩
 | lY ho hp hs=>cases e;exact ⟨_,_,rfl,.inl hp,hs⟩
 | l5 hp hs=>cases e;exact ⟨_,_,rfl,Fk hp,hs⟩
 | _=>cases e
end
theorem Sq.grow{K:aJ}{H H':Hp}{k:Bool}{p:Addr}{xs:List V}(s:aq H H')(h:Sq K H k p xs):Sq K H' k p xs:=by
 cases k with
 | true =>
  rcases h with (h | ⟨o,h⟩) | h
  .exact .inl (.inl (s _ _ h))
  .exact .inl (.inr ⟨o,s _ _ h⟩)
  .exact .inr h
 | false =>
  rcases h with (h | ⟨o,h⟩) | h
  .exact .inl (.inl (s _ _ h))
  .exact .inl (.inr ⟨o,s _ _ h⟩)
  .exact .inr h
noncomputable def Sl.own:Sl->Prop
 | .ow _=>True
 | .dw _=>True
 | _=>False
noncomputable abbrev IC(bB:List (Int×Int)):HO:=.dK (bB.map λq=>(.inl q.1,.int q.2))
def mL(σ:L2.St)(env:En)(p:Addr):Prop:=∃(i:Nat) (s:Sl),env[i]?=some s/\s.own/\σ[i]?=some (some (V.ref p))
abbrev OO(O:Addr->Prop)(σ:L2.St)(env:En)(q:Addr):Prop:=O q\/mL σ env q
theorem _root_.L2.Tb.grow{K:aJ}{H H':Hp}(s:aq H H')(h:Tb K H):Tb K H':=λc P e=>s _ _ (h c P e)
def qM(K:aJ)(O:Addr->Prop)(H:Hp):Prop:=(∀q,O q->H q≠none)/\Tb K H
theorem qM.grow{K:aJ}{O:Addr->Prop}{H H':Hp}(s:aq H H')(h:qM K O H):qM K O H':=⟨λq hq hn=>h.1 q hq (s.free hn),h.2.grow s⟩
structure Rel(K:aJ)(O:Addr->Prop)(B:Hp)(σ:L2.St)(H:Hp)(env:En):Prop where
 same:aq B H
 nZ:qM K O B
 len:σ.length=env.length
 sh:∀(i:Nat) (d:D),env[i]?=some (Sl.sh d)->∃v,σ[i]?=some (some v)/\Is K (OO O σ env) H v d
 ow:∀(i:Nat) (ds:List D),env[i]?=some (Sl.ow ds)->∃p xs,σ[i]?=some (some (V.ref p))/\B p=none/\H p=some (.lst xs)/\aK K (OO O σ env) H xs ds
 dw:∀(i:Nat) (bB:List (Int×Int)),env[i]?=some (Sl.dw bB)->∃p,σ[i]?=some (some (V.ref p))/\B p=none/\H p=some (IC bB)
 sep:∀(i j:Nat) (ds es:Sl) (p:Addr),env[i]?=some ds->env[j]?=some es->σ[i]?=some (some (V.ref p))->σ[j]?=some (some (V.ref p))->ds.own->es.own->i=j
noncomputable def Res(K:aJ)(O:Addr->Prop)(B H:Hp)(v:V):Sl->Prop
 | .no=>False
 | .sh d=>Is K O H v d
 | .ow ds=>∃p xs,v=.ref p/\B p=none/\H p=some (.lst xs)/\aK K (λq=>O q\/q=p) H xs ds
 | .dw bB=>∃p,v=.ref p/\B p=none/\H p=some (IC bB)
section
variable {K:aJ}{O:Addr->Prop}{B H H' H1:Hp}{σ:L2.St}{env:En}{v:V}{r:Sl}
theorem Rel.ad(R:Rel K O B σ H env){i:Nat}{s:Sl}(h:env[i]?=some s)(ho:s.own):∃p u,σ[i]?=some (some (V.ref p))/\B p=none/\H p=some u:=by
 cases s with
 | ow ds=>obtain ⟨p,xs,e1,e2,e3,_⟩:=R.ow i ds h;exact ⟨p,_,e1,e2,e3⟩
 | dw bB=>obtain ⟨p,e1,e2,e3⟩:=R.dw i bB h;exact ⟨p,_,e1,e2,e3⟩
 | no=>exact ho.elim
 | sh d=>exact ho.elim
theorem Rel.oo(R:Rel K O B σ H env)(h:OO O σ env q):H q≠none:=by
 rcases h with h | ⟨i,s,h1,ho,h2⟩
 .intro z
  exact R.nZ.1 q h (R.same.free z)
 .obtain ⟨p,u,e1,_,e3⟩:=R.ad h1 ho
  rw [h2] at e1
  cases e1
  rw [e3];exact λz=>nomatch z
theorem Rel.dm(R:Rel K O B σ H env):qM K (OO O σ env) H:=⟨λ_=>R.oo,R.nZ.2.grow R.same⟩
theorem Rel.grow(R:Rel K O B σ H env)(s:aq H H'):Rel K O B σ H' env where
 same:=R.same.trans s
 nZ:=R.nZ
 len:=R.len
 sh:=λi d e=>let ⟨v,e1,h⟩:=R.sh i d e;⟨v,e1,h.grow s⟩
 ow:=λi ds e=>let ⟨p,xs,e1,e2,e3,h⟩:=R.ow i ds e;⟨p,xs,e1,e2,s _ _ e3,h.grow s⟩
 dw:=λi bB e=>let ⟨p,e1,e2,e3⟩:=R.dw i bB e;⟨p,e1,e2,s _ _ e3⟩
 sep:=R.sep
theorem Res.from(s:aq H1 B)(h:Res K O B H v r):Res K O H1 H v r:=by
 cases r with
 | no=>exact h
 | sh d=>exact h
 | ow ds=>obtain ⟨p,xs,e1,e2,e3,h⟩:=h;exact ⟨p,xs,e1,s.free e2,e3,h⟩
 | dw bB=>obtain ⟨p,e1,e2,e3⟩:=h;exact ⟨p,e1,s.free e2,e3⟩
theorem Res.less(hO:∀q,O' q->O q)(h:Res K O B H v r):Res K O' B H v r:=by
 cases r with
 | no=>exact h
 | sh d=>exact Is.less hO h
 | ow ds=>obtain ⟨p,xs,e1,e2,e3,h⟩:=h;exact ⟨p,xs,e1,e2,e3,h.less λq z=>z.elim (λw=>.inl (hO _ w)) .inr⟩
 | dw bB=>exact h
theorem Res.is(hd:∀q,O q->B q≠none)(h:Res K O B H v r):Is K O H v r.d:=by
 cases r with
 | no=>exact h.elim
 | sh d=>exact h
 | ow ds =>
  obtain ⟨p,xs,rfl,e2,e3,h⟩:=h
  exact .lst (λz=>hd p z e2) e3 (h.less λ_=>.inl)
 | dw bB =>
  obtain ⟨p,rfl,e2,e3⟩:=h
  exact .fx (λz=>hd p z e2) e3
end
def EV(X:Cx)(e:Expr)(f:En->Option Sl):Prop:=
 ∃t:TE,PE X e t/\∀(O:Addr->Prop) (B:Hp) (σ:L2.St) (H:Hp) (env:En) (r:Sl) (Q:VK),Rel X.K O B σ H env->f env=some r ->
  (∀v H',aq H H'->Res X.K (OO O σ env) H H' v r->Q v H')->t σ H Q
def BV(X:Cx)(e:Expr)(f:En->Option (Bool×List D)):Prop:=
 ∃t:TE,PE X e t/\∀(O:Addr->Prop) (B:Hp) (σ:L2.St) (H:Hp) (env:En) (k:Bool) (ds:List D) (Q:VK),Rel X.K O B σ H env->f env=some (k,ds) ->
  (∀p xs H',aq H H'->Sq X.K H' k p xs->aK X.K (OO O σ env) H' xs ds->Q (.ref p) H')->t σ H Q
def AV(X:Cx)(es:List Expr)(f:En->Option (List D)):Prop:=
 ∃t:TA,PA X es t/\∀(O:Addr->Prop) (B:Hp) (σ:L2.St) (H:Hp) (env:En) (ds:List D) (Q:List V->Hp->Prop),Rel X.K O B σ H env->f env=some ds ->
  (∀vs H',aq H H'->aK X.K (OO O σ env) H' vs ds->Q vs H')->t σ H Q
def TV(X:Cx)(e:Expr)(f:En->Option Bool):Prop:=
 ∃t:TT,PT X e t/\∀(O:Addr->Prop) (B:Hp) (σ:L2.St) (H:Hp) (env:En) (b:Bool) (Q:Bool->Hp->Prop),Rel X.K O B σ H env->f env=some b ->
  (∀H',aq H H'->Q b H')->t σ H Q
def WV(X:Cx)(e:Expr)(f:En->Option Bool):Prop:=
 ∃t:TT,PW X e t/\∀(O:Addr->Prop) (B:Hp) (σ:L2.St) (H:Hp) (env:En) (b:Bool) (Q:Bool->Hp->Prop),Rel X.K O B σ H env->f env=some b ->
  (∀H',aq H H'->Q b H')->t σ H Q
inductive Fl where
 | nx | bk | ct | rt (r:Sl)
def Gd(σ:L2.St)(env:En)(H:Hp)(aI:L2.St)(ai:En)(H':Hp):Prop:=∀q u,H q=some u->¬mL σ env q->H' q=some u/\¬mL aI ai q
theorem Gd.trans(a:Gd σ env H iL bM H1)(b:Gd iL bM H1 cO bq H2):Gd σ env H cO bq H2:=λq u e n =>
 let ⟨e1,n1⟩:=a q u e n
 b q u e1 n1
theorem Gd.from(s:aq H H1)(b:Gd σ env H1 aI ai H'):Gd σ env H aI ai H':=λq u e n=>b q u (s _ _ e) n
theorem Gd.refl(s:aq H H'):Gd σ env H σ env H':=λq u e n=>⟨s _ _ e,n⟩
noncomputable def du(K:aJ)(O:Addr->Prop)(B:Hp)(σ:L2.St)(H:Hp)(env:En)(D:Ends):Fl->En->Prop
 | .nx,ai=>∀aI H',Rel K O B aI H' ai->Gd σ env H aI ai H'->D.nx aI H'
 | .bk,ai=>∀aI H',Rel K O B aI H' ai->Gd σ env H aI ai H'->D.bk aI H'
 | .ct,ai=>∀aI H',Rel K O B aI H' ai->Gd σ env H aI ai H'->D.ct aI H'
 | .rt r,_=>∀v H',aq B H'->Res K O B H' v r->D.rt v H'
theorem du.from{K:aJ}{O:Addr->Prop}{B:Hp}{σ iL:L2.St}{H H1:Hp}{env bM:En}{D:Ends}{fl:Fl}{ai:En}(g:Gd σ env H iL bM H1)(h:du K O B σ H env D fl ai):du K O B iL H1 bM D fl ai:=by
 cases fl with
 | nx=>exact λaI H' R g'=>h aI H' R (g.trans g')
 | bk=>exact λaI H' R g'=>h aI H' R (g.trans g')
 | ct=>exact λaI H' R g'=>h aI H' R (g.trans g')
 | rt r=>exact h
noncomputable abbrev SF:=En->Option (Fl×En)
def SV(X:Cx)(st:Stmt)(F:SF):Prop:=
 ∃t:TS,PS X st t/\∀(O:Addr->Prop) (B:Hp) (σ:L2.St) (H:Hp) (env:En) (fl:Fl) (ai:En) (D:Ends),Rel X.K O B σ H env->F env=some (fl,ai)->du X.K O B σ H env D fl ai->t D σ H
def nE(X:Cx)(st:List Stmt)(F:SF):Prop:=
 ∃t:TS,nF X st t/\∀(O:Addr->Prop) (B:Hp) (σ:L2.St) (H:Hp) (env:En) (fl:Fl) (ai:En) (D:Ends),Rel X.K O B σ H env->F env=some (fl,ai)->du X.K O B σ H env D fl ai->t D σ H
section
variable {X:Cx}{a b c:Expr}{pos:Pos}{fa fb fc:En->Option Sl}
noncomputable def eC(d:D):En->Option Sl:=λ_=>some (.sh d)
theorem ah{i j pos}:EV X (.Constant (.int i) j pos) (eC (.int i)):=⟨_,b8l,λ_ _ _ _ _ _ _ _ e k=>by
 obtain rfl:=dj e
 exact k _ _ (aq.refl _) (Is.int i)⟩
theorem oj{i j pos}:EV X (.Constant (.bool i) j pos) (eC (.bl i)):=⟨_,yZ,λ_ _ _ _ _ _ _ _ e k=>by
 obtain rfl:=dj e
 exact k _ _ (aq.refl _) (Is.bl i)⟩
theorem iF{j pos}:EV X (.Constant .none j pos) (eC .aR):=⟨_,b8j,λ_ _ _ _ _ _ _ _ e k=>by
 obtain rfl:=dj e
 exact k _ _ (aq.refl _) Is.aR⟩
theorem xy{x j pos}:EV X (.Constant (.str x) j pos) (eC (.str x)):=⟨_,b8i,λ_ _ _ _ _ _ _ _ e k=>by
 obtain rfl:=dj e
 exact k _ _ (aq.refl _) (Is.str x)⟩
noncomputable def CW:Option Sl->Option Sl
 | some (.sh d)=>some (.sh d)
 | _=>none
theorem b3D(h:CW o=some r):∃d,o=some (Sl.sh d)/\r=.sh d:=by
 cases o with
 | none=>cases h
 | some s=>cases s with
  | sh d=>cases h;exact ⟨d,rfl,rfl⟩
  | no=>cases h
  | ow ds=>cases h
  | dw ds=>cases h
noncomputable def eV(i:Nat):En->Option Sl:=λenv=>CW env[i]?
theorem b8V(i:Nat)(hN:X.N[i]?=some x:=by rfl)(hv:jV X.env.scope x:=by first | exact di rfl | exact bX (di rfl) | exact bX (bX rfl))(hd:(x==("__debug__":Str))=false:=by decide)
  (eH:(x==("__classdict__":Str))=false:=by decide):EV X (.Name x pos) (eV i):=⟨_,vT hN hv hd eH,λO B σ H env r Q R e k=>by
 obtain ⟨d,e1,rfl⟩:=b3D e
 obtain ⟨v,e2,h⟩:=R.sh i d e1
 exact ⟨v,e2,k v H (aq.refl _) h⟩⟩
noncomputable def wH:Option Sl->Option (Bool×List D)
 | some (.sh d)=>eh d
 | some (.ow ds)=>some (true,ds)
 | _=>none
noncomputable def bV(i:Nat):En->Option (Bool×List D):=λenv=>wH env[i]?
theorem b9a(i:Nat)(hN:X.N[i]?=some x:=by rfl)(hv:jV X.env.scope x:=by first | exact di rfl | exact bX (di rfl) | exact bX (bX rfl))(hd:(x==("__debug__":Str))=false:=by decide)
  (eH:(x==("__classdict__":Str))=false:=by decide):BV X (.Name x pos) (bV i):=⟨_,vT hN hv hd eH,λO B σ H env k ds Q R e q=>by
 unfold bV at e
 cases h:env[i]? with
 | none=>rw [h] at e;cases e
 | some s =>
  rw [h] at e
  cases s with
  | no=>cases e
  | sh d =>
   obtain ⟨v,e2,hv⟩:=R.sh i d h
   obtain ⟨p,xs,rfl,h1,h2⟩:=hv.seq (show eh d=some (k,ds) from e)
   exact ⟨_,e2,q p xs H (aq.refl _) h1 h2⟩
  | dw es=>cases e
  | ow es =>
   obtain ⟨rfl,rfl⟩:true=k/\es=ds:=Prod.mk.inj (dj e)
   obtain ⟨p,xs,e2,_,e3,h2⟩:=R.ow i es h
   exact ⟨_,e2,q p xs H (aq.refl _) (.inl (.inl e3)) h2⟩⟩
noncomputable def fT(f:En->Option Sl):En->Option (Bool×List D):=λenv=>(f env).bind λr=>eh r.d
theorem bind_some{α β:Type}{o:Option α}{f:α->Option β}{b:β}(h:o.bind f=some b):∃a,o=some a/\f a=some b:=by
 cases o with
 | none=>cases h
 | some a=>exact ⟨a,rfl,h⟩
theorem gw(h:EV X a fa):BV X a (fT fa):=by
 obtain ⟨t,ht,p⟩:=h
 refine ⟨t,ht,λO B σ H env k ds Q R e q=>?_⟩
 obtain ⟨r,e1,e2⟩:=bind_some e
 refine p O B σ H env r _ R e1 λv H' s h=>?_
 obtain ⟨p,xs,rfl,h1,h2⟩:=(h.is (λz=>R.oo)).seq e2
 exact q p xs H' s h1 h2
def g9(X:Cx)(f:Value->Value->Sem Value)(g:D->D->Option Sl):Prop:=
 ∃r:R2,fW X f r/\∀(O:Addr->Prop) (H:Hp) (x y:V) (a b:D) (s:Sl) (Q:VK),(∀q,O q->H q≠none)->Is X.K O H x a->Is X.K O H y b->g a b=some s ->
  (∀v H',aq H H'->Res X.K O H H' v s->Q v H')->r x y H Q
noncomputable def aa(g:D->D->Option Sl)(fa fb:En->Option Sl):En->Option Sl:=λenv=>(fa env).bind λx=>(fb env).bind λy=>g x.d y.d
theorem LA(hg:∀(O:Addr->Prop) (H:Hp) (x y:V) (a b:D) (s:Sl) (Q:VK),(∀q,O q->H q≠none)->Is X.K O H x a->Is X.K O H y b->g a b=some s->(∀v H',aq H H'->Res X.K O H H' v s->Q v H')->r x y H Q)(pa:∀(O:Addr->Prop) (B:Hp) (σ:L2.St) (H:Hp) (env:En) (r:Sl) (Q:VK),Rel X.K O B σ H env->fa env=some r->(∀v H',aq H H'->Res X.K (OO O σ env) H H' v r->Q v H')->ta σ H Q)
  (pb:∀(O:Addr->Prop) (B:Hp) (σ:L2.St) (H:Hp) (env:En) (r:Sl) (Q:VK),Rel X.K O B σ H env->fb env=some r->(∀v H',aq H H'->Res X.K (OO O σ env) H H' v r->Q v H')->tb σ H Q)
  (O:Addr->Prop)(B:Hp)(σ:L2.St)(H:Hp)(env:En)(s:Sl)(Q:VK)(R:Rel X.K O B σ H env)(e:aa g fa fb env=some s)
  (k:∀v H',aq H H'->Res X.K (OO O σ env) H H' v s->Q v H'):yw r ta tb σ H Q:=by
 obtain ⟨x,e1,e⟩:=bind_some e
 obtain ⟨y,e2,e⟩:=bind_some e
 refine pa O B σ H env x _ R e1 λv H1 s1 h1=>?_
 refine pb O B σ H1 env y _ (R.grow s1) e2 λu H2 s2 h2=>?_
 have R2:=(R.grow s1).grow s2
 refine hg (OO O σ env) H2 v u x.d y.d s Q (λq=>R2.oo) ((h1.is λq=>R.oo).grow s2) (h2.is λq=>(R.grow s1).oo) e λw H3 s3 h3=>?_
 exact k w H3 ((s1.trans s2).trans s3) (h3.from (s1.trans s2))
theorem az(ho:g9 X (binaryOp op) g)(ha:EV X a fa)(hb:EV X b fb):EV X (.BinOp a op b pos) (aa g fa fb):=by
 obtain ⟨r,hr,hg⟩:=ho
 obtain ⟨ta,pa,ka⟩:=ha
 obtain ⟨tb,pb,kb⟩:=hb
 exact ⟨_,yX hr pa pb,LA hg ka kb⟩
theorem EK(ho:g9 X (compareOp op) g)(ha:EV X a fa)(hb:EV X b fb)(hm:behindInMarks op b=false:=by exact P9 _):EV X (.Compare a [op] [b] pos) (aa g fa fb):=by
 obtain ⟨r,hr,hg⟩:=ho
 obtain ⟨ta,pa,ka⟩:=ha
 obtain ⟨tb,pb,kb⟩:=hb
 exact ⟨_,b6l hr pa pb hm,LA hg ka kb⟩
noncomputable def BF:Option Sl->Option Bool
 | some (.sh (.bl b))=>some b
 | _=>none
theorem Lz{b:Bool}(h:BF o=some b):o=some (Sl.sh (.bl b)):=by
 cases o with
 | none=>cases h
 | some s=>cases s with
  | no=>cases h
  | ow ds=>cases h
  | dw ds=>cases h
  | sh d=>cases d<;>cases h;rfl
noncomputable def a9(f:En->Option Sl):En->Option Bool:=λenv=>BF (f env)
theorem tV{K:aJ}{O:Addr->Prop}{H:Hp}{v:V}{b:Bool}(h:Is K O H v (.bl b)):v=.bl b:=by cases h;rfl
theorem gZ{K:aJ}{O:Addr->Prop}{H:Hp}{v:V}{b:Int}(h:Is K O H v (.int b)):v=.int b:=by cases h;rfl
theorem Kc{K:aJ}{O:Addr->Prop}{H:Hp}{v:V}(h:Is K O H v .aR):v=.aR:=by cases h;rfl
theorem Kd{K:aJ}{O:Addr->Prop}{H:Hp}{v:V}{b:Str}(h:Is K O H v (.str b)):v=.str b:=by cases h;rfl
theorem bD(ho:g9 X (compareOp op) g)(ha:EV X a fa)(hb:EV X b fb)(hm:behindInMarks op b=false:=by exact P9 _):TV X (.Compare a [op] [b] pos) (a9 (aa g fa fb)):=by
 obtain ⟨r,hr,hg⟩:=ho
 obtain ⟨ta,pa,ka⟩:=ha
 obtain ⟨tb,pb,kb⟩:=hb
 refine ⟨_,b6a hr pa pb hm,λO B σ H env k Q R e q=>?_⟩
 exact LA hg ka kb O B σ H env _ _ R (Lz e) λv H' s h=>⟨k,tV h,q H' s⟩
noncomputable def lV:D->Option Bool
 | .aR=>some false
 | .bl b=>some b
 | .int i=>some (i != 0)
 | .str y=>if y.length<=16777216 then some ((y.length:Int) != 0) else none
 | .tup ds=>some (!ds.isEmpty)
 | .lst _ ds=>some (!ds.isEmpty)
 | .exc _=>none
 | .fx _ _=>none
theorem aK.isEmpty{K:aJ}{O:Addr->Prop}{H:Hp}{xs:List V}{ds:List D}(h:aK K O H xs ds):xs.isEmpty=ds.isEmpty:=by cases h<;>rfl
theorem b5V{K:aJ}{O:Addr->Prop}{H:Hp}{v:V}{d:D}{b:Bool}(h:Is K O H v d)(e:lV d=some b):wy K v H b:=by
 cases h with
 | aR=>cases e;rfl
 | bl b=>cases e;rfl
 | int i=>cases e;rfl
 | str x =>
  unfold lV at e
  dsimp only at e
  by_cases hl:x.length<=16777216
  .rw [if_pos hl] at e;cases e;exact ⟨by rw [iY];exact hl,rfl⟩
  .rw [if_neg hl] at e;cases e
 | tup ho hp hs=>cases e;exact .inr (.inl ⟨_,.inl hp,by rw [hs.isEmpty]⟩)
 | l4 hp hs=>cases e;exact .inr (.inl ⟨_,Fm hp,by rw [hs.isEmpty]⟩)
 | lst ho hp hs=>cases e;exact .inl ⟨_,.inl (.inl hp),by rw [hs.isEmpty]⟩
 | lY ho hp hs=>cases e;exact .inl ⟨_,.inl hp,by rw [hs.isEmpty]⟩
 | l5 hp hs=>cases e;exact .inl ⟨_,Fk hp,by rw [hs.isEmpty]⟩
 | exc ho hn hp=>cases e
 | fx ho hp=>cases e
 | rG ho hp=>cases e
noncomputable def gz(f:En->Option Sl):En->Option Bool:=λenv=>(f env).bind λr=>lV r.d
theorem t7(ha:EV X a fa)(he:∀whole,isTrue a X.env whole=(do let v <-whole;standAt a.pos;holding [v] (truthy v)):=by intro _;rfl):TV X a (gz fa):=by
 obtain ⟨ta,pa,ka⟩:=ha
 refine ⟨_,Rx pa he,λO B σ H env k Q R e q=>?_⟩
 obtain ⟨r,e1,e2⟩:=bind_some e
 exact ka O B σ H env r _ R e1 λv H' s h=>⟨k,b5V (h.is λq=>R.oo) e2,q H' s⟩
noncomputable def Bv(f:En->Option (Bool×List D)):En->Option Bool:=λenv=>(f env).bind λr=>some (!r.2.isEmpty)
theorem Rr{fa:En->Option (Bool×List D)}(ha:BV X a fa)(he:∀whole,isTrue a X.env whole=(do let v <-whole;standAt a.pos;holding [v] (truthy v)):=by intro _;rfl):TV X a (Bv fa):=by
 obtain ⟨ta,pa,ka⟩:=ha
 refine ⟨_,Rx pa he,λO B σ H env k Q R e q=>?_⟩
 obtain ⟨⟨kk,ds⟩,e1,e2⟩:=bind_some e
 cases e2
 refine ka O B σ H env kk ds _ R e1 λp xs H' s h hs=>⟨_,?_,q H' s⟩
 cases kk with
 | true=>exact .inl ⟨xs,h,by rw [hs.isEmpty]⟩
 | false=>exact .inr (.inl ⟨xs,h,by rw [hs.isEmpty]⟩)
noncomputable def mw(f g:En->Option Bool):En->Option Bool:=λenv=>match f env with
 | some true=>g env
 | some false=>some false
 | none=>none
noncomputable def e7(f g:En->Option Bool):En->Option Bool:=λenv=>match f env with
 | some false=>g env
 | some true=>some true
 | none=>none
noncomputable def xq(f:En->Option Bool):En->Option Bool:=λenv=>(f env).map (!·)
variable {ga gb:En->Option Bool}{rest:List Expr}
theorem vZ(ha:TV X a ga):WV X (.BoolOp .And [a] pos) ga:=let ⟨t,p,k⟩:=ha;⟨t,b58 p,k⟩
theorem rX(ha:TV X a ga):WV X (.BoolOp .Or [a] pos) ga:=let ⟨t,p,k⟩:=ha;⟨t,b8b p,k⟩
theorem vW(ha:TV X a ga)(hb:WV X (.BoolOp .And (b::rest) pos) gb):WV X (.BoolOp .And (a::b::rest) pos) (mw ga gb):=by
 obtain ⟨t,p,k⟩:=ha
 obtain ⟨u,p',k'⟩:=hb
 refine ⟨_,b8c p p',λO B σ H env d Q R e q=>?_⟩
 unfold mw at e
 cases h:ga env with
 | none=>rw [h] at e;cases e
 | some x =>
  rw [h] at e
  refine k O B σ H env x _ R h λH1 s1=>?_
  cases x with
  | true =>
   rw [if_pos rfl]
   exact k' O B σ H1 env d Q (R.grow s1) e λH2 s2=>q H2 (s1.trans s2)
  | false =>
   cases e
   rw [if_neg nh]
   exact q H1 s1
theorem p7(ha:TV X a ga)(hb:WV X (.BoolOp .Or (b::rest) pos) gb):WV X (.BoolOp .Or (a::b::rest) pos) (e7 ga gb):=by
 obtain ⟨t,p,k⟩:=ha
 obtain ⟨u,p',k'⟩:=hb
 refine ⟨_,pw_or p p',λO B σ H env d Q R e q=>?_⟩
 unfold e7 at e
 cases h:ga env with
 | none=>rw [h] at e;cases e
 | some x =>
  rw [h] at e
  refine k O B σ H env x _ R h λH1 s1=>?_
  cases x with
  | false =>
   rw [if_neg nh]
   exact k' O B σ H1 env d Q (R.grow s1) e λH2 s2=>q H2 (s1.trans s2)
  | true =>
   cases e
   rw [if_pos rfl]
   exact q H1 s1
theorem eZ(h:WV X a ga):TV X a ga:=let ⟨t,p,k⟩:=h;⟨t,p.pt,k⟩
theorem Kx(ha:TV X a ga):TV X (.UnaryOp .Not a pos) (xq ga):=by
 obtain ⟨t,p,k⟩:=ha
 refine ⟨_,b8d p,λO B σ H env d Q R e q=>?_⟩
 unfold xq at e
 cases h:ga env with
 | none=>rw [h] at e;cases e
 | some x =>
  rw [h] at e
  cases e
  exact k O B σ H env x _ R h λH1 s1=>q H1 s1
noncomputable def lJ(c:En->Option Bool)(f g:En->Option Sl):En->Option Sl:=λenv=>match c env with
 | some true=>f env
 | some false=>g env
 | none=>none
theorem p6(hc:TV X c ga)(ha:EV X a fa)(hb:EV X b fb):EV X (.IfExp c a b pos) (lJ ga fa fb):=by
 obtain ⟨tc,pc,kc⟩:=hc
 obtain ⟨t,p,k⟩:=ha
 obtain ⟨u,p',k'⟩:=hb
 refine ⟨_,b30 pc p p',λO B σ H env r Q R e q=>?_⟩
 unfold lJ at e
 cases h:ga env with
 | none=>rw [h] at e;cases e
 | some x =>
  rw [h] at e
  refine kc O B σ H env x _ R h λH1 s1=>?_
  cases x with
  | true =>
   rw [if_pos rfl]
   exact k O B σ H1 env r Q (R.grow s1) e λv2 H2 s2 r2=>q v2 H2 (s1.trans s2) (r2.from s1)
  | false =>
   rw [if_neg nh]
   exact k' O B σ H1 env r Q (R.grow s1) e λv2 H2 s2 r2=>q v2 H2 (s1.trans s2) (r2.from s1)
noncomputable def vd:D->Option Sl
 | .int i=>some (.sh (.int (-i)))
 | _=>none
noncomputable def iV(f:En->Option Sl):En->Option Sl:=λenv=>(f env).bind λr=>vd r.d
theorem tZ(ha:EV X a fa):EV X (.UnaryOp .USub a pos) (iV fa):=by
 obtain ⟨t,p,k⟩:=ha
 refine ⟨_,yW b7N p,λO B σ H env r Q R e q=>?_⟩
 obtain ⟨x,e1,e2⟩:=bind_some e
 refine k O B σ H env x _ R e1 λv H1 s1 r1=>?_
 have hi:=r1.is λq=>R.oo
 cases hd:x.d with
 | int i =>
  rw [hd] at hi e2
  obtain rfl:=gZ hi
  obtain rfl:=dj e2
  exact ⟨i,rfl,q _ H1 s1 (Is.int _)⟩
 | _=>rw [hd] at e2;cases e2
variable {e:Expr}{es:List Expr}
noncomputable def ab:En->Option (List D):=λ_=>some []
noncomputable def ae(f:En->Option Sl)(g:En->Option (List D)):En->Option (List D):=λenv=>(f env).bind λr=>(g env).bind λds=>some (r.d::ds)
theorem ar:AV X [] ab:=⟨_,qI,λO B σ H env ds Q R e q=>by
 obtain rfl:=dj e
 exact q [] H (aq.refl _) .nil⟩
theorem af(ha:EV X e fe)(hb:AV X es fs)(hs:starEach (e::es) X.env=(false,eval e X.env)::starEach es X.env:=by rfl):AV X (e::es) (ae fe fs):=by
 obtain ⟨t,p,k⟩:=ha
 obtain ⟨u,p',k'⟩:=hb
 refine ⟨_,qJ p p' hs,λO B σ H env ds Q R e q=>?_⟩
 obtain ⟨r,e1,e2⟩:=bind_some e
 obtain ⟨gp,e4,e3⟩:=bind_some e2
 obtain rfl:=dj e3
 refine k O B σ H env r _ R e1 λv H1 s1 r1=>?_
 refine k' O B σ H1 env gp _ (R.grow s1) e4 λvs H2 s2 r2=>?_
 exact q _ H2 (s1.trans s2) (.cons ((r1.is λq=>R.oo).grow s2) r2)
theorem o5(h:H p=none)(o:HO):aq H (upd H p o):=λb u q=>by rw [df (qe q h)];exact q
noncomputable def aY(f:En->Option (List D)):En->Option Sl:=λenv=>(f env).bind λds=>if ds.length<=16777216 then some (.sh (.tup ds)) else none
noncomputable def aO(f:En->Option (List D)):En->Option Sl:=λenv=>(f env).bind λds=>if ds.length<=16777216 then some (.ow ds) else none
theorem iG{α:Type}{c:Prop}[Decidable c]{x y:α}(h:(if c then some x else none)=some y):c/\x=y:=by
 by_cases hc:c
 .rw [if_pos hc] at h;exact ⟨hc,dj h⟩
 .rw [if_neg hc] at h;cases h
theorem E2{K:aJ}{O:Addr->Prop}{H:Hp}{p:Addr}{xs:List V}{ds:List D}(hO:∀q,O q->H q≠none)(hp:H p=none)(h:aK K O H xs ds):Res K O H (upd H p (.tup xs)) (.ref p) (.sh (.tup ds)):=
 Is.tup (λz=>hO p z hp) (.inl qd) (h.grow (o5 hp _))
theorem xH{K:aJ}{O:Addr->Prop}{H:Hp}{p:Addr}{xs:List V}{ds:List D}(hp:H p=none)(h:aK K O H xs ds):Res K O H (upd H p (.lst xs)) (.ref p) (.ow ds):=
 ⟨p,xs,rfl,hp,qd,h.map (λq hq hn z=>z.elim hn λw=>hq (by rw [w];exact hp)) λq u e _=>o5 hp _ q u e⟩
theorem fC{x1}(h:AV X es fs):EV X (.Tuple es x1 pos) (aY fs):=by
 obtain ⟨t,p,k⟩:=h
 refine ⟨_,b8h p,λO B σ H env r Q R e q=>?_⟩
 obtain ⟨ds,e1,e2⟩:=bind_some e
 obtain ⟨hl,rfl⟩:=iG e2
 refine k O B σ H env ds _ R e1 λvs H1 s1 r1=>⟨by rw [r1.length,iY];exact hl,λp hp=>?_⟩
 exact q _ _ (s1.trans (o5 hp _)) ((E2 (O:=OO O σ env) (H:=H1) (λ_ z=>(R.grow s1).oo z) hp r1).from s1)
theorem dM(h:AV X es fs):EV X (.List es pos) (aO fs):=by
 obtain ⟨t,p,k⟩:=h
 refine ⟨_,b8k p,λO B σ H env r Q R e q=>?_⟩
 obtain ⟨ds,e1,e2⟩:=bind_some e
 obtain ⟨hl,rfl⟩:=iG e2
 refine k O B σ H env ds _ R e1 λvs H1 s1 r1=>⟨by rw [r1.length,iY];exact hl,λp hp=>?_⟩
 exact q _ _ (s1.trans (o5 hp _)) ((xH hp r1).from s1)
noncomputable def au(f:En->Option (Bool×List D))(g:En->Option Sl):En->Option Sl:=λenv=>(f env).bind λx=>(g env).bind λy=>match y.d with
 | .int i=>(fB x.2 i).map .sh
 | _=>none
theorem aw{fa:En->Option (Bool×List D)}(ha:BV X a fa)(hb:EV X b fb)(hs:QE b:=by exact λ_ _=>rfl):EV X (.Subscript a b pos) (au fa fb):=by
 obtain ⟨t,p,k⟩:=ha
 obtain ⟨u,p',k'⟩:=hb
 refine ⟨_,yY b8H p p' hs,λO B σ H env r Q R e q=>?_⟩
 obtain ⟨⟨kk,ds⟩,e1,e2⟩:=bind_some e
 obtain ⟨y,e2,e3⟩:=bind_some e2
 refine k O B σ H env kk ds _ R e1 λl xs H1 s1 hq hx=>?_
 refine k' O B σ H1 env y _ (R.grow s1) e2 λw H2 s2 r2=>?_
 have hi:=r2.is λq=>(R.grow s1).oo
 cases hd:y.d with
 | int i =>
  rw [hd] at hi e3
  obtain rfl:=gZ hi
  dsimp only at e3
  cases h:fB ds i with
  | none=>rw [h] at e3;cases e3
  | some d =>
   rw [h] at e3
   obtain rfl:=dj e3
   obtain ⟨v,h1,h2⟩:=(hx.grow s2).fB h
   have dR:=hq.grow s2
   have fin:=q v H2 (s1.trans s2) h2
   cases kk with
   | true=>exact .inl ⟨l,xs,i,v,rfl,rfl,dR,h1,fin⟩
   | false=>exact .inr (.inl ⟨l,xs,i,v,rfl,rfl,dR,h1,fin⟩)
 | _=>rw [hd] at e3;cases e3
end
noncomputable def LIM:Int:=10^250
theorem b6B(h1:-LIM<=j)(h2:j<=LIM):j.natAbs<2^900:=by
 have e:LIM<(2:Int)^900:=by unfold LIM;decide +kernel
 have e2:((2:Int)^900)=((2^900:Nat):Int):=by simp
 generalize (2^900:Nat)=m at *
 generalize LIM=l at *
 omega
theorem Q2(h1:-LIM<=j)(h2:j<=LIM):j.natAbs.log2<900:=by
 rcases Nat.eq_zero_or_pos j.natAbs with h0 | hp
 .rw [h0];decide
 .exact (DA (vo hp)).mpr (b6B h1 h2)
theorem Lq(h1:-LIM<=j)(h2:j<=LIM):Jj j<=900:=by
 have:=Q2 h1 h2
 unfold Jj
 split<;>lia
def MulC(i j:Int):Prop:=(-(2^64)<i/\i<2^64)\/(-(2^64)<j/\j<2^64)\/((-LIM<=i/\i<=LIM)/\(-LIM<=j/\j<=LIM))
noncomputable instance (i j:Int):Decidable (MulC i j):=by unfold MulC;infer_instance
theorem MulC.ok(h:MulC i j):IntMulOk i j:=by
 rcases h with ⟨h1,h2⟩ | ⟨h1,h2⟩ | ⟨⟨h1,h2⟩,h3,h4⟩
 .exact .of_left (DT h1 h2)
 .exact .of_right (DT h1 h2)
 .exact mulOk_of_bits (Lq h1 h2) (Lq h3 h4) (by decide)
def DivC(_ j:Int):Prop:=0<j/\j<=LIM
noncomputable instance (i j:Int):Decidable (DivC i j):=by unfold DivC;infer_instance
def sC(_ j:Int):Prop:=0<j
noncomputable instance (i j:Int):Decidable (sC i j):=by unfold sC;infer_instance
def PowC(i j:Int):Prop:=0<=j/\j<=1000000/\i.natAbs<2^64
noncomputable instance (i j:Int):Decidable (PowC i j):=by unfold PowC;infer_instance
noncomputable def gI(C:Int->Int->Prop)[∀i j,Decidable (C i j)](h:Int->Int->Int):D->D->Option Sl
 | .int i,.int j=>if C i j then some (.sh (.int (h i j))) else none
 | _,_=>none
noncomputable def gB(h:Int->Int->Bool):D->D->Option Sl
 | .int i,.int j=>some (.sh (.bl (h i j)))
 | _,_=>none
section
variable {X:Cx}
theorem xw{f:Value->Value->Sem Value}{C:Int->Int->Prop}[∀i j,Decidable (C i j)]{h:Int->Int->Int}(ho:fW X f (rI C λi j=>.int (h i j))):g9 X f (gI C h):=by
 refine ⟨_,ho,λO H x y a b s Q hO hx hy e q=>?_⟩
 cases a with
 | int i=>cases b with
  | int j =>
   obtain ⟨hc,rfl⟩:=iG (show (if C i j then some (Sl.sh (.int (h i j))) else none)=some s from e)
   exact ⟨i,j,gZ hx,gZ hy,hc,q _ H (aq.refl _) (Is.int _)⟩
  | _=>cases e
 | _=>cases e
theorem EH(ho:fW X f (sM λi j=>.bl (h i j))):g9 X f (gB h):=by
 refine ⟨_,ho,λO H x y a b s Q hO hx hy e q=>?_⟩
 cases a with
 | int i=>cases b with
  | int j =>
   obtain rfl:=dj (show some (Sl.sh (.bl (h i j)))=some s from e)
   exact ⟨i,j,gZ hx,gZ hy,q _ H (aq.refl _) (Is.bl _)⟩
  | _=>cases e
 | _=>cases e
noncomputable def dF:D->D->Option Sl:=gI MulC λi j=>i*j
noncomputable def cU:D->D->Option Sl:=gI DivC λi j=>i/j
noncomputable def bA:D->D->Option Sl:=gI sC λi j=>i%j
noncomputable def eJ:D->D->Option Sl:=gI PowC λi j=>i^j.toNat
noncomputable def aP:D->D->Option Sl:=gI (λ_ _=>True) λi j=>i-j
noncomputable def gn:D->D->Option Sl:=gB λi j=>decide (i<j)
noncomputable def oQ:D->D->Option Sl:=gB λi j=>decide (i<=j)
noncomputable def nY:D->D->Option Sl:=gB λi j=>decide (j<i)
noncomputable def Il:D->D->Option Sl:=gB λi j=>decide (j<=i)
theorem k0:g9 X (binaryOp .Mult) dF:=xw (uF λ_ _ _ _ _ _ _ (hc:MulC _ _) q=>mul_int q hc.ok)
theorem jv:g9 X (binaryOp .FloorDiv) cU:=xw (uF λi j _ _ _ _ _ (hc:DivC i j) q=>by
 have h1:(0:Int)<j:=hc.1
 have h2:=Q2 (j:=j) (by have:(0:Int)<=LIM:=(by decide +kernel);ext h1 this) hc.2
 exact floordiv_int (by ext h1) (by rw [Int.fdiv_eq_ediv_of_nonneg i (by ext h1)];exact q) (.inl (PyProof.noPylong_of_log2 (eQ ‹_› (by decide)))))
theorem fE:g9 X (binaryOp .Mod) bA:=xw (uF λi j _ _ _ _ _ (hc:sC i j) q=>by
 have h1:(0:Int)<j:=hc
 exact mod_int' (by ext h1) (by rw [Int.fmod_eq_emod_of_nonneg i (by ext h1)];exact q))
theorem my:g9 X (binaryOp .Pow) eJ:=xw (uF λ_ _ _ _ _ _ _ (hc:PowC _ _) q=>pow_int_small hc.1 hc.2.1 hc.2.2 q)
theorem dz:g9 X (binaryOp .Sub) aP:=xw (uF λ_ _ _ _ _ _ _ _ q=>sub_int q)
theorem iE:g9 X (compareOp .Lt) gn:=EH y6
theorem qG:g9 X (compareOp .LtE) oQ:=EH y7
theorem pZ:g9 X (compareOp .Gt) nY:=EH y8
theorem zd:g9 X (compareOp .GtE) Il:=EH y9
noncomputable def be:D->D->Option Sl
 | .int i,.int j=>some (.sh (.int (i+j)))
 | .lst false a,.lst false b=>if a.length+b.length<=16777216 then some (.ow (a++b)) else none
 | .tup a,.tup b=>if a.length+b.length<=16777216 then some (.sh (.tup (a++b))) else none
 | .str a,.str b=>if a.length+b.length<=16777216 then some (.sh (.str (a++b))) else none
 | _,_=>none
theorem vR{K:aJ}{O:Addr->Prop}{H:Hp}{v:V}{ds:List D}(h:Is K O H v (.tup ds)):∃p xs,v=.ref p/\dN K H p xs/\aK K O H xs ds:=by
 obtain ⟨p,xs,e,h1,h2⟩:=h.seq (k:=false) rfl
 exact ⟨p,xs,e,h1,h2⟩
theorem Kb{K:aJ}{O:Addr->Prop}{H:Hp}{v:V}{ds:List D}(h:Is K O H v (.lst false ds)):∃p xs,v=.ref p/\¬O p/\H p=some (.lst xs)/\aK K O H xs ds:=by
 cases h with
 | lst ho hp hs=>exact ⟨_,_,rfl,ho,hp,hs⟩
theorem aK.eO{K:aJ}{O:Addr->Prop}{H:Hp}{xs:List V}{ds:List D}(h:aK K O H xs ds):xs=[]↔ds=[]:=by cases h<;>simp
theorem Sk{α:Type}{c:Prop}{d:Decidable c}{x y:α}(h:(@ite _ c d (some x) none)=some y):c/\x=y:=iG h
theorem eS:g9 X (binaryOp .Add) be:=by
 refine ⟨_,uE.or (uD.or (qY.or (lZ.or b6r))),λO H x y a b s Q hO hx hy e q=>?_⟩
 cases a with
 | int i=>cases b with
  | int j =>
   obtain rfl:=dj (show some (Sl.sh (.int (i+j)))=some s from e)
   exact .inl ⟨i,j,gZ hx,gZ hy,q _ H (aq.refl _) (Is.int _)⟩
  | _=>cases e
 | lst r a=>cases r with
  | true=>cases b<;>cases e
  | false=>cases b with
   | lst r b=>cases r with
    | true=>cases e
    | false =>
     obtain ⟨hl,rfl⟩:=iG (show (if a.length+b.length<=16777216 then some (Sl.ow (a++b)) else none)=some s from e)
     obtain ⟨p1,xs,rfl,_,h1,i1⟩:=Kb hx
     obtain ⟨p2,ys,rfl,_,h2,i2⟩:=Kb hy
     exact .inr (.inl ⟨p1,p2,xs,ys,rfl,rfl,h1,h2,by rw [i1.length,i2.length,iY];exact hl,λp hp=>q _ _ (o5 hp _) (xH hp (i1.append i2))⟩)
   | _=>cases e
 | tup a=>cases b with
  | tup b =>
   obtain ⟨hl,rfl⟩:=Sk (show (if a.length+b.length<=16777216 then some (Sl.sh (.tup (a++b))) else none)=some s from e)
   obtain ⟨p1,xs,rfl,h1,i1⟩:=vR hx
   obtain ⟨p2,ys,rfl,h2,i2⟩:=vR hy
   by_cases h0:a=[]
   .subst h0
    cases i1
    exact .inr (.inr (.inr (.inr ⟨p1,p2,ys,rfl,rfl,h1,h2,q _ H (aq.refl _) hy⟩)))
   refine .inr (.inr (.inl ⟨p1,p2,xs,ys,rfl,rfl,h1,h2,λz=>h0 (i1.eO.mp z),by rw [i1.length,i2.length,iY];exact hl,λz=>?_,λz p hp=>q _ _ (o5 hp _) (E2 hO hp (i1.append i2))⟩))
   have z':=i2.eO.mp z
   subst z'
   rw [nk] at q
   exact q _ H (aq.refl _) hx
  | _=>cases e
 | str a=>cases b with
  | str b =>
   obtain ⟨hl,rfl⟩:=iG (show (if a.length+b.length<=16777216 then some (Sl.sh (.str (a++b))) else none)=some s from e)
   exact .inr (.inr (.inr (.inl ⟨a,b,Kd hx,Kd hy,by rw [iY];exact hl,q _ H (aq.refl _) (Is.str _)⟩)))
  | _=>cases e
 | _=>cases e
theorem map_some{α β:Type}{o:Option α}{f:α->β}{b:β}(h:o.map f=some b):∃a,o=some a/\f a=b:=by
 cases o with
 | none=>cases h
 | some a=>exact ⟨a,rfl,dj h⟩
noncomputable def D.cR:D->Bool
 | .aR=>true
 | _=>false
theorem QL{K:aJ}{O:Addr->Prop}{H:Hp}{x:V}{a:D}(hx:Is K O H x a):decide (x=.aR)=a.cR:=by
 cases hx<;>simp [D.cR]
noncomputable def iB:D->D->Option Sl:=λa b=>if b.cR=true then some (.sh (.bl a.cR)) else none
noncomputable def Eu:D->D->Option Sl:=λa b=>if b.cR=true then some (.sh (.bl !a.cR)) else none
theorem Rp{b:D}(h:b.cR=true):b=.aR:=by cases b<;>first | rfl | cases h
theorem rZ:g9 X (compareOp .Is) iB:=by
 refine ⟨_,b8p,λO H x y a b s Q hO hx hy e q=>?_⟩
 obtain ⟨hb,rfl⟩:=iG e
 rw [Rp hb] at hy
 exact ⟨Kc hy,by rw [QL hx];exact q _ H (aq.refl _) (Is.bl _)⟩
theorem Q7:g9 X (compareOp .IsNot) Eu:=by
 refine ⟨_,b6q,λO H x y a b s Q hO hx hy e q=>?_⟩
 obtain ⟨hb,rfl⟩:=iG e
 rw [Rp hb] at hy
 exact ⟨Kc hy,by rw [QL hx];exact q _ H (aq.refl _) (Is.bl _)⟩
end
section
variable {X:Cx}{a b c:Expr}{pos p:Pos}{fa fb:En->Option Sl}{es:List Expr}{e:Expr}
def JN(X:Cx)(f:Value)(g:List D->Option Sl):Prop:=
 ∃r:List V->Hp->VK->Prop,oY X f r/\∀(O:Addr->Prop) (H:Hp) (xs:List V) (ds:List D) (s:Sl) (Q:VK),(∀q,O q->H q≠none)->aK X.K O H xs ds->g ds=some s ->
  (∀v H',aq H H'->Res X.K O H H' v s->Q v H')->r xs H Q
noncomputable def p9(g:List D->Option Sl)(fs:En->Option (List D)):En->Option Sl:=λenv=>(fs env).bind g
theorem sd{id:String}{x:Str}{g:List D->Option Sl}{fs:En->Option (List D)}(hc:JN X (.builtin id) g)(hg:Gl X x)(hm:X.mg x=none)(hv:bootBuiltins x=some (.builtin id))(ha:AV X (e::es) fs)(hn:x ≠ "__name__":=by decide)(kG:(x==("__debug__":Str))=false:=by decide)
  (he:starEach (e::es) X.env=(false,eval e X.env)::starEach es X.env:=by rfl)(dk:(backTo pos (starEach es X.env)).any (·.1)=false:=by rfl):
  EV X (.Call (.Name x p) (e::es) [] pos) (p9 g fs):=by
 obtain ⟨r,hr,HS⟩:=hc
 obtain ⟨t,pt,k⟩:=ha
 refine ⟨_,xK hr hg hm hv pt hn kG he dk,λO B σ H env s Q R e q=>?_⟩
 obtain ⟨ds,e1,e2⟩:=bind_some e
 refine k O B σ H env ds _ R e1 λvs H1 s1 r1=>?_
 exact HS (OO O σ env) H1 vs ds s Q (λq=>(R.grow s1).oo) r1 e2 λv H2 s2 r2=>q v H2 (s1.trans s2) (r2.from s1)
noncomputable def vO:List D->Option Sl
 | [.int i,.int j]=>some (.sh (.int (if j<i then j else i)))
 | _=>none
noncomputable def tX:List D->Option Sl
 | [.int i,.int j]=>some (.sh (.int (if j>i then j else i)))
 | _=>none
theorem LF{K:aJ}{O:Addr->Prop}{H:Hp}{xs:List V}{i j:Int}(h:aK K O H xs [.int i,.int j]):xs=[.int i,.int j]:=by
 cases h with
 | cons h t=>cases t with
  | cons h' t=>cases t;rw [gZ h,gZ h']
theorem EM{g:Int->Int->Option Sl}{ds:List D}{s:Sl}(e:(match ds with | [.int i,.int j]=>g i j | _=>none)=some s):∃i j,ds=[.int i,.int j]/\g i j=some s:=by
 split at e
 .exact ⟨_,_,rfl,e⟩
 .cases e
theorem E6(hc:X.calm=true):JN X (.builtin "min") vO:=by
 refine ⟨_,b20 hc,λO H xs ds s Q hO h e q=>?_⟩
 obtain ⟨i,j,rfl,e⟩:=EM (g:=λi j=>some (.sh (.int (if j<i then j else i)))) e
 obtain rfl:=dj e
 exact ⟨i,j,LF h,q _ H (aq.refl _) (Is.int _)⟩
theorem BQ(hc:X.calm=true):JN X (.builtin "max") tX:=by
 refine ⟨_,b22 hc,λO H xs ds s Q hO h e q=>?_⟩
 obtain ⟨i,j,rfl,e⟩:=EM (g:=λi j=>some (.sh (.int (if j>i then j else i)))) e
 obtain rfl:=dj e
 exact ⟨i,j,LF h,q _ H (aq.refl _) (Is.int _)⟩
noncomputable def bK(f:En->Option (Bool×List D)):En->Option Sl:=λenv=>(f env).map λx=>.sh (.int x.2.length)
noncomputable def Bq(f:En->Option (Bool×List D)):En->Option Sl:=λenv=>(f env).map λx=>.ow x.2
noncomputable def BM(f:En->Option (Bool×List D)):En->Option Sl:=λenv=>(f env).bind λx=>if x.1=true then some (.sh (.tup x.2)) else none
variable {ba:En->Option (Bool×List D)}
theorem gx(hg:Gl X "len")(hm:X.mg "len" = none)(ha:BV X a ba)(hs:starEach [a] X.env=[(false,eval a X.env)]:=by rfl):EV X (.Call (.Name "len" p) [a] [] pos) (bK ba):=by
 obtain ⟨t,pt,k⟩:=ha
 refine ⟨_,xK a80 hg hm PySem.boot_len (qJ pt qI hs) (by decide) (by decide) hs rfl,λO B σ H env s Q R e q=>?_⟩
 obtain ⟨⟨kk,ds⟩,e1,rfl⟩:=map_some e
 refine k O B σ H env kk ds _ R e1 λl xs H1 s1 hq hx=>⟨l,xs,rfl,?_,?_⟩
 .cases kk with
  | true=>exact .inl hq
  | false=>exact .inr hq
 .rw [hx.length]
  exact q _ H1 s1 (Is.int _)
theorem KC(hg:Gl X "list")(hm:X.mg "list" = none)(ha:BV X a ba)(hs:starEach [a] X.env=[(false,eval a X.env)]:=by rfl):EV X (.Call (.Name "list" p) [a] [] pos) (Bq ba):=by
 obtain ⟨t,pt,k⟩:=ha
 refine ⟨_,RS a8Z hg hm (by decide +kernel) (qJ pt qI hs) (by decide) (by decide) hs rfl,λO B σ H env s Q R e q=>?_⟩
 obtain ⟨⟨kk,ds⟩,e1,rfl⟩:=map_some e
 refine k O B σ H env kk ds _ R e1 λl xs H1 s1 hq hx=>⟨l,xs,rfl,?_,λp hp=>?_⟩
 .cases kk with
  | true=>exact .inl hq
  | false=>exact .inr hq
 .exact q _ _ (s1.trans (o5 hp _)) ((xH hp hx).from s1)
theorem Rm(hg:Gl X "tuple")(hm:X.mg "tuple" = none)(ha:BV X a ba)(hs:starEach [a] X.env=[(false,eval a X.env)]:=by rfl):EV X (.Call (.Name "tuple" p) [a] [] pos) (BM ba):=by
 obtain ⟨t,pt,k⟩:=ha
 refine ⟨_,RS a73 hg hm (by decide +kernel) (qJ pt qI hs) (by decide) (by decide) hs rfl,λO B σ H env s Q R e q=>?_⟩
 obtain ⟨⟨kk,ds⟩,e1,e2⟩:=bind_some e
 obtain ⟨h1,rfl⟩:=iG e2
 refine k O B σ H env kk ds _ R e1 λl xs H1 s1 hq hx=>⟨l,xs,rfl,?_⟩
 cases (show kk=true from h1)
 exact .inl ⟨hq,λp hp=>q _ _ (s1.trans (o5 hp _)) ((E2 (O:=OO O σ env) (H:=H1) (λ_ z=>(R.grow s1).oo z) hp hx).from s1)⟩
end
section
variable {K:aJ}{O:Addr->Prop}{B H H1:Hp}{σ:L2.St}{env:En}{v:V}{r:Sl}{i:Nat}
theorem b6o(h:mL (σ.set i (some v)) (env.set i r) q):mL σ env q\/(r.own/\v=.ref q):=by
 obtain ⟨j,t,h1,ho,h2⟩:=h
 by_cases hj:i=j
 .subst hj
  rw [List.getElem?_set] at h1 h2
  rw [if_pos rfl] at h1 h2
  split at h1
  .cases h1
   split at h2
   .cases h2;exact .inr ⟨ho,rfl⟩
   .cases h2
  .cases h1
 .rw [gW hj] at h1 h2
  exact .inl ⟨j,t,h1,ho,h2⟩
theorem Res.fresh(h:Res K O B H v r)(ho:r.own):∃p,v=.ref p/\B p=none/\H p≠none:=by
 cases r with
 | no=>exact ho.elim
 | sh d=>exact ho.elim
 | ow ds=>obtain ⟨p,xs,e1,e2,e3,_⟩:=h;exact ⟨p,e1,e2,by rw [e3];exact λz=>nomatch z⟩
 | dw bB=>obtain ⟨p,e1,e2,e3⟩:=h;exact ⟨p,e1,e2,by rw [e3];exact λz=>nomatch z⟩
theorem Rel.set(R:Rel K O B σ H env)(s:aq H H1)(h:Res K (OO O σ env) H H1 v r)(hi:i<env.length):
  Rel K O B (σ.set i (some v)) H1 (env.set i r)/\Gd σ env H (σ.set i (some v)) (env.set i r) H1:=by
 have new:∀q,mL (σ.set i (some v)) (env.set i r) q->mL σ env q\/(H q=none/\r.own/\v=.ref q):=λq z=>by
  rcases b6o z with z | ⟨ho,rfl⟩
  .exact .inl z
  .obtain ⟨p,e1,e2,_⟩:=h.fresh ho
   cases e1
   exact .inr ⟨e2,ho,rfl⟩
 have hO:∀q,H q≠none->¬OO O σ env q->¬OO O (σ.set i (some v)) (env.set i r) q:=λq hq hn z=>by
  rcases z with z | z
  .exact hn (.inl z)
  .rcases new q z with z | ⟨z,_⟩
   .exact hn (.inr z)
   .exact hq z
 have hH:∀q u,H q=some u->¬OO O σ env q->H1 q=some u:=λq u e _=>s q u e
 have kE:i<σ.length:=by rw [R.len];exact hi
 refine ⟨⟨R.same.trans s,R.nZ,by simp [R.len],λj d e=>?_,λj ds e=>?_,λj bB e=>?_,λj k ds es p e1 e2 e3 e4 o1 o2=>?_⟩,λq u e n=>⟨s q u e,λz=>?_⟩⟩
 .by_cases hj:i=j
  .subst hj
   rw [jt hi] at e
   cases e
   refine ⟨v,by rw [jt kE],Is.less (O:=OO O σ env) (λq z=>z.elim .inl λz=>?_) h⟩
   rcases new q z with z | ⟨_,z,_⟩
   .exact .inr z
   .exact z.elim
  .rw [gW hj] at e
   obtain ⟨w,e1,h1⟩:=R.sh j d e
   exact ⟨w,by rw [gW hj];exact e1,h1.map hO hH⟩
 .by_cases hj:i=j
  .subst hj
   rw [jt hi] at e
   cases e
   obtain ⟨p,xs,rfl,e2,e3,h1⟩:=h
   refine ⟨p,xs,by rw [jt kE],R.same.free e2,e3,h1.less λq z=>?_⟩
   rcases z with z | z
   .exact .inl (.inl z)
   .rcases new q z with z | ⟨_,_,z⟩
    .exact .inl (.inr z)
    .cases z;exact .inr rfl
  .rw [gW hj] at e
   obtain ⟨p,xs,e1,e2,e3,h1⟩:=R.ow j ds e
   exact ⟨p,xs,by rw [gW hj];exact e1,e2,s _ _ e3,h1.map hO hH⟩
 .by_cases hj:i=j
  .subst hj
   rw [jt hi] at e
   cases e
   obtain ⟨p,rfl,e2,e3⟩:=h
   exact ⟨p,by rw [jt kE],R.same.free e2,e3⟩
  .rw [gW hj] at e
   obtain ⟨p,e1,e2,e3⟩:=R.dw j bB e
   exact ⟨p,by rw [gW hj];exact e1,e2,s _ _ e3⟩
 .have other:∀j t,j≠i->env[j]?=some t->t.own->σ[j]?=some (some (V.ref p))->r.own->v≠.ref p:=λj t hj e ho e' hr z=>by
   obtain ⟨p',rfl,e2,_⟩:=h.fresh hr
   cases z
   obtain ⟨p2,u,e5,_,e6⟩:=R.ad e ho
   rw [e'] at e5
   cases e5
   rw [e2] at e6
   cases e6
  by_cases hj:i=j
  .by_cases hk:i=k
   .rw [<-hj,<-hk]
   .subst hj
    rw [jt hi] at e1
    rw [jt kE] at e3
    rw [gW hk] at e2 e4
    cases e1
    cases e3
    exact absurd rfl (other k es (fH hk) e2 o2 e4 o1)
  .by_cases hk:i=k
   .subst hk
    rw [jt hi] at e2
    rw [jt kE] at e4
    rw [gW hj] at e1 e3
    cases e2
    cases e4
    exact absurd rfl (other j ds (fH hj) e1 o1 e3 o2)
   .rw [gW hj] at e1 e3
    rw [gW hk] at e2 e4
    exact R.sep j k ds es p e1 e2 e3 e4 o1 o2
 .rcases new q z with z | ⟨z,_⟩
  .exact n z
  .rw [e] at z;cases z
theorem Rel.T2{p:Addr}{u':HO}{t t':Sl}(R:Rel K O B σ H env)(he:env[i]?=some t)(ho:t.own)(jD:t'.own)(hs:σ[i]?=some (some (V.ref p)))
  (hx:(∀gp,t'=.ow gp->∃jx,u'=.lst jx/\aK K (OO O σ env) H jx gp)/\∀zA,t'=.dw zA->u'=IC zA):
  Rel K O B σ (upd H p u') (env.set i t')/\Gd σ env H σ (env.set i t') (upd H p u'):=by
 have hi:i<env.length:=(gH.mp he).1
 have own:∀q,mL σ (env.set i t') q->mL σ env q:=λq ⟨j,es,e1,e3,e2⟩=>by
  by_cases hj:i=j
  .subst hj;exact ⟨i,t,he,ho,e2⟩
  .rw [gW hj] at e1;exact ⟨j,es,e1,e3,e2⟩
 have y4:mL σ env p:=⟨i,t,he,ho,hs⟩
 obtain ⟨p0,u0,f1,f2,f3⟩:=R.ad he ho
 rw [hs] at f1
 cases f1
 have hO:∀q,H q≠none->¬OO O σ env q->¬OO O σ (env.set i t') q:=λq _ hn z=>hn (z.elim .inl λz=>.inr (own q z))
 have hH:∀q u,H q=some u->¬OO O σ env q->upd H p u' q=some u:=λq u e n=>by
  rw [df (λz=>n (.inr (by rw [z];exact y4)))]
  exact e
 refine ⟨⟨λq u e=>?_,R.nZ,by simp [R.len],λj d e=>?_,λj es e=>?_,λj bB e=>?_,λj k es fs q e1 e2 e3 e4 o1 o2=>?_⟩,λq u e n=>⟨?_,λz=>n (own q z)⟩⟩
 .rw [df (qe e f2)];exact R.same q u e
 .by_cases hj:i=j
  .subst hj;rw [jt hi] at e;cases e;exact jD.elim
  .rw [gW hj] at e
   obtain ⟨w,e1,h1⟩:=R.sh j d e
   exact ⟨w,e1,h1.map hO hH⟩
 .by_cases hj:i=j
  .subst hj
   rw [jt hi] at e
   cases e
   obtain ⟨jx,hu,jZ⟩:=hx.1 _ rfl
   exact ⟨p,jx,hs,f2,by rw [qd,hu],jZ.map hO hH⟩
  .rw [gW hj] at e
   obtain ⟨p2,Gb,e1,e2,e3,h1⟩:=R.ow j es e
   refine ⟨p2,Gb,e1,e2,?_,h1.map hO hH⟩
   rw [df (λz=>hj (R.sep i j t _ p he e hs (by rw [e1,z]) ho trivial))]
   exact e3
 .by_cases hj:i=j
  .subst hj
   rw [jt hi] at e
   cases e
   exact ⟨p,hs,f2,by rw [qd,hx.2 _ rfl]⟩
  .rw [gW hj] at e
   obtain ⟨p2,e1,e2,e3⟩:=R.dw j bB e
   refine ⟨p2,e1,e2,?_⟩
   rw [df (λz=>hj (R.sep i j t _ p he e hs (by rw [e1,z]) ho trivial))]
   exact e3
 .have fix:∀(j:Nat) (es:Sl),(env.set i t')[j]?=some es->es.own->∃gs:Sl,env[j]?=some gs/\gs.own:=λj es e o=>by
   by_cases hj:i=j
   .subst hj;exact ⟨t,he,ho⟩
   .rw [gW hj] at e;exact ⟨es,e,o⟩
  obtain ⟨g1,h1,q1⟩:=fix j es e1 o1
  obtain ⟨g2,h2,q2⟩:=fix k fs e2 o2
  exact R.sep j k g1 g2 q h1 h2 e3 e4 q1 q2
 .rw [df (λz=>n (by rw [z];exact y4))];exact e
theorem Rel.wr(R:Rel K O B σ H env)(he:env[i]?=some (Sl.ow ds))(hs:σ[i]?=some (some (V.ref p)))(hx:aK K (OO O σ env) H jx gp):
  Rel K O B σ (upd H p (.lst jx)) (env.set i (.ow gp))/\Gd σ env H σ (env.set i (.ow gp)) (upd H p (.lst jx)):=
 R.T2 (t':=.ow gp) he trivial trivial hs (c4T (λ_ e=>by cases e;exact ⟨jx,rfl,hx⟩) λ_ e=>nomatch e)
theorem Rel.AG{t:Sl}(R:Rel K O B σ H env)(he:env[i]?=some t)(ho:t.own):Rel K O B σ H (env.set i (.sh t.d))/\Gd σ env H σ (env.set i (.sh t.d)) H:=by
 have hi:i<env.length:=(gH.mp he).1
 obtain ⟨p,u0,f1,f2,f3⟩:=R.ad he ho
 have own:∀q,mL σ (env.set i (.sh t.d)) q->mL σ env q/\q≠p:=λq ⟨j,es,e1,o,e2⟩=>by
  by_cases hj:i=j
  .subst hj;rw [jt hi] at e1;cases e1;exact o.elim
  .rw [gW hj] at e1
   exact ⟨⟨j,es,e1,o,e2⟩,λz=>hj (R.sep i j t es p he e1 f1 (by rw [e2,z]) ho o)⟩
 have less:∀q,OO O σ (env.set i (.sh t.d)) q->OO O σ env q:=λq z=>z.elim .inl λz=>.inr (own q z).1
 have np:¬OO O σ (env.set i (.sh t.d)) p:=λz=>z.elim (λz=>R.nZ.1 p z f2) λz=>(own p z).2 rfl
 refine ⟨⟨R.same,R.nZ,by simp [R.len],λj d e=>?_,λj es e=>?_,λj bB e=>?_,λj k es fs q e1 e2 e3 e4 o1 o2=>?_⟩,λq u e n=>⟨e,λz=>n (own q z).1⟩⟩
 .by_cases hj:i=j
  .subst hj
   rw [jt hi] at e
   cases e
   refine ⟨.ref p,f1,?_⟩
   cases t with
   | no=>exact ho.elim
   | sh d=>exact ho.elim
   | ow ds =>
    obtain ⟨p',xs,g1,g2,g3,g4⟩:=R.ow i ds he
    rw [f1] at g1;cases g1
    exact .lst np g3 (g4.less less)
   | dw bB =>
    obtain ⟨p',g1,g2,g3⟩:=R.dw i bB he
    rw [f1] at g1;cases g1
    exact .fx np g3
  .rw [gW hj] at e
   obtain ⟨w,e1,h1⟩:=R.sh j d e
   exact ⟨w,e1,h1.less less⟩
 .by_cases hj:i=j
  .subst hj;rw [jt hi] at e;cases e
  .rw [gW hj] at e
   obtain ⟨p2,Gb,e1,e2,e3,h1⟩:=R.ow j es e
   exact ⟨p2,Gb,e1,e2,e3,h1.less less⟩
 .by_cases hj:i=j
  .subst hj;rw [jt hi] at e;cases e
  .rw [gW hj] at e
   exact R.dw j bB e
 .have fix:∀(j:Nat) (es:Sl),(env.set i (.sh t.d))[j]?=some es->es.own->env[j]?=some es:=λj es e o=>by
   by_cases hj:i=j
   .subst hj;rw [jt hi] at e;cases e;exact o.elim
   .rw [gW hj] at e;exact e
  exact R.sep j k es fs q (fix j es e1 o1) (fix k fs e2 o2) e3 e4 o1 o2
theorem Rel.kJ(R:Rel K O B σ H env)(he:env[i]?=some (Sl.ow ds)):Rel K O B σ H (env.set i (.sh (.lst false ds)))/\Gd σ env H σ (env.set i (.sh (.lst false ds))) H:=R.AG he trivial
end
section
variable {X:Cx}{st:Stmt}{rest:List Stmt}{F G:SF}{a b c e:Expr}{fa:En->Option Sl}{ga:En->Option Bool}{pos:Pos}
noncomputable def cQ:SF:=λenv=>some (.nx,env)
noncomputable def Gw:SF:=λenv=>some (.bk,env)
noncomputable def ag(F G:SF):SF:=λenv=>match F env with
 | some (.nx,bM)=>G bM
 | r=>r
theorem dA:nE X [] cQ:=⟨_,b6c,λO B σ H env fl ai D R e q=>by
 cases (show some (Fl.nx,env)=some (fl,ai) from e)
 exact q σ H R (Gd.refl (aq.refl _))⟩
theorem aF(h:SV X st F):nE X [st] F:=let ⟨t,p,k⟩:=h;⟨t,b6b p,k⟩
theorem aD(h:SV X st F)(h2:nE X rest G):nE X (st::rest) (ag F G):=by
 obtain ⟨t,p,k⟩:=h
 obtain ⟨u,p',k'⟩:=h2
 refine ⟨_,b3S p p',λO B σ H env fl ai D R e q=>?_⟩
 unfold ag at e
 cases hF:F env with
 | none=>rw [hF] at e;cases e
 | some x =>
  obtain ⟨f1,bM⟩:=x
  rw [hF] at e
  refine k O B σ H env f1 bM _ R hF ?_
  cases f1 with
  | nx=>exact λaI H' R' g'=>k' O B aI H' bM fl ai D R' e (q.from g')
  | bk=>cases e;exact q
  | ct=>cases e;exact q
  | rt r=>cases e;exact q
theorem b3B:SV X (.Break pos) Gw:=⟨_,b3U,λO B σ H env fl ai D R e q=>by
 cases (show some (Fl.bk,env)=some (fl,ai) from e)
 exact q σ H R (Gd.refl (aq.refl _))⟩
noncomputable def cj(c:En->Option Bool)(F G:SF):SF:=λenv=>match c env with
 | some true=>F env
 | some false=>G env
 | none=>none
theorem cY(hc:TV X c ga)(ha:nE X sa F)(hb:nE X sb G):SV X (.If c sa sb pos) (cj ga F G):=by
 obtain ⟨tc,pc,kc⟩:=hc
 obtain ⟨t,p,k⟩:=ha
 obtain ⟨u,p',k'⟩:=hb
 refine ⟨_,yS pc p p',λO B σ H env fl ai D R e q=>?_⟩
 unfold cj at e
 cases h:ga env with
 | none=>rw [h] at e;cases e
 | some x =>
  rw [h] at e
  refine kc O B σ H env x _ R h λH1 s1=>?_
  cases x with
  | true =>
   rw [if_pos rfl]
   exact k O B σ H1 env fl ai D (R.grow s1) e (q.from (Gd.refl s1))
  | false =>
   rw [if_neg nh]
   exact k' O B σ H1 env fl ai D (R.grow s1) e (q.from (Gd.refl s1))
noncomputable def av(f:En->Option Sl):SF:=λenv=>(f env).map λr=>(.rt r,env)
theorem bp(h:EV X e fa):SV X (.Return (some e) pos) (av fa):=by
 obtain ⟨t,p,k⟩:=h
 refine ⟨_,Qd p,λO B σ H env fl ai D R e q=>?_⟩
 obtain ⟨r,e1,e2⟩:=map_some e
 cases e2
 exact k O B σ H env r _ R e1 λv H1 s1 r1=>q v H1 (R.same.trans s1) ((r1.from R.same).less λq z=>.inl z)
noncomputable def j6(i:Nat):SF:=λenv=>match env[i]? with
 | some (.ow ds)=>some (.rt (.ow ds),env)
 | some (.dw ds)=>some (.rt (.dw ds),env)
 | some (.sh d)=>some (.rt (.sh d),env)
 | _=>none
theorem b50(i:Nat){x:Str}{p2:Pos}(hN:X.N[i]?=some x:=by rfl)(hv:jV X.env.scope x:=by first | exact di rfl | exact bX (di rfl) | exact bX (bX rfl))(hd:(x==("__debug__":Str))=false:=by decide)
  (eH:(x==("__classdict__":Str))=false:=by decide):SV X (.Return (some (.Name x p2)) pos) (j6 i):=by
 refine ⟨_,Qd (vT hN hv hd eH),λO B σ H env fl ai D R e q=>?_⟩
 unfold j6 at e
 cases h:env[i]? with
 | none=>rw [h] at e;cases e
 | some s =>
  rw [h] at e
  cases s with
  | no=>cases e
  | sh d =>
   cases e
   obtain ⟨v,e2,hv⟩:=R.sh i d h
   exact ⟨v,e2,q v H R.same (Is.less (λq z=>.inl z) hv)⟩
  | ow ds =>
   cases e
   obtain ⟨p,xs,e1,e2,e3,h1⟩:=R.ow i ds h
   exact ⟨_,e1,q _ H R.same ⟨p,xs,rfl,e2,e3,h1.less λq z=>z.elim .inl λz=>.inr ⟨i,.ow ds,h,trivial,by rw [z];exact e1⟩⟩⟩
  | dw bB =>
   cases e
   obtain ⟨p,e1,e2,e3⟩:=R.dw i bB h
   exact ⟨_,e1,q _ H R.same ⟨p,rfl,e2,e3⟩⟩
noncomputable def cP(i:Nat)(f:En->Option Sl):SF:=λenv=>(f env).bind λr=>if i<env.length then some (.nx,env.set i r) else none
theorem b7Y(hN:X.N.Nodup)(hi:X.N[i]?=some x)(hx:Loc X.env.scope x)(he:EV X e fa)(hs:swapsWith e (some (.Name x pos')) pos.line X.env=pure false:=by rfl)(hf:X.fn x=true\/X.env.scope.names.lookup x=some .local:=by first | exact .inl rfl | exact .inr rfl | assumption):
  SV X (.Assign [.Name x pos'] e pos) (cP i fa):=by
 obtain ⟨t,p,k⟩:=he
 refine ⟨_,Ku hN hi hx p hs hf,λO B σ H env fl ai D R e q=>?_⟩
 obtain ⟨r,e1,e2⟩:=bind_some e
 obtain ⟨hl,e3⟩:=iG e2
 cases e3
 refine k O B σ H env r _ R e1 λv H1 s1 r1=>?_
 obtain ⟨R',g'⟩:=R.set s1 r1 hl
 exact q _ H1 R' g'
noncomputable def aS(i:Nat)(f:En->Option Sl):SF:=λenv=>(f env).bind λr=>if i<env.length then some (.nx,env.set i (.sh r.d)) else none
theorem b5Z(hN:X.N.Nodup)(hi:X.N[i]?=some x)(hx:Loc X.env.scope x)(he:EV X e fa)(hs:swapsWith e (some (.Name x pos')) pos.line X.env=pure false:=by rfl)(hf:X.fn x=true\/X.env.scope.names.lookup x=some .local:=by first | exact .inl rfl | exact .inr rfl | assumption):
  SV X (.Assign [.Name x pos'] e pos) (aS i fa):=by
 obtain ⟨t,p,k⟩:=he
 refine ⟨_,Ku hN hi hx p hs hf,λO B σ H env fl ai D R e q=>?_⟩
 obtain ⟨r,e1,e2⟩:=bind_some e
 obtain ⟨hl,e3⟩:=iG e2
 cases e3
 refine k O B σ H env r _ R e1 λv H1 s1 r1=>?_
 obtain ⟨R',g'⟩:=R.set (r:=.sh r.d) s1 (r1.is λq=>R.oo) hl
 exact q _ H1 R' g'
noncomputable def J1(f:En->Option Sl):SF:=λenv=>(f env).map λ_=>(.nx,env)
theorem b52(he:EV X e fa)(hs:swapsWith e none pos.line X.env=pure false:=by rfl):SV X (.Expr e pos) (J1 fa):=by
 obtain ⟨t,p,k⟩:=he
 refine ⟨_,KN p hs,λO B σ H env fl ai D R e q=>?_⟩
 obtain ⟨r,e1,e2⟩:=map_some e
 cases e2
 exact k O B σ H env r _ R e1 λv H1 s1 r1=>q σ H1 (R.grow s1) (Gd.refl s1)
noncomputable def pO(i:Nat)(env:En):En:=match env[i]? with
 | some (.ow ds)=>env.set i (.sh (.lst false ds))
 | some (.dw ds)=>env.set i (.sh (.fx false ds))
 | _=>env
noncomputable def pf(i:Nat)(F:SF):SF:=λenv=>F (pO i env)
theorem Ql(i:Nat)(h:SV X st F):SV X st (pf i F):=by
 obtain ⟨t,p,k⟩:=h
 refine ⟨t,p,λO B σ H env fl ai D R e q=>?_⟩
 unfold pf pO at e
 cases h:env[i]? with
 | none=>rw [h] at e;exact k O B σ H env fl ai D R e q
 | some s =>
  rw [h] at e
  cases s with
  | no=>exact k O B σ H env fl ai D R e q
  | sh d=>exact k O B σ H env fl ai D R e q
  | ow ds =>
   obtain ⟨R',g'⟩:=R.kJ h
   exact k O B σ H _ fl ai D R' e (q.from g')
  | dw ds =>
   obtain ⟨R',g'⟩:=R.AG h trivial
   exact k O B σ H _ fl ai D R' e (q.from g')
noncomputable def dQ(i:Nat)(f:En->Option Sl):SF:=λenv=>match env[i]? with
 | some (.ow ds)=>(f env).bind λr=>if ds.length<16777216 then some (.nx,env.set i (.ow (ds++[r.d]))) else none
 | _=>none
theorem b1g{i:Nat}{x:Str}{p1 p2 aW:Pos}(ha:EV X e fa)(hN:X.N[i]?=some x:=by rfl)(hv:jV X.env.scope x:=by first | exact di rfl | exact bX (di rfl) | exact bX (bX rfl))(hd:(x==("__debug__":Str))=false:=by decide)
  (eH:(x==("__classdict__":Str))=false:=by decide)(hs:starEach [e] X.env=[(false,eval e X.env)]:=by rfl)
  (cT:attributeBase (.Name x p1) "append" X.env (eval (.Name x p1) X.env)=eval (.Name x p1) X.env:=by rfl)
  (jF:((backTo aW (starEach [e] X.env)).all (λx=>!x.1)&&(backToKw aW (keywordEach [] X.env)).all (λx=>x.1.isSome)
   && decide ([e].length+([]:List Keyword).length+(if ([]:List Keyword).isEmpty then 0 else 1)<30))=true:=by rfl)
  (cS:(p2.endLine==aW.line)=true:=by rfl)
  (uQ:swapsWith (.Call (.Attribute (.Name x p1) "append" p2) [e] [] aW) none pos.line X.env=pure false:=by rfl):
  SV X (.Expr (.Call (.Attribute (.Name x p1) "append" p2) [e] [] aW) pos) (dQ i fa):=by
 obtain ⟨t,p,k⟩:=ha
 refine ⟨_,KN (PC JF OY PySem.F.type_list_append b1S (vT hN hv hd eH) (qJ p qI hs) cT jF cS hs rfl) uQ,λO B σ H env fl ai D R e q=>?_⟩
 unfold dQ at e
 cases h:env[i]? with
 | none=>rw [h] at e;cases e
 | some s =>
  rw [h] at e
  cases s with
  | no=>cases e
  | sh d=>cases e
  | dw bB=>cases e
  | ow ds =>
   obtain ⟨r,e1,e2⟩:=bind_some e
   obtain ⟨hl,e3⟩:=iG e2
   cases e3
   obtain ⟨l,xs,f1,f2,f3,f4⟩:=R.ow i ds h
   refine ⟨_,f1,.inl ⟨rfl,_,fF.of f3⟩,?_⟩
   refine k O B σ H env r _ R e1 λv H1 s1 r1=>⟨l,xs,v,rfl,rfl,s1 _ _ f3,by rw [f4.length,iY];exact hl,?_⟩
   obtain ⟨R',g'⟩:=(R.grow s1).wr h f1 ((f4.grow s1).append (.cons (r1.is λq=>R.oo) .nil))
   exact q _ _ R' (g'.from s1)
end
section
variable {X:Cx}{st:Stmt}{F:SF}{a b c e tg it:Expr}{fa:En->Option Sl}{ba:En->Option (Bool×List D)}{ga:En->Option Bool}{pos:Pos}
noncomputable abbrev GF:=D->En->Option En
def GV(X:Cx)(tg:Expr)(g:GF):Prop:=
 ∃t:TG,PG X tg t/\∀(O:Addr->Prop) (B:Hp) (σ:L2.St) (H:Hp) (env ai:En) (v:V) (d:D) (Q:L2.St->Hp->Prop),Rel X.K O B σ H env->Is X.K (OO O σ env) H v d->g d env=some ai ->
  (∀aI H',Rel X.K O B aI H' ai->Gd σ env H aI ai H'->Q aI H')->t v σ H Q
noncomputable def gN(i:Nat):GF:=λd env=>if i<env.length then some (env.set i (.sh d)) else none
theorem b6K(hN:X.N.Nodup)(hi:X.N[i]?=some x)(hx:Loc X.env.scope x)(hf:X.fn x=true\/X.env.scope.names.lookup x=some .local:=by first | exact .inl rfl | exact .inr rfl | assumption):GV X (.Name x pos) (gN i):=by
 refine ⟨_,b6h hN hi hx hf,λO B σ H env ai v d Q R h e q=>?_⟩
 obtain ⟨hl,rfl⟩:=iG e
 obtain ⟨R',g'⟩:=R.set (r:=.sh d) (aq.refl _) h hl
 exact q _ H R' g'
noncomputable abbrev wC:=List D->En->Option En
def F9(X:Cx)(tg:List Expr)(g:wC):Prop:=
 ∃t:uk,CF X tg t/\∀(O:Addr->Prop) (B:Hp) (σ:L2.St) (H:Hp) (env ai:En) (v:List V) (d:List D) (Q:L2.St->Hp->Prop),Rel X.K O B σ H env->aK X.K (OO O σ env) H v d->g d env=some ai ->
  (∀aI H',Rel X.K O B aI H' ai->Gd σ env H aI ai H'->Q aI H')->t v σ H Q
noncomputable def nv:wC:=λds env=>match ds with
 | []=>some env
 | _::_=>none
noncomputable def fq(g:GF)(u:wC):wC:=λds env=>match ds with
 | d::r=>(g d env).bind (u r)
 | []=>none
theorem r8:F9 X [] nv:=by
 refine ⟨_,b6g,λO B σ H env ai v d Q R h e q=>?_⟩
 cases h with
 | nil=>cases e;exact ⟨rfl,q σ H R (Gd.refl (aq.refl _))⟩
 | cons _ _=>cases e
theorem Gd.C6{K:aJ}{O:Addr->Prop}{σ aI:L2.St}{env ai:En}{H H':Hp}(g:Gd σ env H aI ai H'){v:List V}{d:List D}(h:aK K (OO O σ env) H v d):aK K (OO O aI ai) H' v d:=
 h.map (λq hq hn z=>by
  cases e:H q with
  | none=>exact hq e
  | some u =>
   obtain ⟨_,n'⟩:=g q u e λw=>hn (.inr w)
   exact z.elim (λw=>hn (.inl w)) n') λq u e n=>(g q u e λw=>n (.inr w)).1
theorem g0{es:List Expr}{g:GF}{u:wC}(h1:GV X e g)(h2:F9 X es u)
  (hs:(assignEach (e::es) X.env).map (·.2)=assign e X.env::(assignEach es X.env).map (·.2):=by rfl):F9 X (e::es) (fq g u):=by
 obtain ⟨t,p,k⟩:=h1
 obtain ⟨t',p',k'⟩:=h2
 refine ⟨_,b3X p p' hs,λO B σ H env ai v d Q R h e q=>?_⟩
 cases h with
 | nil=>cases e
 | cons h ht =>
  obtain ⟨bM,e1,e2⟩:=bind_some (show (g _ env).bind (u _)=some ai from e)
  refine ⟨_,_,rfl,k O B σ H env bM _ _ _ R h e1 λiL H1 R1 g1=>?_⟩
  exact k' O B iL H1 bM ai _ _ Q R1 (g1.C6 ht) e2 λcO H2 R2 g2=>q cO H2 R2 (g1.trans g2)
noncomputable def gT(n:Nat)(u:wC):GF:=λd env=>match d with
 | .tup ds=>if ds.length=n then u ds env else none
 | _=>none
theorem rY{es:List Expr}{k n:Nat}{u:wC}(hc:X.calm=true)(h:F9 X es u)(hn:(assignEach es X.env).length=n:=by rfl)(Df:(assignEach es X.env).findIdx? (·.1)=none:=by rfl):GV X (.Tuple es k pos) (gT n u):=by
 obtain ⟨t,p,k'⟩:=h
 refine ⟨_,b8f hc p hn Df,λO B σ H env ai v d Q R h e q=>?_⟩
 cases d with
 | tup ds =>
  have e':(if ds.length=n then u ds env else none)=some ai:=e
  by_cases hl:ds.length=n
  .rw [if_pos hl] at e'
   obtain ⟨a,xs,rfl,h1,h2⟩:=vR h
   exact ⟨a,xs,rfl,h1,by rw [h2.length];exact hl,k' O B σ H env ai xs ds Q R h2 e' q⟩
  .rw [if_neg hl] at e';cases e'
 | _=>cases e
noncomputable def qW(f:En->Option Sl)(g:GF):SF:=λenv=>(f env).bind λr=>(g r.d env).map λai=>(.nx,ai)
theorem b7Z{g:GF}(he:EV X e fa)(hg:GV X tg g)(hs:swapsWithSole [tg] e pos.line X.env=pure false:=by rfl)(hw:swappedStores [tg] e X.env=pure none:=by rfl)
  (h1:(assignEach [tg] X.env).map (·.2)=[assign tg X.env]:=by rfl):SV X (.Assign [tg] e pos) (qW fa g):=by
 obtain ⟨t,p,k⟩:=he
 obtain ⟨t',p',k'⟩:=hg
 refine ⟨_,Qb p p' hs hw h1,λO B σ H env fl ai D R e q=>?_⟩
 obtain ⟨r,e1,e4⟩:=bind_some e
 obtain ⟨bM,e2,e3⟩:=map_some e4
 obtain ⟨rfl,rfl⟩:=Prod.mk.inj e3
 refine k O B σ H env r _ R e1 λv H1 s1 r1=>?_
 exact k' O B σ H1 env bM v r.d _ (R.grow s1) (r1.is λq=>R.oo) e2 λaI H' R' g'=>q aI H' R' (g'.from s1)
noncomputable def forL(g:GF)(F:SF):List D->SF
 | [],env=>some (.nx,env)
 | d::ds,env=>match g d env with
  | none=>none
  | some bM=>match F bM with
   | some (.nx,bq)=>forL g F ds bq
   | some (.ct,bq)=>forL g F ds bq
   | some (.bk,bq)=>some (.nx,bq)
   | some (.rt r,bq)=>some (.rt r,bq)
   | none=>none
structure Left(K:aJ)(O:Addr->Prop)(B:Hp)(qN:L2.St)(H0:Hp)(gG:En)(g:GF)(F:SF)(ds:List D)(fl:Fl)(ai:En)(i:Nat)(σ:L2.St)(H:Hp):Prop where
 ex:∃env,Rel K O B σ H env/\Gd qN gG H0 σ env H/\forL g F (ds.drop i) env=some (fl,ai)
theorem Ln{g:GF}{qQ:TG}{tb:TS}{O:Addr->Prop}{B:Hp}{qN:L2.St}{H0:Hp}{gG ai:En}{fl:Fl}{D:Ends}{ds:List DL.D}{xs:List V}{i:Nat}{x:V}{σ:L2.St}{H:Hp}
  (kg:∀(O:Addr->Prop) (B:Hp) (σ:L2.St) (H:Hp) (env ai:En) (v:V) (d:DL.D) (Q:L2.St->Hp->Prop),Rel X.K O B σ H env->Is X.K (OO O σ env) H v d->g d env=some ai ->
   (∀aI H',Rel X.K O B aI H' ai->Gd σ env H aI ai H'->Q aI H')->qQ v σ H Q)
  (kb:∀(O:Addr->Prop) (B:Hp) (σ:L2.St) (H:Hp) (env:En) (fl:Fl) (ai:En) (D:Ends),Rel X.K O B σ H env->F env=some (fl,ai)->du X.K O B σ H env D fl ai->tb D σ H)
  (hx:aK X.K (OO O qN gG) H0 xs ds)(hi:xs[i]?=some x)(q:du X.K O B qN H0 gG D fl ai)(h:Left X.K O B qN H0 gG g F ds fl ai i σ H):
  qQ x σ H λcO H2=>tb { D with nx:=Left X.K O B qN H0 gG g F ds fl ai (i+1),ct:=Left X.K O B qN H0 gG g F ds fl ai (i+1),bk:=D.nx } cO H2:=by
 obtain ⟨env,R,gd,e⟩:=h
 obtain ⟨d,hd,_⟩:=hx.jG hi
 have HP:i<ds.length:=(gH.mp hd).1
 have Aq:ds.drop i=d::ds.drop (i+1):=by
  rw [ni HP]
  rw [gu HP] at hd
  rw [dj hd]
 obtain ⟨x',jZ,YS⟩:=(gd.C6 hx).get hd
 rw [hi] at jZ
 cases jZ
 rw [Aq,forL] at e
 cases hg:g d env with
 | none=>rw [hg] at e;cases e
 | some bM =>
  rw [hg] at e
  refine kg O B σ H env bM x d _ R YS hg λiL H1 R1 g1=>?_
  dsimp only at e
  cases hF:F bM with
  | none=>rw [hF] at e;cases e
  | some y =>
   obtain ⟨f2,bq⟩:=y
   rw [hF] at e
   have go:=gd.trans g1
   refine kb O B iL H1 bM f2 bq _ R1 hF ?_
   cases f2 with
   | nx=>exact λcO H2 R2 g2=>⟨bq,R2,go.trans g2,e⟩
   | ct=>exact λcO H2 R2 g2=>⟨bq,R2,go.trans g2,e⟩
   | bk=>cases e;exact λcO H2 R2 g2=>q cO H2 R2 (go.trans g2)
   | rt r=>cases e;exact q
theorem Ff{D:Ends}{ds:List DL.D}{n:Nat}(hn:ds.length<=n)
  (q:du X.K O B qN H0 gG D fl ai)(h:Left X.K O B qN H0 gG g F ds fl ai n σ H):D.nx σ H:=by
 obtain ⟨env,R,gd,e⟩:=h
 rw [rT hn,forL] at e
 cases e
 exact q σ H R gd
noncomputable def c6(f:En->Option Sl)(g:GF)(F:SF):SF:=λenv=>(f env).bind λr=>(eh r.d).bind λx=>forL g F x.2 env
theorem Gd.sq{K:aJ}{σ aI:L2.St}{env ai:En}{H H':Hp}(gd:Gd σ env H aI ai H'){k:Bool}{p:Addr}{xs:List V}(h:Sq K H k p xs)(hp:¬mL σ env p\/H p=none):Sq K H' k p xs:=by
 have rd:∀u,Rd H p u->Rd H' p u:=λu z=>by
  rcases z with z | ⟨o,z⟩
  .rcases hp with hp | hp
   .exact .inl (gd p _ z hp).1
   .rw [hp] at z;cases z
  .rcases hp with hp | hp
   .exact .inr ⟨o,(gd p _ z hp).1⟩
   .rw [hp] at z;cases z
 cases k with
 | true =>
  rcases h with h | h
  .exact .inl (rd _ h)
  .exact .inr h
 | false =>
  rcases h with h | h
  .exact .inl (rd _ h)
  .exact .inr h
theorem Is.nJ{K:aJ}{O:Addr->Prop}{H:Hp}{v:V}{d:D}{k:Bool}{ds:List D}(h:Is K O H v d)(e:eh d=some (k,ds)):∃p xs,v=.ref p/\Sq K H k p xs/\aK K O H xs ds/\(¬O p\/∀H',Sq K H' k p xs):=by
 cases h with
 | tup ho hp hs=>cases e;exact ⟨_,_,rfl,.inl hp,hs,.inl ho⟩
 | l4 hp hs=>cases e;exact ⟨_,_,rfl,Fm hp,hs,.inr λ_=>Fm hp⟩
 | lst ho hp hs=>cases e;exact ⟨_,_,rfl,.inl (.inl hp),hs,.inl ho⟩
 | lY ho hp hs=>cases e;exact ⟨_,_,rfl,.inl hp,hs,.inl ho⟩
 | l5 hp hs=>cases e;exact ⟨_,_,rfl,Fk hp,hs,.inr λ_=>Fk hp⟩
 | _=>cases e
noncomputable def G'(K:aJ)(tl:TE):TI:=λσ H R=>tl σ H λx H1=>∃a,x=.ref a/\(((∃xs,fF K H1 a xs)/\R (CK K a) H1)\/((∃xs,dN K H1 a xs)/\R (CJ K a) H1))
theorem Qa(hl:PE X l tl):PI X tg l (G' X.K tl):=by
 intro pins s σ H R I h
 refine aZ (hl pins s σ H _ I h) λv s1 ⟨x,H1,I1,r1,q1⟩=>?_
 obtain ⟨a,e,q1⟩:=q1
 subst e
 cases r1
 rcases q1 with ⟨⟨xs,hq⟩,q⟩ | ⟨⟨xs,hq⟩,q⟩
 .obtain ⟨ak,rv,p,hz⟩:=I1.list hq
  refine w5 p.isList ?_
  refine ⟨s1.heap.objs.size,[s1.heap.objs.size],_,_,H1,rfl,I1.kept (t':=s1.toks) λb o e=>bC _ e,b08 a _,⟨_,fj _ rfl,rfl,rfl⟩,λb hb=>?_,q⟩
  have e:b=s1.heap.objs.size:=by simpa using hb
  subst e
  exact I1.iT (bo _) (I1.bh.fresh (bo _))
 .obtain ⟨ak,rv,p,hz⟩:=I1.tuple hq
  refine rV (show s1.heap.IsTuple a ak.toArray from p) ?_
  refine ⟨s1.heap.objs.size,[s1.heap.objs.size],_,_,H1,rfl,I1.kept (t':=s1.toks) λb o e=>bC _ e,b0q a _,⟨_,fj _ rfl,rfl,rfl⟩,λb hb=>?_,q⟩
  have e:b=s1.heap.objs.size:=by simpa using hb
  subst e
  exact I1.iT (bo _) (I1.bh.fresh (bo _))
theorem j9(hp:PassesOwn (model X.prog X.w) X.A X.env X.xe)(hc:X.calm=true)(hi:EV X it fa)(hg:GV X tg g)(hb:nE X body F)
  (hs:∀x,foldedSetIterable it X.env x=pure x:=by intro _;rfl):SV X (.For tg it body [] pos) (c6 fa g F):=by
 obtain ⟨ti,pi,ki⟩:=hi
 obtain ⟨qQ,pg,kg⟩:=hg
 obtain ⟨tb,pb,kb⟩:=hb
 refine ⟨_,Kt hp hc (Qa pi) pg pb hs,λO B σ H env fl ai D R e q=>?_⟩
 obtain ⟨r,e1,e2⟩:=bind_some e
 obtain ⟨⟨k,ds⟩,e4,e5⟩:=bind_some e2
 refine ki O B σ H env r _ R e1 λv H1 s1 r1=>?_
 obtain ⟨p,xs,rfl,h1,h2,h3⟩:=(r1.is λq=>R.oo).nJ e4
 refine ⟨p,rfl,?_⟩
 have q':du X.K O B σ H1 env D fl ai:=q.from (Gd.refl s1)
 have keep:∀i cO H2,Left X.K O B σ H1 env g F ds fl ai i cO H2->Sq X.K H2 k p xs:=λi cO H2 L=>by
  rcases h3 with h3 | h3
  .obtain ⟨bq,_,gd,_⟩:=L
   exact gd.sq h1 (.inl λz=>h3 (.inr z))
  .exact h3 H2
 cases k with
 | true =>
  refine .inl ⟨⟨xs,h1⟩,?_⟩
  exact b4w (xs:=xs) (Left X.K O B σ H1 env g F ds fl ai) ⟨env,R.grow s1,Gd.refl (aq.refl _),e5⟩ (λi cO H2 _ L=>keep i cO H2 L) (λi x cO H2 hx L=>Ln kg kb h2 hx q' L) (λcO H2 L=>Ff (by rw [h2.length];exact bo _) q' L)
 | false =>
  refine .inr ⟨⟨xs,h1⟩,?_⟩
  exact b6N (xs:=xs) (Left X.K O B σ H1 env g F ds fl ai) ⟨env,R.grow s1,Gd.refl (aq.refl _),e5⟩ (λi cO H2 _ L=>keep i cO H2 L) (λi x cO H2 hx L=>Ln kg kb h2 hx q' L) (λcO H2 L=>Ff (by rw [h2.length];exact bo _) q' L)
noncomputable def ei(lo:Int)(n:Nat):List D:=(fI n).map λ(k:Nat)=>D.int (lo+(k:Int))
def R62(i:Int):Prop:=-(2^62)<=i/\i<2^62
noncomputable instance (i:Int):Decidable (R62 i):=by unfold R62;infer_instance
noncomputable def qX:List D->Option (List D)
 | [.int j]=>if R62 j then some (ei 0 j.toNat) else none
 | _=>none
noncomputable def EE(h:List D->Option (List D))(f:En->Option (List D))(g:GF)(F:SF):SF:=λenv=>(f env).bind λds=>(h ds).bind λis=>forL g F is env
theorem b54{K:aJ}{O:Addr->Prop}{H:Hp}(lo:Int)(n:Nat):aK K O H ((fI n).map λ(k:Nat)=>V.int (lo+(k:Int))) (ei lo n):=by
 have h:=aK.ints (K:=K) (O:=O) (H:=H) ((fI n).map λ(k:Nat)=>lo+(k:Int))
 rw [cJ,cJ] at h
 exact h
theorem RI{K:aJ}{O:Addr->Prop}{H:Hp}{xs:List V}{i:Int}(h:aK K O H xs [.int i]):xs=[.int i]:=by
 cases h with
 | cons h t=>cases t;rw [gZ h]
theorem b6O{tb:TS}{qQ:TG}{g:GF}{lo:Int}{n:Nat}{O:Addr->Prop}{B:Hp}{σ:L2.St}{H:Hp}{env ai:En}{fl:Fl}{D:Ends}
  (kg:∀(O:Addr->Prop) (B:Hp) (σ:L2.St) (H:Hp) (env ai:En) (v:V) (d:DL.D) (Q:L2.St->Hp->Prop),Rel X.K O B σ H env->Is X.K (OO O σ env) H v d->g d env=some ai ->
   (∀aI H',Rel X.K O B aI H' ai->Gd σ env H aI ai H'->Q aI H')->qQ v σ H Q)
  (kb:∀(O:Addr->Prop) (B:Hp) (σ:L2.St) (H:Hp) (env:En) (fl:Fl) (ai:En) (D:Ends),Rel X.K O B σ H env->F env=some (fl,ai)->du X.K O B σ H env D fl ai->tb D σ H)
  (R:Rel X.K O B σ H env)(e:forL g F (ei lo n) env=some (fl,ai))(q:du X.K O B σ H env D fl ai):
  ∃W:Nat->Nat->L2.St->Hp->Prop,(∃m,W 0 m σ H)/\∀i m σ H,W i m σ H ->
   ((nG lo n).stop i H/\D.nx σ H)\/((nG lo n).go i H/\∃N:L2.St->Hp->Prop,(∀aI H',N aI H'->∃m',m'<m/\W (i+1) m' aI H')/\∀x H',(nG lo n).ur i H x H'->qQ x σ H' λcO H2=>tb { D with nx:=N,ct:=N,bk:=D.nx } cO H2):=by
 refine b2s (Left X.K O B σ H env g F (ei lo n) fl ai) ⟨env,R,Gd.refl (aq.refl _),e⟩ (λi cO H2 hi L=>?_) (λcO H2 L=>Ff (by simp [ei]) q L)
 exact Ln kg kb (b54 lo n) (by simp [hi]) q L
theorem b3A{body:List Stmt}{g:GF}{fs:En->Option (List D)}{p:Pos}(hp:PassesOwn (model X.prog X.w) X.A X.env X.xe)(hc:X.calm=true)(pM:Gl X "range")(hm:X.mg "range" = none)(ha:AV X [a] fs)(hg:GV X tg g)(hb:nE X body F)
  (h1:starEach [a] X.env=[(false,eval a X.env)]:=by rfl)(hs:∀x,foldedSetIterable (.Call (.Name "range" p) [a] [] pos) X.env x=pure x:=by intro _;rfl){GK:Pos}:
  SV X (.For tg (.Call (.Name "range" p) [a] [] pos) body [] GK) (EE qX fs g F):=by
 obtain ⟨ti,pi,ki⟩:=ha
 obtain ⟨qQ,pg,kg⟩:=hg
 obtain ⟨tb,pb,kb⟩:=hb
 refine ⟨_,Kt hp hc (b1F pM hm pi h1) pg pb hs,λO B σ H env fl ai D R e q=>?_⟩
 obtain ⟨ds,e1,e2⟩:=bind_some e
 obtain ⟨is,e2,e3⟩:=bind_some e2
 refine ki O B σ H env ds _ R e1 λvs H1 s1 r1=>?_
 unfold qX at e2
 split at e2
 .obtain ⟨⟨h1,h2⟩,rfl⟩:=iG e2
  exact ⟨_,RI r1,h1,h2,b6O kg kb (R.grow s1) e3 (q.from (Gd.refl s1))⟩
 .cases e2
noncomputable def qO(c:En->Option Bool)(F:SF):Nat->SF
 | 0,_=>none
 | n+1,env=>match c env with
  | none=>none
  | some false=>some (.nx,env)
  | some true=>match F env with
   | some (.nx,bq)=>qO c F n bq
   | some (.ct,bq)=>qO c F n bq
   | some (.bk,bq)=>some (.nx,bq)
   | some (.rt r,bq)=>some (.rt r,bq)
   | none=>none
noncomputable def BI(m:En->Nat)(c:En->Option Bool)(F:SF):SF:=λenv=>qO c F (m env) env
theorem Lg(m:En->Nat)(hp:PassesOwn (model X.prog X.w) X.A X.env X.xe)(hc:TV X c ga)(hb:nE X body F):SV X (.While c body [] pos) (BI m ga F):=by
 obtain ⟨tc,pc,kc⟩:=hc
 obtain ⟨tb,pb,kb⟩:=hb
 refine ⟨_,b3T hp pc pb,λO B σ H env fl ai D R e q=>?_⟩
 refine ⟨λn iL H1=>∃bM,Rel X.K O B iL H1 bM/\Gd σ env H iL bM H1/\qO ga F n bM=some (fl,ai),⟨m env,env,R,Gd.refl (aq.refl _),e⟩,?_⟩
 rintro n iL H1 ⟨bM,R1,g1,e1⟩
 cases n with
 | zero=>cases e1
 | succ n =>
  rw [qO] at e1
  cases h:ga bM with
  | none=>rw [h] at e1;cases e1
  | some x =>
   rw [h] at e1
   refine kc O B iL H1 bM x _ R1 h λH2 s2=>?_
   cases x with
   | false =>
    rw [if_neg nh]
    cases e1
    exact q iL H2 (R1.grow s2) (g1.trans (Gd.refl s2))
   | true =>
    rw [if_pos rfl]
    refine ⟨λaI H'=>∃bq,Rel X.K O B aI H' bq/\Gd σ env H aI bq H'/\qO ga F n bq=some (fl,ai),λaI H' ⟨bq,a1,a2,a3⟩=>⟨n,vy n,bq,a1,a2,a3⟩,?_⟩
    dsimp only at e1
    cases hF:F bM with
    | none=>rw [hF] at e1;cases e1
    | some y =>
     obtain ⟨f2,bq⟩:=y
     rw [hF] at e1
     have go:=g1.trans (Gd.refl s2)
     refine kb O B iL H2 bM f2 bq _ (R1.grow s2) hF ?_
     cases f2 with
     | nx=>exact λcO H3 R2 g2=>⟨bq,R2,go.trans g2,e1⟩
     | ct=>exact λcO H3 R2 g2=>⟨bq,R2,go.trans g2,e1⟩
     | bk=>cases e1;exact λcO H3 R2 g2=>q cO H3 R2 (go.trans g2)
     | rt r=>cases e1;exact q
end
noncomputable def nI(K:aJ)(n:Nat)(φ:List D->Option Sl):Sp:=λvs H Q _=>∃(O:Addr->Prop) (ds:List D) (r:Sl),qM K O H/\aK K O H vs ds/\vs.length=n/\φ ds=some r /\
 ∀v H',aq H H'->Res K O H H' v r->Q v H'
noncomputable def p8(N:Nat)(ds:List D):En:=ds.map Sl.sh++jo (N-ds.length) Sl.no
noncomputable def aE(F:SF)(N:Nat)(ds:List D):Option Sl:=match F (p8 N ds) with
 | some (.rt r,_)=>some r
 | some (.nx,_)=>some (.sh .aR)
 | _=>none
theorem b1z{K:aJ}{O:Addr->Prop}{H:Hp}{N:List Str}{vs:List V}{ds:List D}(hO:qM K O H)(h:aK K O H vs ds):Rel K O H (start N vs) H (p8 N.length ds):=by
 have hl:=h.length
 have C2:∀(i:Nat) (s:Sl),(p8 N.length ds)[i]?=some s->s.own->False:=λi s e1 o=>by
  unfold p8 at e1
  rw [OQ] at e1
  split at e1
  .rw [kT] at e1
   obtain ⟨d,_,e⟩:=map_some e1
   cases e
   exact o
  .rw [Ea] at e1
   split at e1
   .cases e1;exact o
   .cases e1
 have no:∀p,¬mL (start N vs) (p8 N.length ds) p:=λp ⟨i,es,e1,o,_⟩=>C2 i es e1 o
 refine ⟨aq.refl _,hO,?_,λi d e=>?_,λi es e=>(C2 i _ e trivial).elim,λi es e=>(C2 i _ e trivial).elim,λi j es fs p e _ _ _ o _=>(C2 i _ e o).elim⟩
 .simp [L2.start,p8,hl]
 .unfold p8 at e
  rw [OQ] at e
  split at e
  .rename_i hi
   rw [aQ] at hi
   rw [kT] at e
   obtain ⟨d',e1,e2⟩:=map_some e
   cases e2
   obtain ⟨x,hx,hd⟩:=h.get e1
   refine ⟨x,?_,hd.less λq z=>z.elim id λz=>(no q z).elim⟩
   unfold L2.start
   rw [vH (by rw [aQ,hl];exact hi),kT,hx]
   rfl
  .rw [Ea] at e
   split at e
   .cases e
   .cases e
section
variable {P:Program}{w:World}{K:aJ}{mg:Str->Option Value}{base:Heap}
theorem Ir{x qual:Str}{st:Stmt}{f:Addr}{fd:FuncData}{N ps:List Str}{k:Nat}{F:SF}(Fn:um K x qual st f fd)(S:dI N ps (fK st))
  (eI:∀(dh:Value) (A:Around) (outer:List Env) (s:Shared) (H:Hp) (E:XK),cL k (A.deeper (envOfC qual (fK st) s.heap.objs.size f dh)) ->
   nE (mj jX P w K mg base N qual (fK st) f dh A outer s H E).zf (iH st) F):cW P w K mg base jX (k+1) f fd ps (nI K ps.length (aE F N.length)):=by
 refine Fn.ok S (λvs H Q E h=>?_) (λdh A outer s H vs Q E hr h=>?_)
 .obtain ⟨O,ds,r,_,_,hl,_⟩:=h
  exact hl
 obtain ⟨O,ds,r,hO,hi,hl,e,q⟩:=h
 obtain ⟨t,p,kk⟩:=eI dh A outer s H E hr
 refine ⟨t,p,?_⟩
 unfold aE at e
 cases hF:F (p8 N.length ds) with
 | none=>rw [hF] at e;cases e
 | some y =>
  obtain ⟨fl,ai⟩:=y
  rw [hF] at e
  refine kk O H (start N vs) H (p8 N.length ds) fl ai _ (b1z hO hi) hF ?_
  cases fl with
  | nx=>cases e;exact λaI H' R' _=>q .aR H' R'.same Is.aR
  | bk=>cases e
  | ct=>cases e
  | rt r=>cases e;exact λv H' s h=>q v H' s h
end
section
variable {X:Cx}{k:Nat}{f:Addr}{fd:FuncData}{ps:List Str}{φ:List D->Option Sl}{x:Str}{p pos:Pos}{e:Expr}{es:List Expr}{fs:En->Option (List D)}
noncomputable def aG(n:Nat)(φ:List D->Option Sl)(fs:En->Option (List D)):En->Option Sl:=λenv=>(fs env).bind λds=>if ds.length=n then φ ds else none
theorem b2W(ka:∀(O:Addr->Prop) (B:Hp) (σ:L2.St) (H:Hp) (env:En) (ds:List D) (Q:List V->Hp->Prop),Rel X.K O B σ H env->fs env=some ds->(∀vs H',aq H H'->aK X.K (OO O σ env) H' vs ds->Q vs H')->t σ H Q)
  (O:Addr->Prop)(B:Hp)(σ:L2.St)(H:Hp)(env:En)(r:Sl)(Q:VK)(R:Rel X.K O B σ H env)(e:aG n φ fs env=some r)(q:∀v H',aq H H'->Res X.K (OO O σ env) H H' v r->Q v H'):PV (nI X.K n φ) [] E t σ H Q:=by
 obtain ⟨ds,e1,e2⟩:=bind_some e
 refine ka O B σ H env ds _ R e1 λvs H1 s1 r1=>?_
 by_cases hn:ds.length=n
 .rw [if_pos hn] at e2
  rw [nk]
  refine ⟨OO O σ env,ds,r,(R.grow s1).dm,r1,by rw [r1.length,hn],e2,λv H2 s2 r2=>q v H2 (s1.trans s2) (r2.from s1)⟩
 .rw [if_neg hn] at e2;cases e2
theorem b6S(F:cW X.prog X.w X.K X.mg X.base jX k f fd ps (nI X.K ps.length φ))(hr:cL k X.A)(hg:Gl X x)(hm:X.mg x=some (.ref f))(hk:Bd X.K (.ref f)=true)(hb:Binds X.K fd ps [])
  (ha:AV X (e::es) fs)(kG:(x==("__debug__":Str))=false:=by decide)(he:starEach (e::es) X.env=(false,eval e X.env)::starEach es X.env:=by rfl)(dk:(backTo pos (starEach es X.env)).any (·.1)=false:=by rfl):
  EV X (.Call (.Name x p) (e::es) [] pos) (aG ps.length φ fs):=by
 obtain ⟨t,pt,ka⟩:=ha
 exact ⟨_,b6m F hr hg hm hk hb .nil y3 pt kG he dk,λO B σ H env r Q R e q=>b2W ka O B σ H env r Q R e q⟩
end
section
variable {X:Cx}{a:Expr}{pos p p2:Pos}{fa:En->Option Sl}
noncomputable def l7(T:String):D->Bool
 | .aR=>false
 | .bl _=>(T == "bool" || T == "int")
 | .int _=>(T == "int")
 | .str _=>(T == "str")
 | .tup _=>(T == "tuple")
 | .lst _ _=>(T == "list")
 | .exc _=>false
 | .fx _ _=>false
noncomputable def D.isExc:D->Bool
 | .exc _=>true
 | .fx _ _=>true
 | _=>false
noncomputable def nT(T:String)(d:D):Option Sl:=if d.isExc=true then none else some (.sh (.bl (l7 T d)))
end
section
variable {X:Cx}{a b c e:Expr}{fa fb:En->Option Sl}{pos:Pos}
noncomputable def fM(i:Nat)(f:En->Option Sl):SF:=λenv=>match env[i]? with
 | some (.ow ds)=>(f env).bind λr=>match r.d with
  | .lst false es=>if ds.length+es.length<=16777216 then some (.nx,env.set i (.ow (ds++es))) else none
  | _=>none
 | _=>none
theorem b1f{i:Nat}{x:Str}{p1 p2 aW:Pos}(ha:EV X e fa)(hN:X.N[i]?=some x:=by rfl)(hv:jV X.env.scope x:=by first | exact di rfl | exact bX (di rfl) | exact bX (bX rfl))(hd:(x==("__debug__":Str))=false:=by decide)
  (eH:(x==("__classdict__":Str))=false:=by decide)(hs:starEach [e] X.env=[(false,eval e X.env)]:=by rfl)
  (cT:attributeBase (.Name x p1) "extend" X.env (eval (.Name x p1) X.env)=eval (.Name x p1) X.env:=by rfl)
  (jF:((backTo aW (starEach [e] X.env)).all (λx=>!x.1)&&(backToKw aW (keywordEach [] X.env)).all (λx=>x.1.isSome)
   && decide ([e].length+([]:List Keyword).length+(if ([]:List Keyword).isEmpty then 0 else 1)<30))=true:=by rfl)
  (cS:(p2.endLine==aW.line)=true:=by rfl)
  (uQ:swapsWith (.Call (.Attribute (.Name x p1) "extend" p2) [e] [] aW) none pos.line X.env=pure false:=by rfl):
  SV X (.Expr (.Call (.Attribute (.Name x p1) "extend" p2) [e] [] aW) pos) (fM i fa):=by
 obtain ⟨t,p,k⟩:=ha
 refine ⟨_,KN (PC JF OX PySem.F.type_list_extend b1R (vT hN hv hd eH) (qJ p qI hs) cT jF cS hs rfl) uQ,λO B σ H env fl ai D R e q=>?_⟩
 unfold fM at e
 cases h:env[i]? with
 | none=>rw [h] at e;cases e
 | some s =>
  rw [h] at e
  cases s with
  | no=>cases e
  | sh d=>cases e
  | dw ds=>cases e
  | ow ds =>
   obtain ⟨r,e1,e2⟩:=bind_some e
   obtain ⟨l,xs,f1,f2,f3,f4⟩:=R.ow i ds h
   refine ⟨_,f1,.inl ⟨rfl,_,fF.of f3⟩,?_⟩
   refine k O B σ H env r _ R e1 λv H1 s1 r1=>?_
   have hi:=r1.is λq=>R.oo
   cases hd:r.d with
   | lst ro es =>
    rw [hd] at hi e2
    cases ro with
    | true=>cases e2
    | false =>
     obtain ⟨hl,e3⟩:=iG (show (if ds.length+es.length<=16777216 then some (Fl.nx,env.set i (.ow (ds++es))) else none)=some (fl,ai) from e2)
     cases e3
     obtain ⟨b,zs,rfl,hb,g1,g2⟩:=Kb hi
     refine ⟨l,b,xs,zs,rfl,rfl,s1 _ _ f3,g1,by rw [f4.length,g2.length,iY];exact hl,?_⟩
     obtain ⟨R',g'⟩:=(R.grow s1).wr h f1 ((f4.grow s1).append g2)
     exact q _ _ R' (g'.from s1)
   | _=>rw [hd] at e2;cases e2
noncomputable def lW(i j:Nat):SF:=λenv=>match env[j]? with
 | some (.ow ds)=>(ds[ds.length-1]?).bind λd=>if i<env.length/\i≠j then some (.nx,(env.set j (.ow ds.dropLast)).set i (.sh d)) else none
 | _=>none
theorem b1e{i j:Nat}{x y:Str}{pos' p1 p2 aW:Pos}(hN:X.N.Nodup)(hi:X.N[i]?=some x)(hx:Loc X.env.scope x)
  (Ic:X.N[j]?=some y:=by rfl)(hv:jV X.env.scope y:=by first | exact di rfl | exact bX (di rfl) | exact bX (bX rfl))(hd:(y==("__debug__":Str))=false:=by decide)
  (eH:(y==("__classdict__":Str))=false:=by decide)
  (cT:attributeBase (.Name y p1) "pop" X.env (eval (.Name y p1) X.env)=eval (.Name y p1) X.env:=by rfl)
  (cS:(p2.endLine==aW.line)=true:=by rfl)
  (hs:swapsWith (.Call (.Attribute (.Name y p1) "pop" p2) [] [] aW) (some (.Name x pos')) pos.line X.env=pure false:=by rfl)(hf:X.fn x=true\/X.env.scope.names.lookup x=some .local:=by first | exact .inl rfl | exact .inr rfl | assumption):
  SV X (.Assign [.Name x pos'] (.Call (.Attribute (.Name y p1) "pop" p2) [] [] aW) pos) (lW i j):=by
 refine ⟨_,Ku hN hi hx (b8m JF O3 PySem.F.type_list_pop b8t (vT Ic hv hd eH) cT cS) hs hf,λO B σ H env fl ai D R e q=>?_⟩
 unfold lW at e
 cases h:env[j]? with
 | none=>rw [h] at e;cases e
 | some s =>
  rw [h] at e
  cases s with
  | no=>cases e
  | sh d=>cases e
  | dw ds=>cases e
  | ow ds =>
   obtain ⟨d,e1,e2⟩:=bind_some e
   obtain ⟨⟨hl,cC⟩,e3⟩:=Sk e2
   cases e3
   obtain ⟨l,xs,f1,f2,f3,f4⟩:=R.ow j ds h
   obtain ⟨v,zV,Hm⟩:=f4.get e1
   obtain ⟨R',g'⟩:=R.wr h f1 f4.dropLast
   refine ⟨_,f1,.inl ⟨rfl,_,fF.of f3⟩,l,xs,v,rfl,rfl,f3,by rw [f4.length];exact zV,?_⟩
   have Hl:aK X.K (OO O σ (env.set j (.ow ds.dropLast))) (upd H l (.lst xs.dropLast)) [v] [d]:=g'.C6 (.cons Hm .nil)
   cases Hl with
   | cons Hl _ =>
    obtain ⟨R2,g2⟩:=R'.set (r:=.sh d) (i:=i) (aq.refl _) Hl (by simp;exact hl)
    exact q _ _ R2 (g'.trans g2)
noncomputable def xo(i:Nat)(f g:En->Option Sl):SF:=λenv=>match env[i]? with
 | some (.ow ds)=>(f env).bind λr=>(g env).bind λk=>match k.d with
  | .int n=>(l6 ds.length n).bind λj=>some (.nx,env.set i (.ow (ds.set j r.d)))
  | _=>none
 | _=>none
theorem b51{i:Nat}{x:Str}{p1 p2:Pos}(ha:EV X e fa)(hb:EV X b fb)(hN:X.N[i]?=some x:=by rfl)(hv:jV X.env.scope x:=by first | exact di rfl | exact bX (di rfl) | exact bX (bX rfl))(hd:(x==("__debug__":Str))=false:=by decide)
  (eH:(x==("__classdict__":Str))=false:=by decide)
  (jB:∀v,assign (.Subscript (.Name x p1) b p2) X.env v=(do
   let ov <-holding [v] (eval (.Name x p1) X.env)
   let iv <-holding [v,ov] (eval b X.env)
   standAt p2
   holding [v,ov,iv] (setItem ov iv v)
   release [v,ov,iv] []):=by intro _;rfl)
  (hs:swapsWithSole [.Subscript (.Name x p1) b p2] e pos.line X.env=pure false:=by rfl)(hw:swappedStores [.Subscript (.Name x p1) b p2] e X.env=pure none:=by rfl)
  (h1:(assignEach [.Subscript (.Name x p1) b p2] X.env).map (·.2)=[assign (.Subscript (.Name x p1) b p2) X.env]:=by rfl):
  SV X (.Assign [.Subscript (.Name x p1) b p2] e pos) (xo i fa fb):=by
 obtain ⟨t,p,k⟩:=ha
 obtain ⟨t',p',k'⟩:=hb
 refine ⟨_,Qb p (b8g (vT hN hv hd eH) p' b3E jB) hs hw h1,λO B σ H env fl ai D R e q=>?_⟩
 unfold xo at e
 cases h:env[i]? with
 | none=>rw [h] at e;cases e
 | some s =>
  rw [h] at e
  cases s with
  | no=>cases e
  | sh d=>cases e
  | dw ds=>cases e
  | ow ds =>
   obtain ⟨r,e1,e2⟩:=bind_some e
   obtain ⟨kk,e2,e3⟩:=bind_some e2
   obtain ⟨l,xs,f1,f2,f3,f4⟩:=R.ow i ds h
   refine k O B σ H env r _ R e1 λv H1 s1 r1=>⟨_,f1,?_⟩
   refine k' O B σ H1 env kk _ (R.grow s1) e2 λw H2 s2 r2=>?_
   have hi:=r2.is λq=>(R.grow s1).oo
   cases hd:kk.d with
   | int n =>
    rw [hd] at hi e3
    obtain rfl:=gZ hi
    obtain ⟨j,e4,e5⟩:=bind_some (show (l6 ds.length n).bind (λj=>some (Fl.nx,env.set i (.ow (ds.set j r.d))))=some (fl,ai) from e3)
    cases e5
    have mP:=s1.trans s2
    refine ⟨l,xs,n,j,rfl,rfl,mP _ _ f3,by rw [f4.length];exact e4,?_⟩
    obtain ⟨R',g'⟩:=(R.grow mP).wr h f1 ((f4.grow mP).set ((r1.is λq=>R.oo).grow s2) j)
    exact q _ _ R' (g'.from mP)
   | _=>rw [hd] at e3;cases e3
def PP(X:Cx)(e:Option Expr)(f:En->Option (Option Int)):Prop:=
 ∃t:TO,PO X e t/\∀(O:Addr->Prop) (B:Hp) (σ:L2.St) (H:Hp) (env:En) (o:Option Int) (Q:Option Int->Hp->Prop),Rel X.K O B σ H env->f env=some o->(∀H',aq H H'->Q o H')->t σ H Q
noncomputable def nO:En->Option (Option Int):=λ_=>some none
noncomputable def mR(f:En->Option Sl):En->Option (Option Int):=λenv=>(f env).bind λr=>match r.d with
 | .int i=>some (some i)
 | _=>none
theorem sf:PP X none nO:=⟨_,b6e,λO B σ H env o Q R e q=>by
 obtain rfl:=dj e
 exact q H (aq.refl _)⟩
theorem si(h:EV X e fa):PP X (some e) (mR fa):=by
 obtain ⟨t,p,k⟩:=h
 refine ⟨_,b6d p,λO B σ H env o Q R e q=>?_⟩
 obtain ⟨r,e1,e2⟩:=bind_some e
 refine k O B σ H env r _ R e1 λv H1 s1 r1=>?_
 have hi:=r1.is λq=>R.oo
 cases hd:r.d with
 | int i =>
  rw [hd] at hi e2
  obtain rfl:=dj e2
  exact ⟨i,gZ hi,q H1 s1⟩
 | _=>rw [hd] at e2;cases e2
noncomputable def cutD(xs:List D)(lo hi:Option Int):List D:=(xs.drop (HT.bz xs.length 0 lo)).take (HT.bz xs.length xs.length hi-HT.bz xs.length 0 lo)
theorem aK.cut{K:aJ}{O:Addr->Prop}{H:Hp}{xs:List V}{ds:List D}(h:aK K O H xs ds)(lo hi:Option Int):aK K O H (kO xs lo hi) (cutD ds lo hi):=by
 unfold kO cutD
 rw [h.length]
 exact (h.drop _).take _
noncomputable def mZ(f:En->Option (Bool×List D))(lo hi:En->Option (Option Int)):En->Option Sl:=λenv=>(f env).bind λx=>(lo env).bind λl=>(hi env).bind λh =>
 if x.1=true then some (.ow (cutD x.2 l h)) else if ¬(HT.bz x.2.length 0 l=0/\HT.bz x.2.length x.2.length h=x.2.length) then some (.sh (.tup (cutD x.2 l h))) else none
theorem se{ba:En->Option (Bool×List D)}{lo hi:Option Expr}{fl fh:En->Option (Option Int)}{p2:Pos}(ha:BV X a ba)(hl:PP X lo fl)(hh:PP X hi fh):EV X (.Subscript a (.Slice lo hi none p2) pos) (mZ ba fl fh):=by
 obtain ⟨t,p,k⟩:=ha
 obtain ⟨tl,pl,kl⟩:=hl
 obtain ⟨th,ph,kh⟩:=hh
 refine ⟨_,b3Z (qV.or b74) p pl ph,λO B σ H env r Q R e q=>?_⟩
 obtain ⟨⟨kk,ds⟩,e1,e2⟩:=bind_some e
 obtain ⟨l,e2,e3⟩:=bind_some e2
 obtain ⟨h,e3,e4⟩:=bind_some e3
 refine k O B σ H env kk ds _ R e1 λpp xs H1 s1 hq hx=>?_
 refine kl O B σ H1 env l _ (R.grow s1) e2 λH2 s2=>?_
 refine kh O B σ H2 env h _ ((R.grow s1).grow s2) e3 λH3 s3=>?_
 have mP:=s1.trans (s2.trans s3)
 have dR:=hq.grow (s2.trans s3)
 have jZ:=hx.grow (s2.trans s3)
 dsimp only at e4
 cases kk with
 | true =>
  rw [if_pos rfl] at e4
  obtain rfl:=dj e4
  exact .inl ⟨pp,xs,rfl,dR,λp hp=>q _ _ (mP.trans (o5 hp _)) ((xH hp (jZ.cut l h)).from mP)⟩
 | false =>
  rw [if_neg nh] at e4
  obtain ⟨hw,rfl⟩:=iG e4
  exact .inr ⟨pp,xs,rfl,dR,by rw [jZ.length];exact hw,λp hp=>q _ _ (mP.trans (o5 hp _)) ((E2 (O:=OO O σ env) (H:=H3) (λ_ z=>(R.grow mP).oo z) hp (jZ.cut l h)).from mP)⟩
end
structure Def(K:aJ)(mg:Str->Option Value)(x:Str)(st:Stmt)(ps:List Str)(f:Addr)(fd:FuncData):Prop where
 fn:um K x x st f fd
 bd:Binds K fd ps []
 m:mg x=some (.ref f)
end DL
namespace DL
open PySem PySem.Spec PyProof.Rows L2
structure Fx(X:Cx)(N:List Str)(sc:Scope)(k:Nat)(full:Bool:=true):Prop where
 n:X.N=N
 sc:X.env.scope=sc
 calm:X.calm=true
 fn:full=true->∀x,X.fn x=true
 own:PassesOwn (model X.prog X.w) X.A X.env X.xe
 room:cL k X.A
 nd:N.Nodup
 top:full=true->X.stack=X.env::X.outer/\X.env.frame=some X.env.locals/\X.ex=[]
section
variable {X:Cx}{N:List Str}{sc:Scope}{k:Nat}{full:Bool}{pos p p1 p2 pos' aW:Pos}{e a b:Expr}{fa fb:En->Option Sl}
theorem Fx.qP(h:Fx X N sc k full)(hv:jV sc x):jV X.env.scope x:=by rw [h.sc];exact hv
theorem Fx.loc(h:Fx X N sc k full)(hv:Loc sc x):Loc X.env.scope x:=by rw [h.sc];exact hv
theorem Fx.ix(h:Fx X N sc k full){i:Nat}{x:Str}(hN:N[i]?=some x):X.N[i]?=some x:=by rw [h.n];exact hN
theorem Fx.uy(h:Fx X N sc k full)(hf:full=true\/sc.names.lookup x=some .local):X.fn x=true\/X.env.scope.names.lookup x=some .local:=hf.elim (λe=>.inl (h.fn e x)) λe=>.inr (by rw [h.sc];exact e)
theorem Fx.uH(h:Fx X N sc k full):X.N.Nodup:=by rw [h.n];exact h.nd
theorem Fx.g(h:Fx X N sc k full)(hg:sc.names.lookup x=some .globalImplicit:=by rfl):Gl X x:=by
 show X.env.kindOf x=some .globalImplicit
 unfold Env.kindOf
 rw [h.sc]
 exact hg
theorem Fx.v(h:Fx X N sc k full)(i:Nat)(hN:N[i]?=some x:=by rfl)(hv:jV sc x:=by first | exact di rfl | exact bX (di rfl) | exact bX (bX rfl))(hd:(x==("__debug__":Str))=false:=by rfl)
  (eH:(x==("__classdict__":Str))=false:=by rfl):EV X (.Name x pos) (eV i):=b8V i (h.ix hN) (h.qP hv) hd eH
theorem Fx.bv(h:Fx X N sc k full)(i:Nat)(hN:N[i]?=some x:=by rfl)(hv:jV sc x:=by first | exact di rfl | exact bX (di rfl) | exact bX (bX rfl))(hd:(x==("__debug__":Str))=false:=by rfl)
  (eH:(x==("__classdict__":Str))=false:=by rfl):BV X (.Name x pos) (bV i):=b9a i (h.ix hN) (h.qP hv) hd eH
theorem Fx.tg(h:Fx X N sc k full)(i:Nat)(hN:N[i]?=some x:=by rfl)(hv:Loc sc x:=by first | exact di rfl | exact bX rfl)(hf:full=true\/sc.names.lookup x=some .local:=by first | exact di rfl | exact bX rfl):GV X (.Name x pos) (gN i):=b6K h.uH (h.ix hN) (h.loc hv) (h.uy hf)
theorem Fx.set(h:Fx X N sc k full)(i:Nat)(he:EV X e fa)(hN:N[i]?=some x:=by rfl)(hv:Loc sc x:=by first | exact di rfl | exact bX rfl)
  (hs:swapsWith e (some (.Name x pos')) pos.line X.env=pure false:=by rfl)(hf:full=true\/sc.names.lookup x=some .local:=by first | exact di rfl | exact bX rfl):SV X (.Assign [.Name x pos'] e pos) (cP i fa):=b7Y h.uH (h.ix hN) (h.loc hv) he hs (h.uy hf)
theorem Fx.aC(h:Fx X N sc k full)(i:Nat)(he:EV X e fa)(hN:N[i]?=some x:=by rfl)(hv:Loc sc x:=by first | exact di rfl | exact bX rfl)
  (hs:swapsWith e (some (.Name x pos')) pos.line X.env=pure false:=by rfl)(hf:full=true\/sc.names.lookup x=some .local:=by first | exact di rfl | exact bX rfl):SV X (.Assign [.Name x pos'] e pos) (aS i fa):=b5Z h.uH (h.ix hN) (h.loc hv) he hs (h.uy hf)
theorem Fx.ik(h:Fx X N sc k full)(i:Nat)(hN:N[i]?=some x:=by rfl)(hv:jV sc x:=by first | exact di rfl | exact bX (di rfl) | exact bX (bX rfl))(hd:(x==("__debug__":Str))=false:=by rfl)
  (eH:(x==("__classdict__":Str))=false:=by rfl):SV X (.Return (some (.Name x p2)) pos) (j6 i):=b50 i (h.ix hN) (h.qP hv) hd eH
theorem Fx.app(h:Fx X N sc k full)(i:Nat)(ha:EV X e fa)(hN:N[i]?=some x:=by rfl)(hv:jV sc x:=by first | exact di rfl | exact bX (di rfl) | exact bX (bX rfl))(hd:(x==("__debug__":Str))=false:=by rfl)
  (eH:(x==("__classdict__":Str))=false:=by rfl)(hs:starEach [e] X.env=[(false,eval e X.env)]:=by rfl)
  (cT:attributeBase (.Name x p1) "append" X.env (eval (.Name x p1) X.env)=eval (.Name x p1) X.env:=by rfl)
  (jF:((backTo aW (starEach [e] X.env)).all (λx=>!x.1)&&(backToKw aW (keywordEach [] X.env)).all (λx=>x.1.isSome)
   && decide ([e].length+([]:List Keyword).length+(if ([]:List Keyword).isEmpty then 0 else 1)<30))=true:=by rfl)
  (cS:(p2.endLine==aW.line)=true:=by rfl)
  (uQ:swapsWith (.Call (.Attribute (.Name x p1) "append" p2) [e] [] aW) none pos.line X.env=pure false:=by rfl):
  SV X (.Expr (.Call (.Attribute (.Name x p1) "append" p2) [e] [] aW) pos) (dQ i fa):=b1g ha (h.ix hN) (h.qP hv) hd eH hs cT jF cS uQ
theorem Fx.ext(h:Fx X N sc k full)(i:Nat)(ha:EV X e fa)(hN:N[i]?=some x:=by rfl)(hv:jV sc x:=by first | exact di rfl | exact bX (di rfl) | exact bX (bX rfl))(hd:(x==("__debug__":Str))=false:=by rfl)
  (eH:(x==("__classdict__":Str))=false:=by rfl)(hs:starEach [e] X.env=[(false,eval e X.env)]:=by rfl)
  (cT:attributeBase (.Name x p1) "extend" X.env (eval (.Name x p1) X.env)=eval (.Name x p1) X.env:=by rfl)
  (jF:((backTo aW (starEach [e] X.env)).all (λx=>!x.1)&&(backToKw aW (keywordEach [] X.env)).all (λx=>x.1.isSome)
   && decide ([e].length+([]:List Keyword).length+(if ([]:List Keyword).isEmpty then 0 else 1)<30))=true:=by rfl)
  (cS:(p2.endLine==aW.line)=true:=by rfl)
  (uQ:swapsWith (.Call (.Attribute (.Name x p1) "extend" p2) [e] [] aW) none pos.line X.env=pure false:=by rfl):
  SV X (.Expr (.Call (.Attribute (.Name x p1) "extend" p2) [e] [] aW) pos) (fM i fa):=b1f ha (h.ix hN) (h.qP hv) hd eH hs cT jF cS uQ
theorem Fx.pop(h:Fx X N sc k full)(i j:Nat){x y:Str}(hN:N[i]?=some x:=by rfl)(hx:Loc sc x:=by first | exact di rfl | exact bX rfl)(Ic:N[j]?=some y:=by rfl)(hv:jV sc y:=by first | exact di rfl | exact bX (di rfl) | exact bX (bX rfl))
  (hd:(y==("__debug__":Str))=false:=by rfl)(eH:(y==("__classdict__":Str))=false:=by rfl)
  (cT:attributeBase (.Name y p1) "pop" X.env (eval (.Name y p1) X.env)=eval (.Name y p1) X.env:=by rfl)
  (cS:(p2.endLine==aW.line)=true:=by rfl)
  (hs:swapsWith (.Call (.Attribute (.Name y p1) "pop" p2) [] [] aW) (some (.Name x pos')) pos.line X.env=pure false:=by rfl)(hf:full=true\/sc.names.lookup x=some .local:=by first | exact di rfl | exact bX rfl):
  SV X (.Assign [.Name x pos'] (.Call (.Attribute (.Name y p1) "pop" p2) [] [] aW) pos) (lW i j):=b1e h.uH (h.ix hN) (h.loc hx) (h.ix Ic) (h.qP hv) hd eH cT cS hs (h.uy hf)
theorem Fx.item(h:Fx X N sc k full)(i:Nat){x:Str}(ha:EV X e fa)(hb:EV X b fb)(hN:N[i]?=some x:=by rfl)(hv:jV sc x:=by first | exact di rfl | exact bX (di rfl) | exact bX (bX rfl))(hd:(x==("__debug__":Str))=false:=by rfl)
  (eH:(x==("__classdict__":Str))=false:=by rfl)
  (jB:∀v,assign (.Subscript (.Name x p1) b p2) X.env v=(do
   let ov <-holding [v] (eval (.Name x p1) X.env)
   let iv <-holding [v,ov] (eval b X.env)
   standAt p2
   holding [v,ov,iv] (setItem ov iv v)
   release [v,ov,iv] []):=by intro _;rfl)
  (hs:swapsWithSole [.Subscript (.Name x p1) b p2] e pos.line X.env=pure false:=by rfl)(hw:swappedStores [.Subscript (.Name x p1) b p2] e X.env=pure none:=by rfl)
  (h1:(assignEach [.Subscript (.Name x p1) b p2] X.env).map (·.2)=[assign (.Subscript (.Name x p1) b p2) X.env]:=by rfl):
  SV X (.Assign [.Subscript (.Name x p1) b p2] e pos) (xo i fa fb):=b51 ha hb (h.ix hN) (h.qP hv) hd eH jB hs hw h1
end
theorem zw{us:List Value}(h:us.length=0):us=[]:=by
 exact Bj.mp h
theorem PN{us:List Value}(h:us.length=1):∃a0,us=[a0]:=by
 cases us with
 | nil=>cases h
 | cons a r =>
  have:=zw (us:=r) (by simpa using h)
  exact ⟨a,by rw [this]⟩
theorem Pw{us:List Value}(h:us.length=2):∃a0 a1,us=[a0,a1]:=by
 cases us with
 | nil=>cases h
 | cons a r =>
  have:=PN (us:=r) (by simpa using h)
  obtain ⟨b0,e⟩:=this
  exact ⟨a,b0,by rw [e]⟩
theorem Px{us:List Value}(h:us.length=3):∃a0 a1 a2,us=[a0,a1,a2]:=by
 cases us with
 | nil=>cases h
 | cons a r =>
  have:=Pw (us:=r) (by simpa using h)
  obtain ⟨b0,b1,e⟩:=this
  exact ⟨a,b0,b1,by rw [e]⟩
theorem Py{us:List Value}(h:us.length=4):∃a0 a1 a2 a3,us=[a0,a1,a2,a3]:=by
 cases us with
 | nil=>cases h
 | cons a r =>
  have:=Px (us:=r) (by simpa using h)
  obtain ⟨b0,b1,b2,e⟩:=this
  exact ⟨a,b0,b1,b2,by rw [e]⟩
theorem zu{us:List Value}(h:us.length=5):∃a0 a1 a2 a3 a4,us=[a0,a1,a2,a3,a4]:=by
 cases us with
 | nil=>cases h
 | cons a r =>
  have:=Py (us:=r) (by simpa using h)
  obtain ⟨b0,b1,b2,b3,e⟩:=this
  exact ⟨a,b0,b1,b2,b3,by rw [e]⟩
section
variable {P:Program}{w:World}{K:aJ}{mg:Str->Option Value}{base:Heap}
theorem Iq{x qual:Str}{st:Stmt}{f:Addr}{fd:FuncData}{N ps:List Str}{k:Nat}{F:SF}(Fn:um K x qual st f fd)(S:dI N ps (fK st))
  (eI:∀X:Cx,X.prog=P->X.w=w->X.K=K->X.mg=mg->X.base=base->Fx X N (fK st) k->nE X (iH st) F):cW P w K mg base jX (k+1) f fd ps (nI K ps.length (aE F N.length)):=
 Ir Fn S λdh A outer s H E hr=>eI _ rfl rfl rfl rfl rfl ⟨rfl,rfl,rfl,λ_ _=>rfl,OF,hr,S.nd,λ_=>⟨rfl,rfl,rfl⟩⟩
end
def Oz(P:Program)(w:World)(K:aJ)(mg:Str->Option Value)(base:Heap)(x:Str)(st:Stmt)(ps:List Str)(j:Nat)(φ:List D->Option Sl):Prop:=∃f fd,Def K mg x st ps f fd/\cW P w K mg base jX j f fd ps (nI K ps.length φ)
inductive Sx:Cx->Program->World->aJ->(Str->Option Value)->Heap->Prop
 | mk (X:Cx):Sx X X.prog X.w X.K X.mg X.base
theorem AK{P:Program}{w:World}{K:aJ}{mg:Str->Option Value}{base:Heap}{x:Str}{st:Stmt}{f:Addr}{fd:FuncData}{N ps:List Str}{k:Nat}{F:SF}(D':Def K mg x st ps f fd)
  (eI:∀X:Cx,Sx X P w K mg base->Fx X N (fK st) k->nE X (iH st) F)(S:dI N ps (fK st):=by exact ⟨rfl,rfl,rfl,by decide +kernel,rfl,by decide +kernel,by decide +kernel⟩):cW P w K mg base jX (k+1) f fd ps (nI K ps.length (aE F N.length)):=
 Iq D'.fn S λX e1 e2 e3 e4 e5=>by subst e1 e2 e3 e4 e5;exact eI X (.mk X)
theorem aM{P:Program}{w:World}{K:aJ}{mg:Str->Option Value}{base:Heap}{x:Str}{st:Stmt}{f:Addr}{fd:FuncData}{N ps:List Str}{k:Nat}{F:SF}(D':Def K mg x st ps f fd)
  (eI:∀X:Cx,Sx X P w K mg base->Fx X N (fK st) k->nE X (iH st) F)(S:dI N ps (fK st):=by exact ⟨rfl,rfl,rfl,by decide +kernel,rfl,by decide +kernel,by decide +kernel⟩):Oz P w K mg base x st ps (k+1) (aE F N.length):=
 ⟨f,fd,D',AK D' eI S⟩
theorem gc{X X':Cx}{x:Str}{st:Stmt}{ps:List Str}{j:Nat}{φ:List D->Option Sl}(e1:X'.prog=X.prog)(e2:X'.w=X.w)(e3:X'.K=X.K)(e4:X'.mg=X.mg)(e5:X'.base=X.base)(O:Oz X.prog X.w X.K X.mg X.base x st ps j φ):Oz X'.prog X'.w X'.K X'.mg X'.base x st ps j φ:=by
 rw [e1,e2,e3,e4,e5];exact O
theorem Fx.cl{X:Cx}{N:List Str}{sc:Scope}{k j:Nat}{full:Bool}{x:Str}{st:Stmt}{ps:List Str}{φ:List D->Option Sl}{e:Expr}{es:List Expr}{fs:En->Option (List D)}{p pos:Pos}(h:Fx X N sc k full)(O:Oz X.prog X.w X.K X.mg X.base x st ps j φ)(ha:AV X (e::es) fs)(hj:j<=k:=by decide)(hg:sc.names.lookup x=some .globalImplicit:=by rfl)(kG:(x==("__debug__":Str))=false:=by decide)(he:starEach (e::es) X.env=(false,eval e X.env)::starEach es X.env:=by rfl)(dk:(backTo pos (starEach es X.env)).any (·.1)=false:=by rfl):
  EV X (.Call (.Name x p) (e::es) [] pos) (aG ps.length φ fs):=by
 obtain ⟨f,fd,D',F⟩:=O
 exact b6S F (h.room.mono hj) (h.g hg) D'.m D'.fn.kp D'.bd ha kG he dk
structure FI(K:aJ)(n:Str)(t:Stmt)(f:Addr)(od an:Option Addr)(sl:Array (Option Value))(oc kV dc pm cd ct:Value):Prop where
 a:m8 K mainGlobals n=some (some (.ref f))
 l:K.lookup f=some ⟨oc,od,.func (ju n n (j8 t) (iH t) (fK t) .none kV dc pm an cd ct),sl⟩
 c:DY K cd n=true
 k:Bd K (.ref f)=true
section
variable {K:aJ}{mg:Str->Option Value}{h:Heap}{n:Str}{t:Stmt}{f:Addr}{od an:Option Addr}{sl:Array (Option Value)}{oc kV dc pm cd ct:Value}{ps:List Str}
theorem zk(X:K.In h)(G:h.Ns mainGlobals mg)(i:FI K n t f od an sl oc kV dc pm cd ct)(hb:∀(kV doc pm:Value) (an:Option Addr) (dh ct:Value) (us:List Value),us.length=ps.length->bindArgs (ju n n (j8 t) (iH t) (fK t) .none kV doc pm an dh ct) ⟨us,[]⟩=pure (ps.zip us)):Def K mg n t ps f (ju n n (j8 t) (iH t) (fK t) .none kV dc pm an cd ct):=
 ⟨Qw i.l i.c i.k,(Qw i.l i.c i.k).binds hb,IX X G i.a⟩
theorem c7(X:K.In h)(G:h.Ns mainGlobals mg)(i:FI K n t f od an sl oc kV dc pm cd ct)(hb:∀(kV doc pm:Value) (an:Option Addr) (dh ct a0:Value),bindArgs (ju n n (j8 t) (iH t) (fK t) .none kV doc pm an dh ct) ⟨[a0],[]⟩=pure (ps.zip [a0]):=by intros;rfl)(hl:ps.length=1:=by rfl):Def K mg n t ps f (ju n n (j8 t) (iH t) (fK t) .none kV dc pm an cd ct):=
 zk X G i λ_ _ _ _ _ _ us hu=>by obtain ⟨_,rfl⟩:=PN (hu.trans hl);exact hb ..
theorem bJ(X:K.In h)(G:h.Ns mainGlobals mg)(i:FI K n t f od an sl oc kV dc pm cd ct)(hb:∀(kV doc pm:Value) (an:Option Addr) (dh ct a0 a1:Value),bindArgs (ju n n (j8 t) (iH t) (fK t) .none kV doc pm an dh ct) ⟨[a0,a1],[]⟩=pure (ps.zip [a0,a1]):=by intros;rfl)(hl:ps.length=2:=by rfl):Def K mg n t ps f (ju n n (j8 t) (iH t) (fK t) .none kV dc pm an cd ct):=
 zk X G i λ_ _ _ _ _ _ us hu=>by obtain ⟨_,_,rfl⟩:=Pw (hu.trans hl);exact hb ..
theorem nP(X:K.In h)(G:h.Ns mainGlobals mg)(i:FI K n t f od an sl oc kV dc pm cd ct)(hb:∀(kV doc pm:Value) (an:Option Addr) (dh ct a0 a1 a2:Value),bindArgs (ju n n (j8 t) (iH t) (fK t) .none kV doc pm an dh ct) ⟨[a0,a1,a2],[]⟩=pure (ps.zip [a0,a1,a2]):=by intros;rfl)(hl:ps.length=3:=by rfl):Def K mg n t ps f (ju n n (j8 t) (iH t) (fK t) .none kV dc pm an cd ct):=
 zk X G i λ_ _ _ _ _ _ us hu=>by obtain ⟨_,_,_,rfl⟩:=Px (hu.trans hl);exact hb ..
theorem uJ(X:K.In h)(G:h.Ns mainGlobals mg)(i:FI K n t f od an sl oc kV dc pm cd ct)(hb:∀(kV doc pm:Value) (an:Option Addr) (dh ct a0 a1 a2 a3:Value),bindArgs (ju n n (j8 t) (iH t) (fK t) .none kV doc pm an dh ct) ⟨[a0,a1,a2,a3],[]⟩=pure (ps.zip [a0,a1,a2,a3]):=by intros;rfl)(hl:ps.length=4:=by rfl):Def K mg n t ps f (ju n n (j8 t) (iH t) (fK t) .none kV dc pm an cd ct):=
 zk X G i λ_ _ _ _ _ _ us hu=>by obtain ⟨_,_,_,_,rfl⟩:=Py (hu.trans hl);exact hb ..
theorem GZ(X:K.In h)(G:h.Ns mainGlobals mg)(i:FI K n t f od an sl oc kV dc pm cd ct)(hb:∀(kV doc pm:Value) (an:Option Addr) (dh ct a0 a1 a2 a3 a4:Value),bindArgs (ju n n (j8 t) (iH t) (fK t) .none kV doc pm an dh ct) ⟨[a0,a1,a2,a3,a4],[]⟩=pure (ps.zip [a0,a1,a2,a3,a4]):=by intros;rfl)(hl:ps.length=5:=by rfl):Def K mg n t ps f (ju n n (j8 t) (iH t) (fK t) .none kV dc pm an cd ct):=
 zk X G i λ_ _ _ _ _ _ us hu=>by obtain ⟨_,_,_,_,_,rfl⟩:=zu (hu.trans hl);exact hb ..
end
end DL
namespace DL
open PySem L2
theorem b8O(i j:Int):aP (.int i) (.int j)=some (.sh (.int (i-j))):=rfl
end DL
namespace DL
open PySem PySem.Spec PyProof.Rows L2
def vU(K:aJ)(O:Addr->Prop)(J:It)(H:Hp)(ds:List D):Prop:=
 ∀(O':Addr->Prop) (H2:Hp),(∀q u,H q=some u->¬O q->H2 q=some u/\¬O' q)->(∀q,O' q->H2 q≠none) ->
  ∀i:Nat,(∀d,ds[i]?=some d->J.go i H2/\∀x H3,J.ur i H2 x H3->aq H2 H3/\Is K O' H3 x d)/\(ds.length<=i->J.stop i H2)
def IV(X:Cx)(tg it:Expr)(f:En->Option (List D)):Prop:=
 ∃wi:TI,PI X tg it wi/\∀(O:Addr->Prop) (B:Hp) (σ:L2.St) (H:Hp) (env:En) (ds:List D) (R:It->Hp->Prop),Rel X.K O B σ H env->f env=some ds ->
  (∀J H',aq H H'->vU X.K (OO O σ env) J H' ds->R J H')->wi σ H R
theorem KP{K:aJ}{O:Addr->Prop}{H H2:Hp}{k:Bool}{p:Addr}{xs:List V}(kp:∀q u,H q=some u->¬O q->H2 q=some u)(h:Sq K H k p xs)(hp:¬O p):Sq K H2 k p xs:=by
 cases k with
 | true =>
  rcases h with (h | ⟨o,h⟩) | h
  .exact .inl (.inl (kp _ _ h hp))
  .exact .inl (.inr ⟨o,kp _ _ h hp⟩)
  .exact .inr h
 | false =>
  rcases h with (h | ⟨o,h⟩) | h
  .exact .inl (.inl (kp _ _ h hp))
  .exact .inl (.inr ⟨o,kp _ _ h hp⟩)
  .exact .inr h
noncomputable def e9(f:En->Option Sl):En->Option (List D):=λenv=>(f env).bind λr=>(eh r.d).map (·.2)
section
variable {X:Cx}{tg it:Expr}{fa:En->Option Sl}
theorem qa(hi:EV X it fa):IV X tg it (e9 fa):=by
 obtain ⟨ti,pi,ki⟩:=hi
 refine ⟨_,Qa pi,λO B σ H env ds R Rl e q=>?_⟩
 obtain ⟨r,e1,e2⟩:=bind_some e
 obtain ⟨⟨k,gp⟩,e4,e5⟩:=map_some e2
 cases e5
 refine ki O B σ H env r _ Rl e1 λv H1 s1 r1=>?_
 obtain ⟨p,xs,rfl,h1,h2,h3⟩:=(r1.is λq=>Rl.oo).nJ e4
 refine ⟨p,rfl,?_⟩
 have key:∀(O':Addr->Prop) (H2:Hp),(∀q u,H1 q=some u->¬OO O σ env q->H2 q=some u/\¬O' q)->Sq X.K H2 k p xs/\aK X.K O' H2 xs gp:=λO' H2 kp=>by
  refine ⟨?_,h2.map (λq hq hn=>?_) λq u e n=>(kp q u e n).1⟩
  .rcases h3 with h3 | h3
   .exact KP (λq u e n=>(kp q u e n).1) h1 h3
   .exact h3 H2
  .cases e:H1 q with
   | none=>exact (hq e).elim
   | some u=>exact (kp q u e hn).2
 cases k with
 | true =>
  refine .inl ⟨⟨xs,h1⟩,q _ H1 s1 λO' H2 kp hO i=>⟨λd hd=>?_,λhl=>?_⟩⟩
  .obtain ⟨hq,hs⟩:=key O' H2 kp
   obtain ⟨x,hx,pN⟩:=hs.get hd
   refine ⟨⟨xs,x,hq,hx⟩,λy H3 hy=>?_⟩
   obtain ⟨rfl,hy⟩:=hy
   have:=hy xs hq
   rw [hx] at this
   cases this
   exact ⟨aq.refl _,pN⟩
  .obtain ⟨hq,hs⟩:=key O' H2 kp
   exact ⟨xs,hq,by rw [hs.length];exact hl⟩
 | false =>
  refine .inr ⟨⟨xs,h1⟩,q _ H1 s1 λO' H2 kp hO i=>⟨λd hd=>?_,λhl=>?_⟩⟩
  .obtain ⟨hq,hs⟩:=key O' H2 kp
   obtain ⟨x,hx,pN⟩:=hs.get hd
   refine ⟨⟨xs,x,hq,hx⟩,λy H3 hy=>?_⟩
   obtain ⟨rfl,hy⟩:=hy
   have:=hy xs hq
   rw [hx] at this
   cases this
   exact ⟨aq.refl _,pN⟩
  .obtain ⟨hq,hs⟩:=key O' H2 kp
   exact ⟨xs,hq,by rw [hs.length];exact hl⟩
theorem Ry{K:aJ}{O:Addr->Prop}{H:Hp}(lo:Int)(n:Nat):vU K O (nG lo n) H (ei lo n):=λO' H2 _ _ i=>by
 refine ⟨λd hd=>?_,λhl=>show n<=i by simpa [ei] using hl⟩
 unfold ei at hd
 rw [kT] at hd
 obtain ⟨k,hk,rfl⟩:=map_some hd
 obtain ⟨hi,rfl⟩:=gH.mp hk
 rw [qA] at hi
 refine ⟨hi,λx H3 hy=>?_⟩
 obtain ⟨rfl,rfl⟩:=hy
 rw [O2]
 exact ⟨aq.refl _,Is.int _⟩
noncomputable def eL(h:List D->Option (List D))(f:En->Option (List D)):En->Option (List D):=λenv=>(f env).bind h
noncomputable def vM(f:En->Option (List D))(g:GF)(F:SF):SF:=λenv=>(f env).bind λds=>forL g F ds env
theorem KQ(hp:PassesOwn (model X.prog X.w) X.A X.env X.xe)(hc:X.calm=true)(hi:IV X tg it fi)(hg:GV X tg g)(hb:nE X body F)
  (hs:∀x,foldedSetIterable it X.env x=pure x:=by intro _;rfl):SV X (.For tg it body [] pos) (vM fi g F):=by
 obtain ⟨wi,pi,ki⟩:=hi
 obtain ⟨qQ,pg,kg⟩:=hg
 obtain ⟨tb,pb,kb⟩:=hb
 refine ⟨_,Kt hp hc pi pg pb hs,λO B σ H env fl ai D R e q=>?_⟩
 obtain ⟨ds,e1,e2⟩:=bind_some e
 refine ki O B σ H env ds _ R e1 λJ H1 s1 wk=>?_
 have q':du X.K O B σ H1 env D fl ai:=q.from (Gd.refl s1)
 refine ⟨λi m cO H2=>m=ds.length-i/\i<=ds.length/\Left X.K O B σ H1 env g F ds fl ai i cO H2,⟨ds.length,by simp,n6 _,⟨env,R.grow s1,Gd.refl (aq.refl _),e2⟩⟩,?_⟩
 rintro i m cO H2 ⟨rfl,hi,L⟩
 obtain ⟨bq,R2,gd,ee⟩:=id L
 have w:=wk (OO O cO bq) H2 (λa u ea na=>by
  obtain ⟨h1,h2⟩:=gd a u ea λz=>na (.inr z)
  exact ⟨h1,λz=>z.elim (λz=>na (.inl z)) h2⟩) (λa=>R2.oo) i
 by_cases aT:i<ds.length
 .obtain ⟨go,yl⟩:=w.1 ds[i] (by simp [aT])
  refine .inr ⟨go,Left X.K O B σ H1 env g F ds fl ai (i+1),λaI H' p'=>⟨ds.length-(i+1),by ext aT,rfl,aT,p'⟩,λx H3 hy=>?_⟩
  obtain ⟨s3,hx⟩:=yl x H3 hy
  have Aq:ds.drop i=ds[i]::ds.drop (i+1):=ni aT
  rw [Aq,forL] at ee
  cases HR:g ds[i] bq with
  | none=>rw [HR] at ee;cases ee
  | some mh =>
   rw [HR] at ee
   refine kg O B cO H3 bq mh x ds[i] _ (R2.grow s3) hx HR λTY H4 R4 g4=>?_
   dsimp only at ee
   cases hF:F mh with
   | none=>rw [hF] at ee;cases ee
   | some y =>
    obtain ⟨f2,gg⟩:=y
    rw [hF] at ee
    have Ii:=gd.trans ((Gd.refl s3).trans g4)
    refine kb O B TY H4 mh f2 gg _ R4 hF ?_
    cases f2 with
    | nx=>exact λGa H5 R5 g5=>⟨gg,R5,Ii.trans g5,ee⟩
    | ct=>exact λGa H5 R5 g5=>⟨gg,R5,Ii.trans g5,ee⟩
    | bk=>cases ee;exact λGa H5 R5 g5=>q' Ga H5 R5 (Ii.trans g5)
    | rt r=>cases ee;exact q'
 .exact .inl ⟨w.2 (by ext aT),Ff (by ext aT) q' L⟩
end
noncomputable def rl(cp sc:Scope):Scope:=
 { cp with names:=cp.names.map λ(n,k)=>if (k==.free&&sc.kind==.function&&sc.names.lookup n==some .cell) then (n,.cell) else (n,k) }
theorem LJ{sc:Scope}:∀{names:List (Str×NameKind)} {x:Str} {k:NameKind},names.lookup x=some k ->
  (names.map λ(n,k)=>if (k==n5&&sc.kind==.function&&sc.names.lookup n==some .cell) then (n,vn) else (n,k)).lookup x=some (if (k==n5&&sc.kind==.function&&sc.names.lookup x==some .cell) then vn else k)
 | [],_,_,h=>by simp at h
 | (n,k')::r,x,k,h=>by
  have ih:=@LJ sc r x k
  show List.lookup x ((if (k'==n5&&sc.kind==.function&&sc.names.lookup n==some .cell)=true then (n,vn) else (n,k'))::_)=_
  cases hx:x==n with
  | true =>
   simp only [n9,hx] at h
   cases h
   have e:x=n:=by simpa using hx
   subst e
   split<;>simp [n9]
  | false =>
   simp only [n9,hx] at h
   split
   .simp only [n9,hx];exact ih h
   .simp only [n9,hx];exact ih h
theorem b0Q{sc:Scope}:∀{names:List (Str×NameKind)} {x:Str} {k:NameKind},
  (names.map λ(n,k)=>if (k==n5&&sc.kind==.function&&sc.names.lookup n==some .cell) then (n,vn) else (n,k)).lookup x=some k->∃k',names.lookup x=some k'/\k=if (k'==n5&&sc.kind==.function&&sc.names.lookup x==some .cell) then vn else k'
 | names,x,k,h=>by
  cases e:names.lookup x with
  | some k'=>have:=LJ (sc:=sc) e;rw [h] at this;exact ⟨k',rfl,dj this⟩
  | none =>
   exfalso
   induction names with
   | nil=>simp at h
   | cons y r ih =>
    obtain ⟨n,k'⟩:=y
    have h':List.lookup x ((if (k'==n5&&sc.kind==.function&&sc.names.lookup n==some .cell)=true then (n,vn) else (n,k'))::(r.map λ(n,k)=>if (k==n5&&sc.kind==.function&&sc.names.lookup n==some .cell) then (n,vn) else (n,k)))=some k:=h
    cases hx:x==n with
    | true=>simp [n9,hx] at e
    | false =>
     simp only [n9,hx] at e
     apply ih _ e
     split at h'
     .simpa only [n9,hx] using h'
     .simpa only [n9,hx] using h'
noncomputable def fA(cells:List (Str×Addr)):List (Str×NameKind)->List (Str×Addr)->List (Str×Addr)
 | [],acc=>acc
 | (n,k)::r,acc=>fA cells r (if k==.free then (n,(cells.lookup n).getD 0)::acc else acc)
theorem L6:∀(names:List (Str×NameKind)) (acc:List (Str×Addr)),(∀y∈names,y.2=.free->∃c,env.cells.lookup y.1=some c) ->
  (forIn names acc λ(x:Str×NameKind) r=>(if (x.2==.free)=true then do let a <-cellOf env x.1;pure (qy ((x.1,a)::r)) else pure (qy r):Sem (ForInStep (List (Str×Addr)))))=pure (fA env.cells names acc)
 | [],acc,_=>rfl
 | (n,k)::r,acc,h=>by
  rw [DN]
  have hr:∀y∈r,y.2=.free->∃c,env.cells.lookup y.1=some c:=λy hy=>h y (bG _ hy)
  cases hk:k==n5 with
  | true =>
   have ek:k=.free:=by simpa using hk
   obtain ⟨c,hc⟩:=h (n,k) bw ek
   replace hc:env.cells.lookup n=some c:=hc
   have uZ:cellOf env n=pure c:=by unfold cellOf;rw [hc]
   simp only [if_true]
   rw [uZ]
   simp only [pure_bind]
   rw [L6 r _ hr]
   conv=>rhs;unfold fA
   rw [hk,hc]
   rfl
  | false =>
   simp only [oh,if_false,pure_bind]
   rw [L6 r _ hr]
   conv=>rhs;unfold fA
   rw [hk]
   rfl
theorem a71(h:∀y∈sc.names,y.2=.free->∃c,env.cells.lookup y.1=some c):closureFor sc env=pure (fA env.cells sc.names []):=by
 unfold closureFor
 rw [<-L6 sc.names [] h]
 show (forIn sc.names [] _ >>= λcs=>pure cs)=_
 rw [bind_pure]
theorem Ri:∀(names:List (Str×NameKind)) (acc:List (Str×Addr)) {c:Addr},(fA cells names acc).lookup x=some c->acc.lookup x=some c\/((x,n5)∈names/\c=(cells.lookup x).getD 0)
 | [],acc,c,h=>.inl h
 | (n,k)::r,acc,c,h=>by
  unfold fA at h
  rcases Ri r _ h with h1 | ⟨h,e⟩
  .clear h
   have h:=h1
   clear h1
   cases hk:k==n5 with
   | false=>rw [hk] at h;exact .inl (by simpa using h)
   | true =>
    rw [hk] at h
    simp only [if_true] at h
    have ek:k=.free:=by simpa using hk
    cases hx:x==n with
    | true =>
     simp only [n9,hx] at h
     have e:x=n:=by simpa using hx
     subst e ek
     exact .inr ⟨bw,(dj h).symm⟩
    | false =>
     simp only [n9,hx] at h
     exact .inl h
  .exact .inr ⟨bG _ h,e⟩
theorem Se:∀(names:List (Str×NameKind)) (acc:List (Str×Addr)),((∃c,acc.lookup x=some c)\/(x,n5)∈names)->∃c,(fA cells names acc).lookup x=some c
 | [],acc,h=>h.elim id λz=>nomatch z
 | (n,k)::r,acc,h=>by
  unfold fA
  refine Se r _ ?_
  cases hk:k==n5 with
  | false =>
   rcases h with h | h
   .exact .inl (by simpa using h)
   .rcases br.mp h with e | h
    .cases e;simp at hk
    .exact .inr h
  | true =>
   simp only [if_true]
   cases hx:x==n with
   | true=>exact .inl ⟨_,by simp only [n9,hx];rfl⟩
   | false =>
    rcases h with ⟨c,h⟩ | h
    .exact .inl ⟨c,by simp only [n9,hx];exact h⟩
    .rcases br.mp h with e | h
     .cases e;simp at hx
     .exact .inr h
structure cM(N:List Str)(sc:Scope)(N':List Str)(caps:List Nat)(nt:Nat)(cp:Scope):Prop where
 kind:cp.kind=.function
 loc:∀y∈cp.names,y.2=.local->cp.names.lookup y.1=some .local
 pD:∀y∈cp.names,y.2≠.cell
 free:∀y∈cp.names,y.2=.free->sc.names.lookup y.1=some .cell\/sc.names.lookup y.1=some .free
 nd:N'.Nodup
 len:N'.length=nt+caps.length
 cap:caps.map (λi=>N[i]?)=(N'.drop nt).map some
 fr:∀x∈N'.drop nt,cp.names.lookup x=some .free
theorem Mm{names:List (Str×NameKind)}{x:Str}(h:names.lookup x=some k):(x,k)∈names:=xk h
noncomputable def iX:List Nat->En->Option En
 | [],_=>some []
 | i::is,env=>match env[i]? with
  | some (.sh d)=>(iX is env).map (Sl.sh d::·)
  | _=>none
noncomputable def nu(g:GF)(fc:En->Option Bool)(fe:En->Option Sl):List D->En->Option (List D)
 | [],_=>some []
 | d::ds,e=>(g d e).bind λe1=>(fc e1).bind λb=>if b=true then (fe e1).bind λr=>(nu g fc fe ds e1).bind λrs=>some (r.d::rs) else nu g fc fe ds e1
noncomputable def fR(fi:En->Option (List D))(caps:List Nat)(nt:Nat)(g:GF)(fc:En->Option Bool)(fe:En->Option Sl):En->Option Sl:=λenv =>
 (fi env).bind λds=>(iX caps env).bind λcs=>if ds.length<=16777216 then (nu g fc fe ds (jo nt Sl.no++cs)).map Sl.ow else none
noncomputable def dU:List Nat->L2.St->L2.St
 | [],_=>[]
 | i::is,σ=>(σ[i]?).getD none::dU is σ
theorem QO{K:aJ}{O:Addr->Prop}{B:Hp}{σ:L2.St}{H:Hp}{env:En}(R:Rel K O B σ H env):∀{caps:List Nat} {cs:En},iX caps env=some cs->cs.length=caps.length/\(dU caps σ).length=caps.length /\
  ∀(j:Nat) (s:Sl),cs[j]?=some s->∃(d:D) (v:V) (i:Nat),s=Sl.sh d/\(dU caps σ)[j]?=some (some v)/\Is K (OO O σ env) H v d/\caps[j]?=some i/\σ[i]?=some (some v)
 | [],cs,e=>by cases e;exact ⟨rfl,rfl,λj s h=>by simp at h⟩
 | i::is,cs,e=>by
  unfold iX at e
  cases h:env[i]? with
  | none=>rw [h] at e;cases e
  | some s =>
   rw [h] at e
   cases s with
   | no=>cases e
   | ow ds=>cases e
   | dw ds=>cases e
   | sh d =>
    obtain ⟨cs',e1,rfl⟩:=map_some (show (iX is env).map (Sl.sh d::·)=some cs from e)
    obtain ⟨l1,l2,ih⟩:=QO R e1
    obtain ⟨v,hv,hi⟩:=R.sh i d h
    refine ⟨by simp [l1],by simp [dU,l2],λj s hj=>?_⟩
    cases j with
    | zero=>simp at hj;subst hj;exact ⟨d,v,i,rfl,by simp [dU,hv],hi,rfl,hv⟩
    | succ j =>
     obtain ⟨d',v',i',a1,a2,a3,a4,a5⟩:=ih j s (by simpa using hj)
     exact ⟨d',v',i',a1,by simpa [dU] using a2,a3,by simpa using a4,a5⟩
def CM(X:Cx)(ifs:List Expr)(f:En->Option Bool):Prop:=
 ∃t:TT,(∀(pins:List (Addr×Obj)) (s:Shared) (σ:L2.St) (H:Hp) (Q:Bool->Hp->Prop),Inv X pins σ H s->t σ H Q ->
   wpAny (model X.prog X.w) X.A (forIn ifs true λc r=>if r=true then do let ok <-isTrue c X.env (eval c X.env);pure (qy ok) else pure (qy r)) (TP X pins σ Q) X.xe s) /\
  ∀(O:Addr->Prop) (B:Hp) (σ:L2.St) (H:Hp) (env:En) (b:Bool) (Q:Bool->Hp->Prop),Rel X.K O B σ H env->f env=some b->(∀H',aq H H'->Q b H')->t σ H Q
noncomputable def iO:En->Option Bool:=λ_=>some true
theorem lT:CM X [] iO:=⟨λ_ H Q=>Q true H,λpins s σ H Q I h=>wpAny_tests_nil ⟨H,I,h⟩,λO B σ H env b Q R e q=>by cases e;exact q H (aq.refl _)⟩
theorem b8K(h:TV X c f):CM X [c] f:=by
 obtain ⟨t,p,k⟩:=h
 exact ⟨t,λpins s σ H Q I h=>wpAny_tests_one (p pins s σ H Q I h),k⟩
section
variable {prog:Program}{w:World}{A:Around}{R:Result->Shared->Prop}{s:Shared}
theorem a9D{elt target iter:Expr}{ifs:List Expr}{scope:Scope}{pos:Pos}{it acc:Value}{env:Env}(I:Nat->Shared->Prop){N:Value->Shared->Prop}(hN:∀x s',N x s'->False)
  (turn:∀n s,I n s->wpAny (model prog w) A (pyNext it) (λr bb=>match r with
   | none=>R (.ok .next) bb
   | some v=>wpAny (model prog w) A (letOwnedTupleGo target it v) (λ_ sJ=>wpAny (model prog w) A (assign target env v) (λ_ kf =>
     wpAny (model prog w) A (forIn ifs true λc r=>if r=true then do let ok <-isTrue c env (eval c env);pure (qy ok) else pure (qy r)) (λok o8 =>
      if ok=true then wpAny (model prog w) A (eval elt env) (λx yC =>
       wpAny (model prog w) A (call (.builtin "list.append") [acc,x]) (λ_ yB=>∃m,m<n/\I m yB) N yC) N o8
      else ∃m,m<n/\I m o8) N kf) N sJ) N bb) N s)
  (n:Nat)(h:I n s):
  codeAny (model prog w) A (.compLoop (.ListComp elt [⟨target,iter,ifs,0⟩] scope pos) 0 it acc env) R s:=by
 refine codeAny_loop rfl I (λn s hI=>?_) n h
 show wpAny _ A ((compTurn (.ListComp elt [⟨target,iter,ifs,0⟩] scope pos) 0 it acc env).onRaise (λx=>do noteFrame x env;theTreesLotGoes x)) _ _ s
 refine wpAny_noted ?_
 rw [compTurn_list]
 have no:∀{P:Value->Shared->Prop} (x:Value) (s':Shared),N x s'->P x s':=λx s' z=>(hN x s' z).elim
 refine ao (IZ (ao (m9 (turn n s hI) (λr bb h₁=>?_) no)))
 cases r with
 | none=>exact aU h₁
 | some v =>
  refine ao (m9 h₁ (λ_ sJ zQ=>?_) no)
  refine ao (m9 zQ (λ_ kf Hc=>ao (m9 Hc (λok o8 zP=>?_) no)) no)
  cases ok with
  | false=>exact aU ⟨rfl,zP⟩
  | true =>
   exact ao (ao (m9 zP (λx yC Hb=>ao (m9 Hb (λ_ yB Ha=>aU (aU ⟨rfl,Ha⟩)) no)) no))
end
section
variable {X:Cx}{N N':List Str}{sc cp:Scope}{k:Nat}{full:Bool}{elt iter tg:Expr}{ifs:List Expr}{pos:Pos}{fi:En->Option (List D)}{caps:List Nat}{nt:Nat}{g:GF}{fc:En->Option Bool}{fe:En->Option Sl}
noncomputable def tD(X:Cx)(N':List Str)(cp:Scope)(ex:List Addr)(s:Shared)(H:Hp):Cx where
 prog:=X.prog
 w:=X.w
 K:=X.K
 mg:=X.mg
 base:=X.base
 A:=X.A
 N:=N'
 dB:=s
 qj:=H
 env:=compEnvC cp (fA X.env.cells cp.names []) s.heap.objs.size X.env
 outer:=X.stack
 stack:=X.stack
 ex:=ex
 fn:=λ_=>false
 calm:=true
 pn:=[]
 xe:=λ_ _=>False
theorem tY(C:cM N sc N' caps nt cp)(oM:X.env.scope=sc){pins:List (Addr×Obj)}{σ:L2.St}{H:Hp}{s:Shared}(I:Inv X pins σ H s){x:Str}{c:Addr}(h:(fA X.env.cells cp.names []).lookup x=some c):X.env.cells.lookup x=some c:=by
 rcases Ri _ _ h with h | ⟨h,e⟩
 .simp at h
 .obtain ⟨c',tx⟩:=I.ok.has x (by
   show X.env.scope.names.lookup x=_\/X.env.scope.names.lookup x=_
   rw [oM]
   exact C.free _ h rfl)
  rw [tx] at e
  rw [e];exact tx
theorem Qq(h:cp.names.lookup x=some .free):∃c,(fA X.env.cells cp.names []).lookup x=some c:=Se _ _ (.inr (Mm h))
theorem b4R(C:cM N sc N' caps nt cp)(oM:X.env.scope=sc)(hc:X.calm=true){pins:List (Addr×Obj)}{σ:L2.St}{H:Hp}{s s3:Shared}{fp:List Addr}(I:Inv X pins σ H s)(I3:Inv X pins σ H s3)
  (hf:∀b∈fp,cV X pins H b)(Ap:∀b∈fp,∃o,s3.heap.get? b=some o)(hs:s3.heap.objs.size=s.heap.objs.size+1):(tD X N' cp (s.heap.objs.size::fp) s3 H).Ok:=by
 have small:∀x c,X.env.cells.lookup x=some c->c<s.heap.objs.size:=λx c e=>by
  obtain ⟨v,z⟩:=I.cell x c e
  exact z.lt
 have kd:∀x,((tD X N' cp (s.heap.objs.size::fp) s3 H).env.kindOf x=some .cell\/(tD X N' cp (s.heap.objs.size::fp) s3 H).env.kindOf x=some .free)->cp.names.lookup x=some .free:=λx h=>by
  have h':∃k,(rl cp X.env.scope).names.lookup x=some k/\(k=.cell\/k=.free):=h.elim (λz=>⟨_,z,.inl rfl⟩) λz=>⟨_,z,.inr rfl⟩
  obtain ⟨k,e,hk⟩:=h'
  obtain ⟨k',e1,e2⟩:=b0Q e
  have nc:k'≠.cell:=C.pD _ (Mm e1)
  by_cases tq:(k'==n5&&X.env.scope.kind==.function&&X.env.scope.names.lookup x==some .cell)=true
  .have:k'=.free:=by
    have:=(vz _ _▸(vz _ _▸tq).1).1
    simpa using this
   rw [e1,this]
  .rw [if_neg tq] at e2
   subst e2
   rcases hk with rfl | rfl
   .exact (nc rfl).elim
   .exact e1
 refine ⟨I.ok.mod,C.kind,I.ok.glob,I.ok.blt,bo _,λx y c h1 h2=>I.ok.inj x y c (tY C oM I h1) (tY C oM I h2),λx h=>Qq (kd x h),λ_ _ (z:false=true) _=>(nomatch z),λ_=>I.ok.hd hc,I.ok.frames,.inl rfl,λb hb=>⟨?_,λx c e=>?_⟩,λb o e=>?_,?_,λb o e hb=>?_,λb hb s9=>?_,I3.stack,λb hb=>I.mM b hb⟩
 .show b≠s3.heap.objs.size
  rcases br.mp hb with rfl | hb
  .rw [hs];exact dq (vy _)
  .obtain ⟨o,e⟩:=Ap b hb
   exact dq (bU e)
 .have e':=tY C oM I e
  rcases br.mp hb with rfl | hb
  .exact dq (small x c e')
  .exact (hf b hb).2.2.2.2.1 x c e'
 .exact I3.bs b o e
 .exact eQ I.ok.rW I3.sz
 .have lt:b<X.base.objs.size:=bU e
  have h0:=I.ok.rW
  have h1:=I.sz
  rcases br.mp hb with rfl | hb
  .exact absurd (jI lt (eQ h0 h1)) (lO _)
  .rcases (hf b hb).2.2.2.1 with z | z
   .exact I.ok.pC b o e z
   .exact absurd (jI lt (eQ h0 z)) (lO _)
 .rcases br.mp hb with rfl | hb
  .obtain ⟨_,o,ho,_⟩:=I.stack.mem s9
   exact absurd (bU ho) (lO _)
  .rcases br.mp (I.ij b s9) with z | z
   .exact (hf b hb).2.1 z
   .exact (hf b hb).2.2.1 z
theorem EU{α:Type}{n j:Nat}{x y:α}{l:List α}(h:(jo n x++l)[j]?=some y):y=x\/(n<=j/\l[j-n]?=some y):=by
 by_cases hj:j<n
 .rw [vH (by simpa using hj),Ea,if_pos hj] at h
  exact .inl (dj h).symm
 .rw [rR (by simpa using hj),D8] at h
  exact .inr ⟨by ext hj,h⟩
theorem b25(C:cM N sc N' caps nt cp)(oM:X.env.scope=sc)(hN:X.N=N)(hc:X.calm=true){pins:List (Addr×Obj)}{σ:L2.St}{H:Hp}{s s3 s4:Shared}{fp:List Addr}(I:Inv X pins σ H s)(I3:Inv X pins σ H s3)
  (hf:∀b∈fp,cV X pins H b)(Ap:∀b∈fp,∃o,s3.heap.get? b=some o)(hs:s3.heap.objs.size=s.heap.objs.size+1)
  (uV:s4.os=s3.os)(hg:s4.gens=s3.gens)(hk:∀b o,s3.heap.get? b=some o->s4.heap.get? b=some o)(sY:s4.heap.Ns s3.heap.objs.size λ_=>none):
  Inv (tD X N' cp (s.heap.objs.size::fp) s3 H) [] (jo nt none++dU caps σ) H s4:=by
 have sl:∀(caps:List Nat) (σ:L2.St),(dU caps σ).length=caps.length:=λcaps σ=>by
  induction caps with
  | nil=>rfl
  | cons i r ih=>simp [dU,ih]
 have sg:∀(caps:List Nat) (σ:L2.St) (j:Nat) (v:V),(dU caps σ)[j]?=some (some v)->∃i,caps[j]?=some i/\σ[i]?=some (some v):=λcaps σ=>by
  induction caps with
  | nil=>intro j v h;simp [dU] at h
  | cons i r ih =>
   intro j v h
   cases j with
   | zero =>
    have h':(σ[i]?).getD none=some v:=by simpa [dU] using h
    refine ⟨i,rfl,?_⟩
    cases e:σ[i]? with
    | none=>rw [e] at h';cases h'
    | some o=>rw [e] at h';exact congrArg some h'
   | succ j =>
    obtain ⟨i',e1,e2⟩:=ih j v (by simpa [dU] using h)
    exact ⟨i',by simpa using e1,e2⟩
 refine ⟨b4R C oM hc I I3 hf Ap hs,uV,by rw [hg];exact I3.bare,Un.kept hk,⟨_,sY,λi x v h1 h2 h3=>?_⟩,λx c e=>?_,I3.bh.fresh (bo _),λx c e=>I3.fm x c (tY C oM I e),λp hp=>absurd (show p∈([]:List (Addr×Obj)) from hp) (by simp),I3.bh.kept hk,?_⟩
 .have h1:N'[i]?=some x:=h1
  rcases EU h2 with z | ⟨hi,h2⟩
  .cases z
  .obtain ⟨i',e1,e2⟩:=sg caps σ _ v h2
   have hd:(N'.drop nt)[i-nt]?=some x:=by rw [List.getElem?_drop,Nat.add_sub_cancel' hi];exact h1
   have hm:=congrArg (λl=>l[i-nt]?) C.cap
   simp only [kT,e1,hd,IT] at hm
   have ZA:X.N[i']?=some x:=by rw [hN];exact dj hm
   have HU:=C.fr x (Bl hd)
   have fO:=C.free _ (Mm HU) rfl
   obtain ⟨m,hn,hl⟩:=I3.loc
   obtain ⟨u,r,l⟩:=hl i' x v ZA e2 (by rw [oM];exact .inr fO)
   refine ⟨u,r,.inr ⟨?_,?_⟩⟩
   .have e:=LJ (sc:=X.env.scope) HU
    show (rl cp X.env.scope).names.lookup x=_\/(rl cp X.env.scope).names.lookup x=_
    have e':(rl cp X.env.scope).names.lookup x=_:=e
    rw [e']
    split
    .exact .inl rfl
    .exact .inr rfl
   .rcases l with ⟨k,_⟩ | ⟨k,c,e,z⟩
    .exfalso
     have k:X.env.scope.names.lookup x=some .local:=k
     rw [oM] at k
     dsimp only at fO
     rw [k] at fO
     rcases fO with z | z<;>cases z
    .obtain ⟨c',tx⟩:=Qq (X:=X) HU
     have:=tY C oM I tx
     rw [e] at this
     cases this
     exact ⟨c,tx,z.keeps hk⟩
 .obtain ⟨v,z⟩:=I3.cell x c (tY C oM I e)
  exact ⟨v,z.keeps hk⟩
 .show (jo nt none++dU caps σ).length=N'.length
  rw [cX,D8,sl,C.len]
theorem b3r(r:aA xs us):xs.length=us.length:=r.length
theorem b24{pins pl:List (Addr×Obj)}{σ aI:L2.St}{H2 H':Hp}{s2 s3 s1:Shared}{fp:List Addr}{h':Heap}{xs:List V}{ys:List Value}(I2:Inv X pins σ H2 s2)(uR:s3.os=s2.os)(AA:∀b o,s2.heap.get? b=some o->s3.heap.get? b=some o)
  (hsz:s3.heap.objs.size=s2.heap.objs.size+1)(f2:∀b∈fp,cV X pins H2 b)(I':Inv (tD X N' cp (s2.heap.objs.size::fp) s3 H2) pl aI H' s1)(sb:A1 s3.heap.objs.size s1.heap h')
  (hn:H' s2.heap.objs.size=none)(hl:∃n,s1.heap.get? s2.heap.objs.size=some { cls:=.type "list",data:=.seq ys.toArray n })(hv:aA xs ys)(hz:xs.length<=sizeLine):
  Inv X pins σ (upd H' s2.heap.objs.size (.lst xs)) { s1 with heap:=h' }:=by
 have XN:∀b,b<s3.heap.objs.size->b≠s3.heap.objs.size:=λb h=>dq h
 have zr:∀b,b<s2.heap.objs.size->b≠s2.heap.objs.size:=λb h=>dq h
 have out:∀b o,s2.heap.get? b=some o->b∉fp->b∉s2.heap.objs.size::fp:=λb o e n z=>(br.mp z).elim (zr b (bU e)) n
 have hC:H' s3.heap.objs.size=none:=I'.free
 have up:∀b o,s2.heap.get? b=some o->∀o',s1.heap.get? b=some o'->h'.get? b=some o':=λb o e o' e'=>(sb.2 b (XN b (bU (AA b o e)))).trans e'
 have sP:∀b u,H' b=some u->b≠s2.heap.objs.size:=λb u e z=>by rw [z,hn] at e;cases e
 have u:=I'.base
 refine I2.AW (s':={ s1 with heap:=h' }) (ch:=fp) (I'.os.trans uR) ⟨λb o e n hb hx=>?_,λb o e n hb hx=>?_,λb o e n hx=>?_,λb o e hx=>?_,λb zs e=>?_,λb o v e=>?_,λb ps e=>?_⟩ (λb v e=>?_) I'.bare (λb hb=>?_)
 .exact up b o e o (u.keep b o (AA b o e) n hb (out b o e hx))
 .obtain ⟨sl,e1⟩:=u.slot b o (AA b o e) n hb (out b o e hx)
  exact ⟨sl,up b o e _ e1⟩
 .rw [df (zr b (bU e))]
  exact u.free b o (AA b o e) n (out b o e hx)
 .obtain ⟨o',e1⟩:=u.there b o (AA b o e) (out b o e hx)
  exact ⟨o',up b o e _ e1⟩
 .have:=u.dP b zs e
  rw [df (sP b _ this)];exact this
 .have:=u.iS b o v e
  rw [df (sP b _ this)];exact this
 .obtain ⟨more,this⟩:=u.jy b ps e
  exact ⟨more,by rw [df (sP b _ this)];exact this⟩
 .by_cases hb:b=s2.heap.objs.size
  .subst hb
   rw [qd] at e
   cases e
   obtain ⟨n,e1⟩:=hl
   exact ⟨hz,ys,n,hv,(sb.2 _ (by rw [hsz];exact dq (vy _))).trans e1⟩
  .rw [df hb] at e
   refine (I'.bh b v e).km (λc w hc q=>(sb.2 c ?_).trans q) (λc _ _ q=>by rw [df (sP c _ q)];exact q) λc zs q=>by rw [df (sP c _ q)];exact q
   rintro rfl
   rcases hc with z | z
   .rw [<-z,hC] at e;cases e
   .rw [hC] at z;cases z
 .obtain ⟨_,g1,_,g3,g4,g5⟩:=f2 b hb
  exact ⟨g3,g1,g4,g5⟩
theorem Sf(h:Fx X N sc k full)(C:cM N sc N' caps nt cp){wi:TI}(pi:PI X tg iter wi)(ki:∀(O:Addr->Prop) (B:Hp) (σ:L2.St) (H:Hp) (env:En) (ds:List D) (R:It->Hp->Prop),Rel X.K O B σ H env->fi env=some ds->(∀J H',aq H H'->vU X.K (OO O σ env) J H' ds->R J H')->wi σ H R)
  (hb:∀X':Cx,X'.prog=X.prog->X'.w=X.w->X'.K=X.K->X'.mg=X.mg->X'.base=X.base->Fx X' N' (rl cp sc) k false->GV X' tg g/\CM X' ifs fc/\EV X' elt fe)
  (s9:∀x,foldedSetIterable iter X.env x=pure x){pins:List (Addr×Obj)}{s:Shared}{σ:L2.St}{H:Hp}(I:Inv X pins σ H s){O:Addr->Prop}{B:Hp}{env:En}{r:Sl}(R:Rel X.K O B σ H env)(e:fR fi caps nt g fc fe env=some r)
  {use:Option (Value->Sem Unit)}{QQ:Value->Shared->Prop}
  (fin:∀(C0 p:Addr) (H':Hp) (s':Shared),(∃m,s'.heap.Ns C0 m)->cV X pins H' C0->(∀h',A1 C0 s'.heap h'->Inv X pins σ H' { s' with heap:=h' })->aq H H'->Res X.K (OO O σ env) H H' (.ref p) r ->
   compPost (model X.prog X.w) X.A X.xe use QQ (.ref p) C0 (.ok .next) s'):
  wpAny (model X.prog X.w) X.A (comprehension (.ListComp elt [⟨tg,iter,ifs,0⟩] cp pos) cp X.env (firstIterPos [⟨tg,iter,ifs,0⟩] pos) (newList []) (firstAsync [⟨tg,iter,ifs,0⟩]) (firstIter [⟨tg,iter,ifs,0⟩] X.env) use) QQ X.xe s:=by
 obtain ⟨ds,e1,e2⟩:=bind_some e
 obtain ⟨cs,e3,e4⟩:=bind_some e2
 by_cases hlen:ds.length<=16777216
 case neg=>rw [if_neg hlen] at e4;cases e4
 rw [if_pos hlen] at e4
 obtain ⟨rs,e5,rfl⟩:=map_some e4
 have As:closureFor cp X.env=pure (fA X.env.cells cp.names []):=a71 λy hy hf=>I.ok.has y.1 (by
  show X.env.scope.names.lookup y.1=_\/X.env.scope.names.lookup y.1=_
  rw [h.sc]
  exact C.free y hy hf)
 have Y1:=pi pins s σ H (λJ H'=>aq H H'/\vU X.K (OO O σ env) J H' ds) I (ki O B σ H env ds _ R e1 λJ H' s' wk=>⟨s',wk⟩)
 refine wpAny_comprehension_free (use:=use) rfl s9 As C.kind C.loc (aZ Y1 λxv s1 h1=>aZ h1 λG7 s2 h2=>?_)
 obtain ⟨it,fp,tn,J,H2,rfl,I2,T,gC,f2,mP,wk⟩:=h2
 refine qB (wpAny_newFunctionEnv C.pD (by intro y hy;simp at hy) (λh₁ l' l9=>?_) C.kind)
 dsimp only at l' l9 ⊢
 generalize Ih:s2.heap.push { cls:=.type "list",dict:=none,data:=.seq ([]:List Value).toArray }=H3 at l' l9 ⊢
 have hsz:H3.objs.size=s2.heap.objs.size+1:=by rw [<-Ih,oi]
 have zE:∀b o,s2.heap.get? b=some o->H3.get? b=some o:=λb o e=>by rw [<-Ih];exact bC _ e
 have C5:∀b o,H3.get? b=some o->h₁.get? b=some o:=λb o e=>l9.extBut b o (dq (bU e)) (bC _ e)
 have I3:Inv X pins σ H2 { s2 with heap:=H3 }:=I2.kept (t':=s2.toks) zE
 have zh:∀b∈fp,b<s2.heap.objs.size:=λb hb=>by obtain ⟨o,eo,_⟩:=T.obj 0 _ gC b hb;exact bU eo
 have sP:∀b∈fp,b≠s2.heap.objs.size:=λb hb=>dq (zh b hb)
 have Ap:∀b∈fp,∃o,H3.get? b=some o:=λb hb=>by obtain ⟨o,eo,_⟩:=T.obj 0 _ gC b hb;exact ⟨o,zE b o eo⟩
 have R2:=R.grow mP
 obtain ⟨lc,ls,cg⟩:=QO R2 e3
 generalize lI:tD X N' cp (s2.heap.objs.size::fp) { s2 with heap:=H3 } H2=X'
 have I4:∀t,Inv X' [] (jo nt none++dU caps σ) H2 { s2 with heap:=h₁,toks:=t }:=λt=>by
  rw [<-lI]
  exact b25 (s3:={ s2 with heap:=H3 }) (s4:={ s2 with heap:=h₁,toks:=t }) C h.sc h.n h.calm I2 I3 f2 Ap hsz rfl rfl C5 (by simpa using l')
 have hP:X'.prog=X.prog:=by rw [<-lI];rfl
 have hW:X'.w=X.w:=by rw [<-lI];rfl
 have hK:X'.K=X.K:=by rw [<-lI];rfl
 have hE:X'.env=compEnvC cp (fA X.env.cells cp.names []) H3.objs.size X.env:=by rw [<-lI];rfl
 have hA:X'.A=X.A:=by rw [<-lI];rfl
 have hx:X'.xe=λ_ _=>False:=by rw [<-lI];rfl
 have Ia:X'.calm=true:=by rw [<-lI];rfl
 have rq:=hb X' hP hW hK (by rw [<-lI];rfl) (by rw [<-lI];rfl) ⟨by rw [<-lI];rfl,by rw [hE];show rl cp X.env.scope=_;rw [h.sc],Ia,λz=>(nomatch z),by rw [hx];exact OF,by rw [hA];exact h.room,C.nd,λz=>(nomatch z)⟩
 obtain ⟨⟨qQ,pg,kg⟩,⟨tc,pc,kc⟩,te,pe,ke⟩:=rq
 have Ip:∀{H':Hp} {pl:List (Addr×Obj)},(∀b∈fp,H' b=none)->(∀p∈pl,∀b∈fp,p.1≠b)->∀b∈fp,cV X' pl H' b:=λ{H' pl} hn dk b hb=>by
  obtain ⟨_,g1,g2,g3,g4,g5⟩:=f2 b hb
  rw [<-lI]
  refine ⟨hn b hb,dq (jI (zh b hb) (by show s2.heap.objs.size<=H3.objs.size;rw [hsz];exact A3 _)),λz=>?_,.inl (bG _ hb),λx c e=>g4 x c (tY C h.sc I2 e),λp hp=>dk p (by simpa [tD] using hp) b hb⟩
  rcases br.mp (I2.ij b z) with z | z
  .exact g1 z
  .exact g2 z
 have R0:Rel X'.K (OO O σ env) H2 (jo nt none++dU caps σ) H2 (jo nt Sl.no++cs):=by
  have q9:∀(i:Nat) (es:Sl),(jo nt Sl.no++cs)[i]?=some es->es.own->False:=λi es e o=>by
   rcases EU e with z | ⟨_,z⟩
   .cases z;exact o
   .obtain ⟨d,_,_,z,_⟩:=cg _ _ z
    cases z;exact o
  have noOwn:∀p,¬mL (jo nt none++dU caps σ) (jo nt Sl.no++cs) p:=λp ⟨i,es,e,o,_⟩=>q9 i es e o
  rw [hK]
  refine ⟨aq.refl _,R2.dm,by simp [lc,ls],λi d e=>?_,λi es e=>(q9 i _ e trivial).elim,λi es e=>(q9 i _ e trivial).elim,λi j es fs p e _ _ _ o=>(q9 i es e o).elim⟩
  rcases EU e with z | ⟨hi,z⟩
  .cases z
  .obtain ⟨d',v,i',z1,z2,z3,_⟩:=cg _ _ z
   cases z1
   refine ⟨v,?_,z3.less λp hp=>hp.elim id λz=>(noOwn p z).elim⟩
   rw [rR (by simpa using hi),D8]
   exact z2
 have loop:∀t,codeAny (model X.prog X.w) X.A (.compLoop (.ListComp elt [⟨tg,iter,ifs,0⟩] cp pos) 0 (.ref it) (.ref s2.heap.objs.size) (compEnvC cp (fA X.env.cells cp.names []) H3.objs.size X.env))
   (compPost (model X.prog X.w) X.A X.xe use QQ (.ref s2.heap.objs.size) H3.objs.size) { s2 with heap:=h₁,toks:=t }:=λt=>by
  refine a9D (N:=λ_ _=>False) (λn s'=>∃(i:Nat) (aI:L2.St) (H':Hp) (ai:En) (ys:List Value) (xs:List V) (sL CY:List D),n=ds.length-i/\i<=ds.length/\Inv X' [] aI H' s'/\tn i s'.heap/\(∀b∈fp,H' b=none)/\H' s2.heap.objs.size=none /\
    s'.heap.PlainList s2.heap.objs.size ys.toArray/\aA xs ys/\Rel X'.K (OO O σ env) H2 aI H' ai/\Gd (jo nt none++dU caps σ) (jo nt Sl.no++cs) H2 aI ai H' /\
    aK X'.K (OO (OO O σ env) aI ai) H' xs sL/\nu g fc fe (ds.drop i) ai=some CY/\sL++CY=rs/\sL.length<=i) (λ_ _ z=>z) ?_ ds.length
   ⟨0,_,H2,_,[],[],[],rs,by simp,n6 _,I4 t,T.keep _ _ _ gC (λb _ o e=>C5 b o (zE b o e)),λb hb=>(f2 b hb).1,I2.bh.fresh (bo _),⟨_,C5 _ _ (by rw [<-Ih];exact fj _ rfl)⟩,.nil,R0,Gd.refl (aq.refl _),.nil,by simpa using e5,rfl,bo _⟩
  rintro n s3 ⟨i,jw,yp,mh,ys,xs,sL,CY,rfl,hi,J3,iQ,AH,Zt,Nx,vx,R3,Ov,zJ,AU,mW,Hu⟩
  have yV:Inv X' (r6 [s2.heap.objs.size] s3.heap) jw yp s3:=by
   refine J3.fN λp hp=>?_
   obtain ⟨hb,e⟩:=LL hp
   have hb:p.1=s2.heap.objs.size:=by simpa using hb
   obtain ⟨n,en⟩:=Nx
   rw [hb,en] at e
   refine ⟨by rw [hb,en];exact e,by rw [hb];exact Zt,?_,λz=>?_,λv z=>?_⟩
   .rw [hb,hE]
    show s2.heap.objs.size≠H3.objs.size
    rw [hsz]
    exact dq (vy _)
   .rw [hb,<-lI] at z
    obtain ⟨_,o,ho,_⟩:=I2.stack.mem z
    exact absurd (bU ho) (lO _)
   .rw [<-dj e] at z;cases z
  have apart:∀p∈r6 [s2.heap.objs.size] s3.heap,∀b∈fp,p.1≠b:=λp hp b hb z=>by
   have e:p.1=s2.heap.objs.size:=by simpa using (LL hp).1
   exact sP b hb (z.symm.trans e)
  have pW:∀{pl:List (Addr×Obj)} {aI:L2.St} {H':Hp} {s':Shared},Inv X' pl aI H' s'->(∀p∈r6 [s2.heap.objs.size] s3.heap,p∈pl)->s'.heap.PlainList s2.heap.objs.size ys.toArray/\H' s2.heap.objs.size=none:=λ{pl aI H' s'} J jB=>by
   obtain ⟨n,en⟩:=Nx
   obtain ⟨q1,q2,_⟩:=J.pin _ (gi _ (jB _ (Ca (fp:=[s2.heap.objs.size]) (by simp) en)))
   exact ⟨⟨n,q1⟩,q2⟩
  have w:=wk (OO (OO O σ env) jw mh) yp (λa u ea na=>by
   obtain ⟨h1,h2⟩:=Ov a u ea λ⟨i,es,e,o,_⟩=>by
    rcases EU e with z | ⟨_,z⟩
    .cases z;exact o
    .obtain ⟨d,_,_,z,_⟩:=cg _ _ z
     cases z;exact o
   exact ⟨h1,λz=>z.elim na h2⟩) (λa=>R3.oo) i
  by_cases aT:i<ds.length
  .obtain ⟨go,yl⟩:=w.1 ds[i] (by simp [aT])
   have Aq:ds.drop i=ds[i]::ds.drop (i+1):=ni aT
   rw [Aq,nu] at AU
   obtain ⟨gg,c1,c2⟩:=bind_some AU
   obtain ⟨b,c2,c3⟩:=bind_some c2
   have ti:=T.item X' hP hW hK Ia i _ s3 jw yp (λ_ _=>False) yV (Ip AH apart) iQ go
   rw [hA] at ti
   refine aZ ti λr s4 ⟨u,hr,h4⟩=>?_
   subst hr
   refine aZ h4 λ_ s5 ⟨x,H5,I5,r5,y5,uA,Io⟩=>?_
   obtain ⟨Gz,YT⟩:=yl x H5 y5
   have Nm:=I5.pinned (Ip Io apart) (T.obj _ _ uA)
   have sR:∀{aI:L2.St} {H':Hp} {s':Shared},Inv X' (r6 [s2.heap.objs.size] s3.heap++r6 fp s5.heap) aI H' s'->tn (i+1) s'.heap/\∀b∈fp,H' b=none:=λ{aI H' s'} J=>by
    refine ⟨T.keep _ _ _ uA λb hb o e=>(J.pin (b,o) (gi _ (gi _ (Ca hb e)))).1,λb hb=>?_⟩
    obtain ⟨o,e,_⟩:=T.obj _ _ uA b hb
    exact (J.pin (b,o) (gi _ (gi _ (Ca hb e)))).2.1
   have Ny:=pg _ s5 jw H5 x u _ Nm r5 (kg (OO O σ env) H2 jw H5 mh gg x ds[i] (λlE H6=>Rel X'.K (OO O σ env) H2 lE H6 gg/\Gd jw mh H5 lE gg H6) (R3.grow Gz) (hK▸YT) c1 λlE H6 R6 g6=>⟨R6,g6⟩)
   rw [hP,hW,hA,hE,hx] at Ny
   refine aZ Ny λ_ s6 ⟨lE,H6,I6,R6,g6⟩=>?_
   have NA:=pc _ s6 lE H6 (λb' H'=>b'=b/\aq H6 H') I6 (kc (OO O σ env) H2 lE H6 gg b _ R6 c2 λH' s'=>⟨rfl,s'⟩)
   rw [hP,hW,hA,hE,hx] at NA
   refine aZ NA λok s7 ⟨H7,I7,bh,Gy⟩=>?_
   subst bh
   have R7:=R6.grow Gy
   have Ou:=Ov.trans ((Gd.refl Gz).trans (g6.trans (Gd.refl Gy)))
   have NR:aK X'.K (OO (OO O σ env) lE gg) H7 xs sL:=((Gd.refl Gz).trans (g6.trans (Gd.refl Gy))).C6 zJ
   cases ok with
   | false =>
    rw [if_neg nh] at c3 ⊢
    obtain ⟨Ud,ZQ⟩:=sR I7
    obtain ⟨V3,Zs⟩:=pW I7 λp hp=>gv _ hp
    exact ⟨ds.length-(i+1),by ext aT,i+1,lE,H7,gg,ys,xs,sL,CY,rfl,aT,I7.fN (λ_ z=>nomatch z),Ud,ZQ,Zs,V3,vx,R7,Ou,NR,c3,mW,by ext Hu⟩
   | true =>
    rw [if_pos rfl] at c3 ⊢
    obtain ⟨r,d3,d4⟩:=bind_some c3
    obtain ⟨Va,d5,d6⟩:=bind_some d4
    clear c3 d4 AU
    obtain rfl:=dj d6
    have Nz:=pe _ s7 lE H7 (λv H'=>aq H7 H'/\Is X'.K (OO (OO O σ env) lE gg) H' v r.d) I7 (ke (OO O σ env) H2 lE H7 gg r _ R7 d3 λv H' s' rr=>⟨s',rr.is λp=>R7.oo⟩)
    rw [hP,hW,hA,hE,hx] at Nz
    refine aZ Nz λy s8 ⟨v,H8,I8,ry,Gx,hv⟩=>?_
    obtain ⟨Uc,ZP⟩:=sR I8
    obtain ⟨V2,Og⟩:=pW I8 λp hp=>gv _ hp
    have YQ:ys.length=sL.length:=by rw [<-b3r vx,zJ.length]
    refine wpAny_list_append_plain (hsz:=by rw [dG,YQ,iY];ext hlen Hu aT) V2 λh' V1 Nv=>?_
    have J8:Inv X' [] lE H8 s8:=I8.fN λ_ z=>nomatch z
    have J9:Inv X' [] lE H8 { s8 with heap:=h' }:=J8.turned (t':=s8.toks) (it:=s2.heap.objs.size) (λb o hb e=>(Nv.2 b hb).trans e) Og
     (by rw [hE];show s2.heap.objs.size≠H3.objs.size;rw [hsz];exact dq (vy _)) (.inl (by rw [<-lI];exact bw))
     (λx c e=>by
      rw [hE] at e
      obtain ⟨_,z⟩:=I2.cell x c (tY C h.sc I2 e)
      exact dq z.lt) (λp hp=>by rw [<-lI] at hp;exact absurd hp (by simp [tD]))
    refine ⟨ds.length-(i+1),by ext aT,i+1,lE,H8,gg,ys++[y],xs++[v],sL++[r.d],Va,rfl,aT,J9,T.keep _ _ _ Uc λb hb o e=>(Nv.2 b (sP b hb)).trans e,ZP,Og,by simpa using V1,vx.append (.cons ry .nil),R7.grow Gx,Ou.trans (Gd.refl Gx),(NR.grow Gx).append (.cons hv .nil),d5,by rw [<-mW];simp,by simp;assumption⟩
  .have HP:i=ds.length:=by ext hi aT
   have td:=T.done X' hP hW hK Ia i _ s3 jw yp (λ_ _=>False) yV (Ip AH apart) iQ (w.2 (by ext aT))
   rw [hA] at td
   refine aZ td λr s4 ⟨hr,CN⟩=>?_
   subst hr
   obtain ⟨V4,rC⟩:=pW CN λp hp=>hp
   rw [rT (by ext aT),nu] at AU
   obtain rfl:=dj AU
   rw [nk] at mW
   subst mW
   obtain ⟨m4,N3,_⟩:=CN.loc
   rw [hE] at N3
   obtain ⟨n4,ZV⟩:=V4
   rw [<-lI] at CN
   have Oe:H2 s2.heap.objs.size=none:=I2.bh.fresh (bo _)
   have oO:s2.heap.objs.size<=H3.objs.size:=by rw [hsz];exact A3 _
   have ZH:yp H3.objs.size=none:=CN.free
   have bI:H3.objs.size≠s2.heap.objs.size:=by rw [hsz];exact Nat.succ_ne_self _
   refine fin H3.objs.size s2.heap.objs.size (upd yp s2.heap.objs.size (.lst xs)) s4 ⟨m4,N3⟩ (I2.iT oO (by rw [df bI];exact ZH)) (λh' sb=>b24 (s3:={ s2 with heap:=H3 }) (ys:=ys) I2 rfl zE hsz f2 CN sb rC ⟨n4,ZV⟩ vx (by rw [zJ.length,iY];ext hlen hi Hu)) ?_ ⟨_,xs,rfl,mP.free Oe,qd,?_⟩
   .intro b o e
    have e2:=mP b o e
    rw [df (qe e2 Oe)]
    exact R3.same b o e2
   .rw [hK] at zJ
    refine zJ.map (λp hp hn z=>hn (.inl (z.elim id λz=>?_))) λp u e _=>by rw [df (qe e rC)];exact e
    rw [z,rC] at hp
    exact (hp rfl).elim
 exact codeAny_compStart_list (loop _) (T.self _ 0 _ _ _ (T.keep _ _ _ gC (λb _ o e=>C5 b o (zE b o e))) (loop _))
theorem o4(h:Fx X N sc k full)(C:cM N sc N' caps nt cp)(hi:IV X tg iter fi)
  (hb:∀X':Cx,X'.prog=X.prog->X'.w=X.w->X'.K=X.K->X'.mg=X.mg->X'.base=X.base->Fx X' N' (rl cp sc) k false->GV X' tg g/\CM X' ifs fc/\EV X' elt fe)
  (s9:∀x,foldedSetIterable iter X.env x=pure x:=by intro _;rfl):EV X (.ListComp elt [⟨tg,iter,ifs,0⟩] cp pos) (fR fi caps nt g fc fe):=by
 obtain ⟨wi,pi,ki⟩:=hi
 refine ⟨λσ H Q=>∃O B env r,Rel X.K O B σ H env/\fR fi caps nt g fc fe env=some r/\∀v H',aq H H'->Res X.K (OO O σ env) H H' v r->Q v H',?_,λO B σ H env r Q R e q=>⟨O,B,env,r,R,e,q⟩⟩
 rintro pins s σ H Q I ⟨O,B,env,r,R,e,q⟩
 rw [eval_ListComp]
 exact Sf h C pi ki hb s9 I R e (use:=none) λC0 p H' s' ⟨m,hn⟩ _ hI sm rr=>⟨m,hn,λh' sb=>⟨.ref p,H',hI h' sb,rfl,q _ H' sm rr⟩⟩
theorem BS{i:Nat}{x:Str}{pos' yE:Pos}(b:Bool)(h:Fx X N sc k full)(C:cM N sc N' caps nt cp)(hi:IV X tg iter fi)
  (hb:∀X':Cx,X'.prog=X.prog->X'.w=X.w->X'.K=X.K->X'.mg=X.mg->X'.base=X.base->Fx X' N' (rl cp sc) k false->GV X' tg g/\CM X' ifs fc/\EV X' elt fe)
  (hN:N[i]?=some x:=by rfl)(hv:Loc sc x:=by first | exact di rfl | exact bX rfl)(hf:full=true\/sc.names.lookup x=some .local:=by first | exact di rfl | exact bX rfl)(h1:(sc.names.lookup x==some .local)=true:=by rfl)(h2:(pos'.line==pos.line)=true:=by rfl)(h3:(cp.names.any λ(n,k)=>n==x&&(k==.local||k==.cell))=false:=by rfl)
  (s9:∀x,foldedSetIterable iter X.env x=pure x:=by intro _;rfl):SV X (.Assign [.Name x pos'] (.ListComp elt [⟨tg,iter,ifs,0⟩] cp pos) yE) (bif b then cP i (fR fi caps nt g fc fe) else aS i (fR fi caps nt g fc fe)):=by
 obtain ⟨wi,pi,ki⟩:=hi
 refine ⟨λD σ H=>∃O B env fl ai,Rel X.K O B σ H env/\(bif b then cP i (fR fi caps nt g fc fe) else aS i (fR fi caps nt g fc fe)) env=some (fl,ai)/\du X.K O B σ H env D fl ai,?_,λO B σ H env fl ai D R e q=>⟨O,B,env,fl,ai,R,e,q⟩⟩
 rintro pins s σ H D I ⟨O,B,env,fl,ai,R,e,q⟩
 obtain ⟨r,e1,hl,kF,t,rfl,ht⟩:∃r,fR fi caps nt g fc fe env=some r/\i<env.length/\fl=.nx/\∃t,ai=env.set i t/\(t=r\/t=.sh r.d):=by
  cases b with
  | true =>
   dsimp only [cond] at e
   obtain ⟨r,e1,e2⟩:=bind_some e
   obtain ⟨hl,e3⟩:=iG e2
   cases e3
   exact ⟨r,e1,hl,rfl,_,rfl,.inl rfl⟩
  | false =>
   dsimp only [cond] at e
   obtain ⟨r,e1,e2⟩:=bind_some e
   obtain ⟨hl,e3⟩:=iG e2
   cases e3
   exact ⟨r,e1,hl,rfl,_,rfl,.inr rfl⟩
 subst kF
 have hs:swapsWith (.ListComp elt [⟨tg,iter,ifs,0⟩] cp pos) (some (.Name x pos')) yE.line X.env=pure true:=by
  have hk:X.env.blockKind=.function:=by unfold Env.blockKind;rw [I.ok.kind];rfl
  have wR:X.env.kindOf x=sc.names.lookup x:=by unfold Env.kindOf;rw [h.sc]
  unfold swapsWith
  dsimp only
  rw [hk,wR,h1,show (pos'.line==(Expr.ListComp elt [⟨tg,iter,ifs,0⟩] cp pos).pos.line)=true from h2,h3]
  rfl
 rw [exec_Assign_Name_used _ _ _ _ hs]
 refine ao (IZ (ao ?_))
 show wpAny _ _ (comprehension _ cp X.env _ (newList []) _ _ (some (assign (.Name x pos') X.env)) >>= λ_=>pure ()) _ _ _
 refine ao (Sf h C pi ki hb s9 I R e1 (use:=some (assign (.Name x pos') X.env)) λC0 p H' s' ⟨m,hn⟩ gD hI sm rr=>?_)
 have I':Inv X pins σ H' s':=hI s'.heap (Heap.SameBut.refl _ _)
 refine wpAny_assign_Name (Sb (v:=.ref p) I' h.uH (h.ix hN) (h.loc hv) rfl (λs2 I2 ⟨a,sb,ha⟩=>?_) (h.uy hf))
 have Zr:C0≠a:=λz=>by
  rcases ha with ha | ha
  .exact gD.2.1 (z.trans ha)
  .exact gD.2.2.2.2.1 x a ha z.symm
 obtain ⟨o,es,ep,ho,rest⟩:=hn
 refine ⟨m,⟨o,es,ep,(sb.2 C0 Zr).trans ho,rest⟩,λh' U8=>?_⟩
 refine aU (aU ?_)
 have I3:Inv X pins (σ.set i (some (.ref p))) H' { s2 with heap:=h' }:=I2.turned (t':=s2.toks) (it:=C0) (λb o hb e=>(U8.2 b hb).trans e) gD.1 gD.2.1 gD.2.2.2.1 gD.2.2.2.2.1 gD.2.2.2.2.2
 have hr:Res X.K (OO O σ env) H H' (.ref p) t:=by
  rcases ht with rfl | rfl
  .exact rr
  .exact rr.is λq=>R.oo
 obtain ⟨R',g'⟩:=R.set sm hr hl
 exact ⟨_,H',I3,q _ H' R' g'⟩
end
end DL
namespace DL
open PySem PySem.Spec PyProof.Rows L2
section
variable {X:Cx}{pins:List (Addr×Obj)}{σ:L2.St}{H:Hp}{s:Shared}
theorem B0(I:Inv X pins σ H s)(hA:A'.handled=none)(hq:Sq X.K H k p xs)
  (h:∀(ak:List Value) (h2:Heap) (St:Nat->Heap->Prop),aA xs ak->Walks X.prog X.w A' s.heap.objs.size [s.heap.objs.size,p] [s.heap.objs.size] ak.length (λi v=>ak[i]?=some v) St->St 0 h2 ->
   (∀b o,s.heap.get? b=some o->h2.get? b=some o)->(∀b∈[s.heap.objs.size,p],b<h2.objs.size)->Q (.ref s.heap.objs.size) { s with heap:=h2 }):wpAny (model X.prog X.w) A' (pyIter (.ref p)) Q E s:=by
 cases k with
 | true =>
  obtain ⟨ak,rv,pl,hz⟩:=I.list (show fF X.K H p xs from hq)
  have aT:p<s.heap.objs.size:=by obtain ⟨o,n,e,_⟩:=pl;exact bU e
  refine w5 pl.isList ?_
  have W:=Walks.list (prog:=X.prog) (w:=X.w) hA s.heap.objs.size p (dq aT) ak.toArray
  refine h ak _ (λi h=>h.IsListIter s.heap.objs.size p i/\h.IsList p ak.toArray) rv (by simpa using W) ⟨⟨_,fj _ rfl,rfl,rfl⟩,pl.isList.push _⟩ (λb o e=>bC _ e) λb hb=>?_
  rw [oi]
  rcases br.mp hb with rfl | hb
  .exact vy _
  .rw [bY.mp hb];exact Nat.lt_succ_of_lt aT
 | false =>
  obtain ⟨ak,rv,pl,hz⟩:=I.tuple (show dN X.K H p xs from hq)
  have bu:s.heap.IsTuple p ak.toArray:=pl
  have aT:p<s.heap.objs.size:=by obtain ⟨o,e,_⟩:=pl;exact bU e
  refine rV bu ?_
  have W:=Walks.tuple (prog:=X.prog) (w:=X.w) hA s.heap.objs.size p (dq aT) ak.toArray
  refine h ak _ (λi h=>h.IsTupleIter s.heap.objs.size p i/\h.IsTuple p ak.toArray) rv (by simpa using W) ⟨⟨_,fj _ rfl,rfl,rfl⟩,?_⟩ (λb o e=>bC _ e) λb hb=>?_
  .obtain ⟨o,e,r⟩:=bu
   exact ⟨o,bC _ e,r⟩
  .rw [oi]
   rcases br.mp hb with rfl | hb
   .exact vy _
   .rw [bY.mp hb];exact Nat.lt_succ_of_lt aT
theorem wg(I:Inv X pins σ H s){h2 h':Heap}{tk:Nat}(k1:∀b o,s.heap.get? b=some o->h2.get? b=some o)(k2:∀b o,b∉[s.heap.objs.size]->h2.get? b=some o->h'.get? b=some o):Inv X pins σ H { s with heap:=h',toks:=tk }:=
 I.kept λb o e=>k2 b o (λz=>absurd (bU e) (by rw [bY.mp z];exact lO _)) (k1 b o e)
end
noncomputable def o3:List D->Option (List Int)
 | []=>some []
 | .int i::ds=>(o3 ds).map (i::·)
 | _::_=>none
noncomputable def mq:List D->Option (List Bool)
 | []=>some []
 | .bl i::ds=>(mq ds).map (i::·)
 | _::_=>none
theorem ug:∀(ns:List Int),o3 (ns.map D.int)=some ns
 | []=>rfl
 | n::r=>by rw [fg,o3,ug r];rfl
theorem Rf:∀(ns:List Bool),mq (ns.map D.bl)=some ns
 | []=>rfl
 | n::r=>by rw [fg,mq,Rf r];rfl
theorem L7:∀{ds:List D} {ns:List Int},o3 ds=some ns->ds=ns.map D.int
 | [],ns,e=>by cases e;rfl
 | .int i::ds,ns,e=>by
  obtain ⟨r,e1,rfl⟩:=map_some (show (o3 ds).map (i::·)=some ns from e)
  rw [L7 e1];rfl
 | .aR::_,_,e=>by cases e
 | .bl _::_,_,e=>by cases e
 | .str _::_,_,e=>by cases e
 | .tup _::_,_,e=>by cases e
 | .lst _ _::_,_,e=>by cases e
theorem Sz:∀{ds:List D} {ns:List Bool},mq ds=some ns->ds=ns.map D.bl
 | [],ns,e=>by cases e;rfl
 | .bl i::ds,ns,e=>by
  obtain ⟨r,e1,rfl⟩:=map_some (show (mq ds).map (i::·)=some ns from e)
  rw [Sz e1];rfl
 | .aR::_,_,e=>by cases e
 | .int _::_,_,e=>by cases e
 | .str _::_,_,e=>by cases e
 | .tup _::_,_,e=>by cases e
 | .lst _ _::_,_,e=>by cases e
theorem B5{K:aJ}{O:Addr->Prop}{H:Hp}:∀{xs:List V} {ns:List Int},aK K O H xs (ns.map D.int)->xs=ns.map V.int
 | _,[],.nil=>rfl
 | _,n::r,.cons h t=>by rw [gZ h,B5 t];rfl
theorem Rq{K:aJ}{O:Addr->Prop}{H:Hp}:∀{xs:List V} {ns:List Bool},aK K O H xs (ns.map D.bl)->xs=ns.map V.bl
 | _,[],.nil=>rfl
 | _,n::r,.cons h t=>by rw [tV h,Rq t];rfl
theorem b3s{ns:List Int}(r:aA (ns.map V.int) ak){i:Nat}(h:ak[i]?=some v):∃t,v=.int (ns.getD i 0) t:=by
 have hl:=r.length
 have hi:=(gH.mp h).1
 have mY:i<ns.length:=by rw [aQ] at hl;ext hl hi
 obtain ⟨u,hu,ru⟩:=r.get (show (ns.map V.int)[i]?=some (.int ns[i]) by simp [mY])
 rw [h] at hu
 cases hu
 obtain ⟨t,e⟩:=ru
 exact ⟨t,by rw [e];simp [mY]⟩
theorem b5T{ns:List Bool}(r:aA (ns.map V.bl) ak){i:Nat}(h:ak[i]?=some v):v=.bool (ns.getD i false):=by
 have hl:=r.length
 have hi:=(gH.mp h).1
 have mY:i<ns.length:=by rw [aQ] at hl;ext hl hi
 obtain ⟨u,hu,ru⟩:=r.get (show (ns.map V.bl)[i]?=some (.bl ns[i]) by simp [mY])
 rw [h] at hu
 cases hu
 obtain rfl:v=kQ ns[i]:=ru
 simp [mY]
section
variable {X:Cx}{a:Expr}{p pos:Pos}{ba:En->Option (Bool×List D)}
theorem preSum_eq(ns:List Int):∀j,j<=ns.length->preSum (λi=>ns.getD i 0) j=(ns.take j).sum
 | 0,_=>rfl
 | j+1,h=>by
  have hj:j<ns.length:=h
  rw [preSum,preSum_eq ns j (w8 hj),<-List.take_append_getElem hj,DM]
  simp [hj]
theorem RU(ns:List Bool):(fI ns.length).all (λi=>ns.getD i false)=ns.all id:=by
 rw [Bool.eq_iff_iff,Ej,Ej]
 constructor
 .intro h x hx
  obtain ⟨i,hi,rfl⟩:=pV.mp hx
  have:=h i (oV.mpr hi)
  simpa [hi] using this
 .intro h i hi
  have hi:=oV.mp hi
  have:=h ns[i] (lN hi)
  simpa [hi] using this
theorem b2V(hc:X.calm=true):oY X (.builtin "sum") (λxs H Q=>∃p k ns,xs=[.ref p]/\Sq X.K H k p (jn V.int ns)/\Q (.int ns.sum) H):=by
 intro pins s σ H xs us Q I r h
 obtain ⟨p,k,ns,rfl,hq,q⟩:=h
 obtain ⟨u,rfl,ru⟩:=r.one
 cases ru
 refine call_sum_walkAnyS (B0 (A':=X.A.in1) I (I.ok.hd hc) hq λak h2 St rv W qR k1 gD=>?_)
 refine ⟨_,_,_,_,_,_,_,λi=>ns.getD i 0,rfl,W.toS,qR,gD,λi v hv=>b3s rv hv,λs' t' M=>?_⟩
 have hl:ak.length=ns.length:=by rw [<-rv.length];simp
 have e:preSum (λi=>ns.getD i 0) ak.length=ns.sum:=by rw [hl,preSum_eq ns _ (bo _)];simp
 rw [e]
 obtain ⟨h',g',d',t2,o'⟩:=s'
 obtain ⟨m1,m2,m3,m4,m5⟩:=M
 have m2:g'=s.gens:=m2
 have m3:d'=s.drawn:=m3
 have m4:o'=s.os:=m4
 subst m2 m3 m4
 exact ⟨.int ns.sum,H,wg I k1 m1,⟨t',rfl⟩,q⟩
theorem b23(hc:X.calm=true):oY X (.builtin "all") (λxs H Q=>∃p k ns,xs=[.ref p]/\Sq X.K H k p (jn V.bl ns)/\Q (.bl (ns.all id)) H):=by
 intro pins s σ H xs us Q I r h
 obtain ⟨p,k,ns,rfl,hq,q⟩:=h
 obtain ⟨u,rfl,ru⟩:=r.one
 cases ru
 refine call_all_walk (B0 (A':=X.A.in1) I (I.ok.hd hc) hq λak h2 St rv W qR k1 gD=>?_)
 refine ⟨_,_,_,_,_,_,λi=>ns.getD i false,rfl,W,qR,λi v s Q E hP hQ=>?_,λh' tk hk=>?_⟩
 .rw [b5T rv hP]
  exact tL hQ
 .have hl:ak.length=ns.length:=by rw [<-rv.length];simp
  rw [hl,RU]
  exact ⟨.bl _,H,wg I k1 hk,rfl,q⟩
noncomputable def iU(f:En->Option (Bool×List D)):En->Option Sl:=λenv=>(f env).bind λx=>(o3 x.2).map λns=>.sh (.int ns.sum)
noncomputable def rF(f:En->Option (Bool×List D)):En->Option Sl:=λenv=>(f env).bind λx=>(mq x.2).map λns=>.sh (.bl (ns.all id))
theorem vQ(hg:Gl X "sum")(hm:X.mg "sum" = none)(hc:X.calm=true)(ha:BV X a ba)(hs:starEach [a] X.env=[(false,eval a X.env)]:=by rfl):EV X (.Call (.Name "sum" p) [a] [] pos) (iU ba):=by
 obtain ⟨t,pt,k⟩:=ha
 refine ⟨_,xK (b2V hc) hg hm (by decide +kernel) (qJ pt qI hs) (by decide) (by decide) hs rfl,λO B σ H env s Q R e q=>?_⟩
 obtain ⟨⟨kk,ds⟩,e1,e2⟩:=bind_some e
 obtain ⟨ns,e3,rfl⟩:=map_some e2
 have m6:=L7 e3
 dsimp only at m6
 subst m6
 refine k O B σ H env kk _ _ R e1 λl xs H1 s1 hq hx=>⟨l,kk,ns,rfl,?_,q _ H1 s1 (Is.int _)⟩
 rw [<-B5 hx];exact hq
theorem b8W(hg:Gl X "all")(hm:X.mg "all" = none)(hc:X.calm=true)(ha:BV X a ba)(hs:starEach [a] X.env=[(false,eval a X.env)]:=by rfl):EV X (.Call (.Name "all" p) [a] [] pos) (rF ba):=by
 obtain ⟨t,pt,k⟩:=ha
 refine ⟨_,xK (b23 hc) hg hm (by decide +kernel) (qJ pt qI hs) (by decide) (by decide) hs rfl,λO B σ H env s Q R e q=>?_⟩
 obtain ⟨⟨kk,ds⟩,e1,e2⟩:=bind_some e
 obtain ⟨ns,e3,rfl⟩:=map_some e2
 have m6:=Sz e3
 dsimp only at m6
 subst m6
 refine k O B σ H env kk _ _ R e1 λl xs H1 s1 hq hx=>⟨l,kk,ns,rfl,?_,q _ H1 s1 (Is.bl _)⟩
 rw [<-Rq hx];exact hq
end
end DL
namespace DL
open PySem PySem.Spec PyProof.Rows L2
noncomputable def gJ:List (Option Bool)->Option (List Bool)
 | []=>some []
 | some b::r=>(gJ r).map (b::·)
 | none::_=>none
noncomputable def bj:Nat->D->D->Option Bool
 | _,.int i,.int j=>some (decide (i=j))
 | _,.bl i,.bl j=>some (decide (i=j))
 | _,.str i,.str j=>some (decide (i=j))
 | _,.aR,.aR=>some true
 | _,.bl i,.int j=>some (decide ((if i then 1 else 0)=j))
 | _,.int i,.bl j=>some (decide (i=(if j then 1 else 0)))
 | n+1,.tup a,.tup b=>(gJ (pS (bj n) a b)).map λbs=>bs.all id&&decide (a.length=b.length)
 | n+1,.lst _ a,.lst _ b=>if a.length=b.length then (gJ (pS (bj n) a b)).map λbs=>bs.all id else some false
 | 0,.tup _,.tup _=>none
 | 0,.lst _ _,.lst _ _=>none
 | _,.exc _,_=>none
 | _,_,.exc _=>none
 | _,.fx _ _,_=>none
 | _,_,.fx _ _=>none
 | _,_,_=>some false
theorem xJ:∀{os:List (Option Bool)} {bs:List Bool},gJ os=some bs->os.length=bs.length/\∀(i:Nat) (b:Bool),bs[i]?=some b->os[i]?=some (some b)
 | [],bs,e=>by cases e;exact ⟨rfl,λi b h=>by simp at h⟩
 | some b::r,bs,e=>by
  obtain ⟨bs',e1,rfl⟩:=map_some (show (gJ r).map (b::·)=some bs from e)
  obtain ⟨l,ih⟩:=xJ e1
  refine ⟨by simp [l],λi c h=>?_⟩
  cases i with
  | zero=>simpa using h
  | succ i=>simpa using ih i c (by simpa using h)
 | none::_,bs,e=>by cases e
theorem all_range{bs:List Bool}{n:Nat}(h:bs.length=n):(fI n).all (λi=>bs.getD i false)=bs.all id:=by rw [<-h];exact RU bs
section
variable {X:Cx}{pins:List (Addr×Obj)}{σ:L2.St}{H:Hp}{s:Shared}{O O':Addr->Prop}
noncomputable def CL(K:aJ)(O:Addr->Prop)(H:Hp)(v:V):D->Prop
 | .aR=>v=.aR
 | .bl b=>v=.bl b
 | .int i=>v=.int i
 | .str x=>v=.str x
 | .tup ds=>∃p xs,v=.ref p/\dN K H p xs/\aK K O H xs ds
 | .lst _ ds=>∃p xs,v=.ref p/\fF K H p xs/\aK K O H xs ds
 | .exc _=>True
 | .fx _ _=>True
theorem Is.oK{K:aJ}{v:V}{d:D}(h:Is K O H v d):CL K O H v d:=by
 cases d with
 | aR=>exact Kc h
 | bl b=>exact tV h
 | int i=>exact gZ h
 | str x=>exact Kd h
 | tup ds=>exact vR h
 | lst r ds =>
  obtain ⟨p,xs,e,h1,h2⟩:=h.seq (k:=true) (ds:=ds) rfl
  exact ⟨p,xs,e,h1,h2⟩
 | exc n=>trivial
 | fx n m=>trivial
theorem Fo(I:Inv X pins σ H s)(h:dN X.K H p xs)(h':fF X.K H p ys):False:=by
 obtain ⟨_,_,⟨o,e1,c1,_⟩,_⟩:=I.tuple h
 obtain ⟨_,_,⟨o',_,e2,c2,_⟩,_⟩:=I.list h'
 rw [e1] at e2
 cases e2
 rw [c1] at c2
 injection c2 with c3
 exact absurd c3 (by decide)
theorem zip_get{n:Nat}{i:Nat}{o:Option Bool}(h:(pS (bj n) a b)[i]?=some o):∃x y,a[i]?=some x/\b[i]?=some y/\bj n x y=o:=by
 rw [JA] at h
 cases ha:a[i]? with
 | none=>rw [ha] at h;simp at h
 | some x =>
  cases hb:b[i]? with
  | none=>rw [ha,hb] at h;simp at h
  | some y=>rw [ha,hb] at h;exact ⟨x,y,rfl,rfl,by simpa using h⟩
theorem Rk(I:Inv X pins σ H s):∀(n:Nat) {v:V} {d d':D} {b:Bool},Is X.K O H v d->Is X.K O' H v d'->bj n d d'=some b->b=true:=by
 intro n
 induction n with
 | zero =>
  intro v d d' b h h' e
  have h:=h.oK
  have h':=h'.oK
  cases d<;>cases d'<;>simp only [CL] at h h'<;>simp only [bj,dY,reduceCtorEq] at e<;>first
   | (subst h;cases h';exact e.symm)
   | (subst h;cases h';rw [<-e];simp;done)
   | (subst h;cases h';done)
   | (subst h;obtain ⟨_,_,h',_⟩:=h';cases h';done)
   | (subst h';obtain ⟨_,_,h,_⟩:=h;cases h;done)
   | (obtain ⟨_,_,rfl,h,_⟩:=h;obtain ⟨_,_,hr,h',_⟩:=h';cases hr;first | exact (Fo I h h').elim | exact (Fo I h' h).elim)
 | succ n ih =>
  intro v d d' b h h' e
  have key:∀{xs:List V} {ds gp:List D} {bs:List Bool},aK X.K O H xs ds->aK X.K O' H xs gp->gJ (pS (bj n) ds gp)=some bs->bs.all id=true:=λ{xs ds gp bs} a1 a2 ea=>by
   obtain ⟨_,g⟩:=xJ ea
   rw [Ej]
   intro c hc
   obtain ⟨i,hi,rfl⟩:=pV.mp hc
   obtain ⟨x,y,ex,ey,ZR⟩:=zip_get (g i _ (gu hi))
   obtain ⟨z,ez,iz⟩:=a1.get ex
   obtain ⟨z',Ow,YI⟩:=a2.get ey
   rw [ez] at Ow
   cases Ow
   exact ih iz YI ZR
  have h:=h.oK
  have h':=h'.oK
  cases d<;>cases d'<;>simp only [CL] at h h'<;>simp only [bj,dY,reduceCtorEq] at e<;>first
   | (subst h;cases h';exact e.symm)
   | (subst h;cases h';rw [<-e];simp;done)
   | (subst h;cases h';done)
   | (subst h;obtain ⟨_,_,h',_⟩:=h';cases h';done)
   | (subst h';obtain ⟨_,_,h,_⟩:=h;cases h;done)
   | (obtain ⟨_,_,rfl,h,_⟩:=h;obtain ⟨_,_,hr,h',_⟩:=h';cases hr;first | exact (Fo I h h').elim | exact (Fo I h' h).elim)
   | skip
  .obtain ⟨_,xs,rfl,h,a1⟩:=h
   obtain ⟨_,ys,hr,h',a2⟩:=h'
   cases hr
   cases I.fX h h'
   obtain ⟨bs,e1,rfl⟩:=map_some e
   rw [key a1 a2 e1,<-a1.length,<-a2.length]
   simp
  .obtain ⟨_,xs,rfl,h,a1⟩:=h
   obtain ⟨_,ys,hr,h',a2⟩:=h'
   cases hr
   cases I.ir h h'
   rw [if_pos (by rw [<-a1.length,<-a2.length])] at e
   obtain ⟨bs,e1,rfl⟩:=map_some e
   exact key a1 a2 e1
theorem Rv{xs:List V}{ak:List Value}{O:Addr->Prop}{K:aJ}{ds:List D}(r:aA xs ak)(a:aK K O H xs ds){j:Nat}(h:j<ak.toArray.size):∃d v,ds[j]?=some d/\Is K O H v d/\RelV v ak.toArray[j]:=by
 have hj:j<ak.length:=by simpa using h
 have hl:=r.length
 obtain ⟨d,hd,hv⟩:=a.jG (i:=j) (x:=xs[j]'(by ext hj hl)) (gu (by ext hj hl))
 obtain ⟨u,hu,ru⟩:=r.get (i:=j) (x:=xs[j]'(by ext hj hl)) (gu (by ext hj hl))
 rw [gu hj] at hu
 refine ⟨d,_,hd,hv,?_⟩
 rw [List.getElem_toArray,dj hu]
 exact ru
open PySem.SeqAt in
theorem Qv(I:Inv X pins σ H s)(hu:A.units<cLine)(h:CL X.K O H v d)(h':CL X.K O' H v' d')(r:RelV v u)(r':RelV v' u')(e:bj n d d'=some b)
  (hn:(∀a c,d=.tup a->d'=.tup c->False)/\∀a c r r',d=.lst r a->d'=.lst r' c->False):EqAt A s u u' b/\RcAt A s u u' b/\RcNeAt A s u u' (!b):=by
 cases d with
 | aR =>
  cases d' with
  | aR =>
   subst h;obtain rfl:u=gr:=r
   subst h';obtain rfl:u'=gr:=r'
   simp only [bj,dY] at e
   subst e
   exact ⟨EqAt.same _,RcAt.none_none,RcNeAt.none_none⟩
  | bl k' =>
   subst h;obtain rfl:u=gr:=r
   subst h';obtain rfl:u'=kQ k':=r'
   simp only [bj,dY] at e
   subst e
   exact ⟨EqAt.none_bool k',RcAt.none_bool k',RcNeAt.none_bool k'⟩
  | int k' =>
   subst h;obtain rfl:u=gr:=r
   subst h';obtain ⟨t',rfl⟩:=r'
   simp only [bj,dY] at e
   subst e
   exact ⟨EqAt.none_int k' t',RcAt.none_int k' t',RcNeAt.none_int k' t'⟩
  | str k' =>
   subst h;obtain rfl:u=gr:=r
   subst h';obtain ⟨t',rfl⟩:=r'
   simp only [bj,dY] at e
   subst e
   exact ⟨EqAt.none_str k' t',RcAt.none_str k' t',RcNeAt.none_str k' t'⟩
  | tup gp =>
   subst h;obtain rfl:u=gr:=r
   obtain ⟨p',jx,rfl,dR,_⟩:=h';obtain ⟨its',_,bu,_⟩:=I.tuple dR;obtain rfl:u'=dX p':=r';replace bu:s.heap.IsTuple p' its'.toArray:=bu
   simp only [bj,dY] at e
   subst e
   exact ⟨EqAt.none_tuple bu hu,RcAt.none_tuple bu hu,RcNeAt.none_tuple bu hu⟩
  | lst pj gp =>
   subst h;obtain rfl:u=gr:=r
   obtain ⟨p',jx,rfl,dR,_⟩:=h';obtain ⟨its',_,bu,_⟩:=I.list dR;obtain rfl:u'=dX p':=r';replace bu:=bu.isList
   simp only [bj,dY] at e
   subst e
   exact ⟨EqAt.none_list bu hu,RcAt.none_list bu hu,RcNeAt.none_list bu hu⟩
  | exc n'=>simp [bj] at e
  | fx n' m'=>simp [bj] at e
 | bl k =>
  cases d' with
  | aR =>
   subst h;obtain rfl:u=kQ k:=r
   subst h';obtain rfl:u'=gr:=r'
   simp only [bj,dY] at e
   subst e
   exact ⟨EqAt.bool_none k,RcAt.bool_none k,RcNeAt.bool_none k⟩
  | bl k' =>
   subst h;obtain rfl:u=kQ k:=r
   subst h';obtain rfl:u'=kQ k':=r'
   simp only [bj,dY] at e
   subst e
   exact ⟨EqAt.bool_bool k k',RcAt.bool_bool k k',RcNeAt.bool_bool k k'⟩
  | int k' =>
   subst h;obtain rfl:u=kQ k:=r
   subst h';obtain ⟨t',rfl⟩:=r'
   simp only [bj,dY] at e
   subst e
   exact ⟨EqAt.bool_int k k' t',RcAt.bool_int k k' t',RcNeAt.bool_int k k' t'⟩
  | str k' =>
   subst h;obtain rfl:u=kQ k:=r
   subst h';obtain ⟨t',rfl⟩:=r'
   simp only [bj,dY] at e
   subst e
   exact ⟨EqAt.bool_str k k' t',RcAt.bool_str k k' t',RcNeAt.bool_str k k' t'⟩
  | tup gp =>
   subst h;obtain rfl:u=kQ k:=r
   obtain ⟨p',jx,rfl,dR,_⟩:=h';obtain ⟨its',_,bu,_⟩:=I.tuple dR;obtain rfl:u'=dX p':=r';replace bu:s.heap.IsTuple p' its'.toArray:=bu
   simp only [bj,dY] at e
   subst e
   exact ⟨EqAt.bool_tuple k bu hu,RcAt.bool_tuple k bu hu,RcNeAt.bool_tuple k bu hu⟩
  | lst pj gp =>
   subst h;obtain rfl:u=kQ k:=r
   obtain ⟨p',jx,rfl,dR,_⟩:=h';obtain ⟨its',_,bu,_⟩:=I.list dR;obtain rfl:u'=dX p':=r';replace bu:=bu.isList
   simp only [bj,dY] at e
   subst e
   exact ⟨EqAt.bool_list k bu hu,RcAt.bool_list k bu hu,RcNeAt.bool_list k bu hu⟩
  | exc n'=>simp [bj] at e
  | fx n' m'=>simp [bj] at e
 | int k =>
  cases d' with
  | aR =>
   subst h;obtain ⟨t,rfl⟩:=r
   subst h';obtain rfl:u'=gr:=r'
   simp only [bj,dY] at e
   subst e
   exact ⟨EqAt.int_none k t,RcAt.int_none k t,RcNeAt.int_none k t⟩
  | bl k' =>
   subst h;obtain ⟨t,rfl⟩:=r
   subst h';obtain rfl:u'=kQ k':=r'
   simp only [bj,dY] at e
   subst e
   exact ⟨EqAt.int_bool k t k',RcAt.int_bool k t k',RcNeAt.int_bool k t k'⟩
  | int k' =>
   subst h;obtain ⟨t,rfl⟩:=r
   subst h';obtain ⟨t',rfl⟩:=r'
   simp only [bj,dY] at e
   subst e
   exact ⟨EqAt.int_int k t k' t',RcAt.int_int k t k' t',RcNeAt.int_int k t k' t'⟩
  | str k' =>
   subst h;obtain ⟨t,rfl⟩:=r
   subst h';obtain ⟨t',rfl⟩:=r'
   simp only [bj,dY] at e
   subst e
   exact ⟨EqAt.int_str k t k' t',RcAt.int_str k t k' t',RcNeAt.int_str k t k' t'⟩
  | tup gp =>
   subst h;obtain ⟨t,rfl⟩:=r
   obtain ⟨p',jx,rfl,dR,_⟩:=h';obtain ⟨its',_,bu,_⟩:=I.tuple dR;obtain rfl:u'=dX p':=r';replace bu:s.heap.IsTuple p' its'.toArray:=bu
   simp only [bj,dY] at e
   subst e
   exact ⟨EqAt.int_tuple k t bu hu,RcAt.int_tuple k t bu hu,RcNeAt.int_tuple k t bu hu⟩
  | lst pj gp =>
   subst h;obtain ⟨t,rfl⟩:=r
   obtain ⟨p',jx,rfl,dR,_⟩:=h';obtain ⟨its',_,bu,_⟩:=I.list dR;obtain rfl:u'=dX p':=r';replace bu:=bu.isList
   simp only [bj,dY] at e
   subst e
   exact ⟨EqAt.int_list k t bu hu,RcAt.int_list k t bu hu,RcNeAt.int_list k t bu hu⟩
  | exc n'=>simp [bj] at e
  | fx n' m'=>simp [bj] at e
 | str k =>
  cases d' with
  | aR =>
   subst h;obtain ⟨t,rfl⟩:=r
   subst h';obtain rfl:u'=gr:=r'
   simp only [bj,dY] at e
   subst e
   exact ⟨EqAt.str_none k t,RcAt.str_none k t,RcNeAt.str_none k t⟩
  | bl k' =>
   subst h;obtain ⟨t,rfl⟩:=r
   subst h';obtain rfl:u'=kQ k':=r'
   simp only [bj,dY] at e
   subst e
   exact ⟨EqAt.str_bool k t k',RcAt.str_bool k t k',RcNeAt.str_bool k t k'⟩
  | int k' =>
   subst h;obtain ⟨t,rfl⟩:=r
   subst h';obtain ⟨t',rfl⟩:=r'
   simp only [bj,dY] at e
   subst e
   exact ⟨EqAt.str_int k t k' t',RcAt.str_int k t k' t',RcNeAt.str_int k t k' t'⟩
  | str k' =>
   subst h;obtain ⟨t,rfl⟩:=r
   subst h';obtain ⟨t',rfl⟩:=r'
   simp only [bj,dY] at e
   subst e
   exact ⟨EqAt.str_str k t k' t',RcAt.str_str k t k' t',RcNeAt.str_str k t k' t'⟩
  | tup gp =>
   subst h;obtain ⟨t,rfl⟩:=r
   obtain ⟨p',jx,rfl,dR,_⟩:=h';obtain ⟨its',_,bu,_⟩:=I.tuple dR;obtain rfl:u'=dX p':=r';replace bu:s.heap.IsTuple p' its'.toArray:=bu
   simp only [bj,dY] at e
   subst e
   exact ⟨EqAt.str_tuple k t bu hu,RcAt.str_tuple k t bu hu,RcNeAt.str_tuple k t bu hu⟩
  | lst pj gp =>
   subst h;obtain ⟨t,rfl⟩:=r
   obtain ⟨p',jx,rfl,dR,_⟩:=h';obtain ⟨its',_,bu,_⟩:=I.list dR;obtain rfl:u'=dX p':=r';replace bu:=bu.isList
   simp only [bj,dY] at e
   subst e
   exact ⟨EqAt.str_list k t bu hu,RcAt.str_list k t bu hu,RcNeAt.str_list k t bu hu⟩
  | exc n'=>simp [bj] at e
  | fx n' m'=>simp [bj] at e
 | tup ds =>
  cases d' with
  | aR =>
   obtain ⟨p,xs,rfl,hq,_⟩:=h;obtain ⟨ak,_,pl,_⟩:=I.tuple hq;obtain rfl:u=dX p:=r;replace pl:s.heap.IsTuple p ak.toArray:=pl
   subst h';obtain rfl:u'=gr:=r'
   simp only [bj,dY] at e
   subst e
   exact ⟨EqAt.tuple_none pl hu,RcAt.tuple_none pl hu,RcNeAt.tuple_none pl hu⟩
  | bl k' =>
   obtain ⟨p,xs,rfl,hq,_⟩:=h;obtain ⟨ak,_,pl,_⟩:=I.tuple hq;obtain rfl:u=dX p:=r;replace pl:s.heap.IsTuple p ak.toArray:=pl
   subst h';obtain rfl:u'=kQ k':=r'
   simp only [bj,dY] at e
   subst e
   exact ⟨EqAt.tuple_bool k' pl hu,RcAt.tuple_bool k' pl hu,RcNeAt.tuple_bool k' pl hu⟩
  | int k' =>
   obtain ⟨p,xs,rfl,hq,_⟩:=h;obtain ⟨ak,_,pl,_⟩:=I.tuple hq;obtain rfl:u=dX p:=r;replace pl:s.heap.IsTuple p ak.toArray:=pl
   subst h';obtain ⟨t',rfl⟩:=r'
   simp only [bj,dY] at e
   subst e
   exact ⟨EqAt.tuple_int k' t' pl hu,RcAt.tuple_int k' t' pl hu,RcNeAt.tuple_int k' t' pl hu⟩
  | str k' =>
   obtain ⟨p,xs,rfl,hq,_⟩:=h;obtain ⟨ak,_,pl,_⟩:=I.tuple hq;obtain rfl:u=dX p:=r;replace pl:s.heap.IsTuple p ak.toArray:=pl
   subst h';obtain ⟨t',rfl⟩:=r'
   simp only [bj,dY] at e
   subst e
   exact ⟨EqAt.tuple_str k' t' pl hu,RcAt.tuple_str k' t' pl hu,RcNeAt.tuple_str k' t' pl hu⟩
  | tup gp=>exact (hn.1 _ _ rfl rfl).elim
  | lst pj gp =>
   obtain ⟨p,xs,rfl,hq,_⟩:=h;obtain ⟨ak,_,pl,_⟩:=I.tuple hq;obtain rfl:u=dX p:=r;replace pl:s.heap.IsTuple p ak.toArray:=pl
   obtain ⟨p',jx,rfl,dR,_⟩:=h';obtain ⟨its',_,bu,_⟩:=I.list dR;obtain rfl:u'=dX p':=r';replace bu:=bu.isList
   simp only [bj,dY] at e
   subst e
   exact ⟨EqAt.tuple_list pl bu hu,RcAt.tuple_list pl bu hu,RcNeAt.tuple_list pl bu hu⟩
  | exc n'=>simp [bj] at e
  | fx n' m'=>simp [bj] at e
 | lst ro ds =>
  cases d' with
  | aR =>
   obtain ⟨p,xs,rfl,hq,_⟩:=h;obtain ⟨ak,_,pl,_⟩:=I.list hq;obtain rfl:u=dX p:=r;replace pl:=pl.isList
   subst h';obtain rfl:u'=gr:=r'
   simp only [bj,dY] at e
   subst e
   exact ⟨EqAt.list_none pl hu,RcAt.list_none pl hu,RcNeAt.list_none pl hu⟩
  | bl k' =>
   obtain ⟨p,xs,rfl,hq,_⟩:=h;obtain ⟨ak,_,pl,_⟩:=I.list hq;obtain rfl:u=dX p:=r;replace pl:=pl.isList
   subst h';obtain rfl:u'=kQ k':=r'
   simp only [bj,dY] at e
   subst e
   exact ⟨EqAt.list_bool k' pl hu,RcAt.list_bool k' pl hu,RcNeAt.list_bool k' pl hu⟩
  | int k' =>
   obtain ⟨p,xs,rfl,hq,_⟩:=h;obtain ⟨ak,_,pl,_⟩:=I.list hq;obtain rfl:u=dX p:=r;replace pl:=pl.isList
   subst h';obtain ⟨t',rfl⟩:=r'
   simp only [bj,dY] at e
   subst e
   exact ⟨EqAt.list_int k' t' pl hu,RcAt.list_int k' t' pl hu,RcNeAt.list_int k' t' pl hu⟩
  | str k' =>
   obtain ⟨p,xs,rfl,hq,_⟩:=h;obtain ⟨ak,_,pl,_⟩:=I.list hq;obtain rfl:u=dX p:=r;replace pl:=pl.isList
   subst h';obtain ⟨t',rfl⟩:=r'
   simp only [bj,dY] at e
   subst e
   exact ⟨EqAt.list_str k' t' pl hu,RcAt.list_str k' t' pl hu,RcNeAt.list_str k' t' pl hu⟩
  | tup gp =>
   obtain ⟨p,xs,rfl,hq,_⟩:=h;obtain ⟨ak,_,pl,_⟩:=I.list hq;obtain rfl:u=dX p:=r;replace pl:=pl.isList
   obtain ⟨p',jx,rfl,dR,_⟩:=h';obtain ⟨its',_,bu,_⟩:=I.tuple dR;obtain rfl:u'=dX p':=r';replace bu:s.heap.IsTuple p' its'.toArray:=bu
   simp only [bj,dY] at e
   subst e
   exact ⟨EqAt.list_tuple pl bu hu,RcAt.list_tuple pl bu hu,RcNeAt.list_tuple pl bu hu⟩
  | lst pj gp=>exact (hn.2 _ _ _ _ rfl rfl).elim
  | exc n'=>simp [bj] at e
  | fx n' m'=>simp [bj] at e
 | exc n=>cases d'<;>simp [bj] at e
 | fx n m=>cases d'<;>simp [bj] at e
open PySem.SeqAt in
theorem J'(I:Inv X pins σ H s):∀(n:Nat) {A:Around} {u u':Value} {v v':V} {d d':D} {b:Bool},A.units+n<cLine->Is X.K O H v d->Is X.K O' H v' d'->RelV v u->RelV v' u'->bj n d d'=some b ->
  EqAt A s u u' b/\RcAt A s u u' b/\RcNeAt A s u u' (!b):=by
 intro n
 induction n with
 | zero =>
  intro A u u' v v' d d' b hu h h' r r' e
  refine Qv I ‹_› h.oK h'.oK r r' e ⟨?_,?_⟩
  .rintro a c rfl rfl;simp [bj] at e
  .rintro a c ro pj rfl rfl;simp [bj] at e
 | succ n ih =>
  intro A u u' v v' d d' b hu h h' r r' e
  have elems:∀{xs ys:List V} {ak cw:List Value} {ds es:List D} {bs:List Bool},aA xs ak->aA ys cw->aK X.K O H xs ds->aK X.K O' H ys es->gJ (pS (bj n) ds es)=some bs ->
    ∀j (h1:j<ak.toArray.size) (h2:j<cw.toArray.size),EqAt A.in1 s ak.toArray[j] cw.toArray[j] (bs.getD j false):=λ{xs ys ak cw ds es bs} rx ry ax ay ea j h1 h2=>by
   obtain ⟨d1,v1,e1,i1,r1⟩:=Rv rx ax h1
   obtain ⟨d2,v2,e2,i2,r2⟩:=Rv ry ay h2
   obtain ⟨hl,g⟩:=xJ ea
   have hz:(pS (bj n) ds es)[j]?=some (bj n d1 d2):=by rw [JA,e1,e2]
   have hj:j<bs.length:=by rw [<-hl];exact (gH.mp hz).1
   have:=g j bs[j] (gu hj)
   rw [hz] at this
   have e3:bs.getD j false=bs[j]:=by simp [hj]
   rw [e3]
   exact (ih (A:=A.in1) (by show A.units+1+n<_;ext hu) i1 i2 r1 r2 (dj this)).1
  by_cases ht:∃a c,d=.tup a/\d'=.tup c
  .obtain ⟨ds,es,rfl,rfl⟩:=ht
   simp only [bj] at e
   obtain ⟨bs,e1,rfl⟩:=map_some e
   obtain ⟨p,xs,rfl,hq,ax⟩:=h.oK
   obtain ⟨p',ys,rfl,dR,ay⟩:=h'.oK
   obtain ⟨ak,rx,pl,_⟩:=I.tuple hq
   obtain ⟨cw,ry,bu,_⟩:=I.tuple dR
   obtain rfl:u=dX p:=r
   obtain rfl:u'=dX p':=r'
   have pl:s.heap.IsTuple p ak.toArray:=pl
   have bu:s.heap.IsTuple p' cw.toArray:=bu
   have hlen:bs.length=min ds.length es.length:=by rw [<-(xJ e1).1,Ji]
   have l1:ak.toArray.size=ds.length:=by rw [dG,<-rx.length,ax.length]
   have l2:cw.toArray.size=es.length:=by rw [dG,<-ry.length,ay.length]
   have val:((fI (min ak.toArray.size cw.toArray.size)).all (λj=>bs.getD j false)&&ak.toArray.size==cw.toArray.size)=(bs.all id&&decide (ds.length=es.length)):=by
    rw [l1,l2,all_range hlen]
    rfl
   have rc:=RcAt.tuples pl bu (by ext hu) (elems rx ry ax ay e1)
   have rn:=RcNeAt.tuples pl bu (by ext hu) (elems rx ry ax ay e1)
   rw [val] at rc rn
   refine ⟨?_,rc,rn⟩
   by_cases hp:p=p'
   .subst hp
    have:=Rk I (n+1) h h' (show bj (n+1) (.tup ds) (.tup es)=some (bs.all id&&decide (ds.length=es.length)) by simp only [bj];rw [e1];rfl)
    rw [this]
    exact EqAt.same _
   .exact .of_refs hp rc
  by_cases hl:∃a c ro pj,d=.lst ro a/\d'=.lst pj c
  .obtain ⟨ds,es,ro,pj,rfl,rfl⟩:=hl
   have e0:=e
   simp only [bj] at e
   obtain ⟨p,xs,rfl,hq,ax⟩:=h.oK
   obtain ⟨p',ys,rfl,dR,ay⟩:=h'.oK
   obtain ⟨ak,rx,pl,_⟩:=I.list hq
   obtain ⟨cw,ry,bu,_⟩:=I.list dR
   obtain rfl:u=dX p:=r
   obtain rfl:u'=dX p':=r'
   have l1:ak.toArray.size=ds.length:=by rw [dG,<-rx.length,ax.length]
   have l2:cw.toArray.size=es.length:=by rw [dG,<-ry.length,ay.length]
   have fin:RcAt A s (.ref p) (.ref p') b->RcNeAt A s (.ref p) (.ref p') (!b)->EqAt A s (.ref p) (.ref p') b/\RcAt A s (.ref p) (.ref p') b/\RcNeAt A s (.ref p) (.ref p') (!b):=λrc rn=>by
    refine ⟨?_,rc,rn⟩
    by_cases hp:p=p'
    .subst hp
     rw [Rk I (n+1) h h' e0]
     exact EqAt.same _
    .exact .of_refs hp rc
   by_cases hlen:ds.length=es.length
   .rw [if_pos hlen] at e
    obtain ⟨bs,e1,rfl⟩:=map_some e
    have Au:bs.length=ds.length:=by rw [<-(xJ e1).1,Ji];ext hlen
    have rc:=RcAt.lists pl.isList bu.isList (by ext l1 l2 hlen) (by ext hu) (elems rx ry ax ay e1)
    have rn:=RcNeAt.lists pl.isList bu.isList (by ext l1 l2 hlen) (by ext hu) (elems rx ry ax ay e1)
    rw [l1,all_range Au] at rc rn
    exact fin rc rn
   .rw [if_neg hlen] at e
    cases e
    have bI:(ak.toArray.size != cw.toArray.size)=true:=by rw [l1,l2];simpa using hlen
    exact fin (RcAt.lists_lengths pl.isList bu.isList bI (by ext hu)) (RcNeAt.lists_lengths pl.isList bu.isList bI (by ext hu))
  refine Qv I (by ext hu) h.oK h'.oK r r' e ⟨λa c e1 e2=>ht ⟨a,c,e1,e2⟩,λa c ro pj e1 e2=>hl ⟨a,c,ro,pj,e1,e2⟩⟩
noncomputable def fw:D->D->Option Sl:=λa b=>(bj 8 a b).map λk=>.sh (.bl k)
noncomputable def me:D->D->Option Sl:=λa b=>(bj 8 a b).map λk=>.sh (.bl !k)
theorem qc(hu:X.A.units+8<cLine):g9 X (compareOp .Eq) fw:=by
 refine ⟨λx y H Q=>∃O O' a b k,Is X.K O H x a/\Is X.K O' H y b/\bj 8 a b=some k/\Q (.bl k) H,?_,λO H x y a b s Q hO hx hy e q=>?_⟩
 .intro pins s σ H x y v u Q I rx ry h
  obtain ⟨O,O',a,b,k,hx,hy,e,q⟩:=h
  exact (J' I 8 hu hx hy rx ry e).2.1 _ _ _ _ ⟨.bl k,H,I,rfl,q⟩
 .obtain ⟨k,e1,rfl⟩:=map_some e
  exact ⟨O,O,a,b,k,hx,hy,e1,q _ H (aq.refl _) (Is.bl _)⟩
theorem Kp(hu:X.A.units+8<cLine):g9 X (compareOp .NotEq) me:=by
 refine ⟨λx y H Q=>∃O O' a b k,Is X.K O H x a/\Is X.K O' H y b/\bj 8 a b=some k/\Q (.bl !k) H,?_,λO H x y a b s Q hO hx hy e q=>?_⟩
 .intro pins s σ H x y v u Q I rx ry h
  obtain ⟨O,O',a,b,k,hx,hy,e,q⟩:=h
  exact (J' I 8 hu hx hy rx ry e).2.2 _ _ _ _ ⟨.bl _,H,I,rfl,q⟩
 .obtain ⟨k,e1,rfl⟩:=map_some e
  exact ⟨O,O,a,b,k,hx,hy,e1,q _ H (aq.refl _) (Is.bl _)⟩
end
theorem Fx.u8{X:Cx}{N:List Str}{sc:Scope}{k:Nat}{full:Bool}(h:Fx X N sc k full):X.A.units+8<cLine:=by have:=h.room.un;ext this
theorem uq{X X':Cx}{x:Str}(e4:X'.mg=X.mg)(h:X.mg x=none):X'.mg x=none:=by rw [e4];exact h
end DL
namespace DL
open PySem PySem.Spec PyProof.Rows L2
theorem b07{P:Program}{w:World}{K:aJ}{tg:Expr}(it:Addr)(lo:Int)(n:Nat):Turn P w K tg (nG lo n) [it] it (λi h=>IsLongIter h it (lo+(i:Nat)*1) ((n:Int)-(i:Nat)) 1) where
 mem:=by simp
 obj:=λi h st b hb=>by
  have e:b=it:=by simpa using hb
  subst e
  exact ⟨_,st,λv z=>by
   have z':A4 _=vk v:=z
   cases z'⟩
 keep:=λi h h' st k=>k it (by simp) _ st
 item:=by
  intro X hP hw hK hc i pins s σ H E I hf st hg
  subst hP hw hK
  obtain ⟨f0,f1,f2,f3,f4,f5⟩:=hf it (by simp)
  have W:=Walks.longrange (prog:=X.prog) (w:=X.w) (I.ok.hd hc) it lo 1 n
  refine W.item i s _ _ hg st λv h' tk hv aj kk=>?_
  obtain ⟨t,rfl⟩:=hv
  have I1:Inv X pins σ H { s with heap:=h',toks:=tk }:=I.turned (λb o hb e=>kk b o (by simpa using hb) e) f0 f1 f3 f4 f5
  refine ⟨_,rfl,Bp (s:={ s with heap:=h',toks:=tk }) (n:="longrange_iterator") aj rfl rfl (by decide) ⟨.int (lo+i),H,I1,⟨t,?_⟩,⟨rfl,rfl⟩,aj,λb hb=>(hf b hb).1⟩⟩
  rw [DC]
 done:=by
  intro X hP hw hK hc i pins s σ H E I hf st hg
  subst hP hw hK
  obtain ⟨f0,f1,f2,f3,f4,f5⟩:=hf it (by simp)
  exact wpAny_pyNext_long_end (I.ok.hd hc) st (by have:n<=i:=hg;ext this) λh' eb=>⟨rfl,I.turned (t':=s.toks) (λb o hb e=>eb b o hb e) f0 f1 f3 f4 f5⟩
 self:=λ_ _ _ _ _ st h=>wpAny_pyIter_longiter st h
section
variable {X:Cx}{tg:Expr}
theorem RV{pins:List (Addr×Obj)}{σ:L2.St}{H:Hp}{s:Shared}{R:It->Hp->Prop}{E:Value->Shared->Prop}{lo hi:Int}{t u v:Tok}{tk:Nat}(I:Inv X pins σ H s)
  (q:R (nG lo (hi-lo).toNat) H):wpAny (model X.prog X.w) X.A (pyIter (.ref s.heap.objs.size)) (F6 X pins σ tg R) E { s with heap:=s.heap.push { cls:=.type "range",data:=.fields #[.int lo t,.int hi u,.int 1 v] },toks:=tk }:=by
 have I1:Inv X pins σ H { s with heap:=s.heap.push { cls:=.type "range",data:=.fields #[.int lo t,.int hi u,.int 1 v] },toks:=tk }:=I.kept λb o e=>bC _ e
 have e1:lo+((0:Nat):Int)*1=lo:=by simp
 have e2:(((hi-lo).toNat:Nat):Int)-((0:Nat):Int)=Bk lo hi 1:=by rw [rangeSize_one];split<;>lia
 have fin:∀b∈[(s.heap.push { cls:=.type "range",data:=.fields #[.int lo t,.int hi u,.int 1 v] }).objs.size],cV X pins H b:=λb hb=>by
  have e:b=(s.heap.push { cls:=.type "range",data:=.fields #[.int lo t,.int hi u,.int 1 v] }).objs.size:=by simpa using hb
  subst e
  exact I1.iT (bo _) (I1.bh.fresh (bo _))
 by_cases zZ:Jh lo hi 1=true
 .refine Je (DB ..) zZ ?_
  refine ⟨_,[(s.heap.push { cls:=.type "range",data:=.fields #[.int lo t,.int hi u,.int 1 v] }).objs.size],_,_,H,rfl,I1.kept (t':=tk) λb o e=>bC _ e,S4 _ lo (hi-lo).toNat,?_,fin,q⟩
  show IsRangeIter _ _ (lo+((0:Nat):Int)*1) ((((hi-lo).toNat:Nat):Int)-((0:Nat):Int)) 1
  rw [e1,e2]
  exact fj _ rfl
 .refine wpAny_pyIter_longrange (DB ..) (by simpa using zZ) ?_
  refine ⟨_,[(s.heap.push { cls:=.type "range",data:=.fields #[.int lo t,.int hi u,.int 1 v] }).objs.size],_,_,H,rfl,I1.kept (t':=tk) λb o e=>bC _ e,b07 _ lo (hi-lo).toNat,?_,fin,q⟩
  show IsLongIter _ _ (lo+((0:Nat):Int)*1) ((((hi-lo).toNat:Nat):Int)-((0:Nat):Int)) 1
  rw [e1,e2]
  exact fj _ rfl
noncomputable def b8N(ta:TA):TI:=λσ H R=>ta σ H λvs H1=>∃j:Int,vs=[.int j]/\R (nG 0 j.toNat) H1
noncomputable def b8M(ta:TA):TI:=λσ H R=>ta σ H λvs H1=>∃i j:Int,vs=[.int i,.int j]/\R (nG i (j-i).toNat) H1
theorem b0C(hg:Gl X "range")(hm:X.mg "range" = none)(ha:PA X [a] ta)(hs:starEach [a] X.env=[(false,eval a X.env)]:=by rfl):PI X tg (.Call (.Name "range" p) [a] [] pos) (b8N ta):=by
 intro pins s σ H R I h
 refine Call_ (qb I hg hm DH (vI (aZ (ha pos pins s σ H _ I h) λus s1 ⟨vs,H1,I1,r1,q1⟩=>?_) hs rfl))
 obtain ⟨j,e,q⟩:=q1
 subst e
 cases r1 with
 | cons r rr =>
  cases rr
  obtain ⟨t,rfl⟩:=r
  exact call_range_1 (RV I1 (by simpa using q))
theorem b0B{a b:Expr}{ta:TA}{p pos:Pos}(hg:Gl X "range")(hm:X.mg "range" = none)(ha:PA X [a,b] ta)(hs:starEach [a,b] X.env=[(false,eval a X.env),(false,eval b X.env)]:=by rfl)(gQ:starEach [b] X.env=[(false,eval b X.env)]:=by rfl):
  PI X tg (.Call (.Name "range" p) [a,b] [] pos) (b8M ta):=by
 intro pins s σ H R I h
 refine Call_ (qb I hg hm DH (vI (aZ (ha pos pins s σ H _ I h) λus s1 ⟨vs,H1,I1,r1,q1⟩=>?_) (by rw [hs,gQ]) (by rw [gQ];rfl)))
 obtain ⟨i,j,e,q⟩:=q1
 subst e
 cases r1 with
 | cons r rr =>
  cases rr with
  | cons r' rr =>
   cases rr
   obtain ⟨t,rfl⟩:=r
   obtain ⟨t',rfl⟩:=r'
   exact call_range_2 (RV I1 q)
noncomputable def Bt:List D->Option (List D)
 | [.int j]=>some (ei 0 j.toNat)
 | _=>none
noncomputable def EB:List D->Option (List D)
 | [.int i,.int j]=>some (ei i (j-i).toNat)
 | _=>none
theorem RJ(pM:Gl X "range")(hm:X.mg "range" = none)(ha:AV X [a] fs)(h1:starEach [a] X.env=[(false,eval a X.env)]:=by rfl):IV X tg (.Call (.Name "range" p) [a] [] pos) (eL Bt fs):=by
 obtain ⟨ti,pi,ki⟩:=ha
 refine ⟨_,b0C pM hm pi h1,λO B σ H env ds R Rl e q=>?_⟩
 obtain ⟨as,e1,e2⟩:=bind_some e
 refine ki O B σ H env as _ Rl e1 λvs H1 s1 r1=>?_
 unfold Bt at e2
 split at e2
 .cases e2
  exact ⟨_,RI r1,q _ H1 s1 (Ry _ _)⟩
 .cases e2
theorem b4m{a b:Expr}{fs:En->Option (List D)}{p pos:Pos}(pM:Gl X "range")(hm:X.mg "range" = none)(ha:AV X [a,b] fs)(h1:starEach [a,b] X.env=[(false,eval a X.env),(false,eval b X.env)]:=by rfl)
  (h2:starEach [b] X.env=[(false,eval b X.env)]:=by rfl):IV X tg (.Call (.Name "range" p) [a,b] [] pos) (eL EB fs):=by
 obtain ⟨ti,pi,ki⟩:=ha
 refine ⟨_,b0B pM hm pi h1 h2,λO B σ H env ds R Rl e q=>?_⟩
 obtain ⟨as,e1,e2⟩:=bind_some e
 refine ki O B σ H env as _ Rl e1 λvs H1 s1 r1=>?_
 unfold EB at e2
 split at e2
 .cases e2
  exact ⟨_,_,LF r1,q _ H1 s1 (Ry _ _)⟩
 .cases e2
end
end DL
namespace DL
open PySem PySem.Spec PyProof.Rows L2
noncomputable def lX(b:Bool):String:=if b then "list_iterator" else "tuple_iterator"
def fL(b:Bool)(h:Heap)(it l:Addr)(k:Nat):Prop:=match b with
 | true=>h.IsListIter it l k
 | false=>h.IsTupleIter it l k
def gP(b:Bool)(h:Heap)(l:Addr)(items:Array Value):Prop:=match b with
 | true=>h.IsList l items
 | false=>h.IsTuple l items
theorem fL.keep(x:fL b h it l k)(e:∀o,h.get? it=some o->h'.get? it=some o):fL b h' it l k:=by
 cases b with
 | true=>obtain ⟨o,ho,r⟩:=x;exact ⟨o,e _ ho,r⟩
 | false=>obtain ⟨o,ho,r⟩:=x;exact ⟨o,e _ ho,r⟩
theorem gP.keep(x:gP b h l items)(e:∀o,h.get? l=some o->h'.get? l=some o):gP b h' l items:=by
 cases b with
 | true=>obtain ⟨o,ho,r⟩:=x;exact ⟨o,e _ ho,r⟩
 | false=>obtain ⟨o,ho,r⟩:=x;exact ⟨o,e _ ho,r⟩
theorem fL.lt(x:fL b h it l k):it<h.objs.size:=by
 cases b with
 | true=>obtain ⟨o,ho,r⟩:=x;exact bU ho
 | false=>obtain ⟨o,ho,r⟩:=x;exact bU ho
theorem gP.lt(x:gP b h l items):l<h.objs.size:=by
 cases b with
 | true=>obtain ⟨o,ho,r⟩:=x;exact bU ho
 | false=>obtain ⟨o,ho,r⟩:=x;exact bU ho
theorem fL.jz(x:fL b h it l k):∃o,h.get? it=some o/\∀v,o.data≠.cell v:=by
 cases b with
 | true=>obtain ⟨o,ho,_,d⟩:=x;exact ⟨o,ho,λv z=>by rw [d] at z;cases z⟩
 | false=>obtain ⟨o,ho,_,d⟩:=x;exact ⟨o,ho,λv z=>by rw [d] at z;cases z⟩
section
variable {prog:Program}{w:World}{A:Around}{E:Value->Shared->Prop}{s:Shared}
theorem Fj(hit:fL b s.heap it l i)(hl:gP b s.heap l items)(hx:items[i]?=some x)
  (hQ:∀h',fL b h' it l (i+1)->A1 it s.heap h'->Q x { s with heap:=h' }):wpAny (model prog w) A (tQ (.ref it)) Q E s:=by
 cases b with
 | true=>exact wpAny_nextOf_list_item hit hl hx hQ
 | false =>
  have iA:s.heap.IsTupleIter it l i:=hit
  obtain ⟨o,ho,hc,hd⟩:=id iA
  obtain ⟨ol,Hz,_,nl,wU⟩:=(show s.heap.IsTuple l items from hl)
  unfold tQ
  refine ao (xf (name:=rL "__next__") iA.typeIs El (vC El iA.typeIs Pe ?_ (Pf _)))
  show wpAny _ _ (field (.ref it) 0 >>= _) _ _ s
  refine ao (lL ho hd (x:=.ref l) rfl ?_)
  show wpAny _ _ (if (dX l==gr)=true then _ else _) _ _ s
  rw [if_neg (show ¬((dX l==gr)=true) from nh)]
  show wpAny _ _ (field (.ref it) 1 >>= _) _ _ s
  refine ao (lL ho hd (x:=.int i 0) rfl ?_)
  show wpAny _ _ (seqItems? (.ref l) >>= _) _ _ s
  refine ao (kX Hz wU ?_)
  simp only [Jq,hx]
  refine ao (wpAny_setField ho hd (by simp) (aU ⟨x,rfl,aU (hQ _ ?_ (O9 ..))⟩))
  exact ⟨_,tN _ ho (Obj.isFreed_of_fields (Obj.data_mapFields hd _)),(Obj.cls_mapFields ..).trans hc,by rw [Obj.data_mapFields hd];simp [rawInt]⟩
theorem E3(hh:A.handled=none)(hit:fL b s.heap it l i)(hl:gP b s.heap l items)(hx:items[i]?=none)
  (hE:∀h' e,Heap.ExtBut it s.heap h'->(∃o,h'.get? e=some o/\o.cls=.type "StopIteration")->E (.ref e) { s with heap:=h' }):wpAny (model prog w) A (tQ (.ref it)) Q E s:=by
 cases b with
 | true=>exact wpAny_nextOf_list_end hh hit hl hx hE
 | false =>
  have iA:s.heap.IsTupleIter it l i:=hit
  obtain ⟨o,ho,hc,hd⟩:=id iA
  obtain ⟨ol,Hz,_,nl,wU⟩:=(show s.heap.IsTuple l items from hl)
  unfold tQ
  refine ao (xf (name:=rL "__next__") iA.typeIs El (vC El iA.typeIs Pe ?_ (Pf _)))
  show wpAny _ _ (field (.ref it) 0 >>= _) _ _ s
  refine ao (lL ho hd (x:=.ref l) rfl ?_)
  show wpAny _ _ (if (dX l==gr)=true then _ else _) _ _ s
  rw [if_neg (show ¬((dX l==gr)=true) from nh)]
  show wpAny _ _ (field (.ref it) 1 >>= _) _ _ s
  refine ao (lL ho hd (x:=.int i 0) rfl ?_)
  show wpAny _ _ (seqItems? (.ref l) >>= _) _ _ s
  refine ao (kX Hz wU ?_)
  simp only [Jq,hx]
  refine ao (tH (ao (wpAny_setField ho hd (by simp) ?_)))
  show wpAny _ _ (newExc (.type "StopIteration") [] >>= _) _ _ _
  refine ao ?_
  simp only [newExc,newTuple]
  refine ao (qB ?_ (by size_fits))
  refine ao (m:=firstArgMember _ _) (Dz (a:=gr) (by first | rfl | (simp only [firstArgMember];rfl)) ?_)
  refine qB ?_ (by size_fits)
  simp only [raiseNew]
  refine ao (wpAny_handled ?_)
  first | rw [show A.in1.handled=none from hh] | rw [hh]
  refine ao (aU (wpAny_throw ?_))
  exact hE _ _ (((O9 ..).extBut.push _).push _) ⟨_,fj _ rfl,rfl⟩
structure F5(z TI TO i1 i2 l1 l2:Addr):Prop where
 a1:TI≠z
 a2:TO≠z
 a3:i1≠z
 a4:i2≠z
 a6:TO≠i1
 a7:TO≠i2
 a8:i1≠i2
 b1:l1≠z
 b2:l1≠TO
 b3:l1≠i1
 b4:l1≠i2
 c1:l2≠z
 c2:l2≠TO
 c3:l2≠i1
 c4:l2≠i2
theorem b3q{b1 b2:Bool}{z TI TO i1 i2 l1 l2:Addr}{k1 k2:Nat}{xs ys:Array Value}{x y a b:Value}{Q:Option Value->Shared->Prop}(D:F5 z TI TO i1 i2 l1 l2)
  (hz:IsZip s.heap z TI TO .none)(nW:IsPair s.heap TI (.ref i1) (.ref i2))(oP:IsPair s.heap TO a b)(h1:fL b1 s.heap i1 l1 k1)(h2:fL b2 s.heap i2 l2 k2)(lH:gP b1 s.heap l1 xs)(jm:gP b2 s.heap l2 ys)(hx:xs[k1]?=some x)(hy:ys[k2]?=some y)
  (hQ:∀h',IsZip h' z TI TO (rawInt s.heap.objs.size)->IsPair h' TO x y->fL b1 h' i1 l1 (k1+1)->fL b2 h' i2 l2 (k2+1)->IsPair h' s.heap.objs.size x y->h'.objs.size=s.heap.objs.size+1 ->
   (∀c o,c≠z->c≠TO->c≠i1->c≠i2->s.heap.get? c=some o->h'.get? c=some o)->Q (some (.ref s.heap.objs.size)) { s with heap:=h' }):wpAny (model prog w) A (pyNext (.ref z)) Q E s:=by
 have hT:s.TypeIs (.ref z) "zip":=⟨_,hz,rfl⟩
 unfold pyNext
 refine ao (A2 (xf (name:=rL "__next__") hT DK (vC DK hT F.entry_zip_next ?_ (F.args_zip_next_1 _))))
 show wpAny _ _ (field (.ref z) 2 >>= _) _ _ _
 refine ao (lL hz rfl (x:=.bool false) rfl ?_)
 show wpAny _ _ (field (.ref z) 3 >>= _) _ _ _
 refine ao (lL hz rfl (x:=.ref TI) rfl (ao (kX nW rfl ?_)))
 show wpAny _ _ (Ek (.ref z) >>= _) _ _ _
 refine ao ?_
 unfold Ek
 refine ao (lL hz rfl (x:=.none) rfl (aU ?_))
 simp only [if_true]
 refine ao (tH (ao (lL hz rfl (x:=.ref TO) rfl (ao (xh hz (by simp) λg1 sS s1=>?_)))))
 replace sS:IsZip g1 z TI TO .ellipsis:=sS
 refine ao ?_
 simp only [Ei,IS,DN,List.forIn_nil]
 refine ao (ao (DR ?_))
 show wpAny _ _ (tQ (.ref i1) >>= _) _ _ _
 refine ao (Fj (h1.keep λo e=>s1.extBut _ _ D.a3 e) (lH.keep λo e=>s1.extBut _ _ D.b1 e) hx λg2 Oq s2=>aU ?_)
 have t2:IsPair g2 TO a b:=s2.extBut _ _ D.a6 (s1.extBut _ _ D.a2 oP)
 refine ao (kX t2 rfl (ao (JK t2 λg3 t3 s3=>?_)))
 replace t3:IsPair g3 TO x b:=t3
 refine ao (lK (aU (ao (ao (DR ?_)))))
 show wpAny _ _ (tQ (.ref i2) >>= _) _ _ _
 refine ao (Fj (h2.keep λo e=>s3.extBut _ _ D.a7.symm (s2.extBut _ _ D.a8.symm (s1.extBut _ _ D.a4 e))) (jm.keep λo e=>s3.extBut _ _ D.c2 (s2.extBut _ _ D.c3 (s1.extBut _ _ D.c1 e))) hy λg4 ZK s4=>aU ?_)
 have t4:IsPair g4 TO x b:=s4.extBut _ _ D.a7 t3
 refine ao (kX t4 rfl (ao (JK t4 λg5 t5 s5=>?_)))
 replace t5:IsPair g5 TO x y:=t5
 refine ao (lK (aU (aU (ao (kX t5 rfl (ao (Ja ?_)))))))
 have hsz:g5.objs.size=s.heap.objs.size:=by rw [s5.1,s4.1,s3.1,s2.1,s1.1]
 have NV:IsZip g5 z TI TO .ellipsis:=s5.extBut _ _ D.a2.symm (s4.extBut _ _ D.a4.symm (s3.extBut _ _ D.a2.symm (s2.extBut _ _ D.a3.symm sS)))
 have k5:∀c o,c≠z->c≠TO->c≠i1->c≠i2->s.heap.get? c=some o->g5.get? c=some o:=λc o c1 c2 c3 c4 e=>s5.extBut _ _ c2 (s4.extBut _ _ c4 (s3.extBut _ _ c2 (s2.extBut _ _ c3 (s1.extBut _ _ c1 e))))
 have j1:fL b1 g5 i1 l1 (k1+1):=Oq.keep λo e=>s5.extBut _ _ D.a6.symm (s4.extBut _ _ D.a8 (s3.extBut _ _ D.a6.symm e))
 have j2:fL b2 g5 i2 l2 (k2+1):=ZK.keep λo e=>s5.extBut _ _ D.a7.symm e
 have zR:z<g5.objs.size:=bU NV
 show wpAny _ _ (Po (.ref z) (.ref g5.objs.size) >>= _) _ _ _
 refine ao ?_
 unfold Po
 have YN:IsZip (g5.push { cls:=.type "tuple",data:=.seq #[x,y] }) z TI TO .ellipsis:=bC _ NV
 refine ao (xh YN (by simp) λg7 Hd s7=>?_)
 replace Hd:IsZip g7 z TI TO (rawInt g5.objs.size):=Hd
 refine xh Hd (by simp) λg8 C' s8=>?_
 replace C':IsZip g8 z TI TO (rawInt g5.objs.size):=C'
 have up:∀c o,c≠z->g5.get? c=some o->g8.get? c=some o:=λc o c1 e=>s8.extBut _ _ c1 (s7.extBut _ _ c1 (bC _ e))
 have t8:IsPair g8 g5.objs.size x y:=s8.extBut _ _ (vo zR) (s7.extBut _ _ (vo zR) (fj _ rfl))
 have z8:g8.objs.size=g5.objs.size+1:=by rw [s8.1,s7.1,oi]
 rw [hsz] at C' t8 z8
 refine aU ⟨_,rfl,aU ?_⟩
 show Q (some (.ref g5.objs.size)) _
 rw [hsz]
 exact hQ g8 C' (up _ _ D.a2 t5) (j1.keep λo e=>up _ o D.a3 e) (j2.keep λo e=>up _ o D.a4 e) t8 z8 λc o c1 c2 c3 c4 e=>up c o c1 (k5 c o c1 c2 c3 c4 e)
theorem b5Q{b1 b2:Bool}{z TI TO i1 i2 l1 l2:Addr}{k1 k2:Nat}{xs ys:Array Value}{a b:Value}{Q:Option Value->Shared->Prop}(hh:A.handled=none)(D:F5 z TI TO i1 i2 l1 l2)
  (hz:IsZip s.heap z TI TO .none)(nW:IsPair s.heap TI (.ref i1) (.ref i2))(oP:IsPair s.heap TO a b)(h1:fL b1 s.heap i1 l1 k1)(h2:fL b2 s.heap i2 l2 k2)(lH:gP b1 s.heap l1 xs)(jm:gP b2 s.heap l2 ys)(HX:xs[k1]?=none\/ys[k2]?=none)
  (hQ:∀h',(∀c o,c≠z->c≠TO->c≠i1->c≠i2->s.heap.get? c=some o->h'.get? c=some o)->Q none { s with heap:=h' }):wpAny (model prog w) A (pyNext (.ref z)) Q E s:=by
 have hT:s.TypeIs (.ref z) "zip":=⟨_,hz,rfl⟩
 unfold pyNext
 have fin:∀(h':Heap) (e:Addr),(∀c o,c≠z->c≠TO->c≠i1->c≠i2->s.heap.get? c=some o->h'.get? c=some o)->(∃o,h'.get? e=some o/\o.cls=.type "StopIteration") ->
   wpAny (model prog w) A (isInstance (.ref e) (.type "StopIteration") >>= λb=>if b=true then pure none else throw (.ref e)) Q E { s with heap:=h' }:=λh' e hk ⟨o,ho,hc⟩ =>
  ao (wpAny_isInstance (T:="StopIteration") (b:=true) ⟨o,ho,hc⟩ isSubtype_stop (aU (hQ _ hk)))
 refine ao (A2 (xf (name:=rL "__next__") hT DK (vC DK hT F.entry_zip_next ?_ (F.args_zip_next_1 _))))
 show wpAny _ _ (field (.ref z) 2 >>= _) _ _ _
 refine ao (lL hz rfl (x:=.bool false) rfl ?_)
 show wpAny _ _ (field (.ref z) 3 >>= _) _ _ _
 refine ao (lL hz rfl (x:=.ref TI) rfl (ao (kX nW rfl ?_)))
 show wpAny _ _ (Ek (.ref z) >>= _) _ _ _
 refine ao ?_
 unfold Ek
 refine ao (lL hz rfl (x:=.none) rfl (aU ?_))
 simp only [if_true]
 refine ao (tH (ao (lL hz rfl (x:=.ref TO) rfl (ao (xh hz (by simp) λg1 sS s1=>?_)))))
 replace sS:IsZip g1 z TI TO .ellipsis:=sS
 refine ao ?_
 simp only [Ei,IS,DN,List.forIn_nil]
 refine ao (ao (DR ?_))
 show wpAny _ _ (tQ (.ref i1) >>= _) _ _ _
 cases hx:xs[k1]? with
 | none =>
  refine ao (E3 hh (h1.keep λo e=>s1.extBut _ _ D.a3 e) (lH.keep λo e=>s1.extBut _ _ D.b1 e) hx λg2 e s2 he=>?_)
  obtain ⟨oe,uW,uZ⟩:=he
  have wL:IsZip g2 z TI TO .ellipsis:=s2 _ _ D.a3.symm sS
  have HW:e≠z:=λx=>by subst x;rw [wL] at uW;cases uW;simp at uZ
  exact xh wL (by simp) λg3 _ s3=>fin g3 e (λc o c1 _ c3 _ x=>s3.extBut _ _ c1 (s2 _ _ c3 (s1.extBut _ _ c1 x))) ⟨oe,s3.extBut _ _ HW uW,uZ⟩
 | some x =>
  have hy:ys[k2]?=none:=by rcases HX with h | h;rw [hx] at h;cases h;exact h
  refine ao (Fj (h1.keep λo e=>s1.extBut _ _ D.a3 e) (lH.keep λo e=>s1.extBut _ _ D.b1 e) hx λg2 Oq s2=>aU ?_)
  have t2:IsPair g2 TO a b:=s2.extBut _ _ D.a6 (s1.extBut _ _ D.a2 oP)
  refine ao (kX t2 rfl (ao (JK t2 λg3 t3 s3=>?_)))
  refine ao (lK (aU (ao (ao (DR ?_)))))
  show wpAny _ _ (tQ (.ref i2) >>= _) _ _ _
  refine ao (E3 hh (h2.keep λo e=>s3.extBut _ _ D.a7.symm (s2.extBut _ _ D.a8.symm (s1.extBut _ _ D.a4 e))) (jm.keep λo e=>s3.extBut _ _ D.c2 (s2.extBut _ _ D.c3 (s1.extBut _ _ D.c1 e))) hy λg4 e s4 he=>?_)
  obtain ⟨oe,uW,uZ⟩:=he
  have NW:IsZip g4 z TI TO .ellipsis:=s4 _ _ D.a4.symm (s3.extBut _ _ D.a2.symm (s2.extBut _ _ D.a3.symm sS))
  have HW:e≠z:=λx=>by subst x;rw [NW] at uW;cases uW;simp at uZ
  exact xh NW (by simp) λg5 _ s5=>fin g5 e (λc o c1 c2 c3 c4 x=>s5.extBut _ _ c1 (s4 _ _ c4 (s3.extBut _ _ c2 (s2.extBut _ _ c3 (s1.extBut _ _ c1 x))))) ⟨oe,s5.extBut _ _ HW uW,uZ⟩
end
end DL
namespace DL
open PySem PySem.Spec PyProof.Rows L2
section
variable {X:Cx}{pins:List (Addr×Obj)}{σ:L2.St}{H:Hp}{s:Shared}
theorem xG{t':Nat}{h':Heap}{ch:List Addr}(I:Inv X pins σ H s)(hf:∀b∈ch,cV X pins H b)(k:∀b o,b∉ch->s.heap.get? b=some o->h'.get? b=some o):Inv X pins σ H { s with heap:=h',toks:=t' }:=by
 have zi:∀b u,H b=some u->b∉ch:=λb u e z=>by rw [(hf b z).1] at e;cases e
 refine I.step (g':=s.gens) (d':=s.drawn) (ch:=ch) (λb hb=>?_) (λb o _ _ hc e _=>k b o hc e) (λb o _ _ hc e _=>⟨o.slots,k b o hc e⟩) (λ_ _ _ _ n=>n)
  (λb o hc e=>⟨o,k b o hc e⟩) (λ_ _ e=>e) (λ_ _ _ e=>e) (λb ps e=>⟨#[],by rw [e];simp⟩) (λm hm=>?_) (λb u e=>?_) I.bare
 .obtain ⟨_,h1,_,h3,h4,h5⟩:=hf b hb
  exact ⟨h3,h1,h4,h5⟩
 .obtain ⟨o,es,ep,ho,r⟩:=hm
  exact ⟨o,es,ep,k _ o (λz=>(hf _ z).2.1 rfl) ho,r⟩
 .refine (I.bh b u e).km (λc v hc q=>k c v ?_ q) (λ_ _ _ q=>q) λ_ _ q=>q
  rcases hc with z | z
  .rw [z];exact zi b u e
  .exact zi c _ z
theorem oX(I:Inv X pins σ H s)(h:Sq X.K H b l xs):∃ak:List Value,aA xs ak/\gP b s.heap l ak.toArray:=by
 cases b with
 | true=>obtain ⟨ak,r,p,_⟩:=I.list h;exact ⟨ak,r,p.isList⟩
 | false=>obtain ⟨ak,r,p,_⟩:=I.tuple h;exact ⟨ak,r,p⟩
theorem Kj(I:Inv X pins σ H s)(h:Sq X.K H b l xs)(h':Sq X.K H b l ys):xs=ys:=by
 cases b with
 | true=>exact I.ir h h'
 | false=>exact I.fX h h'
end
noncomputable def Nk(K:aJ)(b1 b2:Bool)(l1 l2:Addr):It:=
 ⟨λi H=>∃xs ys x y,Sq K H b1 l1 xs/\Sq K H b2 l2 ys/\xs[i]?=some x/\ys[i]?=some y,
 λi H v H'=>∃p x y,v=.ref p/\H p=none/\H'=upd H p (.tup [x,y])/\(∀xs,Sq K H b1 l1 xs->xs[i]?=some x)/\(∀ys,Sq K H b2 l2 ys->ys[i]?=some y),
 λi H=>∃xs ys,Sq K H b1 l1 xs/\Sq K H b2 l2 ys/\(xs.length<=i\/ys.length<=i)⟩
theorem SJ{h:Heap}{c:Addr}{o p:Obj}(hc:c<h.objs.size)(e:(h.push p).get? c=some o):h.get? c=some o:=by
 have q:(h.objs.push p)[c]?=h.objs[c]?:=by rw [Array.getElem?_push,if_neg (dq hc)]
 unfold Heap.get? Heap.push at e
 unfold Heap.get?
 rw [<-q];exact e
theorem b5R(h1:l1<n)(h2:l2<n):F5 (n+4) (n+2) (n+3) n (n+1) l1 l2:=by
 have Z:=zipApart_new h1 h2
 exact ⟨Z.1,Z.2,Z.3,Z.4,Z.8,Z.9,Z.10,Z.11,Z.12,Z.13,Z.14,Z.15,Z.16,Z.17,Z.18⟩
theorem b3u{P:Program}{w:World}{K:aJ}{elts:List Expr}{kk:Nat}{pos:Pos}{b1 b2:Bool}{z TI TO i1 i2 l1 l2:Addr}(D:F5 z TI TO i1 i2 l1 l2)(d1:TI≠TO)(d2:TI≠i1)(d3:TI≠i2):
  Turn P w K (.Tuple elts kk pos) (Nk K b1 b2 l1 l2) [z,TI,TO,i1,i2] z (λi h=>IsZip h z TI TO .none/\IsPair h TI (.ref i1) (.ref i2)/\(∃a b,IsPair h TO a b)/\fL b1 h i1 l1 i/\fL b2 h i2 l2 i) where
 mem:=by simp
 obj:=λi h ⟨hz,nW,⟨a,b,oP⟩,h1,h2⟩ c hc=>by
  simp only [br,gq,or_false] at hc
  rcases hc with rfl | rfl | rfl | rfl | rfl
  .exact ⟨_,hz,λv q=>nomatch (show A4 _=vk v from q)⟩
  .exact ⟨_,nW,λv q=>nomatch (show Data.seq _ _=vk v from q)⟩
  .exact ⟨_,oP,λv q=>nomatch (show Data.seq _ _=vk v from q)⟩
  .exact h1.jz
  .exact h2.jz
 keep:=λi h h' ⟨hz,nW,⟨a,b,oP⟩,h1,h2⟩ k=>⟨k z (by simp) _ hz,k TI (by simp) _ nW,⟨a,b,k TO (by simp) _ oP⟩,h1.keep λo e=>k i1 (by simp) o e,h2.keep λo e=>k i2 (by simp) o e⟩
 item:=by
  intro X hP hw hK hc i pins s σ H E I hf ⟨hz,nW,⟨a,b,oP⟩,h1,h2⟩ hg
  subst hP hw hK
  obtain ⟨xs,ys,x,y,q1,q2,hx,hy⟩:=hg
  obtain ⟨zF,r1,p1⟩:=oX I q1
  obtain ⟨cw,r2,p2⟩:=oX I q2
  obtain ⟨u1,De,U'⟩:=r1.get hx
  obtain ⟨u2,Ho,U9⟩:=r2.get hy
  refine b3q D hz nW oP h1 h2 p1 p2 (by simpa using De) (by simpa using Ho) λh' z8 t8 j1 j2 nw sz kp=>?_
  refine ⟨_,rfl,wpAny_letOwnedTupleGo_zip (s:={ s with heap:=h' }) z8 λh9 z9 sb=>?_⟩
  have fresh:H s.heap.objs.size=none:=I.bh.fresh (bo _)
  have aT:∀c∈[z,TO,i1,i2],c<s.heap.objs.size:=λc hc=>by
   simp only [br,gq,or_false] at hc
   rcases hc with rfl | rfl | rfl | rfl
   .exact bU hz
   .exact bU oP
   .exact h1.lt
   .exact h2.lt
  have up:∀c o,c∉[z,TO,i1,i2]->s.heap.get? c=some o->h9.get? c=some o:=λc o hc e=>by
   simp only [br,gq,or_false,not_or] at hc
   exact sb.extBut _ _ hc.1 (kp c o hc.1 hc.2.1 hc.2.2.1 hc.2.2.2 e)
  have nz:s.heap.objs.size≠z:=vo (aT z (by simp))
  have GQ:IsPair h9 s.heap.objs.size u1 u2:=sb.extBut _ _ nz nw
  have I1:Inv X pins σ (upd H s.heap.objs.size (.tup [x,y])) { s with heap:=s.heap.push { cls:=.type "tuple",data:=.seq #[u1,u2] },toks:=s.toks }:=
   I.laid (λb o e=>bC _ e) (bo _) ⟨by simp [sizeLine],[u1,u2],.cons U' (.cons U9 .nil),⟨_,fj _ rfl,rfl,_,rfl⟩⟩
  have I2:Inv X pins σ (upd H s.heap.objs.size (.tup [x,y])) { s with heap:=h9,toks:=s.toks }:=xG (s:={ s with heap:=s.heap.push { cls:=.type "tuple",data:=.seq #[u1,u2] },toks:=s.toks }) (ch:=[z,TO,i1,i2]) (t':=s.toks) I1 (λc hc=>by
    obtain ⟨f0,f1,f2,f3,f4,f5⟩:=hf c (by simp only [br,gq,or_false] at hc ⊢;grind)
    exact ⟨by rw [df (dq (aT c hc))];exact f0,f1,f2,f3,f4,f5⟩) λc o hc e=>by
   by_cases hs:c<s.heap.objs.size
   .exact up c o hc (SJ hs e)
   .have wV:c=s.heap.objs.size:=by
     have:=bU e
     rw [oi] at this
     exact DJ (Nat.lt_succ_iff.mp this) (Bf hs)
    subst wV
    have e2:(s.heap.push { cls:=.type "tuple",data:=.seq #[u1,u2] }).get? s.heap.objs.size=some _:=fj _ rfl
    rw [e2] at e;cases e
    exact GQ
  refine ⟨.ref s.heap.objs.size,_,I2,rfl,⟨_,x,y,rfl,fresh,rfl,λzs uO=>by rw [Kj I uO q1];exact hx,λzs uO=>by rw [Kj I uO q2];exact hy⟩,⟨z9,up TI _ (by simp [d1,d2,d3,D.a1]) nW,⟨u1,u2,sb.extBut _ _ D.a2 t8⟩,j1.keep λo e=>sb.extBut _ _ D.a3 e,j2.keep λo e=>sb.extBut _ _ D.a4 e⟩,λc hc=>?_⟩
  rw [df ?_]
  .exact (hf c hc).1
  .simp only [br,gq,or_false] at hc
   rcases hc with rfl | rfl | rfl | rfl | rfl
   .exact dq (aT _ (by simp))
   .exact dq (bU nW)
   .exact dq (aT _ (by simp))
   .exact dq (aT _ (by simp))
   .exact dq (aT _ (by simp))
 done:=by
  intro X hP hw hK hc i pins s σ H E I hf ⟨hz,nW,⟨a,b,oP⟩,h1,h2⟩ hg
  subst hP hw hK
  obtain ⟨xs,ys,q1,q2,hl⟩:=hg
  obtain ⟨zF,r1,p1⟩:=oX I q1
  obtain ⟨cw,r2,p2⟩:=oX I q2
  have e1:=r1.length
  have e2:=r2.length
  refine b5Q (I.ok.hd hc) D hz nW oP h1 h2 p1 p2 ?_ λh' kp=>⟨rfl,xG (ch:=[z,TO,i1,i2]) (t':=s.toks) I (λc hc=>hf c (by simp only [br,gq,or_false] at hc ⊢;grind)) λc o hc e=>?_⟩
  .rcases hl with hl | hl
   .exact .inl (by simp;ext e1 hl)
   .exact .inr (by simp;ext e2 hl)
  .simp only [br,gq,or_false,not_or] at hc
   exact kp c o hc.1 hc.2.1 hc.2.2.1 hc.2.2.2 e
 self:=λ_ _ _ _ _ st h=>wpAny_pyIter_zip st.1 h
noncomputable abbrev CS(b1:Bool)(h:Heap)(l1:Addr):Heap:=h.push { cls:=.type (lX b1),data:=.fields #[.ref l1,.int 0 0] }
noncomputable abbrev CQ(b1 b2:Bool)(h:Heap)(l1 l2:Addr):Heap:=(CS b1 h l1).push { cls:=.type (lX b2),data:=.fields #[.ref l2,.int 0 0] }
noncomputable abbrev CP(b1 b2:Bool)(h:Heap)(l1 l2:Addr):Heap:=(CQ b1 b2 h l1 l2).push { cls:=.type "tuple",data:=.seq #[.ref h.objs.size,.ref (CS b1 h l1).objs.size] }
noncomputable abbrev sF(b1 b2:Bool)(h:Heap)(l1 l2:Addr):Heap:=(CP b1 b2 h l1 l2).push { cls:=.type "tuple",data:=.seq #[.none,.none] }
noncomputable abbrev o7(b1 b2:Bool)(h:Heap)(l1 l2:Addr):Heap:=(sF b1 b2 h l1 l2).push { cls:=.type "zip",data:=.fields #[.none,.bool false,.bool false,.ref (CQ b1 b2 h l1 l2).objs.size,.ref (CP b1 b2 h l1 l2).objs.size] }
theorem a8I(l1 l2:Addr)(xs ys:Array Value):Meets (Builtin.«zip.__new__» ⟨[.type "zip",.ref l1,.ref l2],[]⟩) (λ_ R s=>s.heap.IsList l1 xs/\s.heap.IsList l2 ys/\R (.ok (.ret (.ref (sF true true s.heap l1 l2).objs.size))) { s with heap:=o7 true true s.heap l1 l2 }):=
 .of_wp λprog w A R s h=>by
  obtain ⟨hp,g,d,tk,os⟩:=s;obtain ⟨lH,jm,h⟩:=h
  have jB:=sub_zip
  have u7:Dy (rK ⟨hp,g,d,tk,os⟩) l1 xs:=lH
  have u6:Dy (rK ⟨hp.push { cls:=.type "list_iterator",data:=.fields #[.ref l1,.int 0 0] },g,d,tk,os⟩) l2 ys:=OG jm _
  wp_walk using w5 u7,w5 u6
  exact ⟨_,rfl,h⟩
theorem a8J(l1 l2:Addr)(xs ys:Array Value):Meets (Builtin.«zip.__new__» ⟨[.type "zip",.ref l1,.ref l2],[]⟩) (λ_ R s=>s.heap.IsList l1 xs/\s.heap.IsTuple l2 ys/\R (.ok (.ret (.ref (sF true false s.heap l1 l2).objs.size))) { s with heap:=o7 true false s.heap l1 l2 }):=
 .of_wp λprog w A R s h=>by
  obtain ⟨hp,g,d,tk,os⟩:=s;obtain ⟨lH,jm,h⟩:=h
  have jB:=sub_zip
  have u7:Dy (rK ⟨hp,g,d,tk,os⟩) l1 xs:=lH
  have u6:A8 (rK ⟨hp.push { cls:=.type "list_iterator",data:=.fields #[.ref l1,.int 0 0] },g,d,tk,os⟩) l2 ys:=gP.keep (b:=false) jm λo e=>bC _ e
  wp_walk using w5 u7,rV u6
  exact ⟨_,rfl,h⟩
theorem a8K(l1 l2:Addr)(xs ys:Array Value):Meets (Builtin.«zip.__new__» ⟨[.type "zip",.ref l1,.ref l2],[]⟩) (λ_ R s=>s.heap.IsTuple l1 xs/\s.heap.IsList l2 ys/\R (.ok (.ret (.ref (sF false true s.heap l1 l2).objs.size))) { s with heap:=o7 false true s.heap l1 l2 }):=
 .of_wp λprog w A R s h=>by
  obtain ⟨hp,g,d,tk,os⟩:=s;obtain ⟨lH,jm,h⟩:=h
  have jB:=sub_zip
  have u7:A8 (rK ⟨hp,g,d,tk,os⟩) l1 xs:=lH
  have u6:Dy (rK ⟨hp.push { cls:=.type "tuple_iterator",data:=.fields #[.ref l1,.int 0 0] },g,d,tk,os⟩) l2 ys:=OG jm _
  wp_walk using rV u7,w5 u6
  exact ⟨_,rfl,h⟩
theorem a8L(l1 l2:Addr)(xs ys:Array Value):Meets (Builtin.«zip.__new__» ⟨[.type "zip",.ref l1,.ref l2],[]⟩) (λ_ R s=>s.heap.IsTuple l1 xs/\s.heap.IsTuple l2 ys/\R (.ok (.ret (.ref (sF false false s.heap l1 l2).objs.size))) { s with heap:=o7 false false s.heap l1 l2 }):=
 .of_wp λprog w A R s h=>by
  obtain ⟨hp,g,d,tk,os⟩:=s;obtain ⟨lH,jm,h⟩:=h
  have jB:=sub_zip
  have u7:A8 (rK ⟨hp,g,d,tk,os⟩) l1 xs:=lH
  have u6:A8 (rK ⟨hp.push { cls:=.type "tuple_iterator",data:=.fields #[.ref l1,.int 0 0] },g,d,tk,os⟩) l2 ys:=gP.keep (b:=false) jm λo e=>bC _ e
  wp_walk using rV u7,rV u6
  exact ⟨_,rfl,h⟩
theorem b0N(b1 b2:Bool)(l1 l2:Addr)(xs ys:Array Value):Meets (Builtin.«zip.__new__» ⟨[.type "zip",.ref l1,.ref l2],[]⟩) (λ_ R s=>gP b1 s.heap l1 xs/\gP b2 s.heap l2 ys/\R (.ok (.ret (.ref (sF b1 b2 s.heap l1 l2).objs.size))) { s with heap:=o7 b1 b2 s.heap l1 l2 }):=by
 cases b1<;>cases b2
 .exact a8L l1 l2 xs ys
 .exact a8K l1 l2 xs ys
 .exact a8J l1 l2 xs ys
 .exact a8I l1 l2 xs ys
section
variable {prog:Program}{w:World}{A:Around}{E:Value->Shared->Prop}{s:Shared}
theorem KO(e:h.get? it=some { cls:=.type (lX b),data:=.fields #[.ref l,.int 0 0] }):fL b h it l 0:=by
 cases b with
 | true=>exact ⟨_,e,rfl,rfl⟩
 | false=>exact ⟨_,e,rfl,rfl⟩
theorem b2U(lH:gP b1 s.heap l1 xs)(jm:gP b2 s.heap l2 ys)
  (h:∀h',IsZip h' (s.heap.objs.size+4) (s.heap.objs.size+2) (s.heap.objs.size+3) .none->IsPair h' (s.heap.objs.size+2) (.ref s.heap.objs.size) (.ref (s.heap.objs.size+1)) ->
   IsPair h' (s.heap.objs.size+3) .none .none->fL b1 h' s.heap.objs.size l1 0->fL b2 h' (s.heap.objs.size+1) l2 0->h'.objs.size=s.heap.objs.size+5 ->
   (∀c o,s.heap.get? c=some o->h'.get? c=some o)->Q (.ref (s.heap.objs.size+4)) { s with heap:=h' }):
  wpAny (model prog w) A (call (.type "zip") [.ref l1,.ref l2]) Q E s:=by
 refine callType_new F.called_zip (by decide) (F.typeCall_zip_2 _ _) (F.newCall_zip_2 _ _) (λobj=>F.args_object_init_3 obj _ _) F.entry_zip_new (b0N b1 b2 l1 l2 xs ys) ⟨lH,jm,?_⟩
 have z1:(CS b1 s.heap l1).objs.size=s.heap.objs.size+1:=oi ..
 have z2:(CQ b1 b2 s.heap l1 l2).objs.size=s.heap.objs.size+2:=by rw [oi,z1]
 have z3:(CP b1 b2 s.heap l1 l2).objs.size=s.heap.objs.size+3:=by rw [oi,z2]
 have z4:(sF b1 b2 s.heap l1 l2).objs.size=s.heap.objs.size+4:=by rw [oi,z3]
 have z5:(o7 b1 b2 s.heap l1 l2).objs.size=s.heap.objs.size+5:=by rw [oi,z4]
 have g5:(o7 b1 b2 s.heap l1 l2).get? (sF b1 b2 s.heap l1 l2).objs.size=some _:=fj _ rfl
 have g4:(o7 b1 b2 s.heap l1 l2).get? (CP b1 b2 s.heap l1 l2).objs.size=some _:=bC _ (fj _ rfl)
 have g3:(o7 b1 b2 s.heap l1 l2).get? (CQ b1 b2 s.heap l1 l2).objs.size=some _:=bC _ (bC _ (fj _ rfl))
 have g2:(o7 b1 b2 s.heap l1 l2).get? (CS b1 s.heap l1).objs.size=some _:=bC _ (bC _ (bC _ (fj _ rfl)))
 have g1:(o7 b1 b2 s.heap l1 l2).get? s.heap.objs.size=some _:=bC _ (bC _ (bC _ (bC _ (fj _ rfl))))
 show _/\_
 rw [z2,z3,z4] at g5
 rw [z1,z2] at g3
 rw [z3] at g4
 rw [z1] at g2
 rw [z4]
 exact ⟨⟨_,g5,rfl⟩,h _ g5 g3 g4 (KO g1) (KO g2) z5 λc o x =>
  bC _ (bC _ (bC _ (bC _ (bC _ x))))⟩
end
section
variable {X:Cx}{elts:List Expr}{kk:Nat}{tp:Pos}
noncomputable def G9(K:aJ)(ta:TA):TI:=λσ H R=>ta σ H λvs H1=>∃b1 b2 l1 l2 xs ys,vs=[.ref l1,.ref l2]/\Sq K H1 b1 l1 xs/\Sq K H1 b2 l2 ys/\R (Nk K b1 b2 l1 l2) H1
theorem b8e{a b:Expr}{ta:TA}{p pos:Pos}(hg:Gl X "zip")(hm:X.mg "zip" = none)(ha:PA X [a,b] ta)(hs:starEach [a,b] X.env=[(false,eval a X.env),(false,eval b X.env)]:=by rfl)(gQ:starEach [b] X.env=[(false,eval b X.env)]:=by rfl):
  PI X (.Tuple elts kk tp) (.Call (.Name "zip" p) [a,b] [] pos) (G9 X.K ta):=by
 intro pins s σ H R I h
 refine Call_ (qb I hg hm boot_zip (vI (aZ (ha pos pins s σ H _ I h) λus s1 ⟨vs,H1,I1,r1,q1⟩=>?_) (by rw [hs,gQ]) (by rw [gQ];rfl)))
 obtain ⟨b1,b2,l1,l2,xs,ys,e,q1,q2,q⟩:=q1
 subst e
 cases r1 with
 | cons r rr =>
  cases rr with
  | cons r' rr =>
   cases rr
   cases r
   cases r'
   obtain ⟨zF,Vb,p1⟩:=oX I1 q1
   obtain ⟨cw,rr2,p2⟩:=oX I1 q2
   refine b2U p1 p2 λh' z0 t0 o0 j1 j2 sz kp=>?_
   refine wpAny_pyIter_zip (s:={ s1 with heap:=h' }) z0 ?_
   have NK:=p1.lt
   have zr:=p2.lt
   have D:=b5R NK zr
   have Z:=zipApart_new NK zr
   have ge:∀c∈[s1.heap.objs.size+4,s1.heap.objs.size+2,s1.heap.objs.size+3,s1.heap.objs.size,s1.heap.objs.size+1],s1.heap.objs.size<=c:=λc hc=>by
    simp only [br,gq,or_false] at hc
    rcases hc with rfl | rfl | rfl | rfl | rfl
    .exact rN _ _
    .exact rN _ _
    .exact rN _ _
    .exact bo _
    .exact rN _ _
   exact ⟨_,_,_,_,H1,rfl,I1.kept (t':=s1.toks) kp,b3u D Z.5 Z.6 Z.7,⟨z0,t0,⟨_,_,o0⟩,j1,j2⟩,λc hc=>I1.iT (ge c hc) (I1.bh.fresh (ge c hc)),q⟩
noncomputable def ic(a b:List D):List D:=pS (λd e=>D.tup [d,e]) a b
noncomputable def nH:List D->Option (List D)
 | [a,b]=>(eh a).bind λp=>(eh b).map λq=>ic p.2 q.2
 | _=>none
theorem b3p{K:aJ}{O:Addr->Prop}{H:Hp}{b1 b2:Bool}{l1 l2:Addr}{xs ys:List V}{as bs:List D}(h1:Sq K H b1 l1 xs)(i1:aK K O H xs as)(n1:¬O l1\/∀H',Sq K H' b1 l1 xs)(h2:Sq K H b2 l2 ys)(i2:aK K O H ys bs)(n2:¬O l2\/∀H',Sq K H' b2 l2 ys):
  vU K O (Nk K b1 b2 l1 l2) H (ic as bs):=λO' H2 kp hO i=>by
 have key:∀{b:Bool} {l:Addr} {zs:List V} {cs:List D},Sq K H b l zs->aK K O H zs cs->(¬O l\/∀H',Sq K H' b l zs)->Sq K H2 b l zs/\aK K O' H2 zs cs:=λ{b l zs cs} h1 i1 n1=>by
  refine ⟨?_,i1.map (λq hq hn=>?_) λq u e n=>(kp q u e n).1⟩
  .rcases n1 with h3 | h3
   .exact KP (λq u e n=>(kp q u e n).1) h1 h3
   .exact h3 H2
  .cases e:H q with
   | none=>exact (hq e).elim
   | some u=>exact (kp q u e hn).2
 obtain ⟨p1,s1⟩:=key h1 i1 n1
 obtain ⟨p2,s2⟩:=key h2 i2 n2
 refine ⟨λd hd=>?_,λhl=>⟨xs,ys,p1,p2,?_⟩⟩
 .unfold ic at hd
  rw [JA] at hd
  cases ea:as[i]? with
  | none=>simp [ea] at hd
  | some da =>
   cases eb:bs[i]? with
   | none=>simp [ea,eb] at hd
   | some db =>
    simp only [ea,eb] at hd
    cases hd
    obtain ⟨x,hx,dx⟩:=s1.get ea
    obtain ⟨y,hy,dy⟩:=s2.get eb
    refine ⟨⟨xs,ys,x,y,p1,p2,hx,hy⟩,λv H3 hv=>?_⟩
    obtain ⟨p,x',y',rfl,hp,rfl,f1,f2⟩:=hv
    have e1:=f1 xs p1
    have e2:=f2 ys p2
    rw [hx] at e1;cases e1
    rw [hy] at e2;cases e2
    have sm:aq H2 (upd H2 p (.tup [x,y])):=λq u e=>by rw [df (qe e hp)];exact e
    exact ⟨sm,.tup (λz=>hO p z hp) (.inl qd) (.cons (dx.grow sm) (.cons (dy.grow sm) .nil))⟩
 .have e1:=s1.length
  have e2:=s2.length
  simp only [ic,Ji] at hl
  ext e1 e2 hl
theorem Kv{a b:Expr}{fs:En->Option (List D)}{p pos:Pos}(pM:Gl X "zip")(hm:X.mg "zip" = none)(ha:AV X [a,b] fs)(h1:starEach [a,b] X.env=[(false,eval a X.env),(false,eval b X.env)]:=by rfl)
  (h2:starEach [b] X.env=[(false,eval b X.env)]:=by rfl):IV X (.Tuple elts kk tp) (.Call (.Name "zip" p) [a,b] [] pos) (eL nH fs):=by
 obtain ⟨ti,pi,ki⟩:=ha
 refine ⟨_,b8e pM hm pi h1 h2,λO B σ H env ds R Rl e q=>?_⟩
 obtain ⟨as,e1,e2⟩:=bind_some e
 refine ki O B σ H env as _ Rl e1 λvs H1 s1 r1=>?_
 unfold nH at e2
 split at e2
 .rename_i da db
  obtain ⟨⟨k1,as⟩,ea,e2⟩:=bind_some e2
  obtain ⟨⟨k2,bs⟩,eb,e2⟩:=map_some e2
  cases e2
  cases r1 with
  | cons ra rr =>
   cases rr with
   | cons rb rr =>
    cases rr
    obtain ⟨l1,xs,rfl,g1,i1,n1⟩:=ra.nJ ea
    obtain ⟨l2,ys,rfl,g2,i2,n2⟩:=rb.nJ eb
    exact ⟨k1,k2,l1,l2,xs,ys,rfl,g1,g2,q _ H1 s1 (b3p g1 i1 n1 g2 i2 n2)⟩
 .cases e2
end
end DL
namespace DL
open PySem PySem.Spec PyProof.Rows L2
section
variable {prog:Program}{w:World}{A:Around}{R:Result->Shared->Prop}{I:Addr}{fp wr:List Addr}{n:Nat}{P:Nat->Value->Prop}{St:Nat->Heap->Prop}{kw:List (Str×Value)}
end
section
variable {prog:Program}{w:World}{A:Around}{E:Value->Shared->Prop}{s:Shared}
theorem Rg{id:String}{b:Builtin}{args:List Value}{kw:List (Str×Value)}{Q:Value->Shared->Prop}(hk:builtinKind id=none)(hp:plainId id=true)(hb:entryFor table id=some b)(ha:argsOk id ⟨args,kw⟩)
  (hc:wpAny (model prog w) A.in1 (b ⟨args,kw⟩) (λfin s'=>match fin with
   | .done f=>(match (Except.ok f:Result) with | .ok (.ret v)=>Q v s' | .ok _=>False | .error e=>E e s')
   | .again c'=>c'.quiet=true/\codeAny (model prog w) A c' (λr s'=>match r with | .ok (.ret v)=>Q v s' | .ok _=>False | .error e=>E e s') s') E s):
  wpAny (model prog w) A (call (.builtin id) args kw) Q E s:=by
 refine wpAny_call (codeAny_call_builtin hp hb ?_)
 simp only [checkBuiltinCall,hk]
 cases Hr:Manifest.signature? id with
 | none=>exact aU hc
 | some sig =>
  simp only [argsOk,Hr] at ha
  have h2:Bind.checkArgs id sig ⟨args,kw⟩=pure ():=ha
  show wpAny _ A.in1 (Bind.checkArgs id sig ⟨args,kw⟩) _ _ s
  rw [h2];exact aU hc
end
section
variable {X:Cx}
end
end DL
namespace DL
open PySem PySem.Spec PyProof.Rows L2
theorem a9y(l:Addr)(items:Array Value)(n:Nat)(fx:Option Addr)(sl:Array (Option Value)):
  Meets (Builtin.«enumerate.__new__» ⟨[.type "enumerate",.ref l],[]⟩) (λ_ R s=>s.heap.get? l=some { cls:=.type "tuple",dict:=fx,data:=.seq items n,slots:=sl } /\
   R (.ok (.ret (.ref (s.heap.push { cls:=.type (lX false),data:=.fields #[.ref l,.int 0 0] }).objs.size)))
    { s with heap:=(s.heap.push { cls:=.type (lX false),data:=.fields #[.ref l,.int 0 0] }).push { cls:=.type "enumerate",data:=.fields #[.none,.bool false,.ref s.heap.objs.size,rawInt 0,.none,.none] } }):=
 .of_wp λprog w A R s h=>by
  obtain ⟨hp,g,d,tk,os⟩:=s;obtain ⟨hl,h⟩:=h
  have sub:=sub_enumerate
  have hL:A8 (rK ⟨hp,g,d,tk,os⟩) l items:=⟨_,hl,rfl,n,rfl⟩
  wp_walk using Eb hl
  refine wpAny_stack_any λst=>aU ?_
  split
  .rename_i c _ _ _ _ _
   cases (c==vj "enumerate")
   .wp_walk using Eb hl,rV hL
    exact ⟨_,rfl,h⟩
   .wp_walk using Eb hl,rV hL
    exact ⟨_,rfl,h⟩
  .wp_walk using Eb hl,rV hL
   exact ⟨_,rfl,h⟩
section
variable {prog:Program}{w:World}{A:Around}{E:Value->Shared->Prop}{s:Shared}
theorem b2A(hL:gP b s.heap l items)
  (h:∀h',IsEnum h' (s.heap.objs.size+1) s.heap.objs.size 0 .none->fL b h' s.heap.objs.size l 0->h'.objs.size=s.heap.objs.size+2 ->
   (∀c o,s.heap.get? c=some o->h'.get? c=some o)->Q (.ref (s.heap.objs.size+1)) { s with heap:=h' }):
  wpAny (model prog w) A (call (.type "enumerate") [.ref l]) Q E s:=by
 cases b with
 | true=>exact call_enumerate_list hL h
 | false =>
  obtain ⟨⟨c,fx,dt,sl⟩,hl,hc,n,hd⟩:=(show s.heap.IsTuple l items from hL)
  replace hc:c=.type "tuple":=hc
  replace hd:dt=.seq items n:=hd
  subst hc hd
  refine callType_new F.called_enumerate (by decide) (F.typeCall_enumerate_1 _) (F.newCall_enumerate_1 _) (λobj=>F.args_object_init_2 obj _) F.entry_enumerate_new (a9y l items n fx sl) ⟨hl,?_⟩
  have hz:(s.heap.push { cls:=.type (lX false),data:=.fields #[.ref l,.int 0 0] }).objs.size=s.heap.objs.size+1:=oi ..
  show _/\_
  rw [hz]
  have he:=fj (s.heap.push { cls:=.type (lX false),data:=.fields #[.ref l,.int 0 0] })
    (o:={ cls:=.type "enumerate",data:=.fields #[.none,.bool false,.ref s.heap.objs.size,rawInt 0,.none,.none] }) rfl
  rw [hz] at he
  exact ⟨⟨_,he,rfl⟩,h _ he (KO (bC _ (fj _ rfl))) (by rw [oi,hz]) λb o x=>bC _ (bC _ x)⟩
theorem b0V(hh:A.handled=none)(it l:Addr)(bI:l≠it)(items:Array Value):
  Draws prog w A it [it,l] items.size (λi v=>items[i]?=some v) (λi h=>fL b h it l i/\gP b h l items) where
 live:=λ_ _ st=>let ⟨o,ho,_⟩:=st.1.jz;⟨o,ho⟩
 frame:=λ_ _ _ st hk=>⟨st.1.keep λo e=>hk it (by simp) o e,st.2.keep λo e=>hk l (by simp) o e⟩
 item:=λi s Q E hi st hQ=>by
  refine Fj st.1 st.2 (x:=items[i]) (by simp [hi]) λh' iA nU=>?_
  exact hQ _ h' s.toks (by simp [hi]) ⟨iA,st.2.keep λo e=>nU.extBut _ _ bI e⟩ nU
 done:=λs Q E st hE=>E3 hh st.1 st.2 (by simp) hE
theorem b4A{b:Bool}{i:Nat}(hh:A.handled=none)
  (he:IsEnum s.heap e it i old)(hit:fL b s.heap it l i)(hl:gP b s.heap l items)(hx:items[i]?=none)
  (hQ:∀h',Heap.ExtBut it s.heap h'->Q none { s with heap:=h' }):wpAny (model prog w) A (pyNext (.ref e)) Q E s:=by
 have hT:s.TypeIs (.ref e) "enumerate":=⟨_,he,rfl⟩
 unfold pyNext
 refine ao (A2 (xf (name:=rL "__next__") hT OV (vC OV hT F.entry_enumerate_next ?_ (F.args_enumerate_next_1 _))))
 show wpAny _ _ (field (.ref e) 2 >>= _) _ _ _
 refine ao (lL he rfl (x:=.ref it) rfl ?_)
 refine ao (E3 hh hit hl hx λh' x Zi jZ=>?_)
 obtain ⟨o,ho,hc⟩:=jZ
 exact ao (wpAny_isInstance (T:="StopIteration") (b:=true) ⟨o,ho,hc⟩ isSubtype_stop (aU (hQ _ Zi)))
theorem b6T(he:IsEnum h e it i old)(hl:gP b h l items):e≠l:=λz=>by
 subst z
 have q:∃o,h.get? e=some o/\∃xs n,o.data=.seq xs n:=by
  cases b with
  | true=>obtain ⟨o,ho,_,n,hd⟩:=hl;exact ⟨o,ho,_,n,hd⟩
  | false=>obtain ⟨o,ho,_,n,hd⟩:=hl;exact ⟨o,ho,_,n,hd⟩
 obtain ⟨o,ho,xs,n,hd⟩:=q
 have:=he.symm.trans ho
 cases this
 cases hd
theorem zI(hi:fL b h it l i)(hl:gP b h l items):l≠it:=λz=>by
 subst z
 cases b with
 | true=>obtain ⟨o,ho,_,n,hd⟩:=hl;obtain ⟨o',jD,_,pN⟩:=hi;rw [ho] at jD;cases jD;rw [hd] at pN;cases pN
 | false=>obtain ⟨o,ho,_,n,hd⟩:=hl;obtain ⟨o',jD,_,pN⟩:=hi;rw [ho] at jD;cases jD;rw [hd] at pN;cases pN
end
noncomputable def Nl(K:aJ)(b:Bool)(l:Addr):It:=
 ⟨λi H=>∃xs x,Sq K H b l xs/\xs[i]?=some x,
 λi H v H'=>∃p x,v=.ref p/\H p=none/\H'=upd H p (.tup [.int i,x])/\∀xs,Sq K H b l xs->xs[i]?=some x,
 λi H=>∃xs,Sq K H b l xs/\xs.length<=i⟩
theorem b09{P:Program}{w:World}{K:aJ}{elts:List Expr}{kk:Nat}{pos:Pos}{b:Bool}{e it l:Addr}(d1:e≠it):Turn P w K (.Tuple elts kk pos) (Nl K b l) [e,it] e (λi h=>(∃old,IsEnum h e it (i:Int) old)/\fL b h it l i) where
 mem:=by simp
 obj:=λi h ⟨⟨old,he⟩,hit⟩ c hc=>by
  simp only [br,gq,or_false] at hc
  rcases hc with rfl | rfl
  .exact ⟨_,he,λv q=>nomatch (show A4 _=vk v from q)⟩
  .exact hit.jz
 keep:=λi h h' ⟨⟨old,he⟩,hit⟩ k=>⟨⟨old,k e (by simp) _ he⟩,hit.keep λo x=>k it (by simp) o x⟩
 item:=by
  intro X hP hw hK hc i pins s σ H E I hf ⟨⟨old,he⟩,hit⟩ hg
  subst hP hw hK
  obtain ⟨xs,x,q1,hx⟩:=hg
  obtain ⟨ak,r1,p1⟩:=oX I q1
  obtain ⟨u,hu,ru⟩:=r1.get hx
  refine wpAny_pyNext_enum_itemD (b0V (A:=X.A.in1) (I.ok.hd hc) it l (zI hit p1) ak.toArray) he ⟨hit,p1⟩ (by have:=gH.mp hu;simpa using this.1) d1 (by simp [d1,b6T he p1]) λx' h' tk jZ tj iA ht sz kp=>?_
  have OA:u=x':=by simpa [hu] using jZ
  subst OA
  refine ⟨_,rfl,wpAny_letOwnedTupleGo_enum (s:={ s with heap:=h',toks:=tk+1 }) tj λh9 Zh sb=>?_⟩
  have fresh:H s.heap.objs.size=none:=I.bh.fresh (bo _)
  have aT:∀c∈[e,it],c<s.heap.objs.size:=λc hc=>by
   simp only [br,gq,or_false] at hc
   rcases hc with rfl | rfl
   .exact bU he
   .exact hit.lt
  have up:∀c o,c∉[e,it]->s.heap.get? c=some o->h9.get? c=some o:=λc o hc x=>by
   simp only [br,gq,or_false,not_or] at hc
   exact sb.extBut _ _ hc.1 (kp c o hc.1 hc.2 x)
  have ne:s.heap.objs.size≠e:=vo (aT e (by simp))
  have GQ:h9.get? s.heap.objs.size=some { cls:=.type "tuple",data:=.seq #[.int i tk,u] }:=sb.extBut _ _ ne ht
  have I1:Inv X pins σ (upd H s.heap.objs.size (.tup [.int i,x])) { s with heap:=s.heap.push { cls:=.type "tuple",data:=.seq #[.int i tk,u] },toks:=tk+1 }:=
   I.laid (λb o e=>bC _ e) (bo _) ⟨by simp [sizeLine],[.int i tk,u],.cons ⟨_,rfl⟩ (.cons ru .nil),⟨_,fj _ rfl,rfl,_,rfl⟩⟩
  have I2:Inv X pins σ (upd H s.heap.objs.size (.tup [.int i,x])) { s with heap:=h9,toks:=tk+1 }:=xG (s:={ s with heap:=s.heap.push { cls:=.type "tuple",data:=.seq #[.int i tk,u] },toks:=tk+1 }) (ch:=[e,it]) (t':=tk+1) I1 (λc hc=>by
    obtain ⟨f0,f1,f2,f3,f4,f5⟩:=hf c hc
    exact ⟨by rw [df (dq (aT c hc))];exact f0,f1,f2,f3,f4,f5⟩) λc o hc y=>by
   by_cases hs:c<s.heap.objs.size
   .exact up c o hc (SJ hs y)
   .have wV:c=s.heap.objs.size:=by
     have:=bU y
     rw [oi] at this
     exact DJ (Nat.lt_succ_iff.mp this) (Bf hs)
    subst wV
    have e2:(s.heap.push { cls:=.type "tuple",data:=.seq #[.int i tk,u] }).get? s.heap.objs.size=some _:=fj _ rfl
    rw [e2] at y;cases y
    exact GQ
  refine ⟨.ref s.heap.objs.size,_,I2,rfl,⟨_,x,rfl,fresh,rfl,λzs uO=>by rw [Kj I uO q1];exact hx⟩,⟨⟨_,Zh⟩,fL.keep iA.1 λo y=>sb.extBut _ _ d1.symm y⟩,λc hc=>?_⟩
  rw [df (dq (aT c hc))]
  exact (hf c hc).1
 done:=by
  intro X hP hw hK hc i pins s σ H E I hf ⟨⟨old,he⟩,hit⟩ hg
  subst hP hw hK
  obtain ⟨xs,q1,hl⟩:=hg
  obtain ⟨ak,r1,p1⟩:=oX I q1
  have e1:=r1.length
  refine b4A (I.ok.hd hc) he hit p1 (by simp;ext hl e1) λh' kp=>⟨rfl,xG (ch:=[e,it]) (t':=s.toks) I hf λc o hc y=>?_⟩
  simp only [br,gq,or_false,not_or] at hc
  exact kp c o hc.2 y
 self:=λ_ _ _ _ _ st h=>by
  obtain ⟨⟨old,he⟩,_⟩:=st
  exact wpAny_pyIter_enum he h
section
variable {X:Cx}{elts:List Expr}{kk:Nat}{tp:Pos}
noncomputable def zO(K:aJ)(ta:TA):TI:=λσ H R=>ta σ H λvs H1=>∃b l xs,vs=[.ref l]/\Sq K H1 b l xs/\R (Nl K b l) H1
theorem b6f{a:Expr}{ta:TA}{p pos:Pos}(hg:Gl X "enumerate")(hm:X.mg "enumerate" = none)(ha:PA X [a] ta)(hs:starEach [a] X.env=[(false,eval a X.env)]:=by rfl)(hn:starEach [] X.env=[]:=by rfl):
  PI X (.Tuple elts kk tp) (.Call (.Name "enumerate" p) [a] [] pos) (zO X.K ta):=by
 intro pins s σ H R I h
 refine Call_ (qb I hg hm boot_enumerate (vI (aZ (ha pos pins s σ H _ I h) λus s1 ⟨vs,H1,I1,r1,q1⟩=>?_) (by rw [hs,hn]) (by rw [hn];rfl)))
 obtain ⟨b,l,xs,e,q1,q⟩:=q1
 subst e
 cases r1 with
 | cons r rr =>
  cases rr
  cases r
  obtain ⟨ak,Vb,p1⟩:=oX I1 q1
  refine b2A p1 λh' z0 j1 sz kp=>?_
  refine wpAny_pyIter_enum (s:={ s1 with heap:=h' }) z0 ?_
  have ge:∀c∈[s1.heap.objs.size+1,s1.heap.objs.size],s1.heap.objs.size<=c:=λc hc=>by
   simp only [br,gq,or_false] at hc
   rcases hc with rfl | rfl
   .exact rN _ _
   .exact bo _
  exact ⟨_,_,_,_,H1,rfl,I1.kept (t':=s1.toks) kp,b09 (Nat.succ_ne_self _),⟨⟨_,z0⟩,j1⟩,λc hc=>I1.iT (ge c hc) (I1.bh.fresh (ge c hc)),q⟩
noncomputable def tU(ds:List D):List D:=ds.zipIdx.map λp=>D.tup [.int p.2,p.1]
noncomputable def vL:List D->Option (List D)
 | [.lst _ ds]=>some (tU ds)
 | [.tup ds]=>some (tU ds)
 | _=>none
theorem Si{K:aJ}{O:Addr->Prop}{H:Hp}{b:Bool}{l:Addr}{xs:List V}{as:List D}(h1:Sq K H b l xs)(i1:aK K O H xs as)(n1:¬O l\/∀H',Sq K H' b l xs):
  vU K O (Nl K b l) H (tU as):=λO' H2 kp hO i=>by
 have p1:Sq K H2 b l xs:=by
  rcases n1 with h3 | h3
  .exact KP (λq u e n=>(kp q u e n).1) h1 h3
  .exact h3 H2
 have s1:aK K O' H2 xs as:=i1.map (λq hq hn=>by
  cases e:H q with
  | none=>exact (hq e).elim
  | some u=>exact (kp q u e hn).2) λq u e n=>(kp q u e n).1
 refine ⟨λd hd=>?_,λhl=>⟨xs,p1,?_⟩⟩
 .unfold tU at hd
  rw [kT,List.getElem?_zipIdx] at hd
  cases ea:as[i]? with
  | none=>simp [ea] at hd
  | some da =>
   simp only [ea,IT,tF] at hd
   cases hd
   obtain ⟨x,hx,dx⟩:=s1.get ea
   refine ⟨⟨xs,x,p1,hx⟩,λv H3 hv=>?_⟩
   obtain ⟨p,x',rfl,hp,rfl,f1⟩:=hv
   have e1:=f1 xs p1
   rw [hx] at e1;cases e1
   have sm:aq H2 (upd H2 p (.tup [.int i,x])):=λq u e=>by rw [df (qe e hp)];exact e
   exact ⟨sm,.tup (λz=>hO p z hp) (.inl qd) (.cons (.int _) (.cons (dx.grow sm) .nil))⟩
 .have e1:=s1.length
  simp only [tU,aQ,List.length_zipIdx] at hl
  ext e1 hl
theorem QN{a:Expr}{fs:En->Option (List D)}{p pos:Pos}(pM:Gl X "enumerate")(hm:X.mg "enumerate" = none)(ha:AV X [a] fs)(h1:starEach [a] X.env=[(false,eval a X.env)]:=by rfl)
  (h2:starEach [] X.env=[]:=by rfl):IV X (.Tuple elts kk tp) (.Call (.Name "enumerate" p) [a] [] pos) (eL vL fs):=by
 obtain ⟨ti,pi,ki⟩:=ha
 refine ⟨_,b6f pM hm pi h1 h2,λO B σ H env ds R Rl e q=>?_⟩
 obtain ⟨as,e1,e2⟩:=bind_some e
 refine ki O B σ H env as _ Rl e1 λvs H1 s1 r1=>?_
 unfold vL at e2
 split at e2
 .rename_i ro da
  cases e2
  cases r1 with
  | cons ra rr =>
   cases rr
   obtain ⟨l1,xs,rfl,g1,i1,n1⟩:=ra.nJ (k:=true) (ds:=da) rfl
   exact ⟨true,l1,xs,rfl,g1,q _ H1 s1 (Si g1 i1 n1)⟩
 .rename_i da
  cases e2
  cases r1 with
  | cons ra rr =>
   cases rr
   obtain ⟨l1,xs,rfl,g1,i1,n1⟩:=ra.nJ (k:=false) (ds:=da) rfl
   exact ⟨false,l1,xs,rfl,g1,q _ H1 s1 (Si g1 i1 n1)⟩
 .cases e2
end
end DL
namespace SO
section pure
variable {α:Type}
def eW(κ:α->Int)(l:List α):Prop:=l.Pairwise λx y=>κ x<κ y
structure Inv(κ:α->Int)(la lb out:List α)(ia ib:Nat):Prop where
 perm:out.Perm (la.take ia++lb.take ib)
 fG:eW κ out
 lo:∀x∈out,(∀y∈la.drop ia,κ x<κ y)/\∀y∈lb.drop ib,κ x<κ y
variable {κ:α->Int}{la lb out:List α}{ia ib:Nat}
theorem Inv.sym(h:Inv κ la lb out ia ib):Inv κ lb la out ib ia:=⟨h.perm.trans Bm,h.fG,λx hx=>⟨(h.lo x hx).2,(h.lo x hx).1⟩⟩
theorem xM(h:eW κ l)(i:Nat):eW κ (l.drop i):=h.sublist (List.drop_sublist ..)
theorem Lc(h:eW κ l)(i:Nat):eW κ (l.take i):=h.sublist (List.take_sublist ..)
theorem LN(h:eW κ l)(i:Nat):∀x∈l.take i,∀y∈l.drop i,κ x<κ y:=by
 have:eW κ (l.take i++l.drop i):=by rw [n8];exact h
 exact (gU.mp this).2.2
theorem Inv.a(h:Inv κ la lb out ia ib)(sa:eW κ la)(k:Nat)(hk:∀x∈(la.drop ia).take k,∀y∈lb.drop ib,κ x<κ y):Inv κ la lb (out++(la.drop ia).take k) (ia+k) ib:=by
 refine ⟨?_,gU.mpr ⟨h.fG,Lc (xM sa ia) k,λx hx y hy=>(h.lo x hx).1 y (tS hy)⟩,λx hx=>?_⟩
 .rw [List.take_add,fJ]
  refine (h.perm.append_right _).trans ?_
  rw [fJ]
  exact Bm.append_left _
 .rw [<-List.drop_drop]
  rcases bW.mp hx with hx | hx
  .exact ⟨λy hy=>(h.lo x hx).1 y (tR hy),(h.lo x hx).2⟩
  .exact ⟨λy hy=>LN (xM sa ia) k x hx y hy,hk x hx⟩
theorem Inv.last(h:Inv κ la lb out ia ib)(sa:eW κ la)(sb:eW κ lb)(hm:∀x∈lb.drop ib,∀y∈la.drop ia,κ x<κ y):eW κ (out++lb.drop ib++la.drop ia)/\(out++lb.drop ib++la.drop ia).Perm (la++lb):=by
 refine ⟨gU.mpr ⟨gU.mpr ⟨h.fG,xM sb ib,λx hx=>(h.lo x hx).2⟩,xM sa ia,λx hx y hy=>?_⟩,?_⟩
 .rcases bW.mp hx with hx | hx
  .exact (h.lo x hx).1 y hy
  .exact hm x hx y hy
 .have e:la++lb=(la.take ia++la.drop ia)++(lb.take ib++lb.drop ib):=by rw [n8,n8]
  rw [e,fJ]
  refine (h.perm.append_right _).trans ?_
  simp only [fJ]
  refine Jz _ ?_
  refine Bm.trans ?_
  simp only [fJ]
  refine (Bm).trans ?_
  simp only [fJ]
  refine Jz _ ?_
  exact DX _
theorem Inv.done(h:Inv κ la lb out ia ib)(sa:eW κ la)(sb:eW κ lb)(hm:∀x∈la.drop ia,∀y∈lb.drop ib,κ x<κ y):eW κ (out++la.drop ia++lb.drop ib)/\(out++la.drop ia++lb.drop ib).Perm (la++lb):=
 have q:=h.sym.last sb sa hm
 ⟨q.1,q.2.trans Bm⟩
theorem zK:Inv κ la lb [] 0 0:=⟨by simp,Jp,λx hx=>nomatch hx⟩
theorem b17(sa:eW κ A)(sb:eW κ B)(h1:∀x∈A.take k,∀y∈B,κ x<κ y)(h2:∀x∈B.drop m,∀y∈A,κ y<κ x)(sm:eW κ M)(pm:M.Perm (A.drop k++B.take m)):
  eW κ (A.take k++M++B.drop m)/\(A.take k++M++B.drop m).Perm (A++B):=by
 constructor
 .refine gU.mpr ⟨gU.mpr ⟨Lc sa k,sm,λx hx y hy=>?_⟩,xM sb m,λx hx y hy=>?_⟩
  .rcases bW.mp (pm.mem_iff.mp hy) with hy | hy
   .exact LN sa k x hx y hy
   .exact h1 x hx y (tS hy)
  .rcases bW.mp hx with hx | hx
   .exact h1 x hx y (tR hy)
   .rcases bW.mp (pm.mem_iff.mp hx) with hx | hx
    .exact h2 y hy x (tR hx)
    .exact LN sb m x hx y hy
 .have e:A++B=(A.take k++A.drop k)++(B.take m++B.drop m):=by rw [n8,n8]
  rw [e,fJ]
  simp only [fJ]
  refine Jz _ ?_
  rw [<-fJ]
  exact pm.append_right _
theorem jH(m:List α):∀(xs:Array α) (o n:Nat) (k:Nat),o+n+m.length<=xs.size->((m.zipIdx n).foldl (λa p=>a.setIfInBounds (o+p.2) p.1) xs)[k]?=if o+n<=k/\k<o+n+m.length then m[k-(o+n)]? else xs[k]?:=by
 induction m with
 | nil=>intro xs o n k h;simp only [IS,I9,vE];rw [if_neg (by ext)]
 | cons x m ih =>
  intro xs o n k h
  simp only [gh] at h
  rw [Ei,oW,ih _ o (n+1) k (by simp only [Array.size_setIfInBounds];ext h)]
  simp only [gh]
  by_cases c:o+(n+1)<=k/\k<o+(n+1)+m.length
  .rw [if_pos c,if_pos (by ext c),show k-(o+n)=(k-(o+(n+1)))+1 by ext c,List.getElem?_cons_succ]
  .rw [if_neg c,Array.getElem?_setIfInBounds]
   by_cases c2:o+n=k
   .subst c2
    rw [if_pos rfl,if_pos (by ext h),if_pos (by ext)]
    simp
   .rw [if_neg c2,if_neg (by ext c c2)]
theorem b0s{P A S m:List α}{xs:Array α}(e:xs.toList=P++A++S)(hl:m.length=A.length):(m.zipIdx.foldl (λa p=>a.setIfInBounds (P.length+p.2) p.1) xs).toList=P++m++S:=by
 have hs:xs.size=P.length+A.length+S.length:=by rw [<-gS,e];simp;ext
 refine List.ext_getElem? λk=>?_
 rw [tM,jH m xs P.length 0 k (by ext hl hs),Nat.add_zero,<-tM,e]
 by_cases h1:k<P.length
 .rw [if_neg (by ext h1),fJ,fJ,vH h1,vH h1]
 .by_cases h2:k<P.length+m.length
  .rw [if_pos ⟨by ext h1,h2⟩,fJ,rR (by ext h1),vH (by ext h1 h2)]
  .rw [if_neg (by ext h2),rR (by simp;ext hl h2),rR (by simp;ext h2)]
   simp [hl]
noncomputable def ly:Nat->List (List α)->List (Nat×Nat×Nat)->Prop
 | _,[],[]=>True
 | o,R::Rs,p::ps=>p.1=o/\p.2.1=R.length/\ly (o+R.length) Rs ps
 | _,_,_=>False
theorem ly.len:∀{o:Nat} {Rs:List (List α)} {ps:List (Nat×Nat×Nat)},ly o Rs ps->ps.length=Rs.length
 | _,[],[],_=>rfl
 | _,R::Rs,p::ps,h=>by simp [h.2.2.len]
theorem ly.app:∀{o:Nat} {Rs Ss:List (List α)} {ps qs:List (Nat×Nat×Nat)},ly o Rs ps->ly (o+Rs.flatten.length) Ss qs->ly o (Rs++Ss) (ps++qs)
 | o,[],Ss,[],qs,_,h=>by simpa using h
 | o,R::Rs,Ss,p::ps,qs,h,k=>⟨h.1,h.2.1,h.2.2.app (by rw [Ed,cX,<-IW] at k;exact k)⟩
theorem ly.split:∀{o:Nat} {Rs Ss:List (List α)} {ps:List (Nat×Nat×Nat)},ly o (Rs++Ss) ps->ly o Rs (ps.take Rs.length)/\ly (o+Rs.flatten.length) Ss (ps.drop Rs.length)
 | o,[],Ss,ps,h=>⟨trivial,by simpa using h⟩
 | o,R::Rs,Ss,p::ps,h=>by
  obtain ⟨k1,k2⟩:=ly.split (Rs:=Rs) h.2.2
  refine ⟨⟨h.1,h.2.1,k1⟩,?_⟩
  rw [Ed,cX,<-IW]
  exact k2
end pure
open PySem PyProof.Rows
noncomputable def a9v:Bool → Keyed → Array Keyed → Nat → Nat → Nat → StateT SortSt Sem (Option Nat):=sortPriv% PySem.Builtin.gallop
noncomputable def b4a:Array Keyed → Array Keyed → StateT SortSt Sem (Array Keyed):=sortPriv% PySem.Builtin.mergeLo
noncomputable def b4b:Array Keyed → Array Keyed → StateT SortSt Sem (Array Keyed):=sortPriv% PySem.Builtin.mergeHi
noncomputable def setG':Nat → StateT SortSt Sem Unit:=sortPriv% PySem.Builtin.setMinGallop
section
variable {prog:Program}{w:World}{A:Around}{E:Value->Shared->Prop}{s:Shared}
theorem xD{σ α:Type}{M:Model}{m:StateT σ Sem α}{Q:α->σ->Prop}{st:σ}(h:wpS M A E s m Q st):wpAny M A (m st) (λr s'=>s'=s/\Q r.1 r.2) E s:=h
structure Ask(prog:Program)(w:World)(s:Shared)(kd:SortKind)(κ:Keyed->Int)(C:Keyed->Prop):Prop where
 lt:∀{x y:Keyed},C x->C y->κ x≠κ y->∀{A:Around} {E:Value->Shared->Prop} {Q:Bool->Shared->Prop},Q (decide (κ x<κ y)) s->wpAny (model prog w) A (keyLt' kd x.1 y.1) Q E s
variable {kd:SortKind}{κ:Keyed->Int}{C:Keyed->Prop}
theorem zq(hk:Ask prog w s kd κ C){st:SortSt}{Q:Option Bool->SortSt->Prop}(hd:kindOf st=kd)(hx:C x)(hy:C y)(bI:κ x≠κ y)(h:Q (some (decide (κ x<κ y))) st):wpS (model prog w) A E s (lt' x y) Q st:=by
 rw [lt'_eq]
 refine aN (n0 ?_)
 rw [hd]
 exact aN (wpS_lift (A2 (hk.lt hx hy bI ⟨rfl,aX h⟩)))
theorem iD{Q:Keyed->SortSt->Prop}{st:SortSt}(hi:i<arr.size)(h:Q arr[i] st):wpS (model prog w) A E s (elem' arr i) Q st:=by
 rw [elem'_eq,getElem?_pos arr i hi]
 exact aX h
noncomputable def kv(κ:Keyed->Int)(arr:Array Keyed)(i:Nat):Int:=match arr[i]? with
 | some p=>κ p
 | none=>0
theorem iN(h:i<arr.size):kv κ arr i=κ arr[i]:=by unfold kv;rw [getElem?_pos arr i h]
theorem BA(h:xs[i]?=ys[j]?):kv κ xs i=kv κ ys j:=by unfold kv;rw [h]
theorem bey(hk:Ask prog w s kd κ C){st:SortSt}(hd:kindOf st=kd){Q:Option Bool->SortSt->Prop}(hC:C key)(hj:j<arr.size)(hx:C arr[j])(bI:κ arr[j]≠κ key)(h:Q (some (decide (kv κ arr j<κ key))) st):
  wpS (model prog w) A E s (elem' arr j >>= λx=>if left=true then lt' x key else lt' key x >>= λr=>pure (tG (λx=>!x) r)) Q st:=by
 refine aN (iD hj ?_)
 rw [iN hj] at h
 cases left with
 | true =>
  rw [if_pos rfl]
  exact zq hk hd hx hC bI h
 | false =>
  rw [if_neg (by decide)]
  refine aN (zq hk hd hC hx (fH bI) (aX ?_))
  have e:(!decide (κ key<κ arr[j]))=decide (κ arr[j]<κ key):=by
   by_cases c:κ key<κ arr[j]
   .rw [decide_eq_true c,decide_eq_false (by ext hj c)];rfl
   .rw [decide_eq_false c,decide_eq_true (by ext hj bI c)];rfl
  rw [IT,e]
  exact h
theorem Dr(hk:Ask prog w s kd κ C){st:SortSt}(hd:kindOf st=kd){Q:Option Nat->SortSt->Prop}(hC:C key)(hn:base+n<=arr.size)(hh:hint<n)
  (hA:∀j (h:j<arr.size),base<=j->j<base+n->C arr[j]/\κ arr[j]≠κ key)(hs:∀i j,i<j->j<n->kv κ arr (base+i)<kv κ arr (base+j))
  (h:∀k,k<=n->(∀i,i<k->kv κ arr (base+i)<κ key)->(∀i,k<=i->i<n->κ key<kv κ arr (base+i))->Q (some k) st):wpS (model prog w) A E s (a9v left key arr base n hint) Q st:=by
 have ask:∀i,i<n->∀{Q:Option Bool->SortSt->Prop},Q (some (decide (kv κ arr (base+i)<κ key))) st->wpS (model prog w) A E s (elem' arr (base+i) >>= λx=>if left=true then lt' x key else lt' key x >>= λr=>pure (tG (λx=>!x) r)) Q st:=λi hi Q hQ =>
  have hj:base+i<arr.size:=by ext hn hi
  bey hk hd hC hj (hA _ hj (by ext) (by ext hi)).1 (hA _ hj (by ext) (by ext hi)).2 hQ
 have ne:∀i,i<n->kv κ arr (base+i)≠κ key:=λi hi=>by
  have hj:base+i<arr.size:=by ext hn hi
  rw [iN hj]
  exact (hA _ hj (by ext) (by ext hi)).2
 have dn:∀i j,i<=j->j<n->kv κ arr (base+j)<κ key->kv κ arr (base+i)<κ key:=λi j h1 h2 h3=>by
  by_cases c:i=j
  .subst c;exact h3
  .have:=hs i j (by ext h1 c) h2;ext h3 this
 have up:∀i j,i<=j->j<n->κ key<kv κ arr (base+i)->κ key<kv κ arr (base+j):=λi j h1 h2 h3=>by
  by_cases c:i=j
  .subst c;exact h3
  .have:=hs i j (by ext h1 c) h2;ext h3 this
 unfold wpS
 wp_delta
 wp_delta
 wp_delta
 refine xD (Q:=Q) (aN (ask hint hh ?_))
 dsimp only
 have tail:∀lo hi:Nat,lo<=hi->hi<=n->(∀i,i<lo->kv κ arr (base+i)<κ key)->(∀i,hi<=i->i<n->κ key<kv κ arr (base+i)) ->
   wpS (model prog w) A E s (forIn [0:n] ((none,lo,hi):Option (Option Nat)×Nat×Nat) (λx q=>if q.2.1≥q.2.2 then pure (DW (none,q.2.1,q.2.2)) else
    (elem' arr (base+(q.2.1+(q.2.2-q.2.1)/2)) >>= λx=>if left=true then lt' x key else lt' key x >>= λr=>pure (tG (λx=>!x) r)) >>= λr=>match r with
     | some more=>if more=true then pure (qy (none,q.2.1+(q.2.2-q.2.1)/2+1,q.2.2)) else pure (qy (none,q.2.1,q.2.1+(q.2.2-q.2.1)/2))
     | x=>pure (DW (some none,q.2.1,q.2.2)))) (λq aj=>aj=st/\∃k,q.1=none/\q.2.2=k/\k<=n/\(∀i,i<k->kv κ arr (base+i)<κ key)/\∀i,k<=i->i<n->κ key<kv κ arr (base+i)) st:=λlo hi h1 h2 h3 h4=>by
  refine kW (λx q aj=>aj=st/\∃l r,q=(none,l,r)/\l<=r/\r<=n/\r-l<=n-x/\(∀i,i<l->kv κ arr (base+i)<κ key)/\∀i,r<=i->i<n->κ key<kv κ arr (base+i)) (λx q aj _ hx hI=>?_) (λq aj hI=>?_) ⟨rfl,lo,hi,rfl,h1,h2,by ext h2,h3,h4⟩
  .obtain ⟨rfl,l,r,rfl,j1,j2,j3,j4,j5⟩:=hI
   dsimp only
   by_cases c:l≥r
   .rw [if_pos c]
    obtain rfl:l=r:=by ext j1 c
    exact aX ⟨rfl,l,rfl,rfl,j2,j4,j5⟩
   .rw [if_neg c]
    refine aN (ask _ (by lia) ?_)
    dsimp only
    by_cases c2:kv κ arr (base+(l+(r-l)/2))<κ key
    .rw [if_pos (decide_eq_true c2)]
     exact aX ⟨rfl,_,_,rfl,by lia,‹_›,by ext j3,λi hi=>dn i _ (by ext hi) (by lia) c2,j5⟩
    .rw [if_neg (by simpa using c2)]
     have:=ne (l+(r-l)/2) (by lia)
     exact aX ⟨rfl,_,_,rfl,by ext,by lia,by lia,j4,λi hi h'=>up _ i hi h' (by ext c2 this)⟩
  .obtain ⟨rfl,l,r,rfl,j1,j2,j3,j4,j5⟩:=hI
   obtain rfl:l=r:=by ext j1 j3
   exact ⟨rfl,l,rfl,rfl,j2,j4,j5⟩
 by_cases c:kv κ arr (base+hint)<κ key
 .rw [if_pos (decide_eq_true c)]
  refine aN (kR (kW (λx q aj=>aj=st/\∃l o,q=(none,l,o)/\l<o/\x+1<=o/\hint+l<n/\kv κ arr (base+(hint+l))<κ key) (Q:=λq aj=>aj=st/\∃l o,q=(none,l,o)/\l<o/\hint+l<n/\kv κ arr (base+(hint+l))<κ key/\(o<n-hint->κ key<kv κ arr (base+(hint+o)))) (λx q aj _ hx hI=>?_) (λq aj hI=>?_) ⟨rfl,0,1,rfl,by decide,by decide,‹_›,c⟩) λq aj hI=>?_)
  .obtain ⟨rfl,l,o,rfl,j1,j2,j3,j4⟩:=hI
   dsimp only
   by_cases c1:o≥n-hint
   .rw [if_pos c1]
    exact aX ⟨rfl,l,o,rfl,j1,j3,j4,λz=>absurd z (by ext c1)⟩
   .rw [if_neg c1]
    refine aN (ask (hint+o) (by ext c1) ?_)
    dsimp only
    by_cases c2:kv κ arr (base+(hint+o))<κ key
    .rw [if_neg (by simpa using c2)]
     exact aX ⟨rfl,o,2*o+1,rfl,by ext,by ext j2,by ext c1,c2⟩
    .rw [if_pos (by simpa using c2)]
     have:=ne (hint+o) (by ext c1)
     exact aX ⟨rfl,l,o,rfl,j1,j3,j4,λ_=>by ext c2 this⟩
  .obtain ⟨rfl,l,o,rfl,j1,j2,j3,j4⟩:=hI
   exact ⟨rfl,l,o,rfl,j1,j3,j4,λz=>absurd z (by ext j2)⟩
  .obtain ⟨rfl,l,o,rfl,j1,j3,j4,j5⟩:=hI
   dsimp only
   refine aN (kR (tail (hint+l+1) (hint+min o (n-hint)) (by ext j1 j3) (by ext hh) (λi hi=>dn i _ (by ext hi) j3 j4) λi hi h'=>?_) λq aj hI=>?_)
   .by_cases c1:o<n-hint
    .exact up (hint+o) i (by ext hi c1) h' (j5 c1)
    .ext hi h' c1
   .obtain ⟨rfl,k,e1,rfl,k1,k2,k3⟩:=hI
    rw [e1]
    exact aX (h _ k1 k2 k3)
 .rw [if_neg (by simpa using c)]
  have c0:=ne hint hh
  refine aN (kR (kW (λx q aj=>aj=st/\∃l o,q=(none,l,o)/\l<o/\x+1<=o/\l<=hint/\κ key<kv κ arr (base+(hint-l))) (Q:=λq aj=>aj=st/\∃l o,q=(none,l,o)/\l<o/\l<=hint/\κ key<kv κ arr (base+(hint-l))/\(o<hint+1->kv κ arr (base+(hint-o))<κ key)) (λx q aj _ hx hI=>?_) (λq aj hI=>?_) ⟨rfl,0,1,rfl,by decide,by decide,by ext,by rw [Nat.sub_zero];ext c c0⟩) λq aj hI=>?_)
  .obtain ⟨rfl,l,o,rfl,j1,j2,j3,j4⟩:=hI
   dsimp only
   by_cases c1:o≥hint+1
   .rw [if_pos c1]
    exact aX ⟨rfl,l,o,rfl,j1,j3,j4,λz=>absurd z (by ext c1)⟩
   .rw [if_neg c1]
    refine aN (ask (hint-o) (by ext hh) ?_)
    dsimp only
    by_cases c2:kv κ arr (base+(hint-o))<κ key
    .rw [if_pos (decide_eq_true c2)]
     exact aX ⟨rfl,l,o,rfl,j1,j3,j4,λ_=>c2⟩
    .rw [if_neg (by simpa using c2)]
     have:=ne (hint-o) (by ext hh)
     exact aX ⟨rfl,o,2*o+1,rfl,by ext,by ext j2,by ext c1,by ext c2 this⟩
  .obtain ⟨rfl,l,o,rfl,j1,j2,j3,j4⟩:=hI
   exact ⟨rfl,l,o,rfl,j1,j3,j4,λz=>absurd z (by ext hh j2)⟩
  .obtain ⟨rfl,l,o,rfl,j1,j3,j4,j5⟩:=hI
   dsimp only
   refine aN (kR (tail (hint+1-min o (hint+1)) (hint-l) (by ext j1) (by ext hh) (λi hi=>?_) λi hi h'=>up _ i hi h' j4) λq aj hI=>?_)
   .by_cases c1:o<hint+1
    .exact dn i (hint-o) (by ext hi) (by ext hh) (j5 c1)
    .ext hi c1
   .obtain ⟨rfl,k,e1,rfl,k1,k2,k3⟩:=hI
    rw [e1]
    exact aX (h _ k1 k2 k3)
end
section
variable {κ:Keyed->Int}
theorem KI{a:Array Keyed}{i k:Nat}(h:x∈(a.toList.drop i).take k):∃j,∃hj:j<a.size,i<=j/\j<i+k/\x=a[j]:=by
 obtain ⟨n,hn,e⟩:=pV.mp h
 simp only [jr,og,gS] at hn
 refine ⟨i+n,by ext hn:1,by ext:1,by ext hn:1,?_⟩
 rw [<-e]
 simp
theorem BY{a:Array Keyed}{i:Nat}(h:x∈a.toList.drop i):∃j,∃hj:j<a.size,i<=j/\x=a[j]:=by
 obtain ⟨n,hn,e⟩:=pV.mp h
 simp only [og,gS] at hn
 refine ⟨i+n,by ext hn:1,by ext:1,?_⟩
 rw [<-e]
 simp
theorem fY(h:eW κ a.toList)(h1:i<j)(h2:j<a.size):kv κ a i<kv κ a j:=by
 rw [iN (by ext h1 h2:1),iN h2]
 have:=xg.mp h i j (by simp;ext h1 h2:1) (by simpa using h2) h1
 simpa using this
theorem Rz(a:Array Keyed)(i k:Nat):(a.extract i (i+k)).toList=(a.toList.drop i).take k:=by
 rw [D6,Ep,JE]
theorem Fv(a:Array Keyed)(i:Nat):(a.extract i a.size).toList=a.toList.drop i:=by
 rw [D6,Ep]
 exact vt (by simp)
theorem Lw{a:Array Keyed}{i:Nat}(h:i<a.size):(a.toList.drop i).take 1=[a[i]]:=by
 rw [ni (by simpa using h)]
 simp
end
noncomputable abbrev sg(st:SortSt)(g:Nat):SortSt:=AZ (kindOf st) (arrOf st) (pendingOf st) g (failedOf st)
section
variable {prog:Program}{w:World}{A:Around}{E:Value->Shared->Prop}{s:Shared}{kd:SortKind}{κ:Keyed->Int}{C:Keyed->Prop}
theorem EF{st:SortSt}{Q:Unit->SortSt->Prop}(h:Q () (sg st g)):wpS (model prog w) A E s (setG' g) Q st:=by
 show wpS _ _ _ _ (modify _) _ _
 exact qx h
theorem xn{st:SortSt}{Q:Unit->SortSt->Prop}(h:Q () st):wpS (model prog w) A E s (liftM (rule t):StateT SortSt Sem Unit) Q st:=wpS_lift (tH ⟨rfl,h⟩)
structure gy(κ:Keyed->Int)(C:Keyed->Prop)(a b:Array Keyed):Prop where
 sa:eW κ a.toList
 sb:eW κ b.toList
 ca:∀x∈a.toList,C x
 cb:∀x∈b.toList,C x
 ne:∀x∈a.toList,∀y∈b.toList,κ x≠κ y
variable {a b:Array Keyed}
theorem gy.C8(T:gy κ C a b)(h:i<a.size):C a[i]:=T.ca _ (by simp)
theorem gy.C7(T:gy κ C a b)(h:i<b.size):C b[i]:=T.cb _ (by simp)
theorem gy.wJ(T:gy κ C a b)(hi:i<a.size)(hj:j<b.size):κ a[i]≠κ b[j]:=T.ne _ (by simp) _ (by simp)
theorem AE(hk:Ask prog w s kd κ C)(T:gy κ C a b){st:SortSt}(hd:kindOf st=kd){Q:Option Nat->SortSt->Prop}(hi:i<a.size)(hj:j<b.size)
  (h:∀k,i+k<=a.size->(∀x∈(a.toList.drop i).take k,∀y∈b.toList.drop j,κ x<κ y)->(∀y∈a.toList.drop (i+k),κ b[j]<κ y)->Q (some k) st):wpS (model prog w) A E s (a9v l b[j] a i (a.size-i) 0) Q st:=by
 refine Dr hk hd (T.C7 hj) (by ext hi) (by ext hi) (λn hn _ _=>⟨T.C8 hn,T.wJ hn hj⟩) (λx y h1 h2=>fY T.sa (by ext h1) (by ext h2)) λk k1 k2 k3=>h k (by ext hi k1) (λx hx y hy=>?_) λy hy=>?_
 .obtain ⟨n,hn,n1,n2,rfl⟩:=KI hx
  obtain ⟨m,hm,m1,rfl⟩:=BY hy
  have e:=k2 (n-i) (by ext n1 n2)
  rw [show i+(n-i)=n by ext n1,iN hn] at e
  by_cases c:j=m
  .subst c;exact e
  .have:=fY T.sb (show j<m by ext m1 c) hm
   rw [iN hj,iN hm] at this
   ext hn hm hj e this
 .obtain ⟨n,hn,n1,rfl⟩:=BY hy
  have e:=k3 (n-i) (by ext n1) (by ext hn n1)
  rw [show i+(n-i)=n by ext n1,iN hn] at e
  exact e
theorem gy.sym(T:gy κ C a b):gy κ C b a:=⟨T.sb,T.sa,T.cb,T.ca,λx hx y hy z=>T.ne y hy x hx z.symm⟩
theorem Inv.px{out:Array Keyed}{ia ib:Nat}(h:Inv κ a.toList b.toList out.toList ia ib)(T:gy κ C a b)(hi:ia<a.size)(hk:∀y∈b.toList.drop ib,κ a[ia]<κ y):Inv κ a.toList b.toList (out.push a[ia]).toList (ia+1) ib:=by
 rw [w4,<-Lw hi]
 refine h.a T.sa 1 λx hx y hy=>?_
 rw [Lw hi,bY] at hx
 rw [hx]
 exact hk y hy
theorem Inv.pq{out:Array Keyed}{ia ib:Nat}(h:Inv κ a.toList b.toList out.toList ia ib)(T:gy κ C a b)(hi:ib<b.size)(hk:∀y∈a.toList.drop ia,κ b[ib]<κ y):Inv κ a.toList b.toList (out.push b[ib]).toList ia (ib+1):=(h.sym.px T.sym hi hk).sym
theorem Inv.yG(h:Inv κ a.toList b.toList out.toList ia ib)(T:gy κ C a b)(k:Nat)(hk:∀x∈(a.toList.drop ia).take k,∀y∈b.toList.drop ib,κ x<κ y):Inv κ a.toList b.toList (out++a.extract ia (ia+k)).toList (ia+k) ib:=by
 rw [pU,Rz]
 exact h.a T.sa k hk
theorem Inv.Gv(h:Inv κ a.toList b.toList out.toList ia ib)(T:gy κ C a b)(k:Nat)(hk:∀x∈(b.toList.drop ib).take k,∀y∈a.toList.drop ia,κ x<κ y):Inv κ a.toList b.toList (out++b.extract ib (ib+k)).toList ia (ib+k):=(h.sym.yG T.sym k hk).sym
theorem E1(T:gy κ C a b)(hi:i<a.size)(hj:j<b.size)(h:κ b[j]<κ a[i]):∀y∈a.toList.drop i,κ b[j]<κ y:=λy hy=>by
 obtain ⟨n,hn,n1,rfl⟩:=BY hy
 by_cases c:i=n
 .subst c;exact h
 .have:=fY T.sa (show i<n by ext n1 c) hn
  rw [iN hi,iN hn] at this
  ext hj hn hi h this
def Mg(κ:Keyed->Int)(a b r:Array Keyed):Prop:=eW κ r.toList/\r.toList.Perm (a.toList++b.toList)
theorem Inv.ip(h:Inv κ a.toList b.toList out.toList ia ib)(T:gy κ C a b)(hm:ia=a.size\/ib=b.size):Mg κ a b (out++a.extract ia a.size++b.extract ib b.size):=by
 unfold Mg
 rw [pU,pU,Fv,Fv]
 refine h.done T.sa T.sb λx hx y hy=>?_
 obtain ⟨n,hn,n1,rfl⟩:=BY hx
 obtain ⟨m,hm,m1,rfl⟩:=BY hy
 lia
theorem Inv.jA(h:Inv κ a.toList b.toList out.toList ia ib)(T:gy κ C a b)(hm:∀x∈b.toList,∀y∈a.toList.drop (a.size-1),κ x<κ y)(hi:ia+1=a.size):Mg κ a b (out++b.extract ib b.size++a.extract ia a.size):=by
 unfold Mg
 rw [pU,pU,Fv,Fv]
 exact h.last T.sa T.sb λx hx y hy=>hm x (tR hx) y (by rw [<-hi];exact hy)
theorem EM{n:Nat}(h:2<=n)(h':¬n-1=1):2<=n-1:=by ext h h'
theorem b7O(h:¬m=1)(h':¬m=0):2<=m:=by ext h h'
theorem zH{β γ:Type}{M:Model}{c:γ->Prop}[∀v,Decidable (c v)]{x y:γ->StateT SortSt Sem β}{Q:β->SortSt->Prop}{st:SortSt}(u:γ->γ)(hx:∀v,x v=y (u v))(h:∀u,wpS M A E s (y u) Q st):∀v,wpS M A E s (if c v then x v else y v) Q st:=λv=>by
 rw [hx]
 split<;>exact h _
theorem Ew{β γ δ:Type}{M:Model}{c:Prop}[Decidable c]{R:γ->δ->Prop}{x y:γ->δ->StateT SortSt Sem β}{Q:β->SortSt->Prop}{st:SortSt}(P:γ->δ->Prop)(hF:∀u v,P u v->wpS M A E s (y u v) Q st)
  (h1:∀u v,R u v->(∀u v,P u v->wpS M A E s (y u v) Q st)->c->wpS M A E s (x u v) Q st)(h2:∀u v,R u v->¬c->P u v):∀u v,R u v->wpS M A E s (if c then x u v else y u v) Q st:=λu v hR=>by
 by_cases hc:c
 .rw [if_pos hc];exact h1 u v hR hF hc
 .rw [if_neg hc];exact hF u v (h2 u v hR hc)
structure J(κ:Keyed->Int)(a b out:Array Keyed)(ia ib:Nat):Prop where
 inv:Inv κ a.toList b.toList out.toList ia ib
 la:ia+1<a.size
 lb:ib<b.size
theorem XI(hk:Ask prog w s kd κ C)(T:gy κ C a b){st:SortSt}(hd:kindOf st=kd){Q:Array Keyed->SortSt->Prop}(ha:0<a.size)(hb:0<b.size)(h0:κ b[0]<κ a[0])(hm:∀x∈b.toList,∀y∈a.toList.drop (a.size-1),κ x<κ y)
  (h:∀r g,Mg κ a b r->Q r (sg st g)):wpS (model prog w) A E s (b4a a b) Q st:=by
 unfold wpS
 wp_delta
 wp_delta
 wp_delta
 refine xD (Q:=Q) (aN (xn (aN (iD hb ?_))))
 dsimp only
 have i0:Inv κ a.toList b.toList (#[b[0]]:Array Keyed).toList 0 1:=(zK (κ:=κ) (la:=a.toList) (lb:=b.toList)).pq (out:=#[]) T hb (E1 T ha hb h0)
 by_cases c1:1=b.size
 .rw [if_pos (by simpa using c1)]
  exact aX (h _ (gallopOf st) (i0.ip T (.inr c1)))
 rw [if_neg (by simpa using c1)]
 by_cases c2:0+1=a.size
 .rw [if_pos (by simpa using c2)]
  exact aX (h _ (gallopOf st) (i0.jA T hm c2))
 rw [if_neg (by simpa using c2)]
 refine aN (n0 ?_)
 refine aN (kR (kW (λx q aj=>(∃g,aj=sg st g)/\∃out ia ib mg,q=(none,out,ia,ib,mg)/\J κ a b out ia ib/\x+1<=ia+ib) (Q:=λq aj=>(∃g,aj=sg st g)/\∃r,q.1=some r/\Mg κ a b r) (λx q aj _ hx hI=>?_) (λq aj hI=>?_) ⟨⟨gallopOf st,rfl⟩,_,_,_,_,rfl,⟨i0,by ext ha c2,by ext hb c1⟩,by decide⟩) λq aj hI=>?_)
 .obtain ⟨⟨g,rfl⟩,out,ia,ib,mg,rfl,hJ,hp⟩:=hI
  dsimp only
  refine aN (kR (kW (λx q aj=>(∃g,aj=sg st g)/\∃f' jl l8 ac bc,q=(none,f',jl,l8,ac,bc)/\J κ a b f' jl l8/\ia+ib+x<=jl+l8) (Q:=λq aj=>(∃g,aj=sg st g)/\((∃r,q.1=some r/\Mg κ a b r)\/∃f' jl l8 ac bc,q=(none,f',jl,l8,ac,bc)/\J κ a b f' jl l8/\ia+ib+1<=jl+l8)) (λx q aj _ hx hI=>?_) (λq aj hI=>?_) ⟨⟨_,rfl⟩,_,_,_,_,_,rfl,hJ,by ext⟩) λq aj hI=>?_)
  .obtain ⟨⟨g,rfl⟩,out,ia,ib,ac,bc,rfl,hJ,hp⟩:=hI
   dsimp only
   refine aN (iD hJ.lb (aN (iD (vD hJ.la) (aN (zq hk hd (T.C7 hJ.lb) (T.C8 _) (fH (T.wJ _ hJ.lb)) ?_)))))
   dsimp only
   have la:=hJ.la
   have lb:=hJ.lb
   by_cases c:κ b[ib]<κ a[ia]
   .rw [if_pos (decide_eq_true c)]
    refine aN (iD hJ.lb ?_)
    have i2:=hJ.inv.pq T hJ.lb (E1 T (by ext la) lb c)
    by_cases d1:ib+1=b.size
    .rw [if_pos (by simpa using d1)]
     exact aX ⟨⟨_,rfl⟩,.inl ⟨_,rfl,i2.ip T (.inr d1)⟩⟩
    rw [if_neg (by simpa using d1)]
    by_cases d2:bc+1≥mg
    .rw [if_pos d2]
     exact aX ⟨⟨_,rfl⟩,.inr ⟨_,_,_,_,_,rfl,⟨i2,la,by ext lb d1⟩,by ext hp⟩⟩
    .rw [if_neg d2]
     exact aX ⟨⟨_,rfl⟩,_,_,_,_,_,rfl,⟨i2,la,by ext lb d1⟩,by ext hp⟩
   .rw [if_neg (by simpa using c)]
    refine aN (iD (vD hJ.la) ?_)
    have bI:=T.wJ (vD hJ.la) hJ.lb
    have i2:=hJ.inv.px T (vD hJ.la) (E1 T.sym lb (by ext la) (by ext la lb ha hb c bI))
    by_cases d1:ia+1+1=a.size
    .rw [if_pos (by simpa using d1)]
     exact aX ⟨⟨_,rfl⟩,.inl ⟨_,rfl,i2.jA T hm d1⟩⟩
    rw [if_neg (by simpa using d1)]
    by_cases d2:ac+1≥mg
    .rw [if_pos d2]
     exact aX ⟨⟨_,rfl⟩,.inr ⟨_,_,_,_,_,rfl,⟨i2,by ext la d1,lb⟩,by ext hp⟩⟩
    .rw [if_neg d2]
     exact aX ⟨⟨_,rfl⟩,_,_,_,_,_,rfl,⟨i2,by ext la d1,lb⟩,by ext hp⟩
  .obtain ⟨hg,out,ia,ib,ac,bc,rfl,hJ,hp⟩:=hI
   exact ⟨hg,.inr ⟨_,_,_,_,_,rfl,hJ,by ext hb hp⟩⟩
  .obtain ⟨⟨g,rfl⟩,⟨r,e,hr⟩ | ⟨f',jl,l8,ac,bc,rfl,Ie,Hx⟩⟩:=hI
   .obtain ⟨q1,q2⟩:=q
    dsimp only at e
    rw [e]
    exact aX ⟨⟨_,rfl⟩,_,rfl,hr⟩
   dsimp only
   refine aN (xn ?_)
   refine aN (kR (kW (λx q aj=>(∃g,aj=sg st g)/\∃out ja jb mg ac bc,q=(none,out,ja,jb,mg,ac,bc)/\J κ a b out ja jb/\jl+l8<=ja+jb) (Q:=λq aj=>(∃g,aj=sg st g)/\((∃r,q.1=some r/\Mg κ a b r)\/∃out ja jb mg ac bc,q=(none,out,ja,jb,mg,ac,bc)/\J κ a b out ja jb/\jl+l8<=ja+jb)) (λx q aj _ hx hI=>?_) (λq aj hI=>?_) ⟨⟨_,rfl⟩,_,_,_,_,_,_,rfl,Ie,by ext⟩) λq aj hI=>?_)
   .obtain ⟨⟨g,rfl⟩,out,ja,jb,mg,ac,bc,rfl,hJ,hp⟩:=hI
    dsimp only
    have la:=hJ.la
    have lb:=hJ.lb
    revert mg
    refine zH (λmg=>mg-1) (λ_=>rfl) λmg=>?_
    refine aN (EF (aN (iD lb (aN ?_))))
    refine AE hk T ?_ (vD la) lb λk k1 k2 k3=>?_
    .exact hd
    dsimp only
    have hR:Inv κ a.toList b.toList out.toList ja jb/\(k=0->∀y∈a.toList.drop ja,κ b[jb]<κ y)/\(k=0->ja+1<a.size)/\jl+l8<=ja+jb/\ja+k<=a.size/\(∀x∈(a.toList.drop ja).take k,∀y∈b.toList.drop jb,κ x<κ y)/\∀y∈a.toList.drop (ja+k),κ b[jb]<κ y:=⟨hJ.inv,λz=>by rw [z] at k3;exact k3,λ_=>la,hp,k1,k2,k3⟩
    clear hJ la hp k1 k2 k3
    revert out ja
    refine Ew (λo j=>Inv κ a.toList b.toList o.toList j jb/\j+1<a.size/\(∀y∈a.toList.drop j,κ b[jb]<κ y)/\jl+l8<=j+jb) ?_ (λout ja hR hF d0=>?_) λout ja hR d0=>⟨hR.1,hR.2.2.1 (vq d0),hR.2.1 (vq d0),hR.2.2.2.1⟩
    .rintro o j ⟨i1,hj,k3,hp⟩
     have rk:=vD hj
     refine aN (iD lb ?_)
     have i2:=i1.pq T lb k3
     by_cases d3:jb+1=b.size
     .rw [if_pos (by simpa using d3)]
      exact aX ⟨⟨_,rfl⟩,.inl ⟨_,rfl,i2.ip T (.inr d3)⟩⟩
     rw [if_neg (by simpa using d3)]
     have l2:jb+1<b.size:=Bb lb d3
     refine aN (iD rk (aN ?_))
     refine AE hk T.sym ?_ l2 rk λm m1 m2 m3=>?_
     .exact hd
     dsimp only
     have hR:Inv κ a.toList b.toList (o.push b[jb]).toList j (jb+1)/\(m=0->∀y∈b.toList.drop (jb+1),κ a[j]<κ y)/\jb+1<b.size/\jl+l8<=j+(jb+1)/\jb+1+m<=b.size/\(∀x∈(b.toList.drop (jb+1)).take m,∀y∈a.toList.drop j,κ x<κ y)/\∀y∈b.toList.drop (jb+1+m),κ a[j]<κ y:=⟨i2,λz=>by rw [z] at m3;exact m3,l2,Nat.le_succ_of_le hp,m1,m2,m3⟩
     clear i2 l2 m1 m2 m3
     generalize o.push b[jb]=o2 at hR ⊢
     generalize jb+1=j2 at hR ⊢
     revert o2 j2
     refine Ew (λp q=>Inv κ a.toList b.toList p.toList j q/\q<b.size/\(∀y∈b.toList.drop q,κ a[j]<κ y)/\jl+l8<=j+q) ?_ (λo2 j2 hR hF d4=>?_) λout ja hR d0=>⟨hR.1,hR.2.2.1,hR.2.1 (vq d0),hR.2.2.2.1⟩
     .rintro p q ⟨i3,hq,m3,hp⟩
      refine aN (iD rk ?_)
      have i4:=i3.px T rk m3
      by_cases d6:j+1+1=a.size
      .rw [if_pos (by simpa using d6)]
       exact aX ⟨⟨_,rfl⟩,.inl ⟨_,rfl,i4.jA T hm d6⟩⟩
      rw [if_neg (by simpa using d6)]
      have hJ:J κ a b (p.push a[j]) (j+1) q:=⟨i4,Bb hj d6,hq⟩
      have wQ:jl+l8<=j+1+q:=eQ hp (JJ (A3 j) q)
      by_cases d7:(decide (k<7)&&decide (m<7))=true
      .rw [if_pos d7]
       exact aX ⟨⟨_,rfl⟩,.inr ⟨_,_,_,_,_,_,rfl,hJ,wQ⟩⟩
      .rw [if_neg d7]
       exact aX ⟨⟨_,rfl⟩,_,_,_,_,_,_,rfl,hJ,wQ⟩
     .obtain ⟨i2,_,l2,hp,m1,m2,m3⟩:=hR
      have i3:=i2.Gv T m m2
      by_cases d5:j2+m=b.size
      .rw [if_pos (by simpa using d5)]
       exact aX ⟨⟨_,rfl⟩,.inl ⟨_,rfl,i3.ip T (.inr d5)⟩⟩
      rw [if_neg (by simpa using d5)]
      exact hF _ _ ⟨i3,Bb m1 d5,m3,eQ hp (Nat.add_le_add_left (rN j2 m) j)⟩
    .obtain ⟨i0,_,la,hp,k1,k2,k3⟩:=hR
     have i1:=i0.yG T k k2
     by_cases d1:ja+k+1=a.size
     .rw [if_pos (by simpa using d1)]
      exact aX ⟨⟨_,rfl⟩,.inl ⟨_,rfl,i1.jA T hm d1⟩⟩
     rw [if_neg (by simpa using d1)]
     by_cases d2:ja+k=a.size
     .rw [if_pos (by simpa using d2)]
      exact aX ⟨⟨_,rfl⟩,.inl ⟨_,rfl,i1.ip T (.inl d2)⟩⟩
     rw [if_neg (by simpa using d2)]
     exact hF _ _ ⟨i1,Bb (Bb k1 d2) d1,k3,eQ hp (JJ (rN ja k) jb)⟩
   .obtain ⟨hg,out,ja,jb,mg,ac,bc,rfl,hJ,hp⟩:=hI
    exact ⟨hg,.inr ⟨_,_,_,_,_,_,rfl,hJ,‹_›⟩⟩
   .obtain ⟨⟨g,rfl⟩,⟨r,e,hr⟩ | ⟨out,ja,jb,mg,ac,bc,rfl,hJ,hp⟩⟩:=hI
    .obtain ⟨q1,q2⟩:=q
     dsimp only at e
     rw [e]
     exact aX ⟨⟨_,rfl⟩,_,rfl,hr⟩
    .dsimp only
     exact aN (EF (aX ⟨⟨_,rfl⟩,_,_,_,_,rfl,hJ,by lia⟩))
 .obtain ⟨_,out,ia,ib,mg,rfl,hJ,hp⟩:=hI
  have la:=hJ.la
  have lb:=hJ.lb
  ext _ hb hp la lb
 .obtain ⟨⟨g,rfl⟩,r,e,hr⟩:=hI
  rw [e]
  exact aX (h _ _ hr)
end
section
variable {prog:Program}{w:World}{A:Around}{E:Value->Shared->Prop}{s:Shared}{kd:SortKind}{κ:Keyed->Int}{C:Keyed->Prop}{a b:Array Keyed}
noncomputable def ng(κ:Keyed->Int)(x:Keyed):Int:=-κ x
theorem dC:eW (ng κ) l.reverse↔eW κ l:=by
 unfold eW
 rw [List.pairwise_reverse]
 constructor<;>exact λh=>h.imp λz=>by unfold ng at *;ext z
theorem qD(l:List Keyed)(h:n<=l.length):l.reverse.drop (l.length-n)=(l.take n).reverse:=by
 rw [List.reverse_take]
theorem PD(l:List Keyed)(h:n<=l.length)(hk:k<=n):(l.reverse.drop (l.length-n)).take (n-k)=((l.take n).drop k).reverse:=by
 rw [qD l h,List.reverse_drop,jr,IQ h]
theorem Fu(a:Array Keyed)(n:Nat):(a.extract 0 n).toList=a.toList.take n:=by
 rw [D6,Ep]
 rfl
theorem Lm(a:Array Keyed)(i n:Nat):(a.extract i n).toList=(a.toList.take n).drop i:=by
 rw [D6,Ep,I0]
structure H(κ:Keyed->Int)(a b out:Array Keyed)(na nb:Nat):Prop where
 inv:Inv (ng κ) a.toList.reverse b.toList.reverse out.toList (a.toList.length-na) (b.toList.length-nb)
 la:na<=a.toList.length
 lb:nb<=b.toList.length
variable {out:Array Keyed}{na nb:Nat}
theorem H.sym(h:H κ a b out na nb):H κ b a out nb na:=⟨h.inv.sym,h.lb,h.la⟩
theorem H.seg(h:H κ a b out na nb)(T:gy κ C a b)(hk:k<=na)(hx:∀x∈(a.toList.take na).drop k,∀y∈b.toList.take nb,κ y<κ x):H κ a b (out++(a.extract k na).reverse) k nb:=by
 have la:=h.la
 refine ⟨?_,by ext hk la,h.lb⟩
 have i:=h.inv.a (dC.mpr T.sa) (na-k) λx jZ y hy=>?_
 .rw [PD _ h.la hk,show a.toList.length-na+(na-k)=a.toList.length-k by ext hk la] at i
  rw [pU,D5,Lm]
  exact i
 .rw [PD _ h.la hk] at jZ
  rw [qD _ h.lb] at hy
  have:=hx x (wY.mp jZ) y (wY.mp hy)
  unfold ng
  ext this
theorem H.push(h:H κ a b out na nb)(T:gy κ C a b)(h0:0<na)(hn:na-1<a.size)(hx:∀y∈b.toList.take nb,κ y<κ a[na-1]):H κ a b (out.push a[na-1]) (na-1) nb:=by
 have la:=h.la
 rw [gS] at la
 have e:(a.toList.take na).drop (na-1)=[a[na-1]]:=by
  rw [I0,show na-(na-1)=1 by ext h0,Lw hn]
 have:=h.seg T (k:=na-1) (by ext) λx jZ y hy=>by
  rw [e,bY] at jZ
  rw [jZ]
  exact hx y hy
 have e2:out++(a.extract (na-1) na).reverse=out.push a[na-1]:=by
  apply Array.toList_inj.mp
  rw [pU,D5,Lm,e,w4]
  rfl
 rw [e2] at this
 exact this
theorem H.zl(h:H κ a b out na nb)(T:gy κ C a b)(hm:na=0\/nb=0):Mg κ a b (a.extract 0 na++b.extract 0 nb++out.reverse):=by
 have q:=h.inv.last (dC.mpr T.sa) (dC.mpr T.sb) λx hx y hy=>by
  rw [qD _ h.lb,wY] at hx
  rw [qD _ h.la,wY] at hy
  rcases hm with rfl | rfl
  .rw [List.take_zero] at hy;cases hy
  .rw [List.take_zero] at hx;cases hx
 have e:(a.extract 0 na++b.extract 0 nb++out.reverse).toList=(out.toList++b.toList.reverse.drop (b.toList.length-nb)++a.toList.reverse.drop (a.toList.length-na)).reverse:=by
  rw [qD _ h.lb,qD _ h.la,pU,pU,D5,Fu,Fu]
  simp
 unfold Mg
 rw [e]
 refine ⟨?_,?_⟩
 .have:=q.1
  rw [<-OP (as:=out.toList++_++_)] at this
  exact dC.mp this
 .refine (wZ _).trans (q.2.trans ?_)
  exact (wZ _).append (wZ _)
theorem H.C4(h:H κ a b out na nb)(T:gy κ C a b)(hm:∀x∈b.toList.take nb,∀y∈a.toList,κ x<κ y):Mg κ a b (b.extract 0 nb++a.extract 0 na++out.reverse):=by
 have q:=h.inv.done (dC.mpr T.sa) (dC.mpr T.sb) λx hx y hy=>by
  rw [qD _ h.la,wY] at hx
  rw [qD _ h.lb,wY] at hy
  have:=hm y hy x (tS hx)
  unfold ng
  ext this
 have e:(b.extract 0 nb++a.extract 0 na++out.reverse).toList=(out.toList++a.toList.reverse.drop (a.toList.length-na)++b.toList.reverse.drop (b.toList.length-nb)).reverse:=by
  rw [qD _ h.lb,qD _ h.la,pU,pU,D5,Fu,Fu]
  simp
 unfold Mg
 rw [e]
 refine ⟨?_,?_⟩
 .have:=q.1
  rw [<-OP (as:=out.toList++_++_)] at this
  exact dC.mp this
 .refine (wZ _).trans (q.2.trans ?_)
  exact (wZ _).append (wZ _)
theorem Km(h:x∈a.toList.take n):∃j,∃hj:j<a.size,j<n/\x=a[j]:=by
 obtain ⟨j,hj,_,j2,e⟩:=KI (i:=0) (k:=n) (by rw [DV];exact h)
 exact ⟨j,hj,by ext j2,e⟩
theorem JR(T:gy κ C a b)(hi:i<a.size)(hj:j<b.size)(h:κ b[j]<κ a[i]):∀y∈b.toList.take (j+1),κ y<κ a[i]:=λy hy=>by
 obtain ⟨m,hm,m1,rfl⟩:=Km hy
 by_cases c:m=j
 .subst c;exact h
 .have:=fY T.sb (show m<j by ext m1 c) hj
  rw [iN hm,iN hj] at this
  ext hm hi hj h this
theorem AD(hk:Ask prog w s kd κ C)(T:gy κ C a b){st:SortSt}(hd:kindOf st=kd){Q:Option Nat->SortSt->Prop}(hn:n<=a.size)(h0:0<n)(hj:j<b.size)
  (h:∀k,k<=n->(∀x∈(a.toList.take n).drop k,∀y∈b.toList.take (j+1),κ y<κ x)->(∀y∈a.toList.take k,κ y<κ b[j])->Q (some k) st):wpS (model prog w) A E s (a9v l b[j] a 0 n (n-1)) Q st:=by
 refine Dr hk hd (T.C7 hj) (by ext hn) (by ext h0) (λn hn _ _=>⟨T.C8 hn,T.wJ hn hj⟩) (λx y h1 h2=>fY T.sa (by ext h1) (by ext hn h2)) λk k1 k2 k3=>h k ‹_› (λx hx=>?_) λy hy=>?_
 .rw [I0] at hx
  obtain ⟨m,hm,m1,m2,rfl⟩:=KI hx
  have e:=k3 m ‹_› (by ext k1 m2)
  rw [tF,iN hm] at e
  exact JR T hm hj e
 .obtain ⟨m,hm,m1,rfl⟩:=Km hy
  have e:=k2 m ‹_›
  rw [tF,iN hm] at e
  exact e
theorem XJ(hk:Ask prog w s kd κ C)(T:gy κ C a b){st:SortSt}(hd:kindOf st=kd){Q:Array Keyed->SortSt->Prop}(ha:0<a.size)(hb:0<b.size)(h0:κ b[0]<κ a[0])(hm:∀x∈b.toList,κ x<κ a[a.size-1])
  (h:∀r g,Mg κ a b r->Q r (sg st g)):wpS (model prog w) A E s (b4b a b) Q st:=by
 unfold wpS
 wp_delta
 wp_delta
 wp_delta
 refine xD (Q:=Q) (aN (xn (aN (iD (show a.size-1<a.size by ext ha) ?_))))
 dsimp only
 have hz:H κ a b #[] a.size b.size:=⟨by rw [gS,gS,A7,A7];exact zK,by simp,by simp⟩
 have i0:H κ a b #[a[a.size-1]] (a.size-1) b.size:=hz.push T ha (by ext ha) λy hy=>hm y (tS hy)
 have hf:∀x∈b.toList.take 1,∀y∈a.toList,κ x<κ y:=λx hx y hy=>by
  obtain ⟨m,hm,m1,rfl⟩:=Km hx
  obtain rfl:m=0:=by ext m1
  exact E1 T ha hb h0 y (by rw [DV];exact hy)
 by_cases c1:a.size-1=0
 .rw [if_pos (by simpa using c1)]
  exact aX (h _ (gallopOf st) (i0.zl T (.inl c1)))
 rw [if_neg (by simpa using c1)]
 by_cases c2:b.size=1
 .rw [if_pos (by simpa using c2)]
  exact aX (h _ (gallopOf st) (i0.C4 T (by rw [c2];exact hf)))
 rw [if_neg (by simpa using c2)]
 refine aN (n0 ?_)
 refine aN (kR (kW (λx q aj=>(∃g,aj=sg st g)/\∃na nb out mg,q=(none,na,nb,out,mg)/\H κ a b out na nb/\1<=na/\2<=nb/\na+nb+x+1<=a.size+b.size) (Q:=λq aj=>(∃g,aj=sg st g)/\∃r,q.1=some r/\Mg κ a b r) (λx q aj _ hx hI=>?_) (λq aj hI=>?_) ⟨⟨gallopOf st,rfl⟩,_,_,_,_,rfl,i0,by ext ha c1,by ext hb c2,by ext ha⟩) λq aj hI=>?_)
 .obtain ⟨⟨g,rfl⟩,na,nb,out,mg,rfl,hJ,ga,gb,hp⟩:=hI
  dsimp only
  refine aN (kR (kW (λx q aj=>(∃g,aj=sg st g)/\∃mT mS f' ac bc,q=(none,mT,mS,f',ac,bc)/\H κ a b f' mT mS/\1<=mT/\2<=mS/\mT+mS+x<=na+nb) (Q:=λq aj=>(∃g,aj=sg st g)/\((∃r,q.1=some r/\Mg κ a b r)\/∃mT mS f' ac bc,q=(none,mT,mS,f',ac,bc)/\H κ a b f' mT mS/\1<=mT/\2<=mS/\mT+mS+1<=na+nb)) (λx q aj _ hx hI=>?_) (λq aj hI=>?_) ⟨⟨_,rfl⟩,_,_,_,_,_,rfl,hJ,ga,gb,by ext⟩) λq aj hI=>?_)
  .obtain ⟨⟨g,rfl⟩,na,nb,out,ac,bc,rfl,hJ,ga,gb,hp⟩:=hI
   dsimp only
   have la:=hJ.la
   have lb:=hJ.lb
   rw [gS] at la lb
   have xa:na-1<a.size:=by ext ga la
   have xb:nb-1<b.size:=by ext gb lb
   refine aN (iD xb (aN (iD xa (aN (zq hk hd (T.C7 xb) (T.C8 xa) (fH (T.wJ xa xb)) ?_)))))
   dsimp only
   by_cases c:κ b[nb-1]<κ a[na-1]
   .rw [if_pos (decide_eq_true c)]
    refine aN (iD xa ?_)
    have i2:=hJ.push T ‹_› xa (by have:=JR T xa xb c;rw [show nb-1+1=nb by ext gb] at this;exact this)
    by_cases d1:na-1=0
    .rw [if_pos (by simpa using d1)]
     exact aX ⟨⟨_,rfl⟩,.inl ⟨_,rfl,i2.zl T (.inl d1)⟩⟩
    rw [if_neg (by simpa using d1)]
    by_cases d2:ac+1≥mg
    .rw [if_pos d2]
     exact aX ⟨⟨_,rfl⟩,.inr ⟨_,_,_,_,_,rfl,i2,by ext d1,‹_›,by ext hp d1⟩⟩
    .rw [if_neg d2]
     exact aX ⟨⟨_,rfl⟩,_,_,_,_,_,rfl,i2,by ext d1,‹_›,by ext hp d1⟩
   .rw [if_neg (by simpa using c)]
    refine aN (iD xb ?_)
    have bI:=T.wJ xa xb
    have i2:=(hJ.sym.push T.sym (by ext gb) xb (by have:=JR T.sym xb xa (by ext xa xb c bI);rw [show na-1+1=na by ext ga] at this;exact this)).sym
    by_cases d1:nb-1=1
    .rw [if_pos (by simpa using d1)]
     exact aX ⟨⟨_,rfl⟩,.inl ⟨_,rfl,i2.C4 T (by rw [d1];exact hf)⟩⟩
    rw [if_neg (by simpa using d1)]
    by_cases d2:bc+1≥mg
    .rw [if_pos d2]
     exact aX ⟨⟨_,rfl⟩,.inr ⟨_,_,_,_,_,rfl,i2,‹_›,by ext gb d1,by ext gb hp⟩⟩
    .rw [if_neg d2]
     exact aX ⟨⟨_,rfl⟩,_,_,_,_,_,rfl,i2,‹_›,by ext gb d1,by ext gb hp⟩
  .obtain ⟨hg,na,nb,out,ac,bc,rfl,hJ,ga,gb,hp⟩:=hI
   exact ⟨hg,.inr ⟨_,_,_,_,_,rfl,hJ,ga,gb,by ext ha hb hp⟩⟩
  .obtain ⟨⟨g,rfl⟩,⟨r,e,hr⟩ | ⟨mT,mS,f',ac,bc,rfl,Ie,ZN,ZM,Hx⟩⟩:=hI
   .obtain ⟨q1,q2⟩:=q
    dsimp only at e
    rw [e]
    exact aX ⟨⟨_,rfl⟩,_,rfl,hr⟩
   dsimp only
   refine aN (xn ?_)
   refine aN (kR (kW (λx q aj=>(∃g,aj=sg st g)/\∃ja jb out mg ac bc,q=(none,ja,jb,out,mg,ac,bc)/\H κ a b out ja jb/\1<=ja/\2<=jb/\ja+jb<=mT+mS) (Q:=λq aj=>(∃g,aj=sg st g)/\((∃r,q.1=some r/\Mg κ a b r)\/∃ja jb out mg ac bc,q=(none,ja,jb,out,mg,ac,bc)/\H κ a b out ja jb/\1<=ja/\2<=jb/\ja+jb<=mT+mS)) (λx q aj _ hx hI=>?_) (λq aj hI=>?_) ⟨⟨_,rfl⟩,_,_,_,_,_,_,rfl,Ie,ZN,ZM,by ext⟩) λq aj hI=>?_)
   .obtain ⟨⟨g,rfl⟩,ja,jb,out,mg,ac,bc,rfl,hJ,ga,gb,hp⟩:=hI
    dsimp only
    have la:=hJ.la
    have lb:=hJ.lb
    rw [gS] at la lb
    have xb:jb-1<b.size:=by ext gb lb
    revert mg
    refine zH (λmg=>mg-1) (λ_=>rfl) λmg=>?_
    refine aN (EF (aN (iD xb (aN ?_))))
    refine AD hk T ?_ la ga xb λk k1 k2 k3=>?_
    .exact hd
    dsimp only
    have jj:jb-1+1=jb:=Nat.sub_add_cancel (Nat.le_of_succ_le gb)
    rw [jj] at k2
    have hR:H κ a b out ja jb/\(ja-k=0->1<=ja/\ja<=k)/\k<=ja/\(∀x∈(a.toList.take ja).drop k,∀y∈b.toList.take jb,κ y<κ x):=⟨hJ,λz=>⟨ga,OU z⟩,k1,k2⟩
    have Za:k<=a.size:=eQ k1 la
    have Y0:k+jb<=mT+mS:=eQ (JJ k1 jb) hp
    clear hJ k2 la ga hp k1
    generalize ja-k=cnt at hR ⊢
    revert out ja
    refine Ew (λn o=>H κ a b o n jb/\n=k/\1<=n) ?_ (λja out hR hF d0=>?_) λja out hR d0=>⟨hR.1,DJ (hR.2.1 (vq d0)).2 hR.2.2.1,(hR.2.1 (vq d0)).1⟩
    .rintro n o ⟨i1,rfl,hn⟩
     have xa:n-1<a.size:=jI (Nat.sub_lt hn Nat.one_pos) Za
     refine aN (iD xb ?_)
     have i2:=(i1.sym.push T.sym (Nat.lt_of_succ_le (Nat.le_of_succ_le gb)) xb k3).sym
     by_cases d3:jb-1=1
     .rw [if_pos (by simpa using d3)]
      exact aX ⟨⟨_,rfl⟩,.inl ⟨_,rfl,i2.C4 T (by rw [d3];exact hf)⟩⟩
     rw [if_neg (by simpa using d3)]
     have g2:2<=jb-1:=EM gb d3
     have g3:jb-1<=b.size:=w8 xb
     refine aN (iD xa (aN ?_))
     refine AD hk T.sym ?_ g3 (vD g2) xa λm m1 m2 m3=>?_
     .exact hd
     dsimp only
     rw [Nat.sub_add_cancel hn] at m2
     have hR:H κ a b (o.push b[jb-1]) n (jb-1)/\(jb-1-m=0->2<=jb-1/\jb-1<=m)/\m<=jb-1/\(∀x∈(b.toList.take (jb-1)).drop m,∀y∈a.toList.take n,κ y<κ x):=⟨i2,λz=>⟨g2,OU z⟩,m1,m2⟩
     have N1:n-1+m<=mT+mS:=eQ (Nat.add_le_add (Nat.sub_le n 1) (eQ m1 (Nat.sub_le jb 1))) Y0
     clear i2 g2 g3 m1 m2
     generalize jb-1-m=IG at hR ⊢
     generalize o.push b[jb-1]=o2 at hR ⊢
     generalize jb-1=j2 at hR ⊢
     revert o2 j2
     refine Ew (λp q=>H κ a b p n q/\q=m/\2<=q) ?_ (λo2 j2 hR hF d4=>?_) λout ja hR d0=>⟨hR.1,DJ (hR.2.1 (vq d0)).2 hR.2.2.1,(hR.2.1 (vq d0)).1⟩
     .rintro p q ⟨i3,rfl,hq⟩
      refine aN (iD xa ?_)
      have i4:=i3.push T hn xa m3
      by_cases d6:n-1=0
      .rw [if_pos (by simpa using d6)]
       exact aX ⟨⟨_,rfl⟩,.inl ⟨_,rfl,i4.zl T (.inl d6)⟩⟩
      rw [if_neg (by simpa using d6)]
      have h6:1<=n-1:=Nat.pos_of_ne_zero d6
      by_cases d7:(decide (cnt<7)&&decide (IG<7))=true
      .rw [if_pos d7]
       exact aX ⟨⟨_,rfl⟩,.inr ⟨_,_,_,_,_,_,rfl,i4,h6,hq,N1⟩⟩
      .rw [if_neg d7]
       exact aX ⟨⟨_,rfl⟩,_,_,_,_,_,_,rfl,i4,h6,hq,N1⟩
     .obtain ⟨i2,_,m1,m2⟩:=hR
      have i3:=(i2.sym.seg T.sym m1 m2).sym
      by_cases d5:m=1
      .rw [if_pos (by simpa using d5)]
       exact aX ⟨⟨_,rfl⟩,.inl ⟨_,rfl,i3.C4 T (by rw [d5];exact hf)⟩⟩
      rw [if_neg (by simpa using d5)]
      by_cases d8:m=0
      .rw [if_pos (by simpa using d8)]
       exact aX ⟨⟨_,rfl⟩,.inl ⟨_,rfl,i3.zl T (.inr d8)⟩⟩
      rw [if_neg (by simpa using d8)]
      exact hF _ _ ⟨i3,rfl,b7O d5 d8⟩
    .obtain ⟨hJ,_,k1,k2⟩:=hR
     have i1:=hJ.seg T k1 k2
     by_cases d1:k=0
     .rw [if_pos (by simpa using d1)]
      exact aX ⟨⟨_,rfl⟩,.inl ⟨_,rfl,i1.zl T (.inl d1)⟩⟩
     rw [if_neg (by simpa using d1)]
     exact hF _ _ ⟨i1,rfl,Nat.pos_of_ne_zero d1⟩
   .obtain ⟨hg,ja,jb,out,mg,ac,bc,rfl,hJ,ga,gb,hp⟩:=hI
    exact ⟨hg,.inr ⟨_,_,_,_,_,_,rfl,hJ,ga,gb,‹_›⟩⟩
   .obtain ⟨⟨g,rfl⟩,⟨r,e,hr⟩ | ⟨ja,jb,out,mg,ac,bc,rfl,hJ,ga,gb,hp⟩⟩:=hI
    .obtain ⟨q1,q2⟩:=q
     dsimp only at e
     rw [e]
     exact aX ⟨⟨_,rfl⟩,_,rfl,hr⟩
    .dsimp only
     exact aN (EF (aX ⟨⟨_,rfl⟩,_,_,_,_,rfl,hJ,ga,gb,by lia⟩))
 .obtain ⟨_,na,nb,out,mg,rfl,hJ,ga,gb,hp⟩:=hI
  ext _ hp
 .obtain ⟨⟨g,rfl⟩,r,e,hr⟩:=hI
  rw [e]
  exact aX (h _ _ hr)
end
section
variable {prog:Program}{w:World}{A:Around}{E:Value->Shared->Prop}{s:Shared}{kd:SortKind}{κ:Keyed->Int}{C:Keyed->Prop}
theorem b5S{σ:Type}{M:Model}{Q:PUnit->σ->Prop}{st aj:σ}(h:Q ⟨⟩ aj):wpS M A E s (set aj:StateT σ Sem PUnit) Q st:=by
 unfold wpS
 rw [StateT.run_set]
 exact aU ⟨rfl,h⟩
theorem Ra(e:arr.toList=P++R++S)(h:i<R.length):kv κ arr (P.length+i)=κ R[i]:=by
 unfold kv
 have:arr[P.length+i]?=some R[i]:=by
  rw [<-tM,e,fJ,rR (by ext),vH (by ext h)]
  simp [h]
 rw [this]
def uo(κ:Keyed->Int)(l:List Keyed):Prop:=(l.map κ).Nodup
theorem uo.ne{arr:Array Keyed}(h:uo κ arr.toList){i j:Nat}(hi:i<arr.size)(hj:j<arr.size)(cC:i≠j):κ arr[i]≠κ arr[j]:=λz=>by
 refine cC ((List.getElem_inj (h₀:=by simpa using hi) (h₁:=by simpa using hj) h).mp ?_)
 simpa using z
theorem uo.app(h:uo κ (l++m)):∀x∈l,∀y∈m,κ x≠κ y:=λx hx y hy z=>by
 unfold uo at h
 rw [eR,Jo] at h
 exact h.2.2 _ (cF.mpr ⟨x,hx,rfl⟩) _ (cF.mpr ⟨y,hy,rfl⟩) z
theorem EW{R:List Keyed}(h:eW κ R){i j:Nat}(cC:i<j)(hj:j<R.length):κ (R[i]'(by ext cC hj))<κ R[j]:=xg.mp h i j (by ext cC hj) hj cC
theorem XM(hk:Ask prog w s kd κ C){st:SortSt}(hd:kindOf st=kd)(hf:failedOf st=none){Q:Bool->SortSt->Prop}(e:(arrOf st).toList=P++R1++R2++S)(hC:∀x∈(arrOf st).toList,C x)(hD:uo κ (arrOf st).toList)
  (s1:eW κ R1)(s2:eW κ R2)(n1:R1≠[])(n2:R2≠[])(e1:(pendingOf st)[i]?=some (P.length,R1.length,pw))(e2:(pendingOf st)[i+1]?=some (P.length+R1.length,R2.length,p2))
  (h:∀aj R,kindOf aj=kd->failedOf aj=none->(arrOf aj).toList=P++R++S->eW κ R->R.Perm (R1++R2)->pendingOf aj=((pendingOf st).setIfInBounds i (P.length,R1.length+R2.length,pw)).eraseIdxIfInBounds (i+1)->Q true aj):wpS (model prog w) A E s (mergeAt' i) Q st:=by
 have l1:=qz.mpr n1
 have l2:=qz.mpr n2
 have hz:(arrOf st).size=P.length+R1.length+R2.length+S.length:=by rw [<-gS,e];simp only [cX]
 have eA:(arrOf st).toList=P++R1++(R2++S):=by rw [e,fJ]
 have eB:(arrOf st).toList=(P++R1)++R2++S:=e
 have lB:(P++R1).length=P.length+R1.length:=cX ..
 have kA:∀j (hj:j<R1.length),kv κ (arrOf st) (P.length+j)=κ R1[j]:=λj hj=>Ra eA hj
 have kB:∀j (hj:j<R2.length),kv κ (arrOf st) (P.length+R1.length+j)=κ R2[j]:=λj hj=>by rw [<-lB];exact Ra eB hj
 have b0:P.length+R1.length<(arrOf st).size:=by ext l2 hz:1
 have NM:κ (arrOf st)[P.length+R1.length]=κ R2[0]:=by rw [<-iN (κ:=κ) b0,<-kB 0 l2];rfl
 have aL:P.length+R1.length-1<(arrOf st).size:=by ext b0:1
 have NN:κ (arrOf st)[P.length+R1.length-1]=κ R1[R1.length-1]:=by rw [<-iN (κ:=κ) aL,<-kA _ (by ext l1:1)];congr 1;ext l1:1
 have Dq:∀j (hj:j<(arrOf st).size),C (arrOf st)[j]:=λj hj=>hC _ (by simp)
 have z1:P.length+R1.length<=(arrOf st).size:=by ext b0:1
 have z2:P.length+R1.length+R2.length<=(arrOf st).size:=by ext hz:1
 have plain:(∀x∈R1,∀y∈R2,κ x<κ y)->eW κ (R1++R2):=λz=>gU.mpr ⟨s1,s2,z⟩
 unfold wpS
 wp_delta
 wp_delta
 wp_delta
 refine xD (Q:=Q) (aN (n0 ?_))
 rw [e1,e2]
 dsimp only
 refine aN (b5S (aN (iD b0 (aN ?_))))
 refine Dr hk ?_ (Dq _ b0) z1 l1 (λj hj h1 h2=>⟨Dq j hj,hD.ne hj b0 (by ext h2:1)⟩) (λx y hx hy=>by rw [kA _ (by ext hx hy:1),kA _ hy];exact EW s1 hx hy) λk k1 k2 k3=>?_
 .exact hd
 dsimp only
 have c2:∀x∈R1.take k,∀y∈R2,κ x<κ y:=λx hx y hy=>by
  obtain ⟨j,hj,rfl⟩:=pV.mp hx
  obtain ⟨m,hm,rfl⟩:=pV.mp hy
  rw [jr] at hj
  have:=k2 j (by ext hj:1)
  rw [kA j (by ext hj:1),NM] at this
  rw [Ec]
  by_cases c:m=0
  .subst c;exact this
  .have:=EW s2 (show 0<m by ext c:1) hm
   lia
 by_cases d1:R1.length-k=0
 .rw [if_pos (by simpa using d1)]
  refine aX (h _ (R1++R2) hd hf (by show (arrOf st).toList=_;rw [e];simp) (plain ?_) (DX _) rfl)
  rw [vt (by ext d1:1)] at c2
  exact c2
 rw [if_neg (by simpa using d1)]
 have ek:P.length+k+(R1.length-k)-1=P.length+R1.length-1:=by ext k1:1
 rw [ek]
 refine aN (iD aL (aN ?_))
 refine Dr hk ?_ (Dq _ aL) z2 (by ext l2:1) (λj hj h1 h2=>⟨Dq j hj,hD.ne hj aL (by ext l1 h1:1)⟩) (λx y hx hy=>by rw [kB _ (by ext hx hy:1),kB _ hy];exact EW s2 hx hy) λm m1 m2 m3=>?_
 .exact hd
 dsimp only
 have c3:∀x∈R2.drop m,∀y∈R1,κ y<κ x:=λx hx y hy=>by
  obtain ⟨j,hj,rfl⟩:=pV.mp hx
  obtain ⟨n,hn,rfl⟩:=pV.mp hy
  rw [og] at hj
  have:=m3 (m+j) (by ext:1) (by ext hj:1)
  rw [kB _ (by ext hj:1),NN] at this
  rw [List.getElem_drop]
  by_cases c:n=R1.length-1
  .subst c;exact this
  .have:=EW s1 (show n<R1.length-1 by ext hn c:1) (by ext l1:1)
   lia
 by_cases d2:m=0
 .rw [if_pos (by simpa using d2)]
  refine aX (h _ (R1++R2) hd hf (by show (arrOf st).toList=_;rw [e];simp) (plain λx hx y hy=>c3 y (by rw [d2];exact hy) x hx) (DX _) rfl)
 rw [if_neg (by simpa using d2)]
 have eX:((arrOf st).extract (P.length+k) (P.length+R1.length)).toList=R1.drop k:=by
  rw [Lm,eA,Pr (by simp),<-lB,List.take_length,List.drop_append,rT (by ext:1),IP]
  congr 1
  ext:1
 have eY:((arrOf st).extract (P.length+R1.length) (P.length+R1.length+m)).toList=R2.take m:=by
  rw [Rz,eB,fJ,<-lB,List.drop_append,List.drop_length,IP,A7,DV,Pr m1]
 have zX:((arrOf st).extract (P.length+k) (P.length+R1.length)).size=R1.length-k:=by rw [<-gS,eX,og]
 have zY:((arrOf st).extract (P.length+R1.length) (P.length+R1.length+m)).size=m:=by rw [<-gS,eY,jr];ext m1:1
 have ZF:∀x∈R1,C x:=λx hx=>hC x (by rw [e];simp [hx])
 have ZE:∀x∈R2,C x:=λx hx=>hC x (by rw [e];simp [hx])
 have bI:∀x∈R1,∀y∈R2,κ x≠κ y:=λx hx y hy=>by
  rw [eA] at hD
  exact hD.app x (by simp [hx]) y (by simp [hy])
 have T:gy κ C ((arrOf st).extract (P.length+k) (P.length+R1.length)) ((arrOf st).extract (P.length+R1.length) (P.length+R1.length+m)):=by
  refine ⟨?_,?_,?_,?_,?_⟩
  .rw [eX];exact xM s1 k
  .rw [eY];exact Lc s2 m
  .rw [eX];exact λx hx=>ZF x (tR hx)
  .rw [eY];exact λx hx=>ZE x (tS hx)
  .rw [eX,eY];exact λx hx y hy=>bI x (tR hx) y (tS hy)
 have gX:∀j (hj:j<((arrOf st).extract (P.length+k) (P.length+R1.length)).size),κ ((arrOf st).extract (P.length+k) (P.length+R1.length))[j]=κ (R1[k+j]'(by ext zX hj:1)):=λj hj=>by
  rw [<-ON]
  simp only [eX,List.getElem_drop]
 have gY:∀j (hj:j<((arrOf st).extract (P.length+R1.length) (P.length+R1.length+m)).size),κ ((arrOf st).extract (P.length+R1.length) (P.length+R1.length+m))[j]=κ (R2[j]'(by ext m1 zY hj:1)):=λj hj=>by
  rw [<-ON]
  simp only [eY,Ec]
 have pX:0<((arrOf st).extract (P.length+k) (P.length+R1.length)).size:=by ext d1 zX:1
 have pY:0<((arrOf st).extract (P.length+R1.length) (P.length+R1.length+m)).size:=by ext d2 zY:1
 have h0:κ ((arrOf st).extract (P.length+R1.length) (P.length+R1.length+m))[0]<κ ((arrOf st).extract (P.length+k) (P.length+R1.length))[0]:=by
  rw [gX 0 pX,gY 0 pY]
  have:=k3 k (bo _) (by ext zX pX:1)
  rw [kA k (by ext zX pX:1),NM] at this
  exact this
 have mX:∀x∈((arrOf st).extract (P.length+R1.length) (P.length+R1.length+m)).toList,κ x<κ R1[R1.length-1]:=λx hx=>by
  rw [eY] at hx
  obtain ⟨j,hj,rfl⟩:=pV.mp hx
  rw [jr] at hj
  have:=m2 j (by ext m1 zY hj:1)
  rw [kB j (by ext m1 zY hj:1),NN] at this
  rw [Ec]
  exact this
 have rest:∀(r:Array Keyed) (g:Nat),Mg κ ((arrOf st).extract (P.length+k) (P.length+R1.length)) ((arrOf st).extract (P.length+R1.length) (P.length+R1.length+m)) r->Q true (AZ (kindOf st) (r.toList.zipIdx.foldl (λa x=>match x with | (p,j)=>a.setIfInBounds (P.length+k+j) p) (arrOf st)) (((pendingOf st).setIfInBounds i (P.length,R1.length+R2.length,pw)).eraseIdxIfInBounds (i+1)) g (failedOf st)):=λr g hM=>by
  unfold Mg at hM
  rw [eX,eY] at hM
  obtain ⟨q1,q2⟩:=b17 s1 s2 c2 c3 hM.1 hM.2
  refine h _ (R1.take k++r.toList++R2.drop m) hd hf ?_ q1 q2 rfl
  have hl:r.toList.length=(R1.drop k++R2.take m).length:=hM.2.length_eq
  have eP:(arrOf st).toList=(P++R1.take k)++(R1.drop k++R2.take m)++(R2.drop m++S):=by
   rw [e]
   have x1:R1=R1.take k++R1.drop k:=(n8 ..).symm
   have x2:R2=R2.take m++R2.drop m:=(n8 ..).symm
   generalize R1.take k=u at *
   generalize R1.drop k=u2 at *
   generalize R2.take m=v at *
   generalize R2.drop m=v2 at *
   rw [x1,x2]
   simp only [fJ]
  have lP:(P++R1.take k).length=P.length+k:=by rw [cX,jr];ext hz lB k1:1
  have:=b0s eP hl
  rw [lP] at this
  show (r.toList.zipIdx.foldl (λa x=>a.setIfInBounds (P.length+k+x.2) x.1) (arrOf st)).toList=_
  rw [this]
  simp only [fJ]
 by_cases d3:R1.length-k<=m
 .rw [if_pos d3]
  refine aN ?_
  refine XI hk T ?_ pX pY h0 (λx hx y hy=>?_) λr g hM=>?_
  .exact hd
  .rw [eX,zX,List.drop_drop,show k+(R1.length-k-1)=R1.length-1 by ext l1 hz lB zX pX:1,ni (by ext l1 hz lB:1),show R1.length-1+1=R1.length by ext l1 hz lB:1,List.drop_length,bY] at hy
   rw [hy]
   exact mX x hx
  .refine aN (qx (aN (n0 (aX ?_))))
   have:=rest r g hM
   show Q (failedOf st).isNone _
   rw [hf]
   exact this
 .rw [if_neg d3]
  refine aN ?_
  refine XJ hk T ?_ pX pY h0 (λx hx=>?_) λr g hM=>?_
  .exact hd
  .rw [gX _ (by ext zX pX:1)]
   have:=mX x hx
   simp only [zX,show k+(R1.length-k-1)=R1.length-1 by ext l1 hz lB zX pX:1]
   exact this
  .refine aN (qx (aN (n0 (aX ?_))))
   have:=rest r g hM
   show Q (failedOf st).isNone _
   rw [hf]
   exact this
end
section
variable {prog:Program}{w:World}{A:Around}{E:Value->Shared->Prop}{s:Shared}{kd:SortKind}{κ:Keyed->Int}{C:Keyed->Prop}
structure Bs(κ:Keyed->Int)(C:Keyed->Prop)(kd:SortKind)(st:SortSt)(lo:Nat)(aj:SortSt):Prop where
 perm:(arrOf aj).Perm (arrOf st)
 ahead:∀k,k<lo->(arrOf aj)[k]?=(arrOf st)[k]?
 rest:aj=setArr st (arrOf aj)
theorem Bs.refl{st:SortSt}{lo:Nat}:Bs κ C kd st lo st:=⟨tJ _,λ_ _=>rfl,rfl⟩
theorem Bs.put{st aj:SortSt}{lo:Nat}(h:Bs κ C kd st lo aj){xs:Array Keyed}(hp:xs.Perm (arrOf aj))(ha:∀k,k<lo->xs[k]?=(arrOf aj)[k]?):Bs κ C kd st lo (setArr aj xs):=
 ⟨hp.trans h.perm,λk hk=>(ha k hk).trans (h.ahead k hk),by rw [h.rest]⟩
structure Al(κ:Keyed->Int)(C:Keyed->Prop)(kd:SortKind)(st:SortSt):Prop where
 kind:kindOf st=kd
 all:∀x∈(arrOf st).toList,C x
 dst:uo κ (arrOf st).toList
theorem Al.of{st aj:SortSt}(h:Al κ C kd st)(hp:(arrOf aj).Perm (arrOf st))(hk:kindOf aj=kd):Al κ C kd aj:=
 have p:=xm.mp hp
 ⟨hk,λx hx=>h.all x (p.mem_iff.mp hx),(p.map κ).nodup_iff.mpr h.dst⟩
theorem Al.bs{st aj:SortSt}{lo:Nat}(h:Al κ C kd st)(b:Bs κ C kd st lo aj):Al κ C kd aj:=h.of b.perm (by rw [b.rest];exact h.kind)
theorem Al.ne{st:SortSt}(h:Al κ C kd st)(hi:i<(arrOf st).size)(hj:j<(arrOf st).size)(cC:i≠j):kv κ (arrOf st) i≠kv κ (arrOf st) j:=by
 rw [iN hi,iN hj]
 exact h.dst.ne hi hj cC
theorem Bw(hk:Ask prog w s kd κ C){st:SortSt}(hA:Al κ C kd st){Q:Option Bool->SortSt->Prop}(hi:i<(arrOf st).size)(hj:j<(arrOf st).size)(cC:i≠j)(h:Q (some (decide (kv κ (arrOf st) i<kv κ (arrOf st) j))) st):wpS (model prog w) A E s (ltAt' i j) Q st:=by
 rw [ltAt'_eq]
 refine aN (n0 ?_)
 show wpS _ _ _ _ (do let p <-elem' (arrOf st) i;let q <-elem' (arrOf st) j;lt' p q) Q st
 refine aN (iD hi (aN (iD hj ?_)))
 rw [iN hi,iN hj] at h
 exact zq hk hA.kind (hA.all _ (by simp)) (hA.all _ (by simp)) (hA.dst.ne hi hj cC) h
def Up(κ:Keyed->Int)(xs:Array Keyed)(lo k:Nat):Prop:=∀i j,i<j->j<k->kv κ xs (lo+i)<kv κ xs (lo+j)
def Dn(κ:Keyed->Int)(xs:Array Keyed)(lo k:Nat):Prop:=∀i j,i<j->j<k->kv κ xs (lo+j)<kv κ xs (lo+i)
theorem Up.next{lo x:Nat}(h:Up κ xs lo x)(hx:1<=x)(hl:kv κ xs (lo+(x-1))<kv κ xs (lo+x)):Up κ xs lo (x+1):=λi j cC hj=>by
 by_cases c:j<x
 .exact h i j cC c
 .obtain rfl:j=x:=by ext hj c
  by_cases d:i=j-1
  .subst d;exact hl
  .have:=h i (j-1) (by ext cC d) (by ext hx);ext hl this
theorem Dn.next{lo x:Nat}(h:Dn κ xs lo x)(hx:1<=x)(hl:kv κ xs (lo+x)<kv κ xs (lo+(x-1))):Dn κ xs lo (x+1):=λi j cC hj=>by
 by_cases c:j<x
 .exact h i j cC c
 .obtain rfl:j=x:=by ext hj c
  by_cases d:i=j-1
  .subst d;exact hl
  .have:=h i (j-1) (by ext cC d) (by ext hx);ext hl this
theorem BE(hk:Ask prog w s kd κ C){st:SortSt}(hA:Al κ C kd st){lo a nrem:Nat}{Q:Option (Option Nat)×Nat->SortSt->Prop}(hn:lo+nrem<=(arrOf st).size)(ha:1<=a)(Of:a<=nrem)(hu:Up κ (arrOf st) lo a)
  (h:∀n,a<=n->n<=nrem->Up κ (arrOf st) lo n->(n=nrem\/n<nrem/\kv κ (arrOf st) (lo+n)<kv κ (arrOf st) (lo+(n-1)))->Q (none,n) st):
  wpS (model prog w) A E s (forIn [a:nrem] ((none,a):Option (Option Nat)×Nat) λ_ q=>ltAt' (lo+q.2) (lo+q.2-1) >>= λr=>match r with
   | some b=>if b=true then pure (DW (none,q.2)) else pure (qy (none,q.2+1))
   | x=>pure (DW (some none,q.2))) Q st:=by
 refine kW (λx c aj=>aj=st/\c=(none,x)/\Up κ (arrOf st) lo x) (λx c aj h1 h2 hI=>?_) (λc aj hI=>?_) ⟨rfl,rfl,hu⟩
 .obtain ⟨rfl,rfl,iw⟩:=hI
  dsimp only
  rw [show lo+x-1=lo+(x-1) by ext ha h1]
  refine aN (Bw hk hA (by ext h2 hn) (by ext h2 hn) (by ext ha h1) ?_)
  dsimp only
  by_cases c:kv κ (arrOf aj) (lo+x)<kv κ (arrOf aj) (lo+(x-1))
  .rw [if_pos (decide_eq_true c)]
   exact aX (h x h1 (by ext h2) iw (.inr ⟨h2,c⟩))
  .rw [if_neg (by simpa using c)]
   have:=hA.ne (i:=lo+x) (j:=lo+(x-1)) (by ext h2 hn) (by ext h2 hn) (by ext ha h1)
   exact aX ⟨rfl,rfl,iw.next (by ext ha h1) (by ext c this)⟩
 .obtain ⟨rfl,rfl,iw⟩:=hI
  rw [show max a nrem=nrem by ext Of] at iw ⊢
  exact h nrem Of (bo _) iw (.inl rfl)
theorem Qy{xs:Array Keyed}{lo n:Nat}(hn:lo+n<=xs.size)(k:Nat):kv κ (mirror xs lo (lo+n) ((lo+n-lo)/2)) (lo+k)=if k<n then kv κ xs (lo+(n-1-k)) else kv κ xs (lo+k):=by
 have e:=Jg (i:=lo) hn (lo+k)
 by_cases h:k<n
 .rw [if_pos (by ext h),show lo+(lo+n)-1-(lo+k)=lo+(n-1-k) by ext h] at e
  rw [if_pos h];exact BA e
 .rw [if_neg (by ext h)] at e
  rw [if_neg h];exact BA e
theorem IF(hk:Ask prog w s kd κ C){st:SortSt}(hA:Al κ C kd st){lo nrem:Nat}{Q:Option Nat->SortSt->Prop}(hn:lo+nrem<=(arrOf st).size)(h1:1<=nrem)
  (h:∀m aj,Bs κ C kd st lo aj->1<=m->m<=nrem->Up κ (arrOf aj) lo m->Q (some m) aj):wpS (model prog w) A E s (countRun' lo nrem) Q st:=by
 unfold wpS
 wp_delta
 wp_delta
 wp_delta
 refine xD (Q:=Q) (aN ?_)
 refine BE hk hA hn (bo 1) h1 (λi j _ _=>by lia) λn n1 n2 hu Hy=>?_
 dsimp only
 by_cases c1:n=nrem
 .rw [if_pos (by simpa using c1)]
  exact aX (h n st Bs.refl n1 n2 hu)
 rw [if_neg (by simpa using c1)]
 have aT:kv κ (arrOf st) (lo+n)<kv κ (arrOf st) (lo+(n-1)):=by ext Hy c1
 by_cases c2:n>1
 .rw [if_pos c2,show lo+n-1=lo+(n-1) by ext c2]
  refine aN (Bw hk hA (by ext hn h1) (by ext hn n2 c2) (by ext c2) ?_)
  dsimp only
  have h0:=hu 0 (n-1) (by ext c2) (by ext c2)
  rw [Nat.add_zero] at h0
  rw [if_pos (decide_eq_true h0)]
  exact aX (h n st Bs.refl n1 n2 hu)
 rw [if_neg c2]
 obtain rfl:n=1:=by ext n1 c2
 refine aN (xn ?_)
 refine aN (kR (kW (λx c aj=>aj=st/\c=(none,x,0)/\Dn κ (arrOf st) lo x) (Q:=λc aj=>aj=st/\∃x,c=(none,x,0)/\2<=x/\x<=nrem/\Dn κ (arrOf st) lo x) (λx c aj g1 g2 hI=>?_) (λc aj hI=>?_) ⟨rfl,rfl,λi j cC hj=>?_⟩) λc aj hI=>?_)
 .obtain ⟨rfl,rfl,hs⟩:=hI
  dsimp only
  rw [show lo+x-1=lo+(x-1) by ext g1]
  have bI:=hA.ne (i:=lo+x) (j:=lo+(x-1)) (by ext g2 hn) (by ext g2 hn) (by ext g1)
  refine aN (Bw hk hA (by ext g2 hn) (by ext g2 hn) (by ext g1) ?_)
  dsimp only
  by_cases c:kv κ (arrOf aj) (lo+x)<kv κ (arrOf aj) (lo+(x-1))
  .rw [if_pos (decide_eq_true c),if_neg (by decide)]
   exact aX ⟨rfl,rfl,hs.next (by ext g1) c⟩
  .rw [if_neg (by simpa using c)]
   refine aN (Bw hk hA (by ext g2 hn) (by ext g2 hn) (by ext g1) ?_)
   dsimp only
   rw [if_pos (decide_eq_true (by ext bI c))]
   exact aX ⟨rfl,x,rfl,‹_›,by ext g2,hs⟩
 .obtain ⟨rfl,rfl,hs⟩:=hI
  rw [show max (1+1) nrem=nrem by ext c1 Hy] at hs ⊢
  exact ⟨rfl,nrem,rfl,by ext c1 Hy,by ext,hs⟩
 .obtain ⟨rfl,rfl⟩:i=0/\j=1:=by ext cC hj
  exact aT
 .obtain ⟨rfl,x,rfl,x1,x2,hs⟩:=hI
  dsimp only
  rw [if_neg (by decide)]
  refine aN (wpS_reverse ?_)
  have hb:Bs κ C kd aj lo (setArr aj (mirror (arrOf aj) lo (lo+x) ((lo+x-lo)/2))):=Bs.refl.put (rJ _ _ _ _) λk hk=>by
   have e:=Jg (xs:=arrOf aj) (i:=lo) (j:=lo+x) (by ext hn x2) k
   rw [if_neg (by ext hk)] at e
   exact e
  refine aN ?_
  refine BE hk (hA.bs hb) ?_ (by ext x1) x2 (λi j cC hj=>?_) λm m1 m2 hm _=>aX (h m _ hb (by ext x1 m1) m2 hm)
  .show lo+nrem<=(mirror (arrOf aj) lo (lo+x) ((lo+x-lo)/2)).size
   rw [Dx]
   exact hn
  .show kv κ (mirror (arrOf aj) lo (lo+x) ((lo+x-lo)/2)) (lo+i)<kv κ (mirror (arrOf aj) lo (lo+x) ((lo+x-lo)/2)) (lo+j)
   rw [Qy (by ext hn x2),Qy (by ext hn x2),if_pos (by ext cC hj),if_pos hj]
   exact hs _ _ (by ext cC hj) (by ext hj)
theorem JM(hk:Ask prog w s kd κ C){st:SortSt}(hA:Al κ C kd st){lo n ok:Nat}{Q:Bool->SortSt->Prop}(hn:lo+n<=(arrOf st).size)(bh:1<=ok)(Y3:ok<=n)(hs:Up κ (arrOf st) lo ok)
  (h:∀aj,Bs κ C kd st lo aj->Up κ (arrOf aj) lo n->Q true aj):wpS (model prog w) A E s (binarySort' lo n ok) Q st:=by
 rw [binarySort'_eq]
 refine aN (kR (kW (λk c aj=>c=(none,())/\Bs κ C kd st lo aj/\Up κ (arrOf aj) lo k) (Q:=λc aj=>c=(none,())/\Bs κ C kd st lo aj/\Up κ (arrOf aj) lo n) (λk c aj g1 g2 hI=>?_) (λc aj hI=>?_) ⟨rfl,Bs.refl,?_⟩) λc aj hI=>?_)
 .obtain ⟨rfl,u9,nU⟩:=hI
  have Oo:=hA.bs u9
  have hsz:(arrOf aj).size=(arrOf st).size:=u9.perm.size_eq
  refine aN (kR (kW (λx c gC=>gC=aj/\∃l r,c=(none,l,r)/\l<=r/\r<=k/\r-l<=k-x/\(∀i,i<l->kv κ (arrOf aj) (lo+i)<kv κ (arrOf aj) (lo+k))/\∀i,r<=i->i<k->kv κ (arrOf aj) (lo+k)<kv κ (arrOf aj) (lo+i))
   (Q:=λc gC=>gC=aj/\∃l r,c=(none,l,r)/\l<=k/\(∀i,i<l->kv κ (arrOf aj) (lo+i)<kv κ (arrOf aj) (lo+k))/\∀i,l<=i->i<k->kv κ (arrOf aj) (lo+k)<kv κ (arrOf aj) (lo+i)) (λx c gC f1 f2 hJ=>?_) (λc gC hJ=>?_) ⟨rfl,0,k,rfl,by ext,by ext,by ext,λi z=>by contradiction,λi z1 z2=>by ext z1 z2⟩) λc gC hJ=>?_)
  .obtain ⟨rfl,l,r,rfl,j1,j2,j3,j4,j5⟩:=hJ
   dsimp only
   by_cases oO:l≥r
   .rw [if_pos oO]
    obtain rfl:l=r:=by ext j1 oO
    exact aX ⟨rfl,l,l,rfl,j2,j4,j5⟩
   .rw [if_neg oO]
    refine aN (Bw hk Oo (by ext hn g2 hsz) (by lia) (by lia) ?_)
    dsimp only
    have bI:=Oo.ne (i:=lo+k) (j:=lo+(l+r)/2) (by ext hn g2 hsz) (by lia) (by lia)
    by_cases hl:kv κ (arrOf gC) (lo+k)<kv κ (arrOf gC) (lo+(l+r)/2)
    .rw [if_pos (decide_eq_true hl)]
     refine aX ⟨rfl,l,(l+r)/2,rfl,by lia,by lia,by lia,j4,λi z1 z2=>?_⟩
     by_cases hi:i=(l+r)/2
     .subst hi;exact hl
     .have:=nU ((l+r)/2) i (by ext z1 hi) z2;ext hl this
    .rw [if_neg (by simpa using hl)]
     refine aX ⟨rfl,(l+r)/2+1,r,rfl,by lia,‹_›,by lia,λi z1=>?_,j5⟩
     by_cases hi:i=(l+r)/2
     .subst hi;ext bI hl
     .have:=nU i ((l+r)/2) (by ext z1 hi) (by lia);ext hl this
  .obtain ⟨rfl,l,r,rfl,j1,j2,j3,j4,j5⟩:=hJ
   obtain rfl:l=r:=by ext j1 j3
   exact ⟨rfl,l,l,rfl,j2,j4,j5⟩
  .obtain ⟨rfl,l,r,rfl,j2,j4,j5⟩:=hJ
   show wpS _ _ _ _ (do moveDown' (lo+k) (lo+l);pure (qy (none,()))) _ _
   rw [moveDown'_eq]
   have Y':lo+k<(arrOf gC).size:=by ext hn g2 hsz
   have Dp:=getElem?_bubble Y' (lo+k-(lo+l)) (by ext)
   refine aN (qx (aX ⟨rfl,u9.put (bubble_perm _ _ _) λq hq=>?_,λi j cC hj=>?_⟩))
   .have e:=Dp q
    rw [if_neg (by ext hq),if_neg (by ext hq)] at e
    exact e
   have kb:∀m,kv κ (bubble (arrOf gC) (lo+k) (lo+k-(lo+l))) (lo+m)=if m=l then kv κ (arrOf gC) (lo+k) else if l<m/\m<=k then kv κ (arrOf gC) (lo+(m-1)) else kv κ (arrOf gC) (lo+m):=λm=>by
    have e:=Dp (lo+m)
    by_cases c1:m=l
    .rw [if_pos (by ext j2 c1)] at e;rw [if_pos c1];exact BA e
    .rw [if_neg (by ext j2 c1)] at e;rw [if_neg c1]
     by_cases c2:l<m/\m<=k
     .rw [if_pos (by ext c2),show lo+m-1=lo+(m-1) by ext c2] at e;rw [if_pos c2];exact BA e
     .rw [if_neg (by ext c2)] at e;rw [if_neg c2];exact BA e
   show kv κ (bubble (arrOf gC) (lo+k) (lo+k-(lo+l))) (lo+i)<kv κ (bubble (arrOf gC) (lo+k) (lo+k-(lo+l))) (lo+j)
   rw [kb,kb]
   repeat' split
   all_goals first
    | (exfalso;lia)
    | exact j4 _ (by lia)
    | exact j5 _ (by lia) (by ext cC hj)
    | exact nU _ _ (by lia) (by lia)
 .obtain ⟨hc,u9,nU⟩:=hI
  rw [show max (max ok 1) n=n by ext bh Y3] at nU
  exact ⟨hc,u9,nU⟩
 .rw [show max ok 1=ok by ext bh];exact hs
 .obtain ⟨rfl,u9,nU⟩:=hI
  exact aX (h aj u9 nU)
end
section
variable {prog:Program}{w:World}{A:Around}{E:Value->Shared->Prop}{s:Shared}{kd:SortKind}{κ:Keyed->Int}{C:Keyed->Prop}
structure St(κ:Keyed->Int)(C:Keyed->Prop)(kd:SortKind)(a₀:Array Keyed)(st:SortSt)(Rs:List (List Keyed)):Prop where
 perm:(arrOf st).Perm a₀
 kind:kindOf st=kd
 failed:failedOf st=none
 pre:(arrOf st).toList.take Rs.flatten.length=Rs.flatten
 le:Rs.flatten.length<=a₀.size
 sN:ly 0 Rs (pendingOf st).toList
 run:∀R∈Rs,R≠[]/\eW κ R
variable {a₀:Array Keyed}
structure Kn(κ:Keyed->Int)(C:Keyed->Prop)(a₀:Array Keyed):Prop where
 all:∀x∈a₀.toList,C x
 dst:uo κ a₀.toList
theorem St.al{st:SortSt}(h:St κ C kd a₀ st Rs)(k:Kn κ C a₀):Al κ C kd st:=
 have p:=xm.mp h.perm
 ⟨h.kind,λx hx=>k.all x (p.mem_iff.mp hx),(p.map κ).nodup_iff.mpr k.dst⟩
theorem St.cnt{st:SortSt}(h:St κ C kd a₀ st Rs):(pendingOf st).size=Rs.length:=by rw [<-gS];exact h.sN.len
theorem EG(hk:Ask prog w s kd κ C)(k:Kn κ C a₀){st:SortSt}(h:St κ C kd a₀ st (Xs++R1::R2::Ys))(hi:i=Xs.length){Q:Bool->SortSt->Prop}
  (hQ:∀aj R,St κ C kd a₀ aj (Xs++R::Ys)->(Xs++R::Ys).flatten.length=(Xs++R1::R2::Ys).flatten.length->(arrOf aj).toList.drop (Xs++R1::R2::Ys).flatten.length=(arrOf st).toList.drop (Xs++R1::R2::Ys).flatten.length->Q true aj):wpS (model prog w) A E s (mergeAt' i) Q st:=by
 have hz:(arrOf st).size=a₀.size:=h.perm.size_eq
 have eF:(Xs++R1::R2::Ys).flatten=Xs.flatten++R1++R2++Ys.flatten:=by simp
 have al:=h.al k
 have r1:=h.run R1 (by simp)
 have r2:=h.run R2 (by simp)
 obtain ⟨q1,q2⟩:=h.sN.split
 rw [tF] at q2
 have uT:=h.sN.len
 generalize hp:(pendingOf st).toList=ps at *
 obtain ⟨u,v,pv,e3⟩:∃u v pv,ps.drop Xs.length=u::v::pv:=by
  match hd:ps.drop Xs.length,q2 with
  | u::v::pv,_=>exact ⟨u,v,pv,rfl⟩
 rw [e3] at q2
 obtain ⟨u1,u2,v1,v2,q3⟩:=q2
 have IA:ps=ps.take Xs.length++u::v::pv:=by rw [<-e3,n8]
 have lt:(ps.take Xs.length).length=Xs.length:=by rw [jr,uT,cX];ext
 have g1:(pendingOf st)[i]?=some (Xs.flatten.length,R1.length,u.2.2):=by
  rw [<-tM,hp,IA,rR (by ext hi lt),lt,hi,A7]
  show some u=_
  rw [<-u1,<-u2]
 have g2:(pendingOf st)[i+1]?=some (Xs.flatten.length+R1.length,R2.length,v.2.2):=by
  rw [<-tM,hp,IA,rR (by ext hi lt),lt,hi,JE]
  show some v=_
  rw [<-v1,<-v2]
 have eA:(arrOf st).toList=Xs.flatten++R1++R2++(Ys.flatten++(arrOf st).toList.drop (Xs++R1::R2::Ys).flatten.length):=by
  have:=n8 (Xs++R1::R2::Ys).flatten.length (arrOf st).toList
  rw [h.pre] at this
  rw [<-fJ,<-eF]
  exact this.symm
 refine XM hk h.kind h.failed eA al.all al.dst r1.2 r2.2 r1.1 r2.1 g1 g2 λaj R a1 a2 a3 a4 a5 a6=>?_
 have lR:R.length=R1.length+R2.length:=by rw [a5.length_eq,cX]
 have IB:(Xs++R::Ys).flatten=Xs.flatten++R++Ys.flatten:=by simp
 have lF:(Xs++R::Ys).flatten.length=(Xs++R1::R2::Ys).flatten.length:=by rw [eF,IB];simp only [cX];ext lR
 refine hQ aj R ⟨?_,a1,a2,?_,by rw [lF];exact h.le,?_,λS hS=>?_⟩ lF ?_
 .refine Array.Perm.trans (xm.mpr ?_) h.perm
  generalize (arrOf st).toList.drop (Xs++R1::R2::Ys).flatten.length=D at *
  rw [a3,eA]
  refine List.Perm.append_right _ ?_
  rw [fJ Xs.flatten]
  exact a5.append_left _
 .rw [a3,IB,<-fJ,List.take_left]
 .have e6:(pendingOf aj).toList=ps.take Xs.length++(Xs.flatten.length,R1.length+R2.length,u.2.2)::pv:=by
   rw [a6,Array.toList_eraseIdxIfInBounds,Array.toList_setIfInBounds,hp,hi]
   conv=>lhs;rw [IA]
   rw [List.set_append_right _ _ (by ext lt),lt,A7,List.set_cons_zero,List.eraseIdx_append_of_length_le (by ext lt),lt,JE]
   rfl
  rw [e6]
  refine q1.app ?_
  rw [tF]
  refine ⟨rfl,lR.symm,?_⟩
  rw [lR,<-IW]
  exact q3
 .rcases bW.mp hS with hS | hS
  .exact h.run S (gv _ hS)
  .rcases br.mp hS with rfl | hS
   .refine ⟨λz=>?_,a4⟩
    rw [z] at lR
    have:=qz.mpr r1.1
    simp at lR
    ext lR this
   .exact h.run S (gi _ (by simp [hS]))
 .generalize (arrOf st).toList.drop (Xs++R1::R2::Ys).flatten.length=D at *
  rw [<-lF,a3,IB,<-fJ,List.drop_left]
theorem Ki{Rs:List (List Keyed)}(h:2<=Rs.length):∃Xs R1 R2,Rs=Xs++R1::R2::[]/\Xs.length=Rs.length-2:=by
 refine ⟨Rs.take (Rs.length-2),Rs[Rs.length-2],Rs[Rs.length-1],?_,by rw [jr];ext:1⟩
 conv=>lhs;rw [<-n8 (Rs.length-2) Rs]
 congr 1
 rw [ni (by ext h:1),ni (by ext h:1),rT (by ext:1)]
 simp only [show Rs.length-2+1=Rs.length-1 by ext h:1]
theorem b73{Rs:List (List Keyed)}(h:3<=Rs.length):∃Xs R1 R2 R3,Rs=Xs++R1::R2::[R3]/\Xs.length=Rs.length-3:=by
 refine ⟨Rs.take (Rs.length-3),Rs[Rs.length-3],Rs[Rs.length-2],Rs[Rs.length-1],?_,by rw [jr];ext:1⟩
 conv=>lhs;rw [<-n8 (Rs.length-3) Rs]
 congr 1
 rw [ni (by ext h:1),ni (by ext h:1),ni (by ext h:1),rT (by ext:1)]
 simp only [show Rs.length-3+1=Rs.length-2 by ext h:1,show Rs.length-2+1=Rs.length-1 by ext h:1]
theorem Rt{xs:Array Keyed}{lo n:Nat}(h:Up κ xs lo n)(hn:lo+n<=xs.size):eW κ ((xs.toList.drop lo).take n):=by
 refine xg.mpr λi j hi hj cC=>?_
 simp only [jr,og,gS] at hi hj
 have:=h i j cC (by ext hj:1)
 rw [iN (by ext hi:1),iN (by ext hj:1)] at this
 simpa using this
theorem b0X{xs ys:Array Keyed}{n:Nat}(h:∀k,k<n->xs[k]?=ys[k]?):xs.toList.take n=ys.toList.take n:=by
 refine List.ext_getElem? λk=>?_
 rw [O1,O1,tM,tM]
 split
 .exact h k ‹_›
 .rfl
theorem b4x{Rs:List (List Keyed)}(h:∀R∈Rs,R≠[]):Rs.length<=Rs.flatten.length:=by
 induction Rs with
 | nil=>exact bo _
 | cons R Rs ih =>
  have:=ih λS hS=>h S (by simp [hS])
  have:=qz.mpr (h R (by simp))
  rw [Ed,cX,gh]
  lia
theorem St.push{st:SortSt}(h:St κ C kd a₀ st Rs){aj:SortSt}(e1:arrOf aj=arrOf st)(e2:kindOf aj=kindOf st)(e3:failedOf aj=failedOf st)(hq:ly 0 Rs q)(e4:(pendingOf aj).toList=q++[(Rs.flatten.length,n,0)])
  (hn:1<=n)(hl:Rs.flatten.length+n<=a₀.size)(hs:eW κ (((arrOf st).toList.drop Rs.flatten.length).take n)):St κ C kd a₀ aj (Rs++[((arrOf st).toList.drop Rs.flatten.length).take n]):=by
 have hz:(arrOf st).toList.length=a₀.size:=by rw [gS];exact h.perm.size_eq
 have ln:(((arrOf st).toList.drop Rs.flatten.length).take n).length=n:=by rw [jr,og];ext hl hz
 have eF:(Rs++[((arrOf st).toList.drop Rs.flatten.length).take n]).flatten=Rs.flatten++((arrOf st).toList.drop Rs.flatten.length).take n:=by simp
 have lF:(Rs++[((arrOf st).toList.drop Rs.flatten.length).take n]).flatten.length=Rs.flatten.length+n:=by rw [eF,cX,ln]
 refine ⟨by rw [e1];exact h.perm,by rw [e2];exact h.kind,by rw [e3];exact h.failed,?_,by rw [lF];exact hl,?_,λR hR=>?_⟩
 .rw [lF,e1,List.take_add,h.pre,eF]
 .rw [e4]
  refine hq.app ⟨?_,ln.symm,trivial⟩
  exact (tF _).symm
 .rcases bW.mp hR with hR | hR
  .exact h.run R hR
  .rw [bY.mp hR]
   refine ⟨λz=>?_,hs⟩
   rw [z] at ln
   simp at ln
   ext hn ln
theorem ly.mod{α:Type}(f:Nat×Nat×Nat->Nat×Nat×Nat)(hf:∀x,(f x).1=x.1/\(f x).2.1=x.2.1):∀{o:Nat} {Rs:List (List α)} {ps:List (Nat×Nat×Nat)} (i:Nat),ly o Rs ps->ly o Rs (ps.modify i f)
 | _,[],[],i,_=>by cases i<;>exact trivial
 | o,R::Rs,p::ps,0,h=>⟨by rw [(hf p).1];exact h.1,by rw [(hf p).2];exact h.2.1,h.2.2⟩
 | o,R::Rs,p::ps,i+1,h=>⟨h.1,h.2.1,h.2.2.mod f hf i⟩
theorem St.weigh{st:SortSt}(h:St κ C kd a₀ st Rs){aj:SortSt}(hb:Bs κ C kd st Rs.flatten.length aj):St κ C kd a₀ aj Rs:=
 ⟨hb.perm.trans h.perm,by rw [hb.rest];exact h.kind,by rw [hb.rest];exact h.failed,by rw [b0X hb.ahead];exact h.pre,h.le,by rw [hb.rest];exact h.sN,h.run⟩
theorem yK(hk:Ask prog w s kd κ C)(k:Kn κ C a₀){st:SortSt}{Q:Unit->SortSt->Prop}(h:St κ C kd a₀ st [])(h2:2<=a₀.size)
  (hQ:∀aj,(arrOf aj).Perm a₀->failedOf aj=none->eW κ (arrOf aj).toList->Q () aj):wpS (model prog w) A E s sortRuns' Q st:=by
 unfold wpS
 wp_delta
 wp_delta
 wp_delta
 refine xD (Q:=Q) (aN (n0 ?_))
 dsimp only
 have hz:(arrOf st).size=a₀.size:=h.perm.size_eq
 simp only [hz]
 refine aN (kR (kW (λx c aj=>∃Rs:List (List Keyed),c=(none,Rs.flatten.length)/\St κ C kd a₀ aj Rs/\x<=Rs.flatten.length) (Q:=λc aj=>∃Rs:List (List Keyed),c=(none,Rs.flatten.length)/\St κ C kd a₀ aj Rs/\Rs.flatten.length=a₀.size) (λx c aj _ hx hI=>?_) (λc aj hI=>?_) ⟨[],rfl,h,bo _⟩) λc aj hI=>?_)
 .obtain ⟨Rs,rfl,hS,hp⟩:=hI
  dsimp only
  have hle:=hS.le
  by_cases c1:Rs.flatten.length≥a₀.size
  .rw [if_pos c1]
   exact aX ⟨Rs,rfl,hS,by ext hle c1⟩
  rw [if_neg c1]
  have wM:(arrOf aj).size=a₀.size:=hS.perm.size_eq
  refine aN ?_
  refine IF hk (hS.al k) (by ext c1 wM) (by ext c1) λm gC hb m1 m2 hu=>?_
  dsimp only
  have S2:=hS.weigh hb
  have wL:(arrOf gC).size=a₀.size:=S2.perm.size_eq
  generalize (sortPriv% PySem.Builtin.minRun) a₀.size a₀.size 0 = mr
  by_cases c2:m<mr
  .rw [if_pos c2]
   refine aN (xn (aN ?_))
   generalize hF:min (a₀.size-Rs.flatten.length) mr=n
   refine JM hk (S2.al k) (by ext c1 wL hF) m1 (by ext m2 c2 hF) hu λiQ Zp Hn=>?_
   rw [if_neg (by decide)]
   have S3:=S2.weigh Zp
   have n1:1<=n:=by ext m1 m2 c2 hF
   have n2:Rs.flatten.length+n<=a₀.size:=by ext c1 hF
   have He:(arrOf iQ).size=a₀.size:=S3.perm.size_eq
   have uR:=Rt Hn (by ext n2 He)
   have l3:(((arrOf iQ).toList.drop Rs.flatten.length).take n).length=n:=by rw [jr,og,gS];ext n2 He
   refine aN (n0 ?_)
   cases Zo:(pendingOf iQ).back? with
   | none =>
    dsimp only
    refine aN (qx (aX ⟨Rs++[((arrOf iQ).toList.drop Rs.flatten.length).take n],?_,S3.push rfl rfl rfl S3.sN (w4 ..) n1 n2 uR,?_⟩))
    .rw [tI,cX,tO,l3]
    .rw [tI,cX,tO,l3]
     ext hp n1
   | some p =>
    obtain ⟨s1,uI,p3⟩:=p
    dsimp only
    refine aN (kR (kW (λx c aj=>c=(none,())/\∃Ts:List (List Keyed),St κ C kd a₀ aj Ts/\Ts.flatten.length=Rs.flatten.length/\(arrOf aj).toList.drop Rs.flatten.length=(arrOf iQ).toList.drop Rs.flatten.length) (Q:=λc aj=>c=(none,())/\∃Ts:List (List Keyed),St κ C kd a₀ aj Ts/\Ts.flatten.length=Rs.flatten.length/\(arrOf aj).toList.drop Rs.flatten.length=(arrOf iQ).toList.drop Rs.flatten.length) (λx c aj _ hx hI=>?_) (λc aj hI=>hI) ⟨rfl,Rs,S3,rfl,rfl⟩) λc aj hI=>?_)
    .obtain ⟨rfl,Ts,hT,hl,ha⟩:=hI
     refine aN (n0 ?_)
     have hc:=hT.cnt
     simp only [hc]
     by_cases c3:Ts.length>1
     .rw [if_pos c3]
      cases hg:(pendingOf aj)[Ts.length-2]? with
      | none=>exact aX ⟨rfl,Ts,hT,hl,ha⟩
      | some p =>
       obtain ⟨p1,p2,p3⟩:=p
       dsimp only
       split
       .exact aX ⟨rfl,Ts,hT,hl,ha⟩
       .obtain ⟨Xs,R1,R2,rfl,hX⟩:=Ki (Rs:=Ts) ‹_›
        refine aN ?_
        refine EG hk k hT hX.symm λwF R u5 qp rC=>?_
        rw [if_neg (by decide)]
        exact aX ⟨rfl,_,u5,qp.trans hl,by rw [hl] at rC;exact rC.trans ha⟩
     .rw [if_neg c3]
      exact aX ⟨rfl,Ts,hT,hl,ha⟩
    .obtain ⟨rfl,Ts,hT,hl,ha⟩:=hI
     dsimp only
     refine aN (qx (aN (qx (aX ⟨Ts++[((arrOf aj).toList.drop Ts.flatten.length).take n],?_,hT.push rfl rfl rfl (hT.sN.mod (λx=>(x.1,x.2.1,power' a₀.size (2*s1+uI) (2*s1+uI+uI+n) a₀.size)) (λ_=>⟨rfl,rfl⟩) ((pendingOf aj).size-1)) (by rw [hl];exact (w4 ..).trans (by rw [O8];rfl)) n1 (by ext n2 hl) (by rw [hl,ha];exact uR),?_⟩))))
     .rw [tI,cX,tO,hl,ha,l3]
     .rw [tI,cX,tO,hl,ha,l3]
      ext hp n1
  .rw [if_neg c2]
   obtain ⟨n,rfl⟩:∃n,n=m:=⟨_,rfl⟩
   obtain ⟨iQ,rfl⟩:∃iQ,iQ=gC:=⟨_,rfl⟩
   have S3:=S2
   have Hn:=hu
   have n1:1<=n:=by assumption
   have n2:Rs.flatten.length+n<=a₀.size:=by ext c1 m2
   have He:(arrOf iQ).size=a₀.size:=S3.perm.size_eq
   have uR:=Rt Hn (by ext wL n2)
   have l3:(((arrOf iQ).toList.drop Rs.flatten.length).take n).length=n:=by rw [jr,og,gS];ext wL n2
   refine aN (n0 ?_)
   cases Zo:(pendingOf iQ).back? with
   | none =>
    dsimp only
    refine aN (qx (aX ⟨Rs++[((arrOf iQ).toList.drop Rs.flatten.length).take n],?_,S3.push rfl rfl rfl S3.sN (w4 ..) n1 n2 uR,?_⟩))
    .rw [tI,cX,tO,l3]
    .rw [tI,cX,tO,l3]
     ext hp m1
   | some p =>
    obtain ⟨s1,uI,p3⟩:=p
    dsimp only
    refine aN (kR (kW (λx c aj=>c=(none,())/\∃Ts:List (List Keyed),St κ C kd a₀ aj Ts/\Ts.flatten.length=Rs.flatten.length/\(arrOf aj).toList.drop Rs.flatten.length=(arrOf iQ).toList.drop Rs.flatten.length) (Q:=λc aj=>c=(none,())/\∃Ts:List (List Keyed),St κ C kd a₀ aj Ts/\Ts.flatten.length=Rs.flatten.length/\(arrOf aj).toList.drop Rs.flatten.length=(arrOf iQ).toList.drop Rs.flatten.length) (λx c aj _ hx hI=>?_) (λc aj hI=>hI) ⟨rfl,Rs,S3,rfl,rfl⟩) λc aj hI=>?_)
    .obtain ⟨rfl,Ts,hT,hl,ha⟩:=hI
     refine aN (n0 ?_)
     have hc:=hT.cnt
     simp only [hc]
     by_cases c3:Ts.length>1
     .rw [if_pos c3]
      cases hg:(pendingOf aj)[Ts.length-2]? with
      | none=>exact aX ⟨rfl,Ts,hT,hl,ha⟩
      | some p =>
       obtain ⟨p1,p2,p3⟩:=p
       dsimp only
       split
       .exact aX ⟨rfl,Ts,hT,hl,ha⟩
       .obtain ⟨Xs,R1,R2,rfl,hX⟩:=Ki (Rs:=Ts) ‹_›
        refine aN ?_
        refine EG hk k hT hX.symm λwF R u5 qp rC=>?_
        rw [if_neg (by decide)]
        exact aX ⟨rfl,_,u5,qp.trans hl,by rw [hl] at rC;exact rC.trans ha⟩
     .rw [if_neg c3]
      exact aX ⟨rfl,Ts,hT,hl,ha⟩
    .obtain ⟨rfl,Ts,hT,hl,ha⟩:=hI
     dsimp only
     refine aN (qx (aN (qx (aX ⟨Ts++[((arrOf aj).toList.drop Ts.flatten.length).take n],?_,hT.push rfl rfl rfl (hT.sN.mod (λx=>(x.1,x.2.1,power' a₀.size (2*s1+uI) (2*s1+uI+uI+n) a₀.size)) (λ_=>⟨rfl,rfl⟩) ((pendingOf aj).size-1)) (by rw [hl];exact (w4 ..).trans (by rw [O8];rfl)) n1 (by ext n2 hl) (by rw [hl,ha];exact uR),?_⟩))))
     .rw [tI,cX,tO,hl,ha,l3]
     .rw [tI,cX,tO,hl,ha,l3]
      ext hp m1
 .obtain ⟨Rs,rfl,hS,hp⟩:=hI
  have hle:=hS.le
  exact ⟨Rs,rfl,hS,by ext hp hle⟩
 .obtain ⟨Rs,rfl,hS,hp⟩:=hI
  dsimp only
  have hr:Rs.length<=a₀.size:=by rw [<-hp];exact b4x λR hR=>(hS.run R hR).1
  refine aN (kR (kW (λx c aj=>c=(none,())/\∃Rs:List (List Keyed),St κ C kd a₀ aj Rs/\Rs.flatten.length=a₀.size/\Rs.length<=max 1 (a₀.size-x)) (Q:=λc aj=>c=(none,())/\∃Rs:List (List Keyed),St κ C kd a₀ aj Rs/\Rs.flatten.length=a₀.size/\Rs.length<=1) (λx c aj _ hx hI=>?_) (λc aj hI=>?_) ⟨rfl,Rs,hS,hp,by ext hr⟩) λc aj hI=>?_)
  .obtain ⟨rfl,Rs,hS,hp,hl⟩:=hI
   refine aN (n0 ?_)
   have hc:=hS.cnt
   simp only [hc]
   by_cases c1:Rs.length<=1
   .rw [if_pos c1]
    exact aX ⟨rfl,Rs,hS,hp,c1⟩
   rw [if_neg c1]
   refine aN ?_
   have key:∀j,(j=Rs.length-2\/(3<=Rs.length/\j=Rs.length-3))->∀{Q:Bool->SortSt->Prop},(∀aj Ts,St κ C kd a₀ aj Ts->Ts.flatten.length=Rs.flatten.length->Ts.length+1=Rs.length->Q true aj)->wpS (model prog w) A E s (mergeAt' j) Q aj:=λj hj Q hq=>by
    rcases hj with rfl | ⟨h3,rfl⟩
    .obtain ⟨Xs,R1,R2,rfl,hX⟩:=Ki (Rs:=Rs) (by ext c1)
     exact EG hk k hS hX.symm λwF R u5 qp _=>hq wF _ u5 qp (by simp)
    .obtain ⟨Xs,R1,R2,R3,rfl,hX⟩:=b73 (Rs:=Rs) ‹_›
     exact EG hk k hS hX.symm λwF R u5 qp _=>hq wF _ u5 qp (by simp)
   refine key _ ?_ λwF Ts hT h1 h2=>?_
   .by_cases c2:Rs.length-2>0
    .rw [if_pos c2]
     split
     .exact .inr ⟨by ext c2,by ext⟩
     .exact .inl rfl
    .rw [if_neg c2]
     exact .inl rfl
   .rw [if_neg (by decide)]
    exact aX ⟨rfl,Ts,hT,by ext hp h1,by ext hl h2⟩
  .obtain ⟨rfl,Rs,hS,hp,hl⟩:=hI
   exact ⟨rfl,Rs,hS,hp,by ext hl⟩
  .obtain ⟨rfl,Rs,hS,hp,hl⟩:=hI
   refine aX (hQ _ hS.perm hS.failed ?_)
   have e:(arrOf aj).toList=Rs.flatten:=by
    have:=hS.pre
    rw [vt (by rw [gS,hS.perm.size_eq];ext hp)] at this
    exact this
   rw [e]
   match Rs,hl,hS.run,hp with
   | [],_,_,hp=>exact Jp
   | [R],_,hr,_ =>
    rw [Ed,List.flatten_nil,nk]
    exact (hr R (by simp)).2
end
end SO
noncomputable def mv:Nat:=1600000
namespace TS
open PySem PyProof.Rows
noncomputable abbrev kTup:Bool → SortKind:=sortPriv% PySem.Builtin.KeyKind.tuples
theorem b6E(x y:Value):keyLt' (kTup true) x y=(do
  let us <-D9 x
  let vs <-D9 y
  for ((p,q),i) in (us.toList.zip vs.toList).zipIdx do
   if !(<-eqBool p q) then return <-oneLt' (true&&i==0) p q
  return decide (us.size<vs.size)):=rfl
section
variable {prog:Program}{w:World}{A:Around}{E:Value->Shared->Prop}{s:Shared}
theorem b4c(hx:s.heap.get? x=some ox)(dx:ox.data=.seq (lM a t::us).toArray n)
  (hy:s.heap.get? y=some oy)(dy:oy.data=.seq (lM b u::vs).toArray m)(bI:a≠b)(h:Q (decide (a<b)) s):wpAny (model prog w) A (keyLt' (kTup true) (.ref x) (.ref y)) Q E s:=by
 rw [b6E]
 refine ao (w6 hx dx (ao (w6 hy dy ?_)))
 dsimp only
 rw [Bc,Ei,DN]
 refine ao (ao ?_)
 dsimp only
 refine ao (wpAny_eqBool_int ?_)
 rw [if_pos (by simp [bI])]
 exact ao (oneLt_int (aU (aU (aU h))))
noncomputable def kI(ky:Value->Int)(xs:Array Keyed)(i:Nat):Int:=match xs[i]? with
 | some p=>ky p.1
 | none=>0
structure TB(a₀:Array Keyed)(st:SortSt):Prop where
 perm:(arrOf st).Perm a₀
 kind:kindOf st=kTup true
 failed:failedOf st=none
 pend:pendingOf st=#[]
def CI(s:Shared)(ky:Value->Int)(a₀:Array Keyed):Prop:=∀p∈a₀.toList,∃x o t us n,p.1=.ref x/\s.heap.get? x=some o/\o.data=.seq (lM (ky p.1) t::us).toArray n
def wD(ky:Value->Int)(a₀:Array Keyed):Prop:=(a₀.toList.map λp=>ky p.1).Nodup
variable {ky:Value->Int}{a₀:Array Keyed}
def F8(ky:Value->Int)(xs:Array Keyed)(k:Nat):Prop:=∀i j,i<j->j<k->kI ky xs i<kI ky xs j
theorem yJ{st:SortSt}{Q:Unit->SortSt->Prop}(hk:CI s ky a₀)(hd:wD ky a₀)(hB:TB a₀ st)(h2:2<=a₀.size)(dS:a₀.size<mv)
  (h:∀aj,(arrOf aj).Perm a₀->failedOf aj=none->F8 ky (arrOf aj) a₀.size->Q () aj):wpS (model prog w) A E s sortRuns' Q st:=by
 refine SO.yK (kd:=kTup true) (κ:=λp=>ky p.1) (C:=λp=>∃x o t us n,p.1=.ref x/\s.heap.get? x=some o/\o.data=.seq (lM (ky p.1) t::us).toArray n) ⟨λ{x y} cx cy bI=>?_⟩ ⟨hk,hd⟩ ⟨hB.perm,hB.kind,hB.failed,rfl,n6 _,by rw [hB.pend];trivial,λR hR=>nomatch hR⟩ h2 λaj p f i=>h aj p f λa b Ax hb=>?_
 .obtain ⟨x1,o,t,us,n,e1,e2,e3⟩:=cx
  obtain ⟨y1,o',t',us',n',f1,f2,f3⟩:=cy
  intro A E Q hQ
  generalize ky x.1=kx at *
  generalize ky y.1=kz at *
  rw [e1,f1]
  exact b4c e2 e3 f2 f3 bI hQ
 .exact SO.fY i Ax (by rw [p.size_eq];exact hb)
def TupAt(s:Shared)(ky:Value->Int)(v:Value):Prop:=∃x o t us n,v=.ref x/\s.heap.get? x=some o/\o.cls=.type "tuple" /\ o.data=.seq (lM (ky v) t::us).toArray n
theorem b8T(vs:List Value)(hv:∀v∈vs,TupAt s ky v)(h:∀ts:List Tok,ts.length=vs.length->Q (pS (λv t=>some (lM (ky v) t)) vs ts) s):wpAny (model prog w) A (vs.mapM firstOfTuple') Q E s:=by
 induction vs generalizing Q with
 | nil=>rw [List.mapM_nil];exact aU (h [] rfl)
 | cons v vs ih =>
  rw [List.mapM_cons]
  obtain ⟨x,o,t,us,n,e1,e2,e3,e4⟩:=hv v bw
  have ht:s.TypeIs v "tuple":=by rw [e1];exact ⟨o,e2,e3⟩
  have one:wpAny (model prog w) A (firstOfTuple' v) (λr s'=>s'=s/\r=some (lM (ky v) t)) E s:=by
   show wpAny _ _ (typeOf v >>= λT=>if (T != vj "tuple")=true then pure none else D9 v >>= λus=>pure us[0]?) _ _ _
   refine ao (wpAny_typeOf ht ?_)
   rw [if_neg (by simp)]
   have li:wpAny (model prog w) A (D9 (.ref x)) (λus s'=>wpAny (model prog w) A (pure us[0]?) (λr s'=>s'=s/\r=some (lM (ky v) t)) E s') E s:=w6 e2 e4 (aU ⟨rfl,rfl⟩)
   rw [<-e1] at li
   exact ao li
  refine ao (m9 one (λr s' hr=>?_) λ_ _ z=>z)
  obtain ⟨rfl,rfl⟩:=hr
  exact ao (ih (λu hu=>hv u (bG _ hu)) λts hl=>aU (h (t::ts) (by simp [hl])))
theorem zB(vs:List Value){Q:SortKind->Shared->Prop}(bI:vs≠[])(hv:∀v∈vs,TupAt s ky v)(h:Q (kTup true) s):wpAny (model prog w) A (keyKind' vs.toArray) Q E s:=by
 rw [keyKind'_eq,List.mapM_toArray,map_eq_pure_bind]
 refine ao (ao (b8T vs hv λts hl=>aU ?_))
 have hi:∀(us:List Value) (ts:List Tok),ts.length=us.length->(pS (λv t=>some (lM (ky v) t)) us ts).all (·.isSome)=true/\∃ws ns,(pS (λv t=>some (lM (ky v) t)) us ts).filterMap id=ws/\IntsAre ws ns/\ws.length=us.length:=λus=>by
  induction us with
  | nil=>intro ts _;exact ⟨by simp,[],[],by simp,.nil,rfl⟩
  | cons u us ih =>
   intro ts hl
   cases ts with
   | nil=>simp at hl
   | cons t ts =>
    obtain ⟨h1,ws,ns,h2,h3,h4⟩:=ih ts (by simpa using hl)
    exact ⟨by simpa using h1,_::ws,_::ns,by simp [h2],.cons (ky u) t h3,by simp [h4]⟩
 obtain ⟨h1,ws,ns,h2,h3,h4⟩:=hi vs ts hl
 rw [if_pos (by simpa using h1)]
 refine ao (tH (ao ?_))
 have e:(pS (λv t=>some (lM (ky v) t)) vs ts).toArray.filterMap id=ws.toArray:=by simp [h2]
 rw [e,oneTypeOnly'_eq,List.mapM_toArray,mapM_typeOf_ints h3]
 have HD:ws≠[]:=λz=>by rw [z] at h4;exact bI (Bj.mp h4.symm)
 cases ws with
 | nil=>exact absurd rfl HD
 | cons a ws =>
  simp only [map_pure,pure_bind]
  have dE:((jn (λ_=>vj "int") (a::ws)).toArray.all λx=>x==vj "int")=true:=by simp
  have h0:(jn (λ_=>vj "int") (a::ws)).toArray[0]?=some (vj "int"):=by simp
  rw [h0]
  simp only [dE,if_true]
  exact aU (aU h)
theorem b8o{vs:List Value}{xs:Array Keyed}(hp:xs.Perm (pairsOf vs))(hi:F8 ky xs (pairsOf vs).size):(xs.map (·.2)).toList.Perm vs/\(xs.map (·.2)).toList.Pairwise λx y=>ky x<ky y:=by
 have dk:=xm.mp hp
 have hz:(vs.zip vs).map (·.2)=vs:=by rw [List.map_snd_zip];exact bo _
 have pG:∀p∈xs.toList,p.1=p.2:=λp Hx=>by
  have:=dk.mem_iff.mp Hx
  rw [DU] at this
  have key:∀(us:List Value) (p:Value×Value),p∈us.zip us->p.1=p.2:=λus=>by
   induction us with
   | nil=>intro p z;cases z
   | cons u us ih =>
    intro p z
    rcases br.mp z with rfl | z
    .rfl
    .exact ih p z
  exact key vs p this
 rw [Array.toList_map]
 refine ⟨by have:=dk.map (·.2);rw [DU,hz] at this;exact this,?_⟩
 rw [rO,xg]
 intro i j h1 h2 cC
 have hsz:xs.size=(pairsOf vs).size:=hp.size_eq
 have g:∀k (hk:k<xs.toList.length),kI ky xs k=ky (xs.toList[k]).2:=λk hk=>by
  have Zb:k<xs.size:=by simpa using hk
  unfold kI
  rw [getElem?_pos _ k Zb]
  have:=pG xs.toList[k] (lN hk)
  show ky (xs[k]).1=_
  rw [<-this]
  simp
 rw [<-g i h1,<-g j h2]
 exact hi i j cC (by rw [<-hsz];simpa using h2)
theorem yF(Ag:s.heap.get? l0=some (seqObj "list" vs.toArray n))(hv:∀v∈vs,TupAt s ky v)(hd:(vs.map ky).Nodup)(dS:vs.length<mv)
  (h:∀out:Array Value,out.toList.Perm vs->(out.toList.Pairwise λx y=>ky x<ky y)->P (.done (.ret .none)) { s with heap:=sortedHeap s.heap l0 vs out }):wpAny (model prog w) A (Builtin.«list.sort» ⟨[.ref l0],[]⟩) P E s:=by
 have aT:l0<s.heap.objs.size:=bU Ag
 obtain ⟨k1,Dk⟩:∃k1,(s.heap.update l0 (fS λ_=>#[])).get? l0=some (seqObj "list" #[] k1):=⟨_,DI Ag λ_=>#[]⟩
 rw [list_sort_plain]
 have hZ:vs.length<=sizeLine:=by rw [iY];unfold mv at dS;ext dS
 have Oi:vs.toArray.size<=sizeLine:=by rw [dG];exact hZ
 have Zv:vs.toArray.toList.length<=sizeLine:=Oi
 refine ao (w6 Ag rfl (ao (w9 (hsz:=Oi) Ag rfl (ao (Dw Dk rfl (ao (Ja (hsz:=Zv) (ao (DQ (nr ?_))))))))))
 have lH:(((s.heap.update l0 (fS λ_=>#[])).push (seqObj "tuple" vs.toArray 0)).push (seqObj "list" #[] 0)).get? l0=some (seqObj "list" #[] k1):=bC _ (bC _ Dk)
 have up:∀b o,b≠l0->s.heap.get? b=some o->(((s.heap.update l0 (fS λ_=>#[])).push (seqObj "tuple" vs.toArray 0)).push (seqObj "list" #[] 0)).get? b=some o:=λb o hb e =>
  bC _ (bC _ ((fU _ _ (fH hb)).trans e))
 have zV:∀v∈vs,TupAt { s with heap:=((s.heap.update l0 (fS λ_=>#[])).push (seqObj "tuple" vs.toArray 0)).push (seqObj "list" #[] 0) } ky v:=λv uP=>by
  obtain ⟨x,o,t,us,m,e1,e2,e3,e4⟩:=hv v uP
  have hx:x≠l0:=λz=>by
   rw [z,Ag] at e2
   cases e2
   have:("list":String) = "tuple":=Value.type.inj e3
   exact absurd this (by decide)
  exact ⟨x,o,t,us,m,e1,up x o hx e2,e3,e4⟩
 dsimp only
 show wpAny _ _ _ _ _ { s with heap:=((s.heap.update l0 (fS λ_=>#[])).push (seqObj "tuple" vs.toArray 0)).push (seqObj "list" #[] 0) }
 generalize hS:({ s with heap:=((s.heap.update l0 (fS λ_=>#[])).push (seqObj "tuple" vs.toArray 0)).push (seqObj "list" #[] 0) }:Shared)=S at zV ⊢
 have Zy:S.heap=((s.heap.update l0 (fS λ_=>#[])).push (seqObj "tuple" vs.toArray 0)).push (seqObj "list" #[] 0):=by rw [<-hS]
 have jm:S.heap.get? l0=some (seqObj "list" #[] k1):=by rw [Zy];exact lH
 have ends:∀st:SortSt,(arrOf st).Perm (pairsOf vs)->failedOf st=none->F8 ky (arrOf st) (pairsOf vs).size ->
   wpAny (model prog w) A (do
    let touched:=(<-seqEpoch l0) != k1
    Builtin.List.listUpdate (.ref l0) λ_=>(arrOf st).map (·.2)
    if let some e:=failedOf st then rule "list.sort.comparison-raised";throw e
    if touched then rule "list.sort.modified";raiseError "ValueError" "list modified during sort"
    ret .none) P E S:=λst hp hf hi=>by
  obtain ⟨o1,o2⟩:=b8o hp hi
  refine ao (Dw jm rfl (ao (w9 jm rfl ?_ (hsz2:=?_))))
  .rw [hf]
   simp only [bne_self_eq_false,oh,if_false]
   refine aU ?_
   have:=h _ o1 o2
   rw [<-hS]
   exact this
  .rw [Array.size_map,hp.size_eq,Dv,iY];unfold mv at dS;ext dS
 have Ai:CI S ky (pairsOf vs):=λp hp=>by
  rw [DU] at hp
  obtain ⟨x,o,t,us,m,e1,e2,e3,e4⟩:=zV p.1 (DO hp).1
  exact ⟨x,o,t,us,m,e1,e2,e4⟩
 have Ar:wD ky (pairsOf vs):=by
  unfold wD
  rw [DU,show (vs.zip vs).map (λp=>ky p.1)=((vs.zip vs).map (·.1)).map ky by rw [cJ];rfl,List.map_fst_zip (bo _)]
  exact hd
 have hsz:vs.toArray.size=vs.length:=by simp
 by_cases h2:vs.toArray.size<2
 .rw [if_pos h2]
  refine ao (aU ?_)
  rw [if_pos h2,StateT.run_pure]
  refine ao (aU ?_)
  exact ends (AZ general' (pairsOf vs) #[] 7 none) (tJ _) rfl λi j cC hj=>by rw [Dv] at hj;ext hsz h2 cC hj
 .rw [if_neg h2]
  refine ao (zB vs (λz=>by rw [z] at hsz;simp at h2;simp [z] at h2) zV ?_)
  rw [if_neg h2]
  refine ao (m9 (yJ (a₀:=pairsOf vs) (st:=AZ (kTup true) (pairsOf vs) #[] 7 none) (Q:=λ_ aj=>(arrOf aj).Perm (pairsOf vs)/\failedOf aj=none/\F8 ky (arrOf aj) (pairsOf vs).size) Ai Ar ⟨tJ _,rfl,rfl,rfl⟩ (by rw [Dv];ext hsz h2) (by rw [Dv];exact dS) λaj a b c=>⟨a,b,c⟩) (λr s' hr=>?_) λ_ _ z=>z)
  obtain ⟨rfl,p1,p2,p3⟩:=hr
  exact ends r.2 p1 p2 p3
theorem qU(hl:s.heap.IsList l vs.toArray)(hv:∀v∈vs,TupAt s ky v)(hd:(vs.map ky).Nodup)(dS:vs.length<mv)
  (h:∀out:Array Value,out.toList.Perm vs->(out.toList.Pairwise λx y=>ky x<ky y)->Q (.ref (s.heap.objs.size+1)) { s with heap:=sortedAll s.heap vs out }):wpAny (model prog w) A (call (.builtin "sorted") [.ref l]) Q E s:=by
 refine Calls.call_function_entry kind_sorted plain_sorted entry_sorted (args_sorted1 _) ?_
 unfold Builtin.«sorted»
 have hZ:vs.length<=sizeLine:=by rw [iY];unfold mv at dS;ext dS
 refine ao (m:=checkCount "sorted" 1 1 _) (aU (ao (collect_list (hsz:=hZ) hl (ao (DQ (hsz:=hZ) ?_)))))
 have z1:((s.heap.push (seqObj "list" #[] 0)).update s.heap.objs.size (fS (·++vs.toArray))).objs.size=s.heap.objs.size+1:=(Ju ..).trans (DF _ _)
 have z2:(((s.heap.push (seqObj "list" #[] 0)).update s.heap.objs.size (fS (·++vs.toArray))).push (seqObj "list" vs.toArray 0)).get? (s.heap.objs.size+1)=some (seqObj "list" vs.toArray 0):=by
  rw [<-z1]
  exact fj _ rfl
 have up:∀b o,s.heap.get? b=some o->(((s.heap.push (seqObj "list" #[] 0)).update s.heap.objs.size (fS (·++vs.toArray))).push (seqObj "list" vs.toArray 0)).get? b=some o:=λb o e =>
  bC _ ((fU _ _ (vo (bU e))).trans (bC _ e))
 show wpAny _ _ _ _ _ { s with heap:=((s.heap.push (seqObj "list" #[] 0)).update s.heap.objs.size (fS (·++vs.toArray))).push (seqObj "list" vs.toArray 0) }
 rw [z1]
 have Hm:∀v∈vs,TupAt { s with heap:=((s.heap.push (seqObj "list" #[] 0)).update s.heap.objs.size (fS (·++vs.toArray))).push (seqObj "list" vs.toArray 0) } ky v:=λv uP=>by
  obtain ⟨x,o,t,us,m,e1,e2,e3,e4⟩:=hv v uP
  exact ⟨x,o,t,us,m,e1,up x o e2,e3,e4⟩
 refine ao (nr (vC slot_list_sort ⟨_,z2,rfl⟩ entry_list_sort (yF z2 Hm hd dS λout o1 o2=>⟨_,rfl,?_⟩) (args_list_sort _)))
 exact aU ⟨_,rfl,h out o1 o2⟩
end
end TS
namespace DL
open PySem PySem.Spec PyProof.Rows L2
theorem RT{α β:Type}{f:α->β}{l:List β}{ts:List α}(h:l.Perm (ts.map f)):∃us:List α,us.Perm ts/\us.map f=l:=by
 generalize e:ts.map f=m at h
 induction h generalizing ts with
 | nil=>exact ⟨[],by rw [List.map_eq_nil_iff.mp e],rfl⟩
 | cons x _ ih =>
  cases ts with
  | nil=>cases e
  | cons t ts =>
   cases e
   obtain ⟨us,h1,h2⟩:=ih rfl
   exact ⟨t::us,h1.cons t,by rw [fg,h2]⟩
 | swap x y l =>
  match ts,e with
  | a::b::ts,e =>
   cases e
   exact ⟨b::a::ts,List.Perm.swap _ _ _,rfl⟩
 | trans _ _ YM YL =>
  obtain ⟨us,h1,h2⟩:=YL e
  obtain ⟨ws,h3,h4⟩:=YM h2
  exact ⟨ws,h3.trans h1,h4⟩
noncomputable def xA(s:Shared):Value->Int
 | .ref x=>match s.heap.get? x with
  | some o=>match o.data with
   | .seq xs _=>match xs[0]? with
    | some (lM a _)=>a
    | _=>0
   | _=>0
  | _=>0
 | _=>0
section
variable {X:Cx}
theorem a9E:oY X (.builtin "sorted") (λxs H Q=>∃(p:Addr) (ts:List (Addr×Int×D)),xs=[.ref p]/\Sq X.K H true p (ts.map λt=>V.ref t.1)/\(∀t∈ts,∃zs,dN X.K H t.1 (.int t.2.1::zs))/\(ts.map (·.2.1)).Nodup/\ts.length<mv /\
  ∀(us:List (Addr×Int×D)) (a:Addr),us.Perm ts->(us.Pairwise λx y=>x.2.1<y.2.1)->H a=none->Q (.ref a) (upd H a (.lst (us.map λt=>V.ref t.1)))):=by
 intro pins s σ H xs vs Q I r h
 obtain ⟨p,ts,rfl,hq,sU,pI,dS,q⟩:=h
 obtain ⟨u,rfl,ru⟩:=r.one
 cases ru
 obtain ⟨ak,rv,pl⟩:=oX (b:=true) I hq
 have hits:ak=ts.map λt=>dX t.1:=by
  clear pl hq sU pI dS q
  induction ts generalizing ak with
  | nil=>cases rv;rfl
  | cons t ts ih =>
   cases rv with
   | cons a b =>
    cases a
    rw [fg,ih _ b]
 subst hits
 have Di:∀t∈ts,TS.TupAt s (xA s) (.ref t.1)/\xA s (.ref t.1)=t.2.1:=λt ht=>by
  obtain ⟨zs,hz⟩:=sU t ht
  obtain ⟨ws,yH,pt,_⟩:=I.tuple hz
  obtain ⟨o,ho,hc,n,hd⟩:=(show s.heap.IsTuple t.1 ws.toArray from pt)
  cases yH with
  | cons a b =>
   obtain ⟨tk,rfl⟩:=a
   have e:xA s (.ref t.1)=t.2.1:=by
    unfold xA
    dsimp only
    rw [ho]
    dsimp only
    rw [hd]
    rfl
   exact ⟨⟨t.1,o,tk,_,n,rfl,ho,hc,by rw [e];exact hd⟩,e⟩
 have HI:(ts.map λt=>dX t.1).map (xA s)=ts.map (·.2.1):=by
  rw [cJ]
  exact Eg λt ht=>(Di t ht).2
 refine TS.qU (ky:=xA s) pl (λv hv=>?_) (by rw [HI];exact pI) (by rw [aQ];exact dS) λout o1 o2=>?_
 .obtain ⟨t,ht,rfl⟩:=cF.mp hv
  exact (Di t ht).1
 .obtain ⟨us,u1,u2⟩:=RT o1
  have u3:us.Pairwise λx y=>x.2.1<y.2.1:=by
   rw [<-u2,rO] at o2
   refine o2.imp_of_mem λ{x y} hx hy z=>?_
   rwa [(Di x (u1.subset hx)).2,(Di y (u1.subset hy)).2] at z
  obtain ⟨e,he⟩:=sortedAll_at s.heap (ts.map λt=>dX t.1) out
  have fr:H (s.heap.objs.size+1)=none:=I.bh.fresh (A3 _)
  refine ⟨.ref (s.heap.objs.size+1),_,I.laid (o:=.lst (us.map λt=>V.ref t.1)) (t':=s.toks) (λb o e=>sortedAll_old e) (A3 _) ⟨?_,out.toList,e,?_,?_⟩,rfl,q us _ u1 u3 fr⟩
  .rw [aQ,u1.length_eq,iY];unfold mv at dS;ext dS
  .rw [<-u2]
   clear u1 u3 u2
   induction us with
   | nil=>exact .nil
   | cons t us ih=>exact .cons rfl ih
  .simpa using he
noncomputable def zD:D->Option (Int×D)
 | .tup (.int k::ds)=>some (k,.tup (.int k::ds))
 | _=>none
noncomputable def Bz:List D->Option (List (Int×D))
 | []=>some []
 | d::ds=>(zD d).bind λk=>(Bz ds).map λks=>k::ks
noncomputable def xp(ds:List D):Option (List D):=(Bz ds).bind λks=>if (ks.map (·.1)).Nodup/\ks.length<mv then some ((ks.mergeSort λa b=>decide (a.1<=b.1)).map (·.2)) else none
noncomputable def EX(f:En->Option Sl):En->Option Sl:=λenv=>(f env).bind λr=>match r.d with
 | .lst _ ds=>(xp ds).map Sl.ow
 | _=>none
theorem Tc:∀{l m:List (Int×D)},l.Perm m->(l.map (·.1)).Nodup->(l.Pairwise λa b=>a.1<=b.1)->(m.Pairwise λa b=>a.1<=b.1)->l=m
 | [],m,h,_,_,_=>(List.nil_perm.mp h).symm
 | a::l,[],h,_,_,_=>by have:=h.length_eq;simp at this
 | a::l,b::m,h,hn,hl,hm=>by
  have Ax:a=b:=by
   have h1:a∈b::m:=h.subset bw
   have h2:b∈a::l:=h.symm.subset bw
   have e:a.1=b.1:=by
    have k1:b.1<=a.1:=by
     rcases br.mp h1 with z | z
     .rw [z];exact cD _
     .exact (iM.mp hm).1 a z
    have k2:a.1<=b.1:=by
     rcases br.mp h2 with z | z
     .rw [z];exact cD _
     .exact (iM.mp hl).1 b z
    ext k1 k2
   rcases br.mp h2 with z | z
   .exact z.symm
   .have:=(vF.mp hn).1
    exact absurd (cF.mpr ⟨b,z,e.symm⟩) this
  subst Ax
  rw [Tc (h.cons_inv) (vF.mp hn).2 (iM.mp hl).2 (iM.mp hm).2]
theorem b2v(hg:Gl X "sorted")(hm:X.mg "sorted" = none)(he:EV X e fa)(hs:starEach [e] X.env=[(false,eval e X.env)]:=by rfl):EV X (.Call (.Name "sorted" p) [e] [] pos) (EX fa):=by
 obtain ⟨t,pt,k⟩:=he
 refine ⟨_,xK a9E hg hm (by decide +kernel) (qJ pt qI hs) (by decide) (by decide) hs rfl,λO B σ H env s Q R e q=>?_⟩
 obtain ⟨r,e1,e2⟩:=bind_some e
 refine k O B σ H env r _ R e1 λv H1 s1 r1=>?_
 have hi:=r1.is λq=>R.oo
 cases hd:r.d with
 | lst b ds =>
  rw [hd] at e2 hi
  obtain ⟨rs,e3,rfl⟩:=map_some (show (xp ds).map Sl.ow=some s from e2)
  obtain ⟨ks,e4,e5⟩:=bind_some e3
  obtain ⟨⟨pI,dS⟩,rfl⟩:=iG e5
  obtain ⟨a,xs,rfl,h2,h3⟩:=hi.seq (k:=true) rfl
  have lay:∀{xs:List V} {ds:List D} {ks:List (Int×D)},aK X.K (OO O σ env) H1 xs ds->Bz ds=some ks->∃ts:List (Addr×Int×D),xs=ts.map (λt=>V.ref t.1)/\ks=ts.map (λt=>t.2)/\∀t∈ts,Is X.K (OO O σ env) H1 (.ref t.1) t.2.2/\∃zs,dN X.K H1 t.1 (.int t.2.1::zs):=λ{xs ds ks} hI=>by
   intro hk
   induction ds generalizing xs ks with
   | nil=>cases hI;cases hk;exact ⟨[],rfl,rfl,λ_ z=>nomatch z⟩
   | cons d ds ih =>
    cases hI with
    | cons i1 i2 =>
     rename_i x jx
     obtain ⟨kd,f1,f2⟩:=bind_some hk
     obtain ⟨ks',f3,f4⟩:=map_some f2
     obtain ⟨ts,g1,g2,g3⟩:=ih i2 f3
     obtain ⟨kk,rest,rfl,rfl⟩:∃kk rest,d=.tup (.int kk::rest)/\kd=(kk,d):=by
      unfold zD at f1
      split at f1
      .cases f1;exact ⟨_,_,rfl,rfl⟩
      .cases f1
     obtain ⟨ad,zs,rfl,hz,uO⟩:=i1.seq (k:=false) rfl
     cases uO with
     | cons z1 z2 =>
      obtain rfl:=gZ z1
      refine ⟨(ad,kk,.tup (.int kk::rest))::ts,by rw [g1];rfl,by rw [<-f4,g2];rfl,λt ht=>?_⟩
      rcases br.mp ht with rfl | ht
      .exact ⟨i1,_,hz⟩
      .exact g3 t ht
  obtain ⟨ts,rfl,rfl,g3⟩:=lay h3 e4
  rw [cJ] at pI
  rw [aQ] at dS
  refine ⟨a,ts,rfl,h2,λt ht=>(g3 t ht).2,pI,dS,λus c u1 u2 hc=>?_⟩
  have pG:us.map (λt=>t.2)=(ts.map λt=>t.2).mergeSort λa b=>decide (a.1<=b.1):=by
   refine Tc ((u1.map _).trans (O7 _ _).symm) ?_ ?_ ?_
   .rw [cJ];exact (u1.map _).nodup_iff.mpr pI
   .rw [rO];exact u2.imp λ{x y} z=>A6 z
   .have:=Ph (le:=λa b:Int×D=>decide (a.1<=b.1)) (λa b c h1 h2=>by simp at *;ext h1 h2) (λa b=>by simp;ext) (ts.map λt=>t.2)
    exact this.imp λ{x y} z=>by simpa using z
  rw [<-pG,cJ] at q
  refine q _ _ (s1.trans (o5 hc _)) ((xH hc ?_).from s1)
  have conv:∀ws:List (Addr×Int×D),(∀t∈ws,Is X.K (OO O σ env) H1 (.ref t.1) t.2.2)->aK X.K (OO O σ env) H1 (ws.map λt=>V.ref t.1) (ws.map λt=>t.2.2):=λws=>by
   induction ws with
   | nil=>exact λ_=>.nil
   | cons w ws ih=>exact λhw=>.cons (hw w bw) (ih λz hz=>hw z (bG _ hz))
  exact conv us λt ht=>(g3 t (u1.subset ht)).1
 | _=>rw [hd] at e2;cases e2
end
end DL
namespace DL
open PySem PySem.Spec PyProof.Rows L2 PySem.W PySem.Calls
def Sm(n:Int):Prop:=n.natAbs.log2<=2^20
theorem Rw:∀{ns:List Int} {m:Nat},Pg (ns.map DS)<=m->m<=2^20->∀n∈ns,Sm n
 | [],_,_,_,_,h=>by cases h
 | x::ns,m,hw,hm,n,h=>by
  rw [fg,Pg] at hw
  rcases br.mp h with rfl | h
  .unfold Sm
   rw [OM] at hw
   by_cases h0:n=0
   .subst h0;decide
   .rw [if_neg (by simpa using h0)] at hw
    ext hm hw
  .exact Rw (m:=m) (by ext hw) hm n h
theorem b1o{ns:List Int}(h:Pj [OD (ns.map DS)]=true):∀n∈ns,Sm n:=by
 unfold Pj PySem.W.WData.layable at h
 simp only [List.all_cons,List.all_nil,Bool.and_true,vz,decide_eq_true_eq] at h
 have hw:=h.2
 rw [OM] at hw
 exact Rw hw (bo _)
def sA(n:Int):Prop:=n.natAbs.log2<=2^20+64
theorem Sm.x(h:Sm n):sA n:=eQ h (rN _ _)
theorem b4e(h:a.log2<=N)(hb:b<=16*a+2^40):b.log2<=N+64:=by
 have h1:a<2^(N+1):=by
  by_cases z:a=0
  .rw [z];exact Nat.two_pow_pos _
  .exact (DA z).mp (by ext h)
 have h2:(2:Nat)^(N+64)=2^(N+1)*2^63:=by rw [<-Nat.pow_add]
 have h3:0<(2:Nat)^(N+1):=Nat.two_pow_pos _
 by_cases z:b=0
 .rw [z];exact n6 _
 .have:b<2^(N+64):=by
   rw [h2]
   generalize (2:Nat)^(N+1)=p at *
   lia
  exact w8 ((DA z).mpr this)
theorem Sm.near(h:Sm n)(hm:m.natAbs<=16*n.natAbs+2^40):sA m:=b4e h hm
def jW(i j:Int):Prop:=sA i /\ -LIM<=j/\j<=LIM
noncomputable instance (i j:Int):Decidable (jW i j):=by unfold jW sA;infer_instance
noncomputable def xt:D->D->Option Sl:=gI jW λi j=>i*j
theorem E4:g9 X (binaryOp .Mult) xt:=xw (uF λi j _ _ _ _ _ (hc:jW i j) q=>mul_int q (mulOk_of_bits (m:=2^20+65) (by
 have:=hc.1
 unfold sA at this
 unfold Jj
 split<;>lia) (Lq hc.2.1 hc.2.2) (by decide)))
noncomputable def uB(K:aJ):Sp:=λvs H Q _=>∃(a:Addr) (ns:List Int),vs=[.ref a]/\fF K H a (ns.map V.int)/\ns.length<=63/\(∀n∈ns,Sm n)/\Tb K H/\∀H',aq H H'->Q (.bl true) H'
theorem b6C{P:Program}{w:World}{K:aJ}{mg:Str->Option Value}{base:Heap}{k:Nat}{f:Addr}{fd:FuncData}{φ:List D->Option Sl}(F:cW P w K mg base jX k f fd ["script"] (nI K 1 φ))
  (h:∀ns:List Int,ns.length<=63->(∀n∈ns,Sm n)->φ [.lst true (ns.map D.int)]=some (Sl.sh (.bl true))):cW P w K mg base jX k f fd ["script"] (uB K):=by
 refine F.imp λvs H Q E q=>?_
 obtain ⟨a,ns,rfl,hs,hl,hb,tb,q⟩:=q
 refine ⟨λ_=>False,[.lst true (ns.map D.int)],_,⟨λ_ z=>z.elim,tb⟩,.cons ?_ .nil,rfl,h ns hl hb,λv H' sm r=>?_⟩
 .rcases hs with hs | hs
  .exact .lY id hs (aK.ints ns)
  .exact .l5 (.inr hs) (aK.ints ns)
 .have r':Is K (λ_=>False) H' v (.bl true):=r
  rw [tV r']
  exact q H' sm
theorem uv{l:OE}{q:Program}{loose:List Str}{XP:(Str->Option Value)->Heap->Prop}{YP:World->Heap->Prop}{d:DefRec}{K:Params->aJ}{k:Nat}(hk:cL k callerA)(hn:l.most=some 63)(Zk:d.params.defaults=[])
  {ts:List Addr}(hY:∀(w:World) (h:Heap),YP w h->(K w.params).In h/\∀P∈ts,h.get? P=some (Be #[]))(hL:∀w:World,JU (K w.params) ts=true)
  (F:∀(w:World) (mg:Str->Option Value) (fa:Addr) (h:Heap),(K w.params).In h->h.Ns mainGlobals mg->mg d.name=some (.ref fa) ->
   ∃fd:FuncData,(∀(s:Shared) (u:Value),BindsTo s fd ⟨[u],[]⟩ [("script",u)])/\∀base:Heap,(K w.params).In base->base.Ns mainGlobals mg->cW l.prog w (K w.params) mg base jX k fa fd ["script"] (uB (K w.params))):
  PySem.W.WalkO q loose XP YP l.row.toRowW d [] (λf vs=>PySem.call f vs):=by
 intro w dB bb mg mb G Y fa o pm cd doc dV kV ho hd eH hD HF hg args vals as iy HL hrd Hf hlo
 obtain rfl:dV=.none:=Dflts.none hD Zk
 obtain rfl:kV=.none:=Dflts.noKw hD
 obtain ⟨a,vs,ns,rfl,rfl,HB,hints,hlen⟩:=Np.nK hn iy Hf
 obtain ⟨KX,Az⟩:=hY w _ Y
 obtain ⟨fd,hb,hF⟩:=F w mg fa _ KX G.T.g HF
 refine enter_call (DZ (b4j KX G.T.g G.T.b G.T.builtins G.T.nolimit hg G.T.bmain (hL w) Az HB hints (eQ hlen (by decide)) hk hF hb (λH tb hS=>⟨a,ns,rfl,hS,hlen,b1o HL,tb,λ_ sm=>⟨rfl,tb.grow sm⟩⟩) λ_ _ _ z=>z) λr s' hq=>?_)
 obtain ⟨rfl,h2,h3,h4⟩:=hq
 exact ⟨.inl ⟨.bool true,.bool true,[],rfl,λ_=>rfl,.bool true,Np.nN l _,λ_=>⟨Jp,λ_ hm=>(nomatch hm)⟩⟩,h2,h3,h4⟩
end DL
namespace DL
open PySem PySem.Spec PyProof.Rows L2
section
variable {prog:Program}{w:World}{A:Around}{E:Value->Shared->Prop}{s:Shared}{a₀:Array Keyed}
end
section
variable {X:Cx}{pins:List (Addr×Obj)}{s:Shared}{σ:L2.St}{H:Hp}
theorem yq(I:Inv X pins σ H s)(hf:cV X pins H a)(new:cH X.prog X.w (upd H a o) s.heap a o):Inv X pins σ (upd H a o) s:=by
 have ne:∀b u,H b=some u->b≠a:=λb u e z=>by rw [z,hf.1] at e;cases e
 refine I.step (g':=s.gens) (t':=s.toks) (d':=s.drawn) (ch:=[a]) (h':=s.heap) (H':=upd H a o) (λb hb=>?_) (λb o _ _ _ e _=>e) (λb o _ _ _ e _=>⟨o.slots,e⟩) (λb o hc e n=>by rw [df (by simpa using hc)];exact n) (λb o _ e=>⟨o,e⟩)
  (λb xs e=>by rw [df (ne b _ e)];exact e) (λb o u e=>by rw [df (ne b _ e)];exact e) (λb ps e=>⟨#[],by rw [df (ne b _ e),e];simp⟩) (λm hm=>hm) (λb u e=>?_) I.bare
 .obtain rfl:b=a:=by simpa using hb
  exact ⟨hf.2.2.2.1,hf.2.1,hf.2.2.2.2.1,hf.2.2.2.2.2⟩
 .by_cases hb:b=a
  .subst hb
   rw [qd] at e
   cases e
   exact new
  .rw [df hb] at e
   exact (I.bh b u e).km (λ_ _ _ q=>q) (λc _ _ q=>by rw [df (ne c _ q)];exact q) λc xs q=>by rw [df (ne c _ q)];exact q
theorem b4Q(F:cW X.prog X.w X.K X.mg X.base jX k f fd ps (nI X.K ps.length φ))(h1:ps.length=1)(hr:cL k A')(hA:A'.frames=X.A.frames)(hb:Binds X.K fd ps [])
  (I:Inv X pins σ H s)(rx:RelV x v)(hO:qM X.K O H)(hx:Is X.K O H x d)(e:φ [d]=some (.sh (.int n))):
  wpAny (model X.prog X.w) A' (call (.ref f) [v]) (λu s'=>∃t H',u=.int n t/\Inv X pins σ H' s'/\aq H H'/\∀b o,s.heap.get? b=some o->cV X pins H b->s'.heap.get? b=some o/\cV X pins H' b) E s:=by
 have e0:=I.gG
 have E0:ql X.prog X.w X.K X.mg X.base A' X.stack s H:=⟨hA.trans e0.frames,e0.mod,e0.bs,e0.rW,e0.gF,e0.ve,e0.bh,e0.bare⟩
 refine wpAny_call (DZ (F.run A' X.stack s H ⟨[v],[]⟩ [v] [x] (λu H'=>u=.int n/\aq H H') (λ_ _ _=>False) hr E0 (hb s [v] I.uM (by simp [h1])) (.cons rx .nil) ⟨O,[d],.sh (.int n),hO,.cons hx .nil,by simp [h1],e,λv' H' sm r=>⟨gZ r,sm⟩⟩) λr s' hq=>?_)
 cases r with
 | error e=>exact kP hq
 | ok fl =>
  cases fl with
  | ret u =>
   obtain ⟨v',H',os,bare,un,bh,rv,rfl,sm⟩:=hq
   obtain ⟨t,rfl⟩:=rv
   obtain ⟨hh,g,d',t',GN⟩:=s'
   obtain rfl:GN=s.os:=os
   refine ⟨t,H',rfl,I.call (h':=hh) (g':=g) (d':=d') (t':=t') (ch:=[]) un bh bare (λb z=>absurd z (by simp)),sm,λb o eb hf=>?_⟩
   have XH:b∉oR X.stack:=λz=>by
    rcases br.mp (I.ij b z) with z | z
    .exact hf.2.1 z
    .exact hf.2.2.1 z
   exact ⟨un.keep b o eb hf.1 XH (by simp),un.free b o eb hf.1 (by simp),hf.2⟩
  | next=>exact kP hq
  | brk=>exact kP hq
  | cont=>exact kP hq
end
end DL
namespace DL
open PySem PySem.Spec PyProof.Rows L2 PySem.SeqAt
section
variable {X:Cx}{pins:List (Addr×Obj)}{s:Shared}{σ:L2.St}{H:Hp}
theorem zM(e:Value->Bool)(hl:gP b s.heap l items)(he:∀y,y∈items->EqAt A.in1 s y x (e y))
  (h:Q (.bool (items.any e)) s):wpAny (model prog w) A (compareOp .In x (.ref l)) Q E s:=by
 cases b with
 | true=>exact in_listAt e hl he h
 | false=>exact in_tupleAt e hl he h
noncomputable def inD(a:D)(ds:List D):Option Bool:=(gJ (ds.map λd=>bj 7 d a)).map λbs=>bs.any id
noncomputable def Ds:D->D->Option Sl:=λa d=>(eh d).bind λx=>(inD a x.2).map λk=>.sh (.bl k)
theorem zc(hu:X.A.units+8<cLine):g9 X (compareOp .In) Ds:=by
 refine ⟨λx y H Q=>∃O p k xs a ds bs,y=.ref p/\Sq X.K H k p xs/\aK X.K O H xs ds/\Is X.K O H x a/\gJ (ds.map λd=>bj 7 d a)=some bs/\Q (.bl (bs.any id)) H,?_,λO H x y a b s Q hO hx hy e q=>?_⟩
 .intro pins s σ H x y v u Q I rx ry h
  obtain ⟨O,p,k,xs,a,ds,bs,rfl,hq,hs,ha,hb,q⟩:=h
  cases ry
  obtain ⟨ak,rv,hl⟩:=oX I hq
  obtain ⟨l1,g1⟩:=xJ hb
  have hlen:ak.length=bs.length:=by rw [<-rv.length,hs.length,<-l1,aQ]
  have at_:∀(j:Nat) (y:Value) (b:Bool),ak[j]?=some y->bs[j]?=some b->EqAt X.A.in1 s y v b:=λj y b h1 h2=>by
   have h3:=g1 j b h2
   rw [kT] at h3
   cases hd:ds[j]? with
   | none=>rw [hd] at h3;cases h3
   | some d =>
    rw [hd] at h3
    have h4:bj 7 d a=some b:=dj h3
    obtain ⟨z,hz,iz⟩:=hs.get hd
    obtain ⟨y',sT,rz⟩:=rv.get hz
    rw [h1] at sT;cases sT
    exact (J' I 7 (A:=X.A.in1) (by show X.A.units+1+7<cLine;assumption) iz ha rz rx h4).1
  classical
  have e1:ak.toArray.any (λy=>decide (∃j:Nat,ak[j]?=some y/\bs[j]?=some true))=bs.any id:=by
   rw [Bool.eq_iff_iff]
   simp only [List.any_toArray,List.any_eq_true,decide_eq_true_eq,id]
   constructor
   .rintro ⟨y,hy,j,h1,h2⟩
    exact ⟨true,Bl h2,rfl⟩
   .rintro ⟨b,hb,rfl⟩
    obtain ⟨j,hj⟩:=OT.mp hb
    have sZ:j<ak.length:=by rw [hlen];exact (gH.mp hj).1
    exact ⟨ak[j],lN sZ,j,gu sZ,hj⟩
  refine zM (λy=>decide (∃j:Nat,ak[j]?=some y/\bs[j]?=some true)) hl (λy hy=>?_) ?_
  .by_cases ht:∃j:Nat,ak[j]?=some y/\bs[j]?=some true
   .rw [decide_eq_true ht]
    obtain ⟨j,h1,h2⟩:=ht
    exact at_ j y true h1 h2
   .rw [decide_eq_false ht]
    obtain ⟨j,hj⟩:=OT.mp (List.mem_toArray.mp hy)
    have sZ:j<bs.length:=by rw [<-hlen];exact (gH.mp hj).1
    refine at_ j y false hj ?_
    rw [gu sZ]
    cases Od:bs[j] with
    | false=>rfl
    | true=>exact absurd ⟨j,hj,by rw [gu sZ,Od]⟩ ht
  .rw [e1]
   exact ⟨.bl (bs.any id),H,I,rfl,q⟩
 .obtain ⟨⟨k,ds⟩,e1,e2⟩:=bind_some e
  obtain ⟨b1,e3,rfl⟩:=map_some e2
  obtain ⟨bs,e4,rfl⟩:=map_some e3
  obtain ⟨p,xs,rfl,hq,hs⟩:=hy.seq e1
  exact ⟨O,p,k,xs,a,ds,bs,rfl,hq,hs,hx,e4,q _ H (aq.refl _) (Is.bl _)⟩
end
end DL
namespace DL
open PySem PySem.Spec PyProof.Rows L2
section
variable {X:Cx}{N:List Str}{sc:Scope}{k:Nat}{full:Bool}{pos pos' p1 p2 p3 p4:Pos}{e c:Expr}{fa:En->Option Sl}{ga:En->Option Bool}
noncomputable def iR(i:Nat)(f:En->Option Sl):SF:=λenv=>match env[i]? with
 | some (.sh (.int m))=>match f env with
  | some (.sh (.int n))=>some (.nx,env.set i (.sh (.int (m+n))))
  | _=>none
 | _=>none
theorem RX(h:iR i f env=some y):∃m n,env[i]?=some (.sh (.int m))/\f env=some (.sh (.int n))/\y=(.nx,env.set i (.sh (.int (m+n)))):=by
 unfold iR at h
 split at h
 .rename_i m e1
  split at h
  .rename_i n e2
   cases h
   exact ⟨m,n,e1,e2,rfl⟩
  .cases h
 .cases h
theorem Fx.aug(h:Fx X N sc k full)(i:Nat)(he:EV X e fa)(hN:N[i]?=some x:=by rfl)(hv:Loc sc x:=by first | exact di rfl | exact bX rfl)
  (hf:full=true\/sc.names.lookup x=some .local:=by first | exact di rfl | exact bX rfl):SV X (.AugAssign (.Name x pos') .Add e pos) (iR i fa):=by
 obtain ⟨t,p,kk⟩:=he
 refine ⟨_,Qc h.uH (h.ix hN) (h.loc hv) p b8J (h.uy hf),λO B σ H env fl ai D R e q=>?_⟩
 obtain ⟨m,n,hi,e1,e2⟩:=RX e
 cases e2
 obtain ⟨v,e3,hv⟩:=R.sh i _ hi
 obtain rfl:=gZ hv
 refine ⟨_,e3,kk O B σ H env _ _ R e1 λv H1 s1 r1=>?_⟩
 obtain rfl:=gZ r1
 refine ⟨m,n,rfl,rfl,?_⟩
 obtain ⟨R',g'⟩:=R.set (v:=.int (m+n)) (r:=.sh (.int (m+n))) s1 (Is.int (m+n)) (gH.mp hi).1
 exact q _ H1 R' g'
end
end DL
namespace DL
open PySem L2
def Wo{α:Type}(o:Option α)(Q:α->Prop):Prop:=∃a,o=some a/\Q a
section
variable {α β:Type}
theorem a0i{a:α}{Q:α->Prop}:Wo (some a) Q↔Q a:=⟨λ⟨_,e,h⟩=>by cases e;exact h,λh=>⟨a,rfl,h⟩⟩
theorem a0s:Wo (none:Option α) Q↔False:=⟨λ⟨_,e,_⟩=>(nomatch e),kP⟩
theorem a0o{o:Option α}{f:α->Option β}{Q:β->Prop}:Wo (o.bind f) Q↔Wo o λa=>Wo (f a) Q:=by
 cases o with
 | none=>simp [Wo]
 | some a=>simp [Wo]
theorem a2A{o:Option α}{f:α->β}{Q:β->Prop}:Wo (o.map f) Q↔Wo o λa=>Q (f a):=by
 cases o with
 | none=>simp [Wo]
 | some a=>simp [Wo]
theorem j7{c:Prop}[Decidable c]{a:α}{Q:α->Prop}:Wo (if c then some a else none) Q↔c/\Q a:=by
 by_cases h:c
 .rw [if_pos h,a0i];exact ⟨λz=>⟨h,z⟩,λz=>z.2⟩
 .rw [if_neg h,a0s];exact ⟨kP,λz=>h z.1⟩
theorem Wo.mono{o:Option α}{P Q:α->Prop}(h:Wo o P)(k:∀a,P a->Q a):Wo o Q:=let ⟨a,e,p⟩:=h;⟨a,e,k a p⟩
theorem Wo.eq{o:Option α}{a:α}(h:Wo o λx=>x=a):o=some a:=let ⟨_,e,p⟩:=h;by rw [e,p]
theorem r9{o:Option α}{P Q:α->Prop}(k:∀a,P a↔Q a):Wo o P↔Wo o Q:=⟨λh=>h.mono λa=>(k a).mp,λh=>h.mono λa=>(k a).mpr⟩
end
noncomputable def pd(G:SF)(Q:Fl×En->Prop):Fl×En->Prop
 | (.nx,e)=>Wo (G e) Q
 | p=>Q p
theorem b1q:pd G Q (.nx,e)↔Wo (G e) Q:=fQ
theorem b1s:pd G Q (.bk,e)↔Q (.bk,e):=fQ
theorem b1r:pd G Q (.ct,e)↔Q (.ct,e):=fQ
theorem b1p:pd G Q (.rt r,e)↔Q (.rt r,e):=fQ
theorem Wo_seq:Wo (ag F G env) Q↔Wo (F env) (pd G Q):=by
 unfold ag
 cases h:F env with
 | none=>simp [Wo]
 | some p =>
  obtain ⟨fl,e⟩:=p
  rw [a0i]
  cases fl with
  | nx=>exact fQ
  | bk=>rw [b1s];exact a0i
  | ct=>rw [b1r];exact a0i
  | rt r=>rw [b1p];exact a0i
theorem a2Y:Wo (cj c F G env) Q↔Wo (c env) λb=>(b=true->Wo (F env) Q)/\(b=false->Wo (G env) Q):=by
 unfold cj
 cases h:c env with
 | none=>simp [Wo]
 | some b=>cases b<;>simp [a0i]
theorem b7i:Wo (cQ env) Q↔Q (.nx,env):=a0i
theorem Wo_bk:Wo (Gw env) Q↔Q (.bk,env):=a0i
theorem b9l:Wo (av f env) Q↔Wo (f env) λr=>Q (.rt r,env):=a2A
theorem b9k:Wo (cP i f env) Q↔Wo (f env) λr=>i<env.length/\Q (.nx,env.set i r):=by
 unfold cP;rw [a0o];simp only [j7]
theorem b3b:Wo (aS i f env) Q↔Wo (f env) λr=>i<env.length/\Q (.nx,env.set i (.sh r.d)):=by
 unfold aS;rw [a0o];simp only [j7]
theorem b7D{f:En->Option Sl}{env:En}{Q:Fl×En->Prop}:Wo (J1 f env) Q↔Wo (f env) λ_=>Q (.nx,env):=a2A
noncomputable def kY:Option Sl->(Sl->Prop)->Prop
 | some (.sh d),Q=>Q (.sh d)
 | _,_=>False
theorem b69:kY (some (.sh d)) Q↔Q (.sh d):=fQ
theorem Wo_eV:Wo (eV i env) Q↔kY env[i]? Q:=by
 unfold eV
 cases env[i]? with
 | none=>simp [CW,kY,Wo]
 | some s=>cases s<;>simp [CW,kY,Wo]
theorem Wo_eC:Wo (eC d env) Q↔Q (.sh d):=a0i
theorem b9C:Wo (aa g fa fb env) Q↔Wo (fa env) λx=>Wo (fb env) λy=>Wo (g x.d y.d) Q:=by
 unfold aa;rw [a0o];simp only [a0o]
theorem b9p:Wo (iV f env) Q↔Wo (f env) λx=>Wo (vd x.d) Q:=a0o
theorem b7p:Wo (vd (.int i)) Q↔Q (.sh (.int (-i))):=a0i
theorem b7t:Wo (be (.int i) (.int j)) Q↔Q (.sh (.int (i+j))):=a0i
theorem b7n:Wo (aP (.int i) (.int j)) Q↔Q (.sh (.int (i-j))):=by rw [b8O,a0i]
theorem b7q:Wo (dF (.int i) (.int j)) Q↔MulC i j/\Q (.sh (.int (i*j))):=j7
theorem b7s:Wo (cU (.int i) (.int j)) Q↔DivC i j/\Q (.sh (.int (i/j))):=j7
theorem b9u:Wo (Ds a d) Q↔Wo (eh d) λx=>Wo (inD a x.2) λk=>Q (.sh (.bl k)):=by
 unfold Ds
 rw [a0o]
 simp only [a2A]
theorem b43:Wo (xt (.int i) (.int j)) Q↔jW i j/\Q (.sh (.int (i*j))):=j7
theorem b7r:Wo (bA (.int i) (.int j)) Q↔0<j/\Q (.sh (.int (i%j))):=j7
theorem b7o:Wo (eJ (.int i) (.int j)) Q↔PowC i j/\Q (.sh (.int (i^j.toNat))):=j7
theorem b9s:Wo (gn (.int i) (.int j)) Q↔Q (.sh (.bl (decide (i<j)))):=a0i
theorem b9t:Wo (oQ (.int i) (.int j)) Q↔Q (.sh (.bl (decide (i<=j)))):=a0i
theorem b9v:Wo (nY (.int i) (.int j)) Q↔Q (.sh (.bl (decide (j<i)))):=a0i
theorem b9w:Wo (Il (.int i) (.int j)) Q↔Q (.sh (.bl (decide (j<=i)))):=a0i
theorem b9x:Wo (fw (.int i) (.int j)) Q↔Q (.sh (.bl (decide (i=j)))):=a0i
theorem b9r:Wo (me (.int i) (.int j)) Q↔Q (.sh (.bl (!decide (i=j)))):=a0i
theorem b9q:Wo (iB a .aR) Q↔Q (.sh (.bl a.cR)):=a0i
theorem b7j:Wo (Eu a .aR) Q↔Q (.sh (.bl (!a.cR))):=a0i
theorem b9h:Wo (a9 f env) Q↔Wo (f env) λr=>Wo (BF (some r)) Q:=by
 unfold a9
 cases f env with
 | none=>simp [BF,Wo]
 | some r=>rw [a0i]
theorem b9G:Wo (BF (some (.sh (.bl b)))) Q↔Q b:=a0i
theorem b7d:Wo (gz f env) Q↔Wo (f env) λr=>Wo (lV r.d) Q:=a0o
theorem b7c:Wo (lV (.bl b)) Q↔Q b:=a0i
theorem b7b:Wo (lV (.lst r ds)) Q↔Q (!ds.isEmpty):=a0i
theorem b4X:Wo (Bv f env) Q↔Wo (f env) λr=>Q (!r.2.isEmpty):=by
 unfold Bv;rw [a0o];simp only [a0i]
theorem b7f:Wo (mw f g env) Q↔Wo (f env) λb=>(b=true->Wo (g env) Q)/\(b=false->Q false):=by
 unfold mw
 cases f env with
 | none=>simp [Wo]
 | some b=>cases b<;>simp [a0i]
theorem b9g:Wo (e7 f g env) Q↔Wo (f env) λb=>(b=true->Q true)/\(b=false->Wo (g env) Q):=by
 unfold e7
 cases f env with
 | none=>simp [Wo]
 | some b=>cases b<;>simp [a0i]
theorem b7e:Wo (xq f env) Q↔Wo (f env) λb=>Q (!b):=a2A
theorem b9B:Wo (lJ c f g env) Q↔Wo (c env) λb=>(b=true->Wo (f env) Q)/\(b=false->Wo (g env) Q):=by
 unfold lJ
 cases c env with
 | none=>simp [Wo]
 | some b=>cases b<;>simp [a0i]
theorem b7H:Wo (ab env) Q↔Q []:=a0i
theorem b5d:Wo (ae f g env) Q↔Wo (f env) λr=>Wo (g env) λds=>Q (r.d::ds):=by
 unfold ae;rw [a0o];simp only [a0o,a0i]
theorem b7y:Wo (aY f env) Q↔Wo (f env) λds=>ds.length<=16777216/\Q (.sh (.tup ds)):=by
 unfold aY;rw [a0o];simp only [j7]
theorem b7A:Wo (aO f env) Q↔Wo (f env) λds=>ds.length<=16777216/\Q (.ow ds):=by
 unfold aO;rw [a0o];simp only [j7]
noncomputable def jK:Option Sl->(Bool×List D->Prop)->Prop
 | some (.sh (.tup ds)),Q=>Q (false,ds)
 | some (.sh (.lst _ ds)),Q=>Q (true,ds)
 | some (.ow ds),Q=>Q (true,ds)
 | _,_=>False
theorem b9c:jK (some (.sh (.tup ds))) Q↔Q (false,ds):=fQ
theorem b9e:jK (some (.sh (.lst r ds))) Q↔Q (true,ds):=fQ
theorem b9d:jK (some (.ow ds)) Q↔Q (true,ds):=fQ
theorem Wo_bV:Wo (bV i env) Q↔jK env[i]? Q:=by
 unfold bV
 cases env[i]? with
 | none=>simp [wH,jK,Wo]
 | some s=>cases s with
  | no=>simp [wH,jK,Wo]
  | dw ds=>simp [wH,jK,Wo]
  | ow ds=>simp [wH,jK,Wo]
  | sh d=>cases d<;>simp [wH,jK,Wo,eh]
theorem b9D:Wo (fT f env) Q↔Wo (f env) λr=>Wo (eh r.d) Q:=a0o
theorem b9i:Wo (eh (.tup ds)) Q↔Q (false,ds):=a0i
theorem b9j:Wo (eh (.lst r ds)) Q↔Q (true,ds):=a0i
theorem b7B:Wo (bK f env) Q↔Wo (f env) λx=>Q (.sh (.int x.2.length)):=a2A
theorem b48:Wo (Bq f env) Q↔Wo (f env) λx=>Q (.ow x.2):=a2A
theorem b3e:Wo (BM f env) Q↔Wo (f env) λx=>x.1=true/\Q (.sh (.tup x.2)):=by
 unfold BM;rw [a0o];simp only [j7]
def G6(xs:List D)(d:D)(Q:Sl->Prop):Prop:=match d with
 | .int i=>Wo (fB xs i) λd=>Q (.sh d)
 | _=>False
theorem ixQ_i:G6 xs (.int i) Q↔Wo (fB xs i) λd=>Q (.sh d):=fQ
theorem b9A:Wo (au f g env) Q↔Wo (f env) λx=>Wo (g env) λy=>G6 x.2 y.d Q:=by
 unfold au
 rw [a0o]
 refine r9 λx=>?_
 rw [a0o]
 refine r9 λy=>?_
 unfold G6
 cases y.d<;>simp [a2A,a0s]
theorem cK{α:Type}{xs:List α}{n:Nat}:fB xs (n:Int)=xs[n]?:=by
 unfold fB l6
 rw [if_pos (by ext)]
 by_cases h:n<xs.length
 .rw [if_pos (by ext h)];simp
 .rw [if_neg (by ext h),OS (by ext h)];rfl
theorem atI_0{α:Type}{x:α}{xs:List α}:fB (x::xs) 0=some x:=cK (n:=0)
theorem atI_1{α:Type}{x y:α}{xs:List α}:fB (x::y::xs) 1=some y:=cK (n:=1)
theorem atI_2{α:Type}{x y z:α}{xs:List α}:fB (x::y::z::xs) 2=some z:=cK (n:=2)
theorem atI_3{α:Type}{x y z u:α}{xs:List α}:fB (x::y::z::u::xs) 3=some u:=cK (n:=3)
theorem b49:Wo (aG n φ fs env) Q↔Wo (fs env) λds=>ds.length=n/\Wo (φ ds) Q:=by
 unfold aG
 rw [a0o]
 have h:∀ds:List D,Wo (if ds.length=n then φ ds else none) Q↔ds.length=n/\Wo (φ ds) Q:=λds=>by
  by_cases h:ds.length=n<;>simp [h,a0s]
 simp only [h]
theorem b3g:Wo (p9 g fs env) Q↔Wo (fs env) λds=>Wo (g ds) Q:=a0o
theorem b5b:Wo (vO [.int i,.int j]) Q↔Q (.sh (.int (min i j))):=by
 have:(if j<i then j else i)=min i j:=by simp only [Int.min_def];split<;>split<;>lia
 unfold vO;rw [a0i,this]
theorem b5c:Wo (tX [.int i,.int j]) Q↔Q (.sh (.int (max i j))):=by
 have:(if j>i then j else i)=max i j:=by simp only [Int.max_def];split<;>split<;>lia
 unfold tX;rw [a0i,this]
theorem b4p:Wo (nT T (.aR)) Q↔Q (.sh (.bl (l7 T (.aR)))):=a0i
theorem b6I:Wo (nT T (.bl b)) Q↔Q (.sh (.bl (l7 T (.bl b)))):=a0i
theorem b4r:Wo (nT T (.int i)) Q↔Q (.sh (.bl (l7 T (.int i)))):=a0i
theorem b4o:Wo (nT T (.str x)) Q↔Q (.sh (.bl (l7 T (.str x)))):=a0i
theorem b4n:Wo (nT T (.tup ds)) Q↔Q (.sh (.bl (l7 T (.tup ds)))):=a0i
theorem b4q:Wo (nT T (.lst r ds)) Q↔Q (.sh (.bl (l7 T (.lst r ds)))):=a0i
noncomputable def aH(Q:Sl->Prop):Fl×En->Prop
 | (.rt r,_)=>Q r
 | (.nx,_)=>Q (.sh .aR)
 | _=>False
theorem b6U:aH Q (.rt r,e)↔Q r:=fQ
theorem bN:Wo (aE F N ds) Q↔Wo (F (p8 N ds)) (aH Q):=by
 unfold aE
 cases F (p8 N ds) with
 | none=>simp [Wo]
 | some p =>
  obtain ⟨fl,e⟩:=p
  rw [a0i]
  cases fl<;>simp [a0i,a0s,aH]
theorem Wo_for:Wo (c6 f g F env) Q↔Wo (f env) λr=>Wo (eh r.d) λx=>Wo (forL g F x.2 env) Q:=by
 unfold c6;rw [a0o];simp only [a0o]
theorem b7u:Wo (EE h f g F env) Q↔Wo (f env) λds=>Wo (h ds) λis=>Wo (forL g F is env) Q:=by
 unfold EE;rw [a0o];simp only [a0o]
theorem b7g:Wo (qX [.int j]) Q↔R62 j/\Q (ei 0 j.toNat):=j7
noncomputable def xr(I:En->Prop)(Q:Fl×En->Prop):Fl×En->Prop
 | (.nx,e)=>I e
 | (.ct,e)=>I e
 | (.bk,e)=>Q (.nx,e)
 | (.rt r,e)=>Q (.rt r,e)
theorem b3w:xr I Q (.nx,e)↔I e:=fQ
theorem b3x:xr I Q (.bk,e)↔Q (.nx,e):=fQ
theorem b3v:xr I Q (.rt r,e)↔Q (.rt r,e):=fQ
theorem iZ{α:Type}(enc:α->D)(I:List α->En->Prop)(xs:List α)(turn:∀pre a post env,xs=pre++a::post->I pre env->Wo (g (enc a) env) λe=>Wo (F e) (xr (I (pre++[a])) Q))
  (done:∀env,I xs env->Q (.nx,env)):∀{env:En},I [] env->Wo (forL g F (xs.map enc) env) Q:=by
 have key:∀(post pre:List α) (env:En),xs=pre++post->I pre env->Wo (forL g F (post.map enc) env) Q:=by
  intro post
  induction post with
  | nil =>
   intro pre env e h
   rw [nk] at e
   subst e
   exact ⟨_,rfl,done env h⟩
  | cons a post ih =>
   intro pre env e h
   obtain ⟨e1,h1,p,h2,h3⟩:=turn pre a post env e h
   rw [fg]
   unfold forL
   rw [h1]
   dsimp only
   rw [h2]
   obtain ⟨fl,e2⟩:=p
   cases fl with
   | nx=>exact ih (pre++[a]) e2 (by rw [e,fJ];rfl) h3
   | ct=>exact ih (pre++[a]) e2 (by rw [e,fJ];rfl) h3
   | bk=>exact ⟨_,rfl,h3⟩
   | rt r=>exact ⟨_,rfl,h3⟩
 exact λ{env} h=>key xs [] env rfl h
theorem QX(lo:Int)(n:Nat)(I:Nat->En->Prop)(turn:∀(k:Nat) env,k<n->I k env->Wo (g (.int (lo+k)) env) λe=>Wo (F e) (xr (I (k+1)) Q))
  (done:∀env,I n env->Q (.nx,env))(h:I 0 env):Wo (forL g F (ei lo n) env) Q:=by
 unfold ei
 refine iZ (λ(k:Nat)=>D.int (lo+(k:Int))) (λpre env=>I pre.length env) (fI n) (λpre a post env e h=>?_) (λenv h=>done env (by simpa using h)) h
 have hl:=congrArg mn e
 have ha:(fI n)[pre.length]?=some a:=by rw [e];simp
 simp at hl
 rw [List.getElem?_range (by ext hl)] at ha
 cases ha
 simpa using turn pre.length env (by ext hl) h
theorem Wo_gN:Wo (gN i d env) Q↔i<env.length/\Q (env.set i (.sh d)):=j7
theorem Wo_gT:Wo (gT n u (.tup ds) env) Q↔ds.length=n/\Wo (u ds env) Q:=by
 unfold gT
 by_cases h:ds.length=n<;>simp [h,a0s]
theorem b41:Wo (nv [] env) Q↔Q env:=a0i
theorem b3d:Wo (fq g u (d::ds) env) Q↔Wo (g d env) λe=>Wo (u ds e) Q:=a0o
theorem b9F:Wo (qW f g env) Q↔Wo (f env) λr=>Wo (g r.d env) λe=>Q (.nx,e):=by
 unfold qW;rw [a0o];simp only [a2A]
noncomputable def cE:Option Sl->(List D->Prop)->Prop
 | some (.ow ds),Q=>Q ds
 | _,_=>False
theorem b9f:cE (some (.ow ds)) Q↔Q ds:=fQ
theorem b9H:Wo (dQ i f env) Q↔cE env[i]? λds=>Wo (f env) λr=>ds.length<16777216/\Q (.nx,env.set i (.ow (ds++[r.d]))):=by
 unfold dQ
 cases env[i]? with
 | none=>simp [a0s,cE]
 | some s=>cases s with
  | no=>simp [a0s,cE]
  | dw d=>simp [a0s,cE]
  | sh d=>simp [a0s,cE]
  | ow ds=>dsimp only [cE];rw [a0o];simp only [j7]
def vf(env:En)(i:Nat)(ds:List D)(d:D)(Q:Fl×En->Prop):Prop:=match d with
 | .lst false es=>ds.length+es.length<=16777216/\Q (.nx,env.set i (.ow (ds++es)))
 | _=>False
theorem b8U:vf env i ds (.lst false es) Q↔ds.length+es.length<=16777216/\Q (.nx,env.set i (.ow (ds++es))):=fQ
theorem b9y:Wo (fM i f env) Q↔cE env[i]? λds=>Wo (f env) λr=>vf env i ds r.d Q:=by
 unfold fM
 cases env[i]? with
 | none=>simp [a0s,cE]
 | some s=>cases s with
  | no=>simp [a0s,cE]
  | dw d=>simp [a0s,cE]
  | sh d=>simp [a0s,cE]
  | ow ds =>
   dsimp only [cE];rw [a0o]
   refine r9 λr=>?_
   unfold vf
   cases r.d with
   | lst ro es=>cases ro<;>simp [j7,a0s]
   | _=>simp [a0s]
theorem b9m:Wo (lW i j env) Q↔cE env[j]? λds=>Wo ds[ds.length-1]? λd=>(i<env.length/\i≠j)/\Q (.nx,(env.set j (.ow ds.dropLast)).set i (.sh d)):=by
 unfold lW
 cases env[j]? with
 | none=>simp [a0s,cE]
 | some s=>cases s with
  | no=>simp [a0s,cE]
  | dw d=>simp [a0s,cE]
  | sh d=>simp [a0s,cE]
  | ow ds=>dsimp only [cE];rw [a0o];simp only [j7]
def JT(env:En)(i:Nat)(ds:List D)(d:D)(k:D)(Q:Fl×En->Prop):Prop:=match k with
 | .int n=>Wo (l6 ds.length n) λj=>Q (.nx,env.set i (.ow (ds.set j d)))
 | _=>False
theorem b6G:JT env i ds d (.int n) Q↔Wo (l6 ds.length n) λj=>Q (.nx,env.set i (.ow (ds.set j d))):=fQ
theorem b7l:Wo (xo i f g env) Q↔cE env[i]? λds=>Wo (f env) λr=>Wo (g env) λk=>JT env i ds r.d k.d Q:=by
 unfold xo
 cases env[i]? with
 | none=>simp [a0s,cE]
 | some s=>cases s with
  | no=>simp [a0s,cE]
  | dw d=>simp [a0s,cE]
  | sh d=>simp [a0s,cE]
  | ow ds =>
   dsimp only [cE];rw [a0o]
   refine r9 λr=>?_
   rw [a0o]
   refine r9 λk=>?_
   unfold JT
   cases k.d<;>simp [a0o,a0i,a0s]
theorem Qo:Wo (pf i F env) Q↔Wo (F (pO i env)) Q:=fQ
theorem PJ(h:env[i]?=some (.ow ds)):pO i env=env.set i (.sh (.lst false ds)):=by unfold pO;rw [h]
noncomputable def Ex(env:En):Option Sl->(Fl×En->Prop)->Prop
 | some (.ow ds),Q=>Q (.rt (.ow ds),env)
 | some (.dw ds),Q=>Q (.rt (.dw ds),env)
 | some (.sh d),Q=>Q (.rt (.sh d),env)
 | _,_=>False
theorem b7a:Ex env (some (.ow ds)) Q↔Q (.rt (.ow ds),env):=fQ
theorem b7h:Wo (j6 i env) Q↔Ex env env[i]? Q:=by
 unfold j6
 cases env[i]? with
 | none=>simp [a0s,Ex]
 | some s=>cases s<;>simp [a0s,a0i,Ex]
theorem b9o:Wo (nO env) Q↔Q none:=a0i
def pQ(d:D)(Q:Option Int->Prop):Prop:=match d with
 | .int i=>Q (some i)
 | _=>False
theorem pQ_i:pQ (.int i) Q↔Q (some i):=fQ
theorem b9n:Wo (mR f env) Q↔Wo (f env) λr=>pQ r.d Q:=by
 unfold mR
 rw [a0o]
 refine r9 λr=>?_
 unfold pQ
 cases r.d<;>simp [a0i,a0s]
theorem b9z:Wo (mZ f lo hi env) Q↔Wo (f env) λx=>Wo (lo env) λl=>Wo (hi env) λh =>
  (x.1=true->Q (.ow (cutD x.2 l h)))/\(x.1=false->¬(HT.bz x.2.length 0 l=0/\HT.bz x.2.length x.2.length h=x.2.length)/\Q (.sh (.tup (cutD x.2 l h)))):=by
 unfold mZ
 rw [a0o]
 simp only [a0o]
 have h:∀(x:Bool×List D) (l h:Option Int),Wo (if x.1=true then some (Sl.ow (cutD x.2 l h)) else if ¬(HT.bz x.2.length 0 l=0/\HT.bz x.2.length x.2.length h=x.2.length) then some (.sh (.tup (cutD x.2 l h))) else none) Q ↔
   (x.1=true->Q (.ow (cutD x.2 l h)))/\(x.1=false->¬(HT.bz x.2.length 0 l=0/\HT.bz x.2.length x.2.length h=x.2.length)/\Q (.sh (.tup (cutD x.2 l h)))):=λx l h=>by
  obtain ⟨k,ds⟩:=x
  cases k
  .simp only [oh,if_false,j7];simp
  .simp [a0i]
 simp only [h]
theorem Sl_sh:Sl.d (.sh d)=d:=rfl
theorem Sl_ow:Sl.d (.ow ds)=.lst false ds:=rfl
theorem b44:Wo (be (.lst false a) (.lst false b)) Q↔a.length+b.length<=16777216/\Q (.ow (a++b)):=j7
theorem BU{α β:Type}{f:α->β}{xs:List α}{i:Int}(z:α)(h0:0<=i)(h:i<xs.length):fB (xs.map f) i=some (f (xs.getD i.toNat z)):=by
 unfold fB l6
 rw [aQ,if_pos h0,if_pos h]
 have:i.toNat<xs.length:=by ext h0 h
 simp [this]
theorem b2i:D.cR .aR=true:=rfl
theorem b4s:D.cR (.bl b)=false:=rfl
theorem b2k:D.cR (.int i)=false:=rfl
theorem b2h:D.cR (.str x)=false:=rfl
theorem b2g:D.cR (.tup ds)=false:=rfl
theorem b2j:D.cR (.lst r ds)=false:=rfl
theorem xE(xs:List Int){i:Int}(h0:0<=i)(h1:i<xs.length)(h:∀v∈xs,Q (.int v))(e:ds=xs.map D.int:=by rfl):Wo (fB ds i) Q:=by
 have hi:i.toNat<xs.length:=by ext h0 h1
 rw [e,BU 0 h0 h1,a0i,show xs.getD i.toNat 0=xs[i.toNat] by simp [hi]]
 exact h _ (lN hi)
theorem b7E:Wo (fR fi caps nt g fc fe env) Q↔Wo (fi env) λds=>Wo (iX caps env) λcs=>ds.length<=16777216/\Wo (nu g fc fe ds (jo nt Sl.no++cs)) λrs=>Q (.ow rs):=by
 unfold fR
 rw [a0o]
 refine r9 λds=>?_
 rw [a0o]
 refine r9 λcs=>?_
 by_cases h:ds.length<=16777216
 .rw [if_pos h,a2A];exact ⟨λz=>⟨h,z⟩,λz=>z.2⟩
 .rw [if_neg h,a0s];exact ⟨kP,λz=>h z.1⟩
theorem b7G:Wo (iX [] env) Q↔Q []:=a0i
theorem b7F:Wo (iX (i::is) env) Q↔kY env[i]? λs=>Wo (iX is env) λcs=>Q (s::cs):=by
 rw [iX]
 cases h:env[i]? with
 | none=>simp [a0s,kY]
 | some s=>cases s<;>simp [a0s,kY,a2A]
theorem rep0{l:En}:jo 0 Sl.no++l=l:=rfl
theorem rep1{l:En}:jo 1 Sl.no++l=Sl.no::l:=rfl
theorem rep2{l:En}:jo 2 Sl.no++l=Sl.no::Sl.no::l:=rfl
theorem rep3{l:En}:jo 3 Sl.no++l=Sl.no::Sl.no::Sl.no::l:=rfl
theorem rep4{l:En}:jo 4 Sl.no++l=Sl.no::Sl.no::Sl.no::Sl.no::l:=rfl
theorem b4W:Wo (iO env) Q↔Q true:=a0i
theorem b5a:Wo (nu g fc fe [] e) Q↔Q []:=a0i
theorem b7w:Wo (e9 f env) Q↔Wo (f env) λr=>Wo (eh r.d) λx=>Q x.2:=by
 unfold e9;rw [a0o];simp only [a2A]
theorem b7x:Wo (eL h f env) Q↔Wo (f env) λds=>Wo (h ds) Q:=a0o
theorem b7v:Wo (vM f g F env) Q↔Wo (f env) λds=>Wo (forL g F ds env) Q:=a0o
theorem lg{α:Type}(enc:α->D)(f:α->D)(P:En->Prop)(xs:List α)
  (h:∀a∈xs,∀e,P e->Wo (g (enc a) e) λe1=>P e1/\Wo (fc e1) λb=>b=true/\Wo (fe e1) λr=>r.d=f a):∀{e:En},P e->nu g fc fe (xs.map enc) e=some (xs.map f):=by
 induction xs with
 | nil=>intro e _;rfl
 | cons a xs ih =>
  intro e he
  obtain ⟨e1,g1,p1,b,c1,rfl,r,f1,f2⟩:=h a bw e he
  rw [fg,nu,g1,rM,c1,rM,if_pos rfl,f1,rM,ih (λb hb=>h b (bG _ hb)) p1,f2]
  rfl
theorem a9C{α:Type}(enc:α->D)(p:α->Bool)(f:α->D)(P:En->Prop)(xs:List α)
  (h:∀a∈xs,∀e,P e->Wo (g (enc a) e) λe1=>P e1/\Wo (fc e1) λb=>b=p a/\(p a=true->Wo (fe e1) λr=>r.d=f a)):∀{e:En},P e->nu g fc fe (xs.map enc) e=some ((xs.filter p).map f):=by
 induction xs with
 | nil=>intro e _;rfl
 | cons a xs ih =>
  intro e he
  obtain ⟨e1,g1,p1,b,c1,rfl,k⟩:=h a bw e he
  have NU:=ih (λb hb=>h b (bG _ hb)) p1
  rw [fg,nu,g1,rM,c1,rM]
  cases hp:p a with
  | true =>
   obtain ⟨r,f1,f2⟩:=k hp
   rw [if_pos rfl,f1,rM,NU,f2,List.filter_cons_of_pos hp]
   rfl
  | false=>rw [if_neg nh,NU,List.filter_cons_of_neg (by simp [hp])]
theorem b7z:Wo (iU f env) Q↔Wo (f env) λx=>Wo (o3 x.2) λns=>Q (.sh (.int ns.sum)):=by
 unfold iU;rw [a0o];simp only [a2A]
theorem b7C:Wo (rF f env) Q↔Wo (f env) λx=>Wo (mq x.2) λns=>Q (.sh (.bl (ns.all id))):=by
 unfold rF;rw [a0o];simp only [a2A]
theorem b7m:Wo (o3 (ns.map D.int)) Q↔Q ns:=by rw [ug,a0i]
theorem b7k(P:D->Prop)(hi:i<env.length)
  (hc:Wo (c env) λb=>(b=true->Wo (f env) λr=>P r.d)/\(b=false->∃d,env[i]?=some (.sh d)/\P d))(h:∀d,P d->Q (.nx,env.set i (.sh d))):Wo (cj c (aS i f) cQ env) Q:=by
 rw [a2Y]
 refine hc.mono λb hb=>⟨λe=>?_,λe=>?_⟩
 .rw [b3b]
  exact (hb.1 e).mono λr hr=>⟨hi,h _ hr⟩
 .obtain ⟨d,e1,e2⟩:=hb.2 e
  rw [b7i]
  have:=h d e2
  rwa [show env.set i (.sh d)=env by
   obtain ⟨h1,h2⟩:=gH.mp e1
   rw [<-h2,List.set_getElem_self]] at this
theorem iC{α:Type}{xs:List α}{x:α}:fB (xs++[x]) (-1)=some x:=by
 unfold fB l6
 rw [if_neg (by decide),if_pos (by rw [cX,JB];ext),cX,JB]
 have:(-1+((xs.length+1:Nat):Int)).toNat=xs.length:=by ext
 rw [this]
 simp
theorem B2(I:Nat->En->Prop)(turn:∀n env,I n env->Wo (c env) λb=>(b=true->Wo (F env) (xr (λe=>∃m,m<n/\I m e) Q))/\(b=false->Q (.nx,env))):
  ∀(fuel n:Nat) {env:En},n<fuel->I n env->Wo (qO c F fuel env) Q
 | 0,n,env,h,_=>absurd h (Nat.not_lt_zero _)
 | fuel+1,n,env,h,hI=>by
  obtain ⟨b,e1,h1,h2⟩:=turn n env hI
  rw [qO,e1]
  cases b with
  | false=>exact ⟨_,rfl,h2 rfl⟩
  | true =>
   obtain ⟨⟨fl,e2⟩,e3,h3⟩:=h1 rfl
   dsimp only
   rw [e3]
   cases fl with
   | nx=>obtain ⟨m,hm,Ig⟩:=h3;exact B2 I turn fuel m (by ext h hm) Ig
   | ct=>obtain ⟨m,hm,Ig⟩:=h3;exact B2 I turn fuel m (by ext h hm) Ig
   | bk=>exact ⟨_,rfl,h3⟩
   | rt r=>exact ⟨_,rfl,h3⟩
theorem Ly:Wo (BI m c F env) Q↔Wo (qO c F (m env) env) Q:=fQ
noncomputable def ml{α:Type}(xs:List α)(lo hi:Option Int):List α:=(xs.drop (HT.bz xs.length 0 lo)).take (HT.bz xs.length xs.length hi-HT.bz xs.length 0 lo)
theorem LB{α:Type}{f:α->D}(xs:List α)(lo hi:Option Int):cutD (xs.map f) lo hi=(ml xs lo hi).map f:=by
 unfold cutD ml
 rw [aQ,<-List.map_drop,<-List.map_take]
theorem b40:Wo (Bt [.int j]) Q↔Q (ei 0 j.toNat):=a0i
theorem b4Z:Wo (EB [.int i,.int j]) Q↔Q (ei i (j-i).toNat):=a0i
theorem b4V:Wo (nH [.lst r a,.lst r' b]) Q↔Q (ic a b):=a0i
def BC(i:Nat)(env:En)(a b:Sl)(Q:Fl×En->Prop):Prop:=match a,b with
 | .sh (.int m),.sh (.int n)=>Q (.nx,env.set i (.sh (.int (m+n))))
 | _,_=>False
theorem b9b:BC i env (.sh (.int m)) (.sh (.int n)) Q↔Q (.nx,env.set i (.sh (.int (m+n)))):=fQ
theorem b9E:Wo (iR i f env) Q↔kY env[i]? λa=>Wo (f env) λr=>BC i env a r Q:=by
 constructor
 .rintro ⟨y,e,h⟩
  obtain ⟨m,n,e1,e2,rfl⟩:=RX e
  rw [e1];exact ⟨_,e2,h⟩
 .intro h
  cases hi:env[i]? with
  | none=>rw [hi] at h;exact h.elim
  | some s =>
   rw [hi] at h
   cases s with
   | no=>exact h.elim
   | ow ds=>exact h.elim
   | dw ds=>exact h.elim
   | sh d =>
    obtain ⟨r,e1,h⟩:=h
    cases d with
    | int m =>
     cases r with
     | sh d2 =>
      cases d2 with
      | int n=>exact ⟨_,by unfold iR;rw [hi,e1],h⟩
      | _=>exact h.elim
     | _=>exact h.elim
    | _=>exact h.elim
theorem b45:Wo (vL [.lst r ds]) Q↔Q (tU ds):=a0i
def Gu(d:D)(Q:Sl->Prop):Prop:=match d with
 | .lst _ ds=>Wo (xp ds) λrs=>Q (.ow rs)
 | _=>False
theorem srQ_l:Gu (.lst r ds) Q↔Wo (xp ds) λrs=>Q (.ow rs):=fQ
theorem b0Z:Wo (EX f env) Q↔Wo (f env) λr=>Gu r.d Q:=by
 unfold EX
 rw [a0o]
 refine r9 λr=>?_
 cases r.d<;>simp [Gu,a0s,a2A]
end DL
namespace DL
theorem Bx(h1:-A<=a)(h2:a<=A)(h3:-B<=b)(h4:b<=B):-(A*B)<=a*b/\a*b<=A*B:=by
 have hA:0<=A:=by ext h1 h2
 have hB:0<=B:=by ext h3 h4
 have e1:(A-a)*(B+b)=A*B+A*b-a*B-a*b:=by grind
 have e2:(A+a)*(B-b)=A*B-A*b+a*B-a*b:=by grind
 have e3:(A-a)*(B-b)=A*B-A*b-a*B+a*b:=by grind
 have e4:(A+a)*(B+b)=A*B+A*b+a*B+a*b:=by grind
 have f1:=oU (show 0<=A-a by ext h2) (show 0<=B+b by ext h3)
 have f2:=oU (show 0<=A+a by ext h1) (show 0<=B-b by ext h4)
 have f3:=oU (show 0<=A-a by ext h2) (show 0<=B-b by ext h4)
 have f4:=oU (show 0<=A+a by ext h1) (show 0<=B+b by ext h3)
 ext e1 e2 e3 e4 f1 f2 f3 f4
theorem ub(h:-(10^250)<=i)(h2:i<=10^250)(h3:-(10^250)<=j)(h4:j<=10^250):MulC i j:=.inr (.inr ⟨⟨h,h2⟩,h3,h4⟩)
theorem vY(h:0<j)(h2:j<=10^250):DivC i j:=⟨h,h2⟩
theorem Rn{a b:Int}(hb:0<b):a/b*b<=a/\a<(a/b+1)*b:=by
 have h1:=Int.emod_add_mul_ediv a b
 have h2:=jq a (Int.ne_of_gt hb)
 have h3:=js a hb
 generalize a/b=q at *
 exact ⟨by grind,by grind⟩
end DL
namespace DL
open PySem PySem.Spec PyProof.Rows L2
section
variable {P:Program}{w:World}{K:aJ}{mg:Str->Option Value}{base:Heap}{N:List Str}{qual:Str}{scope:Scope}{f:Addr}{cd:Value}{A:Around}{outer:List Env}{s:Shared}{H:Hp}{E:XK}
end
end DL
namespace DL
open PySem PySem.Spec PyProof.Rows L2
section
variable {X:Cx}{W:L2.St->Hp->Value->Prop}{e a b c:Expr}{es:List Expr}{st:Stmt}{rest sa sb:List Stmt}{F G:SF}{r r':RF}{re:En->Option Str}{fa:En->Option Sl}{ga:En->Option Bool}{fs:En->Option (List D)}{pos p aW np:Pos}
noncomputable def BH:SF:=λ_=>none
theorem Le:SV X st BH:=⟨λ_ _ _=>False,λ_ _ _ _ _ _ h=>h.elim,λ_ _ _ _ _ _ _ _ _ e _=>by cases e⟩
end
section
variable {X:Cx}{W:L2.St->Hp->Value->Prop}{e:Expr}{es:List Expr}{fs:En->Option (List D)}{pos p aW np:Pos}{x:Str}{C:Addr}
end
section
variable {P:Program}{w:World}{K:aJ}{mg:Str->Option Value}{base:Heap}
end
end DL
namespace DL
open PySem PySem.Spec PyProof.Rows L2
section
variable {X:Cx}{pins:List (Addr×Obj)}{σ:L2.St}{H:Hp}{s:Shared}{h':Heap}
end
end DL
namespace DL
open PySem PySem.Spec PyProof.Rows L2
section
variable {X:Cx}{N:List Str}{sc:Scope}{k i:Nat}{n Cn:Str}{hc:Value}{body Nt:List Stmt}{b0:Stmt}{Fb Fh:SF}{rb:RF}{hit:Str->Bool}{np Hv pos:Pos}
end
end DL
namespace DL
open PySem PySem.W PySem.Spec PySem.Calls PyProof.Rows L2 PySem.Builtin.ObjectAttr PySem.Builtin PySem.Builtin.Getset_descriptor
section
variable {prog:Program}{w:World}{A:Around}{E:Value->Shared->Prop}{s:Shared}{K:Frag}{x C:Addr}
end
section
variable {X:Cx}{a:Expr}{pos p p2:Pos}{fa:En->Option Sl}
end
section
variable {X:Cx}{N:List Str}{sc:Scope}{pos p p1 p2 pos' aW:Pos}{e a b:Expr}{fa fb:En->Option Sl}
end
theorem b3c:Wo (BH env) Q↔False:=a0s
end DL
namespace DL
open PySem PySem.Spec PyProof.Rows L2
theorem b6P{P:Program}{w:World}{K:aJ}{mg:Str->Option Value}{base:Heap}{k n:Nat}{f:Addr}{fd:FuncData}{ps:List Str}{φ:List D->Option Sl}(h:∀ds r,φ ds=some r->False):cW P w K mg base jX k f fd ps (nI K n φ):=
 ⟨λvs H Q E q=>by obtain ⟨O,ds,r,_,_,_,e,_⟩:=q;exact (h ds r e).elim,λA outer s H args us vs Q E _ _ _ _ q=>by obtain ⟨O,ds,r,_,_,_,e,_⟩:=q;exact (h ds r e).elim⟩
section
variable {X:Cx}{W:L2.St->Hp->Value->Prop}{it tg:Expr}{re:En->Option Str}{pos:Pos}
noncomputable def xu:D->D->Option Sl
 | .bl a,.bl b=>some (.sh (.bl (decide (a≠b))))
 | _,_=>none
theorem b6p:fW X (compareOp .IsNot) (λx y H Q=>∃a b,x=.bl a/\y=.bl b/\Q (.bl (decide (a≠b))) H):=by
 intro pins s σ H x y v u Q I rx ry h
 obtain ⟨a,b,rfl,rfl,q⟩:=h
 cases rx
 cases ry
 cases a<;>cases b<;>exact aU ⟨.bl _,H,I,rfl,q⟩
theorem KL:g9 X (compareOp .IsNot) xu:=by
 refine ⟨_,b6p,λO H x y a b s Q hO hx hy e q=>?_⟩
 unfold xu at e
 split at e
 .cases e
  exact ⟨_,_,tV hx,tV hy,q _ H (aq.refl _) (Is.bl _)⟩
 .cases e
end
theorem b6n{P:Program}{w:World}{K:aJ}{mg:Str->Option Value}{base:Heap}{x:Str}{st:Stmt}{ps:List Str}{j:Nat}{f:Addr}{fd:FuncData}(D':Def K mg x st ps f fd):Oz P w K mg base x st ps j λ_=>none:=⟨f,fd,D',b6P λ_ _ z=>nomatch z⟩
end DL
namespace DL
open PySem PySem.Spec PyProof.Rows L2
section
variable {prog:Program}{w:World}{A:Around}{R:Result->Shared->Prop}{I:Addr}{fp wr:List Addr}{n:Nat}{P:Nat->Value->Prop}{St:Nat->Heap->Prop}
def CO(prog:Program)(w:World)(A:Around)(P:Nat->Value->Prop)(KH:Heap->Prop)(bt:Nat->Nat->Bool):Prop:=∀i j x y (s:Shared) (Q:Value->Shared->Prop) (E:Value->Shared->Prop),P i x->P j y->KH s.heap->Q (.bool (bt i j)) s->wpAny (model prog w) A (richCompare .Lt x y) Q E s
theorem G0(W:Walks prog w A.in1 I fp wr n P St)(bt:Nat->Nat->Bool)(cmp:CO prog w A.in1 P KH bt)(S:Addr)(nS:S∉fp)
  (kk:∀h h':Heap,KH h->(∀b o,b∉wr->b≠S->h.get? b=some o->h'.get? b=some o)->KH h'):
  ∀(m j:Nat) (s:Shared) (best:Value) (c:Nat),n-(j+1)=m->j+1<=n->St (j+1) s.heap->KH s.heap->P (argBest bt j) best->s.heap.get? S=some { cls:=.type "list",dict:=none,data:=.seq #[best,best] c,slots:=#[] } ->
  (∀v h' tk,P (argBest bt (n-1)) v->(∀b o,b∉wr->b≠S->s.heap.get? b=some o->h'.get? b=some o)->R (.ok (.ret v)) { s with heap:=h',toks:=tk })->codeAny (model prog w) A (.builtin "min.loop" ⟨[.ref I,.none,.ref S],[]⟩) R s:=by
 have nw:S∉wr:=λz=>nS (W.sub _ z)
 have nm:(toString "min" ++ toString ".loop":String) = "min.loop":=by decide
 intro m
 induction m with
 | zero =>
  intro j s best c e1 e2 st kh pb hS hR
  have ej:j+1=n:=by ext e1 e2
  apply rQ wX
  rw [rS nq]
  show wpAny _ A.in1 (seqItems? (.ref S) >>= _) _ _ _
  apply ao
  refine kX hS rfl ?_
  show wpAny _ A.in1 (tryCatch (pyNext (.ref I)) _ >>= _) _ _ _
  apply ao
  refine nj (W.done s _ _ (ej▸st) λh1 tk k1=>?_)
  have gm:=k1 S _ nw hS
  show wpAny _ A.in1 (updateSeq S (λ_=>#[]) >>= _) _ _ ⟨_,_,_,_,_⟩
  apply ao
  refine rP gm rfl ?_
  apply ao
  refine lK (aU ?_)
  exact hR best _ tk (by rw [<-ej];exact pb) λb o nb dJ e=>(fU _ _ (fH dJ)).trans (k1 b o nb e)
 | succ m ih =>
  intro j s best c e1 e2 st kh pb hS hR
  have lt:j+1<n:=by ext e1
  apply rQ wX
  rw [rS nq]
  show wpAny _ A.in1 (seqItems? (.ref S) >>= _) _ _ _
  apply ao
  refine kX hS rfl ?_
  show wpAny _ A.in1 (tryCatch (pyNext (.ref I)) _ >>= _) _ _ _
  apply ao
  refine nj (W.item (j+1) s _ _ lt st λv h1 tk pv mN k1=>?_)
  have gm:=k1 S _ nw hS
  have pF:KH h1:=kk _ _ kh λb o nb _ e=>k1 b o nb e
  show wpAny _ A.in1 (tryCatch (holding [v,v] (richCompare .Lt v best >>= _)) _ >>= _) _ _ ⟨_,_,_,_,_⟩
  apply ao
  refine nj (nr ?_)
  apply ao
  refine cmp (j+1) (argBest bt j) v best _ _ _ pv pb pF ?_
  apply ao
  refine nr (tL ?_)
  apply ao
  refine lK (aU ?_)
  cases hb:bt (j+1) (argBest bt j) with
  | true =>
   simp only [if_true]
   apply ao
   refine rP gm rfl ?_
   apply ao
   apply lK
   rw [nm]
   have k2:∀b o,b≠S->h1.get? b=some o->(h1.update S λx=>{ x with data:=.seq #[v,v] (c+1) }).get? b=some o:=λb o nb e=>(fU _ _ (fH nb)).trans e
   refine aU ⟨oS nq _,ih (j+1) _ v _ (by ext e1) lt (W.frame _ _ _ mN λb bf o e=>?_) (kk _ _ pF λb o nb dJ e=>?_) (by simp only [argBest,hb,if_true];exact pv) (tN _ gm rfl) λv2 h2 j' kq k2=>?_⟩
   .exact (fU _ _ (λz:S=b=>nS (z▸bf))).trans e
   .exact (fU _ _ (fH dJ)).trans e
   .exact hR v2 h2 j' kq λb o nb dJ e=>k2 b o nb dJ ((fU _ _ (fH dJ)).trans (k1 b o nb e))
  | false =>
   simp only [oh,if_false]
   apply ao
   apply lK
   rw [nm]
   refine aU ⟨oS nq _,ih (j+1) _ best c (by ext e1) lt mN pF (by simp only [argBest,hb,oh,if_false];exact pb) gm λv2 h2 j' kq k2=>?_⟩
   exact hR v2 h2 j' kq λb o nb dJ e=>k2 b o nb dJ (k1 b o nb e)
theorem b2Z
  (h:wpAny (model prog w) A.in1 (pyIter x) (λit s2=>∃I fp wr n P St bt KH,it=.ref I/\Walks prog w A.in1 I fp wr n P St/\St 0 s2.heap/\(∀b∈fp,b<s2.heap.objs.size)/\0<n/\CO prog w A.in1 P KH bt /\
   (∀h h':Heap,KH h->(∀b o,b∉wr->b≠s2.heap.objs.size->h.get? b=some o->h'.get? b=some o)->KH h')/\KH s2.heap /\
   ∀v h' tk,P (argBest bt (n-1)) v->(∀b o,b∉wr->s2.heap.get? b=some o->h'.get? b=some o)->Q v { s2 with heap:=h',toks:=tk }) E s):
  wpAny (model prog w) A (call (.builtin "min") [x]) Q E s:=by
 have nm:(toString "min" ++ toString ".loop":String) = "min.loop":=by decide
 apply call_function_tree F.kind_min F.plain_min F.entry_min (F.args_min1 _)
 show wpAny _ A.in1 (Jy "min" ["key","default"] 0 ⟨[],[]⟩ >>= _) _ _ _
 apply ao
 refine Dz (a:=[none,none]) rfl ?_
 apply ao
 apply aU
 apply ao
 refine aZ h λit s2 h2=>?_
 obtain ⟨I,fp,wr,n,P,St,bt,KH,rfl,W,st,gD,hn,cmp,kk,kh,hQ⟩:=h2
 apply ao
 refine qB ?_
 have nS:s2.heap.objs.size∉fp:=λz=>lO _ (gD _ z)
 have nw:s2.heap.objs.size∉wr:=λz=>nS (W.sub _ z)
 rw [nm]
 refine aU ⟨oS nq _,?_⟩
 apply rQ wX
 rw [rS nq]
 show wpAny _ A.in1 (seqItems? (.ref s2.heap.objs.size) >>= _) _ _ ⟨_,_,_,_,_⟩
 apply ao
 refine kX (fj _ rfl) rfl ?_
 show wpAny _ A.in1 (tryCatch (pyNext (.ref I)) _ >>= _) _ _ _
 apply ao
 refine nj (W.item 0 _ _ _ hn (W.frame _ _ _ st λb _ o e=>bC _ e) λv h1 tk pv mN k1=>?_)
 have gm:=k1 _ _ nw (fj _ rfl)
 show wpAny _ A.in1 (updateSeq s2.heap.objs.size (λ_=>#[v,v]) >>= _) _ _ ⟨_,_,_,_,_⟩
 apply ao
 refine rP gm rfl ?_
 rw [nm]
 have NO:∀b o,b∉wr->s2.heap.get? b=some o->h1.get? b=some o:=λb o nb e=>k1 b o nb (bC _ e)
 refine aU ⟨oS nq _,G0 W bt cmp _ nS kk _ 0 _ v _ rfl hn (W.frame _ _ _ mN λb bf o e=>?_) (kk _ _ kh λb o nb dJ e=>?_) pv (tN _ gm rfl) λv2 h2 j' kq k2=>?_⟩
 .exact (fU _ _ (λz:s2.heap.objs.size=b=>nS (z▸bf))).trans e
 .exact (fU _ _ (fH dJ)).trans (NO b o nb e)
 .exact hQ v2 h2 j' kq λb o nb e=>k2 b o nb (dq (bU e)) ((fU _ _ (fH (dq (bU e)))).trans (NO b o nb e))
end
noncomputable def eD:List (List Int)->List Int
 | []=>[]
 | x::r=>r.foldl (λm y=>if HT.lexLt y m then y else m) x
theorem Qp(ns:List (List Int)):∀j,j<ns.length->argBest (λi j=>HT.lexLt (ns.getD i []) (ns.getD j [])) j<ns.length/\ns.getD (argBest (λi j=>HT.lexLt (ns.getD i []) (ns.getD j [])) j) []=eD (ns.take (j+1))
 | 0,h=>by
  refine ⟨h,?_⟩
  cases ns with
  | nil=>cases h
  | cons n r=>rfl
 | j+1,h=>by
  obtain ⟨h1,h2⟩:=Qp ns j (by ext h)
  have e:ns.take (j+1+1)=ns.take (j+1)++[ns.getD (j+1) []]:=by rw [List.take_add_one];simp [h]
  have e2:eD (ns.take (j+1+1))=if HT.lexLt (ns.getD (j+1) []) (eD (ns.take (j+1))) then ns.getD (j+1) [] else eD (ns.take (j+1)):=by
   rw [e]
   cases ns with
   | nil=>cases h
   | cons n r=>simp only [O6,Eh,eD,Ba,oW,I9];rfl
  rw [e2,<-h2]
  simp only [argBest]
  split
  .exact ⟨h,rfl⟩
  .exact ⟨h1,rfl⟩
section
variable {X:Cx}{a b:Expr}{ba:En->Option (Bool×List D)}{fa fb:En->Option Sl}{p pos:Pos}{W:L2.St->Hp->Value->Prop}{re:En->Option Str}
theorem Fg:∀{ns:List Int} {ak:List Value},aA (ns.map V.int) ak->IntsAre ak ns
 | [],_,.nil=>.nil
 | n::r,_,.cons h t=>by obtain ⟨u,rfl⟩:=h;exact .cons _ _ (Fg t)
theorem b2Y(hc:X.calm=true)(hu:X.A.units+1<cLine):oY X (.builtin "min") (λxs H Q=>∃(q:Addr) (k:Bool) (vs:List V) (rs:List (List Int)),xs=[.ref q]/\Sq X.K H k q vs/\rs≠[]/\vs.length=rs.length /\
  (∀i v,vs[i]?=some v->∃c,v=.ref c/\dN X.K H c ((rs.getD i []).map V.int))/\∀i v,vs[i]?=some v->rs.getD i []=eD rs->Q v H):=by
 intro pins s σ H xs us Q I r h
 obtain ⟨q,k,vs,rs,rfl,hq,bI,hlen,mW,qq⟩:=h
 obtain ⟨u,rfl,ru⟩:=r.one
 cases ru
 refine b2Z (B0 (A':=X.A.in1) I (I.ok.hd hc) hq λak h2 St rv W qR k1 gD=>?_)
 have hl:ak.length=rs.length:=by rw [<-rv.length,hlen]
 have hp:0<rs.length:=qz.mpr bI
 have hsz:s.heap.objs.size<h2.objs.size:=gD _ bw
 have dP:∀i v,ak[i]?=some v->∃c items,v=.ref c/\c<s.heap.objs.size/\IsTup s.heap c items/\IntsAre items.toList (rs.getD i []):=λi v hv=>by
  have hi:i<vs.length:=by rw [rv.length];exact (gH.mp hv).1
  obtain ⟨c,e1,e2⟩:=mW i vs[i] (gu hi)
  obtain ⟨u',iw,mQ⟩:=rv.get (gu hi)
  rw [hv] at iw
  cases iw
  rw [e1] at mQ
  obtain rfl:v=dX c:=mQ
  obtain ⟨items,yI,pl,_⟩:=I.tuple e2
  refine ⟨c,items.toArray,rfl,pl.lt,pl,by simpa using Fg yI⟩
 refine ⟨_,_,_,_,_,_,λi j=>HT.lexLt (rs.getD i []) (rs.getD j []),λh=>∀b o,b<s.heap.objs.size->s.heap.get? b=some o->h.get? b=some o,rfl,W,qR,gD,by ext hl hp,?_,?_,λb o _ e=>k1 b o e,λv h' tk hv hk=>?_⟩
 .intro i j x y s' Q' E' hx hy kh dR
  obtain ⟨c,NQ,rfl,l1,t1,i1⟩:=dP i x hx
  obtain ⟨d,NP,rfl,l2,t2,i2⟩:=dP j y hy
  obtain ⟨o1,g1,r1⟩:=t1
  obtain ⟨o2,g2,r2⟩:=t2
  exact HT.iq ⟨o1,kh c o1 l1 g1,r1⟩ ⟨o2,kh d o2 l2 g2,r2⟩ i1 i2 (by show X.A.units+1<_;exact hu) dR
 .intro h h' kh kp b o lb e
  exact kp b o (λz=>by rw [bY.mp z] at lb;exact lO _ lb) (dq (Jd lb hsz)) (kh b o lb e)
 .obtain ⟨b1,b2⟩:=Qp rs (ak.length-1) (by ext hl hp)
  have e2:rs.take (ak.length-1+1)=rs:=by rw [vt];ext hl
  rw [e2] at b2
  have hi:=(gH.mp hv).1
  have mY:argBest (λi j=>HT.lexLt (rs.getD i []) (rs.getD j [])) (ak.length-1)<vs.length:=by rw [rv.length];exact hi
  obtain ⟨u',iw,mQ⟩:=rv.get (gu mY)
  rw [hv] at iw
  cases iw
  exact ⟨_,H,wg I k1 hk,mQ,qq _ _ (gu mY) b2⟩
noncomputable def qE:List D->Option (List (List Int))
 | []=>some []
 | .tup ds::r=>(o3 ds).bind λx=>(qE r).map (x::·)
 | _::_=>none
theorem FD:∀{ds:List D} {rs:List (List Int)},qE ds=some rs->ds=rs.map λx=>.tup (x.map D.int)
 | [],rs,e=>by cases e;rfl
 | .tup ds::r,rs,e=>by
  obtain ⟨x,e1,e2⟩:=bind_some (show (o3 ds).bind _=some rs from e)
  obtain ⟨y,e3,rfl⟩:=map_some e2
  rw [fg,<-FD e3,<-L7 e1]
 | .aR::_,_,e=>by cases e
 | .bl _::_,_,e=>by cases e
 | .int _::_,_,e=>by cases e
 | .str _::_,_,e=>by cases e
 | .lst _ _::_,_,e=>by cases e
 | .exc _::_,_,e=>by cases e
 | .fx _ _::_,_,e=>by cases e
noncomputable def Ey(f:En->Option (Bool×List D)):En->Option Sl:=λenv=>(f env).bind λx=>(qE x.2).bind λrs=>if rs≠[] then some (.sh (.tup ((eD rs).map D.int))) else none
theorem b6Q(hg:Gl X "min")(hm:X.mg "min" = none)(hc:X.calm=true)(hu:X.A.units+8<cLine)(ha:BV X a ba)(hs:starEach [a] X.env=[(false,eval a X.env)]:=by rfl):EV X (.Call (.Name "min" p) [a] [] pos) (Ey ba):=by
 obtain ⟨t,pt,k⟩:=ha
 refine ⟨_,xK (b2Y hc (by ext hu)) hg hm (by decide +kernel) (qJ pt qI hs) (by decide) (by decide) hs rfl,λO B σ H env s Q R e q=>?_⟩
 obtain ⟨⟨kk,ds⟩,e1,e2⟩:=bind_some e
 obtain ⟨rs,e3,e4⟩:=bind_some e2
 obtain ⟨bI,rfl⟩:=iG e4
 have m6:=FD e3
 dsimp only at m6
 subst m6
 refine k O B σ H env kk _ _ R e1 λl xs H1 s1 hq hx=>⟨l,kk,xs,rs,rfl,hq,bI,by rw [hx.length,aQ],λi v hv=>?_,λi v hv em=>?_⟩
 .obtain ⟨d,hd,hi⟩:=hx.jG hv
  rw [kT] at hd
  obtain ⟨x,ex,rfl⟩:=map_some hd
  obtain ⟨c,ys,rfl,h1,h2⟩:=vR hi
  refine ⟨c,rfl,?_⟩
  rw [xl,ex]
  show dN X.K H1 c (x.map V.int)
  rw [<-B5 h2];exact h1
 .obtain ⟨d,hd,hi⟩:=hx.jG hv
  rw [kT] at hd
  obtain ⟨x,ex,rfl⟩:=map_some hd
  rw [xl,ex] at em
  have em:x=eD rs:=em
  rw [em] at hi
  exact q _ H1 s1 hi
end
theorem b42:Wo (xu (.bl a) (.bl b)) Q↔Q (.sh (.bl (decide (a≠b)))):=a0i
theorem b46:Wo (Ey f env) Q↔Wo (f env) λx=>Wo (qE x.2) λrs=>rs≠[]/\Q (.sh (.tup ((eD rs).map D.int))):=by
 unfold Ey
 rw [a0o]
 have:∀x:Bool×List D,Wo ((qE x.2).bind λrs=>if rs≠[] then some (Sl.sh (.tup ((eD rs).map D.int))) else none) Q↔Wo (qE x.2) λrs=>rs≠[]/\Q (.sh (.tup ((eD rs).map D.int))):=λx=>by
  rw [a0o]
  have h:∀rs:List (List Int),Wo (if rs≠[] then some (Sl.sh (.tup ((eD rs).map D.int))) else none) Q↔rs≠[]/\Q (.sh (.tup ((eD rs).map D.int))):=λrs=>by
   by_cases z:rs=[]<;>simp [z,a0s,a0i]
  simp only [h]
 simp only [this]
theorem xS{α:Type}{f:α->List Int}:∀(xs:List α),qE (xs.map λx=>.tup ((f x).map D.int))=some (xs.map f)
 | []=>rfl
 | x::r=>by
  show ((o3 ((f x).map D.int)).bind λy=>(qE (r.map λx=>.tup ((f x).map D.int))).map (y::·))=_
  rw [xS r,ug];rfl
end DL
namespace DL
open PySem PySem.Spec PyProof.Rows L2
section
open PySem.SeqAt
open PySem.AutoSeq1 (wpAny_loadPart')
open PySem.MeetsSeq PySem.MeetsSeq2 PySem.MeetsSeq3
theorem b4f(x y:Int)(xs ys:List Int):HT.lexLt (y::ys) (x::xs)=if x=y then HT.lexLt ys xs else decide (x>y):=by
 rw [HT.cc]
 by_cases z:x=y
 .rw [if_pos z,if_pos z.symm]
 .rw [if_neg z,if_neg (λq=>z q.symm)]
theorem b3N(A:Around)(s:Shared)(a:Int)(t:Tok)(c:Int)(u:Tok)(prog:Program)(w:World)(E Q:Value->Shared->Prop)(h:Q (.bool (decide (a>c))) s):wpAny (model prog w) A (richCompare .Gt (.int a t) (.int c u)) Q E s:=
 (PyProof.Rows.gt_int h:wpAny (model prog w) A (compareOp .Gt (.int a t) (.int c u)) Q E s)
theorem b4u(h0:[]=vs.zip ws)(h1:IntsAre vs ps)(h2:IntsAre ws qs)(hl:ps.length+n=qs.length+m):HT.lexLt qs ps=decide (m>n):=by
 cases h1 with
 | nil =>
  cases h2 with
  | nil=>simp only [vE] at hl;rw [HT.c8];exact (decide_eq_false (by ext hl)).symm
  | cons c u q=>simp only [vE,gh] at hl;rw [HT.eG];exact (decide_eq_false (by ext hl)).symm
 | cons a t p =>
  cases h2 with
  | nil=>simp only [vE,gh] at hl;rw [HT.eE];exact (decide_eq_true (by ext hl)).symm
  | cons c u q=>rw [Bc] at h0;cases h0
theorem b7Q(l b:Addr)(xs ys:Array Value)(n n2:Nat)(dd qv:Option Addr)(sl o9:Array (Option Value))(ps qs:List Int)(hx:IntsAre xs.toList ps)(hy:IntsAre ys.toList qs):
  Meets (Builtin.«tuple.__gt__» ⟨[.ref l,.ref b],[]⟩) (λ_ R s=>s.heap.get? l=some { cls:=.type "tuple",dict:=dd,data:=.seq xs n,slots:=sl }/\s.heap.get? b=some { cls:=.type "tuple",dict:=qv,data:=.seq ys n2,slots:=o9 }/\R (.ok (.ret (.bool (HT.lexLt qs ps)))) s):=
 .of_wp λprog w A R s h=>by
  obtain ⟨hp,g,d,tk,os⟩:=s
  obtain ⟨hl,hb,h⟩:=h
  have f2:=Pk
  have z1:xs.size=ps.length:=by rw [<-hx.length];simp
  have z2:ys.size=qs.length:=by rw [<-hy.length];simp
  wp_walk using D7 hl,D7 hb,wpAny_forIn_list _ (λrest b s'=>b.1=none/\s'=⟨hp,g,d,tk,os⟩/\∃(vs ws:List Value) (p' q':List Int),rest=vs.zip ws/\IntsAre vs p'/\IntsAre ws q'/\p'.length+ys.size=q'.length+xs.size/\R (.ok (.ret (.bool (HT.lexLt q' p')))) ⟨hp,g,d,tk,os⟩) _
  case turn =>
   rintro ⟨y,x⟩ rest b s' ⟨h1,rfl,vs,ws,p',q',h2,h3,h4,h5,hR⟩
   cases h3 with
   | nil=>rw [List.zip_nil_left] at h2;cases h2
   | cons a t ZJ =>
    cases h4 with
    | nil=>rw [O4] at h2;cases h2
    | cons c u ZI =>
     rw [Bc] at h2
     injection h2 with h6 h7
     injection h6 with h8 h9
     subst h8 h9
     rw [b4f] at hR
     simp only [gh] at h5
     obtain ⟨e,he,hi⟩:=HT.kM A.in1 ⟨hp,g,d,tk,os⟩ a t c u
     apply ao
     refine he prog w _ _ ?_
     cases e with
     | true =>
      rw [if_pos (hi.mp rfl)] at hR
      wp_walk
      refine ⟨rfl,rfl,_,_,_,_,h7,ZJ,ZI,by ext h5,hR⟩
     | false =>
      rw [if_neg (λz=>nh (hi.mpr z))] at hR
      have Ht:=b3N A.in1 ⟨hp,g,d,tk,os⟩ a t c u prog w
      wp_walk using Ht
      refine ⟨_,rfl,by simpa using hR⟩
  case fin =>
   rintro ⟨b1,b2⟩ s' ⟨h1,rfl,vs,ws,p',q',h2,h3,h4,h5,hR⟩
   simp only at h1
   subst h1
   rw [b4u h2 h3 h4 h5] at hR
   wp_walk
   refine ⟨_,rfl,by simpa [Pp] using hR⟩
  case h=>exact ⟨rfl,rfl,xs.toList,ys.toList,ps,qs,rfl,hx,hy,by ext z1 z2,h⟩
end
section
variable {prog:Program}{w:World}{A:Around}{E:Value->Shared->Prop}{s:Shared}
theorem b6L(hl:IsTup s.heap l xs)(hb:IsTup s.heap b ys)(hx:IntsAre xs.toList ps)(hy:IntsAre ys.toList qs)(hu:A.units<cLine)(h:Q (.bool (HT.lexLt qs ps)) s):
  wpAny (model prog w) A (richCompare .Gt (.ref l) (.ref b)) Q E s:=by
 obtain ⟨⟨k1,e1,f1,l1⟩,g1,c1,n1,d1⟩:=id hl
 obtain ⟨⟨k2,e2,f2,l2⟩,g2,c2,n2,d2⟩:=id hb
 simp only at c1 d1 c2 d2
 subst c1 d1 c2 d2
 have z:kQ (HT.lexLt qs ps)≠OR/\Q (.bool (HT.lexLt qs ps)) s:=⟨(λx=>nomatch x),h⟩
 exact richCompare_meets_room (op:=.Gt) ⟨_,g1,rfl⟩ ⟨_,g2,rfl⟩ PySem.F.slot_tuple_gt PySem.F.entry_tuple_gt (PySem.F.args_tuple_gt_2 _ _) (b7Q l b xs ys n1 n2 e1 e2 l1 l2 ps qs hx hy) ⟨g1,g2,z⟩ hu
end
def oI(prog:Program)(w:World)(A:Around)(op:CmpOp)(P:Nat->Value->Prop)(KH:Heap->Prop)(bt:Nat->Nat->Bool):Prop:=∀i j x y (s:Shared) (Q:Value->Shared->Prop) (E:Value->Shared->Prop),P i x->P j y->KH s.heap->Q (.bool (bt i j)) s->wpAny (model prog w) A (richCompare op x y) Q E s
section
variable {prog:Program}{w:World}{A:Around}{R:Result->Shared->Prop}{I:Addr}{fp wr:List Addr}{n:Nat}{P:Nat->Value->Prop}{St:Nat->Heap->Prop}{kw:List (Str×Value)}
theorem b1T(W:Walks prog w A.in1 I fp wr n P St)(bt:Nat->Nat->Bool)(cmp:oI prog w A.in1 .Lt P KH bt)(S:Addr)(nS:S∉fp)(kk:∀h h':Heap,KH h->(∀b o,b∉wr->b≠S->h.get? b=some o->h'.get? b=some o)->KH h'):
  ∀(m j:Nat) (s:Shared) (best:Value) (c:Nat),n-(j+1)=m->j+1<=n->St (j+1) s.heap->KH s.heap->P (argBest bt j) best->s.heap.get? S=some { cls:=.type "list",dict:=none,data:=.seq #[best,best] c,slots:=#[] } ->
  (∀v h' tk,P (argBest bt (n-1)) v->(∀b o,b∉wr->b≠S->s.heap.get? b=some o->h'.get? b=some o)->R (.ok (.ret v)) { s with heap:=h',toks:=tk })->codeAny (model prog w) A (.builtin "min.loop" ⟨[.ref I,.none,.ref S],kw⟩) R s:=by
 have nw:S∉wr:=λz=>nS (W.sub _ z)
 have nm:(toString "min" ++ toString ".loop":String) = "min.loop":=by decide
 intro m
 induction m with
 | zero =>
  intro j s best c e1 e2 st kh pb hS hR
  have ej:j+1=n:=by ext e1 e2
  apply rQ wX
  rw [rS nq]
  show wpAny _ A.in1 (seqItems? (.ref S) >>= _) _ _ _
  apply ao
  refine kX hS rfl ?_
  show wpAny _ A.in1 (tryCatch (pyNext (.ref I)) _ >>= _) _ _ _
  apply ao
  refine nj (W.done s _ _ (ej▸st) λh1 tk k1=>?_)
  have gm:=k1 S _ nw hS
  show wpAny _ A.in1 (updateSeq S (λ_=>#[]) >>= _) _ _ ⟨_,_,_,_,_⟩
  apply ao
  refine rP gm rfl ?_
  apply ao
  refine lK (aU ?_)
  exact hR best _ tk (by rw [<-ej];exact pb) λb o nb dJ e=>(fU _ _ (fH dJ)).trans (k1 b o nb e)
 | succ m ih =>
  intro j s best c e1 e2 st kh pb hS hR
  have lt:j+1<n:=by ext e1
  apply rQ wX
  rw [rS nq]
  show wpAny _ A.in1 (seqItems? (.ref S) >>= _) _ _ _
  apply ao
  refine kX hS rfl ?_
  show wpAny _ A.in1 (tryCatch (pyNext (.ref I)) _ >>= _) _ _ _
  apply ao
  refine nj (W.item (j+1) s _ _ lt st λv h1 tk pv mN k1=>?_)
  have gm:=k1 S _ nw hS
  have pF:KH h1:=kk _ _ kh λb o nb _ e=>k1 b o nb e
  show wpAny _ A.in1 (tryCatch (holding [v,v] (richCompare .Lt v best >>= _)) _ >>= _) _ _ ⟨_,_,_,_,_⟩
  apply ao
  refine nj (nr ?_)
  apply ao
  refine cmp (j+1) (argBest bt j) v best _ _ _ pv pb pF ?_
  apply ao
  refine nr (tL ?_)
  apply ao
  refine lK (aU ?_)
  cases hb:bt (j+1) (argBest bt j) with
  | true =>
   simp only [if_true]
   apply ao
   refine rP gm rfl ?_
   apply ao
   apply lK
   rw [nm]
   have k2:∀b o,b≠S->h1.get? b=some o->(h1.update S λx=>{ x with data:=.seq #[v,v] (c+1) }).get? b=some o:=λb o nb e=>(fU _ _ (fH nb)).trans e
   refine aU ⟨oS nq _,ih (j+1) _ v _ (by ext e1) lt (W.frame _ _ _ mN λb bf o e=>?_) (kk _ _ pF λb o nb dJ e=>?_) (by simp only [argBest,hb,if_true];exact pv) (tN _ gm rfl) λv2 h2 j' kq k2=>?_⟩
   .exact (fU _ _ (λz:S=b=>nS (z▸bf))).trans e
   .exact (fU _ _ (fH dJ)).trans e
   .exact hR v2 h2 j' kq λb o nb dJ e=>k2 b o nb dJ ((fU _ _ (fH dJ)).trans (k1 b o nb e))
  | false =>
   simp only [oh,if_false]
   apply ao
   apply lK
   rw [nm]
   refine aU ⟨oS nq _,ih (j+1) _ best c (by ext e1) lt mN pF (by simp only [argBest,hb,oh,if_false];exact pb) gm λv2 h2 j' kq k2=>?_⟩
   exact hR v2 h2 j' kq λb o nb dJ e=>k2 b o nb dJ (k1 b o nb e)
theorem b0M(W:Walks prog w A.in1 I fp wr n P St)(bt:Nat->Nat->Bool)(cmp:oI prog w A.in1 .Lt P KH bt)(S:Addr)(nS:S∉fp)(kk:∀h h':Heap,KH h->(∀b o,b∉wr->b≠S->h.get? b=some o->h'.get? b=some o)->KH h')(st:St 0 s.heap)(kh:KH s.heap)
  (hS:s.heap.get? S=some { cls:=.type "list",dict:=none,data:=.seq #[] c,slots:=#[] })
  (hR:∀v h' tk,(0<n/\P (argBest bt (n-1)) v\/n=0/\v=dv)->(∀b o,b∉wr->b≠S->s.heap.get? b=some o->h'.get? b=some o)->R (.ok (.ret v)) { s with heap:=h',toks:=tk }):
  codeAny (model prog w) A (.builtin "min.loop" ⟨[.ref I,.none,.ref S],[(nm0,dv)]⟩) R s:=by
 have nw:S∉wr:=λz=>nS (W.sub _ z)
 have nm:(toString "min" ++ toString ".loop":String) = "min.loop":=by decide
 apply rQ wX
 rw [rS nq]
 show wpAny _ A.in1 (seqItems? (.ref S) >>= _) _ _ s
 apply ao
 refine kX hS rfl ?_
 show wpAny _ A.in1 (tryCatch (pyNext (.ref I)) _ >>= _) _ _ s
 by_cases hn:0<n
 .apply ao
  refine nj (W.item 0 s _ _ hn st λv h1 tk pv mN k1=>?_)
  have gm:=k1 S _ nw hS
  show wpAny _ A.in1 (updateSeq S (λ_=>#[v,v]) >>= _) _ _ ⟨_,_,_,_,_⟩
  apply ao
  refine rP gm rfl ?_
  rw [nm]
  refine aU ⟨oS nq _,b1T W bt cmp S nS kk _ 0 _ v _ rfl hn (W.frame _ _ _ mN λb bf o e=>?_) (kk _ _ kh λb o nb dJ e=>?_) pv (tN _ gm rfl) λv2 h2 j' kq k2=>?_⟩
  .exact (fU _ _ (λz:S=b=>nS (z▸bf))).trans e
  .exact (fU _ _ (fH dJ)).trans (k1 b o nb e)
  .exact hR v2 h2 j' (.inl ⟨hn,kq⟩) λb o nb dJ e=>k2 b o nb dJ ((fU _ _ (fH dJ)).trans (k1 b o nb e))
 .have h0:n=0:=by ext hn
  subst h0
  apply ao
  refine nj (W.done s _ _ st λh1 tk k1=>?_)
  show wpAny _ A.in1 (rule _ >>= _) _ _ ⟨_,_,_,_,_⟩
  apply ao
  refine tH (aU (hR dv h1 tk (.inr ⟨rfl,rfl⟩) λb o nb _ e=>k1 b o nb e))
theorem b29(a d:Value):argsOk "min" ⟨[a],[("default",d)]⟩:=by unfold argsOk;kernel_rfl
theorem b2X
  (h:wpAny (model prog w) A.in1 (pyIter x) (λit s2=>∃I fp wr n P St bt KH,it=.ref I/\Walks prog w A.in1 I fp wr n P St/\St 0 s2.heap/\(∀b∈fp,b<s2.heap.objs.size)/\oI prog w A.in1 .Lt P KH bt/\(∀h h':Heap,KH h->(∀b o,b∉wr->b≠s2.heap.objs.size->h.get? b=some o->h'.get? b=some o)->KH h')/\(∀h':Heap,(∀b o,s2.heap.get? b=some o->h'.get? b=some o)->KH h') /\
   ∀v h' tk,(0<n/\P (argBest bt (n-1)) v\/n=0/\v=dv)->(∀b o,b∉wr->s2.heap.get? b=some o->h'.get? b=some o)->Q v { s2 with heap:=h',toks:=tk }) E s):
  wpAny (model prog w) A (call (.builtin "min") [x] [("default",dv)]) Q E s:=by
 have nm:(toString "min" ++ toString ".loop":String) = "min.loop":=by decide
 apply Rg F.kind_min F.plain_min F.entry_min (b29 x dv)
 show wpAny _ A.in1 (Jy "min" ["key","default"] 0 ⟨[],[("default",dv)]⟩ >>= _) _ _ s
 apply ao
 refine Dz (a:=[none,some dv]) rfl ?_
 apply ao
 apply aU
 apply ao
 refine aZ h λit s2 h2=>?_
 obtain ⟨I,fp,wr,n,P,St,bt,KH,rfl,W,st,gD,cmp,kk,kh,hQ⟩:=h2
 apply ao
 refine qB ?_
 have nS:s2.heap.objs.size∉fp:=λz=>lO _ (gD _ z)
 rw [nm]
 refine aU ⟨oS nq _,b0M (nm0:="default") (dv:=dv) W bt cmp _ nS kk (W.frame _ _ _ st λb _ o e=>bC _ e) (kh _ λb o e=>bC _ e) (fj _ rfl) λv h1 tk pv k1=>?_⟩
 exact hQ v h1 tk pv λb o nb e=>k1 b o nb (dq (bU e)) (bC _ e)
end
section
variable {prog:Program}{w:World}{A:Around}{R:Result->Shared->Prop}{I:Addr}{fp wr:List Addr}{n:Nat}{P:Nat->Value->Prop}{St:Nat->Heap->Prop}{kw:List (Str×Value)}
theorem b1V(W:Walks prog w A.in1 I fp wr n P St)(bt:Nat->Nat->Bool)(cmp:oI prog w A.in1 .Gt P KH bt)(S:Addr)(nS:S∉fp)(kk:∀h h':Heap,KH h->(∀b o,b∉wr->b≠S->h.get? b=some o->h'.get? b=some o)->KH h'):
  ∀(m j:Nat) (s:Shared) (best:Value) (c:Nat),n-(j+1)=m->j+1<=n->St (j+1) s.heap->KH s.heap->P (argBest bt j) best->s.heap.get? S=some { cls:=.type "list",dict:=none,data:=.seq #[best,best] c,slots:=#[] } ->
  (∀v h' tk,P (argBest bt (n-1)) v->(∀b o,b∉wr->b≠S->s.heap.get? b=some o->h'.get? b=some o)->R (.ok (.ret v)) { s with heap:=h',toks:=tk })->codeAny (model prog w) A (.builtin "max.loop" ⟨[.ref I,.none,.ref S],kw⟩) R s:=by
 have nw:S∉wr:=λz=>nS (W.sub _ z)
 have nm:(toString "max" ++ toString ".loop":String) = "max.loop":=by decide
 intro m
 induction m with
 | zero =>
  intro j s best c e1 e2 st kh pb hS hR
  have ej:j+1=n:=by ext e1 e2
  apply rQ Jt
  rw [rS vw]
  show wpAny _ A.in1 (seqItems? (.ref S) >>= _) _ _ _
  apply ao
  refine kX hS rfl ?_
  show wpAny _ A.in1 (tryCatch (pyNext (.ref I)) _ >>= _) _ _ _
  apply ao
  refine nj (W.done s _ _ (ej▸st) λh1 tk k1=>?_)
  have gm:=k1 S _ nw hS
  show wpAny _ A.in1 (updateSeq S (λ_=>#[]) >>= _) _ _ ⟨_,_,_,_,_⟩
  apply ao
  refine rP gm rfl ?_
  apply ao
  refine lK (aU ?_)
  exact hR best _ tk (by rw [<-ej];exact pb) λb o nb dJ e=>(fU _ _ (fH dJ)).trans (k1 b o nb e)
 | succ m ih =>
  intro j s best c e1 e2 st kh pb hS hR
  have lt:j+1<n:=by ext e1
  apply rQ Jt
  rw [rS vw]
  show wpAny _ A.in1 (seqItems? (.ref S) >>= _) _ _ _
  apply ao
  refine kX hS rfl ?_
  show wpAny _ A.in1 (tryCatch (pyNext (.ref I)) _ >>= _) _ _ _
  apply ao
  refine nj (W.item (j+1) s _ _ lt st λv h1 tk pv mN k1=>?_)
  have gm:=k1 S _ nw hS
  have pF:KH h1:=kk _ _ kh λb o nb _ e=>k1 b o nb e
  show wpAny _ A.in1 (tryCatch (holding [v,v] (richCompare .Gt v best >>= _)) _ >>= _) _ _ ⟨_,_,_,_,_⟩
  apply ao
  refine nj (nr ?_)
  apply ao
  refine cmp (j+1) (argBest bt j) v best _ _ _ pv pb pF ?_
  apply ao
  refine nr (tL ?_)
  apply ao
  refine lK (aU ?_)
  cases hb:bt (j+1) (argBest bt j) with
  | true =>
   simp only [if_true]
   apply ao
   refine rP gm rfl ?_
   apply ao
   apply lK
   rw [nm]
   have k2:∀b o,b≠S->h1.get? b=some o->(h1.update S λx=>{ x with data:=.seq #[v,v] (c+1) }).get? b=some o:=λb o nb e=>(fU _ _ (fH nb)).trans e
   refine aU ⟨oS vw _,ih (j+1) _ v _ (by ext e1) lt (W.frame _ _ _ mN λb bf o e=>?_) (kk _ _ pF λb o nb dJ e=>?_) (by simp only [argBest,hb,if_true];exact pv) (tN _ gm rfl) λv2 h2 j' kq k2=>?_⟩
   .exact (fU _ _ (λz:S=b=>nS (z▸bf))).trans e
   .exact (fU _ _ (fH dJ)).trans e
   .exact hR v2 h2 j' kq λb o nb dJ e=>k2 b o nb dJ ((fU _ _ (fH dJ)).trans (k1 b o nb e))
  | false =>
   simp only [oh,if_false]
   apply ao
   apply lK
   rw [nm]
   refine aU ⟨oS vw _,ih (j+1) _ best c (by ext e1) lt mN pF (by simp only [argBest,hb,oh,if_false];exact pb) gm λv2 h2 j' kq k2=>?_⟩
   exact hR v2 h2 j' kq λb o nb dJ e=>k2 b o nb dJ (k1 b o nb e)
theorem b0O(W:Walks prog w A.in1 I fp wr n P St)(bt:Nat->Nat->Bool)(cmp:oI prog w A.in1 .Gt P KH bt)(S:Addr)(nS:S∉fp)(kk:∀h h':Heap,KH h->(∀b o,b∉wr->b≠S->h.get? b=some o->h'.get? b=some o)->KH h')(st:St 0 s.heap)(kh:KH s.heap)
  (hS:s.heap.get? S=some { cls:=.type "list",dict:=none,data:=.seq #[] c,slots:=#[] })
  (hR:∀v h' tk,(0<n/\P (argBest bt (n-1)) v\/n=0/\v=dv)->(∀b o,b∉wr->b≠S->s.heap.get? b=some o->h'.get? b=some o)->R (.ok (.ret v)) { s with heap:=h',toks:=tk }):
  codeAny (model prog w) A (.builtin "max.loop" ⟨[.ref I,.none,.ref S],[(nm0,dv)]⟩) R s:=by
 have nw:S∉wr:=λz=>nS (W.sub _ z)
 have nm:(toString "max" ++ toString ".loop":String) = "max.loop":=by decide
 apply rQ Jt
 rw [rS vw]
 show wpAny _ A.in1 (seqItems? (.ref S) >>= _) _ _ s
 apply ao
 refine kX hS rfl ?_
 show wpAny _ A.in1 (tryCatch (pyNext (.ref I)) _ >>= _) _ _ s
 by_cases hn:0<n
 .apply ao
  refine nj (W.item 0 s _ _ hn st λv h1 tk pv mN k1=>?_)
  have gm:=k1 S _ nw hS
  show wpAny _ A.in1 (updateSeq S (λ_=>#[v,v]) >>= _) _ _ ⟨_,_,_,_,_⟩
  apply ao
  refine rP gm rfl ?_
  rw [nm]
  refine aU ⟨oS vw _,b1V W bt cmp S nS kk _ 0 _ v _ rfl hn (W.frame _ _ _ mN λb bf o e=>?_) (kk _ _ kh λb o nb dJ e=>?_) pv (tN _ gm rfl) λv2 h2 j' kq k2=>?_⟩
  .exact (fU _ _ (λz:S=b=>nS (z▸bf))).trans e
  .exact (fU _ _ (fH dJ)).trans (k1 b o nb e)
  .exact hR v2 h2 j' (.inl ⟨hn,kq⟩) λb o nb dJ e=>k2 b o nb dJ ((fU _ _ (fH dJ)).trans (k1 b o nb e))
 .have h0:n=0:=by ext hn
  subst h0
  apply ao
  refine nj (W.done s _ _ st λh1 tk k1=>?_)
  show wpAny _ A.in1 (rule _ >>= _) _ _ ⟨_,_,_,_,_⟩
  apply ao
  refine tH (aU (hR dv h1 tk (.inr ⟨rfl,rfl⟩) λb o nb _ e=>k1 b o nb e))
theorem b3a(a d:Value):argsOk "max" ⟨[a],[("default",d)]⟩:=by unfold argsOk;kernel_rfl
theorem b21
  (h:wpAny (model prog w) A.in1 (pyIter x) (λit s2=>∃I fp wr n P St bt KH,it=.ref I/\Walks prog w A.in1 I fp wr n P St/\St 0 s2.heap/\(∀b∈fp,b<s2.heap.objs.size)/\oI prog w A.in1 .Gt P KH bt/\(∀h h':Heap,KH h->(∀b o,b∉wr->b≠s2.heap.objs.size->h.get? b=some o->h'.get? b=some o)->KH h')/\(∀h':Heap,(∀b o,s2.heap.get? b=some o->h'.get? b=some o)->KH h') /\
   ∀v h' tk,(0<n/\P (argBest bt (n-1)) v\/n=0/\v=dv)->(∀b o,b∉wr->s2.heap.get? b=some o->h'.get? b=some o)->Q v { s2 with heap:=h',toks:=tk }) E s):
  wpAny (model prog w) A (call (.builtin "max") [x] [("default",dv)]) Q E s:=by
 have nm:(toString "max" ++ toString ".loop":String) = "max.loop":=by decide
 apply Rg F.kind_max F.plain_max F.entry_max (b3a x dv)
 show wpAny _ A.in1 (Jy "max" ["key","default"] 0 ⟨[],[("default",dv)]⟩ >>= _) _ _ s
 apply ao
 refine Dz (a:=[none,some dv]) rfl ?_
 apply ao
 apply aU
 apply ao
 refine aZ h λit s2 h2=>?_
 obtain ⟨I,fp,wr,n,P,St,bt,KH,rfl,W,st,gD,cmp,kk,kh,hQ⟩:=h2
 apply ao
 refine qB ?_
 have nS:s2.heap.objs.size∉fp:=λz=>lO _ (gD _ z)
 rw [nm]
 refine aU ⟨oS vw _,b0O (nm0:="default") (dv:=dv) W bt cmp _ nS kk (W.frame _ _ _ st λb _ o e=>bC _ e) (kh _ λb o e=>bC _ e) (fj _ rfl) λv h1 tk pv k1=>?_⟩
 exact hQ v h1 tk pv λb o nb e=>k1 b o nb (dq (bU e)) (bC _ e)
end
noncomputable def kZ(r:List Int->List Int->Bool):List (List Int)->List Int
 | []=>[]
 | x::l=>l.foldl (λm y=>if r y m then y else m) x
theorem Kg(r:List Int->List Int->Bool)(ns:List (List Int)):∀j,j<ns.length->argBest (λi j=>r (ns.getD i []) (ns.getD j [])) j<ns.length/\ns.getD (argBest (λi j=>r (ns.getD i []) (ns.getD j [])) j) []=kZ r (ns.take (j+1))
 | 0,h=>by
  refine ⟨h,?_⟩
  cases ns with
  | nil=>cases h
  | cons n l=>rfl
 | j+1,h=>by
  obtain ⟨h1,h2⟩:=Kg r ns j (by ext h)
  have e:ns.take (j+1+1)=ns.take (j+1)++[ns.getD (j+1) []]:=by rw [List.take_add_one];simp [h]
  have e2:kZ r (ns.take (j+1+1))=if r (ns.getD (j+1) []) (kZ r (ns.take (j+1))) then ns.getD (j+1) [] else kZ r (ns.take (j+1)):=by
   rw [e]
   cases ns with
   | nil=>cases h
   | cons n l=>simp only [O6,Eh,kZ,Ba,oW,I9];rfl
  rw [e2,<-h2]
  simp only [argBest]
  split
  .exact ⟨h,rfl⟩
  .exact ⟨h1,rfl⟩
noncomputable def kH:List Int->List Int->Bool:=λy m=>HT.lexLt m y
section
variable {X:Cx}
theorem b4L(t1:IsTup h0 c a)(t2:IsTup h0 d b)(i1:IntsAre a.toList ps)(i2:IntsAre b.toList qs)(kh:∀b o,b<h0.objs.size->h0.get? b=some o->s.heap.get? b=some o)(l1:c<h0.objs.size)(l2:d<h0.objs.size)(hu:A.units<cLine)
  (q:Q (.bool (HT.lexLt ps qs)) s):wpAny (model X.prog X.w) A (richCompare .Lt (.ref c) (.ref d)) Q E s:=by
 obtain ⟨o1,g1,r1⟩:=t1
 obtain ⟨o2,g2,r2⟩:=t2
 exact HT.iq ⟨o1,kh c o1 l1 g1,r1⟩ ⟨o2,kh d o2 l2 g2,r2⟩ i1 i2 hu q
theorem b4M(t1:IsTup h0 c a)(t2:IsTup h0 d b)(i1:IntsAre a.toList ps)(i2:IntsAre b.toList qs)(kh:∀b o,b<h0.objs.size->h0.get? b=some o->s.heap.get? b=some o)(l1:c<h0.objs.size)(l2:d<h0.objs.size)(hu:A.units<cLine)
  (q:Q (.bool (kH ps qs)) s):wpAny (model X.prog X.w) A (richCompare .Gt (.ref c) (.ref d)) Q E s:=by
 obtain ⟨o1,g1,r1⟩:=t1
 obtain ⟨o2,g2,r2⟩:=t2
 exact b6L ⟨o1,kh c o1 l1 g1,r1⟩ ⟨o2,kh d o2 l2 g2,r2⟩ i1 i2 hu q
noncomputable def tT(r:List Int->List Int->Bool)(f:En->Option (Bool×List D))(g:En->Option Sl):En->Option Sl:=λenv=>(f env).bind λx=>(g env).bind λy=>(qE x.2).bind λrs=>match y with
 | .sh d=>some (.sh (if rs=[] then d else .tup ((kZ r rs).map D.int)))
 | _=>none
theorem Fc{r:List Int->List Int->Bool}{f:En->Option (Bool×List D)}{g:En->Option Sl}{env:En}{Q:Sl->Prop}:Wo (tT r f g env) Q↔Wo (f env) λx=>Wo (g env) λy=>Wo (qE x.2) λrs=>Wo (match y with | .sh d=>some (Sl.sh (if rs=[] then d else .tup ((kZ r rs).map D.int))) | _=>none) Q:=by
 unfold tT
 simp only [a0o]
theorem b3J(hc:X.calm=true)(hu:X.A.units+1<cLine){pins:List (Addr×Obj)}{s:Shared}{σ:L2.St}{H:Hp}{Q:VK}{p:Addr}{k:Bool}{vs:List V}{rs:List (List Int)}{dv:Value}{v:V}(I:Inv X pins σ H s)(rd:RelV v dv)(hq:Sq X.K H k p vs)(hlen:vs.length=rs.length)
  (mW:∀i v,vs[i]?=some v->∃c,v=.ref c/\dN X.K H c ((rs.getD i []).map V.int))(q1:rs≠[]->∀i u,vs[i]?=some u->rs.getD i []=kZ HT.lexLt rs->Q u H)(q2:rs=[]->Q v H):
  wpAny (model X.prog X.w) X.A (call (.builtin "min") [.ref p] [("default",dv)]) (EP X pins σ Q) X.xe s:=by
 refine b2X (B0 (A':=X.A.in1) I (I.ok.hd hc) hq λak h2 St rv W qR k1 gD=>?_)
 have hl:ak.length=rs.length:=by rw [<-rv.length,hlen]
 have hsz:s.heap.objs.size<h2.objs.size:=gD _ bw
 have dP:∀i v,ak[i]?=some v->∃c items,v=.ref c/\c<s.heap.objs.size/\IsTup s.heap c items/\IntsAre items.toList (rs.getD i []):=λi v hv=>by
  have hi:i<vs.length:=by rw [rv.length];exact (gH.mp hv).1
  obtain ⟨c,e1,e2⟩:=mW i vs[i] (gu hi)
  obtain ⟨u',iw,mQ⟩:=rv.get (gu hi)
  rw [hv] at iw
  cases iw
  rw [e1] at mQ
  obtain rfl:v=dX c:=mQ
  obtain ⟨items,yI,pl,_⟩:=I.tuple e2
  refine ⟨c,items.toArray,rfl,pl.lt,pl,by simpa using Fg yI⟩
 refine ⟨_,_,_,_,_,_,λi j=>HT.lexLt (rs.getD i []) (rs.getD j []),λh=>∀b o,b<s.heap.objs.size->s.heap.get? b=some o->h.get? b=some o,rfl,W,qR,gD,?_,?_,λh' hh b o _ e=>hh b o (k1 b o e),λu h' tk hv hk=>?_⟩
 .intro i j x y s' Q' E' hx hy kh dR
  obtain ⟨c,NQ,rfl,l1,t1,i1⟩:=dP i x hx
  obtain ⟨d,NP,rfl,l2,t2,i2⟩:=dP j y hy
  exact b4L (X:=X) t1 t2 i1 i2 kh l1 l2 hu dR
 .intro h h' kh kp b o lb e
  exact kp b o (λz=>by rw [bY.mp z] at lb;exact lO _ lb) (dq (Jd lb hsz)) (kh b o lb e)
 .rcases hv with ⟨hp,hv⟩ | ⟨h0,rfl⟩
  .obtain ⟨b1,b2⟩:=Kg HT.lexLt rs (ak.length-1) (by ext hl hp)
   have e2:rs.take (ak.length-1+1)=rs:=by rw [vt];ext hl
   rw [e2] at b2
   have hi:=(gH.mp hv).1
   have mY:argBest (λi j=>HT.lexLt (rs.getD i []) (rs.getD j [])) (ak.length-1)<vs.length:=by rw [rv.length];exact hi
   obtain ⟨u',iw,mQ⟩:=rv.get (gu mY)
   rw [hv] at iw
   cases iw
   exact ⟨_,H,wg I k1 hk,mQ,q1 (qz.mp (by ext hl hp)) _ _ (gu mY) b2⟩
  .exact ⟨v,H,wg I k1 hk,rd,q2 (Bj.mp (by ext hl h0))⟩
theorem b6i(hc:X.calm=true)(hu:X.A.units+1<cLine)(hg:Gl X "min")(hm:X.mg "min" = none)(he:PE X e te)(hd:PE X d td)(hs:starEach [e] X.env=[(false,eval e X.env)]:=by rfl):
  PE X (.Call (.Name "min" p) [e] [⟨some "default",d,kp⟩] pos) (λσ H Q=>te σ H λx H1=>td σ H1 λv H2=>∃(a:Addr) (k:Bool) (vs:List V) (rs:List (List Int)),x=.ref a/\Sq X.K H2 k a vs/\vs.length=rs.length/\(∀i v,vs[i]?=some v->∃c,v=.ref c/\dN X.K H2 c ((rs.getD i []).map V.int))/\(rs≠[]->∀i u,vs[i]?=some u->rs.getD i []=kZ HT.lexLt rs->Q u H2)/\(rs=[]->Q v H2)):=by
 intro pins s σ H Q I h
 refine xi (qb I hg hm boot_min ?_)
 refine Jm (first:=[]) (by rw [hs];rfl) rfl ?_
 rw [hs]
 refine evalArgs_kwB rfl ?_
 refine Ef (aZ (he pins s σ H _ I h) λu s1 ⟨x,H1,I1,r1,q1⟩=>Ee ?_)
 refine kws_cons (aZ (hd pins s1 σ H1 _ I1 q1) λw s2 ⟨v,H2,I2,r2,a,k,vs,rs,ex,hq,hl,hr,q2,q3⟩=>kws_nil ?_)
 subst ex
 cases r1
 exact b3J hc hu I2 r2 hq hl hr q2 q3
theorem QH(hg:Gl X "min")(hm:X.mg "min" = none)(hc:X.calm=true)(hu:X.A.units+8<cLine)(ha:BV X a ba)(hd:EV X d fd)(hs:starEach [a] X.env=[(false,eval a X.env)]:=by rfl):
  EV X (.Call (.Name "min" p) [a] [⟨some "default",d,kp⟩] pos) (tT HT.lexLt ba fd):=by
 obtain ⟨t,pt,k⟩:=ha
 obtain ⟨t',GJ,k'⟩:=hd
 refine ⟨_,b6i hc (by ext hu) hg hm pt GJ hs,λO B σ H env s Q R e q=>?_⟩
 obtain ⟨⟨kk,ds⟩,e1,e2⟩:=bind_some e
 obtain ⟨r,ed,e3⟩:=bind_some e2
 obtain ⟨rs,e3,e4⟩:=bind_some e3
 have m6:=FD e3
 dsimp only at m6
 subst m6
 refine k O B σ H env kk _ _ R e1 λl xs H1 s1 hq hx=>?_
 refine k' O B σ H1 env r _ (R.grow s1) ed λv H2 s2 r2=>?_
 have zS:=hx.grow s2
 cases r with
 | sh dd =>
  obtain rfl:=dj (show some (Sl.sh (if rs=[] then dd else .tup ((kZ HT.lexLt rs).map D.int)))=some s from e4)
  refine ⟨l,kk,xs,rs,rfl,hq.grow s2,by rw [hx.length,aQ],λi v hv=>?_,λhn i u hv em=>?_,λhn=>?_⟩
  .obtain ⟨d,hd,hi⟩:=zS.jG hv
   rw [kT] at hd
   obtain ⟨x,ex,rfl⟩:=map_some hd
   obtain ⟨c,ys,rfl,h1,h2⟩:=vR hi
   refine ⟨c,rfl,?_⟩
   rw [xl,ex]
   show dN X.K H2 c (x.map V.int)
   rw [<-B5 h2];exact h1
  .obtain ⟨d,hd,hi⟩:=zS.jG hv
   rw [kT] at hd
   obtain ⟨x,ex,rfl⟩:=map_some hd
   rw [xl,ex] at em
   have em:x=kZ HT.lexLt rs:=em
   rw [em] at hi
   rw [if_neg hn] at q
   exact q _ H2 (s1.trans s2) hi
  .rw [if_pos hn] at q
   exact q _ H2 (s1.trans s2) (r2.is λq=>(R.grow s1).oo)
 | _=>cases e4
theorem b3K(hc:X.calm=true)(hu:X.A.units+1<cLine){pins:List (Addr×Obj)}{s:Shared}{σ:L2.St}{H:Hp}{Q:VK}{p:Addr}{k:Bool}{vs:List V}{rs:List (List Int)}{dv:Value}{v:V}(I:Inv X pins σ H s)(rd:RelV v dv)(hq:Sq X.K H k p vs)(hlen:vs.length=rs.length)
  (mW:∀i v,vs[i]?=some v->∃c,v=.ref c/\dN X.K H c ((rs.getD i []).map V.int))(q1:rs≠[]->∀i u,vs[i]?=some u->rs.getD i []=kZ kH rs->Q u H)(q2:rs=[]->Q v H):
  wpAny (model X.prog X.w) X.A (call (.builtin "max") [.ref p] [("default",dv)]) (EP X pins σ Q) X.xe s:=by
 refine b21 (B0 (A':=X.A.in1) I (I.ok.hd hc) hq λak h2 St rv W qR k1 gD=>?_)
 have hl:ak.length=rs.length:=by rw [<-rv.length,hlen]
 have hsz:s.heap.objs.size<h2.objs.size:=gD _ bw
 have dP:∀i v,ak[i]?=some v->∃c items,v=.ref c/\c<s.heap.objs.size/\IsTup s.heap c items/\IntsAre items.toList (rs.getD i []):=λi v hv=>by
  have hi:i<vs.length:=by rw [rv.length];exact (gH.mp hv).1
  obtain ⟨c,e1,e2⟩:=mW i vs[i] (gu hi)
  obtain ⟨u',iw,mQ⟩:=rv.get (gu hi)
  rw [hv] at iw
  cases iw
  rw [e1] at mQ
  obtain rfl:v=dX c:=mQ
  obtain ⟨items,yI,pl,_⟩:=I.tuple e2
  refine ⟨c,items.toArray,rfl,pl.lt,pl,by simpa using Fg yI⟩
 refine ⟨_,_,_,_,_,_,λi j=>kH (rs.getD i []) (rs.getD j []),λh=>∀b o,b<s.heap.objs.size->s.heap.get? b=some o->h.get? b=some o,rfl,W,qR,gD,?_,?_,λh' hh b o _ e=>hh b o (k1 b o e),λu h' tk hv hk=>?_⟩
 .intro i j x y s' Q' E' hx hy kh dR
  obtain ⟨c,NQ,rfl,l1,t1,i1⟩:=dP i x hx
  obtain ⟨d,NP,rfl,l2,t2,i2⟩:=dP j y hy
  exact b4M (X:=X) t1 t2 i1 i2 kh l1 l2 hu dR
 .intro h h' kh kp b o lb e
  exact kp b o (λz=>by rw [bY.mp z] at lb;exact lO _ lb) (dq (Jd lb hsz)) (kh b o lb e)
 .rcases hv with ⟨hp,hv⟩ | ⟨h0,rfl⟩
  .obtain ⟨b1,b2⟩:=Kg kH rs (ak.length-1) (by ext hl hp)
   have e2:rs.take (ak.length-1+1)=rs:=by rw [vt];ext hl
   rw [e2] at b2
   have hi:=(gH.mp hv).1
   have mY:argBest (λi j=>kH (rs.getD i []) (rs.getD j [])) (ak.length-1)<vs.length:=by rw [rv.length];exact hi
   obtain ⟨u',iw,mQ⟩:=rv.get (gu mY)
   rw [hv] at iw
   cases iw
   exact ⟨_,H,wg I k1 hk,mQ,q1 (qz.mp (by ext hl hp)) _ _ (gu mY) b2⟩
  .exact ⟨v,H,wg I k1 hk,rd,q2 (Bj.mp (by ext hl h0))⟩
theorem b6j(hc:X.calm=true)(hu:X.A.units+1<cLine)(hg:Gl X "max")(hm:X.mg "max" = none)(he:PE X e te)(hd:PE X d td)(hs:starEach [e] X.env=[(false,eval e X.env)]:=by rfl):
  PE X (.Call (.Name "max" p) [e] [⟨some "default",d,kp⟩] pos) (λσ H Q=>te σ H λx H1=>td σ H1 λv H2=>∃(a:Addr) (k:Bool) (vs:List V) (rs:List (List Int)),x=.ref a/\Sq X.K H2 k a vs/\vs.length=rs.length/\(∀i v,vs[i]?=some v->∃c,v=.ref c/\dN X.K H2 c ((rs.getD i []).map V.int))/\(rs≠[]->∀i u,vs[i]?=some u->rs.getD i []=kZ kH rs->Q u H2)/\(rs=[]->Q v H2)):=by
 intro pins s σ H Q I h
 refine xi (qb I hg hm boot_max ?_)
 refine Jm (first:=[]) (by rw [hs];rfl) rfl ?_
 rw [hs]
 refine evalArgs_kwB rfl ?_
 refine Ef (aZ (he pins s σ H _ I h) λu s1 ⟨x,H1,I1,r1,q1⟩=>Ee ?_)
 refine kws_cons (aZ (hd pins s1 σ H1 _ I1 q1) λw s2 ⟨v,H2,I2,r2,a,k,vs,rs,ex,hq,hl,hr,q2,q3⟩=>kws_nil ?_)
 subst ex
 cases r1
 exact b3K hc hu I2 r2 hq hl hr q2 q3
theorem QG(hg:Gl X "max")(hm:X.mg "max" = none)(hc:X.calm=true)(hu:X.A.units+8<cLine)(ha:BV X a ba)(hd:EV X d fd)(hs:starEach [a] X.env=[(false,eval a X.env)]:=by rfl):
  EV X (.Call (.Name "max" p) [a] [⟨some "default",d,kp⟩] pos) (tT kH ba fd):=by
 obtain ⟨t,pt,k⟩:=ha
 obtain ⟨t',GJ,k'⟩:=hd
 refine ⟨_,b6j hc (by ext hu) hg hm pt GJ hs,λO B σ H env s Q R e q=>?_⟩
 obtain ⟨⟨kk,ds⟩,e1,e2⟩:=bind_some e
 obtain ⟨r,ed,e3⟩:=bind_some e2
 obtain ⟨rs,e3,e4⟩:=bind_some e3
 have m6:=FD e3
 dsimp only at m6
 subst m6
 refine k O B σ H env kk _ _ R e1 λl xs H1 s1 hq hx=>?_
 refine k' O B σ H1 env r _ (R.grow s1) ed λv H2 s2 r2=>?_
 have zS:=hx.grow s2
 cases r with
 | sh dd =>
  obtain rfl:=dj (show some (Sl.sh (if rs=[] then dd else .tup ((kZ kH rs).map D.int)))=some s from e4)
  refine ⟨l,kk,xs,rs,rfl,hq.grow s2,by rw [hx.length,aQ],λi v hv=>?_,λhn i u hv em=>?_,λhn=>?_⟩
  .obtain ⟨d,hd,hi⟩:=zS.jG hv
   rw [kT] at hd
   obtain ⟨x,ex,rfl⟩:=map_some hd
   obtain ⟨c,ys,rfl,h1,h2⟩:=vR hi
   refine ⟨c,rfl,?_⟩
   rw [xl,ex]
   show dN X.K H2 c (x.map V.int)
   rw [<-B5 h2];exact h1
  .obtain ⟨d,hd,hi⟩:=zS.jG hv
   rw [kT] at hd
   obtain ⟨x,ex,rfl⟩:=map_some hd
   rw [xl,ex] at em
   have em:x=kZ kH rs:=em
   rw [em] at hi
   rw [if_neg hn] at q
   exact q _ H2 (s1.trans s2) hi
  .rw [if_pos hn] at q
   exact q _ H2 (s1.trans s2) (r2.is λq=>(R.grow s1).oo)
 | _=>cases e4
end
end DL
namespace DL
open PySem PySem.Spec PyProof.Rows L2
mutual
noncomputable def oZ:D->Bool
 | .tup ds=>EL ds
 | .lst _ _=>false
 | .exc _=>false
 | .fx _ _=>false
 | .aR=>true
 | .bl _=>true
 | .int _=>true
 | .str _=>true
noncomputable def EL:List D->Bool
 | []=>true
 | d::r=>oZ d&&EL r
end
section
variable {K:aJ}{O O':Addr->Prop}{H:Hp}{p:Addr}{ys:List V}
theorem yL(hp:H p=some (.lst ys))(h:Rd H q (.tup xs)):q≠p:=λz=>by
 subst z
 rcases h with h | ⟨o,h⟩
 .rw [hp] at h;cases h
 .rw [hp] at h;cases h
mutual
theorem QM(hp:H p=some (.lst ys))(hO:∀q,O q->O' q\/q=p):∀{v:V} {d:D},Is K O' H v d->oZ d=true->Is K O H v d
 | _,_,.aR,_=>.aR
 | _,_,.bl b,_=>.bl b
 | _,_,.int i,_=>.int i
 | _,_,.str x,_=>.str x
 | _,_,.tup ho h1 hs,f=>.tup (λz=>(hO _ z).elim ho (yL hp h1)) h1 (Lo hp hO hs (by simpa [oZ] using f))
 | _,_,.l4 h1 hs,f=>.l4 h1 (Lo hp hO hs (by simpa [oZ] using f))
 | _,_,.lst _ _ _,f=>by simp [oZ] at f
 | _,_,.lY _ _ _,f=>by simp [oZ] at f
 | _,_,.l5 _ _,f=>by simp [oZ] at f
 | _,_,.exc _ _ _,f=>by simp [oZ] at f
 | _,_,.fx _ _,f=>by simp [oZ] at f
 | _,_,.rG _ _,f=>by simp [oZ] at f
theorem Lo(hp:H p=some (.lst ys))(hO:∀q,O q->O' q\/q=p):∀{v:List V} {d:List D},aK K O' H v d->EL d=true->aK K O H v d
 | _,_,.nil,_=>.nil
 | _,_,.cons h t,f=>by
  simp only [EL,vz] at f
  exact .cons (QM hp hO h f.1) (Lo hp hO t f.2)
end
end
noncomputable def Br(i:Nat)(f:En->Option Sl):En->Option Sl:=λenv=>match env[i]? with
 | some (.ow ds)=>(match f (env.set i (.sh (.lst false ds))) with
  | some (.sh d)=>if oZ d=true then some (.sh d) else none
  | _=>none)
 | _=>none
theorem b6R(i:Nat)(h:EV X e f):EV X e (Br i f):=by
 obtain ⟨t,pt,k⟩:=h
 refine ⟨t,pt,λO B σ H env r Q R er q=>?_⟩
 unfold Br at er
 split at er
 .rename_i ds he
  obtain ⟨R',_⟩:=R.kJ he
  split at er
  .rename_i d hf
   split at er
   .rename_i kF
    cases er
    obtain ⟨p,xs,hs,hB,hp,hi⟩:=R.ow i ds he
    refine k O B σ H _ _ Q R' hf λv H' sm rv=>q v H' sm ?_
    refine QM (p:=p) (ys:=xs) (sm _ _ hp) (λz hz=>?_) rv kF
    rcases hz with hz | ⟨j,es,hj,ho,hz⟩
    .exact .inl (.inl hz)
    .by_cases N7:j=i
     .subst N7
      rw [hs] at hz
      cases hz
      exact .inr rfl
     .exact .inl (.inr ⟨j,es,by rw [gW (λw=>N7 w.symm)];exact hj,ho,hz⟩)
   .cases er
  .cases er
 .cases er
theorem b47(he:env[i]?=some (.ow ds))(h:Wo (f (env.set i (.sh (.lst false ds)))) λs=>∃d,s=.sh d/\oZ d=true/\Q (.sh d)):Wo (Br i f env) Q:=by
 obtain ⟨s,e,d,rfl,h1,h2⟩:=h
 refine ⟨.sh d,?_,h2⟩
 unfold Br
 rw [he]
 dsimp only
 rw [e]
 dsimp only
 rw [if_pos h1]
end DL
namespace DL
open PySem PySem.Spec PyProof.Rows L2
noncomputable def sE(lo c:Int)(n:Nat):It:=⟨λi _=>i<n,λi H x H'=>H'=H/\x=.int (lo+i*c),λi _=>n<=i⟩
theorem a88{P:Program}{w:World}{K:aJ}{tg:Expr}(it:Addr)(lo c:Int)(n:Nat):Turn P w K tg (sE lo c n) [it] it (λi h=>IsRangeIter h it (lo+(i:Nat)*c) ((n:Int)-(i:Nat)) c) where
 mem:=by simp
 obj:=λi h st b hb=>by
  have e:b=it:=by simpa using hb
  subst e
  exact ⟨_,st,λv z=>by
   have z':A4 _=vk v:=z
   cases z'⟩
 keep:=λi h h' st k=>k it (by simp) _ st
 item:=by
  intro X hP hw hK hc i pins s σ H E I hf st hg
  subst hP hw hK
  obtain ⟨f0,f1,f2,f3,f4,f5⟩:=hf it (by simp)
  have W:=Walks.range (prog:=X.prog) (w:=X.w) (I.ok.hd hc) it lo c n
  refine W.item i s _ _ hg st λv h' tk hv aj kk=>?_
  obtain ⟨t,rfl⟩:=hv
  have I1:Inv X pins σ H { s with heap:=h',toks:=tk }:=I.turned (λb o hb e=>kk b o (by simpa using hb) e) f0 f1 f3 f4 f5
  exact ⟨_,rfl,Bp (s:={ s with heap:=h',toks:=tk }) (n:="range_iterator") aj rfl rfl (by decide) ⟨.int (lo+i*c),H,I1,⟨t,rfl⟩,⟨rfl,rfl⟩,aj,λb hb=>(hf b hb).1⟩⟩
 done:=by
  intro X hP hw hK hc i pins s σ H E I hf st hg
  subst hP hw hK
  obtain ⟨f0,f1,f2,f3,f4,f5⟩:=hf it (by simp)
  exact wpAny_pyNext_range_end (I.ok.hd hc) st (by have:n<=i:=hg;ext this) λh' eb=>⟨rfl,I.turned (t':=s.toks) (λb o hb e=>eb b o hb e) f0 f1 f3 f4 f5⟩
 self:=λ_ _ _ _ _ st h=>wpAny_pyIter_rangeiter st h
noncomputable def e8(i j c:Int):Nat:=if i<j then ((j-i-1)/c+1).toNat else 0
theorem RW(hc:0<c):(e8 i j c:Int)=Bk i j c:=by
 unfold e8 Bk
 rw [if_pos hc]
 split
 .have:0<=(j-i-1)/c:=IM (by lia) (by ext hc)
  ext this
 .rfl
theorem b55(hc:0<c):(e8 i j c:Int)<=max 0 (j-i):=by
 unfold e8
 split
 .have:(j-i-1)/c<=j-i-1:=Int.ediv_le_self _ (by omega)
  have:0<=(j-i-1)/c:=IM (by omega) (by ext hc)
  omega
 .ext
def mK(i j c:Int):Prop:=(0<c/\c<=2^20)/\(-(2^20)<=i/\i<=2^20) /\ -(2^20)<=j/\j<=2^20
noncomputable instance (i j c:Int):Decidable (mK i j c):=by unfold mK;infer_instance
theorem BN(h:-(2^30)<=n/\n<=2^30):Pd n=true:=by
 unfold Pd
 simp
 lia
theorem b0v(h:mK i j c):Jh i j c=true:=by
 obtain ⟨h1,h2,h3⟩:=h
 have hm:=b55 (i:=i) (j:=j) h1.1
 have hs:=RW (i:=i) (j:=j) h1.1
 unfold Jh
 rw [<-hs,BN (by ext h2),BN (by ext h3),BN (by ext h1),BN (by ext h2 h3 hm),if_pos h1.1,BN (by ext h1 h3)]
 simp
section
variable {X:Cx}{tg:Expr}
theorem b1B{pins:List (Addr×Obj)}{σ:L2.St}{H:Hp}{s:Shared}{R:It->Hp->Prop}{E:Value->Shared->Prop}{i j c:Int}{t u v:Tok}{tk:Nat}(I:Inv X pins σ H s)(hc:mK i j c)
  (q:R (sE i c (e8 i j c)) H):wpAny (model X.prog X.w) X.A (pyIter (.ref s.heap.objs.size)) (F6 X pins σ tg R) E { s with heap:=s.heap.push { cls:=.type "range",data:=.fields #[.int i t,.int j u,.int c v] },toks:=tk }:=by
 have I1:Inv X pins σ H { s with heap:=s.heap.push { cls:=.type "range",data:=.fields #[.int i t,.int j u,.int c v] },toks:=tk }:=I.kept λb o e=>bC _ e
 have e1:i+((0:Nat):Int)*c=i:=by simp
 have e2:((e8 i j c:Nat):Int)-((0:Nat):Int)=Bk i j c:=by rw [<-RW hc.1.1];ext
 have fin:∀b∈[(s.heap.push { cls:=.type "range",data:=.fields #[.int i t,.int j u,.int c v] }).objs.size],cV X pins H b:=λb hb=>by
  have e:b=(s.heap.push { cls:=.type "range",data:=.fields #[.int i t,.int j u,.int c v] }).objs.size:=by simpa using hb
  subst e
  exact I1.iT (bo _) (I1.bh.fresh (bo _))
 refine Je (DB ..) (b0v hc) ?_
 refine ⟨_,[(s.heap.push { cls:=.type "range",data:=.fields #[.int i t,.int j u,.int c v] }).objs.size],_,_,H,rfl,I1.kept (t':=tk) λb o e=>bC _ e,a88 _ i c (e8 i j c),?_,fin,q⟩
 show IsRangeIter _ _ (i+((0:Nat):Int)*c) (((e8 i j c:Nat):Int)-((0:Nat):Int)) c
 rw [e1,e2]
 exact fj _ rfl
noncomputable def b8L(ta:TA):TI:=λσ H R=>ta σ H λvs H1=>∃i j c:Int,vs=[.int i,.int j,.int c]/\mK i j c/\R (sE i c (e8 i j c)) H1
theorem b0A{a b c:Expr}{ta:TA}{p pos:Pos}(hg:Gl X "range")(hm:X.mg "range" = none)(ha:PA X [a,b,c] ta)(hs:starEach [a,b,c] X.env=[(false,eval a X.env),(false,eval b X.env),(false,eval c X.env)]:=by rfl)(gQ:starEach [b,c] X.env=[(false,eval b X.env),(false,eval c X.env)]:=by rfl):
  PI X tg (.Call (.Name "range" p) [a,b,c] [] pos) (b8L ta):=by
 intro pins s σ H R I h
 refine Call_ (qb I hg hm DH (vI (aZ (ha pos pins s σ H _ I h) λus s1 ⟨vs,H1,I1,r1,q1⟩=>?_) (by rw [hs,gQ]) (by rw [gQ];rfl)))
 obtain ⟨i,j,c,e,hc,q⟩:=q1
 subst e
 cases r1 with
 | cons r rr =>
  cases rr with
  | cons r' rr =>
   cases rr with
   | cons Ve rr =>
    cases rr
    obtain ⟨t,rfl⟩:=r
    obtain ⟨t',rfl⟩:=r'
    obtain ⟨t'',rfl⟩:=Ve
    exact call_range_3 (by have:=hc.1.1;ext this) (b1B I1 hc q) (.inl (PyProof.noPylong_small (by have:=hc.1;omega)))
noncomputable def nL(lo c:Int)(n:Nat):List D:=(fI n).map λ(k:Nat)=>D.int (lo+(k:Int)*c)
theorem b1w{K:aJ}{O:Addr->Prop}{H:Hp}(lo c:Int)(n:Nat):vU K O (sE lo c n) H (nL lo c n):=λO' H2 _ _ i=>by
 refine ⟨λd hd=>?_,λhl=>show n<=i by simpa [nL] using hl⟩
 unfold nL at hd
 rw [kT] at hd
 obtain ⟨k,hk,rfl⟩:=map_some hd
 obtain ⟨hi,rfl⟩:=gH.mp hk
 rw [qA] at hi
 refine ⟨hi,λx H3 hy=>?_⟩
 obtain ⟨rfl,rfl⟩:=hy
 rw [O2]
 exact ⟨aq.refl _,Is.int _⟩
noncomputable def Bu:List D->Option (List D)
 | [.int i,.int j,.int c]=>if mK i j c then some (nL i c (e8 i j c)) else none
 | _=>none
theorem b2b{K:aJ}{O:Addr->Prop}{H:Hp}{xs:List V}{i j k:Int}(h:aK K O H xs [.int i,.int j,.int k]):xs=[.int i,.int j,.int k]:=by
 cases h with
 | cons h t=>cases t with
  | cons h' t=>cases t with
   | cons ZL t=>cases t;rw [gZ h,gZ h',gZ ZL]
theorem b4l{a b c:Expr}{fs:En->Option (List D)}{p pos:Pos}(pM:Gl X "range")(hm:X.mg "range" = none)(ha:AV X [a,b,c] fs)(h1:starEach [a,b,c] X.env=[(false,eval a X.env),(false,eval b X.env),(false,eval c X.env)]:=by rfl)
  (h2:starEach [b,c] X.env=[(false,eval b X.env),(false,eval c X.env)]:=by rfl):IV X tg (.Call (.Name "range" p) [a,b,c] [] pos) (eL Bu fs):=by
 obtain ⟨ti,pi,ki⟩:=ha
 refine ⟨_,b0A pM hm pi h1 h2,λO B σ H env ds R Rl e q=>?_⟩
 obtain ⟨as,e1,e2⟩:=bind_some e
 refine ki O B σ H env as _ Rl e1 λvs H1 s1 r1=>?_
 unfold Bu at e2
 split at e2
 .obtain ⟨h1,rfl⟩:=iG e2
  exact ⟨_,_,_,b2b r1,h1,q _ H1 s1 (b1w _ _ _)⟩
 .cases e2
theorem b4Y:Wo (Bu [.int i,.int j,.int c]) Q↔mK i j c/\Q (nL i c (e8 i j c)):=by
 unfold Bu
 exact j7
end
end DL
namespace DL
open PySem PySem.Spec PyProof.Rows L2
section
variable {X:Cx}{a b c:Expr}{pos:Pos}{fa fb fc:En->Option Sl}
theorem RH(ho:g9 X (compareOp op) g)(jD:g9 X (compareOp za) g')(ha:EV X a fa)(hb:EV X b fb)(hc:EV X c fc)(hm:lastMarks [op,za] [b,c]=false:=by with_unfolding_all rfl):
  TV X (.Compare a [op,za] [b,c] pos) (mw (a9 (aa g fa fb)) (a9 (aa g' fb fc))):=by
 obtain ⟨r,hr,hg⟩:=ho
 obtain ⟨r',sX,HS⟩:=jD
 obtain ⟨ta,pa,ka⟩:=ha
 obtain ⟨tb,pb,kb⟩:=hb
 obtain ⟨tc,pc,kc⟩:=hc
 refine ⟨_,b3R hr sX pa pb pc hm,λO B σ H env k Q R e q=>?_⟩
 unfold mw at e
 cases e1:a9 (aa g fa fb) env with
 | none=>rw [e1] at e;cases e
 | some b1 =>
  rw [e1] at e
  obtain ⟨x,ex,e3⟩:=bind_some (Lz e1)
  obtain ⟨y,ey,e4⟩:=bind_some e3
  refine ka O B σ H env x _ R ex λv H1 s1 h1=>?_
  refine kb O B σ H1 env y _ (R.grow s1) ey λu H2 s2 h2=>?_
  have R2:=(R.grow s1).grow s2
  refine hg (OO O σ env) H2 v u x.d y.d _ _ (λq=>R2.oo) ((h1.is λq=>R.oo).grow s2) (h2.is λq=>(R.grow s1).oo) e4 λw H3 s3 h3=>?_
  refine ⟨b1,tV h3,?_⟩
  cases b1 with
  | false =>
   cases e
   rw [if_neg (by decide)]
   exact ⟨false,rfl,q H3 ((s1.trans s2).trans s3)⟩
  | true =>
   rw [if_pos rfl]
   obtain ⟨y',Ox,e5⟩:=bind_some (Lz e)
   rw [ey] at Ox
   cases Ox
   obtain ⟨z,ez,e6⟩:=bind_some e5
   have R3:=R2.grow s3
   refine kc O B σ H3 env z _ R3 ez λw' H4 s4 h4=>?_
   have R4:=R3.grow s4
   refine HS (OO O σ env) H4 u w' y.d z.d _ _ (λq=>R4.oo) (((h2.is λq=>(R.grow s1).oo).grow s3).grow s4) (h4.is λq=>R3.oo) e6 λw2 H5 s5 h5=>?_
   exact ⟨k,tV h5,q H5 ((((s1.trans s2).trans s3).trans s4).trans s5)⟩
end
end DL
namespace DL
open PySem PySem.Spec PyProof.Rows L2
section
variable {X X':Cx}
def Nn(mg:Str->Option Value)(x:Str)(n:Int):Prop:=∃t,mg x=some (.int n t)
theorem b4z(hg:Gl X x)(hm:Nn X.mg x n)(hd:(x==("__debug__":Str))=false:=by decide):EV X (.Name x pos) (eC (.int n)):=by
 obtain ⟨t,hm⟩:=hm
 refine ⟨_,b6k (v:=.int n) hg hm ⟨t,rfl⟩ hd,λO B σ H env s Q R e q=>?_⟩
 cases e
 exact q _ H (aq.refl _) (Is.int _)
end
section
variable {X:Cx}{N:List Str}{sc:Scope}{k:Nat}{full:Bool}{pos pos':Pos}{e:Expr}{fa:En->Option Sl}
noncomputable def EC(C:Int->Int->Prop)[∀i j,Decidable (C i j)](g:Int->Int->Int)(i:Nat)(f:En->Option Sl):SF:=λenv=>match env[i]? with
 | some (.sh (.int m))=>match f env with
  | some (.sh (.int n))=>if C m n then some (.nx,env.set i (.sh (.int (g m n)))) else none
  | _=>none
 | _=>none
theorem b0x{C:Int->Int->Prop}[∀i j,Decidable (C i j)]{g:Int->Int->Int}{i:Nat}{f:En->Option Sl}{env:En}{y:Fl×En}(h:EC C g i f env=some y):∃m n,env[i]?=some (.sh (.int m))/\f env=some (.sh (.int n))/\C m n/\y=(.nx,env.set i (.sh (.int (g m n)))):=by
 unfold EC at h
 split at h
 .rename_i m e1
  split at h
  .rename_i n e2
   obtain ⟨hc,h⟩:=iG h
   exact ⟨m,n,e1,e2,hc,h.symm⟩
  .cases h
 .cases h
noncomputable instance (i j:Int):Decidable (lD i j):=by unfold lD;infer_instance
noncomputable def ED:Nat->(En->Option Sl)->SF:=EC lD λi j=>i*j
theorem YJ:Ni X .Mult (λx y H Q=>∃i j,x=.int i/\y=.int j/\lD i j/\Q (.int (i*j)) H):=λpins s σ H x y v u Q I r1 r2 h=>b6J pins s σ H x y v u Q I r1 r2 h
theorem Fx.Ky(h:Fx X N sc k full)(i:Nat)(he:EV X e fa)(hN:N[i]?=some x:=by rfl)(hv:Loc sc x:=by first | exact di rfl | exact bX rfl)
  (hf:full=true\/sc.names.lookup x=some .local:=by first | exact di rfl | exact bX rfl):SV X (.AugAssign (.Name x pos') .Mult e pos) (ED i fa):=by
 obtain ⟨t,p,kk⟩:=he
 refine ⟨_,Qc h.uH (h.ix hN) (h.loc hv) p YJ (h.uy hf),λO B σ H env fl ai D R e q=>?_⟩
 obtain ⟨m,n,hi,e1,hc,e2⟩:=b0x e
 cases e2
 obtain ⟨v,e3,hv⟩:=R.sh i _ hi
 obtain rfl:=gZ hv
 refine ⟨_,e3,kk O B σ H env _ _ R e1 λv H1 s1 r1=>?_⟩
 obtain rfl:=gZ r1
 refine ⟨m,n,rfl,rfl,hc,?_⟩
 obtain ⟨R',g'⟩:=R.set (v:=.int (m*n)) (r:=.sh (.int (m*n))) s1 (Is.int (m*n)) (gH.mp hi).1
 exact q _ H1 R' g'
end
end DL
namespace TS
open PySem PyProof.Rows
section
variable {prog:Program}{w:World}{A:Around}{E:Value->Shared->Prop}{s:Shared}
end
end TS
namespace KS
open PySem PySem.W PyProof.Rows
noncomputable def go{α:Type}(cmp:Nat->Nat->Bool):KasT α->α
 | .ret a=>a
 | .ask i j k=>go cmp (k (cmp i j))
theorem xF{α β:Type}(cmp:Nat->Nat->Bool)(f:α->KasT β):∀t:KasT α,go cmp (t.bind f)=go cmp (f (go cmp t))
 | .ret a=>rfl
 | .ask i j k=>xF cmp f (k (cmp i j))
section
variable (K:Nat->Int)
noncomputable def kI(p:Array Nat)(i:Nat):Int:=K (p.getD i 0)
def sy(p:Array Nat)(k:Nat):Prop:=∀i j,i<=j->j<k->kI K p i<=kI K p j
def CG(p:Array Nat)(k:Nat):Prop:=∀i j,i<=j->j<k->kI K p j<=kI K p i
noncomputable abbrev fy(i j:Nat):Bool:=decide (K i<K j)
variable {K}
theorem By(h:p[i]?=q[j]?):kI K p i=kI K q j:=by
 unfold kI
 rw [Pc,Pc,h]
theorem Kw(hj:j<=p.size)(k:Nat):kI K (mirror p i j ((j-i)/2)) k=if i<=k/\k<j then kI K p (i+j-1-k) else kI K p k:=by
 have e:=Jg (i:=i) hj k
 by_cases h1:i<=k/\k<j
 .rw [if_pos h1] at e ⊢;exact By e
 .rw [if_neg h1] at e ⊢;exact By e
theorem BO(hj:j<=p.size)(he:∀k,i<=k->k<j->kI K p k=kI K p (j-1))(k:Nat):kI K (mirror p i j ((j-i)/2)) k=kI K p k:=by
 rw [Kw hj]
 split
 .rw [he _ (by omega) (by omega),he k (by omega) (by omega)]
 .rfl
theorem cG:∀(f n:Nat),1<=n->sy K p n->∃m,go (fy K) (kas_asc p f n)=m/\n<=m/\m<=n+f/\sy K p m/\(m=n+f\/kI K p m<kI K p (m-1))
 | 0,n,_,hs=>⟨n,rfl,by ext,by ext,hs,.inl rfl⟩
 | f+1,n,hn,hs=>by
  unfold kas_asc
  show ∃m,go (fy K) (if decide (kI K p n<kI K p (n-1))=true then .ret n else kas_asc p f (n+1))=m/\_
  by_cases c:kI K p n<kI K p (n-1)
  .rw [if_pos (decide_eq_true c)]
   exact ⟨n,rfl,by ext,by ext,hs,.inr c⟩
  .rw [if_neg (by simpa using c)]
   obtain ⟨m,e,m1,m2,m3,m4⟩:=cG f (n+1) (by ext) λi j cC hj=>by
    by_cases d:j<n
    .exact hs i j cC d
    .obtain rfl:j=n:=by ext hj d
     by_cases d2:i=j
     .subst d2;exact cD _
     .have:=hs i (j-1) (by ext cC d2) (by ext hn);ext c this
   exact ⟨m,e,by ext m1,by ext m2,m3,m4.elim (λz=>.inl (by ext z)) .inr⟩
theorem desc:∀(f:Nat) (p:Array Nat) (n q:Nat),1<=n->n+f<=p.size->CG K p n->q+1<=n->(∀i,n-(q+1)<=i->i<n->kI K p i=kI K p (n-1)) ->
  ∃p' m q',go (fy K) (tE f p n q)=(p',m,q')/\p'.Perm p/\n<=m/\m<=n+f/\CG K p' m/\q'+1<=m/\∀i,m-(q'+1)<=i->i<m->kI K p' i=kI K p' (m-1)
 | 0,p,n,q,_,_,hs,hq,he=>⟨p,n,q,rfl,tJ _,by ext,by ext,hs,hq,he⟩
 | f+1,p,n,q,hn,hz,hs,hq,he=>by
  have next:∀p':Array Nat,(∀k,kI K p' k=kI K p k)->kI K p n<=kI K p (n-1)->CG K p' (n+1):=λp' hk hl i j cC hj=>by
   rw [hk,hk]
   by_cases d:j<n
   .exact hs i j cC d
   .obtain rfl:j=n:=by ext hj d
    by_cases d2:i=j
    .subst d2;exact cD _
    .have:=hs i (j-1) (by ext cC d2) (by ext hn);ext hl this
  unfold tE
  show ∃p' m q',go (fy K) (if decide (kI K p n<kI K p (n-1))=true then (if q>0 then tE f (m7 p (n-(q+1)) n) (n+1) 0 else tE f p (n+1) 0) else .ask (p.getD (n-1) 0) (p.getD n 0) λd=>if d=true then .ret (p,n,q) else tE f p (n+1) (q+1))=(p',m,q')/\_
  by_cases c:kI K p n<kI K p (n-1)
  .rw [if_pos (decide_eq_true c)]
   by_cases cq:q>0
   .rw [if_pos cq]
    obtain ⟨p',m,q',e,k1,k2,k3,k4,k5,k6⟩:=desc f (m7 p (n-(q+1)) n) (n+1) 0 (by ext) (by unfold m7;rw [Dx];ext hz) (next _ (BO (by ext hz) he) (by ext c)) (by ext) λi h1 h2=>by congr 1;ext h1 h2
    exact ⟨p',m,q',e,k1.trans (rJ _ _ _ _),by ext k2,by ext k3,k4,k5,k6⟩
   .rw [if_neg cq]
    obtain ⟨p',m,q',e,k1,k2,k3,k4,k5,k6⟩:=desc f p (n+1) 0 (by ext) (by ext hz) (next _ (λ_=>rfl) (by ext c)) (by ext) λi h1 h2=>by congr 1;ext h1 h2
    exact ⟨p',m,q',e,k1,by ext k2,by ext k3,k4,k5,k6⟩
  .rw [if_neg (by simpa using c)]
   show ∃p' m q',go (fy K) (if decide (kI K p (n-1)<kI K p n)=true then .ret (p,n,q) else tE f p (n+1) (q+1))=(p',m,q')/\_
   by_cases c2:kI K p (n-1)<kI K p n
   .rw [if_pos (decide_eq_true c2)]
    exact ⟨p,n,q,rfl,tJ _,by ext,by ext,hs,hq,he⟩
   .rw [if_neg (by simpa using c2)]
    have heq:kI K p n=kI K p (n-1):=by ext c c2
    obtain ⟨p',m,q',e,k1,k2,k3,k4,k5,k6⟩:=desc f p (n+1) (q+1) (by ext) (by ext hz) (next _ (λ_=>rfl) (by ext c2)) (by ext hq) λi h1 h2=>by
     rw [show n+1-1=n by ext]
     by_cases d:i=n
     .subst d;rfl
     .rw [heq];exact he i (by ext h1) (by ext h2 d)
    exact ⟨p',m,q',e,k1,by ext k2,by ext k3,k4,k5,k6⟩
theorem Qm(h1:1<=n)(hn:n<=nrem)(hz:nrem<=p.size)(hs:CG K p n):∃m p',go (fy K) (kas_tail3 n nrem p)=(m,p')/\p'.Perm p/\1<=m/\m<=nrem/\sy K p' m:=by
 unfold kas_tail3
 rw [xF]
 obtain ⟨m,e,m1,m2,m3,_⟩:=cG (K:=K) (p:=m7 p 0 n) (nrem-n) n h1 λi j cC hj=>by
  unfold m7
  rw [Kw (by ext hn hz),Kw (by ext hn hz),if_pos (by ext cC hj),if_pos (by ext hj)]
  exact hs _ _ (by ext cC) (by ext hj)
 rw [e]
 exact ⟨m,_,rfl,rJ _ _ _ _,by ext h1 m1,by ext hn m2,m3⟩
theorem PQ(hn:n+1<=nrem)(hz:nrem<=p.size)(hs:CG K p (n+1)):∃m p',go (fy K) (A5 n nrem p)=(m,p')/\p'.Perm p/\1<=m/\m<=nrem/\sy K p' m:=by
 unfold A5
 rw [xF]
 obtain ⟨p',m,q',e,k1,k2,k3,k4,k5,k6⟩:=desc (K:=K) (nrem-(n+1)) p (n+1) 0 (by ext) (by ext hn hz) hs (by ext) λi h1 h2=>by congr 1;ext h1 h2
 have wM:p'.size=p.size:=k1.size_eq
 rw [e]
 dsimp only
 by_cases c:q'>0
 .rw [if_pos c]
  obtain ⟨a,b,e2,j1,j2,j3,j4⟩:=Qm (K:=K) (p:=m7 p' (m-(q'+1)) m) (n:=m) (nrem:=nrem) (by ext k5) (by ext hn k3) (by unfold m7;rw [Dx];ext hz wM) λi j cC hj=>by
   unfold m7
   rw [BO (by ext hn hz k3 wM) k6,BO (by ext hn hz k3 wM) k6]
   exact k4 i j cC hj
  exact ⟨a,b,e2,j1.trans ((rJ _ _ _ _).trans k1),j2,j3,j4⟩
 .rw [if_neg c]
  obtain ⟨a,b,e2,j1,j2,j3,j4⟩:=Qm (K:=K) (p:=p') (n:=m) (nrem:=nrem) (by ext k5) (by ext hn k3) (by ext hz wM) k4
  exact ⟨a,b,e2,j1.trans k1,j2,j3,j4⟩
theorem cnt(h1:1<=nrem)(hz:nrem<=p.size):∃m p',go (fy K) (kas_count nrem p)=(m,p')/\p'.Perm p/\1<=m/\m<=nrem/\sy K p' m:=by
 unfold kas_count
 rw [xF]
 obtain ⟨n,e,n1,n2,n3,n4⟩:=cG (K:=K) (p:=p) (nrem-1) 1 (by ext) λi j cC hj=>by
  obtain rfl:i=j:=by ext cC hj
  exact cD _
 rw [e]
 by_cases c:n=nrem
 .rw [if_pos (by simpa using c)]
  exact ⟨n,p,rfl,tJ _,n1,by ext c,n3⟩
 rw [if_neg (by simpa using c)]
 have aT:kI K p n<kI K p (n-1):=n4.resolve_left (by ext h1 c)
 by_cases c2:n>1
 .rw [if_pos c2]
  show ∃m p',go (fy K) (if decide (kI K p 0<kI K p (n-1))=true then .ret (n,p) else A5 n nrem (m7 p 0 n))=(m,p')/\_
  by_cases c3:kI K p 0<kI K p (n-1)
  .rw [if_pos (decide_eq_true c3)]
   exact ⟨n,p,rfl,tJ _,n1,by ext h1 n2,n3⟩
  .rw [if_neg (by simpa using c3)]
   have dE:∀k,0<=k->k<n->kI K p k=kI K p (n-1):=λk _ hk=>by
    have:=n3 0 k (by ext) hk
    have:=n3 k (n-1) (by ext hk) (by ext c2)
    lia
   obtain ⟨a,b,e2,j1,j2,j3,j4⟩:=PQ (K:=K) (p:=m7 p 0 n) (n:=n) (nrem:=nrem) (by ext h1 n2 c) (by unfold m7;rw [Dx];ext hz) λi j cC hj=>by
    unfold m7
    rw [BO (by ext h1 hz n2) dE,BO (by ext h1 hz n2) dE]
    by_cases d:j<n
    .rw [dE i (by ext) (by ext cC d),dE j (by ext) d];exact cD _
    .obtain rfl:j=n:=by ext hj d
     by_cases d2:i=j
     .subst d2;exact cD _
     .rw [dE i (by ext) (by ext cC d2)];ext aT
   exact ⟨a,b,e2,j1.trans (rJ _ _ _ _),j2,j3,j4⟩
 .rw [if_neg c2]
  obtain rfl:n=1:=by ext n1 c2
  exact PQ (K:=K) (by ext h1 c) hz λi j cC hj=>by
   by_cases d:i=j
   .subst d;exact cD _
   .obtain ⟨rfl,rfl⟩:i=0/\j=1:=by ext cC hj d
    exact A6 aT
theorem Kr(hs:sy K p k):∀(f l r:Nat),l<=r->r<=k->r-l<=f->(∀i,i<l->kI K p i<=kI K p k)->(∀i,r<=i->i<k->kI K p k<kI K p i) ->
  ∃m,go (fy K) (wW p k f l r)=m/\m<=k/\(∀i,i<m->kI K p i<=kI K p k)/\∀i,m<=i->i<k->kI K p k<kI K p i
 | 0,l,r,h1,h2,h3,h4,h5=>by
  obtain rfl:l=r:=by ext h1 h3
  exact ⟨l,rfl,h2,h4,h5⟩
 | f+1,l,r,h1,h2,h3,h4,h5=>by
  unfold wW
  by_cases c:l≥r
  .rw [if_pos c]
   obtain rfl:l=r:=by ext h1 c
   exact ⟨l,rfl,h2,h4,h5⟩
  .rw [if_neg c]
   show ∃m,go (fy K) (if decide (kI K p k<kI K p ((l+r)/2))=true then wW p k f l ((l+r)/2) else wW p k f ((l+r)/2+1) r)=m/\_
   by_cases c2:kI K p k<kI K p ((l+r)/2)
   .rw [if_pos (decide_eq_true c2)]
    exact Kr hs f l _ (by lia) (by lia) (by lia) h4 λi z1 z2=>by
     have:=hs ((l+r)/2) i z1 z2;ext c2 this
   .rw [if_neg (by simpa using c2)]
    exact Kr hs f _ r (by lia) (by ext h2) (by lia) (λi z=>by
     have:=hs i ((l+r)/2) (by ext z) (by lia);ext c2 this) h5
theorem bin:∀(f:Nat) (p:Array Nat) (k:Nat),1<=k->k+f<=p.size->sy K p k->∃p',go (fy K) (kas_bin f p k)=p'/\p'.Perm p/\sy K p' (k+f)
 | 0,p,k,_,_,hs=>⟨p,rfl,tJ _,hs⟩
 | f+1,p,k,hk,hz,hs=>by
  unfold kas_bin
  rw [xF]
  obtain ⟨l,e,l1,l2,l3⟩:=Kr (K:=K) hs k 0 k (by ext) (by ext) (by ext) (λi z=>by ext z) λi z1 z2=>by ext z1 z2
  rw [e]
  have hb:=getElem?_bubble (xs:=p) (src:=k) (by ext hz) (k-l) (by ext)
  rw [show k-(k-l)=l by ext l1] at hb
  have kb:∀m,kI K (bubble p k (k-l)) m=if m=l then kI K p k else if l<m/\m<=k then kI K p (m-1) else kI K p m:=λm=>by
   have e:=hb m
   by_cases c1:m=l
   .rw [if_pos c1] at e ⊢;exact By e
   .rw [if_neg c1] at e ⊢
    by_cases c2:l<m/\m<=k
    .rw [if_pos c2] at e ⊢;exact By e
    .rw [if_neg c2] at e ⊢;exact By e
  obtain ⟨p',e',j1,j2⟩:=bin f (bubble p k (k-l)) (k+1) (by ext) (by rw [bubble_size];ext hz) λi j cC hj=>by
   rw [kb,kb]
   repeat' split
   all_goals first
    | (exfalso;lia)
    | exact cD _
    | exact l2 _ (by lia)
    | exact A6 (l3 _ (by lia) (by lia))
    | exact hs _ _ (by lia) (by lia)
  exact ⟨p',e',j1.trans (bubble_perm _ _ _),by rw [show k+(f+1)=k+1+f by ext];exact j2⟩
noncomputable def ord(K:Nat->Int)(n:Nat):List Nat:=(go (fy K) (AY n)).toList
theorem eu(K:Nat->Int)(n:Nat)(h:1<=n):(ord K n).Perm (fI n)/\(ord K n).Pairwise λi j=>K i<=K j:=by
 have key:∃p',go (fy K) (AY n)=p'/\p'.Perm (Jc (fI n))/\sy K p' n:=by
  unfold AY
  rw [xF]
  obtain ⟨m,p,e,k1,k2,k3,k4⟩:=cnt (K:=K) (p:=Jc (fI n)) (nrem:=n) h (by simp)
  rw [e]
  dsimp only
  have hz:p.size=n:=by rw [k1.size_eq];simp
  by_cases c:m<n
  .rw [if_pos c]
   obtain ⟨p',e',j1,j2⟩:=bin (K:=K) (n-max m 1) p (max m 1) (by ext) (by ext hz c) (by rw [show max m 1=m by ext k2];exact k4)
   exact ⟨p',e',j1.trans k1,by rw [show max m 1+(n-max m 1)=n by ext c] at j2;exact j2⟩
  .rw [if_neg c]
   obtain rfl:m=n:=by ext k3 c
   exact ⟨p,rfl,k1,k4⟩
 obtain ⟨p,e,k1,k2⟩:=key
 unfold ord
 rw [e]
 refine ⟨xm.mp k1,xg.mpr λi j hi hj cC=>?_⟩
 have hz:p.size=n:=by rw [k1.size_eq];simp
 simp only [gS] at hi hj
 have:=k2 i j (by ext cC) (by ext hj hz)
 unfold kI at this
 simpa [hi,hj] using this
end
end KS
namespace KS
open PySem PySem.W PyProof.Rows
noncomputable def Ok{α:Type}(n:Nat)(R:α->Prop):KasT α->Prop
 | .ret a=>R a
 | .ask i j k=>i<n/\j<n/\∀b,Ok n R (k b)
theorem Ok.bind{α β:Type}{n:Nat}{R:α->Prop}{S:β->Prop}{f:α->KasT β}(hf:∀a,R a->Ok n S (f a)):∀{t:KasT α},Ok n R t->Ok n S (t.bind f)
 | .ret a,h=>hf a h
 | .ask i j k,h=>⟨h.1,h.2.1,λb=>Ok.bind hf (h.2.2 b)⟩
theorem sG{α:Type}{n:Nat}{cm:Nat->Nat->(Bool->Shared->Prop)->Shared->Prop}{cmp:Nat->Nat->Bool}{s:Shared}(h:∀i j,i<n->j<n->∀Q,Q (cmp i j) s->cm i j Q s){R:α->Prop}{Q:α->Shared->Prop}:∀{t:KasT α},Ok n R t->Q (go cmp t) s->t.kasWp cm Q s
 | .ret _,_,q=>q
 | .ask i j k,o,q=>h i j o.1 o.2.1 _ (sG h (o.2.2 (cmp i j)) q)
section
variable {n:Nat}
def En(n:Nat)(p:Array Nat):Prop:=∀k,p.getD k 0<n
theorem En.perm(h0:0<n)(h:En n p)(e:q.Perm p):En n q:=λk=>by
 by_cases hk:k<q.size
 .have hm:q[k]∈p.toList:=(xm.mp e).mem_iff.mp (by simp)
  obtain ⟨i,hi,e2⟩:=pV.mp hm
  have:=h i
  rw [gS] at hi
  simp only [DE,hi,hk,dite_true] at this ⊢
  simp at e2
  have e3:q[k]=p[i]:=e2.symm
  show q[k]<n
  rw [e3]
  exact this
 .simp [DE,hk,h0]
theorem Kq{p:Array Nat}(h:En n p):∀f m,Ok n (λ_=>True) (kas_asc p f m)
 | 0,m=>trivial
 | f+1,m=>by
  unfold kas_asc
  refine ⟨h _,h _,λb=>?_⟩
  dsimp only
  split
  .trivial
  .exact Kq h f (m+1)
theorem E5(h0:0<n):∀f (p:Array Nat) m q,En n p->Ok n (λr=>En n r.1) (tE f p m q)
 | 0,p,m,q,h=>h
 | f+1,p,m,q,h=>by
  unfold tE
  refine ⟨h _,h _,λb=>?_⟩
  dsimp only
  split
  .split
   .exact E5 h0 f _ _ _ (h.perm h0 (rJ _ _ _ _))
   .exact E5 h0 f _ _ _ h
  .refine ⟨h _,h _,λb=>?_⟩
   dsimp only
   split
   .exact h
   .exact E5 h0 f _ _ _ h
theorem RP(h0:0<n)(h:En n p)(a b:Nat):Ok n (λr=>En n r.2) (kas_tail3 a b p):=by
 unfold kas_tail3
 have e:En n (m7 p 0 a):=h.perm h0 (rJ _ _ _ _)
 exact (Kq e _ _).bind λm _=>(show Ok n (λr:Nat×Array Nat=>En n r.2) (.ret (m,m7 p 0 a)) from e)
theorem RO(h0:0<n)(h:En n p)(a b:Nat):Ok n (λr=>En n r.2) (A5 a b p):=by
 unfold A5
 refine (E5 h0 _ _ _ _ h).bind λr hr=>?_
 split
 .exact RP h0 (hr.perm h0 (rJ _ _ _ _)) _ _
 .exact RP h0 hr _ _
theorem b38(h0:0<n)(h:En n p)(b:Nat):Ok n (λr=>En n r.2) (kas_count b p):=by
 unfold kas_count
 refine (Kq h _ _).bind λm _=>?_
 split
 .exact h
 .split
  .refine ⟨h _,h _,λb=>?_⟩
   dsimp only
   split
   .exact h
   .exact RO h0 (h.perm h0 (rJ _ _ _ _)) _ _
  .exact RO h0 h _ _
theorem Lv{p:Array Nat}(h:En n p)(k:Nat):∀f l r,Ok n (λ_=>True) (wW p k f l r)
 | 0,l,r=>trivial
 | f+1,l,r=>by
  unfold wW
  split
  .trivial
  .refine ⟨h _,h _,λb=>?_⟩
   dsimp only
   split
   .exact Lv h k f _ _
   .exact Lv h k f _ _
theorem P'(h0:0<n):∀f (p:Array Nat) k,En n p->Ok n (λ_=>True) (kas_bin f p k)
 | 0,p,k,h=>trivial
 | f+1,p,k,h=>by
  unfold kas_bin
  exact (Lv h k _ _ _).bind λl _=>P' h0 f _ _ (h.perm h0 (bubble_perm _ _ _))
theorem q8(h0:0<n):Ok n (λ_=>True) (AY n):=by
 unfold AY
 have e:En n (Jc (fI n)):=λk=>by
  by_cases hk:k<n
  .simp [DE,hk]
  .simp [DE,hk,h0]
 refine (b38 h0 e n).bind λr hr=>?_
 split
 .exact P' h0 _ _ _ hr
 .trivial
end
end KS
namespace PT
open PySem PySem.W PyProof.Rows
section
variable {prog:Program}{w:World}{A:Around}{E:Value->Shared->Prop}{s:Shared}
end
end PT
namespace DL
open PySem PySem.Spec PyProof.Rows L2
section
variable {X:Cx}
end
end DL
namespace DL
open PySem PySem.W PySem.Spec PyProof.Rows L2
noncomputable def cu{α:Type}(kz:List Int)(d:α)(vs:List α):List α:=if vs.length<2 then vs else (KS.ord (λi=>kz.getD i 0) vs.length).map λi=>vs.getD i d
theorem LM{α:Type}(kz:List Int)(d:α)(vs:List α):(cu kz d vs).Perm vs:=by
 unfold cu
 split
 .exact DX _
 .rename_i hn
  have h:=(KS.eu (λi=>kz.getD i 0) vs.length (by ext hn)).1.map λi=>vs.getD i d
  refine h.trans ?_
  have:(fI vs.length).map (λi=>vs.getD i d)=vs:=by
   refine List.ext_getElem (by simp) λi h1 h2=>?_
   simp at h1
   simp [h1]
  rw [this]
theorem La:∀{xs:List V} {vs:List Value},aA xs vs->∀i (h1:i<xs.length) (h2:i<vs.length),RelV xs[i] vs[i]
 | _::_,_::_,.cons a b,0,_,_=>a
 | _::_,_::_,.cons a b,i+1,h1,h2=>La b i (by simpa using h1) (by simpa using h2)
theorem KE{K:aJ}{O:Addr->Prop}{H:Hp}:∀{xs:List V} {ds:List D},aK K O H xs ds->∀i (h1:i<xs.length) (h2:i<ds.length),Is K O H xs[i] ds[i]
 | _::_,_::_,.cons a b,0,_,_=>a
 | _::_,_::_,.cons a b,i+1,h1,h2=>KE b i (by simpa using h1) (by simpa using h2)
theorem ints_get:∀{vs:List Value} {ns:List Int},IntsAre vs ns->∀i,i<vs.length->∃t,vs.getD i gr=.int (ns.getD i 0) t
 | _,_,.cons n t h,0,_=>⟨t,rfl⟩
 | _,_,.cons n t h,i+1,hi=>by
  obtain ⟨t',e⟩:=ints_get h i (by simpa using hi)
  exact ⟨t',by simpa using e⟩
theorem b31(rv:aA xs vs)(hl:vs.length=xs.length):aA (cu kz (.int 0) xs) (cu kz gr vs):=by
 unfold cu
 by_cases h2:xs.length<2
 .rw [if_pos h2,if_pos (by ext hl h2:1)];exact rv
 rw [if_neg h2,if_neg (by ext hl h2:1),hl]
 have hm:∀i∈KS.ord (λi=>kz.getD i 0) xs.length,i<xs.length:=λi hi=>oV.mp ((KS.eu (λi=>kz.getD i 0) xs.length (by ext h2:1)).1.mem_iff.mp hi)
 generalize KS.ord (λi=>kz.getD i 0) xs.length=os at *
 induction os with
 | nil=>exact .nil
 | cons i os ih =>
  have hi:=hm i (bw ..)
  refine .cons ?_ (ih λj hj=>hm j (bG _ hj))
  have:=La rv i hi (by ext hl hi:1)
  simpa [hi,show i<vs.length by ext hl hi:1] using this
section
variable {X:Cx}{pins:List (Addr×Obj)}{s:Shared}{σ:L2.St}{H:Hp}
theorem zG{α β:Type}{c:Prop}[Decidable c]{M:Model}{A:Around}{a b:Sem α}{f:α->Sem β}{Q:β->Shared->Prop}{E:Value->Shared->Prop}{s:Shared}(h:wpAny M A ((if c then a else b) >>= f) Q E s):wpAny M A (if c then a >>= f else b >>= f) Q E s:=by
 by_cases hc:c
 .rw [if_pos hc] at h ⊢;exact h
 .rw [if_neg hc] at h ⊢;exact h
theorem b1u{k:Nat}{f it:Addr}(hr:cL (k+1) X.A)(I:Inv X pins σ H s){xs:List V}{kz:List Int}(pK:kz.length=xs.length)(dS:xs.length<64)
  (H9:∀{A':Around} {Q':List Value->Shared->Prop} {E':Value->Shared->Prop},A'.handled=X.A.handled->(∀h' tk vs,(∀b o,s.heap.get? b=some o->h'.get? b=some o)->s.heap.objs.size<=h'.objs.size->aA xs vs->Q' vs { s with heap:=h',toks:=tk })->wpAny (model X.prog X.w) A' (collect (.ref it)) Q' E' s)
  (HM:∀(H1:Hp) (s1:Shared) (j:Nat) (v:Value) (x:V),Inv X pins σ H1 s1->aq H H1->RelV x v->xs[j]?=some x->wpAny (model X.prog X.w) X.A.in1.in1 (call (.ref f) [v]) (λu s'=>∃t H',u=.int (kz.getD j 0) t/\Inv X pins σ H' s'/\aq H1 H'/\∀b o,s1.heap.get? b=some o->cV X pins H1 b->s'.heap.get? b=some o/\cV X pins H' b) (λ_ _=>False) s1)
  {Q:VK}(q:∀a H',aq H H'->H' a=none->Q (.ref a) (upd H' a (.lst (cu kz (.int 0) xs)))):
  wpAny (model X.prog X.w) X.A (call (.builtin "sorted") [.ref it] [(rL "key",.ref f)]) (EP X pins σ Q) X.xe s:=by
 refine call_function_entry_kw kind_sorted plain_sorted entry_sorted (ksk_s1 _ _) ?_
 unfold Builtin.«sorted»
 refine ao (m:=checkCount "sorted" 1 1 _) (aU (ao (H9 rfl λhC yr vs kC zC rv=>?_)))
 have rj:vs.length=xs.length:=rv.length.symm
 have hZ:vs.length<=sizeLine:=by rw [iY];ext dS rj:1
 refine ao (DQ ?_ hZ)
 obtain ⟨hL,AM⟩:∃hL,hL=hC.push (seqObj "list" vs.toArray 0):=⟨_,rfl⟩
 have gL:hL.get? hC.objs.size=some (seqObj "list" vs.toArray 0):=by rw [AM];exact fj _ rfl
 have zL:hL.objs.size=hC.objs.size+1:=by rw [AM,DF]
 have kL:∀b o,s.heap.get? b=some o->hL.get? b=some o:=λb o e=>by rw [AM];exact bC _ (kC b o e)
 show wpAny _ _ _ _ _ { s with heap:=hC.push (seqObj "list" vs.toArray 0),toks:=yr }
 rw [<-AM]
 clear AM kC
 generalize ha:hC.objs.size=a at *
 refine ao (nr (wpAny_call_entry_kw slot_list_sort ⟨_,gL,rfl⟩ entry_list_sort ?_ (ksk_l1 _ _)))
 show wpAny (model X.prog X.w) X.A.in1.in1 (Builtin.«list.sort» ⟨[.ref a],[(rL "key",.ref f)]⟩) _ _ _
 rw [ksk_t1]
 unfold ksk_tree
 have fa:cV X pins H a:=I.iT (by ext zC:1) (I.bh.fresh (by ext zC:1))
 refine ao (w6 gL rfl (ao (w9 gL rfl ?_ (by rw [dG];exact hZ) (n6 _))))
 obtain ⟨c1,g1⟩:∃c1,(hL.update a (fS λ_=>(#[]:Array Value))).get? a=some (seqObj "list" #[] c1):=⟨_,DI gL λ_=>#[]⟩
 obtain ⟨hU,eU⟩:∃hU,hU=hL.update a (fS λ_=>(#[]:Array Value)):=⟨_,rfl⟩
 rw [<-eU] at g1
 have zU:hU.objs.size=a+1:=by rw [eU,Ju,zL]
 have kU:∀b o,s.heap.get? b=some o->hU.get? b=some o:=λb o e=>by
  have aT:b<s.heap.objs.size:=bU e
  rw [eU,xj _ _ _ _ (dq (jI aT zC))]
  exact kL b o e
 show wpAny _ _ _ _ _ { s with toks:=yr,heap:=hL.update a (fS λ_=>(#[]:Array Value)) }
 rw [<-eU]
 clear eU kL gL zL
 refine ao (Dw g1 rfl (ao (Ja (ao (DQ (nr ?_) (n6 _))) (by show vs.toArray.size<=_;rw [dG];exact hZ))))
 obtain ⟨hK,eK⟩:∃hK,hK=(hU.push (seqObj "tuple" vs.toArray 0)).push (seqObj "list" #[] 0):=⟨_,rfl⟩
 have zT:(hU.push (seqObj "tuple" vs.toArray 0)).objs.size=a+2:=by rw [DF,zU]
 have gK:hK.get? (a+2)=some (seqObj "list" #[] 0):=by rw [eK,<-zT];exact fj _ rfl
 have gA:hK.get? a=some (seqObj "list" #[] c1):=by rw [eK];exact bC _ (bC _ g1)
 have kK:∀b o,s.heap.get? b=some o->hK.get? b=some o:=λb o e=>by rw [eK];exact bC _ (bC _ (kU b o e))
 show wpAny _ _ _ _ _ { s with toks:=yr,heap:=(hU.push (seqObj "tuple" vs.toArray 0)).push (seqObj "list" #[] 0) }
 rw [<-eK]
 show wpAny _ _ (ksk_rest a (.ref f) false vs.toArray c1 (.ref (hU.push (seqObj "tuple" vs.toArray 0)).objs.size)) _ _ _
 rw [zT]
 clear eK zT g1 kU zU
 generalize hk:a+2=kS at *
 have fk:cV X pins H kS:=I.iT (by ext zC hk:1) (I.bh.fresh (by ext zC hk:1))
 have NF:kS≠a:=by ext hk:1
 have I3:Inv X pins σ H { s with toks:=yr,heap:=hK }:=I.kept (t':=yr) kK
 unfold ksk_rest
 refine ao (tH ?_)
 rw [List.forIn_toArray]
 refine ao (ksk_fold (λi s'=>∃H' kA c,Inv X pins σ H' s'/\aq H H'/\cV X pins H' kS/\cV X pins H' a/\s'.heap.get? kS=some (seqObj "list" kA c)/\s'.heap.get? a=some (seqObj "list" #[] c1)/\IntsAre kA.toList (kz.take i)) vs 0 _ ⟨H,#[],0,I3,aq.refl _,fk,fa,gK,gA,.nil⟩ (λj x s' hj hI=>?_) λs' hI=>?_)
 .obtain ⟨H1,kA,c,I1,sm,f1,f2,g3,g4,ia⟩:=hI
  rw [tF] at ia ⊢
  obtain ⟨Ak,Zc⟩:=gH.mp hj
  have sZ:j<xs.length:=by ext rj Ak:1
  have rx:RelV xs[j] x:=by rw [<-Zc];exact La rv j sZ Ak
  obtain ⟨kv,OC⟩:∃kv,kv=kz.getD j 0:=⟨_,rfl⟩
  have ek:kz.take (j+1)=kz.take j++[kv]:=by rw [List.take_succ,gu (by ext pK rj Ak:1),OC];simp [show j<kz.length by ext pK rj Ak:1]
  have ck:=HM H1 s' j x xs[j] I1 sm rx (gu sZ)
  rw [<-OC] at ck
  refine ao (A2 (m9 ck (λu s2 he=>?_) λ_ _ z=>z.elim))
  .obtain ⟨t,H2,rfl,I2,Ue,kp⟩:=he
   dsimp only
   obtain ⟨g5,f5⟩:=kp kS _ g3 f1
   obtain ⟨g6,f6⟩:=kp a _ g4 f2
   have hz:kA.size<=64:=by
    have:=ia.length
    rw [gS,jr] at this
    ext dS rj Ak this:1
   refine ao (w9 g5 rfl (aU ⟨rfl,?_⟩) (by rw [iY];ext hz:1) (by rw [Array.size_push,iY];ext hz:1))
   obtain ⟨c2,g7⟩:∃c2,(s2.heap.update kS (fS (·.push (.int kv t)))).get? kS=some (seqObj "list" (kA.push (.int kv t)) c2):=⟨_,DI g5 (·.push (.int kv t))⟩
   have NL:∀b o,b∉[kS]->s2.heap.get? b=some o->(s2.heap.update kS (fS (·.push (.int kv t)))).get? b=some o:=λb o hb e=>by
    rw [xj _ _ _ _ (by simpa using hb)]
    exact e
   refine ⟨H2,kA.push (.int kv t),c2,xG (ch:=[kS]) (t':=s2.toks) I2 (λb hb=>by rw [bY.mp hb];exact f5) NL,sm.trans Ue,f5,f6,g7,NL a _ (by simpa using NF.symm) g6,?_⟩
   rw [ek,show (kA.push (lM kv t)).toList=kA.toList++[lM kv t] by simp]
   exact ksk_snoc ia
 .obtain ⟨H1,kA,c,I1,sm,f1,f2,g3,g4,ia⟩:=hI
  have jl:IntsAre kA.toList kz:=by rw [tF,rj,<-pK,List.take_length] at ia;exact ia
  have Af:kA.toList.length=vs.length:=by rw [jl.length,pK,rj]
  have HN:kA.size=vs.length:=by rw [<-gS];exact Af
  refine ao (w6 g3 rfl ?_)
  unfold ksk_end
  dsimp only
  rw [if_neg (by decide)]
  have runK:∀{E:Value->Shared->Prop},wpAny (model X.prog X.w) X.A.in1.in1 (if vs.toArray.size<2 then pure general' else keyKind' kA) (λkind s2=>s2=s'/\wpAny (model X.prog X.w) X.A.in1.in1 ((if vs.toArray.size<2 then pure () else sortRuns').run (AZ kind (if false=true then (kA.zip vs.toArray).reverse else kA.zip vs.toArray) #[] 7 none)) (λr s2=>s2=s'/\(arrOf r.2).map (·.2)=(cu kz gr vs).toArray/\failedOf r.2=none) E s') E s':=λ{E}=>by
   rw [if_neg (show ¬(false=true) by decide)]
   by_cases h2:vs.length<2
   .rw [if_pos (by simpa using h2),if_pos (by simpa using h2)]
    refine aU ⟨rfl,aU ⟨rfl,?_,rfl⟩⟩
    show (kA.zip vs.toArray).map (·.2)=_
    rw [show cu kz gr vs=vs by unfold cu;rw [if_pos h2],Array.map_snd_zip (by simp;ext HN:1)]
   rw [if_neg (by simpa using h2),if_neg (by simpa using h2),ksk_kind jl (by ext HN h2:1)]
   refine aU ⟨rfl,?_⟩
   have:=kat_run (prog:=X.prog) (w:=X.w) (A:=X.A.in1.in1) (E:=E) (s:=s') (ks:=kA.toList) (vs:=vs) (κ:=oneType') (Q:=λaj s2=>s2=s'/\(arrOf aj).map (·.2)=(cu kz gr vs).toArray/\failedOf aj=none) (G:=λp s2=>s2=s'/\p.toList=KS.ord (λi=>kz.getD i 0) vs.length) Af (by ext h2:1) (by ext dS rj:1) (λp aj s2 hz ha hf hp=>⟨hp.1,by
    rw [kat_snds Af ha,hp.2]
    unfold cu
    rw [if_neg (by ext h2:1)],hf⟩) (KS.sG (n:=vs.length) (cmp:=KS.fy λi=>kz.getD i 0) (λi j hi hj C hC=>by
     unfold kas_ask
     obtain ⟨t1,e1⟩:=ints_get jl i (by ext Af hi:1)
     obtain ⟨t2,e2⟩:=ints_get jl j (by ext Af hj:1)
     rw [e1,e2]
     exact kat_lt_int hC) (KS.q8 (by ext h2:1)) ⟨rfl,rfl⟩)
   rw [Array.toArray_toList] at this
   exact this
  refine zG (ao (m9 runK (λkind s2 hq=>?_) λ_ _ e=>e))
  obtain ⟨rfl,run⟩:=hq
  refine ao (m9 run ?_ λ_ _ e=>e)
  rintro ⟨⟨⟩,aj⟩ s2 ⟨rfl,hp,hf⟩
  dsimp only at hp hf ⊢
  unfold ksk_tail
  dsimp only
  rw [hp,hf]
  have jC:(cu kz gr vs).toArray.size=vs.length:=by rw [dG];exact (LM kz _ vs).length_eq
  generalize Zz:(cu kz gr vs).toArray=out at *
  have XR:∀b o,b∉[kS,a]->s2.heap.get? b=some o->(s2.heap.update kS (fS λ_=>(#[]:Array Value))).get? b=some o:=λb o hb e=>by
   rw [xj _ _ _ _ (by simp at hb;exact hb.1)]
   exact e
  have g5:(s2.heap.update kS (fS λ_=>(#[]:Array Value))).get? a=some (seqObj "list" #[] c1):=by
   rw [xj _ _ _ _ NF.symm]
   exact g4
  refine ao (w9 g3 rfl (ao (lK (ao (Dw g5 rfl (ao (w9 g5 rfl ?_ (n6 _) ?_)))))) (by rw [HN];exact hZ) (n6 _))
  .simp only [bne_self_eq_false,oh,if_false]
   obtain ⟨c2,g6⟩:∃c2,((s2.heap.update kS (fS λ_=>(#[]:Array Value))).update a (fS λ_=>out)).get? a=some (seqObj "list" out c2):=⟨_,DI g5 λ_=>out⟩
   refine aU ⟨_,rfl,aU ⟨_,rfl,?_⟩⟩
   have I5:Inv X pins σ H1 { s2 with heap:=(s2.heap.update kS (fS λ_=>(#[]:Array Value))).update a (fS λ_=>out),toks:=s2.toks }:=xG (ch:=[kS,a]) (t':=s2.toks) I1 (λb hb=>by
    rcases br.mp hb with rfl | hb
    .exact f1
    .rw [bY.mp hb];exact f2) λb o hb e=>by
     rw [xj _ _ _ _ (by simp at hb;exact hb.2)]
     exact XR b o hb e
   refine ⟨.ref a,_,yq (o:=.lst (cu kz (.int 0) xs)) I5 f2 ⟨by rw [(LM kz _ xs).length_eq,iY];ext dS:1,out.toList,c2,?_,by simpa using g6⟩,rfl,q a H1 sm f2.1⟩
   rw [<-Zz]
   exact b31 rv (by ext rj:1)
  .simp only [oh,if_false]
   rw [jC]
   ext hZ:1
theorem b1t(F:cW X.prog X.w X.K X.mg X.base jX k f fd ps (nI X.K ps.length φ))(h1:ps.length=1)(hr:cL (k+1) X.A)(hb:Binds X.K fd ps [])
  (I:Inv X pins σ H s)(hq:Sq X.K H true p xs)(hO:qM X.K O H)(ix:aK X.K O H xs ds)(ek:ds.map (λd=>φ [d])=kz.map λk=>some (.sh (.int k)))(dS:xs.length<64)(q:∀a H',aq H H'->H' a=none->Q (.ref a) (upd H' a (.lst (cu kz (.int 0) xs)))):
  wpAny (model X.prog X.w) X.A (call (.builtin "sorted") [.ref p] [(rL "key",.ref f)]) (EP X pins σ Q) X.xe s:=by
 obtain ⟨vs,rv,pl⟩:=oX (b:=true) I hq
 have HK:ds.length=xs.length:=ix.length.symm
 have pK:kz.length=xs.length:=by have:=congrArg mn ek;rw [aQ,aQ] at this;ext HK this
 have YX:cL k X.A.in1.in1:=⟨hr.hd,by have:=hr.dp;show X.A.depth+3*k+5<_;ext this,by have:=hr.un;show X.A.units+1+1+16*k+200<_;ext this⟩
 refine b1u hr I pK dS (λ_ h=>collect_list pl (h _ s.toks vs (λb o e=>?_) ?_ rv) ?_) (λH1 s1 j v x I1 sm rx hx=>?_) q
 .rw [xj _ _ _ _ (dq (bU e))]
  exact bC _ e
 .rw [Ju,DF];ext
 .have:=rv.length;rw [iY];ext dS this
 .obtain ⟨hj,rfl⟩:=gH.mp hx
  have ev:φ [ds[j]]=some (.sh (.int (kz.getD j 0))):=by
   have:=congrArg (λl=>l[j]?) ek
   simp [show j<ds.length by ext HK hj,show j<kz.length by ext pK hj] at this
   simp [show j<kz.length by ext pK hj,this]
  exact b4Q F h1 YX rfl hb I1 (O:=O) rx (hO.grow sm) ((KE ix j hj (by ext HK pK hj)).grow sm) ev
noncomputable def ku(φ:List D->Option Sl):List D->Option (List Int)
 | []=>some []
 | d::ds=>match φ [d] with
  | some (.sh (.int k))=>(ku φ ds).map λks=>k::ks
  | _=>none
theorem RK:∀{ds:List D} {kz:List Int},ku φ ds=some kz->ds.map (λd=>φ [d])=kz.map λk=>some (.sh (.int k))
 | [],kz,h=>by cases h;rfl
 | d::ds,kz,h=>by
  unfold ku at h
  split at h
  .rename_i k e
   obtain ⟨ks,e2,rfl⟩:=map_some h
   rw [fg,fg,e,RK e2]
  .cases h
noncomputable def b7U(K:aJ)(φ:List D->Option Sl)(te:TE):TE:=λσ H Q=>te σ H λxv H1=>∃(O:Addr->Prop) (p:Addr) (xs:List V) (ds:List D) (kz:List Int),xv=.ref p/\Sq K H1 true p xs/\qM K O H1/\aK K O H1 xs ds/\ds.map (λd=>φ [d])=kz.map (λk=>some (.sh (.int k)))/\xs.length<64 /\
 ∀a H',aq H1 H'->H' a=none->Q (.ref a) (upd H' a (.lst (cu kz (.int 0) xs)))
theorem b3Y{k:Nat}{f:Addr}{fd:FuncData}{ps:List Str}{φ:List D->Option Sl}{e:Expr}{te:TE}{x:Str}{p pos kp np:Pos}(F:cW X.prog X.w X.K X.mg X.base jX k f fd ps (nI X.K ps.length φ))(h1:ps.length=1)(hr:cL (k+1) X.A)(Ao:Gl X x)(HG:X.mg x=some (.ref f))(hb:Binds X.K fd ps [])
  (hg:Gl X "sorted")(hm:X.mg "sorted" = none)(he:PE X e te)(hs:starEach [e] X.env=[(false,eval e X.env)]:=by rfl)(kG:(x==("__debug__":Str))=false:=by decide):PE X (.Call (.Name "sorted" p) [e] [⟨some "key",.Name x np,kp⟩] pos) (b7U X.K φ te):=by
 intro pins s σ H Q I h
 refine xi (qb I hg hm boot_sorted ?_)
 refine Jm (first:=[]) (by rw [hs];rfl) rfl ?_
 rw [hs]
 refine evalArgs_kwB rfl ?_
 refine Ef (aZ (he pins s σ H _ I h) λu s1 ⟨xv,H1,I1,r1,q1⟩=>Ee ?_)
 refine kws_cons (KG I1 Ao HG (kws_nil ?_) kG)
 obtain ⟨O,p,xs,ds,kz,rfl,hq,hO,ix,ek,dS,q⟩:=q1
 cases r1
 exact b1t F h1 hr hb I1 hq hO ix ek dS q
noncomputable def qS(φ:List D->Option Sl):D->Option Sl
 | .lst _ ds=>(ku φ ds).bind λkz=>if ds.length<64 then some (.ow (cu kz .aR ds)) else none
 | _=>none
noncomputable def BL(φ:List D->Option Sl)(f:En->Option Sl):En->Option Sl:=λenv=>(f env).bind λr=>qS φ r.d
theorem b32{K:aJ}{O:Addr->Prop}{H:Hp}{kz:List Int}{xs:List V}{ds:List D}(hi:aK K O H xs ds):aK K O H (cu kz (.int 0) xs) (cu kz .aR ds):=by
 have hl:ds.length=xs.length:=hi.length.symm
 unfold cu
 by_cases h2:xs.length<2
 .rw [if_pos h2,if_pos (by ext hl h2:1)];exact hi
 rw [if_neg h2,if_neg (by ext hl h2:1),hl]
 have hm:∀i∈KS.ord (λi=>kz.getD i 0) xs.length,i<xs.length:=λi hi=>oV.mp ((KS.eu (λi=>kz.getD i 0) xs.length (by ext h2:1)).1.mem_iff.mp hi)
 generalize KS.ord (λi=>kz.getD i 0) xs.length=os at *
 induction os with
 | nil=>exact .nil
 | cons i os ih =>
  have hj:=hm i (bw ..)
  refine .cons ?_ (ih λj hj=>hm j (bG _ hj))
  have:=KE hi i hj (by ext hl hj:1)
  simpa [hj,show i<ds.length by ext hl hj:1] using this
theorem b4y{k:Nat}{f:Addr}{fd:FuncData}{ps:List Str}{φ:List D->Option Sl}{e:Expr}{fa:En->Option Sl}{x:Str}{p pos kp np:Pos}(F:cW X.prog X.w X.K X.mg X.base jX k f fd ps (nI X.K ps.length φ))(h1:ps.length=1)(hr:cL (k+1) X.A)(Ao:Gl X x)(HG:X.mg x=some (.ref f))(hb:Binds X.K fd ps [])
  (hg:Gl X "sorted")(hm:X.mg "sorted" = none)(he:EV X e fa)(hs:starEach [e] X.env=[(false,eval e X.env)]:=by rfl)(kG:(x==("__debug__":Str))=false:=by decide):EV X (.Call (.Name "sorted" p) [e] [⟨some "key",.Name x np,kp⟩] pos) (BL φ fa):=by
 obtain ⟨t,pt,kk⟩:=he
 refine ⟨_,b3Y F h1 hr Ao HG hb hg hm pt hs kG,λO B σ H env s Q R e q=>?_⟩
 obtain ⟨r,e1,e2⟩:=bind_some e
 refine kk O B σ H env r _ R e1 λv H1 s1 r1=>?_
 have hi:=r1.is λq=>R.oo
 unfold qS at e2
 split at e2
 .rename_i ro ds hd
  rw [hd] at hi
  obtain ⟨kz,e3,e4⟩:=bind_some e2
  obtain ⟨dS,rfl⟩:=iG e4
  obtain ⟨a,xs,rfl,g2,g3⟩:=hi.seq (k:=true) rfl
  have hl:ds.length=xs.length:=g3.length.symm
  refine ⟨OO O σ env,a,xs,ds,kz,rfl,g2,(R.grow s1).dm,g3,RK e3,by ext dS hl,λc H2 s2 hc=>?_⟩
  refine q _ _ ((s1.trans s2).trans (o5 hc _)) ((xH hc ?_).from (s1.trans s2))
  exact (b32 g3).grow s2
 .cases e2
theorem b3f(e:f env=some (.sh (.lst r ds)))(hk:ku φ ds=some kz)(dS:ds.length<64):Wo (BL φ f env) Q↔Q (.ow (cu kz .aR ds)):=by
 unfold BL
 rw [e,rM]
 show Wo ((ku φ ds).bind _) Q↔_
 rw [hk,rM,if_pos dS,a0i]
end
section
variable {X:Cx}{tg:Expr}
end
theorem Fx.qS{X:Cx}{N:List Str}{sc:Scope}{k j:Nat}{full:Bool}{x:Str}{st:Stmt}{ps:List Str}{φ:List D->Option Sl}{e:Expr}{fa:En->Option Sl}{p pos kp np:Pos}(h:Fx X N sc k full)(O:Oz X.prog X.w X.K X.mg X.base x st ps j φ)(hm:X.mg "sorted" = none)(he:EV X e fa)(hj:j+1<=k:=by decide)(h1:ps.length=1:=by rfl)(Ao:sc.names.lookup x=some .globalImplicit:=by rfl)(hg:sc.names.lookup ("sorted":Str)=some .globalImplicit:=by rfl)
  (hs:starEach [e] X.env=[(false,eval e X.env)]:=by rfl)(kG:(x==("__debug__":Str))=false:=by decide):EV X (.Call (.Name "sorted" p) [e] [⟨some "key",.Name x np,kp⟩] pos) (BL φ fa):=by
 obtain ⟨f,fd,D',F⟩:=O
 exact b4y F h1 (h.room.mono hj) (h.g Ao) D'.m D'.bd (h.g hg) hm he hs kG
end DL
namespace My
open PySem L2 DL
noncomputable def top(i:Nat):Stmt:=PySem.Challenge.pw_offerhouse_k79_whole_shown_is_cheapest.main.body.getD i (.Pass ⟨0,0,0,0⟩)
noncomputable abbrev SU:Stmt:=top 7
noncomputable abbrev L9{α:Type}(Y:Str->Stmt->List Str->α):α:=Y "line_at" SU ["line","low","x"]
noncomputable def LR:SF:=
 (av (aa be (au (bV 0) (eC (.int 0))) (aa dF (au (bV 0) (eC (.int 1))) (aa aP (eV 2) (eV 1)))))
noncomputable def ue:List D->Option Sl:=aE LR 3
theorem oE:Wo (ue [a0,a1,a2]) Q↔Wo (LR [.sh a0,.sh a1,.sh a2]) (aH Q):=bN
noncomputable abbrev SN:Stmt:=top 14
noncomputable abbrev Mw{α:Type}(Y:Str->Stmt->List Str->α):α:=Y "drawn_to" SN ["row","x"]
noncomputable def LY:SF:=
 (av (aG 3 ue (ae (aY (ae (au (bV 0) (eC (.int 2))) (ae (au (bV 0) (eC (.int 3))) ab))) (ae (au (bV 0) (eC (.int 0))) (ae (eV 1) ab)))))
noncomputable def uj:List D->Option Sl:=aE LY 2
theorem mI:Wo (uj [a0,a1]) Q↔Wo (LY [.sh a0,.sh a1]) (aH Q):=bN
noncomputable abbrev Ti:Stmt:=top 19
noncomputable abbrev MC{α:Type}(Y:Str->Stmt->List Str->α):α:=Y "place_of" Ti ["form","x"]
noncomputable def SK:En->Nat:=λ_=>1000000
noncomputable def L4:SF:=
 (ag (aS 2 (eC (.int 0)))
 (ag (aS 3 (bK (bV 0)))
 (ag (BI SK (a9 (aa gn (eV 2) (eV 3)))
 (ag (aS 4 (aa cU (aa be (eV 2) (eV 3)) (eC (.int 2))))
 (cj (a9 (aa gn (au (fT (au (bV 0) (eV 4))) (eC (.int 1))) (eV 1)))
 (aS 2 (aa be (eV 4) (eC (.int 1)))) (aS 3 (eV 4)))))
 (av (eV 2)))))
noncomputable def yd:List D->Option Sl:=aE L4 5
theorem mD:Wo (yd [a0,a1]) Q↔Wo (L4 [.sh a0,.sh a1,.no,.no,.no]) (aH Q):=bN
noncomputable abbrev SI:Stmt:=top 18
noncomputable abbrev Md{α:Type}(Y:Str->Stmt->List Str->α):α:=Y "cost_at" SI ["form","x"]
noncomputable def LP:SF:=
 (ag (aS 2 (aG 2 yd (ae (eV 0) (ae (eV 1) ab))))
 (ag (cj (e7 (a9 (aa fw (eV 2) (bK (bV 0)))) (a9 (aa gn (eV 1) (au (fT (au (bV 0) (eV 2))) (eC (.int 0))))))
 (av (eC .aR)) cQ)
 (av (aG 2 uj (ae (au (bV 0) (eV 2)) (ae (eV 1) ab))))))
noncomputable def jL:List D->Option Sl:=aE LP 3
theorem oG:Wo (jL [a0,a1]) Q↔Wo (LP [.sh a0,.sh a1,.no]) (aH Q):=bN
noncomputable abbrev SR:Stmt:=top 42
noncomputable abbrev Me{α:Type}(Y:Str->Stmt->List Str->α):α:=Y "cost_of" SR ["forms","shares"]
noncomputable def B3:SF:=
 (ag (aS 2 (fR (eL nH (ae (eV 0) (ae (eV 1) ab))) [] 2 (gT 2 (fq (gN 0) (fq (gN 1) nv))) iO (aG 2 jL (ae (eV 0) (ae (eV 1) ab)))))
 (ag (cj (a9 (aa Ds (eC .aR) (eV 2)))
 BH cQ)
 (av (iU (bV 2)))))
noncomputable def nC:List D->Option Sl:=aE B3 3
theorem gk:Wo (nC [a0,a1]) Q↔Wo (B3 [.sh a0,.sh a1,.no]) (aH Q):=bN
noncomputable abbrev S6:Stmt:=top 13
noncomputable abbrev Mo{α:Type}(Y:Str->Stmt->List Str->α):α:=Y "holds_one" S6 ["row"]
noncomputable def Mf:SF:=
 (av (aa fw (au (bV 0) (eC (.int 0))) (au (bV 0) (eC (.int 1)))))
noncomputable def uh:List D->Option Sl:=aE Mf 1
theorem lx:Wo (uh [a0]) Q↔Wo (Mf [.sh a0]) (aH Q):=bN
noncomputable abbrev RE:Stmt:=top 17
noncomputable abbrev KW{α:Type}(Y:Str->Stmt->List Str->α):α:=Y "plain" RE ["row"]
noncomputable def KZ:SF:=
 (av (lJ (gz (aG 1 uh (ae (eV 0) ab))) (aY (ae (au (bV 0) (eC (.int 0))) (ae (au (bV 0) (eC (.int 1))) (ae (au (bV 0) (eC (.int 2))) (ae (eC (.int 0)) ab))))) (eV 0)))
noncomputable def sk:List D->Option Sl:=aE KZ 1
theorem sv:Wo (sk [a0]) Q↔Wo (KZ [.sh a0]) (aH Q):=bN
noncomputable abbrev TK:Stmt:=top 16
noncomputable abbrev M7{α:Type}(Y:Str->Stmt->List Str->α):α:=Y "laid_beside" TK ["ahead","row"]
noncomputable def ML:SF:=
 (ag (aS 2 (lJ (gz (aG 1 uh (ae (eV 0) ab))) (aa aP (au (bV 1) (eC (.int 2))) (au (bV 0) (eC (.int 2)))) (au (bV 0) (eC (.int 3)))))
 (ag (cj (a9 (aa me (au (bV 1) (eC (.int 2))) (aG 3 ue (ae (aY (ae (au (bV 0) (eC (.int 2))) (ae (eV 2) ab))) (ae (au (bV 0) (eC (.int 0))) (ae (au (bV 1) (eC (.int 0))) ab))))))
 (av (aO (ae (eV 0) (ae (aG 1 sk (ae (eV 1) ab)) ab)))) cQ)
 (ag (cj (e7 (gz (aG 1 uh (ae (eV 1) ab))) (a9 (aa fw (au (bV 1) (eC (.int 3))) (eV 2))))
 (av (aO (ae (aY (ae (au (bV 0) (eC (.int 0))) (ae (au (bV 1) (eC (.int 1))) (ae (au (bV 0) (eC (.int 2))) (ae (eV 2) ab))))) ab))) cQ)
 (ag (aS 3 (aG 1 sk (ae (aY (ae (aa be (au (bV 1) (eC (.int 0))) (eC (.int 1))) (ae (au (bV 1) (eC (.int 1))) (ae (aa be (au (bV 1) (eC (.int 2))) (au (bV 1) (eC (.int 3)))) (ae (au (bV 1) (eC (.int 3))) ab))))) ab)))
 (av (aO (ae (aY (ae (au (bV 0) (eC (.int 0))) (ae (au (bV 1) (eC (.int 0))) (ae (au (bV 0) (eC (.int 2))) (ae (eV 2) ab))))) (ae (eV 3) ab))))))))
noncomputable def Ce:List D->Option Sl:=aE ML 4
theorem ji:Wo (Ce [a0,a1]) Q↔Wo (ML [.sh a0,.sh a1,.no,.no]) (aH Q):=bN
noncomputable abbrev Q0:Stmt:=top 15
noncomputable abbrev Kl{α:Type}(Y:Str->Stmt->List Str->α):α:=Y "laid" Q0 ["rows"]
noncomputable def J5:SF:=
 (ag (cP 1 (aO ab))
 (ag (c6 (eV 0) (gN 2)
 (cj (mw (Bv (bV 1)) (a9 (aa fw (aa be (au (fT (au (bV 1) (iV (eC (.int 1))))) (eC (.int 1))) (eC (.int 1))) (au (bV 2) (eC (.int 0))))))
 (ag (lW 3 1)
 (fM 1 (aG 2 Ce (ae (eV 3) (ae (eV 2) ab))))) (dQ 1 (aG 1 sk (ae (eV 2) ab)))))
 (av (BM (bV 1)))))
noncomputable def qL:List D->Option Sl:=aE J5 4
theorem wu:Wo (qL [a0]) Q↔Wo (J5 [.sh a0,.no,.no,.no]) (aH Q):=bN
noncomputable abbrev Tp:Stmt:=top 11
noncomputable abbrev MJ{α:Type}(Y:Str->Stmt->List Str->α):α:=Y "stretch_on" Tp ["line","low","first","last"]
noncomputable def MX:SF:=
 (av (aY (ae (eV 2) (ae (eV 3) (ae (aG 3 ue (ae (eV 0) (ae (eV 1) (ae (eV 2) ab)))) (ae (au (bV 0) (eC (.int 1))) ab))))))
noncomputable def ui:List D->Option Sl:=aE MX 4
theorem jO:Wo (ui [a0,a1,a2,a3]) Q↔Wo (MX [.sh a0,.sh a1,.sh a2,.sh a3]) (aH Q):=bN
noncomputable abbrev TJ:Stmt:=top 9
noncomputable abbrev M4{α:Type}(Y:Str->Stmt->List Str->α):α:=Y "span_or_none" TJ ["first","last"]
noncomputable def M1:SF:=
 (av (lJ (a9 (aa oQ (eV 0) (eV 1))) (aY (ae (eV 0) (ae (eV 1) ab))) (eC .aR)))
noncomputable def yh:List D->Option Sl:=aE M1 2
theorem iI:Wo (yh [a0,a1]) Q↔Wo (M1 [.sh a0,.sh a1]) (aH Q):=bN
noncomputable abbrev P4:Stmt:=top 5
noncomputable abbrev ux{α:Type}(Y:Str->Stmt->List Str->α):α:=Y "up" P4 ["a","b"]
noncomputable def wB:SF:=
 (av (iV (aa cU (iV (eV 0)) (eV 1))))
noncomputable def t6:List D->Option Sl:=aE wB 2
theorem Nd:Wo (t6 [a0,a1]) Q↔Wo (wB [.sh a0,.sh a1]) (aH Q):=bN
noncomputable abbrev QZ:Stmt:=top 6
noncomputable abbrev Kk{α:Type}(Y:Str->Stmt->List Str->α):α:=Y "down" QZ ["a","b"]
noncomputable def J4:SF:=
 (av (aa cU (eV 0) (eV 1)))
noncomputable def uc:List D->Option Sl:=aE J4 2
theorem wx:Wo (uc [a0,a1]) Q↔Wo (J4 [.sh a0,.sh a1]) (aH Q):=bN
noncomputable abbrev S':Stmt:=top 8
noncomputable abbrev Ms{α:Type}(Y:Str->Stmt->List Str->α):α:=Y "no_dearer" S' ["one","other","low","high"]
noncomputable def Mk:SF:=
 (ag (aS 4 (aa aP (au (bV 0) (eC (.int 0))) (au (bV 1) (eC (.int 0)))))
 (ag (aS 5 (aa aP (au (bV 0) (eC (.int 1))) (au (bV 1) (eC (.int 1)))))
 (ag (cj (a9 (aa nY (eV 5) (eC (.int 0))))
 (av (aG 2 yh (ae (eV 2) (ae (p9 vO (ae (eV 3) (ae (aa be (eV 2) (aG 2 uc (ae (iV (eV 4)) (ae (eV 5) ab)))) ab))) ab)))) cQ)
 (ag (cj (a9 (aa gn (eV 5) (eC (.int 0))))
 (av (aG 2 yh (ae (p9 tX (ae (eV 2) (ae (aa be (eV 2) (aG 2 t6 (ae (eV 4) (ae (iV (eV 5)) ab)))) ab))) (ae (eV 3) ab)))) cQ)
 (av (lJ (a9 (aa nY (eV 4) (eC (.int 0)))) (eC .aR) (aY (ae (eV 2) (ae (eV 3) ab)))))))))
noncomputable def Co:List D->Option Sl:=aE Mk 6
theorem lj:Wo (Co [a0,a1,a2,a3]) Q↔Wo (Mk [.sh a0,.sh a1,.sh a2,.sh a3,.no,.no]) (aH Q):=bN
noncomputable abbrev To:Stmt:=top 10
noncomputable abbrev MI{α:Type}(Y:Str->Stmt->List Str->α):α:=Y "lower_line" To ["one","other","low","high"]
noncomputable def MW:SF:=
 (ag (aS 4 (aG 4 Co (ae (eV 0) (ae (eV 1) (ae (eV 2) (ae (eV 3) ab))))))
 (ag (cj (a9 (aa iB (eV 4) (eC .aR)))
 (av (aO (ae (aG 4 ui (ae (eV 1) (ae (eV 2) (ae (eV 2) (ae (eV 3) ab))))) ab))) cQ)
 (ag (cP 5 (aO ab))
 (ag (cj (a9 (aa gn (eV 2) (au (bV 4) (eC (.int 0)))))
 (dQ 5 (aG 4 ui (ae (eV 1) (ae (eV 2) (ae (eV 2) (ae (aa aP (au (bV 4) (eC (.int 0))) (eC (.int 1))) ab)))))) cQ)
 (ag (dQ 5 (aG 4 ui (ae (eV 0) (ae (eV 2) (ae (au (bV 4) (eC (.int 0))) (ae (au (bV 4) (eC (.int 1))) ab))))))
 (ag (cj (a9 (aa gn (au (bV 4) (eC (.int 1))) (eV 3)))
 (dQ 5 (aG 4 ui (ae (eV 1) (ae (eV 2) (ae (aa be (au (bV 4) (eC (.int 1))) (eC (.int 1))) (ae (eV 3) ab)))))) cQ)
 (j6 5)))))))
noncomputable def Cr:List D->Option Sl:=aE MW 6
theorem jP:Wo (Cr [a0,a1,a2,a3]) Q↔Wo (MW [.sh a0,.sh a1,.sh a2,.sh a3,.no,.no]) (aH Q):=bN
noncomputable abbrev S9:Stmt:=top 24
noncomputable abbrev Mr{α:Type}(Y:Str->Stmt->List Str->α):α:=Y "line_from" S9 ["row","low"]
noncomputable def Mj:SF:=
 (av (aY (ae (aG 2 uj (ae (eV 0) (ae (eV 1) ab))) (ae (au (bV 0) (eC (.int 3))) ab))))
noncomputable def xU:List D->Option Sl:=aE Mj 2
theorem lq:Wo (xU [a0,a1]) Q↔Wo (Mj [.sh a0,.sh a1]) (aH Q):=bN
noncomputable abbrev Qj:Stmt:=top 23
noncomputable abbrev JZ{α:Type}(Y:Str->Stmt->List Str->α):α:=Y "met" Qj ["one","other"]
noncomputable def QC:En->Nat:=λ_=>1000000
noncomputable def JQ:SF:=
 (ag (cP 2 (aO ab))
 (ag (aS 3 (eC (.int 0)))
 (ag (aS 4 (eC (.int 0)))
 (ag (BI QC (mw (a9 (aa gn (eV 3) (bK (bV 0)))) (a9 (aa gn (eV 4) (bK (bV 1)))))
 (ag (aS 5 (au (bV 0) (eV 3)))
 (ag (aS 6 (au (bV 1) (eV 4)))
 (ag (aS 7 (p9 tX (ae (au (bV 5) (eC (.int 0))) (ae (au (bV 6) (eC (.int 0))) ab))))
 (ag (aS 8 (p9 vO (ae (au (bV 5) (eC (.int 1))) (ae (au (bV 6) (eC (.int 1))) ab))))
 (ag (cj (a9 (aa oQ (eV 7) (eV 8)))
 (dQ 2 (aY (ae (eV 7) (ae (eV 8) (ae (aG 2 xU (ae (eV 5) (ae (eV 7) ab))) (ae (aG 2 xU (ae (eV 6) (ae (eV 7) ab))) ab)))))) cQ)
 (cj (a9 (aa gn (au (bV 5) (eC (.int 1))) (au (bV 6) (eC (.int 1)))))
 (iR 3 (eC (.int 1))) (iR 4 (eC (.int 1))))))))))
 (j6 2)))))
noncomputable def BP:List D->Option Sl:=aE JQ 9
theorem Cy:Wo (BP [a0,a1]) Q↔Wo (JQ [.sh a0,.sh a1,.no,.no,.no,.no,.no,.no,.no]) (aH Q):=bN
noncomputable abbrev TQ:Stmt:=top 30
noncomputable abbrev Na{α:Type}(Y:Str->Stmt->List Str->α):α:=Y "lesser_rows" TQ ["one","other"]
noncomputable def MQ:SF:=
 (ag (cP 2 (aO ab))
 (ag (c6 (aG 2 BP (ae (eV 0) (ae (eV 1) ab))) (gT 4 (fq (gN 3) (fq (gN 4) (fq (gN 5) (fq (gN 6) nv)))))
 (fM 2 (aG 4 Cr (ae (eV 5) (ae (eV 6) (ae (eV 3) (ae (eV 4) ab)))))))
 (j6 2)))
noncomputable def Cg:List D->Option Sl:=aE MQ 7
theorem jd:Wo (Cg [a0,a1]) Q↔Wo (MQ [.sh a0,.sh a1,.no,.no,.no,.no,.no]) (aH Q):=bN
noncomputable abbrev Qi:Stmt:=top 25
noncomputable abbrev JY{α:Type}(Y:Str->Stmt->List Str->α):α:=Y "cut" Qi ["row","low","high"]
noncomputable def JO:SF:=
 (av (aY (ae (eV 1) (ae (eV 2) (ae (aG 2 uj (ae (eV 0) (ae (eV 1) ab))) (ae (au (bV 0) (eC (.int 3))) ab))))))
noncomputable def xI:List D->Option Sl:=aE JO 3
theorem CA:Wo (xI [a0,a1,a2]) Q↔Wo (JO [.sh a0,.sh a1,.sh a2]) (aH Q):=bN
noncomputable abbrev S0:Stmt:=top 26
noncomputable abbrev Mb{α:Type}(Y:Str->Stmt->List Str->α):α:=Y "outside" S0 ["form","spans"]
noncomputable def SG:En->Nat:=λ_=>1000000
noncomputable def LV:SF:=
 (ag (cP 2 (aO ab))
 (ag (aS 3 (eC (.int 0)))
 (ag (c6 (eV 0) (gN 4)
 (ag (aS 5 (au (bV 4) (eC (.int 0))))
 (ag (BI SG (mw (a9 (aa gn (eV 3) (bK (bV 1)))) (a9 (aa oQ (au (fT (au (bV 1) (eV 3))) (eC (.int 0))) (au (bV 4) (eC (.int 1))))))
 (ag (cj (a9 (aa gn (eV 5) (au (fT (au (bV 1) (eV 3))) (eC (.int 0)))))
 (dQ 2 (aG 3 xI (ae (eV 4) (ae (eV 5) (ae (aa aP (au (fT (au (bV 1) (eV 3))) (eC (.int 0))) (eC (.int 1))) ab))))) cQ)
 (ag (aS 5 (p9 tX (ae (eV 5) (ae (aa be (au (fT (au (bV 1) (eV 3))) (eC (.int 1))) (eC (.int 1))) ab))))
 (ag (cj (a9 (aa nY (au (fT (au (bV 1) (eV 3))) (eC (.int 1))) (au (bV 4) (eC (.int 1)))))
 Gw cQ)
 (iR 3 (eC (.int 1)))))))
 (cj (a9 (aa oQ (eV 5) (au (bV 4) (eC (.int 1)))))
 (dQ 2 (aG 3 xI (ae (eV 4) (ae (eV 5) (ae (au (bV 4) (eC (.int 1))) ab))))) cQ))))
 (j6 2))))
noncomputable def yb:List D->Option Sl:=aE LV 6
theorem oB:Wo (yb [a0,a1]) Q↔Wo (LV [.sh a0,.sh a1,.no,.no,.no,.no]) (aH Q):=bN
noncomputable abbrev Tj:Stmt:=top 20
noncomputable abbrev Mu{α:Type}(Y:Str->Stmt->List Str->α):α:=Y "spans_of" Tj ["form"]
noncomputable def L5:SF:=
 (ag (cP 1 (aO ab))
 (ag (c6 (eV 0) (gN 2)
 (cj (mw (Bv (bV 1)) (a9 (aa fw (aa be (au (fT (au (bV 1) (iV (eC (.int 1))))) (eC (.int 1))) (eC (.int 1))) (au (bV 2) (eC (.int 0))))))
 (ag (lW 3 1)
 (dQ 1 (aY (ae (au (bV 3) (eC (.int 0))) (ae (au (bV 2) (eC (.int 1))) ab))))) (dQ 1 (aY (ae (au (bV 2) (eC (.int 0))) (ae (au (bV 2) (eC (.int 1))) ab))))))
 (av (BM (bV 1)))))
noncomputable def we:List D->Option Sl:=aE L5 4
theorem mC:Wo (we [a0]) Q↔Wo (L5 [.sh a0,.no,.no,.no]) (aH Q):=bN
noncomputable abbrev RC:Stmt:=top 28
noncomputable abbrev KR{α:Type}(Y:Str->Stmt->List Str->α):α:=Y "least" RC ["one","other"]
noncomputable def KY:SF:=
 (ag (aS 2 (aa be (aG 2 yb (ae (eV 0) (ae (aG 1 we (ae (eV 1) ab)) ab))) (aG 2 yb (ae (eV 1) (ae (aG 1 we (ae (eV 0) ab)) ab)))))
 (av (aG 1 qL (ae (EX (aa be (aG 2 Cg (ae (eV 0) (ae (eV 1) ab))) (eV 2))) ab))))
noncomputable def sj:List D->Option Sl:=aE KY 3
theorem sx:Wo (sj [a0,a1]) Q↔Wo (KY [.sh a0,.sh a1,.no]) (aH Q):=bN
noncomputable abbrev Th:Stmt:=top 29
noncomputable abbrev mz{α:Type}(Y:Str->Stmt->List Str->α):α:=Y "least_of" Th ["forms"]
noncomputable def Cf:List D->Option Sl:=λ_=>none
noncomputable def Tt:SF:=
 (ag (cj (a9 (aa gn (bK (bV 0)) (eC (.int 2))))
 (av (lJ (gz (eV 0)) (au (bV 0) (eC (.int 0))) (aY ab))) cQ)
 (ag (aS 1 (aa cU (bK (bV 0)) (eC (.int 2))))
 (av (aG 2 sj (ae (aG 1 Cf (ae (mZ (bV 0) nO (mR (eV 1))) ab)) (ae (aG 1 Cf (ae (mZ (bV 0) (mR (eV 1)) nO) ab)) ab))))))
noncomputable def ye:List D->Option Sl:=aE Tt 2
theorem a79:Wo (ye [a0]) Q↔Wo (Tt [.sh a0,.no]) (aH Q):=bN
noncomputable def Tu:SF:=
 (ag (cj (a9 (aa gn (bK (bV 0)) (eC (.int 2))))
 (av (lJ (gz (eV 0)) (au (bV 0) (eC (.int 0))) (aY ab))) cQ)
 (ag (aS 1 (aa cU (bK (bV 0)) (eC (.int 2))))
 (av (aG 2 sj (ae (aG 1 ye (ae (mZ (bV 0) nO (mR (eV 1))) ab)) (ae (aG 1 ye (ae (mZ (bV 0) (mR (eV 1)) nO) ab)) ab))))))
noncomputable def yf:List D->Option Sl:=aE Tu 2
theorem a78:Wo (yf [a0]) Q↔Wo (Tu [.sh a0,.no]) (aH Q):=bN
noncomputable def Tv:SF:=
 (ag (cj (a9 (aa gn (bK (bV 0)) (eC (.int 2))))
 (av (lJ (gz (eV 0)) (au (bV 0) (eC (.int 0))) (aY ab))) cQ)
 (ag (aS 1 (aa cU (bK (bV 0)) (eC (.int 2))))
 (av (aG 2 sj (ae (aG 1 yf (ae (mZ (bV 0) nO (mR (eV 1))) ab)) (ae (aG 1 yf (ae (mZ (bV 0) (mR (eV 1)) nO) ab)) ab))))))
noncomputable def yg:List D->Option Sl:=aE Tv 2
theorem a77:Wo (yg [a0]) Q↔Wo (Tv [.sh a0,.no]) (aH Q):=bN
noncomputable def MP:SF:=
 (ag (cj (a9 (aa gn (bK (bV 0)) (eC (.int 2))))
 (av (lJ (gz (eV 0)) (au (bV 0) (eC (.int 0))) (aY ab))) cQ)
 (ag (aS 1 (aa cU (bK (bV 0)) (eC (.int 2))))
 (av (aG 2 sj (ae (aG 1 yg (ae (mZ (bV 0) nO (mR (eV 1))) ab)) (ae (aG 1 yg (ae (mZ (bV 0) (mR (eV 1)) nO) ab)) ab))))))
noncomputable def wq:List D->Option Sl:=aE MP 2
theorem ft:Wo (wq [a0]) Q↔Wo (MP [.sh a0,.no]) (aH Q):=bN
noncomputable abbrev TR:Stmt:=top 39
noncomputable abbrev MZ{α:Type}(Y:Str->Stmt->List Str->α):α:=Y "how_many_picks" TR ["forms"]
noncomputable def MY:SF:=
 (ag (aS 1 (eC (.int 1)))
 (ag (c6 (eV 0) (gN 2)
 (ED 1 (bK (bV 2))))
 (av (eV 1))))
noncomputable def yi:List D->Option Sl:=aE MY 3
theorem gj:Wo (yi [a0]) Q↔Wo (MY [.sh a0,.no,.no]) (aH Q):=bN
noncomputable abbrev RD:Stmt:=top 38
noncomputable abbrev KU{α:Type}(Y:Str->Stmt->List Str->α):α:=Y "picks" RD ["forms"]
noncomputable def EO:SF:=
 (ag (cj (a9 (aa nY (aG 1 yi (ae (eV 0) ab)) (eC (.int 100))))
 BH cQ)
 (ag (cj (a9 (aa fw (aG 1 yi (ae (eV 0) ab)) (eC (.int 0))))
 (av (aO ab)) cQ)
 (ag (aS 1 (aO (ae (aO ab) ab)))
 (ag (c6 (eV 0) (gN 2)
 (ag (cP 3 (aO ab))
 (ag (c6 (eV 1) (gN 4)
 (fM 3 (fR (e9 (eV 2)) [4] 1 (gN 0) iO (aa be (eV 1) (aO (ae (eV 0) ab))))))
 (pf 3 (aS 1 (eV 3))))))
 (av (eV 1))))))
noncomputable def xR:List D->Option Sl:=aE EO 5
theorem nD:Wo (xR [a0]) Q↔Wo (EO [.sh a0,.no,.no,.no,.no]) (aH Q):=bN
noncomputable abbrev S1:Stmt:=top 36
noncomputable abbrev Mc{α:Type}(Y:Str->Stmt->List Str->α):α:=Y "step_of" S1 ["row"]
noncomputable def LW:SF:=
 (av (au (bV 0) (eC (.int 3))))
noncomputable def uf:List D->Option Sl:=aE LW 1
theorem oA:Wo (uf [a0]) Q↔Wo (LW [.sh a0]) (aH Q):=bN
noncomputable abbrev R9:Stmt:=top 35
noncomputable abbrev Lj{α:Type}(Y:Str->Stmt->List Str->α):α:=Y "poured" R9 ["rows"]
noncomputable def K8:SF:=
 (ag (aS 1 (iU (fT (fR (e9 (eV 0)) [] 1 (gN 0) iO (au (bV 0) (eC (.int 0)))))))
 (ag (aS 2 (iU (fT (fR (e9 (eV 0)) [] 1 (gN 0) iO (au (bV 0) (eC (.int 2)))))))
 (ag (cP 3 (aO (ae (aY (ae (eV 1) (ae (eV 1) (ae (eV 2) (ae (eC (.int 0)) ab))))) ab)))
 (ag (c6 (BL uf (eV 0)) (gN 4)
 (ag (aS 5 (aa aP (au (bV 4) (eC (.int 1))) (au (bV 4) (eC (.int 0)))))
 (ag (cj (a9 (aa nY (eV 5) (eC (.int 0))))
 (dQ 3 (aY (ae (aa be (eV 1) (eC (.int 1))) (ae (aa be (eV 1) (eV 5)) (ae (aa be (eV 2) (au (bV 4) (eC (.int 3)))) (ae (au (bV 4) (eC (.int 3))) ab)))))) cQ)
 (ag (iR 1 (eV 5))
 (iR 2 (aa dF (au (bV 4) (eC (.int 3))) (eV 5)))))))
 (pf 3 (av (aG 1 qL (ae (eV 3) ab))))))))
noncomputable def wj:List D->Option Sl:=aE K8 6
theorem qg:Wo (wj [a0]) Q↔Wo (K8 [.sh a0,.no,.no,.no,.no,.no]) (aH Q):=bN
noncomputable abbrev TF:Stmt:=top 37
noncomputable abbrev M2{α:Type}(Y:Str->Stmt->List Str->α):α:=Y "least_poured" TF ["forms"]
noncomputable def F0:SF:=
 (av (aG 1 wq (ae (fR (e9 (aG 1 xR (ae (eV 0) ab))) [] 1 (gN 0) iO (aG 1 wj (ae (eV 0) ab))) ab)))
noncomputable def Cv:List D->Option Sl:=aE F0 1
theorem eM:Wo (Cv [a0]) Q↔Wo (F0 [.sh a0]) (aH Q):=bN
noncomputable abbrev RZ:Stmt:=top 41
noncomputable abbrev Lh{α:Type}(Y:Str->Stmt->List Str->α):α:=Y "joined" RZ ["forms"]
noncomputable def K6:SF:=
 (av (aG 1 Cv (ae (eV 0) ab)))
noncomputable def xN:List D->Option Sl:=aE K6 1
theorem qi:Wo (xN [a0]) Q↔Wo (K6 [.sh a0]) (aH Q):=bN
noncomputable abbrev SM:Stmt:=top 57
noncomputable abbrev Mv{α:Type}(Y:Str->Stmt->List Str->α):α:=Y "cheapest" SM ["forms","shares"]
noncomputable def LX:SF:=
 (ag (aS 2 (aG 1 xN (ae (eV 0) ab)))
 (av (aa fw (aG 2 nC (ae (eV 0) (ae (eV 1) ab))) (aG 2 jL (ae (eV 2) (ae (iU (bV 1)) ab))))))
noncomputable def Cs:List D->Option Sl:=aE LX 3
theorem mJ:Wo (Cs [a0,a1]) Q↔Wo (LX [.sh a0,.sh a1,.no]) (aH Q):=bN
noncomputable abbrev Tf:Stmt:=top 64
noncomputable abbrev MA{α:Type}(Y:Str->Stmt->List Str->α):α:=Y "_law_cost" Tf ["rows","x"]
noncomputable def L1:SF:=
 (ag (c6 (eV 0) (gT 4 (fq (gN 2) (fq (gN 3) (fq (gN 4) (fq (gN 5) nv)))))
 (cj (mw (a9 (aa oQ (eV 2) (eV 1))) (a9 (aa oQ (eV 1) (eV 3))))
 (av (aa be (eV 4) (aa dF (eV 5) (aa aP (eV 1) (eV 2))))) cQ))
 (av (eC .aR)))
noncomputable def Ct:List D->Option Sl:=aE L1 6
theorem mF:Wo (Ct [a0,a1]) Q↔Wo (L1 [.sh a0,.sh a1,.no,.no,.no,.no]) (aH Q):=bN
noncomputable abbrev S8:Stmt:=top 69
noncomputable abbrev Mq{α:Type}(Y:Str->Stmt->List Str->α):α:=Y "_law_total" S8 ["sellers","shares"]
noncomputable def Mi:SF:=
 (av (iU (fT (fR (eL nH (ae (eV 0) (ae (eV 1) ab))) [] 2 (gT 2 (fq (gN 0) (fq (gN 1) nv))) iO (aG 2 Ct (ae (eV 0) (ae (eV 1) ab)))))))
noncomputable def xT:List D->Option Sl:=aE Mi 2
theorem lr:Wo (xT [a0,a1]) Q↔Wo (Mi [.sh a0,.sh a1]) (aH Q):=bN
noncomputable abbrev Tz:Stmt:=top 65
noncomputable abbrev MF{α:Type}(Y:Str->Stmt->List Str->α):α:=Y "_law_amount" Tz ["rows","cell"]
noncomputable def MT:SF:=
 (ag (aS 2 (aa bA (aa xt (aa bA (eV 1) (eC (.int 2147483629))) (eC (.int 48271))) (eC (.int 2147483629))))
 (ag (aS 3 (au (bV 0) (aa bA (aa cU (eV 2) (eC (.int 5))) (bK (bV 0)))))
 (ag (aS 4 (aa be (aa aP (au (bV 3) (eC (.int 1))) (au (bV 3) (eC (.int 0)))) (eC (.int 1))))
 (ag (aS 5 (au (fT (aO (ae (eC (.int 0)) (ae (aa aP (eV 4) (eC (.int 1))) (ae (p9 vO (ae (eC (.int 1)) (ae (aa aP (eV 4) (eC (.int 1))) ab))) (ae (aa cU (eV 4) (eC (.int 2))) (ae (aa bA (aa xt (eV 1) (aa eJ (eC (.int 48271)) (eC (.int 9)))) (eV 4)) ab))))))) (aa bA (eV 2) (eC (.int 5)))))
 (av (aa be (au (bV 3) (eC (.int 0))) (eV 5)))))))
noncomputable def wo:List D->Option Sl:=aE MT 6
theorem jS:Wo (wo [a0,a1]) Q↔Wo (MT [.sh a0,.sh a1,.no,.no,.no,.no]) (aH Q):=bN
noncomputable abbrev TU:Stmt:=top 70
noncomputable abbrev Nc{α:Type}(Y:Str->Stmt->List Str->α):α:=Y "_law_others_cost_more" TU ["forms","sellers","shares","p","cells"]
noncomputable def Nb:SF:=
 (ag (aS 5 (aG 2 xT (ae (eV 1) (ae (eV 2) ab))))
 (ag (c6 (eV 4) (gN 6)
 (ag (aS 7 (fR (eL Bt (ae (bK (bV 1)) ab)) [1,6] 1 (gN 0) iO (aG 2 wo (ae (au (bV 1) (eV 0)) (ae (aa be (eV 2) (eV 0)) ab)))))
 (ag (aS 8 (aG 2 nC (ae (eV 0) (ae (Bq (bV 7)) ab))))
 (cj (e7 (a9 (aa me (eV 8) (aG 2 xT (ae (eV 1) (ae (eV 7) ab))))) (a9 (aa gn (eV 8) (aa be (eV 5) (aa dF (eV 3) (aa aP (iU (bV 7)) (iU (bV 2))))))))
 (av (eC (.bl false))) cQ))))
 (av (eC (.bl true)))))
noncomputable def Cu:List D->Option Sl:=aE Nb 9
theorem dH:Wo (Cu [a0,a1,a2,a3,a4]) Q↔Wo (Nb [.sh a0,.sh a1,.sh a2,.sh a3,.sh a4,.no,.no,.no,.no]) (aH Q):=bN
noncomputable abbrev Tw:Stmt:=top 52
noncomputable abbrev MD{α:Type}(Y:Str->Stmt->List Str->α):α:=Y "ends_above" Tw ["form","x"]
noncomputable def MR:SF:=
 (ag (cP 2 (aO ab))
 (ag (c6 (eV 0) (gN 3)
 (cj (a9 (aa nY (au (bV 3) (eC (.int 1))) (eV 1)))
 (fM 2 (aO (ae (p9 tX (ae (au (bV 3) (eC (.int 0))) (ae (aa be (eV 1) (eC (.int 1))) ab))) (ae (au (bV 3) (eC (.int 1))) ab)))) cQ))
 (j6 2)))
noncomputable def xV:List D->Option Sl:=aE MR 4
theorem jU:Wo (xV [a0,a1]) Q↔Wo (MR [.sh a0,.sh a1,.no,.no]) (aH Q):=bN
noncomputable abbrev Td:Stmt:=top 50
noncomputable abbrev Mx{α:Type}(Y:Str->Stmt->List Str->α):α:=Y "highs_of" Td ["forms","shares"]
noncomputable def LZ:SF:=
 (ag (cP 2 (aO ab))
 (ag (vM (eL vL (ae (eV 0) ab)) (gT 2 (fq (gN 3) (fq (gN 4) nv)))
 (ag (aS 5 (au (bV 1) (eV 3)))
 (ag (aS 6 (aG 2 nC (ae (aO (ae (eV 4) ab)) (ae (aO (ae (eV 5) ab)) ab))))
 (fM 2 (fR (e9 (aG 2 xV (ae (eV 4) (ae (eV 5) ab)))) [4,6,5,3] 1 (gN 0) iO (aY (ae (aG 2 uc (ae (aa aP (aG 2 jL (ae (eV 1) (ae (eV 0) ab))) (eV 2)) (ae (aa aP (eV 0) (eV 3)) ab))) (ae (eV 4) (ae (eV 0) ab)))))))))
 (j6 2)))
noncomputable def yc:List D->Option Sl:=aE LZ 7
theorem mH:Wo (yc [a0,a1]) Q↔Wo (LZ [.sh a0,.sh a1,.no,.no,.no,.no,.no]) (aH Q):=bN
noncomputable abbrev Tx:Stmt:=top 51
noncomputable abbrev ME{α:Type}(Y:Str->Stmt->List Str->α):α:=Y "ends_below" Tx ["form","x"]
noncomputable def MS:SF:=
 (ag (cP 2 (aO ab))
 (ag (c6 (eV 0) (gN 3)
 (cj (a9 (aa gn (au (bV 3) (eC (.int 0))) (eV 1)))
 (fM 2 (aO (ae (au (bV 3) (eC (.int 0))) (ae (p9 vO (ae (au (bV 3) (eC (.int 1))) (ae (aa aP (eV 1) (eC (.int 1))) ab))) ab)))) cQ))
 (j6 2)))
noncomputable def xW:List D->Option Sl:=aE MS 4
theorem jT:Wo (xW [a0,a1]) Q↔Wo (MS [.sh a0,.sh a1,.no,.no]) (aH Q):=bN
noncomputable abbrev SX:Stmt:=top 49
noncomputable abbrev L'{α:Type}(Y:Str->Stmt->List Str->α):α:=Y "lows_of" SX ["forms","shares"]
noncomputable def LS:SF:=
 (ag (cP 2 (aO ab))
 (ag (vM (eL vL (ae (eV 0) ab)) (gT 2 (fq (gN 3) (fq (gN 4) nv)))
 (ag (aS 5 (au (bV 1) (eV 3)))
 (ag (aS 6 (aG 2 nC (ae (aO (ae (eV 4) ab)) (ae (aO (ae (eV 5) ab)) ab))))
 (fM 2 (fR (e9 (aG 2 xW (ae (eV 4) (ae (eV 5) ab)))) [6,4,5,3] 1 (gN 0) iO (aY (ae (aG 2 t6 (ae (aa aP (eV 1) (aG 2 jL (ae (eV 2) (ae (eV 0) ab)))) (ae (aa aP (eV 3) (eV 0)) ab))) (ae (eV 4) (ae (eV 0) ab)))))))))
 (j6 2)))
noncomputable def ya:List D->Option Sl:=aE LS 7
theorem oD:Wo (ya [a0,a1]) Q↔Wo (LS [.sh a0,.sh a1,.no,.no,.no,.no,.no]) (aH Q):=bN
noncomputable abbrev Ta:Stmt:=top 53
noncomputable abbrev Mt{α:Type}(Y:Str->Stmt->List Str->α):α:=Y "paper_for" Ta ["forms","shares"]
noncomputable def Ml:SF:=
 (ag (aS 2 (tT kH (fT (aG 2 ya (ae (eV 0) (ae (eV 1) ab)))) (eC .aR)))
 (ag (aS 3 (tT HT.lexLt (fT (aG 2 yc (ae (eV 0) (ae (eV 1) ab)))) (eC .aR)))
 (ag (cj (a9 (aa iB (eV 2) (eC .aR)))
 (av (aY (ae (eC (.str "price")) (ae (lJ (a9 (aa iB (eV 3) (eC .aR))) (eC (.int 0)) (au (bV 3) (eC (.int 0)))) ab)))) cQ)
 (ag (cj (e7 (a9 (aa iB (eV 3) (eC .aR))) (a9 (aa oQ (au (bV 2) (eC (.int 0))) (au (bV 3) (eC (.int 0))))))
 (av (aY (ae (eC (.str "price")) (ae (au (bV 2) (eC (.int 0))) ab)))) cQ)
 (av (aY (ae (eC (.str "bars")) (ae (au (bV 2) (eC (.int 1))) (ae (au (bV 2) (eC (.int 2))) (ae (au (bV 3) (eC (.int 1))) (ae (au (bV 3) (eC (.int 2))) ab)))))))))))
noncomputable def Cp:List D->Option Sl:=aE Ml 4
theorem lh:Wo (Cp [a0,a1]) Q↔Wo (Ml [.sh a0,.sh a1,.no,.no]) (aH Q):=bN
noncomputable abbrev S5:Stmt:=top 56
noncomputable abbrev Mn{α:Type}(Y:Str->Stmt->List Str->α):α:=Y "bars_hold" S5 ["forms","shares","paper"]
noncomputable def a9O:SF:=
 (ag (aS 3 (au (bV 2) (eC (.int 1))))
 (ag (aS 4 (au (bV 2) (eC (.int 3))))
 (ag (cj (e7 (xq (mw (a9 (aa oQ (eC (.int 0)) (eV 3))) (a9 (aa gn (eV 3) (bK (bV 0)))))) (xq (mw (a9 (aa oQ (eC (.int 0)) (eV 4))) (a9 (aa gn (eV 4) (bK (bV 0)))))))
 (av (eC (.bl false))) cQ)
 (ag (aS 5 (au (bV 2) (eC (.int 2))))
 (ag (aS 6 (au (bV 2) (eC (.int 4))))
 (ag (aS 7 (aG 2 jL (ae (au (bV 0) (eV 3)) (ae (eV 5) ab))))
 (ag (aS 8 (aG 2 jL (ae (au (bV 0) (eV 4)) (ae (eV 6) ab))))
 (ag (cj (e7 (a9 (aa iB (eV 7) (eC .aR))) (e7 (a9 (aa iB (eV 8) (eC .aR))) (e7 (a9 (aa Il (eV 5) (au (bV 1) (eV 3)))) (a9 (aa oQ (eV 6) (au (bV 1) (eV 4)))))))
 (av (eC (.bl false))) cQ)
 (ag (aS 9 (aG 2 t6 (ae (aa aP (aG 2 jL (ae (au (bV 0) (eV 3)) (ae (au (bV 1) (eV 3)) ab))) (eV 7)) (ae (aa aP (au (bV 1) (eV 3)) (eV 5)) ab))))
 (ag (aS 10 (aG 2 uc (ae (aa aP (eV 8) (aG 2 jL (ae (au (bV 0) (eV 4)) (ae (au (bV 1) (eV 4)) ab)))) (ae (aa aP (eV 6) (au (bV 1) (eV 4))) ab))))
 (av (aa nY (eV 9) (eV 10)))))))))))))
noncomputable def M5:List D->Option Sl:=aE a9O 11
noncomputable abbrev SY:Stmt:=top 21
noncomputable abbrev Ma{α:Type}(Y:Str->Stmt->List Str->α):α:=Y "offered" SY ["form"]
noncomputable def LU:SF:=
 (ag (cj (a9 (aa fw (bK (bV 0)) (eC (.int 0))))
 BH cQ)
 (av (eV 0)))
noncomputable def B9:List D->Option Sl:=aE LU 1
theorem oC:Wo (B9 [a0]) Q↔Wo (LU [.sh a0]) (aH Q):=bN
noncomputable abbrev Tq:Stmt:=top 32
noncomputable abbrev M6{α:Type}(Y:Str->Stmt->List Str->α):α:=Y "cheapest_in" Tq ["row"]
noncomputable def MK:SF:=
 (ag (cj (a9 (aa gn (au (bV 0) (eC (.int 3))) (eC (.int 0))))
 (av (aY (ae (aG 2 uj (ae (eV 0) (ae (au (bV 0) (eC (.int 1))) ab))) (ae (au (bV 0) (eC (.int 1))) ab)))) cQ)
 (av (aY (ae (au (bV 0) (eC (.int 2))) (ae (au (bV 0) (eC (.int 0))) ab)))))
noncomputable def Cd:List D->Option Sl:=aE MK 1
theorem jk:Wo (Cd [a0]) Q↔Wo (MK [.sh a0]) (aH Q):=bN
noncomputable abbrev Tn:Stmt:=top 31
noncomputable abbrev MH{α:Type}(Y:Str->Stmt->List Str->α):α:=Y "least_cost" Tn ["form"]
noncomputable def MV:SF:=
 (av (Ey (fT (fR (e9 (aG 1 B9 (ae (eV 0) ab))) [] 1 (gN 0) iO (aG 1 Cd (ae (eV 0) ab))))))
noncomputable def xY:List D->Option Sl:=aE MV 1
theorem jQ:Wo (xY [a0]) Q↔Wo (MV [.sh a0]) (aH Q):=bN
noncomputable abbrev Sa:Stmt:=top 45
noncomputable abbrev Lk{α:Type}(Y:Str->Stmt->List Str->α):α:=Y "tilted" Sa ["form","p"]
noncomputable def K9:SF:=
 (av (aG 1 qL (ae (fR (e9 (eV 0)) [1] 1 (gN 0) iO (aY (ae (au (bV 0) (eC (.int 0))) (ae (au (bV 0) (eC (.int 1))) (ae (aa aP (au (bV 0) (eC (.int 2))) (aa dF (eV 1) (au (bV 0) (eC (.int 0))))) (ae (aa aP (au (bV 0) (eC (.int 3))) (eV 1)) ab)))))) ab)))
noncomputable def xP:List D->Option Sl:=aE K9 2
theorem qf:Wo (xP [a0,a1]) Q↔Wo (K9 [.sh a0,.sh a1]) (aH Q):=bN
noncomputable abbrev SS:Stmt:=top 44
noncomputable abbrev L8{α:Type}(Y:Str->Stmt->List Str->α):α:=Y "gain_at" SS ["form","p"]
noncomputable def LQ:SF:=
 (av (iV (au (fT (aG 1 xY (ae (aG 2 xP (ae (eV 0) (ae (eV 1) ab))) ab))) (eC (.int 0)))))
noncomputable def B8:List D->Option Sl:=aE LQ 2
theorem oF:Wo (B8 [a0,a1]) Q↔Wo (LQ [.sh a0,.sh a1]) (aH Q):=bN
noncomputable abbrev RG:Stmt:=top 47
noncomputable abbrev K'{α:Type}(Y:Str->Stmt->List Str->α):α:=Y "shows" RG ["form","x","p"]
noncomputable def K0:SF:=
 (av (aa fw (aa aP (aa dF (eV 2) (eV 1)) (aG 2 nC (ae (aO (ae (eV 0) ab)) (ae (aO (ae (eV 1) ab)) ab)))) (aG 2 B8 (ae (eV 0) (ae (eV 2) ab)))))
noncomputable def v7:List D->Option Sl:=aE K0 3
theorem su:Wo (v7 [a0,a1,a2]) Q↔Wo (K0 [.sh a0,.sh a1,.sh a2]) (aH Q):=bN
noncomputable abbrev d9:Stmt:=top 55
noncomputable abbrev c5{α:Type}(Y:Str->Stmt->List Str->α):α:=Y "paper_holds" d9 ["forms","shares","paper"]
noncomputable def dg:SF:=
 (ag (J1 (aG 2 nC (ae (eV 0) (ae (eV 1) ab))))
 (ag (cj (a9 (aa fw (au (bV 2) (eC (.int 0))) (eC (.str "price"))))
 (av (rF (fT (fR (eL nH (ae (eV 0) (ae (eV 1) ab))) [2] 2 (gT 2 (fq (gN 0) (fq (gN 1) nv))) iO (aG 3 v7 (ae (eV 0) (ae (eV 1) (ae (au (bV 2) (eC (.int 1))) ab)))))))) cQ)
 (av (aG 3 M5 (ae (eV 0) (ae (eV 1) (ae (eV 2) ab)))))))
noncomputable def bg:List D->Option Sl:=aE dg 3
theorem jc:Wo (bg [a0,a1,a2]) Q↔Wo (dg [.sh a0,.sh a1,.sh a2]) (aH Q):=bN
noncomputable abbrev TH:Stmt:=top 48
noncomputable abbrev M3{α:Type}(Y:Str->Stmt->List Str->α):α:=Y "shares_shown" TH ["forms","shares"]
noncomputable def M0:SF:=
 (ag (aS 2 (tT kH (fT (aG 2 ya (ae (eV 0) (ae (eV 1) ab)))) (eC .aR)))
 (ag (aS 3 (tT HT.lexLt (fT (aG 2 yc (ae (eV 0) (ae (eV 1) ab)))) (eC .aR)))
 (av (aY (ae (lJ (a9 (aa iB (eV 2) (eC .aR))) (eC .aR) (au (bV 2) (eC (.int 0)))) (ae (lJ (a9 (aa iB (eV 3) (eC .aR))) (eC .aR) (au (bV 3) (eC (.int 0)))) ab))))))
noncomputable def Cw:List D->Option Sl:=aE M0 4
theorem iJ:Wo (Cw [a0,a1]) Q↔Wo (M0 [.sh a0,.sh a1,.no,.no]) (aH Q):=bN
noncomputable abbrev Te:Stmt:=top 67
noncomputable abbrev Mz{α:Type}(Y:Str->Stmt->List Str->α):α:=Y "_law_best" Te ["rows","p"]
noncomputable def L0:SF:=
 (ag (aS 2 (eC .aR))
 (ag (aS 3 (eC (.int 0)))
 (ag (c6 (eV 0) (gT 4 (fq (gN 4) (fq (gN 5) (fq (gN 6) (fq (gN 7) nv)))))
 (c6 (aO (ae (eV 4) (ae (eV 5) ab))) (gN 8)
 (ag (aS 9 (aa aP (aa aP (aa dF (eV 1) (eV 8)) (eV 6)) (aa dF (eV 7) (aa aP (eV 8) (eV 4)))))
 (cj (e7 (a9 (aa iB (eV 2) (eC .aR))) (a9 (aa nY (eV 9) (eV 2))))
 (ag (aS 2 (eV 9))
 (aS 3 (eV 8))) cQ))))
 (av (eV 3)))))
noncomputable def wb:List D->Option Sl:=aE L0 10
theorem mG:Wo (wb [a0,a1]) Q↔Wo (L0 [.sh a0,.sh a1,.no,.no,.no,.no,.no,.no,.no,.no]) (aH Q):=bN
noncomputable abbrev TC:Stmt:=top 68
noncomputable abbrev MG{α:Type}(Y:Str->Stmt->List Str->α):α:=Y "_law_prices" TC ["sellers","cell"]
noncomputable def MU:SF:=
 (ag (cP 2 (aO (ae (aa aP (aa bA (eV 1) (eC (.int 13))) (eC (.int 6))) (ae (aa aP (aa bA (aa xt (eV 1) (aa eJ (eC (.int 69621)) (eC (.int 12)))) (aa eJ (eC (.int 10)) (eC (.int 50)))) (aa xt (eC (.int 5)) (aa eJ (eC (.int 10)) (eC (.int 49))))) ab))))
 (ag (c6 (eV 0) (gN 3)
 (c6 (eV 3) (gN 4)
 (dQ 2 (aa aP (aa be (au (bV 4) (eC (.int 3))) (aa bA (eV 1) (eC (.int 3)))) (eC (.int 1))))))
 (j6 2)))
noncomputable def xX:List D->Option Sl:=aE MU 5
theorem jR:Wo (xX [a0,a1]) Q↔Wo (MU [.sh a0,.sh a1,.no,.no,.no]) (aH Q):=bN
noncomputable abbrev R8:Stmt:=top 59
noncomputable abbrev Li{α:Type}(Y:Str->Stmt->List Str->α):α:=Y "_law_at" R8 ["script","k"]
noncomputable def K7:SF:=
 (ag (cj (a9 (aa gn (eV 1) (bK (bV 0))))
 (av (au (bV 0) (eV 1))) cQ)
 (av (eC (.int 0))))
noncomputable def xO:List D->Option Sl:=aE K7 2
theorem qh:Wo (xO [a0,a1]) Q↔Wo (K7 [.sh a0,.sh a1]) (aH Q):=bN
noncomputable abbrev S7:Stmt:=top 61
noncomputable abbrev Mp{α:Type}(Y:Str->Stmt->List Str->α):α:=Y "_law_mixed" S7 ["number","factor"]
noncomputable def Mh:SF:=
 (av (aa bA (aa dF (aa bA (eV 0) (eC (.int 2147483629))) (eV 1)) (eC (.int 2147483629))))
noncomputable def wt:List D->Option Sl:=aE Mh 2
theorem lu:Wo (wt [a0,a1]) Q↔Wo (Mh [.sh a0,.sh a1]) (aH Q):=bN
noncomputable abbrev TN:Stmt:=top 62
noncomputable abbrev M'{α:Type}(Y:Str->Stmt->List Str->α):α:=Y "_law_stretch" TN ["number","ahead"]
noncomputable def MO:SF:=
 (ag (aS 2 (aa bA (aa dF (eV 0) (aa eJ (eC (.int 48271)) (eC (.int 12)))) (aa eJ (eC (.int 10)) (eC (.int 50)))))
 (ag (aS 3 (aa bA (aa dF (eV 0) (aa eJ (eC (.int 69621)) (eC (.int 12)))) (aa eJ (eC (.int 10)) (eC (.int 40)))))
 (ag (aS 4 (aG 2 wt (ae (eV 0) (ae (eC (.int 1583458089)) ab))))
 (ag (aS 5 (aG 2 wt (ae (eV 0) (ae (eC (.int 784588716)) ab))))
 (ag (aS 6 (aG 2 wt (ae (eV 0) (ae (eC (.int 950706376)) ab))))
 (ag (aS 7 (au (fT (aO (ae (eC (.int 0)) (ae (aa aP (aa bA (aa cU (eV 4) (eC (.int 7))) (eC (.int 41))) (eC (.int 20))) (ae (aa aP (eV 2) (aa dF (eC (.int 5)) (aa eJ (eC (.int 10)) (eC (.int 49))))) ab))))) (aa bA (eV 4) (eC (.int 3)))))
 (ag (aS 8 (au (fT (aO (ae (aa aP (aa bA (aa cU (eV 5) (eC (.int 5))) (eC (.int 61))) (eC (.int 30))) (ae (aa aP (eV 3) (aa dF (eC (.int 5)) (aa eJ (eC (.int 10)) (eC (.int 39))))) ab)))) (aa bA (eV 5) (eC (.int 2)))))
 (ag (aS 9 (au (fT (aO (ae (eC (.int 0)) (ae (aa aP (aa bA (aa cU (eV 6) (eC (.int 9))) (eC (.int 7))) (eC (.int 3))) (ae (aa aP (aa bA (aa cU (eV 6) (eC (.int 9))) (eC (.int 7))) (eC (.int 3))) (ae (aa aP (aa cU (eV 2) (aa eJ (eC (.int 10)) (eC (.int 9)))) (aa dF (eC (.int 5)) (aa eJ (eC (.int 10)) (eC (.int 40))))) ab)))))) (aa bA (eV 6) (eC (.int 4)))))
 (ag (aS 10 (au (fT (aO (ae (eC (.int 1)) (ae (eC (.int 2)) (ae (aa be (eC (.int 1)) (aa bA (aa cU (eV 4) (eC (.int 300))) (eC (.int 9)))) (ae (aa be (eC (.int 1)) (eV 3)) ab)))))) (aa bA (aa cU (eV 5) (eC (.int 400))) (eC (.int 4)))))
 (ag (cj (a9 (aa nY (bK (bV 1)) (eC (.int 0))))
 (ag (aS 11 (au (bV 1) (iV (eC (.int 1)))))
 (ag (aS 7 (aa be (aa be (au (bV 11) (eC (.int 1))) (eC (.int 1))) (au (fT (aO (ae (eC (.int 0)) (ae (eC (.int 0)) (ae (aa be (eC (.int 1)) (aa bA (aa cU (eV 5) (eC (.int 3000))) (eC (.int 5)))) (ae (aa bA (eV 2) (aa eJ (eC (.int 10)) (eC (.int 40)))) ab)))))) (aa bA (aa cU (eV 6) (eC (.int 70))) (eC (.int 4))))))
 (cj (a9 (aa fw (aa bA (aa cU (eV 4) (eC (.int 3000))) (eC (.int 2))) (eC (.int 1))))
 (aS 8 (aa aP (aa be (aa be (au (bV 11) (eC (.int 2))) (aa dF (au (bV 11) (eC (.int 3))) (aa be (aa aP (au (bV 11) (eC (.int 1))) (au (bV 11) (eC (.int 0)))) (eC (.int 1))))) (aa bA (aa cU (eV 6) (eC (.int 300))) (eC (.int 3)))) (eC (.int 1)))) cQ))) cQ)
 (av (aY (ae (eV 7) (ae (aa aP (aa be (eV 7) (eV 10)) (eC (.int 1))) (ae (eV 8) (ae (eV 9) ab))))))))))))))))
noncomputable def ym:List D->Option Sl:=aE MO 12
theorem je:Wo (ym [a0,a1]) Q↔Wo (MO [.sh a0,.sh a1,.no,.no,.no,.no,.no,.no,.no,.no,.no,.no]) (aH Q):=bN
noncomputable abbrev Tg:Stmt:=top 63
noncomputable abbrev MB{α:Type}(Y:Str->Stmt->List Str->α):α:=Y "_law_rows" Tg ["numbers"]
noncomputable def L3:SF:=
 (ag (cP 1 (aO ab))
 (ag (c6 (eV 0) (gN 2)
 (dQ 1 (Br 1 (aG 2 ym (ae (eV 2) (ae (eV 1) ab))))))
 (j6 1)))
noncomputable def wc:List D->Option Sl:=aE L3 3
theorem mE:Wo (wc [a0]) Q↔Wo (L3 [.sh a0,.no,.no]) (aH Q):=bN
noncomputable abbrev TL:Stmt:=top 60
noncomputable abbrev M8{α:Type}(Y:Str->Stmt->List Str->α):α:=Y "_law_numbers" TL ["script","first","most"]
noncomputable def MM:SF:=
 (ag (cP 3 (aO ab))
 (ag (vM (eL EB (ae (eV 1) (ae (bK (bV 0)) ab))) (gN 4)
 (ag (aS 5 (aa bA (au (bV 0) (eV 4)) (aa eJ (eC (.int 10)) (eC (.int 18)))))
 (cj (a9 (aa gn (bK (bV 3)) (eV 2)))
 (dQ 3 (eV 5)) (xo 3 (aa bA (aa be (aa dF (au (bV 3) (aa bA (eV 4) (eV 2))) (eC (.int 10007))) (eV 5)) (aa eJ (eC (.int 10)) (eC (.int 18)))) (aa bA (eV 4) (eV 2))))))
 (j6 3)))
noncomputable def yj:List D->Option Sl:=aE MM 6
theorem jh:Wo (yj [a0,a1,a2]) Q↔Wo (MM [.sh a0,.sh a1,.sh a2,.no,.no,.no]) (aH Q):=bN
noncomputable abbrev TM:Stmt:=top 66
noncomputable abbrev M9{α:Type}(Y:Str->Stmt->List Str->α):α:=Y "_law_sellers" TM ["script"]
noncomputable def MN:SF:=
 (ag (aS 1 (aa bA (aG 2 xO (ae (eV 0) (ae (eC (.int 0)) ab))) (eC (.int 4))))
 (ag (aS 2 (aG 3 yj (ae (eV 0) (ae (eC (.int 2)) (ae (aa dF (eC (.int 2)) (p9 tX (ae (eC (.int 1)) (ae (eV 1) ab)))) ab)))))
 (ag (aS 3 (fR (eL Bt (ae (eV 1) ab)) [2,1] 1 (gN 0) iO (aG 1 wc (ae (fR (eL Bu (ae (eV 0) (ae (bK (bV 1)) (ae (eV 2) ab)))) [1] 1 (gN 0) iO (au (bV 1) (eV 0))) ab))))
 (av (fR (e9 (eV 3)) [] 1 (gN 0) (a9 (aa nY (bK (bV 0)) (eC (.int 0)))) (eV 0))))))
noncomputable def yk:List D->Option Sl:=aE MN 4
theorem jg:Wo (yk [a0]) Q↔Wo (MN [.sh a0,.no,.no,.no]) (aH Q):=bN
noncomputable abbrev BJ:Stmt:=top 71
noncomputable abbrev yu{α:Type}(Y:Str->Stmt->List Str->α):α:=Y "law" BJ ["script"]
noncomputable def JP:SF:=
 (ag (aS 1 (aG 1 yk (ae (eV 0) ab)))
 (ag (aS 2 (fR (e9 (eV 1)) [] 1 (gN 0) iO (aG 1 qL (ae (eV 0) ab))))
 (ag (c6 (aG 2 xX (ae (eV 1) (ae (aG 2 xO (ae (eV 0) (ae (eC (.int 1)) ab))) ab))) (gN 3)
 (ag (aS 4 (fR (e9 (eV 1)) [3] 1 (gN 0) iO (aG 2 wb (ae (eV 0) (ae (eV 1) ab)))))
 (ag (qW (aG 2 Cw (ae (eV 2) (ae (Bq (bV 4)) ab))) (gT 2 (fq (gN 6) (fq (gN 7) nv))))
 (ag (cj (e7 (mw (a9 (aa Eu (eV 6) (eC .aR))) (a9 (aa gn (eV 3) (eV 6)))) (mw (a9 (aa Eu (eV 7) (eC .aR))) (a9 (aa nY (eV 3) (eV 7)))))
 (av (eC (.bl false))) cQ)
 (ag (EE qX (ae (bK (bV 4)) ab) (gN 5)
 (cj (a9 (aa xu (aG 3 v7 (ae (au (bV 2) (eV 5)) (ae (au (bV 4) (eV 5)) (ae (eV 3) ab)))) (eC (.bl true))))
 (av (eC (.bl false))) cQ))
 (ag (cj (e7 (a9 (aa xu (aG 3 bg (ae (eV 2) (ae (eV 4) (ae (aY (ae (eC (.str "price")) (ae (eV 3) ab))) ab)))) (eC (.bl true)))) (a9 (aa me (au (fT (aG 2 Cp (ae (eV 2) (ae (eV 4) ab)))) (eC (.int 0))) (eC (.str "price")))))
 (av (eC (.bl false))) cQ)
 (ag (cj (xq (gz (aG 5 Cu (ae (eV 2) (ae (eV 1) (ae (eV 4) (ae (eV 3) (ae (mZ (bV 0) nO (mR (eC (.int 20)))) ab))))))))
 (av (eC (.bl false))) cQ)
 (cj (a9 (aa xu (aG 2 Cs (ae (eV 2) (ae (Bq (bV 4)) ab))) (eC (.bl true))))
 (av (eC (.bl false))) cQ))))))))
 (av (eC (.bl true))))))
noncomputable def ES:List D->Option Sl:=aE JP 8
theorem Cz:Wo (ES [a0]) Q↔Wo (JP [.sh a0,.no,.no,.no,.no,.no,.no,.no]) (aH Q):=bN
section
variable {P:Program}{w:World}{K:aJ}{mg:Str->Option Value}{base:Heap}
variable (z_max:mg "max" = none)
variable (z_min:mg "min" = none)
variable (z_tuple:mg "tuple" = none)
variable (z_len:mg "len" = none)
variable (z_sorted:mg "sorted" = none)
variable (z_sum:mg "sum" = none)
variable (z_MOST_PICKS:Nn mg "MOST_PICKS" 100)
variable (z_zip:mg "zip" = none)
variable (z_enumerate:mg "enumerate" = none)
variable (z_all:mg "all" = none)
variable (z_range:mg "range" = none)
variable (z_list:mg "list" = none)
theorem b0I(D':L9 (Def K mg) a d):L9 (Oz P w K mg base) 1 ue:=aM (N:=["line","low","x"]) D' λX r h=>by
 cases r
 exact (aF (bp (az eS (aw (h.bv 0) ah) (az k0 (aw (h.bv 0) ah) (az dz (h.v 2) (h.v 1))))))
variable (qK:L9 (Oz P w K mg base) 1 ue)
include qK in
theorem a9o(D':Mw (Def K mg) a d):Mw (Oz P w K mg base) 2 uj:=aM (N:=["row","x"]) D' λX r h=>by
 cases r
 exact (aF (bp (h.cl qK (af (fC (af (aw (h.bv 0) ah) (af (aw (h.bv 0) ah) ar))) (af (aw (h.bv 0) ah) (af (h.v 1) ar))))))
variable (oz:Mw (Oz P w K mg base) 2 uj)
include z_len in
theorem a9j(D':MC (Def K mg) a d):MC (Oz P w K mg base) 1 yd:=aM (N:=["form","x","first","behind","middle"]) D' λX r h=>by
 cases r
 exact (aD (h.aC 2 ah) (aD (h.aC 3 (gx h.g z_len (h.bv 0))) (aD (Lg SK h.own (bD iE (h.v 2) (h.v 3)) (aD (h.aC 4 (az jv (az eS (h.v 2) (h.v 3)) ah)) (aF (cY (bD iE (aw (gw (aw (h.bv 0) (h.v 4))) ah) (h.v 1)) (aF (h.aC 2 (az eS (h.v 4) ah))) (aF (h.aC 3 (h.v 4))))))) (aF (bp (h.v 2))))))
variable (FC:MC (Oz P w K mg base) 1 yd)
include z_len oz FC in
theorem b0L(D':Md (Def K mg) a d):Md (Oz P w K mg base) 3 jL:=aM (N:=["form","x","place"]) D' λX r h=>by
 cases r
 exact (aD (h.aC 2 (h.cl FC (af (h.v 0) (af (h.v 1) ar)))) (aD (cY (eZ (p7 (bD (qc h.u8) (h.v 2) (gx h.g z_len (h.bv 0))) (rX (bD iE (h.v 1) (aw (gw (aw (h.bv 0) (h.v 2))) ah))))) (aF (bp iF)) dA) (aF (bp (h.cl oz (af (aw (h.bv 0) (h.v 2)) (af (h.v 1) ar)))))))
variable (jM:Md (Oz P w K mg base) 3 jL)
include z_sum z_zip jM in
theorem b0K(D':Me (Def K mg) a d):Me (Oz P w K mg base) 4 nC:=aM (N:=["forms","shares","costs"]) D' λX r h=>by
 cases r
 exact (aD (BS (i:=2) false (N':=["form","share"]) (caps:=[]) (nt:=2) h ⟨rfl,by decide +kernel,by decide +kernel,by decide +kernel,by decide +kernel,rfl,rfl,by decide +kernel⟩ (Kv h.g z_zip (af (h.v 0) (af (h.v 1) ar))) (λX1 bT bS bR bH bQ h1=>⟨(rY (n:=2) h1.calm (g0 (h1.tg 0) (g0 (h1.tg 1) r8))),lT,(h1.cl (gc bT bS bR bH bQ jM) (af (h1.v 0) (af (h1.v 1) ar)))⟩)) (aD (cY (bD (zc h.u8) iF (h.v 2) (by with_unfolding_all rfl)) (aF Le) dA) (aF (bp (vQ h.g z_sum h.calm (h.bv 2))))))
variable (jN:Me (Oz P w K mg base) 4 nC)
theorem a8F(D':Mo (Def K mg) a d):Mo (Oz P w K mg base) 1 uh:=aM (N:=["row"]) D' λX r h=>by
 cases r
 exact (aF (bp (EK (qc h.u8) (aw (h.bv 0) ah) (aw (h.bv 0) ah))))
variable (ud:Mo (Oz P w K mg base) 1 uh)
include ud in
theorem b35(D':KW (Def K mg) a d):KW (Oz P w K mg base) 2 sk:=aM (N:=["row"]) D' λX r h=>by
 cases r
 exact (aF (bp (p6 (t7 (h.cl ud (af (h.v 0) ar))) (fC (af (aw (h.bv 0) ah) (af (aw (h.bv 0) ah) (af (aw (h.bv 0) ah) (af ah ar))))) (h.v 0))))
variable (t9:KW (Oz P w K mg base) 2 sk)
include qK ud t9 in
theorem a6Y(D':M7 (Def K mg) a d):M7 (Oz P w K mg base) 3 Ce:=aM (N:=["ahead","row","step","rest"]) D' λX r h=>by
 cases r
 exact (aD (h.aC 2 (p6 (t7 (h.cl ud (af (h.v 0) ar))) (az dz (aw (h.bv 1) ah) (aw (h.bv 0) ah)) (aw (h.bv 0) ah))) (aD (cY (bD (Kp h.u8) (aw (h.bv 1) ah) (h.cl qK (af (fC (af (aw (h.bv 0) ah) (af (h.v 2) ar))) (af (aw (h.bv 0) ah) (af (aw (h.bv 1) ah) ar))))) (aF (bp (dM (af (h.v 0) (af (h.cl t9 (af (h.v 1) ar)) ar))))) dA) (aD (cY (eZ (p7 (t7 (h.cl ud (af (h.v 1) ar))) (rX (bD (qc h.u8) (aw (h.bv 1) ah) (h.v 2))))) (aF (bp (dM (af (fC (af (aw (h.bv 0) ah) (af (aw (h.bv 1) ah) (af (aw (h.bv 0) ah) (af (h.v 2) ar))))) ar)))) dA) (aD (h.aC 3 (h.cl t9 (af (fC (af (az eS (aw (h.bv 1) ah) ah) (af (aw (h.bv 1) ah) (af (az eS (aw (h.bv 1) ah) (aw (h.bv 1) ah)) (af (aw (h.bv 1) ah) ar))))) ar))) (aF (bp (dM (af (fC (af (aw (h.bv 0) ah) (af (aw (h.bv 1) ah) (af (aw (h.bv 0) ah) (af (h.v 2) ar))))) (af (h.v 3) ar)))))))))
variable (FJ:M7 (Oz P w K mg base) 3 Ce)
include z_tuple t9 FJ in
theorem b6s(D':Kl (Def K mg) a d):Kl (Oz P w K mg base) 4 qL:=aM (N:=["rows","made","row","ahead"]) D' λX r h=>by
 cases r
 exact (aD (h.set 1 (dM ar)) (aD (j9 h.own h.calm (h.v 0) (h.tg 2) (aF (cY (eZ (vW (Rr (h.bv 1)) (vZ (bD (qc h.u8) (az eS (aw (gw (aw (h.bv 1) (tZ ah))) ah) ah) (aw (h.bv 2) ah))))) (aD (h.pop 3 1) (aF (h.ext 1 (h.cl FJ (af (h.v 3) (af (h.v 2) ar)))))) (aF (h.app 1 (h.cl t9 (af (h.v 2) ar))))))) (aF (bp (Rm h.g z_tuple (h.bv 1))))))
variable (om:Kl (Oz P w K mg base) 4 qL)
include qK in
theorem a7C(D':MJ (Def K mg) a d):MJ (Oz P w K mg base) 2 ui:=aM (N:=["line","low","first","last"]) D' λX r h=>by
 cases r
 exact (aF (bp (fC (af (h.v 2) (af (h.v 3) (af (h.cl qK (af (h.v 0) (af (h.v 1) (af (h.v 2) ar)))) (af (aw (h.bv 0) ah) ar)))))))
variable (wa:MJ (Oz P w K mg base) 2 ui)
theorem a6g(D':M4 (Def K mg) a d):M4 (Oz P w K mg base) 1 yh:=aM (N:=["first","last"]) D' λX r h=>by
 cases r
 exact (aF (bp (p6 (bD qG (h.v 0) (h.v 1)) (fC (af (h.v 0) (af (h.v 1) ar))) iF)))
variable (Cq:M4 (Oz P w K mg base) 1 yh)
theorem zb(D':ux (Def K mg) a d):ux (Oz P w K mg base) 1 t6:=aM (N:=["a","b"]) D' λX r h=>by
 cases r
 exact (aF (bp (tZ (az jv (tZ (h.v 0)) (h.v 1)))))
variable (qC:ux (Oz P w K mg base) 1 t6)
theorem b6t(D':Kk (Def K mg) a d):Kk (Oz P w K mg base) 1 uc:=aM (N:=["a","b"]) D' λX r h=>by
 cases r
 exact (aF (bp (az jv (h.v 0) (h.v 1))))
variable (qH:Kk (Oz P w K mg base) 1 uc)
include z_max z_min Cq qC qH in
theorem a8B(D':Ms (Def K mg) a d):Ms (Oz P w K mg base) 2 Co:=aM (N:=["one","other","low","high","above","slope"]) D' λX r h=>by
 cases r
 exact (aD (h.aC 4 (az dz (aw (h.bv 0) ah) (aw (h.bv 1) ah))) (aD (h.aC 5 (az dz (aw (h.bv 0) ah) (aw (h.bv 1) ah))) (aD (cY (bD pZ (h.v 5) ah) (aF (bp (h.cl Cq (af (h.v 2) (af (sd (E6 h.calm) h.g z_min (by decide +kernel) (af (h.v 3) (af (az eS (h.v 2) (h.cl qH (af (tZ (h.v 4)) (af (h.v 5) ar)))) ar))) ar))))) dA) (aD (cY (bD iE (h.v 5) ah) (aF (bp (h.cl Cq (af (sd (BQ h.calm) h.g z_max (by decide +kernel) (af (h.v 2) (af (az eS (h.v 2) (h.cl qC (af (h.v 4) (af (tZ (h.v 5)) ar)))) ar))) (af (h.v 3) ar))))) dA) (aF (bp (p6 (bD pZ (h.v 4) ah) iF (fC (af (h.v 2) (af (h.v 3) ar))))))))))
variable (Fy:Ms (Oz P w K mg base) 2 Co)
include wa Fy in
theorem a7E(D':MI (Def K mg) a d):MI (Oz P w K mg base) 3 Cr:=aM (N:=["one","other","low","high","span","rows"]) D' λX r h=>by
 cases r
 exact (aD (h.aC 4 (h.cl Fy (af (h.v 0) (af (h.v 1) (af (h.v 2) (af (h.v 3) ar)))))) (aD (cY (bD rZ (h.v 4) iF) (aF (bp (dM (af (h.cl wa (af (h.v 1) (af (h.v 2) (af (h.v 2) (af (h.v 3) ar))))) ar)))) dA) (aD (h.set 5 (dM ar)) (aD (cY (bD iE (h.v 2) (aw (h.bv 4) ah)) (aF (h.app 5 (h.cl wa (af (h.v 1) (af (h.v 2) (af (h.v 2) (af (az dz (aw (h.bv 4) ah) ah) ar))))))) dA) (aD (h.app 5 (h.cl wa (af (h.v 0) (af (h.v 2) (af (aw (h.bv 4) ah) (af (aw (h.bv 4) ah) ar)))))) (aD (cY (bD iE (aw (h.bv 4) ah) (h.v 3)) (aF (h.app 5 (h.cl wa (af (h.v 1) (af (h.v 2) (af (az eS (aw (h.bv 4) ah) ah) (af (h.v 3) ar))))))) dA) (aF (h.ik 5))))))))
variable (FZ:MI (Oz P w K mg base) 3 Cr)
include oz in
theorem a8C(D':Mr (Def K mg) a d):Mr (Oz P w K mg base) 3 xU:=aM (N:=["row","low"]) D' λX r h=>by
 cases r
 exact (aF (bp (fC (af (h.cl oz (af (h.v 0) (af (h.v 1) ar))) (af (aw (h.bv 0) ah) ar)))))
variable (Cc:Mr (Oz P w K mg base) 3 xU)
include z_max z_min z_len Cc in
theorem b8q(D':JZ (Def K mg) a d):JZ (Oz P w K mg base) 4 BP:=aM (N:=["one","other","parts","first","second","mine","yours","low","high"]) D' λX r h=>by
 cases r
 exact (aD (h.set 2 (dM ar)) (aD (h.aC 3 ah) (aD (h.aC 4 ah) (aD (Lg QC h.own (eZ (vW (bD iE (h.v 3) (gx h.g z_len (h.bv 0))) (vZ (bD iE (h.v 4) (gx h.g z_len (h.bv 1)))))) (aD (h.aC 5 (aw (h.bv 0) (h.v 3))) (aD (h.aC 6 (aw (h.bv 1) (h.v 4))) (aD (h.aC 7 (sd (BQ h.calm) h.g z_max (by decide +kernel) (af (aw (h.bv 5) ah) (af (aw (h.bv 6) ah) ar)))) (aD (h.aC 8 (sd (E6 h.calm) h.g z_min (by decide +kernel) (af (aw (h.bv 5) ah) (af (aw (h.bv 6) ah) ar)))) (aD (cY (bD qG (h.v 7) (h.v 8)) (aF (h.app 2 (fC (af (h.v 7) (af (h.v 8) (af (h.cl Cc (af (h.v 5) (af (h.v 7) ar))) (af (h.cl Cc (af (h.v 6) (af (h.v 7) ar))) ar))))))) dA) (aF (cY (bD iE (aw (h.bv 5) ah) (aw (h.bv 6) ah)) (aF (h.aug 3 ah)) (aF (h.aug 4 ah)))))))))) (aF (h.ik 2))))))
variable (Et:JZ (Oz P w K mg base) 4 BP)
include FZ Et in
theorem a6P(D':Na (Def K mg) a d):Na (Oz P w K mg base) 5 Cg:=aM (N:=["one","other","rows","low","high","mine","yours"]) D' λX r h=>by
 cases r
 exact (aD (h.set 2 (dM ar)) (aD (j9 h.own h.calm (h.cl Et (af (h.v 0) (af (h.v 1) ar))) (rY (n:=4) h.calm (g0 (h.tg 3) (g0 (h.tg 4) (g0 (h.tg 5) (g0 (h.tg 6) r8))))) (aF (h.ext 2 (h.cl FZ (af (h.v 5) (af (h.v 6) (af (h.v 3) (af (h.v 4) ar)))))))) (aF (h.ik 2))))
variable (FQ:Na (Oz P w K mg base) 5 Cg)
include oz in
theorem b8s(D':JY (Def K mg) a d):JY (Oz P w K mg base) 3 xI:=aM (N:=["row","low","high"]) D' λX r h=>by
 cases r
 exact (aF (bp (fC (af (h.v 1) (af (h.v 2) (af (h.cl oz (af (h.v 0) (af (h.v 1) ar))) (af (aw (h.bv 0) ah) ar)))))))
variable (Bo:JY (Oz P w K mg base) 3 xI)
include z_max z_len Bo in
theorem b0F(D':Mb (Def K mg) a d):Mb (Oz P w K mg base) 4 yb:=aM (N:=["form","spans","rows","place","row","low"]) D' λX r h=>by
 cases r
 exact (aD (h.set 2 (dM ar)) (aD (h.aC 3 ah) (aD (j9 h.own h.calm (h.v 0) (h.tg 4) (aD (h.aC 5 (aw (h.bv 4) ah)) (aD (Lg SG h.own (eZ (vW (bD iE (h.v 3) (gx h.g z_len (h.bv 1))) (vZ (bD qG (aw (gw (aw (h.bv 1) (h.v 3))) ah) (aw (h.bv 4) ah))))) (aD (cY (bD iE (h.v 5) (aw (gw (aw (h.bv 1) (h.v 3))) ah)) (aF (h.app 2 (h.cl Bo (af (h.v 4) (af (h.v 5) (af (az dz (aw (gw (aw (h.bv 1) (h.v 3))) ah) ah) ar)))))) dA) (aD (h.aC 5 (sd (BQ h.calm) h.g z_max (by decide +kernel) (af (h.v 5) (af (az eS (aw (gw (aw (h.bv 1) (h.v 3))) ah) ah) ar)))) (aD (cY (bD pZ (aw (gw (aw (h.bv 1) (h.v 3))) ah) (aw (h.bv 4) ah)) (aF b3B) dA) (aF (h.aug 3 ah)))))) (aF (cY (bD qG (h.v 5) (aw (h.bv 4) ah)) (aF (h.app 2 (h.cl Bo (af (h.v 4) (af (h.v 5) (af (aw (h.bv 4) ah) ar)))))) dA))))) (aF (h.ik 2)))))
variable (B4:Mb (Oz P w K mg base) 4 yb)
include z_tuple in
theorem a9i(D':Mu (Def K mg) a d):Mu (Oz P w K mg base) 1 we:=aM (N:=["form","spans","row","ahead"]) D' λX r h=>by
 cases r
 exact (aD (h.set 1 (dM ar)) (aD (j9 h.own h.calm (h.v 0) (h.tg 2) (aF (cY (eZ (vW (Rr (h.bv 1)) (vZ (bD (qc h.u8) (az eS (aw (gw (aw (h.bv 1) (tZ ah))) ah) ah) (aw (h.bv 2) ah))))) (aD (h.pop 3 1) (aF (h.app 1 (fC (af (aw (h.bv 3) ah) (af (aw (h.bv 2) ah) ar)))))) (aF (h.app 1 (fC (af (aw (h.bv 2) ah) (af (aw (h.bv 2) ah) ar)))))))) (aF (bp (Rm h.g z_tuple (h.bv 1))))))
variable (B':Mu (Oz P w K mg base) 1 we)
include z_sorted om FQ B4 B' in
theorem b37(D':KR (Def K mg) a d):KR (Oz P w K mg base) 6 sj:=aM (N:=["one","other","alone"]) D' λX r h=>by
 cases r
 exact (aD (h.aC 2 (az eS (h.cl B4 (af (h.v 0) (af (h.cl B' (af (h.v 1) ar)) ar))) (h.cl B4 (af (h.v 1) (af (h.cl B' (af (h.v 0) ar)) ar))))) (aF (bp (h.cl om (af (b2v h.g z_sorted (az eS (h.cl FQ (af (h.v 0) (af (h.v 1) ar))) (h.v 2))) ar)))))
variable (ot:KR (Oz P w K mg base) 6 sj)
theorem a6U(D':mz (Def K mg) a d):mz (Oz P w K mg base) 1 Cf:=b6n D'
variable (O_least_of__0:mz (Oz P w K mg base) 1 Cf)
include z_len ot O_least_of__0 in
theorem a6T(D':mz (Def K mg) a d):mz (Oz P w K mg base) 7 ye:=aM (N:=["forms","half"]) D' λX r h=>by
 cases r
 exact (aD (cY (bD iE (gx h.g z_len (h.bv 0)) ah) (aF (bp (p6 (t7 (h.v 0)) (aw (h.bv 0) ah) (fC ar)))) dA) (aD (h.aC 1 (az jv (gx h.g z_len (h.bv 0)) ah)) (aF (bp (h.cl ot (af (h.cl O_least_of__0 (af (se (h.bv 0) sf (si (h.v 1))) ar)) (af (h.cl O_least_of__0 (af (se (h.bv 0) (si (h.v 1)) sf) ar)) ar)))))))
variable (Cj:mz (Oz P w K mg base) 7 ye)
include z_len ot Cj in
theorem a6S(D':mz (Def K mg) a d):mz (Oz P w K mg base) 8 yf:=aM (N:=["forms","half"]) D' λX r h=>by
 cases r
 exact (aD (cY (bD iE (gx h.g z_len (h.bv 0)) ah) (aF (bp (p6 (t7 (h.v 0)) (aw (h.bv 0) ah) (fC ar)))) dA) (aD (h.aC 1 (az jv (gx h.g z_len (h.bv 0)) ah)) (aF (bp (h.cl ot (af (h.cl Cj (af (se (h.bv 0) sf (si (h.v 1))) ar)) (af (h.cl Cj (af (se (h.bv 0) (si (h.v 1)) sf) ar)) ar)))))))
variable (Ck:mz (Oz P w K mg base) 8 yf)
include z_len ot Ck in
theorem a6R(D':mz (Def K mg) a d):mz (Oz P w K mg base) 9 yg:=aM (N:=["forms","half"]) D' λX r h=>by
 cases r
 exact (aD (cY (bD iE (gx h.g z_len (h.bv 0)) ah) (aF (bp (p6 (t7 (h.v 0)) (aw (h.bv 0) ah) (fC ar)))) dA) (aD (h.aC 1 (az jv (gx h.g z_len (h.bv 0)) ah)) (aF (bp (h.cl ot (af (h.cl Ck (af (se (h.bv 0) sf (si (h.v 1))) ar)) (af (h.cl Ck (af (se (h.bv 0) (si (h.v 1)) sf) ar)) ar)))))))
variable (Cm:mz (Oz P w K mg base) 9 yg)
include z_len ot Cm in
theorem a6Q(D':mz (Def K mg) a d):mz (Oz P w K mg base) 10 wq:=aM (N:=["forms","half"]) D' λX r h=>by
 cases r
 exact (aD (cY (bD iE (gx h.g z_len (h.bv 0)) ah) (aF (bp (p6 (t7 (h.v 0)) (aw (h.bv 0) ah) (fC ar)))) dA) (aD (h.aC 1 (az jv (gx h.g z_len (h.bv 0)) ah)) (aF (bp (h.cl ot (af (h.cl Cm (af (se (h.bv 0) sf (si (h.v 1))) ar)) (af (h.cl Cm (af (se (h.bv 0) (si (h.v 1)) sf) ar)) ar)))))))
variable (FO:mz (Oz P w K mg base) 10 wq)
include z_len in
theorem a48(D':MZ (Def K mg) a d):MZ (Oz P w K mg base) 1 yi:=aM (N:=["forms","many","form"]) D' λX r h=>by
 cases r
 exact (aD (h.aC 1 ah) (aD (j9 h.own h.calm (h.v 0) (h.tg 2) (aF (h.Ky 1 (gx h.g z_len (h.bv 2))))) (aF (bp (h.v 1)))))
variable (Ci:MZ (Oz P w K mg base) 1 yi)
include z_MOST_PICKS Ci in
theorem b36(D':KU (Def K mg) a d):KU (Oz P w K mg base) 2 xR:=aM (N:=["forms","ways","form","longer","rows"]) D' λX r h=>by
 cases r
 exact (aD (cY (bD pZ (h.cl Ci (af (h.v 0) ar)) (b4z h.g z_MOST_PICKS)) (aF Le) dA) (aD (cY (bD (qc h.u8) (h.cl Ci (af (h.v 0) ar)) ah) (aF (bp (dM ar))) dA) (aD (h.aC 1 (dM (af (dM ar) ar))) (aD (j9 h.own h.calm (h.v 0) (h.tg 2) (aD (h.set 3 (dM ar)) (aD (j9 h.own h.calm (h.v 1) (h.tg 4) (aF (h.ext 3 (o4 (N':=["row","rows"]) (caps:=[4]) (nt:=1) h ⟨rfl,by decide +kernel,by decide +kernel,by decide +kernel,by decide +kernel,rfl,rfl,by decide +kernel⟩ (qa (h.v 2)) (λX1 bT bS bR bH bQ h1=>⟨(h1.tg 0),lT,(az eS (h1.v 1) (dM (af (h1.v 0) ar)))⟩))))) (aF (Ql 3 (h.aC 1 (h.v 3))))))) (aF (bp (h.v 1)))))))
variable (ER:KU (Oz P w K mg base) 2 xR)
theorem b0E(D':Mc (Def K mg) a d):Mc (Oz P w K mg base) 1 uf:=aM (N:=["row"]) D' λX r h=>by
 cases r
 exact (aF (bp (aw (h.bv 0) ah)))
variable (Ft:Mc (Oz P w K mg base) 1 uf)
include z_sorted z_sum om Ft in
theorem b1H(D':Lj (Def K mg) a d):Lj (Oz P w K mg base) 6 wj:=aM (N:=["rows","low","price","made","row","more"]) D' λX r h=>by
 cases r
 exact (aD (h.aC 1 (vQ h.g z_sum h.calm (gw (o4 (N':=["row"]) (caps:=[]) (nt:=1) h ⟨rfl,by decide +kernel,by decide +kernel,by decide +kernel,by decide +kernel,rfl,rfl,by decide +kernel⟩ (qa (h.v 0)) (λX1 bT bS bR bH bQ h1=>⟨(h1.tg 0),lT,(aw (h1.bv 0) ah)⟩))))) (aD (h.aC 2 (vQ h.g z_sum h.calm (gw (o4 (N':=["row"]) (caps:=[]) (nt:=1) h ⟨rfl,by decide +kernel,by decide +kernel,by decide +kernel,by decide +kernel,rfl,rfl,by decide +kernel⟩ (qa (h.v 0)) (λX1 bT bS bR bH bQ h1=>⟨(h1.tg 0),lT,(aw (h1.bv 0) ah)⟩))))) (aD (h.set 3 (dM (af (fC (af (h.v 1) (af (h.v 1) (af (h.v 2) (af ah ar))))) ar))) (aD (j9 h.own h.calm (h.qS Ft z_sorted (h.v 0)) (h.tg 4) (aD (h.aC 5 (az dz (aw (h.bv 4) ah) (aw (h.bv 4) ah))) (aD (cY (bD pZ (h.v 5) ah) (aF (h.app 3 (fC (af (az eS (h.v 1) ah) (af (az eS (h.v 1) (h.v 5)) (af (az eS (h.v 2) (aw (h.bv 4) ah)) (af (aw (h.bv 4) ah) ar))))))) dA) (aD (h.aug 1 (h.v 5)) (aF (h.aug 2 (az k0 (aw (h.bv 4) ah) (h.v 5)))))))) (aF (Ql 3 (bp (h.cl om (af (h.v 3) ar)))))))))
variable (E8:Lj (Oz P w K mg base) 6 wj)
include FO ER E8 in
theorem a6i(D':M2 (Def K mg) a d):M2 (Oz P w K mg base) 11 Cv:=aM (N:=["forms"]) D' λX r h=>by
 cases r
 exact (aF (bp (h.cl FO (af (o4 (N':=["rows"]) (caps:=[]) (nt:=1) h ⟨rfl,by decide +kernel,by decide +kernel,by decide +kernel,by decide +kernel,rfl,rfl,by decide +kernel⟩ (qa (h.cl ER (af (h.v 0) ar))) (λX1 bT bS bR bH bQ h1=>⟨(h1.tg 0),lT,(h1.cl (gc bT bS bR bH bQ E8) (af (h1.v 0) ar))⟩)) ar))))
variable (F2:M2 (Oz P w K mg base) 11 Cv)
include F2 in
theorem b1J(D':Lh (Def K mg) a d):Lh (Oz P w K mg base) 12 xN:=aM (N:=["forms"]) D' λX r h=>by
 cases r
 exact (aF (bp (h.cl F2 (af (h.v 0) ar))))
variable (E7:Lh (Oz P w K mg base) 12 xN)
include z_sum jM jN E7 in
theorem a9p(D':Mv (Def K mg) a d):Mv (Oz P w K mg base) 13 Cs:=aM (N:=["forms","shares","form"]) D' λX r h=>by
 cases r
 exact (aD (h.aC 2 (h.cl E7 (af (h.v 0) ar))) (aF (bp (EK (qc h.u8) (h.cl jN (af (h.v 0) (af (h.v 1) ar))) (h.cl jM (af (h.v 2) (af (vQ h.g z_sum h.calm (h.bv 1)) ar)))))))
variable (FE:Mv (Oz P w K mg base) 13 Cs)
theorem a9l(D':MA (Def K mg) a d):MA (Oz P w K mg base) 1 Ct:=aM (N:=["rows","x","low","high","price","step"]) D' λX r h=>by
 cases r
 exact (aD (j9 h.own h.calm (h.v 0) (rY (n:=4) h.calm (g0 (h.tg 2) (g0 (h.tg 3) (g0 (h.tg 4) (g0 (h.tg 5) r8))))) (aF (cY (eZ (vW (bD qG (h.v 2) (h.v 1)) (vZ (bD qG (h.v 1) (h.v 3))))) (aF (bp (az eS (h.v 4) (az k0 (h.v 5) (az dz (h.v 1) (h.v 2)))))) dA))) (aF (bp iF)))
variable (FG:MA (Oz P w K mg base) 1 Ct)
include z_sum z_zip FG in
theorem a8D(D':Mq (Def K mg) a d):Mq (Oz P w K mg base) 2 xT:=aM (N:=["sellers","shares"]) D' λX r h=>by
 cases r
 exact (aF (bp (vQ h.g z_sum h.calm (gw (o4 (N':=["rows","share"]) (caps:=[]) (nt:=2) h ⟨rfl,by decide +kernel,by decide +kernel,by decide +kernel,by decide +kernel,rfl,rfl,by decide +kernel⟩ (Kv h.g z_zip (af (h.v 0) (af (h.v 1) ar))) (λX1 bT bS bR bH bQ h1=>⟨(rY (n:=2) h1.calm (g0 (h1.tg 0) (g0 (h1.tg 1) r8))),lT,(h1.cl (gc bT bS bR bH bQ FG) (af (h1.v 0) (af (h1.v 1) ar)))⟩))))))
variable (Cb:Mq (Oz P w K mg base) 2 xT)
include z_min z_len in
theorem a7H(D':MF (Def K mg) a d):MF (Oz P w K mg base) 1 wo:=aM (N:=["rows","cell","some","row","wide","at"]) D' λX r h=>by
 cases r
 exact (aD (h.aC 2 (az fE (az E4 (az fE (h.v 1) ah) ah) ah)) (aD (h.aC 3 (aw (h.bv 0) (az fE (az jv (h.v 2) ah) (gx h.g z_len (h.bv 0))))) (aD (h.aC 4 (az eS (az dz (aw (h.bv 3) ah) (aw (h.bv 3) ah)) ah)) (aD (h.aC 5 (aw (gw (dM (af ah (af (az dz (h.v 4) ah) (af (sd (E6 h.calm) h.g z_min (by decide +kernel) (af ah (af (az dz (h.v 4) ah) ar))) (af (az jv (h.v 4) ah) (af (az fE (az E4 (h.v 1) (az my ah ah)) (h.v 4)) ar))))))) (az fE (h.v 2) ah))) (aF (bp (az eS (aw (h.bv 3) ah) (h.v 5))))))))
variable (FW:MF (Oz P w K mg base) 1 wo)
include z_len z_sum z_range z_list jN Cb FW in
theorem a3a(D':Nc (Def K mg) a d):Nc (Oz P w K mg base) 5 Cu:=aM (N:=["forms","sellers","shares","p","cells","cost","cell","other","found"]) D' λX r h=>by
 cases r
 exact (aD (h.aC 5 (h.cl Cb (af (h.v 1) (af (h.v 2) ar)))) (aD (j9 h.own h.calm (h.v 4) (h.tg 6) (aD (BS (i:=7) false (N':=["k","sellers","cell"]) (caps:=[1,6]) (nt:=1) h ⟨rfl,by decide +kernel,by decide +kernel,by decide +kernel,by decide +kernel,rfl,rfl,by decide +kernel⟩ (RJ h.g z_range (af (gx h.g z_len (h.bv 1)) ar)) (λX1 bT bS bR bH bQ h1=>⟨(h1.tg 0),lT,(h1.cl (gc bT bS bR bH bQ FW) (af (aw (h1.bv 1) (h1.v 0)) (af (az eS (h1.v 2) (h1.v 0)) ar)))⟩)) (aD (h.aC 8 (h.cl jN (af (h.v 0) (af (KC h.g z_list (h.bv 7)) ar)))) (aF (cY (eZ (p7 (bD (Kp h.u8) (h.v 8) (h.cl Cb (af (h.v 1) (af (h.v 7) ar)))) (rX (bD iE (h.v 8) (az eS (h.v 5) (az k0 (h.v 3) (az dz (vQ h.g z_sum h.calm (h.bv 7)) (vQ h.g z_sum h.calm (h.bv 2))))))))) (aF (bp oj)) dA))))) (aF (bp oj))))
variable (F4:Nc (Oz P w K mg base) 5 Cu)
include z_max in
theorem a7J(D':MD (Def K mg) a d):MD (Oz P w K mg base) 1 xV:=aM (N:=["form","x","ends","row"]) D' λX r h=>by
 cases r
 exact (aD (h.set 2 (dM ar)) (aD (j9 h.own h.calm (h.v 0) (h.tg 3) (aF (cY (bD pZ (aw (h.bv 3) ah) (h.v 1)) (aF (h.ext 2 (dM (af (sd (BQ h.calm) h.g z_max (by decide +kernel) (af (aw (h.bv 3) ah) (af (az eS (h.v 1) ah) ar))) (af (aw (h.bv 3) ah) ar))))) dA))) (aF (h.ik 2))))
variable (FT:MD (Oz P w K mg base) 1 xV)
include z_enumerate jM jN qH FT in
theorem a9n(D':Mx (Def K mg) a d):Mx (Oz P w K mg base) 5 yc:=aM (N:=["forms","shares","found","j","form","x","cost"]) D' λX r h=>by
 cases r
 exact (aD (h.set 2 (dM ar)) (aD (KQ h.own h.calm (QN h.g z_enumerate (af (h.v 0) ar)) (rY (n:=2) h.calm (g0 (h.tg 3) (g0 (h.tg 4) r8))) (aD (h.aC 5 (aw (h.bv 1) (h.v 3))) (aD (h.aC 6 (h.cl jN (af (dM (af (h.v 4) ar)) (af (dM (af (h.v 5) ar)) ar)))) (aF (h.ext 2 (o4 (N':=["z","form","cost","x","j"]) (caps:=[4,6,5,3]) (nt:=1) h ⟨rfl,by decide +kernel,by decide +kernel,by decide +kernel,by decide +kernel,rfl,rfl,by decide +kernel⟩ (qa (h.cl FT (af (h.v 4) (af (h.v 5) ar)))) (λX1 bT bS bR bH bQ h1=>⟨(h1.tg 0),lT,(fC (af (h1.cl (gc bT bS bR bH bQ qH) (af (az dz (h1.cl (gc bT bS bR bH bQ jM) (af (h1.v 1) (af (h1.v 0) ar))) (h1.v 2)) (af (az dz (h1.v 0) (h1.v 3)) ar))) (af (h1.v 4) (af (h1.v 0) ar))))⟩))))))) (aF (h.ik 2))))
variable (wm:Mx (Oz P w K mg base) 5 yc)
include z_min in
theorem a7I(D':ME (Def K mg) a d):ME (Oz P w K mg base) 1 xW:=aM (N:=["form","x","ends","row"]) D' λX r h=>by
 cases r
 exact (aD (h.set 2 (dM ar)) (aD (j9 h.own h.calm (h.v 0) (h.tg 3) (aF (cY (bD iE (aw (h.bv 3) ah) (h.v 1)) (aF (h.ext 2 (dM (af (aw (h.bv 3) ah) (af (sd (E6 h.calm) h.g z_min (by decide +kernel) (af (aw (h.bv 3) ah) (af (az dz (h.v 1) ah) ar))) ar))))) dA))) (aF (h.ik 2))))
variable (FU:ME (Oz P w K mg base) 1 xW)
include z_enumerate jM jN qC FU in
theorem b0H(D':L' (Def K mg) a d):L' (Oz P w K mg base) 5 ya:=aM (N:=["forms","shares","found","k","form","x","cost"]) D' λX r h=>by
 cases r
 exact (aD (h.set 2 (dM ar)) (aD (KQ h.own h.calm (QN h.g z_enumerate (af (h.v 0) ar)) (rY (n:=2) h.calm (g0 (h.tg 3) (g0 (h.tg 4) r8))) (aD (h.aC 5 (aw (h.bv 1) (h.v 3))) (aD (h.aC 6 (h.cl jN (af (dM (af (h.v 4) ar)) (af (dM (af (h.v 5) ar)) ar)))) (aF (h.ext 2 (o4 (N':=["y","cost","form","x","k"]) (caps:=[6,4,5,3]) (nt:=1) h ⟨rfl,by decide +kernel,by decide +kernel,by decide +kernel,by decide +kernel,rfl,rfl,by decide +kernel⟩ (qa (h.cl FU (af (h.v 4) (af (h.v 5) ar)))) (λX1 bT bS bR bH bQ h1=>⟨(h1.tg 0),lT,(fC (af (h1.cl (gc bT bS bR bH bQ qC) (af (az dz (h1.v 1) (h1.cl (gc bT bS bR bH bQ jM) (af (h1.v 2) (af (h1.v 0) ar)))) (af (az dz (h1.v 3) (h1.v 0)) ar))) (af (h1.v 4) (af (h1.v 0) ar))))⟩))))))) (aF (h.ik 2))))
variable (v9:L' (Oz P w K mg base) 5 ya)
include z_max z_min wm v9 in
theorem a8A(D':Mt (Def K mg) a d):Mt (Oz P w K mg base) 6 Cp:=aM (N:=["forms","shares","low","high"]) D' λX r h=>by
 cases r
 exact (aD (h.aC 2 (QG h.g z_max h.calm h.u8 (gw (h.cl v9 (af (h.v 0) (af (h.v 1) ar)))) iF)) (aD (h.aC 3 (QH h.g z_min h.calm h.u8 (gw (h.cl wm (af (h.v 0) (af (h.v 1) ar)))) iF)) (aD (cY (bD rZ (h.v 2) iF) (aF (bp (fC (af xy (af (p6 (bD rZ (h.v 3) iF) ah (aw (h.bv 3) ah)) ar))))) dA) (aD (cY (eZ (p7 (bD rZ (h.v 3) iF) (rX (bD qG (aw (h.bv 2) ah) (aw (h.bv 3) ah))))) (aF (bp (fC (af xy (af (aw (h.bv 2) ah) ar))))) dA) (aF (bp (fC (af xy (af (aw (h.bv 2) ah) (af (aw (h.bv 2) ah) (af (aw (h.bv 3) ah) (af (aw (h.bv 3) ah) ar))))))))))))
variable (Fz:Mt (Oz P w K mg base) 6 Cp)
include z_len jM qC qH in
theorem a8G(D':Mn (Def K mg) a d):Mn (Oz P w K mg base) 4 M5:=aM (N:=["forms","shares","paper","k","j","y","z","cost_below","cost_above","low","high"]) D' λX r h=>by
 cases r
 exact (aD (h.aC 3 (aw (h.bv 2) ah)) (aD (h.aC 4 (aw (h.bv 2) ah)) (aD (cY (eZ (p7 (Kx (RH qG iE ah (h.v 3) (gx h.g z_len (h.bv 0)))) (rX (Kx (RH qG iE ah (h.v 4) (gx h.g z_len (h.bv 0))))))) (aF (bp oj)) dA) (aD (h.aC 5 (aw (h.bv 2) ah)) (aD (h.aC 6 (aw (h.bv 2) ah)) (aD (h.aC 7 (h.cl jM (af (aw (h.bv 0) (h.v 3)) (af (h.v 5) ar)))) (aD (h.aC 8 (h.cl jM (af (aw (h.bv 0) (h.v 4)) (af (h.v 6) ar)))) (aD (cY (eZ (p7 (bD rZ (h.v 7) iF) (p7 (bD rZ (h.v 8) iF) (p7 (bD zd (h.v 5) (aw (h.bv 1) (h.v 3))) (rX (bD qG (h.v 6) (aw (h.bv 1) (h.v 4)))))))) (aF (bp oj)) dA) (aD (h.aC 9 (h.cl qC (af (az dz (h.cl jM (af (aw (h.bv 0) (h.v 3)) (af (aw (h.bv 1) (h.v 3)) ar))) (h.v 7)) (af (az dz (aw (h.bv 1) (h.v 3)) (h.v 5)) ar)))) (aD (h.aC 10 (h.cl qH (af (az dz (h.v 8) (h.cl jM (af (aw (h.bv 0) (h.v 4)) (af (aw (h.bv 1) (h.v 4)) ar)))) (af (az dz (h.v 6) (aw (h.bv 1) (h.v 4))) ar)))) (aF (bp (EK pZ (h.v 9) (h.v 10))))))))))))))
variable (Fw:Mn (Oz P w K mg base) 4 M5)
include z_len in
theorem b0G(D':Ma (Def K mg) a d):Ma (Oz P w K mg base) 1 B9:=aM (N:=["form"]) D' λX r h=>by
 cases r
 exact (aD (cY (bD (qc h.u8) (gx h.g z_len (h.bv 0)) ah) (aF Le) dA) (aF (bp (h.v 0))))
variable (Fq:Ma (Oz P w K mg base) 1 B9)
include oz in
theorem a6Z(D':M6 (Def K mg) a d):M6 (Oz P w K mg base) 3 Cd:=aM (N:=["row"]) D' λX r h=>by
 cases r
 exact (aD (cY (bD iE (aw (h.bv 0) ah) ah) (aF (bp (fC (af (h.cl oz (af (h.v 0) (af (aw (h.bv 0) ah) ar))) (af (aw (h.bv 0) ah) ar))))) dA) (aF (bp (fC (af (aw (h.bv 0) ah) (af (aw (h.bv 0) ah) ar))))))
variable (FH:M6 (Oz P w K mg base) 3 Cd)
include z_min Fq FH in
theorem a7F(D':MH (Def K mg) a d):MH (Oz P w K mg base) 4 xY:=aM (N:=["form"]) D' λX r h=>by
 cases r
 exact (aF (bp (b6Q h.g z_min h.calm h.u8 (gw (o4 (N':=["row"]) (caps:=[]) (nt:=1) h ⟨rfl,by decide +kernel,by decide +kernel,by decide +kernel,by decide +kernel,rfl,rfl,by decide +kernel⟩ (qa (h.cl Fq (af (h.v 0) ar))) (λX1 bT bS bR bH bQ h1=>⟨(h1.tg 0),lT,(h1.cl (gc bT bS bR bH bQ FH) (af (h1.v 0) ar))⟩))))))
variable (FY:MH (Oz P w K mg base) 4 xY)
include om in
theorem b1G(D':Lk (Def K mg) a d):Lk (Oz P w K mg base) 5 xP:=aM (N:=["form","p"]) D' λX r h=>by
 cases r
 exact (aF (bp (h.cl om (af (o4 (N':=["row","p"]) (caps:=[1]) (nt:=1) h ⟨rfl,by decide +kernel,by decide +kernel,by decide +kernel,by decide +kernel,rfl,rfl,by decide +kernel⟩ (qa (h.v 0)) (λX1 bT bS bR bH bQ h1=>⟨(h1.tg 0),lT,(fC (af (aw (h1.bv 0) ah) (af (aw (h1.bv 0) ah) (af (az dz (aw (h1.bv 0) ah) (az k0 (h1.v 1) (aw (h1.bv 0) ah))) (af (az dz (aw (h1.bv 0) ah) (h1.v 1)) ar)))))⟩)) ar))))
variable (E9:Lk (Oz P w K mg base) 5 xP)
include FY E9 in
theorem b0J(D':L8 (Def K mg) a d):L8 (Oz P w K mg base) 6 B8:=aM (N:=["form","p"]) D' λX r h=>by
 cases r
 exact (aF (bp (tZ (aw (gw (h.cl FY (af (h.cl E9 (af (h.v 0) (af (h.v 1) ar))) ar))) ah))))
variable (Fp:L8 (Oz P w K mg base) 6 B8)
include jN Fp in
theorem b34(D':K' (Def K mg) a d):K' (Oz P w K mg base) 7 v7:=aM (N:=["form","x","p"]) D' λX r h=>by
 cases r
 exact (aF (bp (EK (qc h.u8) (az dz (az k0 (h.v 2) (h.v 1)) (h.cl jN (af (dM (af (h.v 0) ar)) (af (dM (af (h.v 1) ar)) ar)))) (h.cl Fp (af (h.v 0) (af (h.v 2) ar))))))
variable (vX:K' (Oz P w K mg base) 7 v7)
include z_zip z_all jN Fw vX in
theorem il(D':c5 (Def K mg) a d):c5 (Oz P w K mg base) 8 bg:=aM (N:=["forms","shares","paper"]) D' λX r h=>by
 cases r
 exact (aD (b52 (h.cl jN (af (h.v 0) (af (h.v 1) ar)))) (aD (cY (bD (qc h.u8) (aw (h.bv 2) ah) xy) (aF (bp (b8W h.g z_all h.calm (gw (o4 (N':=["form","share","paper"]) (caps:=[2]) (nt:=2) h ⟨rfl,by decide +kernel,by decide +kernel,by decide +kernel,by decide +kernel,rfl,rfl,by decide +kernel⟩ (Kv h.g z_zip (af (h.v 0) (af (h.v 1) ar))) (λX1 bT bS bR bH bQ h1=>⟨(rY (n:=2) h1.calm (g0 (h1.tg 0) (g0 (h1.tg 1) r8))),lT,(h1.cl (gc bT bS bR bH bQ vX) (af (h1.v 0) (af (h1.v 1) (af (aw (h1.bv 2) ah) ar))))⟩)))))) dA) (aF (bp (h.cl Fw (af (h.v 0) (af (h.v 1) (af (h.v 2) ar))))))))
variable (FR:c5 (Oz P w K mg base) 8 bg)
include z_max z_min wm v9 in
theorem a6h(D':M3 (Def K mg) a d):M3 (Oz P w K mg base) 6 Cw:=aM (N:=["forms","shares","low","high"]) D' λX r h=>by
 cases r
 exact (aD (h.aC 2 (QG h.g z_max h.calm h.u8 (gw (h.cl v9 (af (h.v 0) (af (h.v 1) ar)))) iF)) (aD (h.aC 3 (QH h.g z_min h.calm h.u8 (gw (h.cl wm (af (h.v 0) (af (h.v 1) ar)))) iF)) (aF (bp (fC (af (p6 (bD rZ (h.v 2) iF) iF (aw (h.bv 2) ah)) (af (p6 (bD rZ (h.v 3) iF) iF (aw (h.bv 3) ah)) ar)))))))
variable (F3:M3 (Oz P w K mg base) 6 Cw)
theorem a9m(D':Mz (Def K mg) a d):Mz (Oz P w K mg base) 1 wb:=aM (N:=["rows","p","best","told","low","high","price","step","x","gain"]) D' λX r h=>by
 cases r
 exact (aD (h.aC 2 iF) (aD (h.aC 3 ah) (aD (j9 h.own h.calm (h.v 0) (rY (n:=4) h.calm (g0 (h.tg 4) (g0 (h.tg 5) (g0 (h.tg 6) (g0 (h.tg 7) r8))))) (aF (j9 h.own h.calm (dM (af (h.v 4) (af (h.v 5) ar))) (h.tg 8) (aD (h.aC 9 (az dz (az dz (az k0 (h.v 1) (h.v 8)) (h.v 6)) (az k0 (h.v 7) (az dz (h.v 8) (h.v 4))))) (aF (cY (eZ (p7 (bD rZ (h.v 2) iF) (rX (bD pZ (h.v 9) (h.v 2))))) (aD (h.aC 2 (h.v 9)) (aF (h.aC 3 (h.v 8)))) dA)))))) (aF (bp (h.v 3))))))
variable (FF:Mz (Oz P w K mg base) 1 wb)
theorem a7G(D':MG (Def K mg) a d):MG (Oz P w K mg base) 1 xX:=aM (N:=["sellers","cell","prices","rows","row"]) D' λX r h=>by
 cases r
 exact (aD (h.set 2 (dM (af (az dz (az fE (h.v 1) ah) ah) (af (az dz (az fE (az E4 (h.v 1) (az my ah ah)) (az my ah ah)) (az E4 ah (az my ah ah))) ar)))) (aD (j9 h.own h.calm (h.v 0) (h.tg 3) (aF (j9 h.own h.calm (h.v 3) (h.tg 4) (aF (h.app 2 (az dz (az eS (aw (h.bv 4) ah) (az fE (h.v 1) ah)) ah)))))) (aF (h.ik 2))))
variable (FX:MG (Oz P w K mg base) 1 xX)
include z_len in
theorem b1I(D':Li (Def K mg) a d):Li (Oz P w K mg base) 1 xO:=aM (N:=["script","k"]) D' λX r h=>by
 cases r
 exact (aD (cY (bD iE (h.v 1) (gx h.g z_len (h.bv 0))) (aF (bp (aw (h.bv 0) (h.v 1)))) dA) (aF (bp ah)))
variable (v5:Li (Oz P w K mg base) 1 xO)
theorem a8E(D':Mp (Def K mg) a d):Mp (Oz P w K mg base) 1 wt:=aM (N:=["number","factor"]) D' λX r h=>by
 cases r
 exact (aF (bp (az fE (az k0 (az fE (h.v 0) ah) (h.v 1)) ah)))
variable (xZ:Mp (Oz P w K mg base) 1 wt)
include z_len xZ in
theorem a6V(D':M' (Def K mg) a d):M' (Oz P w K mg base) 2 ym:=aM (N:=["number","ahead","far","wide","one","two","three","low","price","step","size","last"]) D' λX r h=>by
 cases r
 exact (aD (h.aC 2 (az fE (az k0 (h.v 0) (az my ah ah)) (az my ah ah))) (aD (h.aC 3 (az fE (az k0 (h.v 0) (az my ah ah)) (az my ah ah))) (aD (h.aC 4 (h.cl xZ (af (h.v 0) (af ah ar)))) (aD (h.aC 5 (h.cl xZ (af (h.v 0) (af ah ar)))) (aD (h.aC 6 (h.cl xZ (af (h.v 0) (af ah ar)))) (aD (h.aC 7 (aw (gw (dM (af ah (af (az dz (az fE (az jv (h.v 4) ah) ah) ah) (af (az dz (h.v 2) (az k0 ah (az my ah ah))) ar))))) (az fE (h.v 4) ah))) (aD (h.aC 8 (aw (gw (dM (af (az dz (az fE (az jv (h.v 5) ah) ah) ah) (af (az dz (h.v 3) (az k0 ah (az my ah ah))) ar)))) (az fE (h.v 5) ah))) (aD (h.aC 9 (aw (gw (dM (af ah (af (az dz (az fE (az jv (h.v 6) ah) ah) ah) (af (az dz (az fE (az jv (h.v 6) ah) ah) ah) (af (az dz (az jv (h.v 2) (az my ah ah)) (az k0 ah (az my ah ah))) ar)))))) (az fE (h.v 6) ah))) (aD (h.aC 10 (aw (gw (dM (af ah (af ah (af (az eS ah (az fE (az jv (h.v 4) ah) ah)) (af (az eS ah (h.v 3)) ar)))))) (az fE (az jv (h.v 5) ah) ah))) (aD (cY (bD pZ (gx h.g z_len (h.bv 1)) ah) (aD (h.aC 11 (aw (h.bv 1) (tZ ah))) (aD (h.aC 7 (az eS (az eS (aw (h.bv 11) ah) ah) (aw (gw (dM (af ah (af ah (af (az eS ah (az fE (az jv (h.v 5) ah) ah)) (af (az fE (h.v 2) (az my ah ah)) ar)))))) (az fE (az jv (h.v 6) ah) ah)))) (aF (cY (bD (qc h.u8) (az fE (az jv (h.v 4) ah) ah) ah) (aF (h.aC 8 (az dz (az eS (az eS (aw (h.bv 11) ah) (az k0 (aw (h.bv 11) ah) (az eS (az dz (aw (h.bv 11) ah) (aw (h.bv 11) ah)) ah))) (az fE (az jv (h.v 6) ah) ah)) ah))) dA)))) dA) (aF (bp (fC (af (h.v 7) (af (az dz (az eS (h.v 7) (h.v 10)) ah) (af (h.v 8) (af (h.v 9) ar)))))))))))))))))
variable (FN:M' (Oz P w K mg base) 2 ym)
include FN in
theorem a9k(D':MB (Def K mg) a d):MB (Oz P w K mg base) 3 wc:=aM (N:=["numbers","rows","number"]) D' λX r h=>by
 cases r
 exact (aD (h.set 1 (dM ar)) (aD (j9 h.own h.calm (h.v 0) (h.tg 2) (aF (h.app 1 (b6R 1 (h.cl FN (af (h.v 2) (af (h.v 1) ar))))))) (aF (h.ik 1))))
variable (FA:MB (Oz P w K mg base) 3 wc)
include z_len z_range in
theorem a6X(D':M8 (Def K mg) a d):M8 (Oz P w K mg base) 1 yj:=aM (N:=["script","first","most","told","k","cell"]) D' λX r h=>by
 cases r
 exact (aD (h.set 3 (dM ar)) (aD (KQ h.own h.calm (b4m h.g z_range (af (h.v 1) (af (gx h.g z_len (h.bv 0)) ar))) (h.tg 4) (aD (h.aC 5 (az fE (aw (h.bv 0) (h.v 4)) (az my ah ah))) (aF (cY (bD iE (gx h.g z_len (h.bv 3)) (h.v 2)) (aF (h.app 3 (h.v 5))) (aF (h.item 3 (az fE (az eS (az k0 (aw (h.bv 3) (az fE (h.v 4) (h.v 2))) ah) (h.v 5)) (az my ah ah)) (az fE (h.v 4) (h.v 2)))))))) (aF (h.ik 3))))
variable (FK:M8 (Oz P w K mg base) 1 yj)
include z_max z_len z_range v5 FA FK in
theorem a6W(D':M9 (Def K mg) a d):M9 (Oz P w K mg base) 4 yk:=aM (N:=["script","count","numbers","sellers"]) D' λX r h=>by
 cases r
 exact (aD (h.aC 1 (az fE (h.cl v5 (af (h.v 0) (af ah ar))) ah)) (aD (h.aC 2 (h.cl FK (af (h.v 0) (af ah (af (az k0 ah (sd (BQ h.calm) h.g z_max (by decide +kernel) (af ah (af (h.v 1) ar)))) ar))))) (aD (BS (i:=3) false (N':=["turn","numbers","count"]) (caps:=[2,1]) (nt:=1) h ⟨rfl,by decide +kernel,by decide +kernel,by decide +kernel,by decide +kernel,rfl,rfl,by decide +kernel⟩ (RJ h.g z_range (af (h.v 1) ar)) (λX1 bT bS bR bH bQ h1=>⟨(h1.tg 0),lT,(h1.cl (gc bT bS bR bH bQ FA) (af (o4 (N':=["k","numbers"]) (caps:=[1]) (nt:=1) h1 ⟨rfl,by decide +kernel,by decide +kernel,by decide +kernel,by decide +kernel,rfl,rfl,by decide +kernel⟩ (b4l h1.g (uq bH z_range) (af (h1.v 0) (af (gx h1.g (uq bH z_len) (h1.bv 1)) (af (h1.v 2) ar)))) (λX2 Z1 Z0 ZZ ZY ZX h2=>⟨(h2.tg 0),lT,(aw (h2.bv 1) (h2.v 0))⟩)) ar))⟩)) (aF (bp (o4 (N':=["rows"]) (caps:=[]) (nt:=1) h ⟨rfl,by decide +kernel,by decide +kernel,by decide +kernel,by decide +kernel,rfl,rfl,by decide +kernel⟩ (qa (h.v 3)) (λX1 bT bS bR bH bQ h1=>⟨(h1.tg 0),(b8K (bD pZ (gx h1.g (uq bH z_len) (h1.bv 0)) ah)),(h1.v 0)⟩)))))))
variable (FL:M9 (Oz P w K mg base) 4 yk)
include z_len z_range z_list om FE F4 Fz vX FR F3 FF FX v5 FL in
theorem b8r(D':yu (Def K mg) a d):cW P w K mg base jX 14 a d ["script"] (nI K 1 ES):=AK (N:=["script","sellers","forms","p","shares","k","low","high"]) D' λX r h=>by
 cases r
 exact (aD (h.aC 1 (h.cl FL (af (h.v 0) ar))) (aD (BS (i:=2) false (N':=["rows"]) (caps:=[]) (nt:=1) h ⟨rfl,by decide +kernel,by decide +kernel,by decide +kernel,by decide +kernel,rfl,rfl,by decide +kernel⟩ (qa (h.v 1)) (λX1 bT bS bR bH bQ h1=>⟨(h1.tg 0),lT,(h1.cl (gc bT bS bR bH bQ om) (af (h1.v 0) ar))⟩)) (aD (j9 h.own h.calm (h.cl FX (af (h.v 1) (af (h.cl v5 (af (h.v 0) (af ah ar))) ar))) (h.tg 3) (aD (BS (i:=4) false (N':=["rows","p"]) (caps:=[3]) (nt:=1) h ⟨rfl,by decide +kernel,by decide +kernel,by decide +kernel,by decide +kernel,rfl,rfl,by decide +kernel⟩ (qa (h.v 1)) (λX1 bT bS bR bH bQ h1=>⟨(h1.tg 0),lT,(h1.cl (gc bT bS bR bH bQ FF) (af (h1.v 0) (af (h1.v 1) ar)))⟩)) (aD (b7Z (h.cl F3 (af (h.v 2) (af (KC h.g z_list (h.bv 4)) ar))) (rY (n:=2) h.calm (g0 (h.tg 6) (g0 (h.tg 7) r8)))) (aD (cY (eZ (p7 (eZ (vW (bD Q7 (h.v 6) iF) (vZ (bD iE (h.v 3) (h.v 6))))) (rX (eZ (vW (bD Q7 (h.v 7) iF) (vZ (bD pZ (h.v 3) (h.v 7)))))))) (aF (bp oj)) dA) (aD (b3A h.own h.calm h.g z_range (af (gx h.g z_len (h.bv 4)) ar) (h.tg 5) (aF (cY (bD KL (h.cl vX (af (aw (h.bv 2) (h.v 5)) (af (aw (h.bv 4) (h.v 5)) (af (h.v 3) ar)))) oj) (aF (bp oj)) dA))) (aD (cY (eZ (p7 (bD KL (h.cl FR (af (h.v 2) (af (h.v 4) (af (fC (af xy (af (h.v 3) ar))) ar)))) oj) (rX (bD (Kp h.u8) (aw (gw (h.cl Fz (af (h.v 2) (af (h.v 4) ar)))) ah) xy)))) (aF (bp oj)) dA) (aD (cY (Kx (t7 (h.cl F4 (af (h.v 2) (af (h.v 1) (af (h.v 4) (af (h.v 3) (af (se (h.bv 0) sf (si ah)) ar)))))))) (aF (bp oj)) dA) (aF (cY (bD KL (h.cl FE (af (h.v 2) (af (KC h.g z_list (h.bv 4)) ar))) oj) (aF (bp oj)) dA))))))))) (aF (bp oj)))))
end
theorem all_mk{l:OE}{w:World}{K:aJ}{h:Heap}{mg:Str->Option Value}{fa:Addr}(X:K.In h)(G:h.Ns mainGlobals mg)(Zg:mg "law" = some (.ref fa))
  (i1:FI K "line_at" SU f1 od1 an1 sl1 oc1 kV1 dc1 pm1 cd1 ct1)
  (i2:FI K "drawn_to" SN f2 od2 an2 o9 oc2 kV2 dc2 pm2 cd2 ct2)
  (i3:FI K "place_of" Ti f3 od3 an3 sl3 oc3 kV3 dc3 pm3 cd3 ct3)
  (i4:FI K "cost_at" SI f4 od4 an4 sl4 oc4 kV4 dc4 pm4 cd4 ct4)
  (i5:FI K "cost_of" SR f5 od5 an5 sl5 oc5 kV5 dc5 pm5 cd5 ct5)
  (i6:FI K "holds_one" S6 f6 od6 an6 sl6 oc6 kV6 dc6 pm6 cd6 ct6)
  (i7:FI K "plain" RE f7 od7 an7 sl7 oc7 kV7 dc7 pm7 cd7 ct7)
  (i8:FI K "laid_beside" TK f8 od8 an8 sl8 oc8 kV8 dc8 pm8 cd8 ct8)
  (i9:FI K "laid" Q0 f9 od9 an9 sl9 oc9 kV9 dc9 pm9 cd9 ct9)
  (i10:FI K "stretch_on" Tp f10 WT an10 U6 XG YH dc10 V0 cd10 ct10)
  (i11:FI K "span_or_none" TJ f11 WS an11 U5 XF YG dc11 VZ cd11 ct11)
  (i12:FI K "up" P4 f12 WR an12 U4 XE YF dc12 VY cd12 ct12)
  (i13:FI K "down" QZ f13 WQ an13 U3 XD YE dc13 VX cd13 ct13)
  (i14:FI K "no_dearer" S' f14 WO an14 U2 XC YD dc14 VW cd14 ct14)
  (i15:FI K "lower_line" To f15 WN an15 U1 XB YC dc15 VV cd15 ct15)
  (i16:FI K "line_from" S9 f16 WM an16 U0 XA YB dc16 VU cd16 ct16)
  (i17:FI K "met" Qj f17 WL an17 UZ Xz YA dc17 VT cd17 ct17)
  (i18:FI K "lesser_rows" TQ f18 WK an18 UY Xy Yz dc18 VS cd18 ct18)
  (i19:FI K "cut" Qi f19 WJ an19 UX Xx Yy dc19 VR cd19 ct19)
  (i20:FI K "outside" S0 f20 WI an20 UW Xw Yx dc20 VQ cd20 ct20)
  (i21:FI K "spans_of" Tj f21 WH an21 UU Xv Yw dc21 VP cd21 ct21)
  (i22:FI K "least" RC f22 WG an22 UT Xu Yv dc22 VO cd22 ct22)
  (i23:FI K "least_of" Th f23 WE an23 US Xt Yu dc23 VN cd23 ct23)
  (i24:FI K "how_many_picks" TR f24 WD an24 UR Xr Yt dc24 VM cd24 ct24)
  (i25:FI K "picks" RD f25 WC an25 UQ Xq Yr dc25 VL cd25 ct25)
  (i26:FI K "step_of" S1 f26 WB an26 UP Xp Yq dc26 VJ cd26 ct26)
  (i27:FI K "poured" R9 f27 WA an27 UO Xo Yp dc27 VI cd27 ct27)
  (i28:FI K "least_poured" TF f28 Wz an28 UN Xn Yo dc28 VH cd28 ct28)
  (i29:FI K "joined" RZ f29 Wy an29 UM Xm Yn dc29 VG cd29 ct29)
  (i30:FI K "cheapest" SM f30 Wx an30 UL Xl Ym dc30 VF cd30 ct30)
  (i31:FI K "_law_cost" Tf f31 Ww an31 UK Xk Yl dc31 VE cd31 ct31)
  (i32:FI K "_law_total" S8 f32 Wv an32 UJ Xj Yk dc32 VD cd32 ct32)
  (i33:FI K "_law_amount" Tz f33 Wu an33 UI Xi Yj dc33 VC cd33 ct33)
  (i34:FI K "_law_others_cost_more" TU f34 Wt an34 UH Xh Yi dc34 VB cd34 ct34)
  (i35:FI K "ends_above" Tw f35 Ws an35 UG Xg Yh dc35 VA cd35 ct35)
  (i36:FI K "highs_of" Td f36 Wr an36 UE Xf Yg dc36 Vz cd36 ct36)
  (i37:FI K "ends_below" Tx f37 Wq an37 UD Xe Yf dc37 Vy cd37 ct37)
  (i38:FI K "lows_of" SX f38 Wp an38 UC Xd Ye dc38 Vx cd38 ct38)
  (i39:FI K "paper_for" Ta f39 Wn an39 UB Xc Yd dc39 Vw cd39 ct39)
  (i40:FI K "bars_hold" S5 f40 Wm an40 UA Xb Yc dc40 Vv cd40 ct40)
  (i41:FI K "offered" SY f41 Wl an41 Uz Xa Yb dc41 Vu cd41 ct41)
  (i42:FI K "cheapest_in" Tq f42 Wk an42 Uy W' Ya dc42 Vt cd42 ct42)
  (i43:FI K "least_cost" Tn f43 Wj an43 Ux W9 X9 dc43 Vs cd43 ct43)
  (i44:FI K "tilted" Sa f44 Wi an44 Uw W8 X8 dc44 Vr cd44 ct44)
  (i45:FI K "gain_at" SS f45 Wh an45 Uv W7 X7 dc45 Vq cd45 ct45)
  (i46:FI K "shows" RG f46 Wg an46 Uu W6 X6 dc46 Vp cd46 ct46)
  (i47:FI K "paper_holds" d9 f47 Wf an47 Ut W5 X5 dc47 Vo cd47 ct47)
  (i48:FI K "shares_shown" TH f48 We an48 Us W4 X4 Z' Vn cd48 ct48)
  (i49:FI K "_law_best" Te f49 Wc an49 Ur W3 X3 Z9 Vm cd49 ct49)
  (i50:FI K "_law_prices" TC f50 Wb an50 Uq W2 XZ Z8 Vl cd50 ct50)
  (i51:FI K "_law_at" R8 f51 Wa an51 Uo W1 XY Z7 Vk cd51 ct51)
  (i52:FI K "_law_mixed" S7 f52 V' an52 Um W0 XX Z6 Vj cd52 ct52)
  (i53:FI K "_law_stretch" TN f53 V9 an53 Ul WZ XW Z5 Vi cd53 ct53)
  (i54:FI K "_law_rows" Tg f54 V8 an54 Uk WY XU Z4 Vh cd54 ct54)
  (i55:FI K "_law_numbers" TL f55 V7 an55 Uj WX XT Z3 Vg cd55 ct55)
  (i56:FI K "_law_sellers" TM f56 V6 an56 Ui WW XS Z2 Vf cd56 ct56)
  (i57:FI K "law" BJ f57 V5 Kz Uh WU G5 ID GL II IE)
  (zmax:m8 K mainGlobals "max" = some none)
  (zmin:m8 K mainGlobals "min" = some none)
  (ztuple:m8 K mainGlobals "tuple" = some none)
  (zlen:m8 K mainGlobals "len" = some none)
  (zsorted:m8 K mainGlobals "sorted" = some none)
  (zsum:m8 K mainGlobals "sum" = some none)
  (zMOST_PICKS:∃t,m8 K mainGlobals "MOST_PICKS" = some (some (.int 100 t)))
  (zzip:m8 K mainGlobals "zip" = some none)
  (zenumerate:m8 K mainGlobals "enumerate" = some none)
  (zall:m8 K mainGlobals "all" = some none)
  (zrange:m8 K mainGlobals "range" = some none)
  (zlist:m8 K mainGlobals "list" = some none)
  (fin:∀ns:List Int,ns.length<=63->(∀n∈ns,Sm n)->ES [.lst true (ns.map D.int)]=some (.sh (.bl true))):
  ∃fd:FuncData,(∀(s:Shared) (v:Value),BindsTo s fd ⟨[v],[]⟩ [("script",v)])/\∀base:Heap,K.In base->base.Ns mainGlobals mg->cW l.prog w K mg base jX 14 fa fd ["script"] (uB K):=by
 have e:=Zg.symm.trans (IX X G i57.a)
 cases e
 have z_max:=pT X G zmax
 have z_min:=pT X G zmin
 have z_tuple:=pT X G ztuple
 have z_len:=pT X G zlen
 have z_sorted:=pT X G zsorted
 have z_sum:=pT X G zsum
 have z_MOST_PICKS:Nn mg "MOST_PICKS" 100:=zMOST_PICKS.imp λ_ q=>IX X G q
 have z_zip:=pT X G zzip
 have z_enumerate:=pT X G zenumerate
 have z_all:=pT X G zall
 have z_range:=pT X G zrange
 have z_list:=pT X G zlist
 refine ⟨ju "law" "law" (j8 BJ) (iH BJ) (fK BJ) .none G5 ID GL Kz II IE,λs v=>.of_eq rfl,λbase _ _=>?_⟩
 have qK:=b0I (P:=l.prog) (w:=w) (base:=base) (nP X G i1)
 have oz:=a9o qK (bJ X G i2)
 have FC:=a9j (P:=l.prog) (w:=w) (base:=base) z_len (bJ X G i3)
 have jM:=b0L z_len oz FC (bJ X G i4)
 have jN:=b0K z_sum z_zip jM (bJ X G i5)
 have ud:=a8F (P:=l.prog) (w:=w) (base:=base) (c7 X G i6)
 have t9:=b35 ud (c7 X G i7)
 have FJ:=a6Y qK ud t9 (bJ X G i8)
 have om:=b6s z_tuple t9 FJ (c7 X G i9)
 have wa:=a7C qK (uJ X G i10)
 have Cq:=a6g (P:=l.prog) (w:=w) (base:=base) (bJ X G i11)
 have qC:=zb (P:=l.prog) (w:=w) (base:=base) (bJ X G i12)
 have qH:=b6t (P:=l.prog) (w:=w) (base:=base) (bJ X G i13)
 have Fy:=a8B z_max z_min Cq qC qH (uJ X G i14)
 have FZ:=a7E wa Fy (uJ X G i15)
 have Cc:=a8C oz (bJ X G i16)
 have Et:=b8q z_max z_min z_len Cc (bJ X G i17)
 have FQ:=a6P FZ Et (bJ X G i18)
 have Bo:=b8s oz (nP X G i19)
 have B4:=b0F z_max z_len Bo (bJ X G i20)
 have B':=a9i (P:=l.prog) (w:=w) (base:=base) z_tuple (c7 X G i21)
 have ot:=b37 z_sorted om FQ B4 B' (bJ X G i22)
 have O_least_of__0:=a6U (P:=l.prog) (w:=w) (base:=base) (c7 X G i23)
 have Cj:=a6T z_len ot O_least_of__0 (c7 X G i23)
 have Ck:=a6S z_len ot Cj (c7 X G i23)
 have Cm:=a6R z_len ot Ck (c7 X G i23)
 have FO:=a6Q z_len ot Cm (c7 X G i23)
 have Ci:=a48 (P:=l.prog) (w:=w) (base:=base) z_len (c7 X G i24)
 have ER:=b36 z_MOST_PICKS Ci (c7 X G i25)
 have Ft:=b0E (P:=l.prog) (w:=w) (base:=base) (c7 X G i26)
 have E8:=b1H z_sorted z_sum om Ft (c7 X G i27)
 have F2:=a6i FO ER E8 (c7 X G i28)
 have E7:=b1J F2 (c7 X G i29)
 have FE:=a9p z_sum jM jN E7 (bJ X G i30)
 have FG:=a9l (P:=l.prog) (w:=w) (base:=base) (bJ X G i31)
 have Cb:=a8D z_sum z_zip FG (bJ X G i32)
 have FW:=a7H (P:=l.prog) (w:=w) (base:=base) z_min z_len (bJ X G i33)
 have F4:=a3a z_len z_sum z_range z_list jN Cb FW (GZ X G i34)
 have FT:=a7J (P:=l.prog) (w:=w) (base:=base) z_max (bJ X G i35)
 have wm:=a9n z_enumerate jM jN qH FT (bJ X G i36)
 have FU:=a7I (P:=l.prog) (w:=w) (base:=base) z_min (bJ X G i37)
 have v9:=b0H z_enumerate jM jN qC FU (bJ X G i38)
 have Fz:=a8A z_max z_min wm v9 (bJ X G i39)
 have Fw:=a8G z_len jM qC qH (nP X G i40)
 have Fq:=b0G (P:=l.prog) (w:=w) (base:=base) z_len (c7 X G i41)
 have FH:=a6Z oz (c7 X G i42)
 have FY:=a7F z_min Fq FH (c7 X G i43)
 have E9:=b1G om (bJ X G i44)
 have Fp:=b0J FY E9 (bJ X G i45)
 have vX:=b34 jN Fp (nP X G i46)
 have FR:=il z_zip z_all jN Fw vX (nP X G i47)
 have F3:=a6h z_max z_min wm v9 (bJ X G i48)
 have FF:=a9m (P:=l.prog) (w:=w) (base:=base) (bJ X G i49)
 have FX:=a7G (P:=l.prog) (w:=w) (base:=base) (bJ X G i50)
 have v5:=b1I (P:=l.prog) (w:=w) (base:=base) z_len (bJ X G i51)
 have xZ:=a8E (P:=l.prog) (w:=w) (base:=base) (bJ X G i52)
 have FN:=a6V z_len xZ (bJ X G i53)
 have FA:=a9k FN (c7 X G i54)
 have FK:=a6X (P:=l.prog) (w:=w) (base:=base) z_len z_range (nP X G i55)
 have FL:=a6W z_max z_len z_range v5 FA FK (c7 X G i56)
 have O_law:=b8r z_len z_range z_list om FE F4 Fz vX FR F3 FF FX v5 FL (c7 X G i57)
 exact b6C O_law fin
end My
open PySem L2 DL
def vcNames:String:="a0i a0s a0o a2A b1q b1s b1r b1p Wo_seq b7i Wo_bk b9l b9k b3b b9E b9b b7D b69 Wo_eV Wo_eC b9C b9p b7p b7t b7n b7q b7s b9u b43 b7r b7o b9s b9t b9v b9w b9x b9r b7E b7G b7F rep0 rep1 rep2 rep3 rep4 b4W b5a b7w b7x b7v b7z b7C b7m b9q b7j b2i b4s b2k b2h b2g b2j b9h b9G b7d b7c b7b b4X b7f b9g b7e b9B b7H b5d b7y b7A b9c b9e b9d Wo_bV b9D b9i b9j b7B b48 b3e ixQ_i b9A atI_0 atI_1 atI_2 atI_3 b49 b3g b5b b5c b6U Wo_for b7u b7g b40 b4Z b3w b3x b3v Wo_gN Wo_gT b41 b3d b9F b9f b9H b8U b9y b9m b6G b7l b7a b7h b9o pQ_i b9n b9z b4V b45 srQ_l b0Z b44 Sl_sh Sl_ow List.getElem?_cons_zero List.getElem?_cons_succ List.set_cons_zero List.set_cons_succ List.length_cons List.length_nil decide_eq_true_eq decide_eq_false_iff_not Bool.not_eq_true' Bool.not_eq_false' Bool.not_true Bool.not_false true_and and_true forall_const Bool.true_eq_false Bool.false_eq_true false_implies reduceCtorEq implies_true true_implies Int.reduceToNat Nat.reduceAdd Nat.reduceLT Nat.reduceLeDiff Nat.reduceSub Int.reduceLT Int.reduceLE Int.reduceEq Int.cast_ofNat_Int not_true_eq_false not_false_eq_true"
local macro_rules | `(tactic| walk_at "vc")=>do
 let ls ← ((vcNames.splitOn " ") ++ ["a2Y","b46","b42","b3c","b4p","b6I","b4r","b4o","b4n","b4q"]).toArray.mapM fun s=>`(Lean.Parser.Tactic.simpLemma| $(Lean.mkIdent s.toName):ident)
 `(tactic| first | simp only [$ls,*] | dsimp only | skip)
local macro_rules | `(tactic| walk_at "v1")=>do
 let ls ← (vcNames.splitOn " ").toArray.mapM fun s=>`(Lean.Parser.Tactic.simpLemma| $(Lean.mkIdent s.toName):ident)
 `(tactic| first | simp only [$ls,*] | dsimp only | skip)
local macro_rules | `(tactic| walk_at "sc")=>`(tactic| first | omega | (simp only [DivC,PowC,MulC,LIM,R62]; omega) | rfl | decide)
local macro_rules | `(tactic| walk_at "go")=>`(tactic| (walk_at "vc"; repeat' first | apply c4T | intro _); all_goals try (walk_at "sc"))
local macro_rules | `(tactic| walk_at "sp")=>`(tactic| (repeat' first | apply And.intro | intro _); all_goals first | (exfalso; omega) | walk_at "sc" | ((repeat apply Exists.intro); rfl) | skip)
local macro_rules | `(tactic| walk_at "st")=>`(tactic| repeat (refine And.intro ?_ ?_; · first | (simp only [DivC,PowC,MulC,LIM,R62]; omega) | omega))
namespace My
theorem b2G(ns:List Int)(hl:ns.length<=63)(start most:Int)(h0:0<=start)(h1:0<most)(h2:most<=1000)(h3:start<=1000){r:Bool}:∃l:List Int,yj [.lst r (ns.map D.int),.int start,.int most]=some (.ow (l.map D.int))/\(l.length:Int)<=most/\((l.length:Int)<most->l.length=((ns.length:Int)-start).toNat)/\∀v∈l,0<=v/\v<10^18:=by
 have key:Wo (yj [.lst r (ns.map D.int),.int start,.int most]) λs=>∃l:List Int,s=.ow (l.map D.int)/\(l.length:Int)<=most/\((l.length:Int)<most->l.length=((ns.length:Int)-start).toNat)/\∀v∈l,0<=v/\v<10^18:=by
  refine jh.mpr ?_
  unfold MM
  walk_at "vc"
  rw [aQ]
  refine QX _ _ (λk env=>∃x4 x5,∃l:List Int,env=[.sh (.lst r (ns.map D.int)),.sh (.int start),.sh (.int most),.ow (l.map D.int),x4,x5]/\(l.length:Int)<=most/\(l.length<most->l.length=k)/\∀v∈l,0<=v/\v<10^18) (λk env hk h=>?_) (λenv h=>?_) ⟨_,_,[],rfl,by simp;ext h1,λ_=>rfl,by simp⟩
  .obtain ⟨x4,x5,l,rfl,hm,pK,hv⟩:=h
   walk_at "vc"
   rw [BU 0 (by ext h0) (by ext hk),a0i]
   walk_at "vc"
   rw [aQ]
   generalize ns.getD _ 0=c
   have c1:=jq c (show (10^18:Int)≠0 by decide)
   have c2:=js c (show (0:Int)<10^18 by decide)
   refine ⟨by walk_at "sc",by decide,λaT=>?_,λoO=>?_⟩
   .refine ⟨by ext h2 aT,_,_,l++[c%10^18],by rw [eR];rfl,by simp;ext aT,λ_=>by simp;exact pK aT,λv uP=>?_⟩
    rcases bW.mp uP with h | h
    .exact hv v h
    .obtain rfl:=bY.mp h
     exact ⟨c1,c2⟩
   .have m1:=jq (start+k) (show most≠0 by ext h1)
    have m2:=js (start+k) h1
    have hlm:(l.length:Int)=most:=by ext hm oO
    generalize c%10^18=c at *
    rw [BU 0 m1 (by ext oO m2)]
    walk_at "vc"
    generalize hx:l.getD _ 0=x
    generalize (start+(k:Int))%most=j at *
    have hj:l6 (l.map D.int).length j=some j.toNat:=by
     unfold l6
     rw [if_pos m1,aQ,if_pos (by ext oO m2)]
    rw [aQ] at hj
    rw [hj]
    walk_at "vc"
    refine ⟨by ext h1,.inr (.inl (by decide)),by walk_at "sc",by decide,by ext h1,?_⟩
    refine ⟨_,_,l.set j.toNat ((x*10007+c)%10^18),by rw [List.map_set],by rw [IU];ext hm,λh=>absurd h (by rw [IU];ext oO),λv uP=>?_⟩
    rcases List.mem_or_eq_of_mem_set uP with h | h
    .exact hv v h
    .rw [h]
     exact ⟨jq _ (by decide),js _ (by decide)⟩
  .obtain ⟨x4,x5,l,rfl,hm,hq,hv⟩:=h
   walk_at "vc"
   exact ⟨l,rfl,hm,hq,hv⟩
 obtain ⟨s,e,l,rfl,h⟩:=key
 exact ⟨l,e,h⟩
noncomputable abbrev Row:=Int×Int×Int×Int
noncomputable def Row.d(r:Row):D:=.tup [.int r.1,.int r.2.1,.int r.2.2.1,.int r.2.2.2]
theorem dr(r:Row):Row.d r=.tup [.int r.1,.int r.2.1,.int r.2.2.1,.int r.2.2.2]:=rfl
noncomputable def Row.at(r:Row)(x:Int):Int:=r.2.2.1+r.2.2.2*(x-r.1)
def vN(r:Row):Prop:=r.1<=r.2.1/\(r.1=r.2.1->r.2.2.2=0)
def J2(a r:Row):Prop:=a.2.1<r.1/\(r.1=a.2.1+1->a.1<a.2.1/\r.2.2.1≠a.at r.1)
noncomputable def bZ(R:Row->Row->Prop):List Row->Prop
 | a::b::rs=>R a b/\bZ R (b::rs)
 | _=>True
theorem bZ.snoc{R:Row->Row->Prop}{r:Row}:∀{rs:List Row},bZ R rs->(∀a,rs.getLast?=some a->R a r)->bZ R (rs++[r])
 | [],_,_=>trivial
 | [a],_,h=>⟨h a rfl,trivial⟩
 | a::b::rs,h,k=>⟨h.1,h.2.snoc (rs:=b::rs) λc hc=>k c (by simpa using hc)⟩
def Canon(rs:List Row):Prop:=(∀r∈rs,vN r)/\bZ J2 rs
def aB(B:Int)(r:Row):Prop:=(-B<=r.1/\r.1<=B)/\(-B<=r.2.1/\r.2.1<=B)/\(-B<=r.2.2.1/\r.2.2.1<=B)/\(-B<=r.2.2.2/\r.2.2.2<=B)
noncomputable def look:List Row->Int->Option Int
 | [],_=>none
 | r::rs,x=>if r.1<=x/\x<=r.2.1 then some (r.at x) else look rs x
noncomputable def bE:Option Int->D
 | none=>.aR
 | some i=>.int i
def cN(rs:List Row):Prop:=(∀r∈rs,r.1<=r.2.1)/\rs.Pairwise λa b=>a.2.1<b.1
theorem Canon.cG:∀{rs:List Row},Canon rs->cN rs
 | [],_=>⟨λ_ z=>(nomatch z),.nil⟩
 | [r],h=>⟨λq hq=>(h.1 q hq).1,tP _ _⟩
 | r::q::rs,h=>by
  obtain ⟨i1,i2⟩:=Canon.cG (rs:=q::rs) ⟨λa ha=>h.1 a (bG _ ha),h.2.2⟩
  refine ⟨λa ha=>(h.1 a ha).1,iM.mpr ⟨λa ha=>?_,i2⟩⟩
  have h1:=h.2.1.1
  rcases br.mp ha with rfl | ha
  .exact h1
  .have:=(iM.mp i2).1 a ha
   have:=i1 q bw
   lia
theorem LI{x:Int}{post:List Row}:∀{pre:List Row},(∀q∈pre,q.2.1<x)->look (pre++post) x=look post x
 | [],_=>rfl
 | r::pre,h=>by
  have:=h r bw
  rw [Eh,look,if_neg (by ext this)]
  exact LI λq hq=>h q (bG _ hq)
theorem LH{x:Int}:∀{rs:List Row},(∀q∈rs,x<q.1\/q.2.1<x)->look rs x=none
 | [],_=>rfl
 | r::rs,h=>by
  have:=h r bw
  rw [look,if_neg (by ext this)]
  exact LH λq hq=>h q (bG _ hq)
theorem BX{x c:Int}:∀{rs:List Row},look rs x=some c->∃r∈rs,r.1<=x/\x<=r.2.1/\c=r.at x
 | [],h=>by cases h
 | r::rs,h=>by
  rw [look] at h
  split at h
  .exact ⟨r,bw,by lia,by lia,(dj h).symm⟩
  .obtain ⟨q,hq,k⟩:=BX h
   exact ⟨q,bG _ hq,k⟩
theorem ou{rs:List Row}(h:cN rs){r:Row}(hr:r∈rs){x:Int}(h1:r.1<=x)(h2:x<=r.2.1):look rs x=some (r.at x):=by
 obtain ⟨pre,post,rfl⟩:=O0 hr
 rw [LI λq hq=>?_,look,if_pos ⟨h1,h2⟩]
 have:=(gU.mp h.2).2.2 q hq r bw
 ext h1 this
def Val(rs:List Row)(x c:Int):Prop:=∃r∈rs,r.1<=x/\x<=r.2.1/\c=r.at x
theorem gM{rs:List Row}(h:cN rs){x c:Int}:look rs x=some c↔Val rs x c:=
 ⟨BX,λ⟨r,hr,h1,h2,e⟩=>by rw [ou h hr h1 h2,e]⟩
theorem mU{rs qs:List Row}(h:cN rs)(k:cN qs){x:Int}(e:∀c,Val rs x c↔Val qs x c):look rs x=look qs x:=by
 cases h1:look rs x with
 | some c=>exact ((gM k).mpr ((e c).mp ((gM h).mp h1))).symm
 | none =>
  cases h2:look qs x with
  | none=>rfl
  | some c =>
   have:=(gM h).mpr ((e c).mpr ((gM k).mp h2))
   rw [h1] at this;cases this
theorem Val.app{rs qs:List Row}{x c:Int}:Val (rs++qs) x c↔Val rs x c\/Val qs x c:=by
 unfold Val
 constructor
 .rintro ⟨r,hr,h⟩
  rcases bW.mp hr with hr | hr
  .exact .inl ⟨r,hr,h⟩
  .exact .inr ⟨r,hr,h⟩
 .rintro (⟨r,hr,h⟩ | ⟨r,hr,h⟩)
  .exact ⟨r,gv _ hr,h⟩
  .exact ⟨r,gi _ hr,h⟩
theorem Val.one{r:Row}{x c:Int}:Val [r] x c↔r.1<=x/\x<=r.2.1/\c=r.at x:=by
 unfold Val
 simp
theorem Val.two{r q:Row}{x c:Int}:Val [r,q] x c↔(r.1<=x/\x<=r.2.1/\c=r.at x)\/(q.1<=x/\x<=q.2.1/\c=q.at x):=by
 unfold Val
 simp
noncomputable def total(rs:List Row):Int:=(rs.map λr=>r.2.1-r.1+1).sum
theorem v8(rs qs:List Row):total (rs++qs)=total rs+total qs:=by unfold total;rw [eR,DM]
theorem bZ.append{R:Row->Row->Prop}:∀{rs qs:List Row},bZ R rs->bZ R qs->(∀a b,rs.getLast?=some a->qs.head?=some b->R a b)->bZ R (rs++qs)
 | [],_,_,h,_=>h
 | [a],[],_,_,_=>trivial
 | [a],b::qs,_,h,k=>⟨k a b rfl rfl,h⟩
 | a::b::rs,qs,h,h',k=>⟨h.1,bZ.append (rs:=b::rs) h.2 h' λc d hc hd=>k c d (by simpa using hc) hd⟩
theorem bZ.left{R:Row->Row->Prop}:∀{rs qs:List Row},bZ R (rs++qs)->bZ R rs
 | [],_,_=>trivial
 | [a],_,_=>trivial
 | a::b::rs,qs,h=>⟨h.1,bZ.left (rs:=b::rs) h.2⟩
theorem bZ.mid{R:Row->Row->Prop}{b:Row}:∀{rs:List Row},bZ R (rs++[b])->∀a,rs.getLast?=some a->R a b
 | [],_,a,h=>by cases h
 | [a],h,c,hc=>by cases hc;exact h.1
 | a::c::rs,h,d,hd=>bZ.mid (rs:=c::rs) h.2 d (by simpa using hd)
theorem Rc{rs:List Row}{n:Nat}(h:n<rs.length):fB (rs.map Row.d) (n:Int)=some (Row.d rs[n]):=by
 rw [DL.cK];simp [h]
theorem aB.mono{A B:Int}{r:Row}(h:aB A r)(Ax:A<=B):aB B r:=by unfold aB at *;ext h Ax
theorem Ke{p s l x:Int}(h1:-(10^250)<=s)(h2:s<=10^250)(h3:-(10^250)<=x-l)(h4:x-l<=10^250):ue [.tup [.int p,.int s],.int l,.int x]=some (.sh (.int (p+s*(x-l)))):=by
 refine Wo.eq (oE.mpr ?_)
 unfold LR
 walk_at "go"
theorem EY{r:Row}{x:Int}(h1:-(10^250)<=r.2.2.2)(h2:r.2.2.2<=10^250)(h3:-(10^250)<=x-r.1)(h4:x-r.1<=10^250):uj [r.d,.int x]=some (.sh (.int (r.at x))):=by
 refine Wo.eq (mI.mpr ?_)
 unfold LY
 rw [dr r]
 walk_at "vc"
 rw [Ke h1 h2 h3 h4]
 walk_at "vc"
 rfl
theorem Qr{a b:Int}(h:0<b)(h2:b<=10^250):uc [.int a,.int b]=some (.sh (.int (a/b))):=by
 refine Wo.eq (wx.mpr ?_)
 unfold J4
 walk_at "go"
theorem AN{a b:Int}(h:0<b)(h2:b<=10^250):t6 [.int a,.int b]=some (.sh (.int (-(-a/b)))):=by
 refine Wo.eq (Nd.mpr ?_)
 unfold wB
 walk_at "go"
noncomputable def pP:Option (Int×Int)->D
 | none=>.aR
 | some (a,b)=>.tup [.int a,.int b]
noncomputable def wG(a b:Int):Option (Int×Int):=if a<=b then some (a,b) else none
theorem PF(a b:Int):yh [.int a,.int b]=some (.sh (pP (wG a b))):=by
 refine Wo.eq (iI.mpr ?_)
 unfold M1
 walk_at "go"
 all_goals simp [wG,pP, *]
noncomputable def nd(a s low high:Int):Option (Int×Int):=if 0<s then wG low (min high (low+(-a)/s)) else if s<0 then wG (max low (low + -((-a)/(-s)))) high else if 0<a then none else some (low,high)
theorem Iy{p1 s1 p2 s2 low high:Int}(h:-(10^250)<=s1-s2)(h2:s1-s2<=10^250):
  Co [.tup [.int p1,.int s1],.tup [.int p2,.int s2],.int low,.int high]=some (.sh (pP (nd (p1-p2) (s1-s2) low high))):=by
 refine Wo.eq (lj.mpr ?_)
 unfold Mk
 walk_at "vc"
 refine ⟨λhs=>?_,λhs=>⟨λgQ=>?_,λgQ=>⟨λha=>?_,λha=>?_⟩⟩⟩
 .rw [Qr hs h2]
  walk_at "vc"
  rw [PF]
  walk_at "vc"
  rw [nd,if_pos hs]
 .rw [AN (by ext gQ) (by ext h)]
  walk_at "vc"
  rw [PF]
  walk_at "vc"
  rw [nd,if_neg hs,if_pos gQ]
 .rw [nd,if_neg hs,if_neg gQ,if_pos ha];rfl
 .rw [nd,if_neg hs,if_neg gQ,if_neg ha];rfl
theorem Q5{a s low high:Int}(Ae:low<=high):match nd a s low high with
  | none=>∀x,low<=x->x<=high->0<a+s*(x-low)
  | some (f,l)=>(low<=f/\f<=l/\l<=high/\(f=low\/l=high))/\∀x,low<=x->x<=high->(a+s*(x-low)<=0↔f<=x/\x<=l):=by
 unfold nd
 by_cases hs:0<s
 .rw [if_pos hs]
  obtain ⟨f1,f2⟩:=Rn (a:=-a) hs
  generalize (-a)/s=q at *
  have key:∀x,a+s*(x-low)<=0↔x-low<=q:=λx=>by
   constructor
   .intro h
    rcases Int.lt_or_le q (x-low) with h' | h'
    .have:=Bh (show q+1<=x-low by ext h') (A6 hs)
     grind
    .exact h'
   .intro h
    have:=Bh h (A6 hs)
    grind
  unfold wG
  by_cases hm:low<=min high (low+q)
  .rw [if_pos hm]
   refine ⟨⟨by ext,by ext hm,by ext,.inl rfl⟩,λx h1 h2=>?_⟩
   rw [key]
   ext h1 h2
  .rw [if_neg hm]
   intro x h1 h2
   have:=not_congr (key x)
   ext Ae hm h1 this
 .rw [if_neg hs]
  by_cases gQ:s<0
  .rw [if_pos gQ]
   obtain ⟨f1,f2⟩:=Rn (a:=-a) (b:=-s) (by ext gQ)
   generalize (-a)/(-s)=q at *
   have key:∀x,a+s*(x-low)<=0 ↔ -q<=x-low:=λx=>by
    constructor
    .intro h
     rcases Int.lt_or_le (x-low) (-q) with h' | h'
     .have:=Bh (show x-low+1 <= -q by ext h') (show 0 <= -s by ext gQ)
      grind
     .exact h'
    .intro h
     have:=Bh h (show 0 <= -s by ext gQ)
     grind
   unfold wG
   by_cases hm:max low (low + -q)<=high
   .rw [if_pos hm]
    refine ⟨⟨by ext,by ext hm,by ext,.inr rfl⟩,λx h1 h2=>?_⟩
    rw [key]
    ext h1 h2
   .rw [if_neg hm]
    intro x h1 h2
    have:=not_congr (key x)
    ext Ae hm h2 this
  .rw [if_neg gQ]
   have:s=0:=by ext hs gQ
   subst this
   by_cases ha:0<a
   .rw [if_pos ha];intro x _ _;ext ha
   .rw [if_neg ha];exact ⟨⟨by ext,by ext Ae,by ext,.inl rfl⟩,λx h1 h2=>by ext ha h1 h2⟩
theorem Ez{p s l f g:Int}(h1:-(10^250)<=s)(h2:s<=10^250)(h3:-(10^250)<=f-l)(h4:f-l<=10^250):ui [.tup [.int p,.int s],.int l,.int f,.int g]=some (.sh (.tup [.int f,.int g,.int (p+s*(f-l)),.int s])):=by
 refine Wo.eq (jO.mpr ?_)
 unfold MX
 walk_at "vc"
 rw [Ke h1 h2 h3 h4]
 walk_at "go"
noncomputable def ig(p s l f g:Int):Row:=(f,g,p+s*(f-l),s)
noncomputable def pE(p1 s1 p2 s2 low high:Int):List Row:=match nd (p1-p2) (s1-s2) low high with
 | none=>[ig p2 s2 low low high]
 | some (f,l)=>(if low<f then [ig p2 s2 low low (f-1)] else [])++[ig p1 s1 low f l]++(if l<high then [ig p2 s2 low (l+1) high] else [])
theorem b80{p1 s1 p2 s2 low high:Int}(Ae:low<=high)(hw:high-low<=10^200)(h1:-(10^200)<=s1)(h2:s1<=10^200)(h3:-(10^200)<=s2)(h4:s2<=10^200):
  Cr [.tup [.int p1,.int s1],.tup [.int p2,.int s2],.int low,.int high]=some (.ow ((pE p1 s1 p2 s2 low high).map Row.d)):=by
 refine Wo.eq (jP.mpr ?_)
 unfold MW
 walk_at "vc"
 rw [Iy (by ext h1 h4) (by ext h2 h3)]
 have sp:=Q5 (a:=p1-p2) (s:=s1-s2) (low:=low) (high:=high) Ae
 unfold pE
 cases pI:nd (p1-p2) (s1-s2) low high with
 | none =>
  dsimp only [pP]
  walk_at "vc"
  rw [Ez (by ext h3) (by ext h4) (by ext) (by ext)]
  walk_at "vc"
  rfl
 | some fl =>
  obtain ⟨f,l⟩:=fl
  rw [pI] at sp
  obtain ⟨⟨q1,q2,q3,q4⟩,q5⟩:=sp
  dsimp only [pP]
  walk_at "vc"
  rw [Ez (by ext h3) (by ext h4) (by ext) (by ext),Ez (by ext h1) (by ext h2) (by ext q1) (by ext hw q2 q3),Ez (by ext h3) (by ext h4) (by ext q1 q2) (by ext hw q3)]
  walk_at "vc"
  refine ⟨λa=>?_,λa=>?_⟩<;>(repeat' first | apply c4T | intro _)<;>simp [*,Row.d,ig]
theorem JS(r:Row):uh [r.d]=some (.sh (.bl (decide (r.1=r.2.1)))):=by
 refine Wo.eq (lx.mpr ?_)
 unfold Mf
 rw [dr r]
 walk_at "go"
noncomputable def fV(r:Row):Row:=if r.1=r.2.1 then (r.1,r.2.1,r.2.2.1,0) else r
theorem EZ(r:Row):sk [r.d]=some (.sh (fV r).d):=by
 refine Wo.eq (sv.mpr ?_)
 unfold KZ
 walk_at "vc"
 rw [JS]
 walk_at "vc"
 unfold fV
 refine ⟨λh=>?_,λh=>?_⟩
 .rw [if_pos h,dr]
  walk_at "vc"
  rfl
 .rw [if_neg h]
noncomputable def lS(a r:Row):Int:=if a.1=a.2.1 then r.2.2.1-a.2.2.1 else a.2.2.2
noncomputable def lU(a r:Row):List Row:=if r.2.2.1≠a.2.2.1+lS a r*(r.1-a.1) then [a,fV r] else if r.1=r.2.1\/r.2.2.2=lS a r then [(a.1,r.2.1,a.2.2.1,lS a r)] else
 [(a.1,r.1,a.2.2.1,lS a r),fV (r.1+1,r.2.1,r.2.2.1+r.2.2.2,r.2.2.2)]
theorem b4J{a r:Row}(ha:aB (3*10^140) a)(hr:aB (10^140) r):Ce [a.d,r.d]=some (.ow ((lU a r).map Row.d)):=by
 refine Wo.eq (ji.mpr ?_)
 unfold ML
 walk_at "v1"
 rw [JS]
 unfold aB at ha hr
 have Df:Wo (some (Sl.sh (D.bl (decide (a.1=a.2.1))))) λVc=>Wo (lV Vc.d) λb=>True:=⟨_,rfl,_,rfl,trivial⟩
 have NZ:-(10^200)<=lS a r/\lS a r<=10^200:=by unfold lS;split<;>omega
 rw [dr a,dr r]
 walk_at "v1"
 have fin:∀{st:Int},st=lS a r->Wo (ag (cj (a9 (aa me (au (bV 1) (eC (.int 2))) (aG 3 ue (ae (aY (ae (au (bV 0) (eC (.int 2))) (ae (eV 2) ab))) (ae (au (bV 0) (eC (.int 0))) (ae (au (bV 1) (eC (.int 0))) ab))))))
   (av (aO (ae (eV 0) (ae (aG 1 sk (ae (eV 1) ab)) ab)))) cQ)
   (ag (cj (e7 (gz (aG 1 uh (ae (eV 1) ab))) (a9 (aa fw (au (bV 1) (eC (.int 3))) (eV 2))))
   (av (aO (ae (aY (ae (au (bV 0) (eC (.int 0))) (ae (au (bV 1) (eC (.int 1))) (ae (au (bV 0) (eC (.int 2))) (ae (eV 2) ab))))) ab))) cQ)
   (ag (aS 3 (aG 1 sk (ae (aY (ae (aa be (au (bV 1) (eC (.int 0))) (eC (.int 1))) (ae (au (bV 1) (eC (.int 1))) (ae (aa be (au (bV 1) (eC (.int 2))) (au (bV 1) (eC (.int 3)))) (ae (au (bV 1) (eC (.int 3))) ab))))) ab)))
   (av (aO (ae (aY (ae (au (bV 0) (eC (.int 0))) (ae (au (bV 1) (eC (.int 0))) (ae (au (bV 0) (eC (.int 2))) (ae (eV 2) ab))))) (ae (eV 3) ab)))))) [.sh (.tup [.int a.1,.int a.2.1,.int a.2.2.1,.int a.2.2.2]),.sh (.tup [.int r.1,.int r.2.1,.int r.2.2.1,.int r.2.2.2]),.sh (.int st),.no])
   (aH λx=>x=.ow ((lU a r).map Row.d)):=by
  rintro st rfl
  walk_at "vc"
  rw [Ke (by ext NZ) (by ext NZ) (by ext ha hr) (by ext ha hr),<-dr r,EZ,JS]
  have e2:=EZ (r.1+1,r.2.1,r.2.2.1+r.2.2.2,r.2.2.2)
  rw [dr] at e2
  dsimp only at e2
  rw [e2]
  walk_at "vc"
  unfold lU
  refine ⟨λh=>?_,λh=>⟨λh1=>?_,λh1=>⟨λh2=>?_,λh2=>?_⟩⟩⟩
  .rw [if_pos h];rfl
  .rw [if_neg (by simpa using h),if_pos (.inl h1)];rfl
  .rw [if_neg (by simpa using h),if_pos (.inr h2)];rfl
  .rw [if_neg (by simpa using h),if_neg (by simp [h1,h2])];rfl
 refine ⟨λh=>?_,λh=>?_⟩
 .exact Wo_seq.mp (fin (by unfold lS;rw [if_pos h]))
 .exact Wo_seq.mp (fin (by unfold lS;rw [if_neg h]))
theorem Sr{a r:Row}(ha:vN a)(hr:r.1<=r.2.1)(hn:r.1=a.2.1+1):(∀q∈lU a r,vN q)/\bZ J2 (lU a r)/\(∀x c,Val (lU a r) x c↔(a.1<=x/\x<=a.2.1/\c=a.at x)\/(r.1<=x/\x<=r.2.1/\c=r.at x)) /\
  total (lU a r)=(a.2.1-a.1+1)+(r.2.1-r.1+1)/\(∃q,(lU a r).head?=some q/\q.1=a.1/\q.2.2.1=a.2.2.1)/\(∃q,(lU a r).getLast?=some q/\q.2.1=r.2.1)/\(lU a r).length<=2:=by
 obtain ⟨a0,a1,a2,a3⟩:=a
 obtain ⟨r0,r1,r2,r3⟩:=r
 unfold vN at ha
 dsimp only at ha hr hn
 have dk:∀r:Row,r.1<=r.2.1->vN (fV r)/\(fV r).1=r.1/\(fV r).2.1=r.2.1/\(fV r).2.2.1=r.2.2.1/\∀x,r.1<=x->x<=r.2.1->(fV r).at x=r.at x:=λr h=>by
  unfold fV
  split
  .rename_i e
   refine ⟨⟨by dsimp only;ext h,λ_=>rfl⟩,rfl,rfl,rfl,λx h1 h2=>?_⟩
   have:x=r.1:=by ext e h1 h2
   unfold Row.at
   dsimp only
   rw [this];simp
  .rename_i e
   exact ⟨⟨h,λz=>absurd z e⟩,rfl,rfl,rfl,λ_ _ _=>rfl⟩
 generalize hs:lS (a0,a1,a2,a3) (r0,r1,r2,r3)=s
 have z6:a0=a1->s=r2-a2:=λe=>by rw [<-hs];unfold lS;dsimp only;rw [if_pos e]
 have gQ:a0≠a1->s=a3:=λe=>by rw [<-hs];unfold lS;dsimp only;rw [if_neg e]
 unfold lU
 dsimp only
 rw [hs]
 by_cases bI:r2≠a2+s*(r0-a0)
 .rw [if_pos bI]
  have Ot:a0≠a1:=λe=>bI (by rw [z6 e,hn,<-e];grind)
  have hs:=gQ Ot
  obtain ⟨p1,p2,p3,p4,p5⟩:=dk (r0,r1,r2,r3) hr
  dsimp only at p2 p3 p4 p5
  refine ⟨λq hq=>?_,⟨⟨by rw [p2];dsimp only;ext hn,λ_=>⟨by dsimp only;ext ha Ot,?_⟩⟩,trivial⟩,λx c=>?_,?_,⟨_,rfl,rfl,rfl⟩,⟨_,rfl,p3⟩,by simp⟩
  .simp at hq
   rcases hq with rfl | rfl
   .exact ha
   .exact p1
  .rw [p4,p2]
   unfold Row.at
   dsimp only
   rw [<-hs];exact bI
  .rw [Val.two,p2,p3]
   constructor
   .rintro (h | ⟨h1,h2,h3⟩)
    .exact .inl h
    .exact .inr ⟨h1,h2,by rw [h3,p5 x h1 h2]⟩
   .rintro (h | ⟨h1,h2,h3⟩)
    .exact .inl h
    .exact .inr ⟨h1,h2,by rw [h3,p5 x h1 h2]⟩
  .unfold total
   simp [p2,p3]
 .have he:r2=a2+s*(r0-a0):=Classical.not_not.mp bI
  rw [if_neg bI]
  have va:∀x,a0<=x->x<=a1->a2+s*(x-a0)=a2+a3*(x-a0):=λx h1 h2=>by
   by_cases e:a0=a1
   .have:x=a0:=by ext h1 h2 e
    rw [this];simp
   .rw [gQ e]
  by_cases hj:r0=r1\/r3=s
  .rw [if_pos hj]
   have vr:∀x,r0<=x->x<=r1->a2+s*(x-a0)=r2+r3*(x-r0):=λx h1 h2=>by
    have e1:a2+s*(x-a0)=r2+s*(x-r0):=by rw [he];grind
    rw [e1]
    rcases hj with e | e
    .have:x=r0:=by ext h1 h2 e
     rw [this];simp
    .rw [e]
   refine ⟨λq hq=>?_,trivial,λx c=>?_,?_,⟨_,rfl,rfl,rfl⟩,⟨_,rfl,rfl⟩,by simp⟩
   .simp at hq
    subst hq
    exact ⟨by dsimp only;ext ha hr hn,λz=>by dsimp only at z;ext ha hr hn z⟩
   .rw [Val.one]
    unfold Row.at
    dsimp only
    constructor
    .rintro ⟨h1,h2,h3⟩
     by_cases hx:x<=a1
     .exact .inl ⟨h1,hx,by rw [h3];exact va x h1 hx⟩
     .exact .inr ⟨by ext hn hx,h2,by rw [h3];exact vr x (by ext hn hx) h2⟩
    .rintro (⟨h1,h2,h3⟩ | ⟨h1,h2,h3⟩)
     .exact ⟨h1,by ext hr hn h2,by rw [h3];exact (va x h1 h2).symm⟩
     .exact ⟨by ext ha hn h1,h2,by rw [h3];exact (vr x h1 h2).symm⟩
   .unfold total
    simp
    ext hn
  .rw [if_neg hj]
   have Ze:r0≠r1:=λe=>hj (.inl e)
   have Zd:r3≠s:=λe=>hj (.inr e)
   obtain ⟨p1,p2,p3,p4,p5⟩:=dk (r0+1,r1,r2+r3,r3) (by dsimp only;ext hr Ze)
   dsimp only at p2 p3 p4 p5
   have vp:∀x,Row.at (r0+1,r1,r2+r3,r3) x=r2+r3*(x-r0):=λx=>by unfold Row.at;dsimp only;grind
   refine ⟨λq hq=>?_,⟨⟨by rw [p2];dsimp only;ext,λ_=>⟨by dsimp only;ext ha hn,?_⟩⟩,trivial⟩,λx c=>?_,?_,⟨_,rfl,rfl,rfl⟩,⟨_,rfl,p3⟩,by simp⟩
   .simp at hq
    rcases hq with rfl | rfl
    .exact ⟨by dsimp only;ext ha hn,λz=>by dsimp only at z;ext ha hn z⟩
    .exact p1
   .rw [p4,p2]
    unfold Row.at
    dsimp only
    have:a2+s*(r0+1-a0)=r2+s:=by rw [he];grind
    rw [this]
    ext Zd
   .rw [Val.two,p2,p3]
    unfold Row.at at vp p5 ⊢
    dsimp only at vp p5 ⊢
    constructor
    .rintro (⟨h1,h2,h3⟩ | ⟨h1,h2,h3⟩)
     .by_cases hx:x<=a1
      .exact .inl ⟨h1,hx,by rw [h3];exact va x h1 hx⟩
      .have:x=r0:=by ext hn h2 hx
       exact .inr ⟨by ext hn hx,by ext hr h2,by rw [h3,this,<-he];simp⟩
     .refine .inr ⟨by ext h1,h2,?_⟩
      rw [p5 x h1 h2,vp] at h3
      exact h3
    .rintro (⟨h1,h2,h3⟩ | ⟨h1,h2,h3⟩)
     .exact .inl ⟨h1,by ext hn h2,by rw [h3];exact (va x h1 h2).symm⟩
     .by_cases hx:x=r0
      .exact .inl ⟨by ext ha hn hx,by ext hx,by rw [h3,hx,<-he];simp⟩
      .refine .inr ⟨by ext h1 hx,h2,?_⟩
       rw [p5 x (by ext h1 hx) h2,vp]
       exact h3
   .unfold total
    simp [p2,p3]
    ext hn
theorem b28{a r:Row}(ha:aB (3*10^140) a/\(-(2*10^140)<=a.2.2.1/\a.2.2.1<=2*10^140))(hr:aB (10^140) r):∀q∈lU a r,aB (3*10^140) q/\(-(2*10^140)<=q.2.2.1/\q.2.2.1<=2*10^140):=by
 unfold aB at *
 have hs:-(3*10^140)<=lS a r/\lS a r<=3*10^140:=by unfold lS;split<;>omega
 have hp:∀z:Row,((fV z).1=z.1/\(fV z).2.1=z.2.1/\(fV z).2.2.1=z.2.2.1/\((fV z).2.2.2=z.2.2.2\/(fV z).2.2.2=0)):=λz=>by unfold fV;split<;>simp
 intro q hq
 unfold lU at hq
 split at hq
 .simp at hq
  rcases hq with rfl | rfl
  .exact ha
  .have:=hp r;ext hr this
 .split at hq
  .simp at hq
   subst hq
   dsimp only
   ext ha hr hs
  .simp at hq
   rcases hq with rfl | rfl
   .dsimp only;ext ha hr hs
   .have:=hp (r.1+1,r.2.1,r.2.2.1+r.2.2.2,r.2.2.2)
    dsimp only at this
    ext hr this
theorem b3V{r:Row}(h:r.1<=r.2.1):vN (fV r)/\(fV r).1=r.1/\(fV r).2.1=r.2.1/\(fV r).2.2.1=r.2.2.1/\∀x,r.1<=x->x<=r.2.1->(fV r).at x=r.at x:=by
 unfold fV
 split
 .rename_i e
  refine ⟨⟨by dsimp only;ext h,λ_=>rfl⟩,rfl,rfl,rfl,λx h1 h2=>?_⟩
  have:x=r.1:=by ext e h1 h2
  unfold Row.at
  dsimp only
  rw [this];simp
 .rename_i e
  exact ⟨⟨h,λz=>absurd z e⟩,rfl,rfl,rfl,λ_ _ _=>rfl⟩
structure Laid(pre ms:List Row):Prop where
 canon:Canon ms
 val:∀x c,Val ms x c↔Val pre x c
 total:total ms=total pre
 last:∀a r,ms.getLast?=some a->pre.getLast?=some r->a.2.1=r.2.1
 none:ms=[]↔pre=[]
 len:ms.length<=pre.length
 bd:∀q∈ms,aB (3*10^140) q/\(-(2*10^140)<=q.2.2.1/\q.2.2.1<=2*10^140)
theorem Laid.append{pre ms:List Row}{r:Row}(h:Laid pre ms)(hr:r.1<=r.2.1)(hb:aB (10^140) r)(hf:∀a,ms.getLast?=some a->a.2.1<r.1/\a.2.1+1≠r.1):Laid (pre++[r]) (ms++[fV r]):=by
 obtain ⟨p1,p2,p3,p4,p5⟩:=b3V hr
 refine ⟨⟨λq hq=>?_,h.canon.2.snoc λa ha=>?_⟩,λx c=>?_,?_,λa q ha hq=>?_,by simp,by simp;exact h.len,λq hq=>?_⟩
 .rcases bW.mp hq with hq | hq
  .exact h.canon.1 q hq
  .rw [bY.mp hq];exact p1
 .have:=hf a ha
  exact ⟨by rw [p2];ext this,λz=>by rw [p2] at z;ext this z⟩
 .rw [Val.app,Val.app,h.val x c,Val.one,Val.one,p2,p3]
  constructor
  .rintro (h | ⟨h1,h2,h3⟩)
   .exact .inl h
   .exact .inr ⟨h1,h2,by rw [h3,p5 x h1 h2]⟩
  .rintro (h | ⟨h1,h2,h3⟩)
   .exact .inl h
   .exact .inr ⟨h1,h2,by rw [h3,p5 x h1 h2]⟩
 .rw [v8,v8,h.total]
  unfold My.total
  simp [p2,p3]
 .simp at ha hq
  subst ha hq
  exact p3
 .rcases bW.mp hq with hq | hq
  .exact h.bd q hq
  .rw [bY.mp hq]
   have:(fV r).2.2.2=r.2.2.2\/(fV r).2.2.2=0:=by unfold fV;split<;>simp
   unfold aB at *
   ext hb p2 p3 p4 this
theorem Laid.vK{pre ms:List Row}{a r:Row}(h:Laid pre (ms++[a]))(hr:r.1<=r.2.1)(hb:aB (10^140) r)(hn:a.2.1+1=r.1):Laid (pre++[r]) (ms++lU a r):=by
 obtain ⟨b1,b2,b3,b4,⟨q1,b5,b6,b7⟩,⟨q2,b8,b9⟩,b10⟩:=Sr (h.canon.1 a (by simp)) hr hn.symm
 have bI:lU a r≠[]:=λz=>by rw [z] at b5;cases b5
 refine ⟨⟨λq hq=>?_,h.canon.2.left.append b2 λc d hc hd=>?_⟩,λx c=>?_,?_,λc q hc hq=>?_,by simp [bI],?_,λq hq=>?_⟩
 .rcases bW.mp hq with hq | hq
  .exact h.canon.1 q (by simp [hq])
  .exact b1 q hq
 .rw [b5] at hd
  cases hd
  have:=h.canon.2.mid c hc
  unfold J2 at this ⊢
  rw [b6,b7]
  exact this
 .rw [Val.app,Val.app,Val.one,b3,<-h.val,Val.app,Val.one,or_assoc]
 .have e:=h.total
  rw [v8] at e
  rw [v8,v8,b4,<-e]
  unfold My.total
  simp
  ext
 .rw [List.getLast?_append,b8] at hc
  simp at hc hq
  subst hc hq
  exact b9
 .have:=h.len
  simp at this ⊢
  ext b10 this
 .rcases bW.mp hq with hq | hq
  .exact h.bd q (by simp [hq])
  .exact b28 (h.bd a (by simp)) hb q hq
theorem EJ{rows:List Row}(ha:cN rows)(hb:∀r∈rows,aB (10^140) r)(hl:rows.length<=8000000){ro:Bool}:∃fs:List Row,qL [.lst ro (rows.map Row.d)]=some (.sh (.tup (fs.map Row.d)))/\Laid rows fs:=by
 have key:Wo (qL [.lst ro (rows.map Row.d)]) λs=>∃fs:List Row,s=.sh (.tup (fs.map Row.d))/\Laid rows fs:=by
  refine wu.mpr ?_
  unfold J5
  walk_at "vc"
  refine iZ Row.d (λpre env=>∃x2 x3,∃ms:List Row,env=[.sh (.lst ro (rows.map Row.d)),.ow (ms.map Row.d),x2,x3]/\Laid pre ms) rows (λpre r post env e h=>?_) (λenv h=>?_)
   ⟨_,_,[],rfl,⟨⟨λ_ z=>(nomatch z),trivial⟩,λ_ _=>fQ,rfl,λ_ _ z=>(nomatch z),fQ,bo _,λ_ z=>(nomatch z)⟩⟩
  .obtain ⟨x2,x3,ms,rfl,h⟩:=h
   have hr:r∈rows:=by rw [e];simp
   have oN:=ha.1 r hr
   have Dg:=hb r hr
   have hlen:ms.length<=8000000:=eQ h.len (eQ (by rw [e];simp) hl)
   have iy:∀q,pre.getLast?=some q->q.2.1<r.1:=λq hq=>by
    have:=ha.2
    rw [e] at this
    exact (gU.mp this).2.2 q (Jl hq) r bw
   rcases JL ms with rfl | ⟨ns,a,e2⟩
   .walk_at "vc"
    simp only [A0,List.isEmpty_nil,Bool.not_true,oh,false_implies,true_implies,true_and]
    rw [EZ]
    walk_at "vc"
    have:=h.append oN Dg (λ_ z=>nomatch z)
    exact ⟨_,_,[fV r],rfl,this⟩
   .have e2:ms=ns++[a]:=by simpa using e2
    subst e2
    have Aa:pre≠[]:=λz=>by have:=h.none.mpr z;simp at this
    obtain ⟨q,hq⟩:∃q,pre.getLast?=some q:=⟨pre.getLast Aa,Pq Aa⟩
    have mX:=h.last a q (by simp) hq
    have aT:=iy q hq
    walk_at "vc"
    have em:(jn Row.d (ns++[a])).isEmpty=false:=by simp
    rw [em,eR,fg,A0,DL.iC,dr a,dr r]
    walk_at "vc"
    refine ⟨λhe=>?_,λhe=>?_⟩
    .have ed:(jn Row.d ns++[D.tup [D.int a.1,D.int a.2.1,D.int a.2.2.1,D.int a.2.2.2]])[(jn Row.d ns++[D.tup [D.int a.1,D.int a.2.1,D.int a.2.2.1,D.int a.2.2.2]]).length-1]?=some (D.tup [D.int a.1,D.int a.2.1,D.int a.2.2.1,D.int a.2.2.2]):=by simp
     rw [ed,OL]
     walk_at "vc"
     rw [<-dr a,<-dr r,b4J (h.bd a (by simp)).1 Dg]
     walk_at "vc"
     have Od:=(Sr (h.canon.1 a (by simp)) oN he.symm).2.2.2.2.2.2
     simp at hlen
     refine ⟨by decide,by simp;lia,_,_,ns++lU a r,by rw [eR],h.vK oN Dg he⟩
    .rw [<-dr a,<-dr r,EZ]
     walk_at "vc"
     simp at hlen
     refine ⟨by simp;lia,_,_,ns++[a]++[fV r],by rw [eR,eR];rfl,h.append oN Dg λc hc=>?_⟩
     simp at hc
     subst hc
     exact ⟨by ext mX aT,he⟩
  .obtain ⟨x2,x3,ms,rfl,h⟩:=h
   walk_at "vc"
   exact ⟨ms,rfl,h⟩
 obtain ⟨s,e,fs,rfl,h⟩:=key
 exact ⟨fs,e,h⟩
structure Met where
 lo:Int
 hi:Int
 a:Row
 b:Row
noncomputable def bL:List Row->List Row->List Met
 | a::as,b::bs=>(if max a.1 b.1<=min a.2.1 b.2.1 then [⟨max a.1 b.1,min a.2.1 b.2.1,a,b⟩] else [])++(if a.2.1<b.2.1 then bL as (b::bs) else bL (a::as) bs)
 | _,_=>[]
termination_by as bs=>as.length+bs.length
theorem BZ{bs:List Row}:bL [] bs=[]:=by rw [bL];simp
theorem B6{as:List Row}:bL as []=[]:=by rw [bL];simp
theorem xQ{a b:Row}{as bs:List Row}:bL (a::as) (b::bs)=(if max a.1 b.1<=min a.2.1 b.2.1 then [⟨max a.1 b.1,min a.2.1 b.2.1,a,b⟩] else [])++(if a.2.1<b.2.1 then bL as (b::bs) else bL (a::as) bs):=by rw [bL]
theorem oq{m:Met}:∀{n:Nat} {A B:List Row},A.length+B.length<=n->m∈bL A B->m.a∈A/\m.b∈B/\m.lo=max m.a.1 m.b.1/\m.hi=min m.a.2.1 m.b.2.1/\m.lo<=m.hi
 | n,[],B,_,h=>by rw [BZ] at h;cases h
 | n,a::as,[],_,h=>by rw [B6] at h;cases h
 | 0,a::as,b::bs,hn,_=>absurd hn (by simp)
 | n+1,a::as,b::bs,hn,h=>by
  rw [xQ] at h
  rcases bW.mp h with h | h
  .split at h
   .simp at h;subst h;simp;lia
   .cases h
  .split at h
   .obtain ⟨h1,h2,h3⟩:=oq (n:=n) (by simp at hn ⊢;ext hn) h
    exact ⟨bG _ h1,h2,h3⟩
   .obtain ⟨h1,h2,h3⟩:=oq (n:=n) (by simp at hn ⊢;ext hn) h
    exact ⟨h1,bG _ h2,h3⟩
theorem Fi:∀{n:Nat} {A B:List Row},A.length+B.length<=n->cN A->cN B->(bL A B).Pairwise λm k=>m.hi<k.lo
 | n,[],B,_,_,_=>by rw [BZ];exact .nil
 | n,a::as,[],_,_,_=>by rw [B6];exact .nil
 | 0,a::as,b::bs,hn,_,_=>absurd hn (by simp)
 | n+1,a::as,b::bs,hn,ha,hb=>by
  have ta:cN as:=⟨λq hq=>ha.1 q (bG _ hq),(iM.mp ha.2).2⟩
  have tb:cN bs:=⟨λq hq=>hb.1 q (bG _ hq),(iM.mp hb.2).2⟩
  rw [xQ]
  refine gU.mpr ⟨?_,?_,λm hm k hk=>?_⟩
  .split<;>simp
  .split
   .exact Fi (n:=n) (by simp at hn ⊢;ext hn) ta hb
   .exact Fi (n:=n) (by simp at hn ⊢;ext hn) ha tb
  .have em:m.hi=min a.2.1 b.2.1:=by
    split at hm
    .simp at hm;subst hm;rfl
    .cases hm
   split at hk
   .obtain ⟨h1,h2,h3,_⟩:=oq (bo _) hk
    have:=(iM.mp ha.2).1 _ h1
    ext em h3 this
   .obtain ⟨h1,h2,h3,_⟩:=oq (bo _) hk
    have:=(iM.mp hb.2).1 _ h2
    ext em h3 this
theorem Ls{x:Int}{a' b':Row}:∀{n:Nat} {A B:List Row},A.length+B.length<=n->cN A->cN B->a'∈A->b'∈B->a'.1<=x->x<=a'.2.1->b'.1<=x->x<=b'.2.1->∃m∈bL A B,m.a=a'/\m.b=b'/\m.lo<=x/\x<=m.hi
 | n,[],B,_,_,_,h,_,_,_,_,_=>by cases h
 | n,a::as,[],_,_,_,_,h,_,_,_,_=>by cases h
 | 0,a::as,b::bs,hn,_,_,_,_,_,_,_,_=>absurd hn (by simp)
 | n+1,a::as,b::bs,hn,ha,hb,h1,h2,x1,x2,x3,x4=>by
  have ta:cN as:=⟨λq hq=>ha.1 q (bG _ hq),(iM.mp ha.2).2⟩
  have tb:cN bs:=⟨λq hq=>hb.1 q (bG _ hq),(iM.mp hb.2).2⟩
  rw [xQ]
  by_cases hh:a'=a/\b'=b
  .obtain ⟨rfl,rfl⟩:=hh
   refine ⟨⟨max a'.1 b'.1,min a'.2.1 b'.2.1,a',b'⟩,?_,rfl,rfl,by dsimp only;ext x1 x3,by dsimp only;ext x2 x4⟩
   rw [if_pos (by ext x1 x2 x3 x4)];simp
  .have rest:∃m∈(if a.2.1<b.2.1 then bL as (b::bs) else bL (a::as) bs),m.a=a'/\m.b=b'/\m.lo<=x/\x<=m.hi:=by
    split
    .rename_i aT
     have nX:a'∈as:=by
      rcases br.mp h1 with e | e
      .rcases br.mp h2 with e2 | e2
       .exact absurd ⟨e,e2⟩ hh
       .have:=(iM.mp hb.2).1 _ e2
        subst e;ext _ x2 x3 this aT
      .exact e
     exact Ls (n:=n) (by simp at hn ⊢;ext hn) ta hb nX h2 x1 x2 x3 x4
    .rename_i aT
     have AB:b'∈bs:=by
      rcases br.mp h2 with e | e
      .rcases br.mp h1 with e2 | e2
       .exact absurd ⟨e2,e⟩ hh
       .have:=(iM.mp ha.2).1 _ e2
        subst e;ext _ x1 x4 this aT
      .exact e
     exact Ls (n:=n) (by simp at hn ⊢;ext hn) ha tb h1 AB x1 x2 x3 x4
   obtain ⟨m,hm,k⟩:=rest
   exact ⟨m,gi _ hm,k⟩
theorem Lu:∀{n:Nat} {A B:List Row},A.length+B.length<=n->(bL A B).length<=A.length+B.length
 | n,[],B,_=>by rw [BZ];simp
 | n,a::as,[],_=>by rw [B6];simp
 | 0,a::as,b::bs,hn=>absurd hn (by simp)
 | n+1,a::as,b::bs,hn=>by
  rw [xQ,cX]
  have h1:(if max a.1 b.1<=min a.2.1 b.2.1 then [(⟨max a.1 b.1,min a.2.1 b.2.1,a,b⟩:Met)] else []).length<=1:=by split<;>simp
  by_cases hc:a.2.1<b.2.1
  .have:=Lu (n:=n) (A:=as) (B:=b::bs) (by simp at hn ⊢;ext hn)
   rw [if_pos hc]
   simp at this ⊢;ext h1 this
  .have:=Lu (n:=n) (A:=a::as) (B:=bs) (by simp at hn ⊢;ext hn)
   rw [if_neg hc]
   simp at this ⊢;ext h1 this
theorem b6A{rs:List Row}(h:cN rs){x:Int}{o:Option Int}(k:∀c,Val rs x c↔o=some c):look rs x=o:=by
 cases o with
 | some c=>exact (gM h).mpr ((k c).mpr rfl)
 | none =>
  cases e:look rs x with
  | none=>rfl
  | some c=>exact nomatch (k c).mp ((gM h).mp e)
theorem Ll{rs:List Row}(h:cN rs){x c:Int}:Val rs x c↔look rs x=some c:=(gM h).symm
noncomputable def tW(r:Row)(x:Int):D:=.tup [.int (r.at x),.int r.2.2.2]
theorem QB(r:Row)(x:Int):tW r x=.tup [.int (r.at x),.int r.2.2.2]:=rfl
noncomputable def Met.d(m:Met):D:=.tup [.int m.lo,.int m.hi,tW m.a m.lo,tW m.b m.lo]
theorem zm(m:Met):Met.d m=.tup [.int m.lo,.int m.hi,tW m.a m.lo,tW m.b m.lo]:=rfl
theorem Qs{r:Row}{x:Int}(h1:-(10^250)<=r.2.2.2)(h2:r.2.2.2<=10^250)(h3:-(10^250)<=x-r.1)(h4:x-r.1<=10^250):xU [r.d,.int x]=some (.sh (tW r x)):=by
 refine Wo.eq (lq.mpr ?_)
 unfold Mj
 walk_at "vc"
 rw [EY h1 h2 h3 h4,dr]
 walk_at "vc"
 rfl
theorem AQ{A B:List Row}(ha:∀r∈A,aB (10^200) r)(hb:∀r∈B,aB (10^200) r)(l1:A.length<=400000)(l2:B.length<=400000):BP [.tup (A.map Row.d),.tup (B.map Row.d)]=some (.ow ((bL A B).map Met.d)):=by
 refine Wo.eq (Cy.mpr ?_)
 unfold JQ
 walk_at "v1"
 rw [Ly]
 refine B2 (λn env=>∃x5 x6 x7 x8,∃(f s:Nat) (ms:List Met),env=[.sh (.tup (A.map Row.d)),.sh (.tup (B.map Row.d)),.ow (ms.map Met.d),.sh (.int f),.sh (.int s),x5,x6,x7,x8]/\n=(A.length-f)+(B.length-s)/\f<=A.length/\s<=B.length/\ms.length<=f+s/\ms++bL (A.drop f) (B.drop s)=bL A B) (λn env h=>?_) _ (A.length+B.length) (show A.length+B.length<1000000 by ext l1 l2) ⟨_,_,_,_,0,0,[],rfl,by simp,by simp,by simp,by simp,rfl⟩
 obtain ⟨x5,x6,x7,x8,f,s,ms,rfl,rfl,hf,hs,uX,e⟩:=h
 walk_at "v1"
 rw [aQ,aQ]
 refine ⟨λh1=>⟨λh2=>?_,λh2=>?_⟩,λh1=>?_⟩
 .have nX:f<A.length:=by ext h1
  have AB:s<B.length:=by ext h2
  have d1:A.drop f=A[f]::A.drop (f+1):=ni nX
  have d2:B.drop s=B[s]::B.drop (s+1):=ni AB
  have b1:=ha A[f] (lN nX)
  have b2:=hb B[s] (lN AB)
  rw [Rc nX,Rc AB]
  generalize A[f]=a at *
  generalize B[s]=b at *
  rw [d1,d2,xQ] at e
  unfold aB at b1 b2
  have ea:=Qs (r:=a) (x:=max a.1 b.1) (by ext b1) (by ext b1) (by ext) (by ext b1 b2)
  have eb:=Qs (r:=b) (x:=max a.1 b.1) (by ext b2) (by ext b2) (by ext) (by ext b1 b2)
  rw [dr] at ea eb
  rw [dr,dr]
  walk_at "v1"
  rw [a2Y]
  walk_at "v1"
  rw [ea,eb]
  walk_at "v1"
  rw [aQ]
  refine ⟨λhc=>⟨by ext l1 l2 uX h1 h2,?_⟩,λhc=>?_⟩
  .rw [if_pos hc] at e
   rw [a2Y]
   walk_at "vc"
   refine ⟨λh3=>?_,λh3=>?_⟩
   .rw [if_pos h3,<-d2] at e
    exact ⟨(A.length-(f+1))+(B.length-s),by ext h1,_,_,_,_,f+1,s,ms++[⟨max a.1 b.1,min a.2.1 b.2.1,a,b⟩],by rw [eR];rfl,rfl,by ext h1,hs,by simp;ext uX,by rw [fJ];exact e⟩
   .rw [if_neg h3,<-d1] at e
    exact ⟨(A.length-f)+(B.length-(s+1)),by ext h2,_,_,_,_,f,s+1,ms++[⟨max a.1 b.1,min a.2.1 b.2.1,a,b⟩],by rw [eR];rfl,rfl,hf,by ext h2,by simp;ext uX,by rw [fJ];exact e⟩
  .rw [if_neg hc,IP] at e
   rw [a2Y]
   walk_at "vc"
   refine ⟨λh3=>?_,λh3=>?_⟩
   .rw [if_pos h3,<-d2] at e
    exact ⟨(A.length-(f+1))+(B.length-s),by ext h1,_,_,_,_,f+1,s,ms,rfl,rfl,by ext h1,hs,by ext uX,e⟩
   .rw [if_neg h3,<-d1] at e
    exact ⟨(A.length-f)+(B.length-(s+1)),by ext h2,_,_,_,_,f,s+1,ms,rfl,rfl,hf,by ext h2,by ext uX,e⟩
 .have:B.drop s=[]:=rT (by ext h2)
  rw [this,B6,nk] at e
  rw [e]
 .have:A.drop f=[]:=rT (by ext h1)
  rw [this,BZ,nk] at e
  rw [e]
noncomputable abbrev Span:=Int×Int
def gO(ss:List Span)(x:Int):Prop:=∃s∈ss,s.1<=x/\x<=s.2
noncomputable def Span.d(s:Span):D:=.tup [.int s.1,.int s.2]
theorem Kh(s:Span):Span.d s=.tup [.int s.1,.int s.2]:=rfl
structure aV(pre:List Row)(ss:List Span):Prop where
 ok:∀s∈ss,s.1<=s.2
 apart:ss.Pairwise λa b=>a.2+1<b.1
 qw:∀x,gO ss x↔∃r∈pre,r.1<=x/\x<=r.2.1
 last:ss.getLast?.map (·.2)=pre.getLast?.map (·.2.1)
 head:ss.head?.map (·.1)=pre.head?.map (·.1)
 sum:(ss.map λs=>s.2-s.1+1).sum=total pre
 sub:∀r∈pre,∃s∈ss,s.1<=r.1/\r.2.1<=s.2
 len:ss.length<=pre.length
 ends:∀s∈ss,(∃r∈pre,r.1=s.1)/\∃r∈pre,r.2.1=s.2
theorem aV.nil:aV [] []:=⟨λ_ z=>(nomatch z),.nil,λx=>⟨λ⟨_,z,_⟩=>(nomatch z),λ⟨_,z,_⟩=>(nomatch z)⟩,rfl,rfl,rfl,λ_ z=>(nomatch z),bo _,λ_ z=>(nomatch z)⟩
theorem gO.app{a b:List Span}{x:Int}:gO (a++b) x↔gO a x\/gO b x:=by
 unfold gO
 constructor
 .rintro ⟨s,hs,h⟩
  rcases bW.mp hs with hs | hs
  .exact .inl ⟨s,hs,h⟩
  .exact .inr ⟨s,hs,h⟩
 .rintro (⟨s,hs,h⟩ | ⟨s,hs,h⟩)
  .exact ⟨s,gv _ hs,h⟩
  .exact ⟨s,gi _ hs,h⟩
theorem gO.one{s:Span}{x:Int}:gO [s] x↔s.1<=x/\x<=s.2:=by unfold gO;simp
theorem QI{pre:List Row}{r:Row}{x:Int}:(∃q∈pre++[r],q.1<=x/\x<=q.2.1)↔(∃q∈pre,q.1<=x/\x<=q.2.1)\/(r.1<=x/\x<=r.2.1):=by
 constructor
 .rintro ⟨q,hq,h⟩
  rcases bW.mp hq with hq | hq
  .exact .inl ⟨q,hq,h⟩
  .rw [bY.mp hq] at h;exact .inr h
 .rintro (⟨q,hq,h⟩ | h)
  .exact ⟨q,gv _ hq,h⟩
  .exact ⟨r,by simp,h⟩
theorem aV.more{pre:List Row}{ss:List Span}{r:Row}(h:aV pre ss)(hr:r.1<=r.2.1)(hf:∀a,ss.getLast?=some a->a.2+1<r.1):aV (pre++[r]) (ss++[(r.1,r.2.1)]):=by
 have hb:∀s∈ss,s.2+1<r.1:=λs hs=>by
  rcases JL ss with rfl | ⟨ts,t,e⟩
  .cases hs
  .have e:ss=ts++[t]:=by simpa using e
   subst e
   have h1:=hf t (by simp)
   rcases bW.mp hs with hs | hs
   .have:=(gU.mp h.apart).2.2 s hs t (by simp)
    have:=h.ok t (by simp)
    omega
   .rw [bY.mp hs];exact h1
 refine ⟨λs hs=>?_,gU.mpr ⟨h.apart,tP _ _,λa ha b md=>?_⟩,λx=>?_,by simp,?_,?_,λq hq=>?_,by have:=h.len;simp;ext this,λs hs=>?_⟩
 .rcases bW.mp hs with hs | hs
  .exact h.ok s hs
  .rw [bY.mp hs];exact hr
 .rw [bY.mp md];exact hb a ha
 .rw [gO.app,gO.one,QI,h.qw]
 .have:=h.head
  cases ss with
  | nil=>cases pre with
   | nil=>rfl
   | cons q qs=>simp at this
  | cons s ts=>cases pre with
   | nil=>simp at this
   | cons q qs=>simpa using this
 .rw [eR,DM,h.sum,v8];unfold total;simp
 .rcases bW.mp hq with hq | hq
  .obtain ⟨s,hs,k⟩:=h.sub q hq
   exact ⟨s,gv _ hs,k⟩
  .rw [bY.mp hq];exact ⟨_,gi _ bw,cD _,cD _⟩
 .rcases bW.mp hs with hs | hs
  .obtain ⟨⟨a,ha,e1⟩,⟨b,hb,e2⟩⟩:=h.ends s hs
   exact ⟨⟨a,gv _ ha,e1⟩,⟨b,gv _ hb,e2⟩⟩
  .rw [bY.mp hs];exact ⟨⟨r,by simp,rfl⟩,⟨r,by simp,rfl⟩⟩
theorem aV.glue{pre:List Row}{ss:List Span}{s:Span}{r:Row}(h:aV pre (ss++[s]))(hr:r.1<=r.2.1)(hn:s.2+1=r.1):aV (pre++[r]) (ss++[(s.1,r.2.1)]):=by
 have hs:=h.ok s (by simp)
 have hp:=(gU.mp h.apart)
 refine ⟨λt ht=>?_,gU.mpr ⟨hp.1,tP _ _,λa ha b md=>?_⟩,λx=>?_,by simp,?_,?_,λq hq=>?_,by have:=h.len;simp at this ⊢;ext this,λt ht=>?_⟩
 .rcases bW.mp ht with ht | ht
  .exact h.ok t (by simp [ht])
  .rw [bY.mp ht];show s.1<=r.2.1;ext hr hn hs
 .rw [bY.mp md];exact hp.2.2 a ha s (by simp)
 .have:=h.qw x
  rw [gO.app,gO.one] at this ⊢
  rw [QI,<-this]
  dsimp only
  constructor
  .rintro (h | h)
   .exact .inl (.inl h)
   .by_cases hx:x<=s.2
    .exact .inl (.inr ⟨h.1,hx⟩)
    .exact .inr ⟨by ext hn hx,h.2⟩
  .rintro ((h | h) | h)
   .exact .inl h
   .exact .inr ⟨h.1,by ext hr hn h⟩
   .exact .inr ⟨by ext hn hs h,h.2⟩
 .have:=h.head
  cases pre with
  | nil=>cases ss<;>simp at this
  | cons q qs=>cases ss with
   | nil=>simpa using this
   | cons t ts=>simpa using this
 .have:=h.sum
  rw [eR,DM] at this ⊢
  rw [v8,<-this]
  unfold total
  simp
  ext hn
 .rcases bW.mp hq with hq | hq
  .obtain ⟨t,ht,k1,k2⟩:=h.sub q hq
   rcases bW.mp ht with ht | ht
   .exact ⟨t,gv _ ht,k1,k2⟩
   .rw [bY.mp ht] at k1 k2
    exact ⟨_,gi _ bw,k1,by dsimp only;ext hr hn k2⟩
  .rw [bY.mp hq];exact ⟨_,gi _ bw,by dsimp only;ext hn hs,cD _⟩
 .rcases bW.mp ht with ht | ht
  .obtain ⟨⟨a,ha,e1⟩,⟨b,hb,e2⟩⟩:=h.ends t (by simp [ht])
   exact ⟨⟨a,gv _ ha,e1⟩,⟨b,gv _ hb,e2⟩⟩
  .rw [bY.mp ht]
   obtain ⟨⟨a,ha,e1⟩,_⟩:=h.ends s (by simp)
   exact ⟨⟨a,gv _ ha,e1⟩,⟨r,by simp,rfl⟩⟩
theorem QV{rs:List Row}(ha:cN rs)(hl:rs.length<=8000000):∃ss:List Span,we [.tup (rs.map Row.d)]=some (.sh (.tup (ss.map Span.d)))/\aV rs ss:=by
 have key:Wo (we [.tup (rs.map Row.d)]) λs=>∃ss:List Span,s=.sh (.tup (ss.map Span.d))/\aV rs ss:=by
  refine mC.mpr ?_
  unfold L5
  walk_at "vc"
  refine iZ Row.d (λpre env=>∃x2 x3,∃ss:List Span,env=[.sh (.tup (rs.map Row.d)),.ow (ss.map Span.d),x2,x3]/\aV pre ss) rs (λpre r post env e h=>?_) (λenv h=>?_) ⟨_,_,[],rfl,aV.nil⟩
  .obtain ⟨x2,x3,ss,rfl,h⟩:=h
   have hr:r∈rs:=by rw [e];simp
   have oN:=ha.1 r hr
   have hlen:ss.length<=8000000:=eQ h.len (eQ (by rw [e];simp) hl)
   rcases JL ss with rfl | ⟨ts,a,e2⟩
   .rw [dr r]
    walk_at "vc"
    simp only [A0,List.isEmpty_nil,Bool.not_true,oh,false_implies,true_implies,true_and]
    walk_at "vc"
    exact ⟨_,_,[(r.1,r.2.1)],rfl,h.more oN (λ_ z=>nomatch z)⟩
   .have e2:ss=ts++[a]:=by simpa using e2
    subst e2
    have aT:a.2<r.1:=by
     have kE:=h.last
     cases hq:pre.getLast? with
     | none=>rw [hq] at kE;simp at kE
     | some q =>
      rw [hq] at kE
      simp at kE
      have:=ha.2
      rw [e] at this
      have:=(gU.mp this).2.2 q (Jl hq) r bw
      ext kE this
    walk_at "vc"
    have em:(jn Span.d (ts++[a])).isEmpty=false:=by simp
    rw [em,eR,fg,A0,DL.iC,Kh a,dr r]
    walk_at "vc"
    simp at hlen
    refine ⟨λhe=>?_,λhe=>?_⟩
    .have ed:(jn Span.d ts++[D.tup [D.int a.1,D.int a.2]])[(jn Span.d ts++[D.tup [D.int a.1,D.int a.2]]).length-1]?=some (D.tup [D.int a.1,D.int a.2]):=by simp
     rw [ed,OL]
     walk_at "vc"
     refine ⟨by decide,by simp;lia,_,_,ts++[(a.1,r.2.1)],by rw [eR];rfl,h.glue oN he⟩
    .refine ⟨by simp;lia,_,_,ts++[a]++[(r.1,r.2.1)],by rw [eR,eR];rfl,h.more oN λc hc=>?_⟩
     simp at hc
     subst hc
     ext aT he
  .obtain ⟨x2,x3,ss,rfl,h⟩:=h
   walk_at "vc"
   exact ⟨ss,rfl,h⟩
 obtain ⟨s,e,fs,rfl,h⟩:=key
 exact ⟨fs,e,h⟩
noncomputable def iW(r:Row)(lo hi:Int):Row:=(lo,hi,r.at lo,r.2.2.2)
theorem BR{r:Row}{lo hi x:Int}:(iW r lo hi).at x=r.at x:=by unfold iW Row.at;dsimp only;grind
def oH(ss:List Span):Prop:=(∀s∈ss,s.1<=s.2)/\ss.Pairwise λa b=>a.2<b.1
noncomputable def lQ(r:Row)(low:Int):List Row:=if low<=r.2.1 then [iW r low r.2.1] else []
noncomputable def mx(r:Row)(low to:Int):List Row:=if low<to then [iW r low (to-1)] else []
noncomputable def bP(r:Row)(low:Int):List Span->List Row×List Span
 | []=>(lQ r low,[])
 | s::ss=>if s.1<=r.2.1 then
   (if s.2>r.2.1 then (mx r low s.1++lQ r (max low (s.2+1)),s::ss) else (mx r low s.1++(bP r (max low (s.2+1)) ss).1,(bP r (max low (s.2+1)) ss).2))
  else (lQ r low,s::ss)
noncomputable def cn:List Row->List Span->List Row
 | [],_=>[]
 | r::rs,ss=>(bP r r.1 ss).1++cn rs (bP r r.1 ss).2
theorem RR{r:Row}:∀{ss:List Span} {low:Int},r.1<=low->oH ss ->
  (∀q∈(bP r low ss).1,low<=q.1/\q.1<=q.2.1/\q.2.1<=r.2.1/\∀x,q.at x=r.at x)/\((bP r low ss).1.Pairwise λa b=>a.2.1<b.1) /\
  (∀x,(∃q∈(bP r low ss).1,q.1<=x/\x<=q.2.1)↔low<=x/\x<=r.2.1/\¬gO ss x)/\(bP r low ss).2 <:+ ss/\(∀x,r.2.1<x->(gO ss x↔gO (bP r low ss).2 x))/\(bP r low ss).1.length+(bP r low ss).2.length<=ss.length+1
 | [],low,hl,_=>by
  unfold bP lQ
  dsimp only
  have hI:∀x,¬gO [] x:=λx ⟨s,h,_⟩=>nomatch h
  split
  .refine ⟨λq hq=>?_,tP _ _,λx=>?_,vv _,λ_ _=>fQ,by simp⟩
   .simp at hq;subst hq;exact ⟨cD _,by unfold iW;dsimp only;lia,cD _,λx=>BR⟩
   .simp [iW,hI]
  .refine ⟨λq hq=>(nomatch hq),.nil,λx=>?_,vv _,λ_ _=>fQ,by simp⟩
   simp;lia
 | s::ss,low,hl,hs=>by
  have z6:=hs.1 s bw
  have ht:oH ss:=⟨λq hq=>hs.1 q (bG _ hq),(iM.mp hs.2).2⟩
  have hp:=(iM.mp hs.2).1
  have hI:∀x,gO (s::ss) x↔(s.1<=x/\x<=s.2)\/gO ss x:=λx=>by unfold gO;simp
  have pL:∀x,x<=s.2->¬gO ss x:=λx hx ⟨t,YV,h1,h2⟩=>by have:=hp t YV;ext hx h1 this
  have lp:∀lo,(∀q∈lQ r lo,q.1=lo/\q.2.1=r.2.1/\lo<=r.2.1/\∀x,q.at x=r.at x)/\(lQ r lo).length<=1/\(∀x,(∃q∈lQ r lo,q.1<=x/\x<=q.2.1)↔lo<=x/\x<=r.2.1):=λlo=>by
   unfold lQ
   split
   .refine ⟨λq hq=>?_,by simp,λx=>by simp [iW]⟩
    simp at hq;subst hq;exact ⟨rfl,rfl,by assumption,λx=>BR⟩
   .exact ⟨λq hq=>(nomatch hq),by simp,λx=>by simp;lia⟩
  have fp:(∀q∈mx r low s.1,q.1=low/\q.2.1=s.1-1/\low<s.1/\∀x,q.at x=r.at x)/\(mx r low s.1).length<=1/\(∀x,(∃q∈mx r low s.1,q.1<=x/\x<=q.2.1)↔low<=x/\x<s.1):=by
   unfold mx
   split
   .refine ⟨λq hq=>?_,by simp,λx=>by simp [iW];ext⟩
    simp at hq;subst hq;exact ⟨rfl,rfl,by assumption,λx=>BR⟩
   .exact ⟨λq hq=>(nomatch hq),by simp,λx=>by simp;lia⟩
  have pw:∀(L:List Row),L.length<=1->L.Pairwise λa b=>a.2.1<b.1:=λL hL=>by
   match L,hL with
   | [],_=>exact .nil
   | [_],_=>exact tP _ _
  obtain ⟨f1,f2,f3⟩:=fp
  have app:∀(L M:List Row) x,(∃q∈L++M,q.1<=x/\x<=q.2.1)↔(∃q∈L,q.1<=x/\x<=q.2.1)\/(∃q∈M,q.1<=x/\x<=q.2.1):=λL M x=>by
   constructor
   .rintro ⟨q,hq,k⟩
    rcases bW.mp hq with h | h
    .exact .inl ⟨q,h,k⟩
    .exact .inr ⟨q,h,k⟩
   .rintro (⟨q,hq,k⟩ | ⟨q,hq,k⟩)
    .exact ⟨q,gv _ hq,k⟩
    .exact ⟨q,gi _ hq,k⟩
  unfold bP
  by_cases c1:s.1<=r.2.1
  .rw [if_pos c1]
   by_cases c2:s.2>r.2.1
   .rw [if_pos c2]
    dsimp only
    obtain ⟨l1,l2,l3⟩:=lp (max low (s.2+1))
    refine ⟨λq hq=>?_,gU.mpr ⟨pw _ f2,pw _ l2,λa ha b hb=>?_⟩,λx=>?_,vv _,λ_ _=>fQ,?_⟩
    .rcases bW.mp hq with h | h
     .obtain ⟨e1,e2,e3,e4⟩:=f1 q h;exact ⟨by ext e1,by ext e1 e2 e3,by ext c1 e2,e4⟩
     .obtain ⟨e1,e2,e3,e4⟩:=l1 q h;ext _ c2 e3
    .obtain ⟨e1,e2,e3,e4⟩:=l1 b hb;ext c2 e3
    .rw [app,f3,l3,hI]
     have:=pL x
     constructor
     .rintro (h | h)
      .exact ⟨by ext h,by ext c1 h,λz=>z.elim (by ext h) (this (by ext c1 c2 h))⟩
      .ext _ c2 h
     .intro ⟨h1,h2,h3⟩
      by_cases hx:x<s.1
      .exact .inl ⟨h1,hx⟩
      .exact absurd (.inl ⟨by ext hx,by ext c2 h2⟩) h3
    .have e:((mx r low s.1++lQ r (max low (s.2+1)))).length<=1:=by
      have:lQ r (max low (s.2+1))=[]:=by unfold lQ;rw [if_neg (by ext c2)]
      rw [this];simpa using f2
     simp at e ⊢;ext e
   .rw [if_neg c2]
    dsimp only
    obtain ⟨i1,i2,i3,i4,i5,i6⟩:=RR (r:=r) (ss:=ss) (low:=max low (s.2+1)) (by ext hl) ht
    refine ⟨λq hq=>?_,gU.mpr ⟨pw _ f2,i2,λa ha b hb=>?_⟩,λx=>?_,i4.trans (List.suffix_cons _ _),λx hx=>?_,?_⟩
    .rcases bW.mp hq with h | h
     .obtain ⟨e1,e2,e3,e4⟩:=f1 q h;exact ⟨by ext e1,by ext e1 e2 e3,by ext c1 e2,e4⟩
     .obtain ⟨e1,e2,e3,e4⟩:=i1 q h;exact ⟨by ext e1,e2,e3,e4⟩
    .obtain ⟨e1,e2,e3,e4⟩:=f1 a ha;have g1:=(i1 b hb).1;show a.2.1<b.1;ext z6 e2 g1
    .rw [app,f3,i3,hI]
     have:=pL x
     constructor
     .rintro (h | ⟨h1,h2,h3⟩)
      .exact ⟨by ext h,by ext c1 h,λz=>z.elim (by ext h) (this (by ext z6 h))⟩
      .exact ⟨by ext h1,h2,λz=>z.elim (by ext h1) h3⟩
     .intro ⟨h1,h2,h3⟩
      by_cases hx:x<s.1
      .exact .inl ⟨h1,hx⟩
      .have h4:¬x<=s.2:=λz=>h3 (.inl ⟨by ext hx,z⟩)
       exact .inr ⟨by ext h1 h4,h2,λz=>h3 (.inr z)⟩
    .rw [hI,<-i5 x hx]
     exact ⟨λz=>z.elim (by lia) id,.inr⟩
    .simp at i6 ⊢;ext f2 i6
  .rw [if_neg c1]
   dsimp only
   obtain ⟨l1,l2,l3⟩:=lp low
   refine ⟨λq hq=>?_,pw _ l2,λx=>?_,vv _,λ_ _=>fQ,by simp;ext l2⟩
   .obtain ⟨e1,e2,e3,e4⟩:=l1 q hq;exact ⟨by ext e1,by ext e1 e2 e3,by ext e2,e4⟩
   .rw [l3,hI]
    have:=pL x
    constructor
    .intro h
     exact ⟨h.1,h.2,λz=>z.elim (by ext c1 h) (this (by ext z6 c1 h))⟩
    .intro h;exact ⟨h.1,h.2.1⟩
theorem B7:∀{rs:List Row} {ss:List Span},cN rs->oH ss->cN (cn rs ss)/\(∀q∈cn rs ss,∃r∈rs,r.1<=q.1/\q.2.1<=r.2.1/\q.2.2.1=r.at q.1/\q.2.2.2=r.2.2.2)/\(∀x c,Val (cn rs ss) x c↔Val rs x c/\¬gO ss x)/\(cn rs ss).length<=rs.length+ss.length
 | [],ss,_,_=>⟨⟨λ_ z=>(nomatch z),.nil⟩,λ_ z=>(nomatch z),λx c=>⟨λ⟨_,z,_⟩=>(nomatch z),λ⟨⟨_,z,_⟩,_⟩=>(nomatch z)⟩,by simp [cn]⟩
 | r::rs,ss,ha,hs=>by
  have ta:cN rs:=⟨λq hq=>ha.1 q (bG _ hq),(iM.mp ha.2).2⟩
  have hp:=(iM.mp ha.2).1
  obtain ⟨i1,i2,i3,i4,i5,i6⟩:=RR (r:=r) (ss:=ss) (cD _) hs
  unfold cn
  generalize (bP r r.1 ss).1=P at *
  generalize (bP r r.1 ss).2=tt at *
  have nU:oH tt:=⟨λq hq=>hs.1 q (i4.subset hq),hs.2.sublist i4.sublist⟩
  obtain ⟨j1,j2,j3,j4⟩:=B7 ta nU
  refine ⟨⟨λq hq=>?_,gU.mpr ⟨i2,j1.2,λa Zq b hb=>?_⟩⟩,λq hq=>?_,λx c=>?_,?_⟩
  .rcases bW.mp hq with h | h
   .exact (i1 q h).2.1
   .exact j1.1 q h
  .obtain ⟨q,hq,k1,k2,_⟩:=j2 b hb
   have:=hp q hq
   have:=i1 a Zq
   show a.2.1<b.1
   lia
  .rcases bW.mp hq with h | h
   .obtain ⟨k1,k2,k3,k4⟩:=i1 q h
    refine ⟨r,bw,k1,k3,?_,?_⟩
    .rw [<-k4];unfold Row.at;rw [Du,Jb,Dt]
    .have e1:=k4 q.1
     have e2:=k4 (q.1+1)
     unfold Row.at at e1 e2
     grind
   .obtain ⟨r',sX,k⟩:=j2 q h
    exact ⟨r',bG _ sX,k⟩
  .rw [Val.app,j3]
   have e0:Val (r::rs) x c↔(r.1<=x/\x<=r.2.1/\c=r.at x)\/Val rs x c:=by unfold Val;simp
   have eP:Val P x c↔(r.1<=x/\x<=r.2.1/\¬gO ss x)/\c=r.at x:=by
    rw [<-i3 x]
    constructor
    .rintro ⟨q,hq,h1,h2,h3⟩
     exact ⟨⟨q,hq,h1,h2⟩,by rw [h3,(i1 q hq).2.2.2]⟩
    .rintro ⟨⟨q,hq,h1,h2⟩,h3⟩
     exact ⟨q,hq,h1,h2,by rw [h3,(i1 q hq).2.2.2]⟩
   rw [eP,e0]
   have zz:Val rs x c->r.2.1<x:=λ⟨q,hq,h1,_⟩=>by have:=hp q hq;ext h1 this
   constructor
   .rintro (⟨⟨h1,h2,h3⟩,h4⟩ | ⟨h1,h2⟩)
    .exact ⟨.inl ⟨h1,h2,h4⟩,h3⟩
    .exact ⟨.inr h1,λz=>h2 ((i5 x (zz h1)).mp z)⟩
   .rintro ⟨⟨h1,h2,h3⟩ | h1,h4⟩
    .exact .inl ⟨⟨h1,h2,h4⟩,h3⟩
    .exact .inr ⟨h1,λz=>h4 ((i5 x (zz h1)).mpr z)⟩
  .simp at i6 j4 ⊢;ext i6 j4
theorem PU{r:Row}{lo hi:Int}(h1:-(10^250)<=r.2.2.2)(h2:r.2.2.2<=10^250)(h3:-(10^250)<=lo-r.1)(h4:lo-r.1<=10^250):xI [r.d,.int lo,.int hi]=some (.sh (iW r lo hi).d):=by
 refine Wo.eq (CA.mpr ?_)
 unfold JO
 walk_at "vc"
 rw [EY h1 h2 h3 h4,dr]
 walk_at "vc"
 rfl
theorem b4T{ss:List Span}{n:Nat}(h:n<ss.length):fB (ss.map Span.d) (n:Int)=some (Span.d ss[n]):=by
 rw [DL.cK];simp [h]
def F'(s:Span):Prop:=(-(10^200)<=s.1/\s.1<=10^200)/\(-(10^200)<=s.2/\s.2<=10^200)
theorem Sg{rs:List Row}{ss:List Span}(hb:∀r∈rs,aB (10^200) r)(hs:∀s∈ss,F' s)(l1:rs.length<=400000)(l2:ss.length<=400000):yb [.tup (rs.map Row.d),.tup (ss.map Span.d)]=some (.ow ((cn rs ss).map Row.d)):=by
 refine Wo.eq (oB.mpr ?_)
 unfold LV
 walk_at "v1"
 refine iZ Row.d (λpre env=>∃x4 x5,∃(done post:List Row) (pl:Nat),env=[.sh (.tup (rs.map Row.d)),.sh (.tup (ss.map Span.d)),.ow (done.map Row.d),.sh (.int pl),x4,x5]/\rs=pre++post/\pl<=ss.length/\done.length<=2*pre.length+pl/\done++cn post (ss.drop pl)=cn rs ss) rs (λpre r post env e h=>?_) (λenv h=>?_) ⟨_,_,[],rs,0,rfl,rfl,by simp,by simp,rfl⟩
 .obtain ⟨x4,x5,done,pA,pl,rfl,e0,dk,wU,jC⟩:=h
  obtain rfl:pA=r::post:=List.append_cancel_left (e0.symm.trans e)
  have iy:pre.length<=400000:=by have:=congrArg mn e;simp at this;ext l1 this
  have qt:=hb r (by rw [e];simp)
  unfold aB at qt
  rw [dr r]
  walk_at "v1"
  rw [Ly,<-dr r]
  refine Wo.mono (P:=λy=>y.1=.nx/\∃(d3:List Row) (p3:Nat) (lw:Int),y.2=[.sh (.tup (rs.map Row.d)),.sh (.tup (ss.map Span.d)),.ow (d3.map Row.d),.sh (.int p3),.sh r.d,.sh (.int lw)]/\p3<=ss.length/\d3.length<=2*pre.length+p3+1/\(-(10^200)<=lw/\lw<=10^200+1)/\d3++lQ r lw=done++(bP r r.1 (ss.drop pl)).1/\ss.drop p3=(bP r r.1 (ss.drop pl)).2) ?_ (λy hy=>?_)
  .refine B2 (λn env=>∃(d2:List Row) (p2:Nat) (lw:Int),env=[.sh (.tup (rs.map Row.d)),.sh (.tup (ss.map Span.d)),.ow (d2.map Row.d),.sh (.int p2),.sh r.d,.sh (.int lw)]/\n=ss.length-p2/\p2<=ss.length/\d2.length<=2*pre.length+p2/\(-(10^200)<=lw/\lw<=10^200+1)/\d2++(bP r lw (ss.drop p2)).1=done++(bP r r.1 (ss.drop pl)).1/\(bP r lw (ss.drop p2)).2=(bP r r.1 (ss.drop pl)).2) (λn env h=>?_) _ (ss.length-pl) (show ss.length-pl<1000000 by ext l2) ⟨done,pl,r.1,rfl,rfl,dk,wU,by ext qt,rfl,rfl⟩
   obtain ⟨d2,p2,lw,rfl,rfl,Hw,hd2,rh,o1,o2⟩:=h
   have pR:=λhi=>PU (r:=r) (lo:=lw) (hi:=hi) (by ext qt) (by ext qt) (by ext qt rh) (by ext qt rh)
   rw [dr] at pR ⊢
   walk_at "v1"
   rw [aQ]
   refine ⟨λh1=>?_,λh1=>?_⟩
   .have nX:p2<ss.length:=by ext h1
    have dd:ss.drop p2=ss[p2]::ss.drop (p2+1):=ni nX
    have Au:=hs ss[p2] (lN nX)
    have Aw:=b4T nX
    rw [Aw]
    generalize ss[p2]=s at *
    unfold F' at Au
    rw [dd,bP] at o1 o2
    rw [Kh]
    walk_at "v1"
    refine ⟨λh2=>?_,λh2=>?_⟩
    .rw [if_pos h2] at o1 o2
     walk_at "v1"
     rw [Kh] at Aw
     refine Wo.mono (P:=λy=>y=(.nx,[.sh (.tup (rs.map Row.d)),.sh (.tup (ss.map Span.d)),.ow ((d2++mx r lw s.1).map Row.d),.sh (.int p2),.sh (.tup [.int r.1,.int r.2.1,.int r.2.2.1,.int r.2.2.2]),.sh (.int lw)])) ?_ (λy hy=>?_)
     .walk_at "vc"
      rw [Aw]
      walk_at "vc"
      rw [pR]
      walk_at "vc"
      rw [aQ]
      unfold mx
      refine ⟨λh=>⟨by ext l2 iy hd2 h1,?_⟩,λh=>?_⟩
      .rw [if_pos h,eR];rfl
      .rw [if_neg h,nk]
     .subst hy
      have kF:(mx r lw s.1).length<=1:=by unfold mx;split<;>simp
      walk_at "v1"
      rw [Aw]
      walk_at "v1"
      rw [a2Y]
      walk_at "vc"
      rw [Aw]
      walk_at "vc"
      refine ⟨λh3=>?_,λh3=>?_⟩
      .rw [if_pos h3] at o1 o2
       exact ⟨d2++mx r lw s.1,p2,max lw (s.2+1),rfl,Hw,by simp;ext hd2 kF,by ext rh Au,by rw [fJ];exact o1,by rw [dd];exact o2⟩
      .rw [if_neg h3] at o1 o2
       exact ⟨ss.length-(p2+1),by ext h1,d2++mx r lw s.1,p2+1,max lw (s.2+1),rfl,rfl,by ext h1,by simp;ext hd2 kF,by ext rh Au,by rw [fJ];exact o1,o2⟩
    .rw [if_neg h2] at o1 o2
     exact ⟨d2,p2,lw,rfl,Hw,by ext hd2,rh,o1,by rw [dd];exact o2⟩
   .have dd:ss.drop p2=[]:=rT (by ext h1)
    rw [dd,bP] at o1 o2
    exact ⟨d2,p2,lw,rfl,Hw,by ext hd2,rh,o1,by rw [dd];exact o2⟩
  .obtain ⟨fl,ai⟩:=y
   obtain ⟨h1,d3,p3,lw,h2,wQ,HZ,rh,o1,o2⟩:=hy
   dsimp only at h1 h2
   subst h1 h2
   have pR:=PU (r:=r) (lo:=lw) (hi:=r.2.1) (by ext qt) (by ext qt) (by ext qt rh) (by ext qt rh)
   rw [dr] at pR ⊢
   walk_at "vc"
   rw [pR]
   walk_at "vc"
   rw [aQ]
   rw [cn,<-o2,<-fJ,<-o1] at jC
   refine ⟨λh=>⟨by ext l2 iy wQ HZ,_,_,d3++[iW r lw r.2.1],post,p3,by rw [eR];rfl,by rw [e];simp,wQ,by simp;ext HZ,?_⟩,λh=>⟨_,_,d3,post,p3,rfl,by rw [e];simp,wQ,by simp;ext HZ,?_⟩⟩
   .rw [lQ,if_pos h] at jC
    exact jC
   .rw [lQ,if_neg h,nk] at jC
    exact jC
 .obtain ⟨x4,x5,done,pA,pl,rfl,e0,dk,wU,jC⟩:=h
  have:pA=[]:=by simpa using e0
  subst this
  walk_at "vc"
  rw [<-jC];simp [cn]
theorem ny{c:En->Option Bool}{F:SF}{env:En}{Q:Fl×En->Prop}(hc:Wo (c env) λb=>b=false)(h:Q (.nx,env)):Wo (cj c F cQ env) Q:=by
 rw [a2Y]
 exact hc.mono λb hb=>⟨λz=>(by rw [hb] at z;cases z),λ_=>(by rw [b7i];exact h)⟩
noncomputable abbrev lC:=Int×Int
noncomputable def lC.at(l:lC)(low x:Int):Int:=l.1+l.2*(x-low)
noncomputable def eN:Int->List Row->Int->Prop
 | at_,[],e=>at_=e
 | at_,r::rs,e=>r.1=at_/\at_<=r.2.1/\eN (r.2.1+1) rs e
theorem eN.le:∀{rs:List Row} {a e:Int},eN a rs e->a<=e
 | [],_,_,h=>Int.le_of_eq h
 | r::rs,a,e,h=>by have:=h.2.2.le;have:=h.2.1;lia
theorem eN.mem:∀{rs:List Row} {a e:Int} {r:Row},eN a rs e->r∈rs->a<=r.1/\r.1<=r.2.1/\r.2.1<e
 | [],_,_,_,_,h=>nomatch h
 | r::rs,a,e,q,h,k=>by
  obtain ⟨h1,h2,h3⟩:=h
  have:=h3.le
  rcases br.mp k with rfl | k
  .ext h1 h2 this
  .have:=h3.mem k;ext h2 this
noncomputable def kr(l:lC)(low:Int)(r:Row):List Row:=pE r.2.2.1 r.2.2.2 (l.at low r.1) l.2 r.1 r.2.1
theorem b59{l:lC}{low:Int}{r:Row}(h:r.1<=r.2.1):eN r.1 (kr l low r) (r.2.1+1)/\(∀q∈kr l low r,(q.2.2.2=r.2.2.2\/q.2.2.2=l.2)/\r.1<=q.1/\q.2.1<=r.2.1/\∀x,q.1<=x->x<=q.2.1->q.at x=min (r.at x) (l.at low x)) /\
  (kr l low r).length<=2/\((∀x,r.1<=x->x<=r.2.1->r.at x<=l.at low x)->(kr l low r).length=1)/\((∀x,r.1<=x->x<=r.2.1->l.at low x<r.at x)->(kr l low r).length=1):=by
 obtain ⟨f,g,c,s⟩:=r
 dsimp only at h
 have sp:=Q5 (a:=c-l.at low f) (s:=s-l.2) (low:=f) (high:=g) h
 have gap:∀x,c-l.at low f+(s-l.2)*(x-f)=Row.at (f,g,c,s) x-l.at low x:=λx=>by unfold Row.at lC.at;dsimp only;grind
 have v1:∀a b x,Row.at (ig c s f a b) x=Row.at (f,g,c,s) x:=λa b x=>by unfold Row.at ig;dsimp only;grind
 have v2:∀a b x,Row.at (ig (l.at low f) l.2 f a b) x=l.at low x:=λa b x=>by unfold Row.at ig lC.at;dsimp only;grind
 simp only [gap] at sp
 unfold kr pE
 dsimp only
 cases pI:nd (c-l.at low f) (s-l.2) f g with
 | none =>
  rw [pI] at sp
  refine ⟨⟨rfl,h,rfl⟩,λq hq=>?_,by simp,λ_=>rfl,λ_=>rfl⟩
  obtain rfl:=bY.mp hq
  refine ⟨.inr rfl,cD _,cD _,λx h1 h2=>?_⟩
  rw [v2]
  have:=sp x h1 h2
  ext this
 | some fl =>
  obtain ⟨a,b⟩:=fl
  rw [pI] at sp
  obtain ⟨⟨q1,q2,q3,q4⟩,q5⟩:=sp
  have A:∀x,a<=x->x<=b->Row.at (ig c s f a b) x=min (Row.at (f,g,c,s) x) (l.at low x):=λx h1 h2=>by
   rw [v1];have:=(q5 x (by ext q1 h1) (by ext q3 h2)).mpr ⟨h1,h2⟩;ext this
  have B:∀a' b' x,f<=x->x<=g->¬(a<=x/\x<=b)->Row.at (ig (l.at low f) l.2 f a' b') x=min (Row.at (f,g,c,s) x) (l.at low x):=λa' b' x h1 h2 h3=>by
   rw [v2];have:=(not_congr (q5 x h1 h2)).mpr h3;ext this
  dsimp only
  by_cases hf:f<a
  .have hl:¬b<g:=by ext q4 hf
   rw [if_pos hf,if_neg hl]
   refine ⟨⟨rfl,by show f<=a-1;ext hf,⟨by show a=a-1+1;ext,by show a-1+1<=b;ext q2,by show b+1=g+1;ext q3 hl⟩⟩,λq hq=>?_,by simp,λz=>?_,λz=>?_⟩
   .simp at hq
    rcases hq with rfl | rfl
    .exact ⟨.inr rfl,cD _,by show a-1<=g;ext q2 q3,λx h1 h2=>B _ _ x h1 (by have:x<=a-1:=h2;ext q2 q3 this) (by have:x<=a-1:=h2;ext this)⟩
    .exact ⟨.inl rfl,by show f<=a;ext q1,by show b<=g;ext q3,λx h1 h2=>A x h1 h2⟩
   .exfalso;have:=(not_congr (q5 f (by ext) (by ext h))).mpr (by ext hf);have:=z f (by ext) (by ext h);lia
   .exfalso;have:=(q5 a (by ext q1) (by ext q2 q3)).mpr (by ext q2);have:=z a (by ext q1) (by ext q2 q3);lia
  .have N6:a=f:=by ext q1 hf
   rw [if_neg hf]
   by_cases hl:b<g
   .rw [if_pos hl]
    refine ⟨⟨N6,by show f<=b;ext q1 q2,⟨rfl,by show b+1<=g;ext hl,rfl⟩⟩,λq hq=>?_,by simp,λz=>?_,λz=>?_⟩
    .simp at hq
     rcases hq with rfl | rfl
     .exact ⟨.inl rfl,by show f<=a;ext q1,by show b<=g;ext q3,λx h1 h2=>A x h1 h2⟩
     .exact ⟨.inr rfl,by show f<=b+1;ext q1 q2,cD _,λx h1 h2=>B _ _ x (by have:b+1<=x:=h1;ext q1 q2 this) h2 (by have:b+1<=x:=h1;ext this)⟩
    .exfalso;have:=(not_congr (q5 g (by ext h) (by ext))).mpr (by ext hl);have:=z g (by ext h) (by ext);lia
    .exfalso;have:=(q5 a (by ext q1) (by ext h hf)).mpr (by ext q2);have:=z a (by ext q1) (by ext h hf);lia
   .rw [if_neg hl]
    refine ⟨⟨N6,by show f<=b;ext h hl,by show b+1=g+1;ext q3 hl⟩,λq hq=>?_,by simp,λ_=>rfl,λ_=>rfl⟩
    simp at hq
    subst hq
    exact ⟨.inl rfl,by show f<=a;ext q1,by show b<=g;ext q3,λx h1 h2=>A x h1 h2⟩
theorem eN.qw:∀{rs:List Row} {a e x:Int},eN a rs e->a<=x->x<e->∃q∈rs,q.1<=x/\x<=q.2.1
 | [],a,e,x,h,h1,h2=>by have:a=e:=h;ext _ h1 h2 this
 | r::rs,a,e,x,⟨h1,h2,h3⟩,k1,k2=>by
  by_cases hx:x<=r.2.1
  .exact ⟨r,bw,by ext h1 k1,hx⟩
  .obtain ⟨q,hq,k⟩:=h3.qw (x:=x) (by ext hx) k2
   exact ⟨q,bG _ hq,k⟩
theorem eN.cG:∀{rs:List Row} {a e:Int},eN a rs e->rs.Pairwise λp q=>p.2.1<q.1
 | [],_,_,_=>.nil
 | r::rs,a,e,⟨h1,h2,h3⟩=>iM.mpr ⟨λq hq=>by have:=h3.mem hq;ext this,h3.cG⟩
def kN(a b:Row):Prop:=a.2.1<b.1\/b.2.1<a.1
theorem Sn:∀rs:List Row,Bz (rs.map Row.d)=some (rs.map λr=>(r.1,Row.d r))
 | []=>rfl
 | r::rs=>by
  rw [fg,Bz,Sn rs]
  rfl
theorem b1m{rs:List Row}(hv:∀r∈rs,r.1<=r.2.1)(hd:rs.Pairwise kN)(dS:rs.length<mv):∃ts:List Row,xp (rs.map Row.d)=some (ts.map Row.d)/\cN ts/\(∀x c,Val ts x c↔Val rs x c)/\ts.Perm rs:=by
 have bI:(rs.map (·.1)).Nodup:=by
  rw [List.Nodup,rO]
  refine hd.imp_of_mem λ{a b} ha hb h=>?_
  have:=hv a ha;have:=hv b hb
  unfold kN at h
  lia
 obtain ⟨ts,t1,t2⟩:=RT (O7 (rs.map λr=>(r.1,Row.d r)) λa b=>decide (a.1<=b.1))
 have hle:ts.Pairwise λa b=>a.1<=b.1:=by
  have:=Ph (le:=λa b:Int×D=>decide (a.1<=b.1)) (λa b c h1 h2=>by simp at *;ext h1 h2) (λa b=>by simp;ext) (rs.map λr=>(r.1,Row.d r))
  rw [<-t2,rO] at this
  exact this.imp λ{x y} z=>by simpa using z
 have Zj:ts.Pairwise kN:=(t1.pairwise_iff (λ{a b} h=>by unfold kN at *;ext h)).mpr hd
 have Hh:∀r∈ts,r.1<=r.2.1:=λr hr=>hv r (t1.subset hr)
 refine ⟨ts,?_,⟨Hh,?_⟩,λx c=>?_,t1⟩
 .unfold xp
  rw [Sn,rM,if_pos ⟨by rw [cJ];exact bI,by rw [aQ];exact dS⟩,<-t2,cJ]
  rfl
 .refine (hle.and Zj).imp_of_mem λ{a b} ha hb h=>?_
  have:=Hh a ha;have:=Hh b hb
  obtain ⟨h1,h2⟩:=h
  unfold kN at h2
  ext this h1 h2
 .unfold Val
  exact ⟨λ⟨r,hr,k⟩=>⟨r,t1.subset hr,k⟩,λ⟨r,hr,k⟩=>⟨r,t1.symm.subset hr,k⟩⟩
noncomputable def gf(m:Met):List Row:=pE (m.a.at m.lo) m.a.2.2.2 (m.b.at m.lo) m.b.2.2.2 m.lo m.hi
theorem ua{m:Met}(h:m.lo<=m.hi):eN m.lo (gf m) (m.hi+1)/\(∀q∈gf m,(q.2.2.2=m.a.2.2.2\/q.2.2.2=m.b.2.2.2)/\m.lo<=q.1/\q.2.1<=m.hi/\∀x,q.1<=x->x<=q.2.1->q.at x=min (m.a.at x) (m.b.at x))/\(gf m).length<=2:=by
 obtain ⟨h1,h2,h3,_⟩:=b59 (l:=(m.b.at m.lo,m.b.2.2.2)) (low:=m.lo) (r:=(m.lo,m.hi,m.a.at m.lo,m.a.2.2.2)) h
 have e0:kr (m.b.at m.lo,m.b.2.2.2) m.lo (m.lo,m.hi,m.a.at m.lo,m.a.2.2.2)=gf m:=by
  unfold kr gf lC.at
  dsimp only
  rw [Du,Jb,Dt]
 rw [e0] at h1 h2 h3
 refine ⟨h1,λq hq=>?_,h3⟩
 obtain ⟨k1,k2,k3,k4⟩:=h2 q hq
 refine ⟨k1,k2,k3,λx x1 x2=>?_⟩
 rw [k4 x x1 x2]
 have e1:Row.at (m.lo,m.hi,m.a.at m.lo,m.a.2.2.2) x=m.a.at x:=BR (r:=m.a) (lo:=m.lo) (hi:=m.hi)
 have e2:lC.at (m.b.at m.lo,m.b.2.2.2) m.lo x=m.b.at x:=BR (r:=m.b) (lo:=m.lo) (hi:=m.hi)
 rw [e1,e2]
noncomputable def iu(A B:List Row):List Row:=(bL A B).flatMap gf
theorem Lp{A B:List Row}{q:Row}(h:q∈iu A B):∃m∈bL A B,q∈gf m/\m.a∈A/\m.b∈B/\m.lo=max m.a.1 m.b.1/\m.hi=min m.a.2.1 m.b.2.1/\m.lo<=q.1/\q.1<=q.2.1/\q.2.1<=m.hi/\(q.2.2.2=m.a.2.2.2\/q.2.2.2=m.b.2.2.2)/\∀x,q.1<=x->x<=q.2.1->q.at x=min (m.a.at x) (m.b.at x):=by
 obtain ⟨m,hm,hq⟩:=j0.mp h
 obtain ⟨k1,k2,k3,k4,k5⟩:=oq (bo _) hm
 obtain ⟨c1,c2,_⟩:=ua k5
 have:=c1.mem hq
 obtain ⟨d1,d2,d3,d4⟩:=c2 q hq
 exact ⟨m,hm,hq,k1,k2,k3,k4,d2,this.2.1,d3,d1,d4⟩
theorem b4g{A B:List Row}(ha:cN A)(hb:cN B):cN (iu A B)/\∀x c,Val (iu A B) x c↔∃p q,look A x=some p/\look B x=some q/\c=min p q:=by
 refine ⟨⟨λq hq=>?_,?_⟩,λx c=>⟨λ⟨q,hq,h1,h2,h3⟩=>?_,λ⟨p,q,h1,h2,h3⟩=>?_⟩⟩
 .obtain ⟨m,_,_,_,_,_,_,_,k,_⟩:=Lp hq;exact k
 .unfold iu
  rw [List.pairwise_flatMap]
  refine ⟨λm hm=>?_,?_⟩
  .exact (ua (oq (bo _) hm).2.2.2.2).1.cG
  .refine (Fi (bo _) ha hb).imp_of_mem λ{m k} hm hk h x hx y hy=>?_
   have c1:=(ua (oq (bo _) hm).2.2.2.2).1.mem hx
   have c2:=(ua (oq (bo _) hk).2.2.2.2).1.mem hy
   show x.2.1<y.1
   ext h c1 c2
 .obtain ⟨m,hm,_,k1,k2,k3,k4,k5,k6,k7,_,k8⟩:=Lp hq
  exact ⟨_,_,ou ha k1 (by ext h1 k3 k5) (by ext h2 k4 k7),ou hb k2 (by ext h1 k3 k5) (by ext h2 k4 k7),by rw [h3,k8 x h1 h2]⟩
 .obtain ⟨a,Zu,a1,a2,rfl⟩:=BX h1
  obtain ⟨b,md,b1,b2,rfl⟩:=BX h2
  obtain ⟨m,hm,rfl,rfl,m1,m2⟩:=Ls (x:=x) (bo _) ha hb Zu md a1 a2 b1 b2
  obtain ⟨c1,c2,_⟩:=ua (oq (bo _) hm).2.2.2.2
  obtain ⟨q,hq,q1,q2⟩:=c1.qw (x:=x) m1 (by ext m2)
  exact ⟨q,j0.mpr ⟨m,hm,hq⟩,q1,q2,by rw [h3,(c2 q hq).2.2.2 x q1 q2]⟩
theorem b4h(A B:List Row):(iu A B).length<=2*(bL A B).length:=by
 unfold iu
 have:∀ms:List Met,(∀m∈ms,m.lo<=m.hi)->(ms.flatMap gf).length<=2*ms.length:=λms=>by
  induction ms with
  | nil=>intro _;simp
  | cons m ms ih =>
   intro h
   have:=ih λk hk=>h k (bG _ hk)
   have:=(ua (h m bw)).2.2
   rw [tK,cX,gh]
   lia
 exact this _ λm hm=>(oq (bo _) hm).2.2.2.2
theorem LK:∀{n:Nat} {A B:List Row},A.length+B.length<=n->(bL A B).length=0\/(bL A B).length+1<=A.length+B.length
 | n,[],B,_=>by rw [BZ];exact .inl rfl
 | n,a::as,[],_=>by rw [B6];exact .inl rfl
 | 0,a::as,b::bs,hn=>absurd hn (by simp)
 | n+1,a::as,b::bs,hn=>by
  rw [xQ,cX]
  have h1:(if max a.1 b.1<=min a.2.1 b.2.1 then [(⟨max a.1 b.1,min a.2.1 b.2.1,a,b⟩:Met)] else []).length<=1:=by split<;>simp
  by_cases hc:a.2.1<b.2.1
  .have:=LK (n:=n) (A:=as) (B:=b::bs) (by simp at hn ⊢;ext hn)
   rw [if_pos hc]
   simp only [gh] at this ⊢;ext h1 this
  .have:=LK (n:=n) (A:=a::as) (B:=bs) (by simp at hn ⊢;ext hn)
   rw [if_neg hc]
   simp only [gh] at this ⊢;ext h1 this
theorem b4H{A B:List Row}(ha:∀r∈A,aB (10^140) r)(hb:∀r∈B,aB (10^140) r)(l1:A.length<=400000)(l2:B.length<=400000):Cg [.tup (A.map Row.d),.tup (B.map Row.d)]=some (.ow ((iu A B).map Row.d)):=by
 refine Wo.eq (jd.mpr ?_)
 unfold MQ
 walk_at "v1"
 rw [AQ (λr hr=>(ha r hr).mono (by decide)) (λr hr=>(hb r hr).mono (by decide)) (by ext l1) (by ext l2)]
 walk_at "v1"
 have uX:=Lu (A:=A) (B:=B) (bo _)
 refine iZ Met.d (λpre env=>∃x3 x4 x5 x6,env=[.sh (.tup (A.map Row.d)),.sh (.tup (B.map Row.d)),.ow ((pre.flatMap gf).map Row.d),x3,x4,x5,x6]) (bL A B) (λpre m post env e h=>?_) (λenv h=>?_) ⟨_,_,_,_,rfl⟩
 .obtain ⟨x3,x4,x5,x6,rfl⟩:=h
  have hm:m∈bL A B:=by rw [e];simp
  obtain ⟨k1,k2,k3,k4,k5⟩:=oq (bo _) hm
  have b1:=ha _ k1
  have b2:=hb _ k2
  unfold aB at b1 b2
  have dk:(pre.flatMap gf).length<=2*pre.length:=by
   have:∀ms:List Met,(∀m∈ms,m.lo<=m.hi)->(ms.flatMap gf).length<=2*ms.length:=λms=>by
    induction ms with
    | nil=>intro _;simp
    | cons m ms ih =>
     intro h
     have:=ih λk hk=>h k (bG _ hk)
     have:=(ua (h m bw)).2.2
     rw [tK,cX,gh]
     omega
   exact this _ λk hk=>(oq (A:=A) (B:=B) (bo _) (by rw [e];simp [hk])).2.2.2.2
  have nV:pre.length<=800000:=by have:=congrArg mn e;simp at this;ext l1 l2 uX this
  have el:=b80 (p1:=m.a.at m.lo) (s1:=m.a.2.2.2) (p2:=m.b.at m.lo) (s2:=m.b.2.2.2) k5 (by ext k3 k4 b2) (by ext b1) (by ext b1) (by ext b2) (by ext b2)
  rw [zm,QB,QB]
  walk_at "v1"
  rw [el]
  walk_at "v1"
  have jm:=(ua k5).2.2
  refine ⟨?_,.sh (.int m.lo),.sh (.int m.hi),.sh (tW m.a m.lo),.sh (tW m.b m.lo),?_⟩
  .rw [aQ,aQ]
   show (pre.flatMap gf).length+(gf m).length<=_
   ext dk nV jm
  .rw [Jf,eR]
   simp only [tK,List.flatMap_nil,nk]
   rfl
 .obtain ⟨x3,x4,x5,x6,rfl⟩:=h
  walk_at "vc"
  rfl
theorem RN:∀{xs ys:List Int},xs.Nodup->xs ⊆ ys->xs.length<=ys.length
 | [],_,_,_=>n6 _
 | x::xs,ys,h,s=>by
  obtain ⟨h1,h2⟩:=vF.mp h
  have hx:=s (bw ..)
  have k:=RN h2 (ys:=ys.erase x) λy hy=>by
   have:y≠x:=λz=>h1 (z▸hy)
   exact (List.mem_erase_of_ne this).mpr (s (bG _ hy))
  rw [List.length_erase_of_mem hx] at k
  have:=List.length_pos_of_mem hx
  rw [gh]
  ext k this
theorem LG{r q:Row}{lo:Int}(h:q∈lQ r lo):q.2.1=r.2.1:=by
 unfold lQ at h
 split at h
 .rw [bY.mp h];rfl
 .exact absurd h gq
theorem SD{r q:Row}{lo to:Int}(h:q∈mx r lo to):q.2.1=to-1:=by
 unfold mx at h
 split at h
 .rw [bY.mp h];rfl
 .exact absurd h gq
theorem RQ{r q:Row}:∀{ss:List Span} {low:Int},(q∈(bP r low ss).1->q.2.1=r.2.1\/∃s∈ss,q.2.1=s.1-1)/\(bP r low ss).2 <:+ ss
 | [],low=>⟨λh=>.inl (LG h),vv _⟩
 | s::ss,low=>by
  unfold bP
  split
  .split
   .refine ⟨λh=>?_,vv _⟩
    rcases bW.mp h with h | h
    .exact .inr ⟨s,bw ..,SD h⟩
    .exact .inl (LG h)
   .obtain ⟨i1,i2⟩:=RQ (r:=r) (q:=q) (ss:=ss) (low:=max low (s.2+1))
    refine ⟨λh=>?_,i2.trans (List.suffix_cons _ _)⟩
    rcases bW.mp h with h | h
    .exact .inr ⟨s,bw ..,SD h⟩
    .rcases i1 h with k | ⟨t,ht,k⟩
     .exact .inl k
     .exact .inr ⟨t,bG _ ht,k⟩
  .exact ⟨λh=>.inl (LG h),vv _⟩
theorem Lx{q:Row}:∀{rs:List Row} {ss:List Span},q∈cn rs ss->(∃r∈rs,q.2.1=r.2.1)\/∃s∈ss,q.2.1=s.1-1
 | [],_,h=>absurd h gq
 | r::rs,ss,h=>by
  obtain ⟨i1,i2⟩:=RQ (r:=r) (q:=q) (ss:=ss) (low:=r.1)
  rcases bW.mp (show q∈(bP r r.1 ss).1++cn rs (bP r r.1 ss).2 from h) with h | h
  .rcases i1 h with k | k
   .exact .inl ⟨r,bw ..,k⟩
   .exact .inr k
  .rcases Lx h with ⟨z,hz,k⟩ | ⟨s,hs,k⟩
   .exact .inl ⟨z,bG _ hz,k⟩
   .exact .inr ⟨s,i2.subset hs,k⟩
theorem b6y{A B:List Row}(ca:cN A)(cb:cN B){sa sb:List Span}(SA:aV A sa)(SB:aV B sb):(bL A B).length+(cn A sb).length+(cn B sa).length<=2*(A.length+B.length):=by
 have BD:∀{L:List Row} {ss:List Span},aV L ss->oH ss:=λ{L ss} S=>⟨S.ok,S.apart.imp λ{a b} h=>by ext h⟩
 obtain ⟨a1,a2,a3,a4⟩:=B7 ca (BD SB)
 obtain ⟨b1,b2,b3,b4⟩:=B7 cb (BD SA)
 have mm:=λm (h:m∈bL A B)=>oq (A:=A) (B:=B) (bo _) h
 have ma:=Fi (A:=A) (B:=B) (bo _) ca cb
 have key:=RN (xs:=(bL A B).map Met.hi++((cn A sb).map (λr=>r.2.1)++(cn B sa).map λr=>r.2.1)) (ys:=(A.map (λr=>r.2.1)++B.map λr=>r.2.1)++(A.map (λr=>r.1-1)++B.map λr=>r.1-1)) ?_ ?_
 .simp only [cX,aQ] at key
  ext key
 .have cG:∀{L:List Row},cN L->(L.map λr=>r.2.1).Nodup:=λ{L} h=>by
   unfold List.Nodup
   rw [rO]
   refine h.2.imp_of_mem λ{x y} hx hy z e=>?_
   have:=h.1 y hy
   ext z e this
  refine Jo.mpr ⟨?_,Jo.mpr ⟨cG a1,cG b1,?_⟩,?_⟩
  .unfold List.Nodup
   rw [rO]
   refine ma.imp_of_mem λ{x y} hx hy z e=>?_
   have:=(mm y hy).2.2.2.2
   ext z e this
  .intro x hx y hy e
   obtain ⟨p,hp,rfl⟩:=cF.mp hx
   obtain ⟨q,hq,rfl⟩:=cF.mp hy
   have k1:=(a3 p.2.1 _).mp ⟨p,hp,a1.1 p hp,cD _,rfl⟩
   have k2:=(b3 q.2.1 _).mp ⟨q,hq,b1.1 q hq,cD _,rfl⟩
   obtain ⟨r,hr,r1,r2,_⟩:=k1.1
   exact k2.2 ((SA.qw _).mpr ⟨r,hr,by ext e r1,by ext e r2⟩)
  .intro x hx y hy e
   obtain ⟨m,hm,rfl⟩:=cF.mp hx
   obtain ⟨i1,i2,i3,i4,i5⟩:=mm m hm
   rcases bW.mp hy with hy | hy
   .obtain ⟨q,hq,rfl⟩:=cF.mp hy
    have k2:=(a3 q.2.1 _).mp ⟨q,hq,a1.1 q hq,cD _,rfl⟩
    exact k2.2 ((SB.qw _).mpr ⟨m.b,i2,by ext i3 i5 e,by ext i4 e⟩)
   .obtain ⟨q,hq,rfl⟩:=cF.mp hy
    have k2:=(b3 q.2.1 _).mp ⟨q,hq,b1.1 q hq,cD _,rfl⟩
    exact k2.2 ((SA.qw _).mpr ⟨m.a,i1,by ext i3 i5 e,by ext i4 e⟩)
 .intro x hx
  have C9:∀{r:Row},(r∈A\/r∈B)->r.2.1∈(A.map (λr=>r.2.1)++B.map λr=>r.2.1)++(A.map (λr=>r.1-1)++B.map λr=>r.1-1):=λ{r} h=>by
   refine gv _ ?_
   rcases h with h | h
   .exact gv _ (cF.mpr ⟨r,h,rfl⟩)
   .exact gi _ (cF.mpr ⟨r,h,rfl⟩)
  have NS:∀{r:Row},(r∈A\/r∈B)->r.1-1∈(A.map (λr=>r.2.1)++B.map λr=>r.2.1)++(A.map (λr=>r.1-1)++B.map λr=>r.1-1):=λ{r} h=>by
   refine gi _ ?_
   rcases h with h | h
   .exact gv _ (cF.mpr ⟨r,h,rfl⟩)
   .exact gi _ (cF.mpr ⟨r,h,rfl⟩)
  rcases bW.mp hx with hx | hx
  .obtain ⟨m,hm,rfl⟩:=cF.mp hx
   obtain ⟨i1,i2,i3,i4,i5⟩:=mm m hm
   by_cases c:m.a.2.1<=m.b.2.1
   .rw [show m.hi=m.a.2.1 by ext i4 c];exact C9 (.inl i1)
   .rw [show m.hi=m.b.2.1 by ext i4 c];exact C9 (.inr i2)
  .rcases bW.mp hx with hx | hx
   .obtain ⟨q,hq,rfl⟩:=cF.mp hx
    rcases Lx hq with ⟨r,hr,k⟩ | ⟨s,hs,k⟩
    .rw [k];exact C9 (.inl hr)
    .obtain ⟨⟨r1,h1,e1⟩,_⟩:=SB.ends s hs
     rw [k,show s.1=r1.1 by ext e1];exact NS (.inr h1)
   .obtain ⟨q,hq,rfl⟩:=cF.mp hx
    rcases Lx hq with ⟨r,hr,k⟩ | ⟨s,hs,k⟩
    .rw [k];exact C9 (.inr hr)
    .obtain ⟨⟨r1,h1,e1⟩,_⟩:=SA.ends s hs
     rw [k,show s.1=r1.1 by ext e1];exact NS (.inl h1)
noncomputable def nQ:Option Int->Option Int->Option Int
 | some a,some b=>some (min a b)
 | some a,none=>some a
 | none,b=>b
theorem RB{A:List Row}(ha:cN A){x:Int}:(∃r∈A,r.1<=x/\x<=r.2.1)↔look A x≠none:=by
 constructor
 .rintro ⟨r,hr,h1,h2⟩
  rw [ou ha hr h1 h2];exact λz=>nomatch z
 .intro h
  cases e:look A x with
  | none=>exact absurd e h
  | some c=>obtain ⟨r,hr,h1,h2,_⟩:=BX e;exact ⟨r,hr,h1,h2⟩
theorem b60{A B:List Row}{V C:Int}(ca:cN A)(cb:cN B)(ha:∀r∈A,aB (10^140) r)(hb:∀r∈B,aB (10^140) r)(hV:V<=10^140)(hC:C<=10^140)
  (va:∀x c,look A x=some c->(-V<=x/\x<=V)/\(-C<=c/\c<=C))(vb:∀x c,look B x=some c->(-V<=x/\x<=V)/\(-C<=c/\c<=C))(hl:4*(A.length+B.length)<=mv):
  ∃fs:List Row,sj [.tup (A.map Row.d),.tup (B.map Row.d)]=some (.sh (.tup (fs.map Row.d)))/\Canon fs/\(∀x,look fs x=nQ (look A x) (look B x))/\fs.length<=3*(A.length+B.length):=by
 have hN:mv<=1600000/\0<mv:=by decide
 obtain ⟨sa,ea,SA⟩:=QV ca (by ext hl hN)
 obtain ⟨sb,eb,SB⟩:=QV cb (by ext hl hN)
 have Pu:∀{L:List Row} {ss:List Span},aV L ss->(∀r∈L,aB (10^140) r)->∀s∈ss,F' s:=λ{L ss} S hL s hs=>by
  obtain ⟨⟨r1,h1,e1⟩,⟨r2,h2,e2⟩⟩:=S.ends s hs
  have k1:=hL r1 h1
  have k2:=hL r2 h2
  unfold aB at k1 k2
  unfold F'
  ext e1 e2 k1 k2
 have BD:∀{L:List Row} {ss:List Span},aV L ss->oH ss:=λ{L ss} S=>⟨S.ok,S.apart.imp λ{a b} h=>by ext h⟩
 have oa:=Sg (rs:=A) (ss:=sb) (λr hr=>(ha r hr).mono (by decide)) (Pu SB hb) (by ext hl hN) (by have:=SB.len;ext hl hN this)
 have ob:=Sg (rs:=B) (ss:=sa) (λr hr=>(hb r hr).mono (by decide)) (Pu SA ha) (by ext hl hN) (by have:=SA.len;ext hl hN this)
 obtain ⟨a1,a2,a3,a4⟩:=B7 ca (BD SB)
 obtain ⟨b1,b2,b3,b4⟩:=B7 cb (BD SA)
 obtain ⟨c1,c2⟩:=b4g ca cb
 have la:=SA.len
 have lb:=SB.len
 have ll:=b4h A B
 have lm:=LK (A:=A) (B:=B) (bo _)
 have NT:∀x,gO sa x↔look A x≠none:=λx=>(SA.qw x).trans (RB ca)
 have G8:∀x,gO sb x↔look B x≠none:=λx=>(SB.qw x).trans (RB cb)
 have Nq:∀r∈iu A B++(cn A sb++cn B sa),r.1<=r.2.1:=λr hr=>by
  rcases bW.mp hr with h | h
  .exact c1.1 r h
  .exact (bW.mp h).elim (a1.1 r) (b1.1 r)
 have apart:∀{L M:List Row},(∀r∈L,r.1<=r.2.1)->(∀r∈M,r.1<=r.2.1)->(∀x c d,Val L x c->Val M x d->False)->∀a∈L,∀b∈M,kN a b:=λ{L M} hL hM hx a Ay b tz=>by
  have h1:=hL a Ay
  have h2:=hM b tz
  by_cases h:a.2.1<b.1\/b.2.1<a.1
  .exact h
  .exact (hx (max a.1 b.1) _ _ ⟨a,Ay,by ext,by ext h1 h,rfl⟩ ⟨b,tz,by ext,by ext h2 h,rfl⟩).elim
 have own:∀{L:List Row},cN L->L.Pairwise kN:=λ{L} h=>h.2.imp λ{a b} z=>.inl z
 have HY:(iu A B++(cn A sb++cn B sa)).Pairwise kN:=by
  refine gU.mpr ⟨own c1,gU.mpr ⟨own a1,own b1,apart a1.1 b1.1 λx c d h1 h2=>?_⟩,λa Ay b tz=>?_⟩
  .obtain ⟨k1,k2⟩:=(a3 x c).mp h1
   obtain ⟨k3,k4⟩:=(b3 x d).mp h2
   rw [G8,Ll cb] at *
   exact k2 (by rw [k3];exact λz=>nomatch z)
  .rcases bW.mp tz with tz | tz
   .refine apart c1.1 a1.1 (λx c d h1 h2=>?_) a Ay b tz
    obtain ⟨p,q,k1,k2,_⟩:=(c2 x c).mp h1
    obtain ⟨_,k4⟩:=(a3 x d).mp h2
    exact k4 ((G8 x).mpr (by rw [k2];exact λz=>nomatch z))
   .refine apart c1.1 b1.1 (λx c d h1 h2=>?_) a Ay b tz
    obtain ⟨p,q,k1,k2,_⟩:=(c2 x c).mp h1
    obtain ⟨_,k4⟩:=(b3 x d).mp h2
    exact k4 ((NT x).mpr (by rw [k1];exact λz=>nomatch z))
 have mo:=b6y ca cb SA SB
 have dS:(iu A B++(cn A sb++cn B sa)).length<mv:=by
  rw [cX,cX]
  ext hl hN ll lm mo
 obtain ⟨ts,es,cts,T4,GI⟩:=b1m Nq HY dS
 have Hk:∀x c,Val (iu A B++(cn A sb++cn B sa)) x c↔nQ (look A x) (look B x)=some c:=λx c=>by
  rw [Val.app,Val.app,c2,a3,b3,NT,G8,Ll ca,Ll cb]
  cases look A x with
  | none=>cases look B x<;>simp [nQ]
  | some a=>cases look B x<;>simp [nQ,eq_comm]
 have rq:∀r∈ts,aB (10^140) r:=λr hr=>by
  have sX:=GI.subset hr
  have hle:=Nq r sX
  rcases bW.mp sX with h | h
  .obtain ⟨m,_,_,k1,k2,k3,k4,k5,k6,k7,k8,k9⟩:=Lp h
   have q1:=ha _ k1
   have q2:=hb _ k2
   have v1:=va _ _ (ou ca k1 (x:=r.1) (by ext k3 k5) (by ext hle k4 k7))
   have v2:=vb _ _ (ou cb k2 (x:=r.1) (by ext k3 k5) (by ext hle k4 k7))
   have e1:r.at r.1=r.2.2.1:=by unfold Row.at;simp
   have e2:=k9 r.1 (cD _) hle
   rw [e1] at e2
   unfold aB at *
   ext hV hC hle k4 k7 k8 q1 q2 v1 v2 e2
  .have key:∀{L:List Row} {q:Row},cN L->(∀r∈L,aB (10^140) r)->(∀x c,look L x=some c->(-V<=x/\x<=V)/\(-C<=c/\c<=C))->(∃r∈L,r.1<=q.1/\q.2.1<=r.2.1/\q.2.2.1=r.at q.1/\q.2.2.2=r.2.2.2)->q.1<=q.2.1->aB (10^140) q:=λ{L q} hA hL hv ⟨z,hz,k1,k2,k3,k4⟩ hq=>by
    have q1:=hL z hz
    have v1:=hv _ _ (ou hA hz (x:=q.1) (by ext k1) (by ext hq k2))
    unfold aB at *
    rw [k3,k4]
    ext hC hq k1 k2 q1 v1
   rcases bW.mp h with h | h
   .exact key ca ha va (a2 r h) hle
   .exact key cb hb vb (b2 r h) hle
 obtain ⟨fs,ef,L⟩:=EJ cts rq (by rw [GI.length_eq];ext hN dS) (ro:=false)
 have lk:∀x,look fs x=nQ (look A x) (look B x):=λx=>b6A L.canon.cG λc=>by rw [L.val,T4,Hk]
 refine ⟨fs,?_,L.canon,lk,?_⟩
 .refine Wo.eq (sx.mpr ?_)
  unfold KY
  walk_at "vc"
  rw [eb,ea]
  walk_at "vc"
  rw [oa,ob]
  walk_at "vc"
  rw [b4H (λr hr=>(ha r hr).mono (by decide)) (λr hr=>(hb r hr).mono (by decide)) (by ext hl hN) (by ext hl hN)]
  walk_at "vc"
  rw [<-eR,<-eR,es]
  walk_at "vc"
  rw [ef]
  walk_at "vc"
  simp only [aQ,cX]
  ext hl hN ll mo
 .have:=L.len
  have:=GI.length_eq
  rw [cX,cX] at this
  lia
theorem BW{fs:List Row}(h:Canon fs){B C:Int}(hC:0<=C)(hb:∀x c,look fs x=some c->(-B<=x/\x<=B)/\(-C<=c/\c<=C)):∀r∈fs,(-B<=r.1/\r.1<=B)/\(-B<=r.2.1/\r.2.1<=B)/\(-C<=r.2.2.1/\r.2.2.1<=C)/\(-(2*C)<=r.2.2.2/\r.2.2.2<=2*C):=λr hr=>by
 have ok:=h.1 r hr
 unfold vN at ok
 have l1:=ou h.cG hr (x:=r.1) (cD _) ok.1
 have l2:=ou h.cG hr (x:=r.2.1) ok.1 (cD _)
 have b1:=hb _ _ l1
 have b2:=hb _ _ l2
 have e1:r.at r.1=r.2.2.1:=by unfold Row.at;simp
 rw [e1] at b1
 refine ⟨b1.1,b2.1,b1.2,?_⟩
 by_cases hs:r.1=r.2.1
 .rw [ok.2 hs];ext hC
 .have l3:=ou h.cG hr (x:=r.1+1) (by ext) (by ext ok hs)
  have b3:=hb _ _ l3
  have e3:r.at (r.1+1)=r.2.2.1+r.2.2.2:=by unfold Row.at;rw [show r.1+1-r.1=1 by ext,DC]
  rw [e3] at b3
  ext b1 b3
noncomputable def Gl(φ:List D->Option Sl):SF:=
 (ag (cj (a9 (aa gn (bK (bV 0)) (eC (.int 2))))
 (av (lJ (gz (eV 0)) (au (bV 0) (eC (.int 0))) (aY ab))) cQ)
 (ag (aS 1 (aa cU (bK (bV 0)) (eC (.int 2))))
 (av (aG 2 sj (ae (aG 1 φ (ae (mZ (bV 0) nO (mR (eV 1))) ab)) (ae (aG 1 φ (ae (mZ (bV 0) (mR (eV 1)) nO) ab)) ab))))))
theorem b87{α:Type}(xs:List α){k:Nat}(h:k<=xs.length):ml xs none (some (k:Int))=xs.take k:=by
 unfold ml
 have e1:HT.bz xs.length 0 none=0:=rfl
 have e2:HT.bz xs.length xs.length (some (k:Int))=min k xs.length:=HT.mO _ _ k
 rw [e1,e2,DV,Nat.sub_zero,IQ h]
theorem b88{α:Type}(xs:List α){k:Nat}(h:k<=xs.length):ml xs (some (k:Int)) none=xs.drop k:=by
 unfold ml
 have e1:HT.bz xs.length 0 (some (k:Int))=min k xs.length:=HT.mO _ _ k
 have e2:HT.bz xs.length xs.length none=xs.length:=rfl
 rw [e1,e2,IQ h,vt]
 rw [og]
 ext
structure FV(V C:Int)(f:List Row):Prop where
 canon:Canon f
 bd:∀x c,look f x=some c->(-V<=x/\x<=V)/\(-C<=c/\c<=C)
theorem FV.row{V C:Int}{f:List Row}(h:FV V C f)(hV:V<=10^140)(hC:0<=C/\2*C<=10^140):∀r∈f,aB (10^140) r:=λr hr=>by
 have:=BW h.canon hC.1 h.bd r hr
 unfold aB
 ext hV hC this
def lz(Fs:List (List Row))(f:List Row):Prop:=∀x v,look f x=some v↔(∃g∈Fs,look g x=some v)/\∀g∈Fs,∀w,look g x=some w->v<=w
theorem lz.fv{V C:Int}{Fs:List (List Row)}{f:List Row}(h:lz Fs f)(cf:Canon f)(hF:∀g∈Fs,FV V C g):FV V C f:=⟨cf,λx c e=>by
 obtain ⟨⟨g,hg,k⟩,_⟩:=(h x c).mp e
 exact (hF g hg).bd x c k⟩
theorem lz.merge{Fs Gs:List (List Row)}{a b f:List Row}(ha:lz Fs a)(hb:lz Gs b)(lk:∀x,look f x=nQ (look a x) (look b x)):lz (Fs++Gs) f:=λx v=>by
 rw [lk]
 have no:∀{Hs:List (List Row)} {h:List Row},lz Hs h->look h x=none->∀g∈Hs,look g x=none:=λ{Hs h} hh e=>by
  have key:∀Ks:List (List Row),(∀g∈Ks,g∈Hs)->(∃g∈Ks,look g x≠none)->∃v,(∃g∈Ks,look g x=some v)/\∀g∈Ks,∀w,look g x=some w->v<=w:=λKs=>by
   induction Ks with
   | nil=>rintro _ ⟨g,hg,_⟩;cases hg
   | cons k Ks ih =>
    intro hs hex
    by_cases hK:∃g∈Ks,look g x≠none
    .obtain ⟨v,⟨g,hg,e1⟩,m⟩:=ih (λg hg=>hs g (bG _ hg)) hK
     cases ek:look k x with
     | none=>exact ⟨v,⟨g,bG _ hg,e1⟩,λq hq w hw=>by
       rcases br.mp hq with rfl | hq
       .rw [ek] at hw;cases hw
       .exact m q hq w hw⟩
     | some u =>
      by_cases zW:u<=v
      .exact ⟨u,⟨k,bw ..,ek⟩,λq hq w hw=>by
        rcases br.mp hq with rfl | hq
        .rw [ek] at hw;cases hw;exact cD _
        .exact IL zW (m q hq w hw)⟩
      .exact ⟨v,⟨g,bG _ hg,e1⟩,λq hq w hw=>by
        rcases br.mp hq with rfl | hq
        .rw [ek] at hw;cases hw;ext zW
        .exact m q hq w hw⟩
    .obtain ⟨g,hg,e1⟩:=hex
     rcases br.mp hg with rfl | hg
     .cases ek:look g x with
      | none=>exact absurd ek e1
      | some u=>exact ⟨u,⟨g,bw ..,ek⟩,λq hq w hw=>by
        rcases br.mp hq with rfl | hq
        .rw [ek] at hw;cases hw;exact cD _
        .exact absurd ⟨q,hq,by rw [hw];exact λz=>nomatch z⟩ hK⟩
     .exact absurd ⟨g,hg,e1⟩ hK
  intro g hg
  refine Classical.byContradiction λz=>?_
  obtain ⟨v,hv⟩:=key Hs (λ_ h=>h) ⟨g,hg,z⟩
  rw [(hh x v).mpr hv] at e
  cases e
 cases ea:look a x with
 | none =>
  have n1:=no ha ea
  show look b x=some v↔_
  rw [hb x v]
  constructor
  .rintro ⟨⟨g,hg,e⟩,m⟩
   exact ⟨⟨g,gi _ hg,e⟩,λq hq w hw=>(bW.mp hq).elim (λz=>by rw [n1 q z] at hw;cases hw) λz=>m q z w hw⟩
  .rintro ⟨⟨g,hg,e⟩,m⟩
   exact ⟨(bW.mp hg).elim (λz=>by rw [n1 g z] at e;cases e) λz=>⟨g,z,e⟩,λq hq=>m q (gi _ hq)⟩
 | some u =>
  obtain ⟨⟨g1,Dl,e1⟩,m1⟩:=(ha x u).mp ea
  cases eb:look b x with
  | none =>
   have n2:=no hb eb
   show some u=some v↔_
   constructor
   .intro z
    cases z
    exact ⟨⟨g1,gv _ Dl,e1⟩,λq hq w hw=>(bW.mp hq).elim (λz=>m1 q z w hw) λz=>by rw [n2 q z] at hw;cases hw⟩
   .rintro ⟨⟨g,hg,e⟩,m⟩
    rcases bW.mp hg with z | z
    .have k1:=m g1 (gv _ Dl) u e1
     have k2:=m1 g z v e
     rw [show u=v by ext k1 k2]
    .rw [n2 g z] at e;cases e
  | some t =>
   obtain ⟨⟨g2,N9,e2⟩,m2⟩:=(hb x t).mp eb
   show some (min u t)=some v↔_
   constructor
   .intro z
    cases z
    refine ⟨?_,λq hq w hw=>?_⟩
    .by_cases c:u<=t
     .exact ⟨g1,gv _ Dl,by rw [e1,show min u t=u by ext c]⟩
     .exact ⟨g2,gi _ N9,by rw [e2,show min u t=t by ext c]⟩
    .rcases bW.mp hq with z | z
     .have:=m1 q z w hw;ext this
     .have:=m2 q z w hw;ext this
   .rintro ⟨⟨g,hg,e⟩,m⟩
    have k1:=m g1 (gv _ Dl) u e1
    have k2:=m g2 (gi _ N9) t e2
    congr 1
    rcases bW.mp hg with z | z
    .have:=m1 g z v e;ext k1 k2 this
    .have:=m2 g z v e;ext k1 k2 this
def CH(φ:List D->Option Sl)(K n m:Nat):Prop:=∀{V C:Int} {Fs:List (List Row)} {r:Bool},V<=10^140->0<=C/\2*C<=10^140->(∀f∈Fs,FV V C f/\f.length<=K)->Fs≠[]->Fs.length<=n->∃fs:List Row,φ [.lst r (Fs.map λf=>.tup (f.map Row.d))]=some (.sh (.tup (fs.map Row.d)))/\Canon fs/\lz Fs fs/\fs.length<=m
theorem Q3{φ ψ:List D->Option Sl}{K:Nat}(W:∀{a0:D} {Q:Sl->Prop},Wo (ψ [a0]) Q↔Wo (Gl φ [.sh a0,.no]) (aH Q)):CH ψ K 1 K:=λ{V C Fs r} hV hC hF bI hl=>by
 match Fs,bI,hl with
 | [f],_,_ =>
  refine ⟨f,Wo.eq (W.mpr ?_),(hF f (bw ..)).1.canon,λx v=>?_,(hF f (bw ..)).2⟩
  .unfold Gl
   dsimp only [jn]
   walk_at "vc"
   exact λz=>nomatch z
  .exact ⟨λe=>⟨⟨f,bw ..,e⟩,λg hg w hw=>by rw [bY.mp hg] at hw;rw [e] at hw;cases hw;exact cD _⟩,λ⟨⟨g,hg,e⟩,_⟩=>by rw [bY.mp hg] at e;exact e⟩
theorem Lr{φ ψ:List D->Option Sl}{K n m:Nat}(hn:n<=1000)(hm:8*m<=mv)(Y8:K<=6*m)(h:CH φ K n m)(W:∀{a0:D} {Q:Sl->Prop},Wo (ψ [a0]) Q↔Wo (Gl φ [.sh a0,.no]) (aH Q)):CH ψ K (2*n) (6*m):=λ{V C Fs r} hV hC hF bI hl=>by
 by_cases hlen:Fs.length<2
 .have Hv:=qz.mpr bI
  obtain ⟨fs,e,c,k,l⟩:=Q3 W hV hC hF bI (by ext hlen) (r:=r)
  exact ⟨fs,e,c,k,by ext Y8 l⟩
 .obtain ⟨k,hk⟩:∃k:Nat,(Fs.length:Int)/2=k:=⟨((Fs.length:Int)/2).toNat,by lia⟩
  have Dk:1<=k:=by lia
  have wR:k<Fs.length:=by lia
  have nA:Fs.take k≠[]:=Jw (by rw [jr];ext Dk wR)
  have nB:Fs.drop k≠[]:=Jw (by rw [og];ext wR)
  have Om:∀f∈Fs.take k,FV V C f/\f.length<=K:=λf hf=>hF f (tS hf)
  have Ol:∀f∈Fs.drop k,FV V C f/\f.length<=K:=λf hf=>hF f (tR hf)
  obtain ⟨A,ea,cA,mA,lA⟩:=h (r:=false) hV hC Om nA (by rw [jr];lia)
  obtain ⟨B,eb,cB,mB,lB⟩:=h (r:=false) hV hC Ol nB (by rw [og];lia)
  have vA:=mA.fv cA λf hf=>(Om f hf).1
  have vB:=mB.fv cB λf hf=>(Ol f hf).1
  obtain ⟨fs,ef,cf,lk,lf⟩:=b60 (V:=V) (C:=C) cA.cG cB.cG (vA.row hV hC) (vB.row hV hC) hV (by ext hC) vA.bd vB.bd (by ext hm lA lB)
  have mf:=mA.merge mB lk
  rw [n8] at mf
  refine ⟨fs,Wo.eq (W.mpr ?_),cf,mf,by ext lA lB lf⟩
  unfold Gl
  walk_at "v1"
  refine ny ?_ ?_
  .walk_at "vc"
   rw [aQ]
   ext hlen
  walk_at "v1"
  rw [aQ,hk,LB,LB,b87 _ (by ext wR),b88 _ (by ext wR)]
  walk_at "v1"
  refine ⟨vY (by decide) (by decide),?_⟩
  rw [ea]
  walk_at "v1"
  rw [eb]
  walk_at "v1"
  rw [ef]
  walk_at "vc"
noncomputable def fl:List (Int×Int)->Int->Int
 | [],_=>0
 | p::L,t=>if t<=p.2 then p.1*t else p.1*p.2+fl L (t-p.2)
noncomputable def gl:List (Int×Int)->Int->Int
 | [],_=>0
 | p::L,l=>p.2*min 0 (p.1-l)+gl L l
noncomputable def tw:List (Int×Int)->Int
 | []=>0
 | p::L=>p.2+tw L
def Wd(L:List (Int×Int)):Prop:=∀p∈L,0<=p.2
theorem Wd.tl{p:Int×Int}{L:List (Int×Int)}(h:Wd (p::L)):0<=p.2/\Wd L:=⟨h p (bw ..),λq hq=>h q (bG _ hq)⟩
theorem EA:∀{L:List (Int×Int)},Wd L->0<=tw L
 | [],_=>cD _
 | p::L,h=>by have:=EA h.tl.2;have:=h.tl.1;unfold tw;lia
theorem QK{l:Int}:∀{L:List (Int×Int)},(∀p∈L,l<=p.1)->gl L l=0
 | [],_=>rfl
 | p::L,h=>by
  have:=h p (bw ..)
  unfold gl
  rw [QK λq hq=>h q (bG _ hq),show min 0 (p.1-l)=0 by ext this]
  simp
def Up(L:List (Int×Int)):Prop:=L.Pairwise λa b=>a.1<=b.1
theorem PH:∀{L:List (Int×Int)},L≠[]->Wd L->Up L->∀{t:Int},0<=t->t<=tw L->∃p∈L,fl L t=p.1*t+gl L p.1
 | [],h,_,_,_,_,_=>(h rfl).elim
 | p::L,_,h,hu,t,h0,h1=>by
  obtain ⟨De,Ho⟩:=iM.mp hu
  have nX:t<=p.2+tw L:=h1
  by_cases ht:t<=p.2
  .refine ⟨p,bw ..,?_⟩
   unfold fl
   rw [if_pos ht,QK (l:=p.1)]
   .ext
   .intro q hq
    rcases br.mp hq with rfl | hq
    .exact cD _
    .exact De q hq
  .have hn:L≠[]:=λz=>by subst z;simp [tw] at nX;ext ht nX
   obtain ⟨q,hq,e⟩:=PH hn h.tl.2 Ho (t:=t-p.2) (by ext ht) (by ext nX)
   refine ⟨q,bG _ hq,?_⟩
   have YZ:=De q hq
   unfold fl gl
   rw [if_neg ht,e,show min 0 (p.1-q.1)=p.1-q.1 by ext YZ,A9,A9,IK p.2 p.1,IK p.2 q.1]
   ext
noncomputable def cs:List (Int×Int)->Int
 | []=>0
 | p::L=>p.1*p.2+cs L
theorem KD{L:List (Int×Int)}(h:Wd L):fl L 0=0:=by
 cases L with
 | nil=>rfl
 | cons r P=>unfold fl;rw [if_pos h.tl.1];simp
theorem b7P(L M:List (Int×Int)):tw (L++M)=tw L+tw M:=by
 induction L with
 | nil=>show tw M=0+tw M;ext
 | cons p L ih=>show p.2+tw (L++M)=p.2+tw L+tw M;ext ih
theorem b89(L M:List (Int×Int)):cs (L++M)=cs L+cs M:=by
 induction L with
 | nil=>show cs M=0+cs M;ext
 | cons p L ih=>show p.1*p.2+cs (L++M)=p.1*p.2+cs L+cs M;ext ih
noncomputable def jY(q:Int×Int)(x p:Int):List Row:=if q.2>0 then [(x+1,x+q.2,p+q.1,q.1)] else []
noncomputable def mk:List (Int×Int)->Int->Int->List Row
 | [],_,_=>[]
 | q::L,x,p=>jY q x p++mk L (x+q.2) (p+q.1*q.2)
theorem P6:∀(L:List (Int×Int)) (q:Int×Int) (x p:Int),mk (L++[q]) x p=mk L x p++jY q (x+tw L) (p+cs L)
 | [],q,x,p=>by show jY q x p++[]=[]++jY q (x+0) (p+0);simp
 | r::L,q,x,p=>by
  show jY r x p++mk (L++[q]) (x+r.2) (p+r.1*r.2)=(jY r x p++mk L (x+r.2) (p+r.1*r.2))++jY q (x+(r.2+tw L)) (p+(r.1*r.2+cs L))
  rw [P6 L q,fJ,show x+r.2+tw L=x+(r.2+tw L) by ext,show p+r.1*r.2+cs L=p+(r.1*r.2+cs L) by ext]
theorem Ru{A B:List Row}{x c:Int}:Val (A++B) x c↔Val A x c\/Val B x c:=by
 unfold Val
 constructor
 .rintro ⟨r,hr,h⟩
  rcases bW.mp hr with hr | hr
  .exact .inl ⟨r,hr,h⟩
  .exact .inr ⟨r,hr,h⟩
 .rintro (⟨r,hr,h⟩ | ⟨r,hr,h⟩)
  .exact ⟨r,gv _ hr,h⟩
  .exact ⟨r,gi _ hr,h⟩
theorem b6x{q:Int×Int}{x p y c:Int}:Val (jY q x p) y c↔x<y/\y<=x+q.2/\c=p+q.1*(y-x):=by
 unfold jY Val
 have e:∀y,Row.at (x+1,x+q.2,p+q.1,q.1) y=p+q.1*(y-x):=λy=>by
  show p+q.1+q.1*(y-(x+1))=_
  rw [show y-(x+1)=(y-x)-1 by ext,A9,DC]
  ext
 split
 .constructor
  .rintro ⟨r,hr,h1,h2,h3⟩
   rw [bY.mp hr] at h1 h2 h3
   rw [e] at h3
   dsimp only at h1 h2
   exact ⟨by ext h1,h2,h3⟩
  .rintro ⟨h1,h2,h3⟩
   exact ⟨_,bY.mpr rfl,by dsimp only;ext h1,h2,by rw [e];exact h3⟩
 .constructor
  .rintro ⟨r,hr,_⟩
   exact absurd hr (gq)
  .rintro ⟨h1,h2,h3⟩
   lia
theorem P8:∀{L:List (Int×Int)},Wd L->∀{x p y c:Int},Val (mk L x p) y c↔x<y/\y<=x+tw L/\c=p+fl L (y-x)
 | [],_,x,p,y,c=>by
  constructor
  .rintro ⟨r,hr,_⟩
   exact absurd hr (gq)
  .rintro ⟨h1,h2,h3⟩
   have:y<=x+0:=h2
   ext _ h1 this
 | q::L,h,x,p,y,c=>by
  have hq:=h.tl.1
  have hP:=EA h.tl.2
  show Val (jY q x p++mk L (x+q.2) (p+q.1*q.2)) y c↔x<y/\y<=x+(q.2+tw L)/\_
  rw [Ru,b6x,P8 h.tl.2,show fl (q::L) (y-x)=if y-x<=q.2 then q.1*(y-x) else q.1*q.2+fl L (y-x-q.2) from rfl]
  by_cases hy:y-x<=q.2
  .rw [if_pos hy]
   constructor
   .rintro (⟨h1,h2,h3⟩ | ⟨h1,h2,h3⟩)
    .exact ⟨h1,by ext hP hy,h3⟩
    .ext hy h1
   .rintro ⟨h1,h2,h3⟩
    exact .inl ⟨h1,by ext hy,h3⟩
  .rw [if_neg hy,show y-(x+q.2)=y-x-q.2 by ext]
   constructor
   .rintro (⟨h1,h2,h3⟩ | ⟨h1,h2,h3⟩)
    .ext hy h2
    .exact ⟨by ext hq hy,by ext h2,by ext h3⟩
   .rintro ⟨h1,h2,h3⟩
    exact .inr ⟨by ext hy,by ext h2,by ext h3⟩
noncomputable def Sh:List (List Row)->Int->Int->Prop
 | [],x,c=>x=0/\c=0
 | F::Fs,x,c=>∃y cy z cz,Val F y cy/\Sh Fs z cz/\y+z=x/\cy+cz=c
def Jn(Fs:List (List Row))(x c:Int):Prop:=Sh Fs x c/\∀c',Sh Fs x c'->c<=c'
noncomputable def St:List (Int×Int)->Int->Int->Prop
 | [],t,k=>t=0/\k=0
 | q::L,t,k=>∃a u v,(0<=a/\a<=q.2)/\St L u v/\a+u=t/\q.1*a+v=k
theorem St.nZ:∀{L:List (Int×Int)} {t k:Int},St L t k->0<=t/\t<=tw L
 | [],t,k,h=>by unfold tw;have:=h.1;ext this
 | q::L,t,k,⟨a,u,v,ha,h,e,_⟩=>by have:=St.nZ h;unfold tw;ext ha e this
theorem St.ge:∀{L:List (Int×Int)} {t k:Int},St L t k->∀l,l*t+gl L l<=k
 | [],t,k,⟨h1,h2⟩,l=>by subst h1 h2;unfold gl;simp
 | q::L,t,k,⟨a,u,v,ha,h,e1,e2⟩,l=>by
  have i:=St.ge h l
  subst e1 e2
  unfold gl
  have m:q.2*min 0 (q.1-l)<=(q.1-l)*a:=by
   by_cases hs:0<=q.1-l
   .rw [Int.min_eq_left hs,Jb]
    exact oU hs ha.1
   .rw [Int.min_eq_right (by ext hs),IK]
    exact Int.mul_le_mul_of_nonpos_left (by ext hs) ha.2
  rw [Int.mul_add]
  rw [Int.sub_mul] at m
  ext i m
theorem St.fl:∀{L:List (Int×Int)},Wd L->∀{t:Int},0<=t->t<=tw L->St L t (fl L t)
 | [],_,t,h0,h1=>⟨by unfold tw at h1;ext h0 h1,rfl⟩
 | q::L,h,t,h0,h1=>by
  obtain ⟨hq,hL⟩:=h.tl
  unfold My.fl
  unfold tw at h1
  by_cases ht:t<=q.2
  .rw [if_pos ht]
   have:=St.fl hL (t:=0) (cD _) (EA hL)
   rw [KD hL] at this
   exact ⟨t,0,0,⟨h0,ht⟩,this,by ext,by ext⟩
  .rw [if_neg ht]
   exact ⟨q.2,t-q.2,_,⟨hq,cD _⟩,St.fl hL (by ext ht) (by ext h1),by ext,rfl⟩
theorem St.perm{L M:List (Int×Int)}(h:L.Perm M):∀{t k:Int},St L t k->St M t k:=by
 induction h with
 | nil=>exact id
 | cons q _ ih=>rintro t k ⟨a,u,v,ha,h,e1,e2⟩;exact ⟨a,u,v,ha,ih h,e1,e2⟩
 | swap q p L =>
  rintro t k ⟨a,u,v,ha,⟨b,u',v',hb,h,rfl,rfl⟩,rfl,rfl⟩
  exact ⟨b,a+u',p.1*a+v',hb,⟨a,u',v',ha,h,rfl,rfl⟩,by ext,by ext⟩
 | trans _ _ i1 i2=>intro t k h;exact i2 (i1 h)
theorem St.least{L:List (Int×Int)}(hn:L≠[])(hw:Wd L)(hu:Up L){t k:Int}(h:St L t k):My.fl L t<=k:=by
 obtain ⟨d1,d2⟩:=h.nZ
 obtain ⟨p,_,e⟩:=PH hn hw hu d1 d2
 have:=h.ge p.1
 ext e this
noncomputable def uu(r:Row):Int:=r.2.1-r.1
noncomputable def pk(r:Row):Int×Int:=(r.2.2.2,uu r)
noncomputable def X0(R:List Row):Int:=(R.map λr=>r.1).sum
noncomputable def P0(R:List Row):Int:=(R.map λr=>r.2.2.1).sum
noncomputable def one(R:List Row):List (List Row):=R.map λr=>[r]
theorem fZ:∀{R:List Row} {x c:Int},Sh (one R) x c↔St (R.map pk) (x-X0 R) (c-P0 R)
 | [],x,c=>by unfold one X0 P0;simp [Sh,St]
 | r::R,x,c=>by
  have ih:=@fZ R
  constructor
  .rintro ⟨y,cy,z,cz,⟨q,hq,h1,h2,h3⟩,h,e1,e2⟩
   rw [bY.mp hq] at h1 h2 h3
   refine ⟨y-r.1,z-X0 R,cz-P0 R,⟨by ext h1,by show _<=uu r;unfold uu;ext h2⟩,ih.mp h,?_,?_⟩
   .unfold X0;rw [fg,vm];ext e1
   .unfold P0;rw [fg,vm]
    show r.2.2.2*(y-r.1)+_=_
    unfold Row.at at h3
    ext h3 e2
  .rintro ⟨a,u,v,ha,h,e1,e2⟩
   have Oh:a<=uu r:=ha.2
   unfold uu at Oh
   unfold X0 at e1
   unfold P0 at e2
   rw [fg,vm] at e1 e2
   refine ⟨r.1+a,r.2.2.1+r.2.2.2*a,X0 R+u,P0 R+v,⟨r,bY.mpr rfl,by ext ha,by ext Oh,?_⟩,ih.mpr ?_,?_,?_⟩
   .unfold Row.at
    rw [show r.1+a-r.1=a by ext]
   .rw [show X0 R+u-X0 R=u by ext,show P0 R+v-P0 R=v by ext];exact h
   .unfold X0;ext e1
   .unfold P0
    have e2:r.2.2.2*a+v=c-(r.2.2.1+(R.map λr=>r.2.2.1).sum):=e2
    ext e2
noncomputable def prod:List (List Row)->List (List Row)
 | []=>[[]]
 | F::Fs=>F.flatMap λr=>(prod Fs).map λR=>r::R
theorem cI:∀{Fs:List (List Row)} {x c:Int},Sh Fs x c↔∃R∈prod Fs,Sh (one R) x c
 | [],x,c=>by unfold prod;simp [one,Sh]
 | F::Fs,x,c=>by
  constructor
  .rintro ⟨y,cy,z,cz,⟨r,hr,h1,h2,h3⟩,h,e1,e2⟩
   obtain ⟨R,hR,k⟩:=cI.mp h
   exact ⟨r::R,j0.mpr ⟨r,hr,cF.mpr ⟨R,hR,rfl⟩⟩,y,cy,z,cz,⟨r,bY.mpr rfl,h1,h2,h3⟩,k,e1,e2⟩
  .rintro ⟨S,hS,k⟩
   obtain ⟨r,hr,hS⟩:=j0.mp hS
   obtain ⟨R,hR,rfl⟩:=cF.mp hS
   obtain ⟨y,cy,z,cz,⟨q,hq,h1,h2,h3⟩,h,e1,e2⟩:=k
   rw [bY.mp hq] at h1 h2 h3
   exact ⟨y,cy,z,cz,⟨r,hr,h1,h2,h3⟩,cI.mpr ⟨R,hR,h⟩,e1,e2⟩
theorem Lb:∀{Fs:List (List Row)} {R:List Row},R∈prod Fs->R.length=Fs.length/\∀r∈R,∃F∈Fs,r∈F
 | [],R,h=>by
  rw [bY.mp h]
  exact ⟨rfl,λr z=>nomatch z⟩
 | F::Fs,S,h=>by
  obtain ⟨r,hr,hS⟩:=j0.mp h
  obtain ⟨R,hR,rfl⟩:=cF.mp hS
  obtain ⟨i1,i2⟩:=Lb hR
  refine ⟨by simp [i1],λq hq=>?_⟩
  rcases br.mp hq with rfl | hq
  .exact ⟨F,bw ..,hr⟩
  .obtain ⟨G,hG,k⟩:=i2 q hq
   exact ⟨G,bG _ hG,k⟩
theorem b6F{Fs:List (List Row)}{φ:List Row->List Row}{f:List Row}(hp:∀R∈prod Fs,∀x c,look (φ R) x=some c↔Jn (one R) x c)(hx:∀R∈prod Fs,∀x c,Sh (one R) x c->∃m,Jn (one R) x m)
  (hm:∀x v,look f x=some v↔(∃R∈prod Fs,look (φ R) x=some v)/\∀R∈prod Fs,∀w,look (φ R) x=some w->v<=w)(x c:Int):look f x=some c↔Jn Fs x c:=by
 rw [hm]
 constructor
 .rintro ⟨⟨R,hR,e⟩,m⟩
  refine ⟨cI.mpr ⟨R,hR,((hp R hR x c).mp e).1⟩,λc' h'=>?_⟩
  obtain ⟨S,hS,k⟩:=cI.mp h'
  obtain ⟨v,hv⟩:=hx S hS x c' k
  have:=m S hS v ((hp S hS x v).mpr hv)
  have:=hv.2 c' k
  lia
 .rintro ⟨h,m⟩
  obtain ⟨R,hR,k⟩:=cI.mp h
  refine ⟨⟨R,hR,(hp R hR x c).mpr ⟨k,λc' h'=>m c' (cI.mpr ⟨R,hR,h'⟩)⟩⟩,λS hS w e=>m w (cI.mpr ⟨S,hS,((hp S hS x w).mp e).1⟩)⟩
def CB(q:Int×Int):Prop:=(-(2*10^130)<=q.1/\q.1<=2*10^130)/\(0<=q.2/\q.2<=2*10^60)/\(-(2*10^130)<=q.1*q.2/\q.1*q.2<=2*10^130)
def SW(L:List (Int×Int)):Prop:=∀q∈L,CB q
theorem SW.wd{L:List (Int×Int)}(h:SW L):Wd L:=λq hq=>(h q hq).2.1.1
theorem SW.tl{p:Int×Int}{L:List (Int×Int)}(h:SW (p::L)):CB p/\SW L:=⟨h p (bw ..),λq hq=>h q (bG _ hq)⟩
theorem J0:∀{L:List (Int×Int)},SW L->0<=tw L/\tw L<=L.length*(2*10^60)
 | [],_=>by show 0<=(0:Int)/\(0:Int)<=_;simp
 | p::L,h=>by
  have:=J0 h.tl.2
  have hq:=h.tl.1
  unfold CB at hq
  show 0<=p.2+tw L/\p.2+tw L<=((L.length+1:Nat):Int)*(2*10^60)
  omega
theorem xC:∀{L:List (Int×Int)},SW L->∀{x p:Int} {r:Row},r∈mk L x p->(x<r.1/\r.1<=r.2.1/\r.2.1<=x+tw L)/\(-(L.length*(2*10^130))<=r.2.2.1-p/\r.2.2.1-p<=L.length*(2*10^130))/\(-(2*10^130)<=r.2.2.2/\r.2.2.2<=2*10^130)
 | [],_,x,p,r,hr=>absurd hr gq
 | q::L,h,x,p,r,hr=>by
  have hq:=h.tl.1
  unfold CB at hq
  have hP:=(J0 h.tl.2).1
  have hm:=hq.2.2
  show _/\(-(((L.length+1:Nat):Int)*(2*10^130))<=_/\_<=((L.length+1:Nat):Int)*(2*10^130))/\_
  rw [show tw (q::L)=q.2+tw L from rfl]
  rcases bW.mp (show r∈jY q x p++mk L (x+q.2) (p+q.1*q.2) from hr) with hr | hr
  .unfold jY at hr
   split at hr
   .rw [bY.mp hr]
    dsimp only
    omega
   .exact absurd hr gq
  .have:=xC h.tl.2 hr
   generalize q.1*q.2=z at *
   omega
theorem P7:∀{L:List (Int×Int)},SW L->∀(x p:Int),cN (mk L x p)
 | [],_,x,p=>⟨λ_ z=>absurd z gq,.nil⟩
 | q::L,h,x,p=>by
  refine ⟨λr hr=>(xC h hr).1.2.1,?_⟩
  show (jY q x p++mk L (x+q.2) (p+q.1*q.2)).Pairwise _
  refine gU.mpr ⟨?_,(P7 h.tl.2 _ _).2,λa ha b hb=>?_⟩
  .unfold jY
   split
   .exact tP _ _
   .exact .nil
  .have:=(xC h.tl.2 hb).1.1
   unfold jY at ha
   split at ha
   .rw [bY.mp ha]
    exact this
   .exact absurd ha gq
noncomputable def sQ(L:List (Int×Int))(x p:Int):List Row:=(x,x,p,0)::mk L x p
theorem b6w{L:List (Int×Int)}(h:SW L)(x p:Int):cN (sQ L x p):=by
 refine ⟨λr hr=>?_,iM.mpr ⟨λr hr=>(xC h hr).1.1,(P7 h x p).2⟩⟩
 rcases br.mp hr with rfl | hr
 .exact cD _
 .exact (xC h hr).1.2.1
theorem b6v{L:List (Int×Int)}(h:Wd L){x p y c:Int}:Val (sQ L x p) y c↔x<=y/\y<=x+tw L/\c=p+fl L (y-x):=by
 have hP:=EA h
 rw [show sQ L x p=[(x,x,p,0)]++mk L x p from rfl,Ru,P8 h]
 have e:Val [(x,x,p,0)] y c↔y=x/\c=p:=by
  unfold Val
  constructor
  .rintro ⟨r,hr,h1,h2,h3⟩
   rw [bY.mp hr] at h1 h2 h3
   unfold Row.at at h3
   dsimp only at h1 h2 h3
   exact ⟨by ext h1 h2,by ext h3⟩
  .rintro ⟨rfl,rfl⟩
   exact ⟨_,bY.mpr rfl,cD _,cD _,by unfold Row.at;simp⟩
 rw [e]
 constructor
 .rintro (⟨rfl,rfl⟩ | ⟨h1,h2,h3⟩)
  .refine ⟨cD _,by ext hP,?_⟩
   rw [Du,KD h]
   ext
  .exact ⟨by ext h1,h2,h3⟩
 .rintro ⟨h1,h2,h3⟩
  by_cases hy:y=x
  .subst hy
   rw [Du,KD h] at h3
   exact .inl ⟨rfl,by ext h3⟩
  .exact .inr ⟨by ext h1 hy,h2,h3⟩
theorem b4D(r:Row):uf [r.d]=some (.sh (.int r.2.2.2)):=by
 refine Wo.eq (oA.mpr ?_)
 unfold LW
 rw [dr]
 walk_at "vc"
def PB(r:Row):Prop:=r.1<=r.2.1/\(-(10^60)<=r.1/\r.2.1<=10^60)/\(-(10^130)<=r.2.2.1/\r.2.2.1<=10^130)/\(-(10^130)<=r.at r.2.1/\r.at r.2.1<=10^130)/\(-(2*10^130)<=r.2.2.2/\r.2.2.2<=2*10^130)
theorem RL:∀(R:List Row),ku uf (R.map Row.d)=some (R.map λr=>r.2.2.2)
 | []=>rfl
 | r::R=>by
  show (match uf [r.d] with | some (.sh (.int k))=>(ku uf (R.map Row.d)).map λks=>k::ks | _=>none)=_
  rw [b4D,RL R]
  rfl
noncomputable def fG(R:List Row):List Row:=cu (R.map λr=>r.2.2.2) (0,0,0,0) R
theorem yD(R:List Row):cu (R.map λr=>r.2.2.2) D.aR (R.map Row.d)=(fG R).map Row.d:=by
 unfold fG cu
 rw [aQ]
 by_cases h2:R.length<2
 .rw [if_pos h2,if_pos h2]
 rw [if_neg h2,if_neg h2,cJ]
 refine Eg λi hi=>?_
 have hi:i<R.length:=oV.mp ((KS.eu (λi=>(R.map λr=>r.2.2.2).getD i 0) R.length (by ext h2)).1.mem_iff.mp hi)
 simp [hi]
theorem B1(R:List Row):(fG R).Perm R:=LM _ _ R
theorem b72(R:List Row):Up ((fG R).map pk):=by
 unfold fG cu Up
 by_cases h2:R.length<2
 .rw [if_pos h2]
  cases R with
  | nil=>exact .nil
  | cons a t =>
   cases t with
   | nil=>exact tP _ _
   | cons b t=>simp at h2;ext _ h2
 rw [if_neg h2,cJ,rO]
 have S:=KS.eu (λi=>(R.map λr=>r.2.2.2).getD i 0) R.length (by ext h2)
 refine List.Pairwise.imp_of_mem (λ{i j} hi hj h=>?_) S.2
 have hi:i<R.length:=oV.mp (S.1.mem_iff.mp hi)
 have hj:j<R.length:=oV.mp (S.1.mem_iff.mp hj)
 simp [hi,hj] at h
 simpa [pk,hi,hj] using h
theorem PB.sw{R:List Row}(h:∀r∈R,PB r):SW (R.map pk):=λq hq=>by
 obtain ⟨r,hr,rfl⟩:=cF.mp hq
 have:=h r hr
 unfold PB at this
 unfold CB pk uu
 dsimp only
 unfold Row.at at this
 ext this
theorem PY:∀{R:List Row},(∀r∈R,PB r)->(-(R.length*10^60)<=X0 R/\X0 R<=R.length*10^60)/\(-(R.length*10^130)<=P0 R/\P0 R<=R.length*10^130)
 | [],_=>by simp [X0,P0]
 | r::R,h=>by
  have ih:=PY λq hq=>h q (bG _ hq)
  have:=h r (bw ..)
  unfold PB at this
  unfold X0 P0 at *
  simp only [fg,vm,gh]
  omega
theorem b8u{L:List (Int×Int)}(h:SW L)(hl:L.length<=6){x p:Int}(hx:-(10^62)<=x/\x<=10^62)(hp:-(10^132)<=p/\p<=10^132):∀r∈sQ L x p,aB (10^140) r:=λr hr=>by
 have ht:=J0 h
 unfold aB
 rcases br.mp hr with rfl | hr
 .dsimp only
  ext hx hp
 .have:=xC h hr
  omega
theorem EN:∀(L:List (Int×Int)) (x p:Int),(mk L x p).length<=L.length
 | [],_,_=>bo _
 | q::L,x,p=>by
  have:=EN L (x+q.2) (p+q.1*q.2)
  show (jY q x p++mk L (x+q.2) (p+q.1*q.2)).length<=L.length+1
  rw [cX]
  unfold jY
  split<;>simp<;>ext this
theorem b8Z{R:List Row}(h:∀r∈R,PB r)(h6:R.length<=6){ro:Bool}:∃fs:List Row,wj [.lst ro (R.map Row.d)]=some (.sh (.tup (fs.map Row.d)))/\Laid (sQ ((fG R).map pk) (X0 R) (P0 R)) fs:=by
 have hs:∀r∈fG R,PB r:=λr hr=>h r ((B1 R).mem_iff.mp hr)
 have hS:=PB.sw hs
 have kE:(fG R).length=R.length:=(B1 R).length_eq
 have hx:=PY h
 obtain ⟨fs,ef,LD⟩:=EJ (b6w hS (X0 R) (P0 R)) (b8u hS (by rw [aQ];ext h6 kE) (by lia) (by lia)) (by
  have:=EN ((fG R).map pk) (X0 R) (P0 R)
  rw [aQ] at this
  show _+1<=_
  ext h6 kE this) (ro:=false)
 refine ⟨fs,?_,LD⟩
 refine Wo.eq (qg.mpr ?_)
 unfold K8
 walk_at "v1"
 rw [lg Row.d (λr=>.int r.1) (λe=>∃x0,e=[x0]) R (λr hr e he=>?_) ⟨_,rfl⟩]
 .rw [show R.map (λr=>D.int r.1)=(R.map λr=>r.1).map D.int by rw [cJ];rfl]
  walk_at "v1"
  refine ⟨by rw [aQ];ext h6,by rw [aQ];ext h6,?_⟩
  rw [lg Row.d (λr=>.int r.2.2.1) (λe=>∃x0,e=[x0]) R (λr hr e he=>?_) ⟨_,rfl⟩]
  .rw [show R.map (λr=>D.int r.2.2.1)=(R.map λr=>r.2.2.1).map D.int by rw [cJ];rfl]
   walk_at "v1"
   rw [b3f (r:=ro) (ds:=R.map Row.d) (by rfl) (RL R) (by rw [aQ];ext h6),yD R]
   walk_at "v1"
   rw [show (R.map λr=>r.1).sum=X0 R from rfl,show (R.map λr=>r.2.2.1).sum=P0 R from rfl]
   refine iZ Row.d (λpre env=>∃x4 x5,env=[.sh (.lst ro (R.map Row.d)),.sh (.int (X0 R+tw (pre.map pk))),.sh (.int (P0 R+cs (pre.map pk))),.ow ((sQ (pre.map pk) (X0 R) (P0 R)).map Row.d),x4,x5]) (fG R) (λpre r post env e hI=>?_) (λenv hI=>?_) ⟨.no,.no,?_⟩
   .obtain ⟨x4,x5,rfl⟩:=hI
    have hr:=hs r (by rw [e];simp)
    have dk:pre.length<=6:=by rw [<-kE,e,cX] at h6;ext h6
    have N4:=EN (pre.map pk) (X0 R) (P0 R)
    rw [aQ] at N4
    unfold PB at hr
    have hm:MulC r.2.2.2 (r.2.1-r.1):=ub (by ext hr) (by ext hr) (by ext hr) (by ext hr)
    rw [dr]
    walk_at "v1"
    rw [eR,OZ,b7P,b89]
    unfold sQ
    rw [P6]
    generalize hM:mk (pre.map pk) (X0 R) (P0 R)=M at *
    generalize tw (pre.map pk)=T at *
    generalize cs (pre.map pk)=C at *
    rw [show tw [pk r]=r.2.1-r.1 by show (r.2.1-r.1)+0=_;ext,show cs [pk r]=r.2.2.2*(r.2.1-r.1) by show r.2.2.2*(r.2.1-r.1)+0=_;ext]
    unfold jY pk uu
    dsimp only
    generalize hW:r.2.1-r.1=W at *
    refine Wo.mono (P:=λq=>q=(.nx,[.sh (.lst ro (R.map Row.d)),.sh (.int (X0 R+T)),.sh (.int (P0 R+C)),.ow (((X0 R,X0 R,P0 R,0)::(M++if W>0 then [(X0 R+T+1,X0 R+T+W,P0 R+C+r.2.2.2,r.2.2.2)] else [])).map Row.d),.sh r.d,.sh (.int W)])) ?_ λq hq=>?_
    .rw [a2Y,dr r]
     walk_at "vc"
     refine ⟨λh=>?_,λh=>?_⟩
     .rw [if_pos h]
      refine ⟨by rw [aQ,gh];ext dk N4,?_⟩
      rw [<-Eh,eR (l₂:=[(X0 R+T+1,X0 R+T+W,P0 R+C+r.2.2.2,r.2.2.2)])]
      rfl
     .rw [if_neg h,nk]
    subst hq
    rw [dr r]
    walk_at "vc"
    rw [show X0 R+(T+W)=X0 R+T+W by ext,show P0 R+(C+r.2.2.2*W)=P0 R+C+r.2.2.2*W by ext]
    exact ⟨hm,_,_,rfl⟩
   .obtain ⟨x4,x5,rfl⟩:=hI
    walk_at "v1"
    rw [Qo,PJ (by rfl)]
    walk_at "v1"
    rw [ef]
    walk_at "vc"
   .show _=[_,Sl.sh (D.int (X0 R+0)),Sl.sh (D.int (P0 R+0)),Sl.ow [Row.d (X0 R,X0 R,P0 R,0)],_,_]
    rw [Dt,Dt]
    rfl
  .obtain ⟨x0,rfl⟩:=he
   rw [dr]
   walk_at "vc"
   exact ⟨_,rfl⟩
 .obtain ⟨x0,rfl⟩:=he
  rw [dr]
  walk_at "vc"
  exact ⟨_,rfl⟩
theorem y2{r:Row}(h:PB r){y:Int}(h1:r.1<=y)(h2:y<=r.2.1):-(10^130)<=r.at y/\r.at y<=10^130:=by
 unfold PB at h
 unfold Row.at at *
 by_cases hs:0<=r.2.2.2
 .have:=oU hs (show 0<=y-r.1 by ext h1)
  have:=oU hs (show 0<=r.2.1-y by ext h2)
  simp only [A9] at *
  omega
 .have:=oU (show 0 <= -r.2.2.2 by ext hs) (show 0<=y-r.1 by ext h1)
  have:=oU (show 0 <= -r.2.2.2 by ext hs) (show 0<=r.2.1-y by ext h2)
  simp only [Int.neg_mul,A9] at *
  omega
theorem PZ:∀{R:List Row},(∀r∈R,PB r)->∀{x c:Int},Sh (one R) x c->(-(R.length*10^60)<=x/\x<=R.length*10^60)/\(-(R.length*10^130)<=c/\c<=R.length*10^130)
 | [],_,x,c,h=>by
  obtain ⟨rfl,rfl⟩:=h
  simp
 | r::R,hb,x,c,⟨y,cy,z,cz,⟨q,hq,k1,k2,k3⟩,h,e1,e2⟩=>by
  have i:=PZ (λq hq=>hb q (bG _ hq)) h
  have hr:=hb r (bw ..)
  rw [bY.mp hq] at k1 k2 k3
  have a:=y2 hr k1 k2
  unfold PB at hr
  rw [gh]
  omega
theorem b6W{R:List Row}(h:∀r∈R,PB r)(h6:R.length<=6){ro:Bool}:∃fs:List Row,wj [.lst ro (R.map Row.d)]=some (.sh (.tup (fs.map Row.d)))/\Canon fs/\fs.length<=R.length+1/\(∀x c,look fs x=some c↔Jn (one R) x c)/\∀x c,Sh (one R) x c->∃m,Jn (one R) x m:=by
 obtain ⟨fs,ef,LD⟩:=b8Z h h6 (ro:=ro)
 have hs:∀r∈fG R,PB r:=λr hr=>h r ((B1 R).mem_iff.mp hr)
 have hS:=PB.sw hs
 have kE:(fG R).length=R.length:=(B1 R).length_eq
 have lst:∀{t k:Int},St ((fG R).map pk) t k->fl ((fG R).map pk) t<=k:=λ{t k} hk=>by
  by_cases bI:(fG R).map pk=[]
  .rw [bI] at hk ⊢
   obtain ⟨_,rfl⟩:=hk
   exact cD _
  .exact hk.least bI hS.wd (b72 R)
 have hp:((fG R).map pk).Perm (R.map pk):=(B1 R).map pk
 have j:∀x c,Jn (one R) x c↔X0 R<=x/\x<=X0 R+tw ((fG R).map pk)/\c=P0 R+fl ((fG R).map pk) (x-X0 R):=λx c=>by
  constructor
  .rintro ⟨k,m⟩
   have k':=(fZ.mp k).perm hp.symm
   have d:=k'.nZ
   have f:=St.fl hS.wd d.1 d.2
   have:=m (P0 R+fl ((fG R).map pk) (x-X0 R)) (fZ.mpr (by rw [show P0 R+fl ((fG R).map pk) (x-X0 R)-P0 R=fl ((fG R).map pk) (x-X0 R) by ext];exact f.perm hp))
   have:=lst k'
   exact ⟨by ext d,by ext d,by lia⟩
  .rintro ⟨k1,k2,rfl⟩
   refine ⟨fZ.mpr (by rw [show P0 R+fl ((fG R).map pk) (x-X0 R)-P0 R=fl ((fG R).map pk) (x-X0 R) by ext];exact (St.fl hS.wd (by ext k1) (by ext k2)).perm hp),λc' k=>?_⟩
   have:=lst ((fZ.mp k).perm hp.symm)
   ext this
 refine ⟨fs,ef,LD.canon,?_,λx c=>?_,λx c k=>?_⟩
 .have:=LD.len
  have l2:=EN ((fG R).map pk) (X0 R) (P0 R)
  rw [aQ] at l2
  have l3:(sQ ((fG R).map pk) (X0 R) (P0 R)).length=(mk ((fG R).map pk) (X0 R) (P0 R)).length+1:=rfl
  ext kE this l2 l3
 .rw [gM LD.canon.cG,LD.val,b6v hS.wd,j]
 .have d:=((fZ.mp k).perm hp.symm).nZ
  exact ⟨_,(j x _).mpr ⟨by ext d,by ext d,rfl⟩⟩
theorem BB{i:Nat}{m n:Int}{f:En->Option Sl}{env:En}{Q:Fl×En->Prop}(e1:env[i]?=some (.sh (.int m)))(e2:f env=some (.sh (.int n)))(hc:lD m n)(h:Q (.nx,env.set i (.sh (.int (m*n))))):Wo (ED i f env) Q:=
 ⟨_,by unfold ED EC;rw [e1];dsimp only;rw [e2];dsimp only;rw [if_pos hc],h⟩
noncomputable def qu(R:List Row):D:=.lst false (R.map Row.d)
noncomputable def mi(F:List Row):D:=.tup (F.map Row.d)
noncomputable def np(Fs:List (List Row)):Nat:=(Fs.map mn).foldl (·*·) 1
theorem Q6(Fs:List (List Row))(F:List Row):np (Fs++[F])=np Fs*F.length:=by
 unfold np;rw [eR,Ba];rfl
theorem QT{Fs:List (List Row)}(h:∀F∈Fs,F.length<=900000){ro:Bool}:yi [.lst ro (Fs.map mi)]=some (.sh (.int (np Fs))):=by
 refine Wo.eq (gj.mpr ?_)
 unfold MY
 walk_at "v1"
 refine iZ mi (λpre env=>∃x2,env=[.sh (.lst ro (Fs.map mi)),.sh (.int (np pre)),x2]) Fs (λpre F post env e hI=>?_) (λenv hI=>?_) ⟨_,rfl⟩
 .obtain ⟨x2,rfl⟩:=hI
  have hF:=h F (by rw [e];simp)
  rw [show mi F=.tup (F.map Row.d) from rfl]
  walk_at "v1"
  refine BB (m:=np pre) (n:=F.length) rfl (by show some (Sl.sh (.int ((F.map Row.d).length:Int)))=_;rw [aQ]) (.inr ⟨by ext,by ext hF⟩) ?_
  rw [Q6,Int.natCast_mul]
  exact ⟨_,rfl⟩
 .obtain ⟨x2,rfl⟩:=hI
  walk_at "vc"
noncomputable def oJ(W:List (List Row))(F:List Row):List (List Row):=W.flatMap λR=>F.map λr=>R++[r]
noncomputable def lG(Fs:List (List Row)):List (List Row):=Fs.foldl oJ [[]]
theorem b3P(Fs:List (List Row))(F:List Row):lG (Fs++[F])=oJ (lG Fs) F:=by
 unfold lG;rw [Ba];rfl
theorem b3Q(W:List (List Row))(R F:List Row):oJ (W++[R]) F=oJ W F++F.map λr=>R++[r]:=by
 unfold oJ
 rw [Jf]
 simp
theorem ET(F:List Row):∀W:List (List Row),(oJ W F).length=W.length*F.length
 | []=>by unfold oJ;simp
 | R::W=>by
  have:=ET F W
  unfold oJ at *
  rw [tK,cX,this,aQ,gh,Nat.add_mul]
  ext
theorem Qe:∀{Fs:List (List Row)} {W:List (List Row)} {R:List Row},R∈Fs.foldl oJ W↔∃A∈W,∃B∈prod Fs,R=A++B
 | [],W,R=>by
  unfold prod
  simp
 | F::Fs,W,R=>by
  rw [oW,Qe]
  constructor
  .rintro ⟨A,hA,B,hB,rfl⟩
   obtain ⟨C,hC,hA⟩:=j0.mp hA
   obtain ⟨r,hr,rfl⟩:=cF.mp hA
   exact ⟨C,hC,r::B,j0.mpr ⟨r,hr,cF.mpr ⟨B,hB,rfl⟩⟩,by simp⟩
  .rintro ⟨A,hA,B,hB,rfl⟩
   obtain ⟨r,hr,hB⟩:=j0.mp hB
   obtain ⟨C,hC,rfl⟩:=cF.mp hB
   exact ⟨A++[r],j0.mpr ⟨A,hA,cF.mpr ⟨r,hr,rfl⟩⟩,C,hC,by simp⟩
theorem cZ{Fs:List (List Row)}{R:List Row}:R∈lG Fs↔R∈prod Fs:=by
 unfold lG
 rw [Qe]
 constructor
 .rintro ⟨A,hA,B,hB,rfl⟩
  rw [bY.mp hA]
  exact hB
 .intro h
  exact ⟨[],bY.mpr rfl,R,h,rfl⟩
theorem LC:∀(l:List Nat) (a:Nat),l.foldl (·*·) a=a*l.foldl (·*·) 1
 | [],a=>by simp
 | x::l,a=>by
  rw [oW,oW,LC l (a*x),LC l (1*x),Nat.one_mul,D4]
theorem Ko(A B:List (List Row)):np (A++B)=np A*np B:=by
 unfold np
 rw [eR,Ba,LC]
theorem b4F{Fs:List (List Row)}(kF:Fs.length<=100)(hp:np Fs<=100)(h0:np Fs≠0){ro:Bool}:xR [.lst ro (Fs.map mi)]=some (.sh (.lst false ((lG Fs).map qu)))/\(lG Fs).length=np Fs:=by
 have pz:∀{pre post:List (List Row)},Fs=pre++post->np pre<=100/\np pre≠0:=λ{pre post} e=>by
  rw [e,Ko] at hp h0
  have a:np pre≠0:=λz=>h0 (by rw [z,Nat.zero_mul])
  have b:np post≠0:=λz=>h0 (by rw [z,Nat.mul_zero])
  exact ⟨eQ (Nat.le_mul_of_pos_right _ (by ext b)) hp,a⟩
 have one_le:∀{pre post:List (List Row)} {F:List Row},Fs=pre++F::post->np pre*F.length<=100/\F.length<=100:=λ{pre post F} e=>by
  have e':Fs=(pre++[F])++post:=by rw [e];simp
  have k:=pz e'
  rw [Q6] at k
  refine ⟨k.1,eQ (Nat.le_mul_of_pos_left _ ?_) k.1⟩
  have:=(pz e).2
  ext this
 have hlen:∀F∈Fs,F.length<=900000:=λF hF=>by
  obtain ⟨pre,post,e⟩:=O0 hF
  have:=(one_le e).2
  ext this
 have pl:∀{pre post:List (List Row)},Fs=pre++post->(lG pre).length=np pre:=λ{pre}=>by
  intro post _
  have key:∀(l:List (List Row)) (W:List (List Row)),(l.foldl oJ W).length=W.length*np l:=λl=>by
   induction l with
   | nil=>intro W;unfold np;simp
   | cons F l ih =>
    intro W
    rw [oW,ih,ET,D4,show F::l=[F]++l from rfl,Ko,show np [F]=F.length by unfold np;simp]
  unfold lG
  rw [key]
  simp
 have em:=QT hlen (ro:=ro)
 refine ⟨?_,pl (pre:=Fs) (post:=[]) (by simp)⟩
 refine Wo.eq (nD.mpr ?_)
 unfold EO
 walk_at "v1"
 refine ny ?_ ?_
 .walk_at "vc"
  rw [em]
  walk_at "vc"
  ext hp
 walk_at "v1"
 refine ny ?_ ?_
 .walk_at "vc"
  rw [em]
  walk_at "vc"
  ext h0
 walk_at "v1"
 refine iZ mi (λpre env=>∃x2 x3 x4,env=[.sh (.lst ro (Fs.map mi)),.sh (.lst false ((lG pre).map qu)),x2,x3,x4]) Fs (λpre F post env e hI=>?_) (λenv hI=>?_) ⟨_,_,_,rfl⟩
 .obtain ⟨x2,x3,x4,rfl⟩:=hI
  have k1:=one_le e
  have k2:=pl e
  rw [show mi F=.tup (F.map Row.d) from rfl]
  walk_at "v1"
  refine iZ qu (λW env=>∃x4,env=[.sh (.lst ro (Fs.map mi)),.sh (.lst false ((lG pre).map qu)),.sh (.tup (F.map Row.d)),.ow ((oJ W F).map qu),x4]) (lG pre) (λW R Nw env e' h=>?_) (λenv h=>?_) ⟨_,rfl⟩
  .obtain ⟨x4,rfl⟩:=h
   have hW:=ET F W
   have Zx:W.length<=np pre:=by rw [<-k2,e',cX];ext
   have Zw:W.length*F.length<=np pre*F.length:=OK _ Zx
   rw [show qu R=.lst false (R.map Row.d) from rfl]
   walk_at "v1"
   rw [lg Row.d (λr=>qu (R++[r])) (λe=>∃x0,e=[x0,.sh (.lst false (R.map Row.d))]) F (λr hr e he=>?_) ⟨_,rfl⟩]
   .rw [aQ,a0i]
    walk_at "v1"
    refine ⟨by ext k1,by rw [aQ,aQ,hW];ext k1 Zw,_,by rw [b3Q,eR,cJ];rfl⟩
   .obtain ⟨x0,rfl⟩:=he
    walk_at "vc"
    have hR:R.length=pre.length:=(Lb (cZ.mp (by rw [e'];simp))).1
    have:=congrArg mn e
    rw [cX] at this
    refine ⟨⟨_,rfl⟩,by rw [aQ];lia,?_⟩
    unfold qu
    rw [eR]
    rfl
  .obtain ⟨x4,rfl⟩:=h
   rw [b1q,Qo,PJ (by rfl)]
   walk_at "vc"
   rw [<-b3P]
   exact ⟨_,_,_,rfl⟩
 .obtain ⟨x2,x3,x4,rfl⟩:=hI
  walk_at "vc"
theorem FV.pb{f:List Row}(h:FV (10^60) (10^130) f):∀r∈f,PB r:=λr hr=>by
 have k:=BW h.canon (by decide) h.bd r hr
 have o:=h.canon.cG.1 r hr
 have v:=(h.bd r.2.1 _ (ou h.canon.cG hr o (cD _))).2
 unfold PB
 ext k o v
theorem b8w:wq [.lst false []]=some (.sh (.tup [])):=by
 refine Wo.eq (ft.mpr ?_)
 unfold MP
 walk_at "vc"
 exact λz=>nomatch z
theorem b2L{Fs:List (List Row)}{K n m:Nat}(h4:Fs.length<=4)(hK:Fs.length+1<=K)(hF:∀F∈Fs,FV (10^60) (10^130) F)(hlen:∀F∈Fs,F.length<=900000)(hp:np Fs<=n)(hn:n<=100)(LO:CH wq K n m){ro:Bool}:
  ∃f:List Row,xN [.lst ro (Fs.map mi)]=some (.sh (.tup (f.map Row.d)))/\Canon f/\f.length<=m/\(∀x c,look f x=some c↔Jn Fs x c)/\∀x c,Sh Fs x c->∃m,Jn Fs x m:=by
 have GP:∀R:List Row,∃f:List Row,(R.length<=6/\∀r∈R,PB r)->wj [.lst false (R.map Row.d)]=some (.sh (.tup (f.map Row.d)))/\Canon f/\f.length<=R.length+1/\(∀x c,look f x=some c↔Jn (one R) x c)/\∀x c,Sh (one R) x c->∃m,Jn (one R) x m:=λR=>by
  by_cases h:R.length<=6/\∀r∈R,PB r
  .obtain ⟨f,e⟩:=b6W h.2 h.1 (ro:=false)
   exact ⟨f,λ_=>e⟩
  .exact ⟨[],λz=>absurd z h⟩
 obtain ⟨ff,rm⟩:=xc GP
 have hR:∀R∈prod Fs,(R.length<=6/\∀r∈R,PB r)/\R.length=Fs.length:=λR hR=>by
  obtain ⟨l,k⟩:=Lb hR
  exact ⟨⟨by ext h4 l,λr hr=>by obtain ⟨F,ZD,sX⟩:=k r hr;exact (hF F ZD).pb r sX⟩,l⟩
 have wrap:∀{f:List Row},Cv [.lst ro (Fs.map mi)]=some (.sh (.tup (f.map Row.d)))->xN [.lst ro (Fs.map mi)]=some (.sh (.tup (f.map Row.d))):=λ{f} e=>by
  refine Wo.eq (qi.mpr ?_)
  unfold K6
  walk_at "v1"
  rw [e]
  walk_at "vc"
 have ZS:∀x c,Sh Fs x c->∃R∈prod Fs,∃v,look (ff R) x=some v:=λx c h=>by
  obtain ⟨R,gR,k⟩:=cI.mp h
  obtain ⟨_,_,_,e4,e5⟩:=rm R (hR R gR).1
  obtain ⟨v,hv⟩:=e5 x c k
  exact ⟨R,gR,v,(e4 x v).mpr hv⟩
 by_cases h0:np Fs=0
 .have em:=QT hlen (ro:=ro)
  rw [h0] at em
  have none_:∀R,R∉prod Fs:=λR gR=>by
   have key:∀(l:List (List Row)) (W:List (List Row)),(l.foldl oJ W).length=W.length*np l:=λl=>by
    induction l with
    | nil=>intro W;unfold np;simp
    | cons F l ih =>
     intro W
     rw [oW,ih,ET,D4,show F::l=[F]++l from rfl,Ko,show np [F]=F.length by unfold np;simp]
   have h1:=key Fs [[]]
   rw [h0,Nat.mul_zero] at h1
   have h2:=cZ.mpr gR
   unfold lG at h2
   rw [Bj.mp h1] at h2
   cases h2
  have zg:∀x c,¬Sh Fs x c:=λx c h=>by obtain ⟨R,gR,_⟩:=cI.mp h;exact none_ R gR
  refine ⟨[],wrap ?_,⟨λr z=>(nomatch z),trivial⟩,n6 _,λx c=>⟨λz=>(nomatch z),λz=>absurd z.1 (zg x c)⟩,λx c h=>absurd h (zg x c)⟩
  refine Wo.eq (eM.mpr ?_)
  unfold F0
  walk_at "v1"
  have ep:xR [.lst ro (Fs.map mi)]=some (.ow []):=by
   refine Wo.eq (nD.mpr ?_)
   unfold EO
   walk_at "v1"
   refine ny ?_ ?_
   .walk_at "vc"
    rw [em]
    walk_at "vc"
   walk_at "v1"
   rw [a2Y]
   walk_at "vc"
   rw [em]
   walk_at "vc"
  rw [ep]
  walk_at "vc"
  rw [b8w]
  walk_at "vc"
  rfl
 .obtain ⟨ep,dk⟩:=b4F (ro:=ro) (by ext h4) (by ext hp hn) h0
  have bI:(lG Fs).map ff≠[]:=Jw (by rw [aQ,dk];ext h0)
  have ZC:∀f∈(lG Fs).map ff,FV (4*10^60) (4*10^130) f/\f.length<=K:=λf hf=>by
   obtain ⟨R,gR,rfl⟩:=cF.mp hf
   have gR:=cZ.mp gR
   obtain ⟨k,l⟩:=hR R gR
   obtain ⟨_,e2,e3,e4,_⟩:=rm R k
   refine ⟨⟨e2,λx c h=>?_⟩,by ext hK l e3⟩
   have b:=PZ k.2 ((e4 x c).mp h).1
   have qp:R.length<=4:=by ext h4 l
   lia
  obtain ⟨fs,e,c,mf,lf⟩:=LO (V:=4*10^60) (C:=4*10^130) (r:=false) (by decide) (by decide) ZC bI (by rw [aQ,dk];exact hp)
  have NJ:∀x v,look fs x=some v↔(∃R∈prod Fs,look (ff R) x=some v)/\∀R∈prod Fs,∀w,look (ff R) x=some w->v<=w:=λx v=>by
   rw [mf x v]
   constructor
   .rintro ⟨⟨g,hg,e⟩,k⟩
    obtain ⟨R,gR,rfl⟩:=cF.mp hg
    exact ⟨⟨R,cZ.mp gR,e⟩,λS hS w hw=>k _ (cF.mpr ⟨S,cZ.mpr hS,rfl⟩) w hw⟩
   .rintro ⟨⟨R,gR,e⟩,k⟩
    refine ⟨⟨ff R,cF.mpr ⟨R,cZ.mpr gR,rfl⟩,e⟩,λg hg w hw=>?_⟩
    obtain ⟨S,hS,rfl⟩:=cF.mp hg
    exact k S (cZ.mp hS) w hw
  have jj:=b6F (φ:=ff) (f:=fs) (λR gR=>(rm R (hR R gR).1).2.2.2.1) (λR gR=>(rm R (hR R gR).1).2.2.2.2) NJ
  refine ⟨fs,wrap ?_,c,lf,jj,λx v h=>?_⟩
  .refine Wo.eq (eM.mpr ?_)
   unfold F0
   walk_at "v1"
   rw [ep]
   walk_at "v1"
   rw [lg qu (λR=>.tup ((ff R).map Row.d)) (λe=>∃x0,e=[x0]) (lG Fs) (λR gR e he=>?_) ⟨_,rfl⟩]
   .walk_at "v1"
    rw [cJ] at e
    rw [aQ,dk]
    refine ⟨by ext hp hn,?_⟩
    rw [show (λR=>D.tup ((ff R).map Row.d))=(λf:List Row=>D.tup (f.map Row.d))∘ff from rfl,e]
    walk_at "vc"
   .obtain ⟨x0,rfl⟩:=he
    rw [show qu R=.lst false (R.map Row.d) from rfl]
    walk_at "vc"
    rw [(rm R (hR R (cZ.mp gR)).1).1]
    walk_at "vc"
    exact ⟨_,rfl⟩
  .-- sI least over sI picks is there
   have key:∀(l:List (List Row)),(∃R∈l,∃v,look (ff R) x=some v)->∃v,(∃R∈l,look (ff R) x=some v)/\∀R∈l,∀w,look (ff R) x=some w->v<=w:=λl=>by
    induction l with
    | nil=>rintro ⟨R,z,_⟩;cases z
    | cons S l ih =>
     rintro ⟨R,gR,v,e⟩
     by_cases hl:∃R∈l,∃v,look (ff R) x=some v
     .obtain ⟨v,⟨T,hT,eT⟩,k⟩:=ih hl
      cases hS:look (ff S) x with
      | none=>exact ⟨v,⟨T,bG _ hT,eT⟩,λQ hQ w hw=>by
        rcases br.mp hQ with rfl | hQ
        .rw [hS] at hw;cases hw
        .exact k Q hQ w hw⟩
      | some u =>
       by_cases zW:u<=v
       .exact ⟨u,⟨S,bw ..,hS⟩,λQ hQ w hw=>by
         rcases br.mp hQ with rfl | hQ
         .rw [hS] at hw;cases hw;exact cD _
         .have:=k Q hQ w hw;ext zW this⟩
       .exact ⟨v,⟨T,bG _ hT,eT⟩,λQ hQ w hw=>by
         rcases br.mp hQ with rfl | hQ
         .rw [hS] at hw;cases hw;ext zW
         .exact k Q hQ w hw⟩
     .rcases br.mp gR with rfl | gR
      .exact ⟨v,⟨R,bw ..,e⟩,λQ hQ w hw=>by
        rcases br.mp hQ with rfl | hQ
        .rw [e] at hw;cases hw;exact cD _
        .exact absurd ⟨Q,hQ,w,hw⟩ hl⟩
      .exact absurd ⟨R,gR,v,e⟩ hl
   obtain ⟨w,hw⟩:=key (prod Fs) (ZS x v h)
   exact ⟨w,(jj x w).mp ((NJ x w).mpr hw)⟩
theorem K2{rs:List Row}{n:Nat}(h:n<rs.length):fB (rs.map Row.d) (n:Int)=some (Row.d rs[n]):=by
 rw [DL.cK];simp [h]
theorem b6X{rs:List Row}(ha:cN rs)(hl:rs.length<=900000)(x:Int):∃n:Nat,yd [.tup (rs.map Row.d),.int x]=some (.sh (.int n))/\n<=rs.length/\(∀i (h:i<rs.length),i<n->rs[i].2.1<x)/\(∀i (h:i<rs.length),n<=i->x<=rs[i].2.1):=by
 have mono:∀i j (hi:i<rs.length) (hj:j<rs.length),i<=j->rs[i].2.1<=rs[j].2.1:=λi j hi hj h=>by
  rcases Nat.lt_or_eq_of_le h with h | rfl
  .have:=(xg.mp ha.2) i j hi hj h
   have:=ha.1 _ (lN hj)
   lia
  .exact cD _
 have key:Wo (yd [.tup (rs.map Row.d),.int x]) λs=>∃n:Nat,s=.sh (.int n)/\n<=rs.length/\(∀i (h:i<rs.length),i<n->rs[i].2.1<x)/\(∀i (h:i<rs.length),n<=i->x<=rs[i].2.1):=by
  refine mD.mpr ?_
  unfold L4
  walk_at "vc"
  rw [aQ,Ly]
  refine B2 (λm env=>∃x4,∃f b:Nat,env=[.sh (.tup (rs.map Row.d)),.sh (.int x),.sh (.int f),.sh (.int b),x4]/\m=b-f/\f<=b/\b<=rs.length/\(∀i (h:i<rs.length),i<f->rs[i].2.1<x)/\(∀i (h:i<rs.length),b<=i->x<=rs[i].2.1)) (λm env h=>?_) _ rs.length
   (show rs.length<1000000 by ext hl) ⟨_,0,rs.length,rfl,by simp,by simp,bo _,λi h z=>absurd z (Nat.not_lt_zero _),λi h z=>absurd h (by ext z)⟩
  obtain ⟨x4,f,b,rfl,rfl,h1,h2,h3,h4⟩:=h
  walk_at "vc"
  refine ⟨λaT=>?_,λoO=>⟨f,rfl,by ext h1 h2,h3,λi h z=>h4 i h (by ext oO z)⟩⟩
  have hm:((f:Int)+b)/2=(((f+b)/2:Nat):Int):=by lia
  have pJ:(f+b)/2<rs.length:=by lia
  rw [hm,K2 pJ,dr]
  walk_at "vc"
  refine ⟨by walk_at "sc",λhc=>?_,λhc=>?_⟩
  .exact ⟨b-((f+b)/2+1),by lia,_,(f+b)/2+1,b,rfl,rfl,by lia,h2,λi h z=>Int.lt_of_le_of_lt (mono i ((f+b)/2) h pJ (by ext z)) hc,h4⟩
  .exact ⟨(f+b)/2-f,by lia,_,f,(f+b)/2,rfl,rfl,by lia,by ext pJ,h3,λi h z=>IL (by ext pJ hc) (mono ((f+b)/2) i pJ h z)⟩
 obtain ⟨s,e,n,rfl,h⟩:=key
 exact ⟨n,e,h⟩
theorem Rj{rs:List Row}(ha:cN rs)(hl:rs.length<=900000)(hb:∀r∈rs,aB (10^140) r){x:Int}(hx:-(10^140)<=x/\x<=10^140):jL [.tup (rs.map Row.d),.int x]=some (.sh (bE (look rs x))):=by
 refine Wo.eq (oG.mpr ?_)
 unfold LP
 walk_at "vc"
 obtain ⟨n,en,hn,h1,h2⟩:=b6X ha hl x
 rw [en]
 walk_at "vc"
 rw [aQ]
 have split:rs=rs.take n++rs.drop n:=(n8 n rs).symm
 have iy:∀q∈rs.take n,q.2.1<x:=λq hq=>by
  obtain ⟨i,hi,rfl⟩:=pV.mp hq
  rw [jr] at hi
  rw [Ec]
  exact h1 i (by ext hi) (by ext hi)
 have lk:look rs x=look (rs.drop n) x:=by
  have:=LI (x:=x) (post:=rs.drop n) iy
  rwa [<-split] at this
 refine ⟨λhe=>?_,λhe=>?_⟩
 .have:rs.drop n=[]:=rT (by ext he)
  rw [lk,this];rfl
 .have aT:n<rs.length:=by ext hn he
  have hd:rs.drop n=rs[n]::rs.drop (n+1):=ni aT
  have hr:=hb rs[n] (lN aT)
  have hle:=h2 n aT (bo _)
  unfold aB at hr
  rw [K2 aT,dr]
  walk_at "vc"
  refine ⟨λDc=>?_,λDc=>?_⟩
  .rw [lk,LH];rfl
   intro q hq
   rw [hd] at hq
   rcases br.mp hq with rfl | hq
   .exact .inl Dc
   .have hp:=ha.2
    rw [split,hd] at hp
    have:=(iM.mp (gU.mp hp).2.1).1 q hq
    have:=ha.1 rs[n] (lN aT)
    exact .inl (by omega)
  .rw [<-dr,EY (by ext aT hr) (by ext aT hr) (by ext aT Dc) (by ext aT hx hr)]
   walk_at "vc"
   rw [lk,hd,look,if_pos ⟨by ext aT Dc,hle⟩]
   rfl
theorem AO{d:D}{ds:List D}:B9 [.tup (d::ds)]=some (.sh (.tup (d::ds))):=by
 refine Wo.eq (oC.mpr ?_)
 unfold LU
 walk_at "v1"
 refine ny ?_ ?_
 .walk_at "vc"
  simp
  ext
 walk_at "vc"
noncomputable def fo(r:Row):Int×Int:=if r.2.2.2<0 then (r.at r.2.1,r.2.1) else (r.2.2.1,r.1)
theorem b61{r:Row}(hb:aB (10^140) r):Cd [r.d]=some (.sh (.tup [.int (fo r).1,.int (fo r).2])):=by
 refine Wo.eq (jk.mpr ?_)
 unfold MK
 rw [dr r]
 walk_at "v1"
 rw [a2Y]
 walk_at "vc"
 unfold fo
 have md:=hb
 unfold aB at md
 have hd:=EY (r:=r) (x:=r.2.1) (by ext md) (by ext md) (by ext md) (by ext md)
 rw [dr r] at hd
 refine ⟨λh=>?_,λh=>?_⟩
 .rw [hd]
  walk_at "vc"
  rw [if_pos h]
 .rw [if_neg h]
theorem b4I{r:Row}{rs:List Row}(hb:∀q∈r::rs,aB (10^140) q)(hl:(r::rs).length<=1000):xY [.tup ((r::rs).map Row.d)]=some (.sh (.tup ((eD ((r::rs).map λq=>[(fo q).1,(fo q).2])).map D.int))):=by
 refine Wo.eq (jQ.mpr ?_)
 unfold MV
 walk_at "vc"
 rw [fg,AO,<-fg]
 walk_at "vc"
 rw [lg Row.d (λq=>.tup [.int (fo q).1,.int (fo q).2]) (λe=>∃j,e=[j]) (r::rs) (λq hq e he=>?_) ⟨_,rfl⟩]
 .rw [aQ]
  refine ⟨by ext hl,?_⟩
  walk_at "vc"
  rw [show ((r::rs).map λq=>D.tup [.int (fo q).1,.int (fo q).2])=(r::rs).map λq=>.tup ([(fo q).1,(fo q).2].map D.int) from rfl,xS]
  walk_at "vc"
  simp
 .obtain ⟨j,rfl⟩:=he
  walk_at "vc"
  rw [b61 (hb q hq)]
  walk_at "vc"
  exact ⟨_,rfl⟩
theorem zt{a b c d:Int}:HT.lexLt [a,b] [c,d]=true↔a<c\/(a=c/\b<d):=by
 rw [HT.cc]
 by_cases h:a=c
 .rw [if_pos h,HT.cc]
  by_cases h2:b=d
  .rw [if_pos h2];simp [HT.c8,h,h2]
  .rw [if_neg h2];simp [h]
 .rw [if_neg h];simp [h]
theorem So:∀(qs:List (Int×Int)) (p:Int×Int),∃m∈p::qs,eD ((p::qs).map λq=>[q.1,q.2])=[m.1,m.2]/\∀q∈p::qs,m.1<q.1\/(m.1=q.1/\m.2<=q.2)
 | [],p=>⟨p,by simp,rfl,λq hq=>by rw [bY.mp hq];exact .inr ⟨rfl,cD _⟩⟩
 | y::qs,p=>by
  have e:eD ((p::y::qs).map λq=>[q.1,q.2])=eD (((if HT.lexLt [y.1,y.2] [p.1,p.2] then y else p)::qs).map λq=>[q.1,q.2]):=by
   show DD _ _ _=DD _ _ _
   rw [fg,oW]
   split<;>rfl
  rw [e]
  obtain ⟨m,hm,e1,e2⟩:=So qs (if HT.lexLt [y.1,y.2] [p.1,p.2] then y else p)
  refine ⟨m,?_,e1,λq hq=>?_⟩
  .rcases br.mp hm with h | h
   .rw [h];split<;>simp
   .simp [h]
  .have hf:=e2 _ bw
   by_cases hy:HT.lexLt [y.1,y.2] [p.1,p.2]=true
   .rw [if_pos hy] at hf
    rw [zt] at hy
    rcases br.mp hq with rfl | hq
    .ext hf hy
    .rcases br.mp hq with rfl | hq
     .exact hf
     .exact e2 q (bG _ hq)
   .rw [if_neg hy] at hf
    rw [zt] at hy
    rcases br.mp hq with rfl | hq
    .exact hf
    .rcases br.mp hq with rfl | hq
     .ext hf hy
     .exact e2 q (bG _ hq)
theorem b4N{r:Row}(h:r.1<=r.2.1){x:Int}(h1:r.1<=x)(h2:x<=r.2.1):(fo r).1<r.at x\/((fo r).1=r.at x/\(fo r).2<=x):=by
 unfold fo Row.at
 by_cases hs:r.2.2.2<0
 .rw [if_pos hs]
  dsimp only
  by_cases hx:x=r.2.1
  .subst hx;right;exact ⟨rfl,cD _⟩
  .left
   have:r.2.2.2*(r.2.1-r.1)<r.2.2.2*(x-r.1):=Int.mul_lt_mul_of_neg_left (by ext h2 hx) hs
   ext this
 .rw [if_neg hs]
  dsimp only
  have:0<=r.2.2.2*(x-r.1):=oU (by ext hs) (by ext h1)
  by_cases hz:r.2.2.2*(x-r.1)=0
  .right;exact ⟨by ext hz,h1⟩
  .left;ext this hz
theorem b4O{r:Row}(h:r.1<=r.2.1):r.1<=(fo r).2/\(fo r).2<=r.2.1/\r.at (fo r).2=(fo r).1:=by
 unfold fo
 by_cases hs:r.2.2.2<0
 .rw [if_pos hs];exact ⟨h,cD _,rfl⟩
 .rw [if_neg hs]
  refine ⟨cD _,h,?_⟩
  unfold Row.at
  simp
structure FP(rs fs:List Row):Prop where
 canon:Canon fs
 cG:cN rs
 val:∀x c,Val fs x c↔Val rs x c
 len:fs.length<=100
 bd:∀r∈fs,(-(10^60)<=r.1/\r.1<=10^60)/\(-(10^60)<=r.2.1/\r.2.1<=10^60)/\r.1<=r.2.1
 cost:∀{x:Int},-(10^60)<=x/\x<=10^60->jL [.tup (fs.map Row.d),.int x]=some (.sh (bE (look rs x)))
theorem Iz{d:D}{x:Int}{o:Option Int}(h:jL [d,.int x]=some (.sh (bE o))):nu (gT 2 (fq (gN 0) (fq (gN 1) nv))) iO (aG 2 jL (ae (eV 0) (ae (eV 1) ab))) (ic [d] [.int x]) [.no,.no]=some [bE o]:=by
 rw [show ic [d] [.int x]=[()].map λ_=>.tup [d,.int x] from rfl]
 rw [lg (λ_:Unit=>.tup [d,.int x]) (λ_=>bE o) (λe=>∃x y,e=[x,y]) [()] (λ_ _ e he=>?_) ⟨_,_,rfl⟩]
 .rfl
 .obtain ⟨x,y,rfl⟩:=he
  walk_at "vc"
  rw [h]
  walk_at "vc"
  exact ⟨_,_,rfl⟩
theorem K5{d:D}{x c:Int}(h:jL [d,.int x]=some (.sh (.int c))){r r':Bool}:nC [.lst r [d],.lst r' [.int x]]=some (.sh (.int c)):=by
 refine Wo.eq (gk.mpr ?_)
 unfold B3
 walk_at "v1"
 rw [Iz (o:=some c) h]
 walk_at "v1"
 refine ⟨by simp [ic],?_⟩
 refine ny ?_ ?_
 .walk_at "vc"
  rw [show inD .aR [bE (some c)]=some false from rfl]
  walk_at "vc"
 walk_at "vc"
 rw [show o3 [bE (some c)]=some [c] from rfl]
 walk_at "vc"
 simp
noncomputable def c9(x:Int)(r:Row):List Int:=if r.1<x then [r.1,min r.2.1 (x-1)] else []
noncomputable def de(x:Int)(r:Row):List Int:=if x<r.2.1 then [max r.1 (x+1),r.2.1] else []
theorem Fe{x:Int}:∀(rs:List Row),(rs.flatMap (c9 x)).length<=2*rs.length
 | []=>by simp
 | r::rs=>by
  have:=Fe (x:=x) rs
  have:(c9 x r).length<=2:=by unfold c9;split<;>simp
  simp only [tK,cX,gh]
  omega
theorem Fd{x:Int}:∀(rs:List Row),(rs.flatMap (de x)).length<=2*rs.length
 | []=>by simp
 | r::rs=>by
  have:=Fd (x:=x) rs
  have:(de x r).length<=2:=by unfold de;split<;>simp
  simp only [tK,cX,gh]
  omega
theorem b62{fs:List Row}{x:Int}(hl:fs.length<=100):xW [.tup (fs.map Row.d),.int x]=some (.ow ((fs.flatMap (c9 x)).map D.int)):=by
 refine Wo.eq (jT.mpr ?_)
 unfold MS
 walk_at "v1"
 refine iZ Row.d (λpre env=>∃x3,env=[.sh (.tup (fs.map Row.d)),.sh (.int x),.ow ((pre.flatMap (c9 x)).map D.int),x3]) fs (λpre r post env e h=>?_) (λenv h=>?_) ⟨_,rfl⟩
 .obtain ⟨x3,rfl⟩:=h
  have dk:pre.length<100:=by have:=congrArg mn e;simp at this;ext hl this
  have kF:=Fe (x:=x) pre
  have e1:(pre++[r]).flatMap (c9 x)=pre.flatMap (c9 x)++c9 x r:=by simp
  rw [e1,dr]
  walk_at "vc"
  rw [aQ]
  refine ⟨λhc=>⟨by omega,?_⟩,λhc=>?_⟩
  .unfold c9
   rw [if_pos hc,eR]
   exact ⟨_,rfl⟩
  .unfold c9
   rw [if_neg (by ext hc),nk]
   exact ⟨_,rfl⟩
 .obtain ⟨x3,rfl⟩:=h
  walk_at "vc"
theorem b63{fs:List Row}{x:Int}(hl:fs.length<=100):xV [.tup (fs.map Row.d),.int x]=some (.ow ((fs.flatMap (de x)).map D.int)):=by
 refine Wo.eq (jU.mpr ?_)
 unfold MR
 walk_at "v1"
 refine iZ Row.d (λpre env=>∃x3,env=[.sh (.tup (fs.map Row.d)),.sh (.int x),.ow ((pre.flatMap (de x)).map D.int),x3]) fs (λpre r post env e h=>?_) (λenv h=>?_) ⟨_,rfl⟩
 .obtain ⟨x3,rfl⟩:=h
  have dk:pre.length<100:=by have:=congrArg mn e;simp at this;ext hl this
  have kF:=Fd (x:=x) pre
  have e1:(pre++[r]).flatMap (de x)=pre.flatMap (de x)++de x r:=by simp
  rw [e1,dr]
  walk_at "vc"
  rw [aQ]
  refine ⟨λhc=>⟨by omega,?_⟩,λhc=>?_⟩
  .unfold de
   rw [if_pos (by ext hc),eR]
   exact ⟨_,rfl⟩
  .unfold de
   rw [if_neg (by ext hc),nk]
   exact ⟨_,rfl⟩
 .obtain ⟨x3,rfl⟩:=h
  walk_at "vc"
noncomputable def bF(rs:List Row)(y:Int):Int:=(look rs y).getD 0
theorem FP.row{rs fs:List Row}(F:FP rs fs){r:Row}(hr:r∈fs){y:Int}(h1:r.1<=y)(h2:y<=r.2.1):look rs y=some (r.at y):=by
 rw [<-My.mU F.canon.cG F.cG λc=>F.val y c]
 exact ou F.canon.cG hr h1 h2
theorem FP.c9{rs fs:List Row}(F:FP rs fs){x y:Int}(h:y∈fs.flatMap (c9 x)):y<x/\(-(10^60)<=y/\y<=10^60)/\look rs y=some (bF rs y):=by
 obtain ⟨r,hr,hy⟩:=j0.mp h
 have hb:=F.bd r hr
 unfold My.c9 at hy
 split at hy
 .have h3:r.1<=y/\y<=r.2.1/\y<x:=by
   simp only [br,gq,or_false] at hy
   rcases hy with rfl | rfl<;>omega
  have:=F.row hr h3.1 h3.2.1
  refine ⟨h3.2.2,by ext hb h3,?_⟩
  unfold bF
  rw [this];rfl
 .cases hy
theorem FP.de{rs fs:List Row}(F:FP rs fs){x y:Int}(h:y∈fs.flatMap (de x)):x<y/\(-(10^60)<=y/\y<=10^60)/\look rs y=some (bF rs y):=by
 obtain ⟨r,hr,hy⟩:=j0.mp h
 have hb:=F.bd r hr
 unfold My.de at hy
 split at hy
 .have h3:r.1<=y/\y<=r.2.1/\x<y:=by
   simp only [br,gq,or_false] at hy
   rcases hy with rfl | rfl<;>omega
  have:=F.row hr h3.1 h3.2.1
  refine ⟨h3.2.2,by ext hb h3,?_⟩
  unfold bF
  rw [this];rfl
 .cases hy
theorem QA{a b:Int}{l k:List Int}(h:HT.lexLt (a::l) (b::k)=true):a<=b:=by
 rw [HT.cc] at h
 split at h
 .omega
 .have:=of_decide_eq_true h;ext this
theorem Qz{a b:Int}{l k:List Int}(h:¬HT.lexLt (a::l) (b::k)=true):b<=a:=by
 rw [HT.cc] at h
 split at h
 .omega
 .simp at h;ext h
theorem K3{α:Type}{f:α->List Int}{v:α->Int}(hf:∀y,∃t,f y=v y::t):∀(ys:List α) (y0:α),∃y,y∈y0::ys/\(ys.map f).foldl (λm z=>if kH z m then z else m) (f y0)=f y/\∀z∈y0::ys,v z<=v y
 | [],y0=>⟨y0,bw,rfl,λz hz=>by rw [bY.mp hz];exact cD _⟩
 | y1::ys,y0=>by
  obtain ⟨t0,h0⟩:=hf y0
  obtain ⟨t1,h1⟩:=hf y1
  rw [fg,oW]
  by_cases h:kH (f y1) (f y0)=true
  .rw [if_pos h]
   obtain ⟨y,hy,e,hm⟩:=K3 hf ys y1
   unfold kH at h
   rw [h0,h1] at h
   have:=QA h
   refine ⟨y,bG _ hy,e,λz hz=>?_⟩
   rcases br.mp hz with rfl | hz
   .have:=hm y1 bw;omega
   .exact hm z hz
  .rw [if_neg h]
   obtain ⟨y,hy,e,hm⟩:=K3 hf ys y0
   unfold kH at h
   rw [h0,h1] at h
   have:=Qz h
   refine ⟨y,?_,e,λz hz=>?_⟩
   .rcases br.mp hy with rfl | hy
    .exact bw
    .exact bG _ (bG _ hy)
   .rcases br.mp hz with rfl | hz
    .exact hm _ bw
    .rcases br.mp hz with rfl | hz
     .have:=hm y0 bw;omega
     .exact hm z (bG _ hz)
theorem K4{α:Type}{f:α->List Int}{v:α->Int}(hf:∀y,∃t,f y=v y::t):∀(ys:List α) (y0:α),∃y,y∈y0::ys/\(ys.map f).foldl (λm z=>if HT.lexLt z m then z else m) (f y0)=f y/\∀z∈y0::ys,v y<=v z
 | [],y0=>⟨y0,bw,rfl,λz hz=>by rw [bY.mp hz];exact cD _⟩
 | y1::ys,y0=>by
  obtain ⟨t0,h0⟩:=hf y0
  obtain ⟨t1,h1⟩:=hf y1
  rw [fg,oW]
  by_cases h:HT.lexLt (f y1) (f y0)=true
  .rw [if_pos h]
   obtain ⟨y,hy,e,hm⟩:=K4 hf ys y1
   rw [h0,h1] at h
   have:=QA h
   refine ⟨y,bG _ hy,e,λz hz=>?_⟩
   rcases br.mp hz with rfl | hz
   .have:=hm y1 bw;omega
   .exact hm z hz
  .rw [if_neg h]
   obtain ⟨y,hy,e,hm⟩:=K4 hf ys y0
   rw [h0,h1] at h
   have:=Qz h
   refine ⟨y,?_,e,λz hz=>?_⟩
   .rcases br.mp hy with rfl | hy
    .exact bw
    .exact bG _ (bG _ hy)
   .rcases br.mp hz with rfl | hz
    .exact hm _ bw
    .rcases br.mp hz with rfl | hz
     .have:=hm y0 bw;omega
     .exact hm z (bG _ hz)
def yn(rs:List Row)(x c v:Int):Prop:=∀y c',Val rs y c'->y<x->c-c'<=v*(x-y)
def yo(rs:List Row)(x c v:Int):Prop:=∀y c',Val rs y c'->x<y->v*(y-x)<=c'-c
theorem b64{e d v:Int}(hd:0<d):-(-e/d)<=v↔e<=v*d:=by
 have h:=JC (a:=-v) (b:=-e) hd
 rw [Int.neg_mul] at h
 constructor
 .intro z;have:=h.mp (by ext z);ext this
 .intro z;have:=h.mpr (by ext z);ext this
theorem b4i{e d v:Int}(hd:0<d):v<=e/d↔v*d<=e:=JC hd
theorem aff{A S e1 e2 y:Int}(h1:e1<=y)(h2:y<=e2)(a1:0<=A+S*e1)(a2:0<=A+S*e2):0<=A+S*y:=by
 by_cases hS:0<=S
 .have:=Bh h1 hS
  ext a1 this
 .have h3:=oU (a:=-S) (b:=e2-y) (by ext hS) (by ext h2)
  have h4:-S*(e2-y)=S*y-S*e2:=by grind
  ext a2 h3 h4
theorem Kf(n f:Int)(h:0<=f/\f<2^62):∃m:Int,wt [.int n,.int f]=some (.sh (.int m))/\0<=m/\m<2147483629:=by
 refine ⟨n%2147483629*f%2147483629,?_,jq _ (by decide),js _ (by decide)⟩
 refine Wo.eq (lu.mpr ?_)
 unfold Mh
 walk_at "vc"
 exact .inr (.inl (by ext h))
theorem b68{rs:List Row}{q:Row}(h:rs.getLast?=some q):fB (rs.map Row.d) (-1)=some q.d:=by
 obtain ⟨pre,rfl⟩:=Pl.mp h
 rw [eR]
 exact iC
def dO(i:Nat)(r:Row):Prop:=r.1<=r.2.1/\r.2.1-r.1<=10^41/\(-(10^50+i*10^42)<=r.1/\r.1<=10^50+i*10^42)/\(-(10^41+i*10^84)<=r.2.2.1/\r.2.2.1<=10^41+i*10^84)/\(-(10^42)<=r.2.2.2/\r.2.2.2<=10^42)
theorem b2C{n:Int}(hn:0<=n/\n<10^18){ro:Bool}{rs:List Row}{i:Nat}(hi:i<=10)(hl:rs.length<=10)(hb:∀r,rs.getLast?=some r->dO i r):∃r:Row,ym [.int n,.lst ro (rs.map Row.d)]=some (.sh r.d)/\dO (i+1) r/\∀q,rs.getLast?=some q->q.2.1<r.1:=by
 have key:Wo (ym [.int n,.lst ro (rs.map Row.d)]) λs=>∃r:Row,s=.sh r.d/\dO (i+1) r/\∀q,rs.getLast?=some q->q.2.1<r.1:=by
  refine je.mpr ?_
  unfold MO
  obtain ⟨one,e1,b1⟩:=Kf n 1583458089 (by decide)
  obtain ⟨two,e2,b2⟩:=Kf n 784588716 (by decide)
  obtain ⟨three,e3,b3⟩:=Kf n 950706376 (by decide)
  walk_at "v1"
  have f1:=jq (n*48271^12) (show (10^50:Int)≠0 by decide)
  have f2:=js (n*48271^12) (show (0:Int)<10^50 by decide)
  have w1:=jq (n*69621^12) (show (10^40:Int)≠0 by decide)
  have w2:=js (n*69621^12) (show (0:Int)<10^40 by decide)
  generalize n*48271^12%10^50=far at *
  generalize n*69621^12%10^40=wide at *
  rw [e1]
  walk_at "v1"
  rw [e2]
  walk_at "v1"
  rw [e3]
  walk_at "v1"
  refine ⟨by decide,.inl (by ext hn),by decide,by decide,by decide,.inl (by ext hn),by decide,by decide,?_⟩
  walk_at "st"
  refine xE [0,one/7%41-20,far-5*10^49] (jq _ (by decide)) (js _ (by decide)) λlow Ac=>?_
  have Ac:-(10^50)<=low/\low<=10^50:=by simp at Ac;lia
  walk_at "v1"
  walk_at "st"
  refine xE [two/5%61-30,wide-5*10^39] (jq _ (by decide)) (js _ (by decide)) λprice pH=>?_
  have pH:-(10^41)<=price/\price<=10^41:=by simp at pH;lia
  walk_at "v1"
  walk_at "st"
  refine xE [0,three/9%7-3,three/9%7-3,far/10^9-5*10^40] (jq _ (by decide)) (js _ (by decide)) λstep sV=>?_
  have sV:-(10^42)<=step/\step<=10^42:=by simp at sV;lia
  walk_at "v1"
  walk_at "st"
  refine xE [1,2,1+one/300%9,1+wide] (jq _ (by decide)) (js _ (by decide)) λsize sW=>?_
  have sW:1<=size/\size<=10^41:=by simp at sW;lia
  walk_at "v1"
  rw [a2Y]
  walk_at "v1"
  rw [aQ]
  cases hq:rs.getLast? with
  | none =>
   have:rs=[]:=List.getLast?_eq_none_iff.mp hq
   subst this
   refine ⟨λz=>absurd z (by simp),λ_=>?_⟩
   walk_at "vc"
   exact ⟨(low,low+size-1,price,step),rfl,(by unfold dO;dsimp only;lia:dO (i+1) (low,low+size-1,price,step))⟩
  | some q =>
   have rp:=hb q hq
   refine ⟨λ_=>?_,λz=>absurd z (by
    have:rs≠[]:=λw=>by rw [w] at hq;cases hq
    have:=qz.mpr this
    ext this)⟩
   rw [b68 hq,a0i,dr q]
   walk_at "v1"
   unfold dO at rp
   refine ⟨vY (by decide) (by decide),by decide,by decide,vY (by decide) (by decide),?_⟩
   refine xE [0,0,1+two/3000%5,far%10^40] (jq _ (by decide)) (js _ (by decide)) λgap uY=>?_
   have uY:0<=gap/\gap<=10^40:=by simp at uY;lia
   walk_at "v1"
   have hmul:=Bx (a:=q.2.2.2) (b:=q.2.1-q.1+1) (A:=10^42) (B:=10^41+1) (by ext rp) (by ext rp) (by ext rp) (by ext rp)
   refine b7k (λd=>∃p:Int,d=.int p /\ -(10^41+((i+1:Nat):Int)*10^84)<=p/\p<=10^41+((i+1:Nat):Int)*10^84) (by simp) ?_ λd hd=>?_
   .walk_at "vc"
    refine ⟨vY (by decide) (by decide),λ_=>⟨ub (by ext rp) (by ext rp) (by ext rp) (by ext rp),vY (by decide) (by decide),_,rfl,by lia,by lia⟩,λ_=>⟨_,rfl,_,rfl,by lia,by lia⟩⟩
   obtain ⟨p,rfl,hp⟩:=hd
   walk_at "vc"
   exact ⟨(q.2.1+1+gap,q.2.1+1+gap+size-1,p,step),rfl,(by unfold dO;dsimp only;lia:dO (i+1) (q.2.1+1+gap,q.2.1+1+gap+size-1,p,step)),λq' z=>by cases z;dsimp only;ext uY⟩
 obtain ⟨s,e,r,rfl,h⟩:=key
 exact ⟨r,e,h⟩
theorem b4U{rs:List Row}{r:Row}(h:cN rs)(hr:r.1<=r.2.1)(hl:∀q,rs.getLast?=some q->q.2.1<r.1):cN (rs++[r]):=by
 have dE:∀q∈rs,q.2.1<r.1:=λq hq=>by
  obtain ⟨z,hz⟩:∃z,rs.getLast?=some z:=⟨_,Pq (List.ne_nil_of_mem hq)⟩
  obtain ⟨pre,e⟩:=Pl.mp hz
  subst e
  have h1:=hl z hz
  rcases bW.mp hq with hm | hm
  .have:=(gU.mp h.2).2.2 q hm z (by simp)
   have:=h.1 z (by simp)
   lia
  .rw [bY.mp hm];exact h1
 refine ⟨λq hq=>?_,gU.mpr ⟨h.2,tP _ _,λa ha b hb=>?_⟩⟩
 .rcases bW.mp hq with h' | h'
  .exact h.1 q h'
  .rw [bY.mp h'];exact hr
 .rw [bY.mp hb];exact dE a ha
theorem dO.mono{i j:Nat}{r:Row}(h:dO i r)(cC:i<=j):dO j r:=by
 unfold dO at *
 omega
theorem b8Y{ls:List Int}(hb:∀n∈ls,0<=n/\n<10^18)(hl:ls.length<=4){ro:Bool}:∃rs:List Row,wc [.lst ro (ls.map D.int)]=some (.ow (rs.map Row.d))/\rs.length=ls.length/\cN rs/\∀r∈rs,dO 4 r:=by
 have key:Wo (wc [.lst ro (ls.map D.int)]) λs=>∃rs:List Row,s=.ow (rs.map Row.d)/\rs.length=ls.length/\cN rs/\∀r∈rs,dO 4 r:=by
  refine mE.mpr ?_
  unfold L3
  walk_at "v1"
  refine iZ D.int (λpre env=>∃x2,∃rs:List Row,env=[.sh (.lst ro (ls.map D.int)),.ow (rs.map Row.d),x2]/\rs.length=pre.length/\cN rs/\∀r∈rs,dO pre.length r) ls (λpre n post env e h=>?_) (λenv h=>?_) ⟨_,[],rfl,rfl,⟨λ_ z=>(nomatch z),.nil⟩,λ_ z=>(nomatch z)⟩
  .obtain ⟨x2,rs,rfl,h1,h2,h3⟩:=h
   have dk:pre.length<4:=by have:=congrArg mn e;simp at this;ext hl this
   obtain ⟨r,er,hr,hq⟩:=b2C (hb n (by rw [e];simp)) (rs:=rs) (i:=pre.length) (ro:=false) (by ext dk) (by ext h1 dk) (λr hr=>h3 r (Jl hr))
   walk_at "v1"
   refine b47 (ds:=rs.map Row.d) rfl ?_
   walk_at "v1"
   rw [er]
   walk_at "v1"
   rw [aQ]
   refine ⟨r.d,rfl,rfl,by ext h1 dk,_,rs++[r],by rw [eR];rfl,by simp;ext h1,b4U h2 hr.1 hq,λq dR=>?_⟩
   rw [cX]
   rcases bW.mp dR with h | h
   .exact (h3 q h).mono (by simp)
   .rw [bY.mp h];exact hr
  .obtain ⟨x2,rs,rfl,h1,h2,h3⟩:=h
   walk_at "vc"
   exact ⟨rs,rfl,h1,h2,λr hr=>(h3 r hr).mono hl⟩
 obtain ⟨s,e,rs,rfl,h⟩:=key
 exact ⟨rs,e,h⟩
theorem dO.bd{r:Row}(h:dO 4 r):aB (10^140) r:=by
 unfold dO at h
 unfold aB
 omega
theorem b2K{rs:List Row}(hb:∀r∈rs,dO 4 r)(ha:cN rs){x:Int}(hx:-(10^60)<=x/\x<=10^60){ro:Bool}:Ct [.lst ro (rs.map Row.d),.int x]=some (.sh (bE (look rs x))):=by
 refine Wo.eq (mF.mpr ?_)
 unfold L1
 walk_at "v1"
 refine iZ Row.d (λpre env=>∃x2 x3 x4 x5,env=[.sh (.lst ro (rs.map Row.d)),.sh (.int x),x2,x3,x4,x5]/\∀q∈pre,x<q.1\/q.2.1<x) rs (λpre r post env e h=>?_) (λenv h=>?_) ⟨_,_,_,_,rfl,λ_ z=>(nomatch z)⟩
 .obtain ⟨x2,x3,x4,x5,rfl,h⟩:=h
  have hr:r∈rs:=by rw [e];simp
  have b:=hb r hr
  unfold dO at b
  rw [dr r]
  walk_at "vc"
  have snoc:x<r.1\/r.2.1<x->∀q∈pre++[r],x<q.1\/q.2.1<x:=λz q hq=>by
   rcases bW.mp hq with h' | h'
   .exact h q h'
   .rw [bY.mp h'];exact z
  refine ⟨λh1=>⟨λh2=>⟨ub (by ext b) (by ext b) (by ext h1) (by ext b h2),?_⟩,λh2=>⟨_,_,_,_,rfl,snoc (by ext h2)⟩⟩,λh1=>⟨_,_,_,_,rfl,snoc (by ext h1)⟩⟩
  rw [ou ha hr h1 h2]
  rfl
 .obtain ⟨x2,x3,x4,x5,rfl,h⟩:=h
  walk_at "vc"
  rw [LH h]
  rfl
theorem vV{rs:List Row}(hb:∀r∈rs,dO 4 r){x c:Int}(h:Val rs x c):(-(10^52)<=x/\x<=10^52)/\(-(10^85)<=c/\c<=10^85):=by
 obtain ⟨r,hr,h1,h2,h3⟩:=h
 have b:=hb r hr
 unfold dO at b
 have:=Bx (a:=r.2.2.2) (b:=x-r.1) (A:=10^42) (B:=10^41) (by ext b) (by ext b) (by ext h1) (by ext h2 b)
 unfold Row.at at h3
 omega
theorem AI{rs fs:List Row}(hb:∀r∈rs,dO 4 r)(ha:cN rs)(hl:rs.length<=40)(Lf:Laid rs fs):FP rs fs:=by
 have cb:=BW Lf.canon (B:=10^52) (C:=10^85) (by decide) (λx c h=>vV hb ((Lf.val x c).mp ((gM Lf.canon.cG).mp h)))
 refine ⟨Lf.canon,ha,Lf.val,by have:=Lf.len;ext hl this,λr hr=>?_,λ{x} hx=>?_⟩
 .have:=cb r hr
  have:=Lf.canon.cG.1 r hr
  omega
 .rw [<-My.mU Lf.canon.cG ha λc=>Lf.val x c]
  refine Rj Lf.canon.cG (by have:=Lf.len;ext hl this) (λr hr=>?_) (by ext hx)
  have:=cb r hr
  unfold aB
  ext this
theorem Qh{n:Int}(h:-(2^250)<=n/\n<=2^250):sA n:=by
 unfold sA
 have h2:n.natAbs<2^251:=by omega
 by_cases z:n.natAbs=0
 .rw [z];decide
 .have:=(DA z).mpr h2
  ext this
theorem b2P{rs:List Row}(bI:rs≠[])(hl:rs.length<=4)(hb:∀r∈rs,dO 4 r){cell:Int}(hs:sA cell){ro:Bool}:∃r∈rs,∃t:Int,wo [.lst ro (rs.map Row.d),.int cell]=some (.sh (.int (r.1+t)))/\0<=t/\t<=r.2.1-r.1:=by
 have hp:=qz.mpr bI
 have key:Wo (wo [.lst ro (rs.map Row.d),.int cell]) λs=>∃r∈rs,∃t:Int,s=.sh (.int (r.1+t))/\0<=t/\t<=r.2.1-r.1:=by
  refine jS.mpr ?_
  unfold MT
  walk_at "v1"
  have a1:jW (cell%2147483629) 48271:=⟨Qh (by omega),by unfold LIM;decide,by unfold LIM;decide⟩
  have g1:=jq (cell%2147483629*48271) (show (2147483629:Int)≠0 by decide)
  have g2:=js (cell%2147483629*48271) (show (0:Int)<2147483629 by decide)
  generalize cell%2147483629*48271%2147483629=some at *
  have a2:jW cell (48271^9):=⟨hs,by unfold LIM;decide,by unfold LIM;decide⟩
  rw [aQ]
  refine ⟨a1,vY (by decide) (by decide),by ext hp,?_⟩
  have m1:=jq (some/5) (show (rs.length:Int)≠0 by ext hp)
  have m2:=js (some/5) (show (0:Int)<rs.length by ext hp)
  obtain ⟨n,hn⟩:∃n:Nat,some/5%(rs.length:Int)=n:=⟨(some/5%(rs.length:Int)).toNat,by ext m1⟩
  rw [hn] at m2 ⊢
  have HC:n<rs.length:=by ext m2
  rw [K2 HC,dr]
  have b:=hb rs[n] (lN HC)
  unfold dO at b
  have HH:rs[n]∈rs:=lN HC
  walk_at "v1"
  generalize rs[n]=r at *
  have c1:=jq (cell*48271^9) (show r.2.1-r.1+1≠0 by ext b)
  have c2:=js (cell*48271^9) (show (0:Int)<r.2.1-r.1+1 by ext b)
  generalize cell*48271^9%(r.2.1-r.1+1)=u at *
  refine ⟨vY (by decide) (by decide),by decide,a2,by ext b,?_⟩
  refine xE [0,r.2.1-r.1+1-1,min 1 (r.2.1-r.1+1-1),(r.2.1-r.1+1)/2,u] (jq _ (by decide)) (js _ (by decide)) λt ht=>?_
  have ht:0<=t/\t<=r.2.1-r.1:=by simp at ht;omega
  walk_at "vc"
  exact ⟨r,HH,t,rfl,ht⟩
 obtain ⟨s,e,r,hr,t,rfl,h⟩:=key
 exact ⟨r,hr,t,e,h⟩
noncomputable abbrev Tr:=List Row×List Row×Int
noncomputable def fD(fs:List Row):D:=.tup (fs.map Row.d)
noncomputable def rD(rs:List Row):D:=.lst false (rs.map Row.d)
structure bO(t:Tr):Prop where
 fp:FP t.1 t.2.1
 bx:-(10^60)<=t.2.2/\t.2.2<=10^60
def dW(t:Tr):Prop:=look t.1 t.2.2=some (bF t.1 t.2.2)
noncomputable abbrev Cn:=(Tr×Nat)×Int
noncomputable def vB(q:Cn):Int:=-(-(bF q.1.1.1 q.1.1.2.2-bF q.1.1.1 q.2)/(q.1.1.2.2-q.2))
noncomputable def vA(q:Cn):Int:=(bF q.1.1.1 q.2-bF q.1.1.1 q.1.1.2.2)/(q.2-q.1.1.2.2)
noncomputable def cB(u:Tr×Nat):List Cn:=(u.1.2.1.flatMap (c9 u.1.2.2)).map λy=>(u,y)
noncomputable def cA(u:Tr×Nat):List Cn:=(u.1.2.1.flatMap (de u.1.2.2)).map λy=>(u,y)
noncomputable def rB(q:Cn):List Int:=[vB q,q.1.2,q.2]
noncomputable def rA(q:Cn):List Int:=[vA q,q.1.2,q.2]
theorem zx:∀{us:List (Tr×Nat)},(∀u∈us,u.1.2.1.length<=100)->(us.flatMap cB).length<=200*us.length
 | [],_=>by simp
 | u::us,h=>by
  have h1:=zx (us:=us) λv hv=>h v (bG _ hv)
  have h2:=Fe (x:=u.1.2.2) u.1.2.1
  have h3:=h u bw
  simp only [tK,cX,gh,cB,aQ]
  ext h1 h2 h3
theorem zy:∀{us:List (Tr×Nat)},(∀u∈us,u.1.2.1.length<=100)->(us.flatMap cA).length<=200*us.length
 | [],_=>by simp
 | u::us,h=>by
  have h1:=zy (us:=us) λv hv=>h v (bG _ hv)
  have h2:=Fd (x:=u.1.2.2) u.1.2.1
  have h3:=h u bw
  simp only [tK,cX,gh,cA,aQ]
  ext h1 h2 h3
theorem QY{α β:Type}(f:α->List β)(l:List α)(a:α):(l++[a]).flatMap f=l.flatMap f++f a:=by simp
theorem QF(ts:List Tr):tU (ts.map λt=>fD t.2.1)=ts.zipIdx.map λu=>.tup [.int u.2,fD u.1.2.1]:=by
 unfold tU
 rw [List.zipIdx_map,cJ]
 rfl
theorem RA{ts:List Tr}{u:Tr×Nat}(hu:u∈ts.zipIdx):fB (ts.map λt=>D.int t.2.2) (u.2:Int)=some (.int u.1.2.2):=by
 rw [DL.cK,kT,Bg.mp hu]
 rfl
theorem vS{ts:List Tr}{u:Tr×Nat}(hu:u∈ts.zipIdx):u.1∈ts:=Bl (Bg.mp hu)
noncomputable def gE:GF:=gT 2 (fq (gN 3) (fq (gN 4) nv))
noncomputable def JX:SF:=ag (aS 5 (au (bV 1) (eV 3)))
 (ag (aS 6 (aG 2 nC (ae (aO (ae (eV 4) ab)) (ae (aO (ae (eV 5) ab)) ab))))
 (fM 2 (fR (e9 (aG 2 xW (ae (eV 4) (ae (eV 5) ab)))) [6,4,5,3] 1 (gN 0) iO (aY (ae (aG 2 t6 (ae (aa aP (eV 1) (aG 2 jL (ae (eV 2) (ae (eV 0) ab)))) (ae (aa aP (eV 3) (eV 0)) ab))) (ae (eV 4) (ae (eV 0) ab)))))))
noncomputable def JW:SF:=ag (aS 5 (au (bV 1) (eV 3)))
 (ag (aS 6 (aG 2 nC (ae (aO (ae (eV 4) ab)) (ae (aO (ae (eV 5) ab)) ab))))
 (fM 2 (fR (e9 (aG 2 xV (ae (eV 4) (ae (eV 5) ab)))) [4,6,5,3] 1 (gN 0) iO (aY (ae (aG 2 uc (ae (aa aP (aG 2 jL (ae (eV 1) (ae (eV 0) ab))) (eV 2)) (ae (aa aP (eV 0) (eV 3)) ab))) (ae (eV 4) (ae (eV 0) ab)))))))
theorem b4d{ts:List Tr}(hg:∀t∈ts,bO t){u:Tr×Nat}(hu:u∈ts.zipIdx)(ho:dW u.1){ds xs:D}{rows:List D}(hx:xs=.lst false (ts.map λt=>D.int t.2.2)\/xs=.lst true (ts.map λt=>D.int t.2.2))(hr:rows.length<=10000){x5 x6:Sl}:
  JX [.sh ds,.sh xs,.ow rows,.sh (.int u.2),.sh (fD u.1.2.1),x5,x6]=some (.nx,[.sh ds,.sh xs,.ow (rows++(cB u).map λq=>.tup ((rB q).map D.int)),.sh (.int u.2),.sh (fD u.1.2.1),.sh (.int u.1.2.2),.sh (.int (bF u.1.1 u.1.2.2))]):=by
 have hG:=hg u.1 (vS hu)
 have e1:=hG.fp.cost hG.bx
 rw [ho] at e1
 have kF:=hG.fp.len
 refine Wo.eq ?_
 unfold JX
 rcases hx with rfl | rfl <;>
 .walk_at "v1"
  rw [RA hu]
  walk_at "v1"
  unfold fD
  rw [K5 e1]
  walk_at "v1"
  rw [b62 (by ext kF)]
  walk_at "v1"
  rw [lg D.int (λy=>D.tup ((rB (u,y)).map D.int)) (λe=>∃x0,e=[x0,.sh (.int (bF u.1.1 u.1.2.2)),.sh (.tup (u.1.2.1.map Row.d)),.sh (.int u.1.2.2),.sh (.int u.2)]) (u.1.2.1.flatMap (c9 u.1.2.2)) (λy hy e he=>?_) ⟨_,rfl⟩]
  .have:=Fe (x:=u.1.2.2) u.1.2.1
   walk_at "vc"
   simp only [aQ]
   refine ⟨by ext kF this,by ext hr kF this,?_⟩
   unfold cB
   rw [cJ]
   rfl
  .obtain ⟨x0,rfl⟩:=he
   obtain ⟨h1,h2,h3⟩:=hG.fp.c9 hy
   have e2:=hG.fp.cost h2
   have hb:=hG.bx
   rw [h3] at e2
   dsimp only [bE] at e2
   walk_at "vc"
   rw [e2]
   walk_at "vc"
   rw [AN (by ext h1) (by ext h2 hb)]
   walk_at "vc"
   exact ⟨⟨_,rfl⟩,rfl⟩
theorem b2o{ts:List Tr}(hg:∀t∈ts,bO t){u:Tr×Nat}(hu:u∈ts.zipIdx)(ho:dW u.1){ds xs:D}{rows:List D}(hx:xs=.lst false (ts.map λt=>D.int t.2.2)\/xs=.lst true (ts.map λt=>D.int t.2.2))(hr:rows.length<=10000){x5 x6:Sl}:
  JW [.sh ds,.sh xs,.ow rows,.sh (.int u.2),.sh (fD u.1.2.1),x5,x6]=some (.nx,[.sh ds,.sh xs,.ow (rows++(cA u).map λq=>.tup ((rA q).map D.int)),.sh (.int u.2),.sh (fD u.1.2.1),.sh (.int u.1.2.2),.sh (.int (bF u.1.1 u.1.2.2))]):=by
 have hG:=hg u.1 (vS hu)
 have e1:=hG.fp.cost hG.bx
 rw [ho] at e1
 have kF:=hG.fp.len
 refine Wo.eq ?_
 unfold JW
 rcases hx with rfl | rfl <;>
 .walk_at "v1"
  rw [RA hu]
  walk_at "v1"
  unfold fD
  rw [K5 e1]
  walk_at "v1"
  rw [b63 (by ext kF)]
  walk_at "v1"
  rw [lg D.int (λy=>D.tup ((rA (u,y)).map D.int)) (λe=>∃x0,e=[x0,.sh (.tup (u.1.2.1.map Row.d)),.sh (.int (bF u.1.1 u.1.2.2)),.sh (.int u.1.2.2),.sh (.int u.2)]) (u.1.2.1.flatMap (de u.1.2.2)) (λy hy e he=>?_) ⟨_,rfl⟩]
  .have:=Fd (x:=u.1.2.2) u.1.2.1
   walk_at "vc"
   simp only [aQ]
   refine ⟨by ext kF this,by ext hr kF this,?_⟩
   unfold cA
   rw [cJ]
   rfl
  .obtain ⟨x0,rfl⟩:=he
   obtain ⟨h1,h2,h3⟩:=hG.fp.de hy
   have e2:=hG.fp.cost h2
   have hb:=hG.bx
   rw [h3] at e2
   dsimp only [bE] at e2
   walk_at "vc"
   rw [e2]
   walk_at "vc"
   rw [Qr (by ext h1) (by ext h2 hb)]
   walk_at "vc"
   exact ⟨⟨_,rfl⟩,rfl⟩
theorem PK{k:Int}{d:D}{e0 e1 e2 x3 x4 x5 x6:Sl}:gE (.tup [.int k,d]) [e0,e1,e2,x3,x4,x5,x6]=some [e0,e1,e2,.sh (.int k),.sh d,x5,x6]:=rfl
theorem Rb{ts:List Tr}(hl:ts.length<=8){pre post:List (Tr×Nat)}{u:Tr×Nat}(e:ts.zipIdx=pre++u::post):pre.length<=8:=by
 have:=congrArg mn e
 simp at this
 ext hl this
theorem QJ{ts:List Tr}(hg:∀t∈ts,bO t){pre post:List (Tr×Nat)}(e:ts.zipIdx=pre++post):∀u∈pre,u.1.2.1.length<=100:=λu hu=>(hg u.1 (vS (by rw [e];exact gv _ hu))).fp.len
theorem Qt{ts:List Tr}(hl:ts.length<=8)(hg:∀t∈ts,bO t)(ho:∀t∈ts,dW t){r:Bool}:ya [.lst r (ts.map λt=>fD t.2.1),.lst false (ts.map λt=>D.int t.2.2)]=some (.ow ((ts.zipIdx.flatMap cB).map λq=>.tup ((rB q).map D.int))):=by
 refine Wo.eq (oD.mpr ?_)
 rw [show LS=ag (cP 2 (aO ab)) (ag (vM (eL vL (ae (eV 0) ab)) gE JX) (j6 2)) from rfl]
 walk_at "v1"
 rw [QF]
 refine iZ (λu:Tr×Nat=>D.tup [.int u.2,fD u.1.2.1]) (λpre env=>∃x3 x4 x5 x6,env=[.sh (.lst r (ts.map λt=>fD t.2.1)),.sh (.lst false (ts.map λt=>D.int t.2.2)),.ow ((pre.flatMap cB).map λq=>.tup ((rB q).map D.int)),x3,x4,x5,x6]) ts.zipIdx (λpre u post env e h=>?_) (λenv h=>?_) ⟨_,_,_,_,rfl⟩
 .obtain ⟨x3,x4,x5,x6,rfl⟩:=h
  have hu:u∈ts.zipIdx:=by rw [e];simp
  have h1:=zx (QJ hg e)
  have h2:=Rb hl e
  rw [PK,a0i,b4d hg hu (ho _ (vS hu)) (.inl rfl) (by rw [aQ];ext h1 h2),a0i]
  walk_at "v1"
  rw [QY,eR]
  exact ⟨_,_,_,_,rfl⟩
 .obtain ⟨x3,x4,x5,x6,rfl⟩:=h
  walk_at "vc"
theorem QS{ts:List Tr}(hl:ts.length<=8)(hg:∀t∈ts,bO t)(ho:∀t∈ts,dW t){r:Bool}:yc [.lst r (ts.map λt=>fD t.2.1),.lst false (ts.map λt=>D.int t.2.2)]=some (.ow ((ts.zipIdx.flatMap cA).map λq=>.tup ((rA q).map D.int))):=by
 refine Wo.eq (mH.mpr ?_)
 rw [show LZ=ag (cP 2 (aO ab)) (ag (vM (eL vL (ae (eV 0) ab)) gE JW) (j6 2)) from rfl]
 walk_at "v1"
 rw [QF]
 refine iZ (λu:Tr×Nat=>D.tup [.int u.2,fD u.1.2.1]) (λpre env=>∃x3 x4 x5 x6,env=[.sh (.lst r (ts.map λt=>fD t.2.1)),.sh (.lst false (ts.map λt=>D.int t.2.2)),.ow ((pre.flatMap cA).map λq=>.tup ((rA q).map D.int)),x3,x4,x5,x6]) ts.zipIdx (λpre u post env e h=>?_) (λenv h=>?_) ⟨_,_,_,_,rfl⟩
 .obtain ⟨x3,x4,x5,x6,rfl⟩:=h
  have hu:u∈ts.zipIdx:=by rw [e];simp
  have h1:=zy (QJ hg e)
  have h2:=Rb hl e
  rw [PK,a0i,b2o hg hu (ho _ (vS hu)) (.inl rfl) (by rw [aQ];ext h1 h2),a0i]
  walk_at "v1"
  rw [QY,eR]
  exact ⟨_,_,_,_,rfl⟩
 .obtain ⟨x3,x4,x5,x6,rfl⟩:=h
  walk_at "vc"
def Es(ts:List Tr)(o:Option Cn):Prop:=match o with
 | none=>∀t∈ts,t.2.1.flatMap (c9 t.2.2)=[]
 | some q=>q.1∈ts.zipIdx/\q.2∈q.1.1.2.1.flatMap (c9 q.1.1.2.2)/\∀t∈ts,∀y∈t.2.1.flatMap (c9 t.2.2),-(-(bF t.1 t.2.2-bF t.1 y)/(t.2.2-y))<=vB q
def EI(ts:List Tr)(o:Option Cn):Prop:=match o with
 | none=>∀t∈ts,t.2.1.flatMap (de t.2.2)=[]
 | some q=>q.1∈ts.zipIdx/\q.2∈q.1.1.2.1.flatMap (de q.1.1.2.2)/\∀t∈ts,∀y∈t.2.1.flatMap (de t.2.2),vA q<=(bF t.1 y-bF t.1 t.2.2)/(y-t.2.2)
theorem P5{ts:List Tr}{t:Tr}(ht:t∈ts){y:Int}(hy:y∈t.2.1.flatMap (c9 t.2.2)):∃k:Nat,((t,k),y)∈ts.zipIdx.flatMap cB:=by
 obtain ⟨k,hk⟩:=OJ ht
 exact ⟨k,j0.mpr ⟨(t,k),Bg.mpr hk,cF.mpr ⟨y,hy,rfl⟩⟩⟩
theorem QD{ts:List Tr}{t:Tr}(ht:t∈ts){y:Int}(hy:y∈t.2.1.flatMap (de t.2.2)):∃k:Nat,((t,k),y)∈ts.zipIdx.flatMap cA:=by
 obtain ⟨k,hk⟩:=OJ ht
 exact ⟨k,j0.mpr ⟨(t,k),Bg.mpr hk,cF.mpr ⟨y,hy,rfl⟩⟩⟩
noncomputable def ko(r:Cn->List Int):Option Cn->D
 | none=>.aR
 | some q=>.tup ((r q).map D.int)
theorem Q4(ts:List Tr):∃o:Option Cn,(if (ts.zipIdx.flatMap cB).map rB=[] then D.aR else .tup ((kZ kH ((ts.zipIdx.flatMap cB).map rB)).map D.int))=ko rB o/\Es ts o:=by
 cases h:ts.zipIdx.flatMap cB with
 | nil =>
  refine ⟨none,by simp [ko],λt ht=>?_⟩
  refine Pt.mpr λy hy=>?_
  obtain ⟨k,hk⟩:=P5 ht hy
  rw [h] at hk
  cases hk
 | cons q0 qs =>
  obtain ⟨q,hq,e,hm⟩:=K3 (f:=rB) (v:=vB) (λy=>⟨_,rfl⟩) qs q0
  refine ⟨some q,?_,?_⟩
  .rw [if_neg (by simp),fg]
   show D.tup (jn D.int (DD (λm y=>if kH y m=true then y else m) (rB q0) (jn rB qs)))=_
   rw [e]
   rfl
  .rw [<-h] at hq
   obtain ⟨u,hu,hy⟩:=j0.mp hq
   obtain ⟨y,sT,rfl⟩:=cF.mp hy
   refine ⟨hu,sT,λt ht z hz=>?_⟩
   obtain ⟨k,hk⟩:=P5 ht hz
   rw [h] at hk
   exact hm _ hk
theorem Ro(ts:List Tr):∃o:Option Cn,(if (ts.zipIdx.flatMap cA).map rA=[] then D.aR else .tup ((kZ HT.lexLt ((ts.zipIdx.flatMap cA).map rA)).map D.int))=ko rA o/\EI ts o:=by
 cases h:ts.zipIdx.flatMap cA with
 | nil =>
  refine ⟨none,by simp [ko],λt ht=>?_⟩
  refine Pt.mpr λy hy=>?_
  obtain ⟨k,hk⟩:=QD ht hy
  rw [h] at hk
  cases hk
 | cons q0 qs =>
  obtain ⟨q,hq,e,hm⟩:=K4 (f:=rA) (v:=vA) (λy=>⟨_,rfl⟩) qs q0
  refine ⟨some q,?_,?_⟩
  .rw [if_neg (by simp),fg]
   show D.tup (jn D.int (DD (λm y=>if HT.lexLt y m=true then y else m) (rA q0) (jn rA qs)))=_
   rw [e]
   rfl
  .rw [<-h] at hq
   obtain ⟨u,hu,hy⟩:=j0.mp hq
   obtain ⟨y,sT,rfl⟩:=cF.mp hy
   refine ⟨hu,sT,λt ht z hz=>?_⟩
   obtain ⟨k,hk⟩:=QD ht hz
   rw [h] at hk
   exact hm _ hk
theorem AR(ns:List Int)(k:Int)(hk:0<=k){r:Bool}:xO [.lst r (ns.map D.int),.int k]=some (.sh (.int (ns.getD k.toNat 0))):=by
 refine Wo.eq (qh.mpr ?_)
 unfold K7
 walk_at "vc"
 rw [aQ]
 refine ⟨λh=>?_,λh=>?_⟩
 .rw [BU 0 hk h]
  walk_at "vc"
 .have:ns.length<=k.toNat:=by ext h
  simp [this]
structure Sel(rs:List Row):Prop where
 len:rs.length<=4
 cG:cN rs
 bd:∀r∈rs,dO 4 r
noncomputable def kj(ls:List Int)(c:Int)(k:Nat):List Int:=(fI (e8 (0+(k:Int)) ls.length c)).map λ(j:Nat)=>ls.getD (0+(k:Int)+(j:Int)*c).toNat 0
theorem b6M{ls:List Int}(h:∀v∈ls,0<=v/\v<10^18)(k:Nat):0<=ls.getD k 0/\ls.getD k 0<10^18:=by
 by_cases hk:k<ls.length
 .rw [show ls.getD k 0=ls[k] by simp [hk]]
  exact h _ (lN hk)
 .rw [show ls.getD k 0=0 by simp [Bf hk]]
  decide
noncomputable def qF(p:Int)(r:Row):Row:=(r.1,r.2.1,r.2.2.1-p*r.1,r.2.2.2-p)
theorem Q1(p:Int)(r:Row)(x:Int):(qF p r).at x=r.at x-p*x:=by unfold qF Row.at;dsimp only;grind
theorem b3z{rs:List Row}(h:cN rs)(p:Int):cN (rs.map (qF p)):=by
 refine ⟨λr hr=>?_,rO.mpr h.2⟩
 obtain ⟨q,hq,rfl⟩:=cF.mp hr
 exact h.1 q hq
theorem b3y{rs:List Row}{p x c:Int}:Val (rs.map (qF p)) x c↔Val rs x (c+p*x):=by
 constructor
 .rintro ⟨r,hr,h1,h2,h3⟩
  obtain ⟨q,hq,rfl⟩:=cF.mp hr
  rw [Q1] at h3
  exact ⟨q,hq,h1,h2,by ext h3⟩
 .rintro ⟨r,hr,h1,h2,h3⟩
  exact ⟨qF p r,cF.mpr ⟨r,hr,rfl⟩,h1,h2,by rw [Q1];ext h3⟩
def J6(rs:List Row)(p g:Int):Prop:=(∃x c,Val rs x c/\g=p*x-c)/\∀x c,Val rs x c->p*x-c<=g
structure qk(rs fs:List Row):Prop where
 canon:Canon fs
 val:∀x c,Val fs x c↔Val rs x c
 ne:fs≠[]
 len:fs.length<=100
 bd:∀r∈fs,(-(10^52)<=r.1/\r.1<=10^52)/\(-(10^52)<=r.2.1/\r.2.1<=10^52)/\(-(10^85)<=r.2.2.1/\r.2.2.1<=10^85)/\(-(2*10^85)<=r.2.2.2/\r.2.2.2<=2*10^85)
theorem b4B{rs fs:List Row}(F:qk rs fs){p:Int}(hp:-(10^86)<=p/\p<=10^86):∃gs:List Row,xP [.tup (fs.map Row.d),.int p]=some (.sh (.tup (gs.map Row.d)))/\gs≠[]/\gs.length<=100/\Canon gs/\(∀x c,Val gs x c↔Val rs x (c+p*x))/\∀r∈gs,aB (10^140) r:=by
 have hlen:=F.len
 have Zm:∀r∈fs.map (qF p),aB (10^140) r:=λr hr=>by
  obtain ⟨q,hq,rfl⟩:=cF.mp hr
  have:=F.bd q hq
  have:=Bx (a:=p) (b:=q.1) (A:=10^86) (B:=10^52) (by ext hp) (by ext hp) (by ext this) (by ext this)
  unfold qF aB
  dsimp only
  omega
 obtain ⟨gs,eg,L⟩:=EJ (b3z F.canon.cG p) Zm (by rw [aQ];ext hlen) (ro:=false)
 have hv:∀x c,Val gs x c↔Val rs x (c+p*x):=λx c=>by rw [L.val,b3y,F.val]
 refine ⟨gs,?_,λz=>F.ne (by simpa using L.none.mp z),by have:=L.len;rw [aQ] at this;ext hlen this,L.canon,hv,λr hr=>?_⟩
 .refine Wo.eq (qf.mpr ?_)
  unfold K9
  walk_at "vc"
  rw [lg Row.d (λr=>(qF p r).d) (λe=>∃x0,e=[x0,.sh (.int p)]) fs (λr hr e he=>?_) ⟨_,rfl⟩]
  .rw [aQ]
   walk_at "vc"
   rw [show fs.map (λr=>(qF p r).d)=(fs.map (qF p)).map Row.d by rw [cJ];rfl,eg]
   walk_at "vc"
   ext hlen
  .obtain ⟨x0,rfl⟩:=he
   have:=F.bd r hr
   rw [dr r]
   walk_at "vc"
   exact ⟨⟨_,rfl⟩,ub (by ext hp) (by ext hp) (by ext this) (by ext this),rfl⟩
 .have:=BW L.canon (B:=10^52) (C:=10^139) (by decide) (λx c h=>by
   obtain ⟨q,hq,h1,h2,h3⟩:=(F.val _ _).mpr ((hv x c).mp ((gM L.canon.cG).mp h))
   have:=F.bd q hq
   have e1:=Bx (a:=p) (b:=x) (A:=10^86) (B:=10^52) (by ext hp) (by ext hp) (by ext h1 this) (by ext h2 this)
   have e2:=Bx (a:=q.2.2.2) (b:=x-q.1) (A:=2*10^85) (B:=2*10^52) (by ext this) (by ext this) (by ext h1) (by ext h2 this)
   unfold Row.at at h3
   omega) r hr
  unfold aB
  ext this
theorem b81{rs fs:List Row}(F:qk rs fs){p:Int}(hp:-(10^86)<=p/\p<=10^86):∃g:Int,B8 [.tup (fs.map Row.d),.int p]=some (.sh (.int g))/\J6 rs p g/\∃gs:List Row,xP [.tup (fs.map Row.d),.int p]=some (.sh (.tup (gs.map Row.d)))/\Canon gs/\gs.length<=100/\(∀r∈gs,aB (10^140) r)/\(∀x c,Val gs x c↔Val rs x (c+p*x))/\∃y:Int,xY [.tup (gs.map Row.d)]=some (.sh (.tup [.int (-g),.int y])):=by
 obtain ⟨gs,eg,bI,hl,hc,hv,hb⟩:=b4B F hp
 obtain ⟨r,qs,rfl⟩:∃r qs,gs=r::qs:=by
  cases gs with
  | nil=>exact absurd rfl bI
  | cons r qs=>exact ⟨r,qs,rfl⟩
 have el:=b4I hb (by ext hl)
 obtain ⟨m,hm,em,HE⟩:=So (qs.map fo) (fo r)
 have e2:(r::qs).map (λq=>[(fo q).1,(fo q).2])=(fo r::qs.map fo).map λq=>[q.1,q.2]:=by simp
 rw [e2,em] at el
 have bh:=λq hq=>(hc.1 q hq).1
 refine ⟨-m.1,?_,⟨?_,λx c h=>?_⟩,r::qs,eg,hc,hl,hb,hv,m.2,by rw [el,Int.neg_neg];rfl⟩
 .refine Wo.eq (oF.mpr ?_)
  unfold LQ
  walk_at "vc"
  rw [eg]
  walk_at "vc"
  rw [el,show jn D.int [m.1,m.2]=[.int m.1,.int m.2] from rfl]
  walk_at "vc"
 .obtain ⟨q,hq,rfl⟩:∃q∈r::qs,m=fo q:=by
   rw [<-fg (f:=fo)] at hm
   obtain ⟨q,hq,e⟩:=cF.mp hm
   exact ⟨q,hq,e.symm⟩
  obtain ⟨k1,k2,k3⟩:=b4O (bh q hq)
  have:=(hv (fo q).2 (fo q).1).mp ⟨q,hq,k1,k2,k3.symm⟩
  exact ⟨_,_,this,by ext⟩
 .have h':Val (r::qs) x (c-p*x):=(hv _ _).mpr (by rw [show c-p*x+p*x=c by ext];exact h)
  obtain ⟨q,hq,k1,k2,k3⟩:=h'
  have c1:=b4N (bh q hq) k1 k2
  have c2:=HE (fo q) (by rw [<-fg (f:=fo)];exact cF.mpr ⟨q,hq,rfl⟩)
  rw [<-k3] at c1
  ext c1 c2
theorem FP.AJ{rs fs:List Row}(F:FP rs fs)(hb:∀r∈rs,dO 4 r)(bI:fs≠[]):qk rs fs:=by
 refine ⟨F.canon,F.val,bI,F.len,λr hr=>?_⟩
 have:=BW F.canon (B:=10^52) (C:=10^85) (by decide) (λx c h=>vV hb ((F.val x c).mp ((gM F.canon.cG).mp h))) r hr
 ext this
theorem QU{rs fs:List Row}(F:FP rs fs)(hb:∀r∈rs,dO 4 r){x p c:Int}(hp:-(10^86)<=p/\p<=10^86)(hc:look rs x=some c):∃g:Int,v7 [.tup (fs.map Row.d),.int x,.int p]=some (.sh (.bl (decide (p*x-c=g))))/\J6 rs p g:=by
 have hv:=vV hb ((gM F.cG).mp hc)
 have bI:fs≠[]:=λz=>by
  obtain ⟨r,hr,_⟩:=(F.val _ _).mpr ((gM F.cG).mp hc)
  rw [z] at hr
  cases hr
 obtain ⟨g,eg,hg,_⟩:=b81 (F.AJ hb bI) hp
 refine ⟨g,?_,hg⟩
 have e1:=F.cost (x:=x) (by ext hv)
 rw [hc] at e1
 refine Wo.eq (su.mpr ?_)
 unfold K0
 walk_at "vc"
 rw [K5 e1]
 walk_at "vc"
 rw [eg]
 walk_at "vc"
 exact ub (by ext hp) (by ext hp) (by ext hv) (by ext hv)
theorem RY{rs:List Row}(ha:cN rs){x c p g:Int}(hg:J6 rs p g)(hv:Val rs x c):p*x-c=g↔yn rs x c p/\yo rs x c p:=by
 constructor
 .intro h
  refine ⟨λy c' v hy=>?_,λy c' v hy=>?_⟩
  .have:=hg.2 _ _ v
   have e:p*(x-y)=p*x-p*y:=by grind
   ext h this e
  .have:=hg.2 _ _ v
   have e:p*(y-x)=p*y-p*x:=by grind
   ext h this e
 .rintro ⟨h1,h2⟩
  have h0:=hg.2 _ _ hv
  obtain ⟨y,c',v,e⟩:=hg.1
  by_cases hy:y<x
  .have:=h1 y c' v hy
   have e:p*(x-y)=p*x-p*y:=by grind
   omega
  .by_cases NY:x<y
   .have:=h2 y c' v NY
    have e:p*(y-x)=p*y-p*x:=by grind
    omega
   .have YR:y=x:=by ext hy NY
    subst YR
    have a1:=(gM ha).mpr v
    have a2:=(gM ha).mpr hv
    rw [a1] at a2
    cases a2
    ext e
noncomputable def BG:Option Cn->Option Cn->D
 | none,none=>.tup [.str "price",.int 0]
 | none,some q=>.tup [.str "price",.int (vA q)]
 | some p,none=>.tup [.str "price",.int (vB p)]
 | some p,some q=>if vB p<=vA q then .tup [.str "price",.int (vB p)] else .tup [.str "bars",.int p.1.2,.int p.2,.int q.1.2,.int q.2]
theorem b6Y{ts:List Tr}(hl:ts.length<=8)(hg:∀t∈ts,bO t)(ho:∀t∈ts,dW t){r:Bool}:∃o1 o2:Option Cn,Cp [.lst r (ts.map λt=>fD t.2.1),.lst false (ts.map λt=>D.int t.2.2)]=some (.sh (BG o1 o2))/\Es ts o1/\EI ts o2:=by
 obtain ⟨o1,h1,l1⟩:=Q4 ts
 obtain ⟨o2,h2,l2⟩:=Ro ts
 refine ⟨o1,o2,?_,l1,l2⟩
 refine Wo.eq (lh.mpr ?_)
 unfold Ml
 walk_at "v1"
 rw [Fc]
 walk_at "v1"
 rw [Qt hl hg ho]
 walk_at "v1"
 rw [xS]
 walk_at "v1"
 rw [h1,Fc]
 walk_at "v1"
 rw [QS hl hg ho]
 walk_at "v1"
 rw [xS]
 walk_at "v1"
 rw [h2]
 cases o1 with
 | none=>cases o2<;>dsimp only [ko,rB,rA,jn,BG]<;>walk_at "vc"
 | some p =>
  cases o2 with
  | none=>dsimp only [ko,rB,rA,jn,BG];walk_at "vc"
  | some q =>
   dsimp only [ko,rB,rA,jn,BG]
   walk_at "vc"
   exact ⟨λh=>by rw [if_pos h],λh=>by rw [if_neg h]⟩
theorem BK(ts:List Tr)(f g:Tr->D):ic (ts.map f) (ts.map g)=ts.map λt=>.tup [f t,g t]:=by
 unfold ic
 rw [List.zipWith_map,List.zipWith_self]
theorem Im(a b:Str):fw (.str a) (.str b)=some (.sh (.bl (decide (a=b)))):=rfl
theorem Qx(cs:List (Option Int)):inD .aR (cs.map bE)=some (cs.any D0):=by
 unfold inD
 rw [cJ]
 have:gJ (cs.map ((λd=>bj 7 d .aR)∘bE))=some (cs.map D0):=by
  induction cs with
  | nil=>rfl
  | cons c cs ih =>
   rw [fg,fg]
   cases c with
   | none=>show (gJ _).map _=_;rw [ih];rfl
   | some v=>show (gJ _).map _=_;rw [ih];rfl
 rw [this]
 simp [List.any_map,Function.comp_def]
theorem PR{ts:List Tr}(hg:∀t∈ts,bO t):nu (gT 2 (fq (gN 0) (fq (gN 1) nv))) iO (aG 2 jL (ae (eV 0) (ae (eV 1) ab))) (ic (ts.map λt=>fD t.2.1) (ts.map λt=>.int t.2.2)) [.no,.no]=some ((ts.map λt=>look t.1 t.2.2).map bE):=by
 rw [BK,cJ]
 refine lg (λt:Tr=>.tup [fD t.2.1,.int t.2.2]) (λt=>bE (look t.1 t.2.2)) (λe=>∃x y,e=[x,y]) ts (λt h e he=>?_) ⟨_,_,rfl⟩
 obtain ⟨x,y,rfl⟩:=he
 unfold fD
 walk_at "vc"
 rw [(hg t h).fp.cost (hg t h).bx]
 walk_at "vc"
 exact ⟨_,_,rfl⟩
theorem b83{ts:List Tr}(hl:ts.length<=8)(hg:∀t∈ts,bO t)(ho:∀t∈ts,dW t){r r':Bool}:∃s:Int,nC [.lst r (ts.map λt=>fD t.2.1),.lst r' (ts.map λt=>D.int t.2.2)]=some (.sh (.int s)):=by
 refine ⟨(ts.map λt=>bF t.1 t.2.2).sum,Wo.eq (gk.mpr ?_)⟩
 unfold B3
 walk_at "v1"
 rw [PR hg]
 walk_at "v1"
 have e1:ts.map (λt=>look t.1 t.2.2)=(ts.map λt=>bF t.1 t.2.2).map some:=by rw [cJ];exact Eg λt ht=>ho t ht
 rw [BK,aQ]
 refine ⟨by ext hl,?_⟩
 refine ny ?_ ?_
 .walk_at "vc"
  rw [Qx,e1,show ((ts.map λt=>bF t.1 t.2.2).map some).any D0=false by simp]
  walk_at "vc"
 walk_at "vc"
 rw [e1,cJ,show (bE∘some:Int->D)=D.int from rfl,ug]
 walk_at "vc"
theorem JV{ts:List Tr}{kn:Nat}{t:Tr}(h:ts[kn]?=some t)(f:Tr->D):fB (ts.map f) (kn:Int)=some (f t):=by
 rw [DL.cK,kT,h]
 rfl
theorem b2N{ts:List Tr}(hl:ts.length<=8)(hg:∀t∈ts,bO t)(hb:∀t∈ts,∀r∈t.1,dO 4 r)(ho:∀t∈ts,dW t){p:Int}(hp:-(10^86)<=p/\p<=10^86){r r':Bool}:∃b:Bool,bg [.lst r (ts.map λt=>fD t.2.1),.lst r' (ts.map λt=>D.int t.2.2),.tup [.str "price",.int p]]=some (.sh (.bl b))/\(b=true↔∀t∈ts,yn t.1 t.2.2 (bF t.1 t.2.2) p/\yo t.1 t.2.2 (bF t.1 t.2.2) p):=by
 have one:∀t:Tr,∃b:Bool,t∈ts->v7 [fD t.2.1,.int t.2.2,.int p]=some (.sh (.bl b))/\(b=true↔yn t.1 t.2.2 (bF t.1 t.2.2) p/\yo t.1 t.2.2 (bF t.1 t.2.2) p):=λt=>by
  by_cases ht:t∈ts
  .obtain ⟨g,e,HQ⟩:=QU (hg t ht).fp (hb t ht) hp (ho t ht)
   exact ⟨_,λ_=>⟨e,by rw [decide_eq_true_iff];exact RY (hg t ht).fp.cG HQ ((gM (hg t ht).fp.cG).mp (ho t ht))⟩⟩
  .exact ⟨true,λz=>absurd z ht⟩
 obtain ⟨f,hf⟩:=xc one
 obtain ⟨s,es⟩:=b83 hl hg ho (r:=r) (r':=r')
 refine ⟨(ts.map f).all id,Wo.eq (jc.mpr ?_),?_⟩
 .unfold dg
  walk_at "v1"
  rw [es]
  walk_at "v1"
  rw [a2Y]
  walk_at "v1"
  rw [Im,decide_eq_true rfl]
  walk_at "v1"
  rw [BK,lg (λt:Tr=>.tup [fD t.2.1,.int t.2.2]) (λt=>.bl (f t)) (λe=>∃x y,e=[x,y,.sh (.tup [.str "price",.int p])]) ts (λt ht e he=>?_) ⟨_,_,rfl⟩]
  .walk_at "vc"
   rw [show ts.map (λt=>D.bl (f t))=(ts.map f).map D.bl by rw [cJ];rfl,Rf]
   walk_at "vc"
   rw [aQ]
   ext hl
  .obtain ⟨x,y,rfl⟩:=he
   walk_at "vc"
   rw [(hf t ht).1]
   walk_at "vc"
   exact ⟨_,_,rfl⟩
 .rw [Ej]
  constructor
  .intro z t ht
   exact (hf t ht).2.mp (z _ (List.mem_map_of_mem ht))
  .intro z b hb
   obtain ⟨t,ht,rfl⟩:=cF.mp hb
   exact (hf t ht).2.mpr (z t ht)
theorem b6V{ts:List Tr}(hl:ts.length<=8)(hg:∀t∈ts,bO t)(ho:∀t∈ts,dW t){r:Bool}:∃o1 o2:Option Cn,Cw [.lst r (ts.map λt=>fD t.2.1),.lst false (ts.map λt=>D.int t.2.2)]=some (.sh (.tup [bE (o1.map vB),bE (o2.map vA)]))/\Es ts o1/\EI ts o2:=by
 obtain ⟨o1,h1,l1⟩:=Q4 ts
 obtain ⟨o2,h2,l2⟩:=Ro ts
 refine ⟨o1,o2,?_,l1,l2⟩
 refine Wo.eq (iJ.mpr ?_)
 unfold M0
 walk_at "v1"
 rw [Fc]
 walk_at "v1"
 rw [Qt hl hg ho]
 walk_at "v1"
 rw [xS]
 walk_at "v1"
 rw [h1,Fc]
 walk_at "v1"
 rw [QS hl hg ho]
 walk_at "v1"
 rw [xS]
 walk_at "v1"
 rw [h2]
 cases o1<;>cases o2<;>dsimp only [ko,rB,rA,jn,tG,bE]<;>walk_at "vc"
theorem XO:CH wq 4 8 864:=
 Lr (n:=4) (m:=144) (by decide) (by decide) (by decide) (Lr (n:=2) (m:=24) (by decide) (by decide) (by decide) (Lr (n:=1) (m:=4) (by decide) (by decide) (by decide) (Q3 (φ:=Cf) a79) (φ:=ye) a78) (φ:=yf) a77) (φ:=yg) ft
theorem b2F(ns:List Int)(sY:ns.length<=63):∃fu:List (List Row),yk [.lst true (ns.map D.int)]=some (.ow (fu.map rD))/\fu.length<=3/\∀rs∈fu,Sel rs/\rs.length<=2/\rs≠[]:=by
 have key:Wo (yk [.lst true (ns.map D.int)]) λs=>∃fu:List (List Row),s=.ow (fu.map rD)/\fu.length<=3/\∀rs∈fu,Sel rs/\rs.length<=2/\rs≠[]:=by
  refine jg.mpr ?_
  unfold MN
  walk_at "v1"
  rw [AR _ _ (by decide)]
  walk_at "v1"
  have c1:=jq (ns.getD 0 0) (show (4:Int)≠0 by decide)
  have c2:=js (ns.getD 0 0) (show (0:Int)<4 by decide)
  generalize ns.getD 0 0%4=c at *
  obtain ⟨ls,el,N5,_,Y9⟩:=b2G ns sY 2 (2*max 1 c) (by decide) (by ext) (by ext c2) (by decide) (r:=true)
  rw [el]
  walk_at "v1"
  have hlen:ls.length<=6:=by ext c2 N5
  have sub:∀k:Nat,(k:Int)<c->(kj ls c k).length<=2:=λk hk=>by
   unfold kj e8
   rw [aQ,qA]
   split
   .have:((ls.length:Int)-(0+k)-1)/c<2:=Int.ediv_lt_of_lt_mul (by ext hk) (by ext N5 hk)
    ext this
   .ext
  have rows:∀k:Nat,∃rs:List Row,(k:Int)<c->wc [.lst false ((kj ls c k).map D.int)]=some (.ow (rs.map Row.d))/\Sel rs/\rs.length<=2:=λk=>by
   by_cases hk:(k:Int)<c
   .obtain ⟨rs,e,h1,h2,h3⟩:=b8Y (ls:=kj ls c k) (λv hv=>by
     unfold kj at hv
     obtain ⟨j,_,rfl⟩:=cF.mp hv
     exact b6M Y9 _) (by have:=sub k hk;ext this) (ro:=false)
    have:=sub k hk
    exact ⟨rs,λ_=>⟨e,⟨by ext h1 this,h2,h3⟩,by ext h1 this⟩⟩
   .exact ⟨[],λz=>absurd z hk⟩
  obtain ⟨f,hf⟩:=xc rows
  unfold ei
  rw [lg (λ(k:Nat)=>D.int (0+(k:Int))) (λk=>rD (f k)) (λe=>∃x,e=[x,.sh (.lst false (ls.map D.int)),.sh (.int c)]) (fI c.toNat) (λk hk e he=>?_) ⟨_,rfl⟩]
  .walk_at "v1"
   rw [show (fI c.toNat).map (λk=>rD (f k))=((fI c.toNat).map f).map rD by rw [cJ];rfl]
   rw [a9C rD (λrs=>decide (rs≠[])) rD (λe=>∃x,e=[x]) ((fI c.toNat).map f) (λrs hr e he=>?_) ⟨_,rfl⟩]
   .walk_at "vc"
    rw [aQ,aQ,qA]
    refine ⟨.inl (by decide),by ext c2,by rw [aQ,qA];ext c2,((fI c.toNat).map f).filter (λrs=>decide (rs≠[])),rfl,eQ (List.length_filter_le _ _) (by rw [aQ,qA];ext c2),λrs mW=>?_⟩
    obtain ⟨h1,h2⟩:=Js.mp mW
    obtain ⟨k,hk,rfl⟩:=cF.mp h1
    have:=hf k (by have:=oV.mp hk;ext this)
    exact ⟨this.2.1,this.2.2,by simpa using h2⟩
   .obtain ⟨x,rfl⟩:=he
    unfold rD
    walk_at "vc"
    refine ⟨⟨_,rfl⟩,?_⟩
    cases rs<;>simp
  .obtain ⟨x,rfl⟩:=he
   have Aj:(k:Int)<c:=by have:=oV.mp hk;ext this
   obtain ⟨e1,s1⟩:=hf k Aj
   walk_at "v1"
   rw [aQ,b4Y]
   unfold nL
   rw [lg (λ(j:Nat)=>D.int (0+(k:Int)+(j:Int)*c)) (λj=>D.int (ls.getD (0+(k:Int)+(j:Int)*c).toNat 0)) (λe=>∃x,e=[x,.sh (.lst false (ls.map D.int))]) (fI (e8 (0+(k:Int)) ls.length c)) (λj hj e he=>?_) ⟨_,rfl⟩]
   .rw [show (fI (e8 (0+(k:Int)) ls.length c)).map (λ(j:Nat)=>D.int (ls.getD (0+(k:Int)+(j:Int)*c).toNat 0))=(kj ls c k).map D.int by unfold kj;rw [cJ];rfl]
    walk_at "vc"
    rw [e1]
    walk_at "vc"
    have:=sub k Aj
    unfold kj at this
    rw [aQ,qA] at this
    refine ⟨⟨_,rfl⟩,⟨⟨by ext Aj,by ext c2⟩,⟨by ext,by ext c2 Aj⟩,by ext,by ext hlen⟩,by rw [aQ,qA];ext this,rfl⟩
   .obtain ⟨x,rfl⟩:=he
    have rk:=oV.mp hj
    have Zl:0<c:=by ext Aj
    have Zf:(0:Int)+k+j*c<ls.length:=by
     unfold e8 at rk
     split at rk
     .have h0:0<=((ls.length:Int)-(0+k)-1)/c:=IM (by omega) (by ext c1)
      have h1:(j:Int)<=((ls.length:Int)-(0+k)-1)/c:=by ext rk
      have h2:=(JC Zl).mp h1
      ext h2
     .ext rk
    have Y6:(0:Int)<=j*c:=oU (by ext) (by ext c1)
    walk_at "vc"
    rw [BU 0 (by ext Y6) Zf]
    walk_at "vc"
    exact ⟨_,rfl⟩
 obtain ⟨s,e,fu,rfl,h⟩:=key
 exact ⟨fu,e,h⟩
theorem b4E{fu:List (List Row)}(hl:fu.length<=3)(hs:∀rs∈fu,Sel rs){cell:Int}(hc:Sm cell){r:Bool}:∃ps:List Int,xX [.lst r (fu.map rD),.int cell]=some (.ow (ps.map D.int))/\∀p∈ps,-(10^51)<=p/\p<=10^51:=by
 have key:Wo (xX [.lst r (fu.map rD),.int cell]) λs=>∃ps:List Int,s=.ow (ps.map D.int)/\∀p∈ps,-(10^51)<=p/\p<=10^51:=by
  refine jR.mpr ?_
  unfold MU
  walk_at "v1"
  have m1:jW cell (69621^12):=⟨hc.x,by unfold LIM;decide,by unfold LIM;decide⟩
  have m2:jW 5 (10^49):=⟨Qh (by decide),by unfold LIM;decide,by unfold LIM;decide⟩
  have f1:=jq (cell*69621^12) (show (10^50:Int)≠0 by decide)
  have f2:=js (cell*69621^12) (show (0:Int)<10^50 by decide)
  have g1:=jq cell (show (13:Int)≠0 by decide)
  have g2:=js cell (show (0:Int)<13 by decide)
  have h1:=jq cell (show (3:Int)≠0 by decide)
  have h2:=js cell (show (0:Int)<3 by decide)
  refine ⟨by walk_at "sc",m1,by walk_at "sc",by walk_at "sc",by walk_at "sc",m2,?_⟩
  generalize cell*69621^12%10^50=w at *
  refine iZ rD (λpre env=>∃x3 x4,∃ps:List Int,env=[.sh (.lst r (fu.map rD)),.sh (.int cell),.ow (ps.map D.int),x3,x4]/\ps.length<=2+4*pre.length/\∀p∈ps,-(10^51)<=p/\p<=10^51) fu (λpre rs post env e h=>?_) (λenv h=>?_) ⟨_,_,[cell%13-6,w-5*10^49],rfl,by simp,λp hp=>?_⟩
  .obtain ⟨x3,x4,ps,rfl,dk,uT⟩:=h
   have S:=hs rs (by rw [e];simp)
   have YY:pre.length<=2:=by
    have:=congrArg mn e
    simp at this
    ext hl this
   unfold rD
   walk_at "v1"
   refine iZ Row.d (λnM env=>∃x4,∃uC:List Int,env=[.sh (.lst r (fu.map rD)),.sh (.int cell),.ow (uC.map D.int),.sh (.lst false (rs.map Row.d)),x4]/\uC.length<=2+4*pre.length+nM.length/\∀p∈uC,-(10^51)<=p/\p<=10^51) rs (λnM q yT env e2 h=>?_) (λenv h=>?_) ⟨_,ps,rfl,by simpa using dk,uT⟩
   .obtain ⟨x4,uC,rfl,nV,uS⟩:=h
    have hb:=S.bd q (by rw [e2];simp)
    have qp:nM.length<=4:=by
     have:=congrArg mn e2
     have:=S.len
     simp at *
     omega
    unfold dO at hb
    rw [show q.d=.tup [.int q.1,.int q.2.1,.int q.2.2.1,.int q.2.2.2] from rfl]
    walk_at "v1"
    rw [aQ]
    refine ⟨by ext YY nV qp,_,uC++[q.2.2.2+cell%3-1],by rw [eR];rfl,by simp;ext nV,λp hp=>?_⟩
    rcases bW.mp hp with h | h
    .exact uS p h
    .rw [bY.mp h]
     omega
   .obtain ⟨x4,uC,rfl,nV,uS⟩:=h
    have:=S.len
    exact ⟨_,_,uC,rfl,by simp;ext nV this,uS⟩
  .obtain ⟨x3,x4,ps,rfl,dk,uT⟩:=h
   walk_at "vc"
   exact ⟨ps,rfl,uT⟩
  .simp only [br,gq,or_false] at hp
   omega
 obtain ⟨s,e,ps,rfl,h⟩:=key
 exact ⟨ps,e,h⟩
noncomputable def xx(p:Int):Option Int->Int->List (Int×Int)->Prop
 | none,_,L=>L=[]
 | some g,x,L=>(∃c,(x,c)∈L/\g=p*x-c)/\∀q∈L,p*q.1-q.2<=g
theorem b26{p y c:Int}{o:Option Int}{x:Int}{L:List (Int×Int)}(h:xx p o x L):((o=none\/∃g,o=some g/\g<p*y-c)->xx p (some (p*y-c)) y (L++[(y,c)]))/\(¬(o=none\/∃g,o=some g/\g<p*y-c)->xx p o x (L++[(y,c)])):=by
 constructor
 .intro z
  refine ⟨⟨c,by simp,rfl⟩,λq hq=>?_⟩
  rcases bW.mp hq with hq | hq
  .rcases z with rfl | ⟨g,rfl,hg⟩
   .rw [show L=[] from h] at hq;cases hq
   .have:=h.2 q hq
    ext hg this
  .rw [bY.mp hq]
   exact cD _
 .intro z
  cases o with
  | none=>exact (z (.inl rfl)).elim
  | some g =>
   obtain ⟨⟨c',h1,h2⟩,h3⟩:=h
   refine ⟨⟨c',gv _ h1,h2⟩,λq hq=>?_⟩
   rcases bW.mp hq with hq | hq
   .exact h3 q hq
   .rw [bY.mp hq]
    exact Int.not_lt.mp λw=>z (.inr ⟨g,rfl,w⟩)
noncomputable def vP(r:Row):List (Int×Int):=[(r.1,r.at r.1),(r.2.1,r.at r.2.1)]
theorem b85{rs:List Row}(bI:rs≠[])(hb:∀r∈rs,dO 4 r){p:Int}(hp:-(10^51)<=p/\p<=10^51){ro:Bool}:∃x c:Int,wb [.lst ro (rs.map Row.d),.int p]=some (.sh (.int x))/\Val rs x c/\∀y c',Val rs y c'->p*y-c'<=p*x-c:=by
 have key:Wo (wb [.lst ro (rs.map Row.d),.int p]) λs=>∃o x,s=.sh (.int x)/\xx p o x (rs.flatMap vP):=by
  refine mG.mpr ?_
  unfold L0
  walk_at "v1"
  refine iZ Row.d (λpre env=>∃x4 x5 x6 x7 x8 x9:Sl,∃(o:Option Int) (x:Int),env=[.sh (.lst ro (rs.map Row.d)),.sh (.int p),.sh (bE o),.sh (.int x),x4,x5,x6,x7,x8,x9]/\xx p o x (pre.flatMap vP)) rs (λpre r post env e h=>?_) (λenv h=>?_) ⟨_,_,_,_,_,_,none,0,rfl,rfl⟩
  .obtain ⟨x4,x5,x6,x7,x8,x9,o,x,rfl,hB⟩:=h
   have b:=hb r (by rw [e];simp)
   unfold dO at b
   refine ⟨[.sh (.lst ro (rs.map Row.d)),.sh (.int p),.sh (bE o),.sh (.int x),.sh (.int r.1),.sh (.int r.2.1),.sh (.int r.2.2.1),.sh (.int r.2.2.2),x8,x9],rfl,?_⟩
   refine Wo_for.mpr ?_
   refine ⟨.ow [.int r.1,.int r.2.1],rfl,_,rfl,?_⟩
   show Wo (forL _ _ ([r.1,r.2.1].map D.int) _) _
   refine iZ D.int (λnM env=>∃x8 x9:Sl,∃(o:Option Int) (x:Int),env=[.sh (.lst ro (rs.map Row.d)),.sh (.int p),.sh (bE o),.sh (.int x),.sh (.int r.1),.sh (.int r.2.1),.sh (.int r.2.2.1),.sh (.int r.2.2.2),x8,x9]/\xx p o x (pre.flatMap vP++nM.map λy=>(y,r.at y))) [r.1,r.2.1] (λnM y yT env e2 h=>?_) (λenv h=>?_) ⟨_,_,o,x,rfl,by simpa using hB⟩
   .obtain ⟨x8,x9,o,x,rfl,hB⟩:=h
    have hy:y=r.1\/y=r.2.1:=by
     have:y∈[r.1,r.2.1]:=by rw [e2];simp
     simpa using this
    have NX:r.1<=y/\y<=r.2.1:=by ext b hy
    have m1:MulC p y:=ub (by ext hp) (by ext hp) (by lia) (by lia)
    have m2:MulC r.2.2.2 (y-r.1):=ub (by ext b) (by ext b) (by ext NX) (by ext b NX)
    walk_at "v1"
    refine ⟨m1,m2,?_⟩
    obtain ⟨k1,k2⟩:=b26 (y:=y) (c:=r.at y) hB
    have ea:p*y-r.2.2.1-r.2.2.2*(y-r.1)=p*y-r.at y:=by unfold Row.at;ext
    rw [ea,eR,OZ,<-fJ]
    generalize p*y-r.at y=g at *
    rw [a2Y]
    cases o with
    | none =>
     dsimp only [bE]
     walk_at "vc"
     exact ⟨_,_,some g,y,rfl,k1 (.inl rfl)⟩
    | some w =>
     dsimp only [bE]
     walk_at "vc"
     refine ⟨λz=>⟨_,_,some g,y,rfl,k1 (.inr ⟨w,rfl,z⟩)⟩,λz=>⟨_,_,some w,x,rfl,k2 ?_⟩⟩
     rintro (h | ⟨g',h,h'⟩)
     .cases h
     .cases h;exact z h'
   .obtain ⟨x8,x9,o,x,rfl,hB⟩:=h
    refine ⟨_,_,_,_,_,_,o,x,rfl,?_⟩
    rw [Jf,List.flatMap_singleton]
    exact hB
  .obtain ⟨x4,x5,x6,x7,x8,x9,o,x,rfl,hB⟩:=h
   walk_at "vc"
   exact ⟨o,x,rfl,hB⟩
 obtain ⟨s,e,o,x,rfl,hB⟩:=key
 obtain ⟨r0,CZ,mW⟩:∃r CZ,rs=r::CZ:=by
  cases rs with
  | nil=>exact (bI rfl).elim
  | cons r CZ=>exact ⟨r,CZ,rfl⟩
 cases o with
 | none =>
  have:rs.flatMap vP=[]:=hB
  rw [mW] at this
  cases this
 | some g =>
  obtain ⟨⟨c,h1,h2⟩,h3⟩:=hB
  obtain ⟨r,hr,hx⟩:=j0.mp h1
  have b:=hb r hr
  unfold dO at b
  refine ⟨x,c,e,⟨r,hr,?_⟩,λy c' v=>?_⟩
  .simp only [vP,br,gq,or_false,Prod.mk.injEq] at hx
   rcases hx with ⟨rfl,rfl⟩ | ⟨rfl,rfl⟩
   .exact ⟨cD _,b.1,rfl⟩
   .exact ⟨b.1,cD _,rfl⟩
  .obtain ⟨q,hq,v1,v2,v3⟩:=v
   have i1:=h3 (q.1,q.at q.1) (j0.mpr ⟨q,hq,by simp [vP]⟩)
   have i2:=h3 (q.2.1,q.at q.2.1) (j0.mpr ⟨q,hq,by simp [vP]⟩)
   dsimp only at i1 i2
   have k:=aff (A:=g+q.2.2.1-q.2.2.2*q.1) (S:=q.2.2.2-p) v1 v2 (by unfold Row.at at i1;grind) (by unfold Row.at at i2;grind)
   rw [<-h2,v3]
   unfold Row.at
   grind
theorem b70{L:List (Tr×Int)}{p:Int}(h:∀q∈L,p*q.2-bF q.1.1 q.2<=p*q.1.2.2-bF q.1.1 q.1.2.2):(L.map λq=>bF q.1.1 q.1.2.2).sum+p*((L.map λq=>q.2).sum-(L.map λq=>q.1.2.2).sum)<=(L.map λq=>bF q.1.1 q.2).sum:=by
 induction L with
 | nil=>simp
 | cons q L ih =>
  have i:=ih λu hu=>h u (bG _ hu)
  have j:=h q bw
  simp only [fg,vm]
  generalize (L.map λq=>bF q.1.1 q.1.2.2).sum=a at *
  generalize (L.map λq=>q.2).sum=b at *
  generalize (L.map λq=>q.1.2.2).sum=c at *
  generalize (L.map λq=>bF q.1.1 q.2).sum=d at *
  have e1:p*(q.2+b-(q.1.2.2+c))=p*q.2-p*q.1.2.2+p*(b-c):=by grind
  rw [e1]
  ext j i
theorem P1{p:Int}:∀{ts:List Tr},(∀t∈ts,FP t.1 t.2.1)->(∀t∈ts,∀y c,Val t.1 y c->p*y-c<=p*t.2.2-bF t.1 t.2.2)->∀{x c:Int},Sh (ts.map λt=>t.2.1) x c->(ts.map λt=>bF t.1 t.2.2).sum-p*(ts.map λt=>t.2.2).sum<=c-p*x
 | [],_,_,x,c,h=>by
  obtain ⟨rfl,rfl⟩:x=0/\c=0:=h
  simp
 | t::ts,hf,hp,x,c,h=>by
  obtain ⟨y,cy,z,cz,v,h,rfl,rfl⟩:=h
  have i:=P1 (ts:=ts) (λu hu=>hf u (bG _ hu)) (λu hu=>hp u (bG _ hu)) h
  have j:=hp t bw y cy (((hf t bw).val _ _).mp v)
  simp only [fg,vm]
  generalize (ts.map λt=>bF t.1 t.2.2).sum=a at *
  generalize (ts.map λt=>t.2.2).sum=b at *
  have e1:p*(t.2.2+b)=p*t.2.2+p*b:=by grind
  have e2:p*(y+z)=p*y+p*z:=by grind
  rw [e1,e2]
  ext j i
theorem P2:∀{ts:List Tr},(∀t∈ts,FP t.1 t.2.1)->(∀t∈ts,dW t)->Sh (ts.map λt=>t.2.1) (ts.map λt=>t.2.2).sum (ts.map λt=>bF t.1 t.2.2).sum
 | [],_,_=>⟨rfl,rfl⟩
 | t::ts,hf,ho=>by
  have F:=hf t bw
  exact ⟨t.2.2,bF t.1 t.2.2,_,_,(F.val _ _).mpr ((gM F.cG).mp (ho t bw)),P2 (λu hu=>hf u (bG _ hu)) (λu hu=>ho u (bG _ hu)),rfl,rfl⟩
theorem QR{ts:List Tr}(hl:ts.length<=8)(hg:∀t∈ts,bO t)(ho:∀t∈ts,dW t){r r':Bool}:nC [.lst r (ts.map λt=>fD t.2.1),.lst r' (ts.map λt=>D.int t.2.2)]=some (.sh (.int (ts.map λt=>bF t.1 t.2.2).sum)):=by
 refine Wo.eq (gk.mpr ?_)
 unfold B3
 walk_at "v1"
 rw [PR hg]
 walk_at "v1"
 have e1:ts.map (λt=>look t.1 t.2.2)=(ts.map λt=>bF t.1 t.2.2).map some:=by rw [cJ];exact Eg λt ht=>ho t ht
 rw [BK,aQ]
 refine ⟨by ext hl,?_⟩
 refine ny ?_ ?_
 .walk_at "vc"
  rw [Qx,e1,show ((ts.map λt=>bF t.1 t.2.2).map some).any D0=false by simp]
  walk_at "vc"
 walk_at "vc"
 rw [e1,cJ,show (bE∘some:Int->D)=D.int from rfl,ug]
 walk_at "vc"
theorem QW{ts:List Tr}(hl:ts.length<=8)(hg:∀t∈ts,bO t)(hb:∀t∈ts,∀r∈t.1,dO 4 r)(ho:∀t∈ts,dW t){r r':Bool}:xT [.lst r (ts.map λt=>rD t.1),.lst r' (ts.map λt=>D.int t.2.2)]=some (.sh (.int (ts.map λt=>bF t.1 t.2.2).sum)):=by
 refine Wo.eq (lr.mpr ?_)
 unfold Mi
 walk_at "v1"
 rw [BK,lg (λt:Tr=>.tup [rD t.1,.int t.2.2]) (λt=>.int (bF t.1 t.2.2)) (λe=>∃x y,e=[x,y]) ts (λt ht e he=>?_) ⟨_,_,rfl⟩]
 .walk_at "vc"
  rw [show ts.map (λt=>D.int (bF t.1 t.2.2))=(ts.map λt=>bF t.1 t.2.2).map D.int by rw [cJ];rfl,ug]
  walk_at "vc"
  rw [aQ]
  ext hl
 .obtain ⟨x,y,rfl⟩:=he
  unfold rD
  walk_at "vc"
  rw [b2K (hb t ht) (hg t ht).fp.cG (hg t ht).bx,ho t ht]
  dsimp only [bE]
  walk_at "vc"
  exact ⟨_,_,rfl⟩
theorem Pz{ts:List Tr}(hg:∀t∈ts,bO t){p:Int}(hp:∀t∈ts,yn t.1 t.2.2 (bF t.1 t.2.2) p/\yo t.1 t.2.2 (bF t.1 t.2.2) p){q:Cn}(m:Es ts (some q)):vB q<=p:=by
 obtain ⟨u,y,_⟩:=m
 have g:=vS u
 obtain ⟨a1,a2,a3⟩:=(hg _ g).fp.c9 y
 have i:=(hp _ g).1 _ _ ((gM (hg _ g).fp.cG).mp a3) a1
 exact (b64 (d:=q.1.1.2.2-q.2) (by ext a1)).mpr i
theorem Ka{ts:List Tr}(hg:∀t∈ts,bO t){p:Int}(hp:∀t∈ts,yn t.1 t.2.2 (bF t.1 t.2.2) p/\yo t.1 t.2.2 (bF t.1 t.2.2) p){q:Cn}(m:EI ts (some q)):p<=vA q:=by
 obtain ⟨u,y,_⟩:=m
 have g:=vS u
 obtain ⟨a1,a2,a3⟩:=(hg _ g).fp.de y
 have i:=(hp _ g).2 _ _ ((gM (hg _ g).fp.cG).mp a3) a1
 exact (b4i (d:=q.2-q.1.1.2.2) (by ext a1)).mpr i
theorem ze{b:Nat}{Fs:List (List Row)}(h:∀F∈Fs,F.length<=b):np Fs<=b^Fs.length:=by
 have key:∀(l:List (List Row)) (a:Nat),(∀F∈l,F.length<=b)->(l.map mn).foldl (·*·) a<=a*b^l.length:=λl=>by
  induction l with
  | nil=>intro a _;simp
  | cons F l ih =>
   intro a h
   rw [fg,oW,gh,Nat.pow_succ,Nat.mul_comm (b^l.length),<-D4]
   exact eQ (ih _ λG hG=>h G (bG _ hG)) (OK _ (Nat.mul_le_mul_left _ (h F bw)))
 have:=key Fs 1 h
 rw [Nat.one_mul] at this
 exact this
theorem Qg:∀{Fs:List (List Row)},(∀F∈Fs,FV (10^60) (10^130) F)->∀{x c:Int},Sh Fs x c->(-(Fs.length*10^60)<=x/\x<=Fs.length*10^60)/\(-(Fs.length*10^130)<=c/\c<=Fs.length*10^130)
 | [],_,x,c,h=>by
  obtain ⟨rfl,rfl⟩:x=0/\c=0:=h
  simp
 | F::Fs,hF,x,c,h=>by
  obtain ⟨y,cy,z,cz,v,h,rfl,rfl⟩:=h
  have i:=Qg (Fs:=Fs) (λG hG=>hF G (bG _ hG)) h
  have F1:=hF F bw
  have j:=F1.bd _ _ ((gM F1.canon.cG).mpr v)
  rw [gh]
  omega
theorem b0W{ts:List Tr}(hl:ts.length<=3)(hg:∀t∈ts,bO t)(hb:∀t∈ts,∀r∈t.1,dO 4 r)(ho:∀t∈ts,dW t)(h2:∀t∈ts,t.2.1.length<=2){p:Int}(hp:∀t∈ts,∀y c,Val t.1 y c->p*y-c<=p*t.2.2-bF t.1 t.2.2){r r':Bool}:Cs [.lst r (ts.map λt=>fD t.2.1),.lst r' (ts.map λt=>D.int t.2.2)]=some (.sh (.bl true)):=by
 have hF:∀F∈ts.map (λt=>t.2.1),FV (10^60) (10^130) F:=λF hF=>by
  obtain ⟨t,ht,rfl⟩:=cF.mp hF
  refine ⟨(hg t ht).fp.canon,λx c e=>?_⟩
  have:=vV (hb t ht) (((hg t ht).fp.val x c).mp ((gM (hg t ht).fp.canon.cG).mp e))
  ext this
 have hn:np (ts.map λt=>t.2.1)<=8:=by
  refine eQ (ze (b:=2) λF hF=>?_) ?_
  .obtain ⟨t,ht,rfl⟩:=cF.mp hF
   exact h2 t ht
  .rw [aQ]
   have:ts.length=0\/ts.length=1\/ts.length=2\/ts.length=3:=by ext hl
   rcases this with e | e | e | e<;>rw [e]<;>decide
 obtain ⟨f,ef,cf,lf,jf,_⟩:=b2L (Fs:=ts.map λt=>t.2.1) (K:=4) (n:=8) (by rw [aQ];ext hl) (by rw [aQ];ext hl) hF (λF hF=>by
  obtain ⟨t,ht,rfl⟩:=cF.mp hF
  have:=h2 t ht
  ext this) hn (by decide) (λ{V C Fs r} a b c d e=>XO a b c d e) (ro:=r)
 have hJ:Jn (ts.map λt=>t.2.1) (ts.map λt=>t.2.2).sum (ts.map λt=>bF t.1 t.2.2).sum:=⟨P2 (λt ht=>(hg t ht).fp) ho,λc' h=>by
  have:=P1 (λt ht=>(hg t ht).fp) hp h
  ext this⟩
 have hm:=(jf _ _).mpr hJ
 have xb:∀us:List Tr,(∀t∈us,bO t)->us.length<=3 -> -(3*10^60)<=(us.map λt=>t.2.2).sum/\(us.map λt=>t.2.2).sum<=3*10^60:=λus hu hl=>by
  match us,hu,hl with
  | [],_,_=>simp
  | [a],hu,_=>have:=(hu a (by simp)).bx;simp;omega
  | [a,b],hu,_=>have:=(hu a (by simp)).bx;have:=(hu b (by simp)).bx;simp;omega
  | [a,b,c],hu,_=>have:=(hu a (by simp)).bx;have:=(hu b (by simp)).bx;have:=(hu c (by simp)).bx;simp;omega
 have hx:=xb ts hg hl
 have ec:=Rj cf.cG (by omega) (λq hq=>?_) (x:=(ts.map λt=>t.2.2).sum) (by ext hx)
 .rw [hm] at ec
  refine Wo.eq (mJ.mpr ?_)
  unfold LX
  walk_at "v1"
  rw [show ts.map (λt=>fD t.2.1)=(ts.map λt=>t.2.1).map mi by rw [cJ];rfl,ef]
  walk_at "v1"
  rw [show (ts.map λt=>t.2.1).map mi=ts.map (λt=>fD t.2.1) by rw [cJ];rfl,QR (by ext hl) hg ho]
  walk_at "v1"
  rw [show ts.map (λt=>D.int t.2.2)=(ts.map λt=>t.2.2).map D.int by rw [cJ];rfl,ug]
  walk_at "v1"
  rw [ec]
  dsimp only [bE]
  walk_at "vc"
  simp
 .have ff:FV (3*10^60) (3*10^130) f:=⟨cf,λx c e=>by
   have:=Qg hF ((jf x c).mp e).1
   rw [aQ] at this
   omega⟩
  exact ff.row (by decide) (by decide) q hq
theorem Qk{xs:List Int}(h:∀x∈xs,-(10^60)<=x/\x<=10^60):-(xs.length*10^60)<=xs.sum/\xs.sum<=xs.length*10^60:=by
 induction xs with
 | nil=>simp
 | cons x xs ih =>
  have i:=ih λy hy=>h y (bG _ hy)
  have j:=h x bw
  rw [vm,gh]
  omega
theorem b4G{ts:List Tr}(hl:ts.length<=3)(hg:∀t∈ts,bO t)(hb:∀t∈ts,∀r∈t.1,dO 4 r)(ho:∀t∈ts,dW t)(hn:∀t∈ts,t.1≠[]/\t.1.length<=4){p:Int}(wO:-(10^51)<=p/\p<=10^51)(hp:∀t∈ts,∀y c,Val t.1 y c->p*y-c<=p*t.2.2-bF t.1 t.2.2){cs:List Int}(hc:∀c∈cs,Sm c){r1 r2 r3 r4:Bool}:Cu [.lst r1 (ts.map λt=>fD t.2.1),.lst r2 (ts.map λt=>rD t.1),.lst r3 (ts.map λt=>D.int t.2.2),.int p,.lst r4 (cs.map D.int)]=some (.sh (.bl true)):=by
 refine Wo.eq (dH.mpr ?_)
 unfold Nb
 walk_at "v1"
 rw [QW (by ext hl) hg hb ho]
 walk_at "v1"
 refine iZ D.int (λpre env=>∃x6 x7 x8,env=[.sh (.lst r1 (ts.map λt=>fD t.2.1)),.sh (.lst r2 (ts.map λt=>rD t.1)),.sh (.lst r3 (ts.map λt=>D.int t.2.2)),.sh (.int p),.sh (.lst r4 (cs.map D.int)),.sh (.int (ts.map λt=>bF t.1 t.2.2).sum),x6,x7,x8]) cs (λpre cell post env e h=>?_) (λenv h=>?_) ⟨_,_,_,rfl⟩
 .obtain ⟨x6,x7,x8,rfl⟩:=h
  have sc:Sm cell:=hc cell (by rw [e];simp)
  have one:∀k:Nat,∃y:Int,∀t,ts[k]?=some t->wo [rD t.1,.int (cell+(0+(k:Int)))]=some (.sh (.int y))/\∃c,Val t.1 y c:=λk=>by
   by_cases hk:k<ts.length
   .have ht:=lN hk
    have hx:sA (cell+(0+(k:Int))):=sc.near (by omega)
    obtain ⟨r,hr,t,ea,t0,t1⟩:=b2P (hn _ ht).1 (hn _ ht).2 (hb _ ht) hx (ro:=false)
    exact ⟨r.1+t,λu hu=>by
     rw [gu hk] at hu
     cases hu
     exact ⟨ea,r.at (r.1+t),r,hr,by ext t0,by ext t1,rfl⟩⟩
   .exact ⟨0,λu hu=>by rw [OS (by ext hk)] at hu;cases hu⟩
  obtain ⟨g,N8⟩:=xc one
  generalize hL:ts.zipIdx.map (λq=>(q.1,g q.2))=L
  have l1:L.map (λq=>q.1)=ts:=by
   rw [<-hL,cJ]
   exact List.zipIdx_map_fst 0 ts
  have l2:L.map (λq=>q.2)=(fI ts.length).map g:=by
   rw [<-hL,cJ,List.range_eq_range',<-List.zipIdx_map_snd 0 ts,cJ]
   rfl
  have lm:∀q∈L,q.1∈ts/\∃c,Val q.1.1 q.2 c:=λq hq=>by
   rw [<-hL] at hq
   obtain ⟨u,hu,rfl⟩:=cF.mp hq
   have:=Bg.mp hu
   exact ⟨Bl this,((N8 _) _ this).2⟩
  have hu:∀u∈L.map (λq=>((q.1.1,q.1.2.1,q.2):Tr)),(bO u/\dW u)/\∀r∈u.1,dO 4 r:=λu hu=>by
   obtain ⟨q,hq,rfl⟩:=cF.mp hu
   obtain ⟨h1,c,h2⟩:=lm q hq
   have b:=vV (hb _ h1) h2
   refine ⟨⟨⟨(hg _ h1).fp,by dsimp only;ext b⟩,?_⟩,hb q.1 h1⟩
   have:=(gM (hg _ h1).fp.cG).mpr h2
   unfold dW bF
   rw [this]
   rfl
  have d1:(L.map λq=>((q.1.1,q.1.2.1,q.2):Tr)).map (λt=>fD t.2.1)=ts.map λt=>fD t.2.1:=by
   rw [cJ]
   conv=>rhs;rw [<-l1,cJ]
   rfl
  have d2:(L.map λq=>((q.1.1,q.1.2.1,q.2):Tr)).map (λt=>rD t.1)=ts.map λt=>rD t.1:=by
   rw [cJ]
   conv=>rhs;rw [<-l1,cJ]
   rfl
  have d3:(L.map λq=>((q.1.1,q.1.2.1,q.2):Tr)).map (λt=>D.int t.2.2)=((fI ts.length).map g).map D.int:=by
   rw [cJ,<-l2,cJ]
   rfl
  have d4:((L.map λq=>((q.1.1,q.1.2.1,q.2):Tr)).map λt=>bF t.1 t.2.2).sum=(L.map λq=>bF q.1.1 q.2).sum:=by
   rw [cJ]
   rfl
  have ll:(L.map λq=>((q.1.1,q.1.2.1,q.2):Tr)).length<=8:=by
   have:=congrArg mn l1
   rw [aQ] at this ⊢
   ext hl this
  have ec:=QR ll (λu z=>(hu u z).1.1) (λu z=>(hu u z).1.2) (r:=r1) (r':=false)
  have et:=QW ll (λu z=>(hu u z).1.1) (λu z=>(hu u z).2) (λu z=>(hu u z).1.2) (r:=r2) (r':=false)
  rw [d1,d3,d4] at ec
  rw [d2,d3,d4] at et
  have ss:=b70 (L:=L) (p:=p) λq hq=>by
   obtain ⟨h1,c,h2⟩:=lm q hq
   have e:bF q.1.1 q.2=c:=by
    unfold bF
    rw [(gM (hg _ h1).fp.cG).mpr h2]
    rfl
   rw [e]
   exact hp _ h1 _ _ h2
  have d5:(L.map λq=>bF q.1.1 q.1.2.2)=ts.map λt=>bF t.1 t.2.2:=by
   conv=>rhs;rw [<-l1,cJ]
   rfl
  have d6:(L.map λq=>q.1.2.2)=ts.map λt=>t.2.2:=by
   conv=>rhs;rw [<-l1,cJ]
   rfl
  rw [d5,d6,l2] at ss
  have b1:=Qk (xs:=(fI ts.length).map g) λx hx=>by
   rw [<-l2] at hx
   obtain ⟨q,hq,rfl⟩:=cF.mp hx
   obtain ⟨h1,c,h2⟩:=lm q hq
   have:=vV (hb _ h1) h2
   ext this
  have b2:=Qk (xs:=ts.map λt=>t.2.2) λx hx=>by
   obtain ⟨t,ht,rfl⟩:=cF.mp hx
   exact (hg t ht).bx
  rw [aQ,qA] at b1
  rw [aQ] at b2
  walk_at "v1"
  rw [aQ]
  unfold ei
  rw [lg (λ(k:Nat)=>D.int (0+(k:Int))) (λk=>D.int (g k)) (λe=>∃x,e=[x,.sh (.lst r2 (ts.map λt=>rD t.1)),.sh (.int cell)]) (fI (ts.length:Int).toNat) (λk hk e he=>?_) ⟨_,rfl⟩]
  .walk_at "v1"
   rw [show (ts.length:Int).toNat=ts.length by ext,show (fI ts.length).map (λk=>D.int (g k))=((fI ts.length).map g).map D.int by rw [cJ];rfl,ec]
   walk_at "v1"
   refine ⟨by rw [aQ,qA];ext hl,?_⟩
   refine ny ?_ ⟨_,_,_,rfl⟩
   walk_at "vc"
   rw [et]
   walk_at "vc"
   rw [show ts.map (λt=>D.int t.2.2)=(ts.map λt=>t.2.2).map D.int by rw [cJ];rfl,ug]
   walk_at "vc"
   refine ⟨ub (by ext wO) (by ext wO) (by omega) (by omega),?_⟩
   ext ss
  .obtain ⟨x,rfl⟩:=he
   have Dj:k<ts.length:=by have:=oV.mp hk;ext this
   have h1:=gu Dj
   obtain ⟨ea,_⟩:=N8 k _ h1
   walk_at "vc"
   rw [IJ,JV h1]
   walk_at "vc"
   rw [IJ] at ea
   rw [ea]
   walk_at "vc"
   exact ⟨_,rfl⟩
 .obtain ⟨x6,x7,x8,rfl⟩:=h
  walk_at "vc"
theorem fin(ns:List Int)(sY:ns.length<=63)(zZ:∀n∈ns,Sm n):ES [.lst true (ns.map D.int)]=some (.sh (.bl true)):=by
 refine Wo.eq (Cz.mpr ?_)
 unfold JP
 walk_at "v1"
 obtain ⟨fu,es,oN,kD⟩:=b2F ns sY
 rw [es]
 walk_at "v1"
 have forms:∀rs:List Row,∃fs:List Row,rs∈fu->qL [.lst false (rs.map Row.d)]=some (.sh (.tup (fs.map Row.d)))/\FP rs fs/\fs.length<=2:=λrs=>by
  by_cases hr:rs∈fu
  .have S:=(kD rs hr).1
   obtain ⟨fs,e,L⟩:=EJ S.cG (λr hr=>(S.bd r hr).bd) (by have:=S.len;ext this) (ro:=false)
   exact ⟨fs,λ_=>⟨e,AI S.bd S.cG (by have:=S.len;ext this) L,eQ L.len (kD rs hr).2.1⟩⟩
  .exact ⟨[],λz=>absurd z hr⟩
 obtain ⟨ff,rm⟩:=xc forms
 rw [lg rD (λrs=>fD (ff rs)) (λe=>∃x,e=[x]) fu (λrs hr e he=>by
  obtain ⟨x,rfl⟩:=he
  unfold rD
  walk_at "vc"
  rw [(rm rs hr).1]
  walk_at "vc"
  exact ⟨⟨_,rfl⟩,rfl⟩) ⟨_,rfl⟩]
 walk_at "v1"
 rw [aQ]
 have Ug:Sm (ns.getD 1 0):=by
  by_cases h:1<ns.length
  .rw [show ns.getD 1 0=ns[1] by simp [List.getD,h]]
   exact zZ _ (lN h)
  .rw [show ns.getD 1 0=0 by simp [List.getD,Bf h]]
   unfold Sm
   decide
 obtain ⟨ps,ep,uT⟩:=b4E oN (λrs hr=>(kD rs hr).1) Ug (r:=false)
 rw [AR _ _ (by decide),a0i]
 walk_at "v1"
 refine ⟨by ext oN,?_⟩
 rw [ep]
 walk_at "v1"
 refine iZ D.int (λpre env=>∃x3 x4 x5 x6 x7,env=[.sh (.lst true (ns.map D.int)),.sh (.lst false (fu.map rD)),.sh (.lst false (fu.map λrs=>fD (ff rs))),x3,x4,x5,x6,x7]) ps (λpre p post env e h=>?_) (λenv h=>?_) ⟨_,_,_,_,_,rfl⟩
 .obtain ⟨x3,x4,x5,x6,x7,rfl⟩:=h
  have wO:=uT p (by rw [e];simp)
  have best:∀rs:List Row,∃x:Int,rs∈fu->wb [.lst false (rs.map Row.d),.int p]=some (.sh (.int x))/\∃c,Val rs x c/\∀y c',Val rs y c'->p*y-c'<=p*x-c:=λrs=>by
   by_cases hr:rs∈fu
   .obtain ⟨x,c,e,h⟩:=b85 (kD rs hr).2.2 (kD rs hr).1.bd wO (ro:=false)
    exact ⟨x,λ_=>⟨e,c,h⟩⟩
   .exact ⟨0,λz=>absurd z hr⟩
  obtain ⟨bx,Oc⟩:=xc best
  generalize sU:fu.map (λrs=>((rs,ff rs,bx rs):Tr))=ts
  have D1:fu.map rD=ts.map (λt=>rD t.1):=by rw [<-sU,cJ];rfl
  have D2:fu.map (λrs=>fD (ff rs))=ts.map (λt=>fD t.2.1):=by rw [<-sU,cJ];rfl
  have D3:fu.map (λrs=>D.int (bx rs))=ts.map (λt=>D.int t.2.2):=by rw [<-sU,cJ];rfl
  have tm:∀t∈ts,t.1∈fu/\t.2.1=ff t.1/\t.2.2=bx t.1:=λt ht=>by
   rw [<-sU] at ht
   obtain ⟨rs,hr,rfl⟩:=cF.mp ht
   exact ⟨hr,rfl,rfl⟩
  have rq:∀t∈ts,∀r∈t.1,dO 4 r:=λt ht=>(kD t.1 (tm t ht).1).1.bd
  have hv:∀t∈ts,∃c,Val t.1 t.2.2 c/\∀y c',Val t.1 y c'->p*y-c'<=p*t.2.2-c:=λt ht=>by
   obtain ⟨h1,h2,h3⟩:=tm t ht
   rw [h3]
   exact (Oc t.1 h1).2
  have hg:∀t∈ts,bO t:=λt ht=>by
   obtain ⟨h1,h2,h3⟩:=tm t ht
   obtain ⟨c,v,_⟩:=hv t ht
   have:=vV (rq t ht) v
   exact ⟨by rw [h2];exact (rm t.1 h1).2.1,by ext this⟩
  have Ob:∀t∈ts,dW t/\∀y c',Val t.1 y c'->p*y-c'<=p*t.2.2-bF t.1 t.2.2:=λt ht=>by
   obtain ⟨c,v,h⟩:=hv t ht
   have l:=(gM (hg t ht).fp.cG).mpr v
   have e:bF t.1 t.2.2=c:=by unfold bF;rw [l];rfl
   unfold dW
   rw [e]
   exact ⟨l,h⟩
  have ho:∀t∈ts,dW t:=λt ht=>(Ob t ht).1
  have Dh:∀t∈ts,∀y c',Val t.1 y c'->p*y-c'<=p*t.2.2-bF t.1 t.2.2:=λt ht=>(Ob t ht).2
  have dE:∀t∈ts,yn t.1 t.2.2 (bF t.1 t.2.2) p/\yo t.1 t.2.2 (bF t.1 t.2.2) p:=λt ht=>by
   refine ⟨λy c' v _=>?_,λy c' v _=>?_⟩
   .have:=Dh t ht y c' v
    have e:p*(t.2.2-y)=p*t.2.2-p*y:=by grind
    ext this e
   .have:=Dh t ht y c' v
    have e:p*(y-t.2.2)=p*y-p*t.2.2:=by grind
    ext this e
  have aT:ts.length<=3:=by rw [<-sU,aQ];exact oN
  have N0:-(10^86)<=p/\p<=10^86:=by ext wO
  obtain ⟨o1,o2,ZT,m1,m2⟩:=b6V (by ext aT) hg ho (r:=false)
  obtain ⟨b,eb,hb⟩:=b2N (by ext aT) hg rq ho N0 (r:=false) (r':=false)
  rw [hb.mpr dE] at eb
  obtain ⟨q1,q2,OB,n1,n2⟩:=b6Y (by ext aT) hg ho (r:=false)
  obtain ⟨v,Y2⟩:∃v:Int,BG q1 q2=.tup [.str "price",.int v]:=by
   cases q1 with
   | none=>cases q2<;>exact ⟨_,rfl⟩
   | some a =>
    cases q2 with
    | none=>exact ⟨_,rfl⟩
    | some c=>exact ⟨vB a,if_pos (IL (Pz hg dE n1) (Ka hg dE n2))⟩
  rw [Y2] at OB
  have ZU:=b4G aT hg rq ho (λt ht=>⟨(kD t.1 (tm t ht).1).2.2,by have:=(kD t.1 (tm t ht).1).2.1;ext this⟩) wO Dh (cs:=ml ns none (some 20)) (λn hn=>zZ n (tR (tS hn))) (r1:=false) (r2:=false) (r3:=false) (r4:=false)
  have ZW:=b0W aT hg rq ho (λt ht=>by rw [(tm t ht).2.1];exact (rm t.1 (tm t ht).1).2.2) Dh (r:=false) (r':=false)
  walk_at "v1"
  rw [lg rD (λrs=>D.int (bx rs)) (λe=>∃x,e=[x,.sh (.int p)]) fu (λrs hr e he=>by
   obtain ⟨x,rfl⟩:=he
   unfold rD
   walk_at "vc"
   rw [(Oc rs hr).1]
   walk_at "vc"
   exact ⟨_,rfl⟩) ⟨_,rfl⟩]
  walk_at "v1"
  rw [D1,D2,D3,aQ,ZT]
  walk_at "v1"
  refine ⟨by ext aT,?_⟩
  refine ny ?_ ?_
  .cases o1 with
   | none =>
    cases o2 with
    | none=>dsimp only [tG,bE];walk_at "vc"
    | some c =>
     have:=Ka hg dE m2
     dsimp only [tG,bE]
     walk_at "vc"
     ext this
   | some a =>
    have:=Pz hg dE m1
    cases o2 with
    | none=>dsimp only [tG,bE];walk_at "vc";ext this
    | some c =>
     have:=Ka hg dE m2
     dsimp only [tG,bE]
     walk_at "vc"
     lia
  walk_at "v1"
  rw [aQ]
  refine ⟨by unfold R62;ext aT,?_⟩
  refine QX _ _ (λk env=>∃x5,env=[.sh (.lst true (ns.map D.int)),.sh (.lst false (ts.map λt=>rD t.1)),.sh (.lst false (ts.map λt=>fD t.2.1)),.sh (.int p),.sh (.lst false (ts.map λt=>D.int t.2.2)),x5,.sh (bE (o1.map vB)),.sh (bE (o2.map vA))]) (λk env hk h=>?_) (λenv h=>?_) ⟨_,rfl⟩
  .obtain ⟨x5,rfl⟩:=h
   have Dj:k<ts.length:=by ext hk
   have h1:=gu Dj
   have ht:=lN Dj
   generalize ts[k]=t at *
   obtain ⟨g,eg,HQ⟩:=QU (hg t ht).fp (rq t ht) N0 (ho t ht)
   have:p*t.2.2-bF t.1 t.2.2=g:=(RY (hg t ht).fp.cG HQ ((gM (hg t ht).fp.cG).mp (ho t ht))).mpr (dE t ht)
   rw [decide_eq_true this] at eg
   walk_at "v1"
   refine ny ?_ ⟨_,rfl⟩
   walk_at "vc"
   rw [IJ,JV h1,JV h1]
   unfold fD
   walk_at "vc"
   rw [eg]
   walk_at "vc"
   exact λz=>z rfl
  .obtain ⟨x5,rfl⟩:=h
   walk_at "v1"
   refine ny ?_ ?_
   .walk_at "vc"
    rw [eb]
    walk_at "vc"
    rw [OB]
    walk_at "vc"
    exact ⟨λz=>z rfl,λ_=>⟨_,(show me (.str "price") (.str "price")=some (.sh (.bl false)) by rfl),_,rfl,rfl⟩⟩
   walk_at "v1"
   refine ny ?_ ?_
   .walk_at "vc"
    rw [LB,ZU]
    walk_at "vc"
   walk_at "v1"
   refine ny ?_ ⟨_,_,_,_,_,rfl⟩
   walk_at "vc"
   rw [ZW]
   walk_at "vc"
   exact λz=>z rfl
 .obtain ⟨x3,x4,x5,x6,x7,rfl⟩:=h
  walk_at "vc"
end My
namespace PySem.W.Fast
theorem tw14484946060427919800:True:=trivial
theorem tw5034969514445188674:True:=trivial
theorem tw11941904635000280067:True:=trivial
theorem tw2969552441584196000:True:=trivial
theorem tw1403909339556380391:True:=trivial
theorem tw510516546615802974:True:=trivial
theorem tw5659300207478773849:True:=trivial
theorem tw5113883464409352872:True:=trivial
theorem tw5901628083897189809:True:=trivial
theorem tw16083523086090133529:True:=trivial
theorem tw7148892219383568594:True:=trivial
theorem tw17197819471164150202:True:=trivial
theorem tw7905564776379225404:True:=trivial
theorem tw5526119840395619686:True:=trivial
theorem tw17126664618527934825:True:=trivial
theorem tw9243649428162346430:True:=trivial
theorem tw14781857868942114286:True:=trivial
theorem tw4444910949501706920:True:=trivial
theorem tw12928715369870984621:True:=trivial
theorem tw5086785520691741088:True:=trivial
theorem tw2249755949972169191:True:=trivial
theorem tw18321403909563273678:True:=trivial
theorem tw7653719266337483033:True:=trivial
theorem tw5182630054480326239:True:=trivial
theorem tw17059732899584550098:True:=trivial
theorem tw12814654882658580202:True:=trivial
theorem tw1004270404603744114:True:=trivial
theorem tw11379878806479224393:True:=trivial
theorem tw3357086239453471788:True:=trivial
theorem tw4792502090368515590:True:=trivial
theorem tw10751658894297398961:True:=trivial
theorem tw16902828757671070625:True:=trivial
theorem tw10137256146223255392:True:=trivial
theorem tw9292924922929457131:True:=trivial
theorem tw2290427349104422869:True:=trivial
theorem tw5962686765581587406:True:=trivial
theorem tw3420849491926727091:True:=trivial
theorem tw7935062059936281307:True:=trivial
theorem tw12134903754693726222:True:=trivial
theorem tw2625216019011624660:True:=trivial
theorem tw5119366134546281085:True:=trivial
theorem tw14317824666080780972:True:=trivial
theorem tw17541206141384624777:True:=trivial
theorem tw10410525319596724023:True:=trivial
theorem tw1673927392323560405:True:=trivial
theorem tw13209416631514543612:True:=trivial
theorem tw10994553839836677970:True:=trivial
theorem tw2271286158635792783:True:=trivial
theorem tw8168191659898281416:True:=trivial
theorem tw12154799219430675908:True:=trivial
theorem tw16012717390195842025:True:=trivial
theorem tw14454625713328258444:True:=trivial
theorem tw11078712151305287308:True:=trivial
theorem tw13967144315610151040:True:=trivial
theorem tw2778188488685658433:True:=trivial
theorem tw12394591178434616457:True:=trivial
theorem tw6071151660381721896:True:=trivial
theorem tw8070915130507659043:True:=trivial
theorem tw6962219925872257949:True:=trivial
theorem tw11029725279415155516:True:=trivial
theorem tw2633259761719879701:True:=trivial
theorem tw8391603548459825393:True:=trivial
theorem tw13412540392909527511:True:=trivial
theorem tw11689171744248723394:True:=trivial
theorem tw5382785738980760028:True:=trivial
theorem tw1147340595306632643:True:=trivial
theorem tw10349400924889768779:True:=trivial
theorem tw2069336947401514276:True:=trivial
theorem tw4144976860051197814:True:=trivial
theorem tw16103208061825683409:True:=trivial
theorem tw14685840576129886867:True:=trivial
theorem tw4477414715601774281:True:=trivial
theorem tw8899904485257216265:True:=trivial
theorem tw9632886375304980843:True:=trivial
theorem tw13788184879270109593:True:=trivial
theorem tw9382871287765284236:True:=trivial
theorem tw11542061052241411445:True:=trivial
theorem tw13980091674384288944:True:=trivial
theorem tw18076730884566362840:True:=trivial
theorem tw18078935062514072807:True:=trivial
theorem tw1604320597036028342:True:=trivial
theorem tw2225622967015035533:True:=trivial
theorem tw17019664758641547306:True:=trivial
theorem tw16222328156730302542:True:=trivial
theorem tw9071605341825120172:True:=trivial
theorem tw4922498429492776318:True:=trivial
theorem tw9020823390208444785:True:=trivial
theorem tw15823902349701932459:True:=trivial
theorem tw4716468121343854379:True:=trivial
theorem tw9004354425837538040:True:=trivial
theorem tw4711441975079063078:True:=trivial
theorem tw9644501007944881755:True:=trivial
theorem tw6686358573370218757:True:=trivial
theorem tw5261200540259677962:True:=trivial
theorem tw3082163749634856940:True:=trivial
theorem tw8228305948521833733:True:=trivial
theorem tw179267900705130950:True:=trivial
theorem tw2237349668060840789:True:=trivial
theorem tw3021061078285632916:True:=trivial
theorem tw12000611509763512808:True:=trivial
theorem tw7397639379104420535:True:=trivial
theorem tw12110941440145612369:True:=trivial
theorem tw7671976259235016498:True:=trivial
theorem tw6665427833089589202:True:=trivial
theorem tw11879021020887818394:True:=trivial
theorem tw14083784189450259062:True:=trivial
theorem tw780669582137121100:True:=trivial
theorem tw2929374427276012029:True:=trivial
theorem tw167784792228886902:True:=trivial
theorem tw7310297263185968455:True:=trivial
theorem tw37429151996722601:True:=trivial
theorem tw13755750638776244355:True:=trivial
theorem tw13923794053062433948:True:=trivial
theorem tw15754289392251358886:True:=trivial
theorem tw9083242459784261651:True:=trivial
theorem tw7174115177077166024:True:=trivial
theorem tw18373188639350193397:True:=trivial
theorem tw10091957079537245323:True:=trivial
theorem tw819520315828803340:True:=trivial
theorem tw10937973734151364461:True:=trivial
theorem tw4085705597643152844:True:=trivial
theorem tw7289386082769553446:True:=trivial
theorem tw17037266236160297661:True:=trivial
theorem tw1112280630328369480:True:=trivial
theorem tw13112347575890507847:True:=trivial
theorem tw4366375515294108176:True:=trivial
theorem tw1225036645719488319:True:=trivial
theorem tw8923590989686606287:True:=trivial
theorem tw9710756922533359673:True:=trivial
theorem tw1657462162818848680:True:=trivial
theorem tw14711538287479123993:True:=trivial
theorem tw10783132324938947026:True:=trivial
theorem tw2988729498273673455:True:=trivial
theorem tw4456361340271077707:True:=trivial
theorem tw5236876191617484054:True:=trivial
theorem tw13223774658570271156:True:=trivial
theorem tw12499104476632566106:True:=trivial
theorem tw5496446771178035055:True:=trivial
theorem tw2539379796664028030:True:=trivial
theorem tw8843883591294573287:True:=trivial
theorem tw11452326071523466094:True:=trivial
theorem tw12332927465632124913:True:=trivial
theorem tw12760313447107553530:True:=trivial
theorem tw5890083912309196872:True:=trivial
theorem tw13455506780898841329:True:=trivial
theorem tw6491394095264892891:True:=trivial
theorem tw5995654848804914155:True:=trivial
theorem tw3800472906837572723:True:=trivial
theorem tw8705572294877228679:True:=trivial
theorem tw1173430035728180398:True:=trivial
theorem tw11204017618632631105:True:=trivial
theorem tw13905045594303515108:True:=trivial
theorem tw13012446192950087114:True:=trivial
theorem tw4465759321969594308:True:=trivial
theorem tw7043848169030221637:True:=trivial
theorem tw16555004078817608928:True:=trivial
theorem tw6491105384471131933:True:=trivial
theorem tw17088047629486872023:True:=trivial
theorem tw8430972070292589110:True:=trivial
theorem tw16778703418600013611:True:=trivial
theorem tw13563783471585864161:True:=trivial
theorem tw16894260069039301169:True:=trivial
theorem tw10749989885400210832:True:=trivial
theorem tw10807297641909062386:True:=trivial
theorem tw5153395097176042114:True:=trivial
theorem tw2406804012933190376:True:=trivial
theorem tw14830033890031915593:True:=trivial
theorem tw4354543534232016943:True:=trivial
theorem tw10578832962274605282:True:=trivial
theorem tw7930360782347452783:True:=trivial
theorem tw18320418061688773259:True:=trivial
theorem tw10854530680287497085:True:=trivial
theorem tw16676611571810875231:True:=trivial
theorem tw17302119510016387082:True:=trivial
theorem tw1994576817554723191:True:=trivial
theorem tw16587975522551797879:True:=trivial
theorem tw9228430522565895267:True:=trivial
theorem tw2152688940720889438:True:=trivial
theorem tw10328229090435953231:True:=trivial
theorem tw13426886014732668033:True:=trivial
theorem tw1281557109799949998:True:=trivial
theorem tw18172223683949363948:True:=trivial
theorem tw18409452882257724762:True:=trivial
theorem tw12623686843868264104:True:=trivial
theorem tw12395926962825442647:True:=trivial
theorem tw10126479677368957184:True:=trivial
theorem tw3488793514659919103:True:=trivial
theorem tw6274271190736472325:True:=trivial
theorem tw14401682645422339540:True:=trivial
theorem tw10044332852867161914:True:=trivial
theorem tw1351536249520443011:True:=trivial
theorem tw15986202950394510224:True:=trivial
theorem tw6459887389942300274:True:=trivial
theorem tw3810482944191103620:True:=trivial
theorem tw4062007482531256148:True:=trivial
theorem tw2379544288362947116:True:=trivial
theorem tw14676984735658190475:True:=trivial
theorem tw2381836722337473388:True:=trivial
theorem tw5031576494165172337:True:=trivial
theorem tw5229707079825827317:True:=trivial
theorem tw1121262443978321150:True:=trivial
theorem tw7600845138713091582:True:=trivial
theorem tw14380770735751218046:True:=trivial
theorem tw12844581791004469524:True:=trivial
theorem tw3453814936366142322:True:=trivial
theorem tw15454857554593755825:True:=trivial
theorem tw17625645777960461404:True:=trivial
theorem tw2686380125627349793:True:=trivial
theorem tw2520118157876291179:True:=trivial
theorem tw5243141022735837846:True:=trivial
theorem tw2024287876559717449:True:=trivial
theorem tw10027460646906782341:True:=trivial
theorem tw6430241844850765349:True:=trivial
theorem tw947731806862111861:True:=trivial
theorem tw14907327054454996457:True:=trivial
theorem tw14410909559894548885:True:=trivial
theorem tw18174094198069849857:True:=trivial
theorem tw11592365493867825259:True:=trivial
theorem tw2797872072170806881:True:=trivial
theorem tw3555337635029377125:True:=trivial
theorem tw2974021207579132483:True:=trivial
theorem tw759461548767613233:True:=trivial
theorem tw803011025357666035:True:=trivial
theorem tw11522839341733385362:True:=trivial
theorem tw18399728011480714645:True:=trivial
theorem tw12771768819060151347:True:=trivial
theorem tw4998628797044471119:True:=trivial
theorem tw5902124718757988094:True:=trivial
theorem tw10229516096464012206:True:=trivial
theorem tw11982658766431596594:True:=trivial
theorem tw12036994288844123071:True:=trivial
theorem tw9090643636065906612:True:=trivial
theorem tw17819990544347391908:True:=trivial
theorem tw5130760338381099118:True:=trivial
end PySem.W.Fast
open PySem PySem.W PyProof.Rows
set_option maxRecDepth 100000 in
set_option maxHeartbeats 0 in
theorem PySem.Challenge.cw_offerhouse_k79_whole_shown_is_cheapest_holds : PySem.Challenge.rw_offerhouse_k79_whole_shown_is_cheapest.Holds := by
  w_on; o_law; k_head; (case hw => w_witness2)
  k_fill
  refine DL.uv (l := PySem.Challenge.rw_offerhouse_k79_whole_shown_is_cheapest) (k := 14) ⟨rfl, by decide, by decide⟩ rfl rfl (ts := []) (fun w h Y => ⟨PySem.W.kIn_of Y, fun _ z => nomatch z⟩) (fun w => by kernel_rfl) ?F
  case F =>
    intro w mg fa h KX G HF
    refine' My.all_mk KX G HF ?i1 ?i2 ?i3 ?i4 ?i5 ?i6 ?i7 ?i8 ?i9 ?i10 ?i11 ?i12 ?i13 ?i14 ?i15 ?i16 ?i17 ?i18 ?i19 ?i20 ?i21 ?i22 ?i23 ?i24 ?i25 ?i26 ?i27 ?i28 ?i29 ?i30 ?i31 ?i32 ?i33 ?i34 ?i35 ?i36 ?i37 ?i38 ?i39 ?i40 ?i41 ?i42 ?i43 ?i44 ?i45 ?i46 ?i47 ?i48 ?i49 ?i50 ?i51 ?i52 ?i53 ?i54 ?i55 ?i56 ?i57 ?zmax ?zmin ?ztuple ?zlen ?zsorted ?zsum ?zMOST_PICKS ?zzip ?zenumerate ?zall ?zrange ?zlist ?fin
    (case i1 => constructor <;> k_is)
    (case i2 => constructor <;> k_is)
    (case i3 => constructor <;> k_is)
    (case i4 => constructor <;> k_is)
    (case i5 => constructor <;> k_is)
    (case i6 => constructor <;> k_is)
    (case i7 => constructor <;> k_is)
    (case i8 => constructor <;> k_is)
    (case i9 => constructor <;> k_is)
    (case i10 => constructor <;> k_is)
    (case i11 => constructor <;> k_is)
    (case i12 => constructor <;> k_is)
    (case i13 => constructor <;> k_is)
    (case i14 => constructor <;> k_is)
    (case i15 => constructor <;> k_is)
    (case i16 => constructor <;> k_is)
    (case i17 => constructor <;> k_is)
    (case i18 => constructor <;> k_is)
    (case i19 => constructor <;> k_is)
    (case i20 => constructor <;> k_is)
    (case i21 => constructor <;> k_is)
    (case i22 => constructor <;> k_is)
    (case i23 => constructor <;> k_is)
    (case i24 => constructor <;> k_is)
    (case i25 => constructor <;> k_is)
    (case i26 => constructor <;> k_is)
    (case i27 => constructor <;> k_is)
    (case i28 => constructor <;> k_is)
    (case i29 => constructor <;> k_is)
    (case i30 => constructor <;> k_is)
    (case i31 => constructor <;> k_is)
    (case i32 => constructor <;> k_is)
    (case i33 => constructor <;> k_is)
    (case i34 => constructor <;> k_is)
    (case i35 => constructor <;> k_is)
    (case i36 => constructor <;> k_is)
    (case i37 => constructor <;> k_is)
    (case i38 => constructor <;> k_is)
    (case i39 => constructor <;> k_is)
    (case i40 => constructor <;> k_is)
    (case i41 => constructor <;> k_is)
    (case i42 => constructor <;> k_is)
    (case i43 => constructor <;> k_is)
    (case i44 => constructor <;> k_is)
    (case i45 => constructor <;> k_is)
    (case i46 => constructor <;> k_is)
    (case i47 => constructor <;> k_is)
    (case i48 => constructor <;> k_is)
    (case i49 => constructor <;> k_is)
    (case i50 => constructor <;> k_is)
    (case i51 => constructor <;> k_is)
    (case i52 => constructor <;> k_is)
    (case i53 => constructor <;> k_is)
    (case i54 => constructor <;> k_is)
    (case i55 => constructor <;> k_is)
    (case i56 => constructor <;> k_is)
    (case i57 => constructor <;> k_is)
    (case zmax => k_is)
    (case zmin => k_is)
    (case ztuple => k_is)
    (case zlen => k_is)
    (case zsorted => k_is)
    (case zsum => k_is)
    (case zMOST_PICKS => exact ⟨_, by k_is⟩)
    (case zzip => k_is)
    (case zenumerate => k_is)
    (case zall => k_is)
    (case zrange => k_is)
    (case zlist => k_is)
    (case fin => exact My.fin)
