import PyProof.Rows.All
import Wide.All
import OpenK.AllK
import Wide.FinOn
import Lean
import PyProof.EqAt
import PyProof.EqKinds
import PyProof.TupleCall
import PySem.Challenge.RW_offerhouse_k44_parts_told
set_option Elab.async false
set_option linter.all false
set_option synthInstance.maxSize 10000
set_option synthInstance.maxHeartbeats 60000
namespace QA
inductive E | v (i:Nat) | k (n:Nat) | i (z:Int) | u (b:Bool) (x y:E) | a (x y:E) | s (x y:E) | n (x:E) | m (s:Bool) (n:Nat) (z:Int) (x:E) | c (x:E)
inductive F | le (d t:Bool) (x y:E) | eq (t:Bool) (x y:E) | ff | no (f:F) | an (f g:F) | or (f g:F) | im (f g:F) | io (f g:F)
structure C where
  i:List Int
  n:List Nat
noncomputable def gi:List Int->Nat->Int
  | [],_=>0
  | x::_,0=>x
  | _::l,i+1=>gi l i
noncomputable def gn:List Nat->Nat->Nat
  | [],_=>0
  | x::_,0=>x
  | _::l,i+1=>gn l i
noncomputable def den (c:C):E->Nat × Int
  | .v i=>(gn c.n i,gi c.i i)
  | .k n=>(n,0)
  | .i z=>(0,z)
  | .u b x y=>(cond b (max (den c x).1 (den c y).1) (min (den c x).1 (den c y).1),cond b (max (den c x).2 (den c y).2) (min (den c x).2 (den c y).2))
  | .a x y=>((den c x).1+(den c y).1,(den c x).2+(den c y).2)
  | .s x y=>((den c x).1 - (den c y).1,(den c x).2 - (den c y).2)
  | .n x=>(0,- (den c x).2)
  | .m s n z x=>(cond s (n * (den c x).1) ((den c x).1 * n),cond s (z * (den c x).2) ((den c x).2 * z))
  | .c x=>((den c x).2.toNat,((den c x).1:Int))
noncomputable def dF (c:C):F->Prop
  | .le d t x y=>cond d (cond t ((den c x).1 < (den c y).1) ((den c x).2 < (den c y).2)) (cond t ((den c x).1<=(den c y).1) ((den c x).2<=(den c y).2))
  | .eq t x y=>cond t ((den c x).1=(den c y).1) ((den c x).2=(den c y).2)
  | .ff=>False
  | .no f=>¬ dF c f
  | .an f g=>dF c f/\dF c g
  | .or f g=>dF c f ∨ dF c g
  | .im f g=>dF c f->dF c g
  | .io f g=>(dF c f ↔ dF c g)
noncomputable def ev (r:Nat->Int):List Int->Int
  | []=>0
  | c::l=>c * r 0+ev (λi=>r (i+1)) l
noncomputable def ad:List Int->List Int->List Int
  | [],m=>m
  | x::l,[]=>x::l
  | x::l,y::m=>Int.add x y::ad l m
noncomputable def sc (k:Int):List Int->List Int
  | []=>[]
  | x::l=>Int.mul k x::sc k l
theorem ev_ad:∀ (l m:List Int) (r:Nat->Int),ev r (ad l m)=ev r l+ev r m
  | [],m,r=>(Int.zero_add _).symm
  | x::l,[],r=>(Int.add_zero _).symm
  | x::l,y::m,r=>by
    show (x+y) * r 0+ev _ (ad l m)=(x * r 0+ev _ l)+(y * r 0+ev _ m)
    rw [ev_ad l m,Int.add_mul];omega
theorem ev_sc (k:Int):∀ (l:List Int) (r:Nat->Int),ev r (sc k l)=k * ev r l
  | [],r=>(Int.mul_zero k).symm
  | x::l,r=>by
    show k * x * r 0+ev _ (sc k l)=k * (x * r 0+ev _ l)
    rw [ev_sc k l,Int.mul_add,Int.mul_assoc]
noncomputable def zz:List Int->List Int
  | []=>[]
  | k::l=>k::0::0::l
noncomputable def ui:Nat->List Int
  | 0=>[0,1]
  | i+1=>zz (ui i)
noncomputable def un:Nat->List Int
  | 0=>[0,0,1]
  | i+1=>zz (un i)
noncomputable def rr (c:C):Nat->Nat->Int
  | j,0=>gi c.i j
  | j,1=>(gn c.n j:Int)
  | j,i+2=>rr c (j+1) i
noncomputable def rho (c:C) (j:Nat):Nat->Int
  | 0=>1
  | i+1=>rr c j i
theorem ev_zz {c:C} {j:Nat}:∀ l,ev (rho c j) (zz l)=ev (rho c (j+1)) l
  | []=>rfl
  | k::l=>by
    show k * 1+(0 * _+(0 * _+ev _ l))=k * 1+ev _ l
    rw [Int.zero_mul,Int.zero_mul,Int.zero_add,Int.zero_add];rfl
theorem ev_ui {c:C}:∀ (i j:Nat),ev (rho c j) (ui i)=gi c.i (j+i)
  | 0,j=>by show 0 * _+(1 * gi c.i j+0)=gi c.i j;omega
  | i+1,j=>by show ev _ (zz _)=_;rw [ev_zz,ev_ui i];congr 1;omega
theorem ev_un {c:C}:∀ (i j:Nat),ev (rho c j) (un i)=(gn c.n (j+i):Int)
  | 0,j=>by show 0 * _+(0 * _+(1 * (gn c.n j:Int)+0))=(gn c.n j:Int);omega
  | i+1,j=>by show ev _ (zz _)=_;rw [ev_zz,ev_un i];congr 2;omega
noncomputable def ge (k:Int) (x y:List Int):List Int:=ad [k] (ad y (sc (-1) x))
theorem ev_ge {c:C} {k:Int} {x y:List Int}:ev (rho c 0) (ge k x y)=k+ev (rho c 0) y - ev (rho c 0) x:=by
  unfold ge;rw [ev_ad,ev_ad,ev_sc];show k * 1+0+_=_;omega
noncomputable def Al (r:Nat->Int) (l:List (List Int)):Prop:=∀ x∈l,0<=ev r x
theorem al_c {r:Nat->Int} {x:List Int} {l:List (List Int)} (h:0<=ev r x) (hl:Al r l):Al r (x::l):=List.forall_mem_cons.mpr ⟨h,hl⟩
theorem al_n {r:Nat->Int}:Al r []:=λ_ h=>nomatch h
theorem al_a {r:Nat->Int} {l m:List (List Int)} (h:Al r l) (hl:Al r m):Al r (l++m):=λx hx=>(List.mem_append.mp hx).elim (h x) (hl x)
noncomputable abbrev A:=List Int × List (List Int)
noncomputable def G (c:C) (P:List A) (v:Int):Prop:=∃ q∈P,ev (rho c 0) q.1=v/\Al (rho c 0) q.2
noncomputable def cp (P Q:List A) (f:List Int->List Int->List A):List A:=P.flatMap λp=>Q.flatMap λq=>(f p.1 q.1).map λr=>(r.1,r.2++(p.2++q.2))
theorem cp_ok {c:C} {P Q:List A} {f:List Int->List Int->List A} {x y v:Int} (hx:G c P x) (hy:G c Q y) (hf:∀ l m,ev (rho c 0) l=x->ev (rho c 0) m=y->G c (f l m) v):G c (cp P Q f) v:=by
  obtain ⟨p,p1,p2,p3⟩:=hx;obtain ⟨q,q1,q2,q3⟩:=hy;obtain ⟨r,r1,r2,r3⟩:=hf _ _ p2 q2
  exact ⟨_,List.mem_flatMap.mpr ⟨p,p1,List.mem_flatMap.mpr ⟨q,q1,List.mem_map.mpr ⟨r,r1,rfl⟩⟩⟩,r2,al_a r3 (al_a p3 q3)⟩
noncomputable def e0:List A:=[([],[])]
noncomputable def li:E->Bool->List A
  | .v i,t=>[(cond t (un i) (ui i),[])]
  | .k n,t=>[(cond t [(n:Int)] [],[])]
  | .i z,t=>[(cond t [] [z],[])]
  | .u b x y,t=>cp (li x t) (li y t) λl m=>[(cond b l m,[ge 0 m l]),(cond b m l,[ge 0 l m])]
  | .a x y,t=>cp (li x t) (li y t) λl m=>[(ad l m,[])]
  | .s x y,t=>cp (li x t) (li y t) λl m=>(ge 0 m l,cond t [ge 0 m l] [])::cond t [([],[ge 0 l m])] []
  | .n x,t=>cp (li x t) e0 λl _=>[(cond t [] (sc (-1) l),[])]
  | .m _ n z x,t=>cp (li x t) e0 λl _=>[(sc (cond t (n:Int) z) l,[])]
  | .c x,t=>cp (li x (!t)) e0 λl _=>(l,cond t [l] [])::cond t [([],[ge 0 l []])] []
noncomputable def va (c:C) (t:Bool) (e:E):Int:=cond t ((den c e).1:Int) (den c e).2
theorem g1 {c:C} {l:List Int} {v:Int} {L:List A} {k:List (List Int)} (h:ev (rho c 0) l=v) (hk:Al (rho c 0) k):G c ((l,k)::L) v:=⟨_,List.mem_cons_self ..,h,hk⟩
theorem g2 {c:C} {q:A} {v:Int} {L:List A} (h:G c L v):G c (q::L) v:=h.elim λx hx=>⟨x,List.mem_cons_of_mem _ hx.1,hx.2⟩
theorem ge_1 {c:C} {l m:List Int} {x y:Int} (hx:ev (rho c 0) l=x) (hy:ev (rho c 0) m=y) (h:y<=x):Al (rho c 0) [ge 0 m l]:=al_c (by rw [ev_ge];omega) al_n
theorem li_ok {c:C} (e:E):∀ (t:Bool),G c (li e t) (va c t e):=by
  have z0:G c e0 0:=g1 rfl al_n
  have k1:∀ k,ev (rho c 0) [k]=k:=λk=>by show k * 1+0=k;omega
  induction e with
  | v i=>intro t;cases t <;> exact g1 ((by first | exact ev_ui i 0 | exact ev_un i 0:ev _ _=_).trans (by rw [Nat.zero_add];rfl)) al_n
  | k n=>intro t;cases t;exact g1 rfl al_n;exact g1 (k1 _) al_n
  | i z=>intro t;cases t;exact g1 (k1 _) al_n;exact g1 rfl al_n
  | u b x y hx hy =>
    intro t;refine cp_ok (hx t) (hy t) λl m e1 e2=>?_
    rcases Int.le_total (va c t y) (va c t x) with h | h
    · refine g1 ?_ (ge_1 e1 e2 h)
      cases t <;> cases b <;> (show ev _ _=_;simp only [cond_true,cond_false];first | rw [e1] | rw [e2]) <;> (simp only [va,den,cond_true,cond_false] at *;omega)
    · refine g2 (g1 ?_ (ge_1 e2 e1 h))
      cases t <;> cases b <;> (show ev _ _=_;simp only [cond_true,cond_false];first | rw [e1] | rw [e2]) <;> (simp only [va,den,cond_true,cond_false] at *;omega)
  | a x y hx hy =>
    intro t;refine cp_ok (hx t) (hy t) λl m e1 e2=>g1 ?_ al_n
    rw [ev_ad,e1,e2];cases t <;> simp only [va,den,cond_true,cond_false];omega
  | s x y hx hy =>
    intro t;refine cp_ok (hx t) (hy t) λl m e1 e2=>?_
    cases t with
    | false=>exact g1 (by rw [ev_ge,e1,e2];simp only [va,den,cond_false];omega) al_n
    | true =>
      rcases Int.le_total (va c true y) (va c true x) with h | h
      · exact g1 (by rw [ev_ge,e1,e2];simp only [va,den,cond_true] at *;omega) (ge_1 e1 e2 h)
      · exact g2 (g1 (by show (0:Int)=_;simp only [va,den,cond_true] at *;omega) (ge_1 e2 e1 h))
  | n x hx =>
    intro t;refine cp_ok (hx t) z0 λl m e1 e2=>g1 ?_ al_n
    cases t with
    | false=>show ev _ (sc _ _)=_;rw [ev_sc,e1];simp only [va,den,cond_false];omega
    | true=>rfl
  | m s n z x hx =>
    intro t;refine cp_ok (hx t) z0 λl m e1 e2=>g1 ?_ al_n
    rw [ev_sc,e1];cases t <;> cases s <;> simp only [va,den,cond_true,cond_false,Int.natCast_mul,Int.mul_comm]
  | c x hx =>
    intro t;refine cp_ok (hx (!t)) z0 λl m e1 e2=>?_
    cases t with
    | false=>exact g1 e1 al_n
    | true =>
      rcases Int.le_total 0 (va c false x) with h | h
      · exact g1 (by rw [e1];simp only [va,den,cond_true,cond_false,Bool.not_true] at *;omega) (al_c (by rw [e1];exact h) al_n)
      · exact g2 (g1 (by show (0:Int)=_;simp only [va,den,cond_true,cond_false] at *;omega) (ge_1 rfl e1 h))
noncomputable def sg:Int->Ordering
  | .ofNat 0=>.eq
  | .ofNat _=>.gt
  | .negSucc _=>.lt
noncomputable abbrev B:=Int × Int × List Int
structure P3 where
  p:List B
  n:List B
  z:List (List Int)
noncomputable def p1 (k a:Int) (r:List Int) (q:P3):Ordering->P3
  | .eq=>⟨q.p,q.n,(k::r)::q.z⟩
  | .gt=>⟨(a,k,r)::q.p,q.n,q.z⟩
  | .lt=>⟨q.p,(Int.neg a,k,r)::q.n,q.z⟩
noncomputable def ex:Nat->List Int->Int × List Int
  | _,[]=>(0,[])
  | 0,a::l=>(a,l)
  | j+1,a::l=>((ex j l).1,a::(ex j l).2)
noncomputable def p2 (j:Nat) (q:P3):List Int->P3
  | []=>q
  | k::l=>p1 k (ex j l).1 (ex j l).2 q (sg (ex j l).1)
noncomputable def pt (j:Nat):List (List Int)->P3
  | []=>⟨[],[],[]⟩
  | x::l=>p2 j (pt j l) x
noncomputable def ct (q:P3):Bool:=Nat.ble (Nat.mul q.p.length q.n.length) (Nat.succ (Nat.add q.p.length q.n.length))
noncomputable def bs (l:List (List Int)):Nat->Nat->Nat
  | 0,_=>0
  | n+1,j=>cond (ct (pt j l)) j (bs l n (j+1))
noncomputable def gc:List Int->Nat
  | []=>0
  | x::l=>Nat.gcd x.natAbs (gc l)
noncomputable def dv (g:Int):List Int->List Int
  | []=>[]
  | x::l=>x / g::dv g l
noncomputable def t1 (k:Int) (l:List Int):Nat->List Int
  | 0=>[k]
  | 1=>k::l
  | g+2=>k / ((g+2:Nat):Int)::dv ((g+2:Nat):Int) l
noncomputable def tg:List Int->List Int
  | []=>[]
  | k::l=>t1 k l (gc l)
noncomputable def co (a b:B):List Int:=tg (ad (sc b.1 (a.2.1::a.2.2)) (sc a.1 (b.2.1::b.2.2)))
noncomputable def cr (n:List B) (z:List (List Int)) (p:List B):List (List Int):=(p.flatMap λa=>n.map λb=>co a b)++z
noncomputable def f1:List Int->Bool
  | [.negSucc _]=>true
  | _=>false
noncomputable def f0 (l:List (List Int)) (j:Nat) (f:List (List Int)->Bool):Bool:=f (cr (pt j l).n (pt j l).z (pt j l).p)
noncomputable def fm:Nat->List (List Int)->Bool
  | 0,l=>l.any f1
  | n+1,l=>l.any f1 || (Nat.ble l.length 300 && f0 l (bs l (n+1) 0) (fm n))
noncomputable def dr:Nat->(Nat->Int)->Nat->Int
  | 0,r,i=>r (i+1)
  | _+1,r,0=>r 0
  | j+1,r,i+1=>dr j (λi=>r (i+1)) i
theorem ex_ok:∀ (j:Nat) (l:List Int) (r:Nat->Int),ev r l=(ex j l).1 * r j+ev (dr j r) (ex j l).2
  | 0,[],r=>by show 0=0 * _+0;rw [Int.zero_mul];rfl
  | j+1,[],r=>by show 0=0 * _+0;rw [Int.zero_mul];rfl
  | 0,a::l,r=>rfl
  | j+1,a::l,r=>by
    show a * r 0+ev _ l=(ex j l).1 * r (j+1)+(a * r 0+ev (dr j λi=>r (i+1)) (ex j l).2)
    rw [ex_ok j l];exact Int.add_left_comm ..
noncomputable def sh (j:Nat) (r:Nat->Int):Nat->Int
  | 0=>r 0
  | i+1=>dr j (λi=>r (i+1)) i
theorem ev_cut {r:Nat->Int} {j:Nat} {k:Int} {l:List Int}:ev r (k::l)=(ex j l).1 * r (j+1)+ev (sh j r) (k::(ex j l).2):=by
  show k * r 0+ev _ l=(ex j l).1 * r (j+1)+(k * r 0+ev (dr j λi=>r (i+1)) (ex j l).2)
  rw [ex_ok j l];exact Int.add_left_comm ..
noncomputable def Bp (r:Nat->Int) (y:Int) (a:B):Prop:=0 < a.1/\0<=a.1 * y+ev r (a.2.1::a.2.2)
noncomputable def P0 (r:Nat->Int) (j:Nat) (q:P3):Prop:=(∀ a∈q.p,Bp (sh j r) (r (j+1)) a)/\(∀ a∈q.n,Bp (sh j r) (-r (j+1)) a)/\Al (sh j r) q.z
theorem sg_ok (a:Int):(sg a=.eq/\a=0) ∨ (sg a=.gt/\0 < a) ∨ (sg a=.lt/\a < 0):=by
  match a with
  | .ofNat 0=>exact .inl ⟨rfl,rfl⟩
  | .ofNat (n+1)=>exact .inr (.inl ⟨rfl,Int.natCast_pos.mpr (Nat.succ_pos n)⟩)
  | .negSucc _=>exact .inr (.inr ⟨rfl,by omega⟩)
theorem p2_ok {r:Nat->Int} {j:Nat} {q:P3} (h:P0 r j q):∀ {x:List Int},0<=ev r x->P0 r j (p2 j q x)
  | [],_=>h
  | k::l,hx=>by
    rw [ev_cut (j:=j)] at hx
    show P0 r j (p1 k (ex j l).1 (ex j l).2 q (sg (ex j l).1))
    rcases sg_ok (ex j l).1 with ⟨e,g⟩ | ⟨e,g⟩ | ⟨e,g⟩ <;> rw [e]
    · exact ⟨h.1,h.2.1,al_c (by rw [g,Int.zero_mul,Int.zero_add] at hx;exact hx) h.2.2⟩
    · exact ⟨List.forall_mem_cons.mpr ⟨⟨g,hx⟩,h.1⟩,h.2⟩
    · exact ⟨h.1,List.forall_mem_cons.mpr ⟨⟨Int.neg_pos_of_neg g,by show 0<=-(ex j l).1 * -r (j+1)+_;rw [Int.neg_mul_neg];exact hx⟩,h.2.1⟩,h.2.2⟩
theorem pt_ok {r:Nat->Int} (j:Nat):∀ {l:List (List Int)},Al r l->P0 r j (pt j l)
  | [],_=>⟨λ_ h=>(nomatch h),λ_ h=>(nomatch h),al_n⟩
  | x::l,h=>p2_ok (pt_ok j λy hy=>h y (List.mem_cons_of_mem _ hy)) (h x (List.mem_cons_self ..))
theorem gc_dv:∀ (l:List Int) (g:Nat) (r:Nat->Int),g ∣ gc l->ev r l=g * ev r (dv g l)
  | [],g,r,_=>(Int.mul_zero _).symm
  | x::l,g,r,h=>by
    have h3:(g:Int) * (x / g)=x:=Int.mul_ediv_cancel' (Int.ofNat_dvd_left.mpr (Nat.dvd_trans h (Nat.gcd_dvd_left ..)))
    show x * _+ev _ l=g * (x / g * _+ev _ (dv g l))
    rw [gc_dv l g _ (Nat.dvd_trans h (Nat.gcd_dvd_right ..)),Int.mul_add,← Int.mul_assoc,h3]
theorem t1_ok {r:Nat->Int} (hr:r 0=1) {k:Int} {l:List Int} (h:0<=ev r (k::l)):∀ {g},g=gc l->0<=ev r (t1 k l g)
  | 0,e=>by
    have h:0<=k * r 0+ev _ l:=h
    rw [gc_dv l 0 _ (by rw [e];exact Nat.dvd_refl _),Int.natCast_zero,Int.zero_mul] at h;exact h
  | 1,e=>h
  | g+2,e=>by
    have h:0<=k * r 0+ev _ l:=h
    show 0<=k / ((g+2:Nat):Int) * r 0+ev _ (dv ((g+2:Nat):Int) l)
    rw [gc_dv l (g+2) _ (by rw [e];exact Nat.dvd_refl _),hr,Int.mul_one] at h
    rw [hr,Int.mul_one]
    have hg:0 < ((g+2:Nat):Int):=by omega
    generalize ((g+2:Nat):Int)=d at *
    generalize ev _ (dv d l)=y at *
    have:-y<=k / d:=(Int.le_ediv_iff_mul_le hg).mpr (by rw [Int.neg_mul,Int.mul_comm];omega)
    omega
theorem co_ok {r:Nat->Int} (hr:r 0=1) {y:Int} {a b:B} (h1:Bp r y a) (h2:Bp r (-y) b):0<=ev r (co a b):=by
  refine t1_ok hr ?_ rfl
  show 0<=ev r (ad (sc b.1 (a.2.1::a.2.2)) (sc a.1 (b.2.1::b.2.2)))
  rw [ev_ad,ev_sc,ev_sc]
  have e1:=Int.mul_nonneg (Int.le_of_lt h2.1) h1.2
  have e2:=Int.mul_nonneg (Int.le_of_lt h1.1) h2.2
  rw [Int.mul_add] at e1 e2
  have:a.1 * (b.1 * -y)=- (b.1 * (a.1 * y)):=by rw [Int.mul_neg,Int.mul_neg,Int.mul_left_comm]
  omega
theorem f1_ok {r:Nat->Int} (hr:r 0=1) {l:List (List Int)} (h:Al r l):¬ l.any f1=true:=λk=>by
  obtain ⟨x,h1,h2⟩:=List.any_eq_true.mp k
  have:=h x h1
  unfold f1 at h2;split at h2
  · have t:0<=_ * r 0+0:=this
    rw [hr] at t;omega
  · cases h2
theorem fm_ok:∀ (n:Nat) {r:Nat->Int} {l:List (List Int)},r 0=1->Al r l->¬ fm n l=true
  | 0,r,l,hr,h=>f1_ok hr h
  | n+1,r,l,hr,h=>λk=>by
    rcases Bool.or_eq_true_iff.mp k with k | k
    · exact f1_ok hr h k
    · obtain ⟨i,j,m⟩:=pt_ok (bs l (n+1) 0) h
      refine fm_ok n (r:=sh _ r) hr (al_a (λx hx=>?_) m) (Bool.and_eq_true_iff.mp k).2
      obtain ⟨a,a1,a2⟩:=List.mem_flatMap.mp hx
      obtain ⟨b,b1,rfl⟩:=List.mem_map.mp a2
      exact co_ok (r:=sh _ r) hr (i a a1) (j b b1)
noncomputable abbrev T:=List (Bool × F)
noncomputable def al (t:Bool) (x y:E) (cs:List (List Int)) (k:List Int->List Int->List (List Int)->Bool):Bool:=(li x t).all λp=>(li y t).all λq=>k p.1 q.1 (p.2++(q.2++cs))
noncomputable def tb (w:Nat):Nat->T->List (List Int)->Bool
  | 0,_,_=>false
  | n+1,[],cs=>fm w cs
  | n+1,(b,f)::r,cs=>match f with
    | .le d t x y=>al t x y cs λl m cs=>tb w n r (cond b (ge (cond d (-1) 0) l m) (ge (cond d 0 (-1)) m l)::cs)
    | .eq t x y=>al t x y cs λl m cs=>cond b (tb w n r (ge 0 l m::ge 0 m l::cs)) (tb w n r (ge (-1) l m::cs) && tb w n r (ge (-1) m l::cs))
    | .ff=>cond b true (tb w n r cs)
    | .no f=>tb w n ((!b,f)::r) cs
    | .an f g=>cond b (tb w n ((true,f)::(true,g)::r) cs) (tb w n ((false,f)::r) cs && tb w n ((false,g)::r) cs)
    | .or f g=>cond b (tb w n ((true,f)::r) cs && tb w n ((true,g)::r) cs) (tb w n ((false,f)::(false,g)::r) cs)
    | .im f g=>cond b (tb w n ((false,f)::r) cs && tb w n ((true,g)::r) cs) (tb w n ((true,f)::(false,g)::r) cs)
    | .io f g=>tb w n ((b,g)::(true,f)::r) cs && tb w n ((!b,g)::(false,f)::r) cs
noncomputable def hd (c:C) (q:Bool × F):Prop:=cond q.1 (dF c q.2) (¬ dF c q.2)
theorem al_ok {c:C} {t:Bool} {x y:E} {cs:List (List Int)} {k:List Int->List Int->List (List Int)->Bool} (h:al t x y cs k=true) (hc:Al (rho c 0) cs):∃ l m d,ev (rho c 0) l=va c t x/\ev (rho c 0) m=va c t y/\Al (rho c 0) d/\k l m d=true:=by
  obtain ⟨p,p1,p2,p3⟩:=li_ok (c:=c) x t;obtain ⟨q,q1,q2,q3⟩:=li_ok (c:=c) y t
  exact ⟨_,_,_,p2,q2,al_a p3 (al_a q3 hc),List.all_eq_true.mp (List.all_eq_true.mp h p p1) q q1⟩
theorem tb_ok {c:C} {w:Nat}:∀ (n:Nat) {r:T} {cs:List (List Int)},Al (rho c 0) cs->(∀ q∈r,hd c q)->¬ tb w n r cs=true
  | 0,_,_,_,_=>nofun
  | n+1,[],cs,hc,hr=>fm_ok w rfl hc
  | n+1,(b,f)::r,cs,hc,hr=>λh=>by
    obtain ⟨hq,hr'⟩:=List.forall_mem_cons.mp hr
    have I:∀ {p q},hd c p->hd c q->tb w n (p::q::r) cs=true->False:=λh1 h2 h3=>tb_ok n hc (List.forall_mem_cons.mpr ⟨h1,List.forall_mem_cons.mpr ⟨h2,hr'⟩⟩) h3
    have J:∀ {p},hd c p->tb w n (p::r) cs=true->False:=λh1 h3=>tb_ok n hc (List.forall_mem_cons.mpr ⟨h1,hr'⟩) h3
    cases f with
    | le d t x y =>
      have h:al t x y cs (λl m cs=>tb w n r (cond b (ge (cond d (-1) 0) l m) (ge (cond d 0 (-1)) m l)::cs))=true:=h
      obtain ⟨l,m,e,h1,h2,he,h3⟩:=al_ok h hc
      refine tb_ok n (al_c ?_ he) hr' h3
      cases b <;> cases t <;> cases d <;> (show 0<=ev _ (ge _ _ _);rw [ev_ge,h1,h2];simp only [hd,dF,va,cond_true,cond_false] at *;omega)
    | eq t x y =>
      have h:al t x y cs (λl m cs=>cond b (tb w n r (ge 0 l m::ge 0 m l::cs)) (tb w n r (ge (-1) l m::cs) && tb w n r (ge (-1) m l::cs)))=true:=h
      obtain ⟨l,m,e,h1,h2,he,h3⟩:=al_ok h hc
      cases b with
      | true =>
        refine tb_ok n (al_c ?_ (al_c ?_ he)) hr' h3 <;>
        cases t <;> (rw [ev_ge,h1,h2];simp only [hd,dF,va,cond_true,cond_false] at *;omega)
      | false =>
        obtain ⟨h4,h5⟩:=Bool.and_eq_true_iff.mp h3
        rcases Int.lt_or_lt_of_ne (a:=ev (rho c 0) l) (b:=ev (rho c 0) m) (by rw [h1,h2];cases t <;> (simp only [hd,dF,va,cond_true,cond_false] at *;omega)) with g | g
        · exact tb_ok n (al_c (by rw [ev_ge];omega) he) hr' h4
        · exact tb_ok n (al_c (by rw [ev_ge];omega) he) hr' h5
    | ff =>
      cases b with
      | true=>exact hq
      | false=>exact tb_ok n hc hr' h
    | no f =>
      cases b with
      | true=>exact J (p:=(false,f)) hq h
      | false=>exact J (p:=(true,f)) (Classical.not_not.mp hq) h
    | an f g =>
      cases b with
      | true=>exact I (p:=(true,f)) (q:=(true,g)) hq.1 hq.2 h
      | false =>
        obtain ⟨h4,h5⟩:=Bool.and_eq_true_iff.mp h
        by_cases k:dF c f
        · exact J (p:=(false,g)) (λz=>hq ⟨k,z⟩) h5
        · exact J (p:=(false,f)) k h4
    | or f g =>
      cases b with
      | false=>exact I (p:=(false,f)) (q:=(false,g)) (λz=>hq (.inl z)) (λz=>hq (.inr z)) h
      | true =>
        obtain ⟨h4,h5⟩:=Bool.and_eq_true_iff.mp h
        rcases (hq:dF c f ∨ dF c g) with k | k
        · exact J (p:=(true,f)) k h4
        · exact J (p:=(true,g)) k h5
    | im f g =>
      cases b with
      | false=>exact I (p:=(true,f)) (q:=(false,g)) (Classical.byContradiction λz=>hq λy=>(z y).elim) (λz=>hq λ_=>z) h
      | true =>
        obtain ⟨h4,h5⟩:=Bool.and_eq_true_iff.mp h
        by_cases k:dF c f
        · exact J (p:=(true,g)) (hq k) h5
        · exact J (p:=(false,f)) k h4
    | io f g =>
      obtain ⟨h4,h5⟩:=Bool.and_eq_true_iff.mp h
      by_cases k:dF c f
      · refine I (p:=(b,g)) (q:=(true,f)) ?_ k h4
        cases b with
        | true=>exact hq.mp k
        | false=>exact λz=>hq ⟨λ_=>z,λ_=>k⟩
      · refine I (p:=(!b,g)) (q:=(false,f)) ?_ k h5
        cases b with
        | true=>exact λz=>k (hq.mpr z)
        | false=>exact Classical.byContradiction λz=>hq ⟨λy=>(k y).elim,λy=>(z y).elim⟩
noncomputable def mx:E->Nat
  | .v i=>i+1
  | .a x y=>(mx x).max (mx y)
  | .s x y=>(mx x).max (mx y)
  | .u _ x y=>(mx x).max (mx y)
  | .m _ _ _ x=>mx x
  | .n x=>mx x
  | .c x=>mx x
  | _=>0
noncomputable def mF:F->Nat
  | .le _ _ x y=>(mx x).max (mx y)
  | .eq _ x y=>(mx x).max (mx y)
  | .ff=>0
  | .no f=>mF f
  | .an f g=>(mF f).max (mF g)
  | .or f g=>(mF f).max (mF g)
  | .im f g=>(mF f).max (mF g)
  | .io f g=>(mF f).max (mF g)
noncomputable def nz:Nat->List (List Int)
  | 0=>[]
  | i+1=>un i::nz i
theorem nz_ok {c:C}:∀ n,Al (rho c 0) (nz n)
  | 0=>al_n
  | n+1=>al_c (by rw [ev_un];exact Int.natCast_nonneg _) (nz_ok n)
noncomputable def ok (f:F):Bool:=tb (mF f+mF f) 400 [(false,f)] (nz (mF f))
noncomputable abbrev Wit (c:C) (f:F):Prop:=ok f=true->dF c f
theorem R {c:C} {f:F}:Wit c f:=λh=>Classical.byContradiction λk=>tb_ok 400 (nz_ok _) (r:=[(false,f)]) (List.forall_mem_cons.mpr ⟨k,λ_ h=>absurd h List.not_mem_nil⟩) h
class AI (e:Int) (l:List Int) (l':outParam (List Int)) (n:outParam Nat):Prop
instance:AI e [] [e] 0:=⟨⟩
instance (priority:=low) [AI e l l' n]:AI e (d::l) (d::l') (.succ n):=⟨⟩
instance:AI e (e::l) (e::l) 0:=⟨⟩
class AN (e:Nat) (l:List Nat) (l':outParam (List Nat)) (n:outParam Nat):Prop
instance:AN e [] [e] 0:=⟨⟩
instance (priority:=low) [AN e l l' n]:AN e (d::l) (d::l') (.succ n):=⟨⟩
instance:AN e (e::l) (e::l) 0:=⟨⟩
class RI (e:Int) (c:C) (c':outParam C) (x:outParam E):Prop
class RN (e:Nat) (c:C) (c':outParam C) (x:outParam E):Prop
instance (priority:=low) [AI e i i' k]:RI e ⟨i,n⟩ ⟨i',n⟩ (.v k):=⟨⟩
instance (priority:=low) [AN e n n' k]:RN e ⟨i,n⟩ ⟨i,n'⟩ (.v k):=⟨⟩
class LN (e:Nat):Prop
instance:LN 0:=⟨⟩
instance:LN 1:=⟨⟩
instance:LN 10:=⟨⟩
instance:LN 100:=⟨⟩
instance:LN 1000000:=⟨⟩
instance:LN 120:=⟨⟩
instance:LN 12288:=⟨⟩
instance:LN 130:=⟨⟩
instance:LN 140:=⟨⟩
instance:LN 16:=⟨⟩
instance:LN 1600000:=⟨⟩
instance:LN 16777216:=⟨⟩
instance:LN 18:=⟨⟩
instance:LN 2:=⟨⟩
instance:LN 20:=⟨⟩
instance:LN 200:=⟨⟩
instance:LN 24:=⟨⟩
instance:LN 250:=⟨⟩
instance:LN 251:=⟨⟩
instance:LN 3:=⟨⟩
instance:LN 30:=⟨⟩
instance:LN 4:=⟨⟩
instance:LN 40:=⟨⟩
instance:LN 400000:=⟨⟩
instance:LN 41:=⟨⟩
instance:LN 42:=⟨⟩
instance:LN 5:=⟨⟩
instance:LN 50:=⟨⟩
instance:LN 52:=⟨⟩
instance:LN 6:=⟨⟩
instance:LN 60:=⟨⟩
instance:LN 62:=⟨⟩
instance:LN 63:=⟨⟩
instance:LN 64:=⟨⟩
instance:LN 8:=⟨⟩
instance:LN 800000:=⟨⟩
instance:LN 8000000:=⟨⟩
instance:LN 900000:=⟨⟩
class LI (e:Int):Prop
instance:LI 0:=⟨⟩
instance:LI 1:=⟨⟩
instance:LI 10:=⟨⟩
instance:LI 100:=⟨⟩
instance:LI 1000:=⟨⟩
instance:LI 2:=⟨⟩
instance:LI 3:=⟨⟩
instance:LI 6:=⟨⟩
instance:LI 64:=⟨⟩
instance [LI a]:LI (-a):=⟨⟩
instance (priority:=500) [LN e]:RN e c c (.k e):=⟨⟩
instance (priority:=500) [LI e]:RI e c c (.i e):=⟨⟩
instance [LI a] [LN b]:RI (a ^ b) c c (.i (a ^ b)):=⟨⟩
instance [LN a] [LN b]:RN (a ^ b) c c (.k (a ^ b)):=⟨⟩
instance [RI a c d x] [RI b d e y]:RI (max a b) c e (.u true x y):=⟨⟩
instance [RI a c d x] [RI b d e y]:RI (min a b) c e (.u false x y):=⟨⟩
instance [RN a c d x] [RN b d e y]:RN (max a b) c e (.u true x y):=⟨⟩
instance [RN a c d x] [RN b d e y]:RN (min a b) c e (.u false x y):=⟨⟩
instance [RI a c d x] [RI b d e y]:RI (a+b) c e (.a x y):=⟨⟩
instance [RN a c d x] [RN b d e y]:RN (a+b) c e (.a x y):=⟨⟩
instance [RI a c d x] [RI b d e y]:RI (a - b) c e (.s x y):=⟨⟩
instance [RN a c d x] [RN b d e y]:RN (a - b) c e (.s x y):=⟨⟩
instance [RI a c d x]:RI (-a) c d (.n x):=⟨⟩
instance [LI a] [RI b c d y]:RI (a * b) c d (.m true 0 a y):=⟨⟩
instance [LI a] [RI b c d y]:RI (b * a) c d (.m false 0 a y):=⟨⟩
instance [LN a] [RN b c d y]:RN (a * b) c d (.m true a 0 y):=⟨⟩
instance [LN a] [RN b c d y]:RN (b * a) c d (.m false a 0 y):=⟨⟩
instance [RN a c d x]:RI (Nat.cast a) c d (.c x):=⟨⟩
instance [RI a c d x]:RN (Int.toNat a) c d (.c x):=⟨⟩

class RF (p:Prop) (c:C) (c':outParam C) (f:outParam F):Prop
instance {a b:Int} [RI a c d x] [RI b d e y]:RF (a<=b) c e (.le false false x y):=⟨⟩
instance {a b:Int} [RI a c d x] [RI b d e y]:RF (a < b) c e (.le true false x y):=⟨⟩
instance {a b:Int} [RI a c d x] [RI b d e y]:RF (b ≥ a) c e (.le false false x y):=⟨⟩
instance {a b:Int} [RI a c d x] [RI b d e y]:RF (b > a) c e (.le true false x y):=⟨⟩
instance {a b:Int} [RI a c d x] [RI b d e y]:RF (a=b) c e (.eq false x y):=⟨⟩
instance {a b:Int} [RI a c d x] [RI b d e y]:RF (a ≠ b) c e (.no (.eq false x y)):=⟨⟩
instance {a b:Nat} [RN a c d x] [RN b d e y]:RF (a<=b) c e (.le false true x y):=⟨⟩
instance {a b:Nat} [RN a c d x] [RN b d e y]:RF (a < b) c e (.le true true x y):=⟨⟩
instance {a b:Nat} [RN a c d x] [RN b d e y]:RF (b ≥ a) c e (.le false true x y):=⟨⟩
instance {a b:Nat} [RN a c d x] [RN b d e y]:RF (b > a) c e (.le true true x y):=⟨⟩
instance {a b:Nat} [RN a c d x] [RN b d e y]:RF (a=b) c e (.eq true x y):=⟨⟩
instance {a b:Nat} [RN a c d x] [RN b d e y]:RF (a ≠ b) c e (.no (.eq true x y)):=⟨⟩
instance:RF False c c .ff:=⟨⟩
instance [RF p c d f]:RF (¬p) c d (.no f):=⟨⟩
instance [RF p c d f] [RF q d e g]:RF (p/\q) c e (.an f g):=⟨⟩
instance [RF p c d f] [RF q d e g]:RF (p ∨ q) c e (.or f g):=⟨⟩
instance [RF p c d f] [RF q d e g]:RF (p->q) c e (.im f g):=⟨⟩
instance [RF p c d f] [RF q d e g]:RF (p ↔ q) c e (.io f g):=⟨⟩
theorem Rw (p:Prop) [RF p ⟨[],[]⟩ c f]:Wit c f:=R
end QA
local macro_rules
  | `(tactic| ext $ps:rintroPat*:$_:num)=>`(tactic| (refine id ?_;ext $ps*))
  | `(tactic| ext $ps:rintroPat*)=>do
    let mut ty ← `(_)
    let mut f:=false
    let mut hs:=#[]
    for p in ps do
      match p with
      | `(rintroPat| $h:ident)=>hs:=hs.push (← `($h:ident))
      | _=>f:=true
    for h in hs.reverse do ty ← `(type_of% $h->$ty)
    let t ← `(tactic| (refine (?g:$ty) $hs*;refine (QA.R:type_of% (QA.Rw (type_of% ?g))) ?_;decide +kernel))
    if f then `(tactic| (exfalso;$t)) else return t
set_option Elab.async false
set_option linter.all false
set_option maxRecDepth 100000
open And renaming intro->c3J
open Array renaming length_toList->gE,toList_append->ny,getElem?_toList->tw,perm_iff_toList_perm->xx,toList_push->xj,toList_extract->ED,toList_reverse->EC,getD_eq_getD_getElem?->Qn,append_assoc->Kh,getElem_toList->PX,toList_modify->Qg,getD->Eh
open Array.Perm renaming refl->sY
open Bool renaming false_ne_true->fY,false_eq_true->ou,and_eq_true->vk,eq_iff_iff->ER,not_true->JV
open False renaming elim->cV
open ForInStep renaming yield->mT,done->El
open Iff renaming rfl->eG
open Int renaming le_refl->eQ,emod_lt_of_pos->kH,emod_nonneg->kG,mul_le_mul_of_nonneg_left->EY,toNat_natCast->xn,mul_nonneg->vE,le_of_lt->BE,ediv_nonneg->JL,mul_one->Ef,not_le->Ej,le_trans->J4
open List renaming mem_singleton->bT,mem_cons_of_mem->cY,mem_cons_self->cM,mem_append->bX,length_map->cj,mem_cons->bI,length_append->dq,getElem?_set_ne->eR,size_toArray->dZ,getElem?_eq_some_iff->iB,pairwise_append->gm,mem_append_right->ie,getElem?_set_self->iS,drop_eq_getElem_cons->jT,append_assoc->fM,mem_append_left->iR,pairwise_cons->iC,map_append->ic,length_take->jk,take_append_drop->nC,drop_eq_nil_of_le->oi,replicate->ji,range->fq,getElem?_eq_getElem->qk,getElem?_append_right->rH,pairwise_singleton->qj,lookup_cons->mQ,length_pos_iff->pC,map_cons->kM,length_drop->nE,append_nil->mU,getD_eq_getElem?_getD->vH,getElem_mem->oq,getElem?_append_left->vG,mem_iff_getElem->rJ,flatten_singleton->tx,map_map->lD,length_cons->pB,pairwise_iff_getElem->xw,flatten_append->tB,getElem?_map->rL,mem_map->mV,mem_of_mem_take->vq,mem_of_mem_drop->vo,mem_range->qi,not_mem_nil->tf,take_of_length_le->BU,perm_append_comm->B3,extract_eq_take_drop->E3,nodup_cons->vv,reverse_perm->xi,filterMap_cons->BZ,getElem?_replicate->E1,append_cancel_left->EZ,mem_reverse->xu,length_replicate->E6,length_range->BP,pairwise_map->BO,ne_nil_of_length_pos->KD,length_set->BM,length_eq_zero_iff->Kx,forIn_cons->BL,nil_append->BS,getElem?_set->EM,flatten_cons->EL,getElem_take->EK,flatMap_cons->EJ,length_singleton->KJ,eq_nil_or_concat->KG,zipIdx_cons->EH,take_append_of_le_length->QB,ext_getElem->EG,getLast?_eq_some_getLast->QA,suffix_refl->EF,mem_of_getElem?->KR,mem_of_getLast?->KO,map->qg,mem_filter->ES,of_mem_zip->EO,length->wR,sum_append->Er,map_congr_left->Ki,map_nil->BH,zipWith->BG,zip_cons_cons->Ke,ne_nil_of_mem->Kd,getElem?_eq_none_iff->Qk,drop_zero->Ek,getLast?_eq_some_iff->Qv,pairwise_mergeSort->Qr,cons_append->Kt,mem_flatMap->Kr,dropLast_eq_take->P6,zipIdx_nil->JR,foldl_cons->JP,getElem?_append->PZ,reverse_reverse->PY,dropLast_concat->PR,drop_take->J1,mergeSort_perm->Qf,flatMap_append->Qe,mem_filterMap->Qd,getElem_range->Qa,getElem?_take->P',toArray->Ka
open List.Pairwise renaming nil->EN
open List.Perm renaming refl->BR,append_left->KI
open List.cons renaming inj->JU
open Nat renaming le_refl->bA,ne_of_lt->dF,le_trans->dY,lt_of_lt_of_le->iQ,eq_zero_of_not_pos->vF,lt_irrefl->oz,le_add_right->tj,lt_of_succ_lt->vm,zero_le->og,lt_succ_self->vD,lt_of_le_of_ne->B4,zero_add->tq,add_sub_cancel_left->KN,le_of_lt->w9,ne_of_gt->w8,add_le_add_right->KP,sub_self->BF,le_succ->BK,le_of_not_lt->Kw,le_antisymm->JQ,min_eq_left->JO,le_of_sub_eq_zero->P5,not_lt_zero->JN,add_assoc->JW,add_mul->JJ
open Ne renaming symm->fE
open Option renaming bind_some->md,map_eq_some_iff->BW,isSome_iff_exists->Qu,map_eq_none_iff->Qw,getD_none->Qi,map->JH
open Option.some renaming inj->dk
open Or renaming inr->bg,inl->bJ
open PyProof.Rows renaming wpS_bind->aS,wpS_pure->aW,wpS_forRange->kJ,slot_tuple_getitem->EW,callWith_type1->EU,wpS_mono->kF,mirror_perm->rG,wpS_modify->qf,listUpdate_at->xc,listItems_at->w5,wpS_get->nv,getElem?_mirror_all->Kj,get?_update_seq->Eo,pairsOf_toList->EA,pairsOf_size->D9,mirror_size->Ed,seqEpoch_at->Ec,size_push'->Ei
open PyProof.Rows.SortSt renaming mk'->BB
open PySem renaming wpAny_bind->aq,wpAny_pure->bp,wpAny_loadPart'->lC,sizeLine_eq->h8,wpAny_mono->gk,wpAny_holding->nD,mem_of_lookup->tD,wpAny_newObj_type->rK,wpAny_seqItems->pD,wpAny_field->ma,wpAny_callSpecial?_slot->BX,codeAny_builtin->sX,wpAny_Call_Name_kw->xt,wpAny_pyIter_tuple->xq,wpAny_setField_rec->xp,Builtin->c1G,wpAny_truthy_bool->xo,wpAny_passesOwn->vw,wpAny_pyIter_list->xl,call_isinstance->vt,wpAny_call_entry->xh,plainId_quiet->vg,wpAny_letGo->sW,wpAny_execs_nil->BN,wpAny_attempt->wY,codeAny_mono->w6,wpAny_updateSeq_pair->KQ,wpAny_tryCatch->Ez,wpAny_call->wV,wpAny_comprehension_free->Qt,wpAny_rule->wU,wpAny_standAt->Ey,intBits_le_64->Ex,wpAny_of_eq->BJ,wpAny_onRaise->Eu,wpAny_newList->Et,noFill_tuple_add->Kl,concat_meets->Eb,wpAny_updateSeq->JM,wpAny_newTuple->J2,seq_tuple_add->JY,rangeSize_one->JX,call->JI
open PySem.Around renaming under_plainId->vn,frames_deeper->P4,under->Kc
open PySem.Builtin.Int renaming intBits->Kk
open PySem.Builtin.List renaming listItems->E7,listTooLong->KA
open PySem.Builtin.Range renaming rangeSize->xg,small->BY,rangeFitsLong->KU
open PySem.Builtin.Slice renaming slicePlaces->E4,sliceAdjust->KE,sliceApplied->Ql
open PySem.Builtin.SmallTypes renaming nextOf->tz,ownedTupleIsFree->E8,ownedTupleHandOut->Qz
open PySem.Builtin.Tuple renaming tupleExact->E2
open PySem.Calls renaming Name_function_global->Qm,spliced_cons->Kf,spliced_nil->Km,callWith_builtin->Qx,evalArgs_plain->P0
open PySem.Code renaming isFrame->Kb
open PySem.Data renaming cell->wX,fields->Eg
open PySem.Env renaming kindOf->BC
open PySem.F renaming slot_tuple_iterator_next->ET,plain_min_loop->vC,args_tuple_add_2->KC,entry_tuple_add->Kz,plainAttrs_list->Ky,slot_tuple_add->KL,args_tuple_iterator_next_1->QC,entry_tuple_iterator_next->Qo,slot_zip_next->Ep,plain_list_iadd->Qp,entry_min_loop->Ku,slot_list_append->P8,slot_list_extend->P7,slot_list_pop->Qb
open PySem.Heap renaming get?_push_of_some->bP,lt_size->bO,get?_push_size->ft,get?_update_other->oj,size_push->qh,get?_update_ne->xf,get?_update_self->E5,get?_none_of_le->EE,SameBut->BI,size_update->Kv,IsTuple->Ea,IsList->Ee
open PySem.Heap.IsList renaming push->PQ
open PySem.Heap.SameBut renaming update->Qh
open PySem.IsRange renaming new->JK
open PySem.NameKind renaming free->nF,cell->vh
open PySem.Obj renaming mapSeq->fL
open PySem.PassesOwn renaming never->sZ
open PySem.Shared renaming heap->sV
open PySem.Str renaming ofString->tu
open PySem.Value renaming int->jm,ref->jS,none->l9,type->vj,bool->wW,builtin->Es,notImplemented->PU
open PySem.W renaming Frag->aC,nsIn->iA,fnOf->jl,mg_none_of->ot,findIn->mS,tabIn->mR,kitOne->om,keepIn->tm,hideAll_none->B0,mroIn->vi,tabObj->w4,hideAll_get->EB,mg_of->wZ,kas_rev->mP,exmOne->BQ,codeHdIn->EI,of_hideAll->Kg,kas_descPart->BD,codeIn->Em,methodObj->Kp,specialIn->Ko,kas_desc->sU,cellsFrom_some->Qy,hideAll->Kq,OpenLaw->JS,kas_place->wQ,nsOkIn->J0,tailIn->JZ,callWith_K->Qc,tail_of_in->P9,clsIn->JT,plainGet->Qj,kas_sort->BA,instObj->PN,takesIn->PM
open PySem.W.WData renaming layableAll->Qs,int->Ew,weightAll->Qq,weight->PV,list->PL
open Sum renaming inl->ve,inr->vf
theorem U7{a b c:Nat}(h:a+c<=b):a<=b:=dY (tj _ _) h
theorem U6{a b c:Nat}(h:a<=b):a-c<=b:=dY (Nat.sub_le _ _) h
namespace L2
open PySem PySem.Spec PyProof.Rows
abbrev Key:=Sum Int Str
def QE:Key->Value->Bool
 | .inl k,v=>Value.isInt k v
 | .inr x,v=>Value.isStrOf x v
def HR(w:World):Key->Int
 | .inl k=>hashInt k
 | .inr x=>hashStr w x
theorem rW:∀{k:Key} {v:Value},QE k v=true->(∃i t,k=ve i/\v=jm i t)\/(∃x t,k=vf x/\v=Value.str x t)
 | .inl i,v,h=>by
  obtain ⟨t,e⟩:=Value.isInt_shape (k:=i) (v:=v) h
  exact .inl ⟨i,t,rfl,e⟩
 | .inr x,v,h=>by
  obtain ⟨t,e⟩:=Value.isStrOf_shape (x:=x) (v:=v) h
  exact .inr ⟨x,t,rfl,e⟩
theorem b8x(a b:Int):decide ((ve a:Key)=ve b)=(a==b):=by
 by_cases e:a=b
 .subst e;simp
 .have h:¬(ve a:Key)=ve b:=λq=>e (Sum.inl.inj q)
  rw [decide_eq_false h]
  exact (beq_eq_false_iff_ne.mpr e).symm
theorem b8u(a b:Str):decide ((vf a:Key)=vf b)=decide (a=b):=by
 by_cases e:a=b
 .subst e;simp
 .have h:¬(vf a:Key)=vf b:=λq=>e (Sum.inr.inj q)
  rw [decide_eq_false h,decide_eq_false e]
theorem b8w(a:Int)(b:Str):decide ((ve a:Key)=vf b)=false:=decide_eq_false (λq=>nomatch q)
theorem b8v(a:Str)(b:Int):decide ((vf a:Key)=ve b)=false:=decide_eq_false (λq=>nomatch q)
def L7(prog:Program)(w:World):PySem.KeyKind prog w Key where
 is:=QE
 hash:=HR w
 inj:=λv a b ha hb=>by
  rcases rW ha with ⟨i,t,rfl,rfl⟩ | ⟨x,t,rfl,rfl⟩
  .rcases rW hb with ⟨j,u,rfl,e⟩ | ⟨y,u,rfl,e⟩
   .injection e with e1 _;rw [e1]
   .exact nomatch e
  .rcases rW hb with ⟨j,u,rfl,e⟩ | ⟨y,u,rfl,e⟩
   .exact nomatch e
   .injection e with e1 _;rw [e1]
 byValue:=λk v h=>by
  rcases rW h with ⟨i,t,rfl,rfl⟩ | ⟨x,t,rfl,rfl⟩<;>rfl
 pyHash:=λhv h=>by
  rcases rW hv with ⟨i,t,rfl,rfl⟩ | ⟨x,t,rfl,rfl⟩
  .exact wpAny_pyHash_int h
  .exact wpAny_pyHash_str h
 eqBool:=λhu hv h=>by
  rcases rW hu with ⟨i,t,rfl,rfl⟩ | ⟨x,t,rfl,rfl⟩
  .rcases rW hv with ⟨j,u,rfl,rfl⟩ | ⟨y,u,rfl,rfl⟩
   .rw [b8x] at h;exact wpAny_eqBool_int h
   .rw [b8w] at h;exact SeqAt.EqAt.int_str i t y u _ _ _ _ h
  .rcases rW hv with ⟨j,u,rfl,rfl⟩ | ⟨y,u,rfl,rfl⟩
   .rw [b8v] at h;exact SeqAt.EqAt.str_int x t j u _ _ _ _ h
   .rw [b8u] at h;exact wpAny_eqBool_str h
 «strs»:=λk x t v h=>by
  rcases rW h with ⟨i,u,rfl,e⟩ | ⟨y,u,rfl,e⟩
  .exact nomatch e
  .injection e with e1 _
   subst e1
   cases v<;>rfl
end L2
namespace L2
open PySem PySem.Spec PyProof.Rows
inductive V where
 | aG | bl (b:Bool) | int (i:Int) | str (x:Str) | nG (b:Array UInt8) | Bo (b:UInt64) | ref (a:Addr) | ty (n:String)
 deriving DecidableEq
def RelV:V->Value->Prop
 | .aG,u=>u=l9
 | .bl b,u=>u=wW b
 | .int i,u=>∃t,u=jm i t
 | .str x,u=>∃t,u=Value.str x t
 | .nG b,u=>∃t,u=Value.bytes b t
 | .Bo b,u=>∃t,u=Value.float b t
 | .ref a,u=>u=jS a
 | .ty n,u=>u=vj n
abbrev au:List V->List Value->Prop:=Paired RelV
theorem au.length(r:au xs us):xs.length=us.length:=Paired.length r
theorem au.get:∀{xs:List V} {us:List Value} {i:Nat} {x:V},au xs us->xs[i]?=some x->∃u,us[i]?=some u/\RelV x u
 | _,_,_,_,.nil,e=>by simp at e
 | _,_,0,_,.cons r _,e=>by simp at e;subst e;exact ⟨_,rfl,r⟩
 | _,_,i+1,x,.cons _ t,e=>by
  obtain ⟨u,h1,h2⟩:=au.get (i:=i) (x:=x) t (by simpa using e)
  exact ⟨u,by simpa using h1,h2⟩
theorem au.set(r:RelV x u):∀{xs:List V} {us:List Value} (i:Nat),au xs us->au (xs.set i x) (us.set i u)
 | _,_,_,.nil=>.nil
 | _,_,0,.cons _ t=>.cons r t
 | _,_,i+1,.cons q t=>.cons q (au.set r i t)
theorem au.append:∀{xs ys:List V} {us ws:List Value},au xs us->au ys ws->au (xs++ys) (us++ws)
 | _,_,_,_,.nil,s=>s
 | _,_,_,_,.cons r t,s=>.cons r (au.append t s)
theorem au.take:∀{xs:List V} {us:List Value} (n:Nat),au xs us->au (xs.take n) (us.take n)
 | _,_,0,_=>.nil
 | _,_,_+1,.nil=>.nil
 | _,_,n+1,.cons r t=>.cons r (au.take n t)
theorem au.drop:∀{xs:List V} {us:List Value} (n:Nat),au xs us->au (xs.drop n) (us.drop n)
 | _,_,0,r=>r
 | _,_,_+1,.nil=>.nil
 | _,_,n+1,.cons _ t=>au.drop n t
theorem au.none_of:∀{xs:List V} {us:List Value} {i:Nat},au xs us->xs[i]?=none->us[i]?=none:=λ{xs us i} r e=>by
 have h1:=r.length
 have h2:xs.length<=i:=Qk.mp e
 exact Qk.mpr (by ext h1 h2)
def sd:Option V->Option Value->Prop
 | some v,some u=>RelV v u
 | none,none=>True
 | _,_=>False
def KV{κ:Type}:List (κ×V)->List (κ×Value)->Prop:=Paired λ(p:κ×V) (q:κ×Value)=>p.1=q.1/\RelV p.2 q.2
def kV:Key->V
 | .inl i=>.int i
 | .inr x=>.str x
inductive HO where
 /-- a list -/
 | lst (xs:List V)
 /-- a tuple (never changes) -/
 | tup (xs:List V)
 /-- a dict sr keys are ints and texts;one sr keys are tuples of ints and texts (the empty one is both) -/
 | dK (bw:List (Key×V)) | dT (bw:List (List Key×V))
 /-- a set of ints: av members,av size -/
 | set (S:Int->Bool) (n:Nat)
 /-- an instance of the class at C,av dict at dx,av attributes -/
 | ins (C dx:Addr) (fs:List (Str×V))
 /-- the dict of the instance at x -/
 | own (x:Addr)
 /-- the dict of an exception -/
 | xd (fs:List (Str×V))
 /-- a bound method,f of x -/
 | met (f x:Addr)
 /-- a range object lo,lo+1,.. below hi -/
 | sy (lo hi:Int)
 /-- a yK VG is known to the object (the script;a dict while a loop walks it): read,never written while it is so -/
 | fV (o:Obj) (u:HO)
 /-- a code oP table -/
 | su (ps:Array Value)
 /-- a code oP table sr codes are all called q,and are av own -/
 | tab (q:Str)
 /-- any other yK,by U' is true of av one object (a def of OU own: SetO a S n:=HO.ext λh=>..) -/
 | ext (φ:Heap->Prop)
def ownOf:HO->Option Addr
 | .own x=>some x
 | .fV _ (.own x)=>some x
 | _=>none
def FA(q:Str)(o:Obj):Prop:=∃vs t,o.data=.fields vs/\vs[1]?=some (.str q t)
abbrev Hp:=Addr->Option HO
def upd(H:Hp)(a:Addr)(o:HO):Hp:=λb=>if b=a then some o else H b
theorem kQ:upd H a o a=some o:=by unfold upd;rw [if_pos rfl]
theorem bM(h:b≠a):upd H a o b=H b:=by unfold upd;rw [if_neg h]
theorem jK{H:Hp}{a b:Addr}{o:HO}(h:H a=some o)(h':H b=none):a≠b:=by
 intro e;subst e;rw [h] at h';cases h'
section
variable (P:Program)(w:World)
def cL(H:Hp)(h:Heap)(a:Addr):HO->Prop
 | .lst xs=>xs.length<=sizeLine/\∃(av:List Value) (n:Nat),au xs av/\h.get? a=some { cls:=.type "list",data:=.seq av.toArray n }
 | .tup xs=>xs.length<=sizeLine/\∃av:List Value,au xs av/\IsTup h a av.toArray
 | .dK bw=>bw.length<=sizeLine/\(a==sysModules)=false/\∃vs,KV bw vs/\h.DictOf (L7 P w) a vs
 | .dT bw=>bw.length<=sizeLine/\(a==sysModules)=false/\∃xs:List (List Key×Addr×Value),
   Paired (λ(p:List Key×V) (q:List Key×Addr×Value)=>p.1=q.1/\H q.2.1=some (.tup (p.1.map kV))/\RelV p.2 q.2.2) bw xs /\
   ∃o es ep,h.get? a=some o/\o.ExactDict/\o.data=.dict es ep/\es.toList=xs.map (entryOfKey (tupleKind (L7 P w)))/\(xs.map (·.1)).Nodup
 | .set S n=>h.SetOf (intKind P w) a S n
 | .ins C dx fs=>H dx=some (.own a)/\fs.length<=1000/\dx≠a/\h.get? a=some (PN C dx) /\
   ∃mA,h.Ns1 dx mA/\(∀f,sd (fs.lookup f) (mA f))/\PySem.Within mA (fs.map (·.1))
 | .own _=>∃o,h.get? a=some o
 | .xd fs=>∃mA,h.Ns1 a mA/\∀f,sd (fs.lookup f) (mA f)
 | .sy lo hi=>∃t u v,h.get? a=some { cls:=.type "range",data:=.fields #[.int lo t,.int hi u,.int 1 v] }
 | .fV o u=>h.get? a=some o/\cL H h a u
 | .su ps=>h.get? a=some { cls:=.none,data:=.fields ps }
 | .tab q=>∃ps,h.get? a=some (w4 ps)/\TriplesOk ps.toList/\∀pos cv,codeAmong pos ps.toList=some cv->∃c oc,cv=.ref c/\H c=some (.fV oc (.own a))/\FA q oc
 | .met f x=>h.get? a=some (Kp (.ref f) (.ref x))
 | .ext φ=>φ h/\(∃o,h.get? a=some o)/\∀h1 h2:Heap,φ h1->(∀o,h1.get? a=some o->h2.get? a=some o)->φ h2
def fu(H:Hp)(h:Heap):Prop:=∀a o,H a=some o->cL P w H h a o
end
section
variable {P:Program}{w:World}{H H':Hp}{h h':Heap}{a:Addr}{o:HO}
theorem cL.lt(x:cL P w H h a o):a<h.objs.size:=by
 cases o with
 | lst xs=>obtain ⟨_,_,_,_,e⟩:=x;exact bO e
 | tup xs=>obtain ⟨_,_,_,p⟩:=x;exact p.lt
 | dK bw=>obtain ⟨_,_,_,_,o,_,_,e,_⟩:=x;exact bO e
 | dT bw=>obtain ⟨_,_,_,_,o,_,_,e,_⟩:=x;exact bO e
 | set S n=>obtain ⟨o,_,_,_,e,_⟩:=x;exact bO e
 | ins C dx fs=>obtain ⟨_,_,_,e,_⟩:=x;exact bO e
 | own y=>obtain ⟨_,e⟩:=x;exact bO e
 | xd fs=>obtain ⟨_,⟨_,_,_,e,_⟩,_⟩:=x;exact bO e
 | sy lo hi=>obtain ⟨_,_,_,e⟩:=x;exact bO e
 | fV ob u=>obtain ⟨e,_⟩:=x;exact bO e
 | su ps=>exact bO (show h.get? a=some _ from x)
 | tab q=>obtain ⟨_,e,_⟩:=x;exact bO e
 | met f y=>exact bO (show h.get? a=some _ from x)
 | ext φ=>obtain ⟨_,⟨_,e⟩,_⟩:=x;exact bO e
theorem Paired.zV{α β:Type}{F G:α->β->Prop}:∀{zW:List α} {l₂:List β},Paired F zW l₂->(∀a b,F a b->G a b)->Paired G zW l₂
 | _,_,.nil,_=>.nil
 | _,_,.cons r t,f=>.cons (f _ _ r) (Paired.zV t f)
theorem cL.gr(x:cL P w H h a o)(k:∀b u,(b=a\/H b=some (.own a))->h.get? b=some u->h'.get? b=some u)
  (ho:∀b u,ownOf u=some a->H b=some u->H' b=some u)(ht:∀b xs,H b=some (.tup xs)->H' b=some (.tup xs)):cL P w H' h' a o:=by
 induction o with
 | lst xs=>obtain ⟨z,av,n,r,e⟩:=x;exact ⟨z,av,n,r,k _ _ (.inl rfl) e⟩
 | tup xs=>obtain ⟨z,av,r,ob,e,c⟩:=x;exact ⟨z,av,r,ob,k _ _ (.inl rfl) e,c⟩
 | dK bw=>obtain ⟨z,y,vs,r,ob,es,ep,e,c⟩:=x;exact ⟨z,y,vs,r,ob,es,ep,k _ _ (.inl rfl) e,c⟩
 | dT bw =>
  obtain ⟨z,y,xs,r,ob,es,ep,e,c⟩:=x
  exact ⟨z,y,xs,Paired.zV r λp q z=>⟨z.1,ht _ _ z.2.1,z.2.2⟩,ob,es,ep,k _ _ (.inl rfl) e,c⟩
 | set S n=>obtain ⟨ob,es,ep,t,e,c⟩:=x;exact ⟨ob,es,ep,t,k _ _ (.inl rfl) e,c⟩
 | ins C dx fs =>
  obtain ⟨d,z,ne,e,mA,⟨od,es,ep,e2,c⟩,r⟩:=x
  exact ⟨ho _ _ rfl d,z,ne,k _ _ (.inl rfl) e,mA,⟨od,es,ep,k _ _ (.inr d) e2,c⟩,r⟩
 | own y=>obtain ⟨ob,e⟩:=x;exact ⟨ob,k _ _ (.inl rfl) e⟩
 | xd fs=>obtain ⟨mA,⟨od,es,ep,e,c⟩,r⟩:=x;exact ⟨mA,⟨od,es,ep,k _ _ (.inl rfl) e,c⟩,r⟩
 | sy lo hi=>obtain ⟨t,u,v,e⟩:=x;exact ⟨t,u,v,k _ _ (.inl rfl) e⟩
 | fV ob u ih=>obtain ⟨e,q⟩:=x;exact ⟨k _ _ (.inl rfl) e,ih q⟩
 | su ps =>
  have e:h.get? a=some { cls:=.none,data:=.fields ps }:=x
  show h'.get? a=some { cls:=.none,data:=.fields ps }
  exact k a _ (.inl rfl) e
 | tab q =>
  obtain ⟨ps,e,ht,z⟩:=x
  exact ⟨ps,k _ _ (.inl rfl) e,ht,λpos cv hc=>let ⟨c,oc,e1,e2,e3⟩:=z pos cv hc;⟨c,oc,e1,ho _ _ rfl e2,e3⟩⟩
 | met f y =>
  have e:h.get? a=some (Kp (.ref f) (.ref y)):=x
  show h'.get? a=some (Kp (.ref f) (.ref y))
  exact k a _ (.inl rfl) e
 | ext φ=>obtain ⟨p,⟨o,e⟩,st⟩:=x;exact ⟨st _ _ p λo q=>k _ _ (.inl rfl) q,⟨o,k _ _ (.inl rfl) e⟩,st⟩
theorem fu.lt(x:fu P w H h)(e:H a=some o):a<h.objs.size:=(x a o e).lt
theorem fu.fresh(x:fu P w H h)(e:h.objs.size<=a):H a=none:=by
 cases q:H a with
 | none=>rfl
 | some u=>exact absurd (iQ (x.lt q) e) (oz _)
theorem fu.kept(x:fu P w H h)(k:∀b u,h.get? b=some u->h'.get? b=some u):fu P w H h':=λa o e =>
 (x a o e).gr (λb u _ q=>k b u q) (λ_ _ _ q=>q) λ_ _ q=>q
theorem fu.laid(x:fu P w H h)(k:∀b u,h.get? b=some u->h'.get? b=some u)(hp:h.objs.size<=a)(new:cL P w (upd H a o) h' a o):fu P w (upd H a o) h':=λb u e=>by
 have hn:=x.fresh hp
 by_cases hb:b=a
 .subst hb;rw [kQ] at e;cases e;exact new
 .rw [bM hb] at e
  exact (x b u e).gr (λc v _ q=>k c v q) (λc _ _ q=>by rw [bM (jK q hn)];exact q) λc xs q=>by rw [bM (jK q hn)];exact q
end
def Rd(H:Hp)(a:Addr)(u:HO):Prop:=H a=some u\/∃o,H a=some (.fV o u)
theorem Rd.of(h:H a=some u):Rd H a u:=.inl h
theorem Rd.ok(r:Rd H a u)(x:fu P w H h):cL P w H h a u:=by
 rcases r with r | ⟨o,r⟩
 .exact x a u r
 .obtain ⟨_,q⟩:=x a _ r
  exact q
def GD:Option HO->Prop
 | some (.lst _)=>True
 | some (.dK _)=>True
 | some (.dT _)=>True
 | some (.set _ _)=>True
 | some (.ins _ _ _)=>True
 | some (.ext _)=>True
 | some (.tab _)=>True
 | _=>False
section
variable {P:Program}{w:World}{H:Hp}{h h':Heap}{x e:Addr}{o':HO}
theorem fu.write(ok:fu P w H h)(mu:GD (H x))(he:e=x\/H e=some (.own x))(k:∀b u,b≠e->h.get? b=some u->h'.get? b=some u)(wK:∃u,h'.get? e=some u)
  (new:cL P w (upd H x o') h' x o'):fu P w (upd H x o') h':=λb u q=>by
 have HH:∀c y,H c=some (.own y)->c≠x:=λc y r z=>by subst z;rw [r] at mu;exact mu
 have HF:∀c xs,H c=some (.tup xs)->c≠x:=λc xs r z=>by subst z;rw [r] at mu;exact mu
 have HI:∀c y u,ownOf u=some y->H c=some u->c≠x:=λc y u hu r z=>by
  subst z;rw [r] at mu
  cases u with
  | own y=>exact mu
  | fV o v=>exact mu
  | _=>cases hu
 by_cases hb:b=x
 .subst hb;rw [kQ] at q;cases q;exact new
 .rw [bM hb] at q
  by_cases uU:b=e
  .have q':H b=some (.own x):=by
    rcases he with z | z
    .exact absurd (uU.trans z) hb
    .rw [uU];exact z
   rw [q] at q';cases q'
   obtain ⟨v,hv⟩:=wK
   exact ⟨v,by rw [uU];exact hv⟩
  .refine (ok b u q).gr (λc v hc r=>k c v ?_ r) (λc u hu r=>by rw [bM (HI c b u hu r)];exact r) λc xs r=>by rw [bM (HF c xs r)];exact r
   rcases hc with rfl | hc
   .exact uU
   .rintro rfl
    rcases he with z | z
    .exact HH c b hc z
    .rw [hc] at z;cases z;exact hb rfl
end
structure Un(fs ex:List Addr)(H H':Hp)(h h':Heap):Prop where
 keep:∀b o,h.get? b=some o->H b=none->b∉fs->b∉ex->h'.get? b=some o
 slot:∀b o,h.get? b=some o->H b=none->b∈fs->b∉ex->∃sl,h'.get? b=some { o with slots:=sl }
 free:∀b o,h.get? b=some o->H b=none->b∉ex->H' b=none
 there:∀b o,h.get? b=some o->b∉ex->∃o',h'.get? b=some o'
 c8:∀b xs,H b=some (.tup xs)->H' b=some (.tup xs)
 dE:∀b o u,H b=some (.fV o u)->H' b=some (.fV o u)
 dN:∀b ps,H b=some (.su ps)->∃more,H' b=some (.su (ps++more))
section
variable {fs Jo ex PH:List Addr}{H H1 H2:Hp}{h h1 h2 h':Heap}{a x e:Addr}{o:HO}
theorem Un.any(u:Un fs ex H H1 h h1)(q:h.get? b=some ob)(n:H b=none)(hx:b∉ex):∃sl,h1.get? b=some { ob with slots:=sl }:=by
 by_cases hb:b∈fs
 .exact u.slot b ob q n hb hx
 .exact ⟨ob.slots,u.keep b ob q n hb hx⟩
theorem Un.trans(a:Un fs ex H H1 h h1)(b:Un fs ex H1 H2 h1 h2):Un fs ex H H2 h h2 where
 keep:=λc ob q n hc hx=>b.keep c ob (a.keep c ob q n hc hx) (a.free c ob q n hx) hc hx
 slot:=λc ob q n hc hx=>by
  obtain ⟨sl,e1⟩:=a.slot c ob q n hc hx
  obtain ⟨Hj,e2⟩:=b.slot c _ e1 (a.free c ob q n hx) hc hx
  exact ⟨Hj,e2⟩
 free:=λc ob q n hx=>by
  obtain ⟨o',e1⟩:=a.there c ob q hx
  exact b.free c o' e1 (a.free c ob q n hx) hx
 there:=λc ob q hx=>by
  obtain ⟨o',e1⟩:=a.there c ob q hx
  exact b.there c o' e1 hx
 c8:=λc xs q=>b.c8 c xs (a.c8 c xs q)
 dE:=λc ob xs q=>b.dE c ob xs (a.dE c ob xs q)
 dN:=λc ps q=>by
  obtain ⟨m1,e1⟩:=a.dN c ps q
  obtain ⟨m2,e2⟩:=b.dN c _ e1
  exact ⟨m1++m2,by rw [e2,Kh]⟩
theorem Un.kept(k:∀b u,h.get? b=some u->h'.get? b=some u):Un fs ex H H h h':=
 ⟨λb ob q _ _ _=>k b ob q,λb ob q _ _ _=>⟨ob.slots,k b ob q⟩,λ_ _ _ n _=>n,λb ob q _=>⟨ob,k b ob q⟩,λ_ _ q=>q,λ_ _ _ q=>q,λ_ ps q=>⟨#[],by rw [q];simp⟩⟩
theorem Un.refl:Un fs ex H H h h:=Un.kept λ_ _ q=>q
theorem Un.laid(k:∀b u,h.get? b=some u->h'.get? b=some u)(hp:h.objs.size<=a)(hn:H a=none):Un fs ex H (upd H a o) h h' where
 keep:=λb u q _ _ _=>k b u q
 slot:=λb u q _ _ _=>⟨u.slots,k b u q⟩
 free:=λb u q n _=>by rw [bM (dF (iQ (bO q) hp))];exact n
 there:=λb u q _=>⟨u,k b u q⟩
 c8:=λb xs q=>by rw [bM (jK q hn)];exact q
 dE:=λb u xs q=>by rw [bM (jK q hn)];exact q
 dN:=λb ps q=>⟨#[],by rw [bM (jK q hn),q];simp⟩
theorem Un.write(mu:GD (H x))(he:e=x\/H e=some (.own x))(k:∀b u,b≠e->h.get? b=some u->h'.get? b=some u)(wK:∃u,h'.get? e=some u):Un fs ex H (upd H x o) h h':=by
 have hx:∀b,H b=none->b≠x:=λb n z=>by subst z;rw [n] at mu;exact mu
 have hb:∀b,H b=none->b≠e:=λb n z=>by
  subst z
  rcases he with r | r
  .exact hx b n r
  .rw [n] at r;cases r
 have hm:∀b u,H b=some u->¬GD (some u)->b≠x:=λb u q nm z=>by subst z;rw [q] at mu;exact nm mu
 refine ⟨λb u q n _ _=>k b u (hb b n) q,λb u q n _ _=>⟨u.slots,k b u (hb b n) q⟩,λb u q n _=>by rw [bM (hx b n)];exact n,λb u q _=>?_,
  λb xs q=>by rw [bM (hm b _ q λz=>z)];exact q,λb u xs q=>by rw [bM (hm b _ q λz=>z)];exact q,λb ps q=>⟨#[],by rw [bM (hm b _ q λz=>z),q];simp⟩⟩
 by_cases uU:b=e
 .subst uU;exact wK
 .exact ⟨u,k b u uU q⟩
theorem Un.mono(u:Un fs ex H H1 h h1)(hs:∀b∈fs,b∈Jo)(hx:∀b∈ex,b∈PH):Un Jo PH H H1 h h1:=
 ⟨λb ob q n hb he=>u.keep b ob q n (λz=>hb (hs b z)) λz=>he (hx b z),λ_ _ q n _ he=>u.any q n λz=>he (hx _ z),λb ob q n he=>u.free b ob q n λz=>he (hx b z),λb ob q he=>u.there b ob q λz=>he (hx b z),u.c8,u.dE,u.dN⟩
end
def Dx(h:Heap)(H:Hp):List Addr:=(fq h.objs.size).filter λa=>(H a).isSome
def jC(h:Heap)(H:Hp):Heap:=Kq h (Dx h H)
theorem b1G(h:Heap)(H:Hp):(jC h H).objs.size=h.objs.size:=PySem.W.hideAll_size _ _
theorem b3E(e:h.get? b=some o)(n:H b=none):(jC h H).get? b=some o:=
 EB _ e λhm=>by
  have q:(H b).isSome=true:=(ES.mp hm).2
  rw [n] at q;simp at q
theorem b5S(e:(jC h H).get? b=some o):h.get? b=some o/\H b=none:=by
 have e':h.get? b=some o:=Kg (Dx h H) e
 refine ⟨e',?_⟩
 cases q:H b with
 | none=>rfl
 | some x =>
  have hm:b∈Dx h H:=ES.mpr ⟨qi.mpr (bO e'),by simp [q]⟩
  have z:(jC h H).get? b=none:=B0 (Dx h H) hm
  rw [z] at e;cases e
def b6G(g h:Heap)(L:Addr):List (Addr×Obj):=(fq h.objs.size).filterMap λa=>if a=L\/(g.get? a).isSome=true then none else (h.get? a).map λo=>(a,o)
def rest(g h:Heap)(L d:Addr):List (Addr×Obj):=(b6G g h L).filter λp=>decide (p.1≠d)
end L2
namespace L2
open PySem PySem.Spec PyProof.Rows
structure Mod(K:aC)(mg:Str->Option Value)(base:Heap):Prop where
 uA:K.In base
 glob:base.Ns mainGlobals mg
 blt:∃mb,base.Ns builtinsNs mb/\∀x:Str,x ≠ "__name__" -> mb x=bootBuiltins x
 nolimit:base.NoLimit
 bmod:∃bm ob,mg "__builtins__" = some (.ref bm)/\bm≠builtinsNs/\base.get? bm=some ob/\ob.cls=.type "module" /\ ob.dict=some builtinsNs/\ob.data=.plain
structure Cx where
 prog:Program
 w:World
 K:aC
 mg:Str->Option Value
 base:Heap
 A:Around
 N:List Str
 bF:Shared
 nV:Hp
 env:Env
 outer:List Env
 stack:List Env
 ex:List Addr
 fn:Str->Bool
 calm:Bool
 pn:List (Addr×Obj)
 xe:Value->Shared->Prop
def eM(l:List Env):List Addr:=l.filterMap (·.frame)
abbrev Cx.fs(X:Cx):List Addr:=eM X.outer
def gH(sc:Scope)(x:Str):Prop:=sc.names.lookup x=some .local\/sc.names.lookup x=some .cell\/sc.names.lookup x=some .free
def Loc(sc:Scope)(x:Str):Prop:=sc.names.lookup x=some .local\/sc.names.lookup x=some .cell
def Look(env:Env)(h:Heap)(m:Str->Option Value)(x:Str)(u:Value):Prop:=
 (env.kindOf x=some .local/\m x=some u)\/((env.kindOf x=some .cell\/env.kindOf x=some .free)/\∃c,env.cells.lookup x=some c/\h.IsCell c (some u))
structure Cx.Ok(X:Cx):Prop where
 mod:Mod X.K X.mg X.base
 kind:X.env.scope.kind=.function
 glob:X.env.globals=mainGlobals
 blt:X.env.builtins=builtinsNs
 above:X.bF.heap.objs.size<=X.env.locals
 inj:∀x y c,X.env.cells.lookup x=some c->X.env.cells.lookup y=some c->x=y
 has:∀x,(X.env.kindOf x=some .cell\/X.env.kindOf x=some .free)->∃c,X.env.cells.lookup x=some c
 vd:∀x c,X.fn x=true->X.env.cells.lookup x=some c->X.bF.heap.objs.size<=c
 hd:X.calm=true->X.A.handled=none
 frames:X.A.frames=some X.stack
 wq:X.stack=X.outer\/(X.stack=X.env::X.outer/\X.env.frame=some X.env.locals)
 D6:∀b∈X.ex,b≠X.env.locals/\∀x c,X.env.cells.lookup x=some c->c≠b
 bs:∀b o,X.base.get? b=some o->X.bF.heap.get? b=some o/\X.nV b=none
 me:X.base.objs.size<=X.bF.heap.objs.size
 lT:∀b o,X.base.get? b=some o->b∉X.ex
 nr:∀b∈X.ex,b∉X.fs
 dX:X.bF.heap.FunFrames X.base X.outer
 n8:∀b∈X.fs,X.nV b=none
structure Inv(X:Cx)(pins:List (Addr×Obj))(σ:List (Option V))(H:Hp)(s:Shared):Prop where
 ok:X.Ok
 os:s.os=X.bF.os
 bare:AllBare s.gens
 base:Un X.fs X.ex X.nV H X.bF.heap s.heap
 loc:∃m,s.heap.Ns X.env.locals m/\∀(i:Nat) (x:Str) (v:V),X.N[i]?=some x->σ[i]?=some (some v)->gH X.env.scope x->∃u,RelV v u/\Look X.env s.heap m x u
 cell:∀x c,X.env.cells.lookup x=some c->∃v,s.heap.IsCell c v
 free:H X.env.locals=none
 bN:∀x c,X.env.cells.lookup x=some c->H c=none
 pin:∀p∈X.pn++pins,s.heap.get? p.1=some p.2/\H p.1=none/\p.1≠X.env.locals/\p.1∉X.fs/\∀v,p.2.data≠.cell v
 aT:fu X.prog X.w H s.heap
 len:σ.length=X.N.length
section
variable {X:Cx}{pins:List (Addr×Obj)}{σ:List (Option V)}{H H':Hp}{s:Shared}{h':Heap}
theorem Cx.Ok.HK(ok:X.Ok)(e:X.base.get? b=some o):b∉X.fs:=λhb=>by
 have:=(ok.dX.mem hb).1
 rw [e] at this;cases this
theorem Inv.bs(I:Inv X pins σ H s):∀b o,X.base.get? b=some o->s.heap.get? b=some o/\H b=none:=λb o e =>
 ⟨I.base.keep b o (I.ok.bs b o e).1 (I.ok.bs b o e).2 (I.ok.HK e) (I.ok.lT b o e),I.base.free b o (I.ok.bs b o e).1 (I.ok.bs b o e).2 (I.ok.lT b o e)⟩
theorem Inv.bk(I:Inv X pins σ H s):∀b o,X.base.get? b=some o->s.heap.get? b=some o:=λb o e=>(I.bs b o e).1
theorem Inv.mod(I:Inv X pins σ H s):Mod X.K X.mg X.base:=I.ok.mod
theorem Inv.mF(I:Inv X pins σ H s):X.K.In s.heap:=I.ok.mod.uA.keeps I.bk
theorem Inv.nolimit(I:Inv X pins σ H s):s.heap.NoLimit:=I.ok.mod.nolimit.keeps I.bk
theorem Inv.fr(I:Inv X pins σ H s):∃m,Fr X.base X.env.locals s.heap m:=
 let ⟨m,hn,_⟩:=I.loc
 ⟨m,hn,I.bk,dY I.ok.me I.ok.above⟩
theorem Inv.lt(I:Inv X pins σ H s):X.env.locals<s.heap.objs.size:=let ⟨_,hn,_⟩:=I.loc;hn.lt
theorem Inv.sz(I:Inv X pins σ H s):X.bF.heap.objs.size<=s.heap.objs.size:=dY I.ok.above (w9 I.lt)
theorem Inv.HJ(I:Inv X pins σ H s){a:Addr}(h:s.heap.objs.size<=a):a∉X.fs:=λhb=>by
 obtain ⟨_,o,ho,_⟩:=I.ok.dX.mem hb
 exact absurd (iQ (bO ho) (dY I.sz h)) (oz _)
theorem Inv.rB(I:Inv X pins σ H s):∀x c,X.env.cells.lookup x=some c->c≠X.env.locals:=λx c e z=>by
 obtain ⟨v,o,ho,hd⟩:=I.cell x c e
 obtain ⟨m,⟨o',es,ep,gD,A4,_⟩,_⟩:=I.loc
 rw [z,gD] at ho;cases ho;rw [A4] at hd;cases hd
theorem Inv.dX(I:Inv X pins σ H s):s.heap.FunFrames X.base X.outer:=by
 have all:∀(l:List Env),(∀b∈eM l,b∈X.fs)->X.bF.heap.FunFrames X.base l->s.heap.FunFrames X.base l:=by
  intro l
  induction l with
  | nil=>intro _ _;trivial
  | cons env r ih =>
   intro hs hl
   obtain ⟨hk,⟨L,o,hf,hn,ho,hd⟩,hr⟩:=hl
   have hL:L∈X.fs:=hs L (by unfold eM;rw [BZ,hf];exact cM)
   obtain ⟨sl,e⟩:=I.base.slot L o ho (I.ok.n8 L hL) hL λz=>I.ok.nr L z hL
   exact ⟨hk,⟨L,_,hf,hn,e,hd⟩,ih (λb hb=>hs b (by unfold eM;rw [BZ,hf];exact cY _ hb)) hr⟩
 exact all X.outer (λ_ hb=>hb) I.ok.dX
theorem Inv.stack(I:Inv X pins σ H s):s.heap.FunFrames X.base X.stack:=by
 rcases I.ok.wq with e | ⟨e,hf⟩
 .rw [e];exact I.dX
 .rw [e]
  obtain ⟨m,hn,_⟩:=I.loc
  refine .cons (by rw [I.ok.kind];decide) hf hn ?_ I.dX
  exact EE (dY I.ok.me I.ok.above)
theorem Inv.c9(I:Inv X pins σ H s):∀b∈eM X.stack,b∈X.env.locals::X.fs:=λb hb=>by
 rcases I.ok.wq with e | ⟨e,hf⟩
 .rw [e] at hb;exact cY _ hb
 .rw [e] at hb
  unfold eM at hb
  rw [BZ,hf] at hb
  exact hb
theorem Inv.fy(I:Inv X pins σ H s):∀b∈eM X.stack,H b=none:=λb hb=>by
 rcases bI.mp (I.c9 b hb) with e | hb
 .rw [e];exact I.free
 .obtain ⟨_,o,ho,_⟩:=I.ok.dX.mem hb
  exact I.base.free b o ho (I.ok.n8 b hb) λz=>I.ok.nr b z hb
theorem Inv.step{g':Array GenState}{t':Nat}{d':Drawn}{ch:List Addr}(I:Inv X pins σ H s)
  (qb:∀b∈ch,(b∈X.ex\/X.bF.heap.objs.size<=b)/\b≠X.env.locals/\(∀x c,X.env.cells.lookup x=some c->c≠b)/\∀p∈X.pn++pins,p.1≠b)
  (keep:∀b o,b≠X.env.locals->b∉X.fs->b∉ch->s.heap.get? b=some o->H b=none->h'.get? b=some o)
  (slot:∀b o,b≠X.env.locals->b∈X.fs->b∉ch->s.heap.get? b=some o->H b=none->∃sl,h'.get? b=some { o with slots:=sl })(free:∀b o,b∉ch->s.heap.get? b=some o->H b=none->H' b=none)
  (there:∀b o,b∉ch->s.heap.get? b=some o->∃o',h'.get? b=some o')
  (c8:∀b xs,H b=some (.tup xs)->H' b=some (.tup xs))(dE:∀b o u,H b=some (.fV o u)->H' b=some (.fV o u))(dN:∀b ps,H b=some (.su ps)->∃more,H' b=some (.su (ps++more)))
  (ns:∀m,s.heap.Ns X.env.locals m->h'.Ns X.env.locals m)(aT:fu X.prog X.w H' h')(hg:AllBare g'):
  Inv X pins σ H' { s with heap:=h',gens:=g',drawn:=d',toks:=t' }:=by
 have wB:∀b o,X.bF.heap.get? b=some o->b≠X.env.locals:=λb o e=>dF (iQ (bO e) I.ok.above)
 have DH:∀b o,X.bF.heap.get? b=some o->b∉X.ex->b∉ch:=λb o e hx hb=>by
  rcases (qb b hb).1 with z | z
  .exact hx z
  .exact absurd (iQ (bO e) z) (oz _)
 have cellK:∀x c,X.env.cells.lookup x=some c->∀v,s.heap.IsCell c v->h'.IsCell c v:=λx c e v ⟨o,ho,hd⟩=>by
  have zN:c∉ch:=λz=>(qb c z).2.2.1 x c e rfl
  by_cases hc:c∈X.fs
  .obtain ⟨sl,q⟩:=slot c o (I.rB x c e) hc zN ho (I.bN x c e)
   exact ⟨_,q,hd⟩
  .exact ⟨o,keep c o (I.rB x c e) hc zN ho (I.bN x c e),hd⟩
 refine ⟨I.ok,I.os,hg,⟨λb o e n hb hx=>?_,λb o e n hb hx=>?_,λb o e n hx=>?_,λb o e hx=>?_,λb xs e=>c8 b xs (I.base.c8 b xs e),λb o xs e=>dE b o xs (I.base.dE b o xs e),λb ps e=>?_⟩,?_,λx c e=>?_,?_,λx c e=>?_,λp hp=>?_,aT,I.len⟩
 .exact keep b o (wB b o e) hb (DH b o e hx) (I.base.keep b o e n hb hx) (I.base.free b o e n hx)
 .obtain ⟨sl,e1⟩:=I.base.slot b o e n hb hx
  obtain ⟨Hj,e2⟩:=slot b _ (wB b o e) hb (DH b o e hx) e1 (I.base.free b o e n hx)
  exact ⟨Hj,e2⟩
 .obtain ⟨o',e1⟩:=I.base.there b o e hx
  exact free b o' (DH b o e hx) e1 (I.base.free b o e n hx)
 .obtain ⟨o',e1⟩:=I.base.there b o e hx
  exact there b o' (DH b o e hx) e1
 .obtain ⟨m1,e1⟩:=I.base.dN b ps e
  obtain ⟨m2,e2⟩:=dN b _ e1
  exact ⟨m1++m2,by rw [e2,Kh]⟩
 .obtain ⟨m,hn,hl⟩:=I.loc
  refine ⟨m,ns m hn,λi x v e1 e2 e3=>?_⟩
  obtain ⟨u,r,l⟩:=hl i x v e1 e2 e3
  refine ⟨u,r,?_⟩
  rcases l with l | ⟨k,c,e,z⟩
  .exact .inl l
  .exact .inr ⟨k,c,e,cellK x c e _ z⟩
 .obtain ⟨v,z⟩:=I.cell x c e
  exact ⟨v,cellK x c e v z⟩
 .obtain ⟨m,⟨o,_,_,ho,_⟩,_⟩:=I.loc
  exact free _ o (λz=>(qb _ z).2.1 rfl) ho I.free
 .obtain ⟨v,o,ho,hd⟩:=I.cell x c e
  exact free c o (λz=>(qb c z).2.2.1 x c e rfl) ho (I.bN x c e)
 .obtain ⟨e,n,ne,nf,d⟩:=I.pin p hp
  have zN:p.1∉ch:=λz=>(qb p.1 z).2.2.2 p hp rfl
  exact ⟨keep p.1 p.2 ne nf zN e n,free p.1 p.2 zN e n,ne,nf,d⟩
theorem Inv.un(I:Inv X pins σ H s)(u:Un X.fs [] H H' s.heap h')(aT:fu X.prog X.w H' h'):Inv X pins σ H' { s with heap:=h',toks:=t' }:=by
 obtain ⟨m,⟨o,es,ep,ho,r⟩,_⟩:=id I.loc
 obtain ⟨sl,hL⟩:=u.any ho I.free (by simp)
 exact I.step (g':=s.gens) (d':=s.drawn) (ch:=[]) (λ_ z=>nomatch z) (λb o _ hb _ e n=>u.keep b o e n hb (by simp)) (λb o _ hb _ e n=>u.slot b o e n hb (by simp)) (λb o _ e n=>u.free b o e n (by simp)) (λb o _ e=>u.there b o e (by simp)) u.c8 u.dE u.dN (λm' hm=>by
  obtain ⟨o',Ju,Jw,gD,r'⟩:=hm
  rw [ho] at gD;cases gD
  exact ⟨_,Ju,Jw,hL,r'⟩) aT I.bare
theorem Inv.call(I:Inv X pins σ H s)(u:Un (eM X.stack) ch H H' s.heap h')(aT:fu X.prog X.w H' h')(hg:AllBare g')
  (qb:∀b∈ch,(b∈X.ex\/X.bF.heap.objs.size<=b)/\b≠X.env.locals/\(∀x c,X.env.cells.lookup x=some c->c≠b)/\∀p∈X.pn++pins,p.1≠b):
  Inv X pins σ H' { s with heap:=h',gens:=g',drawn:=d',toks:=t' }:=by
 obtain ⟨m,⟨o,es,ep,ho,r⟩,_⟩:=id I.loc
 obtain ⟨sl,hL⟩:=u.any ho I.free λz=>(qb _ z).2.1 rfl
 exact I.step (ch:=ch) qb (λb o hL hb hc e n=>u.keep b o e n (λz=>(bI.mp (I.c9 b z)).elim hL hb) hc) (λb o _ _ hc e n=>u.any e n hc) (λb o hc e n=>u.free b o e n hc) (λb o hc e=>u.there b o e hc) u.c8 u.dE u.dN (λm' hm=>by
  obtain ⟨o',Ju,Jw,gD,r'⟩:=hm
  rw [ho] at gD;cases gD
  exact ⟨_,Ju,Jw,hL,r'⟩) aT hg
theorem Inv.turned(I:Inv X pins σ H s)(k:∀b o,b≠it->s.heap.get? b=some o->h'.get? b=some o)(hn:H it=none)(hL:it≠X.env.locals)
  (h1:it∈X.ex\/X.bF.heap.objs.size<=it)(h2:∀x c,X.env.cells.lookup x=some c->c≠it)(h3:∀p∈X.pn++pins,p.1≠it):Inv X pins σ H { s with heap:=h',toks:=t' }:=by
 have zM:∀b u,H b=some u->b≠it:=λb u e z=>by rw [z,hn] at e;cases e
 refine I.step (g':=s.gens) (d':=s.drawn) (ch:=[it]) (λb hb=>?_) (λb o _ _ hc e _=>k b o (λz=>hc (by simp [z])) e) (λb o _ _ hc e _=>⟨o.slots,k b o (λz=>hc (by simp [z])) e⟩) (λ_ _ _ _ n=>n)
  (λb o hc e=>⟨o,k b o (λz=>hc (by simp [z])) e⟩) (λ_ _ e=>e) (λ_ _ _ e=>e) (λb ps e=>⟨#[],by rw [e];simp⟩) (λm hm=>?_) (λb u e=>?_) I.bare
 .have e:b=it:=by simpa using hb
  subst e
  exact ⟨h1,hL,h2,h3⟩
 .obtain ⟨o,es,ep,ho,r⟩:=hm
  exact ⟨o,es,ep,k _ o (fE hL) ho,r⟩
 .refine (I.aT b u e).gr (λc v hc q=>k c v ?_ q) (λ_ _ _ q=>q) λ_ _ q=>q
  rcases hc with z | z
  .rw [z];exact zM b u e
  .exact zM c _ z
theorem Inv.tok(I:Inv X pins σ H s)(t:Nat):Inv X pins σ H { s with toks:=t }:=I.un (h':=s.heap) (t':=t) Un.refl I.aT
theorem Inv.kept(I:Inv X pins σ H s)(k:∀b u,s.heap.get? b=some u->h'.get? b=some u):Inv X pins σ H { s with heap:=h',toks:=t' }:=I.un (Un.kept k) (I.aT.kept k)
theorem Inv.laid{a:Addr}{o:HO}{t':Nat}(I:Inv X pins σ H s)(k:∀b u,s.heap.get? b=some u->h'.get? b=some u)(hp:s.heap.objs.size<=a)(new:cL X.prog X.w (upd H a o) h' a o):
  Inv X pins σ (upd H a o) { s with heap:=h',toks:=t' }:=I.un (Un.laid k hp (I.aT.fresh hp)) (I.aT.laid k hp new)
theorem Inv.write(I:Inv X pins σ H s)(mu:GD (H x))(he:e=x\/H e=some (.own x))(k:∀b u,b≠e->s.heap.get? b=some u->h'.get? b=some u)(wK:∃u,h'.get? e=some u)
  (new:cL X.prog X.w (upd H x o) h' x o):Inv X pins σ (upd H x o) { s with heap:=h',toks:=t' }:=I.un (Un.write mu he k wK) (I.aT.write mu he k wK new)
theorem Inv.fA(I:Inv X pins σ H s)(h:∀p∈zq,s.heap.get? p.1=some p.2/\H p.1=none/\p.1≠X.env.locals/\p.1∉X.fs/\∀v,p.2.data≠.cell v):Inv X zq σ H s:=
 ⟨I.ok,I.os,I.bare,I.base,I.loc,I.cell,I.free,I.bN,λp hp=>(bX.mp hp).elim (λz=>I.pin p (iR _ z)) (h p),I.aT,I.len⟩
theorem MC{N:List Str}(hN:N.Nodup){i j:Nat}{x:Str}(a:N[i]?=some x)(b:N[j]?=some x):i=j:=by
 obtain ⟨h1,e1⟩:=iB.mp a
 obtain ⟨h2,e2⟩:=iB.mp b
 exact (List.getElem_inj hN).mp (e1.trans e2.symm)
theorem TU(I:Inv X pins σ H s)(hN:X.N.Nodup)(hi:X.N[i]?=some x)(hx:Loc X.env.scope x)(r:RelV v u)
  (h:∀s',Inv X pins (σ.set i (some v)) H s'->(∃a,BI a s.heap s'.heap/\(a=X.env.locals\/X.env.cells.lookup x=some a))->Q () s')(hf:X.fn x=true\/X.env.scope.names.lookup x=some .local:=by first | exact .inl rfl | exact .inr rfl | assumption):wpAny M A (storeName X.env x u) Q E s:=by
 obtain ⟨m,hn,hl⟩:=id I.loc
 have uR:(X.env.scope.kind==.class||(X.env.scope.kind==.module&&X.env.locals != X.env.globals))=false:=by rw [I.ok.kind];rfl
 have AO:i<σ.length:=by rw [I.len];exact (iB.mp hi).1
 have rB:=I.rB
 have tracked:∀{a:Addr} {h':Heap},(∃o,s.heap.get? a=some o/\H a=none)->BI a s.heap h'->fu X.prog X.w H h':=λ{a h'} ha hs b ob e=>by
  obtain ⟨_,_,dH⟩:=ha
  refine (I.aT b ob e).gr (λc w' hc q=>(hs.2 c ?_).trans q) (λ_ _ _ q=>q) λ_ _ q=>q
  rintro rfl
  rcases hc with rfl | hc
  .rw [dH] at e;cases e
  .rw [dH] at hc;cases hc
 rcases hx with hk | hk
 .refine wpAny_storeName_local hk hn (λh' IC hs=>?_) uR
  obtain ⟨oL,_,_,ZC,_⟩:=id hn
  refine h _ ⟨I.ok,I.os,I.bare,⟨λb o e n hb hx=>?_,λb o e n hb hx=>?_,I.base.free,λb o e hx=>?_,I.base.c8,I.base.dE,I.base.dN⟩,⟨_,IC,λj y v' e1 e2 e3=>?_⟩,λy c e=>?_,I.free,I.bN,λp hp=>?_,tracked ⟨oL,ZC,I.free⟩ hs,by simpa using I.len⟩ ⟨_,hs,.inl rfl⟩
  .exact (hs.2 b (dF (iQ (bO e) I.ok.above))).trans (I.base.keep b o e n hb hx)
  .obtain ⟨sl,e1⟩:=I.base.slot b o e n hb hx
   exact ⟨sl,(hs.2 b (dF (iQ (bO e) I.ok.above))).trans e1⟩
  .obtain ⟨o',e1⟩:=I.base.there b o e hx
   exact ⟨o',(hs.2 b (dF (iQ (bO e) I.ok.above))).trans e1⟩
  .by_cases hj:j=i
   .subst hj
    rw [hi] at e1;cases e1
    rw [iS AO] at e2
    cases e2
    exact ⟨u,r,.inl ⟨hk,by simp⟩⟩
   .rw [eR (fE hj)] at e2
    obtain ⟨u',r',q⟩:=hl j y v' e1 e2 e3
    refine ⟨u',r',?_⟩
    rcases q with ⟨k,e⟩ | ⟨k,c,e,z⟩
    .refine .inl ⟨k,?_⟩
     have:y≠x:=λe=>hj (MC hN e1 (e▸hi))
     simp [this,e]
    .exact .inr ⟨k,c,e,z.sameBut hs (rB y c e)⟩
  .obtain ⟨w',z⟩:=I.cell y c e
   exact ⟨w',z.sameBut hs (rB y c e)⟩
  .obtain ⟨e,n,ne,nf,d⟩:=I.pin p hp
   exact ⟨(hs.2 p.1 ne).trans e,n,ne,nf,d⟩
 .have IQ:X.fn x=true:=by
   rcases hf with z | z
   .exact z
   .rw [z] at hk;cases hk
  obtain ⟨c,hc⟩:=I.ok.has x (.inl hk)
  obtain ⟨w',z⟩:=I.cell x c hc
  refine wpAny_storeName_cell I.ok.kind hk hc z (λh' nZ hs=>?_)
  obtain ⟨oc,uK,Iy⟩:=id z
  refine h { s with heap:=h' } ⟨I.ok,I.os,I.bare,⟨λb o e n hb hx=>?_,λb o e n hb hx=>?_,I.base.free,λb o e hx=>?_,I.base.c8,I.base.dE,I.base.dN⟩,⟨m,hn.sameBut hs (fE (rB x c hc)),λj y v' e1 e2 e3=>?_⟩,λy c' e=>?_,I.free,I.bN,λp hp=>?_,tracked ⟨oc,uK,I.bN x c hc⟩ hs,by simpa using I.len⟩ ⟨c,hs,.inr hc⟩
  .exact (hs.2 b (dF (iQ (bO e) (I.ok.vd x c IQ hc)))).trans (I.base.keep b o e n hb hx)
  .obtain ⟨sl,e1⟩:=I.base.slot b o e n hb hx
   exact ⟨sl,(hs.2 b (dF (iQ (bO e) (I.ok.vd x c IQ hc)))).trans e1⟩
  .obtain ⟨o',e1⟩:=I.base.there b o e hx
   exact ⟨o',(hs.2 b (dF (iQ (bO e) (I.ok.vd x c IQ hc)))).trans e1⟩
  .by_cases hj:j=i
   .subst hj
    rw [hi] at e1;cases e1
    rw [iS AO] at e2
    cases e2
    exact ⟨u,r,.inr ⟨.inl hk,c,hc,nZ⟩⟩
   .rw [eR (fE hj)] at e2
    obtain ⟨u',r',q⟩:=hl j y v' e1 e2 e3
    refine ⟨u',r',?_⟩
    rcases q with q | ⟨k,c',e,z'⟩
    .exact .inl q
    .refine .inr ⟨k,c',e,z'.sameBut hs ?_⟩
     rintro rfl
     exact hj (MC hN e1 (I.ok.inj _ _ _ e hc▸hi))
  .by_cases A5:c'=c
   .subst A5;exact ⟨_,nZ⟩
   .obtain ⟨w2,z2⟩:=I.cell y c' e
    exact ⟨w2,z2.sameBut hs A5⟩
  .obtain ⟨e,n,ne,nf,d⟩:=I.pin p hp
   refine ⟨(hs.2 p.1 ?_).trans e,n,ne,nf,d⟩
   intro q
   rw [q,uK] at e
   have q':oc=p.2:=dk e
   exact d w' (by rw [<-q'];exact Iy)
theorem F8(I:Inv X pins σ H s)(hN:X.N.Nodup)(hi:X.N[i]?=some x)(hx:Loc X.env.scope x)(r:RelV v u)
  (h:∀s',Inv X pins (σ.set i (some v)) H s'->Q () s')(hf:X.fn x=true\/X.env.scope.names.lookup x=some .local:=by first | exact .inl rfl | exact .inr rfl | assumption):wpAny M A (storeName X.env x u) Q E s:=
 TU I hN hi hx r (λs' I' _=>h s' I') hf
theorem Inv.pA(I:Inv X pins σ H s)(ho:s'.os=s.os)(u:Un (eM X.stack) ch H H' s.heap s'.heap)(aT:fu X.prog X.w H' s'.heap)(hg:AllBare s'.gens)
  (qb:∀b∈ch,(b∈X.ex\/X.bF.heap.objs.size<=b)/\b≠X.env.locals/\(∀x c,X.env.cells.lookup x=some c->c≠b)/\∀p∈X.pn++pins,p.1≠b):Inv X pins σ H' s':=by
 obtain ⟨h',g',d',t',o'⟩:=s'
 have e:o'=s.os:=ho
 subst e
 exact I.call (g':=g') (t':=t') (d':=d') u aT hg qb
end
abbrev XK:=Value->Option Addr->Hp->Prop
abbrev St:=List (Option V)
abbrev VK:=V->Hp->Prop
abbrev TE:=St->Hp->VK->Prop
abbrev TT:=St->Hp->(Bool->Hp->Prop)->Prop
abbrev TA:=St->Hp->(List V->Hp->Prop)->Prop
structure Ends where
 nx:St->Hp->Prop
 rt:VK
 bk:St->Hp->Prop:=λ_ _=>False
 ct:St->Hp->Prop:=λ_ _=>False
abbrev TS:=Ends->St->Hp->Prop
def EP(X:Cx)(pins:List (Addr×Obj))(σ:St)(Q:VK)(u:Value)(s':Shared):Prop:=∃v H',Inv X pins σ H' s'/\RelV v u/\Q v H'
def TP(X:Cx)(pins:List (Addr×Obj))(σ:St)(Q:Bool->Hp->Prop)(b:Bool)(s':Shared):Prop:=∃H',Inv X pins σ H' s'/\Q b H'
def AP(X:Cx)(pins:List (Addr×Obj))(σ:St)(Q:List V->Hp->Prop)(us:List Value)(s':Shared):Prop:=∃vs H',Inv X pins σ H' s'/\au vs us/\Q vs H'
def SP(X:Cx)(pins:List (Addr×Obj))(D:Ends)(f:Flow)(s':Shared):Prop:=
 match f with
 | .next=>∃az H',Inv X pins az H' s'/\D.nx az H'
 | .brk=>∃az H',Inv X pins az H' s'/\D.bk az H'
 | .cont=>∃az H',Inv X pins az H' s'/\D.ct az H'
 | .ret u=>∃v az H',Inv X pins az H' s'/\RelV v u/\D.rt v H'
def PE(X:Cx)(e:Expr)(t:TE):Prop:=
 ∀(pins:List (Addr×Obj)) (s:Shared) (σ:St) (H:Hp) (Q:VK),Inv X pins σ H s->t σ H Q->wpAny (model X.prog X.w) X.A (eval e X.env) (EP X pins σ Q) X.xe s
def PT(X:Cx)(e:Expr)(t:TT):Prop:=
 ∀(pins:List (Addr×Obj)) (s:Shared) (σ:St) (H:Hp) (Q:Bool->Hp->Prop),Inv X pins σ H s->t σ H Q->wpAny (model X.prog X.w) X.A (isTrue e X.env (eval e X.env)) (TP X pins σ Q) X.xe s
def PW(X:Cx)(e:Expr)(t:TT):Prop:=
 ∀(whole:Sem Value) (pins:List (Addr×Obj)) (s:Shared) (σ:St) (H:Hp) (Q:Bool->Hp->Prop),Inv X pins σ H s->t σ H Q->wpAny (model X.prog X.w) X.A (isTrue e X.env whole) (TP X pins σ Q) X.xe s
theorem PW.pt(h:PW X e t):PT X e t:=h _
def PA(X:Cx)(es:List Expr)(t:TA):Prop:=
 ∀(pos:Pos) (pins:List (Addr×Obj)) (s:Shared) (σ:St) (H:Hp) (Q:List V->Hp->Prop),Inv X pins σ H s->t σ H Q->wpAny (model X.prog X.w) X.A (spliced (backTo pos (starEach es X.env))) (AP X pins σ Q) X.xe s
def PS(X:Cx)(st:Stmt)(t:TS):Prop:=
 ∀(pins:List (Addr×Obj)) (s:Shared) (σ:St) (H:Hp) (D:Ends),Inv X pins σ H s->t D σ H->wpAny (model X.prog X.w) X.A (exec st X.env) (SP X pins D) X.xe s
def mq(X:Cx)(st:List Stmt)(t:TS):Prop:=
 ∀(pins:List (Addr×Obj)) (s:Shared) (σ:St) (H:Hp) (D:Ends),Inv X pins σ H s->t D σ H->wpAny (model X.prog X.w) X.A (execs st X.env) (SP X pins D) X.xe s
theorem be{α:Type}{t:Sem α}{Q Q':α->Shared->Prop}{M:Model}{A:Around}{E:Value->Shared->Prop}{s:Shared}(h:wpAny M A t Q E s)(hQ:∀a s,Q a s->Q' a s):wpAny M A t Q' E s:=gk h hQ λ_ _ x=>x
end L2
namespace L2
open PySem PySem.Spec PyProof.Rows
section
variable {X:Cx}
theorem bin{a b:Expr}{ta tb:TE}(ha:PE X a ta)(hb:PE X b tb){pins:List (Addr×Obj)}{s:Shared}{σ:St}{H:Hp}{R:V->V->Hp->Prop}(I:Inv X pins σ H s)(h:ta σ H λx H1=>tb σ H1 λy H2=>R x y H2)
  {α:Type}{Q:α->Shared->Prop}{f:Value->Value->Sem α}
  (hf:∀v u s2 x y H2,Inv X pins σ H2 s2->RelV x v->RelV y u->R x y H2->wpAny (model X.prog X.w) X.A (f v u) Q X.xe s2):
  wpAny (model X.prog X.w) X.A (eval a X.env) (λv aM=>wpAny (model X.prog X.w) X.A (eval b X.env) (λu iI=>wpAny (model X.prog X.w) X.A (f v u) Q X.xe iI) X.xe aM) X.xe s:=by
 refine be (ha pins s σ H _ I h) λv s1 ⟨x,H1,I1,r1,q1⟩=>?_
 refine be (hb pins s1 σ H1 _ I1 q1) λu s2 ⟨y,H2,I2,r2,q2⟩=>?_
 exact hf v u s2 x y H2 I2 r1 r2 q2
def yN(i:Nat):TE:=λσ H Q=>∃v,σ[i]?=some (some v)/\Q v H
def tC(v:V):TE:=λ_ H Q=>Q v H
theorem rQ{i:Nat}{x:Str}{pos:Pos}(hN:X.N[i]?=some x)(hv:gH X.env.scope x)(hd:(x==("__debug__":Str))=false:=by decide)(bW:(x==("__classdict__":Str))=false:=by decide):PE X (.Name x pos) (yN i):=by
 intro pins s σ H Q I h
 obtain ⟨v,e,h⟩:=h
 obtain ⟨m,hn,hl⟩:=I.loc
 obtain ⟨u,r,l⟩:=hl i x v hN e hv
 have fin:EP X pins σ Q u s:=⟨v,H,I,r,h⟩
 rcases l with ⟨hk,hm⟩ | ⟨hk,c,hc,dI⟩
 .exact wpAny_Name (wpAny_loadName_local I.ok.kind hk hn hm fin) hd
 .rcases hk with hk | hk
  .exact wpAny_Name (wpAny_loadName_cell I.ok.kind hk hc dI fin) hd
  .exact wpAny_Name (wpAny_loadName_free I.ok.kind hk hc dI fin bW) hd
theorem b8c{i j pos}:PE X (.Constant (.int i) j pos) (tC (.int i)):=λ_ _ _ H _ I h=>wpAny_Constant_int ⟨.int i,H,I.tok _,⟨_,rfl⟩,h⟩
theorem zx{b j pos}:PE X (.Constant (.bool b) j pos) (tC (.bl b)):=λ_ _ _ H _ I h=>Constant_bool ⟨.bl b,H,I,rfl,h⟩
theorem b8a{j pos}:PE X (.Constant .none j pos) (tC .aG):=λ_ _ _ H _ I h=>Constant_none ⟨.aG,H,I,rfl,h⟩
theorem b77{x j pos}:PE X (.Constant (.str x) j pos) (tC (.str x)):=λ_ _ _ H _ I h=>Calls.Constant_str ⟨.str x,H,I.tok _,⟨_,rfl⟩,h⟩
def Gl(X:Cx)(x:Str):Prop:=X.env.kindOf x=some .globalImplicit
theorem vO{E:Value->Shared->Prop}{pins:List (Addr×Obj)}{s:Shared}{σ:St}{H:Hp}{x:Str}{u:Value}{pos:Pos}{Q:Value->Shared->Prop}(I:Inv X pins σ H s)(hg:Gl X x)(hm:X.mg x=some u)(h:Q u s)
  (hd:(x==("__debug__":Str))=false:=by decide):wpAny (model X.prog X.w) X.A (eval (.Name x pos) X.env) Q E s:=
 Qm I.ok.kind hg (Calls.loadGlobal_global (by rw [I.ok.glob];exact I.mod.glob.keeps I.bk) hm h) hd
theorem tJ{E:Value->Shared->Prop}{pins:List (Addr×Obj)}{s:Shared}{σ:St}{H:Hp}{x:Str}{u:Value}{pos:Pos}{Q:Value->Shared->Prop}(I:Inv X pins σ H s)(hg:Gl X x)(hm:X.mg x=none)(hv:bootBuiltins x=some u)(h:Q u s)
  (hn:x ≠ "__name__":=by decide)(hd:(x==("__debug__":Str))=false:=by decide):wpAny (model X.prog X.w) X.A (eval (.Name x pos) X.env) Q E s:=by
 obtain ⟨mb,h1,h2⟩:=I.mod.blt
 exact Qm I.ok.kind hg (Calls.loadGlobal_builtin (by rw [I.ok.glob];exact I.mod.glob.keeps I.bk) hm (by rw [I.ok.blt];exact h1.keeps I.bk) ((h2 x hn).trans hv) h) hd
theorem b5H(hg:Gl X x)(hm:X.mg x=some u)(r:RelV v u)(hd:(x==("__debug__":Str))=false:=by decide):PE X (.Name x pos) (tC v):=
 λ_ _ _ H _ I h=>vO I hg hm ⟨v,H,I,r,h⟩ hd
theorem RT{x:Str}{v:V}{u:Value}{pos:Pos}(hg:Gl X x)(hm:X.mg x=none)(hv:bootBuiltins x=some u)(r:RelV v u)(hn:x ≠ "__name__":=by decide)(hd:(x==("__debug__":Str))=false:=by decide):PE X (.Name x pos) (tC v):=
 λ_ _ _ H _ I h=>tJ I hg hm hv ⟨v,H,I,r,h⟩ hn hd
variable {a b:Expr}{ta tb:TE}{pos:Pos}
variable {tA Dz:TT}{rest:List Expr}
def Hc(t u:TT):TT:=λσ H Q=>t σ H λc H1=>if c=true then u σ H1 Q else Q false H1
def VJ(t u:TT):TT:=λσ H Q=>t σ H λc H1=>if c=true then Q true H1 else u σ H1 Q
def G6(t:TT):TT:=λσ H Q=>t σ H λc H1=>Q (!c) H1
theorem b5x(ha:PT X a tA):PW X (.BoolOp .And [a] pos) tA:=by
 intro wh pins s σ H Q I h
 refine isTrue_and (be (ha pins s σ H Q I h) λc s1 e=>?_)
 cases c with
 | true=>exact isTrue_and_nil e
 | false=>exact e
theorem b7Y(ha:PT X a tA):PW X (.BoolOp .Or [a] pos) tA:=by
 intro wh pins s σ H Q I h
 refine isTrue_or (be (ha pins s σ H Q I h) λc s1 e=>?_)
 cases c with
 | false=>exact isTrue_or_nil e
 | true=>exact e
theorem b7Z(ha:PT X a tA)(hb:PW X (.BoolOp .And (b::rest) pos) Dz):PW X (.BoolOp .And (a::b::rest) pos) (Hc tA Dz):=by
 intro wh pins s σ H Q I h
 refine isTrue_and (be (ha pins s σ H _ I h) λc s1 ⟨H1,I1,q1⟩=>?_)
 cases c with
 | true=>exact hb wh pins s1 σ H1 Q I1 q1
 | false=>exact ⟨H1,I1,q1⟩
theorem pw_or(ha:PT X a tA)(hb:PW X (.BoolOp .Or (b::rest) pos) Dz):PW X (.BoolOp .Or (a::b::rest) pos) (VJ tA Dz):=by
 intro wh pins s σ H Q I h
 refine isTrue_or (be (ha pins s σ H _ I h) λc s1 ⟨H1,I1,q1⟩=>?_)
 cases c with
 | true=>exact ⟨H1,I1,q1⟩
 | false=>exact hb wh pins s1 σ H1 Q I1 q1
theorem b70(ha:PT X a tA):PT X (.UnaryOp .Not a pos) (G6 tA):=by
 intro pins s σ H Q I h
 exact isTrue_not (ha pins s σ H (λc H1=>Q (!c) H1) I h)
def yX(ta tb:TE):TE:=λσ H Q=>ta σ H λx H1=>∃c,x=.bl c/\if c=true then tb σ H1 Q else Q (.bl false) H1
def yR(ta:TE):TE:=λσ H Q=>ta σ H λx H1=>∃c,x=.bl c/\Q (.bl (!c)) H1
theorem b78{op}(h:PE X a t):PE X (.BoolOp op [a] pos) t:=λpins s σ H Q I hw=>BoolOp_one (h pins s σ H Q I hw)
theorem b8f(ha:PE X a ta)(hb:PE X (.BoolOp .And (b::rest) pos) tb):PE X (.BoolOp .And (a::b::rest) pos) (yX ta tb):=by
 intro pins s σ H Q I h
 refine BoolOp_and (be (ha pins s σ H _ I h) λv s1 ⟨x,H1,I1,r1,q1⟩=>?_)
 obtain ⟨c,rfl,q1⟩:=q1
 cases r1
 refine xo ?_
 cases c with
 | true=>exact hb pins s1 σ H1 Q I1 q1
 | false=>exact ⟨.bl false,H1,I1,rfl,q1⟩
theorem b79(ha:PE X a ta):PE X (.UnaryOp .Not a pos) (yR ta):=by
 intro pins s σ H Q I h
 refine UnaryOp_ (be (ha pins s σ H _ I h) λv s1 ⟨x,H1,I1,r1,q1⟩=>?_)
 obtain ⟨c,rfl,q1⟩:=q1
 cases r1
 exact not_of (xo ⟨.bl (!c),H1,I1,rfl,q1⟩)
def VL(t:TT)(ta tb:TE):TE:=λσ H Q=>t σ H λc H1=>if c=true then ta σ H1 Q else tb σ H1 Q
theorem b27(hc:PT X c tA)(ha:PE X a ta)(hb:PE X b tb):PE X (.IfExp c a b pos) (VL tA ta tb):=by
 intro pins s σ H Q I h
 refine wpAny_IfExp (be (hc pins s σ H _ I h) λd s1 ⟨H1,I1,q1⟩=>?_)
 cases d with
 | true=>exact ha pins s1 σ H1 Q I1 q1
 | false=>exact hb pins s1 σ H1 Q I1 q1
end
end L2
namespace L2
open PySem PySem.Spec PyProof.Rows
def dR(K:aC)(H:Hp)(a:Addr)(xs:List V):Prop:=
 Rd H a (.lst xs) \/
  ∃(o:Obj) (av:Array Value) (n:Nat),K.lookup a=some o/\o.cls=.type "list" /\ o.dict=none/\o.data=.seq av n/\av.size<=sizeLine/\au xs av.toList
def fj(K:aC)(H:Hp)(a:Addr)(xs:List V):Prop:=
 Rd H a (.tup xs) \/
  ∃(o:Obj) (av:Array Value) (n:Nat),K.lookup a=some o/\o.cls=.type "tuple" /\ o.data=.seq av n/\av.size<=sizeLine/\au xs av.toList
def LM:Value->Option V
 | .none=>some .aG
 | .bool b=>some (.bl b)
 | .int i _=>some (.int i)
 | .str x _=>some (.str x)
 | .bytes b _=>some (.nG b)
 | .float b _=>some (.Bo b)
 | .ref a=>some (.ref a)
 | .type n=>some (.ty n)
 | _=>none
theorem RelV.abs(r:RelV x u):LM u=some x:=by
 cases x with
 | aG=>cases r;rfl
 | bl _=>cases r;rfl
 | int _=>obtain ⟨t,rfl⟩:=r;rfl
 | str _=>obtain ⟨t,rfl⟩:=r;rfl
 | nG _=>obtain ⟨t,rfl⟩:=r;rfl
 | Bo _=>obtain ⟨t,rfl⟩:=r;rfl
 | ref _=>cases r;rfl
 | ty _=>cases r;rfl
theorem RelV.inj(r:RelV x u)(q:RelV y u):x=y:=dk (r.abs.symm.trans q.abs)
theorem au.inj:∀{xs ys:List V} {us:List Value},au xs us->au ys us->xs=ys
 | _,_,_,.nil,.nil=>rfl
 | _,_,_,.cons r t,.cons r' t'=>by rw [r.inj r',au.inj t t']
section
variable {X:Cx}{pins:List (Addr×Obj)}{σ:St}{H:Hp}{s:Shared}{a:Addr}{xs ys:List V}
theorem dR.of{K:aC}(h:H a=some (.lst xs)):dR K H a xs:=.inl (.inl h)
theorem fj.of{K:aC}(h:H a=some (.tup xs)):fj K H a xs:=.inl (.inl h)
theorem Inv.list(I:Inv X pins σ H s)(h:dR X.K H a xs):∃av:List Value,au xs av/\PlainL s.heap a av.toArray/\xs.length<=sizeLine:=by
 rcases h with h | ⟨o,av,n,hk,hc,hd,hs,hz,r⟩
 .obtain ⟨z,av,n,r,e⟩:=h.ok I.aT
  exact ⟨av,r,⟨_,n,e,rfl,rfl,rfl⟩,z⟩
 .refine ⟨av.toList,r,⟨o,n,I.mF a o hk,hc,hd,by simpa using hs⟩,?_⟩
  have e:=r.length
  simp only [gE] at e
  ext hz e
theorem Inv.tuple(I:Inv X pins σ H s)(h:fj X.K H a xs):∃av:List Value,au xs av/\IsTup s.heap a av.toArray/\xs.length<=sizeLine:=by
 rcases h with h | ⟨o,av,n,hk,hc,hs,hz,r⟩
 .obtain ⟨z,av,r,p⟩:=h.ok I.aT
  exact ⟨av,r,p,z⟩
 .refine ⟨av.toList,r,⟨o,I.mF a o hk,hc,n,by simpa using hs⟩,?_⟩
  have e:=r.length
  simp only [gE] at e
  ext hz e
theorem Inv.kj(I:Inv X pins σ H s)(h:dR X.K H a xs)(h':dR X.K H a ys):xs=ys:=by
 obtain ⟨av,r,⟨o,n,e,_,_,d⟩,_⟩:=I.list h
 obtain ⟨its',r',⟨o',n',e',_,_,d'⟩,_⟩:=I.list h'
 rw [e] at e';cases e'
 rw [d] at d'
 injection d' with d1 _
 have:av=its':=by simpa using congrArg Array.toList d1
 subst this
 exact r.inj r'
theorem Inv.jd(I:Inv X pins σ H s)(h:fj X.K H a xs)(h':fj X.K H a ys):xs=ys:=by
 obtain ⟨av,r,⟨o,e,_,n,d⟩,_⟩:=I.tuple h
 obtain ⟨its',r',⟨o',e',_,n',d'⟩,_⟩:=I.tuple h'
 rw [e] at e';cases e'
 rw [d] at d'
 injection d' with d1 _
 have:av=its':=by simpa using congrArg Array.toList d1
 subst this
 exact r.inj r'
end
abbrev Cx.eZ(X:Cx)(E:Value->Shared->Prop):Cx:={ X with xe:=E }
abbrev Cx.cP(X:Cx):Cx:=X.eZ λ_ _=>False
theorem Cx.Ok.eZ{X:Cx}(ok:X.Ok)(E:Value->Shared->Prop):(X.eZ E).Ok:=
 ⟨ok.mod,ok.kind,ok.glob,ok.blt,ok.above,ok.inj,ok.has,ok.vd,ok.hd,ok.frames,ok.wq,ok.D6,ok.bs,ok.me,ok.lT,ok.nr,ok.dX,ok.n8⟩
theorem Cx.Ok.bY{X:Cx}(ok:(X.eZ E).Ok):X.Ok:=
 ⟨ok.mod,ok.kind,ok.glob,ok.blt,ok.above,ok.inj,ok.has,ok.vd,ok.hd,ok.frames,ok.wq,ok.D6,ok.bs,ok.me,ok.lT,ok.nr,ok.dX,ok.n8⟩
section
variable {X:Cx}{pins:List (Addr×Obj)}{σ:St}{H:Hp}{s:Shared}{E:Value->Shared->Prop}
theorem Inv.eZ(I:Inv X pins σ H s)(E:Value->Shared->Prop):Inv (X.eZ E) pins σ H s:=⟨I.ok.eZ E,I.os,I.bare,I.base,I.loc,I.cell,I.free,I.bN,I.pin,I.aT,I.len⟩
theorem Inv.bY(I:Inv (X.eZ E) pins σ H s):Inv X pins σ H s:=⟨I.ok.bY,I.os,I.bare,I.base,I.loc,I.cell,I.free,I.bN,I.pin,I.aT,I.len⟩
theorem SP.bY(h:SP (X.eZ E) pins D f s'):SP X pins D f s':=by
 cases f with
 | next=>obtain ⟨az,H',I,q⟩:=h;exact ⟨az,H',I.bY,q⟩
 | brk=>obtain ⟨az,H',I,q⟩:=h;exact ⟨az,H',I.bY,q⟩
 | cont=>obtain ⟨az,H',I,q⟩:=h;exact ⟨az,H',I.bY,q⟩
 | ret u=>obtain ⟨v,az,H',I,r,q⟩:=h;exact ⟨v,az,H',I.bY,r,q⟩
theorem PE.cP(h:PE X.cP e t):PE X e t:=λpins s σ H Q I hw =>
 gk (h pins s σ H Q (I.eZ _) hw) (λ_ _ ⟨v,H',I',r,q⟩=>⟨v,H',I'.bY,r,q⟩) λ_ _ z=>cV z
theorem PT.cP(h:PT X.cP e t):PT X e t:=λpins s σ H Q I hw =>
 gk (h pins s σ H Q (I.eZ _) hw) (λ_ _ ⟨H',I',q⟩=>⟨H',I'.bY,q⟩) λ_ _ z=>cV z
theorem mq.cP{st:List Stmt}{t:TS}(h:mq X.cP st t):mq X st t:=λpins s σ H D I hw =>
 gk (h pins s σ H D (I.eZ _) hw) (λ_ _ q=>q.bY) λ_ _ z=>cV z
end
section
variable {X:Cx}{st:Stmt}{rest:List Stmt}{t u:TS}{e:Expr}{te:TE}{pos:Pos}
def yS:TS:=λD σ H=>D.nx σ H
def G4(t u:TS):TS:=λD σ H=>t { D with nx:=u D } σ H
theorem b5A:mq X [] yS:=λ_ _ σ H _ I h=>BN ⟨σ,H,I,h⟩
theorem Mn(h1:PS X st t)(h2:mq X rest u):mq X (st::rest) (G4 t u):=by
 intro pins s σ H D I h
 refine wpAny_execs_cons (be (h1 pins s σ H { D with nx:=u D } I h) λf s1 q=>?_)
 cases f with
 | next =>
  obtain ⟨az,H',I',q⟩:=q
  exact h2 pins s1 az H' D I' q
 | ret v=>exact q
 | brk=>exact q
 | cont=>exact q
theorem RV(h1:PS X st t):mq X [st] t:=by
 intro pins s σ H D I h
 refine wpAny_execs_cons (be (h1 pins s σ H D I h) λf s1 q=>?_)
 cases f with
 | next=>exact BN q
 | ret v=>exact q
 | brk=>exact q
 | cont=>exact q
def b7N:TS:=λD σ H=>D.bk σ H
theorem b2Z:PS X (.Break pos) b7N:=λ_ _ σ H _ I h=>wpAny_Break ⟨σ,H,I,h⟩
theorem Inv.quiet{pins:List (Addr×Obj)}{σ:St}{H:Hp}{s:Shared}(I:Inv X pins σ H s):interactive X.env=false:=by simp [interactive,I.ok.kind]
def yT(te:TE):TS:=λD σ H=>te σ H λ_ H1=>D.nx σ H1
theorem RU(he:PE X e te)(hs:swapsWith e none pos.line X.env=pure false:=by rfl):PS X (.Expr e pos) (yT te):=by
 intro pins s σ H D I h
 exact wpAny_Expr_any (be (he pins s σ H _ I h) λv s1 ⟨x,H1,I1,r1,q1⟩=>⟨σ,H1,I1,q1⟩) I.quiet hs
def G5(te:TE):TS:=λD σ H=>te σ H D.rt
theorem Ro(he:PE X e te):PS X (.Return (some e) pos) (G5 te):=by
 intro pins s σ H D I h
 exact wpAny_Return_some (be (he pins s σ H _ I h) λv s1 ⟨x,H1,I1,r1,q1⟩=>⟨x,σ,H1,I1,r1,q1⟩)
def G9(c:TT)(t u:TS):TS:=λD σ H=>c σ H λb H1=>if b=true then t D σ H1 else u D σ H1
theorem Q0(hc:PT X c tc)(ha:mq X a t)(hb:mq X b u):PS X (.If c a b pos) (G9 tc t u):=by
 intro pins s σ H D I h
 refine wpAny_If (be (hc pins s σ H _ I h) λd s1 ⟨H1,I1,q1⟩=>?_)
 cases d with
 | true=>exact ha pins s1 σ H1 D I1 q1
 | false=>exact hb pins s1 σ H1 D I1 q1
end
abbrev TG:=V->St->Hp->(St->Hp->Prop)->Prop
abbrev t6:=List V->St->Hp->(St->Hp->Prop)->Prop
def PG(X:Cx)(target:Expr)(t:TG):Prop:=
 ∀(pins:List (Addr×Obj)) (s:Shared) (σ:St) (H:Hp) (v:V) (u:Value) (Q:St->Hp->Prop),Inv X pins σ H s->RelV v u->t v σ H Q ->
  wpAny (model X.prog X.w) X.A (assign target X.env u) (λ_ s'=>∃az H',Inv X pins az H' s'/\Q az H') X.xe s
def Df(X:Cx)(ts:List Expr)(t:t6):Prop:=
 ∀(pins:List (Addr×Obj)) (s:Shared) (σ:St) (H:Hp) (vs:List V) (us:List Value) (Q:St->Hp->Prop),Inv X pins σ H s->au vs us->t vs σ H Q ->
  wpAny (model X.prog X.w) X.A (assignInOrder ((assignEach ts X.env).map (·.2)) us) (λ_ s'=>∃az H',Inv X pins az H' s'/\Q az H') X.xe s
abbrev pN:=V->V->V->Hp->(Hp->Prop)->Prop
def wb(X:Cx)(t:pN):Prop:=
 ∀(pins:List (Addr×Obj)) (s:Shared) (σ:St) (H:Hp) (o i v:V) (ov iv u:Value) (Q:Hp->Prop),Inv X pins σ H s->RelV o ov->RelV i iv->RelV v u->t o i v H Q ->
  wpAny (model X.prog X.w) X.A (setItem ov iv u) (λ_ s'=>∃H',Inv X pins σ H' s'/\Q H') X.xe s
abbrev Dc:=V->V->Hp->VK->Prop
def De(X:Cx)(op:Operator)(t:Dc):Prop:=
 ∀(pins:List (Addr×Obj)) (s:Shared) (σ:St) (H:Hp) (x y:V) (v u:Value) (Q:VK),Inv X pins σ H s->RelV x v->RelV y u->t x y H Q ->
  wpAny (model X.prog X.w) X.A (inplaceOp op v u) (EP X pins σ Q) X.xe s
section
variable {X:Cx}{pos:Pos}
def QR(i:Nat):TG:=λv σ H Q=>Q (σ.set i (some v)) H
theorem b5G(hN:X.N.Nodup)(hi:X.N[i]?=some x)(hx:Loc X.env.scope x)(hf:X.fn x=true\/X.env.scope.names.lookup x=some .local:=by first | exact .inl rfl | exact .inr rfl | assumption):PG X (.Name x pos) (QR i):=by
 intro pins s σ H v u Q I r h
 exact wpAny_assign_Name (F8 I hN hi hx r (λs' I'=>⟨_,H,I',h⟩) hf)
def Jm:t6:=λvs σ H Q=>vs=[]/\Q σ H
def Bf(t:TG)(u:t6):t6:=λvs σ H Q=>∃v r,vs=v::r/\t v σ H λaz H'=>u r az H' Q
theorem b5F:Df X [] Jm:=by
 intro pins s σ H vs us Q I r h
 obtain ⟨e,h⟩:=h
 subst e
 cases r
 exact assignInOrder_nil ⟨σ,H,I,h⟩
theorem b23{e:Expr}{es:List Expr}{t:TG}{u:t6}(h1:PG X e t)(h2:Df X es u)
  (hs:(assignEach (e::es) X.env).map (·.2)=assign e X.env::(assignEach es X.env).map (·.2):=by rfl):Df X (e::es) (Bf t u):=by
 intro pins s σ H vs us Q I r h
 obtain ⟨v,vr,e1,h⟩:=h
 subst e1
 cases r with
 | cons r rr =>
  rw [hs]
  refine assignInOrder_cons (be (h1 pins s σ H _ _ _ I r h) λ_ s1 ⟨gj,H1,I1,q1⟩=>?_)
  exact h2 pins s1 gj H1 _ _ Q I1 rr q1
def Jl(K:aC)(n:Nat)(t:t6):TG:=λv σ H Q=>∃a xs,v=.ref a/\fj K H a xs/\xs.length=n/\t xs σ H Q
theorem b74{es:List Expr}{k:Nat}{t:t6}{n:Nat}(hc:X.calm=true)(h:Df X es t)
  (hn:(assignEach es X.env).length=n:=by rfl)(q8:(assignEach es X.env).findIdx? (·.1)=none:=by rfl):PG X (.Tuple es k pos) (Jl X.K n t):=by
 intro pins s σ H v u Q I r hw
 obtain ⟨a,xs,e1,hq,hl,hw⟩:=hw
 subst e1
 cases r
 obtain ⟨av,rv,ht,hz⟩:=I.tuple hq
 refine assign_Tuple_tuple (I.ok.hd hc) ht (by simp [hn,<-hl,rv.length]) q8 λh' hx=>?_
 have I1:Inv X pins σ H { s with heap:=h' }:=I.kept (t':=s.toks) λb o e=>hx b o (dF (bO e)) e
 exact h pins _ σ H xs _ Q I1 (by simpa using rv) hw
def bS(to ti:TE)(t:pN):TG:=λv σ H Q=>to σ H λo H1=>ti σ H1 λi H2=>t o i v H2 λH3=>Q σ H3
theorem b75{o i:Expr}{to ti:TE}{t:pN}(ho:PE X o to)(hi:PE X i ti)(hs:wb X t)
  (ha:∀v,assign (.Subscript o i pos) X.env v=(do
   let ov <-holding [v] (eval o X.env)
   let iv <-holding [v,ov] (eval i X.env)
   standAt pos
   holding [v,ov,iv] (setItem ov iv v)
   release [v,ov,iv] []):=by intro _;rfl):PG X (.Subscript o i pos) (bS to ti t):=by
 intro pins s σ H v u Q I r h
 rw [ha]
 refine aq (nD (be (ho pins s σ H _ I h) λov s1 ⟨x,H1,I1,r1,q1⟩=>?_))
 refine aq (nD (be (hi pins s1 σ H1 _ I1 q1) λiv s2 ⟨y,H2,I2,r2,q2⟩=>?_))
 refine aq (Ey (aq (nD (be (hs pins s2 σ H2 x y v ov iv u _ I2 r1 r2 r q2) λ_ s3 ⟨H3,I3,q3⟩=>?_))))
 exact wpAny_release ⟨σ,H3,I3,q3⟩
def yW(te:TE)(g:TG):TS:=λD σ H=>te σ H λx H1=>g x σ H1 D.nx
theorem b72{tg e:Expr}{te:TE}{g:TG}(he:PE X e te)(hg:PG X tg g)(hs:swapsWithSole [tg] e pos.line X.env=pure false:=by rfl)(hw:swappedStores [tg] e X.env=pure none:=by rfl)
  (h1:(assignEach [tg] X.env).map (·.2)=[assign tg X.env]:=by rfl):PS X (.Assign [tg] e pos) (yW te g):=by
 intro pins s σ H D I h
 refine wpAny_Assign_stores (be (he pins s σ H _ I h) λv s1 ⟨x,H1,I1,r1,q1⟩=>?_) hs hw
 rw [h1]
 exact be (hg pins s1 σ H1 x v _ I1 r1 q1) λ_ s2 q=>q
theorem Fv(hN:X.N.Nodup)(hi:X.N[i]?=some x)(hx:Loc X.env.scope x)(he:PE X e te)(hs:swapsWith e (some (.Name x pos')) pos.line X.env=pure false:=by rfl)(hf:X.fn x=true\/X.env.scope.names.lookup x=some .local:=by first | exact .inl rfl | exact .inr rfl | assumption):
  PS X (.Assign [.Name x pos'] e pos) (yW te (QR i)):=by
 intro pins s σ H D I h
 refine wpAny_Assign_Name (be (he pins s σ H _ I h) λv s1 ⟨y,H1,I1,r1,q1⟩=>?_) hs
 exact F8 I1 hN hi hx r1 (λs2 I2=>⟨_,H1,I2,q1⟩) hf
def Hb(i:Nat)(te:TE)(ti:Dc):TS:=λD σ H=>∃x,σ[i]?=some (some x)/\te σ H λy H1=>ti x y H1 λz H2=>D.nx (σ.set i (some z)) H2
theorem Lq(hN:X.N.Nodup)(hi:X.N[i]?=some x)(hx:Loc X.env.scope x)(he:PE X e te)(ho:De X op ti)(hf:X.fn x=true\/X.env.scope.names.lookup x=some .local:=by first | exact .inl rfl | exact .inr rfl | assumption):
  PS X (.AugAssign (.Name x pos') op e pos) (Hb i te ti):=by
 intro pins s σ H D I h
 obtain ⟨v,e1,h⟩:=h
 obtain ⟨m,hn,hl⟩:=I.loc
 have pR:gH X.env.scope x:=by rcases hx with k | k;exact .inl k;exact .inr (.inl k)
 obtain ⟨u,r,l⟩:=hl i x v hi e1 pR
 refine wpAny_AugAssign_Name ?_
 have go:wpAny (model X.prog X.w) X.A (eval e X.env) (λw iI=>wpAny (model X.prog X.w) X.A (inplaceOp op u w) (λr lL=>wpAny (model X.prog X.w) X.A (storeName X.env x r) (λ_=>SP X pins D .next) X.xe lL) X.xe iI) X.xe s:=by
  refine be (he pins s σ H _ I h) λw s1 ⟨y,H1,I1,r1,q1⟩=>?_
  refine be (ho pins s1 σ H1 v y u w _ I1 r r1 q1) λz s2 ⟨zv,H2,I2,r2,q2⟩=>?_
  exact F8 I2 hN hi hx r2 (λs3 I3=>⟨_,H2,I3,q2⟩) hf
 rcases l with ⟨hk,hm⟩ | ⟨hk,c,hc,dI⟩
 .exact wpAny_loadName_local I.ok.kind hk hn hm go
 .rcases hk with hk | hk
  .exact wpAny_loadName_cell I.ok.kind hk hc dI go
  .rcases hx with k | k
   .have:X.env.scope.names.lookup x=some .free:=hk
    rw [k] at this;cases this
   .have:X.env.scope.names.lookup x=some .free:=hk
    rw [k] at this;cases this
def yV(to ti te:TE)(qN:V->V->Hp->VK->Prop)(Dy:Dc)(qM:pN):TS:=λD σ H=>to σ H λo H1=>ti σ H1 λi H2=>qN o i H2 λx H3=>te σ H3 λy H4=>Dy x y H4 λz H5=>qM o i z H5 λH6=>D.nx σ H6
def Dg(X:Cx)(t:V->V->Hp->VK->Prop):Prop:=
 ∀(pins:List (Addr×Obj)) (s:Shared) (σ:St) (H:Hp) (o i:V) (ov iv:Value) (Q:VK),Inv X pins σ H s->RelV o ov->RelV i iv->t o i H Q ->
  wpAny (model X.prog X.w) X.A (getItem ov iv) (EP X pins σ Q) X.xe s
theorem b5B{o i e:Expr}{to ti te:TE}{qN:V->V->Hp->VK->Prop}{Dy:Dc}{qM:pN}{op:Operator}{yH:Pos}(ho:PE X o to)(hi:PE X i ti)(hg:Dg X qN)(he:PE X e te)(hp:De X op Dy)(hs:wb X qM)
  (ha:∀ov iv new,augStore i ov iv new=(do holding [new,ov,iv] (setItem ov iv new);release [new,ov,iv] [];pure .next):=by intros;rfl):PS X (.AugAssign (.Subscript o i yH) op e pos) (yV to ti te qN Dy qM):=by
 intro pins s σ H D I h
 refine wpAny_AugAssign_SubscriptAny (be (ho pins s σ H _ I h) λov s1 ⟨x1,H1,I1,r1,q1⟩=>?_) ha
 refine be (hi pins s1 σ H1 _ I1 q1) λiv s2 ⟨x2,H2,I2,r2,q2⟩=>?_
 refine be (hg pins s2 σ H2 x1 x2 ov iv _ I2 r1 r2 q2) λold s3 ⟨x3,H3,I3,r3,q3⟩=>?_
 refine be (he pins s3 σ H3 _ I3 q3) λv s4 ⟨x4,H4,I4,r4,q4⟩=>?_
 refine be (hp pins s4 σ H4 x3 x4 old v _ I4 r3 r4 q4) λnew s5 ⟨x5,H5,I5,r5,q5⟩=>?_
 exact be (hs pins s5 σ H5 x1 x2 x5 ov iv new _ I5 r1 r2 r5 q5) λ_ s6 ⟨H6,I6,q6⟩=>⟨σ,H6,I6,q6⟩
def O6(f:Int->Int->Int):Dc:=λx y H Q=>∃i j,x=.int i/\y=.int j/\Q (.int (f i j)) H
theorem Q8:De X .Add (O6 λi j=>i+j):=by
 intro pins s σ H x y v u Q I r1 r2 h
 obtain ⟨i,j,e1,e2,q⟩:=h
 subst e1;subst e2
 obtain ⟨t,rfl⟩:=r1
 obtain ⟨t',rfl⟩:=r2
 exact iadd_int ⟨.int _,H,I.tok _,⟨_,rfl⟩,q⟩
theorem b8E:De X .Sub (O6 λi j=>i-j):=by
 intro pins s σ H x y v u Q I r1 r2 h
 obtain ⟨i,j,e1,e2,q⟩:=h
 subst e1;subst e2
 obtain ⟨t,rfl⟩:=r1
 obtain ⟨t',rfl⟩:=r2
 exact isub_int ⟨.int _,H,I.tok _,⟨_,rfl⟩,q⟩
end
section
variable {X:Cx}{pos:Pos}
def b7I(c:TT)(tb:TS):TS:=λD σ H=>∃W:Nat->St->Hp->Prop,(∃m,W m σ H)/\∀m σ H,W m σ H ->
 c σ H λb H1=>if b=true then ∃N:St->Hp->Prop,(∀az H',N az H'->∃m',m'<m/\W m' az H')/\tb { D with nx:=N,ct:=N,bk:=D.nx } σ H1 else D.nx σ H1
theorem b2Y(hp:PassesOwn (model X.prog X.w) X.A X.env X.xe)(hc:PT X c tc)(hb:mq X body tb):PS X (.While c body [] pos) (b7I tc tb):=by
 intro pins s σ H D I h
 obtain ⟨W,⟨m0,w0⟩,turn⟩:=h
 refine wpAny_While (codeAny_whileLoop (λn s'=>∃az H',Inv X pins az H' s'/\W n az H') ?_ m0 ⟨σ,H,I,w0⟩)
 rintro n s1 ⟨gj,H1,I1,w1⟩
 refine vw hp (be (hc pins s1 gj H1 _ I1 (turn n gj H1 w1)) λb s2 ⟨H2,I2,q2⟩=>?_)
 cases b with
 | true =>
  obtain ⟨N,hN,q2⟩:=q2
  rw [if_pos rfl]
  refine vw hp (be (hb pins s2 gj H2 _ I2 q2) λf s3 q3=>?_)
  cases f with
  | next =>
   obtain ⟨jr,H3,I3,n3⟩:=q3
   obtain ⟨m',hm,w3⟩:=hN jr H3 n3
   exact ⟨m',hm,jr,H3,I3,w3⟩
  | cont =>
   obtain ⟨jr,H3,I3,n3⟩:=q3
   obtain ⟨m',hm,w3⟩:=hN jr H3 n3
   exact ⟨m',hm,jr,H3,I3,w3⟩
  | brk=>exact q3
  | ret v=>exact q3
 | false =>
  rw [if_neg fY]
  exact BN ⟨gj,H2,I2,q2⟩
end
structure It where
 go:Nat->Hp->Prop
 yD:Nat->Hp->V->Hp->Prop
 stop:Nat->Hp->Prop
def cK(X:Cx)(pins:List (Addr×Obj))(H:Hp)(b:Addr):Prop:=
 H b=none/\b≠X.env.locals/\b∉X.fs/\(b∈X.ex\/X.bF.heap.objs.size<=b)/\(∀x c,X.env.cells.lookup x=some c->c≠b)/\∀p∈X.pn++pins,p.1≠b
theorem Inv.kq{X:Cx}{pins:List (Addr×Obj)}{σ:St}{H H':Hp}{s:Shared}{b:Addr}(I:Inv X pins σ H s)(hb:s.heap.objs.size<=b)(hn:H' b=none):cK X pins H' b:=by
 refine ⟨hn,w8 (iQ I.lt hb),I.HJ hb,.inr (dY I.sz hb),λx c e z=>?_,λp hp z=>?_⟩
 .obtain ⟨v,q⟩:=I.cell x c e
  exact absurd (iQ q.lt (by rw [z];exact hb)) (oz _)
 .exact absurd (iQ (bO (I.pin p hp).1) (by rw [z];exact hb)) (oz _)
structure Turn(P:Program)(w:World)(K:aC)(tg:Expr)(J:It)(fp:List Addr)(it:Addr)(tn:Nat->Heap->Prop):Prop where
 mem:it∈fp
 obj:∀i h,tn i h->∀b∈fp,∃o,h.get? b=some o/\∀v,o.data≠.cell v
 keep:∀i h h',tn i h->(∀b∈fp,∀o,h.get? b=some o->h'.get? b=some o)->tn i h'
 item:∀(X:Cx),X.prog=P->X.w=w->X.K=K->X.calm=true->∀(i:Nat) (pins:List (Addr×Obj)) (s:Shared) (σ:St) (H:Hp) (E:Value->Shared->Prop),Inv X pins σ H s->(∀b∈fp,cK X pins H b)->tn i s.heap->J.go i H ->
  wpAny (model P w) X.A (pyNext (.ref it)) (λr s1=>∃u,r=some u /\
   wpAny (model P w) X.A (letOwnedTupleGo tg (.ref it) u) (λ_ s2=>∃x H',Inv X pins σ H' s2/\RelV x u/\J.yD i H x H'/\tn (i+1) s2.heap/\∀b∈fp,H' b=none) E s1) E s
 done:∀(X:Cx),X.prog=P->X.w=w->X.K=K->X.calm=true->∀(i:Nat) (pins:List (Addr×Obj)) (s:Shared) (σ:St) (H:Hp) (E:Value->Shared->Prop),Inv X pins σ H s->(∀b∈fp,cK X pins H b)->tn i s.heap->J.stop i H ->
  wpAny (model P w) X.A (pyNext (.ref it)) (λr s1=>r=none/\Inv X pins σ H s1) E s
 self:∀(A:Around) (i:Nat) (s:Shared) (Q:Value->Shared->Prop) (E:Value->Shared->Prop),tn i s.heap->Q (.ref it) s->wpAny (model P w) A (pyIter (.ref it)) Q E s
abbrev TI:=St->Hp->(It->Hp->Prop)->Prop
def NW(X:Cx)(pins:List (Addr×Obj))(σ:St)(tg:Expr)(R:It->Hp->Prop)(HV:Value)(s2:Shared):Prop:=
 ∃(it:Addr) (fp:List Addr) (tn:Nat->Heap->Prop) (J:It) (H':Hp),HV=.ref it/\Inv X pins σ H' s2/\Turn X.prog X.w X.K tg J fp it tn/\tn 0 s2.heap/\(∀b∈fp,cK X pins H' b)/\R J H'
def PI(X:Cx)(tg iter:Expr)(wi:TI):Prop:=
 ∀(pins:List (Addr×Obj)) (s:Shared) (σ:St) (H:Hp) (R:It->Hp->Prop),Inv X pins σ H s->wi σ H R ->
  wpAny (model X.prog X.w) X.A (eval iter X.env) (λv s1=>wpAny (model X.prog X.w) X.A (pyIter v) (NW X pins σ tg R) X.xe s1) X.xe s
theorem Cb(ho:s.heap.get? it=some o)(hc:o.cls=.type n)(hd:o.data=.fields vs)
  (hn:["enumerate","zip","dict_itemiterator","dict_reverseitemiterator","odict_iterator","itertools.zip_longest","itertools.pairwise"].contains n=false)(hQ:Q () s):wpAny M A (letOwnedTupleGo tg (.ref it) u) Q E s:=by
 unfold letOwnedTupleGo
 cases tg<;>first
  | exact bp hQ
  | (cases u<;>first
    | exact bp hQ
    | (refine aq (wpAny_load ho ?_)
       rw [hc,hd]
       show wpAny M A (if (["enumerate","zip","dict_itemiterator","dict_reverseitemiterator","odict_iterator","itertools.zip_longest","itertools.pairwise"].contains n&&vs[0]?==some (rawInt _))=true then _ else _) Q E s
       rw [if_neg (by intro h;rw [hn,Bool.false_and] at h;cases h)]
       exact bp hQ))
def yB(K:aC)(a:Addr):It:=
 ⟨λi H=>∃xs x,dR K H a xs/\xs[i]?=some x,λi H x H'=>H'=H/\∀xs,dR K H a xs->xs[i]?=some x,λi H=>∃xs,dR K H a xs/\xs.length<=i⟩
def Dj(K:aC)(a:Addr):It:=
 ⟨λi H=>∃xs x,fj K H a xs/\xs[i]?=some x,λi H x H'=>H'=H/\∀xs,fj K H a xs->xs[i]?=some x,λi H=>∃xs,fj K H a xs/\xs.length<=i⟩
def Dk(lo:Int)(n:Nat):It:=⟨λi _=>i<n,λi H x H'=>H'=H/\x=.int (lo+i),λi _=>n<=i⟩
theorem b0K{P:Program}{w:World}{K:aC}{tg:Expr}(a it:Addr):Turn P w K tg (yB K a) [it] it (λi h=>h.IsListIter it a i) where
 mem:=by simp
 obj:=λi h st b hb=>by
  have e:b=it:=by simpa using hb
  subst e
  obtain ⟨o,e,c,d⟩:=st
  exact ⟨o,e,λv z=>by rw [d] at z;cases z⟩
 keep:=λi h h' st k=>st.at λo e=>k it (by simp) o e
 item:=by
  intro X hP hw hK hc i pins s σ H E I hf st hg
  subst hP hw hK
  obtain ⟨xs,x,hq,hx⟩:=hg
  obtain ⟨av,rv,p,hz⟩:=I.list hq
  obtain ⟨u,hu,ru⟩:=rv.get hx
  obtain ⟨f0,f1,f2,f3,f4,f5⟩:=hf it (by simp)
  refine wpAny_pyNext_list_item st p.isList (x:=u) (by simpa using hu) λh' ak sb=>?_
  have I1:Inv X pins σ H { s with heap:=h' }:=I.turned (t':=s.toks) (λb o hb e=>(sb.2 b hb).trans e) f0 f1 f3 f4 f5
  obtain ⟨o,e,c,d⟩:=id ak
  exact ⟨u,rfl,Cb (s:={ s with heap:=h' }) e c d (by decide) ⟨x,H,I1,ru,⟨rfl,λys hy=>by rw [I.kj hy hq];exact hx⟩,ak,λb hb=>(hf b hb).1⟩⟩
 done:=by
  intro X hP hw hK hc i pins s σ H E I hf st hg
  subst hP hw hK
  obtain ⟨xs,hq,hx⟩:=hg
  obtain ⟨av,rv,p,hz⟩:=I.list hq
  obtain ⟨f0,f1,f2,f3,f4,f5⟩:=hf it (by simp)
  have hl:=rv.length
  exact wpAny_pyNext_list_end (I.ok.hd hc) st p.isList (by simp;ext hx hl) λh' eb=>⟨rfl,I.turned (t':=s.toks) (λb o hb e=>eb b o hb e) f0 f1 f3 f4 f5⟩
 self:=λ_ _ _ _ _ st h=>wpAny_pyIter_listiter st h
theorem a93{P:Program}{w:World}{K:aC}{tg:Expr}(a it:Addr):Turn P w K tg (Dj K a) [it] it (λi h=>h.IsTupleIter it a i) where
 mem:=by simp
 obj:=λi h st b hb=>by
  have e:b=it:=by simpa using hb
  subst e
  obtain ⟨o,e,c,d⟩:=st
  exact ⟨o,e,λv z=>by rw [d] at z;cases z⟩
 keep:=λi h h' st k=>st.at λo e=>k it (by simp) o e
 item:=by
  intro X hP hw hK hc i pins s σ H E I hf st hg
  subst hP hw hK
  obtain ⟨xs,x,hq,hx⟩:=hg
  obtain ⟨av,rv,p,hz⟩:=I.tuple hq
  obtain ⟨u,hu,ru⟩:=rv.get hx
  obtain ⟨f0,f1,f2,f3,f4,f5⟩:=hf it (by simp)
  refine wpAny_pyNext_tuple_item st (show s.heap.IsTuple a av.toArray from p) (x:=u) (by simpa using hu) λh' ak sb=>?_
  have I1:Inv X pins σ H { s with heap:=h' }:=I.turned (t':=s.toks) (λb o hb e=>(sb.2 b hb).trans e) f0 f1 f3 f4 f5
  obtain ⟨o,e,c,d⟩:=id ak
  exact ⟨u,rfl,Cb (s:={ s with heap:=h' }) e c d (by decide) ⟨x,H,I1,ru,⟨rfl,λys hy=>by rw [I.jd hy hq];exact hx⟩,ak,λb hb=>(hf b hb).1⟩⟩
 done:=by
  intro X hP hw hK hc i pins s σ H E I hf st hg
  subst hP hw hK
  obtain ⟨xs,hq,hx⟩:=hg
  obtain ⟨av,rv,p,hz⟩:=I.tuple hq
  obtain ⟨f0,f1,f2,f3,f4,f5⟩:=hf it (by simp)
  have hl:=rv.length
  exact wpAny_pyNext_tuple_end (I.ok.hd hc) st (show s.heap.IsTuple a av.toArray from p) (by simp;ext hx hl) λh' eb=>⟨rfl,I.turned (t':=s.toks) (λb o hb e=>eb b o hb e) f0 f1 f3 f4 f5⟩
 self:=λ_ _ _ _ _ st h=>wpAny_pyIter_tupleiter st h
theorem a94{P:Program}{w:World}{K:aC}{tg:Expr}(it:Addr)(lo:Int)(n:Nat):Turn P w K tg (Dk lo n) [it] it (λi h=>IsRangeIter h it (lo+(i:Nat)*1) ((n:Int)-(i:Nat)) 1) where
 mem:=by simp
 obj:=λi h st b hb=>by
  have e:b=it:=by simpa using hb
  subst e
  exact ⟨_,st,λv z=>by
   have z':Eg _=wX v:=z
   cases z'⟩
 keep:=λi h h' st k=>k it (by simp) _ st
 item:=by
  intro X hP hw hK hc i pins s σ H E I hf st hg
  subst hP hw hK
  obtain ⟨f0,f1,f2,f3,f4,f5⟩:=hf it (by simp)
  have W:=Walks.range (prog:=X.prog) (w:=X.w) (I.ok.hd hc) it lo 1 n
  refine W.item i s _ _ hg st λv h' tk hv ak kk=>?_
  obtain ⟨t,rfl⟩:=hv
  have I1:Inv X pins σ H { s with heap:=h',toks:=tk }:=I.turned (λb o hb e=>kk b o (by simpa using hb) e) f0 f1 f3 f4 f5
  refine ⟨_,rfl,Cb (s:={ s with heap:=h',toks:=tk }) (n:="range_iterator") ak rfl rfl (by decide) ⟨.int (lo+i),H,I1,⟨t,?_⟩,⟨rfl,rfl⟩,ak,λb hb=>(hf b hb).1⟩⟩
  rw [Ef]
 done:=by
  intro X hP hw hK hc i pins s σ H E I hf st hg
  subst hP hw hK
  obtain ⟨f0,f1,f2,f3,f4,f5⟩:=hf it (by simp)
  exact wpAny_pyNext_range_end (I.ok.hd hc) st (by have:n<=i:=hg;ext this) λh' eb=>⟨rfl,I.turned (t':=s.toks) (λb o hb e=>eb b o hb e) f0 f1 f3 f4 f5⟩
 self:=λ_ _ _ _ _ st h=>wpAny_pyIter_rangeiter st h
end L2
namespace L2
open PySem PySem.Spec PyProof.Rows
section
variable {X:Cx}{tg:Expr}
def G'(wi:TI)(g:TG)(tb:TS):TS:=λD σ H=>wi σ H λJ H1=>∃W:Nat->Nat->St->Hp->Prop,(∃m,W 0 m σ H1)/\∀i m σ H,W i m σ H ->
 (J.stop i H/\D.nx σ H)\/(J.go i H/\∃N:St->Hp->Prop,(∀az H',N az H'->∃m',m'<m/\W (i+1) m' az H')/\∀x H',J.yD i H x H'->g x σ H' λcZ H2=>tb { D with nx:=N,ct:=N,bk:=D.nx } cZ H2)
def rR(fp:List Addr)(h:Heap):List (Addr×Obj):=fp.filterMap λb=>(h.get? b).map λo=>(b,o)
theorem CP(hb:b∈fp)(e:h.get? b=some o):(b,o)∈rR fp h:=Qd.mpr ⟨b,hb,by rw [e];rfl⟩
theorem MN(hp:p∈rR fp h):p.1∈fp/\h.get? p.1=some p.2:=by
 obtain ⟨b,hb,e⟩:=Qd.mp hp
 cases q:h.get? b with
 | none=>rw [q] at e;cases e
 | some o =>
  rw [q] at e
  have e':(b,o)=p:=dk e
  subst e'
  exact ⟨hb,q⟩
theorem Inv.pinned{pins:List (Addr×Obj)}{σ:St}{H:Hp}{s:Shared}{fp:List Addr}(I:Inv X pins σ H s)(hf:∀b∈fp,cK X pins H b)(ho:∀b∈fp,∃o,s.heap.get? b=some o/\∀v,o.data≠.cell v):Inv X (pins++rR fp s.heap) σ H s:=
 I.fA λp hp=>(bX.mp hp).elim (λz=>I.pin p (ie _ z)) λz=>by
  obtain ⟨hb,e⟩:=MN z
  obtain ⟨f0,f1,f2,_⟩:=hf p.1 hb
  obtain ⟨o,e',d⟩:=ho p.1 hb
  rw [e] at e';cases e'
  exact ⟨e,f0,f1,f2,d⟩
theorem Inv.gM{pins pl:List (Addr×Obj)}{σ:St}{H:Hp}{s:Shared}(I:Inv X (pins++pl) σ H s):Inv X pins σ H s:=I.fA λp hp=>I.pin p (ie _ (iR _ hp))
theorem Rn(hp:PassesOwn (model X.prog X.w) X.A X.env X.xe)(hc:X.calm=true)(hi:PI X tg iter wi)(hg:PG X tg g)(hb:mq X body tb)
  (hs:∀x,foldedSetIterable iter X.env x=pure x:=by intro _;rfl):PS X (.For tg iter body [] pos) (G' wi g tb):=by
 intro pins s σ H D I h
 refine wpAny_For (be (hi pins s σ H _ I h) λv s1 h1=>be h1 λHV s2 h2=>?_) hs
 obtain ⟨it,fp,tn,J,H2,e,I2,T,gu,f2,W,⟨m0,w0⟩,turn⟩:=h2
 subst e
 have uc:∀{H':Hp},(∀b∈fp,H' b=none)->∀b∈fp,cK X pins H' b:=λhn b hb=>⟨hn b hb,(f2 b hb).2⟩
 refine codeAny_forLoop_any (λn s'=>∃i az H',Inv X pins az H' s'/\tn i s'.heap/\(∀b∈fp,H' b=none)/\W i n az H') ?_ m0 ⟨0,σ,H2,I2,gu,λb hb=>(f2 b hb).1,w0⟩
 rintro n s3 ⟨i,jr,H3,I3,iJ,Bi,w3⟩
 rcases turn i n jr H3 w3 with ⟨stop,qn⟩ | ⟨go,N,hN,step⟩
 .refine vw hp (be (T.done X rfl rfl rfl hc i pins s3 jr H3 X.xe I3 (uc Bi) iJ stop) λr s4 ⟨hr,I4⟩=>?_)
  subst hr
  exact BN ⟨jr,H3,I4,qn⟩
 .refine vw hp (be (T.item X rfl rfl rfl hc i pins s3 jr H3 X.xe I3 (uc Bi) iJ go) λr s4 ⟨u,hr,h4⟩=>?_)
  subst hr
  refine vw hp (be h4 λ_ s5 ⟨x,H5,I5,r5,y5,ud,Jp⟩=>?_)
  have N0:=I5.pinned (uc Jp) (T.obj _ _ ud)
  refine vw hp (be (hg _ s5 jr H5 x u _ N0 r5 (step x H5 y5)) λ_ s6 ⟨lr,H6,I6,q6⟩=>?_)
  refine vw hp (be (hb _ s6 lr H6 _ I6 q6) λf s7 q7=>?_)
  have again:∀{oF:St} {H7:Hp},Inv X (pins++rR fp s5.heap) oF H7 s7->N oF H7->∃m,m<n/\∃i az H',Inv X pins az H' s7/\tn i s7.heap/\(∀b∈fp,H' b=none)/\W i m az H':=λ{oF H7} I7 n7=>by
   obtain ⟨m',hm,w7⟩:=hN oF H7 n7
   refine ⟨m',hm,i+1,oF,H7,I7.gM,T.keep _ _ _ ud λb hb o e=>(I7.pin (b,o) (ie _ (ie _ (CP hb e)))).1,λb hb=>?_,w7⟩
   obtain ⟨o,e,d⟩:=T.obj _ _ ud b hb
   exact (I7.pin (b,o) (ie _ (ie _ (CP hb e)))).2.1
  cases f with
  | next=>obtain ⟨oF,H7,I7,n7⟩:=q7;exact again I7 n7
  | cont=>obtain ⟨oF,H7,I7,n7⟩:=q7;exact again I7 n7
  | brk=>obtain ⟨oF,H7,I7,q7⟩:=q7;exact ⟨oF,H7,I7.gM,q7⟩
  | ret v=>obtain ⟨x7,oF,H7,I7,r7,q7⟩:=q7;exact ⟨x7,oF,H7,I7.gM,r7,q7⟩
end
theorem b3G{K:aC}{a:Addr}{xs:List V}{g:TG}{tb:TS}{D:Ends}{σ:St}{H:Hp}(Pv:Nat->St->Hp->Prop)(h0:Pv 0 σ H)(hl:∀i σ H,i<=xs.length->Pv i σ H->dR K H a xs)
  (hs:∀i x σ H,xs[i]?=some x->Pv i σ H->g x σ H λcZ H2=>tb { D with nx:=Pv (i+1),ct:=Pv (i+1),bk:=D.nx } cZ H2)(hd:∀σ H,Pv xs.length σ H->D.nx σ H):
  ∃W:Nat->Nat->St->Hp->Prop,(∃m,W 0 m σ H)/\∀i m σ H,W i m σ H ->
   ((yB K a).stop i H/\D.nx σ H)\/((yB K a).go i H/\∃N:St->Hp->Prop,(∀az H',N az H'->∃m',m'<m/\W (i+1) m' az H')/\∀x H',(yB K a).yD i H x H'->g x σ H' λcZ H2=>tb { D with nx:=N,ct:=N,bk:=D.nx } cZ H2):=by
 refine ⟨λi m σ H=>m=xs.length-i/\i<=xs.length/\Pv i σ H,⟨xs.length,by simp,og _,h0⟩,?_⟩
 rintro i m σ H ⟨rfl,hi,p⟩
 have q:=hl i σ H hi p
 by_cases aY:i<xs.length
 .refine .inr ⟨⟨xs,xs[i],q,by simp [aY]⟩,Pv (i+1),λaz H' p'=>⟨xs.length-(i+1),by ext aY,rfl,aY,p'⟩,λx H' y=>?_⟩
  obtain ⟨e,y⟩:=y
  subst e
  exact hs i x σ _ (y xs q) p
 .have e:i=xs.length:=by ext hi aY
  subst e
  exact .inl ⟨⟨xs,q,bA _⟩,hd σ H p⟩
theorem b6h{K:aC}{a:Addr}{xs:List V}{g:TG}{tb:TS}{D:Ends}{σ:St}{H:Hp}(Pv:Nat->St->Hp->Prop)(h0:Pv 0 σ H)(hl:∀i σ H,i<=xs.length->Pv i σ H->fj K H a xs)
  (hs:∀i x σ H,xs[i]?=some x->Pv i σ H->g x σ H λcZ H2=>tb { D with nx:=Pv (i+1),ct:=Pv (i+1),bk:=D.nx } cZ H2)(hd:∀σ H,Pv xs.length σ H->D.nx σ H):
  ∃W:Nat->Nat->St->Hp->Prop,(∃m,W 0 m σ H)/\∀i m σ H,W i m σ H ->
   ((Dj K a).stop i H/\D.nx σ H)\/((Dj K a).go i H/\∃N:St->Hp->Prop,(∀az H',N az H'->∃m',m'<m/\W (i+1) m' az H')/\∀x H',(Dj K a).yD i H x H'->g x σ H' λcZ H2=>tb { D with nx:=N,ct:=N,bk:=D.nx } cZ H2):=by
 refine ⟨λi m σ H=>m=xs.length-i/\i<=xs.length/\Pv i σ H,⟨xs.length,by simp,og _,h0⟩,?_⟩
 rintro i m σ H ⟨rfl,hi,p⟩
 have q:=hl i σ H hi p
 by_cases aY:i<xs.length
 .refine .inr ⟨⟨xs,xs[i],q,by simp [aY]⟩,Pv (i+1),λaz H' p'=>⟨xs.length-(i+1),by ext aY,rfl,aY,p'⟩,λx H' y=>?_⟩
  obtain ⟨e,y⟩:=y
  subst e
  exact hs i x σ _ (y xs q) p
 .have e:i=xs.length:=by ext hi aY
  subst e
  exact .inl ⟨⟨xs,q,bA _⟩,hd σ H p⟩
end L2
namespace L2
open PySem PySem.Spec PyProof.Rows
abbrev R2:=V->V->Hp->VK->Prop
def fJ(X:Cx)(f:Value->Value->Sem Value)(r:R2):Prop:=
 ∀(pins:List (Addr×Obj)) (s:Shared) (σ:St) (H:Hp) (x y:V) (v u:Value) (Q:VK),Inv X pins σ H s->RelV x v->RelV y u->r x y H Q ->
  wpAny (model X.prog X.w) X.A (f v u) (EP X pins σ Q) X.xe s
def NU(X:Cx)(f:Value->Sem Value)(r:V->Hp->VK->Prop):Prop:=
 ∀(pins:List (Addr×Obj)) (s:Shared) (σ:St) (H:Hp) (x:V) (v:Value) (Q:VK),Inv X pins σ H s->RelV x v->r x H Q ->
  wpAny (model X.prog X.w) X.A (f v) (EP X pins σ Q) X.xe s
def cF(X:Cx)(f:Value)(r:List V->Hp->VK->Prop):Prop:=
 ∀(pins:List (Addr×Obj)) (s:Shared) (σ:St) (H:Hp) (xs:List V) (us:List Value) (Q:VK),Inv X pins σ H s->au xs us->r xs H Q ->
  wpAny (model X.prog X.w) X.A (call f us) (EP X pins σ Q) X.xe s
def NV(X:Cx)(r:V->Hp->(Bool->Hp->Prop)->Prop):Prop:=
 ∀(pins:List (Addr×Obj)) (s:Shared) (σ:St) (H:Hp) (x:V) (v:Value) (Q:Bool->Hp->Prop),Inv X pins σ H s->RelV x v->r x H Q ->
  wpAny (model X.prog X.w) X.A (truthy v) (TP X pins σ Q) X.xe s
def yQ(r:R2)(ta tb:TE):TE:=λσ H Q=>ta σ H λx H1=>tb σ H1 λy H2=>r x y H2 Q
def VH(r:V->Hp->VK->Prop)(ta:TE):TE:=λσ H Q=>ta σ H λx H1=>r x H1 Q
def rI(C:Int->Int->Prop)(g:Int->Int->V):R2:=λx y H Q=>∃i j,x=.int i/\y=.int j/\C i j/\Q (g i j) H
def uh(g:Int->Int->V):R2:=λx y H Q=>∃i j,x=.int i/\y=.int j/\Q (g i j) H
def rU(g:Int->V):V->Hp->VK->Prop:=λx H Q=>∃i,x=.int i/\Q (g i) H
section
variable {X:Cx}{a b c:Expr}{ta tb tc:TE}{pos:Pos}
theorem vI(ha:PE X a ta)(hb:PE X b tb){pins:List (Addr×Obj)}{s:Shared}{σ:St}{H:Hp}{R:V->V->Hp->Prop}(I:Inv X pins σ H s)
  (h:ta σ H λx H1=>tb σ H1 λy H2=>R x y H2){Q:Value->Shared->Prop}{f:Value->Value->Sem Value}
  (hf:∀v u s2 x y H2,Inv X pins σ H2 s2->RelV x v->RelV y u->R x y H2->wpAny (model X.prog X.w) X.A (f v u) Q X.xe s2):
  wpAny (model X.prog X.w) X.A (eval a X.env) (λv aM=>wpAny (model X.prog X.w) X.A (eval b X.env) (λu iI=>wpAny (model X.prog X.w) X.A (f v u) Q X.xe iI) X.xe aM) X.xe s:=by
 refine be (ha pins s σ H _ I h) λv s1 ⟨x,H1,I1,r1,q1⟩=>?_
 refine be (hb pins s1 σ H1 _ I1 q1) λu s2 ⟨y,H2,I2,r2,q2⟩=>?_
 exact hf v u s2 x y H2 I2 r1 r2 q2
theorem zu(ho:fJ X (binaryOp op) r)(ha:PE X a ta)(hb:PE X b tb):PE X (.BinOp a op b pos) (yQ r ta tb):=by
 intro pins s σ H Q I h
 exact wpAny_BinOp (vI ha hb I h λv u s2 x y H2 I2 rx ry q=>ho pins s2 σ H2 x y v u Q I2 rx ry q)
theorem zt(ho:NU X (unaryOp op) r)(ha:PE X a ta):PE X (.UnaryOp op a pos) (VH r ta):=by
 intro pins s σ H Q I h
 exact UnaryOp_ (be (ha pins s σ H _ I h) λv s1 ⟨x,H1,I1,r1,q1⟩=>ho pins s1 σ H1 x v Q I1 r1 q1)
theorem uo{f:Value->Value->Sem Value}{C:Int->Int->Prop}{g:Int->Int->Int}
  (rule:∀(i j:Int) (t u:Tok) (s:Shared) (Q:Value->Shared->Prop) (E:Value->Shared->Prop),C i j->Q (.int (g i j) s.toks) { s with toks:=s.toks+1 }->wpAny (model X.prog X.w) X.A (f (.int i t) (.int j u)) Q E s):
  fJ X f (rI C λi j=>.int (g i j)):=by
 intro pins s σ H x y v u Q I rx ry h
 obtain ⟨i,j,rfl,rfl,hc,q⟩:=h
 obtain ⟨t,rfl⟩:=rx
 obtain ⟨t',rfl⟩:=ry
 exact rule i j t t' s _ _ hc ⟨.int (g i j),H,I.tok _,⟨_,rfl⟩,q⟩
theorem HE{f:Value->Value->Sem Value}{g:Int->Int->Int}
  (rule:∀(i j:Int) (t u:Tok) (s:Shared) (Q:Value->Shared->Prop) (E:Value->Shared->Prop),Q (.int (g i j) s.toks) { s with toks:=s.toks+1 }->wpAny (model X.prog X.w) X.A (f (.int i t) (.int j u)) Q E s):
  fJ X f (uh λi j=>.int (g i j)):=by
 intro pins s σ H x y v u Q I rx ry h
 obtain ⟨i,j,rfl,rfl,q⟩:=h
 obtain ⟨t,rfl⟩:=rx
 obtain ⟨t',rfl⟩:=ry
 exact rule i j t t' s _ _ ⟨.int (g i j),H,I.tok _,⟨_,rfl⟩,q⟩
theorem uq{f:Value->Value->Sem Value}{g:Int->Int->Bool}
  (rule:∀(i j:Int) (t u:Tok) (s:Shared) (Q:Value->Shared->Prop) (E:Value->Shared->Prop),Q (.bool (g i j)) s->wpAny (model X.prog X.w) X.A (f (.int i t) (.int j u)) Q E s):
  fJ X f (uh λi j=>.bl (g i j)):=by
 intro pins s σ H x y v u Q I rx ry h
 obtain ⟨i,j,rfl,rfl,q⟩:=h
 obtain ⟨t,rfl⟩:=rx
 obtain ⟨t',rfl⟩:=ry
 exact rule i j t t' s _ _ ⟨.bl (g i j),H,I,rfl,q⟩
def lq(i j:Int):Prop:=(-(2^64)<i/\i<2^64)\/(-(2^64)<j/\j<2^64)
theorem lq.ok(h:lq i j):IntMulOk i j:=by
 rcases h with ⟨h1,h2⟩ | ⟨h1,h2⟩
 .exact .of_left (Ex h1 h2)
 .exact .of_right (Ex h1 h2)
theorem um:fJ X (binaryOp .Add) (uh λi j=>.int (i+j)):=HE λ_ _ _ _ _ _ _ q=>add_int q
theorem b58:fJ X (inplaceOp .Mult) (rI lq λi j=>.int (i*j)):=uo λ_ _ _ _ _ _ _ hc q=>imul_int q hc.ok
theorem VF{f:Value->Sem Value}{g:Int->Int}
  (rule:∀(i:Int) (t:Tok) (s:Shared) (Q:Value->Shared->Prop) (E:Value->Shared->Prop),Q (.int (g i) s.toks) { s with toks:=s.toks+1 }->wpAny (model X.prog X.w) X.A (f (.int i t)) Q E s):
  NU X f (rU λi=>.int (g i)):=by
 intro pins s σ H x v Q I rx h
 obtain ⟨i,rfl,q⟩:=h
 obtain ⟨t,rfl⟩:=rx
 exact rule i t s _ _ ⟨.int (g i),H,I.tok _,⟨_,rfl⟩,q⟩
theorem b7F:NU X (unaryOp .USub) (rU λi=>.int (-i)):=VF λ_ _ _ _ _ q=>neg_int q
end
def uf:V->V->Bool
 | .aG,.aG=>true | .aG,.int _=>true | .int _,.aG=>true | .aG,.bl _=>true | .bl _,.aG=>true | .aG,.str _=>true | .str _,.aG=>true
 | .int _,.int _=>true | .bl _,.bl _=>true | .str _,.str _=>true | .nG _,.nG _=>true
 | .int _,.str _=>true | .str _,.int _=>true | .bl _,.str _=>true | .str _,.bl _=>true
 | _,_=>false
def Wy:R2:=λx y H Q=>uf x y=true/\Q (.bl (decide (x=y))) H
def Ww:R2:=λx y H Q=>uf x y=true/\Q (.bl (!decide (x=y))) H
theorem Sf:decide (V.int i=V.int j)=(i==j):=by
 rw [ER]
 simp
theorem Rz:decide (V.bl i=V.bl j)=(i==j):=by
 rw [ER]
 simp
theorem Sg:decide (V.str i=V.str j)=(i==j):=by
 rw [ER]
 simp
theorem Se:decide (V.nG i=V.nG j)=(i.toList==j.toList):=by
 rw [ER]
 cases i
 cases j
 simp
section
variable {X:Cx}{a b c:Expr}{ta tb tc:TE}{pos:Pos}
theorem eS{pins:List (Addr×Obj)}{σ:St}{H:Hp}{s:Shared}{Q:VK}{k k':Bool}(I:Inv X pins σ H s)(q:Q (.bl k) H)(e:k=k'):EP X pins σ Q (.bool k') s:=by
 subst e
 exact ⟨.bl k,H,I,rfl,q⟩
theorem zH:fJ X (compareOp .Eq) Wy:=by
 intro pins s σ H x y v u Q I rx ry h
 obtain ⟨hs,q⟩:=h
 cases x with
 | aG =>
  cases rx
  cases y with
  | aG=>cases ry;exact PySem.EqNone.eq_none_none (eS I q (by simp))
  | bl j=>cases ry;exact PySem.EqNone.eq_none_bool (eS I q (by simp))
  | int j=>obtain ⟨t',rfl⟩:=ry;exact PySem.EqNone.eq_none_int (eS I q (by simp))
  | str j=>obtain ⟨t',rfl⟩:=ry;exact PySem.EqNone.eq_none_str (eS I q (by simp))
  | _=>exact absurd (show false=true from hs) fY
 | bl i =>
  cases rx
  cases y with
  | aG=>cases ry;exact PySem.EqNone.eq_bool_none (eS I q (by simp))
  | bl j=>cases ry;exact eq_bool (eS I q Rz)
  | str j=>obtain ⟨t',rfl⟩:=ry;exact PySem.EqMixed.eq_bool_str (eS I q (by simp))
  | _=>exact absurd (show false=true from hs) fY
 | int i =>
  obtain ⟨t,rfl⟩:=rx
  cases y with
  | aG=>cases ry;exact PySem.EqNone.eq_int_none (eS I q (by simp))
  | int j=>obtain ⟨t',rfl⟩:=ry;exact eq_int (eS I q Sf)
  | str j=>obtain ⟨t',rfl⟩:=ry;exact PySem.EqMixed.eq_int_str (eS I q (by simp))
  | _=>exact absurd (show false=true from hs) fY
 | str i =>
  obtain ⟨t,rfl⟩:=rx
  cases y with
  | aG=>cases ry;exact PySem.EqNone.eq_str_none (eS I q (by simp))
  | bl j=>cases ry;exact PySem.EqMixed.eq_str_bool (eS I q (by simp))
  | int j=>obtain ⟨t',rfl⟩:=ry;exact PySem.EqMixed.eq_str_int (eS I q (by simp))
  | str j=>obtain ⟨t',rfl⟩:=ry;exact eq_str (eS I q Sg)
  | _=>exact absurd (show false=true from hs) fY
 | nG i =>
  obtain ⟨t,rfl⟩:=rx
  cases y with
  | nG j=>obtain ⟨t',rfl⟩:=ry;exact PySem.W.eq_bytes (eS I q Se)
  | _=>exact absurd (show false=true from hs) fY
 | _=>cases y<;>exact absurd (show false=true from hs) fY
theorem zD:fJ X (compareOp .NotEq) Ww:=by
 intro pins s σ H x y v u Q I rx ry h
 obtain ⟨hs,q⟩:=h
 cases x with
 | aG =>
  cases rx
  cases y with
  | aG=>cases ry;exact PySem.EqNone.ne_none_none (eS I q (by simp))
  | bl j=>cases ry;exact PySem.EqNone.ne_none_bool (eS I q (by simp))
  | int j=>obtain ⟨t',rfl⟩:=ry;exact PySem.EqNone.ne_none_int (eS I q (by simp))
  | str j=>obtain ⟨t',rfl⟩:=ry;exact PySem.EqNone.ne_none_str (eS I q (by simp))
  | _=>exact absurd (show false=true from hs) fY
 | bl i =>
  cases rx
  cases y with
  | aG=>cases ry;exact PySem.EqNone.ne_bool_none (eS I q (by simp))
  | bl j=>cases ry;exact ne_bool (eS I q (congrArg not Rz))
  | str j=>obtain ⟨t',rfl⟩:=ry;exact PySem.EqMixed.ne_bool_str (eS I q (by simp))
  | _=>exact absurd (show false=true from hs) fY
 | int i =>
  obtain ⟨t,rfl⟩:=rx
  cases y with
  | aG=>cases ry;exact PySem.EqNone.ne_int_none (eS I q (by simp))
  | int j=>obtain ⟨t',rfl⟩:=ry;exact ne_int (eS I q (congrArg not Sf))
  | str j=>obtain ⟨t',rfl⟩:=ry;exact PySem.EqMixed.ne_int_str (eS I q (by simp))
  | _=>exact absurd (show false=true from hs) fY
 | str i =>
  obtain ⟨t,rfl⟩:=rx
  cases y with
  | aG=>cases ry;exact PySem.EqNone.ne_str_none (eS I q (by simp))
  | bl j=>cases ry;exact PySem.EqMixed.ne_str_bool (eS I q (by simp))
  | int j=>obtain ⟨t',rfl⟩:=ry;exact PySem.EqMixed.ne_str_int (eS I q (by simp))
  | str j=>obtain ⟨t',rfl⟩:=ry;exact ne_str (eS I q (congrArg not Sg))
  | _=>exact absurd (show false=true from hs) fY
 | nG i =>
  obtain ⟨t,rfl⟩:=rx
  cases y with
  | nG j=>obtain ⟨t',rfl⟩:=ry;exact PySem.W.ne_bytes (eS I q (congrArg not Se))
  | _=>exact absurd (show false=true from hs) fY
 | _=>cases y<;>exact absurd (show false=true from hs) fY
theorem zE:fJ X (compareOp .Lt) (uh λi j=>.bl (decide (i<j))):=uq λ_ _ _ _ _ _ _ q=>lt_int q
theorem zF:fJ X (compareOp .LtE) (uh λi j=>.bl (decide (i<=j))):=uq λ_ _ _ _ _ _ _ q=>le_int q
theorem zG:fJ X (compareOp .Gt) (uh λi j=>.bl (decide (j<i))):=uq λ_ _ _ _ _ _ _ q=>gt_int q
theorem b8i:fJ X (compareOp .Is) (λx y H Q=>y=.aG/\Q (.bl (decide (x=.aG))) H):=by
 intro pins s σ H x y v u Q I rx ry h
 obtain ⟨rfl,q⟩:=h
 cases ry
 refine is_none_gen (eS I q ?_)
 cases x<;>first
  | (cases rx;rfl)
  | (obtain ⟨t,rfl⟩:=rx;rfl)
theorem b5N:fJ X (compareOp .IsNot) (λx y H Q=>y=.aG/\Q (.bl (!decide (x=.aG))) H):=by
 intro pins s σ H x y v u Q I rx ry h
 obtain ⟨rfl,q⟩:=h
 cases ry
 refine isnot_none_gen (eS I q ?_)
 cases x<;>first
  | (cases rx;rfl)
  | (obtain ⟨t,rfl⟩:=rx;rfl)
theorem fJ.or(h:fJ X f r)(h':fJ X f r'):fJ X f (λx y H Q=>r x y H Q\/r' x y H Q):=by
 intro pins s σ H x y v u Q I rx ry q
 rcases q with q | q
 .exact h pins s σ H x y v u Q I rx ry q
 .exact h' pins s σ H x y v u Q I rx ry q
theorem Rh(b:Expr)(h:op≠.In:=by decide)(h2:op≠.NotIn:=by decide):behindInMarks op b=false:=by
 have e1:(op==CmpOp.In)=false:=by cases op<;>first | rfl | exact absurd rfl h
 have e2:(op==CmpOp.NotIn)=false:=by cases op<;>first | rfl | exact absurd rfl h2
 cases b<;>simp [behindInMarks,e1,e2]
theorem b5I(ho:fJ X (compareOp op) r)(ha:PE X a ta)(hb:PE X b tb)(hm:behindInMarks op b=false):PE X (.Compare a [op] [b] pos) (yQ r ta tb):=by
 intro pins s σ H Q I h
 exact wpAny_Compare1 (vI ha hb I h λv u s2 x y H2 I2 rx ry q=>ho pins s2 σ H2 x y v u Q I2 rx ry q) hm
def yO(t:TE):TT:=λσ H Q=>t σ H λx H'=>∃k,x=.bl k/\Q k H'
theorem b5z(ho:fJ X (compareOp op) r)(ha:PE X a ta)(hb:PE X b tb)(hm:behindInMarks op b=false):PT X (.Compare a [op] [b] pos) (yO (yQ r ta tb)):=by
 intro pins s σ H Q I h
 refine wpAny_isTrue_Compare1 (be (ha pins s σ H _ I h) λv s1 ⟨x,H1,I1,r1,q1⟩=>be (hb pins s1 σ H1 _ I1 q1) λu s2 ⟨y,H2,I2,r2,q2⟩ =>
  be (ho pins s2 σ H2 x y v u _ I2 r1 r2 q2) λc s3 ⟨z,H3,I3,r3,k,e,q3⟩=>?_) hm
 subst e
 cases r3
 exact xo ⟨H3,I3,q3⟩
def b7L(r r':R2)(ta tb tc:TE):TE:=λσ H Q=>ta σ H λx H1=>tb σ H1 λy H2=>r x y H2 λz H3=>∃k,z=.bl k /\
 (if k=true then tc σ H3 λw' H4=>r' y w' H4 Q else Q (.bl false) H3)
theorem b28(ho:fJ X (compareOp op) r)(gD:fJ X (compareOp zI) r')(ha:PE X a ta)(hb:PE X b tb)(hc:PE X c tc)
  (hm:lastMarks [op,zI] [b,c]=false:=by with_unfolding_all rfl):PE X (.Compare a [op,zI] [b,c] pos) (b7L r r' ta tb tc):=by
 intro pins s σ H Q I h
 refine Compare_chain (be (ha pins s σ H _ I h) λv s1 ⟨x,H1,I1,r1,q1⟩=>chain_link (be (hb pins s1 σ H1 _ I1 q1) λu s2 ⟨y,H2,I2,r2,q2⟩ =>
  be (ho pins s2 σ H2 x y v u _ I2 r1 r2 q2) λd s3 ⟨z,H3,I3,r3,k,e,q3⟩=>?_)) hm
 subst e
 cases r3
 refine xo ?_
 cases k with
 | false=>exact ite_ff ⟨.bl false,H3,I3,rfl,q3⟩
 | true=>exact ite_tt (chain_last (be (hc pins s3 σ H3 _ I3 q3) λw' s4 ⟨z',H4,I4,r4,q4⟩=>gD pins s4 σ H4 y z' u w' Q I4 r2 r4 q4))
def v9(K:aC)(x:V)(H:Hp)(k:Bool):Prop:=
 match x with
 | .aG=>k=false
 | .bl b=>k=b
 | .int i=>k=(i != 0)
 | .str y=>y.length<=sizeLine/\k=((y.length:Int) != 0)
 | .nG y=>y.size<=sizeLine/\k=((y.size:Int) != 0)
 | .ref p=>(∃xs,dR K H p xs/\k=!xs.isEmpty)\/(∃xs,fj K H p xs/\k=!xs.isEmpty)\/∃bw,H p=some (.dK bw)/\k=!bw.isEmpty
 | _=>False
theorem b0y{κ:Type}{bw:List (κ×V)}{vs:List (κ×Value)}(r:KV bw vs):(!vs.isEmpty)=!bw.isEmpty:=by
 cases r<;>rfl
theorem Uj(r:au xs av):(!av.toArray.isEmpty)=!xs.isEmpty:=by
 cases r<;>simp
theorem vL:(sizeLine:Nat)<2^63:=by rw [h8];decide
theorem b7H:NV X (λx H Q=>∃k,v9 X.K x H k/\Q k H):=by
 intro pins s σ H x v Q I rx h
 obtain ⟨k,e,q⟩:=h
 have hl:=vL
 have hs:sizeLine=16777216:=h8
 cases x with
 | aG =>
  cases rx
  have e':k=false:=e
  subst e'
  exact truthy_none ⟨H,I,q⟩
 | bl b =>
  cases rx
  have e':k=b:=e
  subst e'
  exact xo ⟨H,I,q⟩
 | int i =>
  obtain ⟨t,rfl⟩:=rx
  have e':k=(i != 0):=e
  subst e'
  exact PySem.P.truthy_int ⟨H,I,q⟩
 | str y =>
  obtain ⟨t,rfl⟩:=rx
  obtain ⟨hy,e'⟩:y.length<=sizeLine/\k=((y.length:Int) != 0):=e
  subst e'
  exact PySem.P.truthy_str (by ext hs hy) ⟨H,I.tok _,q⟩
 | nG y =>
  obtain ⟨t,rfl⟩:=rx
  obtain ⟨hy,e'⟩:y.size<=sizeLine/\k=((y.size:Int) != 0):=e
  subst e'
  exact PySem.W.truthy_bytes (dY ‹_› (by decide)) ⟨H,I.tok _,q⟩
 | ref p =>
  cases rx
  have e':(∃xs,dR X.K H p xs/\k=!xs.isEmpty)\/(∃xs,fj X.K H p xs/\k=!xs.isEmpty)\/∃bw,H p=some (.dK bw)/\k=!bw.isEmpty:=e
  rcases e' with ⟨xs,hx,e'⟩ | ⟨xs,hx,e'⟩ | ⟨bw,hx,e'⟩
  .subst e'
   obtain ⟨av,r,pl,hz⟩:=I.list hx
   have hlen:=r.length
   exact wpAny_truthy_list pl.isList (by simp only [dZ];ext hs hz hlen) ⟨H,I.tok _,by rw [Uj r];exact q⟩
  .subst e'
   obtain ⟨av,r,pl,hz⟩:=I.tuple hx
   have hlen:=r.length
   exact truthy_tuple pl (by simp only [dZ];ext hs hz hlen) ⟨H,I.tok _,by rw [Uj r];exact q⟩
  .subst e'
   obtain ⟨hz,hS,vs,r,m⟩:bw.length<=sizeLine/\(p==sysModules)=false/\∃vs,KV bw vs/\s.heap.DictOf (L7 X.prog X.w) p vs:=I.aT p _ hx
   have hlen:bw.length=vs.length:=Paired.length r
   exact wpAny_truthy_dict hS m (by ext hs hz hlen) ⟨H,I.tok _,by rw [b0y r];exact q⟩
 | _=>exact (show False from e).elim
theorem SI(ha:PE X a ta)(he:∀whole,isTrue a X.env whole=(do let v <-whole;standAt a.pos;holding [v] (truthy v))):
  PT X a (λσ H Q=>ta σ H λx H'=>∃k,v9 X.K x H' k/\Q k H'):=by
 intro pins s σ H Q I h
 exact isTrue_plain (be (ha pins s σ H _ I h) λv s1 ⟨x,H1,I1,r1,q1⟩=>b7H pins s1 σ H1 x v Q I1 r1 q1) (he _)
theorem lQ:fJ X (binaryOp .Add) (λx y H Q=>∃i j,x=.str i/\y=.str j/\i.length+j.length<=sizeLine/\Q (.str (i++j)) H):=by
 intro pins s σ H x y v u Q I rx ry h
 obtain ⟨i,j,rfl,rfl,hz,q⟩:=h
 obtain ⟨t,rfl⟩:=rx
 obtain ⟨t',rfl⟩:=ry
 exact add_str (λt' tk=>⟨.str (i++j),H,I.tok _,⟨_,rfl⟩,q⟩) hz
theorem vals1(r:au [x] us):∃u,us=[u]/\RelV x u:=by
 cases r with
 | cons r1 r2=>cases r2;exact ⟨_,rfl,r1⟩
theorem vals2(r:au [x,y] us):∃u w',us=[u,w']/\RelV x u/\RelV y w':=by
 cases r with
 | cons r1 r2 =>
  cases r2 with
  | cons r3 r4=>cases r4;exact ⟨_,_,rfl,r1,r3⟩
theorem b2g(hc:X.calm=true):cF X (.builtin "max") (λxs H Q=>∃i j,xs=[.int i,.int j]/\Q (.int (if j>i then j else i)) H):=by
 intro pins s σ H xs us Q I r h
 obtain ⟨i,j,rfl,q⟩:=h
 obtain ⟨u,w',rfl,⟨t,rfl⟩,⟨t',rfl⟩⟩:=vals2 r
 refine max_two_ints (I.ok.hd hc) λh' tk k=>⟨_,H,I.kept k,?_,q⟩
 by_cases hj:j>i
 .rw [if_pos hj,if_pos hj];exact ⟨_,rfl⟩
 .rw [if_neg hj,if_neg hj];exact ⟨_,rfl⟩
theorem b2f(hc:X.calm=true):cF X (.builtin "min") (λxs H Q=>∃i j,xs=[.int i,.int j]/\Q (.int (if j<i then j else i)) H):=by
 intro pins s σ H xs us Q I r h
 obtain ⟨i,j,rfl,q⟩:=h
 obtain ⟨u,w',rfl,⟨t,rfl⟩,⟨t',rfl⟩⟩:=vals2 r
 refine min_two_ints (I.ok.hd hc) λh' tk k=>⟨_,H,I.kept k,?_,q⟩
 by_cases hj:j<i
 .rw [if_pos hj,if_pos hj];exact ⟨_,rfl⟩
 .rw [if_neg hj,if_neg hj];exact ⟨_,rfl⟩
end
end L2
namespace L2
open PySem PySem.Spec PyProof.Rows
structure ObjM(h:Heap)(x dx C:Addr)(mA:Str->Option Value):Prop where
 obj:h.get? x=some (PN C dx)
 ns:h.Ns1 dx mA
 ne:dx≠x
section
variable {prog:Program}{w:World}{A:Around}{E:Value->Shared->Prop}{s:Shared}{K:aC}{x dx C f:Addr}{mA:Str->Option Value}{name:Str}{v:Value}
end
theorem sd.none_of(r:sd none o):o=none:=by
 cases o with
 | none=>rfl
 | some u=>exact (show False from r).elim
section
variable {P:Program}{w:World}{H H':Hp}{h h':Heap}{a C dx:Addr}{fs Jo:List (Str×V)}
end
structure N2(K:aC)(C:Addr):Prop where
 pg:Qj K C Str.empty=true
 hd:PySem.W.hasDictIn K C=true
 po:PySem.W.plainOver K C=true
 sa:mS K (.ref C) "__setattr__" = some (some (.builtin "object.__setattr__"))
theorem N2.get{K:aC}{C:Addr}(c:N2 K C)(f:Str):Qj K C f=true:=c.pg
structure Con(K:aC)(C:Addr)(f:Str)(v:V)(u:Value):Prop where
 at_:mS K (.ref C) f=some (some u)
 rel:RelV v u
 get:Ko K u "__get__" = some none
 cp:PySem.W.copiedNames.contains f=false
structure Meth(K:aC)(C:Addr)(m:Str)(f:Addr):Prop where
 at_:mS K (.ref C) m=some (some (.ref f))
 fn:PySem.W.isFn K (.ref f)=true
 kp:tm K (.ref f)=true
section
variable {X:Cx}{pins:List (Addr×Obj)}{σ:St}{H:Hp}{s:Shared}{a C dx:Addr}{fs:List (Str×V)}{f:Str}{v:V}{A:Around}{E:Value->Shared->Prop}
end
section
variable {X:Cx}{o e value:Expr}{f:Str}{pos pos' yH:Pos}{ta tv:TE}
end
section
variable {X:Cx}{pins:List (Addr×Obj)}{σ:St}{H:Hp}{s:Shared}{A:Around}{E:Value->Shared->Prop}{Q:Value->Shared->Prop}{c:Value}{b:Bool}
inductive ir (K:aC) (H:Hp):V->Value->Prop where
 | aG:ir K H .aG (.type "NoneType")
 | bl (x:Bool):ir K H (.bl x) (.type "bool")
 | int (i:Int):ir K H (.int i) (.type "int")
 | str (x:Str):ir K H (.str x) (.type "str")
 | Bo (x:UInt64):ir K H (.Bo x) (.type "float")
 | lst {a:Addr} {xs:List V} (e:H a=some (.lst xs)):ir K H (.ref a) (.type "list")
 | fV {a:Addr} {o:Obj} {xs:List V} (e:H a=some (.fV o (.lst xs))):ir K H (.ref a) (.type "list")
 | tup {a:Addr} {xs:List V} (e:H a=some (.tup xs)):ir K H (.ref a) (.type "tuple")
 | dK {a:Addr} {bw:List (Key×V)} (e:H a=some (.dK bw)):ir K H (.ref a) (.type "dict")
 | dT {a:Addr} {bw:List (List Key×V)} (e:H a=some (.dT bw)):ir K H (.ref a) (.type "dict")
 | ins {a C dx:Addr} {fs:List (Str×V)} (e:H a=some (.ins C dx fs)) (cl:N2 K C) (ha:mS K (.ref C) "__class__" = some (some (.builtin "object.__class__")))
   (hn:Ko K (.builtin "object.__class__") "__get__" = some (some (.builtin "getset_descriptor.__get__"))) (htk:PM K (.builtin "object.__class__")=some true)
   (hm:vi K C (.type "object")=some true):ir K H (.ref a) (.ref C)
end
end L2
namespace L2
open PySem PySem.Spec PyProof.Rows
structure bh(k:Nat)(A:Around):Prop where
 hd:A.handled=none
 dp:A.depth+3*k+5<recursionLimit
 un:A.units+16*k+200<cLine
theorem bh.mono(r:bh k A)(h:j<=k):bh j A:=⟨r.hd,by have:=r.dp;ext h this,by have:=r.un;ext h this⟩
theorem bh.deeper(r:bh (k+1) A)(env:Env):bh k (A.deeper env):=
 ⟨r.hd,by have:=r.dp;show A.depth+1+3*k+5<_;ext this,by have:=r.un;show A.units+3+16*k+200<_;ext this⟩
theorem bh.in1(r:bh (k+1) A):bh k A.in1:=
 ⟨r.hd,by have:=r.dp;show A.depth+3*k+5<_;ext this,by have:=r.un;show A.units+1+16*k+200<_;ext this⟩
theorem b0s{A:Around}{kw:List (Str×Value)}:(A.under (.builtin "type.__call__" ⟨.ref C::us,kw⟩)).depth=A.depth+1:=by
 first | rfl | simp [Kc,Code.weight,Code.isCreation,Code.isGuard,Code.isCaller,Code.frames,Kb,guardIds]
theorem b0r{A:Around}{kw:List (Str×Value)}:(A.under (.builtin "type.__call__" ⟨.ref C::us,kw⟩)).units=A.units+1:=by
 first | rfl | simp [Kc,Code.cUnits,Code.frames,Kb]
theorem bh.make(r:bh (k+1) A)(C:Addr)(us:List Value)(kw:List (Str×Value)):bh k (A.under (.builtin "type.__call__" ⟨.ref C::us,kw⟩)):=
 ⟨r.hd,by have:=r.dp;rw [b0s];ext this,by have:=r.un;rw [b0r];ext this⟩
theorem bh.depth(r:bh k A):A.depth<recursionLimit:=by have:=r.dp;ext this
theorem bh.units(r:bh k A):A.units+64<cLine:=by have:=r.un;ext this
def G7:TA:=λ_ H Q=>Q [] H
def yU(ta:TE)(tr:TA):TA:=λσ H Q=>ta σ H λx H1=>tr σ H1 λxs H2=>Q (x::xs) H2
section
variable {X:Cx}{e:Expr}{es:List Expr}{te:TE}{t:TA}{pos:Pos}
theorem pI:PA X [] G7:=λ_ _ _ _ H Q I h=>Km ⟨[],H,I,.nil,h⟩
theorem mZ(ha:PE X e te)(hr:PA X es t)(hs:starEach (e::es) X.env=(false,eval e X.env)::starEach es X.env:=by rfl):PA X (e::es) (yU te t):=by
 intro pos pins s σ H Q I h
 rw [hs]
 show wpAny _ _ (spliced ((false,eval e X.env)::backTo pos (starEach es X.env))) _ _ s
 refine Kf (be (ha pins s σ H _ I h) λu s1 ⟨x,H1,I1,r1,q1⟩=>?_)
 exact be (hr pos pins s1 σ H1 _ I1 q1) λus s2 ⟨xs,H2,I2,r2,q2⟩=>⟨x::xs,H2,I2,.cons r1 r2,q2⟩
def G3(t:TA):TE:=λσ H Q=>t σ H λxs H1=>xs.length<=sizeLine/\∀p,H1 p=none->Q (.ref p) (upd H1 p (.tup xs))
def G8(t:TA):TE:=λσ H Q=>t σ H λxs H1=>xs.length<=sizeLine/\∀p,H1 p=none->Q (.ref p) (upd H1 p (.lst xs))
theorem b76{x1}(h:PA X es t):PE X (.Tuple es x1 pos) (G3 t):=by
 intro pins s σ H Q I hq
 refine wpAny_Tuple_spliced (be (h pos pins s σ H _ I hq) λus s1 ⟨xs,H1,I1,r,z,q⟩=>⟨by rw [<-r.length];exact z,?_⟩)
 have hf:H1 s1.heap.objs.size=none:=I1.aT.fresh (bA _)
 refine ⟨.ref s1.heap.objs.size,upd H1 s1.heap.objs.size (.tup xs),I1.laid (t':=s1.toks) (λb u e=>bP _ e) (bA _) ?_,rfl,q _ hf⟩
 exact ⟨z,us,r,⟨_,ft _ rfl,rfl,_,rfl⟩⟩
theorem b8b(h:PA X es t):PE X (.List es pos) (G8 t):=by
 intro pins s σ H Q I hq
 refine wpAny_List_spliced (be (h pos pins s σ H _ I hq) λus s1 ⟨xs,H1,I1,r,z,q⟩=>⟨by rw [<-r.length];exact z,?_⟩)
 have hf:H1 s1.heap.objs.size=none:=I1.aT.fresh (bA _)
 refine ⟨.ref s1.heap.objs.size,upd H1 s1.heap.objs.size (.lst xs),I1.laid (t':=s1.toks) (λb u e=>bP _ e) (bA _) ?_,rfl,q _ hf⟩
 exact ⟨z,us,0,r,ft _ rfl⟩
end
abbrev Sp:=List V->Hp->VK->XK->Prop
abbrev m7:=List Env->Hp->Shared->XK->Value->Shared->Prop
structure iu(P:Program)(w:World)(K:aC)(mg:Str->Option Value)(base:Heap)(A:Around)(outer:List Env)(s:Shared)(H:Hp):Prop where
 frames:A.frames=some outer
 mod:Mod K mg base
 bs:∀b o,base.get? b=some o->s.heap.get? b=some o/\H b=none
 me:base.objs.size<=s.heap.objs.size
 dX:s.heap.FunFrames base outer
 n8:∀b∈eM outer,H b=none
 aT:fu P w H s.heap
 bare:AllBare s.gens
def CE(outer:List Env)(P:Program)(w:World)(H:Hp)(s:Shared)(Q:VK)(u:Value)(s':Shared):Prop:=
 ∃v H',s'.os=s.os/\AllBare s'.gens/\Un (eM outer) [] H H' s.heap s'.heap/\fu P w H' s'.heap/\RelV v u/\Q v H'
def CR(CX:m7)(outer:List Env)(P:Program)(w:World)(H:Hp)(s:Shared)(Q:VK)(E:XK)(r:Result)(s':Shared):Prop:=
 match r with
 | .ok (.ret u)=>CE outer P w H s Q u s'
 | .ok _=>False
 | .error e=>CX outer H s E e s'
structure bG(P:Program)(w:World)(K:aC)(mg:Str->Option Value)(base:Heap)(CX:m7)(k:Nat)(f:Addr)(fd:FuncData)(ps:List Str)(sp:Sp):Prop where
 len:∀vs H Q E,sp vs H Q E->vs.length=ps.length
 run:∀(A:Around) (outer:List Env) (s:Shared) (H:Hp) (args:Args) (us:List Value) (vs:List V) (Q:VK) (E:XK),bh k A->iu P w K mg base A outer s H->BindsTo s fd args (ps.zip us)->au vs us->sp vs H Q E ->
  codeAny (model P w) A (.call (.ref f) args) (CR CX outer P w H s Q E) s
theorem bG.mono{P:Program}{w:World}{K:aC}{mg:Str->Option Value}{base:Heap}{CX:m7}{j k:Nat}{f:Addr}{fd:FuncData}{ps:List Str}{sp:Sp}(F:bG P w K mg base CX j f fd ps sp)(h:j<=k):
  bG P w K mg base CX k f fd ps sp:=⟨F.len,λA outer s H args us vs Q E hr=>F.run A outer s H args us vs Q E (hr.mono h)⟩
theorem bG.imp{P:Program}{w:World}{K:aC}{mg:Str->Option Value}{base:Heap}{CX:m7}{k:Nat}{f:Addr}{fd:FuncData}{ps:List Str}{sp OJ:Sp}(F:bG P w K mg base CX k f fd ps sp)
  (h:∀vs H Q E,OJ vs H Q E->sp vs H Q E):bG P w K mg base CX k f fd ps OJ:=
 ⟨λvs H Q E q=>F.len vs H Q E (h _ _ _ _ q),λA outer s H args us vs Q E hr he hb hv hs=>F.run A outer s H args us vs Q E hr he hb hv (h _ _ _ _ hs)⟩
theorem iu.make{P:Program}{w:World}{K:aC}{mg:Str->Option Value}{base:Heap}{A:Around}{outer:List Env}{s:Shared}{H:Hp}(e:iu P w K mg base A outer s H)(C:Addr)(us:List Value)(kw:List (Str×Value)):
  iu P w K mg base (A.under (.builtin "type.__call__" ⟨.ref C::us,kw⟩)) outer s H:=⟨by first | exact e.frames | (simpa [Kc,Code.envs,Kb,pushEnvs] using e.frames),e.mod,e.bs,e.me,e.dX,e.n8,e.aT,e.bare⟩
theorem iu.in1{P:Program}{w:World}{K:aC}{mg:Str->Option Value}{base:Heap}{A:Around}{outer:List Env}{s:Shared}{H:Hp}(e:iu P w K mg base A outer s H):
  iu P w K mg base A.in1 outer s H:=⟨e.frames,e.mod,e.bs,e.me,e.dX,e.n8,e.aT,e.bare⟩
section
variable {X:Cx}{pins:List (Addr×Obj)}{σ:St}{H:Hp}{s s':Shared}
theorem Inv.fD(I:Inv X pins σ H s):iu X.prog X.w X.K X.mg X.base X.A X.stack s H:=
 ⟨I.ok.frames,I.ok.mod,I.bs,dY I.ok.me I.sz,I.stack,I.fy,I.aT,I.bare⟩
theorem Inv.after(I:Inv X pins σ H s)(h:CE X.stack X.prog X.w H s Q u s'):EP X pins σ Q u s':=by
 obtain ⟨v,H',os,bare,un,aT,r,q⟩:=h
 obtain ⟨hh,g,d,t,zB⟩:=s'
 obtain rfl:zB=s.os:=os
 exact ⟨v,H',I.call (h':=hh) (g':=g) (d':=d) (t':=t) (ch:=[]) un aT bare (λb z=>absurd z (by simp)),r,q⟩
end
def QZ(sp:Sp)(sS:List V)(E:XK)(t:TA):TE:=λσ H Q=>t σ H λvs H1=>sp (vs++sS) H1 Q E
def Binds(K:aC)(fd:FuncData)(ps:List Str)(ds:List Value):Prop:=
 ∀(s:Shared) (us:List Value),K.In s.heap->(us++ds).length=ps.length->BindsTo s fd ⟨us,[]⟩ (ps.zip (us++ds))
theorem Binds.all{K:aC}{fd:FuncData}{ps:List Str}(h:∀us:List Value,us.length=ps.length->bindArgs fd ⟨us,[]⟩=pure (ps.zip us)):Binds K fd ps []:=λs us _ hl=>by
 rw [mU] at hl ⊢
 exact .of_eq (h us hl)
def Lh(CX:m7)(X:Cx)(E:XK):Prop:=∀(pins:List (Addr×Obj)) (σ:St) (H:Hp) (s:Shared) (e:Value) (s':Shared),Inv X pins σ H s->CX X.stack H s E e s'->X.xe e s'
section
variable {X:Cx}{CX:m7}{k:Nat}{f C:Addr}{fd:FuncData}{ps:List Str}{sp:Sp}{sS:List V}{ds:List Value}{E:XK}{x m:Str}{p pos apos:Pos}{e o:Expr}{es:List Expr}{ta:TE}{t:TA}
theorem b7W{pins:List (Addr×Obj)}{σ:St}{H:Hp}{s:Shared}{Q:VK}{us:List Value}{vs:List V}(F:bG X.prog X.w X.K X.mg X.base CX k f fd ps sp)(hr:bh k X.A)(hb:Binds X.K fd ps ds)(hd:au sS ds)(hx:Lh CX X E)
  (I:Inv X pins σ H s)(r:au vs us)(h:sp (vs++sS) H Q E):wpAny (model X.prog X.w) X.A (call (.ref f) us) (EP X pins σ Q) X.xe s:=by
 have r2:au (vs++sS) (us++ds):=r.append hd
 have hl:(us++ds).length=ps.length:=by rw [<-r2.length];exact F.len _ _ _ _ h
 refine wV (w6 (F.run X.A X.stack s H ⟨us,[]⟩ (us++ds) (vs++sS) Q E hr I.fD (hb s us I.mF hl) r2 h) λr s' hq=>?_)
 cases r with
 | error e=>exact hx pins σ H s e s' I hq
 | ok fl =>
  cases fl with
  | ret u=>exact I.after hq
  | next=>exact cV hq
  | brk=>exact cV hq
  | cont=>exact cV hq
theorem b5J(F:bG X.prog X.w X.K X.mg X.base CX k f fd ps sp)(hr:bh k X.A)(hg:Gl X x)(hm:X.mg x=some (.ref f))(hk:tm X.K (.ref f)=true)(hb:Binds X.K fd ps ds)(hd:au sS ds)(hx:Lh CX X E)
  (ha:PA X (e::es) t)(gv:(x==("__debug__":Str))=false:=by decide)(he:starEach (e::es) X.env=(false,eval e X.env)::starEach es X.env:=by rfl)(dG:(backTo pos (starEach es X.env)).any (·.1)=false:=by rfl):
  PE X (.Call (.Name x p) (e::es) [] pos) (QZ sp sS E t):=by
 intro pins s σ H Q I h
 refine xt (vO I hg hm ?_ gv)
 refine Qc (h₀:=X.base) I.ok.mod.uA hk (be (ha pos pins s σ H _ I h) λus s1 ⟨vs,H1,I1,r,q⟩=>⟨I1.mF,?_⟩) he dG
 exact b7W F hr hb hd hx I1 r q
structure Mk(K:aC)(C f:Addr):Prop where
 makes:PySem.W.makesIn K C=true
 init:mS K (.ref C) "__init__" = some (some (.ref f))
 fn:PySem.W.isFn K (.ref f)=true
 kp:tm K (.ref C)=true
end
section
variable {X:Cx}{CX:m7}{k:Nat}{f C:Addr}{fd:FuncData}{ps ks:List Str}{sp:Sp}{E:XK}{x m:Str}{p pos apos YE:Pos}{e o:Expr}{es:List Expr}{kws:List Keyword}{te ta:TE}{t tk:TA}{nm:Option Str}
structure NY(K:aC)(fd:FuncData)(ps ks:List Str)(g:List Value->List Value->List Value)(gV:List V->List V->List V):Prop where
 to:∀(s:Shared) (us ws:List Value),K.In s.heap->(g us ws).length=ps.length->BindsTo s fd ⟨us,ks.zip ws⟩ (ps.zip (g us ws))
 rel:∀{vs:List V} {us:List Value} {zs:List V} {ws:List Value},au vs us->au zs ws->au (gV vs zs) (g us ws)
variable {g:List Value->List Value->List Value}{gV:List V->List V->List V}
end
structure bQ(N P:List Str)(sc:Scope):Prop where
 kind:sc.kind=.function
 co:sc.isCoroutine=false
 gen:sc.isGenerator=false
 nd:N.Nodup
 pre:N.take P.length=P
 par:∀x∈P,sc.names.lookup x=some .local\/sc.names.lookup x=some .cell
 ur:∀y∈sc.names,y.2≠.free
theorem TC{kindOf:Str->Option NameKind}{x:Str}:∀{binds:List (Str×Value)} {m:Str->Option Value},(∀v,(x,v)∉binds)->bindL kindOf binds m x=m x
 | [],_,_=>rfl
 | (n,v)::r,m,h=>by
  unfold bindL
  rw [TC λw hw=>h w (cY _ hw)]
  split
  .have:x≠n:=by rintro rfl;exact h v cM
   simp [this]
  .rfl
theorem Tw{kindOf:Str->Option NameKind}{x:Str}:∀{binds:List (Str×Value)} {m:Str->Option Value},(∀v,(x,v)∉binds)->bindC kindOf binds m x=m x
 | [],_,_=>rfl
 | (n,v)::r,m,h=>by
  unfold bindC
  rw [Tw λw hw=>h w (cY _ hw)]
  split
  .rfl
  .have:x≠n:=by rintro rfl;exact h v cM
   simp [this]
theorem Tz{kindOf:Str->Option NameKind}{x:Str}{v:Value}:∀{P:List Str} {vs:List Value} {i:Nat} {m:Str->Option Value},P.Nodup->P[i]?=some x->vs[i]?=some v->kindOf x=some .local ->
  bindL kindOf (P.zip vs) m x=some v
 | [],_,_,_,_,h,_,_=>by simp at h
 | _::_,[],_,_,_,_,h,_=>by simp at h
 | p::P,w::vs,0,m,nd,h1,h2,hk=>by
  simp at h1 h2;subst h1;subst h2
  show bindL kindOf ((p,w)::P.zip vs) m p=_
  unfold bindL
  rw [TC λv hv=>(vv.mp nd).1 (EO hv).1,if_pos hk]
  simp
 | p::P,w::vs,i+1,m,nd,h1,h2,hk=>by
  show bindL kindOf ((p,w)::P.zip vs) m x=_
  unfold bindL
  exact Tz (i:=i) (vv.mp nd).2 (by simpa using h1) (by simpa using h2) hk
theorem Tv{kindOf:Str->Option NameKind}{x:Str}{v:Value}:∀{P:List Str} {vs:List Value} {i:Nat} {m:Str->Option Value},P.Nodup->P[i]?=some x->vs[i]?=some v->kindOf x≠some .local ->
  bindC kindOf (P.zip vs) m x=some v
 | [],_,_,_,_,h,_,_=>by simp at h
 | _::_,[],_,_,_,_,h,_=>by simp at h
 | p::P,w::vs,0,m,nd,h1,h2,hk=>by
  simp at h1 h2;subst h1;subst h2
  show bindC kindOf ((p,w)::P.zip vs) m p=_
  unfold bindC
  rw [Tw λv hv=>(vv.mp nd).1 (EO hv).1,if_neg hk]
  simp
 | p::P,w::vs,i+1,m,nd,h1,h2,hk=>by
  show bindC kindOf ((p,w)::P.zip vs) m x=_
  unfold bindC
  exact Tv (i:=i) (vv.mp nd).2 (by simpa using h1) (by simpa using h2) hk
def start(N:List Str)(vs:List V):St:=vs.map some++ji (N.length-vs.length) none
def eN(CX:m7)(P:Program)(w:World)(K:aC)(mg:Str->Option Value)(base:Heap)(N:List Str)(qual:Str)(scope:Scope)(f:Addr)(cd:Value)(A:Around)(outer:List Env)(s:Shared)(H:Hp)(E:XK):Cx where
 prog:=P
 w:=w
 K:=K
 mg:=mg
 base:=base
 A:=A.deeper (envOfC qual scope s.heap.objs.size f cd)
 N:=N
 bF:=s
 nV:=H
 env:=envOfC qual scope s.heap.objs.size f cd
 outer:=outer
 stack:=envOfC qual scope s.heap.objs.size f cd::outer
 ex:=[]
 calm:=true
 fn:=λ_=>true
 pn:=[]
 xe:=λe s'=>wpAny (model P w) (A.deeper (envOfC qual scope s.heap.objs.size f cd)) (leaving (envOfC qual scope s.heap.objs.size f cd) e) (λ_ Hr=>CX outer H s E e Hr) (λe' Hr=>CX outer H s E e' Hr) s'
theorem S7{sc:Scope}{n:Nat}{x:Str}(h:sc.names.lookup x=some .cell):∃c,(cellsFrom n sc.names []).lookup x=some c:=by
 have q:=Qy sc.names n [] (.inl h)
 exact Qu.mp q
theorem b1F{CX:m7}{P:Program}{w:World}{K:aC}{mg:Str->Option Value}{base:Heap}{N ps:List Str}{qual:Str}{scope:Scope}{f:Addr}{cd:Value}{A:Around}{outer:List Env}{s s1:Shared}{H:Hp}{E:XK}{us:List Value}{vs:List V}
  (S:bQ N ps scope)(hd:A.handled=none)(e0:iu P w K mg base A outer s H)(hl:vs.length=ps.length)(r:au vs us)
  (x:InCallC s s.heap.objs.size (bindL (envOfC qual scope s.heap.objs.size f cd).kindOf (ps.zip us) λ_=>none) (cellsFrom (s.heap.objs.size+1) scope.names []) (bindC (envOfC qual scope s.heap.objs.size f cd).kindOf (ps.zip us) λ_=>none) s1):
  Inv (eN CX P w K mg base N qual scope f cd A outer s H E) [] (start N vs) H s1:=by
 have dG:ps.length<=N.length:=by have:=congrArg wR S.pre;rw [jk] at this;ext this
 obtain ⟨h1,tk,rfl,hk⟩:=x.done
 have uu:∀b:Addr,b∉(eN CX P w K mg base N qual scope f cd A outer s H E).ex:=λb z=>absurd (show b∈([]:List Addr) from z) (by simp)
 refine ⟨⟨e0.mod,S.kind,rfl,rfl,bA _,λy z c h1 h2=>?_,λy hy=>?_,λy c _ h=>?_,λ_=>hd,P4 e0.frames,.inr ⟨rfl,rfl⟩,λb z=>absurd z (uu b),e0.bs,e0.me,λb _ _=>uu b,λb z=>absurd z (uu b),e0.dX,e0.n8⟩,
  rfl,e0.bare,Un.kept hk,⟨_,x.toInCall.ns,λi y v h1 h2 h3=>?_⟩,λy c h=>⟨_,x.cell y c h⟩,e0.aT.fresh (bA _),λy c h=>?_,λp hp=>absurd (show p∈([]:List (Addr×Obj)) from hp) (by simp),e0.aT.kept hk,?_⟩
 .exact name_of_addr x.apart (tD h1) (tD h2)
 .have hy:scope.names.lookup y=some .cell\/scope.names.lookup y=some .free:=hy
  rcases hy with hy | hy
  .exact S7 hy
  .exact absurd rfl (S.ur _ (tD hy))
 .exact w9 (x.above y c (tD h))
 .have hi:i<vs.length:=by
   unfold start at h2
   by_cases hi:i<vs.length
   .exact hi
   .rw [rH (by simpa using hi)] at h2
    rw [E1] at h2
    split at h2<;>cases h2
  have ha:vs[i]?=some v:=by
   unfold start at h2
   rw [vG (by simpa using hi),rL] at h2
   cases e:vs[i]? with
   | none=>rw [e] at h2;cases h2
   | some a=>rw [e] at h2;cases h2;rfl
  obtain ⟨u,hu,rv⟩:=r.get ha
  have hp:ps[i]?=some y:=by
   rw [<-S.pre,List.getElem?_take_of_lt (by ext hl hi)];exact h1
  have OZ:ps.Nodup:=by rw [<-S.pre];exact S.nd.sublist (List.take_sublist _ _)
  refine ⟨u,rv,?_⟩
  rcases S.par y (KR hp) with k | k
  .exact .inl ⟨k,Tz OZ hp hu k⟩
  .obtain ⟨c,e⟩:=S7 (n:=s.heap.objs.size+1) k
   refine .inr ⟨.inl k,c,e,?_⟩
   have q:=x.cell y c e
   rw [Tv OZ hp hu (by show scope.names.lookup y≠_;rw [k];decide)] at q
   exact q
 .exact e0.aT.fresh (w9 (x.above y c (tD h)))
 .unfold start
  show _=N.length
  rw [dq,cj,E6]
  ext hl dG
theorem K5{CX:m7}{P:Program}{w:World}{K:aC}{mg:Str->Option Value}{base:Heap}{k:Nat}{f:Addr}{name qual:Str}{params:Arguments}{body:List Stmt}{scope:Scope}{dV kV doc pm cX ct oc:Value}{an od:Option Addr}
  {pU:Array (Option Value)}{N ps:List Str}{sp:Sp}(lk:K.lookup f=some ⟨oc,od,.func (jl name qual params body scope dV kV doc pm an cX ct),pU⟩)(bW:Em K cX qual=true)(S:bQ N ps scope)
  (len:∀vs H Q E,sp vs H Q E->vs.length=ps.length)
  (bo:∀(A:Around) (outer:List Env) (s:Shared) (H:Hp) (vs:List V) (Q:VK) (E:XK),bh k (A.deeper (envOfC qual scope s.heap.objs.size f cX))->sp vs H Q E ->
   ∃t,mq (eN CX P w K mg base N qual scope f cX A outer s H E) body t/\t { nx:=λ_ H'=>Q .aG H',rt:=Q } (start N vs) H):
  bG P w K mg base CX (k+1) f (jl name qual params body scope dV kV doc pm an cX ct) ps sp:=by
 refine ⟨len,λA outer s H args us vs Q E hr e0 hb r pZ=>?_⟩
 have hl:=len _ _ _ _ pZ
 have KX:K.In s.heap:=e0.mod.uA.keeps λb o e=>(e0.bs b o e).1
 have lim:s.heap.NoLimit:=e0.mod.nolimit.keeps λb o e=>(e0.bs b o e).1
 have AL:∀y∈ps.zip us,scope.names.lookup y.1=some .local\/(scope.names.lookup y.1=some .cell/\((cellsFrom (s.heap.objs.size+1) scope.names []).lookup y.1).isSome=true):=λ⟨n,v⟩ hy=>by
  rcases S.par n (EO hy).1 with q | q
  .exact .inl q
  .exact .inr ⟨q,Qy _ _ _ (.inl q)⟩
 refine codeAny_call_function hr.depth (KX _ _ lk) rfl S.co S.gen rfl (PySem.W.codeRec_of KX bW) (hb _ _ _ _ ?_)
 refine wpAny_newFunctionEnv_cells S.kind AL λenv he s1 x=>?_
 subst he
 refine ⟨lim.keeps x.toInCall.keep,codeAny_func ?_⟩
 obtain ⟨t,ht,hq⟩:=bo A outer s H vs Q E (hr.deeper _) pZ
 have I:Inv (eN CX P w K mg base N qual scope f cX A outer s H E) [] (start N vs) H s1:=b1F S hr.hd e0 hl r x
 refine gk (ht [] s1 (start N vs) H _ I hq) (λfl s' hs=>?_) λe s' hs=>hs
 have fin:∀{az:St} {H':Hp} {v:V} {u:Value},Inv (eN CX P w K mg base N qual scope f cX A outer s H E) [] az H' s'->RelV v u->Q v H'->CE outer P w H s Q u s':=
  λ{az H' v u} J rv q=>⟨v,H',J.os,J.bare,J.base,J.aT,rv,q⟩
 cases fl with
 | ret u =>
  obtain ⟨v,az,H',J,rv,q⟩:=hs
  exact fin J rv q
 | next =>
  obtain ⟨az,H',J,q⟩:=hs
  exact fin (v:=V.aG) (u:=l9) J rfl q
 | brk =>
  obtain ⟨_,_,_,q⟩:=hs
  exact cV q
 | cont =>
  obtain ⟨_,_,_,q⟩:=hs
  exact cV q
end L2
namespace L2
open PySem PySem.Spec PyProof.Rows
section
variable {X:Cx}{x:Str}{p pos:Pos}{e:Expr}{es:List Expr}{t:TA}{id T:String}{r:List V->Hp->VK->Prop}
def OI(r:List V->Hp->VK->Prop)(t:TA):TE:=λσ H Q=>t σ H λvs H1=>r vs H1 Q
theorem tP(hc:cF X (.builtin id) r)(hg:Gl X x)(hm:X.mg x=none)(hv:bootBuiltins x=some (.builtin id))(ha:PA X (e::es) t)(hn:x ≠ "__name__":=by decide)(gv:(x==("__debug__":Str))=false:=by decide)
  (he:starEach (e::es) X.env=(false,eval e X.env)::starEach es X.env:=by rfl)(dG:(backTo pos (starEach es X.env)).any (·.1)=false:=by rfl):PE X (.Call (.Name x p) (e::es) [] pos) (OI r t):=by
 intro pins s σ H Q I h
 refine xt (tJ I hg hm hv ?_ hn gv)
 exact PyProof.Rows.callWith_builtin1 (be (ha pos pins s σ H _ I h) λus s1 ⟨vs,H1,I1,r1,q1⟩=>hc pins s1 σ H1 vs us Q I1 r1 q1) he dG
theorem TK(hc:cF X (.type T) r)(hg:Gl X x)(hm:X.mg x=none)(hv:bootBuiltins x=some (.type T))(ha:PA X (e::es) t)(hn:x ≠ "__name__":=by decide)(gv:(x==("__debug__":Str))=false:=by decide)
  (he:starEach (e::es) X.env=(false,eval e X.env)::starEach es X.env:=by rfl)(dG:(backTo pos (starEach es X.env)).any (·.1)=false:=by rfl):PE X (.Call (.Name x p) (e::es) [] pos) (OI r t):=by
 intro pins s σ H Q I h
 refine xt (tJ I hg hm hv ?_ hn gv)
 exact EU (be (ha pos pins s σ H _ I h) λus s1 ⟨vs,H1,I1,r1,q1⟩=>hc pins s1 σ H1 vs us Q I1 r1 q1) he dG
end
end L2
namespace HT
open PySem PyProof.Rows
def lexLt:List Int->List Int->Bool
 | [],[]=>false
 | [],_::_=>true
 | _::_,[]=>false
 | x::xs,y::ys=>if x=y then lexLt xs ys else decide (x<y)
theorem dB(x y:Int)(xs ys:List Int):lexLt (x::xs) (y::ys)=if x=y then lexLt xs ys else decide (x<y):=rfl
theorem iL:lexLt [] []=false:=rfl
theorem gR(y:Int)(ys:List Int):lexLt [] (y::ys)=true:=rfl
theorem gS(x:Int)(xs:List Int):lexLt (x::xs) []=false:=rfl
theorem j8(A:Around)(s:Shared)(a:Int)(t:Tok)(c:Int)(u:Tok)(prog:Program)(w:World)(E:Value->Shared->Prop)(Q:Value->Shared->Prop)(h:Q (.bool (decide (a<c))) s):
  wpAny (model prog w) A (richCompare .Lt (.int a t) (.int c u)) Q E s:=
 (PyProof.Rows.lt_int h:wpAny (model prog w) A (compareOp .Lt (.int a t) (.int c u)) Q E s)
section
open PySem.SeqAt
open PySem.AutoSeq1 (wpAny_loadPart')
open PySem.MeetsSeq PySem.MeetsSeq2 PySem.MeetsSeq3
end
section
variable {prog:Program}{w:World}{A:Around}{E:Value->Shared->Prop}{s:Shared}
theorem rF(ht:IsTup s.heap t vs.toArray)(hb:IsTup s.heap b ws.toArray)(hv:vs≠[])
  (h1:ws=[]->Q (.ref t) s)(h2:ws≠[]->Q (.ref s.heap.objs.size) { s with heap:=s.heap.push { cls:=.type "tuple",data:=.seq (vs++ws).toArray } })
  (hsz:vs.length+ws.length<=sizeLine):wpAny (model prog w) A (binaryOp .Add (.ref t) (.ref b)) Q E s:=by
 obtain ⟨⟨cls,dd,data,sl⟩,ho,hc,n,hd⟩:=id ht
 obtain ⟨⟨rC,kD,data2,jP⟩,jB,lx,n2,hd2⟩:=id hb
 simp only at hc hd lx hd2
 subst hc hd lx hd2
 have e:vs.toArray++ws.toArray=(vs++ws).toArray:=by simp
 by_cases hw:ws=[]
 .exact Eb ⟨_,ho,rfl⟩ ⟨_,jB,rfl⟩ Kl JY KL Kz (KC _ _)
   (tuple_addW1 t b vs.toArray ws.toArray n n2 dd kD sl jP (by simpa using hv) (by simp [hw])) ⟨ho,jB,h1 hw⟩
 .refine Eb ⟨_,ho,rfl⟩ ⟨_,jB,rfl⟩ Kl JY KL Kz (KC _ _)
   (tuple_addW2 t b vs.toArray ws.toArray n n2 dd kD sl jP (by simpa using hv) (by simpa using hw) (by rw [dZ,dZ];exact hsz)) ⟨ho,jB,?_⟩
  rw [e]
  exact h2 hw
def bz(n d:Nat):Option Int->Nat
 | none=>d
 | some v=>if v<0 then (v+(n:Int)).toNat else min v.toNat n
theorem mx(n d k:Nat):bz n d (some (k:Int))=min k n:=by
 show (if (k:Int)<0 then ((k:Int)+(n:Int)).toNat else min (k:Int).toNat n)=min k n
 rw [if_neg (by ext),xn]
theorem b7T(n d:Nat)(hd:d<=n)(o:Option Int):bz n d o<=n:=by
 cases o with
 | none=>exact hd
 | some v =>
  show (if v<0 then (v+(n:Int)).toNat else min v.toNat n)<=n
  by_cases hv:v<0
  .rw [if_pos hv];ext hv
  .rw [if_neg hv];exact Nat.min_le_right _ _
theorem Sb(v:Int)(n d:Nat):(if v<0 then max (v+(n:Int)) 0 else min v (n:Int))=((bz n d (some v):Nat):Int):=by
 show (if v<0 then max (v+(n:Int)) 0 else min v (n:Int))=(((if v<0 then (v+(n:Int)).toNat else min v.toNat n):Nat):Int)
 by_cases hv:v<0
 .simp only [if_pos hv];ext
 .simp only [if_neg hv];ext hv
theorem b0E(lo hi:Option Int)(n:Nat):KE lo hi 1 (n:Int)=(((bz n 0 lo:Nat):Int),((bz n n hi:Nat):Int)):=by
 have h1:¬((1:Int)<0):=by decide
 unfold KE
 simp only [h1,if_false]
 refine Prod.ext ?_ ?_
 .cases lo with
  | none=>rfl
  | some v=>exact Sb v n 0
 .cases hi with
  | none=>rfl
  | some v=>exact Sb v n n
theorem b0e(i j:Nat):E4 (i:Int) (j:Int) 1=j-i:=by
 unfold E4
 have h1:(1:Int)>0:=by decide
 simp only [h1,if_true,Int.ediv_one]
 split<;>lia
theorem Ux(p:IsPart v o)(h:Q o s):wpAny (model prog w) A (Builtin.Slice.slicePartIndex v) Q E s:=by
 cases p with
 | none=>exact slicePart_none h
 | int i t=>exact slicePart_int h
theorem a4T{lo hi:Option Int}{n:Nat}(hs:s.heap.IsSliceOf sl vl vu .none)(pl:IsPart vl lo)(pu:IsPart vu hi)
  (h:Q (((bz n 0 lo:Nat):Int),1,bz n n hi-bz n 0 lo) s):wpAny (model prog w) A (Ql (.ref sl) (pure (n:Int))) Q E s:=by
 obtain ⟨os,uI,D0,DZ⟩:=id hs
 unfold Ql Builtin.Slice.sliceFields
 refine aq (aq (ma uI DZ (x:=vl) rfl (aq (ma uI DZ (x:=vu) rfl (aq (ma uI DZ (x:=.none) rfl (bp ?_)))))))
 refine aq (slicePart_none ?_)
 show wpAny _ _ (if ((1:Int)==0)=true then _ else _) _ _ s
 rw [if_neg (by decide)]
 refine aq (Ux pl (aq (Ux pu (aq (bp ?_)))))
 show wpAny _ _ (match KE lo hi 1 (n:Int) with | (lo,hi)=>pure (lo,(1:Int),E4 lo hi 1)) _ _ s
 rw [b0E lo hi n]
 show wpAny _ _ (pure (((bz n 0 lo:Nat):Int),(1:Int),E4 ((bz n 0 lo:Nat):Int) ((bz n n hi:Nat):Int) 1)) _ _ s
 rw [b0e]
 exact bp h
theorem b22(xs:Array Value)(i k:Nat):((fq k).filterMap λ(m:Nat)=>xs[((i:Int)+(m:Int)*1).toNat]?).toArray=((xs.toList.drop i).take k).toArray:=by
 have e:(λ(m:Nat)=>xs[((i:Int)+(m:Int)*1).toNat]?)=λm=>xs[i+m]?:=by
  funext m
  have:((i:Int)+(m:Int)*1).toNat=i+m:=by ext
  rw [this]
 rw [e]
 have:=pick_run xs i k
 rw [List.filterMap_map] at this
 have e2:((λx=>xs[x]?)∘λx=>i+x)=λm=>xs[i+m]?:=rfl
 rw [e2] at this
 rw [this]
theorem fB{items:Array Value}{lo hi:Option Int}(ht:IsTup s.heap t items)(hs:s.heap.IsSliceOf sl vl vu .none)(pl:IsPart vl lo)(pu:IsPart vu hi)
  (hw:¬(bz items.size 0 lo=0/\bz items.size items.size hi=items.size))
  (h:Q (.ref s.heap.objs.size) { s with heap:=s.heap.push { cls:=.type "tuple",data:=.seq ((items.toList.drop (bz items.size 0 lo)).take (bz items.size items.size hi-bz items.size 0 lo)).toArray } })
  (hsz:items.size<=sizeLine):wpAny (model prog w) A (getItem (.ref t) (.ref sl)) Q E s:=by
 have mI:sizeOk (.seq ((items.toList.drop (bz items.size 0 lo)).take (bz items.size items.size hi-bz items.size 0 lo)).toArray):=by
  show ((items.toList.drop (bz items.size 0 lo)).take (bz items.size items.size hi-bz items.size 0 lo)).toArray.size<=sizeLine
  rw [dZ,jk,nE,gE]
  ext hsz
 have hj:bz items.size items.size hi<=items.size:=b7T _ _ (bA _) hi
 obtain ⟨os,uI,D0,DZ⟩:=id hs
 have uV:s.TypeIs (.ref sl) "slice":=⟨os,uI,D0⟩
 unfold getItem
 try with_reducible refine nD ?_
 first | refine aq (bp ?_) | skip
 refine aq (wpAny_sequenceKey ht.typeIs (by decide) ?_)
 refine aq (BX (name:=tu "__getitem__") ht.typeIs EW
  (xh EW ht.typeIs entry_tuple_getitem ?_ (args_tuple_getitem _ _)))
 show wpAny _ _ (Builtin.Tuple.tupleItemsOf (.ref t) >>= _) _ _ s
 refine aq (tupleItemsOf_ ht ?_)
 refine aq (wpAny_typeOf uV ?_)
 rw [if_pos (by decide)]
 refine aq (a4T hs pl pu ?_)
 have ZD:¬((((bz items.size 0 lo:Nat):Int)==0&&(1:Int)==1&&(bz items.size items.size hi-bz items.size 0 lo)==items.size)=true):=by
  intro q
  rw [vk,vk] at q
  have q1:((bz items.size 0 lo:Nat):Int)=0:=eq_of_beq q.1.1
  have q2:bz items.size items.size hi-bz items.size 0 lo=items.size:=eq_of_beq q.2
  exact hw ⟨by ext q1,by ext q1 q2⟩
 show wpAny _ _ (if (((bz items.size 0 lo:Nat):Int)==0&&(1:Int)==1&&(bz items.size items.size hi-bz items.size 0 lo)==items.size)=true then _ else _) _ _ s
 rw [if_neg ZD,b22]
 first
  | exact aq (m:=E2 _) (rK (bp ⟨_,rfl,bp h⟩) mI)
  | exact aq (m:=E2 _) (rK (aq (bp (bp ⟨_,rfl,bp h⟩))) mI)
  | exact aq (aq (m:=E2 _) (rK (bp (bp ⟨_,rfl,bp h⟩)) mI))
  | exact aq (aq (m:=E2 _) (rK (bp ⟨_,rfl,bp h⟩) mI))
end
end HT
namespace L2
open PySem PySem.Spec PyProof.Rows
abbrev TO:=St->Hp->(Option Int->Hp->Prop)->Prop
def PO(X:Cx)(e:Option Expr)(t:TO):Prop:=
 ∀(pins:List (Addr×Obj)) (s:Shared) (σ:St) (H:Hp) (Q:Option Int->Hp->Prop),Inv X pins σ H s->t σ H Q ->
  wpAny (model X.prog X.w) X.A (evalPart e X.env) (λu s'=>∃o H',Inv X pins σ H' s'/\IsPart u o/\Q o H') X.xe s
def b5m:TO:=λ_ H Q=>Q none H
def yP(t:TE):TO:=λσ H Q=>t σ H λx H1=>∃i,x=.int i/\Q (some i) H1
section
variable {X:Cx}{e:Expr}{te:TE}{lo hi:Option Expr}{tl th:TO}{pos p2:Pos}
theorem b5E:PO X none b5m:=by
 intro pins s σ H Q I h
 rw [evalPart_none]
 exact bp ⟨none,H,I,.none,h⟩
theorem b5D(h:PE X e te):PO X (some e) (yP te):=by
 intro pins s σ H Q I hw
 rw [evalPart_some]
 refine be (h pins s σ H _ I hw) λu s1 ⟨x,H1,I1,r1,q1⟩=>?_
 obtain ⟨i,rfl,q⟩:=q1
 obtain ⟨t,rfl⟩:=r1
 exact ⟨some i,H1,I1,.int i t,q⟩
def wa(X:Cx)(r:V->Option Int->Option Int->Hp->VK->Prop):Prop:=
 ∀(pins:List (Addr×Obj)) (s:Shared) (σ:St) (H:Hp) (x:V) (v vl vu:Value) (lo hi:Option Int) (sl:Addr) (Q:VK),Inv X pins σ H s->RelV x v->s.heap.IsSliceOf sl vl vu .none->IsPart vl lo->IsPart vu hi->r x lo hi H Q ->
  ∃T id,typeLookup (.type T) "__getitem__" = pure (some (.builtin id))/\s.TypeIs v T/\wpAny (model X.prog X.w) X.A (getItem v (.ref sl)) (EP X pins σ Q) X.xe s
theorem wa.or(h:wa X r)(h':wa X r'):wa X (λx lo hi H Q=>r x lo hi H Q\/r' x lo hi H Q):=by
 intro pins s σ H x v vl vu lo hi sl Q I rx hs pl pu q
 rcases q with q | q
 .exact h pins s σ H x v vl vu lo hi sl Q I rx hs pl pu q
 .exact h' pins s σ H x v vl vu lo hi sl Q I rx hs pl pu q
def VI(r:V->Option Int->Option Int->Hp->VK->Prop)(te:TE)(tl th:TO):TE:=λσ H Q=>te σ H λx H1=>tl σ H1 λl H2=>th σ H2 λu H3=>r x l u H3 Q
theorem b26(hr:wa X r)(he:PE X e te)(hl:PO X lo tl)(hu:PO X hi th):PE X (.Subscript e (.Slice lo hi none p2) pos) (VI r te tl th):=by
 intro pins s σ H Q I h
 refine Subscript_ (be (he pins s σ H _ I h) λv s1 ⟨x,H1,I1,r1,q1⟩=>?_)
 refine wpAny_Slice (be (hl pins s1 σ H1 _ I1 q1) λvl s2 ⟨l,H2,I2,pl,q2⟩=>be (hu pins s2 σ H2 _ I2 q2) λvu s3 ⟨u,H3,I3,pu,q3⟩=>?_)
 rw [evalPart_none]
 refine bp ?_
 have I4:Inv X pins σ H3 { s3 with heap:=s3.heap.push { cls:=.type "slice",data:=.fields #[vl,vu,.none] } }:=I3.kept (t':=s3.toks) λb ob q=>bP _ q
 obtain ⟨T,id,hT,ht,hg⟩:=hr pins { s3 with heap:=s3.heap.push { cls:=.type "slice",data:=.fields #[vl,vu,.none] } } σ H3 x v vl vu l u s3.heap.objs.size Q I4 r1 (Heap.IsSliceOf.new ..) pl pu q3
 show wpAny (model X.prog X.w) X.A (subscriptTail e (.Slice lo hi none p2) v (.ref s3.heap.objs.size)) (EP X pins σ Q) X.xe { s3 with heap:=s3.heap.push { cls:=.type "slice",data:=.fields #[vl,vu,.none] } }
 exact tail_any (ops:=[.ref s3.heap.objs.size,v]) ht hT hg (by with_unfolding_all rfl)
def kE(xs:List V)(lo hi:Option Int):List V:=(xs.drop (HT.bz xs.length 0 lo)).take (HT.bz xs.length xs.length hi-HT.bz xs.length 0 lo)
theorem Uu(xs:List V)(lo hi:Option Int):(kE xs lo hi).length<=xs.length:=by
 unfold kE
 rw [jk,nE]
 ext
def Hv(K:aC):V->Option Int->Option Int->Hp->VK->Prop:=λx lo hi H Q=>∃a xs,x=.ref a/\fj K H a xs /\
 ¬(HT.bz xs.length 0 lo=0/\HT.bz xs.length xs.length hi=xs.length)/\∀p,H p=none->Q (.ref p) (upd H p (.tup (kE xs lo hi)))
theorem b7S:wa X (Hv X.K):=by
 intro pins s σ H x v vl vu lo hi sl Q I rx hs pl pu h
 obtain ⟨a,xs,rfl,hx,hw,q⟩:=h
 cases rx
 obtain ⟨av,r,ht,hz⟩:=I.tuple hx
 have hlen:av.toArray.size=xs.length:=by rw [dZ];exact r.length.symm
 refine ⟨"tuple",_,EW.lookup,ht.typeIs,?_⟩
 refine HT.fB ht hs pl pu (by rw [hlen];exact hw) ?_ (by rw [hlen];exact hz)
 rw [hlen]
 refine ⟨.ref s.heap.objs.size,_,I.laid (t':=s.toks) (o:=.tup (kE xs lo hi)) (λb ob q=>bP _ q) (bA _) ?_,rfl,q _ (I.aT.fresh (bA _))⟩
 exact ⟨dY (Uu xs lo hi) hz,_,(r.drop (HT.bz xs.length 0 lo)).take (HT.bz xs.length xs.length hi-HT.bz xs.length 0 lo),IsTup.new _ _⟩
def zj(K:aC):R2:=λx y H Q=>∃a b xs ys,x=.ref a/\y=.ref b/\fj K H a xs/\fj K H b ys/\xs≠[]/\xs.length+ys.length<=sizeLine /\
 (ys=[]->Q (.ref a) H)/\(ys≠[]->∀p,H p=none->Q (.ref p) (upd H p (.tup (xs++ys))))
theorem au.eE(r:au xs us):us=[]↔xs=[]:=by
 cases r with
 | nil=>simp
 | cons _ _=>simp
theorem qU:fJ X (binaryOp .Add) (zj X.K):=by
 intro pins s σ H x y v u Q I rx ry h
 obtain ⟨a,b,xs,ys,rfl,rfl,ha,hb,hx,hz,q1,q2⟩:=h
 cases rx
 cases ry
 obtain ⟨av,r1,p1,_⟩:=I.tuple ha
 obtain ⟨eJ,r2,p2,_⟩:=I.tuple hb
 refine HT.rF p1 p2 (λz=>hx (r1.eE.mp z)) (λz=>⟨.ref a,H,I,rfl,q1 (r2.eE.mp z)⟩) (λz=>?_) (by rw [<-r1.length,<-r2.length];exact hz)
 refine ⟨.ref s.heap.objs.size,_,I.laid (t':=s.toks) (o:=.tup (xs++ys)) (λb ob q=>bP _ q) (bA _) ?_,rfl,q2 (λw=>z (r2.eE.mpr w)) _ (I.aT.fresh (bA _))⟩
 exact ⟨by rw [dq];exact hz,_,r1.append r2,IsTup.new _ _⟩
end
end L2
namespace L2
open PySem PySem.Spec PyProof.Rows
def jg(n:Nat)(i:Int):Option Nat:=if 0<=i then (if i<n then some i.toNat else none) else if -(n:Int)<=i then some (i+n).toNat else none
def eH{α:Type}(xs:List α)(i:Int):Option α:=(jg xs.length i).bind λj=>xs[j]?
theorem RN(h:jg n i=some j):seqIndex? i n=some j/\j<n /\ -(n:Int)<=i/\i<n:=by
 unfold jg at h
 by_cases h0:0<=i
 .rw [if_pos h0] at h
  by_cases h1:i<n
  .rw [if_pos h1] at h
   have e:i.toNat=j:=dk h
   exact ⟨by rw [seqIndex_of h0 h1,e],by ext h0 h1 e,by ext h0,h1⟩
  .rw [if_neg h1] at h;cases h
 .rw [if_neg h0] at h
  by_cases h1:-(n:Int)<=i
  .rw [if_pos h1] at h
   have e:(i+n).toNat=j:=dk h
   exact ⟨by rw [seqIndex_neg (by ext h0) h1,e],by ext h0 h1 e,h1,by ext h0⟩
  .rw [if_neg h1] at h;cases h
theorem L9{α:Type}{xs:List α}{i:Int}{v:α}(h:eH xs i=some v):∃j,seqIndex? i xs.length=some j/\xs[j]?=some v/\j<xs.length /\ -(xs.length:Int)<=i/\i<xs.length:=by
 unfold eH at h
 cases e:jg xs.length i with
 | none=>rw [e] at h;cases h
 | some j =>
  rw [e] at h
  obtain ⟨h1,h2,h3,h4⟩:=RN e
  exact ⟨j,h1,h,h2,h3,h4⟩
theorem c7{α:Type}{xs:List α}{j:Nat}{v:α}(h:xs[j]?=some v):eH xs (j:Int)=some v:=by
 have hj:j<xs.length:=(iB.mp h).1
 have e:jg xs.length (j:Int)=some j:=by
  unfold jg
  rw [if_pos (by ext),if_pos (by ext hj)];simp
 unfold eH;rw [e];exact h
theorem fF{α:Type}(xs:List α)(v:α):eH (xs++[v]) (-1)=some v:=by
 have hl:(xs++[v]).length=xs.length+1:=by simp
 have e:jg (xs++[v]).length (-1)=some xs.length:=by
  unfold jg
  rw [hl,if_neg (by decide),if_pos (by ext)]
  congr 1
  ext
 unfold eH
 rw [e]
 show (xs++[v])[xs.length]?=some v
 simp
def RJ(b:Expr):Prop:=∀o i,subscripted b false o i=operate [o,i] (getItem o i)
def sf(X:Cx)(r:R2):Prop:=
 ∀(value slice:Expr) (pins:List (Addr×Obj)) (s:Shared) (σ:St) (H:Hp) (x y:V) (v u:Value) (Q:VK),Inv X pins σ H s->RelV x v->RelV y u->r x y H Q ->
  subscripted slice false v u=operate [v,u] (getItem v u)->wpAny (model X.prog X.w) X.A (subscriptTail value slice v u) (EP X pins σ Q) X.xe s
def yz(X:Cx)(id:String)(r:V->List V->Hp->VK->Prop):Prop:=
 ∀(pins:List (Addr×Obj)) (s:Shared) (σ:St) (H:Hp) (x:V) (xs:List V) (v:Value) (us:List Value) (Q:VK),Inv X pins σ H s->RelV x v->au xs us->r x xs H Q ->
  wpAny (model X.prog X.w) X.A (call (.builtin id) (v::us)) (EP X pins σ Q) X.xe s
section
variable {X:Cx}{a b:Expr}{ta tb:TE}{pos:Pos}
theorem sf.or(h:sf X r)(h':sf X r'):sf X (λx y H Q=>r x y H Q\/r' x y H Q):=by
 intro value slice pins s σ H x y v u Q I rx ry q hs
 rcases q with q | q
 .exact h value slice pins s σ H x y v u Q I rx ry q hs
 .exact h' value slice pins s σ H x y v u Q I rx ry q hs
theorem yz.or{id:String}{r r':V->List V->Hp->VK->Prop}(h:yz X id r)(h':yz X id r'):yz X id (λx xs H Q=>r x xs H Q\/r' x xs H Q):=by
 intro pins s σ H x xs v us Q I rx rs q
 rcases q with q | q
 .exact h pins s σ H x xs v us Q I rx rs q
 .exact h' pins s σ H x xs v us Q I rx rs q
theorem zw(hr:sf X r)(ha:PE X a ta)(hb:PE X b tb)(hs:RJ b):PE X (.Subscript a b pos) (yQ r ta tb):=by
 intro pins s σ H Q I h
 exact Subscript_ (vI ha hb I h λv u s2 x y H2 I2 rx ry q=>hr a b pins s2 σ H2 x y v u Q I2 rx ry q (hs _ _))
def zh(K:aC):R2:=λx y H Q=>∃p xs i v,x=.ref p/\y=.int i/\dR K H p xs/\eH xs i=some v/\Q v H
def zf(K:aC):R2:=λx y H Q=>∃p xs i v,x=.ref p/\y=.int i/\fj K H p xs/\eH xs i=some v/\Q v H
def zg:R2:=λx y H Q=>∃z i c,x=.str z/\y=.int i/\z.length<=sizeLine/\eH z.cps.toList i=some c/\Q (.str ⟨#[c]⟩) H
theorem qY:sf X (zh X.K):=by
 intro value slice pins s σ H x y v u Q I rx ry h hs
 obtain ⟨p,xs,i,z,rfl,rfl,hq,he,q⟩:=h
 cases rx
 obtain ⟨t,rfl⟩:=ry
 obtain ⟨av,r,pl,hz⟩:=I.list hq
 obtain ⟨j,h1,h2,h3,h4,h5⟩:=L9 he
 obtain ⟨w,ew,qS⟩:=r.get h2
 have hl:=r.length
 have hn:=vL
 have fin:EP X pins σ Q w s:=⟨z,H,I,qS,q⟩
 by_cases h0:0<=i
 .have hj:i.toNat=j:=by
   rw [seqIndex_of h0 h5] at h1
   exact dk h1
  exact item_listR pl.isList h0 (by ext hz h5 hn) (by rw [hj];simpa using ew) fin hs
 .have hj:(i+(av.toArray.size:Int)).toNat=j:=by
   rw [seqIndex_neg (Ej.mp ‹_›) h4] at h1
   rw [dZ,<-hl]
   exact dk h1
  exact subscriptTail_builtinR (x:=w) pl.isList.typeIs slot_list_getitem.lookup
   (wpAny_getItem_list_neg (Q:=λr s'=>r=w/\EP X pins σ Q r s') pl.isList (Ej.mp ‹_›) (by rw [dZ]<;>lia) (by lia) (by rw [hj];simpa using ew) ⟨rfl,fin⟩) hs
theorem uB:sf X (zf X.K):=by
 intro value slice pins s σ H x y v u Q I rx ry h hs
 obtain ⟨p,xs,i,z,rfl,rfl,hq,he,q⟩:=h
 cases rx
 obtain ⟨t,rfl⟩:=ry
 obtain ⟨av,r,pl,hz⟩:=I.tuple hq
 obtain ⟨j,h1,h2,h3,h4,h5⟩:=L9 he
 obtain ⟨w,ew,qS⟩:=r.get h2
 have hl:=r.length
 have hn:=vL
 have fin:EP X pins σ Q w s:=⟨z,H,I,qS,q⟩
 exact subscriptTail_builtinR (x:=w) pl.typeIs EW.lookup
  (getItem_tuple (j:=j) (Q:=λr s'=>r=w/\EP X pins σ Q r s') pl (by (clear he hs h1 h2 h5 ew;omega)) (by (clear he hs h1 h2 h4 ew;omega)) (by rw [dZ,<-hl];exact h1) (by simpa using ew) ⟨rfl,fin⟩) hs
theorem b8A:sf X zg:=by
 intro value slice pins s σ H x y v u Q I rx ry h hs
 obtain ⟨z,i,c,rfl,rfl,hz,he,q⟩:=h
 obtain ⟨t,rfl⟩:=rx
 obtain ⟨t',rfl⟩:=ry
 obtain ⟨j,h1,h2,h3,h4,h5⟩:=L9 he
 have hl:z.cps.toList.length=z.length:=by simp [Str.length]
 rw [hl] at h1 h4 h5
 have hn:=vL
 exact tail_any (typeIs_str s z t) slot_str_getitem.lookup (getItem_str (c:=c) (by
  have e1:decide (i < -(2^63:Int))=false:=decide_eq_false (by lia)
  have e2:decide (i≥2^63)=false:=decide_eq_false (by lia)
  rw [e1,e2,Bool.or_false]) (by rw [h1];simpa using h2) ⟨.str ⟨#[c]⟩,H,I.tok _,⟨_,rfl⟩,q⟩) hs
def Wx(K:aC):R2:=λx y H Q=>zh K x y H Q\/zf K x y H Q\/zg x y H Q
theorem b8B:sf X (Wx X.K):=qY.or (uB.or b8A)
theorem b0q(av:List Value)(n j:Nat)(u:Value):fL (·.setIfInBounds j u) { cls:=.type "list",data:=.seq av.toArray n }={ cls:=.type "list",data:=.seq (av.set j u).toArray n }:=by
 simp [fL]
theorem Inv.lst{pins:List (Addr×Obj)}{σ:St}{H:Hp}{s:Shared}{p:Addr}{xs:List V}(I:Inv X pins σ H s)(h:H p=some (.lst xs)):
  ∃(av:List Value) (n:Nat),au xs av/\s.heap.get? p=some { cls:=.type "list",data:=.seq av.toArray n }/\xs.length<=sizeLine:=by
 obtain ⟨z,av,n,r,e⟩:=I.aT p _ h
 exact ⟨av,n,r,e,z⟩
theorem Inv.uy{pins:List (Addr×Obj)}{σ:St}{H:Hp}{s:Shared}{p:Addr}{xs ys:List V}{av its':List Value}{n n':Nat}{f:Obj->Obj}(I:Inv X pins σ H s)(h:H p=some (.lst xs))
  (ho:s.heap.get? p=some { cls:=.type "list",data:=.seq av.toArray n })(hf:f { cls:=.type "list",data:=.seq av.toArray n }={ cls:=.type "list",data:=.seq its'.toArray n' })(r:au ys its')(hz:ys.length<=sizeLine)(t:Nat):
  Inv X pins σ (upd H p (.lst ys)) { s with heap:=s.heap.update p f,toks:=t }:=by
 have e:(s.heap.update p f).get? p=some { cls:=.type "list",data:=.seq its'.toArray n' }:=by
  rw [E5 f ho (by rw [hf]<;>rfl),hf]
 refine I.write (x:=p) (e:=p) (by rw [h];trivial) (.inl rfl) (λb u hb q=>(oj _ _ (fE hb)).trans q) ⟨_,e⟩ ?_
 exact ⟨hz,its',n',r,e⟩
def ze:V->V->V->Hp->(Hp->Prop)->Prop:=λo i v H Q=>∃p xs k j,o=.ref p/\i=.int k/\H p=some (.lst xs)/\jg xs.length k=some j/\Q (upd H p (.lst (xs.set j v)))
theorem SN:wb X ze:=by
 intro pins s σ H o i v ov iv u Q I ro ri rv h
 obtain ⟨p,xs,k,j,rfl,rfl,hp,hj,q⟩:=h
 cases ro
 obtain ⟨t,rfl⟩:=ri
 obtain ⟨av,n,r,ho,hz⟩:=I.lst hp
 obtain ⟨h1,h2,h3,h4⟩:=RN hj
 have hl:=r.length
 have hn:=vL
 have I':Inv X pins σ (upd H p (.lst (xs.set j v))) { s with heap:=s.heap.update p (fL (·.setIfInBounds j u)) }:=
  I.uy hp ho (b0q av n j u) (r.set rv j) (by rw [BM];exact hz) s.toks
 by_cases h0:0<=k
 .have hk:k.toNat=j:=by
   rw [seqIndex_of h0 h4] at h1
   exact dk h1
  exact PySem.W.ki_setAt ho h0 (by lia) (by rw [dZ,<-hl];exact h4) (by rw [hk];exact ⟨_,I',q⟩)
 .have hk:(k+(av.toArray.size:Int)).toNat=j:=by
   rw [seqIndex_neg (Ej.mp ‹_›) h3] at h1
   rw [dZ,<-hl]
   exact dk h1
  exact PySem.W.ki_setBack ho (Ej.mp ‹_›) (by rw [dZ,<-hl];exact h3) (by lia) (by rw [hk];exact ⟨_,I',q⟩)
theorem a7r(lo hi:Option Int)(n:Nat):(sliceBounds lo hi none n).1=((HT.bz n 0 lo:Nat):Int)/\(sliceBounds lo hi none n).2.1=((HT.bz n n hi:Nat):Int)/\(sliceBounds lo hi none n).2.2=1:=by
 refine ⟨?_,?_,rfl⟩
 .cases lo with
  | none=>simp [sliceBounds,HT.bz]
  | some i =>
   simp only [sliceBounds,HT.bz,Qi,show (1:Int)>0 by decide,if_true]
   by_cases h:i<0
   .simp only [h,if_true]<;>lia
   .simp only [h,if_false]<;>lia
 .cases hi with
  | none=>simp [sliceBounds,HT.bz]
  | some i =>
   simp only [sliceBounds,HT.bz,Qi,show (1:Int)>0 by decide,if_true]
   by_cases h:i<0
   .simp only [h,if_true]<;>omega
   .simp only [h,if_false]<;>omega
theorem a6p(av:List Value)(lo hi:Option Int):slicePick av.toArray lo hi none=((av.drop (HT.bz av.length 0 lo)).take (HT.bz av.length av.length hi-HT.bz av.length 0 lo)).toArray:=by
 obtain ⟨h1,h2,h3⟩:=a7r lo hi av.toArray.size
 unfold slicePick
 rw [h1,h2,h3]
 simp only [sliceRange_one,pick_run,dZ]<;>rfl
def Hw(K:aC):V->Option Int->Option Int->Hp->VK->Prop:=λx lo hi H Q=>∃a xs,x=.ref a/\dR K H a xs/\∀p,H p=none->Q (.ref p) (upd H p (.lst (kE xs lo hi)))
theorem qQ:wa X (Hw X.K):=by
 intro pins s σ H x v vl vu lo hi sl Q I rx hs pl pu h
 obtain ⟨a,xs,rfl,hx,q⟩:=h
 cases rx
 obtain ⟨av,r,ht,hz⟩:=I.list hx
 have hlen:=r.length
 refine ⟨"list",_,slot_list_getitem.lookup,ht.isList.typeIs,?_⟩
 refine wpAny_getItem_list_slice ht.isList hs pl pu .none (by simp) ?_ (by rw [dZ]<;>lia)
 rw [a6p,<-hlen]
 refine ⟨.ref s.heap.objs.size,_,I.laid (t':=s.toks) (o:=.lst (kE xs lo hi)) (λb ob q=>bP _ q) (bA _) ?_,rfl,q _ (I.aT.fresh (bA _))⟩
 exact ⟨dY (Uu xs lo hi) hz,_,0,(r.drop (HT.bz xs.length 0 lo)).take (HT.bz xs.length xs.length hi-HT.bz xs.length 0 lo),ft _ rfl⟩
theorem a8e:cF X (.builtin "len") (λxs H Q=>∃p ys,xs=[.ref p]/\(dR X.K H p ys\/fj X.K H p ys)/\Q (.int ys.length) H):=by
 intro pins s σ H xs us Q I r h
 obtain ⟨p,ys,rfl,hq,q⟩:=h
 obtain ⟨u,rfl,rx⟩:=vals1 r
 cases rx
 have hn:=vL
 rcases hq with hq | hq
 .obtain ⟨av,r',pl,hz⟩:=I.list hq
  have hlen:=r'.length
  exact Calls.call_len_list pl.isList (by simp only [dZ]<;>lia) ⟨.int ys.length,H,I.tok _,⟨s.toks+1,by rw [dZ,hlen]⟩,q⟩
 .obtain ⟨av,r',pl,hz⟩:=I.tuple hq
  have hlen:=r'.length
  exact len_tuple pl (by simp only [dZ]<;>omega) ⟨.int ys.length,H,I.tok _,⟨s.toks+1,by rw [dZ,hlen]⟩,q⟩
theorem cF.or(h:cF X f r)(h':cF X f r'):cF X f (λxs H Q=>r xs H Q\/r' xs H Q):=by
 intro pins s σ H xs us Q I rs q
 rcases q with q | q
 .exact h pins s σ H xs us Q I rs q
 .exact h' pins s σ H xs us Q I rs q
theorem a66:cF X (.type "tuple") (λxs H Q=>∃p ys,xs=[.ref p]/\((dR X.K H p ys/\∀l,H l=none->Q (.ref l) (upd H l (.tup ys)))\/(fj X.K H p ys/\Q (.ref p) H))):=by
 intro pins s σ H xs us Q I r h
 obtain ⟨p,ys,rfl,h⟩:=h
 obtain ⟨u,rfl,rx⟩:=vals1 r
 cases rx
 rcases h with ⟨hq,q⟩ | ⟨hq,q⟩
 .obtain ⟨av,r',pl,hz⟩:=I.list hq
  have hlen:=r'.length
  refine call_tuple_list pl.isList (λh' kp=>?_) (by simp only [dZ]<;>omega)
  have I1:Inv X pins σ H { s with heap:=h' }:=I.kept (t':=s.toks) kp
  have I2:Inv X pins σ (upd H h'.objs.size (.tup ys)) { s with heap:=h'.push { cls:=.type "tuple",data:=.seq av.toArray } }:=
   I1.laid (t':=s.toks) (λb o e=>bP _ e) (bA _) (show cL X.prog X.w _ _ _ (.tup ys) from ⟨hz,av,r',IsTup.new _ _⟩)
  exact ⟨.ref h'.objs.size,_,I2,rfl,q _ (I1.aT.fresh (bA _))⟩
 .obtain ⟨av,r',pl,hz⟩:=I.tuple hq
  exact call_tuple_same pl ⟨.ref p,H,I,rfl,q⟩
def G2(K:aC)(T:String)(x:V)(H:Hp):Prop:=match x with
 | .str _=>T = "str"
 | .int _=>T = "int"
 | .ref p=>(T = "list" /\ ∃xs,dR K H p xs)\/(T = "tuple" /\ ∃o,K.lookup p=some o/\o.cls=.type "tuple" /\ o.dict=none) \/
   (T = "dict" /\ ((∃bw,H p=some (.dK bw))\/∃bw,H p=some (.dT bw)))\/(T = "set" /\ ∃S n,H p=some (.set S n))
 | _=>False
theorem Rx{pins:List (Addr×Obj)}{σ:St}{H:Hp}{s:Shared}{T:String}{x:V}{v:Value}(I:Inv X pins σ H s)(r:RelV x v)(ty:G2 X.K T x H):
  s.TypeIs v T/\∀a,v=.ref a->∃ob,s.heap.get? a=some ob/\ob.dict=none:=by
 cases x with
 | str z =>
  obtain ⟨t,rfl⟩:=r
  cases (show T = "str" from ty)
  exact ⟨typeIs_str s z t,λ_ e=>nomatch e⟩
 | int i =>
  obtain ⟨t,rfl⟩:=r
  cases (show T = "int" from ty)
  exact ⟨typeIs_int s i t,λ_ e=>nomatch e⟩
 | ref p =>
  cases r
  rcases ty with ⟨rfl,xs,hq⟩ | ⟨rfl,o,hk,hc,hd⟩ | ⟨rfl,hk⟩ | ⟨rfl,S,n,hk⟩
  .obtain ⟨av,_,pl,_⟩:=I.list hq
   refine ⟨pl.isList.typeIs,λa e=>?_⟩
   cases e
   obtain ⟨o,n,e,c,hd,_⟩:=pl
   exact ⟨o,e,hd⟩
  .refine ⟨⟨o,I.mF p o hk,hc⟩,λa e=>?_⟩
   cases e
   exact ⟨o,I.mF _ o hk,hd⟩
  .have z:∃o,s.heap.get? p=some o/\o.ExactDict:=by
    rcases hk with ⟨bw,hk⟩ | ⟨bw,hk⟩
    .obtain ⟨_,_,_,_,o,_,_,e,ex,_⟩:=I.aT p _ hk
     exact ⟨o,e,ex⟩
    .obtain ⟨_,_,_,_,o,_,_,e,ex,_⟩:=I.aT p _ hk
     exact ⟨o,e,ex⟩
   obtain ⟨o,e,ex⟩:=z
   refine ⟨⟨o,e,ex.1⟩,λa e2=>?_⟩
   cases e2
   exact ⟨o,e,ex.2.1⟩
  .obtain ⟨o,_,_,_,e,ex,_⟩:=I.aT p _ hk
   refine ⟨⟨o,e,ex.1⟩,λa e2=>?_⟩
   cases e2
   exact ⟨o,e,ex.2.1⟩
 | _=>exact cV ty
def Ha(K:aC)(T:String)(r:V->List V->Hp->VK->Prop)(to:TE):TE:=λσ H Q=>to σ H λx H1=>G2 K T x H1/\r x [] H1 Q
def VM(K:aC)(T:String)(r:V->List V->Hp->VK->Prop)(to:TE)(t:TA):TE:=λσ H Q=>to σ H λx H1=>G2 K T x H1/\t σ H1 λxs H2=>r x xs H2 Q
variable {o e:Expr}{es:List Expr}{to:TE}{t:TA}{name:Str}{apos aR:Pos}{T id:String}{r:V->List V->Hp->VK->Prop}
theorem b8d(pa:PlainAttrs T)(slot:Slot T name id)(uE:typeOf (.builtin id)=pure (.type "method_descriptor"))(hm:yz X id r)(ho:PE X o to)
  (cE:attributeBase o name X.env (eval o X.env)=eval o X.env:=by rfl)(cD:(apos.endLine==aR.line)=true:=by rfl):PE X (.Call (.Attribute o name apos) [] [] aR) (Ha X.K T r to):=by
 intro pins s σ H Q I h
 refine wpAny_Call_method0_late cE cD (be (ho pins s σ H _ I h) λv s1 ⟨x,H1,I1,r1,ty,q1⟩=>?_)
 obtain ⟨h1,h2⟩:=Rx I1 r1 ty
 exact ⟨T,id,pa,slot,uE,h1,h2,Qx rfl (PySem.evalArgs_none (hm pins s1 σ H1 x [] v [] Q I1 r1 .nil q1))⟩
theorem QK(pa:PlainAttrs T)(slot:Slot T name id)(uE:typeOf (.builtin id)=pure (.type "method_descriptor"))(hm:yz X id r)(ho:PE X o to)(ha:PA X (e::es) t)
  (cE:attributeBase o name X.env (eval o X.env)=eval o X.env:=by rfl)
  (gW:((backTo aR (starEach (e::es) X.env)).all (λx=>!x.1)&&(backToKw aR (keywordEach [] X.env)).all (λx=>x.1.isSome)
   && decide ((e::es).length+([]:List Keyword).length+(if ([]:List Keyword).isEmpty then 0 else 1)<30))=true:=by rfl)
  (cD:(apos.endLine==aR.line)=true:=by rfl)(hs:starEach (e::es) X.env=(false,eval e X.env)::starEach es X.env:=by rfl)(uH:(backTo aR (starEach es X.env)).any (·.1)=false:=by rfl):
  PE X (.Call (.Attribute o name apos) (e::es) [] aR) (VM X.K T r to t):=by
 intro pins s σ H Q I h
 refine wpAny_Call_method_late cE gW cD rfl (be (ho pins s σ H _ I h) λv s1 ⟨x,H1,I1,r1,ty,q1⟩=>?_)
 obtain ⟨h1,h2⟩:=Rx I1 r1 ty
 refine ⟨T,id,pa,slot,uE,h1,h2,?_⟩
 have hA:=ha aR pins s1 σ H1 _ I1 q1
 rw [hs] at hA ⊢
 refine Qx (by show (false||(backTo aR (starEach es X.env)).any (·.1))=false;rw [uH]<;>rfl) (P0 ?_)
 exact be hA λus s2 ⟨vs,H2,I2,r2,q2⟩=>hm pins s2 σ H2 x vs v us Q I2 r1 r2 q2
end
end L2
namespace L2
open PySem PySem.Spec PyProof.Rows
def NX(X:Cx)(id:String)(r:V->List V->Hp->VK->Prop):Prop:=
 ∀(pins:List (Addr×Obj)) (s:Shared) (σ:St) (H:Hp) (x:V) (xs:List V) (v:Value) (us:List Value) (Q:VK),Inv X pins σ H s->RelV x v->au xs us->r x xs H Q ->
  wpAny (model X.prog X.w) X.A (call (.builtin id) (v::us)) (EP X pins σ Q) X.xe s
theorem au.one:∀{x:V} {us:List Value},au [x] us->∃u,us=[u]/\RelV x u
 | _,_,.cons r .nil=>⟨_,rfl,r⟩
theorem au.two:∀{x y:V} {us:List Value},au [x,y] us->∃u v,us=[u,v]/\RelV x u/\RelV y v
 | _,_,_,.cons r (.cons q .nil)=>⟨_,_,rfl,r,q⟩
theorem au.zero:∀{us:List Value},au [] us->us=[]
 | _,.nil=>rfl
theorem au.dropLast(h:au xs us):au xs.dropLast us.dropLast:=by
 induction h with
 | nil=>exact .nil
 | cons r t ih =>
  cases t with
  | nil=>exact .nil
  | cons q t'=>exact .cons r ih
theorem au.eraseIdx:∀{xs:List V} {us:List Value} (i:Nat),au xs us->au (xs.eraseIdx i) (us.eraseIdx i)
 | _,_,_,.nil=>.nil
 | _,_,0,.cons _ t=>t
 | _,_,i+1,.cons r t=>.cons r (au.eraseIdx i t)
theorem au.reverse(h:au xs us):au xs.reverse us.reverse:=by
 induction h with
 | nil=>exact .nil
 | cons r t ih=>rw [List.reverse_cons,List.reverse_cons];exact au.append ih (.cons r .nil)
theorem b0z{α:Type}(l:List α):l.eraseIdx (l.length-1)=l.dropLast:=by
 induction l with
 | nil=>rfl
 | cons a r ih =>
  cases r with
  | nil=>rfl
  | cons b r =>
   have e:(a::b::r).length-1=((b::r).length-1)+1:=by
    have h1:(a::b::r).length=r.length+2:=rfl
    have h2:(b::r).length=r.length+1:=rfl
    assumption
   rw [e,List.eraseIdx_cons_succ,ih]
   all_goals rfl
section
variable {X:Cx}{pins:List (Addr×Obj)}{σ:St}{H:Hp}{s:Shared}{l b:Addr}{xs ys zs:List V}
theorem Inv.uz{av its':List Value}{n:Nat}{t':Nat}(I:Inv X pins σ H s)(hH:H l=some (.lst xs))
  (e:s.heap.get? l=some { cls:=.type "list",data:=.seq av.toArray n })(hf:f av.toArray=its'.toArray)(hv:au ys its')(hz:ys.length<=sizeLine):
  Inv X pins σ (upd H l (.lst ys)) { s with heap:=s.heap.update l (fL f),toks:=t' }:=by
 have q:=PySem.IsL.update e f
 rw [hf] at q
 refine I.write (x:=l) (e:=l) (by rw [hH];exact trivial) (.inl rfl) (λb' u hb hu=>(oj s.heap (fL f) (fE hb)).trans hu) ⟨_,q⟩ ?_
 exact ⟨hz,its',_,hv,q⟩
theorem Inv.z7(I:Inv X pins σ H s)(hv:au ys av)(hz:ys.length<=sizeLine):
  Inv X pins σ (upd H s.heap.objs.size (.lst ys)) { s with heap:=s.heap.push { cls:=.type "list",data:=.seq av.toArray },toks:=t' }:=
 I.laid (λ_ _ q=>bP _ q) (bA _) ⟨hz,av,0,hv,ft _ rfl⟩
theorem Inv.fresh(I:Inv X pins σ H s):H s.heap.objs.size=none:=I.aT.fresh (bA _)
theorem Inv.nh(I:Inv X pins σ H s)(hH:H l=some (.lst xs)):xs.length<=sizeLine/\∃(av:List Value) (n:Nat),au xs av/\xs.length=av.length/\s.heap.get? l=some { cls:=.type "list",data:=.seq av.toArray n }:=by
 obtain ⟨z,av,n,r,e⟩:=I.aT l _ hH
 exact ⟨z,av,n,r,r.length,e⟩
theorem b3i(h:n<=sizeLine):KA n=false:=by
 unfold KA
 exact decide_eq_false (Nat.not_lt.mpr ‹_›)
end
section
variable {X:Cx}
def b5w:V->List V->Hp->VK->Prop:=λx vs H Q=>∃l xs y,x=.ref l/\vs=[y]/\H l=some (.lst xs)/\xs.length<sizeLine/\Q .aG (upd H l (.lst (xs++[y])))
theorem b1j:NX X "list.append" b5w:=by
 intro pins s σ H x vs v us Q I rx rv h
 obtain ⟨l,xs,y,rfl,rfl,hH,hz,q⟩:=h
 cases rx
 obtain ⟨u,rfl,ru⟩:=rv.one
 obtain ⟨z,av,n,r,hl,e⟩:=I.nh hH
 refine call_meets P8 ⟨_,e,rfl⟩ F.entry_list_append (F.args_list_append_2 _ _) (PySem.list_append l av.toArray n u (by rw [dZ];lia)) ⟨e,?_⟩
 refine ⟨.aG,_,I.uz (its':=av++[u]) hH e (by simp) (r.append (.cons ru .nil)) ?_,rfl,q⟩
 rw [dq,KJ]
 assumption
def b5v:V->List V->Hp->VK->Prop:=λx vs H Q=>∃l b xs zs,x=.ref l/\vs=[.ref b]/\H l=some (.lst xs)/\H b=some (.lst zs)/\xs.length+zs.length<=sizeLine/\Q .aG (upd H l (.lst (xs++zs)))
theorem b1i:NX X "list.extend" b5v:=by
 intro pins s σ H x vs v us Q I rx rv h
 obtain ⟨l,b,xs,zs,rfl,rfl,hH,hB,hz,q⟩:=h
 cases rx
 obtain ⟨u,rfl,ru⟩:=rv.one
 cases ru
 obtain ⟨z,av,n,r,hl,e⟩:=I.nh hH
 obtain ⟨z2,eJ,n2,r2,iM,e2⟩:=I.nh hB
 have hsz:av.toArray.size+eJ.toArray.size<=sizeLine:=by rw [dZ,dZ];lia
 have AE:¬(!av.toArray.isEmpty&&KA (av.toArray.size+eJ.toArray.size))=true:=by
  rw [b3i hsz,Bool.and_false]
  exact fY
 refine call_meets P7 ⟨_,e,rfl⟩ F.entry_list_extend (F.args_list_extend_2 _ _)
  (AutoSeq1.list_extend_list_list_0 l av.toArray n b eJ.toArray n2 AE (by rw [dZ];exact U7 ‹_›) (dY ‹_› (by decide))) ⟨e,e2,?_⟩
 refine ⟨.aG,_,I.uz (its':=av++eJ) hH e (by simp) (r.append r2) ?_,rfl,q⟩
 rw [dq]
 assumption
def Hy:V->List V->Hp->VK->Prop:=λx vs H Q=>∃l xs y,x=.ref l/\vs=[]/\H l=some (.lst xs)/\xs[xs.length-1]?=some y/\Q y (upd H l (.lst xs.dropLast))
theorem b8p:NX X "list.pop" Hy:=by
 intro pins s σ H x vs v us Q I rx rv h
 obtain ⟨l,xs,y,rfl,rfl,hH,hy,q⟩:=h
 cases rx
 have Zo:=rv.zero
 subst Zo
 obtain ⟨z,av,n,r,hl,e⟩:=I.nh hH
 obtain ⟨u,hu,ru⟩:=r.get hy
 have Ig:av.toArray[av.toArray.size-1]?=some u:=by
  show av.toArray[av.length-1]?=some u
  rw [<-tw,<-hl]
  exact hu
 refine call_meets Qb ⟨_,e,rfl⟩ F.entry_list_pop (F.args_list_pop_1 _) (MeetsSeq.list_pop_last l av.toArray n u Ig (by rw [dZ];lia)) ⟨e,?_⟩
 refine ⟨y,_,I.uz (its':=av.dropLast) hH e ?_ r.dropLast ?_,ru,q⟩
 .show av.toArray.eraseIdxIfInBounds (av.toArray.size-1)=av.dropLast.toArray
  rw [dZ,List.eraseIdxIfInBounds_toArray,b0z]
 .rw [List.length_dropLast]
  exact U6 ‹_›
def HA:R2:=λx y H Q=>∃l b xs zs,x=.ref l/\y=.ref b/\H l=some (.lst xs)/\H b=some (.lst zs)/\xs.length+zs.length<=sizeLine/\∀p,H p=none->Q (.ref p) (upd H p (.lst (xs++zs)))
theorem uk:fJ X (binaryOp .Add) HA:=by
 intro pins s σ H x y v u Q I rx ry h
 obtain ⟨l,b,xs,zs,rfl,rfl,hH,hB,hz,q⟩:=h
 cases rx
 cases ry
 obtain ⟨z,av,n,r,hl,e⟩:=I.nh hH
 obtain ⟨z2,eJ,n2,r2,iM,e2⟩:=I.nh hB
 refine PySem.P.add_list e e2 ?_ (by rw [dZ,dZ];omega)
 have ea:av.toArray++eJ.toArray=(av++eJ).toArray:=by simp
 rw [ea]
 exact ⟨.ref _,_,I.z7 (t':=s.toks) (r.append r2) (by rw [dq];assumption),rfl,q _ I.fresh⟩
end
section
variable {prog:Program}{w:World}{A:Around}{E:Value->Shared->Prop}{s:Shared}
end
section
variable {X:Cx}
end
end L2
namespace GJ
open PySem PySem.W PySem.Calls PyProof.Rows
theorem a5x:∀(ns:List Int) (vs:List Value),WellAll P h vs (ns.map Ew)->IntsAre vs ns:=by
 intro ns
 induction ns with
 | nil =>
  intro vs w
  rw [BH] at w
  cases w
  exact .nil
 | cons n ns ih =>
  intro vs w
  rw [kM] at w
  cases w with
  | cons a b =>
   cases a
   exact .cons _ _ (ih _ b)
theorem je{l:OpenLaw}{n:Nat}(hn:l.most=some n){h:Heap}
  (fT:l.row.toRowW.claim.pre args=true)(Au:WellAll P h vals args):
  ∃a vs ns,vals=[jS a]/\args=[PL (ns.map Ew)]/\h.get? a=some { cls:=.type "list",data:=.seq vs.toArray }/\IntsAre vs ns/\ns.length<=n:=by
 have Zt:WShape.hasAll [] args [.list .int]=true:=(pre_splitW fT).1
 have hc:l.pre.holds [] { args:=args }=true:=(pre_splitW fT).2
 obtain ⟨d,r,rfl,h1,h2⟩:=hasAllW_cons Zt
 obtain rfl:=hasAllW_nil h2
 obtain ⟨xs,rfl,h3⟩:=hasW_list h1
 obtain ⟨ns,rfl⟩:=items_int h3
 have hlen:ns.length<=n:=by
  unfold OpenLaw.pre at hc
  have h4:(WTm.not (.lt (.lit (.int (n:Int))) (.len (.arg 0)))).holds [] { args:=[.list (ns.map .int)] }=true:=by
   have h4:=(holds_andW hc).1
   rw [hn] at h4
   exact h4
  have h5:=condW_of h4 (w_not (w_lt w_lit (w_len_list (w_arg rfl))))
  rw [cj] at h5
  refine Kw λq=>?_
  have q':(n:Int)<((ns.length:Nat):Int):=by exact Int.ofNat_lt.mpr ‹_›
  first
   | (rw [decide_eq_true q'] at h5;exact absurd h5 (by decide))
   | (simp at h5;omega)
 cases Au with
 | cons w1 w2 =>
  cases w2
  cases w1 with
  | list ho g0=>exact ⟨_,_,ns,rfl,rfl,ho,a5x ns _ g0,hlen⟩
theorem jf(l:OpenLaw)(args:List WData):l.row.toRowW.claim.post args (.bool true) args=true:=
 postW_of (r:=l.row.toRowW) (X:=(true==true))
  (show WShape.has [] (.bool true) .bool=true by first | rfl | decide | simp [WShape.has,WShape.arms,WShape.armsAll])
  (show (WTm.eq .res (.lit (.bool true))).value [] { args:=args,res:=some (.bool true),after:=args }=some (.bool (true==true)) from w_eq_bool (w_res rfl) w_lit) rfl
theorem kN{l:OpenLaw}{n:Nat}{loose:List Str}{d:DefRec}
  (hn:l.most=some n)(A3:d.params.defaults=[])
  (call:∀(w:World) (bF aM:Shared) (mg mb:Str->Option Value) (fa:Addr) (o:Obj) (pm cd doc:Value) (a:Addr) (vs:List Value) (ns:List Int),
   Ground q loose [] XP w bF mg mb aM.heap->YP w aM.heap ->
   aM.heap.get? fa=some o->o.data=.func (docDef d.name d.params d.body d.scope pm cd doc)->aM.heap.CodeRec cd d.name->mg d.name=some (.ref fa) ->
   aM.heap.get? a=some { cls:=.type "list",data:=.seq vs.toArray }->IntsAre vs ns->ns.length<=n->aM.gens=#[] ->
   codeAny (model l.prog w) callerA (.call (.ref fa) ⟨[.ref a],[]⟩) (λr s'=>r=.ok (.ret (.bool true))/\OldK aM.heap s'.heap/\s'.os=aM.os/\AllBare s'.gens) aM):
  WalkO q loose XP YP l.row.toRowW d [] (λf vs=>JI f vs):=by
 intro w bF aM mg mb G Y fa o pm cd doc dV kV ho hd bW hD uL hg args vals as fT AH Zv Au AF
 obtain rfl:dV=.none:=Dflts.none hD A3
 obtain rfl:kV=.none:=Dflts.noKw hD
 obtain ⟨a,vs,ns,rfl,rfl,oW,hints,hlen⟩:=je hn fT Au
 refine enter_call (w6 (call w bF aM mg mb fa o pm cd doc a vs ns G Y ho (fd_plain hd) bW uL oW hints hlen hg) λr s' hq=>?_)
 obtain ⟨rfl,h2,h3,h4⟩:=hq
 exact ⟨.inl ⟨.bool true,.bool true,[],rfl,λ_=>rfl,.bool true,jf l _,λ_=>⟨EN,λ_ hm=>(nomatch hm)⟩⟩,h2,h3,h4⟩
section
variable {prog:Program}{w:World}{A:Around}{E:Value->Shared->Prop}{s:Shared}{K:Frag}
def ledger(h:Heap)(L d:Addr):List (Addr×Obj):=(fq h.objs.size).filterMap λa=>if a=L\/a=d then none else (h.get? a).map λo=>(a,o)
end
end GJ
namespace L2
open PySem PySem.Spec PyProof.Rows
theorem TY:∀{vs:List Value} {ns:List Int},IntsAre vs ns->au (ns.map V.int) vs
 | _,_,.nil=>.nil
 | _,_,.cons n t h=>.cons ⟨t,rfl⟩ (TY h)
theorem T5{α:Type}{c:Prop}[Decidable c]{a b:α}(h:(if c then some a else none)=some b):c/\a=b:=by
 by_cases hc:c
 .rw [if_pos hc] at h;exact ⟨hc,dk h⟩
 .rw [if_neg hc] at h;cases h
def dC:Str:="dealt.<locals>.<lambda>"
def Tb(K:aC)(H:Hp):Prop:=∀c P,mR K "dealt" = some (c,P)->H P=some (.tab dC)
def Fd(K:aC)(ts:List Addr):Bool:=match mR K "dealt" with
 | some (c,P)=>EI K c P&&(K.lookup P).isNone&&ts.contains P
 | none=>true
theorem Tq{P:Program}{w:World}{K:aC}{mg mb:Str->Option Value}{CX:m7}{k:Nat}{fa a:Addr}{fd:FuncData}{x:Str}{sp:Sp}{aM:Shared}{vs:List Value}{ns:List Int}{ts:List Addr}
  (KX:K.In aM.heap)(p6:aM.heap.Ns mainGlobals mg)(hb:aM.heap.Ns builtinsNs mb)(D2:∀x:Str,x ≠ "__name__" -> mb x=bootBuiltins x)(IH:aM.heap.NoLimit)(hg:aM.gens=#[])
  (ZU:∃bm ob,mg "__builtins__" = some (.ref bm)/\bm≠builtinsNs/\aM.heap.get? bm=some ob/\ob.cls=.type "module" /\ ob.dict=some builtinsNs/\ob.data=.plain)
  (hL:Fd K ts=true)(uV:∀P∈ts,aM.heap.get? P=some (w4 #[]))
  (ha:aM.heap.get? a=some { cls:=.type "list",data:=.seq vs.toArray })(hi:IntsAre vs ns)(hl:ns.length<=sizeLine)(hr:bh k callerA)
  (F:∀base:Heap,K.In base->base.Ns mainGlobals mg->bG P w K mg base CX k fa fd [x] sp)(gZ:∀(s:Shared) (u:Value),BindsTo s fd ⟨[u],[]⟩ [(x,u)])
  (pZ:∀H:Hp,Tb K H->dR K H a (ns.map V.int)->sp [.ref a] H (λv H'=>v=.bl true/\Tb K H') λ_ _ _=>False)
  (Jj:∀H e s',CX [] H aM (λ_ _ _=>False) e s'->False):
  codeAny (model P w) callerA (.call (.ref fa) ⟨[.ref a],[]⟩) (λr s'=>r=.ok (.ret (.bool true))/\OldK aM.heap s'.heap/\s'.os=aM.os/\AllBare s'.gens) aM:=by
 have rv:=TY hi
 have HP:=hi.length
 have tabs:∀c P,mR K "dealt" = some (c,P)->EI K c P=true/\K.lookup P=none/\aM.heap.get? P=some (w4 #[]):=λc P e=>by
  unfold Fd at hL
  rw [e] at hL
  simp only [vk,Option.isNone_iff_eq_none,List.contains_iff_mem] at hL
  exact ⟨hL.1.1,hL.1.2,uV P hL.2⟩
 have core:∀H:Hp,Tb K H->dR K H a (ns.map V.int)->fu P w H aM.heap->(∀b,H b≠none->(b=a/\∃o xs,H b=some (.fV o (.lst xs)))\/∃c,mR K "dealt" = some (c,b))->(H a≠none->K.lookup a=none) ->
   codeAny (model P w) callerA (.call (.ref fa) ⟨[.ref a],[]⟩) (λr s'=>r=.ok (.ret (.bool true))/\OldK aM.heap s'.heap/\s'.os=aM.os/\AllBare s'.gens) aM:=by
  intro H hO hS aT hA hK
  have jI:∀{b:Addr} {o:Obj},aM.heap.get? b=some o->H b=none->(jC aM.heap H).get? b=some o:=λe n=>b3E e n
  have OW:∀{b:Addr} {o:Obj},aM.heap.get? b=some o->(∀xs n,o.data≠.seq xs n)->(∀xs,o.data=.fields xs->o.cls≠.none)->H b=none:=λ{b o} e d d2=>by
   cases q:H b with
   | none=>rfl
   | some u =>
    rcases hA b (by rw [q];simp) with ⟨e',_⟩ | ⟨c,e'⟩
    .subst e'
     rw [ha] at e;cases e
     exact absurd rfl (d _ _)
    .rw [(tabs c b e').2.2] at e;cases e
     exact absurd rfl (d2 _ rfl)
  have DG:∀{b:Addr} {m:Str->Option Value},aM.heap.Ns b m->(jC aM.heap H).Ns b m:=λ{b m} ⟨o,es,ep,e,d,r⟩=>⟨o,es,ep,jI e (OW e (λ_ _ z=>by rw [d] at z;cases z) λ_ z=>by rw [d] at z;cases z),d,r⟩
  have Pq:K.In (jC aM.heap H):=λb o e=>jI (KX b o e) (by
   cases q:H b with
   | none=>rfl
   | some u =>
    rcases hA b (by rw [q];simp) with ⟨e',_⟩ | ⟨c,e'⟩
    .subst e'
     rw [hK (by rw [q];simp)] at e;cases e
    .rw [(tabs c b e').2.1] at e;cases e)
  have hM:Mod K mg (jC aM.heap H):=⟨Pq,DG p6,⟨mb,DG hb,D2⟩,let ⟨mc,h1,h2⟩:=IH;⟨mc,DG h1,h2⟩,let ⟨bm,ob,b1,b2,b3,b4,b5,b6⟩:=ZU;⟨bm,ob,b1,b2,jI b3 (OW b3 (λ_ _ z=>by rw [b6] at z;cases z) λ_ z=>by rw [b6] at z;cases z),b4,b5,b6⟩⟩
  have e0:iu P w K mg (jC aM.heap H) callerA [] aM H:=⟨rfl,hM,λb o e=>b5S e,Nat.le_of_eq (b1G _ _),trivial,λb hb=>absurd (show b∈([]:List Addr) from hb) (by simp),aT,.of_eq hg⟩
  refine w6 ((F _ Pq (DG p6)).run callerA [] aM H ⟨[.ref a],[]⟩ [.ref a] [.ref a] _ _ hr e0 (gZ aM (.ref a)) (.cons rfl .nil) (pZ H hO hS)) λr s' h=>?_
  cases r with
  | error e=>exact (Jj H e s' h).elim
  | ok fl =>
   cases fl with
   | next=>exact cV h
   | brk=>exact cV h
   | cont=>exact cV h
   | ret u =>
    obtain ⟨v,H',os,bare,un,AA,r',q,qT⟩:=h
    subst q
    obtain rfl:u=wW true:=r'
    have old:∀b o,aM.heap.get? b=some o->s'.heap.get? b=some o\/∃c ps,mR K "dealt" = some (c,b)/\s'.heap.get? b=some (w4 ps):=λb o e=>by
     cases q:H b with
     | none=>exact .inl (un.keep b o e q (by intro z;exact absurd (show b∈([]:List Addr) from z) (by simp)) (by simp))
     | some u =>
      rcases hA b (by rw [q];simp) with ⟨_,ob,xs,z⟩ | ⟨c,e'⟩
      .have z2:=un.dE b ob _ z
       obtain ⟨e1,_⟩:=aT b _ z
       obtain ⟨e2,_⟩:=AA b _ z2
       rw [e] at e1;cases e1
       exact .inl e2
      .obtain ⟨ps,e2,_⟩:=AA b _ (qT c b e')
       exact .inr ⟨c,ps,e',e2⟩
    refine ⟨rfl,⟨λb o e=>?_,λb o e=>?_⟩,os,bare⟩
    .rcases old b o e with z | ⟨c,ps,e',z⟩
     .exact .inl z
     .obtain ⟨t1,_,t3⟩:=tabs c b e'
      rw [t3] at e;cases e
      exact .inr (.inl ⟨((PySem.W.codeHd_of_K KX t1).tab t3).isCodeTable,rfl,#[],ps,rfl,by rw [Array.empty_append];exact z⟩)
    .rcases old b o e with z | ⟨c,ps,e',z⟩
     .exact ⟨o,z⟩
     .exact ⟨_,z⟩
 have OV:∀(H:Hp) (b:Addr),(∃c,mR K "dealt" = some (c,b))->cL P w H aM.heap b (.tab dC):=λH b ⟨c,e⟩=>⟨#[],(tabs c b e).2.2,trivial,λpos cv h=>by simp [codeAmong] at h⟩
 have OY:∀c b,mR K "dealt" = some (c,b)->b≠a:=λc b e z=>by
  have:=(tabs c b e).2.2
  rw [z,ha] at this
  cases this
 cases hk:K.lookup a with
 | some o =>
  have e:=KX a o hk
  rw [ha] at e
  cases e
  refine core (λb=>if (mR K "dealt").map (·.2)=some b then some (.tab dC) else none) (λc b e=>if_pos (by rw [e];rfl)) (.inr ⟨_,vs.toArray,_,hk,rfl,rfl,rfl,by rw [dZ,HP];exact hl,by simpa using rv⟩) (λb u z=>?_) (λb z=>?_) λz=>?_
  .obtain ⟨hc,rfl⟩:=(T5 z)
   obtain ⟨⟨c,b'⟩,e,rfl⟩:=BW.mp hc
   exact OV _ _ ⟨c,e⟩
  .by_cases hc:(mR K "dealt").map (·.2)=some b
   .obtain ⟨⟨c,b'⟩,e,rfl⟩:=BW.mp hc
    exact .inr ⟨c,e⟩
   .exact absurd (if_neg hc) z
  .by_cases hc:(mR K "dealt").map (·.2)=some a
   .obtain ⟨⟨c,b'⟩,e,e2⟩:=BW.mp hc
    exact absurd e2 (OY c b' e)
   .exact absurd (if_neg hc) z
 | none =>
  refine core (λb=>if b=a then some (.fV { cls:=.type "list",data:=.seq vs.toArray } (.lst (ns.map V.int))) else if (mR K "dealt").map (·.2)=some b then some (.tab dC) else none) (λc b e=>by show (if b=a then _ else _)=_;rw [if_neg (OY c b e),if_pos (by rw [e];rfl)]) (.inl (.inr ⟨{ cls:=.type "list",data:=.seq vs.toArray },if_pos rfl⟩)) (λb u z=>?_) (λb z=>?_) λ_=>hk
  .by_cases hb:b=a
   .have z':=(if_pos hb).symm.trans z
    cases z'
    subst hb
    exact ⟨ha,by rw [cj];exact hl,vs,_,rv,ha⟩
   .obtain ⟨hc,rfl⟩:=T5 ((if_neg hb).symm.trans z)
    obtain ⟨⟨c,b'⟩,e,rfl⟩:=BW.mp hc
    exact OV _ _ ⟨c,e⟩
  .by_cases hb:b=a
   .exact .inl ⟨hb,_,_,if_pos hb⟩
   .by_cases hc:(mR K "dealt").map (·.2)=some b
    .obtain ⟨⟨c,b'⟩,e,rfl⟩:=BW.mp hc
     exact .inr ⟨c,e⟩
    .exact absurd ((if_neg hb).trans (if_neg hc)) z
end L2
namespace L2
open PySem PySem.Spec PyProof.Rows
abbrev KOf{K:aC}{h:Heap}(_:K.In h):aC:=K
theorem Du{l:JS}{n k:Nat}{q:Program}{loose:List Str}{XP:(Str->Option Value)->Heap->Prop}{YP:World->Heap->Prop}{d:DefRec}{K:Params->aC}{CX:World->m7}{sp:World->Sp}{x:Str}{ts:List Addr}
  (hn:l.most=some n)(ZF:n<=sizeLine)(A3:d.params.defaults=[])(hr:bh k callerA)
  (hY:∀(w:World) (h:Heap),YP w h->(K w.params).In h/\∀P∈ts,h.get? P=some (w4 #[]))(hL:∀w:World,Fd (K w.params) ts=true)
  (F:∀(w:World) (mg:Str->Option Value) (fa:Addr) (h:Heap),(K w.params).In h->h.Ns mainGlobals mg->mg d.name=some (.ref fa) ->
   ∃fd:FuncData,(∀(s:Shared) (u:Value),BindsTo s fd ⟨[u],[]⟩ [(x,u)]) /\
    ∀base:Heap,(K w.params).In base->base.Ns mainGlobals mg->bG l.prog w (K w.params) mg base (CX w) k fa fd [x] (sp w))
  (pZ:∀(w:World) (H:Hp) (a:Addr) (ns:List Int),ns.length<=n->Tb (K w.params) H->dR (K w.params) H a (ns.map V.int)->sp w [.ref a] H (λv H'=>v=.bl true/\Tb (K w.params) H') λ_ _ _=>False)
  (Jj:∀(w:World) (H:Hp) (s:Shared) (e:Value) (s':Shared),CX w [] H s (λ_ _ _=>False) e s'->False):
  PySem.W.WalkO q loose XP YP l.row.toRowW d [] (λf vs=>JI f vs):=by
 refine GJ.kN hn A3 λw bF aM mg mb fa o pm cd doc a vs ns G Y ho hd bW uL oW hints hlen hg=>?_
 obtain ⟨KX,uV⟩:=hY w _ Y
 obtain ⟨fd,hb,hF⟩:=F w mg fa _ KX G.T.g uL
 exact Tq KX G.T.g G.T.b G.T.builtins G.T.nolimit hg G.T.bmain (hL w) uV oW hints (dY hlen ZF) hr hF hb (λH hO hS=>pZ w H a ns hlen hO hS) λH e s'=>Jj w H aM e s'
end L2
namespace L2
open PySem PySem.Spec PyProof.Rows
def jY(s:Stmt):Arguments:=match s with
 | .FunctionDef _ a _ _ _ _ _ _ _ _=>a
 | _=>{ posonlyargs:=[],args:=[],vararg:=none,kwonlyargs:=[],kw_defaults:=[],kwarg:=none,defaults:=[] }
def fZ(s:Stmt):List Stmt:=match s with
 | .FunctionDef _ _ b _ _ _ _ _ _ _=>b
 | _=>[]
def du(s:Stmt):Scope:=match s with
 | .FunctionDef _ _ _ _ _ _ sc _ _ _=>sc
 | _=>{ kind:=.function,names:=[],isGenerator:=false,isCoroutine:=false }
abbrev jc:m7:=λ_ _ _ _ _ _=>False
abbrev E0:XK:=λ_ _ _=>False
theorem zy:Lh jc X E0:=λ_ _ _ _ _ _ _ h=>h.elim
structure qH(K:aC)(x qual:Str)(st:Stmt)(f:Addr)(fd:FuncData):Prop where
 ex:∃(oc:Value) (od:Option Addr) (kV doc pm:Value) (an:Option Addr) (cX ct:Value) (pU:Array (Option Value)),
  fd=jl x qual (jY st) (fZ st) (du st) .none kV doc pm an cX ct/\K.lookup f=some ⟨oc,od,.func fd,pU⟩/\Em K cX qual=true
 kp:tm K (.ref f)=true
section
variable {P:Program}{w:World}{K:aC}{mg:Str->Option Value}{base:Heap}
theorem qH.ok{x qual:Str}{st:Stmt}{f:Addr}{fd:FuncData}{N ps:List Str}{k:Nat}{sp:Sp}(F:qH K x qual st f fd)(S:bQ N ps (du st))(len:∀vs H Q E,sp vs H Q E->vs.length=ps.length)
  (bo:∀(cX:Value) (A:Around) (outer:List Env) (s:Shared) (H:Hp) (vs:List V) (Q:VK) (E:XK),bh k (A.deeper (envOfC qual (du st) s.heap.objs.size f cX))->sp vs H Q E ->
   ∃t,mq (eN jc P w K mg base N qual (du st) f cX A outer s H E).cP (fZ st) t/\t { nx:=λ_ H'=>Q .aG H',rt:=Q } (start N vs) H):bG P w K mg base jc (k+1) f fd ps sp:=by
 obtain ⟨oc,od,kV,doc,pm,an,cX,ct,pU,rfl,lk,bW⟩:=F.ex
 refine K5 lk bW S len λA outer s H vs Q E hr pZ=>?_
 obtain ⟨t,h,q⟩:=bo cX A outer s H vs Q E hr pZ
 exact ⟨t,h.cP,q⟩
theorem qH.binds{x qual:Str}{st:Stmt}{f:Addr}{fd:FuncData}{ps:List Str}(F:qH K x qual st f fd)
  (h:∀(kV doc pm:Value) (an:Option Addr) (cX ct:Value) (us:List Value),us.length=ps.length->bindArgs (jl x qual (jY st) (fZ st) (du st) .none kV doc pm an cX ct) ⟨us,[]⟩=pure (ps.zip us)):Binds K fd ps []:=by
 obtain ⟨oc,od,kV,doc,pm,an,cX,ct,pU,rfl,lk,bW⟩:=F.ex
 exact .all (h kV doc pm an cX ct)
theorem Q5{x qual:Str}{st:Stmt}{f:Addr}{oc:Value}{od an:Option Addr}{pU:Array (Option Value)}{kV doc pm cX ct:Value}(l:K.lookup f=some ⟨oc,od,.func (jl x qual (jY st) (fZ st) (du st) .none kV doc pm an cX ct),pU⟩)
  (c:Em K cX qual=true)(k:tm K (.ref f)=true):qH K x qual st f (jl x qual (jY st) (fZ st) (du st) .none kV doc pm an cX ct):=⟨⟨oc,od,kV,doc,pm,an,cX,ct,pU,rfl,l,c⟩,k⟩
end
section
variable {X:Cx}
theorem pv(i:Nat){x:Str}{pos:Pos}(hN:X.N[i]?=some x:=by rfl)(hv:gH X.env.scope x:=by first | exact bJ rfl | exact bg (bJ rfl) | exact bg (bg rfl))(hd:(x==("__debug__":Str))=false:=by decide)
  (bW:(x==("__classdict__":Str))=false:=by decide):PE X (.Name x pos) (yN i):=rQ hN hv hd bW
end
def ao(H H':Hp):Prop:=∀b o,H b=some o->H' b=some o
theorem ao.refl(H:Hp):ao H H:=λ_ _ h=>h
theorem ao.trans(a:ao H H1)(b:ao H1 H2):ao H H2:=λc o h=>b c o (a c o h)
theorem ao.free(e:ao H H')(h:H' l=Option.none):H l=Option.none:=by
 cases q:H l with
 | none=>rfl
 | some o =>
  rw [e l o q] at h
  cases h
theorem ao.seq{K:aC}{H H':Hp}{a:Addr}{xs:List V}(e:ao H H')(h:dR K H a xs):dR K H' a xs:=by
 rcases h with (h | ⟨o,h⟩) | h
 .exact .inl (.inl (e _ _ h))
 .exact .inl (.inr ⟨o,e _ _ h⟩)
 .exact .inr h
end L2
set_option maxHeartbeats 4000000
namespace DL
open PySem PySem.Spec PyProof.Rows L2
section
variable {prog:Program}{w:World}{A:Around}{E:Value->Shared->Prop}{s:Shared}
theorem b3V{ws:List Value}(ht:IsTup s.heap t #[])(hb:IsTup s.heap b ws.toArray)(h1:Q (.ref b) s):wpAny (model prog w) A (binaryOp .Add (.ref t) (.ref b)) Q E s:=by
 obtain ⟨⟨cls,dd,data,sl⟩,ho,hc,n,hd⟩:=id ht
 obtain ⟨⟨rC,kD,data2,jP⟩,jB,lx,n2,hd2⟩:=id hb
 simp only at hc hd lx hd2
 subst hc hd lx hd2
 exact Eb ⟨_,ho,rfl⟩ ⟨_,jB,rfl⟩ Kl JY KL Kz (KC _ _)
   (tuple_addW0 t b #[] ws.toArray n n2 dd kD sl jP rfl) ⟨ho,jB,h1⟩
end
section
variable {X:Cx}
noncomputable def zl(K:aC):R2:=λx y H Q=>∃a b ys,x=.ref a/\y=.ref b/\fj K H a []/\fj K H b ys/\Q (.ref b) H
theorem b5P:fJ X (binaryOp .Add) (zl X.K):=by
 intro pins s σ H x y v u Q I rx ry h
 obtain ⟨a,b,ys,rfl,rfl,ha,hb,q1⟩:=h
 cases rx
 cases ry
 obtain ⟨av,r1,p1,_⟩:=I.tuple ha
 obtain ⟨eJ,r2,p2,_⟩:=I.tuple hb
 cases r1
 exact b3V p1 p2 ⟨.ref b,H,I,rfl,q1⟩
end
end DL
namespace DL
open PySem PySem.Spec PyProof.Rows L2
inductive D where
 | aG | bl (b:Bool) | int (i:Int) | str (x:Str) | tup (ds:List D) | lst (ro:Bool) (ds:List D) | exc (n:Str) | lz (fz:Bool) (bw:List (Int×Int))
 deriving Inhabited
inductive Sl where
 | no | sh (d:D) | ow (ds:List D) | dw (bw:List (Int×Int))
 deriving Inhabited
noncomputable abbrev En:=List Sl
noncomputable def Sl.d:Sl->D
 | .no=>.aG
 | .sh d=>d
 | .ow ds=>.lst false ds
 | .dw bw=>.lz false bw
def h7(p C:Addr)(h:Heap):Prop:=∃o,h.get? p=some o/\o.cls=.ref C
mutual
inductive Is (K:aC) (O:Addr->Prop) (H:Hp):V->D->Prop
 | aG:Is K O H .aG .aG
 | bl (b:Bool):Is K O H (.bl b) (.bl b)
 | int (i:Int):Is K O H (.int i) (.int i)
 | str (x:Str):Is K O H (.str x) (.str x)
 | tup {p:Addr} {xs:List V} {ds:List D} (ho:¬O p) (hp:Rd H p (.tup xs)) (hs:aN K O H xs ds):Is K O H (.ref p) (.tup ds)
 | km {p:Addr} {xs:List V} {ds:List D} (hp:fj K (λ_=>none) p xs) (hs:aN K O H xs ds):Is K O H (.ref p) (.tup ds)
 | lst {p:Addr} {xs:List V} {ds:List D} (ho:¬O p) (hp:H p=some (.lst xs)) (hs:aN K O H xs ds):Is K O H (.ref p) (.lst false ds)
 | j7 {p:Addr} {xs:List V} {ds:List D} (ho:¬O p) (hp:Rd H p (.lst xs)) (hs:aN K O H xs ds):Is K O H (.ref p) (.lst true ds)
 | kn {p:Addr} {xs:List V} {ds:List D} (hp:dR K (λ_=>none) p xs) (hs:aN K O H xs ds):Is K O H (.ref p) (.lst true ds)
 | exc {p C:Addr} {n:Str} (ho:¬O p) (hn:iA K mainGlobals n=some (some (.ref C))) (hp:H p=some (.ext (h7 p C))):Is K O H (.ref p) (.exc n)
 | lz {p:Addr} {bw:List (Int×Int)} (ho:¬O p) (hp:H p=some (.dK (bw.map λq=>(.inl q.1,.int q.2)))):Is K O H (.ref p) (.lz false bw)
 | pz {p:Addr} {bw:List (Int×Int)} {o:Obj} (ho:¬O p) (hp:H p=some (.fV o (.dK (bw.map λq=>(.inl q.1,.int q.2))))):Is K O H (.ref p) (.lz true bw)
inductive aN (K:aC) (O:Addr->Prop) (H:Hp):List V->List D->Prop
 | nil:aN K O H [] []
 | cons {x:V} {d:D} {xs:List V} {ds:List D} (h:Is K O H x d) (t:aN K O H xs ds):aN K O H (x::xs) (d::ds)
end
theorem Rp{O:Addr->Prop}{H H':Hp}(hH:∀q u,H q=some u->¬O q->H' q=some u){p:Addr}{u:HO}(ho:¬O p)(h:Rd H p u):Rd H' p u:=by
 rcases h with h | ⟨o,h⟩
 .exact .inl (hH p u h ho)
 .exact .inr ⟨o,hH p _ h ho⟩
theorem Su(h:Rd H p u):H p≠none:=by
 rcases h with h | ⟨o,h⟩<;>rw [h]<;>exact λz=>nomatch z
theorem CJ{K:aC}{H:Hp}{p:Addr}{xs:List V}(h:dR K (λ_=>none) p xs):dR K H p xs:=by
 rcases h with (h | ⟨o,h⟩) | h
 .cases h
 .cases h
 .exact .inr h
theorem CK{K:aC}{H:Hp}{p:Addr}{xs:List V}(h:fj K (λ_=>none) p xs):fj K H p xs:=by
 rcases h with (h | ⟨o,h⟩) | h
 .cases h
 .cases h
 .exact .inr h
section
variable {K:aC}{O O':Addr->Prop}{H H':Hp}
mutual
theorem Is.map(hO:∀q,H q≠none->¬O q->¬O' q)(hH:∀q u,H q=some u->¬O q->H' q=some u):∀{v:V} {d:D},Is K O H v d->Is K O' H' v d
 | _,_,.aG=>.aG
 | _,_,.bl b=>.bl b
 | _,_,.int i=>.int i
 | _,_,.str x=>.str x
 | _,_,.tup ho hp hs=>.tup (hO _ (Su hp) ho) (Rp hH ho hp) (aN.map hO hH hs)
 | _,_,.km hp hs=>.km hp (aN.map hO hH hs)
 | _,_,.lst ho hp hs=>.lst (hO _ (by rw [hp];exact λz=>nomatch z) ho) (hH _ _ hp ho) (aN.map hO hH hs)
 | _,_,.j7 ho hp hs=>.j7 (hO _ (Su hp) ho) (Rp hH ho hp) (aN.map hO hH hs)
 | _,_,.kn hp hs=>.kn hp (aN.map hO hH hs)
 | _,_,.exc ho hn hp=>.exc (hO _ (by rw [hp];exact λz=>nomatch z) ho) hn (hH _ _ hp ho)
 | _,_,.lz ho hp=>.lz (hO _ (by rw [hp];exact λz=>nomatch z) ho) (hH _ _ hp ho)
 | _,_,.pz ho hp=>.pz (hO _ (by rw [hp];exact λz=>nomatch z) ho) (hH _ _ hp ho)
theorem aN.map(hO:∀q,H q≠none->¬O q->¬O' q)(hH:∀q u,H q=some u->¬O q->H' q=some u):∀{v:List V} {d:List D},aN K O H v d->aN K O' H' v d
 | _,_,.nil=>.nil
 | _,_,.cons h t=>.cons (Is.map hO hH h) (aN.map hO hH t)
end
theorem Is.grow(s:ao H H')(h:Is K O H v d):Is K O H' v d:=h.map (λ_ _ z=>z) λq u e _=>s q u e
theorem aN.grow(s:ao H H')(h:aN K O H v d):aN K O H' v d:=h.map (λ_ _ z=>z) λq u e _=>s q u e
theorem Is.less(hO:∀q,O' q->O q)(h:Is K O H v d):Is K O' H v d:=h.map (λ_ _ z w=>z (hO _ w)) λ_ _ e _=>e
theorem aN.less(hO:∀q,O' q->O q)(h:aN K O H v d):aN K O' H v d:=h.map (λ_ _ z w=>z (hO _ w)) λ_ _ e _=>e
theorem aN.length:∀{v:List V} {d:List D},aN K O H v d->v.length=d.length
 | _,_,.nil=>rfl
 | _,_,.cons _ t=>by rw [pB,pB,aN.length t]
theorem aN.append:∀{v w:List V} {d e:List D},aN K O H v d->aN K O H w e->aN K O H (v++w) (d++e)
 | _,_,_,_,.nil,s=>s
 | _,_,_,_,.cons h t,s=>.cons h (aN.append t s)
theorem aN.get:∀{v:List V} {ds:List D} {i:Nat} {d:D},aN K O H v ds->ds[i]?=some d->∃x,v[i]?=some x/\Is K O H x d
 | _,_,_,_,.nil,e=>by simp at e
 | _,_,0,_,.cons h _,e=>by simp at e;subst e;exact ⟨_,rfl,h⟩
 | _,_,i+1,d,.cons _ t,e=>by
  obtain ⟨u,h1,h2⟩:=aN.get (i:=i) (d:=d) t (by simpa using e)
  exact ⟨u,by simpa using h1,h2⟩
theorem aN.rq:∀{v:List V} {ds:List D} {i:Nat} {x:V},aN K O H v ds->v[i]?=some x->∃d,ds[i]?=some d/\Is K O H x d
 | _,_,_,_,.nil,e=>by simp at e
 | _,_,0,_,.cons h _,e=>by simp at e;subst e;exact ⟨_,rfl,h⟩
 | _,_,i+1,d,.cons _ t,e=>by
  obtain ⟨u,h1,h2⟩:=aN.rq (i:=i) (x:=d) t (by simpa using e)
  exact ⟨u,by simpa using h1,h2⟩
theorem aN.take:∀{v:List V} {d:List D} (n:Nat),aN K O H v d->aN K O H (v.take n) (d.take n)
 | _,_,0,_=>.nil
 | _,_,_+1,.nil=>.nil
 | _,_,n+1,.cons h t=>.cons h (aN.take n t)
theorem aN.drop:∀{v:List V} {d:List D} (n:Nat),aN K O H v d->aN K O H (v.drop n) (d.drop n)
 | _,_,0,h=>h
 | _,_,_+1,.nil=>.nil
 | _,_,n+1,.cons _ t=>aN.drop n t
theorem aN.set(h:Is K O H x d):∀{v:List V} {ds:List D} (n:Nat),aN K O H v ds->aN K O H (v.set n x) (ds.set n d)
 | _,_,_,.nil=>.nil
 | _,_,0,.cons _ t=>.cons h t
 | _,_,n+1,.cons h' t=>.cons h' (aN.set h n t)
theorem aN.eH(h:aN K O H v ds)(e:L2.eH ds i=some d):∃x,L2.eH v i=some x/\Is K O H x d:=by
 unfold L2.eH at e ⊢
 rw [h.length]
 cases q:jg ds.length i with
 | none=>rw [q] at e;cases e
 | some j =>
  rw [q] at e
  exact h.get e
theorem aN.dropLast(h:aN K O H v d):aN K O H v.dropLast d.dropLast:=by
 rw [P6,P6,h.length]
 exact h.take _
theorem aN.ints:∀(ns:List Int),aN K O H (ns.map V.int) (ns.map D.int)
 | []=>.nil
 | n::r=>.cons (.int n) (aN.ints r)
def Sq(K:aC)(H:Hp)(k:Bool)(p:Addr)(xs:List V):Prop:=if k=true then dR K H p xs else fj K H p xs
noncomputable def e8:D->Option (Bool×List D)
 | .tup ds=>some (false,ds)
 | .lst _ ds=>some (true,ds)
 | _=>none
theorem Is.seq(h:Is K O H v d)(e:e8 d=some (k,ds)):∃p xs,v=.ref p/\Sq K H k p xs/\aN K O H xs ds:=by
 cases h with
 | tup ho hp hs=>cases e;exact ⟨_,_,rfl,.inl hp,hs⟩
 | km hp hs=>cases e;exact ⟨_,_,rfl,CK hp,hs⟩
 | lst ho hp hs=>cases e;exact ⟨_,_,rfl,.inl (.inl hp),hs⟩
 | j7 ho hp hs=>cases e;exact ⟨_,_,rfl,.inl hp,hs⟩
 | kn hp hs=>cases e;exact ⟨_,_,rfl,CJ hp,hs⟩
 | _=>cases e
end
theorem Sq.grow{K:aC}{H H':Hp}{k:Bool}{p:Addr}{xs:List V}(s:ao H H')(h:Sq K H k p xs):Sq K H' k p xs:=by
 cases k with
 | true =>
  rcases h with (h | ⟨o,h⟩) | h
  .exact .inl (.inl (s _ _ h))
  .exact .inl (.inr ⟨o,s _ _ h⟩)
  .exact .inr h
 | false =>
  rcases h with (h | ⟨o,h⟩) | h
  .exact .inl (.inl (s _ _ h))
  .exact .inl (.inr ⟨o,s _ _ h⟩)
  .exact .inr h
noncomputable def Sl.own:Sl->Prop
 | .ow _=>True
 | .dw _=>True
 | _=>False
noncomputable abbrev JB(bw:List (Int×Int)):HO:=.dK (bw.map λq=>(.inl q.1,.int q.2))
def jZ(σ:L2.St)(env:En)(p:Addr):Prop:=∃(i:Nat) (s:Sl),env[i]?=some s/\s.own/\σ[i]?=some (some (V.ref p))
abbrev OO(O:Addr->Prop)(σ:L2.St)(env:En)(q:Addr):Prop:=O q\/jZ σ env q
theorem _root_.L2.Tb.grow{K:aC}{H H':Hp}(s:ao H H')(h:Tb K H):Tb K H':=λc P e=>s _ _ (h c P e)
def nW(K:aC)(O:Addr->Prop)(H:Hp):Prop:=(∀q,O q->H q≠none)/\Tb K H
theorem nW.grow{K:aC}{O:Addr->Prop}{H H':Hp}(s:ao H H')(h:nW K O H):nW K O H':=⟨λq hq hn=>h.1 q hq (s.free hn),h.2.grow s⟩
structure Rel(K:aC)(O:Addr->Prop)(B:Hp)(σ:L2.St)(H:Hp)(env:En):Prop where
 same:ao B H
 n9:nW K O B
 len:σ.length=env.length
 sh:∀(i:Nat) (d:D),env[i]?=some (Sl.sh d)->∃v,σ[i]?=some (some v)/\Is K (OO O σ env) H v d
 ow:∀(i:Nat) (ds:List D),env[i]?=some (Sl.ow ds)->∃p xs,σ[i]?=some (some (V.ref p))/\B p=none/\H p=some (.lst xs)/\aN K (OO O σ env) H xs ds
 dw:∀(i:Nat) (bw:List (Int×Int)),env[i]?=some (Sl.dw bw)->∃p,σ[i]?=some (some (V.ref p))/\B p=none/\H p=some (JB bw)
 sep:∀(i j:Nat) (ds es:Sl) (p:Addr),env[i]?=some ds->env[j]?=some es->σ[i]?=some (some (V.ref p))->σ[j]?=some (some (V.ref p))->ds.own->es.own->i=j
noncomputable def Res(K:aC)(O:Addr->Prop)(B H:Hp)(v:V):Sl->Prop
 | .no=>False
 | .sh d=>Is K O H v d
 | .ow ds=>∃p xs,v=.ref p/\B p=none/\H p=some (.lst xs)/\aN K (λq=>O q\/q=p) H xs ds
 | .dw bw=>∃p,v=.ref p/\B p=none/\H p=some (JB bw)
section
variable {K:aC}{O:Addr->Prop}{B H H' H1:Hp}{σ:L2.St}{env:En}{v:V}{r:Sl}
theorem Rel.ad(R:Rel K O B σ H env){i:Nat}{s:Sl}(h:env[i]?=some s)(ho:s.own):∃p u,σ[i]?=some (some (V.ref p))/\B p=none/\H p=some u:=by
 cases s with
 | ow ds=>obtain ⟨p,xs,e1,e2,e3,_⟩:=R.ow i ds h;exact ⟨p,_,e1,e2,e3⟩
 | dw bw=>obtain ⟨p,e1,e2,e3⟩:=R.dw i bw h;exact ⟨p,_,e1,e2,e3⟩
 | no=>exact ho.elim
 | sh d=>exact ho.elim
theorem Rel.oo(R:Rel K O B σ H env)(h:OO O σ env q):H q≠none:=by
 rcases h with h | ⟨i,s,h1,ho,h2⟩
 .intro z
  exact R.n9.1 q h (R.same.free z)
 .obtain ⟨p,u,e1,_,e3⟩:=R.ad h1 ho
  rw [h2] at e1
  cases e1
  rw [e3];exact λz=>nomatch z
theorem Rel.dm(R:Rel K O B σ H env):nW K (OO O σ env) H:=⟨λ_=>R.oo,R.n9.2.grow R.same⟩
theorem Rel.grow(R:Rel K O B σ H env)(s:ao H H'):Rel K O B σ H' env where
 same:=R.same.trans s
 n9:=R.n9
 len:=R.len
 sh:=λi d e=>let ⟨v,e1,h⟩:=R.sh i d e;⟨v,e1,h.grow s⟩
 ow:=λi ds e=>let ⟨p,xs,e1,e2,e3,h⟩:=R.ow i ds e;⟨p,xs,e1,e2,s _ _ e3,h.grow s⟩
 dw:=λi bw e=>let ⟨p,e1,e2,e3⟩:=R.dw i bw e;⟨p,e1,e2,s _ _ e3⟩
 sep:=R.sep
theorem Res.grow(s:ao H H')(h:Res K O B H v r):Res K O B H' v r:=by
 cases r with
 | no=>exact h
 | sh d=>exact Is.grow s h
 | ow ds=>obtain ⟨p,xs,e1,e2,e3,h⟩:=h;exact ⟨p,xs,e1,e2,s _ _ e3,h.grow s⟩
 | dw bw=>obtain ⟨p,e1,e2,e3⟩:=h;exact ⟨p,e1,e2,s _ _ e3⟩
theorem Res.from(s:ao H1 B)(h:Res K O B H v r):Res K O H1 H v r:=by
 cases r with
 | no=>exact h
 | sh d=>exact h
 | ow ds=>obtain ⟨p,xs,e1,e2,e3,h⟩:=h;exact ⟨p,xs,e1,s.free e2,e3,h⟩
 | dw bw=>obtain ⟨p,e1,e2,e3⟩:=h;exact ⟨p,e1,s.free e2,e3⟩
theorem Res.less(hO:∀q,O' q->O q)(h:Res K O B H v r):Res K O' B H v r:=by
 cases r with
 | no=>exact h
 | sh d=>exact Is.less hO h
 | ow ds=>obtain ⟨p,xs,e1,e2,e3,h⟩:=h;exact ⟨p,xs,e1,e2,e3,h.less λq z=>z.elim (λw=>.inl (hO _ w)) .inr⟩
 | dw bw=>exact h
theorem Res.is(hd:∀q,O q->B q≠none)(h:Res K O B H v r):Is K O H v r.d:=by
 cases r with
 | no=>exact h.elim
 | sh d=>exact h
 | ow ds =>
  obtain ⟨p,xs,rfl,e2,e3,h⟩:=h
  exact .lst (λz=>hd p z e2) e3 (h.less λ_=>.inl)
 | dw bw =>
  obtain ⟨p,rfl,e2,e3⟩:=h
  exact .lz (λz=>hd p z e2) e3
end
def EV(X:Cx)(e:Expr)(f:En->Option Sl):Prop:=
 ∃t:TE,PE X e t/\∀(O:Addr->Prop) (B:Hp) (σ:L2.St) (H:Hp) (env:En) (r:Sl) (Q:VK),Rel X.K O B σ H env->f env=some r ->
  (∀v H',ao H H'->Res X.K (OO O σ env) H H' v r->Q v H')->t σ H Q
def BV(X:Cx)(e:Expr)(f:En->Option (Bool×List D)):Prop:=
 ∃t:TE,PE X e t/\∀(O:Addr->Prop) (B:Hp) (σ:L2.St) (H:Hp) (env:En) (k:Bool) (ds:List D) (Q:VK),Rel X.K O B σ H env->f env=some (k,ds) ->
  (∀p xs H',ao H H'->Sq X.K H' k p xs->aN X.K (OO O σ env) H' xs ds->Q (.ref p) H')->t σ H Q
def AV(X:Cx)(es:List Expr)(f:En->Option (List D)):Prop:=
 ∃t:TA,PA X es t/\∀(O:Addr->Prop) (B:Hp) (σ:L2.St) (H:Hp) (env:En) (ds:List D) (Q:List V->Hp->Prop),Rel X.K O B σ H env->f env=some ds ->
  (∀vs H',ao H H'->aN X.K (OO O σ env) H' vs ds->Q vs H')->t σ H Q
def TV(X:Cx)(e:Expr)(f:En->Option Bool):Prop:=
 ∃t:TT,PT X e t/\∀(O:Addr->Prop) (B:Hp) (σ:L2.St) (H:Hp) (env:En) (b:Bool) (Q:Bool->Hp->Prop),Rel X.K O B σ H env->f env=some b ->
  (∀H',ao H H'->Q b H')->t σ H Q
def WV(X:Cx)(e:Expr)(f:En->Option Bool):Prop:=
 ∃t:TT,PW X e t/\∀(O:Addr->Prop) (B:Hp) (σ:L2.St) (H:Hp) (env:En) (b:Bool) (Q:Bool->Hp->Prop),Rel X.K O B σ H env->f env=some b ->
  (∀H',ao H H'->Q b H')->t σ H Q
inductive Fl where
 | nx | bk | ct | rt (r:Sl)
def Gd(σ:L2.St)(env:En)(H:Hp)(az:L2.St)(ah:En)(H':Hp):Prop:=∀q u,H q=some u->¬jZ σ env q->H' q=some u/\¬jZ az ah q
theorem Gd.trans(a:Gd σ env H gj env1 H1)(b:Gd gj env1 H1 cZ aQ H2):Gd σ env H cZ aQ H2:=λq u e n =>
 let ⟨e1,n1⟩:=a q u e n
 b q u e1 n1
theorem Gd.from(s:ao H H1)(b:Gd σ env H1 az ah H'):Gd σ env H az ah H':=λq u e n=>b q u (s _ _ e) n
theorem Gd.refl(s:ao H H'):Gd σ env H σ env H':=λq u e n=>⟨s _ _ e,n⟩
noncomputable def dM(K:aC)(O:Addr->Prop)(B:Hp)(σ:L2.St)(H:Hp)(env:En)(D:Ends):Fl->En->Prop
 | .nx,ah=>∀az H',Rel K O B az H' ah->Gd σ env H az ah H'->D.nx az H'
 | .bk,ah=>∀az H',Rel K O B az H' ah->Gd σ env H az ah H'->D.bk az H'
 | .ct,ah=>∀az H',Rel K O B az H' ah->Gd σ env H az ah H'->D.ct az H'
 | .rt r,_=>∀v H',ao B H'->Res K O B H' v r->D.rt v H'
theorem dM.from{K:aC}{O:Addr->Prop}{B:Hp}{σ gj:L2.St}{H H1:Hp}{env env1:En}{D:Ends}{fl:Fl}{ah:En}(g:Gd σ env H gj env1 H1)(h:dM K O B σ H env D fl ah):dM K O B gj H1 env1 D fl ah:=by
 cases fl with
 | nx=>exact λaz H' R g'=>h az H' R (g.trans g')
 | bk=>exact λaz H' R g'=>h az H' R (g.trans g')
 | ct=>exact λaz H' R g'=>h az H' R (g.trans g')
 | rt r=>exact h
noncomputable abbrev SF:=En->Option (Fl×En)
def SV(X:Cx)(st:Stmt)(F:SF):Prop:=
 ∃t:TS,PS X st t/\∀(O:Addr->Prop) (B:Hp) (σ:L2.St) (H:Hp) (env:En) (fl:Fl) (ah:En) (D:Ends),Rel X.K O B σ H env->F env=some (fl,ah)->dM X.K O B σ H env D fl ah->t D σ H
def jq(X:Cx)(st:List Stmt)(F:SF):Prop:=
 ∃t:TS,mq X st t/\∀(O:Addr->Prop) (B:Hp) (σ:L2.St) (H:Hp) (env:En) (fl:Fl) (ah:En) (D:Ends),Rel X.K O B σ H env->F env=some (fl,ah)->dM X.K O B σ H env D fl ah->t D σ H
section
variable {X:Cx}{a b c:Expr}{pos:Pos}{fa fb fc:En->Option Sl}
noncomputable def eC(d:D):En->Option Sl:=λ_=>some (.sh d)
theorem aj{i j pos}:EV X (.Constant (.int i) j pos) (eC (.int i)):=⟨_,b8c,λ_ _ _ _ _ _ _ _ e k=>by
 obtain rfl:=dk e
 exact k _ _ (ao.refl _) (Is.int i)⟩
theorem rP{i j pos}:EV X (.Constant (.bool i) j pos) (eC (.bl i)):=⟨_,zx,λ_ _ _ _ _ _ _ _ e k=>by
 obtain rfl:=dk e
 exact k _ _ (ao.refl _) (Is.bl i)⟩
theorem qr{j pos}:EV X (.Constant .none j pos) (eC .aG):=⟨_,b8a,λ_ _ _ _ _ _ _ _ e k=>by
 obtain rfl:=dk e
 exact k _ _ (ao.refl _) Is.aG⟩
theorem RH{x j pos}:EV X (.Constant (.str x) j pos) (eC (.str x)):=⟨_,b77,λ_ _ _ _ _ _ _ _ e k=>by
 obtain rfl:=dk e
 exact k _ _ (ao.refl _) (Is.str x)⟩
noncomputable def DC:Option Sl->Option Sl
 | some (.sh d)=>some (.sh d)
 | _=>none
theorem b2S(h:DC o=some r):∃d,o=some (Sl.sh d)/\r=.sh d:=by
 cases o with
 | none=>cases h
 | some s=>cases s with
  | sh d=>cases h;exact ⟨d,rfl,rfl⟩
  | no=>cases h
  | ow ds=>cases h
  | dw ds=>cases h
noncomputable def eV(i:Nat):En->Option Sl:=λenv=>DC env[i]?
theorem RI(i:Nat)(hN:X.N[i]?=some x:=by rfl)(hv:gH X.env.scope x:=by first | exact bJ rfl | exact bg (bJ rfl) | exact bg (bg rfl))(hd:(x==("__debug__":Str))=false:=by decide)
  (bW:(x==("__classdict__":Str))=false:=by decide):EV X (.Name x pos) (eV i):=⟨_,rQ hN hv hd bW,λO B σ H env r Q R e k=>by
 obtain ⟨d,e1,rfl⟩:=b2S e
 obtain ⟨v,e2,h⟩:=R.sh i d e1
 exact ⟨v,e2,k v H (ao.refl _) h⟩⟩
noncomputable def wx:Option Sl->Option (Bool×List D)
 | some (.sh d)=>e8 d
 | some (.ow ds)=>some (true,ds)
 | _=>none
noncomputable def bV(i:Nat):En->Option (Bool×List D):=λenv=>wx env[i]?
theorem b84(i:Nat)(hN:X.N[i]?=some x:=by rfl)(hv:gH X.env.scope x:=by first | exact bJ rfl | exact bg (bJ rfl) | exact bg (bg rfl))(hd:(x==("__debug__":Str))=false:=by decide)
  (bW:(x==("__classdict__":Str))=false:=by decide):BV X (.Name x pos) (bV i):=⟨_,rQ hN hv hd bW,λO B σ H env k ds Q R e q=>by
 unfold bV at e
 cases h:env[i]? with
 | none=>rw [h] at e;cases e
 | some s =>
  rw [h] at e
  cases s with
  | no=>cases e
  | sh d =>
   obtain ⟨v,e2,hv⟩:=R.sh i d h
   obtain ⟨p,xs,rfl,h1,h2⟩:=hv.seq (show e8 d=some (k,ds) from e)
   exact ⟨_,e2,q p xs H (ao.refl _) h1 h2⟩
  | dw es=>cases e
  | ow es =>
   obtain ⟨rfl,rfl⟩:true=k/\es=ds:=Prod.mk.inj (dk e)
   obtain ⟨p,xs,e2,_,e3,h2⟩:=R.ow i es h
   exact ⟨_,e2,q p xs H (ao.refl _) (.inl (.inl e3)) h2⟩⟩
noncomputable def fX(f:En->Option Sl):En->Option (Bool×List D):=λenv=>(f env).bind λr=>e8 r.d
theorem bind_some{α β:Type}{o:Option α}{f:α->Option β}{b:β}(h:o.bind f=some b):∃a,o=some a/\f a=some b:=by
 cases o with
 | none=>cases h
 | some a=>exact ⟨a,rfl,h⟩
theorem gF(h:EV X a fa):BV X a (fX fa):=by
 obtain ⟨t,ht,p⟩:=h
 refine ⟨t,ht,λO B σ H env k ds Q R e q=>?_⟩
 obtain ⟨r,e1,e2⟩:=bind_some e
 refine p O B σ H env r _ R e1 λv H' s h=>?_
 obtain ⟨p,xs,rfl,h1,h2⟩:=(h.is (λz=>R.oo)).seq e2
 exact q p xs H' s h1 h2
def gJ(X:Cx)(f:Value->Value->Sem Value)(g:D->D->Option Sl):Prop:=
 ∃r:R2,fJ X f r/\∀(O:Addr->Prop) (H:Hp) (x y:V) (a b:D) (s:Sl) (Q:VK),(∀q,O q->H q≠none)->Is X.K O H x a->Is X.K O H y b->g a b=some s ->
  (∀v H',ao H H'->Res X.K O H H' v s->Q v H')->r x y H Q
noncomputable def aa(g:D->D->Option Sl)(fa fb:En->Option Sl):En->Option Sl:=λenv=>(fa env).bind λx=>(fb env).bind λy=>g x.d y.d
theorem MF(hg:∀(O:Addr->Prop) (H:Hp) (x y:V) (a b:D) (s:Sl) (Q:VK),(∀q,O q->H q≠none)->Is X.K O H x a->Is X.K O H y b->g a b=some s->(∀v H',ao H H'->Res X.K O H H' v s->Q v H')->r x y H Q)(pa:∀(O:Addr->Prop) (B:Hp) (σ:L2.St) (H:Hp) (env:En) (r:Sl) (Q:VK),Rel X.K O B σ H env->fa env=some r->(∀v H',ao H H'->Res X.K (OO O σ env) H H' v r->Q v H')->ta σ H Q)
  (pb:∀(O:Addr->Prop) (B:Hp) (σ:L2.St) (H:Hp) (env:En) (r:Sl) (Q:VK),Rel X.K O B σ H env->fb env=some r->(∀v H',ao H H'->Res X.K (OO O σ env) H H' v r->Q v H')->tb σ H Q)
  (O:Addr->Prop)(B:Hp)(σ:L2.St)(H:Hp)(env:En)(s:Sl)(Q:VK)(R:Rel X.K O B σ H env)(e:aa g fa fb env=some s)
  (k:∀v H',ao H H'->Res X.K (OO O σ env) H H' v s->Q v H'):yQ r ta tb σ H Q:=by
 obtain ⟨x,e1,e⟩:=bind_some e
 obtain ⟨y,e2,e⟩:=bind_some e
 refine pa O B σ H env x _ R e1 λv H1 s1 h1=>?_
 refine pb O B σ H1 env y _ (R.grow s1) e2 λu H2 s2 h2=>?_
 have R2:=(R.grow s1).grow s2
 refine hg (OO O σ env) H2 v u x.d y.d s Q (λq=>R2.oo) ((h1.is λq=>R.oo).grow s2) (h2.is λq=>(R.grow s1).oo) e λw H3 s3 h3=>?_
 exact k w H3 ((s1.trans s2).trans s3) (h3.from (s1.trans s2))
theorem aA(ho:gJ X (binaryOp op) g)(ha:EV X a fa)(hb:EV X b fb):EV X (.BinOp a op b pos) (aa g fa fb):=by
 obtain ⟨r,hr,hg⟩:=ho
 obtain ⟨ta,pa,ka⟩:=ha
 obtain ⟨tb,pb,kb⟩:=hb
 exact ⟨_,zu hr pa pb,MF hg ka kb⟩
theorem Lv(ho:gJ X (compareOp op) g)(ha:EV X a fa)(hb:EV X b fb)(hm:behindInMarks op b=false:=by exact Rh _):EV X (.Compare a [op] [b] pos) (aa g fa fb):=by
 obtain ⟨r,hr,hg⟩:=ho
 obtain ⟨ta,pa,ka⟩:=ha
 obtain ⟨tb,pb,kb⟩:=hb
 exact ⟨_,b5I hr pa pb hm,MF hg ka kb⟩
noncomputable def iT:Option Sl->Option Bool
 | some (.sh (.bl b))=>some b
 | _=>none
theorem Cz{b:Bool}(h:iT o=some b):o=some (Sl.sh (.bl b)):=by
 cases o with
 | none=>cases h
 | some s=>cases s with
  | no=>cases h
  | ow ds=>cases h
  | dw ds=>cases h
  | sh d=>cases d<;>cases h;rfl
noncomputable def bE(f:En->Option Sl):En->Option Bool:=λenv=>iT (f env)
theorem xy{K:aC}{O:Addr->Prop}{H:Hp}{v:V}{b:Bool}(h:Is K O H v (.bl b)):v=.bl b:=by cases h;rfl
theorem fG{K:aC}{O:Addr->Prop}{H:Hp}{v:V}{b:Int}(h:Is K O H v (.int b)):v=.int b:=by cases h;rfl
theorem Ra{K:aC}{O:Addr->Prop}{H:Hp}{v:V}(h:Is K O H v .aG):v=.aG:=by cases h;rfl
theorem Rb{K:aC}{O:Addr->Prop}{H:Hp}{v:V}{b:Str}(h:Is K O H v (.str b)):v=.str b:=by cases h;rfl
theorem cH(ho:gJ X (compareOp op) g)(ha:EV X a fa)(hb:EV X b fb)(hm:behindInMarks op b=false:=by exact Rh _):TV X (.Compare a [op] [b] pos) (bE (aa g fa fb)):=by
 obtain ⟨r,hr,hg⟩:=ho
 obtain ⟨ta,pa,ka⟩:=ha
 obtain ⟨tb,pb,kb⟩:=hb
 refine ⟨_,b5z hr pa pb hm,λO B σ H env k Q R e q=>?_⟩
 exact MF hg ka kb O B σ H env _ _ R (Cz e) λv H' s h=>⟨k,xy h,q H' s⟩
noncomputable def iH:D->Option Bool
 | .aG=>some false
 | .bl b=>some b
 | .int i=>some (i != 0)
 | .str y=>if y.length<=16777216 then some ((y.length:Int) != 0) else none
 | .tup ds=>some (!ds.isEmpty)
 | .lst _ ds=>some (!ds.isEmpty)
 | .exc _=>none
 | .lz _ _=>none
theorem aN.isEmpty{K:aC}{O:Addr->Prop}{H:Hp}{xs:List V}{ds:List D}(h:aN K O H xs ds):xs.isEmpty=ds.isEmpty:=by cases h<;>rfl
theorem b5i{K:aC}{O:Addr->Prop}{H:Hp}{v:V}{d:D}{b:Bool}(h:Is K O H v d)(e:iH d=some b):v9 K v H b:=by
 cases h with
 | aG=>cases e;rfl
 | bl b=>cases e;rfl
 | int i=>cases e;rfl
 | str x =>
  unfold iH at e
  dsimp only at e
  by_cases hl:x.length<=16777216
  .rw [if_pos hl] at e;cases e;exact ⟨by rw [h8];exact hl,rfl⟩
  .rw [if_neg hl] at e;cases e
 | tup ho hp hs=>cases e;exact .inr (.inl ⟨_,.inl hp,by rw [hs.isEmpty]⟩)
 | km hp hs=>cases e;exact .inr (.inl ⟨_,CK hp,by rw [hs.isEmpty]⟩)
 | lst ho hp hs=>cases e;exact .inl ⟨_,.inl (.inl hp),by rw [hs.isEmpty]⟩
 | j7 ho hp hs=>cases e;exact .inl ⟨_,.inl hp,by rw [hs.isEmpty]⟩
 | kn hp hs=>cases e;exact .inl ⟨_,CJ hp,by rw [hs.isEmpty]⟩
 | exc ho hn hp=>cases e
 | lz ho hp=>cases e
 | pz ho hp=>cases e
noncomputable def cn(f:En->Option Sl):En->Option Bool:=λenv=>(f env).bind λr=>iH r.d
theorem jo(ha:EV X a fa)(he:∀whole,isTrue a X.env whole=(do let v <-whole;standAt a.pos;holding [v] (truthy v)):=by intro _;rfl):TV X a (cn fa):=by
 obtain ⟨ta,pa,ka⟩:=ha
 refine ⟨_,SI pa he,λO B σ H env k Q R e q=>?_⟩
 obtain ⟨r,e1,e2⟩:=bind_some e
 exact ka O B σ H env r _ R e1 λv H' s h=>⟨k,b5i (h.is λq=>R.oo) e2,q H' s⟩
noncomputable def Ce(f:En->Option (Bool×List D)):En->Option Bool:=λenv=>(f env).bind λr=>some (!r.2.isEmpty)
theorem Sn{fa:En->Option (Bool×List D)}(ha:BV X a fa)(he:∀whole,isTrue a X.env whole=(do let v <-whole;standAt a.pos;holding [v] (truthy v)):=by intro _;rfl):TV X a (Ce fa):=by
 obtain ⟨ta,pa,ka⟩:=ha
 refine ⟨_,SI pa he,λO B σ H env k Q R e q=>?_⟩
 obtain ⟨⟨kk,ds⟩,e1,e2⟩:=bind_some e
 cases e2
 refine ka O B σ H env kk ds _ R e1 λp xs H' s h hs=>⟨_,?_,q H' s⟩
 cases kk with
 | true=>exact .inl ⟨xs,h,by rw [hs.isEmpty]⟩
 | false=>exact .inr (.inl ⟨xs,h,by rw [hs.isEmpty]⟩)
noncomputable def nJ(f g:En->Option Bool):En->Option Bool:=λenv=>match f env with
 | some true=>g env
 | some false=>some false
 | none=>none
noncomputable def e7(f g:En->Option Bool):En->Option Bool:=λenv=>match f env with
 | some false=>g env
 | some true=>some true
 | none=>none
noncomputable def qo(f:En->Option Bool):En->Option Bool:=λenv=>(f env).map (!·)
variable {ga gb:En->Option Bool}{rest:List Expr}
theorem xT(ha:TV X a ga):WV X (.BoolOp .And [a] pos) ga:=let ⟨t,p,k⟩:=ha;⟨t,b5x p,k⟩
theorem tK(ha:TV X a ga):WV X (.BoolOp .Or [a] pos) ga:=let ⟨t,p,k⟩:=ha;⟨t,b7Y p,k⟩
theorem xO(ha:TV X a ga)(hb:WV X (.BoolOp .And (b::rest) pos) gb):WV X (.BoolOp .And (a::b::rest) pos) (nJ ga gb):=by
 obtain ⟨t,p,k⟩:=ha
 obtain ⟨u,p',k'⟩:=hb
 refine ⟨_,b7Z p p',λO B σ H env d Q R e q=>?_⟩
 unfold nJ at e
 cases h:ga env with
 | none=>rw [h] at e;cases e
 | some x =>
  rw [h] at e
  refine k O B σ H env x _ R h λH1 s1=>?_
  cases x with
  | true =>
   rw [if_pos rfl]
   exact k' O B σ H1 env d Q (R.grow s1) e λH2 s2=>q H2 (s1.trans s2)
  | false =>
   cases e
   rw [if_neg fY]
   exact q H1 s1
theorem qp(ha:TV X a ga)(hb:WV X (.BoolOp .Or (b::rest) pos) gb):WV X (.BoolOp .Or (a::b::rest) pos) (e7 ga gb):=by
 obtain ⟨t,p,k⟩:=ha
 obtain ⟨u,p',k'⟩:=hb
 refine ⟨_,pw_or p p',λO B σ H env d Q R e q=>?_⟩
 unfold e7 at e
 cases h:ga env with
 | none=>rw [h] at e;cases e
 | some x =>
  rw [h] at e
  refine k O B σ H env x _ R h λH1 s1=>?_
  cases x with
  | false =>
   rw [if_neg fY]
   exact k' O B σ H1 env d Q (R.grow s1) e λH2 s2=>q H2 (s1.trans s2)
  | true =>
   cases e
   rw [if_pos rfl]
   exact q H1 s1
theorem fw(h:WV X a ga):TV X a ga:=let ⟨t,p,k⟩:=h;⟨t,p.pt,k⟩
theorem vN(ha:TV X a ga):TV X (.UnaryOp .Not a pos) (qo ga):=by
 obtain ⟨t,p,k⟩:=ha
 refine ⟨_,b70 p,λO B σ H env d Q R e q=>?_⟩
 unfold qo at e
 cases h:ga env with
 | none=>rw [h] at e;cases e
 | some x =>
  rw [h] at e
  cases e
  exact k O B σ H env x _ R h λH1 s1=>q H1 s1
noncomputable def l8(f g:En->Option Sl):En->Option Sl:=λenv=>match iT (f env) with
 | some true=>g env
 | some false=>some (.sh (.bl false))
 | none=>none
noncomputable def PK(f g:En->Option Sl):En->Option Sl:=λenv=>match iT (f env) with
 | some false=>g env
 | some true=>some (.sh (.bl true))
 | none=>none
noncomputable def pj(f:En->Option Sl):En->Option Sl:=λenv=>(iT (f env)).map λb=>.sh (.bl !b)
theorem RG(h:EV X a fa):EV X (.BoolOp op [a] pos) fa:=let ⟨t,p,k⟩:=h;⟨t,b78 p,k⟩
theorem Lu(ha:EV X a fa)(hb:EV X (.BoolOp .And (b::rest) pos) fb):EV X (.BoolOp .And (a::b::rest) pos) (l8 fa fb):=by
 obtain ⟨t,p,k⟩:=ha
 obtain ⟨u,p',k'⟩:=hb
 refine ⟨_,b8f p p',λO B σ H env r Q R e q=>?_⟩
 unfold l8 at e
 cases h:iT (fa env) with
 | none=>rw [h] at e;cases e
 | some x =>
  rw [h] at e
  refine k O B σ H env _ _ R (Cz h) λv H1 s1 r1=>⟨x,xy r1,?_⟩
  cases x with
  | true =>
   rw [if_pos rfl]
   exact k' O B σ H1 env r Q (R.grow s1) e λv2 H2 s2 r2=>q v2 H2 (s1.trans s2) (r2.from s1)
  | false =>
   obtain rfl:=dk e
   rw [if_neg fY]
   exact q _ H1 s1 (Is.bl false)
theorem b8O(ha:EV X a fa):EV X (.UnaryOp .Not a pos) (pj fa):=by
 obtain ⟨t,p,k⟩:=ha
 refine ⟨_,b79 p,λO B σ H env r Q R e q=>?_⟩
 unfold pj at e
 cases h:iT (fa env) with
 | none=>rw [h] at e;cases e
 | some x =>
  rw [h] at e
  obtain rfl:=dk e
  exact k O B σ H env _ _ R (Cz h) λv H1 s1 r1=>⟨x,xy r1,q _ H1 s1 (Is.bl _)⟩
noncomputable def mO(c:En->Option Bool)(f g:En->Option Sl):En->Option Sl:=λenv=>match c env with
 | some true=>f env
 | some false=>g env
 | none=>none
theorem rO(hc:TV X c ga)(ha:EV X a fa)(hb:EV X b fb):EV X (.IfExp c a b pos) (mO ga fa fb):=by
 obtain ⟨tc,pc,kc⟩:=hc
 obtain ⟨t,p,k⟩:=ha
 obtain ⟨u,p',k'⟩:=hb
 refine ⟨_,b27 pc p p',λO B σ H env r Q R e q=>?_⟩
 unfold mO at e
 cases h:ga env with
 | none=>rw [h] at e;cases e
 | some x =>
  rw [h] at e
  refine kc O B σ H env x _ R h λH1 s1=>?_
  cases x with
  | true =>
   rw [if_pos rfl]
   exact k O B σ H1 env r Q (R.grow s1) e λv2 H2 s2 r2=>q v2 H2 (s1.trans s2) (r2.from s1)
  | false =>
   rw [if_neg fY]
   exact k' O B σ H1 env r Q (R.grow s1) e λv2 H2 s2 r2=>q v2 H2 (s1.trans s2) (r2.from s1)
noncomputable def u4:D->Option Sl
 | .int i=>some (.sh (.int (-i)))
 | _=>none
noncomputable def jG(f:En->Option Sl):En->Option Sl:=λenv=>(f env).bind λr=>u4 r.d
theorem vM(ha:EV X a fa):EV X (.UnaryOp .USub a pos) (jG fa):=by
 obtain ⟨t,p,k⟩:=ha
 refine ⟨_,zt b7F p,λO B σ H env r Q R e q=>?_⟩
 obtain ⟨x,e1,e2⟩:=bind_some e
 refine k O B σ H env x _ R e1 λv H1 s1 r1=>?_
 have hi:=r1.is λq=>R.oo
 cases hd:x.d with
 | int i =>
  rw [hd] at hi e2
  obtain rfl:=fG hi
  obtain rfl:=dk e2
  exact ⟨i,rfl,q _ H1 s1 (Is.int _)⟩
 | _=>rw [hd] at e2;cases e2
variable {e:Expr}{es:List Expr}
noncomputable def ae:En->Option (List D):=λ_=>some []
noncomputable def af(f:En->Option Sl)(g:En->Option (List D)):En->Option (List D):=λenv=>(f env).bind λr=>(g env).bind λds=>some (r.d::ds)
theorem aw:AV X [] ae:=⟨_,pI,λO B σ H env ds Q R e q=>by
 obtain rfl:=dk e
 exact q [] H (ao.refl _) .nil⟩
theorem ag(ha:EV X e fe)(hb:AV X es fs)(hs:starEach (e::es) X.env=(false,eval e X.env)::starEach es X.env:=by rfl):AV X (e::es) (af fe fs):=by
 obtain ⟨t,p,k⟩:=ha
 obtain ⟨u,p',k'⟩:=hb
 refine ⟨_,mZ p p' hs,λO B σ H env ds Q R e q=>?_⟩
 obtain ⟨r,e1,e2⟩:=bind_some e
 obtain ⟨qe,e4,e3⟩:=bind_some e2
 obtain rfl:=dk e3
 refine k O B σ H env r _ R e1 λv H1 s1 r1=>?_
 refine k' O B σ H1 env qe _ (R.grow s1) e4 λvs H2 s2 r2=>?_
 exact q _ H2 (s1.trans s2) (.cons ((r1.is λq=>R.oo).grow s2) r2)
theorem lJ(h:H p=none)(o:HO):ao H (upd H p o):=λb u q=>by rw [bM (jK q h)];exact q
noncomputable def bD(f:En->Option (List D)):En->Option Sl:=λenv=>(f env).bind λds=>if ds.length<=16777216 then some (.sh (.tup ds)) else none
noncomputable def aZ(f:En->Option (List D)):En->Option Sl:=λenv=>(f env).bind λds=>if ds.length<=16777216 then some (.ow ds) else none
theorem gx{α:Type}{c:Prop}[Decidable c]{x y:α}(h:(if c then some x else none)=some y):c/\x=y:=by
 by_cases hc:c
 .rw [if_pos hc] at h;exact ⟨hc,dk h⟩
 .rw [if_neg hc] at h;cases h
theorem FT{K:aC}{O:Addr->Prop}{H:Hp}{p:Addr}{xs:List V}{ds:List D}(hO:∀q,O q->H q≠none)(hp:H p=none)(h:aN K O H xs ds):Res K O H (upd H p (.tup xs)) (.ref p) (.sh (.tup ds)):=
 Is.tup (λz=>hO p z hp) (.inl kQ) (h.grow (lJ hp _))
theorem vP{K:aC}{O:Addr->Prop}{H:Hp}{p:Addr}{xs:List V}{ds:List D}(hp:H p=none)(h:aN K O H xs ds):Res K O H (upd H p (.lst xs)) (.ref p) (.ow ds):=
 ⟨p,xs,rfl,hp,kQ,h.map (λq hq hn z=>z.elim hn λw=>hq (by rw [w];exact hp)) λq u e _=>lJ hp _ q u e⟩
theorem gz{x1}(h:AV X es fs):EV X (.Tuple es x1 pos) (bD fs):=by
 obtain ⟨t,p,k⟩:=h
 refine ⟨_,b76 p,λO B σ H env r Q R e q=>?_⟩
 obtain ⟨ds,e1,e2⟩:=bind_some e
 obtain ⟨hl,rfl⟩:=gx e2
 refine k O B σ H env ds _ R e1 λvs H1 s1 r1=>⟨by rw [r1.length,h8];exact hl,λp hp=>?_⟩
 exact q _ _ (s1.trans (lJ hp _)) ((FT (O:=OO O σ env) (H:=H1) (λ_ z=>(R.grow s1).oo z) hp r1).from s1)
theorem eI(h:AV X es fs):EV X (.List es pos) (aZ fs):=by
 obtain ⟨t,p,k⟩:=h
 refine ⟨_,b8b p,λO B σ H env r Q R e q=>?_⟩
 obtain ⟨ds,e1,e2⟩:=bind_some e
 obtain ⟨hl,rfl⟩:=gx e2
 refine k O B σ H env ds _ R e1 λvs H1 s1 r1=>⟨by rw [r1.length,h8];exact hl,λp hp=>?_⟩
 exact q _ _ (s1.trans (lJ hp _)) ((vP hp r1).from s1)
noncomputable def ax(f:En->Option (Bool×List D))(g:En->Option Sl):En->Option Sl:=λenv=>(f env).bind λx=>(g env).bind λy=>match y.d with
 | .int i=>(eH x.2 i).map .sh
 | _=>none
theorem aE{fa:En->Option (Bool×List D)}(ha:BV X a fa)(hb:EV X b fb)(hs:RJ b:=by exact λ_ _=>rfl):EV X (.Subscript a b pos) (ax fa fb):=by
 obtain ⟨t,p,k⟩:=ha
 obtain ⟨u,p',k'⟩:=hb
 refine ⟨_,zw b8B p p' hs,λO B σ H env r Q R e q=>?_⟩
 obtain ⟨⟨kk,ds⟩,e1,e2⟩:=bind_some e
 obtain ⟨y,e2,e3⟩:=bind_some e2
 refine k O B σ H env kk ds _ R e1 λl xs H1 s1 hq hx=>?_
 refine k' O B σ H1 env y _ (R.grow s1) e2 λw H2 s2 r2=>?_
 have hi:=r2.is λq=>(R.grow s1).oo
 cases hd:y.d with
 | int i =>
  rw [hd] at hi e3
  obtain rfl:=fG hi
  dsimp only at e3
  cases h:eH ds i with
  | none=>rw [h] at e3;cases e3
  | some d =>
   rw [h] at e3
   obtain rfl:=dk e3
   obtain ⟨v,h1,h2⟩:=(hx.grow s2).eH h
   have jR:=hq.grow s2
   have fin:=q v H2 (s1.trans s2) h2
   cases kk with
   | true=>exact .inl ⟨l,xs,i,v,rfl,rfl,jR,h1,fin⟩
   | false=>exact .inr (.inl ⟨l,xs,i,v,rfl,rfl,jR,h1,fin⟩)
 | _=>rw [hd] at e3;cases e3
end
noncomputable def LIM:Int:=10^250
theorem b5Y(h1:-LIM<=j)(h2:j<=LIM):j.natAbs<2^900:=by
 have e:LIM<(2:Int)^900:=by unfold LIM;decide +kernel
 have e2:((2:Int)^900)=((2^900:Nat):Int):=by simp
 generalize (2^900:Nat)=m at *
 generalize LIM=l at *
 omega
theorem RP(h1:-LIM<=j)(h2:j<=LIM):j.natAbs.log2<900:=by
 rcases Nat.eq_zero_or_pos j.natAbs with h0 | hp
 .rw [h0];decide
 .exact (Nat.log2_lt (w8 hp)).mpr (b5Y h1 h2)
theorem Mw(h1:-LIM<=j)(h2:j<=LIM):Kk j<=900:=by
 have:=RP h1 h2
 unfold Kk
 split<;>lia
def MulC(i j:Int):Prop:=(-(2^64)<i/\i<2^64)\/(-(2^64)<j/\j<2^64)\/((-LIM<=i/\i<=LIM)/\(-LIM<=j/\j<=LIM))
noncomputable instance (i j:Int):Decidable (MulC i j):=by unfold MulC;infer_instance
theorem MulC.ok(h:MulC i j):IntMulOk i j:=by
 rcases h with ⟨h1,h2⟩ | ⟨h1,h2⟩ | ⟨⟨h1,h2⟩,h3,h4⟩
 .exact .of_left (Ex h1 h2)
 .exact .of_right (Ex h1 h2)
 .exact mulOk_of_bits (Mw h1 h2) (Mw h3 h4) (by decide)
def DivC(_ j:Int):Prop:=0<j/\j<=LIM
noncomputable instance (i j:Int):Decidable (DivC i j):=by unfold DivC;infer_instance
def se(_ j:Int):Prop:=0<j
noncomputable instance (i j:Int):Decidable (se i j):=by unfold se;infer_instance
def PowC(i j:Int):Prop:=0<=j/\j<=1000000/\i.natAbs<2^64
noncomputable instance (i j:Int):Decidable (PowC i j):=by unfold PowC;infer_instance
noncomputable def gI(C:Int->Int->Prop)[∀i j,Decidable (C i j)](h:Int->Int->Int):D->D->Option Sl
 | .int i,.int j=>if C i j then some (.sh (.int (h i j))) else none
 | _,_=>none
noncomputable def gB(h:Int->Int->Bool):D->D->Option Sl
 | .int i,.int j=>some (.sh (.bl (h i j)))
 | _,_=>none
section
variable {X:Cx}
theorem xA{f:Value->Value->Sem Value}{C:Int->Int->Prop}[∀i j,Decidable (C i j)]{h:Int->Int->Int}(ho:fJ X f (rI C λi j=>.int (h i j))):gJ X f (gI C h):=by
 refine ⟨_,ho,λO H x y a b s Q hO hx hy e q=>?_⟩
 cases a with
 | int i=>cases b with
  | int j =>
   obtain ⟨hc,rfl⟩:=gx (show (if C i j then some (Sl.sh (.int (h i j))) else none)=some s from e)
   exact ⟨i,j,fG hx,fG hy,hc,q _ H (ao.refl _) (Is.int _)⟩
  | _=>cases e
 | _=>cases e
theorem Lf(ho:fJ X f (uh λi j=>.bl (h i j))):gJ X f (gB h):=by
 refine ⟨_,ho,λO H x y a b s Q hO hx hy e q=>?_⟩
 cases a with
 | int i=>cases b with
  | int j =>
   obtain rfl:=dk (show some (Sl.sh (.bl (h i j)))=some s from e)
   exact ⟨i,j,fG hx,fG hy,q _ H (ao.refl _) (Is.bl _)⟩
  | _=>cases e
 | _=>cases e
noncomputable def fU:D->D->Option Sl:=gI MulC λi j=>i*j
noncomputable def cJ:D->D->Option Sl:=gI DivC λi j=>i/j
noncomputable def bC:D->D->Option Sl:=gI se λi j=>i%j
noncomputable def eL:D->D->Option Sl:=gI PowC λi j=>i^j.toNat
noncomputable def bS:D->D->Option Sl:=gI (λ_ _=>True) λi j=>i-j
noncomputable def iN:D->D->Option Sl:=gB λi j=>decide (i<j)
noncomputable def n6:D->D->Option Sl:=gB λi j=>decide (i<=j)
noncomputable def o8:D->D->Option Sl:=gB λi j=>decide (j<i)
noncomputable def gGe:D->D->Option Sl:=gB λi j=>decide (j<=i)
theorem pH:gJ X (binaryOp .Mult) fU:=xA (uo λ_ _ _ _ _ _ _ (hc:MulC _ _) q=>mul_int q hc.ok)
theorem iF:gJ X (binaryOp .FloorDiv) cJ:=xA (uo λi j _ _ _ _ _ (hc:DivC i j) q=>by
 have h1:(0:Int)<j:=hc.1
 have h2:=RP (j:=j) (by have:(0:Int)<=LIM:=(by decide +kernel);ext h1 this) hc.2
 exact floordiv_int (by ext h1) (by rw [Int.fdiv_eq_ediv_of_nonneg i (by ext h1)];exact q) (.inl (PyProof.noPylong_of_log2 (dY ‹_› (by decide)))))
theorem eT:gJ X (binaryOp .Mod) bC:=xA (uo λi j _ _ _ _ _ (hc:se i j) q=>by
 have h1:(0:Int)<j:=hc
 exact mod_int' (by ext h1) (by rw [Int.fmod_eq_emod_of_nonneg i (by ext h1)];exact q))
theorem mY:gJ X (binaryOp .Pow) eL:=xA (uo λ_ _ _ _ _ _ _ (hc:PowC _ _) q=>pow_int_small hc.1 hc.2.1 hc.2.2 q)
theorem ik:gJ X (binaryOp .Sub) bS:=xA (uo λ_ _ _ _ _ _ _ _ q=>sub_int q)
theorem jV:gJ X (compareOp .Lt) iN:=Lf zE
theorem ql:gJ X (compareOp .LtE) n6:=Lf zF
theorem tG:gJ X (compareOp .Gt) o8:=Lf zG
noncomputable def aU:D->D->Option Sl
 | .int i,.int j=>some (.sh (.int (i+j)))
 | .lst false a,.lst false b=>if a.length+b.length<=16777216 then some (.ow (a++b)) else none
 | .tup a,.tup b=>if a.length+b.length<=16777216 then some (.sh (.tup (a++b))) else none
 | .str a,.str b=>if a.length+b.length<=16777216 then some (.sh (.str (a++b))) else none
 | _,_=>none
theorem FD{K:aC}{O:Addr->Prop}{H:Hp}{v:V}{ds:List D}(h:Is K O H v (.tup ds)):∃p xs,v=.ref p/\fj K H p xs/\aN K O H xs ds:=by
 obtain ⟨p,xs,e,h1,h2⟩:=h.seq (k:=false) rfl
 exact ⟨p,xs,e,h1,h2⟩
theorem FC{K:aC}{O:Addr->Prop}{H:Hp}{v:V}{ds:List D}(h:Is K O H v (.lst false ds)):∃p xs,v=.ref p/\¬O p/\H p=some (.lst xs)/\aN K O H xs ds:=by
 cases h with
 | lst ho hp hs=>exact ⟨_,_,rfl,ho,hp,hs⟩
theorem aN.eE{K:aC}{O:Addr->Prop}{H:Hp}{xs:List V}{ds:List D}(h:aN K O H xs ds):xs=[]↔ds=[]:=by cases h<;>simp
theorem T6{α:Type}{c:Prop}{d:Decidable c}{x y:α}(h:(@ite _ c d (some x) none)=some y):c/\x=y:=gx h
theorem dJ:gJ X (binaryOp .Add) aU:=by
 refine ⟨_,um.or (uk.or (qU.or (lQ.or b5P))),λO H x y a b s Q hO hx hy e q=>?_⟩
 cases a with
 | int i=>cases b with
  | int j =>
   obtain rfl:=dk (show some (Sl.sh (.int (i+j)))=some s from e)
   exact .inl ⟨i,j,fG hx,fG hy,q _ H (ao.refl _) (Is.int _)⟩
  | _=>cases e
 | lst r a=>cases r with
  | true=>cases b<;>cases e
  | false=>cases b with
   | lst r b=>cases r with
    | true=>cases e
    | false =>
     obtain ⟨hl,rfl⟩:=gx (show (if a.length+b.length<=16777216 then some (Sl.ow (a++b)) else none)=some s from e)
     obtain ⟨p1,xs,rfl,_,h1,i1⟩:=FC hx
     obtain ⟨p2,ys,rfl,_,h2,i2⟩:=FC hy
     exact .inr (.inl ⟨p1,p2,xs,ys,rfl,rfl,h1,h2,by rw [i1.length,i2.length,h8];exact hl,λp hp=>q _ _ (lJ hp _) (vP hp (i1.append i2))⟩)
   | _=>cases e
 | tup a=>cases b with
  | tup b =>
   obtain ⟨hl,rfl⟩:=T6 (show (if a.length+b.length<=16777216 then some (Sl.sh (.tup (a++b))) else none)=some s from e)
   obtain ⟨p1,xs,rfl,h1,i1⟩:=FD hx
   obtain ⟨p2,ys,rfl,h2,i2⟩:=FD hy
   by_cases h0:a=[]
   .subst h0
    cases i1
    exact .inr (.inr (.inr (.inr ⟨p1,p2,ys,rfl,rfl,h1,h2,q _ H (ao.refl _) hy⟩)))
   refine .inr (.inr (.inl ⟨p1,p2,xs,ys,rfl,rfl,h1,h2,λz=>h0 (i1.eE.mp z),by rw [i1.length,i2.length,h8];exact hl,λz=>?_,λz p hp=>q _ _ (lJ hp _) (FT hO hp (i1.append i2))⟩))
   have z':=i2.eE.mp z
   subst z'
   rw [mU] at q
   exact q _ H (ao.refl _) hx
  | _=>cases e
 | str a=>cases b with
  | str b =>
   obtain ⟨hl,rfl⟩:=gx (show (if a.length+b.length<=16777216 then some (Sl.sh (.str (a++b))) else none)=some s from e)
   exact .inr (.inr (.inr (.inl ⟨a,b,Rb hx,Rb hy,by rw [h8];exact hl,q _ H (ao.refl _) (Is.str _)⟩)))
  | _=>cases e
 | _=>cases e
noncomputable def Jv:D->D->Option Bool
 | .int i,.int j=>some (decide (i=j))
 | .bl i,.bl j=>some (decide (i=j))
 | .str i,.str j=>some (decide (i=j))
 | .aG,.aG=>some true
 | .aG,.int _=>some false
 | .int _,.aG=>some false
 | .aG,.bl _=>some false
 | .bl _,.aG=>some false
 | .aG,.str _=>some false
 | .str _,.aG=>some false
 | .int _,.str _=>some false
 | .str _,.int _=>some false
 | .bl _,.str _=>some false
 | .str _,.bl _=>some false
 | _,_=>none
theorem QO{K:aC}{O:Addr->Prop}{H:Hp}{x y:V}{a b:D}{k:Bool}(hx:Is K O H x a)(hy:Is K O H y b)(e:Jv a b=some k):uf x y=true/\decide (x=y)=k:=by
 cases hx<;>cases hy<;>first
  | (cases e;exact ⟨rfl,by simp⟩)
  | (cases e)
noncomputable def Be:D->D->Option Sl:=λa b=>(Jv a b).map λk=>.sh (.bl k)
noncomputable def Bd:D->D->Option Sl:=λa b=>(Jv a b).map λk=>.sh (.bl !k)
theorem map_some{α β:Type}{o:Option α}{f:α->β}{b:β}(h:o.map f=some b):∃a,o=some a/\f a=b:=by
 cases o with
 | none=>cases h
 | some a=>exact ⟨a,rfl,dk h⟩
theorem b8n:gJ X (compareOp .Eq) Be:=by
 refine ⟨_,zH,λO H x y a b s Q hO hx hy e q=>?_⟩
 obtain ⟨k,e1,rfl⟩:=map_some e
 obtain ⟨h1,h2⟩:=QO hx hy e1
 exact ⟨h1,by rw [h2];exact q _ H (ao.refl _) (Is.bl _)⟩
theorem b8m:gJ X (compareOp .NotEq) Bd:=by
 refine ⟨_,zD,λO H x y a b s Q hO hx hy e q=>?_⟩
 obtain ⟨k,e1,rfl⟩:=map_some e
 obtain ⟨h1,h2⟩:=QO hx hy e1
 exact ⟨h1,by rw [h2];exact q _ H (ao.refl _) (Is.bl _)⟩
noncomputable def D.cQ:D->Bool
 | .aG=>true
 | _=>false
theorem RZ{K:aC}{O:Addr->Prop}{H:Hp}{x:V}{a:D}(hx:Is K O H x a):decide (x=.aG)=a.cQ:=by
 cases hx<;>simp [D.cQ]
noncomputable def nk:D->D->Option Sl:=λa b=>if b.cQ=true then some (.sh (.bl a.cQ)) else none
noncomputable def K8:D->D->Option Sl:=λa b=>if b.cQ=true then some (.sh (.bl !a.cQ)) else none
theorem Tn{b:D}(h:b.cQ=true):b=.aG:=by cases b<;>first | rfl | cases h
theorem Fu:gJ X (compareOp .Is) nk:=by
 refine ⟨_,b8i,λO H x y a b s Q hO hx hy e q=>?_⟩
 obtain ⟨hb,rfl⟩:=gx e
 rw [Tn hb] at hy
 exact ⟨Ra hy,by rw [RZ hx];exact q _ H (ao.refl _) (Is.bl _)⟩
theorem b5T:gJ X (compareOp .IsNot) K8:=by
 refine ⟨_,b5N,λO H x y a b s Q hO hx hy e q=>?_⟩
 obtain ⟨hb,rfl⟩:=gx e
 rw [Tn hb] at hy
 exact ⟨Ra hy,by rw [RZ hx];exact q _ H (ao.refl _) (Is.bl _)⟩
end
section
variable {X:Cx}{a b c:Expr}{pos p:Pos}{fa fb:En->Option Sl}{es:List Expr}{e:Expr}
def K0(X:Cx)(f:Value)(g:List D->Option Sl):Prop:=
 ∃r:List V->Hp->VK->Prop,cF X f r/\∀(O:Addr->Prop) (H:Hp) (xs:List V) (ds:List D) (s:Sl) (Q:VK),(∀q,O q->H q≠none)->aN X.K O H xs ds->g ds=some s ->
  (∀v H',ao H H'->Res X.K O H H' v s->Q v H')->r xs H Q
noncomputable def tI(g:List D->Option Sl)(fs:En->Option (List D)):En->Option Sl:=λenv=>(fs env).bind g
theorem xX{id:String}{x:Str}{g:List D->Option Sl}{fs:En->Option (List D)}(hc:K0 X (.builtin id) g)(hg:Gl X x)(hm:X.mg x=none)(hv:bootBuiltins x=some (.builtin id))(ha:AV X (e::es) fs)(hn:x ≠ "__name__":=by decide)(gv:(x==("__debug__":Str))=false:=by decide)
  (he:starEach (e::es) X.env=(false,eval e X.env)::starEach es X.env:=by rfl)(dG:(backTo pos (starEach es X.env)).any (·.1)=false:=by rfl):
  EV X (.Call (.Name x p) (e::es) [] pos) (tI g fs):=by
 obtain ⟨r,hr,IP⟩:=hc
 obtain ⟨t,pt,k⟩:=ha
 refine ⟨_,tP hr hg hm hv pt hn gv he dG,λO B σ H env s Q R e q=>?_⟩
 obtain ⟨ds,e1,e2⟩:=bind_some e
 refine k O B σ H env ds _ R e1 λvs H1 s1 r1=>?_
 exact IP (OO O σ env) H1 vs ds s Q (λq=>(R.grow s1).oo) r1 e2 λv H2 s2 r2=>q v H2 (s1.trans s2) (r2.from s1)
noncomputable def xF:List D->Option Sl
 | [.int i,.int j]=>some (.sh (.int (if j<i then j else i)))
 | _=>none
noncomputable def xE:List D->Option Sl
 | [.int i,.int j]=>some (.sh (.int (if j>i then j else i)))
 | _=>none
theorem MI{K:aC}{O:Addr->Prop}{H:Hp}{xs:List V}{i j:Int}(h:aN K O H xs [.int i,.int j]):xs=[.int i,.int j]:=by
 cases h with
 | cons h t=>cases t with
  | cons h' t=>cases t;rw [fG h,fG h']
theorem Fw{g:Int->Int->Option Sl}{ds:List D}{s:Sl}(e:(match ds with | [.int i,.int j]=>g i j | _=>none)=some s):∃i j,ds=[.int i,.int j]/\g i j=some s:=by
 split at e
 .exact ⟨_,_,rfl,e⟩
 .cases e
theorem Mb(hc:X.calm=true):K0 X (.builtin "min") xF:=by
 refine ⟨_,b2f hc,λO H xs ds s Q hO h e q=>?_⟩
 obtain ⟨i,j,rfl,e⟩:=Fw (g:=λi j=>some (.sh (.int (if j<i then j else i)))) e
 obtain rfl:=dk e
 exact ⟨i,j,MI h,q _ H (ao.refl _) (Is.int _)⟩
theorem Ma(hc:X.calm=true):K0 X (.builtin "max") xE:=by
 refine ⟨_,b2g hc,λO H xs ds s Q hO h e q=>?_⟩
 obtain ⟨i,j,rfl,e⟩:=Fw (g:=λi j=>some (.sh (.int (if j>i then j else i)))) e
 obtain rfl:=dk e
 exact ⟨i,j,MI h,q _ H (ao.refl _) (Is.int _)⟩
noncomputable def bH(f:En->Option (Bool×List D)):En->Option Sl:=λenv=>(f env).map λx=>.sh (.int x.2.length)
noncomputable def eList(f:En->Option (Bool×List D)):En->Option Sl:=λenv=>(f env).map λx=>.ow x.2
noncomputable def Cq(f:En->Option (Bool×List D)):En->Option Sl:=λenv=>(f env).bind λx=>if x.1=true then some (.sh (.tup x.2)) else none
variable {ba:En->Option (Bool×List D)}
theorem f'(hg:Gl X "len")(hm:X.mg "len" = none)(ha:BV X a ba)(hs:starEach [a] X.env=[(false,eval a X.env)]:=by rfl):EV X (.Call (.Name "len" p) [a] [] pos) (bH ba):=by
 obtain ⟨t,pt,k⟩:=ha
 refine ⟨_,tP a8e hg hm PySem.boot_len (mZ pt pI hs) (by decide) (by decide) hs rfl,λO B σ H env s Q R e q=>?_⟩
 obtain ⟨⟨kk,ds⟩,e1,rfl⟩:=map_some e
 refine k O B σ H env kk ds _ R e1 λl xs H1 s1 hq hx=>⟨l,xs,rfl,?_,?_⟩
 .cases kk with
  | true=>exact .inl hq
  | false=>exact .inr hq
 .rw [hx.length]
  exact q _ H1 s1 (Is.int _)
theorem Tc(hg:Gl X "tuple")(hm:X.mg "tuple" = none)(ha:BV X a ba)(hs:starEach [a] X.env=[(false,eval a X.env)]:=by rfl):EV X (.Call (.Name "tuple" p) [a] [] pos) (Cq ba):=by
 obtain ⟨t,pt,k⟩:=ha
 refine ⟨_,TK a66 hg hm (by decide +kernel) (mZ pt pI hs) (by decide) (by decide) hs rfl,λO B σ H env s Q R e q=>?_⟩
 obtain ⟨⟨kk,ds⟩,e1,e2⟩:=bind_some e
 obtain ⟨h1,rfl⟩:=gx e2
 refine k O B σ H env kk ds _ R e1 λl xs H1 s1 hq hx=>⟨l,xs,rfl,?_⟩
 cases (show kk=true from h1)
 exact .inl ⟨hq,λp hp=>q _ _ (s1.trans (lJ hp _)) ((FT (O:=OO O σ env) (H:=H1) (λ_ z=>(R.grow s1).oo z) hp hx).from s1)⟩
end
section
variable {K:aC}{O:Addr->Prop}{B H H1:Hp}{σ:L2.St}{env:En}{v:V}{r:Sl}{i:Nat}
theorem b5L(h:jZ (σ.set i (some v)) (env.set i r) q):jZ σ env q\/(r.own/\v=.ref q):=by
 obtain ⟨j,t,h1,ho,h2⟩:=h
 by_cases hj:i=j
 .subst hj
  rw [EM] at h1 h2
  rw [if_pos rfl] at h1 h2
  split at h1
  .cases h1
   split at h2
   .cases h2;exact .inr ⟨ho,rfl⟩
   .cases h2
  .cases h1
 .rw [eR hj] at h1 h2
  exact .inl ⟨j,t,h1,ho,h2⟩
theorem Res.fresh(h:Res K O B H v r)(ho:r.own):∃p,v=.ref p/\B p=none/\H p≠none:=by
 cases r with
 | no=>exact ho.elim
 | sh d=>exact ho.elim
 | ow ds=>obtain ⟨p,xs,e1,e2,e3,_⟩:=h;exact ⟨p,e1,e2,by rw [e3];exact λz=>nomatch z⟩
 | dw bw=>obtain ⟨p,e1,e2,e3⟩:=h;exact ⟨p,e1,e2,by rw [e3];exact λz=>nomatch z⟩
theorem Rel.set(R:Rel K O B σ H env)(s:ao H H1)(h:Res K (OO O σ env) H H1 v r)(hi:i<env.length):
  Rel K O B (σ.set i (some v)) H1 (env.set i r)/\Gd σ env H (σ.set i (some v)) (env.set i r) H1:=by
 have new:∀q,jZ (σ.set i (some v)) (env.set i r) q->jZ σ env q\/(H q=none/\r.own/\v=.ref q):=λq z=>by
  rcases b5L z with z | ⟨ho,rfl⟩
  .exact .inl z
  .obtain ⟨p,e1,e2,_⟩:=h.fresh ho
   cases e1
   exact .inr ⟨e2,ho,rfl⟩
 have hO:∀q,H q≠none->¬OO O σ env q->¬OO O (σ.set i (some v)) (env.set i r) q:=λq hq hn z=>by
  rcases z with z | z
  .exact hn (.inl z)
  .rcases new q z with z | ⟨z,_⟩
   .exact hn (.inr z)
   .exact hq z
 have hH:∀q u,H q=some u->¬OO O σ env q->H1 q=some u:=λq u e _=>s q u e
 have oZ:i<σ.length:=by rw [R.len];exact hi
 refine ⟨⟨R.same.trans s,R.n9,by simp [R.len],λj d e=>?_,λj ds e=>?_,λj bw e=>?_,λj k ds es p e1 e2 e3 e4 o1 o2=>?_⟩,λq u e n=>⟨s q u e,λz=>?_⟩⟩
 .by_cases hj:i=j
  .subst hj
   rw [iS hi] at e
   cases e
   refine ⟨v,by rw [iS oZ],Is.less (O:=OO O σ env) (λq z=>z.elim .inl λz=>?_) h⟩
   rcases new q z with z | ⟨_,z,_⟩
   .exact .inr z
   .exact z.elim
  .rw [eR hj] at e
   obtain ⟨w,e1,h1⟩:=R.sh j d e
   exact ⟨w,by rw [eR hj];exact e1,h1.map hO hH⟩
 .by_cases hj:i=j
  .subst hj
   rw [iS hi] at e
   cases e
   obtain ⟨p,xs,rfl,e2,e3,h1⟩:=h
   refine ⟨p,xs,by rw [iS oZ],R.same.free e2,e3,h1.less λq z=>?_⟩
   rcases z with z | z
   .exact .inl (.inl z)
   .rcases new q z with z | ⟨_,_,z⟩
    .exact .inl (.inr z)
    .cases z;exact .inr rfl
  .rw [eR hj] at e
   obtain ⟨p,xs,e1,e2,e3,h1⟩:=R.ow j ds e
   exact ⟨p,xs,by rw [eR hj];exact e1,e2,s _ _ e3,h1.map hO hH⟩
 .by_cases hj:i=j
  .subst hj
   rw [iS hi] at e
   cases e
   obtain ⟨p,rfl,e2,e3⟩:=h
   exact ⟨p,by rw [iS oZ],R.same.free e2,e3⟩
  .rw [eR hj] at e
   obtain ⟨p,e1,e2,e3⟩:=R.dw j bw e
   exact ⟨p,by rw [eR hj];exact e1,e2,s _ _ e3⟩
 .have other:∀j t,j≠i->env[j]?=some t->t.own->σ[j]?=some (some (V.ref p))->r.own->v≠.ref p:=λj t hj e ho e' hr z=>by
   obtain ⟨p',rfl,e2,_⟩:=h.fresh hr
   cases z
   obtain ⟨p2,u,e5,_,e6⟩:=R.ad e ho
   rw [e'] at e5
   cases e5
   rw [e2] at e6
   cases e6
  by_cases hj:i=j
  .by_cases hk:i=k
   .rw [<-hj,<-hk]
   .subst hj
    rw [iS hi] at e1
    rw [iS oZ] at e3
    rw [eR hk] at e2 e4
    cases e1
    cases e3
    exact absurd rfl (other k es (fE hk) e2 o2 e4 o1)
  .by_cases hk:i=k
   .subst hk
    rw [iS hi] at e2
    rw [iS oZ] at e4
    rw [eR hj] at e1 e3
    cases e2
    cases e4
    exact absurd rfl (other j ds (fE hj) e1 o1 e3 o2)
   .rw [eR hj] at e1 e3
    rw [eR hk] at e2 e4
    exact R.sep j k ds es p e1 e2 e3 e4 o1 o2
 .rcases new q z with z | ⟨z,_⟩
  .exact n z
  .rw [e] at z;cases z
theorem Rel.U9{p:Addr}{u':HO}{t t':Sl}(R:Rel K O B σ H env)(he:env[i]?=some t)(ho:t.own)(gD:t'.own)(hs:σ[i]?=some (some (V.ref p)))
  (hx:(∀qe,t'=.ow qe->∃qK,u'=.lst qK/\aN K (OO O σ env) H qK qe)/\∀Ad,t'=.dw Ad->u'=JB Ad):
  Rel K O B σ (upd H p u') (env.set i t')/\Gd σ env H σ (env.set i t') (upd H p u'):=by
 have hi:i<env.length:=(iB.mp he).1
 have own:∀q,jZ σ (env.set i t') q->jZ σ env q:=λq ⟨j,es,e1,e3,e2⟩=>by
  by_cases hj:i=j
  .subst hj;exact ⟨i,t,he,ho,e2⟩
  .rw [eR hj] at e1;exact ⟨j,es,e1,e3,e2⟩
 have zz:jZ σ env p:=⟨i,t,he,ho,hs⟩
 obtain ⟨p0,u0,f1,f2,f3⟩:=R.ad he ho
 rw [hs] at f1
 cases f1
 have hO:∀q,H q≠none->¬OO O σ env q->¬OO O σ (env.set i t') q:=λq _ hn z=>hn (z.elim .inl λz=>.inr (own q z))
 have hH:∀q u,H q=some u->¬OO O σ env q->upd H p u' q=some u:=λq u e n=>by
  rw [bM (λz=>n (.inr (by rw [z];exact zz)))]
  exact e
 refine ⟨⟨λq u e=>?_,R.n9,by simp [R.len],λj d e=>?_,λj es e=>?_,λj bw e=>?_,λj k es fs q e1 e2 e3 e4 o1 o2=>?_⟩,λq u e n=>⟨?_,λz=>n (own q z)⟩⟩
 .rw [bM (jK e f2)];exact R.same q u e
 .by_cases hj:i=j
  .subst hj;rw [iS hi] at e;cases e;exact gD.elim
  .rw [eR hj] at e
   obtain ⟨w,e1,h1⟩:=R.sh j d e
   exact ⟨w,e1,h1.map hO hH⟩
 .by_cases hj:i=j
  .subst hj
   rw [iS hi] at e
   cases e
   obtain ⟨qK,hu,mG⟩:=hx.1 _ rfl
   exact ⟨p,qK,hs,f2,by rw [kQ,hu],mG.map hO hH⟩
  .rw [eR hj] at e
   obtain ⟨p2,GO,e1,e2,e3,h1⟩:=R.ow j es e
   refine ⟨p2,GO,e1,e2,?_,h1.map hO hH⟩
   rw [bM (λz=>hj (R.sep i j t _ p he e hs (by rw [e1,z]) ho trivial))]
   exact e3
 .by_cases hj:i=j
  .subst hj
   rw [iS hi] at e
   cases e
   exact ⟨p,hs,f2,by rw [kQ,hx.2 _ rfl]⟩
  .rw [eR hj] at e
   obtain ⟨p2,e1,e2,e3⟩:=R.dw j bw e
   refine ⟨p2,e1,e2,?_⟩
   rw [bM (λz=>hj (R.sep i j t _ p he e hs (by rw [e1,z]) ho trivial))]
   exact e3
 .have fix:∀(j:Nat) (es:Sl),(env.set i t')[j]?=some es->es.own->∃gs:Sl,env[j]?=some gs/\gs.own:=λj es e o=>by
   by_cases hj:i=j
   .subst hj;exact ⟨t,he,ho⟩
   .rw [eR hj] at e;exact ⟨es,e,o⟩
  obtain ⟨g1,h1,q1⟩:=fix j es e1 o1
  obtain ⟨g2,h2,q2⟩:=fix k fs e2 o2
  exact R.sep j k g1 g2 q h1 h2 e3 e4 q1 q2
 .rw [bM (λz=>n (by rw [z];exact zz))];exact e
theorem Rel.wr(R:Rel K O B σ H env)(he:env[i]?=some (Sl.ow ds))(hs:σ[i]?=some (some (V.ref p)))(hx:aN K (OO O σ env) H qK qe):
  Rel K O B σ (upd H p (.lst qK)) (env.set i (.ow qe))/\Gd σ env H σ (env.set i (.ow qe)) (upd H p (.lst qK)):=
 R.U9 (t':=.ow qe) he trivial trivial hs (c3J (λ_ e=>by cases e;exact ⟨qK,rfl,hx⟩) λ_ e=>nomatch e)
theorem Rel.Bh{t:Sl}(R:Rel K O B σ H env)(he:env[i]?=some t)(ho:t.own):Rel K O B σ H (env.set i (.sh t.d))/\Gd σ env H σ (env.set i (.sh t.d)) H:=by
 have hi:i<env.length:=(iB.mp he).1
 obtain ⟨p,u0,f1,f2,f3⟩:=R.ad he ho
 have own:∀q,jZ σ (env.set i (.sh t.d)) q->jZ σ env q/\q≠p:=λq ⟨j,es,e1,o,e2⟩=>by
  by_cases hj:i=j
  .subst hj;rw [iS hi] at e1;cases e1;exact o.elim
  .rw [eR hj] at e1
   exact ⟨⟨j,es,e1,o,e2⟩,λz=>hj (R.sep i j t es p he e1 f1 (by rw [e2,z]) ho o)⟩
 have less:∀q,OO O σ (env.set i (.sh t.d)) q->OO O σ env q:=λq z=>z.elim .inl λz=>.inr (own q z).1
 have np:¬OO O σ (env.set i (.sh t.d)) p:=λz=>z.elim (λz=>R.n9.1 p z f2) λz=>(own p z).2 rfl
 refine ⟨⟨R.same,R.n9,by simp [R.len],λj d e=>?_,λj es e=>?_,λj bw e=>?_,λj k es fs q e1 e2 e3 e4 o1 o2=>?_⟩,λq u e n=>⟨e,λz=>n (own q z).1⟩⟩
 .by_cases hj:i=j
  .subst hj
   rw [iS hi] at e
   cases e
   refine ⟨.ref p,f1,?_⟩
   cases t with
   | no=>exact ho.elim
   | sh d=>exact ho.elim
   | ow ds =>
    obtain ⟨p',xs,g1,g2,g3,g4⟩:=R.ow i ds he
    rw [f1] at g1;cases g1
    exact .lst np g3 (g4.less less)
   | dw bw =>
    obtain ⟨p',g1,g2,g3⟩:=R.dw i bw he
    rw [f1] at g1;cases g1
    exact .lz np g3
  .rw [eR hj] at e
   obtain ⟨w,e1,h1⟩:=R.sh j d e
   exact ⟨w,e1,h1.less less⟩
 .by_cases hj:i=j
  .subst hj;rw [iS hi] at e;cases e
  .rw [eR hj] at e
   obtain ⟨p2,GO,e1,e2,e3,h1⟩:=R.ow j es e
   exact ⟨p2,GO,e1,e2,e3,h1.less less⟩
 .by_cases hj:i=j
  .subst hj;rw [iS hi] at e;cases e
  .rw [eR hj] at e
   exact R.dw j bw e
 .have fix:∀(j:Nat) (es:Sl),(env.set i (.sh t.d))[j]?=some es->es.own->env[j]?=some es:=λj es e o=>by
   by_cases hj:i=j
   .subst hj;rw [iS hi] at e;cases e;exact o.elim
   .rw [eR hj] at e;exact e
  exact R.sep j k es fs q (fix j es e1 o1) (fix k fs e2 o2) e3 e4 o1 o2
theorem Rel.fV{ds:List D}(R:Rel K O B σ H env)(he:env[i]?=some (Sl.ow ds)):Rel K O B σ H (env.set i (.sh (.lst false ds)))/\Gd σ env H σ (env.set i (.sh (.lst false ds))) H:=R.Bh he trivial
end
section
variable {X:Cx}{st:Stmt}{rest:List Stmt}{F G:SF}{a b c e:Expr}{fa:En->Option Sl}{ga:En->Option Bool}{pos:Pos}
noncomputable def c5:SF:=λenv=>some (.nx,env)
noncomputable def Hl:SF:=λenv=>some (.bk,env)
noncomputable def Wq:SF:=λenv=>some (.ct,env)
noncomputable def ai(F G:SF):SF:=λenv=>match F env with
 | some (.nx,env1)=>G env1
 | r=>r
theorem d9:jq X [] c5:=⟨_,b5A,λO B σ H env fl ah D R e q=>by
 cases (show some (Fl.nx,env)=some (fl,ah) from e)
 exact q σ H R (Gd.refl (ao.refl _))⟩
theorem aJ(h:SV X st F):jq X [st] F:=let ⟨t,p,k⟩:=h;⟨t,RV p,k⟩
theorem aF(h:SV X st F)(h2:jq X rest G):jq X (st::rest) (ai F G):=by
 obtain ⟨t,p,k⟩:=h
 obtain ⟨u,p',k'⟩:=h2
 refine ⟨_,Mn p p',λO B σ H env fl ah D R e q=>?_⟩
 unfold ai at e
 cases hF:F env with
 | none=>rw [hF] at e;cases e
 | some x =>
  obtain ⟨f1,env1⟩:=x
  rw [hF] at e
  refine k O B σ H env f1 env1 _ R hF ?_
  cases f1 with
  | nx=>exact λaz H' R' g'=>k' O B az H' env1 fl ah D R' e (q.from g')
  | bk=>cases e;exact q
  | ct=>cases e;exact q
  | rt r=>cases e;exact q
theorem b2Q:SV X (.Break pos) Hl:=⟨_,b2Z,λO B σ H env fl ah D R e q=>by
 cases (show some (Fl.bk,env)=some (fl,ah) from e)
 exact q σ H R (Gd.refl (ao.refl _))⟩
noncomputable def cG(c:En->Option Bool)(F G:SF):SF:=λenv=>match c env with
 | some true=>F env
 | some false=>G env
 | none=>none
theorem dt(hc:TV X c ga)(ha:jq X sa F)(hb:jq X sb G):SV X (.If c sa sb pos) (cG ga F G):=by
 obtain ⟨tc,pc,kc⟩:=hc
 obtain ⟨t,p,k⟩:=ha
 obtain ⟨u,p',k'⟩:=hb
 refine ⟨_,Q0 pc p p',λO B σ H env fl ah D R e q=>?_⟩
 unfold cG at e
 cases h:ga env with
 | none=>rw [h] at e;cases e
 | some x =>
  rw [h] at e
  refine kc O B σ H env x _ R h λH1 s1=>?_
  cases x with
  | true =>
   rw [if_pos rfl]
   exact k O B σ H1 env fl ah D (R.grow s1) e (q.from (Gd.refl s1))
  | false =>
   rw [if_neg fY]
   exact k' O B σ H1 env fl ah D (R.grow s1) e (q.from (Gd.refl s1))
noncomputable def aB(f:En->Option Sl):SF:=λenv=>(f env).map λr=>(.rt r,env)
theorem bK(h:EV X e fa):SV X (.Return (some e) pos) (aB fa):=by
 obtain ⟨t,p,k⟩:=h
 refine ⟨_,Ro p,λO B σ H env fl ah D R e q=>?_⟩
 obtain ⟨r,e1,e2⟩:=map_some e
 cases e2
 exact k O B σ H env r _ R e1 λv H1 s1 r1=>q v H1 (R.same.trans s1) ((r1.from R.same).less λq z=>.inl z)
noncomputable def y6:SF:=λenv=>some (.rt (.sh .aG),env)
noncomputable def oB(i:Nat):SF:=λenv=>match env[i]? with
 | some (.ow ds)=>some (.rt (.ow ds),env)
 | some (.dw ds)=>some (.rt (.dw ds),env)
 | some (.sh d)=>some (.rt (.sh d),env)
 | _=>none
theorem b5n(i:Nat){x:Str}{p2:Pos}(hN:X.N[i]?=some x:=by rfl)(hv:gH X.env.scope x:=by first | exact bJ rfl | exact bg (bJ rfl) | exact bg (bg rfl))(hd:(x==("__debug__":Str))=false:=by decide)
  (bW:(x==("__classdict__":Str))=false:=by decide):SV X (.Return (some (.Name x p2)) pos) (oB i):=by
 refine ⟨_,Ro (rQ hN hv hd bW),λO B σ H env fl ah D R e q=>?_⟩
 unfold oB at e
 cases h:env[i]? with
 | none=>rw [h] at e;cases e
 | some s =>
  rw [h] at e
  cases s with
  | no=>cases e
  | sh d =>
   cases e
   obtain ⟨v,e2,hv⟩:=R.sh i d h
   exact ⟨v,e2,q v H R.same (Is.less (λq z=>.inl z) hv)⟩
  | ow ds =>
   cases e
   obtain ⟨p,xs,e1,e2,e3,h1⟩:=R.ow i ds h
   exact ⟨_,e1,q _ H R.same ⟨p,xs,rfl,e2,e3,h1.less λq z=>z.elim .inl λz=>.inr ⟨i,.ow ds,h,trivial,by rw [z];exact e1⟩⟩⟩
  | dw bw =>
   cases e
   obtain ⟨p,e1,e2,e3⟩:=R.dw i bw h
   exact ⟨_,e1,q _ H R.same ⟨p,rfl,e2,e3⟩⟩
noncomputable def dA(i:Nat)(f:En->Option Sl):SF:=λenv=>(f env).bind λr=>if i<env.length then some (.nx,env.set i r) else none
theorem Ru(hN:X.N.Nodup)(hi:X.N[i]?=some x)(hx:Loc X.env.scope x)(he:EV X e fa)(hs:swapsWith e (some (.Name x pos')) pos.line X.env=pure false:=by rfl)(hf:X.fn x=true\/X.env.scope.names.lookup x=some .local:=by first | exact .inl rfl | exact .inr rfl | assumption):
  SV X (.Assign [.Name x pos'] e pos) (dA i fa):=by
 obtain ⟨t,p,k⟩:=he
 refine ⟨_,Fv hN hi hx p hs hf,λO B σ H env fl ah D R e q=>?_⟩
 obtain ⟨r,e1,e2⟩:=bind_some e
 obtain ⟨hl,e3⟩:=gx e2
 cases e3
 refine k O B σ H env r _ R e1 λv H1 s1 r1=>?_
 obtain ⟨R',g'⟩:=R.set s1 r1 hl
 exact q _ H1 R' g'
noncomputable def aX(i:Nat)(f:En->Option Sl):SF:=λenv=>(f env).bind λr=>if i<env.length then some (.nx,env.set i (.sh r.d)) else none
theorem Sk(hN:X.N.Nodup)(hi:X.N[i]?=some x)(hx:Loc X.env.scope x)(he:EV X e fa)(hs:swapsWith e (some (.Name x pos')) pos.line X.env=pure false:=by rfl)(hf:X.fn x=true\/X.env.scope.names.lookup x=some .local:=by first | exact .inl rfl | exact .inr rfl | assumption):
  SV X (.Assign [.Name x pos'] e pos) (aX i fa):=by
 obtain ⟨t,p,k⟩:=he
 refine ⟨_,Fv hN hi hx p hs hf,λO B σ H env fl ah D R e q=>?_⟩
 obtain ⟨r,e1,e2⟩:=bind_some e
 obtain ⟨hl,e3⟩:=gx e2
 cases e3
 refine k O B σ H env r _ R e1 λv H1 s1 r1=>?_
 obtain ⟨R',g'⟩:=R.set (r:=.sh r.d) s1 (r1.is λq=>R.oo) hl
 exact q _ H1 R' g'
noncomputable def y7(f:En->Option Sl):SF:=λenv=>(f env).map λ_=>(.nx,env)
noncomputable def o9(i:Nat)(env:En):En:=match env[i]? with
 | some (.ow ds)=>env.set i (.sh (.lst false ds))
 | some (.dw ds)=>env.set i (.sh (.lz false ds))
 | _=>env
noncomputable def m8(i:Nat)(F:SF):SF:=λenv=>F (o9 i env)
theorem LF(i:Nat)(h:SV X st F):SV X st (m8 i F):=by
 obtain ⟨t,p,k⟩:=h
 refine ⟨t,p,λO B σ H env fl ah D R e q=>?_⟩
 unfold m8 o9 at e
 cases h:env[i]? with
 | none=>rw [h] at e;exact k O B σ H env fl ah D R e q
 | some s =>
  rw [h] at e
  cases s with
  | no=>exact k O B σ H env fl ah D R e q
  | sh d=>exact k O B σ H env fl ah D R e q
  | ow ds =>
   obtain ⟨R',g'⟩:=R.fV h
   exact k O B σ H _ fl ah D R' e (q.from g')
  | dw ds =>
   obtain ⟨R',g'⟩:=R.Bh h trivial
   exact k O B σ H _ fl ah D R' e (q.from g')
noncomputable def dO(i:Nat)(f:En->Option Sl):SF:=λenv=>match env[i]? with
 | some (.ow ds)=>(f env).bind λr=>if ds.length<16777216 then some (.nx,env.set i (.ow (ds++[r.d]))) else none
 | _=>none
theorem TX{i:Nat}{x:Str}{p1 p2 aR:Pos}(ha:EV X e fa)(hN:X.N[i]?=some x:=by rfl)(hv:gH X.env.scope x:=by first | exact bJ rfl | exact bg (bJ rfl) | exact bg (bg rfl))(hd:(x==("__debug__":Str))=false:=by decide)
  (bW:(x==("__classdict__":Str))=false:=by decide)(hs:starEach [e] X.env=[(false,eval e X.env)]:=by rfl)
  (cE:attributeBase (.Name x p1) "append" X.env (eval (.Name x p1) X.env)=eval (.Name x p1) X.env:=by rfl)
  (gW:((backTo aR (starEach [e] X.env)).all (λx=>!x.1)&&(backToKw aR (keywordEach [] X.env)).all (λx=>x.1.isSome)
   && decide ([e].length+([]:List Keyword).length+(if ([]:List Keyword).isEmpty then 0 else 1)<30))=true:=by rfl)
  (cD:(p2.endLine==aR.line)=true:=by rfl)
  (q0:swapsWith (.Call (.Attribute (.Name x p1) "append" p2) [e] [] aR) none pos.line X.env=pure false:=by rfl):
  SV X (.Expr (.Call (.Attribute (.Name x p1) "append" p2) [e] [] aR) pos) (dO i fa):=by
 obtain ⟨t,p,k⟩:=ha
 refine ⟨_,RU (QK Ky P8 PySem.F.type_list_append b1j (rQ hN hv hd bW) (mZ p pI hs) cE gW cD hs rfl) q0,λO B σ H env fl ah D R e q=>?_⟩
 unfold dO at e
 cases h:env[i]? with
 | none=>rw [h] at e;cases e
 | some s =>
  rw [h] at e
  cases s with
  | no=>cases e
  | sh d=>cases e
  | dw bw=>cases e
  | ow ds =>
   obtain ⟨r,e1,e2⟩:=bind_some e
   obtain ⟨hl,e3⟩:=gx e2
   cases e3
   obtain ⟨l,xs,f1,f2,f3,f4⟩:=R.ow i ds h
   refine ⟨_,f1,.inl ⟨rfl,_,dR.of f3⟩,?_⟩
   refine k O B σ H env r _ R e1 λv H1 s1 r1=>⟨l,xs,v,rfl,rfl,s1 _ _ f3,by rw [f4.length,h8];exact hl,?_⟩
   obtain ⟨R',g'⟩:=(R.grow s1).wr h f1 ((f4.grow s1).append (.cons (r1.is λq=>R.oo) .nil))
   exact q _ _ R' (g'.from s1)
end
section
variable {X:Cx}{st:Stmt}{F:SF}{a b c e tg it:Expr}{fa:En->Option Sl}{ba:En->Option (Bool×List D)}{ga:En->Option Bool}{pos:Pos}
noncomputable abbrev GF:=D->En->Option En
def GV(X:Cx)(tg:Expr)(g:GF):Prop:=
 ∃t:TG,PG X tg t/\∀(O:Addr->Prop) (B:Hp) (σ:L2.St) (H:Hp) (env ah:En) (v:V) (d:D) (Q:L2.St->Hp->Prop),Rel X.K O B σ H env->Is X.K (OO O σ env) H v d->g d env=some ah ->
  (∀az H',Rel X.K O B az H' ah->Gd σ env H az ah H'->Q az H')->t v σ H Q
noncomputable def gN(i:Nat):GF:=λd env=>if i<env.length then some (env.set i (.sh d)) else none
theorem b6d(hN:X.N.Nodup)(hi:X.N[i]?=some x)(hx:Loc X.env.scope x)(hf:X.fn x=true\/X.env.scope.names.lookup x=some .local:=by first | exact .inl rfl | exact .inr rfl | assumption):GV X (.Name x pos) (gN i):=by
 refine ⟨_,b5G hN hi hx hf,λO B σ H env ah v d Q R h e q=>?_⟩
 obtain ⟨hl,rfl⟩:=gx e
 obtain ⟨R',g'⟩:=R.set (r:=.sh d) (ao.refl _) h hl
 exact q _ H R' g'
noncomputable abbrev we:=List D->En->Option En
def GH(X:Cx)(tg:List Expr)(g:we):Prop:=
 ∃t:t6,Df X tg t/\∀(O:Addr->Prop) (B:Hp) (σ:L2.St) (H:Hp) (env ah:En) (v:List V) (d:List D) (Q:L2.St->Hp->Prop),Rel X.K O B σ H env->aN X.K (OO O σ env) H v d->g d env=some ah ->
  (∀az H',Rel X.K O B az H' ah->Gd σ env H az ah H'->Q az H')->t v σ H Q
noncomputable def Cc:we:=λds env=>match ds with
 | []=>some env
 | _::_=>none
noncomputable def oC(g:GF)(u:we):we:=λds env=>match ds with
 | d::r=>(g d env).bind (u r)
 | []=>none
theorem L4:GH X [] Cc:=by
 refine ⟨_,b5F,λO B σ H env ah v d Q R h e q=>?_⟩
 cases h with
 | nil=>cases e;exact ⟨rfl,q σ H R (Gd.refl (ao.refl _))⟩
 | cons _ _=>cases e
theorem Gd.DK{K:aC}{O:Addr->Prop}{σ az:L2.St}{env ah:En}{H H':Hp}(g:Gd σ env H az ah H'){v:List V}{d:List D}(h:aN K (OO O σ env) H v d):aN K (OO O az ah) H' v d:=
 h.map (λq hq hn z=>by
  cases e:H q with
  | none=>exact hq e
  | some u =>
   obtain ⟨_,n'⟩:=g q u e λw=>hn (.inr w)
   exact z.elim (λw=>hn (.inl w)) n') λq u e n=>(g q u e λw=>n (.inr w)).1
theorem qD{es:List Expr}{g:GF}{u:we}(h1:GV X e g)(h2:GH X es u)
  (hs:(assignEach (e::es) X.env).map (·.2)=assign e X.env::(assignEach es X.env).map (·.2):=by rfl):GH X (e::es) (oC g u):=by
 obtain ⟨t,p,k⟩:=h1
 obtain ⟨t',p',k'⟩:=h2
 refine ⟨_,b23 p p' hs,λO B σ H env ah v d Q R h e q=>?_⟩
 cases h with
 | nil=>cases e
 | cons h ht =>
  obtain ⟨env1,e1,e2⟩:=bind_some (show (g _ env).bind (u _)=some ah from e)
  refine ⟨_,_,rfl,k O B σ H env env1 _ _ _ R h e1 λgj H1 R1 g1=>?_⟩
  exact k' O B gj H1 env1 ah _ _ Q R1 (g1.DK ht) e2 λcZ H2 R2 g2=>q cZ H2 R2 (g1.trans g2)
noncomputable def gT(n:Nat)(u:we):GF:=λd env=>match d with
 | .tup ds=>if ds.length=n then u ds env else none
 | _=>none
theorem Lx{es:List Expr}{k n:Nat}{u:we}(hc:X.calm=true)(h:GH X es u)(hn:(assignEach es X.env).length=n:=by rfl)(q8:(assignEach es X.env).findIdx? (·.1)=none:=by rfl):GV X (.Tuple es k pos) (gT n u):=by
 obtain ⟨t,p,k'⟩:=h
 refine ⟨_,b74 hc p hn q8,λO B σ H env ah v d Q R h e q=>?_⟩
 cases d with
 | tup ds =>
  have e':(if ds.length=n then u ds env else none)=some ah:=e
  by_cases hl:ds.length=n
  .rw [if_pos hl] at e'
   obtain ⟨a,xs,rfl,h1,h2⟩:=FD h
   exact ⟨a,xs,rfl,h1,by rw [h2.length];exact hl,k' O B σ H env ah xs ds Q R h2 e' q⟩
  .rw [if_neg hl] at e';cases e'
 | _=>cases e
noncomputable def y8(f:En->Option Sl)(g:GF):SF:=λenv=>(f env).bind λr=>(g r.d env).map λah=>(.nx,ah)
noncomputable def forL(g:GF)(F:SF):List D->SF
 | [],env=>some (.nx,env)
 | d::ds,env=>match g d env with
  | none=>none
  | some env1=>match F env1 with
   | some (.nx,aQ)=>forL g F ds aQ
   | some (.ct,aQ)=>forL g F ds aQ
   | some (.bk,aQ)=>some (.nx,aQ)
   | some (.rt r,aQ)=>some (.rt r,aQ)
   | none=>none
structure Left(K:aC)(O:Addr->Prop)(B:Hp)(qI:L2.St)(H0:Hp)(fD:En)(g:GF)(F:SF)(ds:List D)(fl:Fl)(ah:En)(i:Nat)(σ:L2.St)(H:Hp):Prop where
 ex:∃env,Rel K O B σ H env/\Gd qI fD H0 σ env H/\forL g F (ds.drop i) env=some (fl,ah)
theorem Te{g:GF}{yL:TG}{tb:TS}{O:Addr->Prop}{B:Hp}{qI:L2.St}{H0:Hp}{fD ah:En}{fl:Fl}{D:Ends}{ds:List DL.D}{xs:List V}{i:Nat}{x:V}{σ:L2.St}{H:Hp}
  (kg:∀(O:Addr->Prop) (B:Hp) (σ:L2.St) (H:Hp) (env ah:En) (v:V) (d:DL.D) (Q:L2.St->Hp->Prop),Rel X.K O B σ H env->Is X.K (OO O σ env) H v d->g d env=some ah ->
   (∀az H',Rel X.K O B az H' ah->Gd σ env H az ah H'->Q az H')->yL v σ H Q)
  (kb:∀(O:Addr->Prop) (B:Hp) (σ:L2.St) (H:Hp) (env:En) (fl:Fl) (ah:En) (D:Ends),Rel X.K O B σ H env->F env=some (fl,ah)->dM X.K O B σ H env D fl ah->tb D σ H)
  (hx:aN X.K (OO O qI fD) H0 xs ds)(hi:xs[i]?=some x)(q:dM X.K O B qI H0 fD D fl ah)(h:Left X.K O B qI H0 fD g F ds fl ah i σ H):
  yL x σ H λcZ H2=>tb { D with nx:=Left X.K O B qI H0 fD g F ds fl ah (i+1),ct:=Left X.K O B qI H0 fD g F ds fl ah (i+1),bk:=D.nx } cZ H2:=by
 obtain ⟨env,R,gd,e⟩:=h
 obtain ⟨d,hd,_⟩:=hx.rq hi
 have AQ:i<ds.length:=(iB.mp hd).1
 have AZ:ds.drop i=d::ds.drop (i+1):=by
  rw [jT AQ]
  rw [qk AQ] at hd
  rw [dk hd]
 obtain ⟨x',mG,Zk⟩:=(gd.DK hx).get hd
 rw [hi] at mG
 cases mG
 rw [AZ,forL] at e
 cases hg:g d env with
 | none=>rw [hg] at e;cases e
 | some env1 =>
  rw [hg] at e
  refine kg O B σ H env env1 x d _ R Zk hg λgj H1 R1 g1=>?_
  dsimp only at e
  cases hF:F env1 with
  | none=>rw [hF] at e;cases e
  | some y =>
   obtain ⟨f2,aQ⟩:=y
   rw [hF] at e
   have go:=gd.trans g1
   refine kb O B gj H1 env1 f2 aQ _ R1 hF ?_
   cases f2 with
   | nx=>exact λcZ H2 R2 g2=>⟨aQ,R2,go.trans g2,e⟩
   | ct=>exact λcZ H2 R2 g2=>⟨aQ,R2,go.trans g2,e⟩
   | bk=>cases e;exact λcZ H2 R2 g2=>q cZ H2 R2 (go.trans g2)
   | rt r=>cases e;exact q
theorem Mt{D:Ends}{ds:List DL.D}{n:Nat}(hn:ds.length<=n)
  (q:dM X.K O B qI H0 fD D fl ah)(h:Left X.K O B qI H0 fD g F ds fl ah n σ H):D.nx σ H:=by
 obtain ⟨env,R,gd,e⟩:=h
 rw [oi hn,forL] at e
 cases e
 exact q σ H R gd
noncomputable def di(f:En->Option Sl)(g:GF)(F:SF):SF:=λenv=>(f env).bind λr=>(e8 r.d).bind λx=>forL g F x.2 env
theorem Gd.sq{K:aC}{σ az:L2.St}{env ah:En}{H H':Hp}(gd:Gd σ env H az ah H'){k:Bool}{p:Addr}{xs:List V}(h:Sq K H k p xs)(hp:¬jZ σ env p\/H p=none):Sq K H' k p xs:=by
 have rd:∀u,Rd H p u->Rd H' p u:=λu z=>by
  rcases z with z | ⟨o,z⟩
  .rcases hp with hp | hp
   .exact .inl (gd p _ z hp).1
   .rw [hp] at z;cases z
  .rcases hp with hp | hp
   .exact .inr ⟨o,(gd p _ z hp).1⟩
   .rw [hp] at z;cases z
 cases k with
 | true =>
  rcases h with h | h
  .exact .inl (rd _ h)
  .exact .inr h
 | false =>
  rcases h with h | h
  .exact .inl (rd _ h)
  .exact .inr h
theorem Is.qR{K:aC}{O:Addr->Prop}{H:Hp}{v:V}{d:D}{k:Bool}{ds:List D}(h:Is K O H v d)(e:e8 d=some (k,ds)):∃p xs,v=.ref p/\Sq K H k p xs/\aN K O H xs ds/\(¬O p\/∀H',Sq K H' k p xs):=by
 cases h with
 | tup ho hp hs=>cases e;exact ⟨_,_,rfl,.inl hp,hs,.inl ho⟩
 | km hp hs=>cases e;exact ⟨_,_,rfl,CK hp,hs,.inr λ_=>CK hp⟩
 | lst ho hp hs=>cases e;exact ⟨_,_,rfl,.inl (.inl hp),hs,.inl ho⟩
 | j7 ho hp hs=>cases e;exact ⟨_,_,rfl,.inl hp,hs,.inl ho⟩
 | kn hp hs=>cases e;exact ⟨_,_,rfl,CJ hp,hs,.inr λ_=>CJ hp⟩
 | _=>cases e
noncomputable def HY(K:aC)(tl:TE):TI:=λσ H R=>tl σ H λx H1=>∃a,x=.ref a/\(((∃xs,dR K H1 a xs)/\R (yB K a) H1)\/((∃xs,fj K H1 a xs)/\R (Dj K a) H1))
theorem Rk(hl:PE X l tl):PI X tg l (HY X.K tl):=by
 intro pins s σ H R I h
 refine be (hl pins s σ H _ I h) λv s1 ⟨x,H1,I1,r1,q1⟩=>?_
 obtain ⟨a,e,q1⟩:=q1
 subst e
 cases r1
 rcases q1 with ⟨⟨xs,hq⟩,q⟩ | ⟨⟨xs,hq⟩,q⟩
 .obtain ⟨av,rv,p,hz⟩:=I1.list hq
  refine xl p.isList ?_
  refine ⟨s1.heap.objs.size,[s1.heap.objs.size],_,_,H1,rfl,I1.kept (t':=s1.toks) λb o e=>bP _ e,b0K a _,⟨_,ft _ rfl,rfl,rfl⟩,λb hb=>?_,q⟩
  have e:b=s1.heap.objs.size:=by simpa using hb
  subst e
  exact I1.kq (bA _) (I1.aT.fresh (bA _))
 .obtain ⟨av,rv,p,hz⟩:=I1.tuple hq
  refine xq (show s1.heap.IsTuple a av.toArray from p) ?_
  refine ⟨s1.heap.objs.size,[s1.heap.objs.size],_,_,H1,rfl,I1.kept (t':=s1.toks) λb o e=>bP _ e,a93 a _,⟨_,ft _ rfl,rfl,rfl⟩,λb hb=>?_,q⟩
  have e:b=s1.heap.objs.size:=by simpa using hb
  subst e
  exact I1.kq (bA _) (I1.aT.fresh (bA _))
theorem kP(hp:PassesOwn (model X.prog X.w) X.A X.env X.xe)(hc:X.calm=true)(hi:EV X it fa)(hg:GV X tg g)(hb:jq X body F)
  (hs:∀x,foldedSetIterable it X.env x=pure x:=by intro _;rfl):SV X (.For tg it body [] pos) (di fa g F):=by
 obtain ⟨ti,pi,ki⟩:=hi
 obtain ⟨yL,pg,kg⟩:=hg
 obtain ⟨tb,pb,kb⟩:=hb
 refine ⟨_,Rn hp hc (Rk pi) pg pb hs,λO B σ H env fl ah D R e q=>?_⟩
 obtain ⟨r,e1,e2⟩:=bind_some e
 obtain ⟨⟨k,ds⟩,e4,e5⟩:=bind_some e2
 refine ki O B σ H env r _ R e1 λv H1 s1 r1=>?_
 obtain ⟨p,xs,rfl,h1,h2,h3⟩:=(r1.is λq=>R.oo).qR e4
 refine ⟨p,rfl,?_⟩
 have q':dM X.K O B σ H1 env D fl ah:=q.from (Gd.refl s1)
 have keep:∀i cZ H2,Left X.K O B σ H1 env g F ds fl ah i cZ H2->Sq X.K H2 k p xs:=λi cZ H2 L=>by
  rcases h3 with h3 | h3
  .obtain ⟨aQ,_,gd,_⟩:=L
   exact gd.sq h1 (.inl λz=>h3 (.inr z))
  .exact h3 H2
 cases k with
 | true =>
  refine .inl ⟨⟨xs,h1⟩,?_⟩
  exact b3G (xs:=xs) (Left X.K O B σ H1 env g F ds fl ah) ⟨env,R.grow s1,Gd.refl (ao.refl _),e5⟩ (λi cZ H2 _ L=>keep i cZ H2 L) (λi x cZ H2 hx L=>Te kg kb h2 hx q' L) (λcZ H2 L=>Mt (by rw [h2.length];exact bA _) q' L)
 | false =>
  refine .inr ⟨⟨xs,h1⟩,?_⟩
  exact b6h (xs:=xs) (Left X.K O B σ H1 env g F ds fl ah) ⟨env,R.grow s1,Gd.refl (ao.refl _),e5⟩ (λi cZ H2 _ L=>keep i cZ H2 L) (λi x cZ H2 hx L=>Te kg kb h2 hx q' L) (λcZ H2 L=>Mt (by rw [h2.length];exact bA _) q' L)
noncomputable def bR(lo:Int)(n:Nat):List D:=(fq n).map λ(k:Nat)=>D.int (lo+(k:Int))
def R62(i:Int):Prop:=-(2^62)<=i/\i<2^62
noncomputable instance (i:Int):Decidable (R62 i):=by unfold R62;infer_instance
noncomputable def Hu:List D->Option (List D)
 | [.int j]=>if R62 j then some (bR 0 j.toNat) else none
 | _=>none
noncomputable def Ht:List D->Option (List D)
 | [.int i,.int j]=>if R62 i/\R62 j then some (bR i (j-i).toNat) else none
 | _=>none
noncomputable def QX(h:List D->Option (List D))(f:En->Option (List D))(g:GF)(F:SF):SF:=λenv=>(f env).bind λds=>(h ds).bind λis=>forL g F is env
noncomputable def qL(c:En->Option Bool)(F:SF):Nat->SF
 | 0,_=>none
 | n+1,env=>match c env with
  | none=>none
  | some false=>some (.nx,env)
  | some true=>match F env with
   | some (.nx,aQ)=>qL c F n aQ
   | some (.ct,aQ)=>qL c F n aQ
   | some (.bk,aQ)=>some (.nx,aQ)
   | some (.rt r,aQ)=>some (.rt r,aQ)
   | none=>none
noncomputable def Co(m:En->Nat)(c:En->Option Bool)(F:SF):SF:=λenv=>qL c F (m env) env
theorem Mp(m:En->Nat)(hp:PassesOwn (model X.prog X.w) X.A X.env X.xe)(hc:TV X c ga)(hb:jq X body F):SV X (.While c body [] pos) (Co m ga F):=by
 obtain ⟨tc,pc,kc⟩:=hc
 obtain ⟨tb,pb,kb⟩:=hb
 refine ⟨_,b2Y hp pc pb,λO B σ H env fl ah D R e q=>?_⟩
 refine ⟨λn gj H1=>∃env1,Rel X.K O B gj H1 env1/\Gd σ env H gj env1 H1/\qL ga F n env1=some (fl,ah),⟨m env,env,R,Gd.refl (ao.refl _),e⟩,?_⟩
 rintro n gj H1 ⟨env1,R1,g1,e1⟩
 cases n with
 | zero=>cases e1
 | succ n =>
  rw [qL] at e1
  cases h:ga env1 with
  | none=>rw [h] at e1;cases e1
  | some x =>
   rw [h] at e1
   refine kc O B gj H1 env1 x _ R1 h λH2 s2=>?_
   cases x with
   | false =>
    rw [if_neg fY]
    cases e1
    exact q gj H2 (R1.grow s2) (g1.trans (Gd.refl s2))
   | true =>
    rw [if_pos rfl]
    refine ⟨λaz H'=>∃aQ,Rel X.K O B az H' aQ/\Gd σ env H az aQ H'/\qL ga F n aQ=some (fl,ah),λaz H' ⟨aQ,a1,a2,a3⟩=>⟨n,vD n,aQ,a1,a2,a3⟩,?_⟩
    dsimp only at e1
    cases hF:F env1 with
    | none=>rw [hF] at e1;cases e1
    | some y =>
     obtain ⟨f2,aQ⟩:=y
     rw [hF] at e1
     have go:=g1.trans (Gd.refl s2)
     refine kb O B gj H2 env1 f2 aQ _ (R1.grow s2) hF ?_
     cases f2 with
     | nx=>exact λcZ H3 R2 g2=>⟨aQ,R2,go.trans g2,e1⟩
     | ct=>exact λcZ H3 R2 g2=>⟨aQ,R2,go.trans g2,e1⟩
     | bk=>cases e1;exact λcZ H3 R2 g2=>q cZ H3 R2 (go.trans g2)
     | rt r=>cases e1;exact q
end
noncomputable def mw(K:aC)(n:Nat)(φ:List D->Option Sl):Sp:=λvs H Q _=>∃(O:Addr->Prop) (ds:List D) (r:Sl),nW K O H/\aN K O H vs ds/\vs.length=n/\φ ds=some r /\
 ∀v H',ao H H'->Res K O H H' v r->Q v H'
noncomputable def jW(N:Nat)(ds:List D):En:=ds.map Sl.sh++ji (N-ds.length) Sl.no
noncomputable def aK(F:SF)(N:Nat)(ds:List D):Option Sl:=match F (jW N ds) with
 | some (.rt r,_)=>some r
 | some (.nx,_)=>some (.sh .aG)
 | _=>none
theorem MQ{K:aC}{O:Addr->Prop}{H:Hp}{N:List Str}{vs:List V}{ds:List D}(hO:nW K O H)(h:aN K O H vs ds):Rel K O H (start N vs) H (jW N.length ds):=by
 have hl:=h.length
 have qW:∀(i:Nat) (s:Sl),(jW N.length ds)[i]?=some s->s.own->False:=λi s e1 o=>by
  unfold jW at e1
  rw [PZ] at e1
  split at e1
  .rw [rL] at e1
   obtain ⟨d,_,e⟩:=map_some e1
   cases e
   exact o
  .rw [E1] at e1
   split at e1
   .cases e1;exact o
   .cases e1
 have no:∀p,¬jZ (start N vs) (jW N.length ds) p:=λp ⟨i,es,e1,o,_⟩=>qW i es e1 o
 refine ⟨ao.refl _,hO,?_,λi d e=>?_,λi es e=>(qW i _ e trivial).elim,λi es e=>(qW i _ e trivial).elim,λi j es fs p e _ _ _ o _=>(qW i _ e o).elim⟩
 .simp [L2.start,jW,hl]
 .unfold jW at e
  rw [PZ] at e
  split at e
  .rename_i hi
   rw [cj] at hi
   rw [rL] at e
   obtain ⟨d',e1,e2⟩:=map_some e
   cases e2
   obtain ⟨x,hx,hd⟩:=h.get e1
   refine ⟨x,?_,hd.less λq z=>z.elim id λz=>(no q z).elim⟩
   unfold L2.start
   rw [vG (by rw [cj,hl];exact hi),rL,hx]
   rfl
  .rw [E1] at e
   split at e
   .cases e
   .cases e
section
variable {P:Program}{w:World}{K:aC}{mg:Str->Option Value}{base:Heap}
theorem Js{x qual:Str}{st:Stmt}{f:Addr}{fd:FuncData}{N ps:List Str}{k:Nat}{F:SF}(Fn:qH K x qual st f fd)(S:bQ N ps (du st))
  (bo:∀(cX:Value) (A:Around) (outer:List Env) (s:Shared) (H:Hp) (E:XK),bh k (A.deeper (envOfC qual (du st) s.heap.objs.size f cX)) ->
   jq (eN jc P w K mg base N qual (du st) f cX A outer s H E).cP (fZ st) F):bG P w K mg base jc (k+1) f fd ps (mw K ps.length (aK F N.length)):=by
 refine Fn.ok S (λvs H Q E h=>?_) (λcX A outer s H vs Q E hr h=>?_)
 .obtain ⟨O,ds,r,_,_,hl,_⟩:=h
  exact hl
 obtain ⟨O,ds,r,hO,hi,hl,e,q⟩:=h
 obtain ⟨t,p,kk⟩:=bo cX A outer s H E hr
 refine ⟨t,p,?_⟩
 unfold aK at e
 cases hF:F (jW N.length ds) with
 | none=>rw [hF] at e;cases e
 | some y =>
  obtain ⟨fl,ah⟩:=y
  rw [hF] at e
  refine kk O H (start N vs) H (jW N.length ds) fl ah _ (MQ hO hi) hF ?_
  cases fl with
  | nx=>cases e;exact λaz H' R' _=>q .aG H' R'.same Is.aG
  | bk=>cases e
  | ct=>cases e
  | rt r=>cases e;exact λv H' s h=>q v H' s h
end
section
variable {X:Cx}{k:Nat}{f:Addr}{fd:FuncData}{ps:List Str}{φ:List D->Option Sl}{x:Str}{p pos:Pos}{e:Expr}{es:List Expr}{fs:En->Option (List D)}
noncomputable def aP(n:Nat)(φ:List D->Option Sl)(fs:En->Option (List D)):En->Option Sl:=λenv=>(fs env).bind λds=>if ds.length=n then φ ds else none
theorem b2c(ka:∀(O:Addr->Prop) (B:Hp) (σ:L2.St) (H:Hp) (env:En) (ds:List D) (Q:List V->Hp->Prop),Rel X.K O B σ H env->fs env=some ds->(∀vs H',ao H H'->aN X.K (OO O σ env) H' vs ds->Q vs H')->t σ H Q)
  (O:Addr->Prop)(B:Hp)(σ:L2.St)(H:Hp)(env:En)(r:Sl)(Q:VK)(R:Rel X.K O B σ H env)(e:aP n φ fs env=some r)(q:∀v H',ao H H'->Res X.K (OO O σ env) H H' v r->Q v H'):QZ (mw X.K n φ) [] E t σ H Q:=by
 obtain ⟨ds,e1,e2⟩:=bind_some e
 refine ka O B σ H env ds _ R e1 λvs H1 s1 r1=>?_
 by_cases hn:ds.length=n
 .rw [if_pos hn] at e2
  rw [mU]
  refine ⟨OO O σ env,ds,r,(R.grow s1).dm,r1,by rw [r1.length,hn],e2,λv H2 s2 r2=>q v H2 (s1.trans s2) (r2.from s1)⟩
 .rw [if_neg hn] at e2;cases e2
theorem b6q(F:bG X.prog X.w X.K X.mg X.base jc k f fd ps (mw X.K ps.length φ))(hr:bh k X.A)(hg:Gl X x)(hm:X.mg x=some (.ref f))(hk:tm X.K (.ref f)=true)(hb:Binds X.K fd ps [])
  (ha:AV X (e::es) fs)(gv:(x==("__debug__":Str))=false:=by decide)(he:starEach (e::es) X.env=(false,eval e X.env)::starEach es X.env:=by rfl)(dG:(backTo pos (starEach es X.env)).any (·.1)=false:=by rfl):
  EV X (.Call (.Name x p) (e::es) [] pos) (aP ps.length φ fs):=by
 obtain ⟨t,pt,ka⟩:=ha
 exact ⟨_,b5J F hr hg hm hk hb .nil zy pt gv he dG,λO B σ H env r Q R e q=>b2c ka O B σ H env r Q R e q⟩
end
section
variable {X:Cx}{a:Expr}{pos p p2:Pos}{fa:En->Option Sl}
def Ak(K:aC)(T:String)(x:V)(H:Hp)(b:Bool):Prop:=match x with
 | .aG=>b=false
 | .bl _=>b=(T == "bool" || T == "int")
 | .int _=>b=(T == "int")
 | .str _=>b=(T == "str")
 | .ref p=>(b=(T == "list")/\∃xs,dR K H p xs)\/(b=(T == "tuple")/\∃xs,fj K H p xs)
 | _=>False
theorem b3X(hT:T = "int" \/ T = "bool" \/ T = "str" \/ T = "list" \/ T = "tuple"):
  cF X (.builtin "isinstance") (λxs H Q=>∃x b,xs=[x,.ty T]/\Ak X.K T x H b/\Q (.bl b) H):=by
 intro pins s σ H xs us Q I r h
 obtain ⟨x,b,rfl,hx,q⟩:=h
 obtain ⟨u,w',rfl,r1,r2⟩:=vals2 r
 obtain rfl:w'=vj T:=r2
 have yes:∀{Tx:String},s.TypeIs u Tx->isSubtype (.type Tx) (.type T)=pure true->typeOf (.type T)=pure (.type "type")->Q (.bl true) H->wpAny (model X.prog X.w) X.A (call (.builtin "isinstance") [u,.type T]) (EP X pins σ Q) X.xe s:=λh1 h2 h3 hq =>
  vt (isinstance_true h3 h2) ⟨h1,⟨.bl true,H,I,rfl,hq⟩⟩
 have fin:Q (.bl false) H->EP X pins σ Q (.bool false) { s with toks:=s.toks+1 }:=λhq=>⟨.bl false,H,I.tok _,rfl,hq⟩
 have ty:typeOf (.type T)=pure (.type "type"):=by rcases hT with rfl | rfl | rfl | rfl | rfl<;>rfl
 cases x with
 | aG =>
  obtain rfl:u=l9:=r1
  obtain rfl:b=false:=hx
  refine vt (isinstance_false_none ?_ ty ?_) (fin q)
  .rcases hT with rfl | rfl | rfl | rfl | rfl<;>decide +kernel
  .rcases hT with rfl | rfl | rfl | rfl | rfl<;>rfl
 | bl k =>
  obtain rfl:u=wW k:=r1
  rcases hT with rfl | rfl | rfl | rfl | rfl
  .obtain rfl:b=true:=hx
   exact yes (Tx:="bool") rfl rfl ty q
  .obtain rfl:b=true:=hx
   exact yes (Tx:="bool") rfl rfl ty q
  all_goals
   obtain rfl:b=false:=hx
   exact vt (isinstance_false_bool (by decide +kernel) ty (by rfl)) (fin q)
 | int i =>
  obtain ⟨t,rfl⟩:=r1
  rcases hT with rfl | rfl | rfl | rfl | rfl
  .obtain rfl:b=true:=hx
   exact yes (Tx:="int") (typeIs_int s i t) rfl ty q
  all_goals
   obtain rfl:b=false:=hx
   exact vt (isinstance_false_int (by decide +kernel) ty (by rfl)) (fin q)
 | str z =>
  obtain ⟨t,rfl⟩:=r1
  rcases hT with rfl | rfl | rfl | rfl | rfl
  rotate_left 2
  .obtain rfl:b=true:=hx
   exact yes (Tx:="str") (typeIs_str s z t) rfl ty q
  all_goals
   obtain rfl:b=false:=hx
   exact vt (isinstance_false_str (by decide +kernel) ty (by rfl)) (fin q)
 | ref l =>
  cases r1
  rcases hx with ⟨rfl,xs,hq⟩ | ⟨rfl,xs,hq⟩
  .obtain ⟨av,_,pl,_⟩:=I.list hq
   have uE:=pl.isList.typeIs
   obtain ⟨o,n,e,c,_,_⟩:=pl
   rcases hT with rfl | rfl | rfl | rfl | rfl
   rotate_left 3
   .exact yes (Tx:="list") uE rfl ty q
   all_goals exact vt (isinstance_false_list (by decide +kernel) ty (by rfl)) ⟨⟨o,e,c⟩,fin q⟩
  .obtain ⟨av,_,pl,_⟩:=I.tuple hq
   have uE:=pl.typeIs
   obtain ⟨o,e,c,_⟩:=pl
   rcases hT with rfl | rfl | rfl | rfl | rfl
   rotate_left 4
   .exact yes (Tx:="tuple") uE rfl ty q
   all_goals exact vt (isinstance_false_tuple (by decide +kernel) ty (by rfl)) ⟨⟨o,e,c⟩,fin q⟩
 | _=>exact cV hx
noncomputable def bj(T:String):D->Bool
 | .aG=>false
 | .bl _=>(T == "bool" || T == "int")
 | .int _=>(T == "int")
 | .str _=>(T == "str")
 | .tup _=>(T == "tuple")
 | .lst _ _=>(T == "list")
 | .exc _=>false
 | .lz _ _=>false
noncomputable def D.isExc:D->Bool
 | .exc _=>true
 | .lz _ _=>true
 | _=>false
noncomputable def jy(T:String)(d:D):Option Sl:=if d.isExc=true then none else some (.sh (.bl (bj T d)))
theorem b8D{K:aC}{O:Addr->Prop}{H:Hp}{T:String}{v:V}{d:D}(h:Is K O H v d)(ne:d.isExc=false):Ak K T v H (bj T d):=by
 cases h with
 | aG=>rfl
 | bl b=>rfl
 | int i=>rfl
 | str x=>rfl
 | tup ho hp hs=>exact .inr ⟨rfl,_,.inl hp⟩
 | km hp hs=>exact .inr ⟨rfl,_,CK hp⟩
 | lst ho hp hs=>exact .inl ⟨rfl,_,.inl (.inl hp)⟩
 | j7 ho hp hs=>exact .inl ⟨rfl,_,.inl hp⟩
 | kn hp hs=>exact .inl ⟨rfl,_,CJ hp⟩
 | exc ho hn hp=>cases ne
 | lz ho hp=>cases ne
 | pz ho hp=>cases ne
noncomputable def pk(T:String)(f:En->Option Sl):En->Option Sl:=λenv=>(f env).bind λr=>jy T r.d
theorem Lw(hT:T = "int" \/ T = "bool" \/ T = "str" \/ T = "list" \/ T = "tuple")(hg:Gl X "isinstance")(hm:X.mg "isinstance" = none)(p8:Gl X x)(rf:X.mg x=none)(hv:bootBuiltins x=some (.type T))(ha:EV X a fa)
  (hn:x ≠ "__name__":=by decide)(hd:(x==("__debug__":Str))=false:=by decide)
  (hs:starEach [a,.Name x p2] X.env=[(false,eval a X.env),(false,eval (.Name x p2) X.env)]:=by rfl)(dD:starEach [.Name x p2] X.env=[(false,eval (.Name x p2) X.env)]:=by rfl):
  EV X (.Call (.Name "isinstance" p) [a,.Name x p2] [] pos) (pk T fa):=by
 obtain ⟨t,pt,k⟩:=ha
 refine ⟨_,tP (b3X hT) hg hm (by decide +kernel) (mZ pt (mZ (RT (v:=.ty T) p8 rf hv rfl hn hd) pI dD) (by rw [hs,dD])) (by decide) (by decide) (by rw [hs,dD]) (by rw [dD];rfl),λO B σ H env s Q R e q=>?_⟩
 obtain ⟨r,e1,e2⟩:=bind_some e
 unfold jy at e2
 split at e2
 .cases e2
 .rename_i ne
  cases e2
  exact k O B σ H env r _ R e1 λv H1 s1 r1=>⟨v,_,rfl,b8D (r1.is λq=>R.oo) (by simpa using ne),q _ H1 s1 (Is.bl _)⟩
end
section
variable {X:Cx}{a b c e:Expr}{fa fb:En->Option Sl}{pos:Pos}
noncomputable def jt(i:Nat)(f:En->Option Sl):SF:=λenv=>match env[i]? with
 | some (.ow ds)=>(f env).bind λr=>match r.d with
  | .lst false es=>if ds.length+es.length<=16777216 then some (.nx,env.set i (.ow (ds++es))) else none
  | _=>none
 | _=>none
theorem b0R{i:Nat}{x:Str}{p1 p2 aR:Pos}(ha:EV X e fa)(hN:X.N[i]?=some x:=by rfl)(hv:gH X.env.scope x:=by first | exact bJ rfl | exact bg (bJ rfl) | exact bg (bg rfl))(hd:(x==("__debug__":Str))=false:=by decide)
  (bW:(x==("__classdict__":Str))=false:=by decide)(hs:starEach [e] X.env=[(false,eval e X.env)]:=by rfl)
  (cE:attributeBase (.Name x p1) "extend" X.env (eval (.Name x p1) X.env)=eval (.Name x p1) X.env:=by rfl)
  (gW:((backTo aR (starEach [e] X.env)).all (λx=>!x.1)&&(backToKw aR (keywordEach [] X.env)).all (λx=>x.1.isSome)
   && decide ([e].length+([]:List Keyword).length+(if ([]:List Keyword).isEmpty then 0 else 1)<30))=true:=by rfl)
  (cD:(p2.endLine==aR.line)=true:=by rfl)
  (q0:swapsWith (.Call (.Attribute (.Name x p1) "extend" p2) [e] [] aR) none pos.line X.env=pure false:=by rfl):
  SV X (.Expr (.Call (.Attribute (.Name x p1) "extend" p2) [e] [] aR) pos) (jt i fa):=by
 obtain ⟨t,p,k⟩:=ha
 refine ⟨_,RU (QK Ky P7 PySem.F.type_list_extend b1i (rQ hN hv hd bW) (mZ p pI hs) cE gW cD hs rfl) q0,λO B σ H env fl ah D R e q=>?_⟩
 unfold jt at e
 cases h:env[i]? with
 | none=>rw [h] at e;cases e
 | some s =>
  rw [h] at e
  cases s with
  | no=>cases e
  | sh d=>cases e
  | dw ds=>cases e
  | ow ds =>
   obtain ⟨r,e1,e2⟩:=bind_some e
   obtain ⟨l,xs,f1,f2,f3,f4⟩:=R.ow i ds h
   refine ⟨_,f1,.inl ⟨rfl,_,dR.of f3⟩,?_⟩
   refine k O B σ H env r _ R e1 λv H1 s1 r1=>?_
   have hi:=r1.is λq=>R.oo
   cases hd:r.d with
   | lst ro es =>
    rw [hd] at hi e2
    cases ro with
    | true=>cases e2
    | false =>
     obtain ⟨hl,e3⟩:=gx (show (if ds.length+es.length<=16777216 then some (Fl.nx,env.set i (.ow (ds++es))) else none)=some (fl,ah) from e2)
     cases e3
     obtain ⟨b,zs,rfl,hb,g1,g2⟩:=FC hi
     refine ⟨l,b,xs,zs,rfl,rfl,s1 _ _ f3,g1,by rw [f4.length,g2.length,h8];exact hl,?_⟩
     obtain ⟨R',g'⟩:=(R.grow s1).wr h f1 ((f4.grow s1).append g2)
     exact q _ _ R' (g'.from s1)
   | _=>rw [hd] at e2;cases e2
noncomputable def lM(i j:Nat):SF:=λenv=>match env[j]? with
 | some (.ow ds)=>(ds[ds.length-1]?).bind λd=>if i<env.length/\i≠j then some (.nx,(env.set j (.ow ds.dropLast)).set i (.sh d)) else none
 | _=>none
theorem b0O{i j:Nat}{x y:Str}{pos' p1 p2 aR:Pos}(hN:X.N.Nodup)(hi:X.N[i]?=some x)(hx:Loc X.env.scope x)
  (Jf:X.N[j]?=some y:=by rfl)(hv:gH X.env.scope y:=by first | exact bJ rfl | exact bg (bJ rfl) | exact bg (bg rfl))(hd:(y==("__debug__":Str))=false:=by decide)
  (bW:(y==("__classdict__":Str))=false:=by decide)
  (cE:attributeBase (.Name y p1) "pop" X.env (eval (.Name y p1) X.env)=eval (.Name y p1) X.env:=by rfl)
  (cD:(p2.endLine==aR.line)=true:=by rfl)
  (hs:swapsWith (.Call (.Attribute (.Name y p1) "pop" p2) [] [] aR) (some (.Name x pos')) pos.line X.env=pure false:=by rfl)(hf:X.fn x=true\/X.env.scope.names.lookup x=some .local:=by first | exact .inl rfl | exact .inr rfl | assumption):
  SV X (.Assign [.Name x pos'] (.Call (.Attribute (.Name y p1) "pop" p2) [] [] aR) pos) (lM i j):=by
 refine ⟨_,Fv hN hi hx (b8d Ky Qb PySem.F.type_list_pop b8p (rQ Jf hv hd bW) cE cD) hs hf,λO B σ H env fl ah D R e q=>?_⟩
 unfold lM at e
 cases h:env[j]? with
 | none=>rw [h] at e;cases e
 | some s =>
  rw [h] at e
  cases s with
  | no=>cases e
  | sh d=>cases e
  | dw ds=>cases e
  | ow ds =>
   obtain ⟨d,e1,e2⟩:=bind_some e
   obtain ⟨⟨hl,cI⟩,e3⟩:=T6 e2
   cases e3
   obtain ⟨l,xs,f1,f2,f3,f4⟩:=R.ow j ds h
   obtain ⟨v,Av,Ik⟩:=f4.get e1
   obtain ⟨R',g'⟩:=R.wr h f1 f4.dropLast
   refine ⟨_,f1,.inl ⟨rfl,_,dR.of f3⟩,l,xs,v,rfl,rfl,f3,by rw [f4.length];exact Av,?_⟩
   have Ij:aN X.K (OO O σ (env.set j (.ow ds.dropLast))) (upd H l (.lst xs.dropLast)) [v] [d]:=g'.DK (.cons Ik .nil)
   cases Ij with
   | cons Ij _ =>
    obtain ⟨R2,g2⟩:=R'.set (r:=.sh d) (i:=i) (ao.refl _) Ij (by simp;exact hl)
    exact q _ _ R2 (g'.trans g2)
noncomputable def xH(i:Nat)(f g:En->Option Sl):SF:=λenv=>match env[i]? with
 | some (.ow ds)=>(f env).bind λr=>(g env).bind λk=>match k.d with
  | .int n=>(jg ds.length n).bind λj=>some (.nx,env.set i (.ow (ds.set j r.d)))
  | _=>none
 | _=>none
theorem b5o{i:Nat}{x:Str}{p1 p2:Pos}(ha:EV X e fa)(hb:EV X b fb)(hN:X.N[i]?=some x:=by rfl)(hv:gH X.env.scope x:=by first | exact bJ rfl | exact bg (bJ rfl) | exact bg (bg rfl))(hd:(x==("__debug__":Str))=false:=by decide)
  (bW:(x==("__classdict__":Str))=false:=by decide)
  (jz:∀v,assign (.Subscript (.Name x p1) b p2) X.env v=(do
   let ov <-holding [v] (eval (.Name x p1) X.env)
   let iv <-holding [v,ov] (eval b X.env)
   standAt p2
   holding [v,ov,iv] (setItem ov iv v)
   release [v,ov,iv] []):=by intro _;rfl)
  (hs:swapsWithSole [.Subscript (.Name x p1) b p2] e pos.line X.env=pure false:=by rfl)(hw:swappedStores [.Subscript (.Name x p1) b p2] e X.env=pure none:=by rfl)
  (h1:(assignEach [.Subscript (.Name x p1) b p2] X.env).map (·.2)=[assign (.Subscript (.Name x p1) b p2) X.env]:=by rfl):
  SV X (.Assign [.Subscript (.Name x p1) b p2] e pos) (xH i fa fb):=by
 obtain ⟨t,p,k⟩:=ha
 obtain ⟨t',p',k'⟩:=hb
 refine ⟨_,b72 p (b75 (rQ hN hv hd bW) p' SN jz) hs hw h1,λO B σ H env fl ah D R e q=>?_⟩
 unfold xH at e
 cases h:env[i]? with
 | none=>rw [h] at e;cases e
 | some s =>
  rw [h] at e
  cases s with
  | no=>cases e
  | sh d=>cases e
  | dw ds=>cases e
  | ow ds =>
   obtain ⟨r,e1,e2⟩:=bind_some e
   obtain ⟨kk,e2,e3⟩:=bind_some e2
   obtain ⟨l,xs,f1,f2,f3,f4⟩:=R.ow i ds h
   refine k O B σ H env r _ R e1 λv H1 s1 r1=>⟨_,f1,?_⟩
   refine k' O B σ H1 env kk _ (R.grow s1) e2 λw H2 s2 r2=>?_
   have hi:=r2.is λq=>(R.grow s1).oo
   cases hd:kk.d with
   | int n =>
    rw [hd] at hi e3
    obtain rfl:=fG hi
    obtain ⟨j,e4,e5⟩:=bind_some (show (jg ds.length n).bind (λj=>some (Fl.nx,env.set i (.ow (ds.set j r.d))))=some (fl,ah) from e3)
    cases e5
    have ju:=s1.trans s2
    refine ⟨l,xs,n,j,rfl,rfl,ju _ _ f3,by rw [f4.length];exact e4,?_⟩
    obtain ⟨R',g'⟩:=(R.grow ju).wr h f1 ((f4.grow ju).set ((r1.is λq=>R.oo).grow s2) j)
    exact q _ _ R' (g'.from ju)
   | _=>rw [hd] at e3;cases e3
def PP(X:Cx)(e:Option Expr)(f:En->Option (Option Int)):Prop:=
 ∃t:TO,PO X e t/\∀(O:Addr->Prop) (B:Hp) (σ:L2.St) (H:Hp) (env:En) (o:Option Int) (Q:Option Int->Hp->Prop),Rel X.K O B σ H env->f env=some o->(∀H',ao H H'->Q o H')->t σ H Q
noncomputable def mC:En->Option (Option Int):=λ_=>some none
noncomputable def lO(f:En->Option Sl):En->Option (Option Int):=λenv=>(f env).bind λr=>match r.d with
 | .int i=>some (some i)
 | _=>none
theorem qx:PP X none mC:=⟨_,b5E,λO B σ H env o Q R e q=>by
 obtain rfl:=dk e
 exact q H (ao.refl _)⟩
theorem qy(h:EV X e fa):PP X (some e) (lO fa):=by
 obtain ⟨t,p,k⟩:=h
 refine ⟨_,b5D p,λO B σ H env o Q R e q=>?_⟩
 obtain ⟨r,e1,e2⟩:=bind_some e
 refine k O B σ H env r _ R e1 λv H1 s1 r1=>?_
 have hi:=r1.is λq=>R.oo
 cases hd:r.d with
 | int i =>
  rw [hd] at hi e2
  obtain rfl:=dk e2
  exact ⟨i,fG hi,q H1 s1⟩
 | _=>rw [hd] at e2;cases e2
noncomputable def cutD(xs:List D)(lo hi:Option Int):List D:=(xs.drop (HT.bz xs.length 0 lo)).take (HT.bz xs.length xs.length hi-HT.bz xs.length 0 lo)
theorem aN.cut{K:aC}{O:Addr->Prop}{H:Hp}{xs:List V}{ds:List D}(h:aN K O H xs ds)(lo hi:Option Int):aN K O H (kE xs lo hi) (cutD ds lo hi):=by
 unfold kE cutD
 rw [h.length]
 exact (h.drop _).take _
noncomputable def l7(f:En->Option (Bool×List D))(lo hi:En->Option (Option Int)):En->Option Sl:=λenv=>(f env).bind λx=>(lo env).bind λl=>(hi env).bind λh =>
 if x.1=true then some (.ow (cutD x.2 l h)) else if ¬(HT.bz x.2.length 0 l=0/\HT.bz x.2.length x.2.length h=x.2.length) then some (.sh (.tup (cutD x.2 l h))) else none
theorem qC{ba:En->Option (Bool×List D)}{lo hi:Option Expr}{fl fh:En->Option (Option Int)}{p2:Pos}(ha:BV X a ba)(hl:PP X lo fl)(hh:PP X hi fh):EV X (.Subscript a (.Slice lo hi none p2) pos) (l7 ba fl fh):=by
 obtain ⟨t,p,k⟩:=ha
 obtain ⟨tl,pl,kl⟩:=hl
 obtain ⟨th,ph,kh⟩:=hh
 refine ⟨_,b26 (qQ.or b7S) p pl ph,λO B σ H env r Q R e q=>?_⟩
 obtain ⟨⟨kk,ds⟩,e1,e2⟩:=bind_some e
 obtain ⟨l,e2,e3⟩:=bind_some e2
 obtain ⟨h,e3,e4⟩:=bind_some e3
 refine k O B σ H env kk ds _ R e1 λpp xs H1 s1 hq hx=>?_
 refine kl O B σ H1 env l _ (R.grow s1) e2 λH2 s2=>?_
 refine kh O B σ H2 env h _ ((R.grow s1).grow s2) e3 λH3 s3=>?_
 have ju:=s1.trans (s2.trans s3)
 have jR:=hq.grow (s2.trans s3)
 have mG:=hx.grow (s2.trans s3)
 dsimp only at e4
 cases kk with
 | true =>
  rw [if_pos rfl] at e4
  obtain rfl:=dk e4
  exact .inl ⟨pp,xs,rfl,jR,λp hp=>q _ _ (ju.trans (lJ hp _)) ((vP hp (mG.cut l h)).from ju)⟩
 | false =>
  rw [if_neg fY] at e4
  obtain ⟨hw,rfl⟩:=gx e4
  exact .inr ⟨pp,xs,rfl,jR,by rw [mG.length];exact hw,λp hp=>q _ _ (ju.trans (lJ hp _)) ((FT (O:=OO O σ env) (H:=H3) (λ_ z=>(R.grow ju).oo z) hp (mG.cut l h)).from ju)⟩
noncomputable def Bt(f:En->Option Sl)(lo hi:En->Option (Option Int)):En->Option Sl:=λenv=>(f env).bind λx=>(lo env).bind λl=>(hi env).bind λh=>match x.d with
 | .tup ds=>some (.sh (.tup (cutD ds l h)))
 | _=>none
end
structure Def(K:aC)(mg:Str->Option Value)(x:Str)(st:Stmt)(ps:List Str)(f:Addr)(fd:FuncData):Prop where
 fn:qH K x x st f fd
 bd:Binds K fd ps []
 m:mg x=some (.ref f)
end DL
namespace DL
open PySem PySem.Spec PyProof.Rows L2
structure Fx(X:Cx)(N:List Str)(sc:Scope)(k:Nat)(full:Bool:=true):Prop where
 n:X.N=N
 sc:X.env.scope=sc
 calm:X.calm=true
 fn:full=true->∀x,X.fn x=true
 own:PassesOwn (model X.prog X.w) X.A X.env X.xe
 room:bh k X.A
 nd:N.Nodup
 top:full=true->X.stack=X.env::X.outer/\X.env.frame=some X.env.locals/\X.ex=[]
section
variable {X:Cx}{N:List Str}{sc:Scope}{k:Nat}{full:Bool}{pos p p1 p2 pos' aR:Pos}{e a b:Expr}{fa fb:En->Option Sl}
theorem Fx.pR(h:Fx X N sc k full)(hv:gH sc x):gH X.env.scope x:=by rw [h.sc];exact hv
theorem Fx.loc(h:Fx X N sc k full)(hv:Loc sc x):Loc X.env.scope x:=by rw [h.sc];exact hv
theorem Fx.ix(h:Fx X N sc k full){i:Nat}{x:Str}(hN:N[i]?=some x):X.N[i]?=some x:=by rw [h.n];exact hN
theorem Fx.pS(h:Fx X N sc k full)(hf:full=true\/sc.names.lookup x=some .local):X.fn x=true\/X.env.scope.names.lookup x=some .local:=hf.elim (λe=>.inl (h.fn e x)) λe=>.inr (by rw [h.sc];exact e)
theorem Fx.lU(h:Fx X N sc k full):X.N.Nodup:=by rw [h.n];exact h.nd
theorem Fx.g(h:Fx X N sc k full)(hg:sc.names.lookup x=some .globalImplicit:=by rfl):Gl X x:=by
 show X.env.kindOf x=some .globalImplicit
 unfold BC
 rw [h.sc]
 exact hg
theorem Fx.v(h:Fx X N sc k full)(i:Nat)(hN:N[i]?=some x:=by rfl)(hv:gH sc x:=by first | exact bJ rfl | exact bg (bJ rfl) | exact bg (bg rfl))(hd:(x==("__debug__":Str))=false:=by rfl)
  (bW:(x==("__classdict__":Str))=false:=by rfl):EV X (.Name x pos) (eV i):=RI i (h.ix hN) (h.pR hv) hd bW
theorem Fx.bv(h:Fx X N sc k full)(i:Nat)(hN:N[i]?=some x:=by rfl)(hv:gH sc x:=by first | exact bJ rfl | exact bg (bJ rfl) | exact bg (bg rfl))(hd:(x==("__debug__":Str))=false:=by rfl)
  (bW:(x==("__classdict__":Str))=false:=by rfl):BV X (.Name x pos) (bV i):=b84 i (h.ix hN) (h.pR hv) hd bW
theorem Fx.tg(h:Fx X N sc k full)(i:Nat)(hN:N[i]?=some x:=by rfl)(hv:Loc sc x:=by first | exact bJ rfl | exact bg rfl)(hf:full=true\/sc.names.lookup x=some .local:=by first | exact bJ rfl | exact bg rfl):GV X (.Name x pos) (gN i):=b6d h.lU (h.ix hN) (h.loc hv) (h.pS hf)
theorem Fx.set(h:Fx X N sc k full)(i:Nat)(he:EV X e fa)(hN:N[i]?=some x:=by rfl)(hv:Loc sc x:=by first | exact bJ rfl | exact bg rfl)
  (hs:swapsWith e (some (.Name x pos')) pos.line X.env=pure false:=by rfl)(hf:full=true\/sc.names.lookup x=some .local:=by first | exact bJ rfl | exact bg rfl):SV X (.Assign [.Name x pos'] e pos) (dA i fa):=Ru h.lU (h.ix hN) (h.loc hv) he hs (h.pS hf)
theorem Fx.ay(h:Fx X N sc k full)(i:Nat)(he:EV X e fa)(hN:N[i]?=some x:=by rfl)(hv:Loc sc x:=by first | exact bJ rfl | exact bg rfl)
  (hs:swapsWith e (some (.Name x pos')) pos.line X.env=pure false:=by rfl)(hf:full=true\/sc.names.lookup x=some .local:=by first | exact bJ rfl | exact bg rfl):SV X (.Assign [.Name x pos'] e pos) (aX i fa):=Sk h.lU (h.ix hN) (h.loc hv) he hs (h.pS hf)
theorem Fx.lN(h:Fx X N sc k full)(i:Nat)(hN:N[i]?=some x:=by rfl)(hv:gH sc x:=by first | exact bJ rfl | exact bg (bJ rfl) | exact bg (bg rfl))(hd:(x==("__debug__":Str))=false:=by rfl)
  (bW:(x==("__classdict__":Str))=false:=by rfl):SV X (.Return (some (.Name x p2)) pos) (oB i):=b5n i (h.ix hN) (h.pR hv) hd bW
theorem Fx.app(h:Fx X N sc k full)(i:Nat)(ha:EV X e fa)(hN:N[i]?=some x:=by rfl)(hv:gH sc x:=by first | exact bJ rfl | exact bg (bJ rfl) | exact bg (bg rfl))(hd:(x==("__debug__":Str))=false:=by rfl)
  (bW:(x==("__classdict__":Str))=false:=by rfl)(hs:starEach [e] X.env=[(false,eval e X.env)]:=by rfl)
  (cE:attributeBase (.Name x p1) "append" X.env (eval (.Name x p1) X.env)=eval (.Name x p1) X.env:=by rfl)
  (gW:((backTo aR (starEach [e] X.env)).all (λx=>!x.1)&&(backToKw aR (keywordEach [] X.env)).all (λx=>x.1.isSome)
   && decide ([e].length+([]:List Keyword).length+(if ([]:List Keyword).isEmpty then 0 else 1)<30))=true:=by rfl)
  (cD:(p2.endLine==aR.line)=true:=by rfl)
  (q0:swapsWith (.Call (.Attribute (.Name x p1) "append" p2) [e] [] aR) none pos.line X.env=pure false:=by rfl):
  SV X (.Expr (.Call (.Attribute (.Name x p1) "append" p2) [e] [] aR) pos) (dO i fa):=TX ha (h.ix hN) (h.pR hv) hd bW hs cE gW cD q0
theorem Fx.ext(h:Fx X N sc k full)(i:Nat)(ha:EV X e fa)(hN:N[i]?=some x:=by rfl)(hv:gH sc x:=by first | exact bJ rfl | exact bg (bJ rfl) | exact bg (bg rfl))(hd:(x==("__debug__":Str))=false:=by rfl)
  (bW:(x==("__classdict__":Str))=false:=by rfl)(hs:starEach [e] X.env=[(false,eval e X.env)]:=by rfl)
  (cE:attributeBase (.Name x p1) "extend" X.env (eval (.Name x p1) X.env)=eval (.Name x p1) X.env:=by rfl)
  (gW:((backTo aR (starEach [e] X.env)).all (λx=>!x.1)&&(backToKw aR (keywordEach [] X.env)).all (λx=>x.1.isSome)
   && decide ([e].length+([]:List Keyword).length+(if ([]:List Keyword).isEmpty then 0 else 1)<30))=true:=by rfl)
  (cD:(p2.endLine==aR.line)=true:=by rfl)
  (q0:swapsWith (.Call (.Attribute (.Name x p1) "extend" p2) [e] [] aR) none pos.line X.env=pure false:=by rfl):
  SV X (.Expr (.Call (.Attribute (.Name x p1) "extend" p2) [e] [] aR) pos) (jt i fa):=b0R ha (h.ix hN) (h.pR hv) hd bW hs cE gW cD q0
theorem Fx.pop(h:Fx X N sc k full)(i j:Nat){x y:Str}(hN:N[i]?=some x:=by rfl)(hx:Loc sc x:=by first | exact bJ rfl | exact bg rfl)(Jf:N[j]?=some y:=by rfl)(hv:gH sc y:=by first | exact bJ rfl | exact bg (bJ rfl) | exact bg (bg rfl))
  (hd:(y==("__debug__":Str))=false:=by rfl)(bW:(y==("__classdict__":Str))=false:=by rfl)
  (cE:attributeBase (.Name y p1) "pop" X.env (eval (.Name y p1) X.env)=eval (.Name y p1) X.env:=by rfl)
  (cD:(p2.endLine==aR.line)=true:=by rfl)
  (hs:swapsWith (.Call (.Attribute (.Name y p1) "pop" p2) [] [] aR) (some (.Name x pos')) pos.line X.env=pure false:=by rfl)(hf:full=true\/sc.names.lookup x=some .local:=by first | exact bJ rfl | exact bg rfl):
  SV X (.Assign [.Name x pos'] (.Call (.Attribute (.Name y p1) "pop" p2) [] [] aR) pos) (lM i j):=b0O h.lU (h.ix hN) (h.loc hx) (h.ix Jf) (h.pR hv) hd bW cE cD hs (h.pS hf)
theorem Fx.item(h:Fx X N sc k full)(i:Nat){x:Str}(ha:EV X e fa)(hb:EV X b fb)(hN:N[i]?=some x:=by rfl)(hv:gH sc x:=by first | exact bJ rfl | exact bg (bJ rfl) | exact bg (bg rfl))(hd:(x==("__debug__":Str))=false:=by rfl)
  (bW:(x==("__classdict__":Str))=false:=by rfl)
  (jz:∀v,assign (.Subscript (.Name x p1) b p2) X.env v=(do
   let ov <-holding [v] (eval (.Name x p1) X.env)
   let iv <-holding [v,ov] (eval b X.env)
   standAt p2
   holding [v,ov,iv] (setItem ov iv v)
   release [v,ov,iv] []):=by intro _;rfl)
  (hs:swapsWithSole [.Subscript (.Name x p1) b p2] e pos.line X.env=pure false:=by rfl)(hw:swappedStores [.Subscript (.Name x p1) b p2] e X.env=pure none:=by rfl)
  (h1:(assignEach [.Subscript (.Name x p1) b p2] X.env).map (·.2)=[assign (.Subscript (.Name x p1) b p2) X.env]:=by rfl):
  SV X (.Assign [.Subscript (.Name x p1) b p2] e pos) (xH i fa fb):=b5o ha hb (h.ix hN) (h.pR hv) hd bW jz hs hw h1
end
theorem Ab{us:List Value}(h:us.length=0):us=[]:=by
 exact Kx.mp h
theorem QF{us:List Value}(h:us.length=1):∃a0,us=[a0]:=by
 cases us with
 | nil=>cases h
 | cons a r =>
  have:=Ab (us:=r) (by simpa using h)
  exact ⟨a,by rw [this]⟩
theorem QG{us:List Value}(h:us.length=2):∃a0 a1,us=[a0,a1]:=by
 cases us with
 | nil=>cases h
 | cons a r =>
  have:=QF (us:=r) (by simpa using h)
  obtain ⟨b0,e⟩:=this
  exact ⟨a,b0,by rw [e]⟩
theorem QH{us:List Value}(h:us.length=3):∃a0 a1 a2,us=[a0,a1,a2]:=by
 cases us with
 | nil=>cases h
 | cons a r =>
  have:=QG (us:=r) (by simpa using h)
  obtain ⟨b0,b1,e⟩:=this
  exact ⟨a,b0,b1,by rw [e]⟩
theorem QI{us:List Value}(h:us.length=4):∃a0 a1 a2 a3,us=[a0,a1,a2,a3]:=by
 cases us with
 | nil=>cases h
 | cons a r =>
  have:=QH (us:=r) (by simpa using h)
  obtain ⟨b0,b1,b2,e⟩:=this
  exact ⟨a,b0,b1,b2,by rw [e]⟩
theorem Aa{us:List Value}(h:us.length=5):∃a0 a1 a2 a3 a4,us=[a0,a1,a2,a3,a4]:=by
 cases us with
 | nil=>cases h
 | cons a r =>
  have:=QI (us:=r) (by simpa using h)
  obtain ⟨b0,b1,b2,b3,e⟩:=this
  exact ⟨a,b0,b1,b2,b3,by rw [e]⟩
section
variable {P:Program}{w:World}{K:aC}{mg:Str->Option Value}{base:Heap}
theorem Jr{x qual:Str}{st:Stmt}{f:Addr}{fd:FuncData}{N ps:List Str}{k:Nat}{F:SF}(Fn:qH K x qual st f fd)(S:bQ N ps (du st))
  (bo:∀X:Cx,X.prog=P->X.w=w->X.K=K->X.mg=mg->X.base=base->Fx X N (du st) k->jq X (fZ st) F):bG P w K mg base jc (k+1) f fd ps (mw K ps.length (aK F N.length)):=
 Js Fn S λcX A outer s H E hr=>bo _ rfl rfl rfl rfl rfl ⟨rfl,rfl,rfl,λ_ _=>rfl,sZ,hr,S.nd,λ_=>⟨rfl,rfl,rfl⟩⟩
end
def Oz(P:Program)(w:World)(K:aC)(mg:Str->Option Value)(base:Heap)(x:Str)(st:Stmt)(ps:List Str)(j:Nat)(φ:List D->Option Sl):Prop:=∃f fd,Def K mg x st ps f fd/\bG P w K mg base jc j f fd ps (mw K ps.length φ)
inductive Sx:Cx->Program->World->aC->(Str->Option Value)->Heap->Prop
 | mk (X:Cx):Sx X X.prog X.w X.K X.mg X.base
theorem Bk{P:Program}{w:World}{K:aC}{mg:Str->Option Value}{base:Heap}{x:Str}{st:Stmt}{f:Addr}{fd:FuncData}{N ps:List Str}{k:Nat}{F:SF}(D':Def K mg x st ps f fd)
  (bo:∀X:Cx,Sx X P w K mg base->Fx X N (du st) k->jq X (fZ st) F)(S:bQ N ps (du st):=by exact ⟨rfl,rfl,rfl,by decide +kernel,rfl,by decide +kernel,by decide +kernel⟩):bG P w K mg base jc (k+1) f fd ps (mw K ps.length (aK F N.length)):=
 Jr D'.fn S λX e1 e2 e3 e4 e5=>by subst e1 e2 e3 e4 e5;exact bo X (.mk X)
theorem aV{P:Program}{w:World}{K:aC}{mg:Str->Option Value}{base:Heap}{x:Str}{st:Stmt}{f:Addr}{fd:FuncData}{N ps:List Str}{k:Nat}{F:SF}(D':Def K mg x st ps f fd)
  (bo:∀X:Cx,Sx X P w K mg base->Fx X N (du st) k->jq X (fZ st) F)(S:bQ N ps (du st):=by exact ⟨rfl,rfl,rfl,by decide +kernel,rfl,by decide +kernel,by decide +kernel⟩):Oz P w K mg base x st ps (k+1) (aK F N.length):=
 ⟨f,fd,D',Bk D' bo S⟩
theorem lS{X X':Cx}{x:Str}{st:Stmt}{ps:List Str}{j:Nat}{φ:List D->Option Sl}(e1:X'.prog=X.prog)(e2:X'.w=X.w)(e3:X'.K=X.K)(e4:X'.mg=X.mg)(e5:X'.base=X.base)(O:Oz X.prog X.w X.K X.mg X.base x st ps j φ):Oz X'.prog X'.w X'.K X'.mg X'.base x st ps j φ:=by
 rw [e1,e2,e3,e4,e5];exact O
theorem Fx.cl{X:Cx}{N:List Str}{sc:Scope}{k j:Nat}{full:Bool}{x:Str}{st:Stmt}{ps:List Str}{φ:List D->Option Sl}{e:Expr}{es:List Expr}{fs:En->Option (List D)}{p pos:Pos}(h:Fx X N sc k full)(O:Oz X.prog X.w X.K X.mg X.base x st ps j φ)(ha:AV X (e::es) fs)(hj:j<=k:=by decide)(hg:sc.names.lookup x=some .globalImplicit:=by rfl)(gv:(x==("__debug__":Str))=false:=by decide)(he:starEach (e::es) X.env=(false,eval e X.env)::starEach es X.env:=by rfl)(dG:(backTo pos (starEach es X.env)).any (·.1)=false:=by rfl):
  EV X (.Call (.Name x p) (e::es) [] pos) (aP ps.length φ fs):=by
 obtain ⟨f,fd,D',F⟩:=O
 exact b6q F (h.room.mono hj) (h.g hg) D'.m D'.fn.kp D'.bd ha gv he dG
structure FI(K:aC)(n:Str)(t:Stmt)(f:Addr)(od an:Option Addr)(sl:Array (Option Value))(oc kV dc pm cd ct:Value):Prop where
 a:iA K mainGlobals n=some (some (.ref f))
 l:K.lookup f=some ⟨oc,od,.func (jl n n (jY t) (fZ t) (du t) .none kV dc pm an cd ct),sl⟩
 c:Em K cd n=true
 k:tm K (.ref f)=true
section
variable {K:aC}{mg:Str->Option Value}{h:Heap}{n:Str}{t:Stmt}{f:Addr}{od an:Option Addr}{sl:Array (Option Value)}{oc kV dc pm cd ct:Value}{ps:List Str}
theorem zO(X:K.In h)(G:h.Ns mainGlobals mg)(i:FI K n t f od an sl oc kV dc pm cd ct)(hb:∀(kV doc pm:Value) (an:Option Addr) (cX ct:Value) (us:List Value),us.length=ps.length->bindArgs (jl n n (jY t) (fZ t) (du t) .none kV doc pm an cX ct) ⟨us,[]⟩=pure (ps.zip us)):Def K mg n t ps f (jl n n (jY t) (fZ t) (du t) .none kV dc pm an cd ct):=
 ⟨Q5 i.l i.c i.k,(Q5 i.l i.c i.k).binds hb,wZ X G i.a⟩
theorem dP(X:K.In h)(G:h.Ns mainGlobals mg)(i:FI K n t f od an sl oc kV dc pm cd ct)(hb:∀(kV doc pm:Value) (an:Option Addr) (cX ct a0:Value),bindArgs (jl n n (jY t) (fZ t) (du t) .none kV doc pm an cX ct) ⟨[a0],[]⟩=pure (ps.zip [a0]):=by intros;rfl)(hl:ps.length=1:=by rfl):Def K mg n t ps f (jl n n (jY t) (fZ t) (du t) .none kV dc pm an cd ct):=
 zO X G i λ_ _ _ _ _ _ us hu=>by obtain ⟨_,rfl⟩:=QF (hu.trans hl);exact hb ..
theorem df(X:K.In h)(G:h.Ns mainGlobals mg)(i:FI K n t f od an sl oc kV dc pm cd ct)(hb:∀(kV doc pm:Value) (an:Option Addr) (cX ct a0 a1:Value),bindArgs (jl n n (jY t) (fZ t) (du t) .none kV doc pm an cX ct) ⟨[a0,a1],[]⟩=pure (ps.zip [a0,a1]):=by intros;rfl)(hl:ps.length=2:=by rfl):Def K mg n t ps f (jl n n (jY t) (fZ t) (du t) .none kV dc pm an cd ct):=
 zO X G i λ_ _ _ _ _ _ us hu=>by obtain ⟨_,_,rfl⟩:=QG (hu.trans hl);exact hb ..
theorem j'(X:K.In h)(G:h.Ns mainGlobals mg)(i:FI K n t f od an sl oc kV dc pm cd ct)(hb:∀(kV doc pm:Value) (an:Option Addr) (cX ct a0 a1 a2:Value),bindArgs (jl n n (jY t) (fZ t) (du t) .none kV doc pm an cX ct) ⟨[a0,a1,a2],[]⟩=pure (ps.zip [a0,a1,a2]):=by intros;rfl)(hl:ps.length=3:=by rfl):Def K mg n t ps f (jl n n (jY t) (fZ t) (du t) .none kV dc pm an cd ct):=
 zO X G i λ_ _ _ _ _ _ us hu=>by obtain ⟨_,_,_,rfl⟩:=QH (hu.trans hl);exact hb ..
theorem ux(X:K.In h)(G:h.Ns mainGlobals mg)(i:FI K n t f od an sl oc kV dc pm cd ct)(hb:∀(kV doc pm:Value) (an:Option Addr) (cX ct a0 a1 a2 a3:Value),bindArgs (jl n n (jY t) (fZ t) (du t) .none kV doc pm an cX ct) ⟨[a0,a1,a2,a3],[]⟩=pure (ps.zip [a0,a1,a2,a3]):=by intros;rfl)(hl:ps.length=4:=by rfl):Def K mg n t ps f (jl n n (jY t) (fZ t) (du t) .none kV dc pm an cd ct):=
 zO X G i λ_ _ _ _ _ _ us hu=>by obtain ⟨_,_,_,_,rfl⟩:=QI (hu.trans hl);exact hb ..
theorem HL(X:K.In h)(G:h.Ns mainGlobals mg)(i:FI K n t f od an sl oc kV dc pm cd ct)(hb:∀(kV doc pm:Value) (an:Option Addr) (cX ct a0 a1 a2 a3 a4:Value),bindArgs (jl n n (jY t) (fZ t) (du t) .none kV doc pm an cX ct) ⟨[a0,a1,a2,a3,a4],[]⟩=pure (ps.zip [a0,a1,a2,a3,a4]):=by intros;rfl)(hl:ps.length=5:=by rfl):Def K mg n t ps f (jl n n (jY t) (fZ t) (du t) .none kV dc pm an cd ct):=
 zO X G i λ_ _ _ _ _ _ us hu=>by obtain ⟨_,_,_,_,_,rfl⟩:=Aa (hu.trans hl);exact hb ..
end
end DL
namespace DL
open PySem L2
theorem b8I(i j:Int):bS (.int i) (.int j)=some (.sh (.int (i-j))):=rfl
end DL
namespace DL
open PySem PySem.Spec PyProof.Rows L2
def xK(K:aC)(O:Addr->Prop)(J:It)(H:Hp)(ds:List D):Prop:=
 ∀(O':Addr->Prop) (H2:Hp),(∀q u,H q=some u->¬O q->H2 q=some u/\¬O' q)->(∀q,O' q->H2 q≠none) ->
  ∀i:Nat,(∀d,ds[i]?=some d->J.go i H2/\∀x H3,J.yD i H2 x H3->ao H2 H3/\Is K O' H3 x d)/\(ds.length<=i->J.stop i H2)
def IV(X:Cx)(tg it:Expr)(f:En->Option (List D)):Prop:=
 ∃wi:TI,PI X tg it wi/\∀(O:Addr->Prop) (B:Hp) (σ:L2.St) (H:Hp) (env:En) (ds:List D) (R:It->Hp->Prop),Rel X.K O B σ H env->f env=some ds ->
  (∀J H',ao H H'->xK X.K (OO O σ env) J H' ds->R J H')->wi σ H R
theorem Sh{K:aC}{O:Addr->Prop}{H H2:Hp}{k:Bool}{p:Addr}{xs:List V}(kp:∀q u,H q=some u->¬O q->H2 q=some u)(h:Sq K H k p xs)(hp:¬O p):Sq K H2 k p xs:=by
 cases k with
 | true =>
  rcases h with (h | ⟨o,h⟩) | h
  .exact .inl (.inl (kp _ _ h hp))
  .exact .inl (.inr ⟨o,kp _ _ h hp⟩)
  .exact .inr h
 | false =>
  rcases h with (h | ⟨o,h⟩) | h
  .exact .inl (.inl (kp _ _ h hp))
  .exact .inl (.inr ⟨o,kp _ _ h hp⟩)
  .exact .inr h
noncomputable def fC(f:En->Option Sl):En->Option (List D):=λenv=>(f env).bind λr=>(e8 r.d).map (·.2)
section
variable {X:Cx}{tg it:Expr}{fa:En->Option Sl}
theorem qt(hi:EV X it fa):IV X tg it (fC fa):=by
 obtain ⟨ti,pi,ki⟩:=hi
 refine ⟨_,Rk pi,λO B σ H env ds R Rl e q=>?_⟩
 obtain ⟨r,e1,e2⟩:=bind_some e
 obtain ⟨⟨k,qe⟩,e4,e5⟩:=map_some e2
 cases e5
 refine ki O B σ H env r _ Rl e1 λv H1 s1 r1=>?_
 obtain ⟨p,xs,rfl,h1,h2,h3⟩:=(r1.is λq=>Rl.oo).qR e4
 refine ⟨p,rfl,?_⟩
 have key:∀(O':Addr->Prop) (H2:Hp),(∀q u,H1 q=some u->¬OO O σ env q->H2 q=some u/\¬O' q)->Sq X.K H2 k p xs/\aN X.K O' H2 xs qe:=λO' H2 kp=>by
  refine ⟨?_,h2.map (λq hq hn=>?_) λq u e n=>(kp q u e n).1⟩
  .rcases h3 with h3 | h3
   .exact Sh (λq u e n=>(kp q u e n).1) h1 h3
   .exact h3 H2
  .cases e:H1 q with
   | none=>exact (hq e).elim
   | some u=>exact (kp q u e hn).2
 cases k with
 | true =>
  refine .inl ⟨⟨xs,h1⟩,q _ H1 s1 λO' H2 kp hO i=>⟨λd hd=>?_,λhl=>?_⟩⟩
  .obtain ⟨hq,hs⟩:=key O' H2 kp
   obtain ⟨x,hx,A4⟩:=hs.get hd
   refine ⟨⟨xs,x,hq,hx⟩,λy H3 hy=>?_⟩
   obtain ⟨rfl,hy⟩:=hy
   have:=hy xs hq
   rw [hx] at this
   cases this
   exact ⟨ao.refl _,A4⟩
  .obtain ⟨hq,hs⟩:=key O' H2 kp
   exact ⟨xs,hq,by rw [hs.length];exact hl⟩
 | false =>
  refine .inr ⟨⟨xs,h1⟩,q _ H1 s1 λO' H2 kp hO i=>⟨λd hd=>?_,λhl=>?_⟩⟩
  .obtain ⟨hq,hs⟩:=key O' H2 kp
   obtain ⟨x,hx,A4⟩:=hs.get hd
   refine ⟨⟨xs,x,hq,hx⟩,λy H3 hy=>?_⟩
   obtain ⟨rfl,hy⟩:=hy
   have:=hy xs hq
   rw [hx] at this
   cases this
   exact ⟨ao.refl _,A4⟩
  .obtain ⟨hq,hs⟩:=key O' H2 kp
   exact ⟨xs,hq,by rw [hs.length];exact hl⟩
theorem b2W{K:aC}{O:Addr->Prop}{H:Hp}(lo:Int)(n:Nat):xK K O (Dk lo n) H (bR lo n):=λO' H2 _ _ i=>by
 refine ⟨λd hd=>?_,λhl=>show n<=i by simpa [bR] using hl⟩
 unfold bR at hd
 rw [rL] at hd
 obtain ⟨k,hk,rfl⟩:=map_some hd
 obtain ⟨hi,rfl⟩:=iB.mp hk
 rw [BP] at hi
 refine ⟨hi,λx H3 hy=>?_⟩
 obtain ⟨rfl,rfl⟩:=hy
 rw [Qa]
 exact ⟨ao.refl _,Is.int _⟩
noncomputable def kr(h:List D->Option (List D))(f:En->Option (List D)):En->Option (List D):=λenv=>(f env).bind h
noncomputable def K'(f:En->Option (List D))(g:GF)(F:SF):SF:=λenv=>(f env).bind λds=>forL g F ds env
theorem b5p(hp:PassesOwn (model X.prog X.w) X.A X.env X.xe)(hc:X.calm=true)(hi:IV X tg it fi)(hg:GV X tg g)(hb:jq X body F)
  (hs:∀x,foldedSetIterable it X.env x=pure x:=by intro _;rfl):SV X (.For tg it body [] pos) (K' fi g F):=by
 obtain ⟨wi,pi,ki⟩:=hi
 obtain ⟨yL,pg,kg⟩:=hg
 obtain ⟨tb,pb,kb⟩:=hb
 refine ⟨_,Rn hp hc pi pg pb hs,λO B σ H env fl ah D R e q=>?_⟩
 obtain ⟨ds,e1,e2⟩:=bind_some e
 refine ki O B σ H env ds _ R e1 λJ H1 s1 wk=>?_
 have q':dM X.K O B σ H1 env D fl ah:=q.from (Gd.refl s1)
 refine ⟨λi m cZ H2=>m=ds.length-i/\i<=ds.length/\Left X.K O B σ H1 env g F ds fl ah i cZ H2,⟨ds.length,by simp,og _,⟨env,R.grow s1,Gd.refl (ao.refl _),e2⟩⟩,?_⟩
 rintro i m cZ H2 ⟨rfl,hi,L⟩
 obtain ⟨aQ,R2,gd,ee⟩:=id L
 have w:=wk (OO O cZ aQ) H2 (λa u ea na=>by
  obtain ⟨h1,h2⟩:=gd a u ea λz=>na (.inr z)
  exact ⟨h1,λz=>z.elim (λz=>na (.inl z)) h2⟩) (λa=>R2.oo) i
 by_cases aY:i<ds.length
 .obtain ⟨go,yl⟩:=w.1 ds[i] (by simp [aY])
  refine .inr ⟨go,Left X.K O B σ H1 env g F ds fl ah (i+1),λaz H' p'=>⟨ds.length-(i+1),by ext aY,rfl,aY,p'⟩,λx H3 hy=>?_⟩
  obtain ⟨s3,hx⟩:=yl x H3 hy
  have AZ:ds.drop i=ds[i]::ds.drop (i+1):=jT aY
  rw [AZ,forL] at ee
  cases IM:g ds[i] aQ with
  | none=>rw [IM] at ee;cases ee
  | some l6 =>
   rw [IM] at ee
   refine kg O B cZ H3 aQ l6 x ds[i] _ (R2.grow s3) hx IM λU5 H4 R4 g4=>?_
   dsimp only at ee
   cases hF:F l6 with
   | none=>rw [hF] at ee;cases ee
   | some y =>
    obtain ⟨f2,fW⟩:=y
    rw [hF] at ee
    have Jk:=gd.trans ((Gd.refl s3).trans g4)
    refine kb O B U5 H4 l6 f2 fW _ R4 hF ?_
    cases f2 with
    | nx=>exact λGL H5 R5 g5=>⟨fW,R5,Jk.trans g5,ee⟩
    | ct=>exact λGL H5 R5 g5=>⟨fW,R5,Jk.trans g5,ee⟩
    | bk=>cases ee;exact λGL H5 R5 g5=>q' GL H5 R5 (Jk.trans g5)
    | rt r=>cases ee;exact q'
 .exact .inl ⟨w.2 (by ext aY),Mt (by ext aY) q' L⟩
end
noncomputable def rl(bL sc:Scope):Scope:=
 { bL with names:=bL.names.map λ(n,k)=>if (k==.free&&sc.kind==.function&&sc.names.lookup n==some .cell) then (n,.cell) else (n,k) }
theorem ML{sc:Scope}:∀{names:List (Str×NameKind)} {x:Str} {k:NameKind},names.lookup x=some k ->
  (names.map λ(n,k)=>if (k==nF&&sc.kind==.function&&sc.names.lookup n==some .cell) then (n,vh) else (n,k)).lookup x=some (if (k==nF&&sc.kind==.function&&sc.names.lookup x==some .cell) then vh else k)
 | [],_,_,h=>by simp at h
 | (n,k')::r,x,k,h=>by
  have ih:=@ML sc r x k
  show List.lookup x ((if (k'==nF&&sc.kind==.function&&sc.names.lookup n==some .cell)=true then (n,vh) else (n,k'))::_)=_
  cases hx:x==n with
  | true =>
   simp only [mQ,hx] at h
   cases h
   have e:x=n:=by simpa using hx
   subst e
   split<;>simp [mQ]
  | false =>
   simp only [mQ,hx] at h
   split
   .simp only [mQ,hx];exact ih h
   .simp only [mQ,hx];exact ih h
theorem b0t{sc:Scope}:∀{names:List (Str×NameKind)} {x:Str} {k:NameKind},
  (names.map λ(n,k)=>if (k==nF&&sc.kind==.function&&sc.names.lookup n==some .cell) then (n,vh) else (n,k)).lookup x=some k->∃k',names.lookup x=some k'/\k=if (k'==nF&&sc.kind==.function&&sc.names.lookup x==some .cell) then vh else k'
 | names,x,k,h=>by
  cases e:names.lookup x with
  | some k'=>have:=ML (sc:=sc) e;rw [h] at this;exact ⟨k',rfl,dk this⟩
  | none =>
   exfalso
   induction names with
   | nil=>simp at h
   | cons y r ih =>
    obtain ⟨n,k'⟩:=y
    have h':List.lookup x ((if (k'==nF&&sc.kind==.function&&sc.names.lookup n==some .cell)=true then (n,vh) else (n,k'))::(r.map λ(n,k)=>if (k==nF&&sc.kind==.function&&sc.names.lookup n==some .cell) then (n,vh) else (n,k)))=some k:=h
    cases hx:x==n with
    | true=>simp [mQ,hx] at e
    | false =>
     simp only [mQ,hx] at e
     apply ih _ e
     split at h'
     .simpa only [mQ,hx] using h'
     .simpa only [mQ,hx] using h'
noncomputable def eO(cells:List (Str×Addr)):List (Str×NameKind)->List (Str×Addr)->List (Str×Addr)
 | [],acc=>acc
 | (n,k)::r,acc=>eO cells r (if k==.free then (n,(cells.lookup n).getD 0)::acc else acc)
theorem M9:∀(names:List (Str×NameKind)) (acc:List (Str×Addr)),(∀y∈names,y.2=.free->∃c,env.cells.lookup y.1=some c) ->
  (forIn names acc λ(x:Str×NameKind) r=>(if (x.2==.free)=true then do let a <-cellOf env x.1;pure (mT ((x.1,a)::r)) else pure (mT r):Sem (ForInStep (List (Str×Addr)))))=pure (eO env.cells names acc)
 | [],acc,_=>rfl
 | (n,k)::r,acc,h=>by
  rw [BL]
  have hr:∀y∈r,y.2=.free->∃c,env.cells.lookup y.1=some c:=λy hy=>h y (cY _ hy)
  cases hk:k==nF with
  | true =>
   have ek:k=.free:=by simpa using hk
   obtain ⟨c,hc⟩:=h (n,k) cM ek
   replace hc:env.cells.lookup n=some c:=hc
   have uT:cellOf env n=pure c:=by unfold cellOf;rw [hc]
   simp only [if_true]
   rw [uT]
   simp only [pure_bind]
   rw [M9 r _ hr]
   conv=>rhs;unfold eO
   rw [hk,hc]
   rfl
  | false =>
   simp only [ou,if_false,pure_bind]
   rw [M9 r _ hr]
   conv=>rhs;unfold eO
   rw [hk]
   rfl
theorem UI(h:∀y∈sc.names,y.2=.free->∃c,env.cells.lookup y.1=some c):closureFor sc env=pure (eO env.cells sc.names []):=by
 unfold closureFor
 rw [<-M9 sc.names [] h]
 show (forIn sc.names [] _ >>= λcs=>pure cs)=_
 rw [bind_pure]
theorem S8:∀(names:List (Str×NameKind)) (acc:List (Str×Addr)) {c:Addr},(eO cells names acc).lookup x=some c->acc.lookup x=some c\/((x,nF)∈names/\c=(cells.lookup x).getD 0)
 | [],acc,c,h=>.inl h
 | (n,k)::r,acc,c,h=>by
  unfold eO at h
  rcases S8 r _ h with h1 | ⟨h,e⟩
  .clear h
   have h:=h1
   clear h1
   cases hk:k==nF with
   | false=>rw [hk] at h;exact .inl (by simpa using h)
   | true =>
    rw [hk] at h
    simp only [if_true] at h
    have ek:k=.free:=by simpa using hk
    cases hx:x==n with
    | true =>
     simp only [mQ,hx] at h
     have e:x=n:=by simpa using hx
     subst e ek
     exact .inr ⟨cM,(dk h).symm⟩
    | false =>
     simp only [mQ,hx] at h
     exact .inl h
  .exact .inr ⟨cY _ h,e⟩
theorem TF:∀(names:List (Str×NameKind)) (acc:List (Str×Addr)),((∃c,acc.lookup x=some c)\/(x,nF)∈names)->∃c,(eO cells names acc).lookup x=some c
 | [],acc,h=>h.elim id λz=>nomatch z
 | (n,k)::r,acc,h=>by
  unfold eO
  refine TF r _ ?_
  cases hk:k==nF with
  | false =>
   rcases h with h | h
   .exact .inl (by simpa using h)
   .rcases bI.mp h with e | h
    .cases e;simp at hk
    .exact .inr h
  | true =>
   simp only [if_true]
   cases hx:x==n with
   | true=>exact .inl ⟨_,by simp only [mQ,hx];rfl⟩
   | false =>
    rcases h with ⟨c,h⟩ | h
    .exact .inl ⟨c,by simp only [mQ,hx];exact h⟩
    .rcases bI.mp h with e | h
     .cases e;simp at hx
     .exact .inr h
structure bZ(N:List Str)(sc:Scope)(N':List Str)(caps:List Nat)(nt:Nat)(bL:Scope):Prop where
 kind:bL.kind=.function
 loc:∀y∈bL.names,y.2=.local->bL.names.lookup y.1=some .local
 oQ:∀y∈bL.names,y.2≠.cell
 free:∀y∈bL.names,y.2=.free->sc.names.lookup y.1=some .cell\/sc.names.lookup y.1=some .free
 nd:N'.Nodup
 len:N'.length=nt+caps.length
 cap:caps.map (λi=>N[i]?)=(N'.drop nt).map some
 fr:∀x∈N'.drop nt,bL.names.lookup x=some .free
theorem Nq{names:List (Str×NameKind)}{x:Str}(h:names.lookup x=some k):(x,k)∈names:=tD h
noncomputable def iP:List Nat->En->Option En
 | [],_=>some []
 | i::is,env=>match env[i]? with
  | some (.sh d)=>(iP is env).map (Sl.sh d::·)
  | _=>none
noncomputable def jn(g:GF)(fc:En->Option Bool)(fe:En->Option Sl):List D->En->Option (List D)
 | [],_=>some []
 | d::ds,e=>(g d e).bind λe1=>(fc e1).bind λb=>if b=true then (fe e1).bind λr=>(jn g fc fe ds e1).bind λrs=>some (r.d::rs) else jn g fc fe ds e1
noncomputable def gG(fi:En->Option (List D))(caps:List Nat)(nt:Nat)(g:GF)(fc:En->Option Bool)(fe:En->Option Sl):En->Option Sl:=λenv =>
 (fi env).bind λds=>(iP caps env).bind λcs=>if ds.length<=16777216 then (jn g fc fe ds (ji nt Sl.no++cs)).map Sl.ow else none
noncomputable def dQ:List Nat->L2.St->L2.St
 | [],_=>[]
 | i::is,σ=>(σ[i]?).getD none::dQ is σ
theorem Sa{K:aC}{O:Addr->Prop}{B:Hp}{σ:L2.St}{H:Hp}{env:En}(R:Rel K O B σ H env):∀{caps:List Nat} {cs:En},iP caps env=some cs->cs.length=caps.length/\(dQ caps σ).length=caps.length /\
  ∀(j:Nat) (s:Sl),cs[j]?=some s->∃(d:D) (v:V) (i:Nat),s=Sl.sh d/\(dQ caps σ)[j]?=some (some v)/\Is K (OO O σ env) H v d/\caps[j]?=some i/\σ[i]?=some (some v)
 | [],cs,e=>by cases e;exact ⟨rfl,rfl,λj s h=>by simp at h⟩
 | i::is,cs,e=>by
  unfold iP at e
  cases h:env[i]? with
  | none=>rw [h] at e;cases e
  | some s =>
   rw [h] at e
   cases s with
   | no=>cases e
   | ow ds=>cases e
   | dw ds=>cases e
   | sh d =>
    obtain ⟨cs',e1,rfl⟩:=map_some (show (iP is env).map (Sl.sh d::·)=some cs from e)
    obtain ⟨l1,l2,ih⟩:=Sa R e1
    obtain ⟨v,hv,hi⟩:=R.sh i d h
    refine ⟨by simp [l1],by simp [dQ,l2],λj s hj=>?_⟩
    cases j with
    | zero=>simp at hj;subst hj;exact ⟨d,v,i,rfl,by simp [dQ,hv],hi,rfl,hv⟩
    | succ j =>
     obtain ⟨d',v',i',a1,a2,a3,a4,a5⟩:=ih j s (by simpa using hj)
     exact ⟨d',v',i',a1,by simpa [dQ] using a2,a3,by simpa using a4,a5⟩
def Dl(X:Cx)(ifs:List Expr)(f:En->Option Bool):Prop:=
 ∃t:TT,(∀(pins:List (Addr×Obj)) (s:Shared) (σ:L2.St) (H:Hp) (Q:Bool->Hp->Prop),Inv X pins σ H s->t σ H Q ->
   wpAny (model X.prog X.w) X.A (forIn ifs true λc r=>if r=true then do let ok <-isTrue c X.env (eval c X.env);pure (mT ok) else pure (mT r)) (TP X pins σ Q) X.xe s) /\
  ∀(O:Addr->Prop) (B:Hp) (σ:L2.St) (H:Hp) (env:En) (b:Bool) (Q:Bool->Hp->Prop),Rel X.K O B σ H env->f env=some b->(∀H',ao H H'->Q b H')->t σ H Q
noncomputable def lG:En->Option Bool:=λ_=>some true
theorem pG:Dl X [] lG:=⟨λ_ H Q=>Q true H,λpins s σ H Q I h=>wpAny_tests_nil ⟨H,I,h⟩,λO B σ H env b Q R e q=>by cases e;exact q H (ao.refl _)⟩
theorem Q7(h:TV X c f):Dl X [c] f:=by
 obtain ⟨t,p,k⟩:=h
 exact ⟨t,λpins s σ H Q I h=>wpAny_tests_one (p pins s σ H Q I h),k⟩
section
variable {prog:Program}{w:World}{A:Around}{R:Result->Shared->Prop}{s:Shared}
theorem a83{elt target iter:Expr}{ifs:List Expr}{scope:Scope}{pos:Pos}{it acc:Value}{env:Env}(I:Nat->Shared->Prop){N:Value->Shared->Prop}(hN:∀x s',N x s'->False)
  (turn:∀n s,I n s->wpAny (model prog w) A (pyNext it) (λr aM=>match r with
   | none=>R (.ok .next) aM
   | some v=>wpAny (model prog w) A (letOwnedTupleGo target it v) (λ_ sv=>wpAny (model prog w) A (assign target env v) (λ_ iI =>
     wpAny (model prog w) A (forIn ifs true λc r=>if r=true then do let ok <-isTrue c env (eval c env);pure (mT ok) else pure (mT r)) (λok lL =>
      if ok=true then wpAny (model prog w) A (eval elt env) (λx yZ =>
       wpAny (model prog w) A (call (.builtin "list.append") [acc,x]) (λ_ yY=>∃m,m<n/\I m yY) N yZ) N lL
      else ∃m,m<n/\I m lL) N iI) N sv) N aM) N s)
  (n:Nat)(h:I n s):
  codeAny (model prog w) A (.compLoop (.ListComp elt [⟨target,iter,ifs,0⟩] scope pos) 0 it acc env) R s:=by
 refine codeAny_loop rfl I (λn s hI=>?_) n h
 show wpAny _ A ((compTurn (.ListComp elt [⟨target,iter,ifs,0⟩] scope pos) 0 it acc env).onRaise (λx=>do noteFrame x env;theTreesLotGoes x)) _ _ s
 refine wpAny_noted ?_
 rw [compTurn_list]
 have no:∀{P:Value->Shared->Prop} (x:Value) (s':Shared),N x s'->P x s':=λx s' z=>(hN x s' z).elim
 refine aq (Ey (aq (gk (turn n s hI) (λr aM h₁=>?_) no)))
 cases r with
 | none=>exact bp h₁
 | some v =>
  refine aq (gk h₁ (λ_ sv Ap=>?_) no)
  refine aq (gk Ap (λ_ iI Ib=>aq (gk Ib (λok lL Ao=>?_) no)) no)
  cases ok with
  | false=>exact bp ⟨rfl,Ao⟩
  | true =>
   exact aq (aq (gk Ao (λx yZ Ia=>aq (gk Ia (λ_ yY HZ=>bp (bp ⟨rfl,HZ⟩)) no)) no))
end
section
variable {X:Cx}{N N':List Str}{sc bL:Scope}{k:Nat}{full:Bool}{elt iter tg:Expr}{ifs:List Expr}{pos:Pos}{fi:En->Option (List D)}{caps:List Nat}{nt:Nat}{g:GF}{fc:En->Option Bool}{fe:En->Option Sl}
noncomputable def sT(X:Cx)(N':List Str)(bL:Scope)(ex:List Addr)(s:Shared)(H:Hp):Cx where
 prog:=X.prog
 w:=X.w
 K:=X.K
 mg:=X.mg
 base:=X.base
 A:=X.A
 N:=N'
 bF:=s
 nV:=H
 env:=compEnvC bL (eO X.env.cells bL.names []) s.heap.objs.size X.env
 outer:=X.stack
 stack:=X.stack
 ex:=ex
 fn:=λ_=>false
 calm:=true
 pn:=[]
 xe:=λ_ _=>False
theorem tH(C:bZ N sc N' caps nt bL)(lW:X.env.scope=sc){pins:List (Addr×Obj)}{σ:L2.St}{H:Hp}{s:Shared}(I:Inv X pins σ H s){x:Str}{c:Addr}(h:(eO X.env.cells bL.names []).lookup x=some c):X.env.cells.lookup x=some c:=by
 rcases S8 _ _ h with h | ⟨h,e⟩
 .simp at h
 .obtain ⟨c',nZ⟩:=I.ok.has x (by
   show X.env.scope.names.lookup x=_\/X.env.scope.names.lookup x=_
   rw [lW]
   exact C.free _ h rfl)
  rw [nZ] at e
  rw [e];exact nZ
theorem Ry(h:bL.names.lookup x=some .free):∃c,(eO X.env.cells bL.names []).lookup x=some c:=TF _ _ (.inr (Nq h))
theorem b3Y(C:bZ N sc N' caps nt bL)(lW:X.env.scope=sc)(hc:X.calm=true){pins:List (Addr×Obj)}{σ:L2.St}{H:Hp}{s s3:Shared}{fp:List Addr}(I:Inv X pins σ H s)(I3:Inv X pins σ H s3)
  (hf:∀b∈fp,cK X pins H b)(AY:∀b∈fp,∃o,s3.heap.get? b=some o)(hs:s3.heap.objs.size=s.heap.objs.size+1):(sT X N' bL (s.heap.objs.size::fp) s3 H).Ok:=by
 have small:∀x c,X.env.cells.lookup x=some c->c<s.heap.objs.size:=λx c e=>by
  obtain ⟨v,z⟩:=I.cell x c e
  exact z.lt
 have kd:∀x,((sT X N' bL (s.heap.objs.size::fp) s3 H).env.kindOf x=some .cell\/(sT X N' bL (s.heap.objs.size::fp) s3 H).env.kindOf x=some .free)->bL.names.lookup x=some .free:=λx h=>by
  have h':∃k,(rl bL X.env.scope).names.lookup x=some k/\(k=.cell\/k=.free):=h.elim (λz=>⟨_,z,.inl rfl⟩) λz=>⟨_,z,.inr rfl⟩
  obtain ⟨k,e,hk⟩:=h'
  obtain ⟨k',e1,e2⟩:=b0t e
  have nc:k'≠.cell:=C.oQ _ (Nq e1)
  by_cases sP:(k'==nF&&X.env.scope.kind==.function&&X.env.scope.names.lookup x==some .cell)=true
  .have:k'=.free:=by
    have:=(vk _ _▸(vk _ _▸sP).1).1
    simpa using this
   rw [e1,this]
  .rw [if_neg sP] at e2
   subst e2
   rcases hk with rfl | rfl
   .exact (nc rfl).elim
   .exact e1
 refine ⟨I.ok.mod,C.kind,I.ok.glob,I.ok.blt,bA _,λx y c h1 h2=>I.ok.inj x y c (tH C lW I h1) (tH C lW I h2),λx h=>Ry (kd x h),λ_ _ (z:false=true) _=>(nomatch z),λ_=>I.ok.hd hc,I.ok.frames,.inl rfl,λb hb=>⟨?_,λx c e=>?_⟩,λb o e=>?_,?_,λb o e hb=>?_,λb hb p9=>?_,I3.stack,λb hb=>I.fy b hb⟩
 .show b≠s3.heap.objs.size
  rcases bI.mp hb with rfl | hb
  .rw [hs];exact dF (vD _)
  .obtain ⟨o,e⟩:=AY b hb
   exact dF (bO e)
 .have e':=tH C lW I e
  rcases bI.mp hb with rfl | hb
  .exact dF (small x c e')
  .exact (hf b hb).2.2.2.2.1 x c e'
 .exact I3.bs b o e
 .exact dY I.ok.me I3.sz
 .have lt:b<X.base.objs.size:=bO e
  have h0:=I.ok.me
  have h1:=I.sz
  rcases bI.mp hb with rfl | hb
  .exact absurd (iQ lt (dY h0 h1)) (oz _)
  .rcases (hf b hb).2.2.2.1 with z | z
   .exact I.ok.lT b o e z
   .exact absurd (iQ lt (dY h0 z)) (oz _)
 .rcases bI.mp hb with rfl | hb
  .obtain ⟨_,o,ho,_⟩:=I.stack.mem p9
   exact absurd (bO ho) (oz _)
  .rcases bI.mp (I.c9 b p9) with z | z
   .exact (hf b hb).2.1 z
   .exact (hf b hb).2.2.1 z
theorem FK{α:Type}{n j:Nat}{x y:α}{l:List α}(h:(ji n x++l)[j]?=some y):y=x\/(n<=j/\l[j-n]?=some y):=by
 by_cases hj:j<n
 .rw [vG (by simpa using hj),E1,if_pos hj] at h
  exact .inl (dk h).symm
 .rw [rH (by simpa using hj),E6] at h
  exact .inr ⟨by ext hj,h⟩
theorem b2i(C:bZ N sc N' caps nt bL)(lW:X.env.scope=sc)(hN:X.N=N)(hc:X.calm=true){pins:List (Addr×Obj)}{σ:L2.St}{H:Hp}{s s3 s4:Shared}{fp:List Addr}(I:Inv X pins σ H s)(I3:Inv X pins σ H s3)
  (hf:∀b∈fp,cK X pins H b)(AY:∀b∈fp,∃o,s3.heap.get? b=some o)(hs:s3.heap.objs.size=s.heap.objs.size+1)
  (uI:s4.os=s3.os)(hg:s4.gens=s3.gens)(hk:∀b o,s3.heap.get? b=some o->s4.heap.get? b=some o)(p6:s4.heap.Ns s3.heap.objs.size λ_=>none):
  Inv (sT X N' bL (s.heap.objs.size::fp) s3 H) [] (ji nt none++dQ caps σ) H s4:=by
 have sl:∀(caps:List Nat) (σ:L2.St),(dQ caps σ).length=caps.length:=λcaps σ=>by
  induction caps with
  | nil=>rfl
  | cons i r ih=>simp [dQ,ih]
 have sg:∀(caps:List Nat) (σ:L2.St) (j:Nat) (v:V),(dQ caps σ)[j]?=some (some v)->∃i,caps[j]?=some i/\σ[i]?=some (some v):=λcaps σ=>by
  induction caps with
  | nil=>intro j v h;simp [dQ] at h
  | cons i r ih =>
   intro j v h
   cases j with
   | zero =>
    have h':(σ[i]?).getD none=some v:=by simpa [dQ] using h
    refine ⟨i,rfl,?_⟩
    cases e:σ[i]? with
    | none=>rw [e] at h';cases h'
    | some o=>rw [e] at h';exact congrArg some h'
   | succ j =>
    obtain ⟨i',e1,e2⟩:=ih j v (by simpa [dQ] using h)
    exact ⟨i',by simpa using e1,e2⟩
 refine ⟨b3Y C lW hc I I3 hf AY hs,uI,by rw [hg];exact I3.bare,Un.kept hk,⟨_,p6,λi x v h1 h2 h3=>?_⟩,λx c e=>?_,I3.aT.fresh (bA _),λx c e=>I3.bN x c (tH C lW I e),λp hp=>absurd (show p∈([]:List (Addr×Obj)) from hp) (by simp),I3.aT.kept hk,?_⟩
 .have h1:N'[i]?=some x:=h1
  rcases FK h2 with z | ⟨hi,h2⟩
  .cases z
  .obtain ⟨i',e1,e2⟩:=sg caps σ _ v h2
   have hd:(N'.drop nt)[i-nt]?=some x:=by rw [List.getElem?_drop,Nat.add_sub_cancel' hi];exact h1
   have hm:=congrArg (λl=>l[i-nt]?) C.cap
   simp only [rL,e1,hd,Option.map_some] at hm
   have Z5:X.N[i']?=some x:=by rw [hN];exact dk hm
   have uQ:=C.fr x (KR hd)
   have dI:=C.free _ (Nq uQ) rfl
   obtain ⟨m,hn,hl⟩:=I3.loc
   obtain ⟨u,r,l⟩:=hl i' x v Z5 e2 (by rw [lW];exact .inr dI)
   refine ⟨u,r,.inr ⟨?_,?_⟩⟩
   .have e:=ML (sc:=X.env.scope) uQ
    show (rl bL X.env.scope).names.lookup x=_\/(rl bL X.env.scope).names.lookup x=_
    have e':(rl bL X.env.scope).names.lookup x=_:=e
    rw [e']
    split
    .exact .inl rfl
    .exact .inr rfl
   .rcases l with ⟨k,_⟩ | ⟨k,c,e,z⟩
    .exfalso
     have k:X.env.scope.names.lookup x=some .local:=k
     rw [lW] at k
     dsimp only at dI
     rw [k] at dI
     rcases dI with z | z<;>cases z
    .obtain ⟨c',nZ⟩:=Ry (X:=X) uQ
     have:=tH C lW I nZ
     rw [e] at this
     cases this
     exact ⟨c,nZ,z.keeps hk⟩
 .obtain ⟨v,z⟩:=I3.cell x c (tH C lW I e)
  exact ⟨v,z.keeps hk⟩
 .show (ji nt none++dQ caps σ).length=N'.length
  rw [dq,E6,sl,C.len]
theorem b2G(r:au xs us):xs.length=us.length:=r.length
theorem b2h{pins pl:List (Addr×Obj)}{σ az:L2.St}{H2 H':Hp}{s2 s3 s1:Shared}{fp:List Addr}{h':Heap}{xs:List V}{ys:List Value}(I2:Inv X pins σ H2 s2)(uG:s3.os=s2.os)(A9:∀b o,s2.heap.get? b=some o->s3.heap.get? b=some o)
  (hsz:s3.heap.objs.size=s2.heap.objs.size+1)(f2:∀b∈fp,cK X pins H2 b)(I':Inv (sT X N' bL (s2.heap.objs.size::fp) s3 H2) pl az H' s1)(sb:BI s3.heap.objs.size s1.heap h')
  (hn:H' s2.heap.objs.size=none)(hl:∃n,s1.heap.get? s2.heap.objs.size=some { cls:=.type "list",data:=.seq ys.toArray n })(hv:au xs ys)(hz:xs.length<=sizeLine):
  Inv X pins σ (upd H' s2.heap.objs.size (.lst xs)) { s1 with heap:=h' }:=by
 have YC:∀b,b<s3.heap.objs.size->b≠s3.heap.objs.size:=λb h=>dF h
 have z6:∀b,b<s2.heap.objs.size->b≠s2.heap.objs.size:=λb h=>dF h
 have out:∀b o,s2.heap.get? b=some o->b∉fp->b∉s2.heap.objs.size::fp:=λb o e n z=>(bI.mp z).elim (z6 b (bO e)) n
 have hC:H' s3.heap.objs.size=none:=I'.free
 have up:∀b o,s2.heap.get? b=some o->∀o',s1.heap.get? b=some o'->h'.get? b=some o':=λb o e o' e'=>(sb.2 b (YC b (bO (A9 b o e)))).trans e'
 have sC:∀b u,H' b=some u->b≠s2.heap.objs.size:=λb u e z=>by rw [z,hn] at e;cases e
 have u:=I'.base
 refine I2.pA (s':={ s1 with heap:=h' }) (ch:=fp) (I'.os.trans uG) ⟨λb o e n hb hx=>?_,λb o e n hb hx=>?_,λb o e n hx=>?_,λb o e hx=>?_,λb zs e=>?_,λb o v e=>?_,λb ps e=>?_⟩ (λb v e=>?_) I'.bare (λb hb=>?_)
 .exact up b o e o (u.keep b o (A9 b o e) n hb (out b o e hx))
 .obtain ⟨sl,e1⟩:=u.slot b o (A9 b o e) n hb (out b o e hx)
  exact ⟨sl,up b o e _ e1⟩
 .rw [bM (z6 b (bO e))]
  exact u.free b o (A9 b o e) n (out b o e hx)
 .obtain ⟨o',e1⟩:=u.there b o (A9 b o e) (out b o e hx)
  exact ⟨o',up b o e _ e1⟩
 .have:=u.c8 b zs e
  rw [bM (sC b _ this)];exact this
 .have:=u.dE b o v e
  rw [bM (sC b _ this)];exact this
 .obtain ⟨more,this⟩:=u.dN b ps e
  exact ⟨more,by rw [bM (sC b _ this)];exact this⟩
 .by_cases hb:b=s2.heap.objs.size
  .subst hb
   rw [kQ] at e
   cases e
   obtain ⟨n,e1⟩:=hl
   exact ⟨hz,ys,n,hv,(sb.2 _ (by rw [hsz];exact dF (vD _))).trans e1⟩
  .rw [bM hb] at e
   refine (I'.aT b v e).gr (λc w hc q=>(sb.2 c ?_).trans q) (λc _ _ q=>by rw [bM (sC c _ q)];exact q) λc zs q=>by rw [bM (sC c _ q)];exact q
   rintro rfl
   rcases hc with z | z
   .rw [<-z,hC] at e;cases e
   .rw [hC] at z;cases z
 .obtain ⟨_,g1,_,g3,g4,g5⟩:=f2 b hb
  exact ⟨g3,g1,g4,g5⟩
theorem TJ(h:Fx X N sc k full)(C:bZ N sc N' caps nt bL){wi:TI}(pi:PI X tg iter wi)(ki:∀(O:Addr->Prop) (B:Hp) (σ:L2.St) (H:Hp) (env:En) (ds:List D) (R:It->Hp->Prop),Rel X.K O B σ H env->fi env=some ds->(∀J H',ao H H'->xK X.K (OO O σ env) J H' ds->R J H')->wi σ H R)
  (hb:∀X':Cx,X'.prog=X.prog->X'.w=X.w->X'.K=X.K->X'.mg=X.mg->X'.base=X.base->Fx X' N' (rl bL sc) k false->GV X' tg g/\Dl X' ifs fc/\EV X' elt fe)
  (p9:∀x,foldedSetIterable iter X.env x=pure x){pins:List (Addr×Obj)}{s:Shared}{σ:L2.St}{H:Hp}(I:Inv X pins σ H s){O:Addr->Prop}{B:Hp}{env:En}{r:Sl}(R:Rel X.K O B σ H env)(e:gG fi caps nt g fc fe env=some r)
  {use:Option (Value->Sem Unit)}{QQ:Value->Shared->Prop}
  (fin:∀(C0 p:Addr) (H':Hp) (s':Shared),(∃m,s'.heap.Ns C0 m)->cK X pins H' C0->(∀h',BI C0 s'.heap h'->Inv X pins σ H' { s' with heap:=h' })->ao H H'->Res X.K (OO O σ env) H H' (.ref p) r ->
   compPost (model X.prog X.w) X.A X.xe use QQ (.ref p) C0 (.ok .next) s'):
  wpAny (model X.prog X.w) X.A (comprehension (.ListComp elt [⟨tg,iter,ifs,0⟩] bL pos) bL X.env (firstIterPos [⟨tg,iter,ifs,0⟩] pos) (newList []) (firstAsync [⟨tg,iter,ifs,0⟩]) (firstIter [⟨tg,iter,ifs,0⟩] X.env) use) QQ X.xe s:=by
 obtain ⟨ds,e1,e2⟩:=bind_some e
 obtain ⟨cs,e3,e4⟩:=bind_some e2
 by_cases hlen:ds.length<=16777216
 case neg=>rw [if_neg hlen] at e4;cases e4
 rw [if_pos hlen] at e4
 obtain ⟨rs,e5,rfl⟩:=map_some e4
 have o7:closureFor bL X.env=pure (eO X.env.cells bL.names []):=UI λy hy hf=>I.ok.has y.1 (by
  show X.env.scope.names.lookup y.1=_\/X.env.scope.names.lookup y.1=_
  rw [h.sc]
  exact C.free y hy hf)
 have Zy:=pi pins s σ H (λJ H'=>ao H H'/\xK X.K (OO O σ env) J H' ds) I (ki O B σ H env ds _ R e1 λJ H' s' wk=>⟨s',wk⟩)
 refine Qt (use:=use) rfl p9 o7 C.kind C.loc (be Zy λxv s1 h1=>be h1 λHV s2 h2=>?_)
 obtain ⟨it,fp,tn,J,H2,rfl,I2,T,gu,f2,ju,wk⟩:=h2
 refine rK (wpAny_newFunctionEnv C.oQ (by intro y hy;simp at hy) (λh₁ lY lX=>?_) C.kind)
 dsimp only at lY lX ⊢
 generalize Ji:s2.heap.push { cls:=.type "list",dict:=none,data:=.seq ([]:List Value).toArray }=H3 at lY lX ⊢
 have hsz:H3.objs.size=s2.heap.objs.size+1:=by rw [<-Ji,qh]
 have Ag:∀b o,s2.heap.get? b=some o->H3.get? b=some o:=λb o e=>by rw [<-Ji];exact bP _ e
 have DJ:∀b o,H3.get? b=some o->h₁.get? b=some o:=λb o e=>lX.extBut b o (dF (bO e)) (bP _ e)
 have I3:Inv X pins σ H2 { s2 with heap:=H3 }:=I2.kept (t':=s2.toks) Ag
 have zK:∀b∈fp,b<s2.heap.objs.size:=λb hb=>by obtain ⟨o,eo,_⟩:=T.obj 0 _ gu b hb;exact bO eo
 have sC:∀b∈fp,b≠s2.heap.objs.size:=λb hb=>dF (zK b hb)
 have AY:∀b∈fp,∃o,H3.get? b=some o:=λb hb=>by obtain ⟨o,eo,_⟩:=T.obj 0 _ gu b hb;exact ⟨o,Ag b o eo⟩
 have R2:=R.grow ju
 obtain ⟨lc,ls,cg⟩:=Sa R2 e3
 generalize ly:sT X N' bL (s2.heap.objs.size::fp) { s2 with heap:=H3 } H2=X'
 have I4:∀t,Inv X' [] (ji nt none++dQ caps σ) H2 { s2 with heap:=h₁,toks:=t }:=λt=>by
  rw [<-ly]
  exact b2i (s3:={ s2 with heap:=H3 }) (s4:={ s2 with heap:=h₁,toks:=t }) C h.sc h.n h.calm I2 I3 f2 AY hsz rfl rfl DJ (by simpa using lY)
 have hP:X'.prog=X.prog:=by rw [<-ly];rfl
 have hW:X'.w=X.w:=by rw [<-ly];rfl
 have hK:X'.K=X.K:=by rw [<-ly];rfl
 have hE:X'.env=compEnvC bL (eO X.env.cells bL.names []) H3.objs.size X.env:=by rw [<-ly];rfl
 have hA:X'.A=X.A:=by rw [<-ly];rfl
 have hx:X'.xe=λ_ _=>False:=by rw [<-ly];rfl
 have I0:X'.calm=true:=by rw [<-ly];rfl
 have Jc:=hb X' hP hW hK (by rw [<-ly];rfl) (by rw [<-ly];rfl) ⟨by rw [<-ly];rfl,by rw [hE];show rl bL X.env.scope=_;rw [h.sc],I0,λz=>(nomatch z),by rw [hx];exact sZ,by rw [hA];exact h.room,C.nd,λz=>(nomatch z)⟩
 obtain ⟨⟨yL,pg,kg⟩,⟨tc,pc,kc⟩,te,pe,ke⟩:=Jc
 have Jq:∀{H':Hp} {pl:List (Addr×Obj)},(∀b∈fp,H' b=none)->(∀p∈pl,∀b∈fp,p.1≠b)->∀b∈fp,cK X' pl H' b:=λ{H' pl} hn dG b hb=>by
  obtain ⟨_,g1,g2,g3,g4,g5⟩:=f2 b hb
  rw [<-ly]
  refine ⟨hn b hb,dF (iQ (zK b hb) (by show s2.heap.objs.size<=H3.objs.size;rw [hsz];exact BK _)),λz=>?_,.inl (cY _ hb),λx c e=>g4 x c (tH C h.sc I2 e),λp hp=>dG p (by simpa [sT] using hp) b hb⟩
  rcases bI.mp (I2.c9 b z) with z | z
  .exact g1 z
  .exact g2 z
 have R0:Rel X'.K (OO O σ env) H2 (ji nt none++dQ caps σ) H2 (ji nt Sl.no++cs):=by
  have qX:∀(i:Nat) (es:Sl),(ji nt Sl.no++cs)[i]?=some es->es.own->False:=λi es e o=>by
   rcases FK e with z | ⟨_,z⟩
   .cases z;exact o
   .obtain ⟨d,_,_,z,_⟩:=cg _ _ z
    cases z;exact o
  have noOwn:∀p,¬jZ (ji nt none++dQ caps σ) (ji nt Sl.no++cs) p:=λp ⟨i,es,e,o,_⟩=>qX i es e o
  rw [hK]
  refine ⟨ao.refl _,R2.dm,by simp [lc,ls],λi d e=>?_,λi es e=>(qX i _ e trivial).elim,λi es e=>(qX i _ e trivial).elim,λi j es fs p e _ _ _ o=>(qX i es e o).elim⟩
  rcases FK e with z | ⟨hi,z⟩
  .cases z
  .obtain ⟨d',v,i',z1,z2,z3,_⟩:=cg _ _ z
   cases z1
   refine ⟨v,?_,z3.less λp hp=>hp.elim id λz=>(noOwn p z).elim⟩
   rw [rH (by simpa using hi),E6]
   exact z2
 have loop:∀t,codeAny (model X.prog X.w) X.A (.compLoop (.ListComp elt [⟨tg,iter,ifs,0⟩] bL pos) 0 (.ref it) (.ref s2.heap.objs.size) (compEnvC bL (eO X.env.cells bL.names []) H3.objs.size X.env))
   (compPost (model X.prog X.w) X.A X.xe use QQ (.ref s2.heap.objs.size) H3.objs.size) { s2 with heap:=h₁,toks:=t }:=λt=>by
  refine a83 (N:=λ_ _=>False) (λn s'=>∃(i:Nat) (az:L2.St) (H':Hp) (ah:En) (ys:List Value) (xs:List V) (sx DE:List D),n=ds.length-i/\i<=ds.length/\Inv X' [] az H' s'/\tn i s'.heap/\(∀b∈fp,H' b=none)/\H' s2.heap.objs.size=none /\
    s'.heap.PlainList s2.heap.objs.size ys.toArray/\au xs ys/\Rel X'.K (OO O σ env) H2 az H' ah/\Gd (ji nt none++dQ caps σ) (ji nt Sl.no++cs) H2 az ah H' /\
    aN X'.K (OO (OO O σ env) az ah) H' xs sx/\jn g fc fe (ds.drop i) ah=some DE/\sx++DE=rs/\sx.length<=i) (λ_ _ z=>z) ?_ ds.length
   ⟨0,_,H2,_,[],[],[],rs,by simp,og _,I4 t,T.keep _ _ _ gu (λb _ o e=>DJ b o (Ag b o e)),λb hb=>(f2 b hb).1,I2.aT.fresh (bA _),⟨_,DJ _ _ (by rw [<-Ji];exact ft _ rfl)⟩,.nil,R0,Gd.refl (ao.refl _),.nil,by simpa using e5,rfl,bA _⟩
  rintro n s3 ⟨i,jr,yC,l6,ys,xs,sx,DE,rfl,hi,J3,iJ,Bi,Z0,ON,vx,R3,PC,Am,Bz,wF,Ip⟩
  have zr:Inv X' (rR [s2.heap.objs.size] s3.heap) jr yC s3:=by
   refine J3.fA λp hp=>?_
   obtain ⟨hb,e⟩:=MN hp
   have hb:p.1=s2.heap.objs.size:=by simpa using hb
   obtain ⟨n,en⟩:=ON
   rw [hb,en] at e
   refine ⟨by rw [hb,en];exact e,by rw [hb];exact Z0,?_,λz=>?_,λv z=>?_⟩
   .rw [hb,hE]
    show s2.heap.objs.size≠H3.objs.size
    rw [hsz]
    exact dF (vD _)
   .rw [hb,<-ly] at z
    obtain ⟨_,o,ho,_⟩:=I2.stack.mem z
    exact absurd (bO ho) (oz _)
   .rw [<-dk e] at z;cases z
  have apart:∀p∈rR [s2.heap.objs.size] s3.heap,∀b∈fp,p.1≠b:=λp hp b hb z=>by
   have e:p.1=s2.heap.objs.size:=by simpa using (MN hp).1
   exact sC b hb (z.symm.trans e)
  have pE:∀{pl:List (Addr×Obj)} {az:L2.St} {H':Hp} {s':Shared},Inv X' pl az H' s'->(∀p∈rR [s2.heap.objs.size] s3.heap,p∈pl)->s'.heap.PlainList s2.heap.objs.size ys.toArray/\H' s2.heap.objs.size=none:=λ{pl az H' s'} J jz=>by
   obtain ⟨n,en⟩:=ON
   obtain ⟨q1,q2,_⟩:=J.pin _ (ie _ (jz _ (CP (fp:=[s2.heap.objs.size]) (by simp) en)))
   exact ⟨⟨n,q1⟩,q2⟩
  have w:=wk (OO (OO O σ env) jr l6) yC (λa u ea na=>by
   obtain ⟨h1,h2⟩:=PC a u ea λ⟨i,es,e,o,_⟩=>by
    rcases FK e with z | ⟨_,z⟩
    .cases z;exact o
    .obtain ⟨d,_,_,z,_⟩:=cg _ _ z
     cases z;exact o
   exact ⟨h1,λz=>z.elim na h2⟩) (λa=>R3.oo) i
  by_cases aY:i<ds.length
  .obtain ⟨go,yl⟩:=w.1 ds[i] (by simp [aY])
   have AZ:ds.drop i=ds[i]::ds.drop (i+1):=jT aY
   rw [AZ,jn] at Bz
   obtain ⟨fW,c1,c2⟩:=bind_some Bz
   obtain ⟨b,c2,c3⟩:=bind_some c2
   have ti:=T.item X' hP hW hK I0 i _ s3 jr yC (λ_ _=>False) zr (Jq Bi apart) iJ go
   rw [hA] at ti
   refine be ti λr s4 ⟨u,hr,h4⟩=>?_
   subst hr
   refine be h4 λ_ s5 ⟨x,H5,I5,r5,y5,ud,Jp⟩=>?_
   obtain ⟨Ho,Zl⟩:=yl x H5 y5
   have N0:=I5.pinned (Jq Jp apart) (T.obj _ _ ud)
   have sE:∀{az:L2.St} {H':Hp} {s':Shared},Inv X' (rR [s2.heap.objs.size] s3.heap++rR fp s5.heap) az H' s'->tn (i+1) s'.heap/\∀b∈fp,H' b=none:=λ{az H' s'} J=>by
    refine ⟨T.keep _ _ _ ud λb hb o e=>(J.pin (b,o) (ie _ (ie _ (CP hb e)))).1,λb hb=>?_⟩
    obtain ⟨o,e,_⟩:=T.obj _ _ ud b hb
    exact (J.pin (b,o) (ie _ (ie _ (CP hb e)))).2.1
   have OR:=pg _ s5 jr H5 x u _ N0 r5 (kg (OO O σ env) H2 jr H5 l6 fW x ds[i] (λlr H6=>Rel X'.K (OO O σ env) H2 lr H6 fW/\Gd jr l6 H5 lr fW H6) (R3.grow Ho) (hK▸Zl) c1 λlr H6 R6 g6=>⟨R6,g6⟩)
   rw [hP,hW,hA,hE,hx] at OR
   refine be OR λ_ s6 ⟨lr,H6,I6,R6,g6⟩=>?_
   have OT:=pc _ s6 lr H6 (λb' H'=>b'=b/\ao H6 H') I6 (kc (OO O σ env) H2 lr H6 fW b _ R6 c2 λH' s'=>⟨rfl,s'⟩)
   rw [hP,hW,hA,hE,hx] at OT
   refine be OT λok s7 ⟨H7,I7,aT,Hn⟩=>?_
   subst aT
   have R7:=R6.grow Hn
   have Pz:=PC.trans ((Gd.refl Ho).trans (g6.trans (Gd.refl Hn)))
   have O5:aN X'.K (OO (OO O σ env) lr fW) H7 xs sx:=((Gd.refl Ho).trans (g6.trans (Gd.refl Hn))).DK Am
   cases ok with
   | false =>
    rw [if_neg fY] at c3 ⊢
    obtain ⟨VO,fr7⟩:=sE I7
    obtain ⟨Xc,ZZ⟩:=pE I7 λp hp=>iR _ hp
    exact ⟨ds.length-(i+1),by ext aY,i+1,lr,H7,fW,ys,xs,sx,DE,rfl,aY,I7.fA (λ_ z=>nomatch z),VO,fr7,ZZ,Xc,vx,R7,Pz,O5,c3,wF,by ext Ip⟩
   | true =>
    rw [if_pos rfl] at c3 ⊢
    obtain ⟨r,d3,d4⟩:=bind_some c3
    obtain ⟨Wu,d5,d6⟩:=bind_some d4
    clear c3 d4 Bz
    obtain rfl:=dk d6
    have OS:=pe _ s7 lr H7 (λv H'=>ao H7 H'/\Is X'.K (OO (OO O σ env) lr fW) H' v r.d) I7 (ke (OO O σ env) H2 lr H7 fW r _ R7 d3 λv H' s' rr=>⟨s',rr.is λp=>R7.oo⟩)
    rw [hP,hW,hA,hE,hx] at OS
    refine be OS λy s8 ⟨v,H8,I8,ry,Hm,hv⟩=>?_
    obtain ⟨VN,fr8⟩:=sE I8
    obtain ⟨Xb,Pn⟩:=pE I8 λp hp=>iR _ hp
    have Zh:ys.length=sx.length:=by rw [<-b2G vx,Am.length]
    refine wpAny_list_append_plain (hsz:=by rw [dZ,Zh,h8];ext hlen Ip aY) Xb λh' Xa OL=>?_
    have J8:Inv X' [] lr H8 s8:=I8.fA λ_ z=>nomatch z
    have J9:Inv X' [] lr H8 { s8 with heap:=h' }:=J8.turned (t':=s8.toks) (it:=s2.heap.objs.size) (λb o hb e=>(OL.2 b hb).trans e) Pn
     (by rw [hE];show s2.heap.objs.size≠H3.objs.size;rw [hsz];exact dF (vD _)) (.inl (by rw [<-ly];exact cM))
     (λx c e=>by
      rw [hE] at e
      obtain ⟨_,z⟩:=I2.cell x c (tH C h.sc I2 e)
      exact dF z.lt) (λp hp=>by rw [<-ly] at hp;exact absurd hp (by simp [sT]))
    refine ⟨ds.length-(i+1),by ext aY,i+1,lr,H8,fW,ys++[y],xs++[v],sx++[r.d],Wu,rfl,aY,J9,T.keep _ _ _ VN λb hb o e=>(OL.2 b (sC b hb)).trans e,fr8,Pn,by simpa using Xa,vx.append (.cons ry .nil),R7.grow Hm,Pz.trans (Gd.refl Hm),(O5.grow Hm).append (.cons hv .nil),d5,by rw [<-wF];simp,by simp;assumption⟩
  .have AQ:i=ds.length:=by ext hi aY
   have td:=T.done X' hP hW hK I0 i _ s3 jr yC (λ_ _=>False) zr (Jq Bi apart) iJ (w.2 (by ext aY))
   rw [hA] at td
   refine be td λr s4 ⟨hr,Dm⟩=>?_
   subst hr
   obtain ⟨Xd,rm⟩:=pE Dm λp hp=>hp
   rw [oi (by ext aY),jn] at Bz
   obtain rfl:=dk Bz
   rw [mU] at wF
   subst wF
   obtain ⟨m4,Pf,_⟩:=Dm.loc
   rw [hE] at Pf
   obtain ⟨n4,en4⟩:=Xd
   rw [<-ly] at Dm
   have Pl:H2 s2.heap.objs.size=none:=I2.aT.fresh (bA _)
   have mK:s2.heap.objs.size<=H3.objs.size:=by rw [hsz];exact BK _
   have Z8:yC H3.objs.size=none:=Dm.free
   have cC:H3.objs.size≠s2.heap.objs.size:=by rw [hsz];exact Nat.succ_ne_self _
   refine fin H3.objs.size s2.heap.objs.size (upd yC s2.heap.objs.size (.lst xs)) s4 ⟨m4,Pf⟩ (I2.kq mK (by rw [bM cC];exact Z8)) (λh' sb=>b2h (s3:={ s2 with heap:=H3 }) (ys:=ys) I2 rfl Ag hsz f2 Dm sb rm ⟨n4,en4⟩ vx (by rw [Am.length,h8];ext hlen hi Ip)) ?_ ⟨_,xs,rfl,ju.free Pl,kQ,?_⟩
   .intro b o e
    have e2:=ju b o e
    rw [bM (jK e2 Pl)]
    exact R3.same b o e2
   .rw [hK] at Am
    refine Am.map (λp hp hn z=>hn (.inl (z.elim id λz=>?_))) λp u e _=>by rw [bM (jK e rm)];exact e
    rw [z,rm] at hp
    exact (hp rfl).elim
 exact codeAny_compStart_list (loop _) (T.self _ 0 _ _ _ (T.keep _ _ _ gu (λb _ o e=>DJ b o (Ag b o e))) (loop _))
theorem qw(h:Fx X N sc k full)(C:bZ N sc N' caps nt bL)(hi:IV X tg iter fi)
  (hb:∀X':Cx,X'.prog=X.prog->X'.w=X.w->X'.K=X.K->X'.mg=X.mg->X'.base=X.base->Fx X' N' (rl bL sc) k false->GV X' tg g/\Dl X' ifs fc/\EV X' elt fe)
  (p9:∀x,foldedSetIterable iter X.env x=pure x:=by intro _;rfl):EV X (.ListComp elt [⟨tg,iter,ifs,0⟩] bL pos) (gG fi caps nt g fc fe):=by
 obtain ⟨wi,pi,ki⟩:=hi
 refine ⟨λσ H Q=>∃O B env r,Rel X.K O B σ H env/\gG fi caps nt g fc fe env=some r/\∀v H',ao H H'->Res X.K (OO O σ env) H H' v r->Q v H',?_,λO B σ H env r Q R e q=>⟨O,B,env,r,R,e,q⟩⟩
 rintro pins s σ H Q I ⟨O,B,env,r,R,e,q⟩
 rw [eval_ListComp]
 exact TJ h C pi ki hb p9 I R e (use:=none) λC0 p H' s' ⟨m,hn⟩ _ hI sm rr=>⟨m,hn,λh' sb=>⟨.ref p,H',hI h' sb,rfl,q _ H' sm rr⟩⟩
theorem LU{i:Nat}{x:Str}{pos' oI:Pos}(b:Bool)(h:Fx X N sc k full)(C:bZ N sc N' caps nt bL)(hi:IV X tg iter fi)
  (hb:∀X':Cx,X'.prog=X.prog->X'.w=X.w->X'.K=X.K->X'.mg=X.mg->X'.base=X.base->Fx X' N' (rl bL sc) k false->GV X' tg g/\Dl X' ifs fc/\EV X' elt fe)
  (hN:N[i]?=some x:=by rfl)(hv:Loc sc x:=by first | exact bJ rfl | exact bg rfl)(hf:full=true\/sc.names.lookup x=some .local:=by first | exact bJ rfl | exact bg rfl)(h1:(sc.names.lookup x==some .local)=true:=by rfl)(h2:(pos'.line==pos.line)=true:=by rfl)(h3:(bL.names.any λ(n,k)=>n==x&&(k==.local||k==.cell))=false:=by rfl)
  (p9:∀x,foldedSetIterable iter X.env x=pure x:=by intro _;rfl):SV X (.Assign [.Name x pos'] (.ListComp elt [⟨tg,iter,ifs,0⟩] bL pos) oI) (bif b then dA i (gG fi caps nt g fc fe) else aX i (gG fi caps nt g fc fe)):=by
 obtain ⟨wi,pi,ki⟩:=hi
 refine ⟨λD σ H=>∃O B env fl ah,Rel X.K O B σ H env/\(bif b then dA i (gG fi caps nt g fc fe) else aX i (gG fi caps nt g fc fe)) env=some (fl,ah)/\dM X.K O B σ H env D fl ah,?_,λO B σ H env fl ah D R e q=>⟨O,B,env,fl,ah,R,e,q⟩⟩
 rintro pins s σ H D I ⟨O,B,env,fl,ah,R,e,q⟩
 obtain ⟨r,e1,hl,wJ,t,rfl,ht⟩:∃r,gG fi caps nt g fc fe env=some r/\i<env.length/\fl=.nx/\∃t,ah=env.set i t/\(t=r\/t=.sh r.d):=by
  cases b with
  | true =>
   dsimp only [cond] at e
   obtain ⟨r,e1,e2⟩:=bind_some e
   obtain ⟨hl,e3⟩:=gx e2
   cases e3
   exact ⟨r,e1,hl,rfl,_,rfl,.inl rfl⟩
  | false =>
   dsimp only [cond] at e
   obtain ⟨r,e1,e2⟩:=bind_some e
   obtain ⟨hl,e3⟩:=gx e2
   cases e3
   exact ⟨r,e1,hl,rfl,_,rfl,.inr rfl⟩
 subst wJ
 have hs:swapsWith (.ListComp elt [⟨tg,iter,ifs,0⟩] bL pos) (some (.Name x pos')) oI.line X.env=pure true:=by
  have hk:X.env.blockKind=.function:=by unfold Env.blockKind;rw [I.ok.kind];rfl
  have sM:X.env.kindOf x=sc.names.lookup x:=by unfold BC;rw [h.sc]
  unfold swapsWith
  dsimp only
  rw [hk,sM,h1,show (pos'.line==(Expr.ListComp elt [⟨tg,iter,ifs,0⟩] bL pos).pos.line)=true from h2,h3]
  rfl
 rw [exec_Assign_Name_used _ _ _ _ hs]
 refine aq (Ey (aq ?_))
 show wpAny _ _ (comprehension _ bL X.env _ (newList []) _ _ (some (assign (.Name x pos') X.env)) >>= λ_=>pure ()) _ _ _
 refine aq (TJ h C pi ki hb p9 I R e1 (use:=some (assign (.Name x pos') X.env)) λC0 p H' s' ⟨m,hn⟩ mL hI sm rr=>?_)
 have I':Inv X pins σ H' s':=hI s'.heap (Heap.SameBut.refl _ _)
 refine wpAny_assign_Name (TU (v:=.ref p) I' h.lU (h.ix hN) (h.loc hv) rfl (λs2 I2 ⟨a,sb,ha⟩=>?_) (h.pS hf))
 have qd:C0≠a:=λz=>by
  rcases ha with ha | ha
  .exact mL.2.1 (z.trans ha)
  .exact mL.2.2.2.2.1 x a ha z.symm
 obtain ⟨o,es,ep,ho,rest⟩:=hn
 refine ⟨m,⟨o,es,ep,(sb.2 C0 qd).trans ho,rest⟩,λh' Wp=>?_⟩
 refine bp (bp ?_)
 have I3:Inv X pins (σ.set i (some (.ref p))) H' { s2 with heap:=h' }:=I2.turned (t':=s2.toks) (it:=C0) (λb o hb e=>(Wp.2 b hb).trans e) mL.1 mL.2.1 mL.2.2.2.1 mL.2.2.2.2.1 mL.2.2.2.2.2
 have hr:Res X.K (OO O σ env) H H' (.ref p) t:=by
  rcases ht with rfl | rfl
  .exact rr
  .exact rr.is λq=>R.oo
 obtain ⟨R',g'⟩:=R.set sm hr hl
 exact ⟨_,H',I3,q _ H' R' g'⟩
end
end DL
namespace DL
open PySem PySem.Spec PyProof.Rows L2
section
variable {X:Cx}{pins:List (Addr×Obj)}{σ:L2.St}{H:Hp}{s:Shared}
theorem SM(I:Inv X pins σ H s)(hA:A'.handled=none)(hq:Sq X.K H k p xs)
  (h:∀(av:List Value) (h2:Heap) (St:Nat->Heap->Prop),au xs av->Walks X.prog X.w A' s.heap.objs.size [s.heap.objs.size,p] [s.heap.objs.size] av.length (λi v=>av[i]?=some v) St->St 0 h2 ->
   (∀b o,s.heap.get? b=some o->h2.get? b=some o)->(∀b∈[s.heap.objs.size,p],b<h2.objs.size)->Q (.ref s.heap.objs.size) { s with heap:=h2 }):wpAny (model X.prog X.w) A' (pyIter (.ref p)) Q E s:=by
 cases k with
 | true =>
  obtain ⟨av,rv,pl,hz⟩:=I.list (show dR X.K H p xs from hq)
  have aY:p<s.heap.objs.size:=by obtain ⟨o,n,e,_⟩:=pl;exact bO e
  refine xl pl.isList ?_
  have W:=Walks.list (prog:=X.prog) (w:=X.w) hA s.heap.objs.size p (dF aY) av.toArray
  refine h av _ (λi h=>h.IsListIter s.heap.objs.size p i/\h.IsList p av.toArray) rv (by simpa using W) ⟨⟨_,ft _ rfl,rfl,rfl⟩,pl.isList.push _⟩ (λb o e=>bP _ e) λb hb=>?_
  rw [qh]
  rcases bI.mp hb with rfl | hb
  .exact vD _
  .rw [bT.mp hb];exact Nat.lt_succ_of_lt aY
 | false =>
  obtain ⟨av,rv,pl,hz⟩:=I.tuple (show fj X.K H p xs from hq)
  have OP:s.heap.IsTuple p av.toArray:=pl
  have aY:p<s.heap.objs.size:=by obtain ⟨o,e,_⟩:=pl;exact bO e
  refine xq OP ?_
  have W:=Walks.tuple (prog:=X.prog) (w:=X.w) hA s.heap.objs.size p (dF aY) av.toArray
  refine h av _ (λi h=>h.IsTupleIter s.heap.objs.size p i/\h.IsTuple p av.toArray) rv (by simpa using W) ⟨⟨_,ft _ rfl,rfl,rfl⟩,?_⟩ (λb o e=>bP _ e) λb hb=>?_
  .obtain ⟨o,e,r⟩:=OP
   exact ⟨o,bP _ e,r⟩
  .rw [qh]
   rcases bI.mp hb with rfl | hb
   .exact vD _
   .rw [bT.mp hb];exact Nat.lt_succ_of_lt aY
theorem Ui(I:Inv X pins σ H s){h2 h':Heap}{tk:Nat}(k1:∀b o,s.heap.get? b=some o->h2.get? b=some o)(k2:∀b o,b∉[s.heap.objs.size]->h2.get? b=some o->h'.get? b=some o):Inv X pins σ H { s with heap:=h',toks:=tk }:=
 I.kept λb o e=>k2 b o (λz=>absurd (bO e) (by rw [bT.mp z];exact oz _)) (k1 b o e)
end
noncomputable def jU:List D->Option (List Int)
 | []=>some []
 | .int i::ds=>(jU ds).map (i::·)
 | _::_=>none
noncomputable def gw:List D->Option (List Bool)
 | []=>some []
 | .bl i::ds=>(gw ds).map (i::·)
 | _::_=>none
theorem CF:∀(ns:List Int),jU (ns.map D.int)=some ns
 | []=>rfl
 | n::r=>by rw [kM,jU,CF r];rfl
theorem S4:∀(ns:List Bool),gw (ns.map D.bl)=some ns
 | []=>rfl
 | n::r=>by rw [kM,gw,S4 r];rfl
theorem M':∀{ds:List D} {ns:List Int},jU ds=some ns->ds=ns.map D.int
 | [],ns,e=>by cases e;rfl
 | .int i::ds,ns,e=>by
  obtain ⟨r,e1,rfl⟩:=map_some (show (jU ds).map (i::·)=some ns from e)
  rw [M' e1];rfl
 | .aG::_,_,e=>by cases e
 | .bl _::_,_,e=>by cases e
 | .str _::_,_,e=>by cases e
 | .tup _::_,_,e=>by cases e
 | .lst _ _::_,_,e=>by cases e
theorem MJ{K:aC}{O:Addr->Prop}{H:Hp}:∀{xs:List V} {ns:List Int},aN K O H xs (ns.map D.int)->xs=ns.map V.int
 | _,[],.nil=>rfl
 | _,n::r,.cons h t=>by rw [fG h,MJ t];rfl
theorem b2H{ns:List Int}(r:au (ns.map V.int) av){i:Nat}(h:av[i]?=some v):∃t,v=.int (ns.getD i 0) t:=by
 have hl:=r.length
 have hi:=(iB.mp h).1
 have AU:i<ns.length:=by rw [cj] at hl;ext hl hi
 obtain ⟨u,hu,ru⟩:=r.get (show (ns.map V.int)[i]?=some (.int ns[i]) by simp [AU])
 rw [h] at hu
 cases hu
 obtain ⟨t,e⟩:=ru
 exact ⟨t,by rw [e];simp [AU]⟩
section
variable {X:Cx}{a:Expr}{p pos:Pos}{ba:En->Option (Bool×List D)}
theorem preSum_eq(ns:List Int):∀j,j<=ns.length->preSum (λi=>ns.getD i 0) j=(ns.take j).sum
 | 0,_=>rfl
 | j+1,h=>by
  have hj:j<ns.length:=h
  rw [preSum,preSum_eq ns j (w9 hj),<-List.take_append_getElem hj,Er]
  simp [hj]
theorem b2b(hc:X.calm=true):cF X (.builtin "sum") (λxs H Q=>∃p k ns,xs=[.ref p]/\Sq X.K H k p (qg V.int ns)/\Q (.int ns.sum) H):=by
 intro pins s σ H xs us Q I r h
 obtain ⟨p,k,ns,rfl,hq,q⟩:=h
 obtain ⟨u,rfl,ru⟩:=r.one
 cases ru
 refine call_sum_walkAnyS (SM (A':=X.A.in1) I (I.ok.hd hc) hq λav h2 St rv W Hd k1 mL=>?_)
 refine ⟨_,_,_,_,_,_,_,λi=>ns.getD i 0,rfl,W.toS,Hd,mL,λi v hv=>b2H rv hv,λs' t' M=>?_⟩
 have hl:av.length=ns.length:=by rw [<-rv.length];simp
 have e:preSum (λi=>ns.getD i 0) av.length=ns.sum:=by rw [hl,preSum_eq ns _ (bA _)];simp
 rw [e]
 obtain ⟨h',g',d',t2,o'⟩:=s'
 obtain ⟨m1,m2,m3,m4,m5⟩:=M
 have m2:g'=s.gens:=m2
 have m3:d'=s.drawn:=m3
 have m4:o'=s.os:=m4
 subst m2 m3 m4
 exact ⟨.int ns.sum,H,Ui I k1 m1,⟨t',rfl⟩,q⟩
noncomputable def zP:List Int->Int
 | []=>0
 | n::r=>r.foldl (λa b=>if b<a then b else a) n
noncomputable def zS:List Int->Int
 | []=>0
 | n::r=>r.foldl (λa b=>if b>a then b else a) n
noncomputable def jF(f:En->Option (Bool×List D)):En->Option Sl:=λenv=>(f env).bind λx=>(jU x.2).map λns=>.sh (.int ns.sum)
noncomputable def Bx(f:En->Option (Bool×List D)):En->Option Sl:=λenv=>(f env).bind λx=>(gw x.2).map λns=>.sh (.bl (ns.all id))
noncomputable def Bw(f:En->Option (Bool×List D)):En->Option Sl:=λenv=>(f env).bind λx=>(gw x.2).map λns=>.sh (.bl (ns.any id))
noncomputable def Bu(f:En->Option (Bool×List D)):En->Option Sl:=λenv=>(f env).bind λx=>(jU x.2).bind λns=>if ns≠[] then some (.sh (.int (zP ns))) else none
noncomputable def Bv(f:En->Option (Bool×List D)):En->Option Sl:=λenv=>(f env).bind λx=>(jU x.2).bind λns=>if ns≠[] then some (.sh (.int (zS ns))) else none
theorem xM(hg:Gl X "sum")(hm:X.mg "sum" = none)(hc:X.calm=true)(ha:BV X a ba)(hs:starEach [a] X.env=[(false,eval a X.env)]:=by rfl):EV X (.Call (.Name "sum" p) [a] [] pos) (jF ba):=by
 obtain ⟨t,pt,k⟩:=ha
 refine ⟨_,tP (b2b hc) hg hm (by decide +kernel) (mZ pt pI hs) (by decide) (by decide) hs rfl,λO B σ H env s Q R e q=>?_⟩
 obtain ⟨⟨kk,ds⟩,e1,e2⟩:=bind_some e
 obtain ⟨ns,e3,rfl⟩:=map_some e2
 have By:=M' e3
 dsimp only at By
 subst By
 refine k O B σ H env kk _ _ R e1 λl xs H1 s1 hq hx=>⟨l,kk,ns,rfl,?_,q _ H1 s1 (Is.int _)⟩
 rw [<-MJ hx];exact hq
end
end DL
namespace DL
open PySem PySem.Spec PyProof.Rows L2
section
variable {X:Cx}{pins:List (Addr×Obj)}{s:Shared}{σ:L2.St}{H:Hp}{O O':Addr->Prop}
noncomputable def dg:D->D->Option Sl:=Be
noncomputable def jE:D->D->Option Sl:=Bd
theorem mX(_:X.A.units+8<cLine):gJ X (compareOp .Eq) dg:=b8n
theorem Ri(_:X.A.units+8<cLine):gJ X (compareOp .NotEq) jE:=b8m
end
theorem Fx.u8{X:Cx}{N:List Str}{sc:Scope}{k:Nat}{full:Bool}(h:Fx X N sc k full):X.A.units+8<cLine:=by have:=h.room.un;ext this
theorem qJ{X X':Cx}{x:Str}(e4:X'.mg=X.mg)(h:X.mg x=none):X'.mg x=none:=by rw [e4];exact h
end DL
namespace DL
open PySem PySem.Spec PyProof.Rows L2
theorem b0J{P:Program}{w:World}{K:aC}{tg:Expr}(it:Addr)(lo:Int)(n:Nat):Turn P w K tg (Dk lo n) [it] it (λi h=>IsLongIter h it (lo+(i:Nat)*1) ((n:Int)-(i:Nat)) 1) where
 mem:=by simp
 obj:=λi h st b hb=>by
  have e:b=it:=by simpa using hb
  subst e
  exact ⟨_,st,λv z=>by
   have z':Eg _=wX v:=z
   cases z'⟩
 keep:=λi h h' st k=>k it (by simp) _ st
 item:=by
  intro X hP hw hK hc i pins s σ H E I hf st hg
  subst hP hw hK
  obtain ⟨f0,f1,f2,f3,f4,f5⟩:=hf it (by simp)
  have W:=Walks.longrange (prog:=X.prog) (w:=X.w) (I.ok.hd hc) it lo 1 n
  refine W.item i s _ _ hg st λv h' tk hv ak kk=>?_
  obtain ⟨t,rfl⟩:=hv
  have I1:Inv X pins σ H { s with heap:=h',toks:=tk }:=I.turned (λb o hb e=>kk b o (by simpa using hb) e) f0 f1 f3 f4 f5
  refine ⟨_,rfl,Cb (s:={ s with heap:=h',toks:=tk }) (n:="longrange_iterator") ak rfl rfl (by decide) ⟨.int (lo+i),H,I1,⟨t,?_⟩,⟨rfl,rfl⟩,ak,λb hb=>(hf b hb).1⟩⟩
  rw [Ef]
 done:=by
  intro X hP hw hK hc i pins s σ H E I hf st hg
  subst hP hw hK
  obtain ⟨f0,f1,f2,f3,f4,f5⟩:=hf it (by simp)
  exact wpAny_pyNext_long_end (I.ok.hd hc) st (by have:n<=i:=hg;ext this) λh' eb=>⟨rfl,I.turned (t':=s.toks) (λb o hb e=>eb b o hb e) f0 f1 f3 f4 f5⟩
 self:=λ_ _ _ _ _ st h=>wpAny_pyIter_longiter st h
section
variable {X:Cx}{tg:Expr}
theorem b08{pins:List (Addr×Obj)}{σ:L2.St}{H:Hp}{s:Shared}{R:It->Hp->Prop}{E:Value->Shared->Prop}{lo hi:Int}{t u v:Tok}{tk:Nat}(I:Inv X pins σ H s)
  (q:R (Dk lo (hi-lo).toNat) H):wpAny (model X.prog X.w) X.A (pyIter (.ref s.heap.objs.size)) (NW X pins σ tg R) E { s with heap:=s.heap.push { cls:=.type "range",data:=.fields #[.int lo t,.int hi u,.int 1 v] },toks:=tk }:=by
 have I1:Inv X pins σ H { s with heap:=s.heap.push { cls:=.type "range",data:=.fields #[.int lo t,.int hi u,.int 1 v] },toks:=tk }:=I.kept λb o e=>bP _ e
 have e1:lo+((0:Nat):Int)*1=lo:=by simp
 have e2:(((hi-lo).toNat:Nat):Int)-((0:Nat):Int)=xg lo hi 1:=by rw [JX];split<;>lia
 have fin:∀b∈[(s.heap.push { cls:=.type "range",data:=.fields #[.int lo t,.int hi u,.int 1 v] }).objs.size],cK X pins H b:=λb hb=>by
  have e:b=(s.heap.push { cls:=.type "range",data:=.fields #[.int lo t,.int hi u,.int 1 v] }).objs.size:=by simpa using hb
  subst e
  exact I1.kq (bA _) (I1.aT.fresh (bA _))
 by_cases DR:BY lo hi 1=true
 .refine wpAny_pyIter_range (JK ..) DR ?_
  refine ⟨_,[(s.heap.push { cls:=.type "range",data:=.fields #[.int lo t,.int hi u,.int 1 v] }).objs.size],_,_,H,rfl,I1.kept (t':=tk) λb o e=>bP _ e,a94 _ lo (hi-lo).toNat,?_,fin,q⟩
  show IsRangeIter _ _ (lo+((0:Nat):Int)*1) ((((hi-lo).toNat:Nat):Int)-((0:Nat):Int)) 1
  rw [e1,e2]
  exact ft _ rfl
 .refine wpAny_pyIter_longrange (JK ..) (by simpa using DR) ?_
  refine ⟨_,[(s.heap.push { cls:=.type "range",data:=.fields #[.int lo t,.int hi u,.int 1 v] }).objs.size],_,_,H,rfl,I1.kept (t':=tk) λb o e=>bP _ e,b0J _ lo (hi-lo).toNat,?_,fin,q⟩
  show IsLongIter _ _ (lo+((0:Nat):Int)*1) ((((hi-lo).toNat:Nat):Int)-((0:Nat):Int)) 1
  rw [e1,e2]
  exact ft _ rfl
noncomputable def b8G(ta:TA):TI:=λσ H R=>ta σ H λvs H1=>∃i j:Int,vs=[.int i,.int j]/\R (Dk i (j-i).toNat) H1
theorem b0h{a b:Expr}{ta:TA}{p pos:Pos}(hg:Gl X "range")(hm:X.mg "range" = none)(ha:PA X [a,b] ta)(hs:starEach [a,b] X.env=[(false,eval a X.env),(false,eval b X.env)]:=by rfl)(dD:starEach [b] X.env=[(false,eval b X.env)]:=by rfl):
  PI X tg (.Call (.Name "range" p) [a,b] [] pos) (b8G ta):=by
 intro pins s σ H R I h
 refine Call_ (tJ I hg hm boot_range (EU (be (ha pos pins s σ H _ I h) λus s1 ⟨vs,H1,I1,r1,q1⟩=>?_) (by rw [hs,dD]) (by rw [dD];rfl)))
 obtain ⟨i,j,e,q⟩:=q1
 subst e
 cases r1 with
 | cons r rr =>
  cases rr with
  | cons r' rr =>
   cases rr
   obtain ⟨t,rfl⟩:=r
   obtain ⟨t',rfl⟩:=r'
   exact call_range_2 (b08 I1 q)
noncomputable def zc:List D->Option (List D)
 | [.int j]=>some (bR 0 j.toNat)
 | _=>none
noncomputable def Fk:List D->Option (List D)
 | [.int i,.int j]=>some (bR i (j-i).toNat)
 | _=>none
theorem b3v{a b:Expr}{fs:En->Option (List D)}{p pos:Pos}(AW:Gl X "range")(hm:X.mg "range" = none)(ha:AV X [a,b] fs)(h1:starEach [a,b] X.env=[(false,eval a X.env),(false,eval b X.env)]:=by rfl)
  (h2:starEach [b] X.env=[(false,eval b X.env)]:=by rfl):IV X tg (.Call (.Name "range" p) [a,b] [] pos) (kr Fk fs):=by
 obtain ⟨ti,pi,ki⟩:=ha
 refine ⟨_,b0h AW hm pi h1 h2,λO B σ H env ds R Rl e q=>?_⟩
 obtain ⟨as,e1,e2⟩:=bind_some e
 refine ki O B σ H env as _ Rl e1 λvs H1 s1 r1=>?_
 unfold Fk at e2
 split at e2
 .cases e2
  exact ⟨_,_,MI r1,q _ H1 s1 (b2W _ _)⟩
 .cases e2
end
end DL
namespace DL
open PySem PySem.Spec PyProof.Rows L2
noncomputable def ug(b:Bool):String:=if b then "list_iterator" else "tuple_iterator"
def gP(b:Bool)(h:Heap)(it l:Addr)(k:Nat):Prop:=match b with
 | true=>h.IsListIter it l k
 | false=>h.IsTupleIter it l k
def jQ(b:Bool)(h:Heap)(l:Addr)(items:Array Value):Prop:=match b with
 | true=>h.IsList l items
 | false=>h.IsTuple l items
theorem gP.keep(x:gP b h it l k)(e:∀o,h.get? it=some o->h'.get? it=some o):gP b h' it l k:=by
 cases b with
 | true=>obtain ⟨o,ho,r⟩:=x;exact ⟨o,e _ ho,r⟩
 | false=>obtain ⟨o,ho,r⟩:=x;exact ⟨o,e _ ho,r⟩
theorem jQ.keep(x:jQ b h l items)(e:∀o,h.get? l=some o->h'.get? l=some o):jQ b h' l items:=by
 cases b with
 | true=>obtain ⟨o,ho,r⟩:=x;exact ⟨o,e _ ho,r⟩
 | false=>obtain ⟨o,ho,r⟩:=x;exact ⟨o,e _ ho,r⟩
theorem gP.lt(x:gP b h it l k):it<h.objs.size:=by
 cases b with
 | true=>obtain ⟨o,ho,r⟩:=x;exact bO ho
 | false=>obtain ⟨o,ho,r⟩:=x;exact bO ho
theorem jQ.lt(x:jQ b h l items):l<h.objs.size:=by
 cases b with
 | true=>obtain ⟨o,ho,r⟩:=x;exact bO ho
 | false=>obtain ⟨o,ho,r⟩:=x;exact bO ho
theorem gP.oR(x:gP b h it l k):∃o,h.get? it=some o/\∀v,o.data≠.cell v:=by
 cases b with
 | true=>obtain ⟨o,ho,_,d⟩:=x;exact ⟨o,ho,λv z=>by rw [d] at z;cases z⟩
 | false=>obtain ⟨o,ho,_,d⟩:=x;exact ⟨o,ho,λv z=>by rw [d] at z;cases z⟩
section
variable {prog:Program}{w:World}{A:Around}{E:Value->Shared->Prop}{s:Shared}
theorem MD(hit:gP b s.heap it l i)(hl:jQ b s.heap l items)(hx:items[i]?=some x)
  (hQ:∀h',gP b h' it l (i+1)->BI it s.heap h'->Q x { s with heap:=h' }):wpAny (model prog w) A (tz (.ref it)) Q E s:=by
 cases b with
 | true=>exact wpAny_nextOf_list_item hit hl hx hQ
 | false =>
  have lZ:s.heap.IsTupleIter it l i:=hit
  obtain ⟨o,ho,hc,hd⟩:=id lZ
  obtain ⟨ol,Iw,_,nl,wL⟩:=(show s.heap.IsTuple l items from hl)
  unfold tz
  refine aq (BX (name:=tu "__next__") lZ.typeIs ET (xh ET lZ.typeIs Qo ?_ (QC _)))
  show wpAny _ _ (field (.ref it) 0 >>= _) _ _ s
  refine aq (ma ho hd (x:=.ref l) rfl ?_)
  show wpAny _ _ (if (jS l==l9)=true then _ else _) _ _ s
  rw [if_neg (show ¬((jS l==l9)=true) from fY)]
  show wpAny _ _ (field (.ref it) 1 >>= _) _ _ s
  refine aq (ma ho hd (x:=.int i 0) rfl ?_)
  show wpAny _ _ (seqItems? (.ref l) >>= _) _ _ s
  refine aq (pD Iw wL ?_)
  simp only [xn,hx]
  refine aq (wpAny_setField ho hd (by simp) (bp ⟨x,rfl,bp (hQ _ ?_ (Qh ..))⟩))
  exact ⟨_,E5 _ ho (Obj.isFreed_of_fields (Obj.data_mapFields hd _)),(Obj.cls_mapFields ..).trans hc,by rw [Obj.data_mapFields hd];simp [rawInt]⟩
theorem RS(hh:A.handled=none)(hit:gP b s.heap it l i)(hl:jQ b s.heap l items)(hx:items[i]?=none)
  (hE:∀h' e,Heap.ExtBut it s.heap h'->(∃o,h'.get? e=some o/\o.cls=.type "StopIteration")->E (.ref e) { s with heap:=h' }):wpAny (model prog w) A (tz (.ref it)) Q E s:=by
 cases b with
 | true=>exact wpAny_nextOf_list_end hh hit hl hx hE
 | false =>
  have lZ:s.heap.IsTupleIter it l i:=hit
  obtain ⟨o,ho,hc,hd⟩:=id lZ
  obtain ⟨ol,Iw,_,nl,wL⟩:=(show s.heap.IsTuple l items from hl)
  unfold tz
  refine aq (BX (name:=tu "__next__") lZ.typeIs ET (xh ET lZ.typeIs Qo ?_ (QC _)))
  show wpAny _ _ (field (.ref it) 0 >>= _) _ _ s
  refine aq (ma ho hd (x:=.ref l) rfl ?_)
  show wpAny _ _ (if (jS l==l9)=true then _ else _) _ _ s
  rw [if_neg (show ¬((jS l==l9)=true) from fY)]
  show wpAny _ _ (field (.ref it) 1 >>= _) _ _ s
  refine aq (ma ho hd (x:=.int i 0) rfl ?_)
  show wpAny _ _ (seqItems? (.ref l) >>= _) _ _ s
  refine aq (pD Iw wL ?_)
  simp only [xn,hx]
  refine aq (wU (aq (wpAny_setField ho hd (by simp) ?_)))
  show wpAny _ _ (newExc (.type "StopIteration") [] >>= _) _ _ _
  refine aq ?_
  simp only [newExc,newTuple]
  refine aq (rK ?_ (by size_fits))
  refine aq (m:=firstArgMember _ _) (BJ (a:=l9) (by first | rfl | (simp only [firstArgMember];rfl)) ?_)
  refine rK ?_ (by size_fits)
  simp only [raiseNew]
  refine aq (wpAny_handled ?_)
  first | rw [show A.in1.handled=none from hh] | rw [hh]
  refine aq (bp (wpAny_throw ?_))
  exact hE _ _ (((Qh ..).extBut.push _).push _) ⟨_,ft _ rfl,rfl⟩
structure GC(z TI TO i1 i2 l1 l2:Addr):Prop where
 a1:TI≠z
 a2:TO≠z
 a3:i1≠z
 a4:i2≠z
 a6:TO≠i1
 a7:TO≠i2
 a8:i1≠i2
 b1:l1≠z
 b2:l1≠TO
 b3:l1≠i1
 b4:l1≠i2
 c1:l2≠z
 c2:l2≠TO
 c3:l2≠i1
 c4:l2≠i2
theorem b2E{b1 b2:Bool}{z TI TO i1 i2 l1 l2:Addr}{k1 k2:Nat}{xs ys:Array Value}{x y a b:Value}{Q:Option Value->Shared->Prop}(D:GC z TI TO i1 i2 l1 l2)
  (hz:IsZip s.heap z TI TO .none)(nj:IsPair s.heap TI (.ref i1) (.ref i2))(n5:IsPair s.heap TO a b)(h1:gP b1 s.heap i1 l1 k1)(h2:gP b2 s.heap i2 l2 k2)(lu:jQ b1 s.heap l1 xs)(iM:jQ b2 s.heap l2 ys)(hx:xs[k1]?=some x)(hy:ys[k2]?=some y)
  (hQ:∀h',IsZip h' z TI TO (rawInt s.heap.objs.size)->IsPair h' TO x y->gP b1 h' i1 l1 (k1+1)->gP b2 h' i2 l2 (k2+1)->IsPair h' s.heap.objs.size x y->h'.objs.size=s.heap.objs.size+1 ->
   (∀c o,c≠z->c≠TO->c≠i1->c≠i2->s.heap.get? c=some o->h'.get? c=some o)->Q (some (.ref s.heap.objs.size)) { s with heap:=h' }):wpAny (model prog w) A (pyNext (.ref z)) Q E s:=by
 have hT:s.TypeIs (.ref z) "zip":=⟨_,hz,rfl⟩
 unfold pyNext
 refine aq (wY (BX (name:=tu "__next__") hT Ep (xh Ep hT F.entry_zip_next ?_ (F.args_zip_next_1 _))))
 show wpAny _ _ (field (.ref z) 2 >>= _) _ _ _
 refine aq (ma hz rfl (x:=.bool false) rfl ?_)
 show wpAny _ _ (field (.ref z) 3 >>= _) _ _ _
 refine aq (ma hz rfl (x:=.ref TI) rfl (aq (pD nj rfl ?_)))
 show wpAny _ _ (E8 (.ref z) >>= _) _ _ _
 refine aq ?_
 unfold E8
 refine aq (ma hz rfl (x:=.none) rfl (bp ?_))
 simp only [if_true]
 refine aq (wU (aq (ma hz rfl (x:=.ref TO) rfl (aq (xp hz (by simp) λg1 sF s1=>?_)))))
 replace sF:IsZip g1 z TI TO .ellipsis:=sF
 refine aq ?_
 simp only [EH,JR,BL,List.forIn_nil]
 refine aq (aq (Eu ?_))
 show wpAny _ _ (tz (.ref i1) >>= _) _ _ _
 refine aq (MD (h1.keep λo e=>s1.extBut _ _ D.a3 e) (lu.keep λo e=>s1.extBut _ _ D.b1 e) hx λg2 Px s2=>bp ?_)
 have t2:IsPair g2 TO a b:=s2.extBut _ _ D.a6 (s1.extBut _ _ D.a2 n5)
 refine aq (pD t2 rfl (aq (KQ t2 λg3 t3 s3=>?_)))
 replace t3:IsPair g3 TO x b:=t3
 refine aq (sW (bp (aq (aq (Eu ?_)))))
 show wpAny _ _ (tz (.ref i2) >>= _) _ _ _
 refine aq (MD (h2.keep λo e=>s3.extBut _ _ D.a7.symm (s2.extBut _ _ D.a8.symm (s1.extBut _ _ D.a4 e))) (iM.keep λo e=>s3.extBut _ _ D.c2 (s2.extBut _ _ D.c3 (s1.extBut _ _ D.c1 e))) hy λg4 Z9 s4=>bp ?_)
 have t4:IsPair g4 TO x b:=s4.extBut _ _ D.a7 t3
 refine aq (pD t4 rfl (aq (KQ t4 λg5 t5 s5=>?_)))
 replace t5:IsPair g5 TO x y:=t5
 refine aq (sW (bp (bp (aq (pD t5 rfl (aq (J2 ?_)))))))
 have hsz:g5.objs.size=s.heap.objs.size:=by rw [s5.1,s4.1,s3.1,s2.1,s1.1]
 have O9:IsZip g5 z TI TO .ellipsis:=s5.extBut _ _ D.a2.symm (s4.extBut _ _ D.a4.symm (s3.extBut _ _ D.a2.symm (s2.extBut _ _ D.a3.symm sF)))
 have k5:∀c o,c≠z->c≠TO->c≠i1->c≠i2->s.heap.get? c=some o->g5.get? c=some o:=λc o c1 c2 c3 c4 e=>s5.extBut _ _ c2 (s4.extBut _ _ c4 (s3.extBut _ _ c2 (s2.extBut _ _ c3 (s1.extBut _ _ c1 e))))
 have j1:gP b1 g5 i1 l1 (k1+1):=Px.keep λo e=>s5.extBut _ _ D.a6.symm (s4.extBut _ _ D.a8 (s3.extBut _ _ D.a6.symm e))
 have j2:gP b2 g5 i2 l2 (k2+1):=Z9.keep λo e=>s5.extBut _ _ D.a7.symm e
 have As:z<g5.objs.size:=bO O9
 show wpAny _ _ (Qz (.ref z) (.ref g5.objs.size) >>= _) _ _ _
 refine aq ?_
 unfold Qz
 have Zg:IsZip (g5.push { cls:=.type "tuple",data:=.seq #[x,y] }) z TI TO .ellipsis:=bP _ O9
 refine aq (xp Zg (by simp) λg7 Ic s7=>?_)
 replace Ic:IsZip g7 z TI TO (rawInt g5.objs.size):=Ic
 refine xp Ic (by simp) λg8 DP s8=>?_
 replace DP:IsZip g8 z TI TO (rawInt g5.objs.size):=DP
 have up:∀c o,c≠z->g5.get? c=some o->g8.get? c=some o:=λc o c1 e=>s8.extBut _ _ c1 (s7.extBut _ _ c1 (bP _ e))
 have t8:IsPair g8 g5.objs.size x y:=s8.extBut _ _ (w8 As) (s7.extBut _ _ (w8 As) (ft _ rfl))
 have z8:g8.objs.size=g5.objs.size+1:=by rw [s8.1,s7.1,qh]
 rw [hsz] at DP t8 z8
 refine bp ⟨_,rfl,bp ?_⟩
 show Q (some (.ref g5.objs.size)) _
 rw [hsz]
 exact hQ g8 DP (up _ _ D.a2 t5) (j1.keep λo e=>up _ o D.a3 e) (j2.keep λo e=>up _ o D.a4 e) t8 z8 λc o c1 c2 c3 c4 e=>up c o c1 (k5 c o c1 c2 c3 c4 e)
theorem b5c{b1 b2:Bool}{z TI TO i1 i2 l1 l2:Addr}{k1 k2:Nat}{xs ys:Array Value}{a b:Value}{Q:Option Value->Shared->Prop}(hh:A.handled=none)(D:GC z TI TO i1 i2 l1 l2)
  (hz:IsZip s.heap z TI TO .none)(nj:IsPair s.heap TI (.ref i1) (.ref i2))(n5:IsPair s.heap TO a b)(h1:gP b1 s.heap i1 l1 k1)(h2:gP b2 s.heap i2 l2 k2)(lu:jQ b1 s.heap l1 xs)(iM:jQ b2 s.heap l2 ys)(IW:xs[k1]?=none\/ys[k2]?=none)
  (hQ:∀h',(∀c o,c≠z->c≠TO->c≠i1->c≠i2->s.heap.get? c=some o->h'.get? c=some o)->Q none { s with heap:=h' }):wpAny (model prog w) A (pyNext (.ref z)) Q E s:=by
 have hT:s.TypeIs (.ref z) "zip":=⟨_,hz,rfl⟩
 unfold pyNext
 have fin:∀(h':Heap) (e:Addr),(∀c o,c≠z->c≠TO->c≠i1->c≠i2->s.heap.get? c=some o->h'.get? c=some o)->(∃o,h'.get? e=some o/\o.cls=.type "StopIteration") ->
   wpAny (model prog w) A (isInstance (.ref e) (.type "StopIteration") >>= λb=>if b=true then pure none else throw (.ref e)) Q E { s with heap:=h' }:=λh' e hk ⟨o,ho,hc⟩ =>
  aq (wpAny_isInstance (T:="StopIteration") (b:=true) ⟨o,ho,hc⟩ isSubtype_stop (bp (hQ _ hk)))
 refine aq (wY (BX (name:=tu "__next__") hT Ep (xh Ep hT F.entry_zip_next ?_ (F.args_zip_next_1 _))))
 show wpAny _ _ (field (.ref z) 2 >>= _) _ _ _
 refine aq (ma hz rfl (x:=.bool false) rfl ?_)
 show wpAny _ _ (field (.ref z) 3 >>= _) _ _ _
 refine aq (ma hz rfl (x:=.ref TI) rfl (aq (pD nj rfl ?_)))
 show wpAny _ _ (E8 (.ref z) >>= _) _ _ _
 refine aq ?_
 unfold E8
 refine aq (ma hz rfl (x:=.none) rfl (bp ?_))
 simp only [if_true]
 refine aq (wU (aq (ma hz rfl (x:=.ref TO) rfl (aq (xp hz (by simp) λg1 sF s1=>?_)))))
 replace sF:IsZip g1 z TI TO .ellipsis:=sF
 refine aq ?_
 simp only [EH,JR,BL,List.forIn_nil]
 refine aq (aq (Eu ?_))
 show wpAny _ _ (tz (.ref i1) >>= _) _ _ _
 cases hx:xs[k1]? with
 | none =>
  refine aq (RS hh (h1.keep λo e=>s1.extBut _ _ D.a3 e) (lu.keep λo e=>s1.extBut _ _ D.b1 e) hx λg2 e s2 he=>?_)
  obtain ⟨oe,uJ,uT⟩:=he
  have wD:IsZip g2 z TI TO .ellipsis:=s2 _ _ D.a3.symm sF
  have IT:e≠z:=λx=>by subst x;rw [wD] at uJ;cases uJ;simp at uT
  exact xp wD (by simp) λg3 _ s3=>fin g3 e (λc o c1 _ c3 _ x=>s3.extBut _ _ c1 (s2 _ _ c3 (s1.extBut _ _ c1 x))) ⟨oe,s3.extBut _ _ IT uJ,uT⟩
 | some x =>
  have hy:ys[k2]?=none:=by rcases IW with h | h;rw [hx] at h;cases h;exact h
  refine aq (MD (h1.keep λo e=>s1.extBut _ _ D.a3 e) (lu.keep λo e=>s1.extBut _ _ D.b1 e) hx λg2 Px s2=>bp ?_)
  have t2:IsPair g2 TO a b:=s2.extBut _ _ D.a6 (s1.extBut _ _ D.a2 n5)
  refine aq (pD t2 rfl (aq (KQ t2 λg3 t3 s3=>?_)))
  refine aq (sW (bp (aq (aq (Eu ?_)))))
  show wpAny _ _ (tz (.ref i2) >>= _) _ _ _
  refine aq (RS hh (h2.keep λo e=>s3.extBut _ _ D.a7.symm (s2.extBut _ _ D.a8.symm (s1.extBut _ _ D.a4 e))) (iM.keep λo e=>s3.extBut _ _ D.c2 (s2.extBut _ _ D.c3 (s1.extBut _ _ D.c1 e))) hy λg4 e s4 he=>?_)
  obtain ⟨oe,uJ,uT⟩:=he
  have Pa:IsZip g4 z TI TO .ellipsis:=s4 _ _ D.a4.symm (s3.extBut _ _ D.a2.symm (s2.extBut _ _ D.a3.symm sF))
  have IT:e≠z:=λx=>by subst x;rw [Pa] at uJ;cases uJ;simp at uT
  exact xp Pa (by simp) λg5 _ s5=>fin g5 e (λc o c1 c2 c3 c4 x=>s5.extBut _ _ c1 (s4 _ _ c4 (s3.extBut _ _ c2 (s2.extBut _ _ c3 (s1.extBut _ _ c1 x))))) ⟨oe,s5.extBut _ _ IT uJ,uT⟩
end
end DL
namespace DL
open PySem PySem.Spec PyProof.Rows L2
section
variable {X:Cx}{pins:List (Addr×Obj)}{σ:L2.St}{H:Hp}{s:Shared}
theorem FN{t':Nat}{h':Heap}{ch:List Addr}(I:Inv X pins σ H s)(hf:∀b∈ch,cK X pins H b)(k:∀b o,b∉ch->s.heap.get? b=some o->h'.get? b=some o):Inv X pins σ H { s with heap:=h',toks:=t' }:=by
 have zM:∀b u,H b=some u->b∉ch:=λb u e z=>by rw [(hf b z).1] at e;cases e
 refine I.step (g':=s.gens) (d':=s.drawn) (ch:=ch) (λb hb=>?_) (λb o _ _ hc e _=>k b o hc e) (λb o _ _ hc e _=>⟨o.slots,k b o hc e⟩) (λ_ _ _ _ n=>n)
  (λb o hc e=>⟨o,k b o hc e⟩) (λ_ _ e=>e) (λ_ _ _ e=>e) (λb ps e=>⟨#[],by rw [e];simp⟩) (λm hm=>?_) (λb u e=>?_) I.bare
 .obtain ⟨_,h1,_,h3,h4,h5⟩:=hf b hb
  exact ⟨h3,h1,h4,h5⟩
 .obtain ⟨o,es,ep,ho,r⟩:=hm
  exact ⟨o,es,ep,k _ o (λz=>(hf _ z).2.1 rfl) ho,r⟩
 .refine (I.aT b u e).gr (λc v hc q=>k c v ?_ q) (λ_ _ _ q=>q) λ_ _ q=>q
  rcases hc with z | z
  .rw [z];exact zM b u e
  .exact zM c _ z
theorem rM(I:Inv X pins σ H s)(h:Sq X.K H b l xs):∃av:List Value,au xs av/\jQ b s.heap l av.toArray:=by
 cases b with
 | true=>obtain ⟨av,r,p,_⟩:=I.list h;exact ⟨av,r,p.isList⟩
 | false=>obtain ⟨av,r,p,_⟩:=I.tuple h;exact ⟨av,r,p⟩
theorem Rq(I:Inv X pins σ H s)(h:Sq X.K H b l xs)(h':Sq X.K H b l ys):xs=ys:=by
 cases b with
 | true=>exact I.kj h h'
 | false=>exact I.jd h h'
end
noncomputable def NZ(K:aC)(b1 b2:Bool)(l1 l2:Addr):It:=
 ⟨λi H=>∃xs ys x y,Sq K H b1 l1 xs/\Sq K H b2 l2 ys/\xs[i]?=some x/\ys[i]?=some y,
 λi H v H'=>∃p x y,v=.ref p/\H p=none/\H'=upd H p (.tup [x,y])/\(∀xs,Sq K H b1 l1 xs->xs[i]?=some x)/\(∀ys,Sq K H b2 l2 ys->ys[i]?=some y),
 λi H=>∃xs ys,Sq K H b1 l1 xs/\Sq K H b2 l2 ys/\(xs.length<=i\/ys.length<=i)⟩
theorem a8Y{h:Heap}{c:Addr}{o p:Obj}(hc:c<h.objs.size)(e:(h.push p).get? c=some o):h.get? c=some o:=by
 have q:(h.objs.push p)[c]?=h.objs[c]?:=by rw [Array.getElem?_push,if_neg (dF hc)]
 unfold Heap.get? Heap.push at e
 unfold Heap.get?
 rw [<-q];exact e
theorem b5d(h1:l1<n)(h2:l2<n):GC (n+4) (n+2) (n+3) n (n+1) l1 l2:=by
 have Z:=zipApart_new h1 h2
 exact ⟨Z.1,Z.2,Z.3,Z.4,Z.8,Z.9,Z.10,Z.11,Z.12,Z.13,Z.14,Z.15,Z.16,Z.17,Z.18⟩
theorem b2I{P:Program}{w:World}{K:aC}{elts:List Expr}{kk:Nat}{pos:Pos}{b1 b2:Bool}{z TI TO i1 i2 l1 l2:Addr}(D:GC z TI TO i1 i2 l1 l2)(d1:TI≠TO)(d2:TI≠i1)(d3:TI≠i2):
  Turn P w K (.Tuple elts kk pos) (NZ K b1 b2 l1 l2) [z,TI,TO,i1,i2] z (λi h=>IsZip h z TI TO .none/\IsPair h TI (.ref i1) (.ref i2)/\(∃a b,IsPair h TO a b)/\gP b1 h i1 l1 i/\gP b2 h i2 l2 i) where
 mem:=by simp
 obj:=λi h ⟨hz,nj,⟨a,b,n5⟩,h1,h2⟩ c hc=>by
  simp only [bI,tf,or_false] at hc
  rcases hc with rfl | rfl | rfl | rfl | rfl
  .exact ⟨_,hz,λv q=>nomatch (show Eg _=wX v from q)⟩
  .exact ⟨_,nj,λv q=>nomatch (show Data.seq _ _=wX v from q)⟩
  .exact ⟨_,n5,λv q=>nomatch (show Data.seq _ _=wX v from q)⟩
  .exact h1.oR
  .exact h2.oR
 keep:=λi h h' ⟨hz,nj,⟨a,b,n5⟩,h1,h2⟩ k=>⟨k z (by simp) _ hz,k TI (by simp) _ nj,⟨a,b,k TO (by simp) _ n5⟩,h1.keep λo e=>k i1 (by simp) o e,h2.keep λo e=>k i2 (by simp) o e⟩
 item:=by
  intro X hP hw hK hc i pins s σ H E I hf ⟨hz,nj,⟨a,b,n5⟩,h1,h2⟩ hg
  subst hP hw hK
  obtain ⟨xs,ys,x,y,q1,q2,hx,hy⟩:=hg
  obtain ⟨Ah,r1,p1⟩:=rM I q1
  obtain ⟨eJ,r2,p2⟩:=rM I q2
  obtain ⟨u1,Zq,Wt⟩:=r1.get hx
  obtain ⟨u2,Zp,Ws⟩:=r2.get hy
  refine b2E D hz nj n5 h1 h2 p1 p2 (by simpa using Zq) (by simpa using Zp) λh' z8 t8 j1 j2 nw sz kp=>?_
  refine ⟨_,rfl,wpAny_letOwnedTupleGo_zip (s:={ s with heap:=h' }) z8 λh9 z9 sb=>?_⟩
  have fresh:H s.heap.objs.size=none:=I.aT.fresh (bA _)
  have aY:∀c∈[z,TO,i1,i2],c<s.heap.objs.size:=λc hc=>by
   simp only [bI,tf,or_false] at hc
   rcases hc with rfl | rfl | rfl | rfl
   .exact bO hz
   .exact bO n5
   .exact h1.lt
   .exact h2.lt
  have up:∀c o,c∉[z,TO,i1,i2]->s.heap.get? c=some o->h9.get? c=some o:=λc o hc e=>by
   simp only [bI,tf,or_false,not_or] at hc
   exact sb.extBut _ _ hc.1 (kp c o hc.1 hc.2.1 hc.2.2.1 hc.2.2.2 e)
  have nz:s.heap.objs.size≠z:=w8 (aY z (by simp))
  have Yw:IsPair h9 s.heap.objs.size u1 u2:=sb.extBut _ _ nz nw
  have I1:Inv X pins σ (upd H s.heap.objs.size (.tup [x,y])) { s with heap:=s.heap.push { cls:=.type "tuple",data:=.seq #[u1,u2] },toks:=s.toks }:=
   I.laid (λb o e=>bP _ e) (bA _) ⟨by simp [sizeLine],[u1,u2],.cons Wt (.cons Ws .nil),⟨_,ft _ rfl,rfl,_,rfl⟩⟩
  have I2:Inv X pins σ (upd H s.heap.objs.size (.tup [x,y])) { s with heap:=h9,toks:=s.toks }:=FN (s:={ s with heap:=s.heap.push { cls:=.type "tuple",data:=.seq #[u1,u2] },toks:=s.toks }) (ch:=[z,TO,i1,i2]) (t':=s.toks) I1 (λc hc=>by
    obtain ⟨f0,f1,f2,f3,f4,f5⟩:=hf c (by simp only [bI,tf,or_false] at hc ⊢;grind)
    exact ⟨by rw [bM (dF (aY c hc))];exact f0,f1,f2,f3,f4,f5⟩) λc o hc e=>by
   by_cases hs:c<s.heap.objs.size
   .exact up c o hc (a8Y hs e)
   .have D0:c=s.heap.objs.size:=by
     have:=bO e
     rw [qh] at this
     exact JQ (Nat.lt_succ_iff.mp this) (Kw hs)
    subst D0
    have e2:(s.heap.push { cls:=.type "tuple",data:=.seq #[u1,u2] }).get? s.heap.objs.size=some _:=ft _ rfl
    rw [e2] at e;cases e
    exact Yw
  refine ⟨.ref s.heap.objs.size,_,I2,rfl,⟨_,x,y,rfl,fresh,rfl,λzs Ar=>by rw [Rq I Ar q1];exact hx,λzs Ar=>by rw [Rq I Ar q2];exact hy⟩,⟨z9,up TI _ (by simp [d1,d2,d3,D.a1]) nj,⟨u1,u2,sb.extBut _ _ D.a2 t8⟩,j1.keep λo e=>sb.extBut _ _ D.a3 e,j2.keep λo e=>sb.extBut _ _ D.a4 e⟩,λc hc=>?_⟩
  rw [bM ?_]
  .exact (hf c hc).1
  .simp only [bI,tf,or_false] at hc
   rcases hc with rfl | rfl | rfl | rfl | rfl
   .exact dF (aY _ (by simp))
   .exact dF (bO nj)
   .exact dF (aY _ (by simp))
   .exact dF (aY _ (by simp))
   .exact dF (aY _ (by simp))
 done:=by
  intro X hP hw hK hc i pins s σ H E I hf ⟨hz,nj,⟨a,b,n5⟩,h1,h2⟩ hg
  subst hP hw hK
  obtain ⟨xs,ys,q1,q2,hl⟩:=hg
  obtain ⟨Ah,r1,p1⟩:=rM I q1
  obtain ⟨eJ,r2,p2⟩:=rM I q2
  have e1:=r1.length
  have e2:=r2.length
  refine b5c (I.ok.hd hc) D hz nj n5 h1 h2 p1 p2 ?_ λh' kp=>⟨rfl,FN (ch:=[z,TO,i1,i2]) (t':=s.toks) I (λc hc=>hf c (by simp only [bI,tf,or_false] at hc ⊢;grind)) λc o hc e=>?_⟩
  .rcases hl with hl | hl
   .exact .inl (by simp;ext e1 hl)
   .exact .inr (by simp;ext e2 hl)
  .simp only [bI,tf,or_false,not_or] at hc
   exact kp c o hc.1 hc.2.1 hc.2.2.1 hc.2.2.2 e
 self:=λ_ _ _ _ _ st h=>wpAny_pyIter_zip st.1 h
noncomputable abbrev Dt(b1:Bool)(h:Heap)(l1:Addr):Heap:=h.push { cls:=.type (ug b1),data:=.fields #[.ref l1,.int 0 0] }
noncomputable abbrev Ds(b1 b2:Bool)(h:Heap)(l1 l2:Addr):Heap:=(Dt b1 h l1).push { cls:=.type (ug b2),data:=.fields #[.ref l2,.int 0 0] }
noncomputable abbrev Dr(b1 b2:Bool)(h:Heap)(l1 l2:Addr):Heap:=(Ds b1 b2 h l1 l2).push { cls:=.type "tuple",data:=.seq #[.ref h.objs.size,.ref (Dt b1 h l1).objs.size] }
noncomputable abbrev sj(b1 b2:Bool)(h:Heap)(l1 l2:Addr):Heap:=(Dr b1 b2 h l1 l2).push { cls:=.type "tuple",data:=.seq #[.none,.none] }
noncomputable abbrev oG(b1 b2:Bool)(h:Heap)(l1 l2:Addr):Heap:=(sj b1 b2 h l1 l2).push { cls:=.type "zip",data:=.fields #[.none,.bool false,.bool false,.ref (Ds b1 b2 h l1 l2).objs.size,.ref (Dr b1 b2 h l1 l2).objs.size] }
theorem a7J(l1 l2:Addr)(xs ys:Array Value):Meets (Builtin.«zip.__new__» ⟨[.type "zip",.ref l1,.ref l2],[]⟩) (λ_ R s=>s.heap.IsList l1 xs/\s.heap.IsList l2 ys/\R (.ok (.ret (.ref (sj true true s.heap l1 l2).objs.size))) { s with heap:=oG true true s.heap l1 l2 }):=
 .of_wp λprog w A R s h=>by
  obtain ⟨hp,g,d,tk,os⟩:=s;obtain ⟨lu,iM,h⟩:=h
  have jz:=sub_zip
  have uY:Ee (sV ⟨hp,g,d,tk,os⟩) l1 xs:=lu
  have uX:Ee (sV ⟨hp.push { cls:=.type "list_iterator",data:=.fields #[.ref l1,.int 0 0] },g,d,tk,os⟩) l2 ys:=PQ iM _
  wp_walk using xl uY,xl uX
  exact ⟨_,rfl,h⟩
theorem a7K(l1 l2:Addr)(xs ys:Array Value):Meets (Builtin.«zip.__new__» ⟨[.type "zip",.ref l1,.ref l2],[]⟩) (λ_ R s=>s.heap.IsList l1 xs/\s.heap.IsTuple l2 ys/\R (.ok (.ret (.ref (sj true false s.heap l1 l2).objs.size))) { s with heap:=oG true false s.heap l1 l2 }):=
 .of_wp λprog w A R s h=>by
  obtain ⟨hp,g,d,tk,os⟩:=s;obtain ⟨lu,iM,h⟩:=h
  have jz:=sub_zip
  have uY:Ee (sV ⟨hp,g,d,tk,os⟩) l1 xs:=lu
  have uX:Ea (sV ⟨hp.push { cls:=.type "list_iterator",data:=.fields #[.ref l1,.int 0 0] },g,d,tk,os⟩) l2 ys:=jQ.keep (b:=false) iM λo e=>bP _ e
  wp_walk using xl uY,xq uX
  exact ⟨_,rfl,h⟩
theorem a7L(l1 l2:Addr)(xs ys:Array Value):Meets (Builtin.«zip.__new__» ⟨[.type "zip",.ref l1,.ref l2],[]⟩) (λ_ R s=>s.heap.IsTuple l1 xs/\s.heap.IsList l2 ys/\R (.ok (.ret (.ref (sj false true s.heap l1 l2).objs.size))) { s with heap:=oG false true s.heap l1 l2 }):=
 .of_wp λprog w A R s h=>by
  obtain ⟨hp,g,d,tk,os⟩:=s;obtain ⟨lu,iM,h⟩:=h
  have jz:=sub_zip
  have uY:Ea (sV ⟨hp,g,d,tk,os⟩) l1 xs:=lu
  have uX:Ee (sV ⟨hp.push { cls:=.type "tuple_iterator",data:=.fields #[.ref l1,.int 0 0] },g,d,tk,os⟩) l2 ys:=PQ iM _
  wp_walk using xq uY,xl uX
  exact ⟨_,rfl,h⟩
theorem a7M(l1 l2:Addr)(xs ys:Array Value):Meets (Builtin.«zip.__new__» ⟨[.type "zip",.ref l1,.ref l2],[]⟩) (λ_ R s=>s.heap.IsTuple l1 xs/\s.heap.IsTuple l2 ys/\R (.ok (.ret (.ref (sj false false s.heap l1 l2).objs.size))) { s with heap:=oG false false s.heap l1 l2 }):=
 .of_wp λprog w A R s h=>by
  obtain ⟨hp,g,d,tk,os⟩:=s;obtain ⟨lu,iM,h⟩:=h
  have jz:=sub_zip
  have uY:Ea (sV ⟨hp,g,d,tk,os⟩) l1 xs:=lu
  have uX:Ea (sV ⟨hp.push { cls:=.type "tuple_iterator",data:=.fields #[.ref l1,.int 0 0] },g,d,tk,os⟩) l2 ys:=jQ.keep (b:=false) iM λo e=>bP _ e
  wp_walk using xq uY,xq uX
  exact ⟨_,rfl,h⟩
theorem b0p(b1 b2:Bool)(l1 l2:Addr)(xs ys:Array Value):Meets (Builtin.«zip.__new__» ⟨[.type "zip",.ref l1,.ref l2],[]⟩) (λ_ R s=>jQ b1 s.heap l1 xs/\jQ b2 s.heap l2 ys/\R (.ok (.ret (.ref (sj b1 b2 s.heap l1 l2).objs.size))) { s with heap:=oG b1 b2 s.heap l1 l2 }):=by
 cases b1<;>cases b2
 .exact a7M l1 l2 xs ys
 .exact a7L l1 l2 xs ys
 .exact a7K l1 l2 xs ys
 .exact a7J l1 l2 xs ys
section
variable {prog:Program}{w:World}{A:Around}{E:Value->Shared->Prop}{s:Shared}
theorem Sv(e:h.get? it=some { cls:=.type (ug b),data:=.fields #[.ref l,.int 0 0] }):gP b h it l 0:=by
 cases b with
 | true=>exact ⟨_,e,rfl,rfl⟩
 | false=>exact ⟨_,e,rfl,rfl⟩
theorem b2a(lu:jQ b1 s.heap l1 xs)(iM:jQ b2 s.heap l2 ys)
  (h:∀h',IsZip h' (s.heap.objs.size+4) (s.heap.objs.size+2) (s.heap.objs.size+3) .none->IsPair h' (s.heap.objs.size+2) (.ref s.heap.objs.size) (.ref (s.heap.objs.size+1)) ->
   IsPair h' (s.heap.objs.size+3) .none .none->gP b1 h' s.heap.objs.size l1 0->gP b2 h' (s.heap.objs.size+1) l2 0->h'.objs.size=s.heap.objs.size+5 ->
   (∀c o,s.heap.get? c=some o->h'.get? c=some o)->Q (.ref (s.heap.objs.size+4)) { s with heap:=h' }):
  wpAny (model prog w) A (call (.type "zip") [.ref l1,.ref l2]) Q E s:=by
 refine callType_new F.called_zip (by decide) (F.typeCall_zip_2 _ _) (F.newCall_zip_2 _ _) (λobj=>F.args_object_init_3 obj _ _) F.entry_zip_new (b0p b1 b2 l1 l2 xs ys) ⟨lu,iM,?_⟩
 have z1:(Dt b1 s.heap l1).objs.size=s.heap.objs.size+1:=qh ..
 have z2:(Ds b1 b2 s.heap l1 l2).objs.size=s.heap.objs.size+2:=by rw [qh,z1]
 have z3:(Dr b1 b2 s.heap l1 l2).objs.size=s.heap.objs.size+3:=by rw [qh,z2]
 have z4:(sj b1 b2 s.heap l1 l2).objs.size=s.heap.objs.size+4:=by rw [qh,z3]
 have z5:(oG b1 b2 s.heap l1 l2).objs.size=s.heap.objs.size+5:=by rw [qh,z4]
 have g5:(oG b1 b2 s.heap l1 l2).get? (sj b1 b2 s.heap l1 l2).objs.size=some _:=ft _ rfl
 have g4:(oG b1 b2 s.heap l1 l2).get? (Dr b1 b2 s.heap l1 l2).objs.size=some _:=bP _ (ft _ rfl)
 have g3:(oG b1 b2 s.heap l1 l2).get? (Ds b1 b2 s.heap l1 l2).objs.size=some _:=bP _ (bP _ (ft _ rfl))
 have g2:(oG b1 b2 s.heap l1 l2).get? (Dt b1 s.heap l1).objs.size=some _:=bP _ (bP _ (bP _ (ft _ rfl)))
 have g1:(oG b1 b2 s.heap l1 l2).get? s.heap.objs.size=some _:=bP _ (bP _ (bP _ (bP _ (ft _ rfl))))
 show _/\_
 rw [z2,z3,z4] at g5
 rw [z1,z2] at g3
 rw [z3] at g4
 rw [z1] at g2
 rw [z4]
 exact ⟨⟨_,g5,rfl⟩,h _ g5 g3 g4 (Sv g1) (Sv g2) z5 λc o x =>
  bP _ (bP _ (bP _ (bP _ (bP _ x))))⟩
end
section
variable {X:Cx}{elts:List Expr}{kk:Nat}{tp:Pos}
noncomputable def HX(K:aC)(ta:TA):TI:=λσ H R=>ta σ H λvs H1=>∃b1 b2 l1 l2 xs ys,vs=[.ref l1,.ref l2]/\Sq K H1 b1 l1 xs/\Sq K H1 b2 l2 ys/\R (NZ K b1 b2 l1 l2) H1
theorem b73{a b:Expr}{ta:TA}{p pos:Pos}(hg:Gl X "zip")(hm:X.mg "zip" = none)(ha:PA X [a,b] ta)(hs:starEach [a,b] X.env=[(false,eval a X.env),(false,eval b X.env)]:=by rfl)(dD:starEach [b] X.env=[(false,eval b X.env)]:=by rfl):
  PI X (.Tuple elts kk tp) (.Call (.Name "zip" p) [a,b] [] pos) (HX X.K ta):=by
 intro pins s σ H R I h
 refine Call_ (tJ I hg hm boot_zip (EU (be (ha pos pins s σ H _ I h) λus s1 ⟨vs,H1,I1,r1,q1⟩=>?_) (by rw [hs,dD]) (by rw [dD];rfl)))
 obtain ⟨b1,b2,l1,l2,xs,ys,e,q1,q2,q⟩:=q1
 subst e
 cases r1 with
 | cons r rr =>
  cases rr with
  | cons r' rr =>
   cases rr
   cases r
   cases r'
   obtain ⟨Ah,rr1,p1⟩:=rM I1 q1
   obtain ⟨eJ,rr2,p2⟩:=rM I1 q2
   refine b2a p1 p2 λh' z0 t0 o0 j1 j2 sz kp=>?_
   refine wpAny_pyIter_zip (s:={ s1 with heap:=h' }) z0 ?_
   have O0:=p1.lt
   have z6:=p2.lt
   have D:=b5d O0 z6
   have Z:=zipApart_new O0 z6
   have ge:∀c∈[s1.heap.objs.size+4,s1.heap.objs.size+2,s1.heap.objs.size+3,s1.heap.objs.size,s1.heap.objs.size+1],s1.heap.objs.size<=c:=λc hc=>by
    simp only [bI,tf,or_false] at hc
    rcases hc with rfl | rfl | rfl | rfl | rfl
    .exact tj _ _
    .exact tj _ _
    .exact tj _ _
    .exact bA _
    .exact tj _ _
   exact ⟨_,_,_,_,H1,rfl,I1.kept (t':=s1.toks) kp,b2I D Z.5 Z.6 Z.7,⟨z0,t0,⟨_,_,o0⟩,j1,j2⟩,λc hc=>I1.kq (ge c hc) (I1.aT.fresh (ge c hc)),q⟩
noncomputable def iG(a b:List D):List D:=BG (λd e=>D.tup [d,e]) a b
noncomputable def lK:List D->Option (List D)
 | [a,b]=>(e8 a).bind λp=>(e8 b).map λq=>iG p.2 q.2
 | _=>none
theorem b2D{K:aC}{O:Addr->Prop}{H:Hp}{b1 b2:Bool}{l1 l2:Addr}{xs ys:List V}{as bs:List D}(h1:Sq K H b1 l1 xs)(i1:aN K O H xs as)(n1:¬O l1\/∀H',Sq K H' b1 l1 xs)(h2:Sq K H b2 l2 ys)(i2:aN K O H ys bs)(n2:¬O l2\/∀H',Sq K H' b2 l2 ys):
  xK K O (NZ K b1 b2 l1 l2) H (iG as bs):=λO' H2 kp hO i=>by
 have key:∀{b:Bool} {l:Addr} {zs:List V} {cs:List D},Sq K H b l zs->aN K O H zs cs->(¬O l\/∀H',Sq K H' b l zs)->Sq K H2 b l zs/\aN K O' H2 zs cs:=λ{b l zs cs} h1 i1 n1=>by
  refine ⟨?_,i1.map (λq hq hn=>?_) λq u e n=>(kp q u e n).1⟩
  .rcases n1 with h3 | h3
   .exact Sh (λq u e n=>(kp q u e n).1) h1 h3
   .exact h3 H2
  .cases e:H q with
   | none=>exact (hq e).elim
   | some u=>exact (kp q u e hn).2
 obtain ⟨p1,s1⟩:=key h1 i1 n1
 obtain ⟨p2,s2⟩:=key h2 i2 n2
 refine ⟨λd hd=>?_,λhl=>⟨xs,ys,p1,p2,?_⟩⟩
 .unfold iG at hd
  rw [List.getElem?_zipWith] at hd
  cases ea:as[i]? with
  | none=>simp [ea] at hd
  | some da =>
   cases eb:bs[i]? with
   | none=>simp [ea,eb] at hd
   | some db =>
    simp only [ea,eb] at hd
    cases hd
    obtain ⟨x,hx,dx⟩:=s1.get ea
    obtain ⟨y,hy,dy⟩:=s2.get eb
    refine ⟨⟨xs,ys,x,y,p1,p2,hx,hy⟩,λv H3 hv=>?_⟩
    obtain ⟨p,x',y',rfl,hp,rfl,f1,f2⟩:=hv
    have e1:=f1 xs p1
    have e2:=f2 ys p2
    rw [hx] at e1;cases e1
    rw [hy] at e2;cases e2
    have sm:ao H2 (upd H2 p (.tup [x,y])):=λq u e=>by rw [bM (jK e hp)];exact e
    exact ⟨sm,.tup (λz=>hO p z hp) (.inl kQ) (.cons (dx.grow sm) (.cons (dy.grow sm) .nil))⟩
 .have e1:=s1.length
  have e2:=s2.length
  simp only [iG,List.length_zipWith] at hl
  ext e1 e2 hl
theorem b8C{a b:Expr}{fs:En->Option (List D)}{p pos:Pos}(AW:Gl X "zip")(hm:X.mg "zip" = none)(ha:AV X [a,b] fs)(h1:starEach [a,b] X.env=[(false,eval a X.env),(false,eval b X.env)]:=by rfl)
  (h2:starEach [b] X.env=[(false,eval b X.env)]:=by rfl):IV X (.Tuple elts kk tp) (.Call (.Name "zip" p) [a,b] [] pos) (kr lK fs):=by
 obtain ⟨ti,pi,ki⟩:=ha
 refine ⟨_,b73 AW hm pi h1 h2,λO B σ H env ds R Rl e q=>?_⟩
 obtain ⟨as,e1,e2⟩:=bind_some e
 refine ki O B σ H env as _ Rl e1 λvs H1 s1 r1=>?_
 unfold lK at e2
 split at e2
 .rename_i da db
  obtain ⟨⟨k1,as⟩,ea,e2⟩:=bind_some e2
  obtain ⟨⟨k2,bs⟩,eb,e2⟩:=map_some e2
  cases e2
  cases r1 with
  | cons ra rr =>
   cases rr with
   | cons rb rr =>
    cases rr
    obtain ⟨l1,xs,rfl,g1,i1,n1⟩:=ra.qR ea
    obtain ⟨l2,ys,rfl,g2,i2,n2⟩:=rb.qR eb
    exact ⟨k1,k2,l1,l2,xs,ys,rfl,g1,g2,q _ H1 s1 (b2D g1 i1 n1 g2 i2 n2)⟩
 .cases e2
end
end DL
namespace DL
open PySem PySem.Spec PyProof.Rows L2
section
variable {prog:Program}{w:World}{A:Around}{E:Value->Shared->Prop}{s:Shared}
end
section
variable {X:Cx}
noncomputable def nH(lo:Int)(n:Nat):List V:=(fq n).map λ(k:Nat)=>V.int (lo+k)
theorem a92{lo:Int}:∀{n:Nat} {av:List Value},av.length=n->(∀(j:Nat) (v:Value),av[j]?=some v->∃t,v=jm (lo+j*1) t)->au (nH lo n) av:=by
 intro n av hl h
 have key:∀(m:Nat) (k:Nat) (ys:List Value),ys.length=m->(∀(j:Nat) (v:Value),ys[j]?=some v->∃t,v=jm (lo+(k+j:Nat)) t)->au ((List.range' k m).map λ(k:Nat)=>V.int (lo+k)) ys:=by
  intro m
  induction m with
  | zero =>
   intro k ys hy _
   rw [Kx.mp hy]
   exact .nil
  | succ m ih =>
   intro k ys hy hh
   cases ys with
   | nil=>cases hy
   | cons y ys =>
    rw [List.range'_succ,kM]
    refine .cons ?_ (ih (k+1) ys (by simpa using hy) λj v e=>?_)
    .obtain ⟨t,e⟩:=hh 0 y rfl
     exact ⟨t,by simpa using e⟩
    .obtain ⟨t,e'⟩:=hh (j+1) v (by simpa using e)
     exact ⟨t,by rw [e',show k+(j+1)=k+1+j by ext]⟩
 unfold nH
 rw [List.range_eq_range']
 exact key n 0 av hl λj v e=>by
  obtain ⟨t,e'⟩:=h j v e
  exact ⟨t,by rw [e',Ef,tq]⟩
noncomputable def RA(fs:En->Option (List D)):En->Option Sl:=λenv=>(fs env).bind λds=>match ds with
 | [.int i,.int j]=>if (j-i).toNat<=16777216 then some (.ow (bR i (j-i).toNat)) else none
 | _=>none
theorem RM{K:aC}{O:Addr->Prop}{H:Hp}(lo:Int)(n:Nat):aN K O H (nH lo n) (bR lo n):=by
 unfold nH bR
 have:=aN.ints (K:=K) (O:=O) (H:=H) ((fq n).map λ(k:Nat)=>lo+(k:Int))
 rw [lD,lD] at this
 exact this
end
end DL
namespace SO
section pure
variable {α:Type}
def ei(κ:α->Int)(l:List α):Prop:=l.Pairwise λx y=>κ x<κ y
structure Inv(κ:α->Int)(la lb out:List α)(ia ib:Nat):Prop where
 perm:out.Perm (la.take ia++lb.take ib)
 Hf:ei κ out
 lo:∀x∈out,(∀y∈la.drop ia,κ x<κ y)/\∀y∈lb.drop ib,κ x<κ y
variable {κ:α->Int}{la lb out:List α}{ia ib:Nat}
theorem Inv.sym(h:Inv κ la lb out ia ib):Inv κ lb la out ib ia:=⟨h.perm.trans B3,h.Hf,λx hx=>⟨(h.lo x hx).2,(h.lo x hx).1⟩⟩
theorem xY(h:ei κ l)(i:Nat):ei κ (l.drop i):=h.sublist (List.drop_sublist ..)
theorem Mo(h:ei κ l)(i:Nat):ei κ (l.take i):=h.sublist (List.take_sublist ..)
theorem MR(h:ei κ l)(i:Nat):∀x∈l.take i,∀y∈l.drop i,κ x<κ y:=by
 have:ei κ (l.take i++l.drop i):=by rw [nC];exact h
 exact (gm.mp this).2.2
theorem Inv.a(h:Inv κ la lb out ia ib)(sa:ei κ la)(k:Nat)(hk:∀x∈(la.drop ia).take k,∀y∈lb.drop ib,κ x<κ y):Inv κ la lb (out++(la.drop ia).take k) (ia+k) ib:=by
 refine ⟨?_,gm.mpr ⟨h.Hf,Mo (xY sa ia) k,λx hx y hy=>(h.lo x hx).1 y (vq hy)⟩,λx hx=>?_⟩
 .rw [List.take_add,fM]
  refine (h.perm.append_right _).trans ?_
  rw [fM]
  exact B3.append_left _
 .rw [<-List.drop_drop]
  rcases bX.mp hx with hx | hx
  .exact ⟨λy hy=>(h.lo x hx).1 y (vo hy),(h.lo x hx).2⟩
  .exact ⟨λy hy=>MR (xY sa ia) k x hx y hy,hk x hx⟩
theorem Inv.b(h:Inv κ la lb out ia ib)(sb:ei κ lb)(k:Nat)(hk:∀x∈(lb.drop ib).take k,∀y∈la.drop ia,κ x<κ y):Inv κ la lb (out++(lb.drop ib).take k) ia (ib+k):=(h.sym.a sb k hk).sym
theorem Inv.last(h:Inv κ la lb out ia ib)(sa:ei κ la)(sb:ei κ lb)(hm:∀x∈lb.drop ib,∀y∈la.drop ia,κ x<κ y):ei κ (out++lb.drop ib++la.drop ia)/\(out++lb.drop ib++la.drop ia).Perm (la++lb):=by
 refine ⟨gm.mpr ⟨gm.mpr ⟨h.Hf,xY sb ib,λx hx=>(h.lo x hx).2⟩,xY sa ia,λx hx y hy=>?_⟩,?_⟩
 .rcases bX.mp hx with hx | hx
  .exact (h.lo x hx).1 y hy
  .exact hm x hx y hy
 .have e:la++lb=(la.take ia++la.drop ia)++(lb.take ib++lb.drop ib):=by rw [nC,nC]
  rw [e,fM]
  refine (h.perm.append_right _).trans ?_
  simp only [fM]
  refine KI _ ?_
  refine B3.trans ?_
  simp only [fM]
  refine (B3).trans ?_
  simp only [fM]
  refine KI _ ?_
  exact BR _
theorem Inv.done(h:Inv κ la lb out ia ib)(sa:ei κ la)(sb:ei κ lb)(hm:∀x∈la.drop ia,∀y∈lb.drop ib,κ x<κ y):ei κ (out++la.drop ia++lb.drop ib)/\(out++la.drop ia++lb.drop ib).Perm (la++lb):=
 have q:=h.sym.last sb sa hm
 ⟨q.1,q.2.trans B3⟩
theorem An:Inv κ la lb [] 0 0:=⟨by simp,EN,λx hx=>nomatch hx⟩
theorem b8z(sa:ei κ A)(sb:ei κ B)(h1:∀x∈A.take k,∀y∈B,κ x<κ y)(h2:∀x∈B.drop m,∀y∈A,κ y<κ x)(sm:ei κ M)(pm:M.Perm (A.drop k++B.take m)):
  ei κ (A.take k++M++B.drop m)/\(A.take k++M++B.drop m).Perm (A++B):=by
 constructor
 .refine gm.mpr ⟨gm.mpr ⟨Mo sa k,sm,λx hx y hy=>?_⟩,xY sb m,λx hx y hy=>?_⟩
  .rcases bX.mp (pm.mem_iff.mp hy) with hy | hy
   .exact MR sa k x hx y hy
   .exact h1 x hx y (vq hy)
  .rcases bX.mp hx with hx | hx
   .exact h1 x hx y (vo hy)
   .rcases bX.mp (pm.mem_iff.mp hx) with hx | hx
    .exact h2 y hy x (vo hx)
    .exact MR sb m x hx y hy
 .have e:A++B=(A.take k++A.drop k)++(B.take m++B.drop m):=by rw [nC,nC]
  rw [e,fM]
  simp only [fM]
  refine KI _ ?_
  rw [<-fM]
  exact pm.append_right _
theorem jD(m:List α):∀(xs:Array α) (o n:Nat) (k:Nat),o+n+m.length<=xs.size->((m.zipIdx n).foldl (λa p=>a.setIfInBounds (o+p.2) p.1) xs)[k]?=if o+n<=k/\k<o+n+m.length then m[k-(o+n)]? else xs[k]?:=by
 induction m with
 | nil=>intro xs o n k h;simp only [JR,List.foldl_nil,List.length_nil];rw [if_neg (by ext)]
 | cons x m ih =>
  intro xs o n k h
  simp only [pB] at h
  rw [EH,JP,ih _ o (n+1) k (by simp only [Array.size_setIfInBounds];ext h)]
  simp only [pB]
  by_cases c:o+(n+1)<=k/\k<o+(n+1)+m.length
  .rw [if_pos c,if_pos (by ext c),show k-(o+n)=(k-(o+(n+1)))+1 by ext c,List.getElem?_cons_succ]
  .rw [if_neg c,Array.getElem?_setIfInBounds]
   by_cases c2:o+n=k
   .subst c2
    rw [if_pos rfl,if_pos (by ext h),if_pos (by ext)]
    simp
   .rw [if_neg c2,if_neg (by ext c c2)]
theorem a95{P A S m:List α}{xs:Array α}(e:xs.toList=P++A++S)(hl:m.length=A.length):(m.zipIdx.foldl (λa p=>a.setIfInBounds (P.length+p.2) p.1) xs).toList=P++m++S:=by
 have hs:xs.size=P.length+A.length+S.length:=by rw [<-gE,e];simp;ext
 refine List.ext_getElem? λk=>?_
 rw [tw,jD m xs P.length 0 k (by ext hl hs),Nat.add_zero,<-tw,e]
 by_cases h1:k<P.length
 .rw [if_neg (by ext h1),fM,fM,vG h1,vG h1]
 .by_cases h2:k<P.length+m.length
  .rw [if_pos ⟨by ext h1,h2⟩,fM,rH (by ext h1),vG (by ext h1 h2)]
  .rw [if_neg (by ext h2),rH (by simp;ext hl h2),rH (by simp;ext h2)]
   simp [hl]
noncomputable def lg:Nat->List (List α)->List (Nat×Nat×Nat)->Prop
 | _,[],[]=>True
 | o,R::Rs,p::ps=>p.1=o/\p.2.1=R.length/\lg (o+R.length) Rs ps
 | _,_,_=>False
theorem lg.len:∀{o:Nat} {Rs:List (List α)} {ps:List (Nat×Nat×Nat)},lg o Rs ps->ps.length=Rs.length
 | _,[],[],_=>rfl
 | _,R::Rs,p::ps,h=>by simp [h.2.2.len]
theorem lg.app:∀{o:Nat} {Rs Ss:List (List α)} {ps qs:List (Nat×Nat×Nat)},lg o Rs ps->lg (o+Rs.flatten.length) Ss qs->lg o (Rs++Ss) (ps++qs)
 | o,[],Ss,[],qs,_,h=>by simpa using h
 | o,R::Rs,Ss,p::ps,qs,h,k=>⟨h.1,h.2.1,h.2.2.app (by rw [EL,dq,<-JW] at k;exact k)⟩
theorem lg.split:∀{o:Nat} {Rs Ss:List (List α)} {ps:List (Nat×Nat×Nat)},lg o (Rs++Ss) ps->lg o Rs (ps.take Rs.length)/\lg (o+Rs.flatten.length) Ss (ps.drop Rs.length)
 | o,[],Ss,ps,h=>⟨trivial,by simpa using h⟩
 | o,R::Rs,Ss,p::ps,h=>by
  obtain ⟨k1,k2⟩:=lg.split (Rs:=Rs) h.2.2
  refine ⟨⟨h.1,h.2.1,k1⟩,?_⟩
  rw [EL,dq,<-JW]
  exact k2
end pure
open PySem PyProof.Rows
noncomputable def a8Z:Bool → Keyed → Array Keyed → Nat → Nat → Nat → StateT SortSt Sem (Option Nat):=sortPriv% PySem.Builtin.gallop
noncomputable def b3j:Array Keyed → Array Keyed → StateT SortSt Sem (Array Keyed):=sortPriv% PySem.Builtin.mergeLo
noncomputable def b3k:Array Keyed → Array Keyed → StateT SortSt Sem (Array Keyed):=sortPriv% PySem.Builtin.mergeHi
noncomputable def setG':Nat → StateT SortSt Sem Unit:=sortPriv% PySem.Builtin.setMinGallop
section
variable {prog:Program}{w:World}{A:Around}{E:Value->Shared->Prop}{s:Shared}
theorem xQ{σ α:Type}{M:Model}{m:StateT σ Sem α}{Q:α->σ->Prop}{st:σ}(h:wpS M A E s m Q st):wpAny M A (m st) (λr s'=>s'=s/\Q r.1 r.2) E s:=h
structure Ask(prog:Program)(w:World)(s:Shared)(kd:SortKind)(κ:Keyed->Int)(C:Keyed->Prop):Prop where
 lt:∀{x y:Keyed},C x->C y->κ x≠κ y->∀{A:Around} {E:Value->Shared->Prop} {Q:Bool->Shared->Prop},Q (decide (κ x<κ y)) s->wpAny (model prog w) A (keyLt' kd x.1 y.1) Q E s
variable {kd:SortKind}{κ:Keyed->Int}{C:Keyed->Prop}
theorem zZ(hk:Ask prog w s kd κ C){st:SortSt}{Q:Option Bool->SortSt->Prop}(hd:kindOf st=kd)(hx:C x)(hy:C y)(cC:κ x≠κ y)(h:Q (some (decide (κ x<κ y))) st):wpS (model prog w) A E s (lt' x y) Q st:=by
 rw [lt'_eq]
 refine aS (nv ?_)
 rw [hd]
 exact aS (wpS_lift (wY (hk.lt hx hy cC ⟨rfl,aW h⟩)))
theorem ig{Q:Keyed->SortSt->Prop}{st:SortSt}(hi:i<arr.size)(h:Q arr[i] st):wpS (model prog w) A E s (elem' arr i) Q st:=by
 rw [elem'_eq,getElem?_pos arr i hi]
 exact aW h
noncomputable def kv(κ:Keyed->Int)(arr:Array Keyed)(i:Nat):Int:=match arr[i]? with
 | some p=>κ p
 | none=>0
theorem iE(h:i<arr.size):kv κ arr i=κ arr[i]:=by unfold kv;rw [getElem?_pos arr i h]
theorem B9(h:xs[i]?=ys[j]?):kv κ xs i=kv κ ys j:=by unfold kv;rw [h]
theorem bey(hk:Ask prog w s kd κ C){st:SortSt}(hd:kindOf st=kd){Q:Option Bool->SortSt->Prop}(hC:C key)(hj:j<arr.size)(hx:C arr[j])(cC:κ arr[j]≠κ key)(h:Q (some (decide (kv κ arr j<κ key))) st):
  wpS (model prog w) A E s (elem' arr j >>= λx=>if left=true then lt' x key else lt' key x >>= λr=>pure (JH (λx=>!x) r)) Q st:=by
 refine aS (ig hj ?_)
 rw [iE hj] at h
 cases left with
 | true =>
  rw [if_pos rfl]
  exact zZ hk hd hx hC cC h
 | false =>
  rw [if_neg (by decide)]
  refine aS (zZ hk hd hC hx (fE cC) (aW ?_))
  have e:(!decide (κ key<κ arr[j]))=decide (κ arr[j]<κ key):=by
   by_cases c:κ key<κ arr[j]
   .rw [decide_eq_true c,decide_eq_false (by ext hj c)];rfl
   .rw [decide_eq_false c,decide_eq_true (by ext hj cC c)];rfl
  rw [Option.map_some,e]
  exact h
theorem D5(hk:Ask prog w s kd κ C){st:SortSt}(hd:kindOf st=kd){Q:Option Nat->SortSt->Prop}(hC:C key)(hn:base+n<=arr.size)(hh:hint<n)
  (hA:∀j (h:j<arr.size),base<=j->j<base+n->C arr[j]/\κ arr[j]≠κ key)(hs:∀i j,i<j->j<n->kv κ arr (base+i)<kv κ arr (base+j))
  (h:∀k,k<=n->(∀i,i<k->kv κ arr (base+i)<κ key)->(∀i,k<=i->i<n->κ key<kv κ arr (base+i))->Q (some k) st):wpS (model prog w) A E s (a8Z left key arr base n hint) Q st:=by
 have ask:∀i,i<n->∀{Q:Option Bool->SortSt->Prop},Q (some (decide (kv κ arr (base+i)<κ key))) st->wpS (model prog w) A E s (elem' arr (base+i) >>= λx=>if left=true then lt' x key else lt' key x >>= λr=>pure (JH (λx=>!x) r)) Q st:=λi hi Q hQ =>
  have hj:base+i<arr.size:=by ext hn hi
  bey hk hd hC hj (hA _ hj (by ext) (by ext hi)).1 (hA _ hj (by ext) (by ext hi)).2 hQ
 have ne:∀i,i<n->kv κ arr (base+i)≠κ key:=λi hi=>by
  have hj:base+i<arr.size:=by ext hn hi
  rw [iE hj]
  exact (hA _ hj (by ext) (by ext hi)).2
 have dn:∀i j,i<=j->j<n->kv κ arr (base+j)<κ key->kv κ arr (base+i)<κ key:=λi j h1 h2 h3=>by
  by_cases c:i=j
  .subst c;exact h3
  .have:=hs i j (by ext h1 c) h2;ext h3 this
 have up:∀i j,i<=j->j<n->κ key<kv κ arr (base+i)->κ key<kv κ arr (base+j):=λi j h1 h2 h3=>by
  by_cases c:i=j
  .subst c;exact h3
  .have:=hs i j (by ext h1 c) h2;ext h3 this
 unfold wpS
 wp_delta
 wp_delta
 wp_delta
 refine xQ (Q:=Q) (aS (ask hint hh ?_))
 dsimp only
 have tail:∀lo hi:Nat,lo<=hi->hi<=n->(∀i,i<lo->kv κ arr (base+i)<κ key)->(∀i,hi<=i->i<n->κ key<kv κ arr (base+i)) ->
   wpS (model prog w) A E s (forIn [0:n] ((none,lo,hi):Option (Option Nat)×Nat×Nat) (λx q=>if q.2.1≥q.2.2 then pure (El (none,q.2.1,q.2.2)) else
    (elem' arr (base+(q.2.1+(q.2.2-q.2.1)/2)) >>= λx=>if left=true then lt' x key else lt' key x >>= λr=>pure (JH (λx=>!x) r)) >>= λr=>match r with
     | some more=>if more=true then pure (mT (none,q.2.1+(q.2.2-q.2.1)/2+1,q.2.2)) else pure (mT (none,q.2.1,q.2.1+(q.2.2-q.2.1)/2))
     | x=>pure (El (some none,q.2.1,q.2.2)))) (λq ak=>ak=st/\∃k,q.1=none/\q.2.2=k/\k<=n/\(∀i,i<k->kv κ arr (base+i)<κ key)/\∀i,k<=i->i<n->κ key<kv κ arr (base+i)) st:=λlo hi h1 h2 h3 h4=>by
  refine kJ (λx q ak=>ak=st/\∃l r,q=(none,l,r)/\l<=r/\r<=n/\r-l<=n-x/\(∀i,i<l->kv κ arr (base+i)<κ key)/\∀i,r<=i->i<n->κ key<kv κ arr (base+i)) (λx q ak _ hx hI=>?_) (λq ak hI=>?_) ⟨rfl,lo,hi,rfl,h1,h2,by ext h2,h3,h4⟩
  .obtain ⟨rfl,l,r,rfl,j1,j2,j3,j4,j5⟩:=hI
   dsimp only
   by_cases c:l≥r
   .rw [if_pos c]
    obtain rfl:l=r:=by ext j1 c
    exact aW ⟨rfl,l,rfl,rfl,j2,j4,j5⟩
   .rw [if_neg c]
    refine aS (ask _ (by lia) ?_)
    dsimp only
    by_cases c2:kv κ arr (base+(l+(r-l)/2))<κ key
    .rw [if_pos (decide_eq_true c2)]
     exact aW ⟨rfl,_,_,rfl,by lia,‹_›,by ext j3,λi hi=>dn i _ (by ext hi) (by lia) c2,j5⟩
    .rw [if_neg (by simpa using c2)]
     have:=ne (l+(r-l)/2) (by lia)
     exact aW ⟨rfl,_,_,rfl,by ext,by lia,by lia,j4,λi hi h'=>up _ i hi h' (by ext c2 this)⟩
  .obtain ⟨rfl,l,r,rfl,j1,j2,j3,j4,j5⟩:=hI
   obtain rfl:l=r:=by ext j1 j3
   exact ⟨rfl,l,rfl,rfl,j2,j4,j5⟩
 by_cases c:kv κ arr (base+hint)<κ key
 .rw [if_pos (decide_eq_true c)]
  refine aS (kF (kJ (λx q ak=>ak=st/\∃l o,q=(none,l,o)/\l<o/\x+1<=o/\hint+l<n/\kv κ arr (base+(hint+l))<κ key) (Q:=λq ak=>ak=st/\∃l o,q=(none,l,o)/\l<o/\hint+l<n/\kv κ arr (base+(hint+l))<κ key/\(o<n-hint->κ key<kv κ arr (base+(hint+o)))) (λx q ak _ hx hI=>?_) (λq ak hI=>?_) ⟨rfl,0,1,rfl,by decide,by decide,‹_›,c⟩) λq ak hI=>?_)
  .obtain ⟨rfl,l,o,rfl,j1,j2,j3,j4⟩:=hI
   dsimp only
   by_cases c1:o≥n-hint
   .rw [if_pos c1]
    exact aW ⟨rfl,l,o,rfl,j1,j3,j4,λz=>absurd z (by ext c1)⟩
   .rw [if_neg c1]
    refine aS (ask (hint+o) (by ext c1) ?_)
    dsimp only
    by_cases c2:kv κ arr (base+(hint+o))<κ key
    .rw [if_neg (by simpa using c2)]
     exact aW ⟨rfl,o,2*o+1,rfl,by ext,by ext j2,by ext c1,c2⟩
    .rw [if_pos (by simpa using c2)]
     have:=ne (hint+o) (by ext c1)
     exact aW ⟨rfl,l,o,rfl,j1,j3,j4,λ_=>by ext c2 this⟩
  .obtain ⟨rfl,l,o,rfl,j1,j2,j3,j4⟩:=hI
   exact ⟨rfl,l,o,rfl,j1,j3,j4,λz=>absurd z (by ext j2)⟩
  .obtain ⟨rfl,l,o,rfl,j1,j3,j4,j5⟩:=hI
   dsimp only
   refine aS (kF (tail (hint+l+1) (hint+min o (n-hint)) (by ext j1 j3) (by ext hh) (λi hi=>dn i _ (by ext hi) j3 j4) λi hi h'=>?_) λq ak hI=>?_)
   .by_cases c1:o<n-hint
    .exact up (hint+o) i (by ext hi c1) h' (j5 c1)
    .ext hi h' c1
   .obtain ⟨rfl,k,e1,rfl,k1,k2,k3⟩:=hI
    rw [e1]
    exact aW (h _ k1 k2 k3)
 .rw [if_neg (by simpa using c)]
  have c0:=ne hint hh
  refine aS (kF (kJ (λx q ak=>ak=st/\∃l o,q=(none,l,o)/\l<o/\x+1<=o/\l<=hint/\κ key<kv κ arr (base+(hint-l))) (Q:=λq ak=>ak=st/\∃l o,q=(none,l,o)/\l<o/\l<=hint/\κ key<kv κ arr (base+(hint-l))/\(o<hint+1->kv κ arr (base+(hint-o))<κ key)) (λx q ak _ hx hI=>?_) (λq ak hI=>?_) ⟨rfl,0,1,rfl,by decide,by decide,by ext,by rw [Nat.sub_zero];ext c c0⟩) λq ak hI=>?_)
  .obtain ⟨rfl,l,o,rfl,j1,j2,j3,j4⟩:=hI
   dsimp only
   by_cases c1:o≥hint+1
   .rw [if_pos c1]
    exact aW ⟨rfl,l,o,rfl,j1,j3,j4,λz=>absurd z (by ext c1)⟩
   .rw [if_neg c1]
    refine aS (ask (hint-o) (by ext hh) ?_)
    dsimp only
    by_cases c2:kv κ arr (base+(hint-o))<κ key
    .rw [if_pos (decide_eq_true c2)]
     exact aW ⟨rfl,l,o,rfl,j1,j3,j4,λ_=>c2⟩
    .rw [if_neg (by simpa using c2)]
     have:=ne (hint-o) (by ext hh)
     exact aW ⟨rfl,o,2*o+1,rfl,by ext,by ext j2,by ext c1,by ext c2 this⟩
  .obtain ⟨rfl,l,o,rfl,j1,j2,j3,j4⟩:=hI
   exact ⟨rfl,l,o,rfl,j1,j3,j4,λz=>absurd z (by ext hh j2)⟩
  .obtain ⟨rfl,l,o,rfl,j1,j3,j4,j5⟩:=hI
   dsimp only
   refine aS (kF (tail (hint+1-min o (hint+1)) (hint-l) (by ext j1) (by ext hh) (λi hi=>?_) λi hi h'=>up _ i hi h' j4) λq ak hI=>?_)
   .by_cases c1:o<hint+1
    .exact dn i (hint-o) (by ext hi) (by ext hh) (j5 c1)
    .ext hi c1
   .obtain ⟨rfl,k,e1,rfl,k1,k2,k3⟩:=hI
    rw [e1]
    exact aW (h _ k1 k2 k3)
end
section
variable {κ:Keyed->Int}
theorem L6{a:Array Keyed}{i k:Nat}(h:x∈(a.toList.drop i).take k):∃j,∃hj:j<a.size,i<=j/\j<i+k/\x=a[j]:=by
 obtain ⟨n,hn,e⟩:=rJ.mp h
 simp only [jk,nE,gE] at hn
 refine ⟨i+n,by ext hn:1,by ext:1,by ext hn:1,?_⟩
 rw [<-e]
 simp
theorem CB{a:Array Keyed}{i:Nat}(h:x∈a.toList.drop i):∃j,∃hj:j<a.size,i<=j/\x=a[j]:=by
 obtain ⟨n,hn,e⟩:=rJ.mp h
 simp only [nE,gE] at hn
 refine ⟨i+n,by ext hn:1,by ext:1,?_⟩
 rw [<-e]
 simp
theorem fO(h:ei κ a.toList)(h1:i<j)(h2:j<a.size):kv κ a i<kv κ a j:=by
 rw [iE (by ext h1 h2:1),iE h2]
 have:=xw.mp h i j (by simp;ext h1 h2:1) (by simpa using h2) h1
 simpa using this
theorem SK(a:Array Keyed)(i k:Nat):(a.extract i (i+k)).toList=(a.toList.drop i).take k:=by
 rw [ED,E3,KN]
theorem F5(a:Array Keyed)(i:Nat):(a.extract i a.size).toList=a.toList.drop i:=by
 rw [ED,E3]
 exact BU (by simp)
theorem Mi{a:Array Keyed}{i:Nat}(h:i<a.size):(a.toList.drop i).take 1=[a[i]]:=by
 rw [jT (by simpa using h)]
 simp
end
noncomputable abbrev sg(st:SortSt)(g:Nat):SortSt:=BB (kindOf st) (arrOf st) (pendingOf st) g (failedOf st)
section
variable {prog:Program}{w:World}{A:Around}{E:Value->Shared->Prop}{s:Shared}{kd:SortKind}{κ:Keyed->Int}{C:Keyed->Prop}
theorem Fp{st:SortSt}{Q:Unit->SortSt->Prop}(h:Q () (sg st g)):wpS (model prog w) A E s (setG' g) Q st:=by
 show wpS _ _ _ _ (modify _) _ _
 exact qf h
theorem xC{st:SortSt}{Q:Unit->SortSt->Prop}(h:Q () st):wpS (model prog w) A E s (liftM (rule t):StateT SortSt Sem Unit) Q st:=wpS_lift (wU ⟨rfl,h⟩)
structure gq(κ:Keyed->Int)(C:Keyed->Prop)(a b:Array Keyed):Prop where
 sa:ei κ a.toList
 sb:ei κ b.toList
 ca:∀x∈a.toList,C x
 cb:∀x∈b.toList,C x
 ne:∀x∈a.toList,∀y∈b.toList,κ x≠κ y
variable {a b:Array Keyed}
theorem gq.DN(T:gq κ C a b)(h:i<a.size):C a[i]:=T.ca _ (by simp)
theorem gq.DM(T:gq κ C a b)(h:i<b.size):C b[i]:=T.cb _ (by simp)
theorem gq.wA(T:gq κ C a b)(hi:i<a.size)(hj:j<b.size):κ a[i]≠κ b[j]:=T.ne _ (by simp) _ (by simp)
theorem Bc(hk:Ask prog w s kd κ C)(T:gq κ C a b){st:SortSt}(hd:kindOf st=kd){Q:Option Nat->SortSt->Prop}(hi:i<a.size)(hj:j<b.size)
  (h:∀k,i+k<=a.size->(∀x∈(a.toList.drop i).take k,∀y∈b.toList.drop j,κ x<κ y)->(∀y∈a.toList.drop (i+k),κ b[j]<κ y)->Q (some k) st):wpS (model prog w) A E s (a8Z l b[j] a i (a.size-i) 0) Q st:=by
 refine D5 hk hd (T.DM hj) (by ext hi) (by ext hi) (λn hn _ _=>⟨T.DN hn,T.wA hn hj⟩) (λx y h1 h2=>fO T.sa (by ext h1) (by ext h2)) λk k1 k2 k3=>h k (by ext hi k1) (λx hx y hy=>?_) λy hy=>?_
 .obtain ⟨n,hn,n1,n2,rfl⟩:=L6 hx
  obtain ⟨m,hm,m1,rfl⟩:=CB hy
  have e:=k2 (n-i) (by ext n1 n2)
  rw [show i+(n-i)=n by ext n1,iE hn] at e
  by_cases c:j=m
  .subst c;exact e
  .have:=fO T.sb (show j<m by ext m1 c) hm
   rw [iE hj,iE hm] at this
   ext hn hm hj e this
 .obtain ⟨n,hn,n1,rfl⟩:=CB hy
  have e:=k3 (n-i) (by ext n1) (by ext hn n1)
  rw [show i+(n-i)=n by ext n1,iE hn] at e
  exact e
theorem gq.sym(T:gq κ C a b):gq κ C b a:=⟨T.sb,T.sa,T.cb,T.ca,λx hx y hy z=>T.ne y hy x hx z.symm⟩
theorem Inv.oN{out:Array Keyed}{ia ib:Nat}(h:Inv κ a.toList b.toList out.toList ia ib)(T:gq κ C a b)(hi:ia<a.size)(hk:∀y∈b.toList.drop ib,κ a[ia]<κ y):Inv κ a.toList b.toList (out.push a[ia]).toList (ia+1) ib:=by
 rw [xj,<-Mi hi]
 refine h.a T.sa 1 λx hx y hy=>?_
 rw [Mi hi,bT] at hx
 rw [hx]
 exact hk y hy
theorem Inv.oM{out:Array Keyed}{ia ib:Nat}(h:Inv κ a.toList b.toList out.toList ia ib)(T:gq κ C a b)(hi:ib<b.size)(hk:∀y∈a.toList.drop ia,κ b[ib]<κ y):Inv κ a.toList b.toList (out.push b[ib]).toList ia (ib+1):=(h.sym.oN T.sym hi hk).sym
theorem Inv.y4(h:Inv κ a.toList b.toList out.toList ia ib)(T:gq κ C a b)(k:Nat)(hk:∀x∈(a.toList.drop ia).take k,∀y∈b.toList.drop ib,κ x<κ y):Inv κ a.toList b.toList (out++a.extract ia (ia+k)).toList (ia+k) ib:=by
 rw [ny,SK]
 exact h.a T.sa k hk
theorem Inv.Hk(h:Inv κ a.toList b.toList out.toList ia ib)(T:gq κ C a b)(k:Nat)(hk:∀x∈(b.toList.drop ib).take k,∀y∈a.toList.drop ia,κ x<κ y):Inv κ a.toList b.toList (out++b.extract ib (ib+k)).toList ia (ib+k):=(h.sym.y4 T.sym k hk).sym
theorem FQ(T:gq κ C a b)(hi:i<a.size)(hj:j<b.size)(h:κ b[j]<κ a[i]):∀y∈a.toList.drop i,κ b[j]<κ y:=λy hy=>by
 obtain ⟨n,hn,n1,rfl⟩:=CB hy
 by_cases c:i=n
 .subst c;exact h
 .have:=fO T.sa (show i<n by ext n1 c) hn
  rw [iE hi,iE hn] at this
  ext hj hn hi h this
def Mg(κ:Keyed->Int)(a b r:Array Keyed):Prop:=ei κ r.toList/\r.toList.Perm (a.toList++b.toList)
theorem Inv.gQ(h:Inv κ a.toList b.toList out.toList ia ib)(T:gq κ C a b)(hm:ia=a.size\/ib=b.size):Mg κ a b (out++a.extract ia a.size++b.extract ib b.size):=by
 unfold Mg
 rw [ny,ny,F5,F5]
 refine h.done T.sa T.sb λx hx y hy=>?_
 obtain ⟨n,hn,n1,rfl⟩:=CB hx
 obtain ⟨m,hm,m1,rfl⟩:=CB hy
 lia
theorem Inv.jw(h:Inv κ a.toList b.toList out.toList ia ib)(T:gq κ C a b)(hm:∀x∈b.toList,∀y∈a.toList.drop (a.size-1),κ x<κ y)(hi:ia+1=a.size):Mg κ a b (out++b.extract ib b.size++a.extract ia a.size):=by
 unfold Mg
 rw [ny,ny,F5,F5]
 exact h.last T.sa T.sb λx hx y hy=>hm x (vo hx) y (by rw [<-hi];exact hy)
theorem Fw{n:Nat}(h:2<=n)(h':¬n-1=1):2<=n-1:=by ext h h'
theorem b7G(h:¬m=1)(h':¬m=0):2<=m:=by ext h h'
theorem Aj{β γ:Type}{M:Model}{c:γ->Prop}[∀v,Decidable (c v)]{x y:γ->StateT SortSt Sem β}{Q:β->SortSt->Prop}{st:SortSt}(u:γ->γ)(hx:∀v,x v=y (u v))(h:∀u,wpS M A E s (y u) Q st):∀v,wpS M A E s (if c v then x v else y v) Q st:=λv=>by
 rw [hx]
 split<;>exact h _
theorem Fc{β γ δ:Type}{M:Model}{c:Prop}[Decidable c]{R:γ->δ->Prop}{x y:γ->δ->StateT SortSt Sem β}{Q:β->SortSt->Prop}{st:SortSt}(P:γ->δ->Prop)(hF:∀u v,P u v->wpS M A E s (y u v) Q st)
  (h1:∀u v,R u v->(∀u v,P u v->wpS M A E s (y u v) Q st)->c->wpS M A E s (x u v) Q st)(h2:∀u v,R u v->¬c->P u v):∀u v,R u v->wpS M A E s (if c then x u v else y u v) Q st:=λu v hR=>by
 by_cases hc:c
 .rw [if_pos hc];exact h1 u v hR hF hc
 .rw [if_neg hc];exact hF u v (h2 u v hR hc)
structure J(κ:Keyed->Int)(a b out:Array Keyed)(ia ib:Nat):Prop where
 inv:Inv κ a.toList b.toList out.toList ia ib
 la:ia+1<a.size
 lb:ib<b.size
theorem Yz(hk:Ask prog w s kd κ C)(T:gq κ C a b){st:SortSt}(hd:kindOf st=kd){Q:Array Keyed->SortSt->Prop}(ha:0<a.size)(hb:0<b.size)(h0:κ b[0]<κ a[0])(hm:∀x∈b.toList,∀y∈a.toList.drop (a.size-1),κ x<κ y)
  (h:∀r g,Mg κ a b r->Q r (sg st g)):wpS (model prog w) A E s (b3j a b) Q st:=by
 unfold wpS
 wp_delta
 wp_delta
 wp_delta
 refine xQ (Q:=Q) (aS (xC (aS (ig hb ?_))))
 dsimp only
 have i0:Inv κ a.toList b.toList (#[b[0]]:Array Keyed).toList 0 1:=(An (κ:=κ) (la:=a.toList) (lb:=b.toList)).oM (out:=#[]) T hb (FQ T ha hb h0)
 by_cases c1:1=b.size
 .rw [if_pos (by simpa using c1)]
  exact aW (h _ (gallopOf st) (i0.gQ T (.inr c1)))
 rw [if_neg (by simpa using c1)]
 by_cases c2:0+1=a.size
 .rw [if_pos (by simpa using c2)]
  exact aW (h _ (gallopOf st) (i0.jw T hm c2))
 rw [if_neg (by simpa using c2)]
 refine aS (nv ?_)
 refine aS (kF (kJ (λx q ak=>(∃g,ak=sg st g)/\∃out ia ib mg,q=(none,out,ia,ib,mg)/\J κ a b out ia ib/\x+1<=ia+ib) (Q:=λq ak=>(∃g,ak=sg st g)/\∃r,q.1=some r/\Mg κ a b r) (λx q ak _ hx hI=>?_) (λq ak hI=>?_) ⟨⟨gallopOf st,rfl⟩,_,_,_,_,rfl,⟨i0,by ext ha c2,by ext hb c1⟩,by decide⟩) λq ak hI=>?_)
 .obtain ⟨⟨g,rfl⟩,out,ia,ib,mg,rfl,hJ,hp⟩:=hI
  dsimp only
  refine aS (kF (kJ (λx q ak=>(∃g,ak=sg st g)/\∃fQ jh lV ac bc,q=(none,fQ,jh,lV,ac,bc)/\J κ a b fQ jh lV/\ia+ib+x<=jh+lV) (Q:=λq ak=>(∃g,ak=sg st g)/\((∃r,q.1=some r/\Mg κ a b r)\/∃fQ jh lV ac bc,q=(none,fQ,jh,lV,ac,bc)/\J κ a b fQ jh lV/\ia+ib+1<=jh+lV)) (λx q ak _ hx hI=>?_) (λq ak hI=>?_) ⟨⟨_,rfl⟩,_,_,_,_,_,rfl,hJ,by ext⟩) λq ak hI=>?_)
  .obtain ⟨⟨g,rfl⟩,out,ia,ib,ac,bc,rfl,hJ,hp⟩:=hI
   dsimp only
   refine aS (ig hJ.lb (aS (ig (vm hJ.la) (aS (zZ hk hd (T.DM hJ.lb) (T.DN _) (fE (T.wA _ hJ.lb)) ?_)))))
   dsimp only
   have la:=hJ.la
   have lb:=hJ.lb
   by_cases c:κ b[ib]<κ a[ia]
   .rw [if_pos (decide_eq_true c)]
    refine aS (ig hJ.lb ?_)
    have i2:=hJ.inv.oM T hJ.lb (FQ T (by ext la) lb c)
    by_cases d1:ib+1=b.size
    .rw [if_pos (by simpa using d1)]
     exact aW ⟨⟨_,rfl⟩,.inl ⟨_,rfl,i2.gQ T (.inr d1)⟩⟩
    rw [if_neg (by simpa using d1)]
    by_cases d2:bc+1≥mg
    .rw [if_pos d2]
     exact aW ⟨⟨_,rfl⟩,.inr ⟨_,_,_,_,_,rfl,⟨i2,la,by ext lb d1⟩,by ext hp⟩⟩
    .rw [if_neg d2]
     exact aW ⟨⟨_,rfl⟩,_,_,_,_,_,rfl,⟨i2,la,by ext lb d1⟩,by ext hp⟩
   .rw [if_neg (by simpa using c)]
    refine aS (ig (vm hJ.la) ?_)
    have cC:=T.wA (vm hJ.la) hJ.lb
    have i2:=hJ.inv.oN T (vm hJ.la) (FQ T.sym lb (by ext la) (by ext la lb ha hb c cC))
    by_cases d1:ia+1+1=a.size
    .rw [if_pos (by simpa using d1)]
     exact aW ⟨⟨_,rfl⟩,.inl ⟨_,rfl,i2.jw T hm d1⟩⟩
    rw [if_neg (by simpa using d1)]
    by_cases d2:ac+1≥mg
    .rw [if_pos d2]
     exact aW ⟨⟨_,rfl⟩,.inr ⟨_,_,_,_,_,rfl,⟨i2,by ext la d1,lb⟩,by ext hp⟩⟩
    .rw [if_neg d2]
     exact aW ⟨⟨_,rfl⟩,_,_,_,_,_,rfl,⟨i2,by ext la d1,lb⟩,by ext hp⟩
  .obtain ⟨hg,out,ia,ib,ac,bc,rfl,hJ,hp⟩:=hI
   exact ⟨hg,.inr ⟨_,_,_,_,_,rfl,hJ,by ext hb hp⟩⟩
  .obtain ⟨⟨g,rfl⟩,⟨r,e,hr⟩ | ⟨fQ,jh,lV,ac,bc,rfl,Jg,q9⟩⟩:=hI
   .obtain ⟨q1,q2⟩:=q
    dsimp only at e
    rw [e]
    exact aW ⟨⟨_,rfl⟩,_,rfl,hr⟩
   dsimp only
   refine aS (xC ?_)
   refine aS (kF (kJ (λx q ak=>(∃g,ak=sg st g)/\∃out ja jb mg ac bc,q=(none,out,ja,jb,mg,ac,bc)/\J κ a b out ja jb/\jh+lV<=ja+jb) (Q:=λq ak=>(∃g,ak=sg st g)/\((∃r,q.1=some r/\Mg κ a b r)\/∃out ja jb mg ac bc,q=(none,out,ja,jb,mg,ac,bc)/\J κ a b out ja jb/\jh+lV<=ja+jb)) (λx q ak _ hx hI=>?_) (λq ak hI=>?_) ⟨⟨_,rfl⟩,_,_,_,_,_,_,rfl,Jg,by ext⟩) λq ak hI=>?_)
   .obtain ⟨⟨g,rfl⟩,out,ja,jb,mg,ac,bc,rfl,hJ,hp⟩:=hI
    dsimp only
    have la:=hJ.la
    have lb:=hJ.lb
    revert mg
    refine Aj (λmg=>mg-1) (λ_=>rfl) λmg=>?_
    refine aS (Fp (aS (ig lb (aS ?_))))
    refine Bc hk T ?_ (vm la) lb λk k1 k2 k3=>?_
    .exact hd
    dsimp only
    have hR:Inv κ a.toList b.toList out.toList ja jb/\(k=0->∀y∈a.toList.drop ja,κ b[jb]<κ y)/\(k=0->ja+1<a.size)/\jh+lV<=ja+jb/\ja+k<=a.size/\(∀x∈(a.toList.drop ja).take k,∀y∈b.toList.drop jb,κ x<κ y)/\∀y∈a.toList.drop (ja+k),κ b[jb]<κ y:=⟨hJ.inv,λz=>by rw [z] at k3;exact k3,λ_=>la,hp,k1,k2,k3⟩
    clear hJ la hp k1 k2 k3
    revert out ja
    refine Fc (λo j=>Inv κ a.toList b.toList o.toList j jb/\j+1<a.size/\(∀y∈a.toList.drop j,κ b[jb]<κ y)/\jh+lV<=j+jb) ?_ (λout ja hR hF d0=>?_) λout ja hR d0=>⟨hR.1,hR.2.2.1 (vF d0),hR.2.1 (vF d0),hR.2.2.2.1⟩
    .rintro o j ⟨i1,hj,k3,hp⟩
     have sN:=vm hj
     refine aS (ig lb ?_)
     have i2:=i1.oM T lb k3
     by_cases d3:jb+1=b.size
     .rw [if_pos (by simpa using d3)]
      exact aW ⟨⟨_,rfl⟩,.inl ⟨_,rfl,i2.gQ T (.inr d3)⟩⟩
     rw [if_neg (by simpa using d3)]
     have l2:jb+1<b.size:=B4 lb d3
     refine aS (ig sN (aS ?_))
     refine Bc hk T.sym ?_ l2 sN λm m1 m2 m3=>?_
     .exact hd
     dsimp only
     have hR:Inv κ a.toList b.toList (o.push b[jb]).toList j (jb+1)/\(m=0->∀y∈b.toList.drop (jb+1),κ a[j]<κ y)/\jb+1<b.size/\jh+lV<=j+(jb+1)/\jb+1+m<=b.size/\(∀x∈(b.toList.drop (jb+1)).take m,∀y∈a.toList.drop j,κ x<κ y)/\∀y∈b.toList.drop (jb+1+m),κ a[j]<κ y:=⟨i2,λz=>by rw [z] at m3;exact m3,l2,Nat.le_succ_of_le hp,m1,m2,m3⟩
     clear i2 l2 m1 m2 m3
     generalize o.push b[jb]=o2 at hR ⊢
     generalize jb+1=j2 at hR ⊢
     revert o2 j2
     refine Fc (λp q=>Inv κ a.toList b.toList p.toList j q/\q<b.size/\(∀y∈b.toList.drop q,κ a[j]<κ y)/\jh+lV<=j+q) ?_ (λo2 j2 hR hF d4=>?_) λout ja hR d0=>⟨hR.1,hR.2.2.1,hR.2.1 (vF d0),hR.2.2.2.1⟩
     .rintro p q ⟨i3,hq,m3,hp⟩
      refine aS (ig sN ?_)
      have i4:=i3.oN T sN m3
      by_cases d6:j+1+1=a.size
      .rw [if_pos (by simpa using d6)]
       exact aW ⟨⟨_,rfl⟩,.inl ⟨_,rfl,i4.jw T hm d6⟩⟩
      rw [if_neg (by simpa using d6)]
      have hJ:J κ a b (p.push a[j]) (j+1) q:=⟨i4,B4 hj d6,hq⟩
      have wH:jh+lV<=j+1+q:=dY hp (KP (BK j) q)
      by_cases d7:(decide (k<7)&&decide (m<7))=true
      .rw [if_pos d7]
       exact aW ⟨⟨_,rfl⟩,.inr ⟨_,_,_,_,_,_,rfl,hJ,wH⟩⟩
      .rw [if_neg d7]
       exact aW ⟨⟨_,rfl⟩,_,_,_,_,_,_,rfl,hJ,wH⟩
     .obtain ⟨i2,_,l2,hp,m1,m2,m3⟩:=hR
      have i3:=i2.Hk T m m2
      by_cases d5:j2+m=b.size
      .rw [if_pos (by simpa using d5)]
       exact aW ⟨⟨_,rfl⟩,.inl ⟨_,rfl,i3.gQ T (.inr d5)⟩⟩
      rw [if_neg (by simpa using d5)]
      exact hF _ _ ⟨i3,B4 m1 d5,m3,dY hp (Nat.add_le_add_left (tj j2 m) j)⟩
    .obtain ⟨i0,_,la,hp,k1,k2,k3⟩:=hR
     have i1:=i0.y4 T k k2
     by_cases d1:ja+k+1=a.size
     .rw [if_pos (by simpa using d1)]
      exact aW ⟨⟨_,rfl⟩,.inl ⟨_,rfl,i1.jw T hm d1⟩⟩
     rw [if_neg (by simpa using d1)]
     by_cases d2:ja+k=a.size
     .rw [if_pos (by simpa using d2)]
      exact aW ⟨⟨_,rfl⟩,.inl ⟨_,rfl,i1.gQ T (.inl d2)⟩⟩
     rw [if_neg (by simpa using d2)]
     exact hF _ _ ⟨i1,B4 (B4 k1 d2) d1,k3,dY hp (KP (tj ja k) jb)⟩
   .obtain ⟨hg,out,ja,jb,mg,ac,bc,rfl,hJ,hp⟩:=hI
    exact ⟨hg,.inr ⟨_,_,_,_,_,_,rfl,hJ,‹_›⟩⟩
   .obtain ⟨⟨g,rfl⟩,⟨r,e,hr⟩ | ⟨out,ja,jb,mg,ac,bc,rfl,hJ,hp⟩⟩:=hI
    .obtain ⟨q1,q2⟩:=q
     dsimp only at e
     rw [e]
     exact aW ⟨⟨_,rfl⟩,_,rfl,hr⟩
    .dsimp only
     exact aS (Fp (aW ⟨⟨_,rfl⟩,_,_,_,_,rfl,hJ,by lia⟩))
 .obtain ⟨_,out,ia,ib,mg,rfl,hJ,hp⟩:=hI
  have la:=hJ.la
  have lb:=hJ.lb
  ext _ hb hp la lb
 .obtain ⟨⟨g,rfl⟩,r,e,hr⟩:=hI
  rw [e]
  exact aW (h _ _ hr)
end
section
variable {prog:Program}{w:World}{A:Around}{E:Value->Shared->Prop}{s:Shared}{kd:SortKind}{κ:Keyed->Int}{C:Keyed->Prop}{a b:Array Keyed}
noncomputable def ng(κ:Keyed->Int)(x:Keyed):Int:=-κ x
theorem dz:ei (ng κ) l.reverse↔ei κ l:=by
 unfold ei
 rw [List.pairwise_reverse]
 constructor<;>exact λh=>h.imp λz=>by unfold ng at *;ext z
theorem qm(l:List Keyed)(h:n<=l.length):l.reverse.drop (l.length-n)=(l.take n).reverse:=by
 rw [List.reverse_take]
theorem QV(l:List Keyed)(h:n<=l.length)(hk:k<=n):(l.reverse.drop (l.length-n)).take (n-k)=((l.take n).drop k).reverse:=by
 rw [qm l h,List.reverse_drop,jk,JO h]
theorem F4(a:Array Keyed)(n:Nat):(a.extract 0 n).toList=a.toList.take n:=by
 rw [ED,E3]
 rfl
theorem Ms(a:Array Keyed)(i n:Nat):(a.extract i n).toList=(a.toList.take n).drop i:=by
 rw [ED,E3,J1]
structure H(κ:Keyed->Int)(a b out:Array Keyed)(na nb:Nat):Prop where
 inv:Inv (ng κ) a.toList.reverse b.toList.reverse out.toList (a.toList.length-na) (b.toList.length-nb)
 la:na<=a.toList.length
 lb:nb<=b.toList.length
variable {out:Array Keyed}{na nb:Nat}
theorem H.sym(h:H κ a b out na nb):H κ b a out nb na:=⟨h.inv.sym,h.lb,h.la⟩
theorem H.seg(h:H κ a b out na nb)(T:gq κ C a b)(hk:k<=na)(hx:∀x∈(a.toList.take na).drop k,∀y∈b.toList.take nb,κ y<κ x):H κ a b (out++(a.extract k na).reverse) k nb:=by
 have la:=h.la
 refine ⟨?_,by ext hk la,h.lb⟩
 have i:=h.inv.a (dz.mpr T.sa) (na-k) λx mG y hy=>?_
 .rw [QV _ h.la hk,show a.toList.length-na+(na-k)=a.toList.length-k by ext hk la] at i
  rw [ny,EC,Ms]
  exact i
 .rw [QV _ h.la hk] at mG
  rw [qm _ h.lb] at hy
  have:=hx x (xu.mp mG) y (xu.mp hy)
  unfold ng
  ext this
theorem H.push(h:H κ a b out na nb)(T:gq κ C a b)(h0:0<na)(hn:na-1<a.size)(hx:∀y∈b.toList.take nb,κ y<κ a[na-1]):H κ a b (out.push a[na-1]) (na-1) nb:=by
 have la:=h.la
 rw [gE] at la
 have e:(a.toList.take na).drop (na-1)=[a[na-1]]:=by
  rw [J1,show na-(na-1)=1 by ext h0,Mi hn]
 have:=h.seg T (k:=na-1) (by ext) λx mG y hy=>by
  rw [e,bT] at mG
  rw [mG]
  exact hx y hy
 have e2:out++(a.extract (na-1) na).reverse=out.push a[na-1]:=by
  apply Array.toList_inj.mp
  rw [ny,EC,Ms,e,xj]
  rfl
 rw [e2] at this
 exact this
theorem H.zQ(h:H κ a b out na nb)(T:gq κ C a b)(hm:na=0\/nb=0):Mg κ a b (a.extract 0 na++b.extract 0 nb++out.reverse):=by
 have q:=h.inv.last (dz.mpr T.sa) (dz.mpr T.sb) λx hx y hy=>by
  rw [qm _ h.lb,xu] at hx
  rw [qm _ h.la,xu] at hy
  rcases hm with rfl | rfl
  .rw [List.take_zero] at hy;cases hy
  .rw [List.take_zero] at hx;cases hx
 have e:(a.extract 0 na++b.extract 0 nb++out.reverse).toList=(out.toList++b.toList.reverse.drop (b.toList.length-nb)++a.toList.reverse.drop (a.toList.length-na)).reverse:=by
  rw [qm _ h.lb,qm _ h.la,ny,ny,EC,F4,F4]
  simp
 unfold Mg
 rw [e]
 refine ⟨?_,?_⟩
 .have:=q.1
  rw [<-PY (as:=out.toList++_++_)] at this
  exact dz.mp this
 .refine (xi _).trans (q.2.trans ?_)
  exact (xi _).append (xi _)
theorem H.DI(h:H κ a b out na nb)(T:gq κ C a b)(hm:∀x∈b.toList.take nb,∀y∈a.toList,κ x<κ y):Mg κ a b (b.extract 0 nb++a.extract 0 na++out.reverse):=by
 have q:=h.inv.done (dz.mpr T.sa) (dz.mpr T.sb) λx hx y hy=>by
  rw [qm _ h.la,xu] at hx
  rw [qm _ h.lb,xu] at hy
  have:=hm y hy x (vq hx)
  unfold ng
  ext this
 have e:(b.extract 0 nb++a.extract 0 na++out.reverse).toList=(out.toList++a.toList.reverse.drop (a.toList.length-na)++b.toList.reverse.drop (b.toList.length-nb)).reverse:=by
  rw [qm _ h.lb,qm _ h.la,ny,ny,EC,F4,F4]
  simp
 unfold Mg
 rw [e]
 refine ⟨?_,?_⟩
 .have:=q.1
  rw [<-PY (as:=out.toList++_++_)] at this
  exact dz.mp this
 .refine (xi _).trans (q.2.trans ?_)
  exact (xi _).append (xi _)
theorem Lo(h:x∈a.toList.take n):∃j,∃hj:j<a.size,j<n/\x=a[j]:=by
 obtain ⟨j,hj,_,j2,e⟩:=L6 (i:=0) (k:=n) (by rw [Ek];exact h)
 exact ⟨j,hj,by ext j2,e⟩
theorem Le(T:gq κ C a b)(hi:i<a.size)(hj:j<b.size)(h:κ b[j]<κ a[i]):∀y∈b.toList.take (j+1),κ y<κ a[i]:=λy hy=>by
 obtain ⟨m,hm,m1,rfl⟩:=Lo hy
 by_cases c:m=j
 .subst c;exact h
 .have:=fO T.sb (show m<j by ext m1 c) hj
  rw [iE hm,iE hj] at this
  ext hm hi hj h this
theorem Bb(hk:Ask prog w s kd κ C)(T:gq κ C a b){st:SortSt}(hd:kindOf st=kd){Q:Option Nat->SortSt->Prop}(hn:n<=a.size)(h0:0<n)(hj:j<b.size)
  (h:∀k,k<=n->(∀x∈(a.toList.take n).drop k,∀y∈b.toList.take (j+1),κ y<κ x)->(∀y∈a.toList.take k,κ y<κ b[j])->Q (some k) st):wpS (model prog w) A E s (a8Z l b[j] a 0 n (n-1)) Q st:=by
 refine D5 hk hd (T.DM hj) (by ext hn) (by ext h0) (λn hn _ _=>⟨T.DN hn,T.wA hn hj⟩) (λx y h1 h2=>fO T.sa (by ext h1) (by ext hn h2)) λk k1 k2 k3=>h k ‹_› (λx hx=>?_) λy hy=>?_
 .rw [J1] at hx
  obtain ⟨m,hm,m1,m2,rfl⟩:=L6 hx
  have e:=k3 m ‹_› (by ext k1 m2)
  rw [tq,iE hm] at e
  exact Le T hm hj e
 .obtain ⟨m,hm,m1,rfl⟩:=Lo hy
  have e:=k2 m ‹_›
  rw [tq,iE hm] at e
  exact e
theorem YA(hk:Ask prog w s kd κ C)(T:gq κ C a b){st:SortSt}(hd:kindOf st=kd){Q:Array Keyed->SortSt->Prop}(ha:0<a.size)(hb:0<b.size)(h0:κ b[0]<κ a[0])(hm:∀x∈b.toList,κ x<κ a[a.size-1])
  (h:∀r g,Mg κ a b r->Q r (sg st g)):wpS (model prog w) A E s (b3k a b) Q st:=by
 unfold wpS
 wp_delta
 wp_delta
 wp_delta
 refine xQ (Q:=Q) (aS (xC (aS (ig (show a.size-1<a.size by ext ha) ?_))))
 dsimp only
 have hz:H κ a b #[] a.size b.size:=⟨by rw [gE,gE,BF,BF];exact An,by simp,by simp⟩
 have i0:H κ a b #[a[a.size-1]] (a.size-1) b.size:=hz.push T ha (by ext ha) λy hy=>hm y (vq hy)
 have hf:∀x∈b.toList.take 1,∀y∈a.toList,κ x<κ y:=λx hx y hy=>by
  obtain ⟨m,hm,m1,rfl⟩:=Lo hx
  obtain rfl:m=0:=by ext m1
  exact FQ T ha hb h0 y (by rw [Ek];exact hy)
 by_cases c1:a.size-1=0
 .rw [if_pos (by simpa using c1)]
  exact aW (h _ (gallopOf st) (i0.zQ T (.inl c1)))
 rw [if_neg (by simpa using c1)]
 by_cases c2:b.size=1
 .rw [if_pos (by simpa using c2)]
  exact aW (h _ (gallopOf st) (i0.DI T (by rw [c2];exact hf)))
 rw [if_neg (by simpa using c2)]
 refine aS (nv ?_)
 refine aS (kF (kJ (λx q ak=>(∃g,ak=sg st g)/\∃na nb out mg,q=(none,na,nb,out,mg)/\H κ a b out na nb/\1<=na/\2<=nb/\na+nb+x+1<=a.size+b.size) (Q:=λq ak=>(∃g,ak=sg st g)/\∃r,q.1=some r/\Mg κ a b r) (λx q ak _ hx hI=>?_) (λq ak hI=>?_) ⟨⟨gallopOf st,rfl⟩,_,_,_,_,rfl,i0,by ext ha c1,by ext hb c2,by ext ha⟩) λq ak hI=>?_)
 .obtain ⟨⟨g,rfl⟩,na,nb,out,mg,rfl,hJ,ga,gb,hp⟩:=hI
  dsimp only
  refine aS (kF (kJ (λx q ak=>(∃g,ak=sg st g)/\∃mE mD fQ ac bc,q=(none,mE,mD,fQ,ac,bc)/\H κ a b fQ mE mD/\1<=mE/\2<=mD/\mE+mD+x<=na+nb) (Q:=λq ak=>(∃g,ak=sg st g)/\((∃r,q.1=some r/\Mg κ a b r)\/∃mE mD fQ ac bc,q=(none,mE,mD,fQ,ac,bc)/\H κ a b fQ mE mD/\1<=mE/\2<=mD/\mE+mD+1<=na+nb)) (λx q ak _ hx hI=>?_) (λq ak hI=>?_) ⟨⟨_,rfl⟩,_,_,_,_,_,rfl,hJ,ga,gb,by ext⟩) λq ak hI=>?_)
  .obtain ⟨⟨g,rfl⟩,na,nb,out,ac,bc,rfl,hJ,ga,gb,hp⟩:=hI
   dsimp only
   have la:=hJ.la
   have lb:=hJ.lb
   rw [gE] at la lb
   have xa:na-1<a.size:=by ext ga la
   have xb:nb-1<b.size:=by ext gb lb
   refine aS (ig xb (aS (ig xa (aS (zZ hk hd (T.DM xb) (T.DN xa) (fE (T.wA xa xb)) ?_)))))
   dsimp only
   by_cases c:κ b[nb-1]<κ a[na-1]
   .rw [if_pos (decide_eq_true c)]
    refine aS (ig xa ?_)
    have i2:=hJ.push T ‹_› xa (by have:=Le T xa xb c;rw [show nb-1+1=nb by ext gb] at this;exact this)
    by_cases d1:na-1=0
    .rw [if_pos (by simpa using d1)]
     exact aW ⟨⟨_,rfl⟩,.inl ⟨_,rfl,i2.zQ T (.inl d1)⟩⟩
    rw [if_neg (by simpa using d1)]
    by_cases d2:ac+1≥mg
    .rw [if_pos d2]
     exact aW ⟨⟨_,rfl⟩,.inr ⟨_,_,_,_,_,rfl,i2,by ext d1,‹_›,by ext hp d1⟩⟩
    .rw [if_neg d2]
     exact aW ⟨⟨_,rfl⟩,_,_,_,_,_,rfl,i2,by ext d1,‹_›,by ext hp d1⟩
   .rw [if_neg (by simpa using c)]
    refine aS (ig xb ?_)
    have cC:=T.wA xa xb
    have i2:=(hJ.sym.push T.sym (by ext gb) xb (by have:=Le T.sym xb xa (by ext xa xb c cC);rw [show na-1+1=na by ext ga] at this;exact this)).sym
    by_cases d1:nb-1=1
    .rw [if_pos (by simpa using d1)]
     exact aW ⟨⟨_,rfl⟩,.inl ⟨_,rfl,i2.DI T (by rw [d1];exact hf)⟩⟩
    rw [if_neg (by simpa using d1)]
    by_cases d2:bc+1≥mg
    .rw [if_pos d2]
     exact aW ⟨⟨_,rfl⟩,.inr ⟨_,_,_,_,_,rfl,i2,‹_›,by ext gb d1,by ext gb hp⟩⟩
    .rw [if_neg d2]
     exact aW ⟨⟨_,rfl⟩,_,_,_,_,_,rfl,i2,‹_›,by ext gb d1,by ext gb hp⟩
  .obtain ⟨hg,na,nb,out,ac,bc,rfl,hJ,ga,gb,hp⟩:=hI
   exact ⟨hg,.inr ⟨_,_,_,_,_,rfl,hJ,ga,gb,by ext ha hb hp⟩⟩
  .obtain ⟨⟨g,rfl⟩,⟨r,e,hr⟩ | ⟨mE,mD,fQ,ac,bc,rfl,Jg,ga',gb',q9⟩⟩:=hI
   .obtain ⟨q1,q2⟩:=q
    dsimp only at e
    rw [e]
    exact aW ⟨⟨_,rfl⟩,_,rfl,hr⟩
   dsimp only
   refine aS (xC ?_)
   refine aS (kF (kJ (λx q ak=>(∃g,ak=sg st g)/\∃ja jb out mg ac bc,q=(none,ja,jb,out,mg,ac,bc)/\H κ a b out ja jb/\1<=ja/\2<=jb/\ja+jb<=mE+mD) (Q:=λq ak=>(∃g,ak=sg st g)/\((∃r,q.1=some r/\Mg κ a b r)\/∃ja jb out mg ac bc,q=(none,ja,jb,out,mg,ac,bc)/\H κ a b out ja jb/\1<=ja/\2<=jb/\ja+jb<=mE+mD)) (λx q ak _ hx hI=>?_) (λq ak hI=>?_) ⟨⟨_,rfl⟩,_,_,_,_,_,_,rfl,Jg,ga',gb',by ext⟩) λq ak hI=>?_)
   .obtain ⟨⟨g,rfl⟩,ja,jb,out,mg,ac,bc,rfl,hJ,ga,gb,hp⟩:=hI
    dsimp only
    have la:=hJ.la
    have lb:=hJ.lb
    rw [gE] at la lb
    have xb:jb-1<b.size:=by ext gb lb
    revert mg
    refine Aj (λmg=>mg-1) (λ_=>rfl) λmg=>?_
    refine aS (Fp (aS (ig xb (aS ?_))))
    refine Bb hk T ?_ la ga xb λk k1 k2 k3=>?_
    .exact hd
    dsimp only
    have jj:jb-1+1=jb:=Nat.sub_add_cancel (Nat.le_of_succ_le gb)
    rw [jj] at k2
    have hR:H κ a b out ja jb/\(ja-k=0->1<=ja/\ja<=k)/\k<=ja/\(∀x∈(a.toList.take ja).drop k,∀y∈b.toList.take jb,κ y<κ x):=⟨hJ,λz=>⟨ga,P5 z⟩,k1,k2⟩
    have ZK:k<=a.size:=dY k1 la
    have Zx:k+jb<=mE+mD:=dY (KP k1 jb) hp
    clear hJ k2 la ga hp k1
    generalize ja-k=cnt at hR ⊢
    revert out ja
    refine Fc (λn o=>H κ a b o n jb/\n=k/\1<=n) ?_ (λja out hR hF d0=>?_) λja out hR d0=>⟨hR.1,JQ (hR.2.1 (vF d0)).2 hR.2.2.1,(hR.2.1 (vF d0)).1⟩
    .rintro n o ⟨i1,rfl,hn⟩
     have xa:n-1<a.size:=iQ (Nat.sub_lt hn Nat.one_pos) ZK
     refine aS (ig xb ?_)
     have i2:=(i1.sym.push T.sym (Nat.lt_of_succ_le (Nat.le_of_succ_le gb)) xb k3).sym
     by_cases d3:jb-1=1
     .rw [if_pos (by simpa using d3)]
      exact aW ⟨⟨_,rfl⟩,.inl ⟨_,rfl,i2.DI T (by rw [d3];exact hf)⟩⟩
     rw [if_neg (by simpa using d3)]
     have g2:2<=jb-1:=Fw gb d3
     have g3:jb-1<=b.size:=w9 xb
     refine aS (ig xa (aS ?_))
     refine Bb hk T.sym ?_ g3 (vm g2) xa λm m1 m2 m3=>?_
     .exact hd
     dsimp only
     rw [Nat.sub_add_cancel hn] at m2
     have hR:H κ a b (o.push b[jb-1]) n (jb-1)/\(jb-1-m=0->2<=jb-1/\jb-1<=m)/\m<=jb-1/\(∀x∈(b.toList.take (jb-1)).drop m,∀y∈a.toList.take n,κ y<κ x):=⟨i2,λz=>⟨g2,P5 z⟩,m1,m2⟩
     have DT:n-1+m<=mE+mD:=dY (Nat.add_le_add (Nat.sub_le n 1) (dY m1 (Nat.sub_le jb 1))) Zx
     clear i2 g2 g3 m1 m2
     generalize jb-1-m=JF at hR ⊢
     generalize o.push b[jb-1]=o2 at hR ⊢
     generalize jb-1=j2 at hR ⊢
     revert o2 j2
     refine Fc (λp q=>H κ a b p n q/\q=m/\2<=q) ?_ (λo2 j2 hR hF d4=>?_) λout ja hR d0=>⟨hR.1,JQ (hR.2.1 (vF d0)).2 hR.2.2.1,(hR.2.1 (vF d0)).1⟩
     .rintro p q ⟨i3,rfl,hq⟩
      refine aS (ig xa ?_)
      have i4:=i3.push T hn xa m3
      by_cases d6:n-1=0
      .rw [if_pos (by simpa using d6)]
       exact aW ⟨⟨_,rfl⟩,.inl ⟨_,rfl,i4.zQ T (.inl d6)⟩⟩
      rw [if_neg (by simpa using d6)]
      have h6:1<=n-1:=Nat.pos_of_ne_zero d6
      by_cases d7:(decide (cnt<7)&&decide (JF<7))=true
      .rw [if_pos d7]
       exact aW ⟨⟨_,rfl⟩,.inr ⟨_,_,_,_,_,_,rfl,i4,h6,hq,DT⟩⟩
      .rw [if_neg d7]
       exact aW ⟨⟨_,rfl⟩,_,_,_,_,_,_,rfl,i4,h6,hq,DT⟩
     .obtain ⟨i2,_,m1,m2⟩:=hR
      have i3:=(i2.sym.seg T.sym m1 m2).sym
      by_cases d5:m=1
      .rw [if_pos (by simpa using d5)]
       exact aW ⟨⟨_,rfl⟩,.inl ⟨_,rfl,i3.DI T (by rw [d5];exact hf)⟩⟩
      rw [if_neg (by simpa using d5)]
      by_cases d8:m=0
      .rw [if_pos (by simpa using d8)]
       exact aW ⟨⟨_,rfl⟩,.inl ⟨_,rfl,i3.zQ T (.inr d8)⟩⟩
      rw [if_neg (by simpa using d8)]
      exact hF _ _ ⟨i3,rfl,b7G d5 d8⟩
    .obtain ⟨hJ,_,k1,k2⟩:=hR
     have i1:=hJ.seg T k1 k2
     by_cases d1:k=0
     .rw [if_pos (by simpa using d1)]
      exact aW ⟨⟨_,rfl⟩,.inl ⟨_,rfl,i1.zQ T (.inl d1)⟩⟩
     rw [if_neg (by simpa using d1)]
     exact hF _ _ ⟨i1,rfl,Nat.pos_of_ne_zero d1⟩
   .obtain ⟨hg,ja,jb,out,mg,ac,bc,rfl,hJ,ga,gb,hp⟩:=hI
    exact ⟨hg,.inr ⟨_,_,_,_,_,_,rfl,hJ,ga,gb,‹_›⟩⟩
   .obtain ⟨⟨g,rfl⟩,⟨r,e,hr⟩ | ⟨ja,jb,out,mg,ac,bc,rfl,hJ,ga,gb,hp⟩⟩:=hI
    .obtain ⟨q1,q2⟩:=q
     dsimp only at e
     rw [e]
     exact aW ⟨⟨_,rfl⟩,_,rfl,hr⟩
    .dsimp only
     exact aS (Fp (aW ⟨⟨_,rfl⟩,_,_,_,_,rfl,hJ,ga,gb,by lia⟩))
 .obtain ⟨_,na,nb,out,mg,rfl,hJ,ga,gb,hp⟩:=hI
  ext _ hp
 .obtain ⟨⟨g,rfl⟩,r,e,hr⟩:=hI
  rw [e]
  exact aW (h _ _ hr)
end
section
variable {prog:Program}{w:World}{A:Around}{E:Value->Shared->Prop}{s:Shared}{kd:SortKind}{κ:Keyed->Int}{C:Keyed->Prop}
theorem b5g{σ:Type}{M:Model}{Q:PUnit->σ->Prop}{st ak:σ}(h:Q ⟨⟩ ak):wpS M A E s (set ak:StateT σ Sem PUnit) Q st:=by
 unfold wpS
 rw [StateT.run_set]
 exact bp ⟨rfl,h⟩
theorem RO(e:arr.toList=P++R++S)(h:i<R.length):kv κ arr (P.length+i)=κ R[i]:=by
 unfold kv
 have:arr[P.length+i]?=some R[i]:=by
  rw [<-tw,e,fM,rH (by ext),vG (by ext h)]
  simp [h]
 rw [this]
def t9(κ:Keyed->Int)(l:List Keyed):Prop:=(l.map κ).Nodup
theorem t9.ne{arr:Array Keyed}(h:t9 κ arr.toList){i j:Nat}(hi:i<arr.size)(hj:j<arr.size)(cI:i≠j):κ arr[i]≠κ arr[j]:=λz=>by
 refine cI ((List.getElem_inj (h₀:=by simpa using hi) (h₁:=by simpa using hj) h).mp ?_)
 simpa using z
theorem t9.app(h:t9 κ (l++m)):∀x∈l,∀y∈m,κ x≠κ y:=λx hx y hy z=>by
 unfold t9 at h
 rw [ic,List.nodup_append] at h
 exact h.2.2 _ (mV.mpr ⟨x,hx,rfl⟩) _ (mV.mpr ⟨y,hy,rfl⟩) z
theorem FL{R:List Keyed}(h:ei κ R){i j:Nat}(cI:i<j)(hj:j<R.length):κ (R[i]'(by ext cI hj))<κ R[j]:=xw.mp h i j (by ext cI hj) hj cI
theorem YB(hk:Ask prog w s kd κ C){st:SortSt}(hd:kindOf st=kd)(hf:failedOf st=none){Q:Bool->SortSt->Prop}(e:(arrOf st).toList=P++R1++R2++S)(hC:∀x∈(arrOf st).toList,C x)(hD:t9 κ (arrOf st).toList)
  (s1:ei κ R1)(s2:ei κ R2)(n1:R1≠[])(n2:R2≠[])(e1:(pendingOf st)[i]?=some (P.length,R1.length,pw))(e2:(pendingOf st)[i+1]?=some (P.length+R1.length,R2.length,p2))
  (h:∀ak R,kindOf ak=kd->failedOf ak=none->(arrOf ak).toList=P++R++S->ei κ R->R.Perm (R1++R2)->pendingOf ak=((pendingOf st).setIfInBounds i (P.length,R1.length+R2.length,pw)).eraseIdxIfInBounds (i+1)->Q true ak):wpS (model prog w) A E s (mergeAt' i) Q st:=by
 have l1:=pC.mpr n1
 have l2:=pC.mpr n2
 have hz:(arrOf st).size=P.length+R1.length+R2.length+S.length:=by rw [<-gE,e];simp only [dq]
 have eA:(arrOf st).toList=P++R1++(R2++S):=by rw [e,fM]
 have eB:(arrOf st).toList=(P++R1)++R2++S:=e
 have lB:(P++R1).length=P.length+R1.length:=dq ..
 have kA:∀j (hj:j<R1.length),kv κ (arrOf st) (P.length+j)=κ R1[j]:=λj hj=>RO eA hj
 have kB:∀j (hj:j<R2.length),kv κ (arrOf st) (P.length+R1.length+j)=κ R2[j]:=λj hj=>by rw [<-lB];exact RO eB hj
 have b0:P.length+R1.length<(arrOf st).size:=by ext l2 hz:1
 have O2:κ (arrOf st)[P.length+R1.length]=κ R2[0]:=by rw [<-iE (κ:=κ) b0,<-kB 0 l2];rfl
 have aL:P.length+R1.length-1<(arrOf st).size:=by ext b0:1
 have O3:κ (arrOf st)[P.length+R1.length-1]=κ R1[R1.length-1]:=by rw [<-iE (κ:=κ) aL,<-kA _ (by ext l1:1)];congr 1;ext l1:1
 have D4:∀j (hj:j<(arrOf st).size),C (arrOf st)[j]:=λj hj=>hC _ (by simp)
 have z1:P.length+R1.length<=(arrOf st).size:=by ext b0:1
 have z2:P.length+R1.length+R2.length<=(arrOf st).size:=by ext hz:1
 have plain:(∀x∈R1,∀y∈R2,κ x<κ y)->ei κ (R1++R2):=λz=>gm.mpr ⟨s1,s2,z⟩
 unfold wpS
 wp_delta
 wp_delta
 wp_delta
 refine xQ (Q:=Q) (aS (nv ?_))
 rw [e1,e2]
 dsimp only
 refine aS (b5g (aS (ig b0 (aS ?_))))
 refine D5 hk ?_ (D4 _ b0) z1 l1 (λj hj h1 h2=>⟨D4 j hj,hD.ne hj b0 (by ext h2:1)⟩) (λx y hx hy=>by rw [kA _ (by ext hx hy:1),kA _ hy];exact FL s1 hx hy) λk k1 k2 k3=>?_
 .exact hd
 dsimp only
 have c2:∀x∈R1.take k,∀y∈R2,κ x<κ y:=λx hx y hy=>by
  obtain ⟨j,hj,rfl⟩:=rJ.mp hx
  obtain ⟨m,hm,rfl⟩:=rJ.mp hy
  rw [jk] at hj
  have:=k2 j (by ext hj:1)
  rw [kA j (by ext hj:1),O2] at this
  rw [EK]
  by_cases c:m=0
  .subst c;exact this
  .have:=FL s2 (show 0<m by ext c:1) hm
   lia
 by_cases d1:R1.length-k=0
 .rw [if_pos (by simpa using d1)]
  refine aW (h _ (R1++R2) hd hf (by show (arrOf st).toList=_;rw [e];simp) (plain ?_) (BR _) rfl)
  rw [BU (by ext d1:1)] at c2
  exact c2
 rw [if_neg (by simpa using d1)]
 have ek:P.length+k+(R1.length-k)-1=P.length+R1.length-1:=by ext k1:1
 rw [ek]
 refine aS (ig aL (aS ?_))
 refine D5 hk ?_ (D4 _ aL) z2 (by ext l2:1) (λj hj h1 h2=>⟨D4 j hj,hD.ne hj aL (by ext l1 h1:1)⟩) (λx y hx hy=>by rw [kB _ (by ext hx hy:1),kB _ hy];exact FL s2 hx hy) λm m1 m2 m3=>?_
 .exact hd
 dsimp only
 have c3:∀x∈R2.drop m,∀y∈R1,κ y<κ x:=λx hx y hy=>by
  obtain ⟨j,hj,rfl⟩:=rJ.mp hx
  obtain ⟨n,hn,rfl⟩:=rJ.mp hy
  rw [nE] at hj
  have:=m3 (m+j) (by ext:1) (by ext hj:1)
  rw [kB _ (by ext hj:1),O3] at this
  rw [List.getElem_drop]
  by_cases c:n=R1.length-1
  .subst c;exact this
  .have:=FL s1 (show n<R1.length-1 by ext hn c:1) (by ext l1:1)
   lia
 by_cases d2:m=0
 .rw [if_pos (by simpa using d2)]
  refine aW (h _ (R1++R2) hd hf (by show (arrOf st).toList=_;rw [e];simp) (plain λx hx y hy=>c3 y (by rw [d2];exact hy) x hx) (BR _) rfl)
 rw [if_neg (by simpa using d2)]
 have eX:((arrOf st).extract (P.length+k) (P.length+R1.length)).toList=R1.drop k:=by
  rw [Ms,eA,QB (by simp),<-lB,List.take_length,List.drop_append,oi (by ext:1),BS]
  congr 1
  ext:1
 have eY:((arrOf st).extract (P.length+R1.length) (P.length+R1.length+m)).toList=R2.take m:=by
  rw [SK,eB,fM,<-lB,List.drop_append,List.drop_length,BS,BF,Ek,QB m1]
 have zX:((arrOf st).extract (P.length+k) (P.length+R1.length)).size=R1.length-k:=by rw [<-gE,eX,nE]
 have zY:((arrOf st).extract (P.length+R1.length) (P.length+R1.length+m)).size=m:=by rw [<-gE,eY,jk];ext m1:1
 have Z7:∀x∈R1,C x:=λx hx=>hC x (by rw [e];simp [hx])
 have Z6:∀x∈R2,C x:=λx hx=>hC x (by rw [e];simp [hx])
 have cC:∀x∈R1,∀y∈R2,κ x≠κ y:=λx hx y hy=>by
  rw [eA] at hD
  exact hD.app x (by simp [hx]) y (by simp [hy])
 have T:gq κ C ((arrOf st).extract (P.length+k) (P.length+R1.length)) ((arrOf st).extract (P.length+R1.length) (P.length+R1.length+m)):=by
  refine ⟨?_,?_,?_,?_,?_⟩
  .rw [eX];exact xY s1 k
  .rw [eY];exact Mo s2 m
  .rw [eX];exact λx hx=>Z7 x (vo hx)
  .rw [eY];exact λx hx=>Z6 x (vq hx)
  .rw [eX,eY];exact λx hx y hy=>cC x (vo hx) y (vq hy)
 have gX:∀j (hj:j<((arrOf st).extract (P.length+k) (P.length+R1.length)).size),κ ((arrOf st).extract (P.length+k) (P.length+R1.length))[j]=κ (R1[k+j]'(by ext zX hj:1)):=λj hj=>by
  rw [<-PX]
  simp only [eX,List.getElem_drop]
 have gY:∀j (hj:j<((arrOf st).extract (P.length+R1.length) (P.length+R1.length+m)).size),κ ((arrOf st).extract (P.length+R1.length) (P.length+R1.length+m))[j]=κ (R2[j]'(by ext m1 zY hj:1)):=λj hj=>by
  rw [<-PX]
  simp only [eY,EK]
 have pX:0<((arrOf st).extract (P.length+k) (P.length+R1.length)).size:=by ext d1 zX:1
 have pY:0<((arrOf st).extract (P.length+R1.length) (P.length+R1.length+m)).size:=by ext d2 zY:1
 have h0:κ ((arrOf st).extract (P.length+R1.length) (P.length+R1.length+m))[0]<κ ((arrOf st).extract (P.length+k) (P.length+R1.length))[0]:=by
  rw [gX 0 pX,gY 0 pY]
  have:=k3 k (bA _) (by ext zX pX:1)
  rw [kA k (by ext zX pX:1),O2] at this
  exact this
 have mJ:∀x∈((arrOf st).extract (P.length+R1.length) (P.length+R1.length+m)).toList,κ x<κ R1[R1.length-1]:=λx hx=>by
  rw [eY] at hx
  obtain ⟨j,hj,rfl⟩:=rJ.mp hx
  rw [jk] at hj
  have:=m2 j (by ext m1 zY hj:1)
  rw [kB j (by ext m1 zY hj:1),O3] at this
  rw [EK]
  exact this
 have rest:∀(r:Array Keyed) (g:Nat),Mg κ ((arrOf st).extract (P.length+k) (P.length+R1.length)) ((arrOf st).extract (P.length+R1.length) (P.length+R1.length+m)) r->Q true (BB (kindOf st) (r.toList.zipIdx.foldl (λa x=>match x with | (p,j)=>a.setIfInBounds (P.length+k+j) p) (arrOf st)) (((pendingOf st).setIfInBounds i (P.length,R1.length+R2.length,pw)).eraseIdxIfInBounds (i+1)) g (failedOf st)):=λr g hM=>by
  unfold Mg at hM
  rw [eX,eY] at hM
  obtain ⟨q1,q2⟩:=b8z s1 s2 c2 c3 hM.1 hM.2
  refine h _ (R1.take k++r.toList++R2.drop m) hd hf ?_ q1 q2 rfl
  have hl:r.toList.length=(R1.drop k++R2.take m).length:=hM.2.length_eq
  have eP:(arrOf st).toList=(P++R1.take k)++(R1.drop k++R2.take m)++(R2.drop m++S):=by
   rw [e]
   have x1:R1=R1.take k++R1.drop k:=(nC ..).symm
   have x2:R2=R2.take m++R2.drop m:=(nC ..).symm
   generalize R1.take k=u at *
   generalize R1.drop k=u2 at *
   generalize R2.take m=v at *
   generalize R2.drop m=v2 at *
   rw [x1,x2]
   simp only [fM]
  have lP:(P++R1.take k).length=P.length+k:=by rw [dq,jk];ext hz lB k1:1
  have:=a95 eP hl
  rw [lP] at this
  show (r.toList.zipIdx.foldl (λa x=>a.setIfInBounds (P.length+k+x.2) x.1) (arrOf st)).toList=_
  rw [this]
  simp only [fM]
 by_cases d3:R1.length-k<=m
 .rw [if_pos d3]
  refine aS ?_
  refine Yz hk T ?_ pX pY h0 (λx hx y hy=>?_) λr g hM=>?_
  .exact hd
  .rw [eX,zX,List.drop_drop,show k+(R1.length-k-1)=R1.length-1 by ext l1 hz lB zX pX:1,jT (by ext l1 hz lB:1),show R1.length-1+1=R1.length by ext l1 hz lB:1,List.drop_length,bT] at hy
   rw [hy]
   exact mJ x hx
  .refine aS (qf (aS (nv (aW ?_))))
   have:=rest r g hM
   show Q (failedOf st).isNone _
   rw [hf]
   exact this
 .rw [if_neg d3]
  refine aS ?_
  refine YA hk T ?_ pX pY h0 (λx hx=>?_) λr g hM=>?_
  .exact hd
  .rw [gX _ (by ext zX pX:1)]
   have:=mJ x hx
   simp only [zX,show k+(R1.length-k-1)=R1.length-1 by ext l1 hz lB zX pX:1]
   exact this
  .refine aS (qf (aS (nv (aW ?_))))
   have:=rest r g hM
   show Q (failedOf st).isNone _
   rw [hf]
   exact this
end
section
variable {prog:Program}{w:World}{A:Around}{E:Value->Shared->Prop}{s:Shared}{kd:SortKind}{κ:Keyed->Int}{C:Keyed->Prop}
structure Bs(κ:Keyed->Int)(C:Keyed->Prop)(kd:SortKind)(st:SortSt)(lo:Nat)(ak:SortSt):Prop where
 perm:(arrOf ak).Perm (arrOf st)
 ahead:∀k,k<lo->(arrOf ak)[k]?=(arrOf st)[k]?
 rest:ak=setArr st (arrOf ak)
theorem Bs.refl{st:SortSt}{lo:Nat}:Bs κ C kd st lo st:=⟨sY _,λ_ _=>rfl,rfl⟩
theorem Bs.put{st ak:SortSt}{lo:Nat}(h:Bs κ C kd st lo ak){xs:Array Keyed}(hp:xs.Perm (arrOf ak))(ha:∀k,k<lo->xs[k]?=(arrOf ak)[k]?):Bs κ C kd st lo (setArr ak xs):=
 ⟨hp.trans h.perm,λk hk=>(ha k hk).trans (h.ahead k hk),by rw [h.rest]⟩
structure Al(κ:Keyed->Int)(C:Keyed->Prop)(kd:SortKind)(st:SortSt):Prop where
 kind:kindOf st=kd
 all:∀x∈(arrOf st).toList,C x
 dst:t9 κ (arrOf st).toList
theorem Al.of{st ak:SortSt}(h:Al κ C kd st)(hp:(arrOf ak).Perm (arrOf st))(hk:kindOf ak=kd):Al κ C kd ak:=
 have p:=xx.mp hp
 ⟨hk,λx hx=>h.all x (p.mem_iff.mp hx),(p.map κ).nodup_iff.mpr h.dst⟩
theorem Al.bs{st ak:SortSt}{lo:Nat}(h:Al κ C kd st)(b:Bs κ C kd st lo ak):Al κ C kd ak:=h.of b.perm (by rw [b.rest];exact h.kind)
theorem Al.ne{st:SortSt}(h:Al κ C kd st)(hi:i<(arrOf st).size)(hj:j<(arrOf st).size)(cI:i≠j):kv κ (arrOf st) i≠kv κ (arrOf st) j:=by
 rw [iE hi,iE hj]
 exact h.dst.ne hi hj cI
theorem B'(hk:Ask prog w s kd κ C){st:SortSt}(hA:Al κ C kd st){Q:Option Bool->SortSt->Prop}(hi:i<(arrOf st).size)(hj:j<(arrOf st).size)(cI:i≠j)(h:Q (some (decide (kv κ (arrOf st) i<kv κ (arrOf st) j))) st):wpS (model prog w) A E s (ltAt' i j) Q st:=by
 rw [ltAt'_eq]
 refine aS (nv ?_)
 show wpS _ _ _ _ (do let p <-elem' (arrOf st) i;let q <-elem' (arrOf st) j;lt' p q) Q st
 refine aS (ig hi (aS (ig hj ?_)))
 rw [iE hi,iE hj] at h
 exact zZ hk hA.kind (hA.all _ (by simp)) (hA.all _ (by simp)) (hA.dst.ne hi hj cI) h
def Up(κ:Keyed->Int)(xs:Array Keyed)(lo k:Nat):Prop:=∀i j,i<j->j<k->kv κ xs (lo+i)<kv κ xs (lo+j)
def Dn(κ:Keyed->Int)(xs:Array Keyed)(lo k:Nat):Prop:=∀i j,i<j->j<k->kv κ xs (lo+j)<kv κ xs (lo+i)
theorem Up.next{lo x:Nat}(h:Up κ xs lo x)(hx:1<=x)(hl:kv κ xs (lo+(x-1))<kv κ xs (lo+x)):Up κ xs lo (x+1):=λi j cI hj=>by
 by_cases c:j<x
 .exact h i j cI c
 .obtain rfl:j=x:=by ext hj c
  by_cases d:i=j-1
  .subst d;exact hl
  .have:=h i (j-1) (by ext cI d) (by ext hx);ext hl this
theorem Dn.next{lo x:Nat}(h:Dn κ xs lo x)(hx:1<=x)(hl:kv κ xs (lo+x)<kv κ xs (lo+(x-1))):Dn κ xs lo (x+1):=λi j cI hj=>by
 by_cases c:j<x
 .exact h i j cI c
 .obtain rfl:j=x:=by ext hj c
  by_cases d:i=j-1
  .subst d;exact hl
  .have:=h i (j-1) (by ext cI d) (by ext hx);ext hl this
theorem Ci(hk:Ask prog w s kd κ C){st:SortSt}(hA:Al κ C kd st){lo a nrem:Nat}{Q:Option (Option Nat)×Nat->SortSt->Prop}(hn:lo+nrem<=(arrOf st).size)(ha:1<=a)(Pm:a<=nrem)(hu:Up κ (arrOf st) lo a)
  (h:∀n,a<=n->n<=nrem->Up κ (arrOf st) lo n->(n=nrem\/n<nrem/\kv κ (arrOf st) (lo+n)<kv κ (arrOf st) (lo+(n-1)))->Q (none,n) st):
  wpS (model prog w) A E s (forIn [a:nrem] ((none,a):Option (Option Nat)×Nat) λ_ q=>ltAt' (lo+q.2) (lo+q.2-1) >>= λr=>match r with
   | some b=>if b=true then pure (El (none,q.2)) else pure (mT (none,q.2+1))
   | x=>pure (El (some none,q.2))) Q st:=by
 refine kJ (λx c ak=>ak=st/\c=(none,x)/\Up κ (arrOf st) lo x) (λx c ak h1 h2 hI=>?_) (λc ak hI=>?_) ⟨rfl,rfl,hu⟩
 .obtain ⟨rfl,rfl,mH⟩:=hI
  dsimp only
  rw [show lo+x-1=lo+(x-1) by ext ha h1]
  refine aS (B' hk hA (by ext h2 hn) (by ext h2 hn) (by ext ha h1) ?_)
  dsimp only
  by_cases c:kv κ (arrOf ak) (lo+x)<kv κ (arrOf ak) (lo+(x-1))
  .rw [if_pos (decide_eq_true c)]
   exact aW (h x h1 (by ext h2) mH (.inr ⟨h2,c⟩))
  .rw [if_neg (by simpa using c)]
   have:=hA.ne (i:=lo+x) (j:=lo+(x-1)) (by ext h2 hn) (by ext h2 hn) (by ext ha h1)
   exact aW ⟨rfl,rfl,mH.next (by ext ha h1) (by ext c this)⟩
 .obtain ⟨rfl,rfl,mH⟩:=hI
  rw [show max a nrem=nrem by ext Pm] at mH ⊢
  exact h nrem Pm (bA _) mH (.inl rfl)
theorem Rc{xs:Array Keyed}{lo n:Nat}(hn:lo+n<=xs.size)(k:Nat):kv κ (mirror xs lo (lo+n) ((lo+n-lo)/2)) (lo+k)=if k<n then kv κ xs (lo+(n-1-k)) else kv κ xs (lo+k):=by
 have e:=Kj (i:=lo) hn (lo+k)
 by_cases h:k<n
 .rw [if_pos (by ext h),show lo+(lo+n)-1-(lo+k)=lo+(n-1-k) by ext h] at e
  rw [if_pos h];exact B9 e
 .rw [if_neg (by ext h)] at e
  rw [if_neg h];exact B9 e
theorem JE(hk:Ask prog w s kd κ C){st:SortSt}(hA:Al κ C kd st){lo nrem:Nat}{Q:Option Nat->SortSt->Prop}(hn:lo+nrem<=(arrOf st).size)(h1:1<=nrem)
  (h:∀m ak,Bs κ C kd st lo ak->1<=m->m<=nrem->Up κ (arrOf ak) lo m->Q (some m) ak):wpS (model prog w) A E s (countRun' lo nrem) Q st:=by
 unfold wpS
 wp_delta
 wp_delta
 wp_delta
 refine xQ (Q:=Q) (aS ?_)
 refine Ci hk hA hn (bA 1) h1 (λi j _ _=>by lia) λn n1 n2 hu Iv=>?_
 dsimp only
 by_cases c1:n=nrem
 .rw [if_pos (by simpa using c1)]
  exact aW (h n st Bs.refl n1 n2 hu)
 rw [if_neg (by simpa using c1)]
 have aY:kv κ (arrOf st) (lo+n)<kv κ (arrOf st) (lo+(n-1)):=by ext Iv c1
 by_cases c2:n>1
 .rw [if_pos c2,show lo+n-1=lo+(n-1) by ext c2]
  refine aS (B' hk hA (by ext hn h1) (by ext hn n2 c2) (by ext c2) ?_)
  dsimp only
  have h0:=hu 0 (n-1) (by ext c2) (by ext c2)
  rw [Nat.add_zero] at h0
  rw [if_pos (decide_eq_true h0)]
  exact aW (h n st Bs.refl n1 n2 hu)
 rw [if_neg c2]
 obtain rfl:n=1:=by ext n1 c2
 refine aS (xC ?_)
 refine aS (kF (kJ (λx c ak=>ak=st/\c=(none,x,0)/\Dn κ (arrOf st) lo x) (Q:=λc ak=>ak=st/\∃x,c=(none,x,0)/\2<=x/\x<=nrem/\Dn κ (arrOf st) lo x) (λx c ak g1 g2 hI=>?_) (λc ak hI=>?_) ⟨rfl,rfl,λi j cI hj=>?_⟩) λc ak hI=>?_)
 .obtain ⟨rfl,rfl,hs⟩:=hI
  dsimp only
  rw [show lo+x-1=lo+(x-1) by ext g1]
  have cC:=hA.ne (i:=lo+x) (j:=lo+(x-1)) (by ext g2 hn) (by ext g2 hn) (by ext g1)
  refine aS (B' hk hA (by ext g2 hn) (by ext g2 hn) (by ext g1) ?_)
  dsimp only
  by_cases c:kv κ (arrOf ak) (lo+x)<kv κ (arrOf ak) (lo+(x-1))
  .rw [if_pos (decide_eq_true c),if_neg (by decide)]
   exact aW ⟨rfl,rfl,hs.next (by ext g1) c⟩
  .rw [if_neg (by simpa using c)]
   refine aS (B' hk hA (by ext g2 hn) (by ext g2 hn) (by ext g1) ?_)
   dsimp only
   rw [if_pos (decide_eq_true (by ext cC c))]
   exact aW ⟨rfl,x,rfl,‹_›,by ext g2,hs⟩
 .obtain ⟨rfl,rfl,hs⟩:=hI
  rw [show max (1+1) nrem=nrem by ext c1 Iv] at hs ⊢
  exact ⟨rfl,nrem,rfl,by ext c1 Iv,by ext,hs⟩
 .obtain ⟨rfl,rfl⟩:i=0/\j=1:=by ext cI hj
  exact aY
 .obtain ⟨rfl,x,rfl,x1,x2,hs⟩:=hI
  dsimp only
  rw [if_neg (by decide)]
  refine aS (wpS_reverse ?_)
  have hb:Bs κ C kd ak lo (setArr ak (mirror (arrOf ak) lo (lo+x) ((lo+x-lo)/2))):=Bs.refl.put (rG _ _ _ _) λk hk=>by
   have e:=Kj (xs:=arrOf ak) (i:=lo) (j:=lo+x) (by ext hn x2) k
   rw [if_neg (by ext hk)] at e
   exact e
  refine aS ?_
  refine Ci hk (hA.bs hb) ?_ (by ext x1) x2 (λi j cI hj=>?_) λm m1 m2 hm _=>aW (h m _ hb (by ext x1 m1) m2 hm)
  .show lo+nrem<=(mirror (arrOf ak) lo (lo+x) ((lo+x-lo)/2)).size
   rw [Ed]
   exact hn
  .show kv κ (mirror (arrOf ak) lo (lo+x) ((lo+x-lo)/2)) (lo+i)<kv κ (mirror (arrOf ak) lo (lo+x) ((lo+x-lo)/2)) (lo+j)
   rw [Rc (by ext hn x2),Rc (by ext hn x2),if_pos (by ext cI hj),if_pos hj]
   exact hs _ _ (by ext cI hj) (by ext hj)
theorem KW(hk:Ask prog w s kd κ C){st:SortSt}(hA:Al κ C kd st){lo n ok:Nat}{Q:Bool->SortSt->Prop}(hn:lo+n<=(arrOf st).size)(aT:1<=ok)(Zz:ok<=n)(hs:Up κ (arrOf st) lo ok)
  (h:∀ak,Bs κ C kd st lo ak->Up κ (arrOf ak) lo n->Q true ak):wpS (model prog w) A E s (binarySort' lo n ok) Q st:=by
 rw [binarySort'_eq]
 refine aS (kF (kJ (λk c ak=>c=(none,())/\Bs κ C kd st lo ak/\Up κ (arrOf ak) lo k) (Q:=λc ak=>c=(none,())/\Bs κ C kd st lo ak/\Up κ (arrOf ak) lo n) (λk c ak g1 g2 hI=>?_) (λc ak hI=>?_) ⟨rfl,Bs.refl,?_⟩) λc ak hI=>?_)
 .obtain ⟨rfl,uZ,nY⟩:=hI
  have Pw:=hA.bs uZ
  have hsz:(arrOf ak).size=(arrOf st).size:=uZ.perm.size_eq
  refine aS (kF (kJ (λx c gu=>gu=ak/\∃l r,c=(none,l,r)/\l<=r/\r<=k/\r-l<=k-x/\(∀i,i<l->kv κ (arrOf ak) (lo+i)<kv κ (arrOf ak) (lo+k))/\∀i,r<=i->i<k->kv κ (arrOf ak) (lo+k)<kv κ (arrOf ak) (lo+i))
   (Q:=λc gu=>gu=ak/\∃l r,c=(none,l,r)/\l<=k/\(∀i,i<l->kv κ (arrOf ak) (lo+i)<kv κ (arrOf ak) (lo+k))/\∀i,l<=i->i<k->kv κ (arrOf ak) (lo+k)<kv κ (arrOf ak) (lo+i)) (λx c gu f1 f2 hJ=>?_) (λc gu hJ=>?_) ⟨rfl,0,k,rfl,by ext,by ext,by ext,λi z=>by contradiction,λi z1 z2=>by ext z1 z2⟩) λc gu hJ=>?_)
  .obtain ⟨rfl,l,r,rfl,j1,j2,j3,j4,j5⟩:=hJ
   dsimp only
   by_cases mK:l≥r
   .rw [if_pos mK]
    obtain rfl:l=r:=by ext j1 mK
    exact aW ⟨rfl,l,l,rfl,j2,j4,j5⟩
   .rw [if_neg mK]
    refine aS (B' hk Pw (by ext hn g2 hsz) (by lia) (by lia) ?_)
    dsimp only
    have cC:=Pw.ne (i:=lo+k) (j:=lo+(l+r)/2) (by ext hn g2 hsz) (by lia) (by lia)
    by_cases hl:kv κ (arrOf gu) (lo+k)<kv κ (arrOf gu) (lo+(l+r)/2)
    .rw [if_pos (decide_eq_true hl)]
     refine aW ⟨rfl,l,(l+r)/2,rfl,by lia,by lia,by lia,j4,λi z1 z2=>?_⟩
     by_cases hi:i=(l+r)/2
     .subst hi;exact hl
     .have:=nY ((l+r)/2) i (by ext z1 hi) z2;ext hl this
    .rw [if_neg (by simpa using hl)]
     refine aW ⟨rfl,(l+r)/2+1,r,rfl,by lia,‹_›,by lia,λi z1=>?_,j5⟩
     by_cases hi:i=(l+r)/2
     .subst hi;ext cC hl
     .have:=nY i ((l+r)/2) (by ext z1 hi) (by lia);ext hl this
  .obtain ⟨rfl,l,r,rfl,j1,j2,j3,j4,j5⟩:=hJ
   obtain rfl:l=r:=by ext j1 j3
   exact ⟨rfl,l,l,rfl,j2,j4,j5⟩
  .obtain ⟨rfl,l,r,rfl,j2,j4,j5⟩:=hJ
   show wpS _ _ _ _ (do moveDown' (lo+k) (lo+l);pure (mT (none,()))) _ _
   rw [moveDown'_eq]
   have ZJ:lo+k<(arrOf gu).size:=by ext hn g2 hsz
   have D2:=getElem?_bubble ZJ (lo+k-(lo+l)) (by ext)
   refine aS (qf (aW ⟨rfl,uZ.put (bubble_perm _ _ _) λq hq=>?_,λi j cI hj=>?_⟩))
   .have e:=D2 q
    rw [if_neg (by ext hq),if_neg (by ext hq)] at e
    exact e
   have kb:∀m,kv κ (bubble (arrOf gu) (lo+k) (lo+k-(lo+l))) (lo+m)=if m=l then kv κ (arrOf gu) (lo+k) else if l<m/\m<=k then kv κ (arrOf gu) (lo+(m-1)) else kv κ (arrOf gu) (lo+m):=λm=>by
    have e:=D2 (lo+m)
    by_cases c1:m=l
    .rw [if_pos (by ext j2 c1)] at e;rw [if_pos c1];exact B9 e
    .rw [if_neg (by ext j2 c1)] at e;rw [if_neg c1]
     by_cases c2:l<m/\m<=k
     .rw [if_pos (by ext c2),show lo+m-1=lo+(m-1) by ext c2] at e;rw [if_pos c2];exact B9 e
     .rw [if_neg (by ext c2)] at e;rw [if_neg c2];exact B9 e
   show kv κ (bubble (arrOf gu) (lo+k) (lo+k-(lo+l))) (lo+i)<kv κ (bubble (arrOf gu) (lo+k) (lo+k-(lo+l))) (lo+j)
   rw [kb,kb]
   repeat' split
   all_goals first
    | (exfalso;lia)
    | exact j4 _ (by lia)
    | exact j5 _ (by lia) (by ext cI hj)
    | exact nY _ _ (by lia) (by lia)
 .obtain ⟨hc,uZ,nY⟩:=hI
  rw [show max (max ok 1) n=n by ext aT Zz] at nY
  exact ⟨hc,uZ,nY⟩
 .rw [show max ok 1=ok by ext aT];exact hs
 .obtain ⟨rfl,uZ,nY⟩:=hI
  exact aW (h ak uZ nY)
end
section
variable {prog:Program}{w:World}{A:Around}{E:Value->Shared->Prop}{s:Shared}{kd:SortKind}{κ:Keyed->Int}{C:Keyed->Prop}
structure St(κ:Keyed->Int)(C:Keyed->Prop)(kd:SortKind)(a₀:Array Keyed)(st:SortSt)(Rs:List (List Keyed)):Prop where
 perm:(arrOf st).Perm a₀
 kind:kindOf st=kd
 failed:failedOf st=none
 pre:(arrOf st).toList.take Rs.flatten.length=Rs.flatten
 le:Rs.flatten.length<=a₀.size
 sA:lg 0 Rs (pendingOf st).toList
 run:∀R∈Rs,R≠[]/\ei κ R
variable {a₀:Array Keyed}
structure Kn(κ:Keyed->Int)(C:Keyed->Prop)(a₀:Array Keyed):Prop where
 all:∀x∈a₀.toList,C x
 dst:t9 κ a₀.toList
theorem St.al{st:SortSt}(h:St κ C kd a₀ st Rs)(k:Kn κ C a₀):Al κ C kd st:=
 have p:=xx.mp h.perm
 ⟨h.kind,λx hx=>k.all x (p.mem_iff.mp hx),(p.map κ).nodup_iff.mpr k.dst⟩
theorem St.cnt{st:SortSt}(h:St κ C kd a₀ st Rs):(pendingOf st).size=Rs.length:=by rw [<-gE];exact h.sA.len
theorem Fq(hk:Ask prog w s kd κ C)(k:Kn κ C a₀){st:SortSt}(h:St κ C kd a₀ st (Xs++R1::R2::Ys))(hi:i=Xs.length){Q:Bool->SortSt->Prop}
  (hQ:∀ak R,St κ C kd a₀ ak (Xs++R::Ys)->(Xs++R::Ys).flatten.length=(Xs++R1::R2::Ys).flatten.length->(arrOf ak).toList.drop (Xs++R1::R2::Ys).flatten.length=(arrOf st).toList.drop (Xs++R1::R2::Ys).flatten.length->Q true ak):wpS (model prog w) A E s (mergeAt' i) Q st:=by
 have hz:(arrOf st).size=a₀.size:=h.perm.size_eq
 have eF:(Xs++R1::R2::Ys).flatten=Xs.flatten++R1++R2++Ys.flatten:=by simp
 have al:=h.al k
 have r1:=h.run R1 (by simp)
 have r2:=h.run R2 (by simp)
 obtain ⟨q1,q2⟩:=h.sA.split
 rw [tq] at q2
 have Zw:=h.sA.len
 generalize hp:(pendingOf st).toList=ps at *
 obtain ⟨u,v,pv,e3⟩:∃u v pv,ps.drop Xs.length=u::v::pv:=by
  match hd:ps.drop Xs.length,q2 with
  | u::v::pv,_=>exact ⟨u,v,pv,rfl⟩
 rw [e3] at q2
 obtain ⟨u1,u2,v1,v2,q3⟩:=q2
 have Jz:ps=ps.take Xs.length++u::v::pv:=by rw [<-e3,nC]
 have lt:(ps.take Xs.length).length=Xs.length:=by rw [jk,Zw,dq];ext
 have g1:(pendingOf st)[i]?=some (Xs.flatten.length,R1.length,u.2.2):=by
  rw [<-tw,hp,Jz,rH (by ext hi lt),lt,hi,BF]
  show some u=_
  rw [<-u1,<-u2]
 have g2:(pendingOf st)[i+1]?=some (Xs.flatten.length+R1.length,R2.length,v.2.2):=by
  rw [<-tw,hp,Jz,rH (by ext hi lt),lt,hi,KN]
  show some v=_
  rw [<-v1,<-v2]
 have eA:(arrOf st).toList=Xs.flatten++R1++R2++(Ys.flatten++(arrOf st).toList.drop (Xs++R1::R2::Ys).flatten.length):=by
  have:=nC (Xs++R1::R2::Ys).flatten.length (arrOf st).toList
  rw [h.pre] at this
  rw [<-fM,<-eF]
  exact this.symm
 refine YB hk h.kind h.failed eA al.all al.dst r1.2 r2.2 r1.1 r2.1 g1 g2 λak R a1 a2 a3 a4 a5 a6=>?_
 have lR:R.length=R1.length+R2.length:=by rw [a5.length_eq,dq]
 have JA:(Xs++R::Ys).flatten=Xs.flatten++R++Ys.flatten:=by simp
 have lF:(Xs++R::Ys).flatten.length=(Xs++R1::R2::Ys).flatten.length:=by rw [eF,JA];simp only [dq];ext lR
 refine hQ ak R ⟨?_,a1,a2,?_,by rw [lF];exact h.le,?_,λS hS=>?_⟩ lF ?_
 .refine Array.Perm.trans (xx.mpr ?_) h.perm
  generalize (arrOf st).toList.drop (Xs++R1::R2::Ys).flatten.length=D at *
  rw [a3,eA]
  refine List.Perm.append_right _ ?_
  rw [fM Xs.flatten]
  exact a5.append_left _
 .rw [a3,JA,<-fM,List.take_left]
 .have e6:(pendingOf ak).toList=ps.take Xs.length++(Xs.flatten.length,R1.length+R2.length,u.2.2)::pv:=by
   rw [a6,Array.toList_eraseIdxIfInBounds,Array.toList_setIfInBounds,hp,hi]
   conv=>lhs;rw [Jz]
   rw [List.set_append_right _ _ (by ext lt),lt,BF,List.set_cons_zero,List.eraseIdx_append_of_length_le (by ext lt),lt,KN]
   rfl
  rw [e6]
  refine q1.app ?_
  rw [tq]
  refine ⟨rfl,lR.symm,?_⟩
  rw [lR,<-JW]
  exact q3
 .rcases bX.mp hS with hS | hS
  .exact h.run S (iR _ hS)
  .rcases bI.mp hS with rfl | hS
   .refine ⟨λz=>?_,a4⟩
    rw [z] at lR
    have:=pC.mpr r1.1
    simp at lR
    ext lR this
   .exact h.run S (ie _ (by simp [hS]))
 .generalize (arrOf st).toList.drop (Xs++R1::R2::Ys).flatten.length=D at *
  rw [<-lF,a3,JA,<-fM,List.drop_left]
theorem LC{Rs:List (List Keyed)}(h:2<=Rs.length):∃Xs R1 R2,Rs=Xs++R1::R2::[]/\Xs.length=Rs.length-2:=by
 refine ⟨Rs.take (Rs.length-2),Rs[Rs.length-2],Rs[Rs.length-1],?_,by rw [jk];ext:1⟩
 conv=>lhs;rw [<-nC (Rs.length-2) Rs]
 congr 1
 rw [jT (by ext h:1),jT (by ext h:1),oi (by ext:1)]
 simp only [show Rs.length-2+1=Rs.length-1 by ext h:1]
theorem b7Q{Rs:List (List Keyed)}(h:3<=Rs.length):∃Xs R1 R2 R3,Rs=Xs++R1::R2::[R3]/\Xs.length=Rs.length-3:=by
 refine ⟨Rs.take (Rs.length-3),Rs[Rs.length-3],Rs[Rs.length-2],Rs[Rs.length-1],?_,by rw [jk];ext:1⟩
 conv=>lhs;rw [<-nC (Rs.length-3) Rs]
 congr 1
 rw [jT (by ext h:1),jT (by ext h:1),jT (by ext h:1),oi (by ext:1)]
 simp only [show Rs.length-3+1=Rs.length-2 by ext h:1,show Rs.length-2+1=Rs.length-1 by ext h:1]
theorem So{xs:Array Keyed}{lo n:Nat}(h:Up κ xs lo n)(hn:lo+n<=xs.size):ei κ ((xs.toList.drop lo).take n):=by
 refine xw.mpr λi j hi hj cI=>?_
 simp only [jk,nE,gE] at hi hj
 have:=h i j cI (by ext hj:1)
 rw [iE (by ext hi:1),iE (by ext hj:1)] at this
 simpa using this
theorem b0D{xs ys:Array Keyed}{n:Nat}(h:∀k,k<n->xs[k]?=ys[k]?):xs.toList.take n=ys.toList.take n:=by
 refine List.ext_getElem? λk=>?_
 rw [P',P',tw,tw]
 split
 .exact h k ‹_›
 .rfl
theorem b3H{Rs:List (List Keyed)}(h:∀R∈Rs,R≠[]):Rs.length<=Rs.flatten.length:=by
 induction Rs with
 | nil=>exact bA _
 | cons R Rs ih =>
  have:=ih λS hS=>h S (by simp [hS])
  have:=pC.mpr (h R (by simp))
  rw [EL,dq,pB]
  lia
theorem St.push{st:SortSt}(h:St κ C kd a₀ st Rs){ak:SortSt}(e1:arrOf ak=arrOf st)(e2:kindOf ak=kindOf st)(e3:failedOf ak=failedOf st)(hq:lg 0 Rs q)(e4:(pendingOf ak).toList=q++[(Rs.flatten.length,n,0)])
  (hn:1<=n)(hl:Rs.flatten.length+n<=a₀.size)(hs:ei κ (((arrOf st).toList.drop Rs.flatten.length).take n)):St κ C kd a₀ ak (Rs++[((arrOf st).toList.drop Rs.flatten.length).take n]):=by
 have hz:(arrOf st).toList.length=a₀.size:=by rw [gE];exact h.perm.size_eq
 have ln:(((arrOf st).toList.drop Rs.flatten.length).take n).length=n:=by rw [jk,nE];ext hl hz
 have eF:(Rs++[((arrOf st).toList.drop Rs.flatten.length).take n]).flatten=Rs.flatten++((arrOf st).toList.drop Rs.flatten.length).take n:=by simp
 have lF:(Rs++[((arrOf st).toList.drop Rs.flatten.length).take n]).flatten.length=Rs.flatten.length+n:=by rw [eF,dq,ln]
 refine ⟨by rw [e1];exact h.perm,by rw [e2];exact h.kind,by rw [e3];exact h.failed,?_,by rw [lF];exact hl,?_,λR hR=>?_⟩
 .rw [lF,e1,List.take_add,h.pre,eF]
 .rw [e4]
  refine hq.app ⟨?_,ln.symm,trivial⟩
  exact (tq _).symm
 .rcases bX.mp hR with hR | hR
  .exact h.run R hR
  .rw [bT.mp hR]
   refine ⟨λz=>?_,hs⟩
   rw [z] at ln
   simp at ln
   ext hn ln
theorem lg.mod{α:Type}(f:Nat×Nat×Nat->Nat×Nat×Nat)(hf:∀x,(f x).1=x.1/\(f x).2.1=x.2.1):∀{o:Nat} {Rs:List (List α)} {ps:List (Nat×Nat×Nat)} (i:Nat),lg o Rs ps->lg o Rs (ps.modify i f)
 | _,[],[],i,_=>by cases i<;>exact trivial
 | o,R::Rs,p::ps,0,h=>⟨by rw [(hf p).1];exact h.1,by rw [(hf p).2];exact h.2.1,h.2.2⟩
 | o,R::Rs,p::ps,i+1,h=>⟨h.1,h.2.1,h.2.2.mod f hf i⟩
theorem St.weigh{st:SortSt}(h:St κ C kd a₀ st Rs){ak:SortSt}(hb:Bs κ C kd st Rs.flatten.length ak):St κ C kd a₀ ak Rs:=
 ⟨hb.perm.trans h.perm,by rw [hb.rest];exact h.kind,by rw [hb.rest];exact h.failed,by rw [b0D hb.ahead];exact h.pre,h.le,by rw [hb.rest];exact h.sA,h.run⟩
theorem za(hk:Ask prog w s kd κ C)(k:Kn κ C a₀){st:SortSt}{Q:Unit->SortSt->Prop}(h:St κ C kd a₀ st [])(h2:2<=a₀.size)
  (hQ:∀ak,(arrOf ak).Perm a₀->failedOf ak=none->ei κ (arrOf ak).toList->Q () ak):wpS (model prog w) A E s sortRuns' Q st:=by
 unfold wpS
 wp_delta
 wp_delta
 wp_delta
 refine xQ (Q:=Q) (aS (nv ?_))
 dsimp only
 have hz:(arrOf st).size=a₀.size:=h.perm.size_eq
 simp only [hz]
 refine aS (kF (kJ (λx c ak=>∃Rs:List (List Keyed),c=(none,Rs.flatten.length)/\St κ C kd a₀ ak Rs/\x<=Rs.flatten.length) (Q:=λc ak=>∃Rs:List (List Keyed),c=(none,Rs.flatten.length)/\St κ C kd a₀ ak Rs/\Rs.flatten.length=a₀.size) (λx c ak _ hx hI=>?_) (λc ak hI=>?_) ⟨[],rfl,h,bA _⟩) λc ak hI=>?_)
 .obtain ⟨Rs,rfl,hS,hp⟩:=hI
  dsimp only
  have hle:=hS.le
  by_cases c1:Rs.flatten.length≥a₀.size
  .rw [if_pos c1]
   exact aW ⟨Rs,rfl,hS,by ext hle c1⟩
  rw [if_neg c1]
  have sG:(arrOf ak).size=a₀.size:=hS.perm.size_eq
  refine aS ?_
  refine JE hk (hS.al k) (by ext c1 sG) (by ext c1) λm gu hb m1 m2 hu=>?_
  dsimp only
  have S2:=hS.weigh hb
  have wD:(arrOf gu).size=a₀.size:=S2.perm.size_eq
  generalize (sortPriv% PySem.Builtin.minRun) a₀.size a₀.size 0 = mr
  by_cases c2:m<mr
  .rw [if_pos c2]
   refine aS (xC (aS ?_))
   generalize hF:min (a₀.size-Rs.flatten.length) mr=n
   refine KW hk (S2.al k) (by ext c1 wD hF) m1 (by ext m2 c2 hF) hu λiJ ZX Il=>?_
   rw [if_neg (by decide)]
   have S3:=S2.weigh ZX
   have n1:1<=n:=by ext m1 m2 c2 hF
   have n2:Rs.flatten.length+n<=a₀.size:=by ext c1 hF
   have Ie:(arrOf iJ).size=a₀.size:=S3.perm.size_eq
   have uG:=So Il (by ext n2 Ie)
   have l3:(((arrOf iJ).toList.drop Rs.flatten.length).take n).length=n:=by rw [jk,nE,gE];ext n2 Ie
   refine aS (nv ?_)
   cases ZV:(pendingOf iJ).back? with
   | none =>
    dsimp only
    refine aS (qf (aW ⟨Rs++[((arrOf iJ).toList.drop Rs.flatten.length).take n],?_,S3.push rfl rfl rfl S3.sA (xj ..) n1 n2 uG,?_⟩))
    .rw [tB,dq,tx,l3]
    .rw [tB,dq,tx,l3]
     ext hp n1
   | some p =>
    obtain ⟨s1,uw,p3⟩:=p
    dsimp only
    refine aS (kF (kJ (λx c ak=>c=(none,())/\∃Ts:List (List Keyed),St κ C kd a₀ ak Ts/\Ts.flatten.length=Rs.flatten.length/\(arrOf ak).toList.drop Rs.flatten.length=(arrOf iJ).toList.drop Rs.flatten.length) (Q:=λc ak=>c=(none,())/\∃Ts:List (List Keyed),St κ C kd a₀ ak Ts/\Ts.flatten.length=Rs.flatten.length/\(arrOf ak).toList.drop Rs.flatten.length=(arrOf iJ).toList.drop Rs.flatten.length) (λx c ak _ hx hI=>?_) (λc ak hI=>hI) ⟨rfl,Rs,S3,rfl,rfl⟩) λc ak hI=>?_)
    .obtain ⟨rfl,Ts,hT,hl,ha⟩:=hI
     refine aS (nv ?_)
     have hc:=hT.cnt
     simp only [hc]
     by_cases c3:Ts.length>1
     .rw [if_pos c3]
      cases hg:(pendingOf ak)[Ts.length-2]? with
      | none=>exact aW ⟨rfl,Ts,hT,hl,ha⟩
      | some p =>
       obtain ⟨p1,p2,p3⟩:=p
       dsimp only
       split
       .exact aW ⟨rfl,Ts,hT,hl,ha⟩
       .obtain ⟨Xs,R1,R2,rfl,hX⟩:=LC (Rs:=Ts) ‹_›
        refine aS ?_
        refine Fq hk k hT hX.symm λwt R uW uM rm=>?_
        rw [if_neg (by decide)]
        exact aW ⟨rfl,_,uW,uM.trans hl,by rw [hl] at rm;exact rm.trans ha⟩
     .rw [if_neg c3]
      exact aW ⟨rfl,Ts,hT,hl,ha⟩
    .obtain ⟨rfl,Ts,hT,hl,ha⟩:=hI
     dsimp only
     refine aS (qf (aS (qf (aW ⟨Ts++[((arrOf ak).toList.drop Ts.flatten.length).take n],?_,hT.push rfl rfl rfl (hT.sA.mod (λx=>(x.1,x.2.1,power' a₀.size (2*s1+uw) (2*s1+uw+uw+n) a₀.size)) (λ_=>⟨rfl,rfl⟩) ((pendingOf ak).size-1)) (by rw [hl];exact (xj ..).trans (by rw [Qg];rfl)) n1 (by ext n2 hl) (by rw [hl,ha];exact uG),?_⟩))))
     .rw [tB,dq,tx,hl,ha,l3]
     .rw [tB,dq,tx,hl,ha,l3]
      ext hp n1
  .rw [if_neg c2]
   obtain ⟨n,rfl⟩:∃n,n=m:=⟨_,rfl⟩
   obtain ⟨iJ,rfl⟩:∃iJ,iJ=gu:=⟨_,rfl⟩
   have S3:=S2
   have Il:=hu
   have n1:1<=n:=by assumption
   have n2:Rs.flatten.length+n<=a₀.size:=by ext c1 m2
   have Ie:(arrOf iJ).size=a₀.size:=S3.perm.size_eq
   have uG:=So Il (by ext wD n2)
   have l3:(((arrOf iJ).toList.drop Rs.flatten.length).take n).length=n:=by rw [jk,nE,gE];ext wD n2
   refine aS (nv ?_)
   cases ZV:(pendingOf iJ).back? with
   | none =>
    dsimp only
    refine aS (qf (aW ⟨Rs++[((arrOf iJ).toList.drop Rs.flatten.length).take n],?_,S3.push rfl rfl rfl S3.sA (xj ..) n1 n2 uG,?_⟩))
    .rw [tB,dq,tx,l3]
    .rw [tB,dq,tx,l3]
     ext hp m1
   | some p =>
    obtain ⟨s1,uw,p3⟩:=p
    dsimp only
    refine aS (kF (kJ (λx c ak=>c=(none,())/\∃Ts:List (List Keyed),St κ C kd a₀ ak Ts/\Ts.flatten.length=Rs.flatten.length/\(arrOf ak).toList.drop Rs.flatten.length=(arrOf iJ).toList.drop Rs.flatten.length) (Q:=λc ak=>c=(none,())/\∃Ts:List (List Keyed),St κ C kd a₀ ak Ts/\Ts.flatten.length=Rs.flatten.length/\(arrOf ak).toList.drop Rs.flatten.length=(arrOf iJ).toList.drop Rs.flatten.length) (λx c ak _ hx hI=>?_) (λc ak hI=>hI) ⟨rfl,Rs,S3,rfl,rfl⟩) λc ak hI=>?_)
    .obtain ⟨rfl,Ts,hT,hl,ha⟩:=hI
     refine aS (nv ?_)
     have hc:=hT.cnt
     simp only [hc]
     by_cases c3:Ts.length>1
     .rw [if_pos c3]
      cases hg:(pendingOf ak)[Ts.length-2]? with
      | none=>exact aW ⟨rfl,Ts,hT,hl,ha⟩
      | some p =>
       obtain ⟨p1,p2,p3⟩:=p
       dsimp only
       split
       .exact aW ⟨rfl,Ts,hT,hl,ha⟩
       .obtain ⟨Xs,R1,R2,rfl,hX⟩:=LC (Rs:=Ts) ‹_›
        refine aS ?_
        refine Fq hk k hT hX.symm λwt R uW uM rm=>?_
        rw [if_neg (by decide)]
        exact aW ⟨rfl,_,uW,uM.trans hl,by rw [hl] at rm;exact rm.trans ha⟩
     .rw [if_neg c3]
      exact aW ⟨rfl,Ts,hT,hl,ha⟩
    .obtain ⟨rfl,Ts,hT,hl,ha⟩:=hI
     dsimp only
     refine aS (qf (aS (qf (aW ⟨Ts++[((arrOf ak).toList.drop Ts.flatten.length).take n],?_,hT.push rfl rfl rfl (hT.sA.mod (λx=>(x.1,x.2.1,power' a₀.size (2*s1+uw) (2*s1+uw+uw+n) a₀.size)) (λ_=>⟨rfl,rfl⟩) ((pendingOf ak).size-1)) (by rw [hl];exact (xj ..).trans (by rw [Qg];rfl)) n1 (by ext n2 hl) (by rw [hl,ha];exact uG),?_⟩))))
     .rw [tB,dq,tx,hl,ha,l3]
     .rw [tB,dq,tx,hl,ha,l3]
      ext hp m1
 .obtain ⟨Rs,rfl,hS,hp⟩:=hI
  have hle:=hS.le
  exact ⟨Rs,rfl,hS,by ext hp hle⟩
 .obtain ⟨Rs,rfl,hS,hp⟩:=hI
  dsimp only
  have hr:Rs.length<=a₀.size:=by rw [<-hp];exact b3H λR hR=>(hS.run R hR).1
  refine aS (kF (kJ (λx c ak=>c=(none,())/\∃Rs:List (List Keyed),St κ C kd a₀ ak Rs/\Rs.flatten.length=a₀.size/\Rs.length<=max 1 (a₀.size-x)) (Q:=λc ak=>c=(none,())/\∃Rs:List (List Keyed),St κ C kd a₀ ak Rs/\Rs.flatten.length=a₀.size/\Rs.length<=1) (λx c ak _ hx hI=>?_) (λc ak hI=>?_) ⟨rfl,Rs,hS,hp,by ext hr⟩) λc ak hI=>?_)
  .obtain ⟨rfl,Rs,hS,hp,hl⟩:=hI
   refine aS (nv ?_)
   have hc:=hS.cnt
   simp only [hc]
   by_cases c1:Rs.length<=1
   .rw [if_pos c1]
    exact aW ⟨rfl,Rs,hS,hp,c1⟩
   rw [if_neg c1]
   refine aS ?_
   have key:∀j,(j=Rs.length-2\/(3<=Rs.length/\j=Rs.length-3))->∀{Q:Bool->SortSt->Prop},(∀ak Ts,St κ C kd a₀ ak Ts->Ts.flatten.length=Rs.flatten.length->Ts.length+1=Rs.length->Q true ak)->wpS (model prog w) A E s (mergeAt' j) Q ak:=λj hj Q hq=>by
    rcases hj with rfl | ⟨h3,rfl⟩
    .obtain ⟨Xs,R1,R2,rfl,hX⟩:=LC (Rs:=Rs) (by ext c1)
     exact Fq hk k hS hX.symm λwt R uW uM _=>hq wt _ uW uM (by simp)
    .obtain ⟨Xs,R1,R2,R3,rfl,hX⟩:=b7Q (Rs:=Rs) ‹_›
     exact Fq hk k hS hX.symm λwt R uW uM _=>hq wt _ uW uM (by simp)
   refine key _ ?_ λwt Ts hT h1 h2=>?_
   .by_cases c2:Rs.length-2>0
    .rw [if_pos c2]
     split
     .exact .inr ⟨by ext c2,by ext⟩
     .exact .inl rfl
    .rw [if_neg c2]
     exact .inl rfl
   .rw [if_neg (by decide)]
    exact aW ⟨rfl,Ts,hT,by ext hp h1,by ext hl h2⟩
  .obtain ⟨rfl,Rs,hS,hp,hl⟩:=hI
   exact ⟨rfl,Rs,hS,hp,by ext hl⟩
  .obtain ⟨rfl,Rs,hS,hp,hl⟩:=hI
   refine aW (hQ _ hS.perm hS.failed ?_)
   have e:(arrOf ak).toList=Rs.flatten:=by
    have:=hS.pre
    rw [BU (by rw [gE,hS.perm.size_eq];ext hp)] at this
    exact this
   rw [e]
   match Rs,hl,hS.run,hp with
   | [],_,_,hp=>exact EN
   | [R],_,hr,_ =>
    rw [EL,List.flatten_nil,mU]
    exact (hr R (by simp)).2
end
end SO
noncomputable def mh:Nat:=1600000
namespace TS
open PySem PyProof.Rows
noncomputable abbrev kTup:Bool → SortKind:=sortPriv% PySem.Builtin.KeyKind.tuples
theorem b52(x y:Value):keyLt' (kTup true) x y=(do
  let us <-E7 x
  let vs <-E7 y
  for ((p,q),i) in (us.toList.zip vs.toList).zipIdx do
   if !(<-eqBool p q) then return <-oneLt' (true&&i==0) p q
  return decide (us.size<vs.size)):=rfl
section
variable {prog:Program}{w:World}{A:Around}{E:Value->Shared->Prop}{s:Shared}
theorem b3n(hx:s.heap.get? x=some ox)(dx:ox.data=.seq (jm a t::us).toArray n)
  (hy:s.heap.get? y=some oy)(dy:oy.data=.seq (jm b u::vs).toArray m)(cC:a≠b)(h:Q (decide (a<b)) s):wpAny (model prog w) A (keyLt' (kTup true) (.ref x) (.ref y)) Q E s:=by
 rw [b52]
 refine aq (w5 hx dx (aq (w5 hy dy ?_)))
 dsimp only
 rw [Ke,EH,BL]
 refine aq (aq ?_)
 dsimp only
 refine aq (wpAny_eqBool_int ?_)
 rw [if_pos (by simp [cC])]
 exact aq (oneLt_int (bp (bp (bp h))))
noncomputable def kI(ky:Value->Int)(xs:Array Keyed)(i:Nat):Int:=match xs[i]? with
 | some p=>ky p.1
 | none=>0
structure TB(a₀:Array Keyed)(st:SortSt):Prop where
 perm:(arrOf st).Perm a₀
 kind:kindOf st=kTup true
 failed:failedOf st=none
 pend:pendingOf st=#[]
def Di(s:Shared)(ky:Value->Int)(a₀:Array Keyed):Prop:=∀p∈a₀.toList,∃x o t us n,p.1=.ref x/\s.heap.get? x=some o/\o.data=.seq (jm (ky p.1) t::us).toArray n
def wj(ky:Value->Int)(a₀:Array Keyed):Prop:=(a₀.toList.map λp=>ky p.1).Nodup
variable {ky:Value->Int}{a₀:Array Keyed}
def GG(ky:Value->Int)(xs:Array Keyed)(k:Nat):Prop:=∀i j,i<j->j<k->kI ky xs i<kI ky xs j
theorem y9{st:SortSt}{Q:Unit->SortSt->Prop}(hk:Di s ky a₀)(hd:wj ky a₀)(hB:TB a₀ st)(h2:2<=a₀.size)(c6:a₀.size<mh)
  (h:∀ak,(arrOf ak).Perm a₀->failedOf ak=none->GG ky (arrOf ak) a₀.size->Q () ak):wpS (model prog w) A E s sortRuns' Q st:=by
 refine SO.za (kd:=kTup true) (κ:=λp=>ky p.1) (C:=λp=>∃x o t us n,p.1=.ref x/\s.heap.get? x=some o/\o.data=.seq (jm (ky p.1) t::us).toArray n) ⟨λ{x y} cx cy cC=>?_⟩ ⟨hk,hd⟩ ⟨hB.perm,hB.kind,hB.failed,rfl,og _,by rw [hB.pend];trivial,λR hR=>nomatch hR⟩ h2 λak p f i=>h ak p f λa b A7 hb=>?_
 .obtain ⟨x1,o,t,us,n,e1,e2,e3⟩:=cx
  obtain ⟨y1,o',t',us',n',f1,f2,f3⟩:=cy
  intro A E Q hQ
  generalize ky x.1=kx at *
  generalize ky y.1=kz at *
  rw [e1,f1]
  exact b3n e2 e3 f2 f3 cC hQ
 .exact SO.fO i A7 (by rw [p.size_eq];exact hb)
def TupAt(s:Shared)(ky:Value->Int)(v:Value):Prop:=∃x o t us n,v=.ref x/\s.heap.get? x=some o/\o.cls=.type "tuple" /\ o.data=.seq (jm (ky v) t::us).toArray n
theorem b8K(vs:List Value)(hv:∀v∈vs,TupAt s ky v)(h:∀ts:List Tok,ts.length=vs.length->Q (BG (λv t=>some (jm (ky v) t)) vs ts) s):wpAny (model prog w) A (vs.mapM firstOfTuple') Q E s:=by
 induction vs generalizing Q with
 | nil=>rw [List.mapM_nil];exact bp (h [] rfl)
 | cons v vs ih =>
  rw [List.mapM_cons]
  obtain ⟨x,o,t,us,n,e1,e2,e3,e4⟩:=hv v cM
  have ht:s.TypeIs v "tuple":=by rw [e1];exact ⟨o,e2,e3⟩
  have one:wpAny (model prog w) A (firstOfTuple' v) (λr s'=>s'=s/\r=some (jm (ky v) t)) E s:=by
   show wpAny _ _ (typeOf v >>= λT=>if (T != vj "tuple")=true then pure none else E7 v >>= λus=>pure us[0]?) _ _ _
   refine aq (wpAny_typeOf ht ?_)
   rw [if_neg (by simp)]
   have li:wpAny (model prog w) A (E7 (.ref x)) (λus s'=>wpAny (model prog w) A (pure us[0]?) (λr s'=>s'=s/\r=some (jm (ky v) t)) E s') E s:=w5 e2 e4 (bp ⟨rfl,rfl⟩)
   rw [<-e1] at li
   exact aq li
  refine aq (gk one (λr s' hr=>?_) λ_ _ z=>z)
  obtain ⟨rfl,rfl⟩:=hr
  exact aq (ih (λu hu=>hv u (cY _ hu)) λts hl=>bp (h (t::ts) (by simp [hl])))
theorem Ae(vs:List Value){Q:SortKind->Shared->Prop}(cC:vs≠[])(hv:∀v∈vs,TupAt s ky v)(h:Q (kTup true) s):wpAny (model prog w) A (keyKind' vs.toArray) Q E s:=by
 rw [keyKind'_eq,List.mapM_toArray,map_eq_pure_bind]
 refine aq (aq (b8K vs hv λts hl=>bp ?_))
 have hi:∀(us:List Value) (ts:List Tok),ts.length=us.length->(BG (λv t=>some (jm (ky v) t)) us ts).all (·.isSome)=true/\∃ws ns,(BG (λv t=>some (jm (ky v) t)) us ts).filterMap id=ws/\IntsAre ws ns/\ws.length=us.length:=λus=>by
  induction us with
  | nil=>intro ts _;exact ⟨by simp,[],[],by simp,.nil,rfl⟩
  | cons u us ih =>
   intro ts hl
   cases ts with
   | nil=>simp at hl
   | cons t ts =>
    obtain ⟨h1,ws,ns,h2,h3,h4⟩:=ih ts (by simpa using hl)
    exact ⟨by simpa using h1,_::ws,_::ns,by simp [h2],.cons (ky u) t h3,by simp [h4]⟩
 obtain ⟨h1,ws,ns,h2,h3,h4⟩:=hi vs ts hl
 rw [if_pos (by simpa using h1)]
 refine aq (wU (aq ?_))
 have e:(BG (λv t=>some (jm (ky v) t)) vs ts).toArray.filterMap id=ws.toArray:=by simp [h2]
 rw [e,oneTypeOnly'_eq,List.mapM_toArray,mapM_typeOf_ints h3]
 have IB:ws≠[]:=λz=>by rw [z] at h4;exact cC (Kx.mp h4.symm)
 cases ws with
 | nil=>exact absurd rfl IB
 | cons a ws =>
  simp only [map_pure,pure_bind]
  have g0:((qg (λ_=>vj "int") (a::ws)).toArray.all λx=>x==vj "int")=true:=by simp
  have h0:(qg (λ_=>vj "int") (a::ws)).toArray[0]?=some (vj "int"):=by simp
  rw [h0]
  simp only [g0,if_true]
  exact bp (bp h)
theorem b8g{vs:List Value}{xs:Array Keyed}(hp:xs.Perm (pairsOf vs))(hi:GG ky xs (pairsOf vs).size):(xs.map (·.2)).toList.Perm vs/\(xs.map (·.2)).toList.Pairwise λx y=>ky x<ky y:=by
 have dG:=xx.mp hp
 have hz:(vs.zip vs).map (·.2)=vs:=by rw [List.map_snd_zip];exact bA _
 have oU:∀p∈xs.toList,p.1=p.2:=λp q9=>by
  have:=dG.mem_iff.mp q9
  rw [EA] at this
  have key:∀(us:List Value) (p:Value×Value),p∈us.zip us->p.1=p.2:=λus=>by
   induction us with
   | nil=>intro p z;cases z
   | cons u us ih =>
    intro p z
    rcases bI.mp z with rfl | z
    .rfl
    .exact ih p z
  exact key vs p this
 rw [Array.toList_map]
 refine ⟨by have:=dG.map (·.2);rw [EA,hz] at this;exact this,?_⟩
 rw [BO,xw]
 intro i j h1 h2 cI
 have hsz:xs.size=(pairsOf vs).size:=hp.size_eq
 have g:∀k (hk:k<xs.toList.length),kI ky xs k=ky (xs.toList[k]).2:=λk hk=>by
  have p7:k<xs.size:=by simpa using hk
  unfold kI
  rw [getElem?_pos _ k p7]
  have:=oU xs.toList[k] (oq hk)
  show ky (xs[k]).1=_
  rw [<-this]
  simp
 rw [<-g i h1,<-g j h2]
 exact hi i j cI (by rw [<-hsz];simpa using h2)
theorem y3(AJ:s.heap.get? l0=some (seqObj "list" vs.toArray n))(hv:∀v∈vs,TupAt s ky v)(hd:(vs.map ky).Nodup)(c6:vs.length<mh)
  (h:∀out:Array Value,out.toList.Perm vs->(out.toList.Pairwise λx y=>ky x<ky y)->P (.done (.ret .none)) { s with heap:=sortedHeap s.heap l0 vs out }):wpAny (model prog w) A (Builtin.«list.sort» ⟨[.ref l0],[]⟩) P E s:=by
 have aY:l0<s.heap.objs.size:=bO AJ
 obtain ⟨k1,DX⟩:∃k1,(s.heap.update l0 (fL λ_=>#[])).get? l0=some (seqObj "list" #[] k1):=⟨_,Eo AJ λ_=>#[]⟩
 rw [list_sort_plain]
 have hZ:vs.length<=sizeLine:=by rw [h8];unfold mh at c6;ext c6
 have Po:vs.toArray.size<=sizeLine:=by rw [dZ];exact hZ
 have Z2:vs.toArray.toList.length<=sizeLine:=Po
 refine aq (w5 AJ rfl (aq (xc (hsz:=Po) AJ rfl (aq (Ec DX rfl (aq (J2 (hsz:=Z2) (aq (Et (nD ?_))))))))))
 have lu:(((s.heap.update l0 (fL λ_=>#[])).push (seqObj "tuple" vs.toArray 0)).push (seqObj "list" #[] 0)).get? l0=some (seqObj "list" #[] k1):=bP _ (bP _ DX)
 have up:∀b o,b≠l0->s.heap.get? b=some o->(((s.heap.update l0 (fL λ_=>#[])).push (seqObj "tuple" vs.toArray 0)).push (seqObj "list" #[] 0)).get? b=some o:=λb o hb e =>
  bP _ (bP _ ((oj _ _ (fE hb)).trans e))
 have Av:∀v∈vs,TupAt { s with heap:=((s.heap.update l0 (fL λ_=>#[])).push (seqObj "tuple" vs.toArray 0)).push (seqObj "list" #[] 0) } ky v:=λv uC=>by
  obtain ⟨x,o,t,us,m,e1,e2,e3,e4⟩:=hv v uC
  have hx:x≠l0:=λz=>by
   rw [z,AJ] at e2
   cases e2
   have:("list":String) = "tuple":=Value.type.inj e3
   exact absurd this (by decide)
  exact ⟨x,o,t,us,m,e1,up x o hx e2,e3,e4⟩
 dsimp only
 show wpAny _ _ _ _ _ { s with heap:=((s.heap.update l0 (fL λ_=>#[])).push (seqObj "tuple" vs.toArray 0)).push (seqObj "list" #[] 0) }
 generalize hS:({ s with heap:=((s.heap.update l0 (fL λ_=>#[])).push (seqObj "tuple" vs.toArray 0)).push (seqObj "list" #[] 0) }:Shared)=S at Av ⊢
 have Z3:S.heap=((s.heap.update l0 (fL λ_=>#[])).push (seqObj "tuple" vs.toArray 0)).push (seqObj "list" #[] 0):=by rw [<-hS]
 have iM:S.heap.get? l0=some (seqObj "list" #[] k1):=by rw [Z3];exact lu
 have ends:∀st:SortSt,(arrOf st).Perm (pairsOf vs)->failedOf st=none->GG ky (arrOf st) (pairsOf vs).size ->
   wpAny (model prog w) A (do
    let touched:=(<-seqEpoch l0) != k1
    Builtin.List.listUpdate (.ref l0) λ_=>(arrOf st).map (·.2)
    if let some e:=failedOf st then rule "list.sort.comparison-raised";throw e
    if touched then rule "list.sort.modified";raiseError "ValueError" "list modified during sort"
    ret .none) P E S:=λst hp hf hi=>by
  obtain ⟨o1,o2⟩:=b8g hp hi
  refine aq (Ec iM rfl (aq (xc iM rfl ?_ (hsz2:=?_))))
  .rw [hf]
   simp only [bne_self_eq_false,ou,if_false]
   refine bp ?_
   have:=h _ o1 o2
   rw [<-hS]
   exact this
  .rw [Array.size_map,hp.size_eq,D9,h8];unfold mh at c6;ext c6
 have AM:Di S ky (pairsOf vs):=λp hp=>by
  rw [EA] at hp
  obtain ⟨x,o,t,us,m,e1,e2,e3,e4⟩:=Av p.1 (EO hp).1
  exact ⟨x,o,t,us,m,e1,e2,e4⟩
 have A0:wj ky (pairsOf vs):=by
  unfold wj
  rw [EA,show (vs.zip vs).map (λp=>ky p.1)=((vs.zip vs).map (·.1)).map ky by rw [lD];rfl,List.map_fst_zip (bA _)]
  exact hd
 have hsz:vs.toArray.size=vs.length:=by simp
 by_cases h2:vs.toArray.size<2
 .rw [if_pos h2]
  refine aq (bp ?_)
  rw [if_pos h2,StateT.run_pure]
  refine aq (bp ?_)
  exact ends (BB general' (pairsOf vs) #[] 7 none) (sY _) rfl λi j cI hj=>by rw [D9] at hj;ext hsz h2 cI hj
 .rw [if_neg h2]
  refine aq (Ae vs (λz=>by rw [z] at hsz;simp at h2;simp [z] at h2) Av ?_)
  rw [if_neg h2]
  refine aq (gk (y9 (a₀:=pairsOf vs) (st:=BB (kTup true) (pairsOf vs) #[] 7 none) (Q:=λ_ ak=>(arrOf ak).Perm (pairsOf vs)/\failedOf ak=none/\GG ky (arrOf ak) (pairsOf vs).size) AM A0 ⟨sY _,rfl,rfl,rfl⟩ (by rw [D9];ext hsz h2) (by rw [D9];exact c6) λak a b c=>⟨a,b,c⟩) (λr s' hr=>?_) λ_ _ z=>z)
  obtain ⟨rfl,p1,p2,p3⟩:=hr
  exact ends r.2 p1 p2 p3
theorem qP(hl:s.heap.IsList l vs.toArray)(hv:∀v∈vs,TupAt s ky v)(hd:(vs.map ky).Nodup)(c6:vs.length<mh)
  (h:∀out:Array Value,out.toList.Perm vs->(out.toList.Pairwise λx y=>ky x<ky y)->Q (.ref (s.heap.objs.size+1)) { s with heap:=sortedAll s.heap vs out }):wpAny (model prog w) A (call (.builtin "sorted") [.ref l]) Q E s:=by
 refine Calls.call_function_entry kind_sorted plain_sorted entry_sorted (args_sorted1 _) ?_
 unfold Builtin.«sorted»
 have hZ:vs.length<=sizeLine:=by rw [h8];unfold mh at c6;ext c6
 refine aq (m:=checkCount "sorted" 1 1 _) (bp (aq (collect_list (hsz:=hZ) hl (aq (Et (hsz:=hZ) ?_)))))
 have z1:((s.heap.push (seqObj "list" #[] 0)).update s.heap.objs.size (fL (·++vs.toArray))).objs.size=s.heap.objs.size+1:=(Kv ..).trans (Ei _ _)
 have z2:(((s.heap.push (seqObj "list" #[] 0)).update s.heap.objs.size (fL (·++vs.toArray))).push (seqObj "list" vs.toArray 0)).get? (s.heap.objs.size+1)=some (seqObj "list" vs.toArray 0):=by
  rw [<-z1]
  exact ft _ rfl
 have up:∀b o,s.heap.get? b=some o->(((s.heap.push (seqObj "list" #[] 0)).update s.heap.objs.size (fL (·++vs.toArray))).push (seqObj "list" vs.toArray 0)).get? b=some o:=λb o e =>
  bP _ ((oj _ _ (w8 (bO e))).trans (bP _ e))
 show wpAny _ _ _ _ _ { s with heap:=((s.heap.push (seqObj "list" #[] 0)).update s.heap.objs.size (fL (·++vs.toArray))).push (seqObj "list" vs.toArray 0) }
 rw [z1]
 have Ik:∀v∈vs,TupAt { s with heap:=((s.heap.push (seqObj "list" #[] 0)).update s.heap.objs.size (fL (·++vs.toArray))).push (seqObj "list" vs.toArray 0) } ky v:=λv uC=>by
  obtain ⟨x,o,t,us,m,e1,e2,e3,e4⟩:=hv v uC
  exact ⟨x,o,t,us,m,e1,up x o e2,e3,e4⟩
 refine aq (nD (xh slot_list_sort ⟨_,z2,rfl⟩ entry_list_sort (y3 z2 Ik hd c6 λout o1 o2=>⟨_,rfl,?_⟩) (args_list_sort _)))
 exact bp ⟨_,rfl,h out o1 o2⟩
end
end TS
namespace DL
open PySem PySem.Spec PyProof.Rows L2
theorem TL{α β:Type}{f:α->β}{l:List β}{ts:List α}(h:l.Perm (ts.map f)):∃us:List α,us.Perm ts/\us.map f=l:=by
 generalize e:ts.map f=m at h
 induction h generalizing ts with
 | nil=>exact ⟨[],by rw [List.map_eq_nil_iff.mp e],rfl⟩
 | cons x _ ih =>
  cases ts with
  | nil=>cases e
  | cons t ts =>
   cases e
   obtain ⟨us,h1,h2⟩:=ih rfl
   exact ⟨t::us,h1.cons t,by rw [kM,h2]⟩
 | swap x y l =>
  match ts,e with
  | a::b::ts,e =>
   cases e
   exact ⟨b::a::ts,List.Perm.swap _ _ _,rfl⟩
 | trans _ _ Zf Ze =>
  obtain ⟨us,h1,h2⟩:=Ze e
  obtain ⟨ws,h3,h4⟩:=Zf h2
  exact ⟨ws,h3.trans h1,h4⟩
noncomputable def xN(s:Shared):Value->Int
 | .ref x=>match s.heap.get? x with
  | some o=>match o.data with
   | .seq xs _=>match xs[0]? with
    | some (jm a _)=>a
    | _=>0
   | _=>0
  | _=>0
 | _=>0
section
variable {X:Cx}
theorem a87:cF X (.builtin "sorted") (λxs H Q=>∃(p:Addr) (ts:List (Addr×Int×D)),xs=[.ref p]/\Sq X.K H true p (ts.map λt=>V.ref t.1)/\(∀t∈ts,∃zs,fj X.K H t.1 (.int t.2.1::zs))/\(ts.map (·.2.1)).Nodup/\ts.length<mh /\
  ∀(us:List (Addr×Int×D)) (a:Addr),us.Perm ts->(us.Pairwise λx y=>x.2.1<y.2.1)->H a=none->Q (.ref a) (upd H a (.lst (us.map λt=>V.ref t.1)))):=by
 intro pins s σ H xs vs Q I r h
 obtain ⟨p,ts,rfl,hq,Pc,oX,c6,q⟩:=h
 obtain ⟨u,rfl,ru⟩:=r.one
 cases ru
 obtain ⟨av,rv,pl⟩:=rM (b:=true) I hq
 have hits:av=ts.map λt=>jS t.1:=by
  clear pl hq Pc oX c6 q
  induction ts generalizing av with
  | nil=>cases rv;rfl
  | cons t ts ih =>
   cases rv with
   | cons a b =>
    cases a
    rw [kM,ih _ b]
 subst hits
 have wI:∀t∈ts,TS.TupAt s (xN s) (.ref t.1)/\xN s (.ref t.1)=t.2.1:=λt ht=>by
  obtain ⟨zs,hz⟩:=Pc t ht
  obtain ⟨ws,qS,pt,_⟩:=I.tuple hz
  obtain ⟨o,ho,hc,n,hd⟩:=(show s.heap.IsTuple t.1 ws.toArray from pt)
  cases qS with
  | cons a b =>
   obtain ⟨tk,rfl⟩:=a
   have e:xN s (.ref t.1)=t.2.1:=by
    unfold xN
    dsimp only
    rw [ho]
    dsimp only
    rw [hd]
    rfl
   exact ⟨⟨t.1,o,tk,_,n,rfl,ho,hc,by rw [e];exact hd⟩,e⟩
 have IE:(ts.map λt=>jS t.1).map (xN s)=ts.map (·.2.1):=by
  rw [lD]
  exact Ki λt ht=>(wI t ht).2
 refine TS.qP (ky:=xN s) pl (λv hv=>?_) (by rw [IE];exact oX) (by rw [cj];exact c6) λout o1 o2=>?_
 .obtain ⟨t,ht,rfl⟩:=mV.mp hv
  exact (wI t ht).1
 .obtain ⟨us,u1,u2⟩:=TL o1
  have u3:us.Pairwise λx y=>x.2.1<y.2.1:=by
   rw [<-u2,BO] at o2
   refine o2.imp_of_mem λ{x y} hx hy z=>?_
   rwa [(wI x (u1.subset hx)).2,(wI y (u1.subset hy)).2] at z
  obtain ⟨e,he⟩:=sortedAll_at s.heap (ts.map λt=>jS t.1) out
  have fr:H (s.heap.objs.size+1)=none:=I.aT.fresh (BK _)
  refine ⟨.ref (s.heap.objs.size+1),_,I.laid (o:=.lst (us.map λt=>V.ref t.1)) (t':=s.toks) (λb o e=>sortedAll_old e) (BK _) ⟨?_,out.toList,e,?_,?_⟩,rfl,q us _ u1 u3 fr⟩
  .rw [cj,u1.length_eq,h8];unfold mh at c6;ext c6
  .rw [<-u2]
   clear u1 u3 u2
   induction us with
   | nil=>exact .nil
   | cons t us ih=>exact .cons rfl ih
  .simpa using he
noncomputable def Af:D->Option (Int×D)
 | .tup (.int k::ds)=>some (k,.tup (.int k::ds))
 | _=>none
noncomputable def B8:List D->Option (List (Int×D))
 | []=>some []
 | d::ds=>(Af d).bind λk=>(B8 ds).map λks=>k::ks
noncomputable def xI(ds:List D):Option (List D):=(B8 ds).bind λks=>if (ks.map (·.1)).Nodup/\ks.length<mh then some ((ks.mergeSort λa b=>decide (a.1<=b.1)).map (·.2)) else none
noncomputable def FY(f:En->Option Sl):En->Option Sl:=λenv=>(f env).bind λr=>match r.d with
 | .lst _ ds=>(xI ds).map Sl.ow
 | _=>none
theorem UQ:∀{l m:List (Int×D)},l.Perm m->(l.map (·.1)).Nodup->(l.Pairwise λa b=>a.1<=b.1)->(m.Pairwise λa b=>a.1<=b.1)->l=m
 | [],m,h,_,_,_=>(List.nil_perm.mp h).symm
 | a::l,[],h,_,_,_=>by have:=h.length_eq;simp at this
 | a::l,b::m,h,hn,hl,hm=>by
  have A7:a=b:=by
   have h1:a∈b::m:=h.subset cM
   have h2:b∈a::l:=h.symm.subset cM
   have e:a.1=b.1:=by
    have k1:b.1<=a.1:=by
     rcases bI.mp h1 with z | z
     .rw [z];exact eQ _
     .exact (iC.mp hm).1 a z
    have k2:a.1<=b.1:=by
     rcases bI.mp h2 with z | z
     .rw [z];exact eQ _
     .exact (iC.mp hl).1 b z
    ext k1 k2
   rcases bI.mp h2 with z | z
   .exact z.symm
   .have:=(vv.mp hn).1
    exact absurd (mV.mpr ⟨b,z,e.symm⟩) this
  subst A7
  rw [UQ (h.cons_inv) (vv.mp hn).2 (iC.mp hl).2 (iC.mp hm).2]
theorem b1P(hg:Gl X "sorted")(hm:X.mg "sorted" = none)(he:EV X e fa)(hs:starEach [e] X.env=[(false,eval e X.env)]:=by rfl):EV X (.Call (.Name "sorted" p) [e] [] pos) (FY fa):=by
 obtain ⟨t,pt,k⟩:=he
 refine ⟨_,tP a87 hg hm (by decide +kernel) (mZ pt pI hs) (by decide) (by decide) hs rfl,λO B σ H env s Q R e q=>?_⟩
 obtain ⟨r,e1,e2⟩:=bind_some e
 refine k O B σ H env r _ R e1 λv H1 s1 r1=>?_
 have hi:=r1.is λq=>R.oo
 cases hd:r.d with
 | lst b ds =>
  rw [hd] at e2 hi
  obtain ⟨rs,e3,rfl⟩:=map_some (show (xI ds).map Sl.ow=some s from e2)
  obtain ⟨ks,e4,e5⟩:=bind_some e3
  obtain ⟨⟨oX,c6⟩,rfl⟩:=gx e5
  obtain ⟨a,xs,rfl,h2,h3⟩:=hi.seq (k:=true) rfl
  have lay:∀{xs:List V} {ds:List D} {ks:List (Int×D)},aN X.K (OO O σ env) H1 xs ds->B8 ds=some ks->∃ts:List (Addr×Int×D),xs=ts.map (λt=>V.ref t.1)/\ks=ts.map (λt=>t.2)/\∀t∈ts,Is X.K (OO O σ env) H1 (.ref t.1) t.2.2/\∃zs,fj X.K H1 t.1 (.int t.2.1::zs):=λ{xs ds ks} hI=>by
   intro hk
   induction ds generalizing xs ks with
   | nil=>cases hI;cases hk;exact ⟨[],rfl,rfl,λ_ z=>nomatch z⟩
   | cons d ds ih =>
    cases hI with
    | cons i1 i2 =>
     rename_i x qK
     obtain ⟨kd,f1,f2⟩:=bind_some hk
     obtain ⟨ks',f3,f4⟩:=map_some f2
     obtain ⟨ts,g1,g2,g3⟩:=ih i2 f3
     obtain ⟨kk,rest,rfl,rfl⟩:∃kk rest,d=.tup (.int kk::rest)/\kd=(kk,d):=by
      unfold Af at f1
      split at f1
      .cases f1;exact ⟨_,_,rfl,rfl⟩
      .cases f1
     obtain ⟨ad,zs,rfl,hz,Ar⟩:=i1.seq (k:=false) rfl
     cases Ar with
     | cons z1 z2 =>
      obtain rfl:=fG z1
      refine ⟨(ad,kk,.tup (.int kk::rest))::ts,by rw [g1];rfl,by rw [<-f4,g2];rfl,λt ht=>?_⟩
      rcases bI.mp ht with rfl | ht
      .exact ⟨i1,_,hz⟩
      .exact g3 t ht
  obtain ⟨ts,rfl,rfl,g3⟩:=lay h3 e4
  rw [lD] at oX
  rw [cj] at c6
  refine ⟨a,ts,rfl,h2,λt ht=>(g3 t ht).2,oX,c6,λus c u1 u2 hc=>?_⟩
  have oU:us.map (λt=>t.2)=(ts.map λt=>t.2).mergeSort λa b=>decide (a.1<=b.1):=by
   refine UQ ((u1.map _).trans (Qf _ _).symm) ?_ ?_ ?_
   .rw [lD];exact (u1.map _).nodup_iff.mpr oX
   .rw [BO];exact u2.imp λ{x y} z=>BE z
   .have:=Qr (le:=λa b:Int×D=>decide (a.1<=b.1)) (λa b c h1 h2=>by simp at *;ext h1 h2) (λa b=>by simp;ext) (ts.map λt=>t.2)
    exact this.imp λ{x y} z=>by simpa using z
  rw [<-oU,lD] at q
  refine q _ _ (s1.trans (lJ hc _)) ((vP hc ?_).from s1)
  have conv:∀ws:List (Addr×Int×D),(∀t∈ws,Is X.K (OO O σ env) H1 (.ref t.1) t.2.2)->aN X.K (OO O σ env) H1 (ws.map λt=>V.ref t.1) (ws.map λt=>t.2.2):=λws=>by
   induction ws with
   | nil=>exact λ_=>.nil
   | cons w ws ih=>exact λhw=>.cons (hw w cM) (ih λz hz=>hw z (cY _ hz))
  exact conv us λt ht=>(g3 t (u1.subset ht)).1
 | _=>rw [hd] at e2;cases e2
noncomputable def QL(f:En->Option Sl):En->Option Sl:=λenv=>(iT (f env)).map λb=>.sh (.int (if b then 1 else 0))
end
end DL
namespace DL
open PySem PySem.Spec PyProof.Rows L2 PySem.W PySem.Calls
def Sm(n:Int):Prop:=n.natAbs.log2<=2^20
theorem Sr:∀{ns:List Int} {m:Nat},Qq (ns.map Ew)<=m->m<=2^20->∀n∈ns,Sm n
 | [],_,_,_,_,h=>by cases h
 | x::ns,m,hw,hm,n,h=>by
  rw [kM,Qq] at hw
  rcases bI.mp h with rfl | h
  .unfold Sm
   rw [PV] at hw
   by_cases h0:n=0
   .subst h0;decide
   .rw [if_neg (by simpa using h0)] at hw
    ext hm hw
  .exact Sr (m:=m) (by ext hw) hm n h
theorem b0Z{ns:List Int}(h:Qs [PL (ns.map Ew)]=true):∀n∈ns,Sm n:=by
 unfold Qs PySem.W.WData.layable at h
 simp only [List.all_cons,List.all_nil,Bool.and_true,vk,decide_eq_true_eq] at h
 have hw:=h.2
 rw [PV] at hw
 exact Sr hw (bA _)
def t7(n:Int):Prop:=n.natAbs.log2<=2^20+64
theorem Sm.x(h:Sm n):t7 n:=dY h (tj _ _)
def mv(i j:Int):Prop:=t7 i /\ -LIM<=j/\j<=LIM
noncomputable instance (i j:Int):Decidable (mv i j):=by unfold mv t7;infer_instance
noncomputable def Ca:D->D->Option Sl:=gI mv λi j=>i*j
theorem L8:gJ X (binaryOp .Mult) Ca:=xA (uo λi j _ _ _ _ _ (hc:mv i j) q=>mul_int q (mulOk_of_bits (m:=2^20+65) (by
 have:=hc.1
 unfold t7 at this
 unfold Kk
 split<;>lia) (Mw hc.2.1 hc.2.2) (by decide)))
noncomputable def ue(K:aC):Sp:=λvs H Q _=>∃(a:Addr) (ns:List Int),vs=[.ref a]/\dR K H a (ns.map V.int)/\ns.length<=63/\(∀n∈ns,Sm n)/\Tb K H/\∀H',ao H H'->Q (.bl true) H'
theorem b5Z{P:Program}{w:World}{K:aC}{mg:Str->Option Value}{base:Heap}{k:Nat}{f:Addr}{fd:FuncData}{φ:List D->Option Sl}(F:bG P w K mg base jc k f fd ["script"] (mw K 1 φ))
  (h:∀ns:List Int,ns.length<=63->(∀n∈ns,Sm n)->φ [.lst true (ns.map D.int)]=some (Sl.sh (.bl true))):bG P w K mg base jc k f fd ["script"] (ue K):=by
 refine F.imp λvs H Q E q=>?_
 obtain ⟨a,ns,rfl,hs,hl,hb,tb,q⟩:=q
 refine ⟨λ_=>False,[.lst true (ns.map D.int)],_,⟨λ_ z=>z.elim,tb⟩,.cons ?_ .nil,rfl,h ns hl hb,λv H' sm r=>?_⟩
 .rcases hs with hs | hs
  .exact .j7 id hs (aN.ints ns)
  .exact .kn (.inr hs) (aN.ints ns)
 .have r':Is K (λ_=>False) H' v (.bl true):=r
  rw [xy r']
  exact q H' sm
theorem ua{l:JS}{q:Program}{loose:List Str}{XP:(Str->Option Value)->Heap->Prop}{YP:World->Heap->Prop}{d:DefRec}{K:Params->aC}{k:Nat}(hk:bh k callerA)(hn:l.most=some 63)(A3:d.params.defaults=[])
  {ts:List Addr}(hY:∀(w:World) (h:Heap),YP w h->(K w.params).In h/\∀P∈ts,h.get? P=some (w4 #[]))(hL:∀w:World,Fd (K w.params) ts=true)
  (F:∀(w:World) (mg:Str->Option Value) (fa:Addr) (h:Heap),(K w.params).In h->h.Ns mainGlobals mg->mg d.name=some (.ref fa) ->
   ∃fd:FuncData,(∀(s:Shared) (u:Value),BindsTo s fd ⟨[u],[]⟩ [("script",u)])/\∀base:Heap,(K w.params).In base->base.Ns mainGlobals mg->bG l.prog w (K w.params) mg base jc k fa fd ["script"] (ue (K w.params))):
  PySem.W.WalkO q loose XP YP l.row.toRowW d [] (λf vs=>JI f vs):=by
 intro w bF aM mg mb G Y fa o pm cd doc dV kV ho hd bW hD uL hg args vals as fT AH Zv Au AF
 obtain rfl:dV=.none:=Dflts.none hD A3
 obtain rfl:kV=.none:=Dflts.noKw hD
 obtain ⟨a,vs,ns,rfl,rfl,oW,hints,hlen⟩:=GJ.je hn fT Au
 obtain ⟨KX,uV⟩:=hY w _ Y
 obtain ⟨fd,hb,hF⟩:=F w mg fa _ KX G.T.g uL
 refine enter_call (w6 (Tq KX G.T.g G.T.b G.T.builtins G.T.nolimit hg G.T.bmain (hL w) uV oW hints (dY hlen (by decide)) hk hF hb (λH tb hS=>⟨a,ns,rfl,hS,hlen,b0Z AH,tb,λ_ sm=>⟨rfl,tb.grow sm⟩⟩) λ_ _ _ z=>z) λr s' hq=>?_)
 obtain ⟨rfl,h2,h3,h4⟩:=hq
 exact ⟨.inl ⟨.bool true,.bool true,[],rfl,λ_=>rfl,.bool true,GJ.jf l _,λ_=>⟨EN,λ_ hm=>(nomatch hm)⟩⟩,h2,h3,h4⟩
end DL
namespace DL
open PySem PySem.Spec PyProof.Rows L2
section
variable {prog:Program}{w:World}{A:Around}{E:Value->Shared->Prop}{s:Shared}{a₀:Array Keyed}
end
section
variable {X:Cx}{pins:List (Addr×Obj)}{s:Shared}{σ:L2.St}{H:Hp}
theorem yG(I:Inv X pins σ H s)(hf:cK X pins H a)(new:cL X.prog X.w (upd H a o) s.heap a o):Inv X pins σ (upd H a o) s:=by
 have ne:∀b u,H b=some u->b≠a:=λb u e z=>by rw [z,hf.1] at e;cases e
 refine I.step (g':=s.gens) (t':=s.toks) (d':=s.drawn) (ch:=[a]) (h':=s.heap) (H':=upd H a o) (λb hb=>?_) (λb o _ _ _ e _=>e) (λb o _ _ _ e _=>⟨o.slots,e⟩) (λb o hc e n=>by rw [bM (by simpa using hc)];exact n) (λb o _ e=>⟨o,e⟩)
  (λb xs e=>by rw [bM (ne b _ e)];exact e) (λb o u e=>by rw [bM (ne b _ e)];exact e) (λb ps e=>⟨#[],by rw [bM (ne b _ e),e];simp⟩) (λm hm=>hm) (λb u e=>?_) I.bare
 .obtain rfl:b=a:=by simpa using hb
  exact ⟨hf.2.2.2.1,hf.2.1,hf.2.2.2.2.1,hf.2.2.2.2.2⟩
 .by_cases hb:b=a
  .subst hb
   rw [kQ] at e
   cases e
   exact new
  .rw [bM hb] at e
   exact (I.aT b u e).gr (λ_ _ _ q=>q) (λc _ _ q=>by rw [bM (ne c _ q)];exact q) λc xs q=>by rw [bM (ne c _ q)];exact q
theorem b3W(F:bG X.prog X.w X.K X.mg X.base jc k f fd ps (mw X.K ps.length φ))(h1:ps.length=1)(hr:bh k A')(hA:A'.frames=X.A.frames)(hb:Binds X.K fd ps [])
  (I:Inv X pins σ H s)(rx:RelV x v)(hO:nW X.K O H)(hx:Is X.K O H x d)(e:φ [d]=some (.sh (.int n))):
  wpAny (model X.prog X.w) A' (call (.ref f) [v]) (λu s'=>∃t H',u=.int n t/\Inv X pins σ H' s'/\ao H H'/\∀b o,s.heap.get? b=some o->cK X pins H b->s'.heap.get? b=some o/\cK X pins H' b) E s:=by
 have e0:=I.fD
 have E0:iu X.prog X.w X.K X.mg X.base A' X.stack s H:=⟨hA.trans e0.frames,e0.mod,e0.bs,e0.me,e0.dX,e0.n8,e0.aT,e0.bare⟩
 refine wV (w6 (F.run A' X.stack s H ⟨[v],[]⟩ [v] [x] (λu H'=>u=.int n/\ao H H') (λ_ _ _=>False) hr E0 (hb s [v] I.mF (by simp [h1])) (.cons rx .nil) ⟨O,[d],.sh (.int n),hO,.cons hx .nil,by simp [h1],e,λv' H' sm r=>⟨fG r,sm⟩⟩) λr s' hq=>?_)
 cases r with
 | error e=>exact cV hq
 | ok fl =>
  cases fl with
  | ret u =>
   obtain ⟨v',H',os,bare,un,aT,rv,rfl,sm⟩:=hq
   obtain ⟨t,rfl⟩:=rv
   obtain ⟨hh,g,d',t',zB⟩:=s'
   obtain rfl:zB=s.os:=os
   refine ⟨t,H',rfl,I.call (h':=hh) (g':=g) (d':=d') (t':=t') (ch:=[]) un aT bare (λb z=>absurd z (by simp)),sm,λb o eb hf=>?_⟩
   have HG:b∉eM X.stack:=λz=>by
    rcases bI.mp (I.c9 b z) with z | z
    .exact hf.2.1 z
    .exact hf.2.2.1 z
   exact ⟨un.keep b o eb hf.1 HG (by simp),un.free b o eb hf.1 (by simp),hf.2⟩
  | next=>exact cV hq
  | brk=>exact cV hq
  | cont=>exact cV hq
noncomputable def He(φ:List D->Option Sl)(d0 d1:D):Option Sl:=match φ [d0],φ [d1] with
 | some (.sh (.int k0)),some (.sh (.int k1))=>some (.ow (if k1<k0 then [d1,d0] else [d0,d1]))
 | _,_=>none
noncomputable def y0(φ:List D->Option Sl):D->Option Sl
 | .lst _ [d0,d1]=>He φ d0 d1
 | _=>none
noncomputable def b8Y(φ:List D->Option Sl)(f:En->Option Sl):En->Option Sl:=λenv=>(f env).bind λr=>y0 φ r.d
end
end DL
namespace DL
open PySem PySem.Spec PyProof.Rows L2
section
variable {X:Cx}{N:List Str}{sc:Scope}{k:Nat}{full:Bool}{pos pos' p1 p2 p3 p4:Pos}{e c:Expr}{fa:En->Option Sl}{ga:En->Option Bool}
noncomputable def iK(i:Nat)(f:En->Option Sl):SF:=λenv=>match env[i]? with
 | some (.sh (.int m))=>match f env with
  | some (.sh (.int n))=>some (.nx,env.set i (.sh (.int (m+n))))
  | _=>none
 | _=>none
theorem TQ(h:iK i f env=some y):∃m n,env[i]?=some (.sh (.int m))/\f env=some (.sh (.int n))/\y=(.nx,env.set i (.sh (.int (m+n)))):=by
 unfold iK at h
 split at h
 .rename_i m e1
  split at h
  .rename_i n e2
   cases h
   exact ⟨m,n,e1,e2,rfl⟩
  .cases h
 .cases h
theorem Fx.aug(h:Fx X N sc k full)(i:Nat)(he:EV X e fa)(hN:N[i]?=some x:=by rfl)(hv:Loc sc x:=by first | exact bJ rfl | exact bg rfl)
  (hf:full=true\/sc.names.lookup x=some .local:=by first | exact bJ rfl | exact bg rfl):SV X (.AugAssign (.Name x pos') .Add e pos) (iK i fa):=by
 obtain ⟨t,p,kk⟩:=he
 refine ⟨_,Lq h.lU (h.ix hN) (h.loc hv) p Q8 (h.pS hf),λO B σ H env fl ah D R e q=>?_⟩
 obtain ⟨m,n,hi,e1,e2⟩:=TQ e
 cases e2
 obtain ⟨v,e3,hv⟩:=R.sh i _ hi
 obtain rfl:=fG hv
 refine ⟨_,e3,kk O B σ H env _ _ R e1 λv H1 s1 r1=>?_⟩
 obtain rfl:=fG r1
 refine ⟨m,n,rfl,rfl,?_⟩
 obtain ⟨R',g'⟩:=R.set (v:=.int (m+n)) (r:=.sh (.int (m+n))) s1 (Is.int (m+n)) (iB.mp hi).1
 exact q _ H1 R' g'
noncomputable def QW(i j:Nat)(c:En->Option Bool)(f:En->Option Sl):SF:=λenv=>match env[i]? with
 | some (.ow ds)=>forL (gN j) (cG c (aB f) c5) ds env
 | _=>none
end
end DL
namespace DL
open PySem L2
def Wo{α:Type}(o:Option α)(Q:α->Prop):Prop:=∃a,o=some a/\Q a
section
variable {α β:Type}
theorem a0h{a:α}{Q:α->Prop}:Wo (some a) Q↔Q a:=⟨λ⟨_,e,h⟩=>by cases e;exact h,λh=>⟨a,rfl,h⟩⟩
theorem a0s:Wo (none:Option α) Q↔False:=⟨λ⟨_,e,_⟩=>(nomatch e),cV⟩
theorem a0j{o:Option α}{f:α->Option β}{Q:β->Prop}:Wo (o.bind f) Q↔Wo o λa=>Wo (f a) Q:=by
 cases o with
 | none=>simp [Wo]
 | some a=>simp [Wo]
theorem a1G{o:Option α}{f:α->β}{Q:β->Prop}:Wo (o.map f) Q↔Wo o λa=>Q (f a):=by
 cases o with
 | none=>simp [Wo]
 | some a=>simp [Wo]
theorem gy{c:Prop}[Decidable c]{a:α}{Q:α->Prop}:Wo (if c then some a else none) Q↔c/\Q a:=by
 by_cases h:c
 .rw [if_pos h,a0h];exact ⟨λz=>⟨h,z⟩,λz=>z.2⟩
 .rw [if_neg h,a0s];exact ⟨cV,λz=>h z.1⟩
theorem Wo.mono{o:Option α}{P Q:α->Prop}(h:Wo o P)(k:∀a,P a->Q a):Wo o Q:=let ⟨a,e,p⟩:=h;⟨a,e,k a p⟩
theorem Wo.eq{o:Option α}{a:α}(h:Wo o λx=>x=a):o=some a:=let ⟨_,e,p⟩:=h;by rw [e,p]
theorem mi{o:Option α}{P Q:α->Prop}(k:∀a,P a↔Q a):Wo o P↔Wo o Q:=⟨λh=>h.mono λa=>(k a).mp,λh=>h.mono λa=>(k a).mpr⟩
end
noncomputable def oJ(G:SF)(Q:Fl×En->Prop):Fl×En->Prop
 | (.nx,e)=>Wo (G e) Q
 | p=>Q p
theorem a6q:oJ G Q (.nx,e)↔Wo (G e) Q:=eG
theorem b02:oJ G Q (.bk,e)↔Q (.bk,e):=eG
theorem b01:oJ G Q (.ct,e)↔Q (.ct,e):=eG
theorem b00:oJ G Q (.rt r,e)↔Q (.rt r,e):=eG
theorem Wo_seq:Wo (ai F G env) Q↔Wo (F env) (oJ G Q):=by
 unfold ai
 cases h:F env with
 | none=>simp [Wo]
 | some p =>
  obtain ⟨fl,e⟩:=p
  rw [a0h]
  cases fl with
  | nx=>exact eG
  | bk=>rw [b02];exact a0h
  | ct=>rw [b01];exact a0h
  | rt r=>rw [b00];exact a0h
theorem a2h:Wo (cG c F G env) Q↔Wo (c env) λb=>(b=true->Wo (F env) Q)/\(b=false->Wo (G env) Q):=by
 unfold cG
 cases h:c env with
 | none=>simp [Wo]
 | some b=>cases b<;>simp [a0h]
theorem b6V:Wo (c5 env) Q↔Q (.nx,env):=a0h
theorem Wo_bk:Wo (Hl env) Q↔Q (.bk,env):=a0h
theorem Wo_ct:Wo (Wq env) Q↔Q (.ct,env):=a0h
theorem b9h:Wo (aB f env) Q↔Wo (f env) λr=>Q (.rt r,env):=a1G
theorem b6U:Wo (y6 env) Q↔Q (.rt (.sh .aG),env):=a0h
theorem b9g:Wo (dA i f env) Q↔Wo (f env) λr=>i<env.length/\Q (.nx,env.set i r):=by
 unfold dA;rw [a0j];simp only [gy]
theorem b2m:Wo (aX i f env) Q↔Wo (f env) λr=>i<env.length/\Q (.nx,env.set i (.sh r.d)):=by
 unfold aX;rw [a0j];simp only [gy]
theorem b7r{f:En->Option Sl}{env:En}{Q:Fl×En->Prop}:Wo (y7 f env) Q↔Wo (f env) λ_=>Q (.nx,env):=a1G
noncomputable def kO:Option Sl->(Sl->Prop)->Prop
 | some (.sh d),Q=>Q (.sh d)
 | _,_=>False
theorem b6D:kO (some (.sh d)) Q↔Q (.sh d):=eG
theorem Wo_eV:Wo (eV i env) Q↔kO env[i]? Q:=by
 unfold eV
 cases env[i]? with
 | none=>simp [DC,kO,Wo]
 | some s=>cases s<;>simp [DC,kO,Wo]
theorem Wo_eC:Wo (eC d env) Q↔Q (.sh d):=a0h
theorem b9A:Wo (aa g fa fb env) Q↔Wo (fa env) λx=>Wo (fb env) λy=>Wo (g x.d y.d) Q:=by
 unfold aa;rw [a0j];simp only [a0j]
theorem b9l:Wo (jG f env) Q↔Wo (f env) λx=>Wo (u4 x.d) Q:=a0j
theorem b62:Wo (u4 (.int i)) Q↔Q (.sh (.int (-i))):=a0h
theorem b68:Wo (aU (.int i) (.int j)) Q↔Q (.sh (.int (i+j))):=a0h
theorem b60:Wo (bS (.int i) (.int j)) Q↔Q (.sh (.int (i-j))):=by rw [b8I,a0h]
theorem b64:Wo (fU (.int i) (.int j)) Q↔MulC i j/\Q (.sh (.int (i*j))):=gy
theorem b67:Wo (cJ (.int i) (.int j)) Q↔DivC i j/\Q (.sh (.int (i/j))):=gy
theorem b4g:Wo (Ca (.int i) (.int j)) Q↔mv i j/\Q (.sh (.int (i*j))):=gy
theorem b65:Wo (bC (.int i) (.int j)) Q↔0<j/\Q (.sh (.int (i%j))):=gy
theorem b61:Wo (eL (.int i) (.int j)) Q↔PowC i j/\Q (.sh (.int (i^j.toNat))):=gy
theorem b9o:Wo (iN (.int i) (.int j)) Q↔Q (.sh (.bl (decide (i<j)))):=a0h
theorem b9p:Wo (n6 (.int i) (.int j)) Q↔Q (.sh (.bl (decide (i<=j)))):=a0h
theorem b9q:Wo (o8 (.int i) (.int j)) Q↔Q (.sh (.bl (decide (j<i)))):=a0h
theorem b9r:Wo (gGe (.int i) (.int j)) Q↔Q (.sh (.bl (decide (j<=i)))):=a0h
theorem b9s:Wo (dg (.int i) (.int j)) Q↔Q (.sh (.bl (decide (i=j)))):=a0h
theorem b9n:Wo (jE (.int i) (.int j)) Q↔Q (.sh (.bl (!decide (i=j)))):=a0h
theorem b66:Wo (dg (.bl i) (.bl j)) Q↔Q (.sh (.bl (decide (i=j)))):=a0h
theorem b63:Wo (jE (.bl i) (.bl j)) Q↔Q (.sh (.bl (!decide (i=j)))):=a0h
theorem b4j:Wo (dg (.int i) .aG) Q↔Q (.sh (.bl false)):=a0h
theorem b4f:Wo (jE (.int i) .aG) Q↔Q (.sh (.bl true)):=a0h
theorem b4i:Wo (dg .aG (.int i)) Q↔Q (.sh (.bl false)):=a0h
theorem b4e:Wo (jE .aG (.int i)) Q↔Q (.sh (.bl true)):=a0h
theorem b4h:Wo (dg .aG .aG) Q↔Q (.sh (.bl true)):=a0h
theorem b4d:Wo (jE .aG .aG) Q↔Q (.sh (.bl false)):=a0h
theorem b9m:Wo (nk a .aG) Q↔Q (.sh (.bl a.cQ)):=a0h
theorem b6W:Wo (K8 a .aG) Q↔Q (.sh (.bl (!a.cQ))):=a0h
theorem b9d:Wo (bE f env) Q↔Wo (f env) λr=>Wo (iT (some r)) Q:=by
 unfold bE
 cases f env with
 | none=>simp [iT,Wo]
 | some r=>rw [a0h]
theorem b9E:Wo (iT (some (.sh (.bl b)))) Q↔Q b:=a0h
theorem b6O:Wo (cn f env) Q↔Wo (f env) λr=>Wo (iH r.d) Q:=a0j
theorem b6N:Wo (iH (.bl b)) Q↔Q b:=a0h
theorem b6M:Wo (iH (.int b)) Q↔Q (b != 0):=a0h
theorem b6J:Wo (iH (.tup ds)) Q↔Q (!ds.isEmpty):=a0h
theorem b6L:Wo (iH (.lst r ds)) Q↔Q (!ds.isEmpty):=a0h
theorem b6K:Wo (iH .aG) Q↔Q false:=a0h
theorem b36:Wo (Ce f env) Q↔Wo (f env) λr=>Q (!r.2.isEmpty):=by
 unfold Ce;rw [a0j];simp only [a0h]
theorem b6Q:Wo (nJ f g env) Q↔Wo (f env) λb=>(b=true->Wo (g env) Q)/\(b=false->Q false):=by
 unfold nJ
 cases f env with
 | none=>simp [Wo]
 | some b=>cases b<;>simp [a0h]
theorem b9c:Wo (e7 f g env) Q↔Wo (f env) λb=>(b=true->Q true)/\(b=false->Wo (g env) Q):=by
 unfold e7
 cases f env with
 | none=>simp [Wo]
 | some b=>cases b<;>simp [a0h]
theorem b6P:Wo (qo f env) Q↔Wo (f env) λb=>Q (!b):=a1G
theorem b7p:Wo (l8 f g env) Q↔Wo (f env) λr=>Wo (iT (some r)) λb=>(b=true->Wo (g env) Q)/\(b=false->Q (.sh (.bl false))):=by
 unfold l8
 cases f env with
 | none=>simp [Wo,iT]
 | some r =>
  rw [a0h]
  cases iT (some r) with
  | none=>simp [Wo]
  | some b=>cases b<;>simp [a0h]
theorem b9w:Wo (PK f g env) Q↔Wo (f env) λr=>Wo (iT (some r)) λb=>(b=true->Q (.sh (.bl true)))/\(b=false->Wo (g env) Q):=by
 unfold PK
 cases f env with
 | none=>simp [Wo,iT]
 | some r =>
  rw [a0h]
  cases iT (some r) with
  | none=>simp [Wo]
  | some b=>cases b<;>simp [a0h]
theorem b7h:Wo (pj f env) Q↔Wo (f env) λr=>Wo (iT (some r)) λb=>Q (.sh (.bl !b)):=by
 unfold pj
 cases f env with
 | none=>simp [Wo,iT]
 | some r=>rw [a0h,a1G]
theorem b9y:Wo (mO c f g env) Q↔Wo (c env) λb=>(b=true->Wo (f env) Q)/\(b=false->Wo (g env) Q):=by
 unfold mO
 cases c env with
 | none=>simp [Wo]
 | some b=>cases b<;>simp [a0h]
theorem b7x:Wo (ae env) Q↔Q []:=a0h
theorem b4x:Wo (af f g env) Q↔Wo (f env) λr=>Wo (g env) λds=>Q (r.d::ds):=by
 unfold af;rw [a0j];simp only [a0j,a0h]
theorem b7e:Wo (bD f env) Q↔Wo (f env) λds=>ds.length<=16777216/\Q (.sh (.tup ds)):=by
 unfold bD;rw [a0j];simp only [gy]
theorem b7k:Wo (aZ f env) Q↔Wo (f env) λds=>ds.length<=16777216/\Q (.ow ds):=by
 unfold aZ;rw [a0j];simp only [gy]
noncomputable def jJ:Option Sl->(Bool×List D->Prop)->Prop
 | some (.sh (.tup ds)),Q=>Q (false,ds)
 | some (.sh (.lst _ ds)),Q=>Q (true,ds)
 | some (.ow ds),Q=>Q (true,ds)
 | _,_=>False
theorem b88:jJ (some (.sh (.tup ds))) Q↔Q (false,ds):=eG
theorem b9a:jJ (some (.sh (.lst r ds))) Q↔Q (true,ds):=eG
theorem b89:jJ (some (.ow ds)) Q↔Q (true,ds):=eG
theorem Wo_bV:Wo (bV i env) Q↔jJ env[i]? Q:=by
 unfold bV
 cases env[i]? with
 | none=>simp [wx,jJ,Wo]
 | some s=>cases s with
  | no=>simp [wx,jJ,Wo]
  | dw ds=>simp [wx,jJ,Wo]
  | ow ds=>simp [wx,jJ,Wo]
  | sh d=>cases d<;>simp [wx,jJ,Wo,e8]
theorem b9B:Wo (fX f env) Q↔Wo (f env) λr=>Wo (e8 r.d) Q:=a0j
theorem b9e:Wo (e8 (.tup ds)) Q↔Q (false,ds):=a0h
theorem b9f:Wo (e8 (.lst r ds)) Q↔Q (true,ds):=a0h
theorem b7l:Wo (bH f env) Q↔Wo (f env) λx=>Q (.sh (.int x.2.length)):=a1G
theorem b4q:Wo (eList f env) Q↔Wo (f env) λx=>Q (.ow x.2):=a1G
theorem b2q:Wo (Cq f env) Q↔Wo (f env) λx=>x.1=true/\Q (.sh (.tup x.2)):=by
 unfold Cq;rw [a0j];simp only [gy]
def HU(xs:List D)(d:D)(Q:Sl->Prop):Prop:=match d with
 | .int i=>Wo (eH xs i) λd=>Q (.sh d)
 | _=>False
theorem ixQ_i:HU xs (.int i) Q↔Wo (eH xs i) λd=>Q (.sh d):=eG
theorem b9x:Wo (ax f g env) Q↔Wo (f env) λx=>Wo (g env) λy=>HU x.2 y.d Q:=by
 unfold ax
 rw [a0j]
 refine mi λx=>?_
 rw [a0j]
 refine mi λy=>?_
 unfold HU
 cases y.d<;>simp [a1G,a0s]
theorem c7{α:Type}{xs:List α}{n:Nat}:eH xs (n:Int)=xs[n]?:=by
 unfold eH jg
 rw [if_pos (by ext)]
 by_cases h:n<xs.length
 .rw [if_pos (by ext h)];simp
 .rw [if_neg (by ext h),List.getElem?_eq_none (by ext h)];rfl
theorem atI_0{α:Type}{x:α}{xs:List α}:eH (x::xs) 0=some x:=c7 (n:=0)
theorem atI_1{α:Type}{x y:α}{xs:List α}:eH (x::y::xs) 1=some y:=c7 (n:=1)
theorem atI_2{α:Type}{x y z:α}{xs:List α}:eH (x::y::z::xs) 2=some z:=c7 (n:=2)
theorem atI_3{α:Type}{x y z u:α}{xs:List α}:eH (x::y::z::u::xs) 3=some u:=c7 (n:=3)
theorem b4s:Wo (aP n φ fs env) Q↔Wo (fs env) λds=>ds.length=n/\Wo (φ ds) Q:=by
 unfold aP
 rw [a0j]
 have h:∀ds:List D,Wo (if ds.length=n then φ ds else none) Q↔ds.length=n/\Wo (φ ds) Q:=λds=>by
  by_cases h:ds.length=n<;>simp [h,a0s]
 simp only [h]
theorem b2v:Wo (tI g fs env) Q↔Wo (fs env) λds=>Wo (g ds) Q:=a0j
theorem b4v:Wo (xF [.int i,.int j]) Q↔Q (.sh (.int (min i j))):=by
 have:(if j<i then j else i)=min i j:=by simp only [Int.min_def];split<;>split<;>lia
 unfold xF;rw [a0h,this]
theorem b4w:Wo (xE [.int i,.int j]) Q↔Q (.sh (.int (max i j))):=by
 have:(if j>i then j else i)=max i j:=by simp only [Int.max_def];split<;>split<;>lia
 unfold xE;rw [a0h,this]
theorem b7m:Wo (pk T f env) Q↔Wo (f env) λr=>Wo (jy T r.d) Q:=a0j
theorem b3y:Wo (jy T (.aG)) Q↔Q (.sh (.bl (bj T (.aG)))):=a0h
theorem b56:Wo (jy T (.bl b)) Q↔Q (.sh (.bl (bj T (.bl b)))):=a0h
theorem b3A:Wo (jy T (.int i)) Q↔Q (.sh (.bl (bj T (.int i)))):=a0h
theorem b3x:Wo (jy T (.str x)) Q↔Q (.sh (.bl (bj T (.str x)))):=a0h
theorem b3w:Wo (jy T (.tup ds)) Q↔Q (.sh (.bl (bj T (.tup ds)))):=a0h
theorem b3z:Wo (jy T (.lst r ds)) Q↔Q (.sh (.bl (bj T (.lst r ds)))):=a0h
noncomputable def aO(Q:Sl->Prop):Fl×En->Prop
 | (.rt r,_)=>Q r
 | (.nx,_)=>Q (.sh .aG)
 | _=>False
theorem b6r:aO Q (.rt r,e)↔Q r:=eG
theorem b6s:aO Q (.nx,e)↔Q (.sh .aG):=eG
theorem cW:Wo (aK F N ds) Q↔Wo (F (jW N ds)) (aO Q):=by
 unfold aK
 cases F (jW N ds) with
 | none=>simp [Wo]
 | some p =>
  obtain ⟨fl,e⟩:=p
  rw [a0h]
  cases fl<;>simp [a0h,a0s,aO]
theorem b9t:Wo (di f g F env) Q↔Wo (f env) λr=>Wo (e8 r.d) λx=>Wo (forL g F x.2 env) Q:=by
 unfold di;rw [a0j];simp only [a0j]
theorem b69:Wo (QX h f g F env) Q↔Wo (f env) λds=>Wo (h ds) λis=>Wo (forL g F is env) Q:=by
 unfold QX;rw [a0j];simp only [a0j]
theorem b6S:Wo (Hu [.int j]) Q↔R62 j/\Q (bR 0 j.toNat):=gy
theorem b6R:Wo (Ht [.int i,.int j]) Q↔(R62 i/\R62 j)/\Q (bR i (j-i).toNat):=gy
noncomputable def rN(I:En->Prop)(Q:Fl×En->Prop):Fl×En->Prop
 | (.nx,e)=>I e
 | (.ct,e)=>I e
 | (.bk,e)=>Q (.nx,e)
 | (.rt r,e)=>Q (.rt r,e)
theorem b2K:rN I Q (.nx,e)↔I e:=eG
theorem b2L:rN I Q (.ct,e)↔I e:=eG
theorem b2M:rN I Q (.bk,e)↔Q (.nx,e):=eG
theorem b2J:rN I Q (.rt r,e)↔Q (.rt r,e):=eG
theorem oE{α:Type}(enc:α->D)(I:List α->En->Prop)(xs:List α)(turn:∀pre a post env,xs=pre++a::post->I pre env->Wo (g (enc a) env) λe=>Wo (F e) (rN (I (pre++[a])) Q))
  (done:∀env,I xs env->Q (.nx,env)):∀{env:En},I [] env->Wo (forL g F (xs.map enc) env) Q:=by
 have key:∀(post pre:List α) (env:En),xs=pre++post->I pre env->Wo (forL g F (post.map enc) env) Q:=by
  intro post
  induction post with
  | nil =>
   intro pre env e h
   rw [mU] at e
   subst e
   exact ⟨_,rfl,done env h⟩
  | cons a post ih =>
   intro pre env e h
   obtain ⟨e1,h1,p,h2,h3⟩:=turn pre a post env e h
   rw [kM]
   unfold forL
   rw [h1]
   dsimp only
   rw [h2]
   obtain ⟨fl,e2⟩:=p
   cases fl with
   | nx=>exact ih (pre++[a]) e2 (by rw [e,fM];rfl) h3
   | ct=>exact ih (pre++[a]) e2 (by rw [e,fM];rfl) h3
   | bk=>exact ⟨_,rfl,h3⟩
   | rt r=>exact ⟨_,rfl,h3⟩
 exact λ{env} h=>key xs [] env rfl h
theorem b5t(lo:Int)(n:Nat)(I:Nat->En->Prop)(turn:∀(k:Nat) env,k<n->I k env->Wo (g (.int (lo+k)) env) λe=>Wo (F e) (rN (I (k+1)) Q))
  (done:∀env,I n env->Q (.nx,env))(h:I 0 env):Wo (forL g F (bR lo n) env) Q:=by
 unfold bR
 refine oE (λ(k:Nat)=>D.int (lo+(k:Int))) (λpre env=>I pre.length env) (fq n) (λpre a post env e h=>?_) (λenv h=>done env (by simpa using h)) h
 have hl:=congrArg wR e
 have ha:(fq n)[pre.length]?=some a:=by rw [e];simp
 simp at hl
 rw [List.getElem?_range (by ext hl)] at ha
 cases ha
 simpa using turn pre.length env (by ext hl) h
theorem Wo_gN:Wo (gN i d env) Q↔i<env.length/\Q (env.set i (.sh d)):=gy
theorem Wo_gT:Wo (gT n u (.tup ds) env) Q↔ds.length=n/\Wo (u ds env) Q:=by
 unfold gT
 by_cases h:ds.length=n<;>simp [h,a0s]
theorem b4c:Wo (Cc [] env) Q↔Q env:=a0h
theorem b2o:Wo (oC g u (d::ds) env) Q↔Wo (g d env) λe=>Wo (u ds e) Q:=a0j
theorem b9D:Wo (y8 f g env) Q↔Wo (f env) λr=>Wo (g r.d env) λe=>Q (.nx,e):=by
 unfold y8;rw [a0j];simp only [a1G]
noncomputable def bU:Option Sl->(List D->Prop)->Prop
 | some (.ow ds),Q=>Q ds
 | _,_=>False
theorem b9b:bU (some (.ow ds)) Q↔Q ds:=eG
theorem b9F:Wo (dO i f env) Q↔bU env[i]? λds=>Wo (f env) λr=>ds.length<16777216/\Q (.nx,env.set i (.ow (ds++[r.d]))):=by
 unfold dO
 cases env[i]? with
 | none=>simp [a0s,bU]
 | some s=>cases s with
  | no=>simp [a0s,bU]
  | dw d=>simp [a0s,bU]
  | sh d=>simp [a0s,bU]
  | ow ds=>dsimp only [bU];rw [a0j];simp only [gy]
def u6(env:En)(i:Nat)(ds:List D)(d:D)(Q:Fl×En->Prop):Prop:=match d with
 | .lst false es=>ds.length+es.length<=16777216/\Q (.nx,env.set i (.ow (ds++es)))
 | _=>False
theorem b8L:u6 env i ds (.lst false es) Q↔ds.length+es.length<=16777216/\Q (.nx,env.set i (.ow (ds++es))):=eG
theorem b9u:Wo (jt i f env) Q↔bU env[i]? λds=>Wo (f env) λr=>u6 env i ds r.d Q:=by
 unfold jt
 cases env[i]? with
 | none=>simp [a0s,bU]
 | some s=>cases s with
  | no=>simp [a0s,bU]
  | dw d=>simp [a0s,bU]
  | sh d=>simp [a0s,bU]
  | ow ds =>
   dsimp only [bU];rw [a0j]
   refine mi λr=>?_
   unfold u6
   cases r.d with
   | lst ro es=>cases ro<;>simp [gy,a0s]
   | _=>simp [a0s]
theorem b9i:Wo (lM i j env) Q↔bU env[j]? λds=>Wo ds[ds.length-1]? λd=>(i<env.length/\i≠j)/\Q (.nx,(env.set j (.ow ds.dropLast)).set i (.sh d)):=by
 unfold lM
 cases env[j]? with
 | none=>simp [a0s,bU]
 | some s=>cases s with
  | no=>simp [a0s,bU]
  | dw d=>simp [a0s,bU]
  | sh d=>simp [a0s,bU]
  | ow ds=>dsimp only [bU];rw [a0j];simp only [gy]
def Lg(env:En)(i:Nat)(ds:List D)(d:D)(k:D)(Q:Fl×En->Prop):Prop:=match k with
 | .int n=>Wo (jg ds.length n) λj=>Q (.nx,env.set i (.ow (ds.set j d)))
 | _=>False
theorem b53:Lg env i ds d (.int n) Q↔Wo (jg ds.length n) λj=>Q (.nx,env.set i (.ow (ds.set j d))):=eG
theorem b6Y:Wo (xH i f g env) Q↔bU env[i]? λds=>Wo (f env) λr=>Wo (g env) λk=>Lg env i ds r.d k.d Q:=by
 unfold xH
 cases env[i]? with
 | none=>simp [a0s,bU]
 | some s=>cases s with
  | no=>simp [a0s,bU]
  | dw d=>simp [a0s,bU]
  | sh d=>simp [a0s,bU]
  | ow ds =>
   dsimp only [bU];rw [a0j]
   refine mi λr=>?_
   rw [a0j]
   refine mi λk=>?_
   unfold Lg
   cases k.d<;>simp [a0j,a0h,a0s]
theorem Li:Wo (m8 i F env) Q↔Wo (F (o9 i env)) Q:=eG
theorem K7(h:env[i]?=some (.ow ds)):o9 i env=env.set i (.sh (.lst false ds)):=by unfold o9;rw [h]
noncomputable def B6(env:En):Option Sl->(Fl×En->Prop)->Prop
 | some (.ow ds),Q=>Q (.rt (.ow ds),env)
 | some (.dw ds),Q=>Q (.rt (.dw ds),env)
 | some (.sh d),Q=>Q (.rt (.sh d),env)
 | _,_=>False
theorem b6F:B6 env (some (.ow ds)) Q↔Q (.rt (.ow ds),env):=eG
theorem b6E:B6 env (some (.sh d)) Q↔Q (.rt (.sh d),env):=eG
theorem b6T:Wo (oB i env) Q↔B6 env env[i]? Q:=by
 unfold oB
 cases env[i]? with
 | none=>simp [a0s,B6]
 | some s=>cases s<;>simp [a0s,a0h,B6]
theorem b9k:Wo (mC env) Q↔Q none:=a0h
def pQ(d:D)(Q:Option Int->Prop):Prop:=match d with
 | .int i=>Q (some i)
 | _=>False
theorem pQ_i:pQ (.int i) Q↔Q (some i):=eG
theorem b9j:Wo (lO f env) Q↔Wo (f env) λr=>pQ r.d Q:=by
 unfold lO
 rw [a0j]
 refine mi λr=>?_
 unfold pQ
 cases r.d<;>simp [a0h,a0s]
theorem b9v:Wo (l7 f lo hi env) Q↔Wo (f env) λx=>Wo (lo env) λl=>Wo (hi env) λh =>
  (x.1=true->Q (.ow (cutD x.2 l h)))/\(x.1=false->¬(HT.bz x.2.length 0 l=0/\HT.bz x.2.length x.2.length h=x.2.length)/\Q (.sh (.tup (cutD x.2 l h)))):=by
 unfold l7
 rw [a0j]
 simp only [a0j]
 have h:∀(x:Bool×List D) (l h:Option Int),Wo (if x.1=true then some (Sl.ow (cutD x.2 l h)) else if ¬(HT.bz x.2.length 0 l=0/\HT.bz x.2.length x.2.length h=x.2.length) then some (.sh (.tup (cutD x.2 l h))) else none) Q ↔
   (x.1=true->Q (.ow (cutD x.2 l h)))/\(x.1=false->¬(HT.bz x.2.length 0 l=0/\HT.bz x.2.length x.2.length h=x.2.length)/\Q (.sh (.tup (cutD x.2 l h)))):=λx l h=>by
  obtain ⟨k,ds⟩:=x
  cases k
  .simp only [ou,if_false,gy];simp
  .simp [a0h]
 simp only [h]
theorem Sl_sh:Sl.d (.sh d)=d:=rfl
theorem Sl_ow:Sl.d (.ow ds)=.lst false ds:=rfl
theorem b4n:Wo (aU (.lst false a) (.lst false b)) Q↔a.length+b.length<=16777216/\Q (.ow (a++b)):=gy
theorem b4k:Wo (aU (.tup a) (.tup b)) Q↔a.length+b.length<=16777216/\Q (.sh (.tup (a++b))):=gy
theorem b4l:Wo (aU (.str a) (.str b)) Q↔a.length+b.length<=16777216/\Q (.sh (.str (a++b))):=gy
theorem a8T :bj "int" .aG=false:=rfl
theorem b0w:bj "int" (.bl b)=true:=rfl
theorem a8V:bj "int" (.int i)=true:=rfl
theorem a8S:bj "int" (.str x)=false:=rfl
theorem a8R:bj "int" (.tup ds)=false:=rfl
theorem a8U:bj "int" (.lst r ds)=false:=rfl
theorem a71 :bj "bool" .aG=false:=rfl
theorem a8W:bj "bool" (.bl b)=true:=rfl
theorem a73:bj "bool" (.int i)=false:=rfl
theorem a70:bj "bool" (.str x)=false:=rfl
theorem a7Z:bj "bool" (.tup ds)=false:=rfl
theorem a72:bj "bool" (.lst r ds)=false:=rfl
theorem a8N :bj "str" .aG=false:=rfl
theorem b0v:bj "str" (.bl b)=false:=rfl
theorem a8P:bj "str" (.int i)=false:=rfl
theorem a8M:bj "str" (.str x)=true:=rfl
theorem a8L:bj "str" (.tup ds)=false:=rfl
theorem a8O:bj "str" (.lst r ds)=false:=rfl
theorem a7W :bj "list" .aG=false:=rfl
theorem a8Q:bj "list" (.bl b)=false:=rfl
theorem a7Y:bj "list" (.int i)=false:=rfl
theorem a7V:bj "list" (.str x)=false:=rfl
theorem a7U:bj "list" (.tup ds)=false:=rfl
theorem a7X:bj "list" (.lst r ds)=true:=rfl
theorem a6R :bj "tuple" .aG=false:=rfl
theorem a7T:bj "tuple" (.bl b)=false:=rfl
theorem a6T:bj "tuple" (.int i)=false:=rfl
theorem a6Q:bj "tuple" (.str x)=false:=rfl
theorem a6P:bj "tuple" (.tup ds)=true:=rfl
theorem a6S:bj "tuple" (.lst r ds)=false:=rfl
theorem Ga{α β:Type}{f:α->β}{xs:List α}{i:Int}(z:α)(h0:0<=i)(h:i<xs.length):eH (xs.map f) i=some (f (xs.getD i.toNat z)):=by
 unfold eH jg
 rw [cj,if_pos h0,if_pos h]
 have:i.toNat<xs.length:=by ext h0 h
 simp [this]
theorem a89:Wo (forL g F [] env) Q↔Q (.nx,env):=a0h
theorem a8l:Wo (forL g F (d::ds) env) Q↔Wo (g d env) λe=>Wo (F e) (rN (λe=>Wo (forL g F ds e) Q) Q):=by
 rw [forL]
 cases g d env with
 | none=>simp [a0s]
 | some e =>
  rw [a0h]
  dsimp only
  cases F e with
  | none=>simp [a0s]
  | some p =>
   obtain ⟨fl,e2⟩:=p
   rw [a0h]
   cases fl<;>simp [rN,a0h]
theorem b1z:D.cQ .aG=true:=rfl
theorem b3B:D.cQ (.bl b)=false:=rfl
theorem b1B:D.cQ (.int i)=false:=rfl
theorem b1y:D.cQ (.str x)=false:=rfl
theorem b1x:D.cQ (.tup ds)=false:=rfl
theorem b1A:D.cQ (.lst r ds)=false:=rfl
theorem xU(xs:List Int){i:Int}(h0:0<=i)(h1:i<xs.length)(h:∀v∈xs,Q (.int v))(e:ds=xs.map D.int:=by rfl):Wo (eH ds i) Q:=by
 have hi:i.toNat<xs.length:=by ext h0 h1
 rw [e,Ga 0 h0 h1,a0h,show xs.getD i.toNat 0=xs[i.toNat] by simp [hi]]
 exact h _ (oq hi)
theorem b7s:Wo (gG fi caps nt g fc fe env) Q↔Wo (fi env) λds=>Wo (iP caps env) λcs=>ds.length<=16777216/\Wo (jn g fc fe ds (ji nt Sl.no++cs)) λrs=>Q (.ow rs):=by
 unfold gG
 rw [a0j]
 refine mi λds=>?_
 rw [a0j]
 refine mi λcs=>?_
 by_cases h:ds.length<=16777216
 .rw [if_pos h,a1G];exact ⟨λz=>⟨h,z⟩,λz=>z.2⟩
 .rw [if_neg h,a0s];exact ⟨cV,λz=>h z.1⟩
theorem b7u:Wo (iP [] env) Q↔Q []:=a0h
theorem b7t:Wo (iP (i::is) env) Q↔kO env[i]? λs=>Wo (iP is env) λcs=>Q (s::cs):=by
 rw [iP]
 cases h:env[i]? with
 | none=>simp [a0s,kO]
 | some s=>cases s<;>simp [a0s,kO,a1G]
theorem rep0{l:En}:ji 0 Sl.no++l=l:=rfl
theorem rep1{l:En}:ji 1 Sl.no++l=Sl.no::l:=rfl
theorem rep2{l:En}:ji 2 Sl.no++l=Sl.no::Sl.no::l:=rfl
theorem rep3{l:En}:ji 3 Sl.no++l=Sl.no::Sl.no::Sl.no::l:=rfl
theorem rep4{l:En}:ji 4 Sl.no++l=Sl.no::Sl.no::Sl.no::Sl.no::l:=rfl
theorem b35:Wo (lG env) Q↔Q true:=a0h
theorem b4t:Wo (jn g fc fe [] e) Q↔Q []:=a0h
theorem b4u:Wo (jn g fc fe (d::ds) e) Q↔Wo (g d e) λe1=>Wo (fc e1) λb =>
  (b=true->Wo (fe e1) λr=>Wo (jn g fc fe ds e1) λrs=>Q (r.d::rs))/\(b=false->Wo (jn g fc fe ds e1) Q):=by
 rw [jn,a0j]
 refine mi λe1=>?_
 rw [a0j]
 refine mi λb=>?_
 cases b
 .rw [if_neg fY];simp
 .rw [if_pos rfl,a0j];simp only [a0j,a0h];simp
theorem b7c:Wo (fC f env) Q↔Wo (f env) λr=>Wo (e8 r.d) λx=>Q x.2:=by
 unfold fC;rw [a0j];simp only [a1G]
theorem b7d:Wo (kr h f env) Q↔Wo (f env) λds=>Wo (h ds) Q:=a0j
theorem b7b:Wo (K' f g F env) Q↔Wo (f env) λds=>Wo (forL g F ds env) Q:=a0j
theorem tO{α:Type}(enc:α->D)(f:α->D)(P:En->Prop)(xs:List α)
  (h:∀a∈xs,∀e,P e->Wo (g (enc a) e) λe1=>P e1/\Wo (fc e1) λb=>b=true/\Wo (fe e1) λr=>r.d=f a):∀{e:En},P e->jn g fc fe (xs.map enc) e=some (xs.map f):=by
 induction xs with
 | nil=>intro e _;rfl
 | cons a xs ih =>
  intro e he
  obtain ⟨e1,g1,p1,b,c1,rfl,r,f1,f2⟩:=h a cM e he
  rw [kM,jn,g1,md,c1,md,if_pos rfl,f1,md,ih (λb hb=>h b (cY _ hb)) p1,f2]
  rfl
theorem a82{α:Type}(enc:α->D)(p:α->Bool)(f:α->D)(P:En->Prop)(xs:List α)
  (h:∀a∈xs,∀e,P e->Wo (g (enc a) e) λe1=>P e1/\Wo (fc e1) λb=>b=p a/\(p a=true->Wo (fe e1) λr=>r.d=f a)):∀{e:En},P e->jn g fc fe (xs.map enc) e=some ((xs.filter p).map f):=by
 induction xs with
 | nil=>intro e _;rfl
 | cons a xs ih =>
  intro e he
  obtain ⟨e1,g1,p1,b,c1,rfl,k⟩:=h a cM e he
  have O8:=ih (λb hb=>h b (cY _ hb)) p1
  rw [kM,jn,g1,md,c1,md]
  cases hp:p a with
  | true =>
   obtain ⟨r,f1,f2⟩:=k hp
   rw [if_pos rfl,f1,md,O8,f2,List.filter_cons_of_pos hp]
   rfl
  | false=>rw [if_neg fY,O8,List.filter_cons_of_neg (by simp [hp])]
theorem b7f:Wo (jF f env) Q↔Wo (f env) λx=>Wo (jU x.2) λns=>Q (.sh (.int ns.sum)):=by
 unfold jF;rw [a0j];simp only [a1G]
theorem b7q:Wo (Bx f env) Q↔Wo (f env) λx=>Wo (gw x.2) λns=>Q (.sh (.bl (ns.all id))):=by
 unfold Bx;rw [a0j];simp only [a1G]
theorem b7o:Wo (Bw f env) Q↔Wo (f env) λx=>Wo (gw x.2) λns=>Q (.sh (.bl (ns.any id))):=by
 unfold Bw;rw [a0j];simp only [a1G]
theorem b7i:Wo (Bu f env) Q↔Wo (f env) λx=>Wo (jU x.2) λns=>ns≠[]/\Q (.sh (.int (zP ns))):=by
 unfold Bu;rw [a0j];simp only [a0j,gy]
theorem b7j:Wo (Bv f env) Q↔Wo (f env) λx=>Wo (jU x.2) λns=>ns≠[]/\Q (.sh (.int (zS ns))):=by
 unfold Bv;rw [a0j];simp only [a0j,gy]
theorem b6Z:Wo (jU (ns.map D.int)) Q↔Q ns:=by rw [CF,a0h]
theorem b9z:Wo (gw (ns.map D.bl)) Q↔Q ns:=by rw [S4,a0h]
theorem b4a:Wo (jU []) Q↔Q []:=a0h
theorem b4b:Wo (jU (.int i::ds)) Q↔Wo (jU ds) λns=>Q (i::ns):=by
 show Wo ((jU ds).map (i::·)) Q↔_
 rw [a1G]
theorem b7v:Wo (gw []) Q↔Q []:=a0h
theorem b7w:Wo (gw (.bl i::ds)) Q↔Wo (gw ds) λns=>Q (i::ns):=by
 show Wo ((gw ds).map (i::·)) Q↔_
 rw [a1G]
theorem b6X(P:D->Prop)(hi:i<env.length)
  (hc:Wo (c env) λb=>(b=true->Wo (f env) λr=>P r.d)/\(b=false->∃d,env[i]?=some (.sh d)/\P d))(h:∀d,P d->Q (.nx,env.set i (.sh d))):Wo (cG c (aX i f) c5 env) Q:=by
 rw [a2h]
 refine hc.mono λb hb=>⟨λe=>?_,λe=>?_⟩
 .rw [b2m]
  exact (hb.1 e).mono λr hr=>⟨hi,h _ hr⟩
 .obtain ⟨d,e1,e2⟩:=hb.2 e
  rw [b6V]
  have:=h d e2
  rwa [show env.set i (.sh d)=env by
   obtain ⟨h1,h2⟩:=iB.mp e1
   rw [<-h2,List.set_getElem_self]] at this
theorem fF{α:Type}{xs:List α}{x:α}:eH (xs++[x]) (-1)=some x:=by
 unfold eH jg
 rw [if_neg (by decide),if_pos (by rw [dq,KJ];ext),dq,KJ]
 have:(-1+((xs.length+1:Nat):Int)).toNat=xs.length:=by ext
 rw [this]
 simp
theorem CQ(I:Nat->En->Prop)(turn:∀n env,I n env->Wo (c env) λb=>(b=true->Wo (F env) (rN (λe=>∃m,m<n/\I m e) Q))/\(b=false->Q (.nx,env))):
  ∀(fuel n:Nat) {env:En},n<fuel->I n env->Wo (qL c F fuel env) Q
 | 0,n,env,h,_=>absurd h (JN _)
 | fuel+1,n,env,h,hI=>by
  obtain ⟨b,e1,h1,h2⟩:=turn n env hI
  rw [qL,e1]
  cases b with
  | false=>exact ⟨_,rfl,h2 rfl⟩
  | true =>
   obtain ⟨⟨fl,e2⟩,e3,h3⟩:=h1 rfl
   dsimp only
   rw [e3]
   cases fl with
   | nx=>obtain ⟨m,hm,Jh⟩:=h3;exact CQ I turn fuel m (by ext h hm) Jh
   | ct=>obtain ⟨m,hm,Jh⟩:=h3;exact CQ I turn fuel m (by ext h hm) Jh
   | bk=>exact ⟨_,rfl,h3⟩
   | rt r=>exact ⟨_,rfl,h3⟩
theorem Mf:Wo (Co m c F env) Q↔Wo (qL c F (m env) env) Q:=eG
noncomputable def nu{α:Type}(xs:List α)(lo hi:Option Int):List α:=(xs.drop (HT.bz xs.length 0 lo)).take (HT.bz xs.length xs.length hi-HT.bz xs.length 0 lo)
theorem S'{α:Type}{f:α->D}(xs:List α)(lo hi:Option Int):cutD (xs.map f) lo hi=(nu xs lo hi).map f:=by
 unfold cutD nu
 rw [cj,<-List.map_drop,<-List.map_take]
theorem b39:Wo (zc [.int j]) Q↔Q (bR 0 j.toNat):=a0h
theorem b38:Wo (Fk [.int i,.int j]) Q↔Q (bR i (j-i).toNat):=a0h
def Hi(d:D)(l h:Option Int)(Q:Sl->Prop):Prop:=match d with
 | .tup ds=>Q (.sh (.tup (cutD ds l h)))
 | _=>False
theorem slQ_t:Hi (.tup ds) l h Q↔Q (.sh (.tup (cutD ds l h))):=eG
theorem b7g:Wo (Bt f lo hi env) Q↔Wo (f env) λx=>Wo (lo env) λl=>Wo (hi env) λh=>Hi x.d l h Q:=by
 unfold Bt
 simp only [a0j]
 refine mi λx=>mi λl=>mi λh=>?_
 unfold Hi
 cases x.d<;>simp [a0h,a0s]
theorem b31:Wo (lK [.tup a,.tup b]) Q↔Q (iG a b):=a0h
theorem b32:Wo (lK [.tup a,.lst r b]) Q↔Q (iG a b):=a0h
theorem b33:Wo (lK [.lst r a,.tup b]) Q↔Q (iG a b):=a0h
theorem b34:Wo (lK [.lst r a,.lst r' b]) Q↔Q (iG a b):=a0h
def HN(ds:List D)(Q:Sl->Prop):Prop:=match ds with
 | [.int i,.int j]=>(j-i).toNat<=16777216/\Q (.ow (bR i (j-i).toNat))
 | _=>False
theorem lrQ_i:HN [.int i,.int j] Q↔(j-i).toNat<=16777216/\Q (.ow (bR i (j-i).toNat)):=eG
theorem b2u:Wo (RA fs env) Q↔Wo (fs env) λds=>HN ds Q:=by
 unfold RA
 rw [a0j]
 refine mi λds=>?_
 unfold HN
 split
 .exact gy
 .exact a0s
def Cg(i:Nat)(env:En)(a b:Sl)(Q:Fl×En->Prop):Prop:=match a,b with
 | .sh (.int m),.sh (.int n)=>Q (.nx,env.set i (.sh (.int (m+n))))
 | _,_=>False
theorem b87:Cg i env (.sh (.int m)) (.sh (.int n)) Q↔Q (.nx,env.set i (.sh (.int (m+n)))):=eG
theorem b9C:Wo (iK i f env) Q↔kO env[i]? λa=>Wo (f env) λr=>Cg i env a r Q:=by
 constructor
 .rintro ⟨y,e,h⟩
  obtain ⟨m,n,e1,e2,rfl⟩:=TQ e
  rw [e1];exact ⟨_,e2,h⟩
 .intro h
  cases hi:env[i]? with
  | none=>rw [hi] at h;exact h.elim
  | some s =>
   rw [hi] at h
   cases s with
   | no=>exact h.elim
   | ow ds=>exact h.elim
   | dw ds=>exact h.elim
   | sh d =>
    obtain ⟨r,e1,h⟩:=h
    cases d with
    | int m =>
     cases r with
     | sh d2 =>
      cases d2 with
      | int n=>exact ⟨_,by unfold iK;rw [hi,e1],h⟩
      | _=>exact h.elim
     | _=>exact h.elim
    | _=>exact h.elim
theorem b7a:Wo (QW i j c f env) Q↔bU env[i]? λds=>Wo (forL (gN j) (cG c (aB f) c5) ds env) Q:=by
 unfold QW
 cases h:env[i]? with
 | none=>simp [a0s,bU]
 | some s=>cases s<;>simp [a0s,bU]
theorem b2t:Wo (b8Y φ f env) Q↔Wo (f env) λr=>Wo (y0 φ r.d) Q:=a0j
def Hg(d:D)(Q:Sl->Prop):Prop:=match d with
 | .lst _ ds=>Wo (xI ds) λrs=>Q (.ow rs)
 | _=>False
theorem srQ_l:Hg (.lst r ds) Q↔Wo (xI ds) λrs=>Q (.ow rs):=eG
theorem b0F:Wo (FY f env) Q↔Wo (f env) λr=>Hg r.d Q:=by
 unfold FY
 rw [a0j]
 refine mi λr=>?_
 cases r.d<;>simp [Hg,a0s,a1G]
theorem b4r:Wo (QL f env) Q↔Wo (f env) λr=>Wo (iT (some r)) λb=>Q (.sh (.int (if b=true then 1 else 0))):=by
 unfold QL
 cases f env with
 | none=>simp [Wo,iT]
 | some r=>rw [a0h,a1G]
end DL
namespace DL
theorem QJ(h1:-A<=a)(h2:a<=A)(h3:-B<=b)(h4:b<=B):-(A*B)<=a*b/\a*b<=A*B:=by
 have hA:0<=A:=by ext h1 h2
 have hB:0<=B:=by ext h3 h4
 have e1:(A-a)*(B+b)=A*B+A*b-a*B-a*b:=by grind
 have e2:(A+a)*(B-b)=A*B-A*b+a*B-a*b:=by grind
 have e3:(A-a)*(B-b)=A*B-A*b-a*B+a*b:=by grind
 have e4:(A+a)*(B+b)=A*B+A*b+a*B+a*b:=by grind
 have f1:=vE (show 0<=A-a by ext h2) (show 0<=B+b by ext h3)
 have f2:=vE (show 0<=A+a by ext h1) (show 0<=B-b by ext h4)
 have f3:=vE (show 0<=A-a by ext h2) (show 0<=B-b by ext h4)
 have f4:=vE (show 0<=A+a by ext h1) (show 0<=B+b by ext h3)
 ext e1 e2 e3 e4 f1 f2 f3 f4
theorem FR(h:-(10^250)<=i)(h2:i<=10^250)(h3:-(10^250)<=j)(h4:j<=10^250):MulC i j:=.inr (.inr ⟨⟨h,h2⟩,h3,h4⟩)
theorem tM(h:0<j)(h2:j<=10^250):DivC i j:=⟨h,h2⟩
theorem Td{a b:Int}(hb:0<b):a/b*b<=a/\a<(a/b+1)*b:=by
 have h1:=Int.emod_add_mul_ediv a b
 have h2:=kG a (Int.ne_of_gt hb)
 have h3:=kH a hb
 generalize a/b=q at *
 exact ⟨by grind,by grind⟩
end DL
namespace DL
open PySem PySem.Spec PyProof.Rows L2
def Tr(h:Heap)(e T:Addr)(c:Value):Prop:=∃oe vs a0 oT ts,h.get? e=some oe/\(oe.cls=c/\vs[0]?=some a0)/\oe.data=.fields vs/\vs[1]?=some (.ref T)/\T≠e/\h.get? T=some oT/\oT.data=.fields ts/\ts[3]?=some .none
structure Lies(h0:Heap)(H:Hp)(h:Heap)(e:Addr)(c:Value):Prop where
 new:h0.get? e=none
 un:H e=none
 tr:∃T,h0.get? T=none/\H T=none/\Tr h e T c
theorem b3h(x:cL P w H h a o):∃u,h.get? a=some u:=by
 induction o with
 | lst xs=>obtain ⟨_,_,_,_,e⟩:=x;exact ⟨_,e⟩
 | tup xs=>obtain ⟨_,_,_,ob,e,_⟩:=x;exact ⟨_,e⟩
 | dK bw=>obtain ⟨_,_,_,_,o,_,_,e,_⟩:=x;exact ⟨_,e⟩
 | dT bw=>obtain ⟨_,_,_,_,o,_,_,e,_⟩:=x;exact ⟨_,e⟩
 | set S n=>obtain ⟨o,_,_,_,e,_⟩:=x;exact ⟨_,e⟩
 | tab q=>obtain ⟨_,e,_⟩:=x;exact ⟨_,e⟩
 | ins C dx fs=>obtain ⟨_,_,_,e,_⟩:=x;exact ⟨_,e⟩
 | own y=>obtain ⟨ob,e⟩:=x;exact ⟨_,e⟩
 | xd fs=>obtain ⟨_,⟨_,_,_,e,_⟩,_⟩:=x;exact ⟨_,e⟩
 | sy lo hi=>obtain ⟨_,_,_,e⟩:=x;exact ⟨_,e⟩
 | fV ob u ih=>obtain ⟨e,_⟩:=x;exact ⟨_,e⟩
 | su ps=>exact ⟨_,x⟩
 | met f y=>exact ⟨_,x⟩
 | ext φ=>obtain ⟨_,⟨o,e⟩,_⟩:=x;exact ⟨_,e⟩
theorem Q6(x:fu P w H h)(e:H a=some o):∃u,h.get? a=some u:=b3h (x a o e)
theorem b3C(x:fu P w H h)(e:h.get? a=none):H a=none:=by
 cases q:H a with
 | none=>rfl
 | some o=>obtain ⟨u,z⟩:=Q6 x q;rw [e] at z;cases z
theorem Np{h b0 b1:Heap}:∀{l:List Env},h.FunFrames b0 l->(∀L∈eM l,b1.get? L=none)->h.FunFrames b1 l
 | [],_,_=>trivial
 | env::r,⟨k,⟨L,o,hf,_,ho,hd⟩,t⟩,hb =>
  ⟨k,⟨L,o,hf,hb L (by unfold eM;rw [BZ,hf];exact cM),ho,hd⟩,
   Np t λL' m=>hb L' (by unfold eM at m ⊢;rw [BZ,hf];exact cY _ m)⟩
noncomputable def rj(h:Heap)(e T:Addr)(l:List Env):Heap:=Kq h (e::T::eM l)
theorem Q4(t:Tr h e T c)(hl:h.FunFrames b0 l):∃a0,Heap.FlyingW (rj h e T l) l e c a0 h:=by
 obtain ⟨oe,vs,a0,oT,ts,he,hc,hd,h1,hT,wN,wM,h3⟩:=t
 refine ⟨a0,λb o q=>Kg _ q,B0 _ cM,Np hl λL m=>B0 _ (cY _ (cY _ m)),?_⟩
 exact ⟨oe,vs,T,oT,ts,he,hc,hd,h1,B0 _ (cY _ cM),hT,wN,wM,h3⟩
structure Moved(H:Hp)(l:List Env)(ex:List Addr)(h h':Heap):Prop where
 un:Un (eM l) ex H H h h'
theorem MB{h h1 h' b0 B:Heap}(hl:h.FunFrames b0 l)(hB:∀b o,h.get? b=some o->b∉eM l->b∉ex->B.get? b=some o)(st:B.StaysIn h')(k1:∀b o,h.get? b=some o->h1.get? b=some o)(up:h1.UpToSlots h'):Un (eM l) ex H H h h':=by
 have sl:∀b o,h.get? b=some o->b∈eM l->∃s,h'.get? b=some { o with slots:=s }:=λb o e m=>by
  obtain ⟨_,o',gD,hd⟩:=hl.mem m
  rw [e] at gD;cases gD
  exact up b o (k1 b o e) hd
 refine ⟨λb o e _ n1 n2=>st b o (hB b o e n1 n2),λb o e _ m _=>sl b o e m,λ_ _ _ n _=>n,λb o e n2=>?_,λ_ _ q=>q,λ_ _ _ q=>q,λ_ ps q=>⟨#[],by rw [q];simp⟩⟩
 by_cases m:b∈eM l
 .obtain ⟨s,q⟩:=sl b o e m;exact ⟨_,q⟩
 .exact ⟨o,st b o (hB b o e m n2)⟩
theorem L0(a:Un fs [] H0 H h0 h)(b:Un fs2 D7 H H' h h')(hf:∀x∈fs2,x∈fs\/h0.get? x=none)(hx:∀x∈D7,h0.get? x=none):Un fs [] H0 H' h0 h' where
 keep:=λc o q n hc _=>b.keep c o (a.keep c o q n hc (by simp)) (a.free c o q n (by simp)) (λz=>(hf c z).elim hc λy=>by rw [q] at y;cases y) λz=>by rw [hx c z] at q;cases q
 slot:=λc o q n hc _=>by
  obtain ⟨sl,e1⟩:=a.slot c o q n hc (by simp)
  have nx:c∉D7:=λz=>by rw [hx c z] at q;cases q
  obtain ⟨s2,e2⟩:=b.any e1 (a.free c o q n (by simp)) nx
  exact ⟨s2,e2⟩
 free:=λc o q n _=>by
  obtain ⟨o',e1⟩:=a.there c o q (by simp)
  exact b.free c o' e1 (a.free c o q n (by simp)) λz=>by rw [hx c z] at q;cases q
 there:=λc o q _=>by
  obtain ⟨o',e1⟩:=a.there c o q (by simp)
  exact b.there c o' e1 λz=>by rw [hx c z] at q;cases q
 c8:=λc xs q=>b.c8 c xs (a.c8 c xs q)
 dE:=λc o u q=>b.dE c o u (a.dE c o u q)
 dN:=λc ps q=>by
  obtain ⟨m1,e1⟩:=a.dN c ps q
  obtain ⟨m2,e2⟩:=b.dN c _ e1
  exact ⟨m1++m2,by rw [e2,Kh]⟩
theorem MH{P:Program}{w:World}{H:Hp}{fs ex:List Addr}{h h':Heap}(ok:fu P w H h)(B:Heap)(hB:∀b o,h.get? b=some o->b∉fs->b∉ex->B.get? b=some o)(st:B.StaysIn h')(hf:∀b∈fs,H b=none)(hx:∀b∈ex,H b=none):fu P w H h':=λa o e=>by
 refine (ok a o e).gr (λb u hb q=>st b u (hB b u q ?_ ?_)) (λ_ _ _ q=>q) λ_ _ q=>q
 .intro z
  rcases hb with rfl | hb
  .rw [hf _ z] at e;cases e
  .rw [hf _ z] at hb;cases hb
 .intro z
  rcases hb with rfl | hb
  .rw [hx _ z] at e;cases e
  .rw [hx _ z] at hb;cases hb
theorem Rw{P:Program}{w:World}{H:Hp}{h0 h h' b0 B:Heap}{l l':List Env}{ex:List Addr}{e:Addr}{c a0:Value}(ok:fu P w H h)(hl:h.FunFrames b0 l)(hB:∀b o,h.get? b=some o->b∉eM l->b∉ex->B.get? b=some o)(fl:Heap.FlyingW B l' e c a0 h')
  (up:∀b o,h.get? b=some o->b∈eM l->∃sl,h'.get? b=some { o with slots:=sl })(hf:∀b∈eM l,H b=none)(hx:∀b∈ex,H b=none)(t0:∀b o,h0.get? b=some o->∃o',h.get? b=some o')(x0:∀b∈ex,h0.get? b=none):
  ∃T,h0.get? T=none/\H T=none/\Tr h' e T c:=by
 obtain ⟨_,_,_,oe,vs,T,oT,ts,he,hc,hd,h1,hn,hT,wN,wM,h3⟩:=fl
 have key:∀o,h.get? T=some o->T∈ex:=λo q=>by
  by_cases m:T∈eM l
  .exfalso
   obtain ⟨_,o',gD,DU⟩:=hl.mem m
   rw [q] at gD;cases gD
   obtain ⟨sl,q'⟩:=up T o q m
   rw [wN] at q';cases q'
   exact DU ts wM
  .by_cases n:T∈ex
   .exact n
   .have:=hB T o q m n
    rw [hn] at this;cases this
 refine ⟨T,?_,?_,oe,vs,a0,oT,ts,he,hc,hd,h1,hT,wN,wM,h3⟩
 .cases q:h0.get? T with
  | none=>rfl
  | some o =>
   obtain ⟨o',q'⟩:=t0 T o q
   rw [x0 T (key o' q')] at q;cases q
 .cases q:H T with
  | none=>rfl
  | some o =>
   obtain ⟨u,q'⟩:=Q6 ok q
   rw [hx T (key u q')] at q;cases q
noncomputable def nX(P:Program)(w:World):m7:=λouter H s E e s'=>∃ea c H',e=.ref ea/\s'.os=s.os/\AllBare s'.gens/\Un (eM outer) [] H H' s.heap s'.heap/\fu P w H' s'.heap/\Lies s.heap H' s'.heap ea c/\E c none H'
def Xk(X:Cx)(W:L2.St->Hp->Value->Prop):Prop:=∀(pins:List (Addr×Obj)) (σ:L2.St) (H:Hp) (s:Shared) (e:Value) (s':Shared),Inv X pins σ H s->nX X.prog X.w X.stack H s (λc _ H'=>W σ H' c) e s'->X.xe e s'
def Xr(X:Cx)(W:L2.St->Hp->Value->Prop):Prop:=∀(pins:List (Addr×Obj)) (σ:L2.St) (H:Hp) (s:Shared) (h':Heap) (e:Addr) (c:Value) (vs:List Value),Inv X pins σ H s->Heap.MadeExcOf s.heap h' e c vs->W σ H c->X.xe (.ref e) { s with heap:=h' }
section
variable {P:Program}{w:World}{K:aC}{mg:Str->Option Value}{base:Heap}{N:List Str}{qual:Str}{scope:Scope}{f:Addr}{cd:Value}{A:Around}{outer:List Env}{s:Shared}{H:Hp}{E:XK}
theorem FP{X:Cx}{pins:List (Addr×Obj)}{σ:L2.St}{H':Hp}{s1:Shared}(I:Inv X pins σ H' s1)(hx:X.ex=[]){a:Addr}(h:s1.heap.get? a=none):X.bF.heap.get? a=none:=by
 cases q:X.bF.heap.get? a with
 | none=>rfl
 | some o =>
  obtain ⟨o',e⟩:=I.base.there a o q (by rw [hx];simp)
  rw [h] at e;cases e
theorem yF:Xk (eN (nX P w) P w K mg base N qual scope f cd A outer s H E) λ_ H' c=>E c none H':=by
 intro pins σ H1 s1 e s' I hc
 obtain ⟨ea,c,H',rfl,os,bare,un,aT,⟨new,uD,T,uv,hT,tr⟩,hE⟩:=hc
 have J:Inv (eN (nX P w) P w K mg base N qual scope f cd A outer s H E) pins σ H' s':=I.pA os un aT bare (by simp)
 have hl:=J.stack
 have dH:=J.fy
 obtain ⟨a0,fl⟩:=Q4 tr hl
 show wpAny _ _ (leaving _ _) _ _ s'
 have ne:s.heap.get? ea=none:=FP I rfl new
 have nT:s.heap.get? T=none:=FP I rfl uv
 have hB:∀b o,s'.heap.get? b=some o->b∉eM (eN (nX P w) P w K mg base N qual scope f cd A outer s H E).stack->b∉[ea,T]->(rj s'.heap ea T (eN (nX P w) P w K mg base N qual scope f cd A outer s H E).stack).get? b=some o:=λb o q n1 n2 =>
  EB _ q λz=>by
   rcases bI.mp z with z | z
   .exact n2 (by simp [z])
   .rcases bI.mp z with z | z
    .exact n2 (by simp [z])
    .exact n1 z
 refine wpAny_leaves_onW (outer:=outer) J.ok.frames rfl fl λh' u5 up=>?_
 have U:=MB (H:=H') hl hB u5.1 (λ_ _ q=>q) up
 have hx:∀b∈[ea,T],H' b=none:=λb z=>by
  rcases bI.mp z with z | z
  .rw [z];exact uD
  .rw [bT.mp z];exact hT
 have x0:∀b∈[ea,T],s.heap.get? b=none:=λb z=>by
  rcases bI.mp z with z | z
  .rw [z];exact ne
  .rw [bT.mp z];exact nT
 refine ⟨ea,c,H',rfl,J.os,bare,?_,MH aT _ hB u5.1 dH hx,⟨ne,uD,?_⟩,hE⟩
 .refine L0 J.base U (λx z=>?_) x0
  rcases bI.mp (J.c9 x z) with z | z
  .exact .inr (by rw [z];exact EE J.ok.above)
  .exact .inl z
 .exact Rw aT hl hB u5 (λb o q m=>U.any q (dH b m) λz=>by
    obtain ⟨_,o',gD,DU⟩:=hl.mem m
    obtain ⟨oe,vs,a0',oT,ts,he,_,hd,_,_,wN,wM,_⟩:=tr
    rcases bI.mp z with z | z
    .rw [z,he] at gD;cases gD;exact DU vs hd
    .rw [bT.mp z,wN] at gD;cases gD;exact DU ts wM) dH hx (λb o q=>J.base.there b o q (by show b∉[];simp)) x0
theorem yE:Xr (eN (nX P w) P w K mg base N qual scope f cd A outer s H E) λ_ H' c=>E c none H':=by
 intro pins σ H1 s1 h1 ea c vs J hx hE
 have hl:=J.stack
 have dH:=J.fy
 have ne:s.heap.get? ea=none:=FP J rfl hx.new
 have hB:∀b o,s1.heap.get? b=some o->b∉eM (eN (nX P w) P w K mg base N qual scope f cd A outer s H E).stack->b∉([]:List Addr)->(Kq s1.heap (eM (eN (nX P w) P w K mg base N qual scope f cd A outer s H E).stack)).get? b=some o:=λb o q n1 _=>EB _ q n1
 show wpAny _ _ (leaving _ _) _ _ _
 refine wpAny_leaves_madeW (s:={ s1 with heap:=h1 }) (outer:=outer) J.ok.frames rfl (λb o q=>Kg _ q) (Np hl λL m=>B0 _ m) hx λh' t u5 _ _ up=>?_
 have U:=MB (H:=H1) hl hB u5.1 hx.keeps up
 refine ⟨ea,c,H1,rfl,J.os,J.bare,?_,MH J.aT _ hB u5.1 dH (by simp),⟨ne,b3C J.aT hx.new,?_⟩,hE⟩
 .refine L0 J.base U (λx z=>?_) (by simp)
  rcases bI.mp (J.c9 x z) with z | z
  .exact .inr (by rw [z];exact EE J.ok.above)
  .exact .inl z
 .exact Rw J.aT hl hB u5 (λb o q m=>U.any q (dH b m) (by simp)) dH (by simp) (λb o q=>J.base.there b o q (by show b∉[];simp)) (by simp)
end
end DL
namespace DL
open PySem PySem.Spec PyProof.Rows L2
noncomputable def DB(K:aC)(mg:Str->Option Value)(n:Nat)(ρ:List D->Option Str):Sp:=λvs H _ E=>∃(O:Addr->Prop) (ds:List D) (nm:Str),nW K O H/\aN K O H vs ds/\vs.length=n/\ρ ds=some nm/\∀c H',mg nm=some c->ao H H'->E c none H'
def EX(X:Cx)(W:L2.St->Hp->Value->Prop)(e:Expr)(r:En->Option Str):Prop:=
 ∃t:TE,PE X e t/\∀(O:Addr->Prop) (B:Hp) (σ:L2.St) (H:Hp) (env:En) (nm:Str) (Q:VK),Rel X.K O B σ H env->r env=some nm->(∀c H',X.mg nm=some c->ao H H'->W σ H' c)->t σ H Q
noncomputable abbrev RF:=En->Option (Str×En)
def XV(X:Cx)(W:L2.St->Hp->Value->Prop)(st:Stmt)(r:RF):Prop:=
 ∃t:TS,PS X st t/\∀(O:Addr->Prop) (B:Hp) (σ:L2.St) (H:Hp) (env:En) (nm:Str) (ah:En) (D:Ends),Rel X.K O B σ H env->r env=some (nm,ah) ->
  (∀az H' c,X.mg nm=some c->Rel X.K O B az H' ah->Gd σ env H az ah H'->W az H' c)->t D σ H
def rX(X:Cx)(W:L2.St->Hp->Value->Prop)(st:List Stmt)(r:RF):Prop:=
 ∃t:TS,mq X st t/\∀(O:Addr->Prop) (B:Hp) (σ:L2.St) (H:Hp) (env:En) (nm:Str) (ah:En) (D:Ends),Rel X.K O B σ H env->r env=some (nm,ah) ->
  (∀az H' c,X.mg nm=some c->Rel X.K O B az H' ah->Gd σ env H az ah H'->W az H' c)->t D σ H
section
variable {X:Cx}{W:L2.St->Hp->Value->Prop}{e a b c:Expr}{es:List Expr}{st:Stmt}{rest sa sb:List Stmt}{F G:SF}{r r':RF}{re:En->Option Str}{fa:En->Option Sl}{ga:En->Option Bool}{fs:En->Option (List D)}{pos p aR np:Pos}
noncomputable def my:RF:=λ_=>none
noncomputable def xP:SF:=λ_=>none
theorem F9:SV X st xP:=⟨λ_ _ _=>False,λ_ _ _ _ _ _ h=>h.elim,λ_ _ _ _ _ _ _ _ _ e _=>by cases e⟩
theorem xJ:XV X W st my:=⟨λ_ _ _=>False,λ_ _ _ _ _ _ h=>h.elim,λ_ _ _ _ _ _ _ _ _ e _=>by cases e⟩
theorem EV.cP(h:EV X.cP e fa):EV X e fa:=let ⟨t,p,k⟩:=h;⟨t,p.cP,k⟩
theorem TV.cP(h:TV X.cP e ga):TV X e ga:=let ⟨t,p,k⟩:=h;⟨t,p.cP,k⟩
theorem jq.cP(h:jq X.cP rest F):jq X rest F:=let ⟨t,p,k⟩:=h;⟨t,p.cP,k⟩
theorem SV.cP(h:SV X.cP st F):SV X st F:=let ⟨t,p,k⟩:=h;⟨t,λpins s σ H D I hw=>gk (p pins s σ H D (I.eZ _) hw) (λ_ _ q=>q.bY) λ_ _ z=>cV z,k⟩
theorem AV.cP(h:AV X.cP es fs):AV X es fs:=let ⟨t,p,k⟩:=h;⟨t,λpo pins s σ H Q I hw=>gk (p po pins s σ H Q (I.eZ _) hw) (λ_ _ ⟨v,H',I',r,q⟩=>⟨v,H',I'.bY,r,q⟩) λ_ _ z=>cV z,k⟩
theorem L3:rX X W [] my:=⟨λ_ _ _=>False,λ_ _ _ _ _ _ h=>h.elim,λ_ _ _ _ _ _ _ _ _ e _=>by cases e⟩
noncomputable def e9(r:RF)(F:SF)(r':RF):RF:=λenv=>match r env with
 | some x=>some x
 | none=>match F env with
  | some (.nx,env1)=>r' env1
  | _=>none
theorem vQ(h:XV X W st r):rX X W [st] r:=let ⟨t,p,k⟩:=h;⟨t,RV p,k⟩
theorem vT(h:XV X W st r)(hv:SV X st F)(h2:rX X W rest r'):rX X W (st::rest) (e9 r F r'):=by
 obtain ⟨t,p,k⟩:=h
 obtain ⟨v,pv,kv⟩:=hv
 obtain ⟨u,p',k'⟩:=h2
 refine ⟨λD σ H=>t { D with nx:=u D } σ H\/v { D with nx:=u D } σ H,λpins s σ H D I hw=>?_,λO B σ H env nm ah D R e q=>?_⟩
 .rcases hw with hw | hw
  .exact Mn p p' pins s σ H D I hw
  .exact Mn pv p' pins s σ H D I hw
 .unfold e9 at e
  cases hr:r env with
  | some x =>
   rw [hr] at e
   obtain rfl:=dk e
   exact .inl (k O B σ H env nm ah _ R hr q)
  | none =>
   rw [hr] at e
   cases hF:F env with
   | none=>rw [hF] at e;cases e
   | some x =>
    obtain ⟨fl,env1⟩:=x
    rw [hF] at e
    cases fl with
    | nx=>exact .inr (kv O B σ H env .nx env1 _ R hF λaz H' R' g'=>k' O B az H' env1 nm ah D R' e λcZ H2 c hc R2 g2=>q cZ H2 c hc R2 (g'.trans g2))
    | bk=>cases e
    | ct=>cases e
    | rt z=>cases e
noncomputable def oK(c:En->Option Bool)(r r':RF):RF:=λenv=>match c env with
 | some true=>r env
 | some false=>r' env
 | none=>none
theorem Ld(hc:TV X c ga)(ha:rX X W sa r)(hb:rX X W sb r'):XV X W (.If c sa sb pos) (oK ga r r'):=by
 obtain ⟨tc,pc,kc⟩:=hc
 obtain ⟨t,p,k⟩:=ha
 obtain ⟨u,p',k'⟩:=hb
 refine ⟨_,Q0 pc p p',λO B σ H env nm ah D R e q=>?_⟩
 unfold oK at e
 cases h:ga env with
 | none=>rw [h] at e;cases e
 | some x =>
  rw [h] at e
  refine kc O B σ H env x _ R h λH1 s1=>?_
  cases x with
  | true =>
   rw [if_pos rfl]
   exact k O B σ H1 env nm ah D (R.grow s1) e λcZ H2 c hc R2 g2=>q cZ H2 c hc R2 ((Gd.refl s1).trans g2)
  | false =>
   rw [if_neg fY]
   exact k' O B σ H1 env nm ah D (R.grow s1) e λcZ H2 c hc R2 g2=>q cZ H2 c hc R2 ((Gd.refl s1).trans g2)
noncomputable def rE(re:En->Option Str):RF:=λenv=>(re env).map λnm=>(nm,env)
theorem Q3{i:Nat}{x:Str}(hN:X.N.Nodup)(hi:X.N[i]?=some x)(hx:Loc X.env.scope x)(h:EX X W e re)(hs:swapsWith e (some (.Name x pos')) pos.line X.env=pure false:=by rfl)
  (hf:X.fn x=true\/X.env.scope.names.lookup x=some .local:=by first | exact .inl rfl | exact .inr rfl | assumption):XV X W (.Assign [.Name x pos'] e pos) (rE re):=by
 obtain ⟨t,p,k⟩:=h
 refine ⟨_,Fv hN hi hx p hs hf,λO B σ H env nm ah D R e q=>?_⟩
 obtain ⟨n1,e1,e2⟩:=map_some e
 cases e2
 exact k O B σ H env nm _ R e1 λc H' hc s=>q σ H' c hc (R.grow s) (Gd.refl s)
noncomputable def qu(n:Nat)(ρ:List D->Option Str)(fs:En->Option (List D)):En->Option Str:=λenv=>(fs env).bind λds=>if ds.length=n then ρ ds else none
theorem zb{k:Nat}{f:Addr}{fd:FuncData}{ps:List Str}{sp:Sp}{pins:List (Addr×Obj)}{σ:L2.St}{H:Hp}{s:Shared}{Q:VK}{us:List Value}{vs:List V}(F:bG X.prog X.w X.K X.mg X.base (nX X.prog X.w) k f fd ps sp)(hr:bh k X.A)(hb:Binds X.K fd ps [])(hx:Xk X W)
  (I:Inv X pins σ H s)(rv:au vs us)(h:sp (vs++[]) H Q λc _ H'=>W σ H' c):wpAny (model X.prog X.w) X.A (call (.ref f) us) (EP X pins σ Q) X.xe s:=by
 have r2:au (vs++[]) (us++[]):=rv.append .nil
 have hl:(us++[]).length=ps.length:=by rw [<-r2.length];exact F.len _ _ _ _ h
 refine wV (w6 (F.run X.A X.stack s H ⟨us,[]⟩ (us++[]) (vs++[]) Q _ hr I.fD (hb s us I.mF hl) r2 h) λz s' hq=>?_)
 cases z with
 | error e=>exact hx pins σ H s e s' I hq
 | ok fl =>
  cases fl with
  | ret u=>exact I.after hq
  | next=>exact cV hq
  | brk=>exact cV hq
  | cont=>exact cV hq
theorem b6m{k:Nat}{f:Addr}{fd:FuncData}{ps:List Str}{ρ:List D->Option Str}{x:Str}(F:bG X.prog X.w X.K X.mg X.base (nX X.prog X.w) k f fd ps (DB X.K X.mg ps.length ρ))(hr:bh k X.A)(hg:Gl X x)(hm:X.mg x=some (.ref f))(hk:tm X.K (.ref f)=true)(hb:Binds X.K fd ps [])
  (hx:Xk X W)(ha:AV X (e::es) fs)(gv:(x==("__debug__":Str))=false:=by decide)(he:starEach (e::es) X.env=(false,eval e X.env)::starEach es X.env:=by rfl)(dG:(backTo pos (starEach es X.env)).any (·.1)=false:=by rfl):
  EX X W (.Call (.Name x p) (e::es) [] pos) (qu ps.length ρ fs):=by
 obtain ⟨t,pt,ka⟩:=ha
 refine ⟨λσ H Q=>t σ H λvs H1=>DB X.K X.mg ps.length ρ (vs++[]) H1 Q λc _ H'=>W σ H' c,λpins s σ H Q I h=>?_,λO B σ H env nm Q R e q=>?_⟩
 .refine xt (vO I hg hm ?_ gv)
  refine Qc (h₀:=X.base) I.ok.mod.uA hk (be (pt pos pins s σ H _ I h) λus s1 ⟨vs,H1,I1,r,q⟩=>⟨I1.mF,?_⟩) he dG
  exact zb F hr hb hx I1 r q
 .obtain ⟨ds,e1,e2⟩:=bind_some e
  refine ka O B σ H env ds _ R e1 λvs H1 s1 r1=>?_
  by_cases hn:ds.length=ps.length
  .rw [if_pos hn] at e2
   rw [mU]
   exact ⟨OO O σ env,ds,nm,(R.grow s1).dm,r1,by rw [r1.length,hn],e2,λc H' hc s=>q c H' hc (s1.trans s)⟩
  .rw [if_neg hn] at e2;cases e2
end
noncomputable abbrev Lc:List Value:=[.type "ValueError",.type "Exception",.type "BaseException",.type "object"]
structure wg(K:aC)(C:Addr):Prop where
 ob:∃(bm:List Value) (N:Addr) (nm q:Str) (bs:List Value) (hdct:Bool) (sn:List Str) (sub:List Value) (ab:Bool) (col:Option Bool) (dd:Option Addr) (k0 k1 k2 k3 k5:Option Value),K.lookup C=some (excClassObj nm q C N bs bm hdct sn sub ab col dd k0 k1 k2 k3 k5 "ValueError.__new__") /\
  J0 K N=true/\iA K N "__init__" = some none/\JZ K Lc bm=true
section
variable {X:Cx}{W:L2.St->Hp->Value->Prop}{e:Expr}{es:List Expr}{fs:En->Option (List D)}{pos p aR np:Pos}{x:Str}{C:Addr}
noncomputable def Cm(nm:Str)(fs:En->Option (List D)):RF:=λenv=>(fs env).bind λds=>if ds.length<=16777216 then some (nm,env) else none
theorem SY(hc:X.calm=true)(hx:Xr X W)(ec:wg X.K C)(hg:Gl X x)(hm:X.mg x=some (.ref C))(ha:AV X (e::es) fs)(gv:(x==("__debug__":Str))=false:=by decide)
  (he:starEach (e::es) X.env=(false,eval e X.env)::starEach es X.env:=by rfl)(dG:(backTo aR (starEach es X.env)).any (·.1)=false:=by rfl):XV X W (.Raise (some (.Call (.Name x np) (e::es) [] aR)) none pos) (Cm x fs):=by
 obtain ⟨t,pt,ka⟩:=ha
 refine ⟨λD σ H=>t σ H λvs H1=>vs.length<=sizeLine/\W σ H1 (.ref C),λpins s σ H D I h=>?_,λO B σ H env nm ah D R e q=>?_⟩
 .obtain ⟨bm,N,nm,q,bs,hdct,sn,sub,ab,col,dd,k0,k1,k2,k3,k5,lk,n1,n2,tl⟩:=ec.ob
  have T:=P9 I.mF tl
  refine wpAny_Raise_call_subT (C:=C) (nm:=nm) (q:=q) (N:=N) (bs:=bs) (bm:=bm) (hdct:=hdct) (sn:=sn) (sub:=sub) (ab:=ab) (col:=col) (dd:=dd) (k0:=k0) (k1:=k1) (k2:=k2) (k3:=k3) (k5:=k5)
   PySem.F.excBase_ValueError (mN:=X.base.nsMap N) (T.hasType (by decide +kernel)) (I.ok.hd hc) (by rw [he];show (false||(backTo aR (starEach es X.env)).any (·.1))=false;rw [dG];rfl) (PySem.W.nsMap_none_of_in I.mod.uA n1 n2) (vO I hg hm ⟨rfl,?_⟩ gv)
  have h1:=pt aR pins s σ H _ I h
  rw [he] at h1 ⊢
  refine P0 (gk h1 (λus s2 ⟨vs,H2,I2,r2,hl,q2⟩=>?_) λ_ _ y=>y)
  exact ⟨rfl,by show us.length<=_;rw [<-r2.length];exact hl,I2.mF _ _ lk,(Heap.Ns.of_isNs (PySem.W.isNs_of_in I2.mod.uA n1)).keeps I2.bk,P9 I2.mF tl,λh' ea hm=>hx pins σ H2 s2 h' ea _ _ I2 hm q2⟩
 .obtain ⟨ds,e1,e2⟩:=bind_some e
  obtain ⟨hl,e3⟩:=gx e2
  cases e3
  exact ka O B σ H env ds _ R e1 λvs H1 s1 r1=>⟨by rw [r1.length,h8];exact hl,q σ H1 _ hm (R.grow s1) (Gd.refl s1)⟩
end
section
variable {P:Program}{w:World}{K:aC}{mg:Str->Option Value}{base:Heap}
noncomputable def j6(r:RF)(N:Nat)(ds:List D):Option Str:=(r (jW N ds)).map (·.1)
theorem Bm{x qual:Str}{st:Stmt}{f:Addr}{fd:FuncData}{N ps:List Str}{k:Nat}{r:RF}(Fn:qH K x qual st f fd)(S:bQ N ps (du st))
  (bo:∀(X:Cx) (W:L2.St->Hp->Value->Prop),X.prog=P->X.w=w->X.K=K->X.mg=mg->X.base=base->Fx X.cP N (du st) k->Xk X W->Xr X W->rX X W (fZ st) r):bG P w K mg base (nX P w) (k+1) f fd ps (DB K mg ps.length (j6 r N.length)):=by
 obtain ⟨oc,od,kV,doc,pm,an,cX,ct,pU,rfl,lk,bW⟩:=Fn.ex
 refine K5 lk bW S (λvs H Q E h=>?_) λA outer s H vs Q E hr pZ=>?_
 .obtain ⟨O,ds,nm,_,_,hl,_⟩:=h
  exact hl
 obtain ⟨O,ds,nm,hO,hi,hl,e,q⟩:=pZ
 obtain ⟨t,p,kk⟩:=bo (eN (nX P w) P w K mg base N qual (du st) f cX A outer s H E) (λ_ H' c=>E c none H') rfl rfl rfl rfl rfl ⟨rfl,rfl,rfl,λ_ _=>rfl,sZ,hr,S.nd,λ_=>⟨rfl,rfl,rfl⟩⟩ yF yE
 obtain ⟨⟨Yx,ah⟩,e1,e2⟩:=map_some e
 cases e2
 exact ⟨t,p,kk O H (start N vs) H (jW N.length ds) Yx ah _ (MQ hO hi) e1 λaz H' c hc R' _=>q c H' hc R'.same⟩
end
def Xz(P:Program)(w:World)(K:aC)(mg:Str->Option Value)(base:Heap)(x:Str)(st:Stmt)(ps:List Str)(j:Nat)(ρ:List D->Option Str):Prop:=∃f fd,Def K mg x st ps f fd/\bG P w K mg base (nX P w) j f fd ps (DB K mg ps.length ρ)
theorem K6{P:Program}{w:World}{K:aC}{mg:Str->Option Value}{base:Heap}{x:Str}{st:Stmt}{f:Addr}{fd:FuncData}{N ps:List Str}{k:Nat}{r:RF}(D':Def K mg x st ps f fd)
  (bo:∀(X:Cx) (W:L2.St->Hp->Value->Prop),Sx X P w K mg base->Fx X.cP N (du st) k->Xk X W->Xr X W->rX X W (fZ st) r)(S:bQ N ps (du st):=by exact ⟨rfl,rfl,rfl,by decide +kernel,rfl,by decide +kernel,by decide +kernel⟩):Xz P w K mg base x st ps (k+1) (j6 r N.length):=
 ⟨f,fd,D',Bm D'.fn S λX W e1 e2 e3 e4 e5=>by subst e1 e2 e3 e4 e5;exact bo X W (.mk X)⟩
theorem GN{X X':Cx}{x:Str}{st:Stmt}{ps:List Str}{j:Nat}{ρ:List D->Option Str}(e1:X'.prog=X.prog)(e2:X'.w=X.w)(e3:X'.K=X.K)(e4:X'.mg=X.mg)(e5:X'.base=X.base)(O:Xz X.prog X.w X.K X.mg X.base x st ps j ρ):Xz X'.prog X'.w X'.K X'.mg X'.base x st ps j ρ:=by
 rw [e1,e2,e3,e4,e5];exact O
theorem Fx.GP{X:Cx}{W:L2.St->Hp->Value->Prop}{N:List Str}{sc:Scope}{k j:Nat}{full:Bool}{x:Str}{st:Stmt}{ps:List Str}{ρ:List D->Option Str}{e:Expr}{es:List Expr}{fs:En->Option (List D)}{p pos:Pos}(h:Fx X.cP N sc k full)(O:Xz X.prog X.w X.K X.mg X.base x st ps j ρ)(hx:Xk X W)(ha:AV X (e::es) fs)(hj:j<=k:=by decide)(hg:sc.names.lookup x=some .globalImplicit:=by rfl)(gv:(x==("__debug__":Str))=false:=by decide)(he:starEach (e::es) X.env=(false,eval e X.env)::starEach es X.env:=by rfl)(dG:(backTo pos (starEach es X.env)).any (·.1)=false:=by rfl):
  EX X W (.Call (.Name x p) (e::es) [] pos) (qu ps.length ρ fs):=by
 obtain ⟨f,fd,D',F⟩:=O
 exact b6m F (h.room.mono hj) (h.g hg) D'.m D'.fn.kp D'.bd hx ha gv he dG
end DL
namespace DL
open PySem PySem.Spec PyProof.Rows L2
section
variable {X:Cx}{pins:List (Addr×Obj)}{σ:L2.St}{H:Hp}{s:Shared}{h':Heap}
theorem b6a(J:Inv X pins σ H s)(hx:X.ex=[])(U:Un (eM X.stack) D7 H H s.heap h')(aT:fu X.prog X.w H h')
  (n0:∀b∈D7,X.bF.heap.get? b=none/\b≠X.env.locals/\(∀x c,X.env.cells.lookup x=some c->c≠b)/\∀p∈X.pn++pins,p.1≠b):Inv X pins σ H { s with heap:=h' }:=by
 have cellK:∀x c v,X.env.cells.lookup x=some c->s.heap.IsCell c v->h'.IsCell c v:=λx c v e ⟨o,ho,hd⟩=>by
  obtain ⟨sl,q⟩:=U.any ho (J.bN x c e) λz=>(n0 c z).2.2.1 x c e rfl
  exact ⟨_,q,hd⟩
 have hb:=J.base
 rw [hx] at hb
 refine ⟨J.ok,J.os,J.bare,?_,?_,λx c e=>?_,J.free,J.bN,λp hp=>?_,aT,J.len⟩
 .rw [hx]
  refine L0 hb U (λx z=>?_) λb z=>(n0 b z).1
  rcases bI.mp (J.c9 x z) with z | z
  .exact .inr (by rw [z];exact EE J.ok.above)
  .exact .inl z
 .obtain ⟨m,⟨o,es,ep,ho,r⟩,hl⟩:=J.loc
  obtain ⟨sl,q⟩:=U.any ho J.free λz=>(n0 _ z).2.1 rfl
  refine ⟨m,⟨_,es,ep,q,r⟩,λi x v e1 e2 e3=>?_⟩
  obtain ⟨u,ru,l⟩:=hl i x v e1 e2 e3
  refine ⟨u,ru,?_⟩
  rcases l with l | ⟨k,c,e,z⟩
  .exact .inl l
  .exact .inr ⟨k,c,e,cellK x c _ e z⟩
 .obtain ⟨v,z⟩:=J.cell x c e
  exact ⟨v,cellK x c v e z⟩
 .obtain ⟨e,n,ne,nf,d⟩:=J.pin p hp
  exact ⟨U.keep p.1 p.2 e n (λz=>(bI.mp (J.c9 _ z)).elim ne nf) λz=>(n0 p.1 z).2.2.2 p hp rfl,n,ne,nf,d⟩
theorem b1E(J:Inv X pins σ H s)(h1:H e=none)(h0:X.bF.heap.get? e=none)(h2:h7 e C s.heap)(h3:e≠X.env.locals)(h4:∀x c,X.env.cells.lookup x=some c->c≠e)(h5:∀p∈X.pn++pins,p.1≠e):
  Inv X pins σ (upd H e (.ext (h7 e C))) s:=by
 have ne:∀{b:Addr} {u:HO},H b=some u->b≠e:=λq=>jK q h1
 refine ⟨J.ok,J.os,J.bare,⟨J.base.keep,J.base.slot,λb o q n hx=>?_,J.base.there,λb xs q=>?_,λb o u q=>?_,λb ps q=>?_⟩,J.loc,J.cell,?_,λx c q=>?_,λp hp=>?_,λb u q=>?_,J.len⟩
 .rw [bM (λz=>by rw [z,h0] at q;cases q)];exact J.base.free b o q n hx
 .have:=J.base.c8 b xs q;rw [bM (ne this)];exact this
 .have:=J.base.dE b o u q;rw [bM (ne this)];exact this
 .obtain ⟨m,q'⟩:=J.base.dN b ps q;exact ⟨m,by rw [bM (ne q')];exact q'⟩
 .rw [bM (fE h3)];exact J.free
 .rw [bM (h4 x c q)];exact J.bN x c q
 .obtain ⟨a,n,r⟩:=J.pin p hp
  exact ⟨a,by rw [bM (h5 p hp)];exact n,r⟩
 .by_cases hb:b=e
  .subst hb
   rw [kQ] at q;cases q
   obtain ⟨o,ho,hc⟩:=h2
   exact ⟨⟨o,ho,hc⟩,⟨o,ho⟩,λg1 g2 ⟨o1,e1,e2⟩ k=>⟨o1,k o1 e1,e2⟩⟩
  .rw [bM hb] at q
   exact (J.aT b u q).gr (λ_ _ _ z=>z) (λc _ _ z=>by rw [bM (ne z)];exact z) λc xs z=>by rw [bM (ne z)];exact z
noncomputable abbrev sO(X:Cx)(v:Value):Cx:={ X with A:=X.A.mark (some v),calm:=false,xe:=λ_ _=>False }
theorem Tj(J:Inv X pins σ H s)(v:Value):Inv (sO X v) pins σ H s:=
 ⟨⟨J.ok.mod,J.ok.kind,J.ok.glob,J.ok.blt,J.ok.above,J.ok.inj,J.ok.has,J.ok.vd,λz=>(nomatch z),J.ok.frames,J.ok.wq,J.ok.D6,J.ok.bs,J.ok.me,J.ok.lT,J.ok.nr,J.ok.dX,J.ok.n8⟩,J.os,J.bare,J.base,J.loc,J.cell,J.free,J.bN,J.pin,J.aT,J.len⟩
theorem Gh(ok:X.Ok)(J:Inv (sO X v) pins σ H s):Inv X pins σ H s:=⟨ok,J.os,J.bare,J.base,J.loc,J.cell,J.free,J.bN,J.pin,J.aT,J.len⟩
noncomputable abbrev DF(X:Cx)(pins:List (Addr×Obj))(E:Value->Shared->Prop):Cx:={ X with xe:=E,pn:=X.pn++pins }
theorem b59(J:Inv X pins σ H s)(E:Value->Shared->Prop):Inv (DF X pins E) [] σ H s:=
 ⟨⟨J.ok.mod,J.ok.kind,J.ok.glob,J.ok.blt,J.ok.above,J.ok.inj,J.ok.has,J.ok.vd,J.ok.hd,J.ok.frames,J.ok.wq,J.ok.D6,J.ok.bs,J.ok.me,J.ok.lT,J.ok.nr,J.ok.dX,J.ok.n8⟩,J.os,J.bare,J.base,J.loc,J.cell,J.free,J.bN,λp hp=>J.pin p (by simpa using hp),J.aT,J.len⟩
theorem b1D(ok:X.Ok)(J:Inv (DF X pins E) more σ H s):Inv X pins σ H s:=
 ⟨ok,J.os,J.bare,J.base,J.loc,J.cell,J.free,J.bN,λp hp=>J.pin p (iR _ hp),J.aT,J.len⟩
theorem name_goes{M:Model}{A:Around}{E:Value->Shared->Prop}{i:Nat}{n:Str}{pos:Pos}{Q:Unit->Shared->Prop}(J:Inv X pins σ H s)(hN:X.N.Nodup)(hi:X.N[i]?=some n)(hl:X.env.kindOf n=some .local)
  (q:∀s',Inv X pins (σ.set i none) H s'->Q () s'):wpAny M A (do bindName X.env n .none;unbindBehindTheSuite X.env n pos) Q E s:=by
 obtain ⟨m,hn,AF⟩:=id J.loc
 have uR:(X.env.scope.kind==.class||(X.env.scope.kind==.module&&X.env.locals != X.env.globals))=false:=by rw [J.ok.kind];rfl
 refine wpAny_nameGoes_keeps hl hn uR λh1 v ZG sb=>q _ ?_
 have sm:∀b o,b≠X.env.locals->s.heap.get? b=some o->h1.get? b=some o:=λb o hb e=>(sb.2 b hb).trans e
 have wB:∀b o,X.bF.heap.get? b=some o->b≠X.env.locals:=λb o e=>dF (iQ (bO e) J.ok.above)
 refine ⟨J.ok,J.os,J.bare,⟨λb o e k f x=>sm b o (wB b o e) (J.base.keep b o e k f x),λb o e k f x=>?_,J.base.free,λb o e x=>?_,J.base.c8,J.base.dE,J.base.dN⟩,⟨_,ZG,λj y w e1 e2 e3=>?_⟩,λx c e=>?_,J.free,J.bN,λp hp=>?_,λb u e=>?_,by rw [BM];exact J.len⟩
 .obtain ⟨sl,e1⟩:=J.base.slot b o e k f x
  exact ⟨sl,sm b _ (wB b o e) e1⟩
 .obtain ⟨o',e1⟩:=J.base.there b o e x
  exact ⟨o',sm b _ (wB b o e) e1⟩
 .have hj:j≠i:=λz=>by
   subst z
   rw [iS (by rw [J.len];exact (iB.mp hi).1)] at e2
   cases e2
  rw [eR (fE hj)] at e2
  obtain ⟨u',r',q'⟩:=AF j y w e1 e2 e3
  refine ⟨u',r',?_⟩
  rcases q' with ⟨k,e⟩ | ⟨k,c,e,z⟩
  .refine .inl ⟨k,?_⟩
   have:y≠n:=λe=>hj (MC hN e1 (e▸hi))
   simp [this,e]
  .exact .inr ⟨k,c,e,z.sameBut sb (J.rB y c e)⟩
 .obtain ⟨w',z⟩:=J.cell x c e
  exact ⟨w',z.sameBut sb (J.rB x c e)⟩
 .obtain ⟨e,n,ne,nf,d⟩:=J.pin p hp
  exact ⟨sm p.1 p.2 ne e,n,ne,nf,d⟩
 .refine (J.aT b u e).gr (λc w hc z=>sm c w ?_ z) (λ_ _ _ z=>z) λ_ _ z=>z
  rintro rfl
  rcases hc with hc | hc
  .rw [<-hc,J.free] at e;cases e
  .rw [J.free] at hc;cases hc
end
theorem Rel.drop{K:aC}{O:Addr->Prop}{B H:Hp}{σ:L2.St}{env:En}(R:Rel K O B σ H env)(i:Nat):Rel K O B (σ.set i none) H (env.set i .no)/\Gd σ env H (σ.set i none) (env.set i .no) H:=by
 have own:∀q,jZ (σ.set i none) (env.set i .no) q->jZ σ env q:=λq ⟨j,ds,e1,o,e2⟩=>by
  by_cases hj:j=i
  .subst hj
   rw [EM] at e1
   simp at e1
   rw [<-e1.2] at o
   exact o.elim
  .rw [eR (fE hj)] at e1 e2
   exact ⟨j,ds,e1,o,e2⟩
 have oo:∀q,OO O (σ.set i none) (env.set i .no) q->OO O σ env q:=λq z=>z.elim .inl λz=>.inr (own q z)
 have at_:∀{j:Nat} {x:Sl},(env.set i .no)[j]?=some x->x≠.no->j≠i/\env[j]?=some x:=λ{j x} e hx=>by
  by_cases hj:j=i
  .subst hj
   rw [EM] at e
   simp at e
   exact absurd e.2.symm hx
  .rw [eR (fE hj)] at e
   exact ⟨hj,e⟩
 refine ⟨⟨R.same,R.n9,by simp [R.len],λj d e=>?_,λj ds e=>?_,λj ds e=>?_,λj k ds es p e1 e2 e3 e4 o1 o2=>?_⟩,λq u e n=>⟨e,λz=>n (own q z)⟩⟩
 .obtain ⟨hj,e⟩:=at_ e (λz=>nomatch z)
  obtain ⟨v,e1,h⟩:=R.sh j d e
  exact ⟨v,by rw [eR (fE hj)];exact e1,h.less oo⟩
 .obtain ⟨hj,e⟩:=at_ e (λz=>nomatch z)
  obtain ⟨p,xs,e1,e2,e3,h⟩:=R.ow j ds e
  exact ⟨p,xs,by rw [eR (fE hj)];exact e1,e2,e3,h.less oo⟩
 .obtain ⟨hj,e⟩:=at_ e (λz=>nomatch z)
  obtain ⟨p,e1,e2,e3⟩:=R.dw j ds e
  exact ⟨p,by rw [eR (fE hj)];exact e1,e2,e3⟩
 .obtain ⟨hj,e1⟩:=at_ e1 (λz=>by rw [z] at o1;exact o1)
  obtain ⟨hk,e2⟩:=at_ e2 (λz=>by rw [z] at o2;exact o2)
  rw [eR (fE hj)] at e3
  rw [eR (fE hk)] at e4
  exact R.sep j k ds es p e1 e2 e3 e4 o1 o2
end DL
namespace DL
open PySem PySem.Spec PyProof.Rows L2
structure Hx(X:Cx)(N:List Str)(sc:Scope):Prop where
 n:X.N=N
 sc:X.env.scope=sc
 fn:∀x,X.fn x=true
 nd:N.Nodup
noncomputable def j0(i:Nat)(hit:Str->Bool)(Fb:SF)(rb:RF)(Fh:SF):SF:=λenv=>match Fb env with
 | some x=>some x
 | none=>match rb env with
  | none=>none
  | some (nm,env1)=>if hit nm=true/\i<env1.length then (match Fh (env1.set i (.sh (.exc nm))) with
    | some (fl,aQ)=>some (fl,aQ.set i .no)
    | none=>none) else none
section
variable {X:Cx}{N:List Str}{sc:Scope}{k i:Nat}{n Cn:Str}{hc:Value}{body oH:List Stmt}{b0:Stmt}{Fb Fh:SF}{rb:RF}{hit:Str->Bool}{np ni pos:Pos}
theorem b7O(h:Fx X N sc k)(hi:N[i]?=some n)(AF:sc.names.lookup n=some .local)(hg:Gl X Cn)(hm:X.mg Cn=some hc)
  (D1:∀nm c,hit nm=true->X.mg nm=some c->∃C,c=.ref C/\iA X.K mainGlobals nm=some (some (.ref C))/\BQ X.K (.ref C) hc=some true)
  (hb:∀X':Cx,X'.prog=X.prog->X'.w=X.w->X'.K=X.K->X'.mg=X.mg->X'.base=X.base->Fx X' N sc k->jq X' body Fb)
  (hx:∀(X':Cx) (W:L2.St->Hp->Value->Prop),X'.prog=X.prog->X'.w=X.w->X'.K=X.K->X'.mg=X.mg->X'.base=X.base->Fx X'.cP N sc k->Xk X' W->rX X' W body rb)
  (hh:∀X':Cx,X'.prog=X.prog->X'.w=X.w->X'.K=X.K->X'.mg=X.mg->X'.base=X.base->Hx X' N sc->jq X' (b0::oH) Fh)
  (gv:(Cn==("__debug__":Str))=false:=by decide):
  SV X (.Try body [.ExceptHandler (some (.Name Cn np)) (some n) (b0::oH) ni] [] [] pos) (j0 i hit Fb rb Fh):=by
 refine ⟨λD σ H=>∃(O:Addr->Prop) (B:Hp) (env:En) (fl:Fl) (ah:En),Rel X.K O B σ H env/\j0 i hit Fb rb Fh env=some (fl,ah)/\dM X.K O B σ H env D fl ah,λpins s σ H D I hw=>?_,λO B σ H env fl ah D R e q=>⟨O,B,env,fl,ah,R,e,q⟩⟩
 obtain ⟨O,B,env,fl,ah,R,e,q⟩:=hw
 refine wpAny_Try_except ?_
 unfold j0 at e
 cases hF:Fb env with
 | some x =>
  obtain ⟨f1,env1⟩:=x
  rw [hF] at e
  cases e
  obtain ⟨t,p,kk⟩:=hb X.cP rfl rfl rfl rfl rfl ⟨h.n,h.sc,h.calm,h.fn,sZ,h.room,h.nd,h.top⟩
  refine gk (p pins s σ H D (I.eZ _) (kk O B σ H env fl ah D R hF q)) (λf s1 hq=>?_) λ_ _ z=>cV z
  have hq:=hq.bY
  cases f with
  | next=>exact BN hq
  | brk=>exact hq
  | cont=>exact hq
  | ret u=>exact hq
 | none =>
  rw [hF] at e
  dsimp only at e
  cases hr:rb env with
  | none=>rw [hr] at e;cases e
  | some y =>
  obtain ⟨nm,env1⟩:=y
  rw [hr] at e
  dsimp only at e
  obtain ⟨⟨IL,AQ⟩,e⟩:(hit nm=true/\i<env1.length)/\(match Fh (env1.set i (.sh (.exc nm))) with
    | some (fl,aQ)=>some (fl,aQ.set i .no)
    | none=>none)=some (fl,ah):=by
   split at e
   .rename_i hh;exact ⟨hh,e⟩
   .cases e
  cases hH:Fh (env1.set i (.sh (.exc nm))) with
  | none=>rw [hH] at e;cases e
  | some z =>
  obtain ⟨f2,aQ⟩:=z
  rw [hH] at e
  cases e
  obtain ⟨q8,uQ,hex⟩:=h.top rfl
  have xk:Xk (DF X pins λe aM=>wpAny (model X.prog X.w) X.A (noteFrame e X.env) (λ_ iI=>wpAny (model X.prog X.w) X.A (setFlight e none) (λ_ lL=>wpAny (model X.prog X.w) X.A (handleBy e X.env [.ExceptHandler (some (.Name Cn np)) (some n) (b0::oH) ni]) (SP X pins D) X.xe lL) X.xe iI) X.xe aM)
    (λaz H' c=>X.mg nm=some c/\Rel X.K O B az H' env1/\Gd σ env H az env1 H'):=by
   intro OQ gj H1 s1 e1 s' I1 Ja
   obtain ⟨ea,c,H',rfl,os,bare,un,aT,⟨new,uD,T,uv,hT,tr⟩,ZH,R1,g1⟩:=Ja
   obtain ⟨C,rfl,p6,IU⟩:=D1 nm c IL ZH
   have Dp:Inv X pins gj H1 s1:=b1D I.ok I1
   have J:Inv X pins gj H' s':=Dp.pA os un aT bare (by simp)
   have hl:=J.stack
   have dH:=J.fy
   obtain ⟨a0,fly⟩:=Q4 tr hl
   have fresh:∀a,s1.heap.get? a=none->X.bF.heap.get? a=none/\a≠X.env.locals/\(∀x c,X.env.cells.lookup x=some c->c≠a)/\∀p∈X.pn++pins,p.1≠a:=λa ha=>by
    refine ⟨FP Dp hex ha,λz=>?_,λx c e z=>?_,λp hp z=>?_⟩
    .obtain ⟨m,⟨o,_,_,ho,_⟩,_⟩:=Dp.loc
     rw [<-z,ha] at ho;cases ho
    .obtain ⟨v,o,ho,_⟩:=Dp.cell x c e
     rw [z,ha] at ho;cases ho
    .have:=(Dp.pin p hp).1
     rw [z,ha] at this;cases this
   have n0:∀b∈[ea,T],X.bF.heap.get? b=none/\b≠X.env.locals/\(∀x c,X.env.cells.lookup x=some c->c≠b)/\∀p∈X.pn++pins,p.1≠b:=λb z=>by
    rcases bI.mp z with z | z
    .rw [z];exact fresh ea new
    .rw [bT.mp z];exact fresh T uv
   have Zm:∀b∈[ea,T],H' b=none:=λb z=>by
    rcases bI.mp z with z | z
    .rw [z];exact uD
    .rw [bT.mp z];exact hT
   have hB:∀b o,s'.heap.get? b=some o->b∉eM X.stack->b∉[ea,T]->(rj s'.heap ea T X.stack).get? b=some o:=λb o q n1 n2 =>
    EB _ q λz=>by
     rcases bI.mp z with z | z
     .exact n2 (by simp [z])
     .rcases bI.mp z with z | z
      .exact n2 (by simp [z])
      .exact n1 z
   have land:∀h5:Heap,(rj s'.heap ea T X.stack).StaysIn h5->s'.heap.UpToSlots h5->Inv X pins gj H' { s' with heap:=h5 }:=λh5 st up =>
    b6a J hex (MB (H:=H') hl hB st (λ_ _ q=>q) up) (MH aT _ hB st dH Zm) n0
   show wpAny (model X.prog X.w) X.A (noteFrame (.ref ea) X.env) _ X.xe s'
   have Bn:=fly
   rw [q8] at Bn
   refine wpAny_looks_onW (env:=X.env) (outer:=X.outer) (by rw [J.ok.frames,q8]) uQ Bn λh4 held OF=>?_
   refine wpAny_landsW held λh5 Jt OE=>?_
   have J5:=land h5 (by rw [q8];exact Jt.1) (OF.trans OE)
   obtain ⟨ob,ZA,uK⟩:=Jt.there
   refine wpAny_handleBy_cons (codeAny_handlers_test ?_) (by intro q;cases q)
   refine vO (X:=sO X (.ref ea)) (Tj J5 _) hg hm ?_ gv
   refine PySem.W.exm_one (e:=ea) (h:=h5) J5.mF (uK▸(PySem.W.Looks.ld ZA).andThen .now) IU _ _ _ _ (λ_ _ q=>q) ?_
   refine codeAny_handlers_suite_as ?_
   refine lands_againW Jt λh6 PD VE=>?_
   have J6:=land h6 (by rw [q8];exact PD.1) ((OF.trans OE).trans VE)
   obtain ⟨Yv,IA,Iz⟩:=PD.there
   obtain ⟨f0,f1,f2',f3⟩:=fresh ea new
   have J7:=b1E (C:=C) J6 uD f0 ⟨Yv,IA,Iz⟩ (fE λz=>f1 z.symm) f2' f3
   have AR:X.N[i]?=some n:=h.ix hi
   have AK:X.env.kindOf n=some .local:=by unfold BC;rw [h.sc];exact AF
   refine F8 (X:=sO X (.ref ea)) (v:=.ref ea) (Tj J7 _) h.lU AR (bJ AK) rfl (λs8 J8=>?_) (bJ (h.fn rfl n))
   have sm:ao H' (upd H' ea (.ext (h7 ea C))):=λb o q=>by rw [bM (jK q uD)];exact q
   have R7:=R1.grow sm
   obtain ⟨R8,g8⟩:=R7.set (r:=.sh (.exc nm)) (ao.refl _) (Is.exc (p:=ea) (C:=C) (λz=>R1.oo z uD) p6 kQ) AQ
   have Jn:=(g1.trans (Gd.refl sm)).trans g8
   obtain ⟨th,ph,kh⟩:=hh (sO X (.ref ea)) rfl rfl rfl rfl rfl ⟨h.n,h.sc,h.fn rfl,h.nd⟩
   cases fl with
   | nx =>
    refine gk (ph pins s8 _ _ { nx:=λaz H2=>Rel X.K O B az H2 aQ/\Gd σ env H az aQ H2,rt:=λ_ _=>False } J8 (kh O B _ _ _ .nx aQ _ R8 hH λaz H2 R' g'=>⟨R',Jn.trans g'⟩)) (λf s9 hq=>?_) λ_ _ z=>cV z
    cases f with
    | next =>
     obtain ⟨GK,H9,J9,R9,g9⟩:=hq
     obtain ⟨Dd,Bg⟩:=R9.drop i
     exact name_goes (Gh J.ok J9) h.lU AR AK λHq wc=>⟨_,H9,wc,q _ _ Dd (g9.trans Bg)⟩
    | brk=>obtain ⟨_,_,_,z⟩:=hq;exact cV z
    | cont=>obtain ⟨_,_,_,z⟩:=hq;exact cV z
    | ret u=>obtain ⟨_,_,_,_,_,z⟩:=hq;exact cV z
   | bk =>
    refine gk (ph pins s8 _ _ { nx:=λ_ _=>False,bk:=λaz H2=>Rel X.K O B az H2 aQ/\Gd σ env H az aQ H2,rt:=λ_ _=>False } J8 (kh O B _ _ _ .bk aQ _ R8 hH λaz H2 R' g'=>⟨R',Jn.trans g'⟩)) (λf s9 hq=>?_) λ_ _ z=>cV z
    cases f with
    | brk =>
     obtain ⟨GK,H9,J9,R9,g9⟩:=hq
     obtain ⟨Dd,Bg⟩:=R9.drop i
     exact name_goes (Gh J.ok J9) h.lU AR AK λHq wc=>⟨_,H9,wc,q _ _ Dd (g9.trans Bg)⟩
    | next=>obtain ⟨_,_,_,z⟩:=hq;exact cV z
    | cont=>obtain ⟨_,_,_,z⟩:=hq;exact cV z
    | ret u=>obtain ⟨_,_,_,_,_,z⟩:=hq;exact cV z
   | ct =>
    refine gk (ph pins s8 _ _ { nx:=λ_ _=>False,ct:=λaz H2=>Rel X.K O B az H2 aQ/\Gd σ env H az aQ H2,rt:=λ_ _=>False } J8 (kh O B _ _ _ .ct aQ _ R8 hH λaz H2 R' g'=>⟨R',Jn.trans g'⟩)) (λf s9 hq=>?_) λ_ _ z=>cV z
    cases f with
    | cont =>
     obtain ⟨GK,H9,J9,R9,g9⟩:=hq
     obtain ⟨Dd,Bg⟩:=R9.drop i
     exact name_goes (Gh J.ok J9) h.lU AR AK λHq wc=>⟨_,H9,wc,q _ _ Dd (g9.trans Bg)⟩
    | next=>obtain ⟨_,_,_,z⟩:=hq;exact cV z
    | brk=>obtain ⟨_,_,_,z⟩:=hq;exact cV z
    | ret u=>obtain ⟨_,_,_,_,_,z⟩:=hq;exact cV z
   | rt r =>
    refine gk (ph pins s8 _ _ { nx:=λ_ _=>False,rt:=D.rt } J8 (kh O B _ _ _ (.rt r) aQ _ R8 hH λv H2 s2 r2=>q v H2 s2 r2)) (λf s9 hq=>?_) λ_ _ z=>cV z
    cases f with
    | ret u =>
     obtain ⟨v,GK,H9,J9,rv,z⟩:=hq
     exact name_goes (Gh J.ok J9) h.lU AR AK λHq wc=>⟨v,_,H9,wc,rv,z⟩
    | next=>obtain ⟨_,_,_,z⟩:=hq;exact cV z
    | brk=>obtain ⟨_,_,_,z⟩:=hq;exact cV z
    | cont=>obtain ⟨_,_,_,z⟩:=hq;exact cV z
  obtain ⟨t,p,kk⟩:=hx (DF X pins _) _ rfl rfl rfl rfl rfl ⟨h.n,h.sc,h.calm,h.fn,sZ,h.room,h.nd,h.top⟩ xk
  refine gk (p [] s σ H { nx:=λ_ _=>False,rt:=λ_ _=>False } (b59 I _) (kk O B σ H env nm env1 _ R hr λaz H' c Ja R' g'=>⟨Ja,R',g'⟩)) (λf s1 hq=>?_) λ_ _ z=>z
  cases f with
  | next=>obtain ⟨_,_,_,z⟩:=hq;exact cV z
  | brk=>obtain ⟨_,_,_,z⟩:=hq;exact cV z
  | cont=>obtain ⟨_,_,_,z⟩:=hq;exact cV z
  | ret u=>obtain ⟨_,_,_,_,_,z⟩:=hq;exact cV z
end
end DL
namespace DL
open PySem PySem.W PySem.Spec PySem.Calls PyProof.Rows L2 PySem.Builtin.ObjectAttr PySem.Builtin PySem.Builtin.Getset_descriptor
section
variable {prog:Program}{w:World}{A:Around}{E:Value->Shared->Prop}{s:Shared}{K:Frag}{x C:Addr}
theorem FX(p:h7 x C h)(M:Model):Looks M h (typeOf (.ref x)) (.ref C):=by
 obtain ⟨o,h1,h2⟩:=p
 exact h2▸(Looks.ld h1).andThen .now
structure iZ(K:Frag)(C:Addr):Prop where
 ga:findIn K (.ref C) "__getattribute__" = some (some (.builtin "BaseException.__getattribute__"))
 no:findIn K (.ref C) "__getattr__" = some none
 at_:findIn K (.ref C) "__class__" = some (some (.builtin "object.__class__"))
 get:specialIn K (.builtin "object.__class__") "__get__" = some (some (.builtin "getset_descriptor.__get__"))
 tk:takesIn K (.builtin "object.__class__")=some true
 mro:mroIn K C (.type "object")=some true
 Yy:mroIn K C (.type "BaseException")=some true
theorem b0u(k:iZ K C)(X:K.In h):Looks M h (find (.ref x) (.ref C) "__class__") (.bind (.builtin "getset_descriptor.__get__") (.builtin "object.__class__")):=by
 have d:Looks M h (dataDescriptor? (some (.builtin "object.__class__")) (some (.builtin "getset_descriptor.__get__"))) (some (.builtin "getset_descriptor.__get__",.builtin "object.__class__")):=
  (looks_takesIn X k.tk).andThen .now
 exact (looks_findIn X k.at_).andThen ((show Looks M h (getOf (some (.builtin "object.__class__"))) (some (.builtin "getset_descriptor.__get__")) from looks_specialIn X k.get).andThen (d.andThen (Looks.tag .now)))
theorem b6l(k:iZ K C)(X:K.In s.heap)(p:h7 x C s.heap)(q:R (.ok (.ret (.ref C))) s):
  codeAny (model prog w) A (.call (.builtin "getset_descriptor.__get__") ⟨[.builtin "object.__class__",.ref x,tp],[]⟩) R s:=by
 obtain ⟨hp,gs,dr,tk,os⟩:=s
 have T0:=FX p (model prog w)
 have T1:=looks_mroIn (M:=model prog w) X k.mro
 refine codeAny_call_builtin KF.slot_gs.plain KF.entry_gs ?_
 refine KF.slot_gs.check _ _ _ _ _ _ _ _ KF.type_class (KF.args_gs _ _ _) ?_
 unfold Builtin.«getset_descriptor.__get__» descrGet
 rw [dga_obj]
 apply aq
 apply bp
 unfold descrGetter descrCheckInstance descrNameAndClass isInstance
 simp only [KF.owner_class]
 repeat lk
 refine ⟨Code.quiet_builtin _ (by decide +kernel),?_⟩
 apply sX KF.entry_class
 unfold Builtin.«object.__class__» shownTypeOf
 repeat lk
 exact q
theorem b8M(k:iZ K C)(X:K.In s.heap)(p:h7 x C s.heap)(q:R (.ok (.ret (.ref C))) s):
  codeAny (model prog w) A (.call (.builtin "BaseException.__getattribute__") ⟨[.ref x,.str "__class__" tk],[]⟩) R s:=by
 obtain ⟨hp,gs,dr,tt,os⟩:=s
 have T0:=FX p (model prog w)
 have T2:=b0u (M:=model prog w) (x:=x) k X
 have T4:=looks_mroIn (M:=model prog w) X k.Yy
 have kd:builtinKind "BaseException.__getattribute__" = some .slot:=by decide +kernel
 have sp:splitId "BaseException.__getattribute__" = some ("BaseException","__getattribute__"):=by decide +kernel
 have ar:=F.args_bexc_ga (.ref x) (.str "__class__" tk)
 refine codeAny_call_builtin F.attr_ValueError.ga.plain F.entry_bexc_ga ?_
 have ti:Looks (model prog w) hp (isInstance (.ref x) (.type "BaseException")) true:=T0.andThen T4
 simp only [checkBuiltinCall,kd,sp]
 refine aq (ti.at ?_)
 simp only [JV,ou,if_false]
 refine BJ ar ?_
 unfold Builtin.«object.__getattribute__»
 apply aq
 refine BJ (a:=(jS x,[Value.str "__class__" tk])) rfl ?_
 apply aq
 apply bp
 refine aq (T0.at ?_)
 refine aq (T2.at ?_)
 show wpAny _ _ (holding [.builtin "object.__class__"] (call (.builtin "getset_descriptor.__get__") [.builtin "object.__class__",.ref x,.ref C]) >>= ret) _ _ _
 apply aq
 apply nD
 apply wV
 refine b6l (s:=⟨hp,gs,dr,tt,os⟩) k X p ?_
 apply bp
 exact q
theorem b1N(k:iZ K C)(X:K.In s.heap)(p:h7 x C s.heap)(q:Q (some (.ref C)) { s with toks:=s.toks+1 }):wpAny (model prog w) A (getAttr? (.ref x) "__class__") Q E s:=by
 obtain ⟨hp,gs,dr,tk,os⟩:=s
 have T0:=FX p (model prog w)
 have T1:=looks_findIn (M:=model prog w) X k.ga
 have T3:=looks_findIn (M:=model prog w) X k.no
 have b:=F.attr_ValueError.ga.bind (.ref x)
 unfold getAttr? getAttrBy? getAttrBy
 apply aq
 apply wpAny_mkText
 apply aq
 apply wY
 apply nD
 refine aq (T0.at ?_)
 refine aq (T1.at ?_)
 have ne:(Es "BaseException.__getattribute__" == Es "object.__getattribute__")=false:=by decide +kernel
 have ne':(onTheHeap (jS C)&&Es "BaseException.__getattribute__" == Es "object.__getattribute__")=false:=by rw [ne];rfl
 dsimp only
 rw [ne']
 simp only [ou,if_false]
 unfold getAttrByItsOwn hookBefore
 have oh:onTheHeap (jS C)=true:=rfl
 rw [oh,if_pos rfl]
 refine aq (T3.at ?_)
 apply aq
 apply wY
 apply nD
 unfold callGetattribute boundAndCalled
 simp only [Bool.false_and,ou,if_false]
 refine aq (BJ b ?_)
 apply wV
 refine b8M (s:=⟨hp,gs,dr,tk+1,os⟩) k X p ?_
 refine handed_on rfl ?_
 exact bp q
theorem b51(k:iZ K C)(cd:(clsIn K C).isSome=true):KitX K (.ref x) (.ref C) (h7 x C) where
 ty:=λM h _ p=>FX p M
 it:=λM h X p=>by
  unfold clsIn at cd
  split at cd
  .rename_i ho
   intro A' Q' E' s' kp q
   unfold isType loadHead
   apply aq
   exact wpAny_loadPart (kp _ _ (X _ _ ho)) (bp q)
  .cases cd
 ne:=λh tp dd av n sl X Zr=>by
  rw [Bool.eq_false_iff]
  intro q
  obtain rfl:C=tp:=Value.ref.inj (beq_iff_eq.mp q)
  unfold clsIn at cd
  split at cd
  .rename_i ho
   have z:=(X _ _ ho).symm.trans Zr
   cases z
  .cases cd
 ca:=λX p q=>b1N k X p q
end
section
variable {X:Cx}{a:Expr}{pos p p2:Pos}{fa:En->Option Sl}
def Hz(K:Frag)(c:Value)(cv:V):List V->Hp->VK->Prop:=λxs H Q=>∃p C b,xs=[.ref p,cv]/\H p=some (.ext (h7 p C))/\iZ K C/\(clsIn K C).isSome=true/\kitOne K (.ref C) c=some b/\Q (.bl b) H
theorem S5(hr:∀u,RelV cv u->u=c):cF X (.builtin "isinstance") (Hz X.K c cv):=by
 intro pins s σ H xs us Q I r h
 obtain ⟨p,C,b,rfl,hp,k,cd,e,q⟩:=h
 obtain ⟨u,w',rfl,r1,r2⟩:=vals2 r
 obtain rfl:=hr w' r2
 obtain rfl:u=jS p:=r1
 obtain ⟨hc,_,_⟩:=I.aT p _ hp
 exact kia_one (b51 k cd) I.mF hc e (by intro z;cases z) λtk=>⟨.bl b,H,I.tok _,rfl,q⟩
noncomputable def pq(tab:Str->Option Bool)(f:En->Option Sl):En->Option Sl:=λenv=>(f env).bind λr=>match r.d with
 | .exc n=>(tab n).map λb=>.sh (.bl b)
 | _=>none
theorem Q9{K:Frag}{O:Addr->Prop}{H:Hp}{v:V}{n:Str}(h:Is K O H v (.exc n)):∃p C,v=.ref p/\nsIn K mainGlobals n=some (some (.ref C))/\H p=some (.ext (h7 p C)):=by
 cases h with
 | exc ho hn hp=>exact ⟨_,_,rfl,hn,hp⟩
theorem RE(hg:Gl X "isinstance")(hm:X.mg "isinstance" = none)(p8:Gl X x)(rf:X.mg x=some (.ref C2))
  (ht:∀n b C,tab n=some b->nsIn X.K mainGlobals n=some (some (.ref C))->iZ X.K C/\(clsIn X.K C).isSome=true/\kitOne X.K (.ref C) (.ref C2)=some b)(ha:EV X a fa)
  (hd:(x==("__debug__":Str))=false:=by decide)
  (hs:starEach [a,.Name x p2] X.env=[(false,eval a X.env),(false,eval (.Name x p2) X.env)]:=by rfl)(dD:starEach [.Name x p2] X.env=[(false,eval (.Name x p2) X.env)]:=by rfl):
  EV X (.Call (.Name "isinstance" p) [a,.Name x p2] [] pos) (pq tab fa):=by
 obtain ⟨t,pt,k⟩:=ha
 have pn:PE X (.Name x p2) (λ_ H Q=>Q (.ref C2) H):=λpins s σ H Q I h=>vO I p8 rf ⟨.ref C2,H,I,rfl,h⟩ hd
 refine ⟨_,tP (S5 (c:=.ref C2) (cv:=.ref C2) λu r=>r) hg hm (by decide +kernel) (mZ pt (mZ pn pI dD) (by rw [hs,dD])) (by decide) (by decide) (by rw [hs,dD]) (by rw [dD];rfl),λO B σ H env s Q R e q=>?_⟩
 obtain ⟨r,e1,e2⟩:=bind_some e
 refine k O B σ H env r _ R e1 λv H1 s1 r1=>?_
 have hi:=r1.is λq=>R.oo
 cases hd:r.d with
 | exc n =>
  rw [hd] at e2 hi
  obtain ⟨b,e3,e4⟩:=map_some e2
  subst e4
  obtain ⟨pp,C,rfl,hn,hp⟩:=Q9 hi
  obtain ⟨c1,c2,c3⟩:=ht n b C e3 hn
  exact ⟨pp,C,b,rfl,hp,c1,c2,c3,q _ H1 s1 (Is.bl _)⟩
 | _=>rw [hd] at e2;cases e2
theorem b6p(hg:Gl X "isinstance")(hm:X.mg "isinstance" = none)(p8:Gl X x)(rf:X.mg x=none)(hv:bootBuiltins x=some (.type T))
  (ht:∀n b C,tab n=some b->nsIn X.K mainGlobals n=some (some (.ref C))->iZ X.K C/\(clsIn X.K C).isSome=true/\kitOne X.K (.ref C) (.type T)=some b)(ha:EV X a fa)
  (hn:x ≠ "__name__":=by decide)(hd:(x==("__debug__":Str))=false:=by decide)
  (hs:starEach [a,.Name x p2] X.env=[(false,eval a X.env),(false,eval (.Name x p2) X.env)]:=by rfl)(dD:starEach [.Name x p2] X.env=[(false,eval (.Name x p2) X.env)]:=by rfl):
  EV X (.Call (.Name "isinstance" p) [a,.Name x p2] [] pos) (pq tab fa):=by
 obtain ⟨t,pt,k⟩:=ha
 refine ⟨_,tP (S5 (c:=.type T) (cv:=.ty T) λu r=>r) hg hm (by decide +kernel) (mZ pt (mZ (RT (v:=.ty T) p8 rf hv rfl hn hd) pI dD) (by rw [hs,dD])) (by decide) (by decide) (by rw [hs,dD]) (by rw [dD];rfl),λO B σ H env s Q R e q=>?_⟩
 obtain ⟨r,e1,e2⟩:=bind_some e
 refine k O B σ H env r _ R e1 λv H1 s1 r1=>?_
 have hi:=r1.is λq=>R.oo
 cases hd:r.d with
 | exc n =>
  rw [hd] at e2 hi
  obtain ⟨b,e3,e4⟩:=map_some e2
  subst e4
  obtain ⟨pp,C,rfl,hn,hp⟩:=Q9 hi
  obtain ⟨c1,c2,c3⟩:=ht n b C e3 hn
  exact ⟨pp,C,b,rfl,hp,c1,c2,c3,q _ H1 s1 (Is.bl _)⟩
 | _=>rw [hd] at e2;cases e2
end
section
variable {X:Cx}{N:List Str}{sc:Scope}{pos p p1 p2 pos' aR:Pos}{e a b:Expr}{fa fb:En->Option Sl}
theorem Hx.v(h:Hx X N sc)(i:Nat)(hN:N[i]?=some x:=by rfl)(hv:gH sc x:=by first | exact bJ rfl | exact bg (bJ rfl) | exact bg (bg rfl))(hd:(x==("__debug__":Str))=false:=by rfl)
  (bW:(x==("__classdict__":Str))=false:=by rfl):EV X (.Name x pos) (eV i):=RI i (by rw [h.n];exact hN) (by rw [h.sc];exact hv) hd bW
theorem Hx.g(h:Hx X N sc)(hg:sc.names.lookup x=some .globalImplicit:=by rfl):Gl X x:=by
 show X.env.kindOf x=some .globalImplicit
 unfold BC
 rw [h.sc]
 exact hg
theorem Hx.set(h:Hx X N sc)(i:Nat)(he:EV X e fa)(hN:N[i]?=some x:=by rfl)(hv:Loc sc x:=by first | exact bJ rfl | exact bg rfl)
  (hs:swapsWith e (some (.Name x pos')) pos.line X.env=pure false:=by rfl):SV X (.Assign [.Name x pos'] e pos) (dA i fa):=Ru (by rw [h.n];exact h.nd) (by rw [h.n];exact hN) (by rw [h.sc];exact hv) he hs (.inl (h.fn x))
theorem Hx.app(h:Hx X N sc)(i:Nat)(ha:EV X e fa)(hN:N[i]?=some x:=by rfl)(hv:gH sc x:=by first | exact bJ rfl | exact bg (bJ rfl) | exact bg (bg rfl))(hd:(x==("__debug__":Str))=false:=by rfl)
  (bW:(x==("__classdict__":Str))=false:=by rfl)(hs:starEach [e] X.env=[(false,eval e X.env)]:=by rfl)
  (cE:attributeBase (.Name x p1) "append" X.env (eval (.Name x p1) X.env)=eval (.Name x p1) X.env:=by rfl)
  (gW:((backTo aR (starEach [e] X.env)).all (λx=>!x.1)&&(backToKw aR (keywordEach [] X.env)).all (λx=>x.1.isSome)
   && decide ([e].length+([]:List Keyword).length+(if ([]:List Keyword).isEmpty then 0 else 1)<30))=true:=by rfl)
  (cD:(p2.endLine==aR.line)=true:=by rfl)
  (q0:swapsWith (.Call (.Attribute (.Name x p1) "append" p2) [e] [] aR) none pos.line X.env=pure false:=by rfl):
  SV X (.Expr (.Call (.Attribute (.Name x p1) "append" p2) [e] [] aR) pos) (dO i fa):=TX ha (by rw [h.n];exact hN) (by rw [h.sc];exact hv) hd bW hs cE gW cD q0
end
structure Cl(K:Frag)(mg:Str->Option Value)(x:Str)(C:Addr):Prop where
 ns:nsIn K mainGlobals x=some (some (.ref C))
 m:mg x=some (.ref C)
 ck:iZ K C
 cd:(clsIn K C).isSome=true
def KZ(K:Frag)(c:Value)(tab:Str->Option Bool):Prop:=∀n b C,tab n=some b->nsIn K mainGlobals n=some (some (.ref C))->iZ K C/\(clsIn K C).isSome=true/\kitOne K (.ref C) c=some b
noncomputable def Ft:Str->Option Bool:=λ_=>none
noncomputable def tE(x:Str)(b:Bool)(tab:Str->Option Bool):Str->Option Bool:=λn=>if n=x then some b else tab n
theorem LZ{K:Frag}{c:Value}:KZ K c Ft:=λn b C e _=>by cases e
theorem xZ{K:Frag}{mg:Str->Option Value}{c:Value}{x:Str}{C:Addr}{b:Bool}{tab:Str->Option Bool}(k:Cl K mg x C)(s:kitOne K (.ref C) c=some b)(r:KZ K c tab):KZ K c (tE x b tab):=λn b' C' e hn=>by
 unfold tE at e
 split at e
 .rename_i h
  subst h
  cases e
  obtain rfl:C=C':=by have:=k.ns.symm.trans hn;cases this;rfl
  exact ⟨k.ck,k.cd,s⟩
 .exact r n b' C' e hn
def KY(K:Frag)(mg:Str->Option Value)(hc:Value)(hit:Str->Bool):Prop:=∀nm c,hit nm=true->mg nm=some c->∃C,c=.ref C/\nsIn K mainGlobals nm=some (some (.ref C))/\exmOne K (.ref C) hc=some true
noncomputable def QS:Str->Bool:=λ_=>false
noncomputable def Fi(x:Str)(hit:Str->Bool):Str->Bool:=λn=>decide (n=x)||hit n
theorem b6c{K:Frag}{mg:Str->Option Value}{hc:Value}:KY K mg hc QS:=λn c e _=>by cases e
theorem Tg{K:Frag}{mg:Str->Option Value}{hc:Value}{x:Str}{C:Addr}{hit:Str->Bool}(k:Cl K mg x C)(s:exmOne K (.ref C) hc=some true)(r:KY K mg hc hit):KY K mg hc (Fi x hit):=λn c e hm=>by
 unfold Fi at e
 by_cases h:n=x
 .subst h
  obtain rfl:c=.ref C:=by have:=hm.symm.trans k.m;cases this;rfl
  exact ⟨C,rfl,k.ns,s⟩
 .exact r n c (by simpa [h] using e) hm
theorem Fx.cP{X:Cx}{N:List Str}{sc:Scope}{k:Nat}{full:Bool}(h:Fx X N sc k full):Fx X.cP N sc k full:=⟨h.n,h.sc,h.calm,h.fn,sZ,h.room,h.nd,h.top⟩
theorem Hx.ay{X:Cx}{N:List Str}{sc:Scope}{pos pos':Pos}{e:Expr}{fa:En->Option Sl}(h:Hx X N sc)(i:Nat){x:Str}(he:EV X e fa)(hN:N[i]?=some x:=by rfl)(hv:Loc sc x:=by first | exact bJ rfl | exact bg rfl)
  (hs:swapsWith e (some (.Name x pos')) pos.line X.env=pure false:=by rfl):SV X (.Assign [.Name x pos'] e pos) (aX i fa):=Sk (by rw [h.n];exact h.nd) (by rw [h.n];exact hN) (by rw [h.sc];exact hv) he hs (.inl (h.fn x))
theorem b2n:Wo (xP env) Q↔False:=a0s
end DL
namespace DL
open PySem PySem.Spec PyProof.Rows L2
theorem b6k{P:Program}{w:World}{K:aC}{mg:Str->Option Value}{base:Heap}{k n:Nat}{f:Addr}{fd:FuncData}{ps:List Str}{φ:List D->Option Sl}(h:∀ds r,φ ds=some r->False):bG P w K mg base jc k f fd ps (mw K n φ):=
 ⟨λvs H Q E q=>by obtain ⟨O,ds,r,_,_,_,e,_⟩:=q;exact (h ds r e).elim,λA outer s H args us vs Q E _ _ _ _ q=>by obtain ⟨O,ds,r,_,_,_,e,_⟩:=q;exact (h ds r e).elim⟩
section
variable {X:Cx}{W:L2.St->Hp->Value->Prop}{it tg:Expr}{re:En->Option Str}{pos:Pos}
end
theorem b5K{P:Program}{w:World}{K:aC}{mg:Str->Option Value}{base:Heap}{x:Str}{st:Stmt}{ps:List Str}{j:Nat}{f:Addr}{fd:FuncData}(D':Def K mg x st ps f fd):Oz P w K mg base x st ps j λ_=>none:=⟨f,fd,D',b6k λ_ _ z=>nomatch z⟩
end DL
namespace DL
open PySem PySem.Spec PyProof.Rows L2
section
variable {prog:Program}{w:World}{A:Around}{R:Result->Shared->Prop}{I:Addr}{fp wr:List Addr}{n:Nat}{P:Nat->Value->Prop}{St:Nat->Heap->Prop}
def Dq(prog:Program)(w:World)(A:Around)(P:Nat->Value->Prop)(KH:Heap->Prop)(bt:Nat->Nat->Bool):Prop:=∀i j x y (s:Shared) (Q:Value->Shared->Prop) (E:Value->Shared->Prop),P i x->P j y->KH s.heap->Q (.bool (bt i j)) s->wpAny (model prog w) A (richCompare .Lt x y) Q E s
theorem HM(W:Walks prog w A.in1 I fp wr n P St)(bt:Nat->Nat->Bool)(cmp:Dq prog w A.in1 P KH bt)(S:Addr)(nS:S∉fp)
  (kk:∀h h':Heap,KH h->(∀b o,b∉wr->b≠S->h.get? b=some o->h'.get? b=some o)->KH h'):
  ∀(m j:Nat) (s:Shared) (best:Value) (c:Nat),n-(j+1)=m->j+1<=n->St (j+1) s.heap->KH s.heap->P (argBest bt j) best->s.heap.get? S=some { cls:=.type "list",dict:=none,data:=.seq #[best,best] c,slots:=#[] } ->
  (∀v h' tk,P (argBest bt (n-1)) v->(∀b o,b∉wr->b≠S->s.heap.get? b=some o->h'.get? b=some o)->R (.ok (.ret v)) { s with heap:=h',toks:=tk })->codeAny (model prog w) A (.builtin "min.loop" ⟨[.ref I,.none,.ref S],[]⟩) R s:=by
 have nw:S∉wr:=λz=>nS (W.sub _ z)
 have nm:(toString "min" ++ toString ".loop":String) = "min.loop":=by decide
 intro m
 induction m with
 | zero =>
  intro j s best c e1 e2 st kh pb hS hR
  have ej:j+1=n:=by ext e1 e2
  apply sX Ku
  rw [vn vC]
  show wpAny _ A.in1 (seqItems? (.ref S) >>= _) _ _ _
  apply aq
  refine pD hS rfl ?_
  show wpAny _ A.in1 (tryCatch (pyNext (.ref I)) _ >>= _) _ _ _
  apply aq
  refine Ez (W.done s _ _ (ej▸st) λh1 tk k1=>?_)
  have sR:=k1 S _ nw hS
  show wpAny _ A.in1 (updateSeq S (λ_=>#[]) >>= _) _ _ ⟨_,_,_,_,_⟩
  apply aq
  refine JM sR rfl ?_
  apply aq
  refine sW (bp ?_)
  exact hR best _ tk (by rw [<-ej];exact pb) λb o nb pV e=>(oj _ _ (fE pV)).trans (k1 b o nb e)
 | succ m ih =>
  intro j s best c e1 e2 st kh pb hS hR
  have lt:j+1<n:=by ext e1
  apply sX Ku
  rw [vn vC]
  show wpAny _ A.in1 (seqItems? (.ref S) >>= _) _ _ _
  apply aq
  refine pD hS rfl ?_
  show wpAny _ A.in1 (tryCatch (pyNext (.ref I)) _ >>= _) _ _ _
  apply aq
  refine Ez (W.item (j+1) s _ _ lt st λv h1 tk pv DA k1=>?_)
  have sR:=k1 S _ nw hS
  have HQ:KH h1:=kk _ _ kh λb o nb _ e=>k1 b o nb e
  show wpAny _ A.in1 (tryCatch (holding [v,v] (richCompare .Lt v best >>= _)) _ >>= _) _ _ ⟨_,_,_,_,_⟩
  apply aq
  refine Ez (nD ?_)
  apply aq
  refine cmp (j+1) (argBest bt j) v best _ _ _ pv pb HQ ?_
  apply aq
  refine nD (xo ?_)
  apply aq
  refine sW (bp ?_)
  cases hb:bt (j+1) (argBest bt j) with
  | true =>
   simp only [if_true]
   apply aq
   refine JM sR rfl ?_
   apply aq
   apply sW
   rw [nm]
   have k2:∀b o,b≠S->h1.get? b=some o->(h1.update S λx=>{ x with data:=.seq #[v,v] (c+1) }).get? b=some o:=λb o nb e=>(oj _ _ (fE nb)).trans e
   refine bp ⟨vg vC _,ih (j+1) _ v _ (by ext e1) lt (W.frame _ _ _ DA λb bf o e=>?_) (kk _ _ HQ λb o nb pV e=>?_) (by simp only [argBest,hb,if_true];exact pv) (E5 _ sR rfl) λv2 h2 yJ zm k2=>?_⟩
   .exact (oj _ _ (λz:S=b=>nS (z▸bf))).trans e
   .exact (oj _ _ (fE pV)).trans e
   .exact hR v2 h2 yJ zm λb o nb pV e=>k2 b o nb pV ((oj _ _ (fE pV)).trans (k1 b o nb e))
  | false =>
   simp only [ou,if_false]
   apply aq
   apply sW
   rw [nm]
   refine bp ⟨vg vC _,ih (j+1) _ best c (by ext e1) lt DA HQ (by simp only [argBest,hb,ou,if_false];exact pb) sR λv2 h2 yJ zm k2=>?_⟩
   exact hR v2 h2 yJ zm λb o nb pV e=>k2 b o nb pV (k1 b o nb e)
theorem b2e
  (h:wpAny (model prog w) A.in1 (pyIter x) (λit s2=>∃I fp wr n P St bt KH,it=.ref I/\Walks prog w A.in1 I fp wr n P St/\St 0 s2.heap/\(∀b∈fp,b<s2.heap.objs.size)/\0<n/\Dq prog w A.in1 P KH bt /\
   (∀h h':Heap,KH h->(∀b o,b∉wr->b≠s2.heap.objs.size->h.get? b=some o->h'.get? b=some o)->KH h')/\KH s2.heap /\
   ∀v h' tk,P (argBest bt (n-1)) v->(∀b o,b∉wr->s2.heap.get? b=some o->h'.get? b=some o)->Q v { s2 with heap:=h',toks:=tk }) E s):
  wpAny (model prog w) A (call (.builtin "min") [x]) Q E s:=by
 have nm:(toString "min" ++ toString ".loop":String) = "min.loop":=by decide
 apply call_function_tree F.kind_min F.plain_min F.entry_min (F.args_min1 _)
 show wpAny _ A.in1 (Builtin.Builtins.bindParams "min" ["key","default"] 0 ⟨[],[]⟩ >>= _) _ _ _
 apply aq
 refine BJ (a:=[none,none]) rfl ?_
 apply aq
 apply bp
 apply aq
 refine be h λit s2 h2=>?_
 obtain ⟨I,fp,wr,n,P,St,bt,KH,rfl,W,st,mL,hn,cmp,kk,kh,hQ⟩:=h2
 apply aq
 refine rK ?_
 have nS:s2.heap.objs.size∉fp:=λz=>oz _ (mL _ z)
 have nw:s2.heap.objs.size∉wr:=λz=>nS (W.sub _ z)
 rw [nm]
 refine bp ⟨vg vC _,?_⟩
 apply sX Ku
 rw [vn vC]
 show wpAny _ A.in1 (seqItems? (.ref s2.heap.objs.size) >>= _) _ _ ⟨_,_,_,_,_⟩
 apply aq
 refine pD (ft _ rfl) rfl ?_
 show wpAny _ A.in1 (tryCatch (pyNext (.ref I)) _ >>= _) _ _ _
 apply aq
 refine Ez (W.item 0 _ _ _ hn (W.frame _ _ _ st λb _ o e=>bP _ e) λv h1 tk pv DA k1=>?_)
 have sR:=k1 _ _ nw (ft _ rfl)
 show wpAny _ A.in1 (updateSeq s2.heap.objs.size (λ_=>#[v,v]) >>= _) _ _ ⟨_,_,_,_,_⟩
 apply aq
 refine JM sR rfl ?_
 rw [nm]
 have O4:∀b o,b∉wr->s2.heap.get? b=some o->h1.get? b=some o:=λb o nb e=>k1 b o nb (bP _ e)
 refine bp ⟨vg vC _,HM W bt cmp _ nS kk _ 0 _ v _ rfl hn (W.frame _ _ _ DA λb bf o e=>?_) (kk _ _ kh λb o nb pV e=>?_) pv (E5 _ sR rfl) λv2 h2 yJ zm k2=>?_⟩
 .exact (oj _ _ (λz:s2.heap.objs.size=b=>nS (z▸bf))).trans e
 .exact (oj _ _ (fE pV)).trans (O4 b o nb e)
 .exact hQ v2 h2 yJ zm λb o nb e=>k2 b o nb (dF (bO e)) ((oj _ _ (fE (dF (bO e)))).trans (O4 b o nb e))
end
noncomputable def fR:List (List Int)->List Int
 | []=>[]
 | x::r=>r.foldl (λm y=>if HT.lexLt y m then y else m) x
theorem Q2(ns:List (List Int)):∀j,j<ns.length->argBest (λi j=>HT.lexLt (ns.getD i []) (ns.getD j [])) j<ns.length/\ns.getD (argBest (λi j=>HT.lexLt (ns.getD i []) (ns.getD j [])) j) []=fR (ns.take (j+1))
 | 0,h=>by
  refine ⟨h,?_⟩
  cases ns with
  | nil=>cases h
  | cons n r=>rfl
 | j+1,h=>by
  obtain ⟨h1,h2⟩:=Q2 ns j (by ext h)
  have e:ns.take (j+1+1)=ns.take (j+1)++[ns.getD (j+1) []]:=by rw [List.take_add_one];simp [h]
  have e2:fR (ns.take (j+1+1))=if HT.lexLt (ns.getD (j+1) []) (fR (ns.take (j+1))) then ns.getD (j+1) [] else fR (ns.take (j+1)):=by
   rw [e]
   cases ns with
   | nil=>cases h
   | cons n r=>simp only [List.take_succ_cons,Kt,fR,List.foldl_append,JP,List.foldl_nil];rfl
  rw [e2,<-h2]
  simp only [argBest]
  split
  .exact ⟨h,rfl⟩
  .exact ⟨h1,rfl⟩
section
variable {X:Cx}{a b:Expr}{ba:En->Option (Bool×List D)}{fa fb:En->Option Sl}{p pos:Pos}{W:L2.St->Hp->Value->Prop}{re:En->Option Str}
theorem Ti:∀{ns:List Int} {av:List Value},au (ns.map V.int) av->IntsAre av ns
 | [],_,.nil=>.nil
 | n::r,_,.cons h t=>by obtain ⟨u,rfl⟩:=h;exact .cons _ _ (Ti t)
end
end DL
namespace DL
open PySem PySem.Spec PyProof.Rows L2
mutual
noncomputable def oA:D->Bool
 | .tup ds=>Fz ds
 | .lst _ _=>false
 | .exc _=>false
 | .lz _ _=>false
 | .aG=>true
 | .bl _=>true
 | .int _=>true
 | .str _=>true
noncomputable def Fz:List D->Bool
 | []=>true
 | d::r=>oA d&&Fz r
end
section
variable {K:aC}{O O':Addr->Prop}{H:Hp}{p:Addr}{ys:List V}
theorem zd(hp:H p=some (.lst ys))(h:Rd H q (.tup xs)):q≠p:=λz=>by
 subst z
 rcases h with h | ⟨o,h⟩
 .rw [hp] at h;cases h
 .rw [hp] at h;cases h
mutual
theorem RL(hp:H p=some (.lst ys))(hO:∀q,O q->O' q\/q=p):∀{v:V} {d:D},Is K O' H v d->oA d=true->Is K O H v d
 | _,_,.aG,_=>.aG
 | _,_,.bl b,_=>.bl b
 | _,_,.int i,_=>.int i
 | _,_,.str x,_=>.str x
 | _,_,.tup ho h1 hs,f=>.tup (λz=>(hO _ z).elim ho (zd hp h1)) h1 (Mu hp hO hs (by simpa [oA] using f))
 | _,_,.km h1 hs,f=>.km h1 (Mu hp hO hs (by simpa [oA] using f))
 | _,_,.lst _ _ _,f=>by simp [oA] at f
 | _,_,.j7 _ _ _,f=>by simp [oA] at f
 | _,_,.kn _ _,f=>by simp [oA] at f
 | _,_,.exc _ _ _,f=>by simp [oA] at f
 | _,_,.lz _ _,f=>by simp [oA] at f
 | _,_,.pz _ _,f=>by simp [oA] at f
theorem Mu(hp:H p=some (.lst ys))(hO:∀q,O q->O' q\/q=p):∀{v:List V} {d:List D},aN K O' H v d->Fz d=true->aN K O H v d
 | _,_,.nil,_=>.nil
 | _,_,.cons h t,f=>by
  simp only [Fz,vk] at f
  exact .cons (RL hp hO h f.1) (Mu hp hO t f.2)
end
end
noncomputable def Cd(i:Nat)(f:En->Option Sl):En->Option Sl:=λenv=>match env[i]? with
 | some (.ow ds)=>(match f (env.set i (.sh (.lst false ds))) with
  | some (.sh d)=>if oA d=true then some (.sh d) else none
  | _=>none)
 | _=>none
theorem b6o(i:Nat)(h:EV X e f):EV X e (Cd i f):=by
 obtain ⟨t,pt,k⟩:=h
 refine ⟨t,pt,λO B σ H env r Q R er q=>?_⟩
 unfold Cd at er
 split at er
 .rename_i ds he
  obtain ⟨R',_⟩:=R.fV he
  split at er
  .rename_i d hf
   split at er
   .rename_i wJ
    cases er
    obtain ⟨p,xs,hs,hB,hp,hi⟩:=R.ow i ds he
    refine k O B σ H _ _ Q R' hf λv H' sm rv=>q v H' sm ?_
    refine RL (p:=p) (ys:=xs) (sm _ _ hp) (λz hz=>?_) rv wJ
    rcases hz with hz | ⟨j,es,hj,ho,hz⟩
    .exact .inl (.inl hz)
    .by_cases Pj:j=i
     .subst Pj
      rw [hs] at hz
      cases hz
      exact .inr rfl
     .exact .inl (.inr ⟨j,es,by rw [eR (λw=>Pj w.symm)];exact hj,ho,hz⟩)
   .cases er
  .cases er
 .cases er
theorem b4p(he:env[i]?=some (.ow ds))(h:Wo (f (env.set i (.sh (.lst false ds)))) λs=>∃d,s=.sh d/\oA d=true/\Q (.sh d)):Wo (Cd i f env) Q:=by
 obtain ⟨s,e,d,rfl,h1,h2⟩:=h
 refine ⟨.sh d,?_,h2⟩
 unfold Cd
 rw [he]
 dsimp only
 rw [e]
 dsimp only
 rw [if_pos h1]
end DL
namespace DL
open PySem PySem.Spec PyProof.Rows L2
noncomputable def si(lo c:Int)(n:Nat):It:=⟨λi _=>i<n,λi H x H'=>H'=H/\x=.int (lo+i*c),λi _=>n<=i⟩
theorem a8p{P:Program}{w:World}{K:aC}{tg:Expr}(it:Addr)(lo c:Int)(n:Nat):Turn P w K tg (si lo c n) [it] it (λi h=>IsRangeIter h it (lo+(i:Nat)*c) ((n:Int)-(i:Nat)) c) where
 mem:=by simp
 obj:=λi h st b hb=>by
  have e:b=it:=by simpa using hb
  subst e
  exact ⟨_,st,λv z=>by
   have z':Eg _=wX v:=z
   cases z'⟩
 keep:=λi h h' st k=>k it (by simp) _ st
 item:=by
  intro X hP hw hK hc i pins s σ H E I hf st hg
  subst hP hw hK
  obtain ⟨f0,f1,f2,f3,f4,f5⟩:=hf it (by simp)
  have W:=Walks.range (prog:=X.prog) (w:=X.w) (I.ok.hd hc) it lo c n
  refine W.item i s _ _ hg st λv h' tk hv ak kk=>?_
  obtain ⟨t,rfl⟩:=hv
  have I1:Inv X pins σ H { s with heap:=h',toks:=tk }:=I.turned (λb o hb e=>kk b o (by simpa using hb) e) f0 f1 f3 f4 f5
  exact ⟨_,rfl,Cb (s:={ s with heap:=h',toks:=tk }) (n:="range_iterator") ak rfl rfl (by decide) ⟨.int (lo+i*c),H,I1,⟨t,rfl⟩,⟨rfl,rfl⟩,ak,λb hb=>(hf b hb).1⟩⟩
 done:=by
  intro X hP hw hK hc i pins s σ H E I hf st hg
  subst hP hw hK
  obtain ⟨f0,f1,f2,f3,f4,f5⟩:=hf it (by simp)
  exact wpAny_pyNext_range_end (I.ok.hd hc) st (by have:n<=i:=hg;ext this) λh' eb=>⟨rfl,I.turned (t':=s.toks) (λb o hb e=>eb b o hb e) f0 f1 f3 f4 f5⟩
 self:=λ_ _ _ _ _ st h=>wpAny_pyIter_rangeiter st h
noncomputable def dW(i j c:Int):Nat:=if i<j then ((j-i-1)/c+1).toNat else 0
theorem TM(hc:0<c):(dW i j c:Int)=xg i j c:=by
 unfold dW xg
 rw [if_pos hc]
 split
 .have:0<=(j-i-1)/c:=JL (by lia) (by ext hc)
  ext this
 .rfl
theorem b5u(hc:0<c):(dW i j c:Int)<=max 0 (j-i):=by
 unfold dW
 split
 .have:(j-i-1)/c<=j-i-1:=Int.ediv_le_self _ (by omega)
  have:0<=(j-i-1)/c:=JL (by omega) (by ext hc)
  omega
 .ext
def kZ(i j c:Int):Prop:=(0<c/\c<=2^20)/\(-(2^20)<=i/\i<=2^20) /\ -(2^20)<=j/\j<=2^20
noncomputable instance (i j c:Int):Decidable (kZ i j c):=by unfold kZ;infer_instance
theorem Cs(h:-(2^30)<=n/\n<=2^30):KU n=true:=by
 unfold KU
 simp
 lia
theorem a97(h:kZ i j c):BY i j c=true:=by
 obtain ⟨h1,h2,h3⟩:=h
 have hm:=b5u (i:=i) (j:=j) h1.1
 have hs:=TM (i:=i) (j:=j) h1.1
 unfold BY
 rw [<-hs,Cs (by ext h2),Cs (by ext h3),Cs (by ext h1),Cs (by ext h2 h3 hm),if_pos h1.1,Cs (by ext h1 h3)]
 simp
section
variable {X:Cx}{tg:Expr}
theorem b07{pins:List (Addr×Obj)}{σ:L2.St}{H:Hp}{s:Shared}{R:It->Hp->Prop}{E:Value->Shared->Prop}{i j c:Int}{t u v:Tok}{tk:Nat}(I:Inv X pins σ H s)(hc:kZ i j c)
  (q:R (si i c (dW i j c)) H):wpAny (model X.prog X.w) X.A (pyIter (.ref s.heap.objs.size)) (NW X pins σ tg R) E { s with heap:=s.heap.push { cls:=.type "range",data:=.fields #[.int i t,.int j u,.int c v] },toks:=tk }:=by
 have I1:Inv X pins σ H { s with heap:=s.heap.push { cls:=.type "range",data:=.fields #[.int i t,.int j u,.int c v] },toks:=tk }:=I.kept λb o e=>bP _ e
 have e1:i+((0:Nat):Int)*c=i:=by simp
 have e2:((dW i j c:Nat):Int)-((0:Nat):Int)=xg i j c:=by rw [<-TM hc.1.1];ext
 have fin:∀b∈[(s.heap.push { cls:=.type "range",data:=.fields #[.int i t,.int j u,.int c v] }).objs.size],cK X pins H b:=λb hb=>by
  have e:b=(s.heap.push { cls:=.type "range",data:=.fields #[.int i t,.int j u,.int c v] }).objs.size:=by simpa using hb
  subst e
  exact I1.kq (bA _) (I1.aT.fresh (bA _))
 refine wpAny_pyIter_range (JK ..) (a97 hc) ?_
 refine ⟨_,[(s.heap.push { cls:=.type "range",data:=.fields #[.int i t,.int j u,.int c v] }).objs.size],_,_,H,rfl,I1.kept (t':=tk) λb o e=>bP _ e,a8p _ i c (dW i j c),?_,fin,q⟩
 show IsRangeIter _ _ (i+((0:Nat):Int)*c) (((dW i j c:Nat):Int)-((0:Nat):Int)) c
 rw [e1,e2]
 exact ft _ rfl
noncomputable def b8F(ta:TA):TI:=λσ H R=>ta σ H λvs H1=>∃i j c:Int,vs=[.int i,.int j,.int c]/\kZ i j c/\R (si i c (dW i j c)) H1
theorem b0g{a b c:Expr}{ta:TA}{p pos:Pos}(hg:Gl X "range")(hm:X.mg "range" = none)(ha:PA X [a,b,c] ta)(hs:starEach [a,b,c] X.env=[(false,eval a X.env),(false,eval b X.env),(false,eval c X.env)]:=by rfl)(dD:starEach [b,c] X.env=[(false,eval b X.env),(false,eval c X.env)]:=by rfl):
  PI X tg (.Call (.Name "range" p) [a,b,c] [] pos) (b8F ta):=by
 intro pins s σ H R I h
 refine Call_ (tJ I hg hm boot_range (EU (be (ha pos pins s σ H _ I h) λus s1 ⟨vs,H1,I1,r1,q1⟩=>?_) (by rw [hs,dD]) (by rw [dD];rfl)))
 obtain ⟨i,j,c,e,hc,q⟩:=q1
 subst e
 cases r1 with
 | cons r rr =>
  cases rr with
  | cons r' rr =>
   cases rr with
   | cons Wz rr =>
    cases rr
    obtain ⟨t,rfl⟩:=r
    obtain ⟨t',rfl⟩:=r'
    obtain ⟨t'',rfl⟩:=Wz
    exact call_range_3 (by have:=hc.1.1;ext this) (b07 I1 hc q) (.inl (PyProof.noPylong_small (by have:=hc.1;omega)))
noncomputable def jv(lo c:Int)(n:Nat):List D:=(fq n).map λ(k:Nat)=>D.int (lo+(k:Int)*c)
theorem b05{K:aC}{O:Addr->Prop}{H:Hp}(lo c:Int)(n:Nat):xK K O (si lo c n) H (jv lo c n):=λO' H2 _ _ i=>by
 refine ⟨λd hd=>?_,λhl=>show n<=i by simpa [jv] using hl⟩
 unfold jv at hd
 rw [rL] at hd
 obtain ⟨k,hk,rfl⟩:=map_some hd
 obtain ⟨hi,rfl⟩:=iB.mp hk
 rw [BP] at hi
 refine ⟨hi,λx H3 hy=>?_⟩
 obtain ⟨rfl,rfl⟩:=hy
 rw [Qa]
 exact ⟨ao.refl _,Is.int _⟩
noncomputable def xB:List D->Option (List D)
 | [.int i,.int j,.int c]=>if kZ i j c then some (jv i c (dW i j c)) else none
 | _=>none
theorem b1v{K:aC}{O:Addr->Prop}{H:Hp}{xs:List V}{i j k:Int}(h:aN K O H xs [.int i,.int j,.int k]):xs=[.int i,.int j,.int k]:=by
 cases h with
 | cons h t=>cases t with
  | cons h' t=>cases t with
   | cons Z' t=>cases t;rw [fG h,fG h',fG Z']
theorem To{a b c:Expr}{fs:En->Option (List D)}{p pos:Pos}(AW:Gl X "range")(hm:X.mg "range" = none)(ha:AV X [a,b,c] fs)(h1:starEach [a,b,c] X.env=[(false,eval a X.env),(false,eval b X.env),(false,eval c X.env)]:=by rfl)
  (h2:starEach [b,c] X.env=[(false,eval b X.env),(false,eval c X.env)]:=by rfl):IV X tg (.Call (.Name "range" p) [a,b,c] [] pos) (kr xB fs):=by
 obtain ⟨ti,pi,ki⟩:=ha
 refine ⟨_,b0g AW hm pi h1 h2,λO B σ H env ds R Rl e q=>?_⟩
 obtain ⟨as,e1,e2⟩:=bind_some e
 refine ki O B σ H env as _ Rl e1 λvs H1 s1 r1=>?_
 unfold xB at e2
 split at e2
 .obtain ⟨h1,rfl⟩:=gx e2
  exact ⟨_,_,_,b1v r1,h1,q _ H1 s1 (b05 _ _ _)⟩
 .cases e2
theorem S1:Wo (xB [.int i,.int j,.int c]) Q↔kZ i j c/\Q (jv i c (dW i j c)):=by
 unfold xB
 exact gy
end
end DL
namespace DL
open PySem PySem.Spec PyProof.Rows L2
section
variable {X:Cx}{a b c:Expr}{pos:Pos}{fa fb fc:En->Option Sl}
end
end DL
namespace DL
open PySem PySem.Spec PyProof.Rows L2
section
variable {X:Cx}
noncomputable def zk(K:aC):R2:=λx y H Q=>∃l b xs zs,x=.ref l/\y=.ref b/\dR K H l xs/\dR K H b zs/\xs.length+zs.length<=sizeLine/\∀p,H p=none->Q (.ref p) (upd H p (.lst (xs++zs)))
theorem b5O:fJ X (binaryOp .Add) (zk X.K):=by
 intro pins s σ H x y v u Q I rx ry h
 obtain ⟨l,b,xs,zs,rfl,rfl,hH,hB,hz,q⟩:=h
 cases rx
 cases ry
 obtain ⟨av,r,p,hl⟩:=I.list hH
 obtain ⟨eJ,r2,p2,iM⟩:=I.list hB
 have e1:=r.length
 have e2:=r2.length
 obtain ⟨⟨cls,dd,data,sl⟩,n,ho,hc,hdn,hd⟩:=p
 obtain ⟨⟨rC,kD,data2,jP⟩,n2,jB,lx,ZT,hd2⟩:=p2
 simp only at hc hd lx hd2
 subst hc hd lx hd2
 refine Eb ⟨_,ho,rfl⟩ ⟨_,jB,rfl⟩ noFill_list_add seq_list_add PySem.F.slot_list_add PySem.F.entry_list_add (PySem.F.args_list_add_2 _ _) (list_addW l b av.toArray eJ.toArray n n2 dd kD sl jP (by rw [dZ,dZ];ext hz e1 e2)) ⟨ho,jB,?_⟩
 have ea:av.toArray++eJ.toArray=(av++eJ).toArray:=by simp
 rw [ea]
 exact ⟨.ref _,_,I.z7 (t':=s.toks) (r.append r2) (by rw [dq];assumption),rfl,q _ I.fresh⟩
noncomputable def Fg:D->D->Option Sl
 | .lst true a,.lst false b=>if a.length+b.length<=16777216 then some (.ow (a++b)) else none
 | _,_=>none
theorem b57{K:aC}{O:Addr->Prop}{H:Hp}{v:V}{ds:List D}(h:Is K O H v (.lst true ds)):∃p xs,v=.ref p/\dR K H p xs/\aN K O H xs ds:=by
 obtain ⟨p,xs,e,h1,h2⟩:=h.seq (k:=true) rfl
 exact ⟨p,xs,e,h1,h2⟩
theorem b5U:gJ X (binaryOp .Add) Fg:=by
 refine ⟨_,b5O,λO H x y a b s Q hO hx hy e q=>?_⟩
 unfold Fg at e
 split at e
 .obtain ⟨hl,rfl⟩:=gx e
  obtain ⟨p1,xs,rfl,h1,i1⟩:=b57 hx
  obtain ⟨p2,ys,rfl,_,h2,i2⟩:=FC hy
  exact ⟨p1,p2,xs,ys,rfl,rfl,h1,.inl (.inl h2),by rw [i1.length,i2.length,h8];exact hl,λp hp=>q _ _ (lJ hp _) (vP hp (i1.append i2))⟩
 .cases e
theorem b4m:Wo (Fg (.lst true a) (.lst false b)) Q↔a.length+b.length<=16777216/\Q (.ow (a++b)):=gy
end
end DL
namespace DL
open PySem PySem.Spec PyProof.Rows L2
section
variable {X X':Cx}
def N1(mg:Str->Option Value)(x:Str)(n:Int):Prop:=∃t,mg x=some (.int n t)
theorem MG(hg:Gl X x)(hm:N1 X.mg x n)(hd:(x==("__debug__":Str))=false:=by decide):EV X (.Name x pos) (eC (.int n)):=by
 obtain ⟨t,hm⟩:=hm
 refine ⟨_,b5H (v:=.int n) hg hm ⟨t,rfl⟩ hd,λO B σ H env s Q R e q=>?_⟩
 cases e
 exact q _ H (ao.refl _) (Is.int _)
end
section
variable {X:Cx}{N:List Str}{sc:Scope}{k:Nat}{full:Bool}{pos pos':Pos}{e:Expr}{fa:En->Option Sl}
noncomputable def xD(C:Int->Int->Prop)[∀i j,Decidable (C i j)](g:Int->Int->Int)(i:Nat)(f:En->Option Sl):SF:=λenv=>match env[i]? with
 | some (.sh (.int m))=>match f env with
  | some (.sh (.int n))=>if C m n then some (.nx,env.set i (.sh (.int (g m n)))) else none
  | _=>none
 | _=>none
theorem Uw{C:Int->Int->Prop}[∀i j,Decidable (C i j)]{g:Int->Int->Int}{i:Nat}{f:En->Option Sl}{env:En}{y:Fl×En}(h:xD C g i f env=some y):∃m n,env[i]?=some (.sh (.int m))/\f env=some (.sh (.int n))/\C m n/\y=(.nx,env.set i (.sh (.int (g m n)))):=by
 unfold xD at h
 split at h
 .rename_i m e1
  split at h
  .rename_i n e2
   obtain ⟨hc,h⟩:=gx h
   exact ⟨m,n,e1,e2,hc,h.symm⟩
  .cases h
 .cases h
noncomputable instance (i j:Int):Decidable (lq i j):=by unfold lq;infer_instance
noncomputable def Fm:Nat->(En->Option Sl)->SF:=xD lq λi j=>i*j
noncomputable def Fo:Nat->(En->Option Sl)->SF:=xD (λ_ _=>True) λi j=>i-j
theorem Zd:De X .Mult (λx y H Q=>∃i j,x=.int i/\y=.int j/\lq i j/\Q (.int (i*j)) H):=λpins s σ H x y v u Q I r1 r2 h=>b58 pins s σ H x y v u Q I r1 r2 h
theorem Fx.LK(h:Fx X N sc k full)(i:Nat)(he:EV X e fa)(hN:N[i]?=some x:=by rfl)(hv:Loc sc x:=by first | exact bJ rfl | exact bg rfl)
  (hf:full=true\/sc.names.lookup x=some .local:=by first | exact bJ rfl | exact bg rfl):SV X (.AugAssign (.Name x pos') .Mult e pos) (Fm i fa):=by
 obtain ⟨t,p,kk⟩:=he
 refine ⟨_,Lq h.lU (h.ix hN) (h.loc hv) p Zd (h.pS hf),λO B σ H env fl ah D R e q=>?_⟩
 obtain ⟨m,n,hi,e1,hc,e2⟩:=Uw e
 cases e2
 obtain ⟨v,e3,hv⟩:=R.sh i _ hi
 obtain rfl:=fG hv
 refine ⟨_,e3,kk O B σ H env _ _ R e1 λv H1 s1 r1=>?_⟩
 obtain rfl:=fG r1
 refine ⟨m,n,rfl,rfl,hc,?_⟩
 obtain ⟨R',g'⟩:=R.set (v:=.int (m*n)) (r:=.sh (.int (m*n))) s1 (Is.int (m*n)) (iB.mp hi).1
 exact q _ H1 R' g'
theorem Fx.LJ(h:Fx X N sc k full)(i:Nat)(he:EV X e fa)(hN:N[i]?=some x:=by rfl)(hv:Loc sc x:=by first | exact bJ rfl | exact bg rfl)
  (hf:full=true\/sc.names.lookup x=some .local:=by first | exact bJ rfl | exact bg rfl):SV X (.AugAssign (.Name x pos') .Sub e pos) (Fo i fa):=by
 obtain ⟨t,p,kk⟩:=he
 refine ⟨_,Lq h.lU (h.ix hN) (h.loc hv) p b8E (h.pS hf),λO B σ H env fl ah D R e q=>?_⟩
 obtain ⟨m,n,hi,e1,hc,e2⟩:=Uw e
 cases e2
 obtain ⟨v,e3,hv⟩:=R.sh i _ hi
 obtain rfl:=fG hv
 refine ⟨_,e3,kk O B σ H env _ _ R e1 λv H1 s1 r1=>?_⟩
 obtain rfl:=fG r1
 refine ⟨m,n,rfl,rfl,?_⟩
 obtain ⟨R',g'⟩:=R.set (v:=.int (m-n)) (r:=.sh (.int (m-n))) s1 (Is.int (m-n)) (iB.mp hi).1
 exact q _ H1 R' g'
end
end DL
namespace TS
open PySem PyProof.Rows
section
variable {prog:Program}{w:World}{A:Around}{E:Value->Shared->Prop}{s:Shared}
end
end TS
namespace KS
open PySem PySem.W PyProof.Rows
noncomputable def go{α:Type}(cmp:Nat->Nat->Bool):KasT α->α
 | .ret a=>a
 | .ask i j k=>go cmp (k (cmp i j))
theorem xV{α β:Type}(cmp:Nat->Nat->Bool)(f:α->KasT β):∀t:KasT α,go cmp (t.bind f)=go cmp (f (go cmp t))
 | .ret a=>rfl
 | .ask i j k=>xV cmp f (k (cmp i j))
section
variable (K:Nat->Int)
noncomputable def kI(p:Array Nat)(i:Nat):Int:=K (p.getD i 0)
def r9(p:Array Nat)(k:Nat):Prop:=∀i j,i<=j->j<k->kI K p i<=kI K p j
def Dh(p:Array Nat)(k:Nat):Prop:=∀i j,i<=j->j<k->kI K p j<=kI K p i
noncomputable abbrev fg(i j:Nat):Bool:=decide (K i<K j)
variable {K}
theorem B7(h:p[i]?=q[j]?):kI K p i=kI K q j:=by
 unfold kI
 rw [Qn,Qn,h]
theorem Ln(hj:j<=p.size)(k:Nat):kI K (mirror p i j ((j-i)/2)) k=if i<=k/\k<j then kI K p (i+j-1-k) else kI K p k:=by
 have e:=Kj (i:=i) hj k
 by_cases h1:i<=k/\k<j
 .rw [if_pos h1] at e ⊢;exact B7 e
 .rw [if_neg h1] at e ⊢;exact B7 e
theorem Ct(hj:j<=p.size)(he:∀k,i<=k->k<j->kI K p k=kI K p (j-1))(k:Nat):kI K (mirror p i j ((j-i)/2)) k=kI K p k:=by
 rw [Ln hj]
 split
 .rw [he _ (by omega) (by omega),he k (by omega) (by omega)]
 .rfl
theorem gp:∀(f n:Nat),1<=n->r9 K p n->∃m,go (fg K) (kas_asc p f n)=m/\n<=m/\m<=n+f/\r9 K p m/\(m=n+f\/kI K p m<kI K p (m-1))
 | 0,n,_,hs=>⟨n,rfl,by ext,by ext,hs,.inl rfl⟩
 | f+1,n,hn,hs=>by
  unfold kas_asc
  show ∃m,go (fg K) (if decide (kI K p n<kI K p (n-1))=true then .ret n else kas_asc p f (n+1))=m/\_
  by_cases c:kI K p n<kI K p (n-1)
  .rw [if_pos (decide_eq_true c)]
   exact ⟨n,rfl,by ext,by ext,hs,.inr c⟩
  .rw [if_neg (by simpa using c)]
   obtain ⟨m,e,m1,m2,m3,m4⟩:=gp f (n+1) (by ext) λi j cI hj=>by
    by_cases d:j<n
    .exact hs i j cI d
    .obtain rfl:j=n:=by ext hj d
     by_cases d2:i=j
     .subst d2;exact eQ _
     .have:=hs i (j-1) (by ext cI d2) (by ext hn);ext c this
   exact ⟨m,e,by ext m1,by ext m2,m3,m4.elim (λz=>.inl (by ext z)) .inr⟩
theorem desc:∀(f:Nat) (p:Array Nat) (n q:Nat),1<=n->n+f<=p.size->Dh K p n->q+1<=n->(∀i,n-(q+1)<=i->i<n->kI K p i=kI K p (n-1)) ->
  ∃p' m q',go (fg K) (sU f p n q)=(p',m,q')/\p'.Perm p/\n<=m/\m<=n+f/\Dh K p' m/\q'+1<=m/\∀i,m-(q'+1)<=i->i<m->kI K p' i=kI K p' (m-1)
 | 0,p,n,q,_,_,hs,hq,he=>⟨p,n,q,rfl,sY _,by ext,by ext,hs,hq,he⟩
 | f+1,p,n,q,hn,hz,hs,hq,he=>by
  have next:∀p':Array Nat,(∀k,kI K p' k=kI K p k)->kI K p n<=kI K p (n-1)->Dh K p' (n+1):=λp' hk hl i j cI hj=>by
   rw [hk,hk]
   by_cases d:j<n
   .exact hs i j cI d
   .obtain rfl:j=n:=by ext hj d
    by_cases d2:i=j
    .subst d2;exact eQ _
    .have:=hs i (j-1) (by ext cI d2) (by ext hn);ext hl this
  unfold sU
  show ∃p' m q',go (fg K) (if decide (kI K p n<kI K p (n-1))=true then (if q>0 then sU f (mP p (n-(q+1)) n) (n+1) 0 else sU f p (n+1) 0) else .ask (p.getD (n-1) 0) (p.getD n 0) λd=>if d=true then .ret (p,n,q) else sU f p (n+1) (q+1))=(p',m,q')/\_
  by_cases c:kI K p n<kI K p (n-1)
  .rw [if_pos (decide_eq_true c)]
   by_cases cq:q>0
   .rw [if_pos cq]
    obtain ⟨p',m,q',e,k1,k2,k3,k4,k5,k6⟩:=desc f (mP p (n-(q+1)) n) (n+1) 0 (by ext) (by unfold mP;rw [Ed];ext hz) (next _ (Ct (by ext hz) he) (by ext c)) (by ext) λi h1 h2=>by congr 1;ext h1 h2
    exact ⟨p',m,q',e,k1.trans (rG _ _ _ _),by ext k2,by ext k3,k4,k5,k6⟩
   .rw [if_neg cq]
    obtain ⟨p',m,q',e,k1,k2,k3,k4,k5,k6⟩:=desc f p (n+1) 0 (by ext) (by ext hz) (next _ (λ_=>rfl) (by ext c)) (by ext) λi h1 h2=>by congr 1;ext h1 h2
    exact ⟨p',m,q',e,k1,by ext k2,by ext k3,k4,k5,k6⟩
  .rw [if_neg (by simpa using c)]
   show ∃p' m q',go (fg K) (if decide (kI K p (n-1)<kI K p n)=true then .ret (p,n,q) else sU f p (n+1) (q+1))=(p',m,q')/\_
   by_cases c2:kI K p (n-1)<kI K p n
   .rw [if_pos (decide_eq_true c2)]
    exact ⟨p,n,q,rfl,sY _,by ext,by ext,hs,hq,he⟩
   .rw [if_neg (by simpa using c2)]
    have heq:kI K p n=kI K p (n-1):=by ext c c2
    obtain ⟨p',m,q',e,k1,k2,k3,k4,k5,k6⟩:=desc f p (n+1) (q+1) (by ext) (by ext hz) (next _ (λ_=>rfl) (by ext c2)) (by ext hq) λi h1 h2=>by
     rw [show n+1-1=n by ext]
     by_cases d:i=n
     .subst d;rfl
     .rw [heq];exact he i (by ext h1) (by ext h2 d)
    exact ⟨p',m,q',e,k1,by ext k2,by ext k3,k4,k5,k6⟩
theorem Rv(h1:1<=n)(hn:n<=nrem)(hz:nrem<=p.size)(hs:Dh K p n):∃m p',go (fg K) (kas_tail3 n nrem p)=(m,p')/\p'.Perm p/\1<=m/\m<=nrem/\r9 K p' m:=by
 unfold kas_tail3
 rw [xV]
 obtain ⟨m,e,m1,m2,m3,_⟩:=gp (K:=K) (p:=mP p 0 n) (nrem-n) n h1 λi j cI hj=>by
  unfold mP
  rw [Ln (by ext hn hz),Ln (by ext hn hz),if_pos (by ext cI hj),if_pos (by ext hj)]
  exact hs _ _ (by ext cI) (by ext hj)
 rw [e]
 exact ⟨m,_,rfl,rG _ _ _ _,by ext h1 m1,by ext hn m2,m3⟩
theorem QU(hn:n+1<=nrem)(hz:nrem<=p.size)(hs:Dh K p (n+1)):∃m p',go (fg K) (BD n nrem p)=(m,p')/\p'.Perm p/\1<=m/\m<=nrem/\r9 K p' m:=by
 unfold BD
 rw [xV]
 obtain ⟨p',m,q',e,k1,k2,k3,k4,k5,k6⟩:=desc (K:=K) (nrem-(n+1)) p (n+1) 0 (by ext) (by ext hn hz) hs (by ext) λi h1 h2=>by congr 1;ext h1 h2
 have sG:p'.size=p.size:=k1.size_eq
 rw [e]
 dsimp only
 by_cases c:q'>0
 .rw [if_pos c]
  obtain ⟨a,b,e2,j1,j2,j3,j4⟩:=Rv (K:=K) (p:=mP p' (m-(q'+1)) m) (n:=m) (nrem:=nrem) (by ext k5) (by ext hn k3) (by unfold mP;rw [Ed];ext hz sG) λi j cI hj=>by
   unfold mP
   rw [Ct (by ext hn hz k3 sG) k6,Ct (by ext hn hz k3 sG) k6]
   exact k4 i j cI hj
  exact ⟨a,b,e2,j1.trans ((rG _ _ _ _).trans k1),j2,j3,j4⟩
 .rw [if_neg c]
  obtain ⟨a,b,e2,j1,j2,j3,j4⟩:=Rv (K:=K) (p:=p') (n:=m) (nrem:=nrem) (by ext k5) (by ext hn k3) (by ext hz sG) k4
  exact ⟨a,b,e2,j1.trans k1,j2,j3,j4⟩
theorem cnt(h1:1<=nrem)(hz:nrem<=p.size):∃m p',go (fg K) (kas_count nrem p)=(m,p')/\p'.Perm p/\1<=m/\m<=nrem/\r9 K p' m:=by
 unfold kas_count
 rw [xV]
 obtain ⟨n,e,n1,n2,n3,n4⟩:=gp (K:=K) (p:=p) (nrem-1) 1 (by ext) λi j cI hj=>by
  obtain rfl:i=j:=by ext cI hj
  exact eQ _
 rw [e]
 by_cases c:n=nrem
 .rw [if_pos (by simpa using c)]
  exact ⟨n,p,rfl,sY _,n1,by ext c,n3⟩
 rw [if_neg (by simpa using c)]
 have aY:kI K p n<kI K p (n-1):=n4.resolve_left (by ext h1 c)
 by_cases c2:n>1
 .rw [if_pos c2]
  show ∃m p',go (fg K) (if decide (kI K p 0<kI K p (n-1))=true then .ret (n,p) else BD n nrem (mP p 0 n))=(m,p')/\_
  by_cases c3:kI K p 0<kI K p (n-1)
  .rw [if_pos (decide_eq_true c3)]
   exact ⟨n,p,rfl,sY _,n1,by ext h1 n2,n3⟩
  .rw [if_neg (by simpa using c3)]
   have g0:∀k,0<=k->k<n->kI K p k=kI K p (n-1):=λk _ hk=>by
    have:=n3 0 k (by ext) hk
    have:=n3 k (n-1) (by ext hk) (by ext c2)
    lia
   obtain ⟨a,b,e2,j1,j2,j3,j4⟩:=QU (K:=K) (p:=mP p 0 n) (n:=n) (nrem:=nrem) (by ext h1 n2 c) (by unfold mP;rw [Ed];ext hz) λi j cI hj=>by
    unfold mP
    rw [Ct (by ext h1 hz n2) g0,Ct (by ext h1 hz n2) g0]
    by_cases d:j<n
    .rw [g0 i (by ext) (by ext cI d),g0 j (by ext) d];exact eQ _
    .obtain rfl:j=n:=by ext hj d
     by_cases d2:i=j
     .subst d2;exact eQ _
     .rw [g0 i (by ext) (by ext cI d2)];ext aY
   exact ⟨a,b,e2,j1.trans (rG _ _ _ _),j2,j3,j4⟩
 .rw [if_neg c2]
  obtain rfl:n=1:=by ext n1 c2
  exact QU (K:=K) (by ext h1 c) hz λi j cI hj=>by
   by_cases d:i=j
   .subst d;exact eQ _
   .obtain ⟨rfl,rfl⟩:i=0/\j=1:=by ext cI hj d
    exact BE aY
theorem Lz(hs:r9 K p k):∀(f l r:Nat),l<=r->r<=k->r-l<=f->(∀i,i<l->kI K p i<=kI K p k)->(∀i,r<=i->i<k->kI K p k<kI K p i) ->
  ∃m,go (fg K) (wQ p k f l r)=m/\m<=k/\(∀i,i<m->kI K p i<=kI K p k)/\∀i,m<=i->i<k->kI K p k<kI K p i
 | 0,l,r,h1,h2,h3,h4,h5=>by
  obtain rfl:l=r:=by ext h1 h3
  exact ⟨l,rfl,h2,h4,h5⟩
 | f+1,l,r,h1,h2,h3,h4,h5=>by
  unfold wQ
  by_cases c:l≥r
  .rw [if_pos c]
   obtain rfl:l=r:=by ext h1 c
   exact ⟨l,rfl,h2,h4,h5⟩
  .rw [if_neg c]
   show ∃m,go (fg K) (if decide (kI K p k<kI K p ((l+r)/2))=true then wQ p k f l ((l+r)/2) else wQ p k f ((l+r)/2+1) r)=m/\_
   by_cases c2:kI K p k<kI K p ((l+r)/2)
   .rw [if_pos (decide_eq_true c2)]
    exact Lz hs f l _ (by lia) (by lia) (by lia) h4 λi z1 z2=>by
     have:=hs ((l+r)/2) i z1 z2;ext c2 this
   .rw [if_neg (by simpa using c2)]
    exact Lz hs f _ r (by lia) (by ext h2) (by lia) (λi z=>by
     have:=hs i ((l+r)/2) (by ext z) (by lia);ext c2 this) h5
theorem bin:∀(f:Nat) (p:Array Nat) (k:Nat),1<=k->k+f<=p.size->r9 K p k->∃p',go (fg K) (kas_bin f p k)=p'/\p'.Perm p/\r9 K p' (k+f)
 | 0,p,k,_,_,hs=>⟨p,rfl,sY _,hs⟩
 | f+1,p,k,hk,hz,hs=>by
  unfold kas_bin
  rw [xV]
  obtain ⟨l,e,l1,l2,l3⟩:=Lz (K:=K) hs k 0 k (by ext) (by ext) (by ext) (λi z=>by ext z) λi z1 z2=>by ext z1 z2
  rw [e]
  have hb:=getElem?_bubble (xs:=p) (src:=k) (by ext hz) (k-l) (by ext)
  rw [show k-(k-l)=l by ext l1] at hb
  have kb:∀m,kI K (bubble p k (k-l)) m=if m=l then kI K p k else if l<m/\m<=k then kI K p (m-1) else kI K p m:=λm=>by
   have e:=hb m
   by_cases c1:m=l
   .rw [if_pos c1] at e ⊢;exact B7 e
   .rw [if_neg c1] at e ⊢
    by_cases c2:l<m/\m<=k
    .rw [if_pos c2] at e ⊢;exact B7 e
    .rw [if_neg c2] at e ⊢;exact B7 e
  obtain ⟨p',e',j1,j2⟩:=bin f (bubble p k (k-l)) (k+1) (by ext) (by rw [bubble_size];ext hz) λi j cI hj=>by
   rw [kb,kb]
   repeat' split
   all_goals first
    | (exfalso;lia)
    | exact eQ _
    | exact l2 _ (by lia)
    | exact BE (l3 _ (by lia) (by lia))
    | exact hs _ _ (by lia) (by lia)
  exact ⟨p',e',j1.trans (bubble_perm _ _ _),by rw [show k+(f+1)=k+1+f by ext];exact j2⟩
noncomputable def ord(K:Nat->Int)(n:Nat):List Nat:=(go (fg K) (BA n)).toList
theorem cO(K:Nat->Int)(n:Nat)(h:1<=n):(ord K n).Perm (fq n)/\(ord K n).Pairwise λi j=>K i<=K j:=by
 have key:∃p',go (fg K) (BA n)=p'/\p'.Perm (Ka (fq n))/\r9 K p' n:=by
  unfold BA
  rw [xV]
  obtain ⟨m,p,e,k1,k2,k3,k4⟩:=cnt (K:=K) (p:=Ka (fq n)) (nrem:=n) h (by simp)
  rw [e]
  dsimp only
  have hz:p.size=n:=by rw [k1.size_eq];simp
  by_cases c:m<n
  .rw [if_pos c]
   obtain ⟨p',e',j1,j2⟩:=bin (K:=K) (n-max m 1) p (max m 1) (by ext) (by ext hz c) (by rw [show max m 1=m by ext k2];exact k4)
   exact ⟨p',e',j1.trans k1,by rw [show max m 1+(n-max m 1)=n by ext c] at j2;exact j2⟩
  .rw [if_neg c]
   obtain rfl:m=n:=by ext k3 c
   exact ⟨p,rfl,k1,k4⟩
 obtain ⟨p,e,k1,k2⟩:=key
 unfold ord
 rw [e]
 refine ⟨xx.mp k1,xw.mpr λi j hi hj cI=>?_⟩
 have hz:p.size=n:=by rw [k1.size_eq];simp
 simp only [gE] at hi hj
 have:=k2 i j (by ext cI) (by ext hj hz)
 unfold kI at this
 simpa [hi,hj] using this
end
end KS
namespace KS
open PySem PySem.W PyProof.Rows
noncomputable def Ok{α:Type}(n:Nat)(R:α->Prop):KasT α->Prop
 | .ret a=>R a
 | .ask i j k=>i<n/\j<n/\∀b,Ok n R (k b)
theorem Ok.bind{α β:Type}{n:Nat}{R:α->Prop}{S:β->Prop}{f:α->KasT β}(hf:∀a,R a->Ok n S (f a)):∀{t:KasT α},Ok n R t->Ok n S (t.bind f)
 | .ret a,h=>hf a h
 | .ask i j k,h=>⟨h.1,h.2.1,λb=>Ok.bind hf (h.2.2 b)⟩
theorem sk{α:Type}{n:Nat}{cm:Nat->Nat->(Bool->Shared->Prop)->Shared->Prop}{cmp:Nat->Nat->Bool}{s:Shared}(h:∀i j,i<n->j<n->∀Q,Q (cmp i j) s->cm i j Q s){R:α->Prop}{Q:α->Shared->Prop}:∀{t:KasT α},Ok n R t->Q (go cmp t) s->t.kasWp cm Q s
 | .ret _,_,q=>q
 | .ask i j k,o,q=>h i j o.1 o.2.1 _ (sk h (o.2.2 (cmp i j)) q)
section
variable {n:Nat}
def En(n:Nat)(p:Array Nat):Prop:=∀k,p.getD k 0<n
theorem En.perm(h0:0<n)(h:En n p)(e:q.Perm p):En n q:=λk=>by
 by_cases hk:k<q.size
 .have hm:q[k]∈p.toList:=(xx.mp e).mem_iff.mp (by simp)
  obtain ⟨i,hi,e2⟩:=rJ.mp hm
  have:=h i
  rw [gE] at hi
  simp only [Eh,hi,hk,dite_true] at this ⊢
  simp at e2
  have e3:q[k]=p[i]:=e2.symm
  show q[k]<n
  rw [e3]
  exact this
 .simp [Eh,hk,h0]
theorem Lp{p:Array Nat}(h:En n p):∀f m,Ok n (λ_=>True) (kas_asc p f m)
 | 0,m=>trivial
 | f+1,m=>by
  unfold kas_asc
  refine ⟨h _,h _,λb=>?_⟩
  dsimp only
  split
  .trivial
  .exact Lp h f (m+1)
theorem FU(h0:0<n):∀f (p:Array Nat) m q,En n p->Ok n (λr=>En n r.1) (sU f p m q)
 | 0,p,m,q,h=>h
 | f+1,p,m,q,h=>by
  unfold sU
  refine ⟨h _,h _,λb=>?_⟩
  dsimp only
  split
  .split
   .exact FU h0 f _ _ _ (h.perm h0 (rG _ _ _ _))
   .exact FU h0 f _ _ _ h
  .refine ⟨h _,h _,λb=>?_⟩
   dsimp only
   split
   .exact h
   .exact FU h0 f _ _ _ h
theorem SD(h0:0<n)(h:En n p)(a b:Nat):Ok n (λr=>En n r.2) (kas_tail3 a b p):=by
 unfold kas_tail3
 have e:En n (mP p 0 a):=h.perm h0 (rG _ _ _ _)
 exact (Lp e _ _).bind λm _=>(show Ok n (λr:Nat×Array Nat=>En n r.2) (.ret (m,mP p 0 a)) from e)
theorem Sz(h0:0<n)(h:En n p)(a b:Nat):Ok n (λr=>En n r.2) (BD a b p):=by
 unfold BD
 refine (FU h0 _ _ _ _ h).bind λr hr=>?_
 split
 .exact SD h0 (hr.perm h0 (rG _ _ _ _)) _ _
 .exact SD h0 hr _ _
theorem b3g(h0:0<n)(h:En n p)(b:Nat):Ok n (λr=>En n r.2) (kas_count b p):=by
 unfold kas_count
 refine (Lp h _ _).bind λm _=>?_
 split
 .exact h
 .split
  .refine ⟨h _,h _,λb=>?_⟩
   dsimp only
   split
   .exact h
   .exact Sz h0 (h.perm h0 (rG _ _ _ _)) _ _
  .exact Sz h0 h _ _
theorem Mh{p:Array Nat}(h:En n p)(k:Nat):∀f l r,Ok n (λ_=>True) (wQ p k f l r)
 | 0,l,r=>trivial
 | f+1,l,r=>by
  unfold wQ
  split
  .trivial
  .refine ⟨h _,h _,λb=>?_⟩
   dsimp only
   split
   .exact Mh h k f _ _
   .exact Mh h k f _ _
theorem Rj(h0:0<n):∀f (p:Array Nat) k,En n p->Ok n (λ_=>True) (kas_bin f p k)
 | 0,p,k,h=>trivial
 | f+1,p,k,h=>by
  unfold kas_bin
  exact (Mh h k _ _ _).bind λl _=>Rj h0 f _ _ (h.perm h0 (bubble_perm _ _ _))
theorem qV(h0:0<n):Ok n (λ_=>True) (BA n):=by
 unfold BA
 have e:En n (Ka (fq n)):=λk=>by
  by_cases hk:k<n
  .simp [Eh,hk]
  .simp [Eh,hk,h0]
 refine (b3g h0 e n).bind λr hr=>?_
 split
 .exact Rj h0 _ _ _ hr
 .trivial
end
end KS
namespace PT
open PySem PySem.W PyProof.Rows
section
variable {prog:Program}{w:World}{A:Around}{E:Value->Shared->Prop}{s:Shared}
end
end PT
namespace DL
open PySem PySem.Spec PyProof.Rows L2
section
variable {X:Cx}
end
end DL
namespace DL
open PySem PySem.W PySem.Spec PyProof.Rows L2
noncomputable def bB{α:Type}(kz:List Int)(d:α)(vs:List α):List α:=if vs.length<2 then vs else (KS.ord (λi=>kz.getD i 0) vs.length).map λi=>vs.getD i d
theorem T'{α:Type}(kz:List Int)(d:α)(vs:List α):(bB kz d vs).Perm vs:=by
 unfold bB
 split
 .exact BR _
 .rename_i hn
  have h:=(KS.cO (λi=>kz.getD i 0) vs.length (by ext hn)).1.map λi=>vs.getD i d
  refine h.trans ?_
  have:(fq vs.length).map (λi=>vs.getD i d)=vs:=by
   refine EG (by simp) λi h1 h2=>?_
   simp at h1
   simp [h1]
  rw [this]
theorem Mj:∀{xs:List V} {vs:List Value},au xs vs->∀i (h1:i<xs.length) (h2:i<vs.length),RelV xs[i] vs[i]
 | _::_,_::_,.cons a b,0,_,_=>a
 | _::_,_::_,.cons a b,i+1,h1,h2=>Mj b i (by simpa using h1) (by simpa using h2)
theorem L5{K:aC}{O:Addr->Prop}{H:Hp}:∀{xs:List V} {ds:List D},aN K O H xs ds->∀i (h1:i<xs.length) (h2:i<ds.length),Is K O H xs[i] ds[i]
 | _::_,_::_,.cons a b,0,_,_=>a
 | _::_,_::_,.cons a b,i+1,h1,h2=>L5 b i (by simpa using h1) (by simpa using h2)
theorem ints_get:∀{vs:List Value} {ns:List Int},IntsAre vs ns->∀i,i<vs.length->∃t,vs.getD i l9=.int (ns.getD i 0) t
 | _,_,.cons n t h,0,_=>⟨t,rfl⟩
 | _,_,.cons n t h,i+1,hi=>by
  obtain ⟨t',e⟩:=ints_get h i (by simpa using hi)
  exact ⟨t',by simpa using e⟩
theorem b3a(rv:au xs vs)(hl:vs.length=xs.length):au (bB kz (.int 0) xs) (bB kz l9 vs):=by
 unfold bB
 by_cases h2:xs.length<2
 .rw [if_pos h2,if_pos (by ext hl h2:1)];exact rv
 rw [if_neg h2,if_neg (by ext hl h2:1),hl]
 have hm:∀i∈KS.ord (λi=>kz.getD i 0) xs.length,i<xs.length:=λi hi=>qi.mp ((KS.cO (λi=>kz.getD i 0) xs.length (by ext h2:1)).1.mem_iff.mp hi)
 generalize KS.ord (λi=>kz.getD i 0) xs.length=os at *
 induction os with
 | nil=>exact .nil
 | cons i os ih =>
  have hi:=hm i (cM ..)
  refine .cons ?_ (ih λj hj=>hm j (cY _ hj))
  have:=Mj rv i hi (by ext hl hi:1)
  simpa [hi,show i<vs.length by ext hl hi:1] using this
section
variable {X:Cx}{pins:List (Addr×Obj)}{s:Shared}{σ:L2.St}{H:Hp}
theorem Ai{α β:Type}{c:Prop}[Decidable c]{M:Model}{A:Around}{a b:Sem α}{f:α->Sem β}{Q:β->Shared->Prop}{E:Value->Shared->Prop}{s:Shared}(h:wpAny M A ((if c then a else b) >>= f) Q E s):wpAny M A (if c then a >>= f else b >>= f) Q E s:=by
 by_cases hc:c
 .rw [if_pos hc] at h ⊢;exact h
 .rw [if_neg hc] at h ⊢;exact h
theorem TN{k:Nat}{f it:Addr}(hr:bh (k+1) X.A)(I:Inv X pins σ H s){xs:List V}{kz:List Int}(iw:kz.length=xs.length)(c6:xs.length<64)
  (IZ:∀{A':Around} {Q':List Value->Shared->Prop} {E':Value->Shared->Prop},A'.handled=X.A.handled->(∀h' tk vs,(∀b o,s.heap.get? b=some o->h'.get? b=some o)->s.heap.objs.size<=h'.objs.size->au xs vs->Q' vs { s with heap:=h',toks:=tk })->wpAny (model X.prog X.w) A' (collect (.ref it)) Q' E' s)
  (IJ:∀(H1:Hp) (s1:Shared) (j:Nat) (v:Value) (x:V),Inv X pins σ H1 s1->ao H H1->RelV x v->xs[j]?=some x->wpAny (model X.prog X.w) X.A.in1.in1 (call (.ref f) [v]) (λu s'=>∃t H',u=.int (kz.getD j 0) t/\Inv X pins σ H' s'/\ao H1 H'/\∀b o,s1.heap.get? b=some o->cK X pins H1 b->s'.heap.get? b=some o/\cK X pins H' b) (λ_ _=>False) s1)
  {Q:VK}(q:∀a H',ao H H'->H' a=none->Q (.ref a) (upd H' a (.lst (bB kz (.int 0) xs)))):
  wpAny (model X.prog X.w) X.A (call (.builtin "sorted") [.ref it] [(tu "key",.ref f)]) (EP X pins σ Q) X.xe s:=by
 refine call_function_entry_kw kind_sorted plain_sorted entry_sorted (ksk_s1 _ _) ?_
 unfold Builtin.«sorted»
 refine aq (m:=checkCount "sorted" 1 1 _) (bp (aq (IZ rfl λhC yI vs kC zC rv=>?_)))
 have rh:vs.length=xs.length:=rv.length.symm
 have hZ:vs.length<=sizeLine:=by rw [h8];ext c6 rh:1
 refine aq (Et ?_ hZ)
 obtain ⟨hL,Bp⟩:∃hL,hL=hC.push (seqObj "list" vs.toArray 0):=⟨_,rfl⟩
 have gL:hL.get? hC.objs.size=some (seqObj "list" vs.toArray 0):=by rw [Bp];exact ft _ rfl
 have zL:hL.objs.size=hC.objs.size+1:=by rw [Bp,Ei]
 have kL:∀b o,s.heap.get? b=some o->hL.get? b=some o:=λb o e=>by rw [Bp];exact bP _ (kC b o e)
 show wpAny _ _ _ _ _ { s with heap:=hC.push (seqObj "list" vs.toArray 0),toks:=yI }
 rw [<-Bp]
 clear Bp kC
 generalize ha:hC.objs.size=a at *
 refine aq (nD (wpAny_call_entry_kw slot_list_sort ⟨_,gL,rfl⟩ entry_list_sort ?_ (ksk_l1 _ _)))
 show wpAny (model X.prog X.w) X.A.in1.in1 (Builtin.«list.sort» ⟨[.ref a],[(tu "key",.ref f)]⟩) _ _ _
 rw [ksk_t1]
 unfold ksk_tree
 have fa:cK X pins H a:=I.kq (by ext zC:1) (I.aT.fresh (by ext zC:1))
 refine aq (w5 gL rfl (aq (xc gL rfl ?_ (by rw [dZ];exact hZ) (og _))))
 obtain ⟨c1,g1⟩:∃c1,(hL.update a (fL λ_=>(#[]:Array Value))).get? a=some (seqObj "list" #[] c1):=⟨_,Eo gL λ_=>#[]⟩
 obtain ⟨hU,eU⟩:∃hU,hU=hL.update a (fL λ_=>(#[]:Array Value)):=⟨_,rfl⟩
 rw [<-eU] at g1
 have zU:hU.objs.size=a+1:=by rw [eU,Kv,zL]
 have kU:∀b o,s.heap.get? b=some o->hU.get? b=some o:=λb o e=>by
  have aY:b<s.heap.objs.size:=bO e
  rw [eU,xf _ _ _ _ (dF (iQ aY zC))]
  exact kL b o e
 show wpAny _ _ _ _ _ { s with toks:=yI,heap:=hL.update a (fL λ_=>(#[]:Array Value)) }
 rw [<-eU]
 clear eU kL gL zL
 refine aq (Ec g1 rfl (aq (J2 (aq (Et (nD ?_) (og _))) (by show vs.toArray.size<=_;rw [dZ];exact hZ))))
 obtain ⟨hK,eK⟩:∃hK,hK=(hU.push (seqObj "tuple" vs.toArray 0)).push (seqObj "list" #[] 0):=⟨_,rfl⟩
 have zT:(hU.push (seqObj "tuple" vs.toArray 0)).objs.size=a+2:=by rw [Ei,zU]
 have gK:hK.get? (a+2)=some (seqObj "list" #[] 0):=by rw [eK,<-zT];exact ft _ rfl
 have gA:hK.get? a=some (seqObj "list" #[] c1):=by rw [eK];exact bP _ (bP _ g1)
 have kK:∀b o,s.heap.get? b=some o->hK.get? b=some o:=λb o e=>by rw [eK];exact bP _ (bP _ (kU b o e))
 show wpAny _ _ _ _ _ { s with toks:=yI,heap:=(hU.push (seqObj "tuple" vs.toArray 0)).push (seqObj "list" #[] 0) }
 rw [<-eK]
 show wpAny _ _ (ksk_rest a (.ref f) false vs.toArray c1 (.ref (hU.push (seqObj "tuple" vs.toArray 0)).objs.size)) _ _ _
 rw [zT]
 clear eK zT g1 kU zU
 generalize hk:a+2=kS at *
 have fk:cK X pins H kS:=I.kq (by ext zC hk:1) (I.aT.fresh (by ext zC hk:1))
 have OX:kS≠a:=by ext hk:1
 have I3:Inv X pins σ H { s with toks:=yI,heap:=hK }:=I.kept (t':=yI) kK
 unfold ksk_rest
 refine aq (wU ?_)
 rw [List.forIn_toArray]
 refine aq (ksk_fold (λi s'=>∃H' kA c,Inv X pins σ H' s'/\ao H H'/\cK X pins H' kS/\cK X pins H' a/\s'.heap.get? kS=some (seqObj "list" kA c)/\s'.heap.get? a=some (seqObj "list" #[] c1)/\IntsAre kA.toList (kz.take i)) vs 0 _ ⟨H,#[],0,I3,ao.refl _,fk,fa,gK,gA,.nil⟩ (λj x s' hj hI=>?_) λs' hI=>?_)
 .obtain ⟨H1,kA,c,I1,sm,f1,f2,g3,g4,ia⟩:=hI
  rw [tq] at ia ⊢
  obtain ⟨AN,ZL⟩:=iB.mp hj
  have Ph:j<xs.length:=by ext rh AN:1
  have rx:RelV xs[j] x:=by rw [<-ZL];exact Mj rv j Ph AN
  obtain ⟨kv,PJ⟩:∃kv,kv=kz.getD j 0:=⟨_,rfl⟩
  have ek:kz.take (j+1)=kz.take j++[kv]:=by rw [List.take_succ,qk (by ext iw rh AN:1),PJ];simp [show j<kz.length by ext iw rh AN:1]
  have ck:=IJ H1 s' j x xs[j] I1 sm rx (qk Ph)
  rw [<-PJ] at ck
  refine aq (wY (gk ck (λu s2 he=>?_) λ_ _ z=>z.elim))
  .obtain ⟨t,H2,rfl,I2,VP,kp⟩:=he
   dsimp only
   obtain ⟨g5,f5⟩:=kp kS _ g3 f1
   obtain ⟨g6,f6⟩:=kp a _ g4 f2
   have hz:kA.size<=64:=by
    have:=ia.length
    rw [gE,jk] at this
    ext c6 rh AN this:1
   refine aq (xc g5 rfl (bp ⟨rfl,?_⟩) (by rw [h8];ext hz:1) (by rw [Array.size_push,h8];ext hz:1))
   obtain ⟨c2,g7⟩:∃c2,(s2.heap.update kS (fL (·.push (.int kv t)))).get? kS=some (seqObj "list" (kA.push (.int kv t)) c2):=⟨_,Eo g5 (·.push (.int kv t))⟩
   have O1:∀b o,b∉[kS]->s2.heap.get? b=some o->(s2.heap.update kS (fL (·.push (.int kv t)))).get? b=some o:=λb o hb e=>by
    rw [xf _ _ _ _ (by simpa using hb)]
    exact e
   refine ⟨H2,kA.push (.int kv t),c2,FN (ch:=[kS]) (t':=s2.toks) I2 (λb hb=>by rw [bT.mp hb];exact f5) O1,sm.trans VP,f5,f6,g7,O1 a _ (by simpa using OX.symm) g6,?_⟩
   rw [ek,show (kA.push (jm kv t)).toList=kA.toList++[jm kv t] by simp]
   exact ksk_snoc ia
 .obtain ⟨H1,kA,c,I1,sm,f1,f2,g3,g4,ia⟩:=hI
  have jh:IntsAre kA.toList kz:=by rw [tq,rh,<-iw,List.take_length] at ia;exact ia
  have AI:kA.toList.length=vs.length:=by rw [jh.length,iw,rh]
  have IK:kA.size=vs.length:=by rw [<-gE];exact AI
  refine aq (w5 g3 rfl ?_)
  unfold ksk_end
  dsimp only
  rw [if_neg (by decide)]
  have runK:∀{E:Value->Shared->Prop},wpAny (model X.prog X.w) X.A.in1.in1 (if vs.toArray.size<2 then pure general' else keyKind' kA) (λkind s2=>s2=s'/\wpAny (model X.prog X.w) X.A.in1.in1 ((if vs.toArray.size<2 then pure () else sortRuns').run (BB kind (if false=true then (kA.zip vs.toArray).reverse else kA.zip vs.toArray) #[] 7 none)) (λr s2=>s2=s'/\(arrOf r.2).map (·.2)=(bB kz l9 vs).toArray/\failedOf r.2=none) E s') E s':=λ{E}=>by
   rw [if_neg (show ¬(false=true) by decide)]
   by_cases h2:vs.length<2
   .rw [if_pos (by simpa using h2),if_pos (by simpa using h2)]
    refine bp ⟨rfl,bp ⟨rfl,?_,rfl⟩⟩
    show (kA.zip vs.toArray).map (·.2)=_
    rw [show bB kz l9 vs=vs by unfold bB;rw [if_pos h2],Array.map_snd_zip (by simp;ext IK:1)]
   rw [if_neg (by simpa using h2),if_neg (by simpa using h2),ksk_kind jh (by ext IK h2:1)]
   refine bp ⟨rfl,?_⟩
   have:=kat_run (prog:=X.prog) (w:=X.w) (A:=X.A.in1.in1) (E:=E) (s:=s') (ks:=kA.toList) (vs:=vs) (κ:=oneType') (Q:=λak s2=>s2=s'/\(arrOf ak).map (·.2)=(bB kz l9 vs).toArray/\failedOf ak=none) (G:=λp s2=>s2=s'/\p.toList=KS.ord (λi=>kz.getD i 0) vs.length) AI (by ext h2:1) (by ext c6 rh:1) (λp ak s2 hz ha hf hp=>⟨hp.1,by
    rw [kat_snds AI ha,hp.2]
    unfold bB
    rw [if_neg (by ext h2:1)],hf⟩) (KS.sk (n:=vs.length) (cmp:=KS.fg λi=>kz.getD i 0) (λi j hi hj C hC=>by
     unfold kas_ask
     obtain ⟨t1,e1⟩:=ints_get jh i (by ext AI hi:1)
     obtain ⟨t2,e2⟩:=ints_get jh j (by ext AI hj:1)
     rw [e1,e2]
     exact kat_lt_int hC) (KS.qV (by ext h2:1)) ⟨rfl,rfl⟩)
   rw [Array.toArray_toList] at this
   exact this
  refine Ai (aq (gk runK (λkind s2 hq=>?_) λ_ _ e=>e))
  obtain ⟨rfl,run⟩:=hq
  refine aq (gk run ?_ λ_ _ e=>e)
  rintro ⟨⟨⟩,ak⟩ s2 ⟨rfl,hp,hf⟩
  dsimp only at hp hf ⊢
  unfold ksk_tail
  dsimp only
  rw [hp,hf]
  have jA:(bB kz l9 vs).toArray.size=vs.length:=by rw [dZ];exact (T' kz _ vs).length_eq
  generalize Z4:(bB kz l9 vs).toArray=out at *
  have YF:∀b o,b∉[kS,a]->s2.heap.get? b=some o->(s2.heap.update kS (fL λ_=>(#[]:Array Value))).get? b=some o:=λb o hb e=>by
   rw [xf _ _ _ _ (by simp at hb;exact hb.1)]
   exact e
  have g5:(s2.heap.update kS (fL λ_=>(#[]:Array Value))).get? a=some (seqObj "list" #[] c1):=by
   rw [xf _ _ _ _ OX.symm]
   exact g4
  refine aq (xc g3 rfl (aq (sW (aq (Ec g5 rfl (aq (xc g5 rfl ?_ (og _) ?_)))))) (by rw [IK];exact hZ) (og _))
  .simp only [bne_self_eq_false,ou,if_false]
   obtain ⟨c2,g6⟩:∃c2,((s2.heap.update kS (fL λ_=>(#[]:Array Value))).update a (fL λ_=>out)).get? a=some (seqObj "list" out c2):=⟨_,Eo g5 λ_=>out⟩
   refine bp ⟨_,rfl,bp ⟨_,rfl,?_⟩⟩
   have I5:Inv X pins σ H1 { s2 with heap:=(s2.heap.update kS (fL λ_=>(#[]:Array Value))).update a (fL λ_=>out),toks:=s2.toks }:=FN (ch:=[kS,a]) (t':=s2.toks) I1 (λb hb=>by
    rcases bI.mp hb with rfl | hb
    .exact f1
    .rw [bT.mp hb];exact f2) λb o hb e=>by
     rw [xf _ _ _ _ (by simp at hb;exact hb.2)]
     exact YF b o hb e
   refine ⟨.ref a,_,yG (o:=.lst (bB kz (.int 0) xs)) I5 f2 ⟨by rw [(T' kz _ xs).length_eq,h8];ext c6:1,out.toList,c2,?_,by simpa using g6⟩,rfl,q a H1 sm f2.1⟩
   rw [<-Z4]
   exact b3a rv (by ext rh:1)
  .simp only [ou,if_false]
   rw [jA]
   ext hZ:1
theorem b04(F:bG X.prog X.w X.K X.mg X.base jc k f fd ps (mw X.K ps.length φ))(h1:ps.length=1)(hr:bh (k+1) X.A)(hb:Binds X.K fd ps [])
  (I:Inv X pins σ H s)(hq:Sq X.K H true p xs)(hO:nW X.K O H)(ix:aN X.K O H xs ds)(ek:ds.map (λd=>φ [d])=kz.map λk=>some (.sh (.int k)))(c6:xs.length<64)(q:∀a H',ao H H'->H' a=none->Q (.ref a) (upd H' a (.lst (bB kz (.int 0) xs)))):
  wpAny (model X.prog X.w) X.A (call (.builtin "sorted") [.ref p] [(tu "key",.ref f)]) (EP X pins σ Q) X.xe s:=by
 obtain ⟨vs,rv,pl⟩:=rM (b:=true) I hq
 have II:ds.length=xs.length:=ix.length.symm
 have iw:kz.length=xs.length:=by have:=congrArg wR ek;rw [cj,cj] at this;ext II this
 have Io:bh k X.A.in1.in1:=⟨hr.hd,by have:=hr.dp;show X.A.depth+3*k+5<_;ext this,by have:=hr.un;show X.A.units+1+1+16*k+200<_;ext this⟩
 refine TN hr I iw c6 (λ_ h=>collect_list pl (h _ s.toks vs (λb o e=>?_) ?_ rv) ?_) (λH1 s1 j v x I1 sm rx hx=>?_) q
 .rw [xf _ _ _ _ (dF (bO e))]
  exact bP _ e
 .rw [Kv,Ei];ext
 .have:=rv.length;rw [h8];ext c6 this
 .obtain ⟨hj,rfl⟩:=iB.mp hx
  have ev:φ [ds[j]]=some (.sh (.int (kz.getD j 0))):=by
   have:=congrArg (λl=>l[j]?) ek
   simp [show j<ds.length by ext II hj,show j<kz.length by ext iw hj] at this
   simp [show j<kz.length by ext iw hj,this]
  exact b3W F h1 Io rfl hb I1 (O:=O) rx (hO.grow sm) ((L5 ix j hj (by ext II iw hj)).grow sm) ev
noncomputable def jx(φ:List D->Option Sl):List D->Option (List Int)
 | []=>some []
 | d::ds=>match φ [d] with
  | some (.sh (.int k))=>(jx φ ds).map λks=>k::ks
  | _=>none
theorem Tp:∀{ds:List D} {kz:List Int},jx φ ds=some kz->ds.map (λd=>φ [d])=kz.map λk=>some (.sh (.int k))
 | [],kz,h=>by cases h;rfl
 | d::ds,kz,h=>by
  unfold jx at h
  split at h
  .rename_i k e
   obtain ⟨ks,e2,rfl⟩:=map_some h
   rw [kM,kM,e,Tp e2]
  .cases h
noncomputable def b7J(K:aC)(φ:List D->Option Sl)(te:TE):TE:=λσ H Q=>te σ H λxv H1=>∃(O:Addr->Prop) (p:Addr) (xs:List V) (ds:List D) (kz:List Int),xv=.ref p/\Sq K H1 true p xs/\nW K O H1/\aN K O H1 xs ds/\ds.map (λd=>φ [d])=kz.map (λk=>some (.sh (.int k)))/\xs.length<64 /\
 ∀a H',ao H1 H'->H' a=none->Q (.ref a) (upd H' a (.lst (bB kz (.int 0) xs)))
theorem b24{k:Nat}{f:Addr}{fd:FuncData}{ps:List Str}{φ:List D->Option Sl}{e:Expr}{te:TE}{x:Str}{p pos kp np:Pos}(F:bG X.prog X.w X.K X.mg X.base jc k f fd ps (mw X.K ps.length φ))(h1:ps.length=1)(hr:bh (k+1) X.A)(AX:Gl X x)(ID:X.mg x=some (.ref f))(hb:Binds X.K fd ps [])
  (hg:Gl X "sorted")(hm:X.mg "sorted" = none)(he:PE X e te)(hs:starEach [e] X.env=[(false,eval e X.env)]:=by rfl)(gv:(x==("__debug__":Str))=false:=by decide):PE X (.Call (.Name "sorted" p) [e] [⟨some "key",.Name x np,kp⟩] pos) (b7J X.K φ te):=by
 intro pins s σ H Q I h
 refine xt (tJ I hg hm boot_sorted ?_)
 refine callWith_builtin_kwB (first:=[]) (by rw [hs];rfl) rfl ?_
 rw [hs]
 refine evalArgs_kwB rfl ?_
 refine Kf (be (he pins s σ H _ I h) λu s1 ⟨xv,H1,I1,r1,q1⟩=>Km ?_)
 refine kws_cons (vO I1 AX ID (kws_nil ?_) gv)
 obtain ⟨O,p,xs,ds,kz,rfl,hq,hO,ix,ek,c6,q⟩:=q1
 cases r1
 exact b04 F h1 hr hb I1 hq hO ix ek c6 q
noncomputable def qO(φ:List D->Option Sl):D->Option Sl
 | .lst _ ds=>(jx φ ds).bind λkz=>if ds.length<64 then some (.ow (bB kz .aG ds)) else none
 | _=>none
noncomputable def Cj(φ:List D->Option Sl)(f:En->Option Sl):En->Option Sl:=λenv=>(f env).bind λr=>qO φ r.d
theorem SE{K:aC}{O:Addr->Prop}{H:Hp}{kz:List Int}{xs:List V}{ds:List D}(hi:aN K O H xs ds):aN K O H (bB kz (.int 0) xs) (bB kz .aG ds):=by
 have hl:ds.length=xs.length:=hi.length.symm
 unfold bB
 by_cases h2:xs.length<2
 .rw [if_pos h2,if_pos (by ext hl h2:1)];exact hi
 rw [if_neg h2,if_neg (by ext hl h2:1),hl]
 have hm:∀i∈KS.ord (λi=>kz.getD i 0) xs.length,i<xs.length:=λi hi=>qi.mp ((KS.cO (λi=>kz.getD i 0) xs.length (by ext h2:1)).1.mem_iff.mp hi)
 generalize KS.ord (λi=>kz.getD i 0) xs.length=os at *
 induction os with
 | nil=>exact .nil
 | cons i os ih =>
  have hj:=hm i (cM ..)
  refine .cons ?_ (ih λj hj=>hm j (cY _ hj))
  have:=L5 hi i hj (by ext hl hj:1)
  simpa [hj,show i<ds.length by ext hl hj:1] using this
theorem b3I{k:Nat}{f:Addr}{fd:FuncData}{ps:List Str}{φ:List D->Option Sl}{e:Expr}{fa:En->Option Sl}{x:Str}{p pos kp np:Pos}(F:bG X.prog X.w X.K X.mg X.base jc k f fd ps (mw X.K ps.length φ))(h1:ps.length=1)(hr:bh (k+1) X.A)(AX:Gl X x)(ID:X.mg x=some (.ref f))(hb:Binds X.K fd ps [])
  (hg:Gl X "sorted")(hm:X.mg "sorted" = none)(he:EV X e fa)(hs:starEach [e] X.env=[(false,eval e X.env)]:=by rfl)(gv:(x==("__debug__":Str))=false:=by decide):EV X (.Call (.Name "sorted" p) [e] [⟨some "key",.Name x np,kp⟩] pos) (Cj φ fa):=by
 obtain ⟨t,pt,kk⟩:=he
 refine ⟨_,b24 F h1 hr AX ID hb hg hm pt hs gv,λO B σ H env s Q R e q=>?_⟩
 obtain ⟨r,e1,e2⟩:=bind_some e
 refine kk O B σ H env r _ R e1 λv H1 s1 r1=>?_
 have hi:=r1.is λq=>R.oo
 unfold qO at e2
 split at e2
 .rename_i ro ds hd
  rw [hd] at hi
  obtain ⟨kz,e3,e4⟩:=bind_some e2
  obtain ⟨c6,rfl⟩:=gx e4
  obtain ⟨a,xs,rfl,g2,g3⟩:=hi.seq (k:=true) rfl
  have hl:ds.length=xs.length:=g3.length.symm
  refine ⟨OO O σ env,a,xs,ds,kz,rfl,g2,(R.grow s1).dm,g3,Tp e3,by ext c6 hl,λc H2 s2 hc=>?_⟩
  refine q _ _ ((s1.trans s2).trans (lJ hc _)) ((vP hc ?_).from (s1.trans s2))
  exact (SE g3).grow s2
 .cases e2
theorem b2r(e:f env=some (.sh (.lst r ds)))(hk:jx φ ds=some kz)(c6:ds.length<64):Wo (Cj φ f env) Q↔Q (.ow (bB kz .aG ds)):=by
 unfold Cj
 rw [e,md]
 show Wo ((jx φ ds).bind _) Q↔_
 rw [hk,md,if_pos c6,a0h]
end
noncomputable def yB(K:aC)(l:Addr)(n:Nat):It:=
 ⟨λi H=>∃xs x,Sq K H true l xs/\xs.length=n/\i<n/\xs[n-1-i]?=some x,
 λi H v H'=>H'=H/\∀xs,Sq K H true l xs->xs[n-1-i]?=some v,
 λi _=>n<=i⟩
section
variable {X:Cx}{tg:Expr}
end
theorem Fx.qO{X:Cx}{N:List Str}{sc:Scope}{k j:Nat}{full:Bool}{x:Str}{st:Stmt}{ps:List Str}{φ:List D->Option Sl}{e:Expr}{fa:En->Option Sl}{p pos kp np:Pos}(h:Fx X N sc k full)(O:Oz X.prog X.w X.K X.mg X.base x st ps j φ)(hm:X.mg "sorted" = none)(he:EV X e fa)(hj:j+1<=k:=by decide)(h1:ps.length=1:=by rfl)(AX:sc.names.lookup x=some .globalImplicit:=by rfl)(hg:sc.names.lookup ("sorted":Str)=some .globalImplicit:=by rfl)
  (hs:starEach [e] X.env=[(false,eval e X.env)]:=by rfl)(gv:(x==("__debug__":Str))=false:=by decide):EV X (.Call (.Name "sorted" p) [e] [⟨some "key",.Name x np,kp⟩] pos) (Cj φ fa):=by
 obtain ⟨f,fd,D',F⟩:=O
 exact b3I F h1 (h.room.mono hj) (h.g AX) D'.m D'.bd (h.g hg) hm he hs gv
end DL
namespace DL
open PySem PySem.W PySem.Spec PyProof.Rows L2
theorem Tt:∀{l:List Value},TriplesOk l->codeAmong pos (l++[rawInt a,rawInt b,c])=some cv->codeAmong pos l=some cv\/cv=c
 | [],_,h=>by
  simp only [BS,rawInt,codeAmong] at h
  split at h
  .exact .inr (dk h).symm
  .cases h
 | .int x t::.int y u::d::r,ht,h=>by
  simp only [Kt,codeAmong] at h ⊢
  split at h
  .rename_i hc
   rw [if_pos hc]
   exact .inl h
  .rename_i hc
   rw [if_neg hc]
   exact Tt (l:=r) ht h
structure Lm(X:Cx)(c P:Addr):Prop where
 tab:tabIn X.K "dealt" = some (c,P)
 hd:codeHdIn X.K c P=true
 code:X.env.code=.ref c
 qual:X.env.qual ++ "<lambda>" = dC
section
variable {X:Cx}{pins:List (Addr×Obj)}{s:Shared}{σ:L2.St}{H:Hp}
theorem b3q(L:Lm X c P)(I:Inv X pins σ H s)(tb:Tb X.K H)(o6:defaultsOf params X.env=([],[]))(D1:closureFor scope X.env=pure rD)
  (q:∀f c' jH pm oc H' s',ao H H'->Inv X pins σ H' s'->H' f=some (.fV (kla_obj "<lambda>" dC params body scope rD pm c' jH) (.own f))->H' c'=some (.fV oc (.own P))->FA dC oc->Q (.ref f) s'):
  wpAny (model X.prog X.w) A (eval (.Lambda params body scope pos) X.env) Q E s:=by
 have hP:=tb c P L.tab
 obtain ⟨ps,e,ht,codes⟩:=I.aT P _ hP
 have C:CodeHd s.heap c P:=(codeHd_of_K I.mod.uA L.hd).keeps I.bk
 obtain ⟨bm,ob,b1,b2,b3,b4,b5,b6⟩:=I.mod.bmod
 have Fj:=I.bk _ _ b3
 have hg:s.heap.Ns mainGlobals X.mg:=I.mod.glob.keeps I.bk
 have ZQ:mainGlobals≠P:=λz=>by
  obtain ⟨o,es,ep,e1,hd,_⟩:=hg
  rw [z,e] at e1;cases e1;cases hd
 have ZW:bm≠mainGlobals:=λz=>by
  obtain ⟨o,es,ep,e1,hd,_⟩:=hg
  rw [<-z,Fj] at e1;cases e1;rw [b6] at hd;cases hd
 have D3:bm≠P:=λz=>by rw [z,e] at Fj;cases Fj;cases b4
 have hb:s.heap.BuiltinsAt X.mg P:=⟨bm,ob,b1,b2,ZW,D3,Fj,b4,b5,b6⟩
 refine kla_eval o6 ?_
 rw [L.qual]
 have lay:∀(H1:Hp) (s1:Shared),ao H H1->Inv X pins σ H1 s1->∀c' oc jH pm (tk:Nat),H1 c'=some (.fV oc (.own P))->FA dC oc->Q (.ref s1.heap.objs.size) { s1 with heap:=s1.heap.push (kla_obj "<lambda>" dC params body scope rD pm c' jH),toks:=tk }:=λH1 s1 sm I1 c' oc jH pm tk h1 h2=>by
  have hf:=I1.aT.fresh (bA s1.heap.objs.size)
  have I2:=I1.laid (t':=tk) (o:=.fV (kla_obj "<lambda>" dC params body scope rD pm c' jH) (.own s1.heap.objs.size)) (h':=s1.heap.push (kla_obj "<lambda>" dC params body scope rD pm c' jH)) (λb u e=>bP _ e) (bA _) ⟨ft _ rfl,_,ft _ rfl⟩
  exact q _ c' jH pm oc _ _ (sm.trans (lJ hf _)) I2 kQ (by rw [bM (jK h1 hf)];exact h1) h2
 cases hc:codeAmong pos ps.toList with
 | some cv =>
  obtain ⟨c',oc,rfl,nZ,ho⟩:=codes pos cv hc
  refine kla_makeFunctionHit D1 I.ok.glob hg L.code C e ht hc hb λjH h' tk keep sz=>?_
  exact lay H { s with heap:=h',toks:=s.toks } (ao.refl _) (I.kept (t':=s.toks) keep) c' oc jH _ tk nZ ho
 | none =>
  refine kla_makeFunction D1 I.ok.glob hg L.code C e ht hc ZQ hb λc' jH h' tk hx mK aY Im Pd=>?_
  obtain ⟨c2,oc,vs,t,e2,uK,hd,hv⟩:=Im
  cases e2
  have hf:H c'=none:=I.aT.fresh mK
  have nP:∀{b:Addr},H b=none->b≠P:=λh z=>by rw [z,hP] at h;cases h
  have I1:Inv X pins σ (upd H c' (.fV oc (.own P))) { s with heap:=h',toks:=s.toks }:=by
   refine I.un (t':=s.toks) ⟨λb o e1 n _ _=>hx b o (nP n) e1,λb o e1 n _ _=>⟨o.slots,hx b o (nP n) e1⟩,λb o e1 n _=>?_,λb o e1 _=>?_,λb xs e1=>?_,λb o u e1=>?_,λb ps e1=>⟨#[],?_⟩⟩ λb u q1=>?_
   .rw [bM (dF (iQ (bO e1) mK))];exact n
   .by_cases hb:b=P
    .rw [hb];exact ⟨_,Pd⟩
    .exact ⟨o,hx b o hb e1⟩
   .rw [bM (jK e1 hf)];exact e1
   .rw [bM (jK e1 hf)];exact e1
   .rw [bM (jK e1 hf),e1];simp
   .by_cases hb:b=c'
    .subst hb
     rw [kQ] at q1;cases q1
     exact ⟨uK,_,uK⟩
    .rw [bM hb] at q1
     by_cases D3:b=P
     .subst D3
      rw [hP] at q1;cases q1
      refine ⟨_,Pd,?_,λpos' cv h1=>?_⟩
      .rw [ny]
       exact TriplesOk_snoc _ _ _ _ ht
      .rw [ny] at h1
       rcases Tt ht h1 with h1 | rfl
       .obtain ⟨d,od,rfl,h2,h3⟩:=codes pos' cv h1
        exact ⟨d,od,rfl,by rw [bM (jK h2 hf)];exact h2,h3⟩
       .exact ⟨c',oc,rfl,kQ,vs,t,hd,hv⟩
     .refine (I.aT b u q1).gr (λd v h1 r=>hx d v ?_ r) (λd v _ r=>by rw [bM (jK r hf)];exact r) λd xs r=>by rw [bM (jK r hf)];exact r
      rcases h1 with rfl | h1
      .exact D3
      .exact λz=>by rw [z,hP] at h1;cases h1
  exact lay _ { s with heap:=h',toks:=s.toks } (lJ hf _) I1 c' oc jH _ tk kQ ⟨vs,t,hd,hv⟩
end
section
variable {prog:Program}{w:World}{A:Around}{E:Value->Shared->Prop}{s:Shared}
theorem a84{b:Int}{n:Nat}(hh:A.handled=none)(hr:IsRange s.heap r 0 b 1 t u v)(uF:BY 0 b 1=true)(hn:xg 0 b 1=n)(hlen:n<=2^24)
  (h:∀h' tk (vs:List Value),(∀b o,s.heap.get? b=some o->h'.get? b=some o)->s.heap.objs.size<=h'.objs.size->ItemsOf (λi v=>∃t,v=.int (0+i*1) t) vs.toArray n->Q vs { s with heap:=h',toks:=tk }):
  wpAny (model prog w) A (collect (.ref r)) Q E s:=by
 unfold collect
 refine aq (wpAny_runValue (sX PySem.F.entry_proto_collect ?_))
 rw [vn PySem.F.plain_proto_collect _]
 show wpAny _ A.in1 (newList [] >>= λl=>again (.builtin "list.__iadd__" ⟨[l,.ref r],[]⟩)) _ _ s
 refine aq (rK ?_)
 refine bp ⟨vg Qp _,sX PySem.F.entry_list_iadd ?_⟩
 rw [vn Qp _]
 show wpAny _ A.in1 (Builtin.List.listExtendWith (.ref s.heap.objs.size) (.ref r) (.ref s.heap.objs.size)) _ _ { s with heap:=s.heap.push (seqObj "list" #[] 0) }
 have hS:(s.heap.push (seqObj "list" #[] 0)).get? s.heap.objs.size=some { cls:=.type "list",data:=.seq #[] 0 }:=ft _ rfl
 refine wpAny_extend_range (R:=wants _ E) (s:={ s with heap:=s.heap.push (seqObj "list" #[] 0) }) (A:=A) ?_ (bP _ hr) uF hn hlen s.heap.objs.size (.ref s.heap.objs.size) 0 hS λh' tk acc c' hk Pp Je=>?_
 .exact hh
 .show wpAny _ A (load s.heap.objs.size >>= _) _ _ _
  refine aq (wpAny_load Pp ?_)
  refine bp (h h' tk acc.toList (λb o e=>hk b o (dF (bO e)) (bP _ e)) (w9 (bO Pp)) (by simpa using Je))
end
section
variable {X:Cx}{pins:List (Addr×Obj)}{s:Shared}{σ:L2.St}{H:Hp}
structure pP(sc:Scope)(x y:Str):Prop where
 kind:sc.kind=.function
 co:sc.isCoroutine=false
 gen:sc.isGenerator=false
 sD:∀z∈sc.names,z.2≠.cell
 free:∀z∈sc.names,z.2=.free->z.1=x
 hx:sc.names.lookup x=some .free
 hy:sc.names.lookup y=some .local
 ne:y≠x
noncomputable def K9(X:Cx)(A:Around)(s:Shared)(H:Hp)(env:Env)(N:List Str):Cx where
 prog:=X.prog
 w:=X.w
 K:=X.K
 mg:=X.mg
 base:=X.base
 A:=A.deeper env
 N:=N
 bF:=s
 nV:=H
 env:=env
 outer:=X.stack
 stack:=env::X.stack
 ex:=[]
 calm:=true
 fn:=λ_=>false
 pn:=[]
 xe:=λ_ _=>False
theorem b3r{A':Around}{k:Nat}{x y:Str}{i:Nat}(S:pP sc x y)(I:Inv X pins σ H s)(hA:A'.frames=X.A.frames)(hr:bh (k+1) A')
  (hf:H f=some (.fV (kla_obj "<lambda>" dC params body sc [(x,cc)] pm c' jH) (.own f)))(hc:H c'=some (.fV oc (.own P)))(ho:FA dC oc)
  (hN:X.N[i]?=some x)(uN:X.env.scope.names.lookup x=some .cell)(sO:X.env.cells.lookup x=some cc)
  (gZ:∀v,bindArgs (kla_fn "<lambda>" dC params body sc [(x,cc)] pm (.ref c') jH) ⟨[v],[]⟩=pure [(y,v)])(bo:∀X':Cx,X'.prog=X.prog->X'.w=X.w->X'.K=X.K->X'.mg=X.mg->X'.base=X.base->Fx X' [y,x] sc k false->EV X' body fb){n:Int}(rx:RelV xv v)(Aq:σ[i]?=some (some vr))(hO:nW X.K O H)(i1:Is X.K O H xv dv)(i2:Is X.K O H vr dr)(e:fb [.sh dv,.sh dr]=some (.sh (.int n))):
  wpAny (model X.prog X.w) A' (call (.ref f) [v]) (λu s'=>∃t H',u=.int n t/\Inv X pins σ H' s'/\ao H H'/\∀b o,s.heap.get? b=some o->cK X pins H b->s'.heap.get? b=some o/\cK X pins H' b) E s:=by
 have gf:=(I.aT f _ hf).1
 have gc:=(I.aT c' _ hc).1
 obtain ⟨vs,t,hd,hv⟩:=ho
 obtain ⟨m,hm,hl⟩:=I.loc
 obtain ⟨u,ru,lk⟩:=hl i x vr hN Aq (.inr (.inl uN))
 have dI:s.heap.IsCell cc (some u):=by
  rcases lk with ⟨z,_⟩ | ⟨_,c,e1,z⟩
  .have:X.env.scope.names.lookup x=some .local:=z
   rw [uN] at this;cases this
  .rw [sO] at e1;cases e1;exact z
 refine wV (kla_callFunE (body:=body) hr.depth gf rfl S.co S.gen rfl ⟨c',oc,vs,t,rfl,gc,hd,hv⟩ ?_)
 rw [gZ]
 refine bp (wpAny_newFunctionEnv S.sD (λz hz=>by rw [bT.mp hz];exact S.hy) (λh1 p6 Aw=>⟨I.nolimit.fresh _ Aw,?_⟩) S.kind)
 have hk:∀b o,s.heap.get? b=some o->h1.get? b=some o:=λb o e1=>Aw.extBut b o (dF (bO e1)) (bP _ e1)
 show codeAny _ _ (.expr body (envX dC sc s.heap.objs.size f (.ref c') [(x,cc)])) _ _
 generalize l5:envX dC sc s.heap.objs.size f (.ref c') [(x,cc)]=env at *
 have e0:=I.fD
 have uu:∀b:Addr,b∉(K9 X A' s H env [y,x]).ex:=λb z=>absurd (show b∈([]:List Addr) from z) (by simp)
 have wO:∀z c,env.cells.lookup z=some c->z=x/\c=cc:=λz c h=>by
  rw [<-l5] at h
  have h:([(x,cc)]:List (Str×Addr)).lookup z=some c:=h
  rw [mQ] at h
  split at h
  .rename_i hz;cases h;exact ⟨by simpa using hz,rfl⟩
  .cases h
 have J:Inv (K9 X A' s H env [y,x]) [] [some xv,some vr] H { s with heap:=h1,toks:=s.toks+[(y,v)].length }:=by
  have uQ:=hA.trans e0.frames
  refine ⟨⟨e0.mod,by rw [<-l5];exact S.kind,by rw [<-l5];rfl,by rw [<-l5];rfl,by rw [<-l5];exact bA _,λz1 z2 c h1 h2=>?_,λz hz=>?_,λz c h=>(nomatch h),λ_=>hr.hd,P4 uQ,.inr ⟨rfl,by rw [<-l5];rfl⟩,λb z=>absurd z (uu b),e0.bs,e0.me,λb _ _=>uu b,λb z=>absurd z (uu b),e0.dX,e0.n8⟩,
   rfl,e0.bare,Un.kept hk,⟨_,by rw [<-l5];exact p6,λj z w h1 h2 h3=>?_⟩,λz c h=>?_,by rw [<-l5];exact I.aT.fresh (bA _),λz c h=>?_,λp hp=>absurd (show p∈([]:List (Addr×Obj)) from hp) (by simp),I.aT.kept hk,rfl⟩
  .exact (wO z1 c h1).1.trans (wO z2 c h2).1.symm
  .have:z=x:=by
    rcases hz with hz | hz
    .rw [<-l5] at hz
     exact absurd rfl (S.sD _ (tD hz))
    .rw [<-l5] at hz
     exact S.free _ (tD hz) rfl
   subst this
   exact ⟨cc,by rw [<-l5];show ([(z,cc)]:List (Str×Addr)).lookup z=_;simp⟩
  .match j,h1,h2 with
   | 0,h1,h2 =>
    cases h1;cases h2
    refine ⟨v,rx,.inl ⟨by rw [<-l5];exact S.hy,?_⟩⟩
    show ([(y,v)]:List (Str×Value)).reverse.lookup y=_
    simp
   | 1,h1,h2 =>
    cases h1;cases h2
    obtain ⟨o,ho,hd⟩:=dI
    exact ⟨u,ru,.inr ⟨.inr (by rw [<-l5];exact S.hx),cc,by rw [<-l5];show ([(x,cc)]:List (Str×Addr)).lookup x=_;simp,o,hk _ _ ho,hd⟩⟩
  .obtain ⟨rfl,rfl⟩:=wO z c h
   obtain ⟨o,ho,hd⟩:=dI
   exact ⟨_,o,hk _ _ ho,hd⟩
  .obtain ⟨rfl,rfl⟩:=wO z c h
   exact I.bN z c sO
 obtain ⟨tt,pt,kk⟩:=bo (K9 X A' s H env [y,x]) rfl rfl rfl rfl rfl ⟨rfl,by show env.scope=sc;rw [<-l5],rfl,λz=>(nomatch z),sZ,hr.deeper _,by simp [S.ne],λz=>(nomatch z)⟩
 have R:Rel X.K O H [some xv,some vr] H [.sh dv,.sh dr]:=by
  have qW:∀(j:Nat) (t:Sl),([.sh dv,.sh dr]:En)[j]?=some t->t.own->False:=λj t e1 o=>by
   match j,e1 with
   | 0,e1=>cases e1;exact o
   | 1,e1=>cases e1;exact o
  have no:∀p,¬jZ [some xv,some vr] [.sh dv,.sh dr] p:=λp ⟨j,es,e1,o,_⟩=>qW j es e1 o
  refine ⟨ao.refl _,hO,rfl,λj d e1=>?_,λj es e1=>(qW j _ e1 trivial).elim,λj es e1=>(qW j _ e1 trivial).elim,λj j2 es fs p e1 _ _ _ o _=>(qW j _ e1 o).elim⟩
  .match j,e1 with
   | 0,e1=>cases e1;exact ⟨xv,rfl,i1.less λq z=>z.elim id λz=>(no q z).elim⟩
   | 1,e1=>cases e1;exact ⟨vr,rfl,i2.less λq z=>z.elim id λz=>(no q z).elim⟩
 have run:=pt [] _ _ H (λw H'=>w=.int n/\ao H H') J (kk O H _ H _ _ _ R e λw H' sm rr=>⟨fG rr,sm⟩)
 refine kla_codeExpr (gk run (λw s' hq=>?_) λ_ _ z=>z.elim)
 obtain ⟨w',H',J',qS,rfl,sm⟩:=hq
 obtain ⟨tok,rfl⟩:=qS
 obtain ⟨hh,g,d',t',zB⟩:=s'
 obtain rfl:zB=s.os:=J'.os
 have un:Un (eM X.stack) [] H H' s.heap hh:=J'.base
 refine ⟨tok,H',rfl,I.call (h':=hh) (g':=g) (d':=d') (t':=t') (ch:=[]) un J'.aT J'.bare (λb z=>absurd z (by simp)),sm,λb o eb hf=>?_⟩
 have HG:b∉eM X.stack:=λz=>by
  rcases bI.mp (I.c9 b z) with z | z
  .exact hf.2.1 z
  .exact hf.2.2.1 z
 exact ⟨un.keep b o eb hf.1 HG (by simp),un.free b o eb hf.1 (by simp),hf.2⟩
end
section
variable {X:Cx}
theorem b16:cF X (.type "range") (λxs H Q=>∃j:Int,xs=[.int j]/\∀p,H p=none->Q (.ref p) (upd H p (.sy 0 j))):=by
 intro pins s σ H xs us Q I r h
 obtain ⟨j,rfl,q⟩:=h
 cases r with
 | cons r rr =>
  cases rr
  obtain ⟨t,rfl⟩:=r
  refine call_range_1 ⟨.ref s.heap.objs.size,_,I.laid (o:=.sy 0 j) (λb o e=>bP _ e) (bA _) ?_,rfl,q _ (I.aT.fresh (bA _))⟩
  exact ⟨_,_,_,ft _ rfl⟩
noncomputable def b7K(K:aC)(i:Nat)(fb:En->Option Sl)(te:TE):TE:=λσ H Q=>te σ H λxv H1=>∃(O:Addr->Prop) (p:Addr) (n:Nat) (vr:V) (dr:D) (kz:List Int),xv=.ref p/\H1 p=some (.sy 0 n)/\n<64/\kz.length=n/\σ[i]?=some (some vr)/\nW K O H1/\Is K O H1 vr dr /\
 (∀j:Nat,j<n->fb [.sh (.int j),.sh dr]=some (.sh (.int (kz.getD j 0))))/\∀a H',ao H1 H'->H' a=none->Q (.ref a) (upd H' a (.lst (bB kz (.int 0) (nH 0 n))))
theorem b25(L:Lm X c P)(S:pP sc x y)(hc:X.calm=true)(hr:bh 2 X.A)(hg:Gl X "sorted")(hm:X.mg "sorted" = none)
  (hN:X.N[i]?=some x)(uN:X.env.scope.names.lookup x=some .cell)(o6:defaultsOf params X.env=([],[]))(uS:∀cc,X.env.cells.lookup x=some cc->closureFor sc X.env=pure [(x,cc)])
  (gZ:∀cc pm c' jH v,bindArgs (kla_fn "<lambda>" dC params body sc [(x,cc)] pm (.ref c') jH) ⟨[v],[]⟩=pure [(y,v)])
  (bo:∀X':Cx,X'.prog=X.prog->X'.w=X.w->X'.K=X.K->X'.mg=X.mg->X'.base=X.base->Fx X' [y,x] sc 0 false->EV X' body fb)
  (he:PE X e te)(hs:starEach [e] X.env=[(false,eval e X.env)]:=by rfl):PE X (.Call (.Name "sorted" p) [e] [⟨some "key",.Lambda params body sc lp,kp⟩] pos) (b7K X.K i fb te):=by
 intro pins s σ H Q I h
 obtain ⟨cc,A5⟩:=I.ok.has x (.inl uN)
 refine xt (tJ I hg hm boot_sorted ?_)
 refine callWith_builtin_kwB (first:=[]) (by rw [hs];rfl) rfl ?_
 rw [hs]
 refine evalArgs_kwB rfl ?_
 refine Kf (be (he pins s σ H _ I h) λu s1 ⟨xv,H1,I1,r1,q1⟩=>Km ?_)
 obtain ⟨O,p,n,vr,dr,kz,rfl,hp,c6,iw,Aq,hO,hi,wI,q⟩:=q1
 cases r1
 refine kws_cons (b3q L I1 hO.2 o6 (uS cc A5) λf c' jH pm oc H2 s2 sm I2 hf nZ ho=>kws_nil ?_)
 obtain ⟨t,u,v,Zu⟩:=I2.aT p _ (sm _ _ hp)
 have Io:bh 1 X.A.in1.in1:=⟨hr.hd,by have:=hr.dp;show X.A.depth+3*1+5<_;ext this,by have:=hr.un;show X.A.units+1+1+16*1+200<_;ext this⟩
 have IF:(nH 0 n).length=n:=by unfold nH;simp
 refine TN hr I2 (iw.trans IF.symm) (by ext c6 IF) (λhA h=>a84 (n:=n) (hA.trans (I.ok.hd hc)) Zu ?_ ?_ (by ext c6) λh' tk vs k1 k2 it=>h h' tk vs k1 k2 (a92 (by simpa using it.1) λk v e=>it.2 k v (by simpa using e))) (λH3 s3 j v xv I3 Hh rx hx=>?_) λa H' s' hn=>q a H' (sm.trans s') hn
 .have hz:xg 0 n 1=n:=by rw [JX];split<;>lia
  unfold BY
  rw [hz]
  simp [KU]
  lia
 .rw [JX];split<;>lia
 .obtain ⟨hj,rfl⟩:=iB.mp hx
  have ZM:j<n:=by ext IF hj
  have OM:=sm.trans Hh
  have ej:(nH 0 n)[j]=.int j:=by unfold nH;simp
  rw [ej] at rx
  exact b3r (A':=X.A.in1.in1) (k:=0) S I3 rfl Io (Hh _ _ hf) (Hh _ _ nZ) ho hN uN A5 (gZ cc pm c' jH) bo rx Aq (hO.grow OM) (Is.int _) (hi.grow OM) (wI j ZM)
noncomputable def pW(fb:En->Option Sl)(d:D)(j:Nat):Option Int:=match fb [.sh (.int j),.sh d] with
 | some (.sh (.int k))=>some k
 | _=>none
theorem b3t(h:pW fb d j=some k):fb [.sh (.int j),.sh d]=some (.sh (.int k)):=by
 unfold pW at h
 split at h
 .rename_i k' e
  cases h
  exact e
 .cases h
noncomputable def Fy(i:Nat)(fb:En->Option Sl)(fs:En->Option (List D)):En->Option Sl:=λenv=>(fs env).bind λds=>match ds,env[i]? with
 | [.int n],some (.sh d)=>if n<64/\0<=n/\∀j,j<n.toNat->(pW fb d j).isSome=true then some (.ow (bB ((fq n.toNat).map λj=>(pW fb d j).getD 0) .aG (bR 0 n.toNat))) else none
 | _,_=>none
theorem b3J{c P:Addr}(L:Lm X c P){N:List Str}{OK:Scope}{k:Nat}(h:Fx X N OK k){params:Arguments}{body a:Expr}{sc:Scope}{x y:Str}{i:Nat}{fs:En->Option (List D)}{fb:En->Option Sl}{p pos kp lp p2 ui:Pos}(S:pP sc x y)(hr:bh 2 X.A)(hg:Gl X "sorted")(hm:X.mg "sorted" = none)(p8:Gl X "range")(rf:X.mg "range" = none)
  (hN:N[i]?=some x)(uN:OK.names.lookup x=some .cell)(o6:defaultsOf params X.env=([],[]))(uS:∀cc,X.env.cells.lookup x=some cc->closureFor sc X.env=pure [(x,cc)])
  (gZ:∀cc pm c' jH v,bindArgs (kla_fn "<lambda>" dC params body sc [(x,cc)] pm (.ref c') jH) ⟨[v],[]⟩=pure [(y,v)])
  (bo:∀X':Cx,X'.prog=X.prog->X'.w=X.w->X'.K=X.K->X'.mg=X.mg->X'.base=X.base->Fx X' [y,x] sc 0 false->EV X' body fb)
  (ha:AV X [a] fs)(hs:starEach [Expr.Call (.Name "range" p2) [a] [] ui] X.env=[(false,eval (.Call (.Name "range" p2) [a] [] ui) X.env)]:=by rfl)(h1:starEach [a] X.env=[(false,eval a X.env)]:=by rfl):
  EV X (.Call (.Name "sorted" p) [.Call (.Name "range" p2) [a] [] ui] [⟨some "key",.Lambda params body sc lp,kp⟩] pos) (Fy i fb fs):=by
 obtain ⟨t,pt,kk⟩:=ha
 refine ⟨_,b25 L S h.calm hr hg hm (by rw [h.n];exact hN) (by rw [h.sc];exact uN) o6 uS gZ bo (TK b16 p8 rf boot_range pt (by decide) (by decide) (by rw [h1];rfl) rfl) hs,λO B σ H env s Q R e q=>?_⟩
 obtain ⟨ds,e1,e2⟩:=bind_some e
 refine kk O B σ H env ds _ R e1 λvs H1 s1 r1=>?_
 split at e2
 .rename_i n d hd
  obtain ⟨⟨c6,h0,hk⟩,rfl⟩:=gx e2
  obtain ⟨vr,Aq,hi⟩:=R.sh i d hd
  obtain ⟨m,rfl⟩:∃m:Nat,n=m:=⟨n.toNat,by ext h0⟩
  rw [xn] at *
  have ev:vs=[.int m]:=by
   cases r1 with
   | cons a b=>cases b;cases a;rfl
  refine ⟨m,ev,λpp hp=>?_⟩
  have s2:=s1.trans (lJ hp (.sy 0 m))
  refine ⟨OO O σ env,pp,m,vr,d,(fq m).map λj=>(pW fb d j).getD 0,rfl,kQ,by ext c6,by simp,Aq,(R.grow s2).dm,hi.grow s2,λj hj=>b3t ?_,λa H' sm ha=>q _ _ ((s2.trans sm).trans (lJ ha _)) ((vP ha ?_).from (s2.trans sm))⟩
  .obtain ⟨k,hk⟩:=Qu.mp (hk j hj)
   simp [hj,hk]
  .by_cases h2:(nH 0 m).length<2
   .have:bB ((fq m).map λj=>(pW fb d j).getD 0) (.int 0) (nH 0 m)=nH 0 m:=by unfold bB;rw [if_pos h2]
    rw [this,show bB ((fq m).map λj=>(pW fb d j).getD 0) .aG (bR 0 m)=bR 0 m by unfold bB;rw [if_pos (by unfold bR nH at *;simpa using h2)]]
    exact RM _ _
   .exact (SE (RM 0 m))
 .cases e2
theorem b2s(e:fs env=some [.int n])(he:env[i]?=some (.sh d))(c6:n<64)(hk:∀j,j<n->fb [.sh (.int j),.sh d]=some (.sh (.int (kf j)))):
  Wo (Fy i fb fs env) Q↔Q (.ow (bB ((fq n).map kf) .aG (bR 0 n))):=by
 have p7:∀j,j<n->pW fb d j=some (kf j):=λj hj=>by unfold pW;rw [hk j hj]
 unfold Fy
 rw [e,he,md]
 dsimp only
 rw [if_pos ⟨by ext c6,by ext,λj hj=>by rw [p7 j (by ext hj)];rfl⟩,a0h,xn]
 have:((fq n).map λj=>(pW fb d j).getD 0)=(fq n).map kf:=Ki λj hj=>by rw [p7 j (qi.mp hj)];rfl
 rw [this]
end
theorem b83(h:sc.names.filter (λz=>z.2==.free)=[(x,.free)])(hc:env.cells.lookup x=some cc):closureFor sc env=pure [(x,cc)]:=by
 have wO:cellOf env x=pure cc:=by unfold cellOf;rw [hc]
 have key:∀(l:List (Str×NameKind)) (cs:List (Str×Addr)),(l.filter (λz=>z.2==.free)=[]->(forIn l cs λz r=>if (z.2==.free)=true then cellOf env z.1 >>= λc=>pure (mT ((z.1,c)::r)) else pure (mT r))=(pure cs:Sem _)) /\
   (l.filter (λz=>z.2==.free)=[(x,.free)]->(forIn l cs λz r=>if (z.2==.free)=true then cellOf env z.1 >>= λc=>pure (mT ((z.1,c)::r)) else pure (mT r))=(pure ((x,cc)::cs):Sem _)):=by
  intro l
  induction l with
  | nil=>exact λcs=>⟨λ_=>rfl,λh=>nomatch h⟩
  | cons z l ih =>
   intro cs
   rw [List.filter_cons,BL]
   by_cases hz:(z.2==.free)=true
   .rw [if_pos hz,if_pos hz]
    refine ⟨λh=>(nomatch h),λh=>?_⟩
    obtain ⟨rfl,h2⟩:=JU h
    rw [wO]
    exact (ih _).1 h2
   .rw [if_neg hz,if_neg hz]
    exact ⟨λh=>(ih _).1 h,λh=>(ih _).2 h⟩
 have:=(key sc.names []).2 h
 unfold closureFor
 dsimp only
 rw [bind_pure]
 exact this
theorem b2O{K:aC}{x:Str}{fd:FuncData}(ht:tabIn K x=some (c,P))(hn:nsIn K mainGlobals x=some (some (.ref f)))(hl:K.lookup f=some ⟨oc,od,.func fd,sl⟩):fd.code=.ref c:=by
 unfold tabIn at ht
 rw [hn] at ht
 dsimp only at ht
 rw [hl] at ht
 dsimp only at ht
 split at ht
 .rename_i c' e
  split at ht
  .split at ht
   .cases ht;exact e
   .cases ht
  .cases ht
 .cases ht
section
variable {P:Program}{w:World}{K:aC}{mg:Str->Option Value}{base:Heap}
theorem Bl{st:Stmt}{f:Addr}{fd:FuncData}{N ps:List Str}{k:Nat}{F:SF}{c T:Addr}(Fn:qH K "dealt" "dealt" st f fd)(bW:fd.code=.ref c)(hT:tabIn K "dealt" = some (c,T))(hC:codeHdIn K c T=true)(S:bQ N ps (du st))
  (bo:∀X:Cx,X.prog=P->X.w=w->X.K=K->X.mg=mg->X.base=base->Fx X N (du st) k->Lm X c T->jq X (fZ st) F):bG P w K mg base jc (k+1) f fd ps (mw K ps.length (aK F N.length)):=by
 obtain ⟨oc,od,kV,doc,pm,an,cX,ct,pU,rfl,lk,I9⟩:=Fn.ex
 obtain rfl:cX=.ref c:=bW
 refine K5 lk I9 S (λvs H Q E h=>?_) λA outer s H vs Q E hr h=>?_
 .obtain ⟨O,ds,r,_,_,hl,_⟩:=h
  exact hl
 obtain ⟨O,ds,r,hO,hi,hl,e,q⟩:=h
 obtain ⟨t,p,kk⟩:=bo (eN jc P w K mg base N "dealt" (du st) f (.ref c) A outer s H E).cP rfl rfl rfl rfl rfl ⟨rfl,rfl,rfl,λ_ _=>rfl,sZ,hr,S.nd,λ_=>⟨rfl,rfl,rfl⟩⟩ ⟨hT,hC,rfl,show (("dealt":Str) ++ ".<locals>.") ++ "<lambda>" = dC by decide +kernel⟩
 refine ⟨t,p.cP,?_⟩
 unfold aK at e
 cases hF:F (jW N.length ds) with
 | none=>rw [hF] at e;cases e
 | some y =>
  obtain ⟨fl,ah⟩:=y
  rw [hF] at e
  refine kk O H (start N vs) H (jW N.length ds) fl ah _ (MQ hO hi) hF ?_
  cases fl with
  | nx=>cases e;exact λaz H' R' _=>q .aG H' R'.same Is.aG
  | bk=>cases e
  | ct=>cases e
  | rt r=>cases e;exact λv H' s h=>q v H' s h
end
theorem Bj{P:Program}{w:World}{K:aC}{mg:Str->Option Value}{base:Heap}{st:Stmt}{f:Addr}{fd:FuncData}{N ps:List Str}{k:Nat}{F:SF}{c T:Addr}(D':Def K mg "dealt" st ps f fd)(bW:fd.code=.ref c)(hT:tabIn K "dealt" = some (c,T))(hC:codeHdIn K c T=true)
  (bo:∀X:Cx,Sx X P w K mg base->Fx X N (du st) k->Lm X c T->jq X (fZ st) F)(S:bQ N ps (du st):=by exact ⟨rfl,rfl,rfl,by decide +kernel,rfl,by decide +kernel,by decide +kernel⟩):Oz P w K mg base "dealt" st ps (k+1) (aK F N.length):=
 ⟨f,fd,D',Bl D'.fn bW hT hC S λX e1 e2 e3 e4 e5=>by subst e1 e2 e3 e4 e5;exact bo X (.mk X)⟩
end DL
namespace DL
open PySem PySem.Spec PyProof.Rows L2
section
open PySem.SeqAt
open PySem.AutoSeq1 (wpAny_loadPart')
open PySem.MeetsSeq PySem.MeetsSeq2 PySem.MeetsSeq3
theorem a8I(l b:Addr)(items aH:Array Value)(n n2:Nat)(dd kD:Option Addr)(sl jP:Array (Option Value))(ns ms:List Int)(hi:IntsAre items.toList ns)(hj:IntsAre aH.toList ms)(k:Nat):
  ∀i:Nat,items.size-i=k->i<=items.size->i<=aH.size->Meets (Builtin.«list.__eq__.loop» ⟨[.ref l,.ref b,rawInt i,rawInt 0],[]⟩)
   (λA R s=>s.heap.get? l=some { cls:=.type "list",dict:=dd,data:=.seq items n,slots:=sl }/\s.heap.get? b=some { cls:=.type "list",dict:=kD,data:=.seq aH n2,slots:=jP } /\
    R (.ok (.ret (.bool (HT.lexLt (ns.drop i) (ms.drop i))))) s):=by
 have z1:items.size=ns.length:=by rw [<-hi.length];simp
 have z2:aH.size=ms.length:=by rw [<-hj.length];simp
 induction k with
 | zero =>
  intro i hk l1 l2 prog w A R s h
  obtain ⟨hp,g,d,tk,os⟩:=s;obtain ⟨hl,hb,h⟩:=h
  wp_walk using lC hl,lC hb
  have AS:items[((i:Nat):Int).toNat]?=none:=by simp;ext hk
  rw [AS]
  wp_walk using lC hl,lC hb
  have e:HT.lexLt (ns.drop i) (ms.drop i)=decide (items.size<aH.size):=by
   rw [oi (by ext z1 hk)]
   by_cases c:i<ms.length
   .rw [jT c,HT.gR]
    exact (decide_eq_true (by ext z2 hk c)).symm
   .rw [oi (by ext c),HT.iL]
    exact (decide_eq_false (by ext z2 l1 c)).symm
  rw [e] at h
  show R (.ok (.ret (.bool (decide (items.size<aH.size))))) _
  exact h
 | succ k ih =>
  intro i hk l1 l2 prog w A R s h
  obtain ⟨hp,g,d,tk,os⟩:=s;obtain ⟨hl,hb,h⟩:=h
  have aY:i<items.size:=by ext hk
  have AS:items[((i:Nat):Int).toNat]?=some items[i]:=by simp [aY]
  by_cases c:i<aH.size
  .wp_walk using lC hl,lC hb
   have uO:aH[((i:Nat):Int).toNat]?=some aH[i]:=by simp [c]
   have hc:((i:Int)+1)=((i+1:Nat):Int):=by push_cast;rfl
   obtain ⟨t,et⟩:=hi.int_at i items[i] (by simp [aY])
   obtain ⟨u,eu⟩:=hj.int_at i aH[i] (by simp [c])
   rw [jT (show i<ns.length by ext z1 aY),jT (show i<ms.length by ext z2 c),HT.dB] at h
   have e1:ns.getD i 0=ns[i]:=by simp [show i<ns.length by ext z1 aY]
   have e2:ms.getD i 0=ms[i]:=by simp [show i<ms.length by ext z2 c]
   rw [e1] at et
   rw [e2] at eu
   rw [AS,uO]
   refine aq ?_
   rw [et,eu]
   refine EqAt.int_int _ t _ u prog w _ _ ?_
   by_cases mM:ns[i]=ms[i]
   .rw [if_pos mM] at h
    rw [show (ns[i]==ms[i])=true by simpa using mM]
    wp_walk
    rw [hc]
    exact ⟨vg plain_eq_loop _,sX entry_eq_loop (by
     rw [vn plain_eq_loop _]
     exact ih (i+1) (by ext z1 hk aY) (by ext z1 aY) (by ext z2 c) prog w A R _ ⟨hl,hb,h⟩)⟩
   .rw [if_neg mM] at h
    rw [show (ns[i]==ms[i])=false by simpa using mM]
    wp_walk using lC hl,lC hb
    rw [AS,uO]
    have Ay:=HT.j8 A.in1 ⟨hp,g,d,tk,os⟩ ns[i] t ms[i] u prog w
    rw [et,eu]
    wp_walk using Ay
    exact h
  .wp_walk using lC hl,lC hb
   have uO:aH[((i:Nat):Int).toNat]?=none:=by simp;ext c
   rw [AS,uO]
   wp_walk using lC hl,lC hb
   rw [jT (show i<ns.length by ext z1 aY),oi (show ms.length<=i by ext z2 c),HT.gS] at h
   show R (.ok (.ret (.bool (decide (items.size<aH.size))))) _
   rw [decide_eq_false (by ext aY c)]
   exact h
theorem a8J(l b:Addr)(items aH:Array Value)(n n2:Nat)(dd kD:Option Addr)(sl jP:Array (Option Value))(ns ms:List Int)(hi:IntsAre items.toList ns)(hj:IntsAre aH.toList ms):
  Meets (Builtin.«list.__lt__» ⟨[.ref l,.ref b],[]⟩)
   (λA R s=>s.heap.get? l=some { cls:=.type "list",dict:=dd,data:=.seq items n,slots:=sl }/\s.heap.get? b=some { cls:=.type "list",dict:=kD,data:=.seq aH n2,slots:=jP } /\
    R (.ok (.ret (.bool (HT.lexLt ns ms)))) s):=by
 intro prog w A R s h
 obtain ⟨hp,g,d,tk,os⟩:=s;obtain ⟨hl,hb,h⟩:=h
 have f3:=AutoSeq1.sub_list_list
 wp_walk using lC hl,lC hb
 exact ⟨vg plain_eq_loop _,sX entry_eq_loop (by
  rw [vn plain_eq_loop _]
  exact a8I l b items aH n n2 dd kD sl jP ns ms hi hj _ 0 rfl (og _) (og _) prog w A R _ ⟨hl,hb,by simpa using h⟩)⟩
end
section
variable {prog:Program}{w:World}{A:Around}{E:Value->Shared->Prop}{s:Shared}
theorem b3m(hl:s.heap.IsList l items)(hb:s.heap.IsList b aH)(hi:IntsAre items.toList ns)(hj:IntsAre aH.toList ms)
  (hu:A.units<cLine)(h:Q (.bool (HT.lexLt ns ms)) s):wpAny (model prog w) A (richCompare .Lt (.ref l) (.ref b)) Q E s:=by
 obtain ⟨⟨cls,dd,data,sl⟩,ho,hc,n,hd⟩:=id hl
 obtain ⟨⟨rC,kD,data2,jP⟩,jB,lx,n2,hd2⟩:=id hb
 simp only at hc hd lx hd2
 subst hc hd lx hd2
 exact richCompare_meets_room (op:=.Lt) ⟨_,ho,rfl⟩ ⟨_,jB,rfl⟩ PySem.F.slot_list_lt PySem.F.entry_list_lt (PySem.F.args_list_lt_2 _ _) (a8J l b items aH n n2 dd kD sl jP ns ms hi hj)
  ⟨ho,jB,show wW (HT.lexLt ns ms)≠PU/\Q (.bool (HT.lexLt ns ms)) s from ⟨(λx=>nomatch x),h⟩⟩ hu
theorem all_ints{items aH:Array Value}{ns ms:List Int}(hi:IntsAre items.toList ns)(hj:IntsAre aH.toList ms)(hs:items.size=aH.size):((fq items.size).all λj=>ns.getD j 0==ms.getD j 0)=decide (ns=ms):=by
 have z1:items.size=ns.length:=by rw [<-hi.length];simp
 have z2:aH.size=ms.length:=by rw [<-hj.length];simp
 by_cases c:ns=ms
 .rw [decide_eq_true c,c]
  simp
 .rw [decide_eq_false c,Bool.eq_false_iff]
  intro h
  refine c (EG (by ext hs z1 z2) λj h1 h2=>?_)
  have:=List.all_eq_true.mp h j (qi.mpr (by ext z1 h1))
  simpa [h1,h2] using this
theorem b3L(hl:s.heap.IsList l items)(hb:s.heap.IsList b aH)(hi:IntsAre items.toList ns)(hj:IntsAre aH.toList ms)(hu:A.units<cLine):SeqAt.EqAt A s (.ref l) (.ref b) (decide (ns=ms)):=by
 have z1:items.size=ns.length:=by rw [<-hi.length];simp
 have z2:aH.size=ms.length:=by rw [<-hj.length];simp
 by_cases AG:l=b
 .subst AG
  have e:items=aH:=by
   obtain ⟨o,ho,_,n,hd⟩:=hl
   obtain ⟨o2,jB,_,n2,hd2⟩:=hb
   rw [ho] at jB;cases jB
   rw [hd] at hd2;cases hd2;rfl
  subst e
  have:ns=ms:=by
   refine EG (by ext z1 z2) λj h1 h2=>?_
   obtain ⟨t,e1⟩:=hi.int_at j items[j] (by simp [show j<items.size by ext z1 h1])
   obtain ⟨u,e2⟩:=hj.int_at j items[j] (by simp [show j<items.size by ext z1 z2 h1])
   have h:=e1.symm.trans e2
   injection h with h
   rw [vH,vH,qk h1,qk h2] at h
   exact h
  rw [decide_eq_true this]
  exact SeqAt.EqAt.same _
 .refine SeqAt.EqAt.of_refs AG ?_
  by_cases hs:items.size=aH.size
  .rw [<-all_ints hi hj hs]
   refine SeqAt.RcAt.lists hl hb hs hu λj h1 h2=>?_
   obtain ⟨t,e1⟩:=hi.int_at j items[j] (by simp [h1])
   obtain ⟨u,e2⟩:=hj.int_at j aH[j] (by simp [h2])
   rw [e1,e2]
   exact SeqAt.EqAt.int_int _ _ _ _
  .rw [decide_eq_false λz=>hs (by rw [z1,z2,z])]
   exact SeqAt.RcAt.lists_lengths hl hb (by simpa using hs) hu
end
section
open PySem.SeqAt
open PySem.AutoSeq1 (wpAny_loadPart')
open PySem.MeetsSeq PySem.MeetsSeq2 PySem.MeetsSeq3
theorem Sy:∀ns:List Int,HT.lexLt ns ns=false
 | []=>rfl
 | n::r=>by rw [HT.dB,if_pos rfl];exact Sy r
theorem a7l(p q l b:Addr)(it wC:Array Value)(a c:Int)(t u:Tok)(n n2:Nat)(dd kD:Option Addr)(sl jP:Array (Option Value))(ns ms:List Int)(hi:IntsAre it.toList ns)(hj:IntsAre wC.toList ms):
  Meets (Builtin.«tuple.__lt__» ⟨[.ref p,.ref q],[]⟩)
   (λA R s=>s.heap.get? p=some { cls:=.type "tuple",dict:=dd,data:=.seq #[.int a t,.ref l] n,slots:=sl }/\s.heap.get? q=some { cls:=.type "tuple",dict:=kD,data:=.seq #[.int c u,.ref b] n2,slots:=jP }/\s.heap.IsList l it/\s.heap.IsList b wC/\A.units+1<cLine /\
    R (.ok (.ret (.bool (HT.lexLt (a::ns) (c::ms))))) s):=
 .of_wp λprog w A R s h=>by
  obtain ⟨hp,g,d,tk,os⟩:=s;obtain ⟨h1,h2,h3,h4,hu,h⟩:=h
  have f2:=AutoSeq1.sub_tuple_tuple
  have mH:A.in1.units<cLine:=hu
  have e1:=EqAt.int_int (A:=A.in1) (s:=⟨hp,g,d,tk,os⟩) a t c u
  have e2:=b3L (A:=A.in1) (s:=⟨hp,g,d,tk,os⟩) h3 h4 hi hj mH
  rw [HT.dB] at h
  wp_walk using lC h1,lC h2,wpAny_forIn_list _ (λrest b' s'=>b'.1=none/\s'=⟨hp,g,d,tk,os⟩/\((rest=[(jm a t,jm c u),(jS l,jS b)]/\R (.ok (.ret (.bool (if a=c then HT.lexLt ns ms else decide (a<c))))) ⟨hp,g,d,tk,os⟩)\/(rest=[(jS l,jS b)]/\R (.ok (.ret (.bool (HT.lexLt ns ms)))) ⟨hp,g,d,tk,os⟩)\/(rest=[]/\R (.ok (.ret (.bool false))) ⟨hp,g,d,tk,os⟩))) _
  case turn =>
   rintro ⟨y,x⟩ rest b' s' ⟨mM,rfl,⟨hz,hR⟩ | ⟨hz,hR⟩ | ⟨hz,_⟩⟩
   .obtain ⟨h5,rfl⟩:=JU hz
    cases h5
    refine aq (e1 prog w _ _ ?_)
    by_cases qd:a=c
    .rw [if_pos qd] at hR
     rw [show (a==c)=true by simpa using qd]
     wp_walk
     exact ⟨rfl,rfl,.inr (.inl ⟨rfl,hR⟩)⟩
    .rw [if_neg qd] at hR
     rw [show (a==c)=false by simpa using qd]
     have Ay:=HT.j8 A.in1 ⟨hp,g,d,tk,os⟩ a t c u prog w
     wp_walk using Ay
     exact ⟨_,rfl,by simpa using hR⟩
   .obtain ⟨h5,rfl⟩:=JU hz
    cases h5
    refine aq (e2 prog w _ _ ?_)
    by_cases qd:ns=ms
    .rw [decide_eq_true qd]
     wp_walk
     rw [qd,Sy] at hR
     exact ⟨rfl,rfl,.inr (.inr ⟨rfl,hR⟩)⟩
    .rw [decide_eq_false qd]
     have Ay:=λ(E:Value->Shared->Prop) (Q:Value->Shared->Prop) (h:Q (.bool (HT.lexLt ns ms)) ⟨hp,g,d,tk,os⟩)=>b3m (prog:=prog) (w:=w) (A:=A.in1) (E:=E) (s:=⟨hp,g,d,tk,os⟩) h3 h4 hi hj mH h
     wp_walk using Ay
     exact ⟨_,rfl,by simpa using hR⟩
   .cases hz
  case fin =>
   rintro ⟨b1,b2⟩ s' ⟨mM,rfl,⟨hz,hR⟩ | ⟨hz,hR⟩ | ⟨hz,hR⟩⟩
   .cases hz
   .cases hz
   .simp only at mM
    subst mM
    wp_walk
    exact ⟨_,rfl,by simpa [Builtin.Tuple.tupleCompareSizes] using hR⟩
  case h=>exact ⟨rfl,rfl,.inl ⟨rfl,h⟩⟩
end
end DL
namespace DL
open PySem PySem.Spec PyProof.Rows L2
section
variable {prog:Program}{w:World}{A:Around}{E:Value->Shared->Prop}{s:Shared}
theorem b3l(hp:IsTup s.heap p #[.int a t,.ref l])(hq:IsTup s.heap q #[.int c u,.ref b])(hl:s.heap.IsList l it)(hb:s.heap.IsList b wC)(hi:IntsAre it.toList ns)(hj:IntsAre wC.toList ms)
  (hu:A.units+1<cLine)(h:Q (.bool (HT.lexLt (a::ns) (c::ms))) s):wpAny (model prog w) A (richCompare .Lt (.ref p) (.ref q)) Q E s:=by
 obtain ⟨⟨cls,dd,data,sl⟩,ho,hc,n,hd⟩:=id hp
 obtain ⟨⟨rC,kD,data2,jP⟩,jB,lx,n2,hd2⟩:=id hq
 simp only at hc hd lx hd2
 subst hc hd lx hd2
 exact richCompare_meets_room (op:=.Lt) ⟨_,ho,rfl⟩ ⟨_,jB,rfl⟩ PySem.F.slot_tuple_lt PySem.F.entry_tuple_lt (PySem.F.args_tuple_lt_2 _ _) (a7l p q l b it wC a c t u n n2 dd kD sl jP ns ms hi hj)
  ⟨ho,jB,hl,hb,hu,show wW (HT.lexLt (a::ns) (c::ms))≠PU/\Q (.bool (HT.lexLt (a::ns) (c::ms))) s from ⟨(λx=>nomatch x),h⟩⟩ (by ext hu)
end
section
variable {X:Cx}{a:Expr}{ba:En->Option (Bool×List D)}{p pos:Pos}
theorem b2d(hc:X.calm=true)(hu:X.A.units+2<cLine):cF X (.builtin "min") (λxs H Q=>∃(q:Addr) (k:Bool) (vs:List V) (rs:List (List Int)),xs=[.ref q]/\Sq X.K H k q vs/\rs≠[]/\vs.length=rs.length /\
  (∀i v,vs[i]?=some v->∃c l a ns,v=.ref c/\fj X.K H c [.int a,.ref l]/\dR X.K H l (ns.map V.int)/\rs.getD i []=a::ns)/\∀i v,vs[i]?=some v->rs.getD i []=fR rs->Q v H):=by
 intro pins s σ H xs us Q I r h
 obtain ⟨q,k,vs,rs,rfl,hq,cC,hlen,wF,qq⟩:=h
 obtain ⟨u,rfl,ru⟩:=r.one
 cases ru
 refine b2e (SM (A':=X.A.in1) I (I.ok.hd hc) hq λav h2 St rv W Hd k1 mL=>?_)
 have hl:av.length=rs.length:=by rw [<-rv.length,hlen]
 have hp:0<rs.length:=pC.mpr cC
 have hsz:s.heap.objs.size<h2.objs.size:=mL _ cM
 have c8:∀i v,av[i]?=some v->∃c l it a t ns,v=.ref c/\(c<s.heap.objs.size/\l<s.heap.objs.size)/\IsTup s.heap c #[.int a t,.ref l]/\s.heap.IsList l it/\IntsAre it.toList ns/\rs.getD i []=a::ns:=λi v hv=>by
  have hi:i<vs.length:=by rw [rv.length];exact (iB.mp hv).1
  obtain ⟨c,l,a,ns,e1,e2,e3,e4⟩:=wF i vs[i] (qk hi)
  obtain ⟨u',mH,DD⟩:=rv.get (qk hi)
  rw [hv] at mH
  cases mH
  rw [e1] at DD
  obtain rfl:v=jS c:=DD
  obtain ⟨items,Wr,pl,_⟩:=I.tuple e2
  obtain ⟨li,rl,Xe⟩:=rM (b:=true) I e3
  cases Wr with
  | cons r1 r2 =>
   cases r2 with
   | cons r2 r3 =>
    cases r3
    cases r2
    obtain ⟨t,rfl⟩:=r1
    have zp:s.heap.IsList l li.toArray:=Xe
    exact ⟨c,l,li.toArray,a,t,ns,rfl,⟨pl.lt,let ⟨_,ho,_⟩:=zp;bO ho⟩,pl,zp,by simpa using Ti rl,e4⟩
 refine ⟨_,_,_,_,_,_,λi j=>HT.lexLt (rs.getD i []) (rs.getD j []),λh=>∀b o,b<s.heap.objs.size->s.heap.get? b=some o->h.get? b=some o,rfl,W,Hd,mL,by ext hl hp,?_,?_,λb o _ e=>k1 b o e,λv h' tk hv hk=>?_⟩
 .intro i j x y s' Q' E' hx hy kh jR
  obtain ⟨c,l,it1,a1,t1,ns1,rfl,⟨l1,l2⟩,⟨o1,g1,r1⟩,⟨o2,g2,r2⟩,i1,w1⟩:=c8 i x hx
  obtain ⟨d,m,wC,a2,t2,ns2,rfl,⟨l3,l4⟩,⟨o3,g3,r3⟩,⟨o4,g4,r4⟩,i2,w2⟩:=c8 j y hy
  have jR:Q' (wW (HT.lexLt (rs.getD i []) (rs.getD j []))) s':=jR
  rw [w1,w2] at jR
  exact b3l ⟨o1,kh c o1 l1 g1,r1⟩ ⟨o3,kh d o3 l3 g3,r3⟩ ⟨o2,kh l o2 l2 g2,r2⟩ ⟨o4,kh m o4 l4 g4,r4⟩ i1 i2 (by show X.A.units+1+1<_;exact hu) jR
 .intro h h' kh kp b o lb e
  exact kp b o (λz=>by rw [bT.mp z] at lb;exact oz _ lb) (dF (Nat.lt_trans lb hsz)) (kh b o lb e)
 .obtain ⟨b1,b2⟩:=Q2 rs (av.length-1) (by ext hl hp)
  have e2:rs.take (av.length-1+1)=rs:=by rw [BU];ext hl
  rw [e2] at b2
  have hi:=(iB.mp hv).1
  have AU:argBest (λi j=>HT.lexLt (rs.getD i []) (rs.getD j [])) (av.length-1)<vs.length:=by rw [rv.length];exact hi
  obtain ⟨u',mH,DD⟩:=rv.get (qk AU)
  rw [hv] at mH
  cases mH
  exact ⟨_,H,Ui I k1 hk,DD,qq _ _ (qk AU) b2⟩
noncomputable def DO(x:List Int):D:=.tup [.int (x.headD 0),.lst false (x.tail.map D.int)]
noncomputable def ko:List D->Option (List (List Int))
 | []=>some []
 | .tup [.int a,.lst false ds]::r=>(jU ds).bind λx=>(ko r).map ((a::x)::·)
 | _::_=>none
theorem Ug:∀{ds:List D} {rs:List (List Int)},ko ds=some rs->ds=rs.map DO/\∀x∈rs,x≠[]
 | [],rs,e=>by cases e;exact ⟨rfl,λ_ h=>nomatch h⟩
 | d::r,rs,e=>by
  unfold ko at e
  split at e
  .rename_i h;cases h
  .rename_i a ds r' h
   cases h
   obtain ⟨x,e1,e2⟩:=bind_some e
   obtain ⟨y,e3,rfl⟩:=map_some e2
   obtain ⟨f1,f2⟩:=Ug e3
   refine ⟨?_,λz hz=>?_⟩
   .rw [kM,<-f1,M' e1];rfl
   .rcases bI.mp hz with rfl | hz
    .exact λz=>nomatch z
    .exact f2 z hz
  .cases e
noncomputable def Fe(f:En->Option (Bool×List D)):En->Option Sl:=λenv=>(f env).bind λx=>(ko x.2).bind λrs=>if rs≠[] then some (.sh (DO (fR rs))) else none
theorem b6n(hg:Gl X "min")(hm:X.mg "min" = none)(hc:X.calm=true)(hu:X.A.units+8<cLine)(ha:BV X a ba)(hs:starEach [a] X.env=[(false,eval a X.env)]:=by rfl):EV X (.Call (.Name "min" p) [a] [] pos) (Fe ba):=by
 obtain ⟨t,pt,k⟩:=ha
 refine ⟨_,tP (b2d hc (by ext hu)) hg hm (by decide +kernel) (mZ pt pI hs) (by decide) (by decide) hs rfl,λO B σ H env s Q R e q=>?_⟩
 obtain ⟨⟨kk,ds⟩,e1,e2⟩:=bind_some e
 obtain ⟨rs,e3,e4⟩:=bind_some e2
 obtain ⟨cC,rfl⟩:=gx e4
 obtain ⟨By,e5⟩:=Ug e3
 dsimp only at By
 subst By
 refine k O B σ H env kk _ _ R e1 λl xs H1 s1 hq hx=>⟨l,kk,xs,rs,rfl,hq,cC,by rw [hx.length,cj],λi v hv=>?_,λi v hv em=>?_⟩
 .obtain ⟨d,hd,hi⟩:=hx.rq hv
  rw [rL] at hd
  obtain ⟨x,ex,rfl⟩:=map_some hd
  obtain ⟨c,ys,rfl,h1,h2⟩:=FD hi
  cases h2 with
  | cons g1 g2 =>
   cases g2 with
   | cons g2 g3 =>
    cases g3
    rw [fG g1] at h1
    obtain ⟨m,zs,rfl,g4,g5⟩:=g2.seq (k:=true) rfl
    refine ⟨c,m,_,x.tail,rfl,h1,?_,?_⟩
    .rw [<-MJ g5];exact g4
    .rw [vH,ex]
     have:=e5 x (KR ex)
     show x=_
     cases x with
     | nil=>exact absurd rfl this
     | cons a r=>rfl
 .obtain ⟨d,hd,hi⟩:=hx.rq hv
  rw [rL] at hd
  obtain ⟨x,ex,rfl⟩:=map_some hd
  rw [vH,ex] at em
  have em:x=fR rs:=em
  rw [em] at hi
  exact q _ H1 s1 hi
theorem Th{α:Type}{f:α->Int}{g:α->List Int}:∀(xs:List α),ko (xs.map λx=>.tup [.int (f x),.lst false ((g x).map D.int)])=some (xs.map λx=>f x::g x)
 | []=>rfl
 | x::r=>by
  show ((jU ((g x).map D.int)).bind λy=>(ko (r.map λx=>.tup [.int (f x),.lst false ((g x).map D.int)])).map ((f x::y)::·))=_
  rw [Th r,CF]
  rfl
theorem b4o(e:f env=some (k,ds))(h:ko ds=some rs)(hn:rs≠[]):Wo (Fe f env) Q↔Q (.sh (DO (fR rs))):=by
 unfold Fe
 rw [e,md]
 show Wo ((ko ds).bind _) Q↔_
 rw [h,md,if_pos hn,a0h]
end
end DL
namespace DL
open PySem PySem.Spec PyProof.Rows L2
section
variable {X:Cx}{a b c:Expr}{pos:Pos}{fa fb fc:En->Option Sl}
noncomputable def rA(f:En->Option Bool):En->Option Sl:=λenv=>(f env).map λb=>.sh (.bl b)
theorem b3K(ho:gJ X (compareOp op) g)(gD:gJ X (compareOp zI) g')(ha:EV X a fa)(hb:EV X b fb)(hc:EV X c fc)(hm:lastMarks [op,zI] [b,c]=false:=by with_unfolding_all rfl):
  EV X (.Compare a [op,zI] [b,c] pos) (rA (nJ (bE (aa g fa fb)) (bE (aa g' fb fc)))):=by
 obtain ⟨r,hr,hg⟩:=ho
 obtain ⟨r',wG,IP⟩:=gD
 obtain ⟨ta,pa,ka⟩:=ha
 obtain ⟨tb,pb,kb⟩:=hb
 obtain ⟨tc,pc,kc⟩:=hc
 refine ⟨_,b28 hr wG pa pb pc hm,λO B σ H env k Q R e q=>?_⟩
 obtain ⟨bb,e',rfl⟩:=map_some e
 clear e
 have e:=e'
 clear e'
 unfold nJ at e
 cases e1:bE (aa g fa fb) env with
 | none=>rw [e1] at e;cases e
 | some b1 =>
  rw [e1] at e
  obtain ⟨x,ex,e3⟩:=bind_some (Cz e1)
  obtain ⟨y,ey,e4⟩:=bind_some e3
  refine ka O B σ H env x _ R ex λv H1 s1 h1=>?_
  refine kb O B σ H1 env y _ (R.grow s1) ey λu H2 s2 h2=>?_
  have R2:=(R.grow s1).grow s2
  refine hg (OO O σ env) H2 v u x.d y.d _ _ (λq=>R2.oo) ((h1.is λq=>R.oo).grow s2) (h2.is λq=>(R.grow s1).oo) e4 λw H3 s3 h3=>?_
  refine ⟨b1,xy h3,?_⟩
  cases b1 with
  | false =>
   cases e
   rw [if_neg (by decide)]
   exact q _ H3 ((s1.trans s2).trans s3) (Is.bl _)
  | true =>
   rw [if_pos rfl]
   obtain ⟨y',PF,e5⟩:=bind_some (Cz e)
   rw [ey] at PF
   cases PF
   obtain ⟨z,ez,e6⟩:=bind_some e5
   have R3:=R2.grow s3
   refine kc O B σ H3 env z _ R3 ez λw' H4 s4 h4=>?_
   have R4:=R3.grow s4
   refine IP (OO O σ env) H4 u w' y.d z.d _ _ (λq=>R4.oo) (((h2.is λq=>(R.grow s1).oo).grow s3).grow s4) (h4.is λq=>R3.oo) e6 λw2 H5 s5 h5=>?_
   exact q _ H5 ((((s1.trans s2).trans s3).trans s4).trans s5) (by rw [xy h5];exact Is.bl _)
theorem b7n:Wo (rA f env) Q↔Wo (f env) λb=>Q (.sh (.bl b)):=by
 unfold rA
 cases f env with
 | none=>simp [a0s]
 | some b=>simp [a0h]
end
end DL
namespace DL
open PySem PySem.Spec PyProof.Rows L2
section
variable {X:Cx}{b e:Expr}{fa fb:En->Option Sl}{pos:Pos}
theorem b1K:Dg X (λo i H Q=>∃p xs k v,o=.ref p/\i=.int k/\dR X.K H p xs/\0<=k/\xs[k.toNat]?=some v/\Q v H):=by
 intro pins s σ H o i ov iv Q I ro ri h
 obtain ⟨p,xs,k,v,rfl,rfl,hq,h0,hv,q⟩:=h
 cases ro
 obtain ⟨t,rfl⟩:=ri
 obtain ⟨av,r,pl,hz⟩:=I.list hq
 obtain ⟨w,ew,qS⟩:=r.get hv
 have hn:=vL
 have hl:=r.length
 have hk:=(iB.mp hv).1
 exact wpAny_getItem_list pl.isList h0 (by ext hz hn hk) (by simpa using ew) ⟨v,H,I,qS,q⟩
theorem b55{α:Type}{c:Prop}[Decidable c]{o:Option α}{y:α}(h:(if c then o else none)=some y):c/\o=some y:=by
 by_cases hc:c
 .rw [if_pos hc] at h;exact ⟨hc,h⟩
 .rw [if_neg hc] at h;cases h
noncomputable def xG(i:Nat)(g f:En->Option Sl):SF:=λenv=>match env[i]? with
 | some (.ow ds)=>(g env).bind λk=>match k.d with
  | .int n=>if 0<=n then (match ds[n.toNat]? with
   | some (.int m)=>(f env).bind λr=>(match r.d with
    | .int v=>some (.nx,env.set i (.ow (ds.set n.toNat (.int (m+v)))))
    | _=>none)
   | _=>none) else none
  | _=>none
 | _=>none
theorem b5q{i:Nat}{x:Str}{p1 p2:Pos}(hb:EV X b fb)(ha:EV X e fa)(hN:X.N[i]?=some x)(hv:gH X.env.scope x)(hd:(x==("__debug__":Str))=false:=by decide)(bW:(x==("__classdict__":Str))=false:=by decide)
  (Jd:∀ov iv new,augStore b ov iv new=(do holding [new,ov,iv] (setItem ov iv new);release [new,ov,iv] [];pure .next):=by intros;rfl):
  SV X (.AugAssign (.Subscript (.Name x p1) b p2) .Add e pos) (xG i fb fa):=by
 obtain ⟨t,p,k⟩:=ha
 obtain ⟨t',p',k'⟩:=hb
 refine ⟨_,b5B (rQ hN hv hd bW) p' b1K p Q8 SN Jd,λO B σ H env fl ah D R e q=>?_⟩
 unfold xG at e
 cases h:env[i]? with
 | none=>rw [h] at e;cases e
 | some s =>
  rw [h] at e
  cases s with
  | no=>cases e
  | sh d=>cases e
  | dw d=>cases e
  | ow ds =>
   obtain ⟨kk,e2,e3⟩:=bind_some e
   obtain ⟨l,xs,f1,f2,f3,f4⟩:=R.ow i ds h
   refine ⟨_,f1,?_⟩
   refine k' O B σ H env kk _ R e2 λw H1 s1 r1=>?_
   have hi:=r1.is λq=>R.oo
   cases hd:kk.d with
   | int n =>
    rw [hd] at hi e3
    obtain rfl:=fG hi
    obtain ⟨h0,e4⟩:=b55 e3
    cases hm:ds[n.toNat]? with
    | none=>rw [hm] at e4;cases e4
    | some dm =>
     rw [hm] at e4
     cases dm with
     | int m =>
      obtain ⟨r,e5,e6⟩:=bind_some e4
      obtain ⟨xm,Zj,im⟩:=f4.get hm
      obtain rfl:=fG im
      refine ⟨l,xs,n,.int m,rfl,rfl,.inl (.inl (s1 _ _ f3)),h0,Zj,?_⟩
      refine k O B σ H1 env r _ (R.grow s1) e5 λv H2 s2 r2=>?_
      have uO:=r2.is λq=>(R.grow s1).oo
      cases hd2:r.d with
      | int j =>
       rw [hd2] at uO e6
       obtain rfl:=fG uO
       cases e6
       have ju:=s1.trans s2
       have aY:=(iB.mp hm).1
       refine ⟨m,j,rfl,rfl,l,xs,n,n.toNat,rfl,rfl,ju _ _ f3,?_,?_⟩
       .unfold jg
        rw [if_pos h0,if_pos (by have:=f4.length;ext aY this)]
       .obtain ⟨R',g'⟩:=(R.grow ju).wr h f1 ((f4.grow ju).set (Is.int (m+j)) n.toNat)
        exact q _ _ R' (g'.from ju)
      | _=>rw [hd2] at e6;cases e6
     | _=>cases e4
   | _=>rw [hd] at e3;cases e3
theorem Fx.LI{N:List Str}{sc:Scope}{kk:Nat}{full:Bool}(h:Fx X N sc kk full)(i:Nat){x:Str}{p1 p2:Pos}(hb:EV X b fb)(ha:EV X e fa)(hN:N[i]?=some x:=by rfl)(hv:gH sc x:=by first | exact bJ rfl | exact bg (bJ rfl) | exact bg (bg rfl))(hd:(x==("__debug__":Str))=false:=by rfl)(bW:(x==("__classdict__":Str))=false:=by rfl)
  (Jd:∀ov iv new,augStore b ov iv new=(do holding [new,ov,iv] (setItem ov iv new);release [new,ov,iv] [];pure .next):=by intros;rfl):
  SV X (.AugAssign (.Subscript (.Name x p1) b p2) .Add e pos) (xG i fb fa):=b5q hb ha (h.ix hN) (h.pR hv) hd bW Jd
theorem b37{i:Nat}{env:En}{ds:List D}{n:Nat}{m v:Int}(he:env[i]?=some (.ow ds))(hg:g env=some (.sh (.int n)))(hm:ds[n]?=some (.int m))(hf:f env=some (.sh (.int v))):Wo (xG i g f env) Q↔Q (.nx,env.set i (.ow (ds.set n (.int (m+v))))):=by
 unfold xG
 rw [he]
 dsimp only
 rw [hg,md]
 show Wo (if (0:Int)<=n then _ else _) Q↔_
 rw [if_pos (by ext),xn,hm]
 dsimp only
 rw [hf,md]
 exact a0h
end
section
variable {X:Cx}{W:L2.St->Hp->Value->Prop}{re:En->Option Str}{pos:Pos}
theorem b5e{N N':List Str}{sc bL:Scope}{k:Nat}{full:Bool}{elt iter tg:Expr}{ifs:List Expr}{caps:List Nat}{nt:Nat}{x:Str}{pos' oI:Pos}(h:Fx X.cP N sc k full)(C:bZ N sc N' caps nt bL)(he:EX X W iter re)
  (h1:(sc.names.lookup x==some .local)=true:=by rfl)(h2:(pos'.line==pos.line)=true:=by rfl)(h3:(bL.names.any λ(n,k)=>n==x&&(k==.local||k==.cell))=false:=by rfl)
  (p9:∀x,foldedSetIterable iter X.env x=pure x:=by intro _;rfl):XV X W (.Assign [.Name x pos'] (.ListComp elt [⟨tg,iter,ifs,0⟩] bL pos) oI) (rE re):=by
 obtain ⟨t,p,k'⟩:=he
 refine ⟨λD σ H=>t σ H λ_ _=>False,λpins s σ H D I hw=>?_,λO B σ H env nm ah D R e q=>?_⟩
 .have lW:X.env.scope=sc:=h.sc
  have hs:swapsWith (.ListComp elt [⟨tg,iter,ifs,0⟩] bL pos) (some (.Name x pos')) oI.line X.env=pure true:=by
   have hk:X.env.blockKind=.function:=by unfold Env.blockKind;rw [I.ok.kind];rfl
   have sM:X.env.kindOf x=sc.names.lookup x:=by unfold BC;rw [lW]
   unfold swapsWith
   dsimp only
   rw [hk,sM,h1,show (pos'.line==(Expr.ListComp elt [⟨tg,iter,ifs,0⟩] bL pos).pos.line)=true from h2,h3]
   rfl
  have o7:closureFor bL X.env=pure (eO X.env.cells bL.names []):=UI λy hy hf=>I.ok.has y.1 (by
   show X.env.scope.names.lookup y.1=_\/X.env.scope.names.lookup y.1=_
   rw [lW]
   exact C.free y hy hf)
  rw [exec_Assign_Name_used _ _ _ _ hs]
  refine aq (Ey (aq ?_))
  show wpAny _ _ (comprehension _ bL X.env _ (newList []) _ _ (some (assign (.Name x pos') X.env)) >>= λ_=>pure ()) _ _ _
  exact aq (Qt (use:=some (assign (.Name x pos') X.env)) rfl p9 o7 C.kind C.loc (be (p pins s σ H (λ_ _=>False) I hw) λxv s1 h1=>by
   obtain ⟨_,_,_,_,z⟩:=h1
   exact cV z))
 .obtain ⟨n1,e1,e2⟩:=map_some e
  cases e2
  exact k' O B σ H env nm _ R e1 λc H' hc s=>q σ H' c hc (R.grow s) (Gd.refl s)
end
end DL
namespace My
open PySem L2 DL
noncomputable def top(i:Nat):Stmt:=PySem.Challenge.pw_offerhouse_k44_parts_told.main.body.getD i (.Pass ⟨0,0,0,0⟩)
noncomputable abbrev UW:Stmt:=top 51
noncomputable abbrev NH{α:Type}(Y:Str->Stmt->List Str->α):α:=Y "_law_offered" UW ["ones","others","x"]
noncomputable def NA:SF:=
 (ai (di (eV 0) (gN 3)
 (di (eV 1) (gN 4)
 (cG (nJ (bE (aa n6 (aa aU (ax (bV 3) (eC (.int 0))) (ax (bV 4) (eC (.int 0)))) (eV 2))) (bE (aa n6 (eV 2) (aa aU (ax (bV 3) (eC (.int 1))) (ax (bV 4) (eC (.int 1)))))))
 (aB (eC (.bl true))) c5)))
 (aB (eC (.bl false))))
noncomputable def CV:List D->Option Sl:=aK NA 5
theorem iW:Wo (CV [a0,a1,a2]) Q↔Wo (NA [.sh a0,.sh a1,.sh a2,.no,.no]) (aO Q):=cW
noncomputable abbrev Um:Stmt:=top 49
noncomputable abbrev MZ{α:Type}(Y:Str->Stmt->List Str->α):α:=Y "_law_cost" Um ["rows","x"]
noncomputable def M5:SF:=
 (ai (di (eV 0) (gT 4 (oC (gN 2) (oC (gN 3) (oC (gN 4) (oC (gN 5) Cc)))))
 (cG (nJ (bE (aa n6 (eV 2) (eV 1))) (bE (aa n6 (eV 1) (eV 3))))
 (aB (aa aU (eV 4) (aa fU (eV 5) (aa bS (eV 1) (eV 2))))) c5))
 (aB (eC .aG)))
noncomputable def yn:List D->Option Sl:=aK M5 6
theorem mn:Wo (yn [a0,a1]) Q↔Wo (M5 [.sh a0,.sh a1,.no,.no,.no,.no]) (aO Q):=cW
noncomputable abbrev UM:Stmt:=top 53
noncomputable abbrev Nu{α:Type}(Y:Str->Stmt->List Str->α):α:=Y "_law_right" UM ["found","ones","others","x","cost"]
noncomputable def Nl:SF:=
 (ai (cG (e7 (qo (cn (pk "tuple" (eV 0)))) (bE (aa jE (bH (bV 0)) (eC (.int 2)))))
 (aB (eC (.bl false))) c5)
 (ai (di (eV 0) (gN 5)
 (cG (e7 (qo (cn (pk "int" (eV 5)))) (cn (pk "bool" (eV 5))))
 (aB (eC (.bl false))) c5))
 (ai (aX 6 (aP 2 yn (af (eV 1) (af (ax (bV 0) (eC (.int 0))) ae))))
 (ai (aX 7 (aP 2 yn (af (eV 2) (af (ax (bV 0) (eC (.int 1))) ae))))
 (ai (cG (e7 (bE (aa nk (eV 6) (eC .aG))) (e7 (bE (aa nk (eV 7) (eC .aG))) (bE (aa nk (eV 4) (eC .aG)))))
 (aB (eC (.bl false))) c5)
 (aB (l8 (aa dg (aa aU (ax (bV 0) (eC (.int 0))) (ax (bV 0) (eC (.int 1)))) (eV 3)) (aa dg (aa aU (eV 6) (eV 7)) (eV 4)))))))))
noncomputable def C5:List D->Option Sl:=aK Nl 8
theorem kW:Wo (C5 [a0,a1,a2,a3,a4]) Q↔Wo (Nl [.sh a0,.sh a1,.sh a2,.sh a3,.sh a4,.no,.no,.no]) (aO Q):=cW
noncomputable abbrev Uz:Stmt:=top 7
noncomputable abbrev Nb{α:Type}(Y:Str->Stmt->List Str->α):α:=Y "line_at" Uz ["line","low","x"]
noncomputable def MT:SF:=
 (aB (aa aU (ax (bV 0) (eC (.int 0))) (aa fU (ax (bV 0) (eC (.int 1))) (aa bS (eV 2) (eV 1)))))
noncomputable def tR:List D->Option Sl:=aK MT 3
theorem nR:Wo (tR [a0,a1,a2]) Q↔Wo (MT [.sh a0,.sh a1,.sh a2]) (aO Q):=cW
noncomputable abbrev Ul:Stmt:=top 14
noncomputable abbrev MY{α:Type}(Y:Str->Stmt->List Str->α):α:=Y "drawn_to" Ul ["row","x"]
noncomputable def M4:SF:=
 (aB (aP 3 tR (af (bD (af (ax (bV 0) (eC (.int 2))) (af (ax (bV 0) (eC (.int 3))) ae))) (af (ax (bV 0) (eC (.int 0))) (af (eV 1) ae)))))
noncomputable def tX:List D->Option Sl:=aK M4 2
theorem mo:Wo (tX [a0,a1]) Q↔Wo (M4 [.sh a0,.sh a1]) (aO Q):=cW
noncomputable abbrev Ut:Stmt:=top 19
noncomputable abbrev M2{α:Type}(Y:Str->Stmt->List Str->α):α:=Y "place_of" Ut ["form","x"]
noncomputable def Uk:En->Nat:=λ_=>1000000
noncomputable def M7:SF:=
 (ai (aX 2 (eC (.int 0)))
 (ai (aX 3 (bH (bV 0)))
 (ai (Co Uk (bE (aa iN (eV 2) (eV 3)))
 (ai (aX 4 (aa cJ (aa aU (eV 2) (eV 3)) (eC (.int 2))))
 (cG (bE (aa iN (ax (fX (ax (bV 0) (eV 4))) (eC (.int 1))) (eV 1)))
 (aX 2 (aa aU (eV 4) (eC (.int 1)))) (aX 3 (eV 4)))))
 (aB (eV 2)))))
noncomputable def ye:List D->Option Sl:=aK M7 5
theorem ml:Wo (ye [a0,a1]) Q↔Wo (M7 [.sh a0,.sh a1,.no,.no,.no]) (aO Q):=cW
noncomputable abbrev Uy:Stmt:=top 18
noncomputable abbrev Na{α:Type}(Y:Str->Stmt->List Str->α):α:=Y "cost_at" Uy ["form","x"]
noncomputable def MS:SF:=
 (ai (aX 2 (aP 2 ye (af (eV 0) (af (eV 1) ae))))
 (ai (cG (e7 (bE (aa dg (eV 2) (bH (bV 0)))) (bE (aa iN (eV 1) (ax (fX (ax (bV 0) (eV 2))) (eC (.int 0))))))
 (aB (eC .aG)) c5)
 (aB (aP 2 tX (af (ax (bV 0) (eV 2)) (af (eV 1) ae))))))
noncomputable def yj:List D->Option Sl:=aK MS 3
theorem nU:Wo (yj [a0,a1]) Q↔Wo (MS [.sh a0,.sh a1,.no]) (aO Q):=cW
noncomputable abbrev U2:Stmt:=top 38
noncomputable abbrev NS{α:Type}(Y:Str->Stmt->List Str->α):α:=Y "how_many_picks" U2 ["forms"]
noncomputable def NR:SF:=
 (ai (aX 1 (eC (.int 1)))
 (ai (di (eV 0) (gN 2)
 (Fm 1 (bH (bV 2))))
 (aB (eV 1))))
noncomputable def pK:List D->Option Sl:=aK NR 3
theorem gg:Wo (pK [a0]) Q↔Wo (NR [.sh a0,.no,.no]) (aO Q):=cW
noncomputable abbrev SU:Stmt:=top 37
noncomputable abbrev xS{α:Type}(Y:Str->Stmt->List Str->α):α:=Y "picks" SU ["forms"]
noncomputable def Cv:SF:=
 (ai (cG (bE (aa o8 (aP 1 pK (af (eV 0) ae)) (eC (.int 100))))
 xP c5)
 (ai (cG (bE (aa dg (aP 1 pK (af (eV 0) ae)) (eC (.int 0))))
 (aB (aZ ae)) c5)
 (ai (aX 1 (aZ (af (aZ ae) ae)))
 (ai (di (eV 0) (gN 2)
 (ai (dA 3 (aZ ae))
 (ai (di (eV 1) (gN 4)
 (jt 3 (gG (fC (eV 2)) [4] 1 (gN 0) lG (aa aU (eV 1) (aZ (af (eV 0) ae))))))
 (m8 3 (aX 1 (eV 3))))))
 (aB (eV 1))))))
noncomputable def qB:List D->Option Sl:=aK Cv 5
noncomputable def RK:RF:=
 (e9 (oK (bE (aa o8 (aP 1 pK (af (eV 0) ae)) (eC (.int 100))))
 (Cm "TooMany" (af (eC (.str "there are too many ways to pick a stretch of each seller")) ae)) my) (cG (bE (aa o8 (aP 1 pK (af (eV 0) ae)) (eC (.int 100))))
 xP c5)
 (e9 (oK (bE (aa dg (aP 1 pK (af (eV 0) ae)) (eC (.int 0))))
 my my) (cG (bE (aa dg (aP 1 pK (af (eV 0) ae)) (eC (.int 0))))
 (aB (aZ ae)) c5)
 (e9 my (aX 1 (aZ (af (aZ ae) ae)))
 (e9 my (di (eV 0) (gN 2)
 (ai (dA 3 (aZ ae))
 (ai (di (eV 1) (gN 4)
 (jt 3 (gG (fC (eV 2)) [4] 1 (gN 0) lG (aa aU (eV 1) (aZ (af (eV 0) ae))))))
 (m8 3 (aX 1 (eV 3))))))
 my))))
noncomputable def yd:List D->Option Str:=j6 RK 5
theorem jM:Wo (qB [a0]) Q↔Wo (Cv [.sh a0,.no,.no,.no,.no]) (aO Q):=cW
noncomputable abbrev UB:Stmt:=top 40
noncomputable abbrev Nd{α:Type}(Y:Str->Stmt->List Str->α):α:=Y "reaches" UB ["rows","x"]
noncomputable def MV:SF:=
 (aB (rA (nJ (bE (aa n6 (jF (fX (gG (fC (eV 0)) [] 1 (gN 0) lG (ax (bV 0) (eC (.int 0)))))) (eV 1))) (bE (aa n6 (eV 1) (jF (fX (gG (fC (eV 0)) [] 1 (gN 0) lG (ax (bV 0) (eC (.int 1)))))))))))
noncomputable def tS:List D->Option Sl:=aK MV 2
theorem nO:Wo (tS [a0,a1]) Q↔Wo (MV [.sh a0,.sh a1]) (aO Q):=cW
noncomputable abbrev SR:Stmt:=top 42
noncomputable abbrev LV{α:Type}(Y:Str->Stmt->List Str->α):α:=Y "dealt" SR ["rows","x"]
noncomputable def LN:SF:=
 (ai (dA 2 (gG (fC (eV 0)) [] 1 (gN 0) lG (ax (bV 0) (eC (.int 0)))))
 (ai (aX 3 (aa bS (eV 1) (jF (bV 2))))
 (ai (di (Fy 0 (ax (fX (ax (bV 1) (eV 0))) (eC (.int 3))) (af (bH (bV 0)) ae)) (gN 4)
 (ai (aX 5 (tI xF (af (eV 3) (af (aa bS (ax (fX (ax (bV 0) (eV 4))) (eC (.int 1))) (ax (fX (ax (bV 0) (eV 4))) (eC (.int 0)))) ae))))
 (ai (xG 2 (eV 4) (eV 5))
 (Fo 3 (eV 5)))))
 (oB 2))))
noncomputable def yc:List D->Option Sl:=aK LN 6
theorem r6:Wo (yc [a0,a1]) Q↔Wo (LN [.sh a0,.sh a1,.no,.no,.no,.no]) (aO Q):=cW
noncomputable abbrev U1:Stmt:=top 41
noncomputable abbrev NQ{α:Type}(Y:Str->Stmt->List Str->α):α:=Y "cost_and_shares" U1 ["rows","x"]
noncomputable def NP:SF:=
 (ai (aX 2 (aP 2 yc (af (eV 0) (af (eV 1) ae))))
 (aB (bD (af (jF (fX (gG (kr lK (af (eV 0) (af (eV 2) ae))) [] 2 (gT 2 (oC (gN 0) (oC (gN 1) Cc))) lG (aP 2 tX (af (eV 0) (af (eV 1) ae)))))) (af (eV 2) ae)))))
noncomputable def pL:List D->Option Sl:=aK NP 3
theorem fH:Wo (pL [a0,a1]) Q↔Wo (NP [.sh a0,.sh a1,.no]) (aO Q):=cW
noncomputable abbrev UZ:Stmt:=top 39
noncomputable abbrev yf{α:Type}(Y:Str->Stmt->List Str->α):α:=Y "best_dealt" UZ ["forms","x"]
noncomputable def Gj:SF:=
 (ai (aX 2 (gG (fC (aP 1 qB (af (eV 0) ae))) [1] 1 (gN 0) (cn (aP 2 tS (af (eV 0) (af (eV 1) ae)))) (aP 2 pL (af (eV 0) (af (eV 1) ae)))))
 (ai (cG (qo (cn (eV 2)))
 xP c5)
 (aB (ax (fX (Fe (bV 2))) (eC (.int 1))))))
noncomputable def rV:List D->Option Sl:=aK Gj 3
noncomputable def UJ:RF:=
 (e9 (rE (qu 1 yd (af (eV 0) ae))) (aX 2 (gG (fC (aP 1 qB (af (eV 0) ae))) [1] 1 (gN 0) (cn (aP 2 tS (af (eV 0) (af (eV 1) ae)))) (aP 2 pL (af (eV 0) (af (eV 1) ae)))))
 (e9 (oK (qo (cn (eV 2)))
 (Cm "NotOffered" (af (eC (.str "no shares come to the amount")) ae)) my) (cG (qo (cn (eV 2)))
 xP c5)
 my))
noncomputable def vZ:List D->Option Str:=j6 UJ 3
theorem fI:Wo (rV [a0,a1]) Q↔Wo (Gj [.sh a0,.sh a1,.no]) (aO Q):=cW
noncomputable abbrev Us:Stmt:=top 33
noncomputable abbrev ya{α:Type}(Y:Str->Stmt->List Str->α):α:=Y "parts_at" Us ["one","other","x"]
noncomputable def Gc:SF:=
 (ai (aX 3 (aP 2 rV (af (aZ (af (eV 0) (af (eV 1) ae))) (af (eV 2) ae))))
 (aB (bD (af (ax (bV 3) (eC (.int 0))) (af (ax (bV 3) (eC (.int 1))) ae)))))
noncomputable def tZ:List D->Option Sl:=aK Gc 4
noncomputable def Uh:RF:=
 (e9 (rE (qu 2 vZ (af (aZ (af (eV 0) (af (eV 1) ae))) (af (eV 2) ae)))) (aX 3 (aP 2 rV (af (aZ (af (eV 0) (af (eV 1) ae))) (af (eV 2) ae))))
 my)
noncomputable def vX:List D->Option Str:=j6 Uh 4
theorem ip:Wo (tZ [a0,a1,a2]) Q↔Wo (Gc [.sh a0,.sh a1,.sh a2,.no]) (aO Q):=cW
noncomputable abbrev Uq:Stmt:=top 52
noncomputable abbrev M1{α:Type}(Y:Str->Stmt->List Str->α):α:=Y "_law_told" Uq ["one","other","x"]
noncomputable def Gb:SF:=
 (ai (aX 3 (eC .aG))
 (ai (aX 4 (eC (.bl false)))
 (ai (j0 5 (Fi "NotOffered" (Fi "TooMany" QS)) (aX 3 (aP 3 tZ (af (eV 0) (af (eV 1) (af (eV 2) ae)))))
 (rE (qu 3 vX (af (eV 0) (af (eV 1) (af (eV 2) ae)))))
 (aX 4 (l8 (pq (tE "NotOffered" true (tE "TooMany" false Ft)) (eV 5)) (l8 (pq (tE "NotOffered" true (tE "TooMany" true Ft)) (eV 5)) (pj (pq (tE "NotOffered" false (tE "TooMany" true Ft)) (eV 5)))))))
 (aB (bD (af (eV 4) (af (eV 3) ae)))))))
noncomputable def yo:List D->Option Sl:=aK Gb 6
theorem iq:Wo (yo [a0,a1,a2]) Q↔Wo (Gb [.sh a0,.sh a1,.sh a2,.no,.no,.no]) (aO Q):=cW
noncomputable abbrev U0:Stmt:=top 50
noncomputable abbrev NL{α:Type}(Y:Str->Stmt->List Str->α):α:=Y "_law_amount" U0 ["ones","others","cell"]
noncomputable def Ng:SF:=
 (ai (aX 3 (aa bC (aa Ca (aa bC (eV 2) (eC (.int 2147483629))) (eC (.int 48271))) (eC (.int 2147483629))))
 (ai (cG (e7 (bE (aa dg (bH (bV 0)) (eC (.int 0)))) (e7 (bE (aa dg (bH (bV 1)) (eC (.int 0)))) (bE (aa dg (aa bC (eV 3) (eC (.int 6))) (eC (.int 0))))))
 (aB (aa bS (aa bC (eV 2) (aa eL (eC (.int 10)) (eC (.int 50)))) (aa Ca (eC (.int 5)) (aa eL (eC (.int 10)) (eC (.int 49)))))) c5)
 (ai (aX 4 (ax (bV 0) (aa bC (aa cJ (eV 3) (eC (.int 6))) (bH (bV 0)))))
 (ai (aX 5 (ax (bV 1) (aa bC (aa cJ (eV 3) (eC (.int 60))) (bH (bV 1)))))
 (ai (aX 6 (aa aU (ax (bV 4) (eC (.int 0))) (ax (bV 5) (eC (.int 0)))))
 (ai (aX 7 (aa aU (ax (bV 4) (eC (.int 1))) (ax (bV 5) (eC (.int 1)))))
 (ai (cG (bE (aa iN (aa bC (eV 3) (eC (.int 6))) (eC (.int 3))))
 (aB (aa bS (aa aU (ax (fX (aZ (af (eV 6) (af (eV 7) ae)))) (aa bC (eV 3) (eC (.int 2)))) (aa bC (aa cJ (eV 3) (eC (.int 600))) (eC (.int 3)))) (eC (.int 1)))) c5)
 (aB (aa aU (eV 6) (aa bC (aa Ca (eV 2) (aa eL (eC (.int 69621)) (eC (.int 12)))) (aa aU (aa bS (eV 7) (eV 6)) (eC (.int 1)))))))))))))
noncomputable def yy:List D->Option Sl:=aK Ng 8
theorem jO:Wo (yy [a0,a1,a2]) Q↔Wo (Ng [.sh a0,.sh a1,.sh a2,.no,.no,.no,.no,.no]) (aO Q):=cW
noncomputable abbrev UK:Stmt:=top 13
noncomputable abbrev Nr{α:Type}(Y:Str->Stmt->List Str->α):α:=Y "holds_one" UK ["row"]
noncomputable def Nj:SF:=
 (aB (aa dg (ax (bV 0) (eC (.int 0))) (ax (bV 0) (eC (.int 1)))))
noncomputable def tU:List D->Option Sl:=aK Nj 1
theorem kY:Wo (tU [a0]) Q↔Wo (Nj [.sh a0]) (aO Q):=cW
noncomputable abbrev SW:Stmt:=top 17
noncomputable abbrev LX{α:Type}(Y:Str->Stmt->List Str->α):α:=Y "plain" SW ["row"]
noncomputable def LQ:SF:=
 (aB (mO (cn (aP 1 tU (af (eV 0) ae))) (bD (af (ax (bV 0) (eC (.int 0))) (af (ax (bV 0) (eC (.int 1))) (af (ax (bV 0) (eC (.int 2))) (af (eC (.int 0)) ae))))) (eV 0)))
noncomputable def rT:List D->Option Sl:=aK LQ 1
theorem rY:Wo (rT [a0]) Q↔Wo (LQ [.sh a0]) (aO Q):=cW
noncomputable abbrev UT:Stmt:=top 16
noncomputable abbrev NF{α:Type}(Y:Str->Stmt->List Str->α):α:=Y "laid_beside" UT ["ahead","row"]
noncomputable def NO:SF:=
 (ai (aX 2 (mO (cn (aP 1 tU (af (eV 0) ae))) (aa bS (ax (bV 1) (eC (.int 2))) (ax (bV 0) (eC (.int 2)))) (ax (bV 0) (eC (.int 3)))))
 (ai (cG (bE (aa jE (ax (bV 1) (eC (.int 2))) (aP 3 tR (af (bD (af (ax (bV 0) (eC (.int 2))) (af (eV 2) ae))) (af (ax (bV 0) (eC (.int 0))) (af (ax (bV 1) (eC (.int 0))) ae))))))
 (aB (aZ (af (eV 0) (af (aP 1 rT (af (eV 1) ae)) ae)))) c5)
 (ai (cG (e7 (cn (aP 1 tU (af (eV 1) ae))) (bE (aa dg (ax (bV 1) (eC (.int 3))) (eV 2))))
 (aB (aZ (af (bD (af (ax (bV 0) (eC (.int 0))) (af (ax (bV 1) (eC (.int 1))) (af (ax (bV 0) (eC (.int 2))) (af (eV 2) ae))))) ae))) c5)
 (ai (aX 3 (aP 1 rT (af (bD (af (aa aU (ax (bV 1) (eC (.int 0))) (eC (.int 1))) (af (ax (bV 1) (eC (.int 1))) (af (aa aU (ax (bV 1) (eC (.int 2))) (ax (bV 1) (eC (.int 3)))) (af (ax (bV 1) (eC (.int 3))) ae))))) ae)))
 (aB (aZ (af (bD (af (ax (bV 0) (eC (.int 0))) (af (ax (bV 1) (eC (.int 0))) (af (ax (bV 0) (eC (.int 2))) (af (eV 2) ae))))) (af (eV 3) ae))))))))
noncomputable def CU:List D->Option Sl:=aK NO 4
theorem iY:Wo (CU [a0,a1]) Q↔Wo (NO [.sh a0,.sh a1,.no,.no]) (aO Q):=cW
noncomputable abbrev Sj:Stmt:=top 15
noncomputable abbrev LH{α:Type}(Y:Str->Stmt->List Str->α):α:=Y "laid" Sj ["rows"]
noncomputable def Ll:SF:=
 (ai (dA 1 (aZ ae))
 (ai (di (eV 0) (gN 2)
 (cG (nJ (Ce (bV 1)) (bE (aa dg (aa aU (ax (fX (ax (bV 1) (jG (eC (.int 1))))) (eC (.int 1))) (eC (.int 1))) (ax (bV 2) (eC (.int 0))))))
 (ai (lM 3 1)
 (jt 1 (aP 2 CU (af (eV 3) (af (eV 2) ae))))) (dO 1 (aP 1 rT (af (eV 2) ae)))))
 (aB (Cq (bV 1)))))
noncomputable def qF:List D->Option Sl:=aK Ll 4
theorem v7:Wo (qF [a0]) Q↔Wo (Ll [.sh a0,.no,.no,.no]) (aO Q):=cW
noncomputable abbrev US:Stmt:=top 11
noncomputable abbrev NN{α:Type}(Y:Str->Stmt->List Str->α):α:=Y "stretch_on" US ["line","low","first","last"]
noncomputable def Ni:SF:=
 (aB (bD (af (eV 2) (af (eV 3) (af (aP 3 tR (af (eV 0) (af (eV 1) (af (eV 2) ae)))) (af (ax (bV 0) (eC (.int 1))) ae))))))
noncomputable def tV:List D->Option Sl:=aK Ni 4
theorem jL:Wo (tV [a0,a1,a2,a3]) Q↔Wo (Ni [.sh a0,.sh a1,.sh a2,.sh a3]) (aO Q):=cW
noncomputable abbrev U4:Stmt:=top 9
noncomputable abbrev Ny{α:Type}(Y:Str->Stmt->List Str->α):α:=Y "span_or_none" U4 ["first","last"]
noncomputable def NK:SF:=
 (aB (mO (bE (aa n6 (eV 0) (eV 1))) (bD (af (eV 0) (af (eV 1) ae))) (eC .aG)))
noncomputable def yx:List D->Option Sl:=aK NK 2
theorem il:Wo (yx [a0,a1]) Q↔Wo (NK [.sh a0,.sh a1]) (aO Q):=cW
noncomputable abbrev QY:Stmt:=top 5
noncomputable abbrev ub{α:Type}(Y:Str->Stmt->List Str->α):α:=Y "up" QY ["a","b"]
noncomputable def wd:SF:=
 (aB (jG (aa cJ (jG (eV 0)) (eV 1))))
noncomputable def Ck:List D->Option Sl:=aK wd 2
theorem NT:Wo (Ck [a0,a1]) Q↔Wo (wd [.sh a0,.sh a1]) (aO Q):=cW
noncomputable abbrev Si:Stmt:=top 6
noncomputable abbrev LG{α:Type}(Y:Str->Stmt->List Str->α):α:=Y "down" Si ["a","b"]
noncomputable def Lk:SF:=
 (aB (aa cJ (eV 0) (eV 1)))
noncomputable def CI:List D->Option Sl:=aK Lk 2
theorem v8:Wo (CI [a0,a1]) Q↔Wo (Lk [.sh a0,.sh a1]) (aO Q):=cW
noncomputable abbrev UO:Stmt:=top 8
noncomputable abbrev Nw{α:Type}(Y:Str->Stmt->List Str->α):α:=Y "no_dearer" UO ["one","other","low","high"]
noncomputable def Nn:SF:=
 (ai (aX 4 (aa bS (ax (bV 0) (eC (.int 0))) (ax (bV 1) (eC (.int 0)))))
 (ai (aX 5 (aa bS (ax (bV 0) (eC (.int 1))) (ax (bV 1) (eC (.int 1)))))
 (ai (cG (bE (aa o8 (eV 5) (eC (.int 0))))
 (aB (aP 2 yx (af (eV 2) (af (tI xF (af (eV 3) (af (aa aU (eV 2) (aP 2 CI (af (jG (eV 4)) (af (eV 5) ae)))) ae))) ae)))) c5)
 (ai (cG (bE (aa iN (eV 5) (eC (.int 0))))
 (aB (aP 2 yx (af (tI xE (af (eV 2) (af (aa aU (eV 2) (aP 2 Ck (af (eV 4) (af (jG (eV 5)) ae)))) ae))) (af (eV 3) ae)))) c5)
 (aB (mO (bE (aa o8 (eV 4) (eC (.int 0)))) (eC .aG) (bD (af (eV 2) (af (eV 3) ae)))))))))
noncomputable def C6:List D->Option Sl:=aK Nn 6
theorem kR:Wo (C6 [a0,a1,a2,a3]) Q↔Wo (Nn [.sh a0,.sh a1,.sh a2,.sh a3,.no,.no]) (aO Q):=cW
noncomputable abbrev UR:Stmt:=top 10
noncomputable abbrev NM{α:Type}(Y:Str->Stmt->List Str->α):α:=Y "lower_line" UR ["one","other","low","high"]
noncomputable def Nh:SF:=
 (ai (aX 4 (aP 4 C6 (af (eV 0) (af (eV 1) (af (eV 2) (af (eV 3) ae))))))
 (ai (cG (bE (aa nk (eV 4) (eC .aG)))
 (aB (aZ (af (aP 4 tV (af (eV 1) (af (eV 2) (af (eV 2) (af (eV 3) ae))))) ae))) c5)
 (ai (dA 5 (aZ ae))
 (ai (cG (bE (aa iN (eV 2) (ax (bV 4) (eC (.int 0)))))
 (dO 5 (aP 4 tV (af (eV 1) (af (eV 2) (af (eV 2) (af (aa bS (ax (bV 4) (eC (.int 0))) (eC (.int 1))) ae)))))) c5)
 (ai (dO 5 (aP 4 tV (af (eV 0) (af (eV 2) (af (ax (bV 4) (eC (.int 0))) (af (ax (bV 4) (eC (.int 1))) ae))))))
 (ai (cG (bE (aa iN (ax (bV 4) (eC (.int 1))) (eV 3)))
 (dO 5 (aP 4 tV (af (eV 1) (af (eV 2) (af (aa aU (ax (bV 4) (eC (.int 1))) (eC (.int 1))) (af (eV 3) ae)))))) c5)
 (oB 5)))))))
noncomputable def CT:List D->Option Sl:=aK Nh 6
theorem jN:Wo (CT [a0,a1,a2,a3]) Q↔Wo (Nh [.sh a0,.sh a1,.sh a2,.sh a3,.no,.no]) (aO Q):=cW
noncomputable abbrev UN:Stmt:=top 23
noncomputable abbrev Nv{α:Type}(Y:Str->Stmt->List Str->α):α:=Y "line_from" UN ["row","low"]
noncomputable def Nm:SF:=
 (aB (bD (af (aP 2 tX (af (eV 0) (af (eV 1) ae))) (af (ax (bV 0) (eC (.int 3))) ae))))
noncomputable def yh:List D->Option Sl:=aK Nm 2
theorem kT:Wo (yh [a0,a1]) Q↔Wo (Nm [.sh a0,.sh a1]) (aO Q):=cW
noncomputable abbrev Rt:Stmt:=top 22
noncomputable abbrev Lb{α:Type}(Y:Str->Stmt->List Str->α):α:=Y "met" Rt ["one","other"]
noncomputable def Rg:En->Nat:=λ_=>1000000
noncomputable def K3:SF:=
 (ai (dA 2 (aZ ae))
 (ai (aX 3 (eC (.int 0)))
 (ai (aX 4 (eC (.int 0)))
 (ai (Co Rg (nJ (bE (aa iN (eV 3) (bH (bV 0)))) (bE (aa iN (eV 4) (bH (bV 1)))))
 (ai (aX 5 (ax (bV 0) (eV 3)))
 (ai (aX 6 (ax (bV 1) (eV 4)))
 (ai (aX 7 (tI xE (af (ax (bV 5) (eC (.int 0))) (af (ax (bV 6) (eC (.int 0))) ae))))
 (ai (aX 8 (tI xF (af (ax (bV 5) (eC (.int 1))) (af (ax (bV 6) (eC (.int 1))) ae))))
 (ai (cG (bE (aa n6 (eV 7) (eV 8)))
 (dO 2 (bD (af (eV 7) (af (eV 8) (af (aP 2 yh (af (eV 5) (af (eV 7) ae))) (af (aP 2 yh (af (eV 6) (af (eV 7) ae))) ae)))))) c5)
 (cG (bE (aa iN (ax (bV 5) (eC (.int 1))) (ax (bV 6) (eC (.int 1)))))
 (iK 3 (eC (.int 1))) (iK 4 (eC (.int 1))))))))))
 (oB 2)))))
noncomputable def Cu:List D->Option Sl:=aK K3 9
theorem C7:Wo (Cu [a0,a1]) Q↔Wo (K3 [.sh a0,.sh a1,.no,.no,.no,.no,.no,.no,.no]) (aO Q):=cW
noncomputable abbrev UY:Stmt:=top 29
noncomputable abbrev NJ{α:Type}(Y:Str->Stmt->List Str->α):α:=Y "lesser_rows" UY ["one","other"]
noncomputable def ND:SF:=
 (ai (dA 2 (aZ ae))
 (ai (di (aP 2 Cu (af (eV 0) (af (eV 1) ae))) (gT 4 (oC (gN 3) (oC (gN 4) (oC (gN 5) (oC (gN 6) Cc)))))
 (jt 2 (aP 4 CT (af (eV 5) (af (eV 6) (af (eV 3) (af (eV 4) ae)))))))
 (oB 2)))
noncomputable def CY:List D->Option Sl:=aK ND 7
theorem iU:Wo (CY [a0,a1]) Q↔Wo (ND [.sh a0,.sh a1,.no,.no,.no,.no,.no]) (aO Q):=cW
noncomputable abbrev Rr:Stmt:=top 24
noncomputable abbrev La{α:Type}(Y:Str->Stmt->List Str->α):α:=Y "cut" Rr ["row","low","high"]
noncomputable def K1:SF:=
 (aB (bD (af (eV 1) (af (eV 2) (af (aP 2 tX (af (eV 0) (af (eV 1) ae))) (af (ax (bV 0) (eC (.int 3))) ae))))))
noncomputable def xR:List D->Option Sl:=aK K1 3
theorem C9:Wo (xR [a0,a1,a2]) Q↔Wo (K1 [.sh a0,.sh a1,.sh a2]) (aO Q):=cW
noncomputable abbrev UA:Stmt:=top 25
noncomputable abbrev Nc{α:Type}(Y:Str->Stmt->List Str->α):α:=Y "outside" UA ["form","spans"]
noncomputable def Uv:En->Nat:=λ_=>1000000
noncomputable def MU:SF:=
 (ai (dA 2 (aZ ae))
 (ai (aX 3 (eC (.int 0)))
 (ai (di (eV 0) (gN 4)
 (ai (aX 5 (ax (bV 4) (eC (.int 0))))
 (ai (Co Uv (nJ (bE (aa iN (eV 3) (bH (bV 1)))) (bE (aa n6 (ax (fX (ax (bV 1) (eV 3))) (eC (.int 0))) (ax (bV 4) (eC (.int 1))))))
 (ai (cG (bE (aa iN (eV 5) (ax (fX (ax (bV 1) (eV 3))) (eC (.int 0)))))
 (dO 2 (aP 3 xR (af (eV 4) (af (eV 5) (af (aa bS (ax (fX (ax (bV 1) (eV 3))) (eC (.int 0))) (eC (.int 1))) ae))))) c5)
 (ai (aX 5 (tI xE (af (eV 5) (af (aa aU (ax (fX (ax (bV 1) (eV 3))) (eC (.int 1))) (eC (.int 1))) ae))))
 (ai (cG (bE (aa o8 (ax (fX (ax (bV 1) (eV 3))) (eC (.int 1))) (ax (bV 4) (eC (.int 1)))))
 Hl c5)
 (iK 3 (eC (.int 1)))))))
 (cG (bE (aa n6 (eV 5) (ax (bV 4) (eC (.int 1)))))
 (dO 2 (aP 3 xR (af (eV 4) (af (eV 5) (af (ax (bV 4) (eC (.int 1))) ae))))) c5))))
 (oB 2))))
noncomputable def yk:List D->Option Sl:=aK MU 6
theorem nQ:Wo (yk [a0,a1]) Q↔Wo (MU [.sh a0,.sh a1,.no,.no,.no,.no]) (aO Q):=cW
noncomputable abbrev UP:Stmt:=top 20
noncomputable abbrev M3{α:Type}(Y:Str->Stmt->List Str->α):α:=Y "spans_of" UP ["form"]
noncomputable def M8:SF:=
 (ai (dA 1 (aZ ae))
 (ai (di (eV 0) (gN 2)
 (cG (nJ (Ce (bV 1)) (bE (aa dg (aa aU (ax (fX (ax (bV 1) (jG (eC (.int 1))))) (eC (.int 1))) (eC (.int 1))) (ax (bV 2) (eC (.int 0))))))
 (ai (lM 3 1)
 (dO 1 (bD (af (ax (bV 3) (eC (.int 0))) (af (ax (bV 2) (eC (.int 1))) ae))))) (dO 1 (bD (af (ax (bV 2) (eC (.int 0))) (af (ax (bV 2) (eC (.int 1))) ae))))))
 (aB (Cq (bV 1)))))
noncomputable def vW:List D->Option Sl:=aK M8 4
theorem mj:Wo (vW [a0]) Q↔Wo (M8 [.sh a0,.no,.no,.no]) (aO Q):=cW
noncomputable abbrev SS:Stmt:=top 27
noncomputable abbrev LW{α:Type}(Y:Str->Stmt->List Str->α):α:=Y "least" SS ["one","other"]
noncomputable def LP:SF:=
 (ai (aX 2 (aa aU (aP 2 yk (af (eV 0) (af (aP 1 vW (af (eV 1) ae)) ae))) (aP 2 yk (af (eV 1) (af (aP 1 vW (af (eV 0) ae)) ae)))))
 (aB (aP 1 qF (af (FY (aa aU (aP 2 CY (af (eV 0) (af (eV 1) ae))) (eV 2))) ae))))
noncomputable def qA:List D->Option Sl:=aK LP 3
theorem rZ:Wo (qA [a0,a1]) Q↔Wo (LP [.sh a0,.sh a1,.no]) (aO Q):=cW
noncomputable abbrev Ur:Stmt:=top 28
noncomputable abbrev jX{α:Type}(Y:Str->Stmt->List Str->α):α:=Y "least_of" Ur ["forms"]
noncomputable def CW:List D->Option Sl:=λ_=>none
noncomputable def UD:SF:=
 (ai (cG (bE (aa iN (bH (bV 0)) (eC (.int 2))))
 (aB (mO (cn (eV 0)) (ax (bV 0) (eC (.int 0))) (bD ae))) c5)
 (ai (aX 1 (aa cJ (bH (bV 0)) (eC (.int 2))))
 (aB (aP 2 qA (af (aP 1 CW (af (l7 (bV 0) mC (lO (eV 1))) ae)) (af (aP 1 CW (af (l7 (bV 0) (lO (eV 1)) mC) ae)) ae))))))
noncomputable def yr:List D->Option Sl:=aK UD 2
theorem a7e:Wo (yr [a0]) Q↔Wo (UD [.sh a0,.no]) (aO Q):=cW
noncomputable def UE:SF:=
 (ai (cG (bE (aa iN (bH (bV 0)) (eC (.int 2))))
 (aB (mO (cn (eV 0)) (ax (bV 0) (eC (.int 0))) (bD ae))) c5)
 (ai (aX 1 (aa cJ (bH (bV 0)) (eC (.int 2))))
 (aB (aP 2 qA (af (aP 1 yr (af (l7 (bV 0) mC (lO (eV 1))) ae)) (af (aP 1 yr (af (l7 (bV 0) (lO (eV 1)) mC) ae)) ae))))))
noncomputable def yt:List D->Option Sl:=aK UE 2
theorem a7d:Wo (yt [a0]) Q↔Wo (UE [.sh a0,.no]) (aO Q):=cW
noncomputable def UG:SF:=
 (ai (cG (bE (aa iN (bH (bV 0)) (eC (.int 2))))
 (aB (mO (cn (eV 0)) (ax (bV 0) (eC (.int 0))) (bD ae))) c5)
 (ai (aX 1 (aa cJ (bH (bV 0)) (eC (.int 2))))
 (aB (aP 2 qA (af (aP 1 yt (af (l7 (bV 0) mC (lO (eV 1))) ae)) (af (aP 1 yt (af (l7 (bV 0) (lO (eV 1)) mC) ae)) ae))))))
noncomputable def yu:List D->Option Sl:=aK UG 2
theorem a7c:Wo (yu [a0]) Q↔Wo (UG [.sh a0,.no]) (aO Q):=cW
noncomputable def UH:SF:=
 (ai (cG (bE (aa iN (bH (bV 0)) (eC (.int 2))))
 (aB (mO (cn (eV 0)) (ax (bV 0) (eC (.int 0))) (bD ae))) c5)
 (ai (aX 1 (aa cJ (bH (bV 0)) (eC (.int 2))))
 (aB (aP 2 qA (af (aP 1 yu (af (l7 (bV 0) mC (lO (eV 1))) ae)) (af (aP 1 yu (af (l7 (bV 0) (lO (eV 1)) mC) ae)) ae))))))
noncomputable def yv:List D->Option Sl:=aK UH 2
theorem a7b:Wo (yv [a0]) Q↔Wo (UH [.sh a0,.no]) (aO Q):=cW
noncomputable def NC:SF:=
 (ai (cG (bE (aa iN (bH (bV 0)) (eC (.int 2))))
 (aB (mO (cn (eV 0)) (ax (bV 0) (eC (.int 0))) (bD ae))) c5)
 (ai (aX 1 (aa cJ (bH (bV 0)) (eC (.int 2))))
 (aB (aP 2 qA (af (aP 1 yv (af (l7 (bV 0) mC (lO (eV 1))) ae)) (af (aP 1 yv (af (l7 (bV 0) (lO (eV 1)) mC) ae)) ae))))))
noncomputable def tW:List D->Option Sl:=aK NC 2
theorem eW:Wo (tW [a0]) Q↔Wo (NC [.sh a0,.no]) (aO Q):=cW
noncomputable abbrev UC:Stmt:=top 35
noncomputable abbrev Nf{α:Type}(Y:Str->Stmt->List Str->α):α:=Y "step_of" UC ["row"]
noncomputable def MW:SF:=
 (aB (ax (bV 0) (eC (.int 3))))
noncomputable def ym:List D->Option Sl:=aK MW 1
theorem nN:Wo (ym [a0]) Q↔Wo (MW [.sh a0]) (aO Q):=cW
noncomputable abbrev TR:Stmt:=top 34
noncomputable abbrev Mq{α:Type}(Y:Str->Stmt->List Str->α):α:=Y "poured" TR ["rows"]
noncomputable def Me:SF:=
 (ai (aX 1 (jF (fX (gG (fC (eV 0)) [] 1 (gN 0) lG (ax (bV 0) (eC (.int 0)))))))
 (ai (aX 2 (jF (fX (gG (fC (eV 0)) [] 1 (gN 0) lG (ax (bV 0) (eC (.int 2)))))))
 (ai (dA 3 (aZ (af (bD (af (eV 1) (af (eV 1) (af (eV 2) (af (eC (.int 0)) ae))))) ae)))
 (ai (di (Cj ym (eV 0)) (gN 4)
 (ai (aX 5 (aa bS (ax (bV 4) (eC (.int 1))) (ax (bV 4) (eC (.int 0)))))
 (ai (cG (bE (aa o8 (eV 5) (eC (.int 0))))
 (dO 3 (bD (af (aa aU (eV 1) (eC (.int 1))) (af (aa aU (eV 1) (eV 5)) (af (aa aU (eV 2) (ax (bV 4) (eC (.int 3)))) (af (ax (bV 4) (eC (.int 3))) ae)))))) c5)
 (ai (iK 1 (eV 5))
 (iK 2 (aa fU (ax (bV 4) (eC (.int 3))) (eV 5)))))))
 (m8 3 (aB (aP 1 qF (af (eV 3) ae))))))))
noncomputable def vY:List D->Option Sl:=aK Me 6
theorem pM:Wo (vY [a0]) Q↔Wo (Me [.sh a0,.no,.no,.no,.no,.no]) (aO Q):=cW
noncomputable abbrev U3:Stmt:=top 36
noncomputable abbrev Nx{α:Type}(Y:Str->Stmt->List Str->α):α:=Y "least_poured" U3 ["forms"]
noncomputable def Gx:SF:=
 (aB (aP 1 tW (af (gG (fC (aP 1 qB (af (eV 0) ae))) [] 1 (gN 0) lG (aP 1 vY (af (eV 0) ae))) ae)))
noncomputable def yw:List D->Option Sl:=aK Gx 1
theorem eh:Wo (yw [a0]) Q↔Wo (Gx [.sh a0]) (aO Q):=cW
noncomputable abbrev SX:Stmt:=top 32
noncomputable abbrev LY{α:Type}(Y:Str->Stmt->List Str->α):α:=Y "split" SX ["one","other"]
noncomputable def FF:SF:=
 (aB (aP 1 yw (af (aZ (af (eV 0) (af (eV 1) ae))) ae)))
noncomputable def tT:List D->Option Sl:=aK FF 2
theorem m6:Wo (tT [a0,a1]) Q↔Wo (FF [.sh a0,.sh a1]) (aO Q):=cW
noncomputable abbrev UL:Stmt:=top 46
noncomputable abbrev Nt{α:Type}(Y:Str->Stmt->List Str->α):α:=Y "_law_mixed" UL ["number","factor"]
noncomputable def Nk:SF:=
 (aB (aa bC (aa fU (aa bC (eV 0) (eC (.int 2147483629))) (eV 1)) (eC (.int 2147483629))))
noncomputable def v5:List D->Option Sl:=aK Nk 2
theorem kX:Wo (v5 [a0,a1]) Q↔Wo (Nk [.sh a0,.sh a1]) (aO Q):=cW
noncomputable abbrev UX:Stmt:=top 47
noncomputable abbrev NI{α:Type}(Y:Str->Stmt->List Str->α):α:=Y "_law_stretch" UX ["number","ahead"]
noncomputable def NB:SF:=
 (ai (aX 2 (aa bC (aa fU (eV 0) (aa eL (eC (.int 48271)) (eC (.int 12)))) (aa eL (eC (.int 10)) (eC (.int 50)))))
 (ai (aX 3 (aa bC (aa fU (eV 0) (aa eL (eC (.int 69621)) (eC (.int 12)))) (aa eL (eC (.int 10)) (eC (.int 40)))))
 (ai (aX 4 (aP 2 v5 (af (eV 0) (af (eC (.int 1583458089)) ae))))
 (ai (aX 5 (aP 2 v5 (af (eV 0) (af (eC (.int 784588716)) ae))))
 (ai (aX 6 (aP 2 v5 (af (eV 0) (af (eC (.int 950706376)) ae))))
 (ai (aX 7 (ax (fX (aZ (af (eC (.int 0)) (af (aa bS (aa bC (aa cJ (eV 4) (eC (.int 7))) (eC (.int 41))) (eC (.int 20))) (af (aa bS (eV 2) (aa fU (eC (.int 5)) (aa eL (eC (.int 10)) (eC (.int 49))))) ae))))) (aa bC (eV 4) (eC (.int 3)))))
 (ai (aX 8 (ax (fX (aZ (af (aa bS (aa bC (aa cJ (eV 5) (eC (.int 5))) (eC (.int 61))) (eC (.int 30))) (af (aa bS (eV 3) (aa fU (eC (.int 5)) (aa eL (eC (.int 10)) (eC (.int 39))))) ae)))) (aa bC (eV 5) (eC (.int 2)))))
 (ai (aX 9 (ax (fX (aZ (af (eC (.int 0)) (af (aa bS (aa bC (aa cJ (eV 6) (eC (.int 9))) (eC (.int 7))) (eC (.int 3))) (af (aa bS (aa bC (aa cJ (eV 6) (eC (.int 9))) (eC (.int 7))) (eC (.int 3))) (af (aa bS (aa cJ (eV 2) (aa eL (eC (.int 10)) (eC (.int 9)))) (aa fU (eC (.int 5)) (aa eL (eC (.int 10)) (eC (.int 40))))) ae)))))) (aa bC (eV 6) (eC (.int 4)))))
 (ai (aX 10 (ax (fX (aZ (af (eC (.int 1)) (af (eC (.int 2)) (af (aa aU (eC (.int 1)) (aa bC (aa cJ (eV 4) (eC (.int 300))) (eC (.int 9)))) (af (aa aU (eC (.int 1)) (eV 3)) ae)))))) (aa bC (aa cJ (eV 5) (eC (.int 400))) (eC (.int 4)))))
 (ai (cG (bE (aa o8 (bH (bV 1)) (eC (.int 0))))
 (ai (aX 11 (ax (bV 1) (jG (eC (.int 1)))))
 (ai (aX 7 (aa aU (aa aU (ax (bV 11) (eC (.int 1))) (eC (.int 1))) (ax (fX (aZ (af (eC (.int 0)) (af (eC (.int 0)) (af (aa aU (eC (.int 1)) (aa bC (aa cJ (eV 5) (eC (.int 3000))) (eC (.int 5)))) (af (aa bC (eV 2) (aa eL (eC (.int 10)) (eC (.int 40)))) ae)))))) (aa bC (aa cJ (eV 6) (eC (.int 70))) (eC (.int 4))))))
 (cG (bE (aa dg (aa bC (aa cJ (eV 4) (eC (.int 3000))) (eC (.int 2))) (eC (.int 1))))
 (aX 8 (aa bS (aa aU (aa aU (ax (bV 11) (eC (.int 2))) (aa fU (ax (bV 11) (eC (.int 3))) (aa aU (aa bS (ax (bV 11) (eC (.int 1))) (ax (bV 11) (eC (.int 0)))) (eC (.int 1))))) (aa bC (aa cJ (eV 6) (eC (.int 300))) (eC (.int 3)))) (eC (.int 1)))) c5))) c5)
 (aB (bD (af (eV 7) (af (aa bS (aa aU (eV 7) (eV 10)) (eC (.int 1))) (af (eV 8) (af (eV 9) ae))))))))))))))))
noncomputable def yq:List D->Option Sl:=aK NB 12
theorem iV:Wo (yq [a0,a1]) Q↔Wo (NB [.sh a0,.sh a1,.no,.no,.no,.no,.no,.no,.no,.no,.no,.no]) (aO Q):=cW
noncomputable abbrev Uo:Stmt:=top 48
noncomputable abbrev M0{α:Type}(Y:Str->Stmt->List Str->α):α:=Y "_law_rows" Uo ["numbers"]
noncomputable def M6:SF:=
 (ai (dA 1 (aZ ae))
 (ai (di (eV 0) (gN 2)
 (dO 1 (Cd 1 (aP 2 yq (af (eV 2) (af (eV 1) ae))))))
 (oB 1)))
noncomputable def tY:List D->Option Sl:=aK M6 3
theorem mm:Wo (tY [a0]) Q↔Wo (M6 [.sh a0,.no,.no]) (aO Q):=cW
noncomputable abbrev UU:Stmt:=top 45
noncomputable abbrev NG{α:Type}(Y:Str->Stmt->List Str->α):α:=Y "_law_numbers" UU ["script","first","most"]
noncomputable def Nz:SF:=
 (ai (dA 3 (aZ ae))
 (ai (K' (kr Fk (af (eV 1) (af (bH (bV 0)) ae))) (gN 4)
 (ai (aX 5 (aa bC (ax (bV 0) (eV 4)) (aa eL (eC (.int 10)) (eC (.int 18)))))
 (cG (bE (aa iN (bH (bV 3)) (eV 2)))
 (dO 3 (eV 5)) (xH 3 (aa bC (aa aU (aa fU (ax (bV 3) (aa bC (eV 4) (eV 2))) (eC (.int 10007))) (eV 5)) (aa eL (eC (.int 10)) (eC (.int 18)))) (aa bC (eV 4) (eV 2))))))
 (oB 3)))
noncomputable def yp:List D->Option Sl:=aK Nz 6
theorem iX:Wo (yp [a0,a1,a2]) Q↔Wo (Nz [.sh a0,.sh a1,.sh a2,.no,.no,.no]) (aO Q):=cW
noncomputable abbrev Cp:Stmt:=top 54
noncomputable abbrev yM{α:Type}(Y:Str->Stmt->List Str->α):α:=Y "law" Cp ["script"]
noncomputable def K2:SF:=
 (ai (aX 1 (aP 3 yp (af (eV 0) (af (eC (.int 0)) (af (eC (.int 6)) ae)))))
 (ai (aX 2 (aP 1 tY (af (gG (kr xB (af (eC (.int 0)) (af (bH (bV 1)) (af (eC (.int 2)) ae)))) [1] 1 (gN 0) lG (ax (bV 1) (eV 0))) ae)))
 (ai (aX 3 (aP 1 tY (af (gG (kr xB (af (eC (.int 1)) (af (bH (bV 1)) (af (eC (.int 2)) ae)))) [1] 1 (gN 0) lG (ax (bV 1) (eV 0))) ae)))
 (ai (aX 4 (aP 1 qF (af (eV 2) ae)))
 (ai (aX 5 (aP 1 qF (af (eV 3) ae)))
 (ai (aX 6 (aP 2 tT (af (eV 4) (af (eV 5) ae))))
 (ai (di (aa Fg (eV 0) (aZ (af (eC (.int 0)) ae))) (gN 7)
 (ai (aX 8 (aP 3 yy (af (eV 2) (af (eV 3) (af (eV 7) ae)))))
 (ai (aX 9 (aP 3 yo (af (eV 4) (af (eV 5) (af (eV 8) ae)))))
 (cG (cn (aP 3 CV (af (eV 2) (af (eV 3) (af (eV 8) ae)))))
 (cG (e7 (cn (ax (bV 9) (eC (.int 0)))) (qo (cn (aP 5 C5 (af (ax (bV 9) (eC (.int 1))) (af (eV 2) (af (eV 3) (af (eV 8) (af (aP 2 yj (af (eV 6) (af (eV 8) ae))) ae)))))))))
 (aB (eC (.bl false))) c5) (cG (e7 (qo (cn (ax (bV 9) (eC (.int 0))))) (bE (aa K8 (aP 2 yj (af (eV 6) (af (eV 8) ae))) (eC .aG))))
 (aB (eC (.bl false))) c5)))))
 (aB (eC (.bl true))))))))))
noncomputable def FJ:List D->Option Sl:=aK K2 10
theorem C8:Wo (FJ [a0]) Q↔Wo (K2 [.sh a0,.no,.no,.no,.no,.no,.no,.no,.no,.no]) (aO Q):=cW
structure r8(K:aC)(mg:Str->Option Value)(fo js fm:Addr):Prop where
 wo:Cl K mg "NotOffered" fo
 Vu:Cl K mg "OfferError" js
 wm:Cl K mg "TooMany" fm
 GZ:BQ K (.ref fo) (.ref js)=some true
 GY:BQ K (.ref fm) (.ref js)=some true
 GX:om K (.ref fo) (.ref fo)=some true
 GW:om K (.ref fo) (.ref fm)=some false
 GU:om K (.ref fm) (.ref fo)=some false
 GS:om K (.ref fm) (.ref fm)=some true
 GR:om K (.ref fo) (.type "ValueError")=some true
 GQ:om K (.ref fm) (.type "ValueError")=some true
 Vc:wg K fo
 Vb:wg K fm
theorem fx{X X':Cx}{fo js fm:Addr}(e3:X'.K=X.K)(e4:X'.mg=X.mg)(h:r8 X.K X.mg fo js fm):r8 X'.K X'.mg fo js fm:=by rw [e3,e4];exact h
section
variable {P:Program}{w:World}{K:aC}{mg:Str->Option Value}{base:Heap}
variable {fo js fm:Addr}(TT:r8 K mg fo js fm)
variable (z_max:mg "max" = none)
variable (z_min:mg "min" = none)
variable (z_tuple:mg "tuple" = none)
variable (z_len:mg "len" = none)
variable (z_sorted:mg "sorted" = none)
variable (z_sum:mg "sum" = none)
variable (z_MOST_PICKS:N1 mg "MOST_PICKS" 100)
variable (z_zip:mg "zip" = none)
variable (z_range:mg "range" = none)
variable (z_isinstance:mg "isinstance" = none)
variable (z_ValueError:mg "ValueError" = none)
variable (z_bool:mg "bool" = none)
variable (z_int:mg "int" = none)
theorem a5V(D':NH (Def K mg) a d):NH (Oz P w K mg base) 1 CV:=aV (N:=["ones","others","x","one","other"]) D' λX r h=>by
 cases r
 exact (aF (kP h.own h.calm (h.v 0) (h.tg 3) (aJ (kP h.own h.calm (h.v 1) (h.tg 4) (aJ (dt (fw (xO (cH ql (aA dJ (aE (h.bv 3) aj) (aE (h.bv 4) aj)) (h.v 2)) (xT (cH ql (h.v 2) (aA dJ (aE (h.bv 3) aj) (aE (h.bv 4) aj)))))) (aJ (bK rP)) d9))))) (aJ (bK rP)))
variable (Gq:NH (Oz P w K mg base) 1 CV)
theorem a8D(D':MZ (Def K mg) a d):MZ (Oz P w K mg base) 1 yn:=aV (N:=["rows","x","low","high","price","step"]) D' λX r h=>by
 cases r
 exact (aF (kP h.own h.calm (h.v 0) (Lx (n:=4) h.calm (qD (h.tg 2) (qD (h.tg 3) (qD (h.tg 4) (qD (h.tg 5) L4))))) (aJ (dt (fw (xO (cH ql (h.v 2) (h.v 1)) (xT (cH ql (h.v 1) (h.v 3))))) (aJ (bK (aA dJ (h.v 4) (aA pH (h.v 5) (aA ik (h.v 1) (h.v 2)))))) d9))) (aJ (bK qr)))
variable (CM:MZ (Oz P w K mg base) 1 yn)
include z_tuple z_len z_isinstance z_bool z_int CM in
theorem a7F(D':Nu (Def K mg) a d):Nu (Oz P w K mg base) 2 C5:=aV (N:=["found","ones","others","x","cost","part","first","second"]) D' λX r h=>by
 cases r
 exact (aF (dt (fw (qp (vN (jo (Lw (bg (bg (bg (bg rfl)))) h.g z_isinstance h.g z_tuple (by decide +kernel) (h.v 0)))) (tK (cH (Ri h.u8) (f' h.g z_len (h.bv 0)) aj)))) (aJ (bK rP)) d9) (aF (kP h.own h.calm (h.v 0) (h.tg 5) (aJ (dt (fw (qp (vN (jo (Lw (bJ rfl) h.g z_isinstance h.g z_int (by decide +kernel) (h.v 5)))) (tK (jo (Lw (bg (bJ rfl)) h.g z_isinstance h.g z_bool (by decide +kernel) (h.v 5)))))) (aJ (bK rP)) d9))) (aF (h.ay 6 (h.cl CM (ag (h.v 1) (ag (aE (h.bv 0) aj) aw)))) (aF (h.ay 7 (h.cl CM (ag (h.v 2) (ag (aE (h.bv 0) aj) aw)))) (aF (dt (fw (qp (cH Fu (h.v 6) qr) (qp (cH Fu (h.v 7) qr) (tK (cH Fu (h.v 4) qr))))) (aJ (bK rP)) d9) (aJ (bK (Lu (Lv (mX h.u8) (aA dJ (aE (h.bv 0) aj) (aE (h.bv 0) aj)) (h.v 3)) (RG (Lv (mX h.u8) (aA dJ (h.v 6) (h.v 7)) (h.v 4)))))))))))
variable (Gu:Nu (Oz P w K mg base) 2 C5)
theorem b0n(D':Nb (Def K mg) a d):Nb (Oz P w K mg base) 1 tR:=aV (N:=["line","low","x"]) D' λX r h=>by
 cases r
 exact (aJ (bK (aA dJ (aE (h.bv 0) aj) (aA pH (aE (h.bv 0) aj) (aA ik (h.v 2) (h.v 1))))))
variable (qz:Nb (Oz P w K mg base) 1 tR)
include qz in
theorem a8E(D':MY (Def K mg) a d):MY (Oz P w K mg base) 2 tX:=aV (N:=["row","x"]) D' λX r h=>by
 cases r
 exact (aJ (bK (h.cl qz (ag (gz (ag (aE (h.bv 0) aj) (ag (aE (h.bv 0) aj) aw))) (ag (aE (h.bv 0) aj) (ag (h.v 1) aw))))))
variable (nM:MY (Oz P w K mg base) 2 tX)
include z_len in
theorem a8z(D':M2 (Def K mg) a d):M2 (Oz P w K mg base) 1 ye:=aV (N:=["form","x","first","behind","middle"]) D' λX r h=>by
 cases r
 exact (aF (h.ay 2 aj) (aF (h.ay 3 (f' h.g z_len (h.bv 0))) (aF (Mp Uk h.own (cH jV (h.v 2) (h.v 3)) (aF (h.ay 4 (aA iF (aA dJ (h.v 2) (h.v 3)) aj)) (aJ (dt (cH jV (aE (gF (aE (h.bv 0) (h.v 4))) aj) (h.v 1)) (aJ (h.ay 2 (aA dJ (h.v 4) aj))) (aJ (h.ay 3 (h.v 4))))))) (aJ (bK (h.v 2))))))
variable (Gg:M2 (Oz P w K mg base) 1 ye)
include z_len nM Gg in
theorem b0o(D':Na (Def K mg) a d):Na (Oz P w K mg base) 3 yj:=aV (N:=["form","x","place"]) D' λX r h=>by
 cases r
 exact (aF (h.ay 2 (h.cl Gg (ag (h.v 0) (ag (h.v 1) aw)))) (aF (dt (fw (qp (cH (mX h.u8) (h.v 2) (f' h.g z_len (h.bv 0))) (tK (cH jV (h.v 1) (aE (gF (aE (h.bv 0) (h.v 2))) aj))))) (aJ (bK qr)) d9) (aJ (bK (h.cl nM (ag (aE (h.bv 0) (h.v 2)) (ag (h.v 1) aw)))))))
variable (CC:Na (Oz P w K mg base) 3 yj)
include z_len in
theorem a4y(D':NS (Def K mg) a d):NS (Oz P w K mg base) 1 pK:=aV (N:=["forms","many","form"]) D' λX r h=>by
 cases r
 exact (aF (h.ay 1 aj) (aF (kP h.own h.calm (h.v 0) (h.tg 2) (aJ (h.LK 1 (f' h.g z_len (h.bv 2))))) (aJ (bK (h.v 1)))))
variable (pJ:NS (Oz P w K mg base) 1 pK)
include TT z_MOST_PICKS pJ in
theorem b3d(D':xS (Def K mg) a d):xS (Oz P w K mg base) 2 qB:=aV (N:=["forms","ways","form","longer","rows"]) D' λX r h=>by
 cases r
 exact (aF (dt (cH tG (h.cl pJ (ag (h.v 0) aw)) (MG h.g z_MOST_PICKS)) (aJ F9) d9) (aF (dt (cH (mX h.u8) (h.cl pJ (ag (h.v 0) aw)) aj) (aJ (bK (eI aw))) d9) (aF (h.ay 1 (eI (ag (eI aw) aw))) (aF (kP h.own h.calm (h.v 0) (h.tg 2) (aF (h.set 3 (eI aw)) (aF (kP h.own h.calm (h.v 1) (h.tg 4) (aJ (h.ext 3 (qw (N':=["row","rows"]) (caps:=[4]) (nt:=1) h ⟨rfl,by decide +kernel,by decide +kernel,by decide +kernel,by decide +kernel,rfl,rfl,by decide +kernel⟩ (qt (h.v 2)) (λX1 cU cS bq a9 cR h1=>⟨(h1.tg 0),pG,(aA dJ (h1.v 1) (eI (ag (h1.v 0) aw)))⟩))))) (aJ (LF 3 (h.ay 1 (h.v 3))))))) (aJ (bK (h.v 1)))))))
variable (qv:xS (Oz P w K mg base) 2 qB)
include TT z_MOST_PICKS pJ in
theorem b2F(D':xS (Def K mg) a d):xS (Xz P w K mg base) 2 yd:=K6 (N:=["forms","ways","form","longer","rows"]) D' λX W r h xk xr=>by
 cases r
 exact (vT (Ld (TV.cP (cH tG (h.cl pJ (ag (h.v 0) aw)) (MG h.g z_MOST_PICKS))) (vQ (SY h.calm xr TT.Vb h.g TT.wm.m (AV.cP (ag RH aw)))) L3) (SV.cP (dt (cH tG (h.cl pJ (ag (h.v 0) aw)) (MG h.g z_MOST_PICKS)) (aJ F9) d9)) (vT (Ld (TV.cP (cH (mX h.u8) (h.cl pJ (ag (h.v 0) aw)) aj)) (vQ xJ) L3) (SV.cP (dt (cH (mX h.u8) (h.cl pJ (ag (h.v 0) aw)) aj) (aJ (bK (eI aw))) d9)) (vT xJ (SV.cP (h.ay 1 (eI (ag (eI aw) aw)))) (vT xJ (SV.cP (kP h.own h.calm (h.v 0) (h.tg 2) (aF (h.set 3 (eI aw)) (aF (kP h.own h.calm (h.v 1) (h.tg 4) (aJ (h.ext 3 (qw (N':=["row","rows"]) (caps:=[4]) (nt:=1) h ⟨rfl,by decide +kernel,by decide +kernel,by decide +kernel,by decide +kernel,rfl,rfl,by decide +kernel⟩ (qt (h.v 2)) (λX1 cU cS bq a9 cR h1=>⟨(h1.tg 0),pG,(aA dJ (h1.v 1) (eI (ag (h1.v 0) aw)))⟩))))) (aJ (LF 3 (h.ay 1 (h.v 3)))))))) (vQ xJ)))))
variable (xW:xS (Xz P w K mg base) 2 yd)
include z_sum in
theorem b0l(D':Nd (Def K mg) a d):Nd (Oz P w K mg base) 1 tS:=aV (N:=["rows","x"]) D' λX r h=>by
 cases r
 exact (aJ (bK (b3K ql ql (xM h.g z_sum h.calm (gF (qw (N':=["row"]) (caps:=[]) (nt:=1) h ⟨rfl,by decide +kernel,by decide +kernel,by decide +kernel,by decide +kernel,rfl,rfl,by decide +kernel⟩ (qt (h.v 0)) (λX1 cU cS bq a9 cR h1=>⟨(h1.tg 0),pG,(aE (h1.bv 0) aj)⟩)))) (h.v 1) (xM h.g z_sum h.calm (gF (qw (N':=["row"]) (caps:=[]) (nt:=1) h ⟨rfl,by decide +kernel,by decide +kernel,by decide +kernel,by decide +kernel,rfl,rfl,by decide +kernel⟩ (qt (h.v 0)) (λX1 cU cS bq a9 cR h1=>⟨(h1.tg 0),pG,(aE (h1.bv 0) aj)⟩)))))))
variable (vR:Nd (Oz P w K mg base) 1 tS)
include z_min z_len z_sorted z_sum z_range in
theorem b3f(D':LV (Def K mg) a d){cT pT:Addr}(bW:d.code=.ref cT)(hT:mR K "dealt" = some (cT,pT))(hC:EI K cT pT=true):LV (Oz P w K mg base) 3 yc:=Bj (N:=["rows","x","shares","left","place","more"]) D' bW hT hC λX r h L=>by
 cases r
 exact (aF (LU (i:=2) true (N':=["row"]) (caps:=[]) (nt:=1) h ⟨rfl,by decide +kernel,by decide +kernel,by decide +kernel,by decide +kernel,rfl,rfl,by decide +kernel⟩ (qt (h.v 0)) (λX1 cU cS bq a9 cR h1=>⟨(h1.tg 0),pG,(aE (h1.bv 0) aj)⟩)) (aF (h.ay 3 (aA ik (h.v 1) (xM h.g z_sum h.calm (h.bv 2)))) (aF (kP h.own h.calm (b3J L h ⟨rfl,rfl,rfl,by decide +kernel,by decide +kernel,by decide +kernel,by decide +kernel,by decide +kernel⟩ (h.room.mono (by decide)) h.g z_sorted h.g z_range (i:=0) rfl (by decide +kernel) rfl (λcc hc=>b83 (by decide +kernel) hc) (λ_ _ _ _ _=>rfl) (λX' _ _ _ _ _ h'=>(aE (gF (aE (h'.bv 1) (h'.v 0))) aj)) (ag (f' h.g z_len (h.bv 0)) aw)) (h.tg 4) (aF (h.ay 5 (xX (Mb h.calm) h.g z_min (by decide +kernel) (ag (h.v 3) (ag (aA ik (aE (gF (aE (h.bv 0) (h.v 4))) aj) (aE (gF (aE (h.bv 0) (h.v 4))) aj)) aw)))) (aF (h.LI 2 (h.v 4) (h.v 5)) (aJ (h.LJ 3 (h.v 5)))))) (aJ (h.lN 2)))))
variable (FG:LV (Oz P w K mg base) 3 yc)
include z_sum z_zip nM FG in
theorem a38(D':NQ (Def K mg) a d):NQ (Oz P w K mg base) 4 pL:=aV (N:=["rows","x","shares"]) D' λX r h=>by
 cases r
 exact (aF (h.ay 2 (h.cl FG (ag (h.v 0) (ag (h.v 1) aw)))) (aJ (bK (gz (ag (xM h.g z_sum h.calm (gF (qw (N':=["row","share"]) (caps:=[]) (nt:=2) h ⟨rfl,by decide +kernel,by decide +kernel,by decide +kernel,by decide +kernel,rfl,rfl,by decide +kernel⟩ (b8C h.g z_zip (ag (h.v 0) (ag (h.v 2) aw))) (λX1 cU cS bq a9 cR h1=>⟨(Lx (n:=2) h1.calm (qD (h1.tg 0) (qD (h1.tg 1) L4))),pG,(h1.cl (lS cU cS bq a9 cR nM) (ag (h1.v 0) (ag (h1.v 1) aw)))⟩)))) (ag (h.v 2) aw))))))
variable (v3:NQ (Oz P w K mg base) 4 pL)
include TT z_min qv xW vR v3 in
theorem a6D(D':yf (Def K mg) a d):yf (Oz P w K mg base) 5 rV:=aV (N:=["forms","x","found"]) D' λX r h=>by
 cases r
 exact (aF (LU (i:=2) false (N':=["rows","x"]) (caps:=[1]) (nt:=1) h ⟨rfl,by decide +kernel,by decide +kernel,by decide +kernel,by decide +kernel,rfl,rfl,by decide +kernel⟩ (qt (h.cl qv (ag (h.v 0) aw))) (λX1 cU cS bq a9 cR h1=>⟨(h1.tg 0),(Q7 (jo (h1.cl (lS cU cS bq a9 cR vR) (ag (h1.v 0) (ag (h1.v 1) aw))))),(h1.cl (lS cU cS bq a9 cR v3) (ag (h1.v 0) (ag (h1.v 1) aw)))⟩)) (aF (dt (vN (jo (h.v 2))) (aJ F9) d9) (aJ (bK (aE (gF (b6n h.g z_min h.calm h.u8 (h.bv 2))) aj)))))
variable (vU:yf (Oz P w K mg base) 5 rV)
include TT z_min qv xW vR v3 in
theorem a6g(D':yf (Def K mg) a d):yf (Xz P w K mg base) 5 vZ:=K6 (N:=["forms","x","found"]) D' λX W r h xk xr=>by
 cases r
 exact (vT (b5e (N':=["rows","x"]) (caps:=[1]) (nt:=1) h ⟨rfl,by decide +kernel,by decide +kernel,by decide +kernel,by decide +kernel,rfl,rfl,by decide +kernel⟩ (h.GP xW xk (AV.cP (ag (h.v 0) aw)))) (SV.cP (LU (i:=2) false (N':=["rows","x"]) (caps:=[1]) (nt:=1) h ⟨rfl,by decide +kernel,by decide +kernel,by decide +kernel,by decide +kernel,rfl,rfl,by decide +kernel⟩ (qt (h.cl qv (ag (h.v 0) aw))) (λX1 cU cS bq a9 cR h1=>⟨(h1.tg 0),(Q7 (jo (h1.cl (lS cU cS bq a9 cR vR) (ag (h1.v 0) (ag (h1.v 1) aw))))),(h1.cl (lS cU cS bq a9 cR v3) (ag (h1.v 0) (ag (h1.v 1) aw)))⟩))) (vT (Ld (TV.cP (vN (jo (h.v 2)))) (vQ (SY h.calm xr TT.Vc h.g TT.wo.m (AV.cP (ag RH aw)))) L3) (SV.cP (dt (vN (jo (h.v 2))) (aJ F9) d9)) (vQ xJ)))
variable (yg:yf (Xz P w K mg base) 5 vZ)
include vU yg in
theorem a8A(D':ya (Def K mg) a d):ya (Oz P w K mg base) 6 tZ:=aV (N:=["one","other","x","shares"]) D' λX r h=>by
 cases r
 exact (aF (h.ay 3 (h.cl vU (ag (eI (ag (h.v 0) (ag (h.v 1) aw))) (ag (h.v 2) aw)))) (aJ (bK (gz (ag (aE (h.bv 3) aj) (ag (aE (h.bv 3) aj) aw))))))
variable (Gf:ya (Oz P w K mg base) 6 tZ)
include vU yg in
theorem a8n(D':ya (Def K mg) a d):ya (Xz P w K mg base) 6 vX:=K6 (N:=["one","other","x","shares"]) D' λX W r h xk xr=>by
 cases r
 exact (vT (Q3 h.lU (h.ix (i:=3) rfl) (h.loc (by first | exact bJ rfl | exact bg rfl)) (h.GP yg xk (AV.cP (ag (eI (ag (h.v 0) (ag (h.v 1) aw))) (ag (h.v 2) aw)))) (hf:=h.pS (bJ rfl))) (SV.cP (h.ay 3 (h.cl vU (ag (eI (ag (h.v 0) (ag (h.v 1) aw))) (ag (h.v 2) aw))))) (vQ xJ))
variable (Gw:ya (Xz P w K mg base) 6 vX)
include TT z_isinstance z_ValueError Gf Gw in
theorem a8B(D':M1 (Def K mg) a d):M1 (Oz P w K mg base) 7 yo:=aV (N:=["one","other","x","found","refused","e"]) D' λX r h=>by
 cases r
 exact (aF (h.ay 3 qr) (aF (h.ay 4 rP) (aF (b7O (i:=5) h rfl rfl h.g TT.Vu.m (Tg TT.wo TT.GZ (Tg TT.wm TT.GY b6c)) (λX1 cU cS bq a9 cR h1=>(aJ (h1.ay 3 (h1.cl (lS cU cS bq a9 cR Gf) (ag (h1.v 0) (ag (h1.v 1) (ag (h1.v 2) aw))))))) (λX1 W1 cU cS bq a9 cR h1 U8=>(vQ (Q3 h1.lU (h1.ix (i:=3) rfl) (h1.loc (by first | exact bJ rfl | exact bg rfl)) (h1.GP (GN cU cS bq a9 cR Gw) U8 (AV.cP (ag (h1.v 0) (ag (h1.v 1) (ag (h1.v 2) aw))))) (hf:=h1.pS (bJ rfl))))) (λX1 cU cS bq a9 cR h1=>(aJ (h1.ay 4 (Lu (RE h1.g (qJ a9 z_isinstance) h1.g (fx bq a9 TT).wo.m (xZ (fx bq a9 TT).wo (fx bq a9 TT).GX (xZ (fx bq a9 TT).wm (fx bq a9 TT).GU LZ)) (h1.v 5)) (Lu (b6p h1.g (qJ a9 z_isinstance) h1.g (qJ a9 z_ValueError) (by decide +kernel) (xZ (fx bq a9 TT).wo (fx bq a9 TT).GR (xZ (fx bq a9 TT).wm (fx bq a9 TT).GQ LZ)) (h1.v 5)) (RG (b8O (RE h1.g (qJ a9 z_isinstance) h1.g (fx bq a9 TT).wm.m (xZ (fx bq a9 TT).wo (fx bq a9 TT).GW (xZ (fx bq a9 TT).wm (fx bq a9 TT).GS LZ)) (h1.v 5)))))))))) (aJ (bK (gz (ag (h.v 4) (ag (h.v 3) aw))))))))
variable (Ge:M1 (Oz P w K mg base) 7 yo)
include z_len in
theorem a6B(D':NL (Def K mg) a d):NL (Oz P w K mg base) 1 yy:=aV (N:=["ones","others","cell","some","one","other","low","high"]) D' λX r h=>by
 cases r
 exact (aF (h.ay 3 (aA eT (aA L8 (aA eT (h.v 2) aj) aj) aj)) (aF (dt (fw (qp (cH (mX h.u8) (f' h.g z_len (h.bv 0)) aj) (qp (cH (mX h.u8) (f' h.g z_len (h.bv 1)) aj) (tK (cH (mX h.u8) (aA eT (h.v 3) aj) aj))))) (aJ (bK (aA ik (aA eT (h.v 2) (aA mY aj aj)) (aA L8 aj (aA mY aj aj))))) d9) (aF (h.ay 4 (aE (h.bv 0) (aA eT (aA iF (h.v 3) aj) (f' h.g z_len (h.bv 0))))) (aF (h.ay 5 (aE (h.bv 1) (aA eT (aA iF (h.v 3) aj) (f' h.g z_len (h.bv 1))))) (aF (h.ay 6 (aA dJ (aE (h.bv 4) aj) (aE (h.bv 5) aj))) (aF (h.ay 7 (aA dJ (aE (h.bv 4) aj) (aE (h.bv 5) aj))) (aF (dt (cH jV (aA eT (h.v 3) aj) aj) (aJ (bK (aA ik (aA dJ (aE (gF (eI (ag (h.v 6) (ag (h.v 7) aw)))) (aA eT (h.v 3) aj)) (aA eT (aA iF (h.v 3) aj) aj)) aj))) d9) (aJ (bK (aA dJ (h.v 6) (aA eT (aA L8 (h.v 2) (aA mY aj aj)) (aA dJ (aA ik (h.v 7) (h.v 6)) aj))))))))))))
variable (Gk:NL (Oz P w K mg base) 1 yy)
theorem a7H(D':Nr (Def K mg) a d):Nr (Oz P w K mg base) 1 tU:=aV (N:=["row"]) D' λX r h=>by
 cases r
 exact (aJ (bK (Lv (mX h.u8) (aE (h.bv 0) aj) (aE (h.bv 0) aj))))
variable (tQ:Nr (Oz P w K mg base) 1 tU)
include tQ in
theorem b3c(D':LX (Def K mg) a d):LX (Oz P w K mg base) 2 rT:=aV (N:=["row"]) D' λX r h=>by
 cases r
 exact (aJ (bK (rO (jo (h.cl tQ (ag (h.v 0) aw))) (gz (ag (aE (h.bv 0) aj) (ag (aE (h.bv 0) aj) (ag (aE (h.bv 0) aj) (ag aj aw))))) (h.v 0))))
variable (tL:LX (Oz P w K mg base) 2 rT)
include qz tQ tL in
theorem a5X(D':NF (Def K mg) a d):NF (Oz P w K mg base) 3 CU:=aV (N:=["ahead","row","step","rest"]) D' λX r h=>by
 cases r
 exact (aF (h.ay 2 (rO (jo (h.cl tQ (ag (h.v 0) aw))) (aA ik (aE (h.bv 1) aj) (aE (h.bv 0) aj)) (aE (h.bv 0) aj))) (aF (dt (cH (Ri h.u8) (aE (h.bv 1) aj) (h.cl qz (ag (gz (ag (aE (h.bv 0) aj) (ag (h.v 2) aw))) (ag (aE (h.bv 0) aj) (ag (aE (h.bv 1) aj) aw))))) (aJ (bK (eI (ag (h.v 0) (ag (h.cl tL (ag (h.v 1) aw)) aw))))) d9) (aF (dt (fw (qp (jo (h.cl tQ (ag (h.v 1) aw))) (tK (cH (mX h.u8) (aE (h.bv 1) aj) (h.v 2))))) (aJ (bK (eI (ag (gz (ag (aE (h.bv 0) aj) (ag (aE (h.bv 1) aj) (ag (aE (h.bv 0) aj) (ag (h.v 2) aw))))) aw)))) d9) (aF (h.ay 3 (h.cl tL (ag (gz (ag (aA dJ (aE (h.bv 1) aj) aj) (ag (aE (h.bv 1) aj) (ag (aA dJ (aE (h.bv 1) aj) (aE (h.bv 1) aj)) (ag (aE (h.bv 1) aj) aw))))) aw))) (aJ (bK (eI (ag (gz (ag (aE (h.bv 0) aj) (ag (aE (h.bv 1) aj) (ag (aE (h.bv 0) aj) (ag (h.v 2) aw))))) (ag (h.v 3) aw)))))))))
variable (Gn:NF (Oz P w K mg base) 3 CU)
include z_tuple tL Gn in
theorem b5Q(D':LH (Def K mg) a d):LH (Oz P w K mg base) 4 qF:=aV (N:=["rows","made","row","ahead"]) D' λX r h=>by
 cases r
 exact (aF (h.set 1 (eI aw)) (aF (kP h.own h.calm (h.v 0) (h.tg 2) (aJ (dt (fw (xO (Sn (h.bv 1)) (xT (cH (mX h.u8) (aA dJ (aE (gF (aE (h.bv 1) (vM aj))) aj) aj) (aE (h.bv 2) aj))))) (aF (h.pop 3 1) (aJ (h.ext 1 (h.cl Gn (ag (h.v 3) (ag (h.v 2) aw)))))) (aJ (h.app 1 (h.cl tL (ag (h.v 2) aw))))))) (aJ (bK (Tc h.g z_tuple (h.bv 1))))))
variable (pF:LH (Oz P w K mg base) 4 qF)
include qz in
theorem a6y(D':NN (Def K mg) a d):NN (Oz P w K mg base) 2 tV:=aV (N:=["line","low","first","last"]) D' λX r h=>by
 cases r
 exact (aJ (bK (gz (ag (h.v 2) (ag (h.v 3) (ag (h.cl qz (ag (h.v 0) (ag (h.v 1) (ag (h.v 2) aw)))) (ag (aE (h.bv 0) aj) aw)))))))
variable (vV:NN (Oz P w K mg base) 2 tV)
theorem a5m(D':Ny (Def K mg) a d):Ny (Oz P w K mg base) 1 yx:=aV (N:=["first","last"]) D' λX r h=>by
 cases r
 exact (aJ (bK (rO (cH ql (h.v 0) (h.v 1)) (gz (ag (h.v 0) (ag (h.v 1) aw))) qr)))
variable (CS:Ny (Oz P w K mg base) 1 yx)
theorem zJ(D':ub (Def K mg) a d):ub (Oz P w K mg base) 1 Ck:=aV (N:=["a","b"]) D' λX r h=>by
 cases r
 exact (aJ (bK (vM (aA iF (vM (h.v 0)) (h.v 1)))))
variable (O_up:ub (Oz P w K mg base) 1 Ck)
theorem b5R(D':LG (Def K mg) a d):LG (Oz P w K mg base) 1 CI:=aV (N:=["a","b"]) D' λX r h=>by
 cases r
 exact (aJ (bK (aA iF (h.v 0) (h.v 1))))
variable (FE:LG (Oz P w K mg base) 1 CI)
include z_max z_min CS O_up FE in
theorem a7D(D':Nw (Def K mg) a d):Nw (Oz P w K mg base) 2 C6:=aV (N:=["one","other","low","high","above","slope"]) D' λX r h=>by
 cases r
 exact (aF (h.ay 4 (aA ik (aE (h.bv 0) aj) (aE (h.bv 1) aj))) (aF (h.ay 5 (aA ik (aE (h.bv 0) aj) (aE (h.bv 1) aj))) (aF (dt (cH tG (h.v 5) aj) (aJ (bK (h.cl CS (ag (h.v 2) (ag (xX (Mb h.calm) h.g z_min (by decide +kernel) (ag (h.v 3) (ag (aA dJ (h.v 2) (h.cl FE (ag (vM (h.v 4)) (ag (h.v 5) aw)))) aw))) aw))))) d9) (aF (dt (cH jV (h.v 5) aj) (aJ (bK (h.cl CS (ag (xX (Ma h.calm) h.g z_max (by decide +kernel) (ag (h.v 2) (ag (aA dJ (h.v 2) (h.cl O_up (ag (h.v 4) (ag (vM (h.v 5)) aw)))) aw))) (ag (h.v 3) aw))))) d9) (aJ (bK (rO (cH tG (h.v 4) aj) qr (gz (ag (h.v 2) (ag (h.v 3) aw))))))))))
variable (Gv:Nw (Oz P w K mg base) 2 C6)
include vV Gv in
theorem a6A(D':NM (Def K mg) a d):NM (Oz P w K mg base) 3 CT:=aV (N:=["one","other","low","high","span","rows"]) D' λX r h=>by
 cases r
 exact (aF (h.ay 4 (h.cl Gv (ag (h.v 0) (ag (h.v 1) (ag (h.v 2) (ag (h.v 3) aw)))))) (aF (dt (cH Fu (h.v 4) qr) (aJ (bK (eI (ag (h.cl vV (ag (h.v 1) (ag (h.v 2) (ag (h.v 2) (ag (h.v 3) aw))))) aw)))) d9) (aF (h.set 5 (eI aw)) (aF (dt (cH jV (h.v 2) (aE (h.bv 4) aj)) (aJ (h.app 5 (h.cl vV (ag (h.v 1) (ag (h.v 2) (ag (h.v 2) (ag (aA ik (aE (h.bv 4) aj) aj) aw))))))) d9) (aF (h.app 5 (h.cl vV (ag (h.v 0) (ag (h.v 2) (ag (aE (h.bv 4) aj) (ag (aE (h.bv 4) aj) aw)))))) (aF (dt (cH jV (aE (h.bv 4) aj) (h.v 3)) (aJ (h.app 5 (h.cl vV (ag (h.v 1) (ag (h.v 2) (ag (aA dJ (aE (h.bv 4) aj) aj) (ag (h.v 3) aw))))))) d9) (aJ (h.lN 5))))))))
variable (Gm:NM (Oz P w K mg base) 3 CT)
include nM in
theorem a7E(D':Nv (Def K mg) a d):Nv (Oz P w K mg base) 3 yh:=aV (N:=["row","low"]) D' λX r h=>by
 cases r
 exact (aJ (bK (gz (ag (h.cl nM (ag (h.v 0) (ag (h.v 1) aw))) (ag (aE (h.bv 0) aj) aw)))))
variable (CL:Nv (Oz P w K mg base) 3 yh)
include z_max z_min z_len CL in
theorem b8j(D':Lb (Def K mg) a d):Lb (Oz P w K mg base) 4 Cu:=aV (N:=["one","other","parts","first","second","mine","yours","low","high"]) D' λX r h=>by
 cases r
 exact (aF (h.set 2 (eI aw)) (aF (h.ay 3 aj) (aF (h.ay 4 aj) (aF (Mp Rg h.own (fw (xO (cH jV (h.v 3) (f' h.g z_len (h.bv 0))) (xT (cH jV (h.v 4) (f' h.g z_len (h.bv 1)))))) (aF (h.ay 5 (aE (h.bv 0) (h.v 3))) (aF (h.ay 6 (aE (h.bv 1) (h.v 4))) (aF (h.ay 7 (xX (Ma h.calm) h.g z_max (by decide +kernel) (ag (aE (h.bv 5) aj) (ag (aE (h.bv 6) aj) aw)))) (aF (h.ay 8 (xX (Mb h.calm) h.g z_min (by decide +kernel) (ag (aE (h.bv 5) aj) (ag (aE (h.bv 6) aj) aw)))) (aF (dt (cH ql (h.v 7) (h.v 8)) (aJ (h.app 2 (gz (ag (h.v 7) (ag (h.v 8) (ag (h.cl CL (ag (h.v 5) (ag (h.v 7) aw))) (ag (h.cl CL (ag (h.v 6) (ag (h.v 7) aw))) aw))))))) d9) (aJ (dt (cH jV (aE (h.bv 5) aj) (aE (h.bv 6) aj)) (aJ (h.aug 3 aj)) (aJ (h.aug 4 aj)))))))))) (aJ (h.lN 2))))))
variable (E9:Lb (Oz P w K mg base) 4 Cu)
include Gm E9 in
theorem a5N(D':NJ (Def K mg) a d):NJ (Oz P w K mg base) 5 CY:=aV (N:=["one","other","rows","low","high","mine","yours"]) D' λX r h=>by
 cases r
 exact (aF (h.set 2 (eI aw)) (aF (kP h.own h.calm (h.cl E9 (ag (h.v 0) (ag (h.v 1) aw))) (Lx (n:=4) h.calm (qD (h.tg 3) (qD (h.tg 4) (qD (h.tg 5) (qD (h.tg 6) L4))))) (aJ (h.ext 2 (h.cl Gm (ag (h.v 5) (ag (h.v 6) (ag (h.v 3) (ag (h.v 4) aw)))))))) (aJ (h.lN 2))))
variable (GB:NJ (Oz P w K mg base) 5 CY)
include nM in
theorem b8l(D':La (Def K mg) a d):La (Oz P w K mg base) 3 xR:=aV (N:=["row","low","high"]) D' λX r h=>by
 cases r
 exact (aJ (bK (gz (ag (h.v 1) (ag (h.v 2) (ag (h.cl nM (ag (h.v 0) (ag (h.v 1) aw))) (ag (aE (h.bv 0) aj) aw)))))))
variable (B5:La (Oz P w K mg base) 3 xR)
include z_max z_len B5 in
theorem b0m(D':Nc (Def K mg) a d):Nc (Oz P w K mg base) 4 yk:=aV (N:=["form","spans","rows","place","row","low"]) D' λX r h=>by
 cases r
 exact (aF (h.set 2 (eI aw)) (aF (h.ay 3 aj) (aF (kP h.own h.calm (h.v 0) (h.tg 4) (aF (h.ay 5 (aE (h.bv 4) aj)) (aF (Mp Uv h.own (fw (xO (cH jV (h.v 3) (f' h.g z_len (h.bv 1))) (xT (cH ql (aE (gF (aE (h.bv 1) (h.v 3))) aj) (aE (h.bv 4) aj))))) (aF (dt (cH jV (h.v 5) (aE (gF (aE (h.bv 1) (h.v 3))) aj)) (aJ (h.app 2 (h.cl B5 (ag (h.v 4) (ag (h.v 5) (ag (aA ik (aE (gF (aE (h.bv 1) (h.v 3))) aj) aj) aw)))))) d9) (aF (h.ay 5 (xX (Ma h.calm) h.g z_max (by decide +kernel) (ag (h.v 5) (ag (aA dJ (aE (gF (aE (h.bv 1) (h.v 3))) aj) aj) aw)))) (aF (dt (cH tG (aE (gF (aE (h.bv 1) (h.v 3))) aj) (aE (h.bv 4) aj)) (aJ b2Q) d9) (aJ (h.aug 3 aj)))))) (aJ (dt (cH ql (h.v 5) (aE (h.bv 4) aj)) (aJ (h.app 2 (h.cl B5 (ag (h.v 4) (ag (h.v 5) (ag (aE (h.bv 4) aj) aw)))))) d9))))) (aJ (h.lN 2)))))
variable (CD:Nc (Oz P w K mg base) 4 yk)
include z_tuple in
theorem a8y(D':M3 (Def K mg) a d):M3 (Oz P w K mg base) 1 vW:=aV (N:=["form","spans","row","ahead"]) D' λX r h=>by
 cases r
 exact (aF (h.set 1 (eI aw)) (aF (kP h.own h.calm (h.v 0) (h.tg 2) (aJ (dt (fw (xO (Sn (h.bv 1)) (xT (cH (mX h.u8) (aA dJ (aE (gF (aE (h.bv 1) (vM aj))) aj) aj) (aE (h.bv 2) aj))))) (aF (h.pop 3 1) (aJ (h.app 1 (gz (ag (aE (h.bv 3) aj) (ag (aE (h.bv 2) aj) aw)))))) (aJ (h.app 1 (gz (ag (aE (h.bv 2) aj) (ag (aE (h.bv 2) aj) aw)))))))) (aJ (bK (Tc h.g z_tuple (h.bv 1))))))
variable (CO:M3 (Oz P w K mg base) 1 vW)
include z_sorted pF GB CD CO in
theorem b3e(D':LW (Def K mg) a d):LW (Oz P w K mg base) 6 qA:=aV (N:=["one","other","alone"]) D' λX r h=>by
 cases r
 exact (aF (h.ay 2 (aA dJ (h.cl CD (ag (h.v 0) (ag (h.cl CO (ag (h.v 1) aw)) aw))) (h.cl CD (ag (h.v 1) (ag (h.cl CO (ag (h.v 0) aw)) aw))))) (aJ (bK (h.cl pF (ag (b1P h.g z_sorted (aA dJ (h.cl GB (ag (h.v 0) (ag (h.v 1) aw))) (h.v 2))) aw)))))
variable (lH:LW (Oz P w K mg base) 6 qA)
theorem a5T(D':jX (Def K mg) a d):jX (Oz P w K mg base) 1 CW:=b5K D'
variable (O_least_of__0:jX (Oz P w K mg base) 1 CW)
include z_len lH O_least_of__0 in
theorem a5S(D':jX (Def K mg) a d):jX (Oz P w K mg base) 7 yr:=aV (N:=["forms","half"]) D' λX r h=>by
 cases r
 exact (aF (dt (cH jV (f' h.g z_len (h.bv 0)) aj) (aJ (bK (rO (jo (h.v 0)) (aE (h.bv 0) aj) (gz aw)))) d9) (aF (h.ay 1 (aA iF (f' h.g z_len (h.bv 0)) aj)) (aJ (bK (h.cl lH (ag (h.cl O_least_of__0 (ag (qC (h.bv 0) qx (qy (h.v 1))) aw)) (ag (h.cl O_least_of__0 (ag (qC (h.bv 0) (qy (h.v 1)) qx) aw)) aw)))))))
variable (CZ:jX (Oz P w K mg base) 7 yr)
include z_len lH CZ in
theorem a5R(D':jX (Def K mg) a d):jX (Oz P w K mg base) 8 yt:=aV (N:=["forms","half"]) D' λX r h=>by
 cases r
 exact (aF (dt (cH jV (f' h.g z_len (h.bv 0)) aj) (aJ (bK (rO (jo (h.v 0)) (aE (h.bv 0) aj) (gz aw)))) d9) (aF (h.ay 1 (aA iF (f' h.g z_len (h.bv 0)) aj)) (aJ (bK (h.cl lH (ag (h.cl CZ (ag (qC (h.bv 0) qx (qy (h.v 1))) aw)) (ag (h.cl CZ (ag (qC (h.bv 0) (qy (h.v 1)) qx) aw)) aw)))))))
variable (C1:jX (Oz P w K mg base) 8 yt)
include z_len lH C1 in
theorem a5Q(D':jX (Def K mg) a d):jX (Oz P w K mg base) 9 yu:=aV (N:=["forms","half"]) D' λX r h=>by
 cases r
 exact (aF (dt (cH jV (f' h.g z_len (h.bv 0)) aj) (aJ (bK (rO (jo (h.v 0)) (aE (h.bv 0) aj) (gz aw)))) d9) (aF (h.ay 1 (aA iF (f' h.g z_len (h.bv 0)) aj)) (aJ (bK (h.cl lH (ag (h.cl C1 (ag (qC (h.bv 0) qx (qy (h.v 1))) aw)) (ag (h.cl C1 (ag (qC (h.bv 0) (qy (h.v 1)) qx) aw)) aw)))))))
variable (C3:jX (Oz P w K mg base) 9 yu)
include z_len lH C3 in
theorem a5P(D':jX (Def K mg) a d):jX (Oz P w K mg base) 10 yv:=aV (N:=["forms","half"]) D' λX r h=>by
 cases r
 exact (aF (dt (cH jV (f' h.g z_len (h.bv 0)) aj) (aJ (bK (rO (jo (h.v 0)) (aE (h.bv 0) aj) (gz aw)))) d9) (aF (h.ay 1 (aA iF (f' h.g z_len (h.bv 0)) aj)) (aJ (bK (h.cl lH (ag (h.cl C3 (ag (qC (h.bv 0) qx (qy (h.v 1))) aw)) (ag (h.cl C3 (ag (qC (h.bv 0) (qy (h.v 1)) qx) aw)) aw)))))))
variable (C4:jX (Oz P w K mg base) 10 yv)
include z_len lH C4 in
theorem a5O(D':jX (Def K mg) a d):jX (Oz P w K mg base) 11 tW:=aV (N:=["forms","half"]) D' λX r h=>by
 cases r
 exact (aF (dt (cH jV (f' h.g z_len (h.bv 0)) aj) (aJ (bK (rO (jo (h.v 0)) (aE (h.bv 0) aj) (gz aw)))) d9) (aF (h.ay 1 (aA iF (f' h.g z_len (h.bv 0)) aj)) (aJ (bK (h.cl lH (ag (h.cl C4 (ag (qC (h.bv 0) qx (qy (h.v 1))) aw)) (ag (h.cl C4 (ag (qC (h.bv 0) (qy (h.v 1)) qx) aw)) aw)))))))
variable (GA:jX (Oz P w K mg base) 11 tW)
theorem b0k(D':Nf (Def K mg) a d):Nf (Oz P w K mg base) 1 ym:=aV (N:=["row"]) D' λX r h=>by
 cases r
 exact (aJ (bK (aE (h.bv 0) aj)))
variable (F3:Nf (Oz P w K mg base) 1 ym)
include z_sorted z_sum pF F3 in
theorem b1e(D':Mq (Def K mg) a d):Mq (Oz P w K mg base) 6 vY:=aV (N:=["rows","low","price","made","row","more"]) D' λX r h=>by
 cases r
 exact (aF (h.ay 1 (xM h.g z_sum h.calm (gF (qw (N':=["row"]) (caps:=[]) (nt:=1) h ⟨rfl,by decide +kernel,by decide +kernel,by decide +kernel,by decide +kernel,rfl,rfl,by decide +kernel⟩ (qt (h.v 0)) (λX1 cU cS bq a9 cR h1=>⟨(h1.tg 0),pG,(aE (h1.bv 0) aj)⟩))))) (aF (h.ay 2 (xM h.g z_sum h.calm (gF (qw (N':=["row"]) (caps:=[]) (nt:=1) h ⟨rfl,by decide +kernel,by decide +kernel,by decide +kernel,by decide +kernel,rfl,rfl,by decide +kernel⟩ (qt (h.v 0)) (λX1 cU cS bq a9 cR h1=>⟨(h1.tg 0),pG,(aE (h1.bv 0) aj)⟩))))) (aF (h.set 3 (eI (ag (gz (ag (h.v 1) (ag (h.v 1) (ag (h.v 2) (ag aj aw))))) aw))) (aF (kP h.own h.calm (h.qO F3 z_sorted (h.v 0)) (h.tg 4) (aF (h.ay 5 (aA ik (aE (h.bv 4) aj) (aE (h.bv 4) aj))) (aF (dt (cH tG (h.v 5) aj) (aJ (h.app 3 (gz (ag (aA dJ (h.v 1) aj) (ag (aA dJ (h.v 1) (h.v 5)) (ag (aA dJ (h.v 2) (aE (h.bv 4) aj)) (ag (aE (h.bv 4) aj) aw))))))) d9) (aF (h.aug 1 (h.v 5)) (aJ (h.aug 2 (aA pH (aE (h.bv 4) aj) (h.v 5)))))))) (aJ (LF 3 (bK (h.cl pF (ag (h.v 3) aw)))))))))
variable (F':Mq (Oz P w K mg base) 6 vY)
include qv GA F' in
theorem a5n(D':Nx (Def K mg) a d):Nx (Oz P w K mg base) 12 yw:=aV (N:=["forms"]) D' λX r h=>by
 cases r
 exact (aJ (bK (h.cl GA (ag (qw (N':=["rows"]) (caps:=[]) (nt:=1) h ⟨rfl,by decide +kernel,by decide +kernel,by decide +kernel,by decide +kernel,rfl,rfl,by decide +kernel⟩ (qt (h.cl qv (ag (h.v 0) aw))) (λX1 cU cS bq a9 cR h1=>⟨(h1.tg 0),pG,(h1.cl (lS cU cS bq a9 cR F') (ag (h1.v 0) aw))⟩)) aw))))
variable (Gy:Nx (Oz P w K mg base) 12 yw)
include Gy in
theorem b3b(D':LY (Def K mg) a d):LY (Oz P w K mg base) 13 tT:=aV (N:=["one","other"]) D' λX r h=>by
 cases r
 exact (aJ (bK (h.cl Gy (ag (eI (ag (h.v 0) (ag (h.v 1) aw))) aw))))
variable (FH:LY (Oz P w K mg base) 13 tT)
theorem a7G(D':Nt (Def K mg) a d):Nt (Oz P w K mg base) 1 v5:=aV (N:=["number","factor"]) D' λX r h=>by
 cases r
 exact (aJ (bK (aA eT (aA pH (aA eT (h.v 0) aj) (h.v 1)) aj)))
variable (yi:Nt (Oz P w K mg base) 1 v5)
include z_len yi in
theorem a5U(D':NI (Def K mg) a d):NI (Oz P w K mg base) 2 yq:=aV (N:=["number","ahead","far","wide","one","two","three","low","price","step","size","last"]) D' λX r h=>by
 cases r
 exact (aF (h.ay 2 (aA eT (aA pH (h.v 0) (aA mY aj aj)) (aA mY aj aj))) (aF (h.ay 3 (aA eT (aA pH (h.v 0) (aA mY aj aj)) (aA mY aj aj))) (aF (h.ay 4 (h.cl yi (ag (h.v 0) (ag aj aw)))) (aF (h.ay 5 (h.cl yi (ag (h.v 0) (ag aj aw)))) (aF (h.ay 6 (h.cl yi (ag (h.v 0) (ag aj aw)))) (aF (h.ay 7 (aE (gF (eI (ag aj (ag (aA ik (aA eT (aA iF (h.v 4) aj) aj) aj) (ag (aA ik (h.v 2) (aA pH aj (aA mY aj aj))) aw))))) (aA eT (h.v 4) aj))) (aF (h.ay 8 (aE (gF (eI (ag (aA ik (aA eT (aA iF (h.v 5) aj) aj) aj) (ag (aA ik (h.v 3) (aA pH aj (aA mY aj aj))) aw)))) (aA eT (h.v 5) aj))) (aF (h.ay 9 (aE (gF (eI (ag aj (ag (aA ik (aA eT (aA iF (h.v 6) aj) aj) aj) (ag (aA ik (aA eT (aA iF (h.v 6) aj) aj) aj) (ag (aA ik (aA iF (h.v 2) (aA mY aj aj)) (aA pH aj (aA mY aj aj))) aw)))))) (aA eT (h.v 6) aj))) (aF (h.ay 10 (aE (gF (eI (ag aj (ag aj (ag (aA dJ aj (aA eT (aA iF (h.v 4) aj) aj)) (ag (aA dJ aj (h.v 3)) aw)))))) (aA eT (aA iF (h.v 5) aj) aj))) (aF (dt (cH tG (f' h.g z_len (h.bv 1)) aj) (aF (h.ay 11 (aE (h.bv 1) (vM aj))) (aF (h.ay 7 (aA dJ (aA dJ (aE (h.bv 11) aj) aj) (aE (gF (eI (ag aj (ag aj (ag (aA dJ aj (aA eT (aA iF (h.v 5) aj) aj)) (ag (aA eT (h.v 2) (aA mY aj aj)) aw)))))) (aA eT (aA iF (h.v 6) aj) aj)))) (aJ (dt (cH (mX h.u8) (aA eT (aA iF (h.v 4) aj) aj) aj) (aJ (h.ay 8 (aA ik (aA dJ (aA dJ (aE (h.bv 11) aj) (aA pH (aE (h.bv 11) aj) (aA dJ (aA ik (aE (h.bv 11) aj) (aE (h.bv 11) aj)) aj))) (aA eT (aA iF (h.v 6) aj) aj)) aj))) d9)))) d9) (aJ (bK (gz (ag (h.v 7) (ag (aA ik (aA dJ (h.v 7) (h.v 10)) aj) (ag (h.v 8) (ag (h.v 9) aw)))))))))))))))))
variable (Gz:NI (Oz P w K mg base) 2 yq)
include Gz in
theorem a8C(D':M0 (Def K mg) a d):M0 (Oz P w K mg base) 3 tY:=aV (N:=["numbers","rows","number"]) D' λX r h=>by
 cases r
 exact (aF (h.set 1 (eI aw)) (aF (kP h.own h.calm (h.v 0) (h.tg 2) (aJ (h.app 1 (b6o 1 (h.cl Gz (ag (h.v 2) (ag (h.v 1) aw))))))) (aJ (h.lN 1))))
variable (CN:M0 (Oz P w K mg base) 3 tY)
include z_len z_range in
theorem a5W(D':NG (Def K mg) a d):NG (Oz P w K mg base) 1 yp:=aV (N:=["script","first","most","told","k","cell"]) D' λX r h=>by
 cases r
 exact (aF (h.set 3 (eI aw)) (aF (b5p h.own h.calm (b3v h.g z_range (ag (h.v 1) (ag (f' h.g z_len (h.bv 0)) aw))) (h.tg 4) (aF (h.ay 5 (aA eT (aE (h.bv 0) (h.v 4)) (aA mY aj aj))) (aJ (dt (cH jV (f' h.g z_len (h.bv 3)) (h.v 2)) (aJ (h.app 3 (h.v 5))) (aJ (h.item 3 (aA eT (aA dJ (aA pH (aE (h.bv 3) (aA eT (h.v 4) (h.v 2))) aj) (h.v 5)) (aA mY aj aj)) (aA eT (h.v 4) (h.v 2)))))))) (aJ (h.lN 3))))
variable (Gp:NG (Oz P w K mg base) 1 yp)
include z_len z_range Gq Gu CC Ge Gk pF FH CN Gp in
theorem b8k(D':yM (Def K mg) a d):bG P w K mg base jc 14 a d ["script"] (mw K 1 FJ):=Bk (N:=["script","numbers","ones","others","one","other","whole","cell","x","told"]) D' λX r h=>by
 cases r
 exact (aF (h.ay 1 (h.cl Gp (ag (h.v 0) (ag aj (ag aj aw))))) (aF (h.ay 2 (h.cl CN (ag (qw (N':=["k","numbers"]) (caps:=[1]) (nt:=1) h ⟨rfl,by decide +kernel,by decide +kernel,by decide +kernel,by decide +kernel,rfl,rfl,by decide +kernel⟩ (To h.g z_range (ag aj (ag (f' h.g z_len (h.bv 1)) (ag aj aw)))) (λX1 cU cS bq a9 cR h1=>⟨(h1.tg 0),pG,(aE (h1.bv 1) (h1.v 0))⟩)) aw))) (aF (h.ay 3 (h.cl CN (ag (qw (N':=["k","numbers"]) (caps:=[1]) (nt:=1) h ⟨rfl,by decide +kernel,by decide +kernel,by decide +kernel,by decide +kernel,rfl,rfl,by decide +kernel⟩ (To h.g z_range (ag aj (ag (f' h.g z_len (h.bv 1)) (ag aj aw)))) (λX1 cU cS bq a9 cR h1=>⟨(h1.tg 0),pG,(aE (h1.bv 1) (h1.v 0))⟩)) aw))) (aF (h.ay 4 (h.cl pF (ag (h.v 2) aw))) (aF (h.ay 5 (h.cl pF (ag (h.v 3) aw))) (aF (h.ay 6 (h.cl FH (ag (h.v 4) (ag (h.v 5) aw)))) (aF (kP h.own h.calm (aA b5U (h.v 0) (eI (ag aj aw))) (h.tg 7) (aF (h.ay 8 (h.cl Gk (ag (h.v 2) (ag (h.v 3) (ag (h.v 7) aw))))) (aF (h.ay 9 (h.cl Ge (ag (h.v 4) (ag (h.v 5) (ag (h.v 8) aw))))) (aJ (dt (jo (h.cl Gq (ag (h.v 2) (ag (h.v 3) (ag (h.v 8) aw))))) (aJ (dt (fw (qp (jo (aE (h.bv 9) aj)) (tK (vN (jo (h.cl Gu (ag (aE (h.bv 9) aj) (ag (h.v 2) (ag (h.v 3) (ag (h.v 8) (ag (h.cl CC (ag (h.v 6) (ag (h.v 8) aw))) aw))))))))))) (aJ (bK rP)) d9)) (aJ (dt (fw (qp (vN (jo (aE (h.bv 9) aj))) (tK (cH b5T (h.cl CC (ag (h.v 6) (ag (h.v 8) aw))) qr)))) (aJ (bK rP)) d9))))))) (aJ (bK rP)))))))))
end
theorem all_mk{l:JS}{w:World}{K:aC}{h:Heap}{mg:Str->Option Value}{fa:Addr}(X:K.In h)(G:h.Ns mainGlobals mg)(ZR:mg "law" = some (.ref fa))
  (i1:FI K "_law_offered" UW f1 od1 an1 sl1 oc1 kV1 dc1 pm1 cd1 ct1)
  (i2:FI K "_law_cost" Um f2 od2 an2 jP oc2 kV2 dc2 pm2 cd2 ct2)
  (i3:FI K "_law_right" UM f3 od3 an3 sl3 oc3 kV3 dc3 pm3 cd3 ct3)
  (i4:FI K "line_at" Uz f4 od4 an4 sl4 oc4 kV4 dc4 pm4 cd4 ct4)
  (i5:FI K "drawn_to" Ul f5 od5 an5 sl5 oc5 kV5 dc5 pm5 cd5 ct5)
  (i6:FI K "place_of" Ut f6 od6 an6 sl6 oc6 kV6 dc6 pm6 cd6 ct6)
  (i7:FI K "cost_at" Uy f7 od7 an7 sl7 oc7 kV7 dc7 pm7 cd7 ct7)
  (i8:FI K "how_many_picks" U2 f8 od8 an8 sl8 oc8 kV8 dc8 pm8 cd8 ct8)
  (i9:FI K "picks" SU f9 od9 an9 sl9 oc9 kV9 dc9 pm9 cd9 ct9)
  (i10:FI K "reaches" UB f10 XT an10 Wn Yu Zc dc10 W' cd10 ct10)
  (i11:FI K "dealt" SR f11 XS an11 Wm Yt Zb dc11 W9 cd11 ct11)
  (i12:FI K "cost_and_shares" U1 f12 XR an12 Wl Yr Za dc12 W8 cd12 ct12)
  (i13:FI K "best_dealt" UZ f13 XQ an13 Wk Yq Y' dc13 W7 cd13 ct13)
  (i14:FI K "parts_at" Us f14 XO an14 Wj Yp Y9 dc14 W6 cd14 ct14)
  (i15:FI K "_law_told" Uq f15 XN an15 Wi Yo Y8 dc15 W5 cd15 ct15)
  (i16:FI K "_law_amount" U0 f16 XM an16 Wh Yn Y7 dc16 W4 cd16 ct16)
  (i17:FI K "holds_one" UK f17 XJ an17 Wg Ym Y6 dc17 W3 cd17 ct17)
  (i18:FI K "plain" SW f18 XI an18 Wf Yl Y5 dc18 W2 cd18 ct18)
  (i19:FI K "laid_beside" UT f19 XH an19 We Yk Y4 dc19 W0 cd19 ct19)
  (i20:FI K "laid" Sj f20 XG an20 Wd Yj Y3 dc20 WZ cd20 ct20)
  (i21:FI K "stretch_on" US f21 XF an21 Wc Yi Y2 dc21 WY cd21 ct21)
  (i22:FI K "span_or_none" U4 f22 XE an22 Wb Yh Y1 dc22 WX cd22 ct22)
  (i23:FI K "up" QY f23 XD an23 Wa Yg Y0 dc23 WW cd23 ct23)
  (i24:FI K "down" Si f24 XC an24 V9 Yf YZ dc24 WU cd24 ct24)
  (i25:FI K "no_dearer" UO f25 XB an25 V8 Ye YY dc25 WT cd25 ct25)
  (i26:FI K "lower_line" UR f26 XA an26 V7 Yd YX dc26 WS cd26 ct26)
  (i27:FI K "line_from" UN f27 Xy an27 V6 Yc YW dc27 WR cd27 ct27)
  (i28:FI K "met" Rt f28 Xx an28 V5 Yb YV dc28 WQ cd28 ct28)
  (i29:FI K "lesser_rows" UY f29 Xw an29 V4 Ya YU dc29 WO cd29 ct29)
  (i30:FI K "cut" Rr f30 Xv an30 V3 X9 YT dc30 WN cd30 ct30)
  (i31:FI K "outside" UA f31 Xu an31 V2 X8 YS dc31 WM cd31 ct31)
  (i32:FI K "spans_of" UP f32 Xt an32 V1 X7 YR dc32 WL cd32 ct32)
  (i33:FI K "least" SS f33 Xq an33 V0 X6 YQ dc33 WK cd33 ct33)
  (i34:FI K "least_of" Ur f34 Xp an34 VZ X5 YO dc34 WJ cd34 ct34)
  (i35:FI K "step_of" UC f35 Xo an35 VY X4 YN dc35 WI cd35 ct35)
  (i36:FI K "poured" TR f36 Xn an36 VX X3 YM dc36 WH cd36 ct36)
  (i37:FI K "least_poured" U3 f37 Xm an37 VW X2 YL dc37 WG cd37 ct37)
  (i38:FI K "split" SX f38 Xl an38 VV X0 YK dc38 WE cd38 ct38)
  (i39:FI K "_law_mixed" UL f39 Xj an39 VU XZ YJ dc39 WD cd39 ct39)
  (i40:FI K "_law_stretch" UX f40 Xi an40 VT XY YI dc40 WC cd40 ct40)
  (i41:FI K "_law_rows" Uo f41 Xh an41 VS XX YH dc41 WB cd41 ct41)
  (i42:FI K "_law_numbers" UU f42 Xg an42 VR XW YG dc42 WA cd42 ct42)
  (i43:FI K "law" Cp f43 Xf LL VQ XU HS JC HC JG JD)
  (zmax:iA K mainGlobals "max" = some none)
  (zmin:iA K mainGlobals "min" = some none)
  (ztuple:iA K mainGlobals "tuple" = some none)
  (zlen:iA K mainGlobals "len" = some none)
  (zsorted:iA K mainGlobals "sorted" = some none)
  (zsum:iA K mainGlobals "sum" = some none)
  (zMOST_PICKS:∃t,iA K mainGlobals "MOST_PICKS" = some (some (.int 100 t)))
  (zzip:iA K mainGlobals "zip" = some none)
  (zrange:iA K mainGlobals "range" = some none)
  (zisinstance:iA K mainGlobals "isinstance" = some none)
  (zValueError:iA K mainGlobals "ValueError" = some none)
  (zbool:iA K mainGlobals "bool" = some none)
  (zint:iA K mainGlobals "int" = some none)
  {fo:Addr}(Om:iA K mainGlobals "NotOffered" = some (some (.ref fo)))(Vt:mS K (.ref fo) "__getattribute__" = some (some (.builtin "BaseException.__getattribute__")))(Vq:mS K (.ref fo) "__getattr__" = some none)(Vn:mS K (.ref fo) "__class__" = some (some (.builtin "object.__class__")))(VD:vi K fo (.type "object")=some true)(Vx:vi K fo (.type "BaseException")=some true)(VA:(JT K fo).isSome=true)
  {js:Addr}(Ol:iA K mainGlobals "OfferError" = some (some (.ref js)))(Vs:mS K (.ref js) "__getattribute__" = some (some (.builtin "BaseException.__getattribute__")))(Vp:mS K (.ref js) "__getattr__" = some none)(Vm:mS K (.ref js) "__class__" = some (some (.builtin "object.__class__")))(VC:vi K js (.type "object")=some true)(Vw:vi K js (.type "BaseException")=some true)(Vz:(JT K js).isSome=true)
  {fm:Addr}(Ob:iA K mainGlobals "TooMany" = some (some (.ref fm)))(Vr:mS K (.ref fm) "__getattribute__" = some (some (.builtin "BaseException.__getattribute__")))(Vo:mS K (.ref fm) "__getattr__" = some none)(Vl:mS K (.ref fm) "__class__" = some (some (.builtin "object.__class__")))(VB:vi K fm (.type "object")=some true)(Vv:vi K fm (.type "BaseException")=some true)(Vy:(JT K fm).isSome=true)
  (g4:Ko K (.builtin "object.__class__") "__get__" = some (some (.builtin "getset_descriptor.__get__")))(g5:PM K (.builtin "object.__class__")=some true)
  (GZ:BQ K (.ref fo) (.ref js)=some true)
  (GY:BQ K (.ref fm) (.ref js)=some true)
  (GX:om K (.ref fo) (.ref fo)=some true)
  (GW:om K (.ref fo) (.ref fm)=some false)
  (GU:om K (.ref fm) (.ref fo)=some false)
  (GS:om K (.ref fm) (.ref fm)=some true)
  (GR:om K (.ref fo) (.type "ValueError")=some true)
  (GQ:om K (.ref fm) (.type "ValueError")=some true)
  {G1 Oh N4:List Value}{Dw:Addr}{Oa N8:Str}{OD Oj:Bool}{N6:List Str}{Of:Option Bool}{Od:Option Addr}{OB Oy Ow Ou Oq:Option Value}
  (Vk:K.lookup fo=some (excClassObj Oa N8 fo Dw Oh G1 OD N6 N4 Oj Of Od OB Oy Ow Ou Oq "ValueError.__new__"))(Vi:J0 K Dw=true)(Vg:iA K Dw "__init__" = some none)(Ve:JZ K Lc G1=true)
  {G0 Og N3:List Value}{Dv:Addr}{N9 N7:Str}{OC Oi:Bool}{N5:List Str}{Oe:Option Bool}{Oc:Option Addr}{OA Ox Ov Ot Oo:Option Value}
  (Vj:K.lookup fm=some (excClassObj N9 N7 fm Dv Og G0 OC N5 N3 Oi Oe Oc OA Ox Ov Ot Oo "ValueError.__new__"))(Vh:J0 K Dv=true)(Vf:iA K Dv "__init__" = some none)(Vd:JZ K Lc G0=true)
  {cT pT:Addr}(hT:mR K "dealt" = some (cT,pT))(hC:EI K cT pT=true)
  (fin:∀ns:List Int,ns.length<=63->(∀n∈ns,Sm n)->FJ [.lst true (ns.map D.int)]=some (.sh (.bl true))):
  ∃fd:FuncData,(∀(s:Shared) (v:Value),BindsTo s fd ⟨[v],[]⟩ [("script",v)])/\∀base:Heap,K.In base->base.Ns mainGlobals mg->bG l.prog w K mg base jc 14 fa fd ["script"] (ue K):=by
 have e:=ZR.symm.trans (wZ X G i43.a)
 cases e
 have z_max:=ot X G zmax
 have z_min:=ot X G zmin
 have z_tuple:=ot X G ztuple
 have z_len:=ot X G zlen
 have z_sorted:=ot X G zsorted
 have z_sum:=ot X G zsum
 have z_MOST_PICKS:N1 mg "MOST_PICKS" 100:=zMOST_PICKS.imp λ_ q=>wZ X G q
 have z_zip:=ot X G zzip
 have z_range:=ot X G zrange
 have z_isinstance:=ot X G zisinstance
 have z_ValueError:=ot X G zValueError
 have z_bool:=ot X G zbool
 have z_int:=ot X G zint
 have TT:r8 K mg fo js fm:=⟨⟨Om,wZ X G Om,⟨Vt,Vq,Vn,g4,g5,VD,Vx⟩,VA⟩,⟨Ol,wZ X G Ol,⟨Vs,Vp,Vm,g4,g5,VC,Vw⟩,Vz⟩,⟨Ob,wZ X G Ob,⟨Vr,Vo,Vl,g4,g5,VB,Vv⟩,Vy⟩,GZ,GY,GX,GW,GU,GS,GR,GQ,⟨⟨G1,Dw,Oa,N8,Oh,OD,N6,N4,Oj,Of,Od,OB,Oy,Ow,Ou,Oq,Vk,Vi,Vg,Ve⟩⟩,⟨⟨G0,Dv,N9,N7,Og,OC,N5,N3,Oi,Oe,Oc,OA,Ox,Ov,Ot,Oo,Vj,Vh,Vf,Vd⟩⟩⟩
 refine ⟨jl "law" "law" (jY Cp) (fZ Cp) (du Cp) .none HS JC HC LL JG JD,λs v=>.of_eq rfl,λbase _ _=>?_⟩
 have Gq:=a5V (P:=l.prog) (w:=w) (base:=base) (j' X G i1)
 have CM:=a8D (P:=l.prog) (w:=w) (base:=base) (df X G i2)
 have Gu:=a7F z_tuple z_len z_isinstance z_bool z_int CM (HL X G i3)
 have qz:=b0n (P:=l.prog) (w:=w) (base:=base) (j' X G i4)
 have nM:=a8E qz (df X G i5)
 have Gg:=a8z (P:=l.prog) (w:=w) (base:=base) z_len (df X G i6)
 have CC:=b0o z_len nM Gg (df X G i7)
 have pJ:=a4y (P:=l.prog) (w:=w) (base:=base) z_len (dP X G i8)
 have qv:=b3d TT z_MOST_PICKS pJ (dP X G i9)
 have xW:=b2F TT z_MOST_PICKS pJ (dP X G i9)
 have vR:=b0l (P:=l.prog) (w:=w) (base:=base) z_sum (df X G i10)
 have FG:=b3f (P:=l.prog) (w:=w) (base:=base) z_min z_len z_sorted z_sum z_range (df X G i11) (b2O hT i11.a i11.l) hT hC
 have v3:=a38 z_sum z_zip nM FG (df X G i12)
 have vU:=a6D TT z_min qv xW vR v3 (df X G i13)
 have yg:=a6g TT z_min qv xW vR v3 (df X G i13)
 have Gf:=a8A vU yg (j' X G i14)
 have Gw:=a8n vU yg (j' X G i14)
 have Ge:=a8B TT z_isinstance z_ValueError Gf Gw (j' X G i15)
 have Gk:=a6B (P:=l.prog) (w:=w) (base:=base) z_len (j' X G i16)
 have tQ:=a7H (P:=l.prog) (w:=w) (base:=base) (dP X G i17)
 have tL:=b3c tQ (dP X G i18)
 have Gn:=a5X qz tQ tL (df X G i19)
 have pF:=b5Q z_tuple tL Gn (dP X G i20)
 have vV:=a6y qz (ux X G i21)
 have CS:=a5m (P:=l.prog) (w:=w) (base:=base) (df X G i22)
 have O_up:=zJ (P:=l.prog) (w:=w) (base:=base) (df X G i23)
 have FE:=b5R (P:=l.prog) (w:=w) (base:=base) (df X G i24)
 have Gv:=a7D z_max z_min CS O_up FE (ux X G i25)
 have Gm:=a6A vV Gv (ux X G i26)
 have CL:=a7E nM (df X G i27)
 have E9:=b8j z_max z_min z_len CL (df X G i28)
 have GB:=a5N Gm E9 (df X G i29)
 have B5:=b8l nM (j' X G i30)
 have CD:=b0m z_max z_len B5 (df X G i31)
 have CO:=a8y (P:=l.prog) (w:=w) (base:=base) z_tuple (dP X G i32)
 have lH:=b3e z_sorted pF GB CD CO (df X G i33)
 have O_least_of__0:=a5T (P:=l.prog) (w:=w) (base:=base) (dP X G i34)
 have CZ:=a5S z_len lH O_least_of__0 (dP X G i34)
 have C1:=a5R z_len lH CZ (dP X G i34)
 have C3:=a5Q z_len lH C1 (dP X G i34)
 have C4:=a5P z_len lH C3 (dP X G i34)
 have GA:=a5O z_len lH C4 (dP X G i34)
 have F3:=b0k (P:=l.prog) (w:=w) (base:=base) (dP X G i35)
 have F':=b1e z_sorted z_sum pF F3 (dP X G i36)
 have Gy:=a5n qv GA F' (dP X G i37)
 have FH:=b3b Gy (df X G i38)
 have yi:=a7G (P:=l.prog) (w:=w) (base:=base) (df X G i39)
 have Gz:=a5U z_len yi (df X G i40)
 have CN:=a8C Gz (dP X G i41)
 have Gp:=a5W (P:=l.prog) (w:=w) (base:=base) z_len z_range (j' X G i42)
 have O_law:=b8k z_len z_range Gq Gu CC Ge Gk pF FH CN Gp (dP X G i43)
 exact b5Z O_law fin
end My
open PySem L2 DL
def vcNames:String:="a0h a0s a0j a1G a6q b02 b01 b00 Wo_seq b6V Wo_bk Wo_ct b9h b6U b9g b2m b9C b87 b7a b7r b6D Wo_eV Wo_eC b9A b9l b62 b68 b60 b64 b67 b4g b2t b65 b61 b9o b9p b9q b9r b9s b9n b66 b63 b4j b4f b4i b4e b4h b4d b7s b7u b7t rep0 rep1 rep2 rep3 rep4 b35 b4t b4u b7c b7d b7b b7f b7q b7o b7i b7j b6Z b9z b4a b4b b7v b7w b9m b6W b1z b3B b1B b1y b1x b1A b9d b9E b6O b6N b6M b6J b6L b6K b36 b6Q b9c b6P b7p b9w b7h b9y b7x b4x b7e b7k b88 b9a b89 Wo_bV b9B b9e b9f b7l b4q b2q ixQ_i b9x atI_0 atI_1 atI_2 atI_3 b4s b2v b4v b4w b7m b6r b6s b9t b69 a89 a8l b6S b6R b39 b38 b2K b2L b2M b2J Wo_gN Wo_gT b4c b2o b9D b9b b9F b8L b9u b9i b53 b6Y b6F b6E b6T b9k pQ_i b9j b9v b2u lrQ_i b7g slQ_t b31 b32 b33 b34 srQ_l b0F b4r b4k b4n Sl_sh Sl_ow b4l List.getElem?_cons_zero List.getElem?_cons_succ List.set_cons_zero List.set_cons_succ List.length_cons List.length_nil a8T b0w a8V a8S a8R a8U a71 a8W a73 a70 a7Z a72 a8N b0v a8P a8M a8L a8O a7W a8Q a7Y a7V a7U a7X a6R a7T a6T a6Q a6P a6S decide_eq_true_eq decide_eq_false_iff_not Bool.not_eq_true' Bool.not_eq_false' Bool.not_true Bool.not_false true_and and_true forall_const Bool.true_eq_false Bool.false_eq_true false_implies reduceCtorEq implies_true true_implies Int.reduceToNat Nat.reduceAdd Nat.reduceLT Nat.reduceLeDiff Nat.reduceSub Int.reduceLT Int.reduceLE Int.reduceEq Int.cast_ofNat_Int not_true_eq_false not_false_eq_true"
local macro_rules | `(tactic| walk_at "vc")=>do
 let ls ← ((vcNames.splitOn " ") ++ ["a2h","b2n","b3y","b56","b3A","b3x","b3w","b3z"]).toArray.mapM fun s=>`(Lean.Parser.Tactic.simpLemma| $(Lean.mkIdent s.toName):ident)
 `(tactic| first | simp only [$ls,*] | dsimp only | skip)
local macro_rules | `(tactic| walk_at "v1")=>do
 let ls ← (vcNames.splitOn " ").toArray.mapM fun s=>`(Lean.Parser.Tactic.simpLemma| $(Lean.mkIdent s.toName):ident)
 `(tactic| first | simp only [$ls,*] | dsimp only | skip)
local macro_rules | `(tactic| walk_at "sc")=>`(tactic| first | omega | (simp only [DivC,PowC,MulC,LIM,R62]; omega) | rfl | decide)
local macro_rules | `(tactic| walk_at "go")=>`(tactic| (walk_at "vc"; repeat' first | apply c3J | intro _); all_goals try (walk_at "sc"))
local macro_rules | `(tactic| walk_at "sp")=>`(tactic| (repeat' first | apply And.intro | intro _); all_goals first | (exfalso; omega) | walk_at "sc" | ((repeat apply Exists.intro); rfl) | skip)
local macro_rules | `(tactic| walk_at "st")=>`(tactic| repeat (refine And.intro ?_ ?_; · first | (simp only [DivC,PowC,MulC,LIM,R62]; omega) | omega))
namespace My
theorem b1X(ns:List Int)(hl:ns.length<=63)(start most:Int)(h0:0<=start)(h1:0<most)(h2:most<=1000)(h3:start<=1000){r:Bool}:∃l:List Int,yp [.lst r (ns.map D.int),.int start,.int most]=some (.ow (l.map D.int))/\(l.length:Int)<=most/\((l.length:Int)<most->l.length=((ns.length:Int)-start).toNat)/\∀v∈l,0<=v/\v<10^18:=by
 have key:Wo (yp [.lst r (ns.map D.int),.int start,.int most]) λs=>∃l:List Int,s=.ow (l.map D.int)/\(l.length:Int)<=most/\((l.length:Int)<most->l.length=((ns.length:Int)-start).toNat)/\∀v∈l,0<=v/\v<10^18:=by
  refine iX.mpr ?_
  unfold Nz
  walk_at "vc"
  rw [cj]
  refine b5t _ _ (λk env=>∃x4 x5,∃l:List Int,env=[.sh (.lst r (ns.map D.int)),.sh (.int start),.sh (.int most),.ow (l.map D.int),x4,x5]/\(l.length:Int)<=most/\(l.length<most->l.length=k)/\∀v∈l,0<=v/\v<10^18) (λk env hk h=>?_) (λenv h=>?_) ⟨_,_,[],rfl,by simp;ext h1,λ_=>rfl,by simp⟩
  .obtain ⟨x4,x5,l,rfl,hm,iw,hv⟩:=h
   walk_at "vc"
   rw [Ga 0 (by ext h0) (by ext hk),a0h]
   walk_at "vc"
   rw [cj]
   generalize ns.getD _ 0=c
   have c1:=kG c (show (10^18:Int)≠0 by decide)
   have c2:=kH c (show (0:Int)<10^18 by decide)
   refine ⟨by walk_at "sc",by decide,λaY=>?_,λmK=>?_⟩
   .refine ⟨by ext h2 aY,_,_,l++[c%10^18],by rw [ic];rfl,by simp;assumption,λ_=>by simp;exact iw aY,λv uC=>?_⟩
    rcases bX.mp uC with h | h
    .exact hv v h
    .obtain rfl:=bT.mp h
     exact ⟨c1,c2⟩
   .have m1:=kG (start+k) (show most≠0 by ext h1)
    have m2:=kH (start+k) h1
    have hlm:(l.length:Int)=most:=by ext hm mK
    generalize c%10^18=c at *
    rw [Ga 0 m1 (by ext mK m2)]
    walk_at "vc"
    generalize hx:l.getD _ 0=x
    generalize (start+(k:Int))%most=j at *
    have hj:jg (l.map D.int).length j=some j.toNat:=by
     unfold jg
     rw [if_pos m1,cj,if_pos (by ext mK m2)]
    rw [cj] at hj
    rw [hj]
    walk_at "vc"
    refine ⟨‹_›,.inr (.inl (by decide)),by walk_at "sc",by decide,‹_›,?_⟩
    refine ⟨_,_,l.set j.toNat ((x*10007+c)%10^18),by rw [List.map_set],by rw [BM];assumption,λh=>absurd h (by rw [BM];assumption),λv uC=>?_⟩
    rcases List.mem_or_eq_of_mem_set uC with h | h
    .exact hv v h
    .rw [h]
     exact ⟨kG _ (by decide),kH _ (by decide)⟩
  .obtain ⟨x4,x5,l,rfl,hm,hq,hv⟩:=h
   walk_at "vc"
   exact ⟨l,rfl,hm,hq,hv⟩
 obtain ⟨s,e,l,rfl,h⟩:=key
 exact ⟨l,e,h⟩
noncomputable abbrev Row:=Int×Int×Int×Int
noncomputable def Row.d(r:Row):D:=.tup [.int r.1,.int r.2.1,.int r.2.2.1,.int r.2.2.2]
theorem dh(r:Row):Row.d r=.tup [.int r.1,.int r.2.1,.int r.2.2.1,.int r.2.2.2]:=rfl
noncomputable def Row.at(r:Row)(x:Int):Int:=r.2.2.1+r.2.2.2*(x-r.1)
def vK(r:Row):Prop:=r.1<=r.2.1/\(r.1=r.2.1->r.2.2.2=0)
def Lj(a r:Row):Prop:=a.2.1<r.1/\(r.1=a.2.1+1->a.1<a.2.1/\r.2.2.1≠a.at r.1)
noncomputable def bu(R:Row->Row->Prop):List Row->Prop
 | a::b::rs=>R a b/\bu R (b::rs)
 | _=>True
theorem bu.snoc{R:Row->Row->Prop}{r:Row}:∀{rs:List Row},bu R rs->(∀a,rs.getLast?=some a->R a r)->bu R (rs++[r])
 | [],_,_=>trivial
 | [a],_,h=>⟨h a rfl,trivial⟩
 | a::b::rs,h,k=>⟨h.1,h.2.snoc (rs:=b::rs) λc hc=>k c (by simpa using hc)⟩
theorem bu.tail{R:Row->Row->Prop}{r:Row}{rs:List Row}(h:bu R (r::rs)):bu R rs:=by
 cases rs with
 | nil=>trivial
 | cons q rs=>exact h.2
def Canon(rs:List Row):Prop:=(∀r∈rs,vK r)/\bu Lj rs
def aD(B:Int)(r:Row):Prop:=(-B<=r.1/\r.1<=B)/\(-B<=r.2.1/\r.2.1<=B)/\(-B<=r.2.2.1/\r.2.2.1<=B)/\(-B<=r.2.2.2/\r.2.2.2<=B)
noncomputable def look:List Row->Int->Option Int
 | [],_=>none
 | r::rs,x=>if r.1<=x/\x<=r.2.1 then some (r.at x) else look rs x
noncomputable def rz:Option Int->D
 | none=>.aG
 | some i=>.int i
def dS(rs:List Row):Prop:=(∀r∈rs,r.1<=r.2.1)/\rs.Pairwise λa b=>a.2.1<b.1
theorem Canon.gp:∀{rs:List Row},Canon rs->dS rs
 | [],_=>⟨λ_ z=>(nomatch z),.nil⟩
 | [r],h=>⟨λq hq=>(h.1 q hq).1,qj _ _⟩
 | r::q::rs,h=>by
  obtain ⟨i1,i2⟩:=Canon.gp (rs:=q::rs) ⟨λa ha=>h.1 a (cY _ ha),h.2.2⟩
  refine ⟨λa ha=>(h.1 a ha).1,iC.mpr ⟨λa ha=>?_,i2⟩⟩
  have h1:=h.2.1.1
  rcases bI.mp ha with rfl | ha
  .exact h1
  .have:=(iC.mp i2).1 a ha
   have:=i1 q cM
   lia
theorem MK{x:Int}{post:List Row}:∀{pre:List Row},(∀q∈pre,q.2.1<x)->look (pre++post) x=look post x
 | [],_=>rfl
 | r::pre,h=>by
  have:=h r cM
  rw [Kt,look,if_neg (by ext this)]
  exact MK λq hq=>h q (cY _ hq)
theorem T8{x:Int}:∀{rs:List Row},(∀q∈rs,x<q.1\/q.2.1<x)->look rs x=none
 | [],_=>rfl
 | r::rs,h=>by
  have:=h r cM
  rw [look,if_neg (by ext this)]
  exact T8 λq hq=>h q (cY _ hq)
theorem CA{x c:Int}:∀{rs:List Row},look rs x=some c->∃r∈rs,r.1<=x/\x<=r.2.1/\c=r.at x
 | [],h=>by cases h
 | r::rs,h=>by
  rw [look] at h
  split at h
  .exact ⟨r,cM,by lia,by lia,(dk h).symm⟩
  .obtain ⟨q,hq,k⟩:=CA h
   exact ⟨q,cY _ hq,k⟩
theorem nL{rs:List Row}(h:dS rs){r:Row}(hr:r∈rs){x:Int}(h1:r.1<=x)(h2:x<=r.2.1):look rs x=some (r.at x):=by
 obtain ⟨pre,post,rfl⟩:=List.append_of_mem hr
 rw [MK λq hq=>?_,look,if_pos ⟨h1,h2⟩]
 have:=(gm.mp h.2).2.2 q hq r cM
 ext h1 this
def Val(rs:List Row)(x c:Int):Prop:=∃r∈rs,r.1<=x/\x<=r.2.1/\c=r.at x
theorem qE{rs:List Row}(h:dS rs){x c:Int}:look rs x=some c↔Val rs x c:=
 ⟨CA,λ⟨r,hr,h1,h2,e⟩=>by rw [nL h hr h1 h2,e]⟩
theorem Val.app{rs qs:List Row}{x c:Int}:Val (rs++qs) x c↔Val rs x c\/Val qs x c:=by
 unfold Val
 constructor
 .rintro ⟨r,hr,h⟩
  rcases bX.mp hr with hr | hr
  .exact .inl ⟨r,hr,h⟩
  .exact .inr ⟨r,hr,h⟩
 .rintro (⟨r,hr,h⟩ | ⟨r,hr,h⟩)
  .exact ⟨r,iR _ hr,h⟩
  .exact ⟨r,ie _ hr,h⟩
theorem Val.one{r:Row}{x c:Int}:Val [r] x c↔r.1<=x/\x<=r.2.1/\c=r.at x:=by
 unfold Val
 simp
theorem Val.two{r q:Row}{x c:Int}:Val [r,q] x c↔(r.1<=x/\x<=r.2.1/\c=r.at x)\/(q.1<=x/\x<=q.2.1/\c=q.at x):=by
 unfold Val
 simp
noncomputable def total(rs:List Row):Int:=(rs.map λr=>r.2.1-r.1+1).sum
theorem vS(rs qs:List Row):total (rs++qs)=total rs+total qs:=by unfold total;rw [ic,Er]
theorem bu.append{R:Row->Row->Prop}:∀{rs qs:List Row},bu R rs->bu R qs->(∀a b,rs.getLast?=some a->qs.head?=some b->R a b)->bu R (rs++qs)
 | [],_,_,h,_=>h
 | [a],[],_,_,_=>trivial
 | [a],b::qs,_,h,k=>⟨k a b rfl rfl,h⟩
 | a::b::rs,qs,h,h',k=>⟨h.1,bu.append (rs:=b::rs) h.2 h' λc d hc hd=>k c d (by simpa using hc) hd⟩
theorem bu.left{R:Row->Row->Prop}:∀{rs qs:List Row},bu R (rs++qs)->bu R rs
 | [],_,_=>trivial
 | [a],_,_=>trivial
 | a::b::rs,qs,h=>⟨h.1,bu.left (rs:=b::rs) h.2⟩
theorem bu.mid{R:Row->Row->Prop}{b:Row}:∀{rs:List Row},bu R (rs++[b])->∀a,rs.getLast?=some a->R a b
 | [],_,a,h=>by cases h
 | [a],h,c,hc=>by cases hc;exact h.1
 | a::c::rs,h,d,hd=>bu.mid (rs:=c::rs) h.2 d (by simpa using hd)
theorem bu.get{R:Row->Row->Prop}:∀{rs:List Row},bu R rs->∀(k:Nat) (h:k+1<rs.length),R (rs[k]'(by ext h)) rs[k+1]
 | [],_,k,h=>absurd h (by simp)
 | [a],_,k,h=>absurd h (by simp)
 | a::b::rs,h,0,_=>h.1
 | a::b::rs,h,k+1,hk=>bu.get (rs:=b::rs) h.2 k (by simpa using hk)
theorem ME{rs:List Row}{n:Nat}(h:n<rs.length):eH (rs.map Row.d) (n:Int)=some (Row.d rs[n]):=by
 rw [DL.c7];simp [h]
theorem aD.mono{A B:Int}{r:Row}(h:aD A r)(A7:A<=B):aD B r:=by unfold aD at *;ext h A7
theorem Lr{p s l x:Int}(h1:-(10^250)<=s)(h2:s<=10^250)(h3:-(10^250)<=x-l)(h4:x-l<=10^250):tR [.tup [.int p,.int s],.int l,.int x]=some (.sh (.int (p+s*(x-l)))):=by
 refine Wo.eq (nR.mpr ?_)
 unfold MT
 walk_at "go"
theorem FZ{r:Row}{x:Int}(h1:-(10^250)<=r.2.2.2)(h2:r.2.2.2<=10^250)(h3:-(10^250)<=x-r.1)(h4:x-r.1<=10^250):tX [r.d,.int x]=some (.sh (.int (r.at x))):=by
 refine Wo.eq (mo.mpr ?_)
 unfold M4
 rw [dh r]
 walk_at "vc"
 rw [Lr h1 h2 h3 h4]
 walk_at "vc"
 rfl
theorem b8V{a b:Int}(h:0<b)(h2:b<=10^250):CI [.int a,.int b]=some (.sh (.int (a/b))):=by
 refine Wo.eq (v8.mpr ?_)
 unfold Lk
 walk_at "go"
theorem Jx{a b:Int}(h:0<b)(h2:b<=10^250):Ck [.int a,.int b]=some (.sh (.int (-(-a/b)))):=by
 refine Wo.eq (NT.mpr ?_)
 unfold wd
 walk_at "go"
noncomputable def pd:Option (Int×Int)->D
 | none=>.aG
 | some (a,b)=>.tup [.int a,.int b]
noncomputable def wu(a b:Int):Option (Int×Int):=if a<=b then some (a,b) else none
theorem QN(a b:Int):yx [.int a,.int b]=some (.sh (pd (wu a b))):=by
 refine Wo.eq (il.mpr ?_)
 unfold NK
 walk_at "go"
 all_goals simp [wu,pd, *]
noncomputable def nd(a s low high:Int):Option (Int×Int):=if 0<s then wu low (min high (low+(-a)/s)) else if s<0 then wu (max low (low + -((-a)/(-s)))) high else if 0<a then none else some (low,high)
theorem Jy{p1 s1 p2 s2 low high:Int}(h:-(10^250)<=s1-s2)(h2:s1-s2<=10^250):
  C6 [.tup [.int p1,.int s1],.tup [.int p2,.int s2],.int low,.int high]=some (.sh (pd (nd (p1-p2) (s1-s2) low high))):=by
 refine Wo.eq (kR.mpr ?_)
 unfold Nn
 walk_at "vc"
 refine ⟨λhs=>?_,λhs=>⟨λdD=>?_,λdD=>⟨λha=>?_,λha=>?_⟩⟩⟩
 .rw [b8V hs h2]
  walk_at "vc"
  rw [QN]
  walk_at "vc"
  rw [nd,if_pos hs]
 .rw [Jx (by ext dD) (by ext h)]
  walk_at "vc"
  rw [QN]
  walk_at "vc"
  rw [nd,if_neg hs,if_pos dD]
 .rw [nd,if_neg hs,if_neg dD,if_pos ha];rfl
 .rw [nd,if_neg hs,if_neg dD,if_neg ha];rfl
theorem RR{a s low high:Int}(DW:low<=high):match nd a s low high with
  | none=>∀x,low<=x->x<=high->0<a+s*(x-low)
  | some (f,l)=>(low<=f/\f<=l/\l<=high/\(f=low\/l=high))/\∀x,low<=x->x<=high->(a+s*(x-low)<=0↔f<=x/\x<=l):=by
 unfold nd
 by_cases hs:0<s
 .rw [if_pos hs]
  obtain ⟨f1,f2⟩:=Td (a:=-a) hs
  generalize (-a)/s=q at *
  have key:∀x,a+s*(x-low)<=0↔x-low<=q:=λx=>by
   constructor
   .intro h
    rcases Int.lt_or_le q (x-low) with h' | h'
    .have:=EY (show q+1<=x-low by assumption) (BE hs)
     grind
    .exact h'
   .intro h
    have:=EY h (BE hs)
    grind
  unfold wu
  by_cases hm:low<=min high (low+q)
  .rw [if_pos hm]
   refine ⟨⟨by ext,‹_›,by ext,.inl rfl⟩,λx h1 h2=>?_⟩
   rw [key]
   ext h1 h2
  .rw [if_neg hm]
   intro x h1 h2
   have:=not_congr (key x)
   ext DW hm h1 this
 .rw [if_neg hs]
  by_cases dD:s<0
  .rw [if_pos dD]
   obtain ⟨f1,f2⟩:=Td (a:=-a) (b:=-s) (by ext dD)
   generalize (-a)/(-s)=q at *
   have key:∀x,a+s*(x-low)<=0 ↔ -q<=x-low:=λx=>by
    constructor
    .intro h
     rcases Int.lt_or_le (x-low) (-q) with h' | h'
     .have:=EY (show x-low+1 <= -q by assumption) (show 0 <= -s by ext dD)
      grind
     .exact h'
    .intro h
     have:=EY h (show 0 <= -s by ext dD)
     grind
   unfold wu
   by_cases hm:max low (low + -q)<=high
   .rw [if_pos hm]
    refine ⟨⟨by ext,‹_›,by ext,.inr rfl⟩,λx h1 h2=>?_⟩
    rw [key]
    ext h1 h2
   .rw [if_neg hm]
    intro x h1 h2
    have:=not_congr (key x)
    ext DW hm h2 this
  .rw [if_neg dD]
   have:s=0:=by ext hs dD
   subst this
   by_cases ha:0<a
   .rw [if_pos ha];intro x _ _;ext ha
   .rw [if_neg ha];exact ⟨⟨by ext,‹_›,by ext,.inl rfl⟩,λx h1 h2=>by ext ha h1 h2⟩
theorem Ff{p s l f g:Int}(h1:-(10^250)<=s)(h2:s<=10^250)(h3:-(10^250)<=f-l)(h4:f-l<=10^250):tV [.tup [.int p,.int s],.int l,.int f,.int g]=some (.sh (.tup [.int f,.int g,.int (p+s*(f-l)),.int s])):=by
 refine Wo.eq (jL.mpr ?_)
 unfold Ni
 walk_at "vc"
 rw [Lr h1 h2 h3 h4]
 walk_at "go"
noncomputable def gO(p s l f g:Int):Row:=(f,g,p+s*(f-l),s)
noncomputable def oS(p1 s1 p2 s2 low high:Int):List Row:=match nd (p1-p2) (s1-s2) low high with
 | none=>[gO p2 s2 low low high]
 | some (f,l)=>(if low<f then [gO p2 s2 low low (f-1)] else [])++[gO p1 s1 low f l]++(if l<high then [gO p2 s2 low (l+1) high] else [])
theorem b8U{p1 s1 p2 s2 low high:Int}(DW:low<=high)(hw:high-low<=10^200)(h1:-(10^200)<=s1)(h2:s1<=10^200)(h3:-(10^200)<=s2)(h4:s2<=10^200):
  CT [.tup [.int p1,.int s1],.tup [.int p2,.int s2],.int low,.int high]=some (.ow ((oS p1 s1 p2 s2 low high).map Row.d)):=by
 refine Wo.eq (jN.mpr ?_)
 unfold Nh
 walk_at "vc"
 rw [Jy (by ext h1 h4) (by ext h2 h3)]
 have sp:=RR (a:=p1-p2) (s:=s1-s2) (low:=low) (high:=high) DW
 unfold oS
 cases oX:nd (p1-p2) (s1-s2) low high with
 | none =>
  dsimp only [pd]
  walk_at "vc"
  rw [Ff (by ext h3) (by ext h4) (by ext) (by ext)]
  walk_at "vc"
  rfl
 | some fl =>
  obtain ⟨f,l⟩:=fl
  rw [oX] at sp
  obtain ⟨⟨q1,q2,q3,q4⟩,q5⟩:=sp
  dsimp only [pd]
  walk_at "vc"
  rw [Ff (by ext h3) (by ext h4) (by ext) (by ext),Ff (by ext h1) (by ext h2) (by ext q1) (by ext hw q2 q3),Ff (by ext h3) (by ext h4) (by ext q1 q2) (by ext hw q3)]
  walk_at "vc"
  refine ⟨λa=>?_,λa=>?_⟩<;>(repeat' first | apply c3J | intro _)<;>simp [*,Row.d,gO]
theorem K4(r:Row):tU [r.d]=some (.sh (.bl (decide (r.1=r.2.1)))):=by
 refine Wo.eq (kY.mpr ?_)
 unfold Nj
 rw [dh r]
 walk_at "go"
noncomputable def fN(r:Row):Row:=if r.1=r.2.1 then (r.1,r.2.1,r.2.2.1,0) else r
theorem F0(r:Row):rT [r.d]=some (.sh (fN r).d):=by
 refine Wo.eq (rY.mpr ?_)
 unfold LQ
 walk_at "vc"
 rw [K4]
 walk_at "vc"
 unfold fN
 refine ⟨λh=>?_,λh=>?_⟩
 .rw [if_pos h,dh]
  walk_at "vc"
  rfl
 .rw [if_neg h]
noncomputable def lE(a r:Row):Int:=if a.1=a.2.1 then r.2.2.1-a.2.2.1 else a.2.2.2
noncomputable def lI(a r:Row):List Row:=if r.2.2.1≠a.2.2.1+lE a r*(r.1-a.1) then [a,fN r] else if r.1=r.2.1\/r.2.2.2=lE a r then [(a.1,r.2.1,a.2.2.1,lE a r)] else
 [(a.1,r.1,a.2.2.1,lE a r),fN (r.1+1,r.2.1,r.2.2.1+r.2.2.2,r.2.2.2)]
theorem b3S{a r:Row}(ha:aD (3*10^140) a)(hr:aD (10^140) r):CU [a.d,r.d]=some (.ow ((lI a r).map Row.d)):=by
 refine Wo.eq (iY.mpr ?_)
 unfold NO
 walk_at "v1"
 rw [K4]
 unfold aD at ha hr
 have q8:Wo (some (Sl.sh (D.bl (decide (a.1=a.2.1))))) λWv=>Wo (iH Wv.d) λb=>True:=⟨_,rfl,_,rfl,trivial⟩
 have Aw:-(10^200)<=lE a r/\lE a r<=10^200:=by unfold lE;split<;>omega
 rw [dh a,dh r]
 walk_at "v1"
 have fin:∀{st:Int},st=lE a r->Wo (ai (cG (bE (aa jE (ax (bV 1) (eC (.int 2))) (aP 3 tR (af (bD (af (ax (bV 0) (eC (.int 2))) (af (eV 2) ae))) (af (ax (bV 0) (eC (.int 0))) (af (ax (bV 1) (eC (.int 0))) ae))))))
   (aB (aZ (af (eV 0) (af (aP 1 rT (af (eV 1) ae)) ae)))) c5)
   (ai (cG (e7 (cn (aP 1 tU (af (eV 1) ae))) (bE (aa dg (ax (bV 1) (eC (.int 3))) (eV 2))))
   (aB (aZ (af (bD (af (ax (bV 0) (eC (.int 0))) (af (ax (bV 1) (eC (.int 1))) (af (ax (bV 0) (eC (.int 2))) (af (eV 2) ae))))) ae))) c5)
   (ai (aX 3 (aP 1 rT (af (bD (af (aa aU (ax (bV 1) (eC (.int 0))) (eC (.int 1))) (af (ax (bV 1) (eC (.int 1))) (af (aa aU (ax (bV 1) (eC (.int 2))) (ax (bV 1) (eC (.int 3)))) (af (ax (bV 1) (eC (.int 3))) ae))))) ae)))
   (aB (aZ (af (bD (af (ax (bV 0) (eC (.int 0))) (af (ax (bV 1) (eC (.int 0))) (af (ax (bV 0) (eC (.int 2))) (af (eV 2) ae))))) (af (eV 3) ae)))))) [.sh (.tup [.int a.1,.int a.2.1,.int a.2.2.1,.int a.2.2.2]),.sh (.tup [.int r.1,.int r.2.1,.int r.2.2.1,.int r.2.2.2]),.sh (.int st),.no])
   (aO λx=>x=.ow ((lI a r).map Row.d)):=by
  rintro st rfl
  walk_at "vc"
  rw [Lr (by ext Aw) (by ext Aw) (by ext ha hr) (by ext ha hr),<-dh r,F0,K4]
  have e2:=F0 (r.1+1,r.2.1,r.2.2.1+r.2.2.2,r.2.2.2)
  rw [dh] at e2
  dsimp only at e2
  rw [e2]
  walk_at "vc"
  unfold lI
  refine ⟨λh=>?_,λh=>⟨λh1=>?_,λh1=>⟨λh2=>?_,λh2=>?_⟩⟩⟩
  .rw [if_pos h];rfl
  .rw [if_neg (by simpa using h),if_pos (.inl h1)];rfl
  .rw [if_neg (by simpa using h),if_pos (.inr h2)];rfl
  .rw [if_neg (by simpa using h),if_neg (by simp [h1,h2])];rfl
 refine ⟨λh=>?_,λh=>?_⟩
 .exact Wo_seq.mp (fin (by unfold lE;rw [if_pos h]))
 .exact Wo_seq.mp (fin (by unfold lE;rw [if_neg h]))
theorem Tu{a r:Row}(ha:vK a)(hr:r.1<=r.2.1)(hn:r.1=a.2.1+1):(∀q∈lI a r,vK q)/\bu Lj (lI a r)/\(∀x c,Val (lI a r) x c↔(a.1<=x/\x<=a.2.1/\c=a.at x)\/(r.1<=x/\x<=r.2.1/\c=r.at x)) /\
  total (lI a r)=(a.2.1-a.1+1)+(r.2.1-r.1+1)/\(∃q,(lI a r).head?=some q/\q.1=a.1/\q.2.2.1=a.2.2.1)/\(∃q,(lI a r).getLast?=some q/\q.2.1=r.2.1)/\(lI a r).length<=2:=by
 obtain ⟨a0,a1,a2,a3⟩:=a
 obtain ⟨r0,r1,r2,r3⟩:=r
 unfold vK at ha
 dsimp only at ha hr hn
 have dG:∀r:Row,r.1<=r.2.1->vK (fN r)/\(fN r).1=r.1/\(fN r).2.1=r.2.1/\(fN r).2.2.1=r.2.2.1/\∀x,r.1<=x->x<=r.2.1->(fN r).at x=r.at x:=λr h=>by
  unfold fN
  split
  .rename_i e
   refine ⟨⟨by dsimp only;assumption,λ_=>rfl⟩,rfl,rfl,rfl,λx h1 h2=>?_⟩
   have:x=r.1:=by ext e h1 h2
   unfold Row.at
   dsimp only
   rw [this];simp
  .rename_i e
   exact ⟨⟨h,λz=>absurd z e⟩,rfl,rfl,rfl,λ_ _ _=>rfl⟩
 generalize hs:lE (a0,a1,a2,a3) (r0,r1,r2,r3)=s
 have Ax:a0=a1->s=r2-a2:=λe=>by rw [<-hs];unfold lE;dsimp only;rw [if_pos e]
 have dD:a0≠a1->s=a3:=λe=>by rw [<-hs];unfold lE;dsimp only;rw [if_neg e]
 unfold lI
 dsimp only
 rw [hs]
 by_cases cC:r2≠a2+s*(r0-a0)
 .rw [if_pos cC]
  have Py:a0≠a1:=λe=>cC (by rw [Ax e,hn,<-e];grind)
  have hs:=dD Py
  obtain ⟨p1,p2,p3,p4,p5⟩:=dG (r0,r1,r2,r3) hr
  dsimp only at p2 p3 p4 p5
  refine ⟨λq hq=>?_,⟨⟨by rw [p2];dsimp only;ext hn,λ_=>⟨by dsimp only;ext ha Py,?_⟩⟩,trivial⟩,λx c=>?_,?_,⟨_,rfl,rfl,rfl⟩,⟨_,rfl,p3⟩,by simp⟩
  .simp at hq
   rcases hq with rfl | rfl
   .exact ha
   .exact p1
  .rw [p4,p2]
   unfold Row.at
   dsimp only
   rw [<-hs];exact cC
  .rw [Val.two,p2,p3]
   constructor
   .rintro (h | ⟨h1,h2,h3⟩)
    .exact .inl h
    .exact .inr ⟨h1,h2,by rw [h3,p5 x h1 h2]⟩
   .rintro (h | ⟨h1,h2,h3⟩)
    .exact .inl h
    .exact .inr ⟨h1,h2,by rw [h3,p5 x h1 h2]⟩
  .unfold total
   simp [p2,p3]
 .have he:r2=a2+s*(r0-a0):=Classical.not_not.mp cC
  rw [if_neg cC]
  have va:∀x,a0<=x->x<=a1->a2+s*(x-a0)=a2+a3*(x-a0):=λx h1 h2=>by
   by_cases e:a0=a1
   .have:x=a0:=by ext h1 h2 e
    rw [this];simp
   .rw [dD e]
  by_cases hj:r0=r1\/r3=s
  .rw [if_pos hj]
   have vr:∀x,r0<=x->x<=r1->a2+s*(x-a0)=r2+r3*(x-r0):=λx h1 h2=>by
    have e1:a2+s*(x-a0)=r2+s*(x-r0):=by rw [he];grind
    rw [e1]
    rcases hj with e | e
    .have:x=r0:=by ext h1 h2 e
     rw [this];simp
    .rw [e]
   refine ⟨λq hq=>?_,trivial,λx c=>?_,?_,⟨_,rfl,rfl,rfl⟩,⟨_,rfl,rfl⟩,by simp⟩
   .simp at hq
    subst hq
    exact ⟨by dsimp only;ext ha hr hn,λz=>by dsimp only at z;ext ha hr hn z⟩
   .rw [Val.one]
    unfold Row.at
    dsimp only
    constructor
    .rintro ⟨h1,h2,h3⟩
     by_cases hx:x<=a1
     .exact .inl ⟨h1,hx,by rw [h3];exact va x h1 hx⟩
     .exact .inr ⟨by ext hn hx,h2,by rw [h3];exact vr x (by ext hn hx) h2⟩
    .rintro (⟨h1,h2,h3⟩ | ⟨h1,h2,h3⟩)
     .exact ⟨h1,by ext hr hn h2,by rw [h3];exact (va x h1 h2).symm⟩
     .exact ⟨by ext ha hn h1,h2,by rw [h3];exact (vr x h1 h2).symm⟩
   .unfold total
    simp
    ext hn
  .rw [if_neg hj]
   have ZO:r0≠r1:=λe=>hj (.inl e)
   have ZN:r3≠s:=λe=>hj (.inr e)
   obtain ⟨p1,p2,p3,p4,p5⟩:=dG (r0+1,r1,r2+r3,r3) (by dsimp only;ext hr ZO)
   dsimp only at p2 p3 p4 p5
   have vp:∀x,Row.at (r0+1,r1,r2+r3,r3) x=r2+r3*(x-r0):=λx=>by unfold Row.at;dsimp only;grind
   refine ⟨λq hq=>?_,⟨⟨by rw [p2];dsimp only;ext,λ_=>⟨by dsimp only;ext ha hn,?_⟩⟩,trivial⟩,λx c=>?_,?_,⟨_,rfl,rfl,rfl⟩,⟨_,rfl,p3⟩,by simp⟩
   .simp at hq
    rcases hq with rfl | rfl
    .exact ⟨by dsimp only;ext ha hn,λz=>by dsimp only at z;ext ha hn z⟩
    .exact p1
   .rw [p4,p2]
    unfold Row.at
    dsimp only
    have:a2+s*(r0+1-a0)=r2+s:=by rw [he];grind
    rw [this]
    ext ZN
   .rw [Val.two,p2,p3]
    unfold Row.at at vp p5 ⊢
    dsimp only at vp p5 ⊢
    constructor
    .rintro (⟨h1,h2,h3⟩ | ⟨h1,h2,h3⟩)
     .by_cases hx:x<=a1
      .exact .inl ⟨h1,hx,by rw [h3];exact va x h1 hx⟩
      .have:x=r0:=by ext hn h2 hx
       exact .inr ⟨by ext hn hx,by ext hr h2,by rw [h3,this,<-he];simp⟩
     .refine .inr ⟨by ext h1,h2,?_⟩
      rw [p5 x h1 h2,vp] at h3
      exact h3
    .rintro (⟨h1,h2,h3⟩ | ⟨h1,h2,h3⟩)
     .exact .inl ⟨h1,by ext hn h2,by rw [h3];exact (va x h1 h2).symm⟩
     .by_cases hx:x=r0
      .exact .inl ⟨by ext ha hn hx,by ext hx,by rw [h3,hx,<-he];simp⟩
      .refine .inr ⟨by ext h1 hx,h2,?_⟩
       rw [p5 x (by ext h1 hx) h2,vp]
       exact h3
   .unfold total
    simp [p2,p3]
    ext hn
theorem b2k{a r:Row}(ha:aD (3*10^140) a/\(-(2*10^140)<=a.2.2.1/\a.2.2.1<=2*10^140))(hr:aD (10^140) r):∀q∈lI a r,aD (3*10^140) q/\(-(2*10^140)<=q.2.2.1/\q.2.2.1<=2*10^140):=by
 unfold aD at *
 have hs:-(3*10^140)<=lE a r/\lE a r<=3*10^140:=by unfold lE;split<;>omega
 have hp:∀z:Row,((fN z).1=z.1/\(fN z).2.1=z.2.1/\(fN z).2.2.1=z.2.2.1/\((fN z).2.2.2=z.2.2.2\/(fN z).2.2.2=0)):=λz=>by unfold fN;split<;>simp
 intro q hq
 unfold lI at hq
 split at hq
 .simp at hq
  rcases hq with rfl | rfl
  .exact ha
  .have:=hp r;ext hr this
 .split at hq
  .simp at hq
   subst hq
   dsimp only
   ext ha hr hs
  .simp at hq
   rcases hq with rfl | rfl
   .dsimp only;ext ha hr hs
   .have:=hp (r.1+1,r.2.1,r.2.2.1+r.2.2.2,r.2.2.2)
    dsimp only at this
    ext hr this
theorem b21{r:Row}(h:r.1<=r.2.1):vK (fN r)/\(fN r).1=r.1/\(fN r).2.1=r.2.1/\(fN r).2.2.1=r.2.2.1/\∀x,r.1<=x->x<=r.2.1->(fN r).at x=r.at x:=by
 unfold fN
 split
 .rename_i e
  refine ⟨⟨by dsimp only;assumption,λ_=>rfl⟩,rfl,rfl,rfl,λx h1 h2=>?_⟩
  have:x=r.1:=by ext e h1 h2
  unfold Row.at
  dsimp only
  rw [this];simp
 .rename_i e
  exact ⟨⟨h,λz=>absurd z e⟩,rfl,rfl,rfl,λ_ _ _=>rfl⟩
structure Laid(pre ms:List Row):Prop where
 canon:Canon ms
 val:∀x c,Val ms x c↔Val pre x c
 total:total ms=total pre
 last:∀a r,ms.getLast?=some a->pre.getLast?=some r->a.2.1=r.2.1
 none:ms=[]↔pre=[]
 len:ms.length<=pre.length
 bd:∀q∈ms,aD (3*10^140) q/\(-(2*10^140)<=q.2.2.1/\q.2.2.1<=2*10^140)
theorem Laid.append{pre ms:List Row}{r:Row}(h:Laid pre ms)(hr:r.1<=r.2.1)(hb:aD (10^140) r)(hf:∀a,ms.getLast?=some a->a.2.1<r.1/\a.2.1+1≠r.1):Laid (pre++[r]) (ms++[fN r]):=by
 obtain ⟨p1,p2,p3,p4,p5⟩:=b21 hr
 refine ⟨⟨λq hq=>?_,h.canon.2.snoc λa ha=>?_⟩,λx c=>?_,?_,λa q ha hq=>?_,by simp,by simp;exact h.len,λq hq=>?_⟩
 .rcases bX.mp hq with hq | hq
  .exact h.canon.1 q hq
  .rw [bT.mp hq];exact p1
 .have:=hf a ha
  exact ⟨by rw [p2];ext this,λz=>by rw [p2] at z;ext this z⟩
 .rw [Val.app,Val.app,h.val x c,Val.one,Val.one,p2,p3]
  constructor
  .rintro (h | ⟨h1,h2,h3⟩)
   .exact .inl h
   .exact .inr ⟨h1,h2,by rw [h3,p5 x h1 h2]⟩
  .rintro (h | ⟨h1,h2,h3⟩)
   .exact .inl h
   .exact .inr ⟨h1,h2,by rw [h3,p5 x h1 h2]⟩
 .rw [vS,vS,h.total]
  unfold My.total
  simp [p2,p3]
 .simp at ha hq
  subst ha hq
  exact p3
 .rcases bX.mp hq with hq | hq
  .exact h.bd q hq
  .rw [bT.mp hq]
   have:(fN r).2.2.2=r.2.2.2\/(fN r).2.2.2=0:=by unfold fN;split<;>simp
   unfold aD at *
   ext hb p2 p3 p4 this
theorem Laid.vJ{pre ms:List Row}{a r:Row}(h:Laid pre (ms++[a]))(hr:r.1<=r.2.1)(hb:aD (10^140) r)(hn:a.2.1+1=r.1):Laid (pre++[r]) (ms++lI a r):=by
 obtain ⟨b1,b2,b3,b4,⟨q1,b5,b6,b7⟩,⟨q2,b8,b9⟩,b10⟩:=Tu (h.canon.1 a (by simp)) hr hn.symm
 have cC:lI a r≠[]:=λz=>by rw [z] at b5;cases b5
 refine ⟨⟨λq hq=>?_,h.canon.2.left.append b2 λc d hc hd=>?_⟩,λx c=>?_,?_,λc q hc hq=>?_,by simp [cC],?_,λq hq=>?_⟩
 .rcases bX.mp hq with hq | hq
  .exact h.canon.1 q (by simp [hq])
  .exact b1 q hq
 .rw [b5] at hd
  cases hd
  have:=h.canon.2.mid c hc
  unfold Lj at this ⊢
  rw [b6,b7]
  exact this
 .rw [Val.app,Val.app,Val.one,b3,<-h.val,Val.app,Val.one,or_assoc]
 .have e:=h.total
  rw [vS] at e
  rw [vS,vS,b4,<-e]
  unfold My.total
  simp
  ext
 .rw [List.getLast?_append,b8] at hc
  simp at hc hq
  subst hc hq
  exact b9
 .have:=h.len
  simp at this ⊢
  ext b10 this
 .rcases bX.mp hq with hq | hq
  .exact h.bd q (by simp [hq])
  .exact b2k (h.bd a (by simp)) hb q hq
theorem Ly{rows:List Row}(ha:dS rows)(hb:∀r∈rows,aD (10^140) r)(hl:rows.length<=8000000){ro:Bool}:∃fs:List Row,qF [.lst ro (rows.map Row.d)]=some (.sh (.tup (fs.map Row.d)))/\Laid rows fs:=by
 have key:Wo (qF [.lst ro (rows.map Row.d)]) λs=>∃fs:List Row,s=.sh (.tup (fs.map Row.d))/\Laid rows fs:=by
  refine v7.mpr ?_
  unfold Ll
  walk_at "vc"
  refine oE Row.d (λpre env=>∃x2 x3,∃ms:List Row,env=[.sh (.lst ro (rows.map Row.d)),.ow (ms.map Row.d),x2,x3]/\Laid pre ms) rows (λpre r post env e h=>?_) (λenv h=>?_)
   ⟨_,_,[],rfl,⟨⟨λ_ z=>(nomatch z),trivial⟩,λ_ _=>eG,rfl,λ_ _ z=>(nomatch z),eG,bA _,λ_ z=>(nomatch z)⟩⟩
  .obtain ⟨x2,x3,ms,rfl,h⟩:=h
   have hr:r∈rows:=by rw [e];simp
   have sJ:=ha.1 r hr
   have DS:=hb r hr
   have hlen:ms.length<=8000000:=dY h.len (dY (by rw [e];simp) hl)
   have fT:∀q,pre.getLast?=some q->q.2.1<r.1:=λq hq=>by
    have:=ha.2
    rw [e] at this
    exact (gm.mp this).2.2 q (KO hq) r cM
   rcases KG ms with rfl | ⟨ns,a,e2⟩
   .walk_at "vc"
    simp only [BH,List.isEmpty_nil,JV,ou,false_implies,true_implies,true_and]
    rw [F0]
    walk_at "vc"
    have:=h.append sJ DS (λ_ z=>nomatch z)
    exact ⟨_,_,[fN r],rfl,this⟩
   .have e2:ms=ns++[a]:=by simpa using e2
    subst e2
    have Az:pre≠[]:=λz=>by have:=h.none.mpr z;simp at this
    obtain ⟨q,hq⟩:∃q,pre.getLast?=some q:=⟨pre.getLast Az,QA Az⟩
    have mJ:=h.last a q (by simp) hq
    have aY:=fT q hq
    walk_at "vc"
    have em:(qg Row.d (ns++[a])).isEmpty=false:=by simp
    rw [em,ic,kM,BH,DL.fF,dh a,dh r]
    walk_at "vc"
    refine ⟨λhe=>?_,λhe=>?_⟩
    .have ed:(qg Row.d ns++[D.tup [D.int a.1,D.int a.2.1,D.int a.2.2.1,D.int a.2.2.2]])[(qg Row.d ns++[D.tup [D.int a.1,D.int a.2.1,D.int a.2.2.1,D.int a.2.2.2]]).length-1]?=some (D.tup [D.int a.1,D.int a.2.1,D.int a.2.2.1,D.int a.2.2.2]):=by simp
     rw [ed,PR]
     walk_at "vc"
     rw [<-dh a,<-dh r,b3S (h.bd a (by simp)).1 DS]
     walk_at "vc"
     have hb2:=(Tu (h.canon.1 a (by simp)) sJ he.symm).2.2.2.2.2.2
     simp at hlen
     refine ⟨by decide,by simp;lia,_,_,ns++lI a r,by rw [ic],h.vJ sJ DS he⟩
    .rw [<-dh a,<-dh r,F0]
     walk_at "vc"
     simp at hlen
     refine ⟨by simp;lia,_,_,ns++[a]++[fN r],by rw [ic,ic];rfl,h.append sJ DS λc hc=>?_⟩
     simp at hc
     subst hc
     exact ⟨by ext mJ aY,he⟩
  .obtain ⟨x2,x3,ms,rfl,h⟩:=h
   walk_at "vc"
   exact ⟨ms,rfl,h⟩
 obtain ⟨s,e,fs,rfl,h⟩:=key
 exact ⟨fs,e,h⟩
theorem Canon.tail{r:Row}{rs:List Row}(h:Canon (r::rs)):Canon rs:=⟨λq hq=>h.1 q (cY _ hq),h.2.tail⟩
structure Met where
 lo:Int
 hi:Int
 a:Row
 b:Row
noncomputable def cu:List Row->List Row->List Met
 | a::as,b::bs=>(if max a.1 b.1<=min a.2.1 b.2.1 then [⟨max a.1 b.1,min a.2.1 b.2.1,a,b⟩] else [])++(if a.2.1<b.2.1 then cu as (b::bs) else cu (a::as) bs)
 | _,_=>[]
termination_by as bs=>as.length+bs.length
theorem CH{bs:List Row}:cu [] bs=[]:=by rw [cu];simp
theorem CG{as:List Row}:cu as []=[]:=by rw [cu];simp
theorem yb{a b:Row}{as bs:List Row}:cu (a::as) (b::bs)=(if max a.1 b.1<=min a.2.1 b.2.1 then [⟨max a.1 b.1,min a.2.1 b.2.1,a,b⟩] else [])++(if a.2.1<b.2.1 then cu as (b::bs) else cu (a::as) bs):=by rw [cu]
theorem oD{m:Met}:∀{n:Nat} {A B:List Row},A.length+B.length<=n->m∈cu A B->m.a∈A/\m.b∈B/\m.lo=max m.a.1 m.b.1/\m.hi=min m.a.2.1 m.b.2.1/\m.lo<=m.hi
 | n,[],B,_,h=>by rw [CH] at h;cases h
 | n,a::as,[],_,h=>by rw [CG] at h;cases h
 | 0,a::as,b::bs,hn,_=>absurd hn (by simp)
 | n+1,a::as,b::bs,hn,h=>by
  rw [yb] at h
  rcases bX.mp h with h | h
  .split at h
   .simp at h;subst h;simp;assumption
   .cases h
  .split at h
   .obtain ⟨h1,h2,h3⟩:=oD (n:=n) (by simp at hn ⊢;ext hn) h
    exact ⟨cY _ h1,h2,h3⟩
   .obtain ⟨h1,h2,h3⟩:=oD (n:=n) (by simp at hn ⊢;ext hn) h
    exact ⟨h1,cY _ h2,h3⟩
theorem Mx:∀{n:Nat} {A B:List Row},A.length+B.length<=n->dS A->dS B->(cu A B).Pairwise λm k=>m.hi<k.lo
 | n,[],B,_,_,_=>by rw [CH];exact .nil
 | n,a::as,[],_,_,_=>by rw [CG];exact .nil
 | 0,a::as,b::bs,hn,_,_=>absurd hn (by simp)
 | n+1,a::as,b::bs,hn,ha,hb=>by
  have ta:dS as:=⟨λq hq=>ha.1 q (cY _ hq),(iC.mp ha.2).2⟩
  have tb:dS bs:=⟨λq hq=>hb.1 q (cY _ hq),(iC.mp hb.2).2⟩
  rw [yb]
  refine gm.mpr ⟨?_,?_,λm hm k hk=>?_⟩
  .split<;>simp
  .split
   .exact Mx (n:=n) (by simp at hn ⊢;ext hn) ta hb
   .exact Mx (n:=n) (by simp at hn ⊢;ext hn) ha tb
  .have em:m.hi=min a.2.1 b.2.1:=by
    split at hm
    .simp at hm;subst hm;rfl
    .cases hm
   split at hk
   .obtain ⟨h1,h2,h3,_⟩:=oD (bA _) hk
    have:=(iC.mp ha.2).1 _ h1
    ext em h3 this
   .obtain ⟨h1,h2,h3,_⟩:=oD (bA _) hk
    have:=(iC.mp hb.2).1 _ h2
    ext em h3 this
theorem Mz{x:Int}{a' b':Row}:∀{n:Nat} {A B:List Row},A.length+B.length<=n->dS A->dS B->a'∈A->b'∈B->a'.1<=x->x<=a'.2.1->b'.1<=x->x<=b'.2.1->∃m∈cu A B,m.a=a'/\m.b=b'/\m.lo<=x/\x<=m.hi
 | n,[],B,_,_,_,h,_,_,_,_,_=>by cases h
 | n,a::as,[],_,_,_,_,h,_,_,_,_=>by cases h
 | 0,a::as,b::bs,hn,_,_,_,_,_,_,_,_=>absurd hn (by simp)
 | n+1,a::as,b::bs,hn,ha,hb,h1,h2,x1,x2,x3,x4=>by
  have ta:dS as:=⟨λq hq=>ha.1 q (cY _ hq),(iC.mp ha.2).2⟩
  have tb:dS bs:=⟨λq hq=>hb.1 q (cY _ hq),(iC.mp hb.2).2⟩
  rw [yb]
  by_cases hh:a'=a/\b'=b
  .obtain ⟨rfl,rfl⟩:=hh
   refine ⟨⟨max a'.1 b'.1,min a'.2.1 b'.2.1,a',b'⟩,?_,rfl,rfl,by dsimp only;ext x1 x3,by dsimp only;ext x2 x4⟩
   rw [if_pos (by ext x1 x2 x3 x4)];simp
  .have rest:∃m∈(if a.2.1<b.2.1 then cu as (b::bs) else cu (a::as) bs),m.a=a'/\m.b=b'/\m.lo<=x/\x<=m.hi:=by
    split
    .rename_i aY
     have rn:a'∈as:=by
      rcases bI.mp h1 with e | e
      .rcases bI.mp h2 with e2 | e2
       .exact absurd ⟨e,e2⟩ hh
       .have:=(iC.mp hb.2).1 _ e2
        subst e;ext _ x2 x3 this aY
      .exact e
     exact Mz (n:=n) (by simp at hn ⊢;ext hn) ta hb rn h2 x1 x2 x3 x4
    .rename_i aY
     have Ba:b'∈bs:=by
      rcases bI.mp h2 with e | e
      .rcases bI.mp h1 with e2 | e2
       .exact absurd ⟨e2,e⟩ hh
       .have:=(iC.mp ha.2).1 _ e2
        subst e;ext _ x1 x4 this aY
      .exact e
     exact Mz (n:=n) (by simp at hn ⊢;ext hn) ha tb h1 Ba x1 x2 x3 x4
   obtain ⟨m,hm,k⟩:=rest
   exact ⟨m,ie _ hm,k⟩
theorem MA:∀{n:Nat} {A B:List Row},A.length+B.length<=n->(cu A B).length<=A.length+B.length
 | n,[],B,_=>by rw [CH];simp
 | n,a::as,[],_=>by rw [CG];simp
 | 0,a::as,b::bs,hn=>absurd hn (by simp)
 | n+1,a::as,b::bs,hn=>by
  rw [yb,dq]
  have h1:(if max a.1 b.1<=min a.2.1 b.2.1 then [(⟨max a.1 b.1,min a.2.1 b.2.1,a,b⟩:Met)] else []).length<=1:=by split<;>simp
  by_cases hc:a.2.1<b.2.1
  .have:=MA (n:=n) (A:=as) (B:=b::bs) (by simp at hn ⊢;ext hn)
   rw [if_pos hc]
   simp at this ⊢;ext h1 this
  .have:=MA (n:=n) (A:=a::as) (B:=bs) (by simp at hn ⊢;ext hn)
   rw [if_neg hc]
   simp at this ⊢;ext h1 this
theorem b5X{rs:List Row}(h:dS rs){x:Int}{o:Option Int}(k:∀c,Val rs x c↔o=some c):look rs x=o:=by
 cases o with
 | some c=>exact (qE h).mpr ((k c).mpr rfl)
 | none =>
  cases e:look rs x with
  | none=>rfl
  | some c=>exact nomatch (k c).mp ((qE h).mp e)
theorem Mr{rs:List Row}(h:dS rs){x c:Int}:Val rs x c↔look rs x=some c:=(qE h).symm
noncomputable def tF(r:Row)(x:Int):D:=.tup [.int (r.at x),.int r.2.2.2]
theorem Rf(r:Row)(x:Int):tF r x=.tup [.int (r.at x),.int r.2.2.2]:=rfl
noncomputable def Met.d(m:Met):D:=.tup [.int m.lo,.int m.hi,tF m.a m.lo,tF m.b m.lo]
theorem zR(m:Met):Met.d m=.tup [.int m.lo,.int m.hi,tF m.a m.lo,tF m.b m.lo]:=rfl
theorem RC{r:Row}{x:Int}(h1:-(10^250)<=r.2.2.2)(h2:r.2.2.2<=10^250)(h3:-(10^250)<=x-r.1)(h4:x-r.1<=10^250):yh [r.d,.int x]=some (.sh (tF r x)):=by
 refine Wo.eq (kT.mpr ?_)
 unfold Nm
 walk_at "vc"
 rw [FZ h1 h2 h3 h4,dh]
 walk_at "vc"
 rfl
theorem Br{A B:List Row}(ha:∀r∈A,aD (10^200) r)(hb:∀r∈B,aD (10^200) r)(l1:A.length<=400000)(l2:B.length<=400000):Cu [.tup (A.map Row.d),.tup (B.map Row.d)]=some (.ow ((cu A B).map Met.d)):=by
 refine Wo.eq (C7.mpr ?_)
 unfold K3
 walk_at "v1"
 rw [Mf]
 refine CQ (λn env=>∃x5 x6 x7 x8,∃(f s:Nat) (ms:List Met),env=[.sh (.tup (A.map Row.d)),.sh (.tup (B.map Row.d)),.ow (ms.map Met.d),.sh (.int f),.sh (.int s),x5,x6,x7,x8]/\n=(A.length-f)+(B.length-s)/\f<=A.length/\s<=B.length/\ms.length<=f+s/\ms++cu (A.drop f) (B.drop s)=cu A B) (λn env h=>?_) _ (A.length+B.length) (show A.length+B.length<1000000 by ext l1 l2) ⟨_,_,_,_,0,0,[],rfl,by simp,by simp,by simp,by simp,rfl⟩
 obtain ⟨x5,x6,x7,x8,f,s,ms,rfl,rfl,hf,hs,sL,e⟩:=h
 walk_at "v1"
 rw [cj,cj]
 refine ⟨λh1=>⟨λh2=>?_,λh2=>?_⟩,λh1=>?_⟩
 .have rn:f<A.length:=by ext h1
  have Ba:s<B.length:=by ext h2
  have d1:A.drop f=A[f]::A.drop (f+1):=jT rn
  have d2:B.drop s=B[s]::B.drop (s+1):=jT Ba
  have b1:=ha A[f] (oq rn)
  have b2:=hb B[s] (oq Ba)
  rw [ME rn,ME Ba]
  generalize A[f]=a at *
  generalize B[s]=b at *
  rw [d1,d2,yb] at e
  unfold aD at b1 b2
  have ea:=RC (r:=a) (x:=max a.1 b.1) (by ext b1) (by ext b1) (by ext) (by ext b1 b2)
  have eb:=RC (r:=b) (x:=max a.1 b.1) (by ext b2) (by ext b2) (by ext) (by ext b1 b2)
  rw [dh] at ea eb
  rw [dh,dh]
  walk_at "v1"
  rw [a2h]
  walk_at "v1"
  rw [ea,eb]
  walk_at "v1"
  rw [cj]
  refine ⟨λhc=>⟨by ext l1 l2 sL h1 h2,?_⟩,λhc=>?_⟩
  .rw [if_pos hc] at e
   rw [a2h]
   walk_at "vc"
   refine ⟨λh3=>?_,λh3=>?_⟩
   .rw [if_pos h3,<-d2] at e
    exact ⟨(A.length-(f+1))+(B.length-s),by ext h1,_,_,_,_,f+1,s,ms++[⟨max a.1 b.1,min a.2.1 b.2.1,a,b⟩],by rw [ic];rfl,rfl,by assumption,hs,by simp;ext sL,by rw [fM];exact e⟩
   .rw [if_neg h3,<-d1] at e
    exact ⟨(A.length-f)+(B.length-(s+1)),by ext h2,_,_,_,_,f,s+1,ms++[⟨max a.1 b.1,min a.2.1 b.2.1,a,b⟩],by rw [ic];rfl,rfl,hf,by assumption,by simp;ext sL,by rw [fM];exact e⟩
  .rw [if_neg hc,BS] at e
   rw [a2h]
   walk_at "vc"
   refine ⟨λh3=>?_,λh3=>?_⟩
   .rw [if_pos h3,<-d2] at e
    exact ⟨(A.length-(f+1))+(B.length-s),by ext h1,_,_,_,_,f+1,s,ms,rfl,rfl,‹_›,hs,by ext sL,e⟩
   .rw [if_neg h3,<-d1] at e
    exact ⟨(A.length-f)+(B.length-(s+1)),by ext h2,_,_,_,_,f,s+1,ms,rfl,rfl,hf,‹_›,by ext sL,e⟩
 .have:B.drop s=[]:=oi (by ext h2)
  rw [this,CG,mU] at e
  rw [e]
 .have:A.drop f=[]:=oi (by ext h1)
  rw [this,CH,mU] at e
  rw [e]
noncomputable abbrev Span:=Int×Int
def gC(ss:List Span)(x:Int):Prop:=∃s∈ss,s.1<=x/\x<=s.2
noncomputable def Span.d(s:Span):D:=.tup [.int s.1,.int s.2]
theorem LB(s:Span):Span.d s=.tup [.int s.1,.int s.2]:=rfl
structure br(pre:List Row)(ss:List Span):Prop where
 ok:∀s∈ss,s.1<=s.2
 apart:ss.Pairwise λa b=>a.2+1<b.1
 u9:∀x,gC ss x↔∃r∈pre,r.1<=x/\x<=r.2.1
 last:ss.getLast?.map (·.2)=pre.getLast?.map (·.2.1)
 head:ss.head?.map (·.1)=pre.head?.map (·.1)
 sum:(ss.map λs=>s.2-s.1+1).sum=total pre
 sub:∀r∈pre,∃s∈ss,s.1<=r.1/\r.2.1<=s.2
 len:ss.length<=pre.length
 ends:∀s∈ss,(∃r∈pre,r.1=s.1)/\∃r∈pre,r.2.1=s.2
theorem br.nil:br [] []:=⟨λ_ z=>(nomatch z),.nil,λx=>⟨λ⟨_,z,_⟩=>(nomatch z),λ⟨_,z,_⟩=>(nomatch z)⟩,rfl,rfl,rfl,λ_ z=>(nomatch z),bA _,λ_ z=>(nomatch z)⟩
theorem gC.app{a b:List Span}{x:Int}:gC (a++b) x↔gC a x\/gC b x:=by
 unfold gC
 constructor
 .rintro ⟨s,hs,h⟩
  rcases bX.mp hs with hs | hs
  .exact .inl ⟨s,hs,h⟩
  .exact .inr ⟨s,hs,h⟩
 .rintro (⟨s,hs,h⟩ | ⟨s,hs,h⟩)
  .exact ⟨s,iR _ hs,h⟩
  .exact ⟨s,ie _ hs,h⟩
theorem gC.one{s:Span}{x:Int}:gC [s] x↔s.1<=x/\x<=s.2:=by unfold gC;simp
theorem RY{pre:List Row}{r:Row}{x:Int}:(∃q∈pre++[r],q.1<=x/\x<=q.2.1)↔(∃q∈pre,q.1<=x/\x<=q.2.1)\/(r.1<=x/\x<=r.2.1):=by
 constructor
 .rintro ⟨q,hq,h⟩
  rcases bX.mp hq with hq | hq
  .exact .inl ⟨q,hq,h⟩
  .rw [bT.mp hq] at h;exact .inr h
 .rintro (⟨q,hq,h⟩ | h)
  .exact ⟨q,iR _ hq,h⟩
  .exact ⟨r,by simp,h⟩
theorem br.more{pre:List Row}{ss:List Span}{r:Row}(h:br pre ss)(hr:r.1<=r.2.1)(hf:∀a,ss.getLast?=some a->a.2+1<r.1):br (pre++[r]) (ss++[(r.1,r.2.1)]):=by
 have hb:∀s∈ss,s.2+1<r.1:=λs hs=>by
  rcases KG ss with rfl | ⟨ts,t,e⟩
  .cases hs
  .have e:ss=ts++[t]:=by simpa using e
   subst e
   have h1:=hf t (by simp)
   rcases bX.mp hs with hs | hs
   .have:=(gm.mp h.apart).2.2 s hs t (by simp)
    have:=h.ok t (by simp)
    lia
   .rw [bT.mp hs];exact h1
 refine ⟨λs hs=>?_,gm.mpr ⟨h.apart,qj _ _,λa ha b mM=>?_⟩,λx=>?_,by simp,?_,?_,λq hq=>?_,by have:=h.len;simp;assumption,λs hs=>?_⟩
 .rcases bX.mp hs with hs | hs
  .exact h.ok s hs
  .rw [bT.mp hs];exact hr
 .rw [bT.mp mM];exact hb a ha
 .rw [gC.app,gC.one,RY,h.u9]
 .have:=h.head
  cases ss with
  | nil=>cases pre with
   | nil=>rfl
   | cons q qs=>simp at this
  | cons s ts=>cases pre with
   | nil=>simp at this
   | cons q qs=>simpa using this
 .rw [ic,Er,h.sum,vS];unfold total;simp
 .rcases bX.mp hq with hq | hq
  .obtain ⟨s,hs,k⟩:=h.sub q hq
   exact ⟨s,iR _ hs,k⟩
  .rw [bT.mp hq];exact ⟨_,ie _ cM,eQ _,eQ _⟩
 .rcases bX.mp hs with hs | hs
  .obtain ⟨⟨a,ha,e1⟩,⟨b,hb,e2⟩⟩:=h.ends s hs
   exact ⟨⟨a,iR _ ha,e1⟩,⟨b,iR _ hb,e2⟩⟩
  .rw [bT.mp hs];exact ⟨⟨r,by simp,rfl⟩,⟨r,by simp,rfl⟩⟩
theorem br.glue{pre:List Row}{ss:List Span}{s:Span}{r:Row}(h:br pre (ss++[s]))(hr:r.1<=r.2.1)(hn:s.2+1=r.1):br (pre++[r]) (ss++[(s.1,r.2.1)]):=by
 have hs:=h.ok s (by simp)
 have hp:=(gm.mp h.apart)
 refine ⟨λt ht=>?_,gm.mpr ⟨hp.1,qj _ _,λa ha b mM=>?_⟩,λx=>?_,by simp,?_,?_,λq hq=>?_,by have:=h.len;simp at this ⊢;ext this,λt ht=>?_⟩
 .rcases bX.mp ht with ht | ht
  .exact h.ok t (by simp [ht])
  .rw [bT.mp ht];show s.1<=r.2.1;ext hr hn hs
 .rw [bT.mp mM];exact hp.2.2 a ha s (by simp)
 .have:=h.u9 x
  rw [gC.app,gC.one] at this ⊢
  rw [RY,<-this]
  dsimp only
  constructor
  .rintro (h | h)
   .exact .inl (.inl h)
   .by_cases hx:x<=s.2
    .exact .inl (.inr ⟨h.1,hx⟩)
    .exact .inr ⟨by ext hn hx,h.2⟩
  .rintro ((h | h) | h)
   .exact .inl h
   .exact .inr ⟨h.1,by ext hr hn h⟩
   .exact .inr ⟨by ext hn hs h,h.2⟩
 .have:=h.head
  cases pre with
  | nil=>cases ss<;>simp at this
  | cons q qs=>cases ss with
   | nil=>simpa using this
   | cons t ts=>simpa using this
 .have:=h.sum
  rw [ic,Er] at this ⊢
  rw [vS,<-this]
  unfold total
  simp
  ext hn
 .rcases bX.mp hq with hq | hq
  .obtain ⟨t,ht,k1,k2⟩:=h.sub q hq
   rcases bX.mp ht with ht | ht
   .exact ⟨t,iR _ ht,k1,k2⟩
   .rw [bT.mp ht] at k1 k2
    exact ⟨_,ie _ cM,k1,by dsimp only;ext hr hn k2⟩
  .rw [bT.mp hq];exact ⟨_,ie _ cM,by dsimp only;ext hn hs,eQ _⟩
 .rcases bX.mp ht with ht | ht
  .obtain ⟨⟨a,ha,e1⟩,⟨b,hb,e2⟩⟩:=h.ends t (by simp [ht])
   exact ⟨⟨a,iR _ ha,e1⟩,⟨b,iR _ hb,e2⟩⟩
  .rw [bT.mp ht]
   obtain ⟨⟨a,ha,e1⟩,_⟩:=h.ends s (by simp)
   exact ⟨⟨a,iR _ ha,e1⟩,⟨r,by simp,rfl⟩⟩
theorem RX{rs:List Row}(ha:dS rs)(hl:rs.length<=8000000):∃ss:List Span,vW [.tup (rs.map Row.d)]=some (.sh (.tup (ss.map Span.d)))/\br rs ss:=by
 have key:Wo (vW [.tup (rs.map Row.d)]) λs=>∃ss:List Span,s=.sh (.tup (ss.map Span.d))/\br rs ss:=by
  refine mj.mpr ?_
  unfold M8
  walk_at "vc"
  refine oE Row.d (λpre env=>∃x2 x3,∃ss:List Span,env=[.sh (.tup (rs.map Row.d)),.ow (ss.map Span.d),x2,x3]/\br pre ss) rs (λpre r post env e h=>?_) (λenv h=>?_) ⟨_,_,[],rfl,br.nil⟩
  .obtain ⟨x2,x3,ss,rfl,h⟩:=h
   have hr:r∈rs:=by rw [e];simp
   have sJ:=ha.1 r hr
   have hlen:ss.length<=8000000:=dY h.len (dY (by rw [e];simp) hl)
   rcases KG ss with rfl | ⟨ts,a,e2⟩
   .rw [dh r]
    walk_at "vc"
    simp only [BH,List.isEmpty_nil,JV,ou,false_implies,true_implies,true_and]
    walk_at "vc"
    exact ⟨_,_,[(r.1,r.2.1)],rfl,h.more sJ (λ_ z=>nomatch z)⟩
   .have e2:ss=ts++[a]:=by simpa using e2
    subst e2
    have aY:a.2<r.1:=by
     have oZ:=h.last
     cases hq:pre.getLast? with
     | none=>rw [hq] at oZ;simp at oZ
     | some q =>
      rw [hq] at oZ
      simp at oZ
      have:=ha.2
      rw [e] at this
      have:=(gm.mp this).2.2 q (KO hq) r cM
      ext oZ this
    walk_at "vc"
    have em:(qg Span.d (ts++[a])).isEmpty=false:=by simp
    rw [em,ic,kM,BH,DL.fF,LB a,dh r]
    walk_at "vc"
    simp at hlen
    refine ⟨λhe=>?_,λhe=>?_⟩
    .have ed:(qg Span.d ts++[D.tup [D.int a.1,D.int a.2]])[(qg Span.d ts++[D.tup [D.int a.1,D.int a.2]]).length-1]?=some (D.tup [D.int a.1,D.int a.2]):=by simp
     rw [ed,PR]
     walk_at "vc"
     refine ⟨by decide,by simp;exact Nat.lt_of_le_of_lt ‹_› (by decide),_,_,ts++[(a.1,r.2.1)],by rw [ic];rfl,h.glue sJ he⟩
    .refine ⟨by simp;lia,_,_,ts++[a]++[(r.1,r.2.1)],by rw [ic,ic];rfl,h.more sJ λc hc=>?_⟩
     simp at hc
     subst hc
     ext aY he
  .obtain ⟨x2,x3,ss,rfl,h⟩:=h
   walk_at "vc"
   exact ⟨ss,rfl,h⟩
 obtain ⟨s,e,fs,rfl,h⟩:=key
 exact ⟨fs,e,h⟩
noncomputable def iO(r:Row)(lo hi:Int):Row:=(lo,hi,r.at lo,r.2.2.2)
theorem Cy{r:Row}{lo hi x:Int}:(iO r lo hi).at x=r.at x:=by unfold iO Row.at;dsimp only;grind
def pO(ss:List Span):Prop:=(∀s∈ss,s.1<=s.2)/\ss.Pairwise λa b=>a.2<b.1
noncomputable def mW(r:Row)(low:Int):List Row:=if low<=r.2.1 then [iO r low r.2.1] else []
noncomputable def nK(r:Row)(low to:Int):List Row:=if low<to then [iO r low (to-1)] else []
noncomputable def cN(r:Row)(low:Int):List Span->List Row×List Span
 | []=>(mW r low,[])
 | s::ss=>if s.1<=r.2.1 then
   (if s.2>r.2.1 then (nK r low s.1++mW r (max low (s.2+1)),s::ss) else (nK r low s.1++(cN r (max low (s.2+1)) ss).1,(cN r (max low (s.2+1)) ss).2))
  else (mW r low,s::ss)
noncomputable def dj:List Row->List Span->List Row
 | [],_=>[]
 | r::rs,ss=>(cN r r.1 ss).1++dj rs (cN r r.1 ss).2
theorem Ua{r:Row}:∀{ss:List Span} {low:Int},r.1<=low->pO ss ->
  (∀q∈(cN r low ss).1,low<=q.1/\q.1<=q.2.1/\q.2.1<=r.2.1/\∀x,q.at x=r.at x)/\((cN r low ss).1.Pairwise λa b=>a.2.1<b.1) /\
  (∀x,(∃q∈(cN r low ss).1,q.1<=x/\x<=q.2.1)↔low<=x/\x<=r.2.1/\¬gC ss x)/\(cN r low ss).2 <:+ ss/\(∀x,r.2.1<x->(gC ss x↔gC (cN r low ss).2 x))/\(cN r low ss).1.length+(cN r low ss).2.length<=ss.length+1
 | [],low,hl,_=>by
  unfold cN mW
  dsimp only
  have hI:∀x,¬gC [] x:=λx ⟨s,h,_⟩=>nomatch h
  split
  .refine ⟨λq hq=>?_,qj _ _,λx=>?_,EF _,λ_ _=>eG,by simp⟩
   .simp at hq;subst hq;exact ⟨eQ _,by unfold iO;dsimp only;assumption,eQ _,λx=>Cy⟩
   .simp [iO,hI]
  .refine ⟨λq hq=>(nomatch hq),.nil,λx=>?_,EF _,λ_ _=>eG,by simp⟩
   simp;lia
 | s::ss,low,hl,hs=>by
  have Ax:=hs.1 s cM
  have ht:pO ss:=⟨λq hq=>hs.1 q (cY _ hq),(iC.mp hs.2).2⟩
  have hp:=(iC.mp hs.2).1
  have hI:∀x,gC (s::ss) x↔(s.1<=x/\x<=s.2)\/gC ss x:=λx=>by unfold gC;simp
  have o5:∀x,x<=s.2->¬gC ss x:=λx hx ⟨t,Zs,h1,h2⟩=>by have:=hp t Zs;ext hx h1 this
  have lp:∀lo,(∀q∈mW r lo,q.1=lo/\q.2.1=r.2.1/\lo<=r.2.1/\∀x,q.at x=r.at x)/\(mW r lo).length<=1/\(∀x,(∃q∈mW r lo,q.1<=x/\x<=q.2.1)↔lo<=x/\x<=r.2.1):=λlo=>by
   unfold mW
   split
   .refine ⟨λq hq=>?_,by simp,λx=>by simp [iO]⟩
    simp at hq;subst hq;exact ⟨rfl,rfl,by assumption,λx=>Cy⟩
   .exact ⟨λq hq=>(nomatch hq),by simp,λx=>by simp;lia⟩
  have fp:(∀q∈nK r low s.1,q.1=low/\q.2.1=s.1-1/\low<s.1/\∀x,q.at x=r.at x)/\(nK r low s.1).length<=1/\(∀x,(∃q∈nK r low s.1,q.1<=x/\x<=q.2.1)↔low<=x/\x<s.1):=by
   unfold nK
   split
   .refine ⟨λq hq=>?_,by simp,λx=>by simp [iO];ext⟩
    simp at hq;subst hq;exact ⟨rfl,rfl,by assumption,λx=>Cy⟩
   .exact ⟨λq hq=>(nomatch hq),by simp,λx=>by simp;lia⟩
  have pw:∀(L:List Row),L.length<=1->L.Pairwise λa b=>a.2.1<b.1:=λL hL=>by
   match L,hL with
   | [],_=>exact .nil
   | [_],_=>exact qj _ _
  obtain ⟨f1,f2,f3⟩:=fp
  have app:∀(L M:List Row) x,(∃q∈L++M,q.1<=x/\x<=q.2.1)↔(∃q∈L,q.1<=x/\x<=q.2.1)\/(∃q∈M,q.1<=x/\x<=q.2.1):=λL M x=>by
   constructor
   .rintro ⟨q,hq,k⟩
    rcases bX.mp hq with h | h
    .exact .inl ⟨q,h,k⟩
    .exact .inr ⟨q,h,k⟩
   .rintro (⟨q,hq,k⟩ | ⟨q,hq,k⟩)
    .exact ⟨q,iR _ hq,k⟩
    .exact ⟨q,ie _ hq,k⟩
  unfold cN
  by_cases c1:s.1<=r.2.1
  .rw [if_pos c1]
   by_cases c2:s.2>r.2.1
   .rw [if_pos c2]
    dsimp only
    obtain ⟨l1,l2,l3⟩:=lp (max low (s.2+1))
    refine ⟨λq hq=>?_,gm.mpr ⟨pw _ f2,pw _ l2,λa ha b hb=>?_⟩,λx=>?_,EF _,λ_ _=>eG,?_⟩
    .rcases bX.mp hq with h | h
     .obtain ⟨e1,e2,e3,e4⟩:=f1 q h;exact ⟨by ext e1,by ext e1 e2 e3,by ext c1 e2,e4⟩
     .obtain ⟨e1,e2,e3,e4⟩:=l1 q h;ext _ c2 e3
    .obtain ⟨e1,e2,e3,e4⟩:=l1 b hb;ext c2 e3
    .rw [app,f3,l3,hI]
     have:=o5 x
     constructor
     .rintro (h | h)
      .exact ⟨by ext h,by ext c1 h,λz=>z.elim (by ext h) (this (by ext c1 c2 h))⟩
      .ext _ c2 h
     .intro ⟨h1,h2,h3⟩
      by_cases hx:x<s.1
      .exact .inl ⟨h1,hx⟩
      .exact absurd (.inl ⟨by ext hx,by ext c2 h2⟩) h3
    .have e:((nK r low s.1++mW r (max low (s.2+1)))).length<=1:=by
      have:mW r (max low (s.2+1))=[]:=by unfold mW;rw [if_neg (by ext c2)]
      rw [this];simpa using f2
     simp at e ⊢;ext e
   .rw [if_neg c2]
    dsimp only
    obtain ⟨i1,i2,i3,i4,i5,i6⟩:=Ua (r:=r) (ss:=ss) (low:=max low (s.2+1)) (by ext hl) ht
    refine ⟨λq hq=>?_,gm.mpr ⟨pw _ f2,i2,λa ha b hb=>?_⟩,λx=>?_,i4.trans (List.suffix_cons _ _),λx hx=>?_,?_⟩
    .rcases bX.mp hq with h | h
     .obtain ⟨e1,e2,e3,e4⟩:=f1 q h;exact ⟨by ext e1,by ext e1 e2 e3,by ext c1 e2,e4⟩
     .obtain ⟨e1,e2,e3,e4⟩:=i1 q h;exact ⟨by ext e1,e2,e3,e4⟩
    .obtain ⟨e1,e2,e3,e4⟩:=f1 a ha;have g1:=(i1 b hb).1;show a.2.1<b.1;ext Ax e2 g1
    .rw [app,f3,i3,hI]
     have:=o5 x
     constructor
     .rintro (h | ⟨h1,h2,h3⟩)
      .exact ⟨by ext h,by ext c1 h,λz=>z.elim (by ext h) (this (by ext Ax h))⟩
      .exact ⟨by ext h1,h2,λz=>z.elim (by ext h1) h3⟩
     .intro ⟨h1,h2,h3⟩
      by_cases hx:x<s.1
      .exact .inl ⟨h1,hx⟩
      .have h4:¬x<=s.2:=λz=>h3 (.inl ⟨by ext hx,z⟩)
       exact .inr ⟨by ext h1 h4,h2,λz=>h3 (.inr z)⟩
    .rw [hI,<-i5 x hx]
     exact ⟨λz=>z.elim (by lia) id,.inr⟩
    .simp at i6 ⊢;ext f2 i6
  .rw [if_neg c1]
   dsimp only
   obtain ⟨l1,l2,l3⟩:=lp low
   refine ⟨λq hq=>?_,pw _ l2,λx=>?_,EF _,λ_ _=>eG,by simp;ext l2⟩
   .obtain ⟨e1,e2,e3,e4⟩:=l1 q hq;exact ⟨by ext e1,by ext e1 e2 e3,by ext e2,e4⟩
   .rw [l3,hI]
    have:=o5 x
    constructor
    .intro h
     exact ⟨h.1,h.2,λz=>z.elim (by ext c1 h) (this (by ext Ax c1 h))⟩
    .intro h;exact ⟨h.1,h.2.1⟩
theorem MO:∀{rs:List Row} {ss:List Span},dS rs->pO ss->dS (dj rs ss)/\(∀q∈dj rs ss,∃r∈rs,r.1<=q.1/\q.2.1<=r.2.1/\q.2.2.1=r.at q.1/\q.2.2.2=r.2.2.2)/\(∀x c,Val (dj rs ss) x c↔Val rs x c/\¬gC ss x)/\(dj rs ss).length<=rs.length+ss.length
 | [],ss,_,_=>⟨⟨λ_ z=>(nomatch z),.nil⟩,λ_ z=>(nomatch z),λx c=>⟨λ⟨_,z,_⟩=>(nomatch z),λ⟨⟨_,z,_⟩,_⟩=>(nomatch z)⟩,by simp [dj]⟩
 | r::rs,ss,ha,hs=>by
  have ta:dS rs:=⟨λq hq=>ha.1 q (cY _ hq),(iC.mp ha.2).2⟩
  have hp:=(iC.mp ha.2).1
  obtain ⟨i1,i2,i3,i4,i5,i6⟩:=Ua (r:=r) (ss:=ss) (eQ _) hs
  unfold dj
  generalize (cN r r.1 ss).1=P at *
  generalize (cN r r.1 ss).2=tt at *
  have nY:pO tt:=⟨λq hq=>hs.1 q (i4.subset hq),hs.2.sublist i4.sublist⟩
  obtain ⟨j1,j2,j3,j4⟩:=MO ta nY
  refine ⟨⟨λq hq=>?_,gm.mpr ⟨i2,j1.2,λa ZY b hb=>?_⟩⟩,λq hq=>?_,λx c=>?_,?_⟩
  .rcases bX.mp hq with h | h
   .exact (i1 q h).2.1
   .exact j1.1 q h
  .obtain ⟨q,hq,k1,k2,_⟩:=j2 b hb
   have:=hp q hq
   have:=i1 a ZY
   show a.2.1<b.1
   lia
  .rcases bX.mp hq with h | h
   .obtain ⟨k1,k2,k3,k4⟩:=i1 q h
    refine ⟨r,cM,k1,k3,?_,?_⟩
    .rw [<-k4];unfold Row.at;rw [Int.sub_self,Int.mul_zero,Int.add_zero]
    .have e1:=k4 q.1
     have e2:=k4 (q.1+1)
     unfold Row.at at e1 e2
     grind
   .obtain ⟨r',wG,k⟩:=j2 q h
    exact ⟨r',cY _ wG,k⟩
  .rw [Val.app,j3]
   have e0:Val (r::rs) x c↔(r.1<=x/\x<=r.2.1/\c=r.at x)\/Val rs x c:=by unfold Val;simp
   have eP:Val P x c↔(r.1<=x/\x<=r.2.1/\¬gC ss x)/\c=r.at x:=by
    rw [<-i3 x]
    constructor
    .rintro ⟨q,hq,h1,h2,h3⟩
     exact ⟨⟨q,hq,h1,h2⟩,by rw [h3,(i1 q hq).2.2.2]⟩
    .rintro ⟨⟨q,hq,h1,h2⟩,h3⟩
     exact ⟨q,hq,h1,h2,by rw [h3,(i1 q hq).2.2.2]⟩
   rw [eP,e0]
   have Ac:Val rs x c->r.2.1<x:=λ⟨q,hq,h1,_⟩=>by have:=hp q hq;ext h1 this
   constructor
   .rintro (⟨⟨h1,h2,h3⟩,h4⟩ | ⟨h1,h2⟩)
    .exact ⟨.inl ⟨h1,h2,h4⟩,h3⟩
    .exact ⟨.inr h1,λz=>h2 ((i5 x (Ac h1)).mp z)⟩
   .rintro ⟨⟨h1,h2,h3⟩ | h1,h4⟩
    .exact .inl ⟨⟨h1,h2,h4⟩,h3⟩
    .exact .inr ⟨h1,λz=>h4 ((i5 x (Ac h1)).mpr z)⟩
  .simp at i6 j4 ⊢;ext i6 j4
theorem QM{r:Row}{lo hi:Int}(h1:-(10^250)<=r.2.2.2)(h2:r.2.2.2<=10^250)(h3:-(10^250)<=lo-r.1)(h4:lo-r.1<=10^250):xR [r.d,.int lo,.int hi]=some (.sh (iO r lo hi).d):=by
 refine Wo.eq (C9.mpr ?_)
 unfold K1
 walk_at "vc"
 rw [FZ h1 h2 h3 h4,dh]
 walk_at "vc"
 rfl
theorem b3Z{ss:List Span}{n:Nat}(h:n<ss.length):eH (ss.map Span.d) (n:Int)=some (Span.d ss[n]):=by
 rw [DL.c7];simp [h]
def GI(s:Span):Prop:=(-(10^200)<=s.1/\s.1<=10^200)/\(-(10^200)<=s.2/\s.2<=10^200)
theorem Ue{rs:List Row}{ss:List Span}(hb:∀r∈rs,aD (10^200) r)(hs:∀s∈ss,GI s)(l1:rs.length<=400000)(l2:ss.length<=400000):yk [.tup (rs.map Row.d),.tup (ss.map Span.d)]=some (.ow ((dj rs ss).map Row.d)):=by
 refine Wo.eq (nQ.mpr ?_)
 unfold MU
 walk_at "v1"
 refine oE Row.d (λpre env=>∃x4 x5,∃(done post:List Row) (pl:Nat),env=[.sh (.tup (rs.map Row.d)),.sh (.tup (ss.map Span.d)),.ow (done.map Row.d),.sh (.int pl),x4,x5]/\rs=pre++post/\pl<=ss.length/\done.length<=2*pre.length+pl/\done++dj post (ss.drop pl)=dj rs ss) rs (λpre r post env e h=>?_) (λenv h=>?_) ⟨_,_,[],rs,0,rfl,rfl,by simp,by simp,rfl⟩
 .obtain ⟨x4,x5,done,oO,pl,rfl,e0,dG,wL,jA⟩:=h
  obtain rfl:oO=r::post:=EZ (e0.symm.trans e)
  have fT:pre.length<=400000:=by have:=congrArg wR e;simp at this;ext l1 this
  have qc:=hb r (by rw [e];simp)
  unfold aD at qc
  rw [dh r]
  walk_at "v1"
  rw [Mf,<-dh r]
  refine Wo.mono (P:=λy=>y.1=.nx/\∃(d3:List Row) (p3:Nat) (lw:Int),y.2=[.sh (.tup (rs.map Row.d)),.sh (.tup (ss.map Span.d)),.ow (d3.map Row.d),.sh (.int p3),.sh r.d,.sh (.int lw)]/\p3<=ss.length/\d3.length<=2*pre.length+p3+1/\(-(10^200)<=lw/\lw<=10^200+1)/\d3++mW r lw=done++(cN r r.1 (ss.drop pl)).1/\ss.drop p3=(cN r r.1 (ss.drop pl)).2) ?_ (λy hy=>?_)
  .refine CQ (λn env=>∃(d2:List Row) (p2:Nat) (lw:Int),env=[.sh (.tup (rs.map Row.d)),.sh (.tup (ss.map Span.d)),.ow (d2.map Row.d),.sh (.int p2),.sh r.d,.sh (.int lw)]/\n=ss.length-p2/\p2<=ss.length/\d2.length<=2*pre.length+p2/\(-(10^200)<=lw/\lw<=10^200+1)/\d2++(cN r lw (ss.drop p2)).1=done++(cN r r.1 (ss.drop pl)).1/\(cN r lw (ss.drop p2)).2=(cN r r.1 (ss.drop pl)).2) (λn env h=>?_) _ (ss.length-pl) (show ss.length-pl<1000000 by ext l2) ⟨done,pl,r.1,rfl,rfl,dG,wL,by ext qc,rfl,rfl⟩
   obtain ⟨d2,p2,lw,rfl,rfl,Iu,hd2,rg,o1,o2⟩:=h
   have pf:=λhi=>QM (r:=r) (lo:=lw) (hi:=hi) (by ext qc) (by ext qc) (by ext qc rg) (by ext qc rg)
   rw [dh] at pf ⊢
   walk_at "v1"
   rw [cj]
   refine ⟨λh1=>?_,λh1=>?_⟩
   .have rn:p2<ss.length:=by ext h1
    have dd:ss.drop p2=ss[p2]::ss.drop (p2+1):=jT rn
    have Jb:=hs ss[p2] (oq rn)
    have A6:=b3Z rn
    rw [A6]
    generalize ss[p2]=s at *
    unfold GI at Jb
    rw [dd,cN] at o1 o2
    rw [LB]
    walk_at "v1"
    refine ⟨λh2=>?_,λh2=>?_⟩
    .rw [if_pos h2] at o1 o2
     walk_at "v1"
     rw [LB] at A6
     refine Wo.mono (P:=λy=>y=(.nx,[.sh (.tup (rs.map Row.d)),.sh (.tup (ss.map Span.d)),.ow ((d2++nK r lw s.1).map Row.d),.sh (.int p2),.sh (.tup [.int r.1,.int r.2.1,.int r.2.2.1,.int r.2.2.2]),.sh (.int lw)])) ?_ (λy hy=>?_)
     .walk_at "vc"
      rw [A6]
      walk_at "vc"
      rw [pf]
      walk_at "vc"
      rw [cj]
      unfold nK
      refine ⟨λh=>⟨by ext l2 fT hd2 h1,?_⟩,λh=>?_⟩
      .rw [if_pos h,ic];rfl
      .rw [if_neg h,mU]
     .subst hy
      have wJ:(nK r lw s.1).length<=1:=by unfold nK;split<;>simp
      walk_at "v1"
      rw [A6]
      walk_at "v1"
      rw [a2h]
      walk_at "vc"
      rw [A6]
      walk_at "vc"
      refine ⟨λh3=>?_,λh3=>?_⟩
      .rw [if_pos h3] at o1 o2
       exact ⟨d2++nK r lw s.1,p2,max lw (s.2+1),rfl,Iu,by simp;ext hd2 wJ,by ext rg Jb,by rw [fM];exact o1,by rw [dd];exact o2⟩
      .rw [if_neg h3] at o1 o2
       exact ⟨ss.length-(p2+1),by ext h1,d2++nK r lw s.1,p2+1,max lw (s.2+1),rfl,rfl,‹_›,by simp;ext hd2 wJ,by ext rg Jb,by rw [fM];exact o1,o2⟩
    .rw [if_neg h2] at o1 o2
     exact ⟨d2,p2,lw,rfl,Iu,by ext hd2,rg,o1,by rw [dd];exact o2⟩
   .have dd:ss.drop p2=[]:=oi (by ext h1)
    rw [dd,cN] at o1 o2
    exact ⟨d2,p2,lw,rfl,Iu,by ext hd2,rg,o1,by rw [dd];exact o2⟩
  .obtain ⟨fl,ah⟩:=y
   obtain ⟨h1,d3,p3,lw,h2,wH,IY,rg,o1,o2⟩:=hy
   dsimp only at h1 h2
   subst h1 h2
   have pf:=QM (r:=r) (lo:=lw) (hi:=r.2.1) (by ext qc) (by ext qc) (by ext qc rg) (by ext qc rg)
   rw [dh] at pf ⊢
   walk_at "vc"
   rw [pf]
   walk_at "vc"
   rw [cj]
   rw [dj,<-o2,<-fM,<-o1] at jA
   refine ⟨λh=>⟨by ext l2 fT wH IY,_,_,d3++[iO r lw r.2.1],post,p3,by rw [ic];rfl,by rw [e];simp,wH,by simp;ext IY,?_⟩,λh=>⟨_,_,d3,post,p3,rfl,by rw [e];simp,wH,by simp;ext IY,?_⟩⟩
   .rw [mW,if_pos h] at jA
    exact jA
   .rw [mW,if_neg h,mU] at jA
    exact jA
 .obtain ⟨x4,x5,done,oO,pl,rfl,e0,dG,wL,jA⟩:=h
  have:oO=[]:=by simpa using e0
  subst this
  walk_at "vc"
  rw [<-jA];simp [dj]
theorem rS{c:En->Option Bool}{F:SF}{env:En}{Q:Fl×En->Prop}(hc:Wo (c env) λb=>b=false)(h:Q (.nx,env)):Wo (cG c F c5 env) Q:=by
 rw [a2h]
 exact hc.mono λb hb=>⟨λz=>(by rw [hb] at z;cases z),λ_=>(by rw [b6V];exact h)⟩
noncomputable abbrev lj:=Int×Int
noncomputable def lj.at(l:lj)(low x:Int):Int:=l.1+l.2*(x-low)
noncomputable def eD:Int->List Row->Int->Prop
 | at_,[],e=>at_=e
 | at_,r::rs,e=>r.1=at_/\at_<=r.2.1/\eD (r.2.1+1) rs e
theorem eD.le:∀{rs:List Row} {a e:Int},eD a rs e->a<=e
 | [],_,_,h=>Int.le_of_eq h
 | r::rs,a,e,h=>by have:=h.2.2.le;have:=h.2.1;lia
theorem eD.mem:∀{rs:List Row} {a e:Int} {r:Row},eD a rs e->r∈rs->a<=r.1/\r.1<=r.2.1/\r.2.1<e
 | [],_,_,_,_,h=>nomatch h
 | r::rs,a,e,q,h,k=>by
  obtain ⟨h1,h2,h3⟩:=h
  have:=h3.le
  rcases bI.mp k with rfl | k
  .ext h1 h2 this
  .have:=h3.mem k;ext h2 this
noncomputable def j9(l:lj)(low:Int)(r:Row):List Row:=oS r.2.2.1 r.2.2.2 (l.at low r.1) l.2 r.1 r.2.1
theorem b5y{l:lj}{low:Int}{r:Row}(h:r.1<=r.2.1):eD r.1 (j9 l low r) (r.2.1+1)/\(∀q∈j9 l low r,(q.2.2.2=r.2.2.2\/q.2.2.2=l.2)/\r.1<=q.1/\q.2.1<=r.2.1/\∀x,q.1<=x->x<=q.2.1->q.at x=min (r.at x) (l.at low x)) /\
  (j9 l low r).length<=2/\((∀x,r.1<=x->x<=r.2.1->r.at x<=l.at low x)->(j9 l low r).length=1)/\((∀x,r.1<=x->x<=r.2.1->l.at low x<r.at x)->(j9 l low r).length=1):=by
 obtain ⟨f,g,c,s⟩:=r
 dsimp only at h
 have sp:=RR (a:=c-l.at low f) (s:=s-l.2) (low:=f) (high:=g) h
 have gap:∀x,c-l.at low f+(s-l.2)*(x-f)=Row.at (f,g,c,s) x-l.at low x:=λx=>by unfold Row.at lj.at;dsimp only;grind
 have v1:∀a b x,Row.at (gO c s f a b) x=Row.at (f,g,c,s) x:=λa b x=>by unfold Row.at gO;dsimp only;grind
 have v2:∀a b x,Row.at (gO (l.at low f) l.2 f a b) x=l.at low x:=λa b x=>by unfold Row.at gO lj.at;dsimp only;grind
 simp only [gap] at sp
 unfold j9 oS
 dsimp only
 cases oX:nd (c-l.at low f) (s-l.2) f g with
 | none =>
  rw [oX] at sp
  refine ⟨⟨rfl,h,rfl⟩,λq hq=>?_,by simp,λ_=>rfl,λ_=>rfl⟩
  obtain rfl:=bT.mp hq
  refine ⟨.inr rfl,eQ _,eQ _,λx h1 h2=>?_⟩
  rw [v2]
  have:=sp x h1 h2
  ext this
 | some fl =>
  obtain ⟨a,b⟩:=fl
  rw [oX] at sp
  obtain ⟨⟨q1,q2,q3,q4⟩,q5⟩:=sp
  have A:∀x,a<=x->x<=b->Row.at (gO c s f a b) x=min (Row.at (f,g,c,s) x) (l.at low x):=λx h1 h2=>by
   rw [v1];have:=(q5 x (by ext q1 h1) (by ext q3 h2)).mpr ⟨h1,h2⟩;ext this
  have B:∀a' b' x,f<=x->x<=g->¬(a<=x/\x<=b)->Row.at (gO (l.at low f) l.2 f a' b') x=min (Row.at (f,g,c,s) x) (l.at low x):=λa' b' x h1 h2 h3=>by
   rw [v2];have:=(not_congr (q5 x h1 h2)).mpr h3;ext this
  dsimp only
  by_cases hf:f<a
  .have hl:¬b<g:=by ext q4 hf
   rw [if_pos hf,if_neg hl]
   refine ⟨⟨rfl,by show f<=a-1;ext hf,⟨by show a=a-1+1;ext,by show a-1+1<=b;ext q2,by show b+1=g+1;ext q3 hl⟩⟩,λq hq=>?_,by simp,λz=>?_,λz=>?_⟩
   .simp at hq
    rcases hq with rfl | rfl
    .exact ⟨.inr rfl,eQ _,by show a-1<=g;ext q2 q3,λx h1 h2=>B _ _ x h1 (by have:x<=a-1:=h2;ext q2 q3 this) (by have:x<=a-1:=h2;ext this)⟩
    .exact ⟨.inl rfl,by show f<=a;assumption,by show b<=g;assumption,λx h1 h2=>A x h1 h2⟩
   .exfalso;have:=(not_congr (q5 f (by ext) ‹_›)).mpr (by ext hf);have:=z f (by ext) ‹_›;lia
   .exfalso;have:=(q5 a ‹_› (by ext q2 q3)).mpr (by ext q2);have:=z a ‹_› (by ext q2 q3);lia
  .have Pg:a=f:=by ext q1 hf
   rw [if_neg hf]
   by_cases hl:b<g
   .rw [if_pos hl]
    refine ⟨⟨Pg,by show f<=b;ext q1 q2,⟨rfl,by show b+1<=g;assumption,rfl⟩⟩,λq hq=>?_,by simp,λz=>?_,λz=>?_⟩
    .simp at hq
     rcases hq with rfl | rfl
     .exact ⟨.inl rfl,by show f<=a;assumption,by show b<=g;assumption,λx h1 h2=>A x h1 h2⟩
     .exact ⟨.inr rfl,by show f<=b+1;ext q1 q2,eQ _,λx h1 h2=>B _ _ x (by have:b+1<=x:=h1;ext q1 q2 this) h2 (by have:b+1<=x:=h1;ext this)⟩
    .exfalso;have:=(not_congr (q5 g ‹_› (by ext))).mpr (by ext hl);have:=z g ‹_› (by ext);lia
    .exfalso;have:=(q5 a ‹_› (by ext h hf)).mpr (by ext q2);have:=z a ‹_› (by ext h hf);omega
   .rw [if_neg hl]
    refine ⟨⟨Pg,by show f<=b;ext h hl,by show b+1=g+1;ext q3 hl⟩,λq hq=>?_,by simp,λ_=>rfl,λ_=>rfl⟩
    simp at hq
    subst hq
    exact ⟨.inl rfl,by show f<=a;assumption,by show b<=g;assumption,λx h1 h2=>A x h1 h2⟩
theorem eD.u9:∀{rs:List Row} {a e x:Int},eD a rs e->a<=x->x<e->∃q∈rs,q.1<=x/\x<=q.2.1
 | [],a,e,x,h,h1,h2=>by have:a=e:=h;ext _ h1 h2 this
 | r::rs,a,e,x,⟨h1,h2,h3⟩,k1,k2=>by
  by_cases hx:x<=r.2.1
  .exact ⟨r,cM,by ext h1 k1,hx⟩
  .obtain ⟨q,hq,k⟩:=h3.u9 (x:=x) (by ext hx) k2
   exact ⟨q,cY _ hq,k⟩
theorem eD.gp:∀{rs:List Row} {a e:Int},eD a rs e->rs.Pairwise λp q=>p.2.1<q.1
 | [],_,_,_=>.nil
 | r::rs,a,e,⟨h1,h2,h3⟩=>iC.mpr ⟨λq hq=>by have:=h3.mem hq;ext this,h3.gp⟩
def ku(a b:Row):Prop:=a.2.1<b.1\/b.2.1<a.1
theorem T7:∀rs:List Row,B8 (rs.map Row.d)=some (rs.map λr=>(r.1,Row.d r))
 | []=>rfl
 | r::rs=>by
  rw [kM,B8,T7 rs]
  rfl
theorem b0X{rs:List Row}(hv:∀r∈rs,r.1<=r.2.1)(hd:rs.Pairwise ku)(c6:rs.length<mh):∃ts:List Row,xI (rs.map Row.d)=some (ts.map Row.d)/\dS ts/\(∀x c,Val ts x c↔Val rs x c)/\ts.Perm rs:=by
 have cC:(rs.map (·.1)).Nodup:=by
  rw [List.Nodup,BO]
  refine hd.imp_of_mem λ{a b} ha hb h=>?_
  have:=hv a ha;have:=hv b hb
  unfold ku at h
  lia
 obtain ⟨ts,t1,t2⟩:=TL (Qf (rs.map λr=>(r.1,Row.d r)) λa b=>decide (a.1<=b.1))
 have hle:ts.Pairwise λa b=>a.1<=b.1:=by
  have:=Qr (le:=λa b:Int×D=>decide (a.1<=b.1)) (λa b c h1 h2=>by simp at *;ext h1 h2) (λa b=>by simp;ext) (rs.map λr=>(r.1,Row.d r))
  rw [<-t2,BO] at this
  exact this.imp λ{x y} z=>by simpa using z
 have ZS:ts.Pairwise ku:=(t1.pairwise_iff (λ{a b} h=>by unfold ku at *;ext h)).mpr hd
 have Ih:∀r∈ts,r.1<=r.2.1:=λr hr=>hv r (t1.subset hr)
 refine ⟨ts,?_,⟨Ih,?_⟩,λx c=>?_,t1⟩
 .unfold xI
  rw [T7,md,if_pos ⟨by rw [lD];exact cC,by rw [cj];exact c6⟩,<-t2,lD]
  rfl
 .refine (hle.and ZS).imp_of_mem λ{a b} ha hb h=>?_
  have:=Ih a ha;have:=Ih b hb
  obtain ⟨h1,h2⟩:=h
  unfold ku at h2
  ext this h1 h2
 .unfold Val
  exact ⟨λ⟨r,hr,k⟩=>⟨r,t1.subset hr,k⟩,λ⟨r,hr,k⟩=>⟨r,t1.symm.subset hr,k⟩⟩
noncomputable def fS(m:Met):List Row:=oS (m.a.at m.lo) m.a.2.2.2 (m.b.at m.lo) m.b.2.2.2 m.lo m.hi
theorem tN{m:Met}(h:m.lo<=m.hi):eD m.lo (fS m) (m.hi+1)/\(∀q∈fS m,(q.2.2.2=m.a.2.2.2\/q.2.2.2=m.b.2.2.2)/\m.lo<=q.1/\q.2.1<=m.hi/\∀x,q.1<=x->x<=q.2.1->q.at x=min (m.a.at x) (m.b.at x))/\(fS m).length<=2:=by
 obtain ⟨h1,h2,h3,_⟩:=b5y (l:=(m.b.at m.lo,m.b.2.2.2)) (low:=m.lo) (r:=(m.lo,m.hi,m.a.at m.lo,m.a.2.2.2)) h
 have e0:j9 (m.b.at m.lo,m.b.2.2.2) m.lo (m.lo,m.hi,m.a.at m.lo,m.a.2.2.2)=fS m:=by
  unfold j9 fS lj.at
  dsimp only
  rw [Int.sub_self,Int.mul_zero,Int.add_zero]
 rw [e0] at h1 h2 h3
 refine ⟨h1,λq hq=>?_,h3⟩
 obtain ⟨k1,k2,k3,k4⟩:=h2 q hq
 refine ⟨k1,k2,k3,λx x1 x2=>?_⟩
 rw [k4 x x1 x2]
 have e1:Row.at (m.lo,m.hi,m.a.at m.lo,m.a.2.2.2) x=m.a.at x:=Cy (r:=m.a) (lo:=m.lo) (hi:=m.hi)
 have e2:lj.at (m.b.at m.lo,m.b.2.2.2) m.lo x=m.b.at x:=Cy (r:=m.b) (lo:=m.lo) (hi:=m.hi)
 rw [e1,e2]
noncomputable def gU(A B:List Row):List Row:=(cu A B).flatMap fS
theorem Mv{A B:List Row}{q:Row}(h:q∈gU A B):∃m∈cu A B,q∈fS m/\m.a∈A/\m.b∈B/\m.lo=max m.a.1 m.b.1/\m.hi=min m.a.2.1 m.b.2.1/\m.lo<=q.1/\q.1<=q.2.1/\q.2.1<=m.hi/\(q.2.2.2=m.a.2.2.2\/q.2.2.2=m.b.2.2.2)/\∀x,q.1<=x->x<=q.2.1->q.at x=min (m.a.at x) (m.b.at x):=by
 obtain ⟨m,hm,hq⟩:=Kr.mp h
 obtain ⟨k1,k2,k3,k4,k5⟩:=oD (bA _) hm
 obtain ⟨c1,c2,_⟩:=tN k5
 have:=c1.mem hq
 obtain ⟨d1,d2,d3,d4⟩:=c2 q hq
 exact ⟨m,hm,hq,k1,k2,k3,k4,d2,this.2.1,d3,d1,d4⟩
theorem b3o{A B:List Row}(ha:dS A)(hb:dS B):dS (gU A B)/\∀x c,Val (gU A B) x c↔∃p q,look A x=some p/\look B x=some q/\c=min p q:=by
 refine ⟨⟨λq hq=>?_,?_⟩,λx c=>⟨λ⟨q,hq,h1,h2,h3⟩=>?_,λ⟨p,q,h1,h2,h3⟩=>?_⟩⟩
 .obtain ⟨m,_,_,_,_,_,_,_,k,_⟩:=Mv hq;exact k
 .unfold gU
  rw [List.pairwise_flatMap]
  refine ⟨λm hm=>?_,?_⟩
  .exact (tN (oD (bA _) hm).2.2.2.2).1.gp
  .refine (Mx (bA _) ha hb).imp_of_mem λ{m k} hm hk h x hx y hy=>?_
   have c1:=(tN (oD (bA _) hm).2.2.2.2).1.mem hx
   have c2:=(tN (oD (bA _) hk).2.2.2.2).1.mem hy
   show x.2.1<y.1
   ext h c1 c2
 .obtain ⟨m,hm,_,k1,k2,k3,k4,k5,k6,k7,_,k8⟩:=Mv hq
  exact ⟨_,_,nL ha k1 (by ext h1 k3 k5) (by ext h2 k4 k7),nL hb k2 (by ext h1 k3 k5) (by ext h2 k4 k7),by rw [h3,k8 x h1 h2]⟩
 .obtain ⟨a,Z1,a1,a2,rfl⟩:=CA h1
  obtain ⟨b,mM,b1,b2,rfl⟩:=CA h2
  obtain ⟨m,hm,rfl,rfl,m1,m2⟩:=Mz (x:=x) (bA _) ha hb Z1 mM a1 a2 b1 b2
  obtain ⟨c1,c2,_⟩:=tN (oD (bA _) hm).2.2.2.2
  obtain ⟨q,hq,q1,q2⟩:=c1.u9 (x:=x) m1 (by ext m2)
  exact ⟨q,Kr.mpr ⟨m,hm,hq⟩,q1,q2,by rw [h3,(c2 q hq).2.2.2 x q1 q2]⟩
theorem b3p(A B:List Row):(gU A B).length<=2*(cu A B).length:=by
 unfold gU
 have:∀ms:List Met,(∀m∈ms,m.lo<=m.hi)->(ms.flatMap fS).length<=2*ms.length:=λms=>by
  induction ms with
  | nil=>intro _;simp
  | cons m ms ih =>
   intro h
   have:=ih λk hk=>h k (cY _ hk)
   have:=(tN (h m cM)).2.2
   rw [EJ,dq,pB]
   lia
 exact this _ λm hm=>(oD (bA _) hm).2.2.2.2
theorem MM:∀{n:Nat} {A B:List Row},A.length+B.length<=n->(cu A B).length=0\/(cu A B).length+1<=A.length+B.length
 | n,[],B,_=>by rw [CH];exact .inl rfl
 | n,a::as,[],_=>by rw [CG];exact .inl rfl
 | 0,a::as,b::bs,hn=>absurd hn (by simp)
 | n+1,a::as,b::bs,hn=>by
  rw [yb,dq]
  have h1:(if max a.1 b.1<=min a.2.1 b.2.1 then [(⟨max a.1 b.1,min a.2.1 b.2.1,a,b⟩:Met)] else []).length<=1:=by split<;>simp
  by_cases hc:a.2.1<b.2.1
  .have:=MM (n:=n) (A:=as) (B:=b::bs) (by simp at hn ⊢;ext hn)
   rw [if_pos hc]
   simp only [pB] at this ⊢;ext h1 this
  .have:=MM (n:=n) (A:=a::as) (B:=bs) (by simp at hn ⊢;ext hn)
   rw [if_neg hc]
   simp only [pB] at this ⊢;ext h1 this
theorem b3P{A B:List Row}(ha:∀r∈A,aD (10^140) r)(hb:∀r∈B,aD (10^140) r)(l1:A.length<=400000)(l2:B.length<=400000):CY [.tup (A.map Row.d),.tup (B.map Row.d)]=some (.ow ((gU A B).map Row.d)):=by
 refine Wo.eq (iU.mpr ?_)
 unfold ND
 walk_at "v1"
 rw [Br (λr hr=>(ha r hr).mono (by decide)) (λr hr=>(hb r hr).mono (by decide)) ‹_› ‹_›]
 walk_at "v1"
 have sL:=MA (A:=A) (B:=B) (bA _)
 refine oE Met.d (λpre env=>∃x3 x4 x5 x6,env=[.sh (.tup (A.map Row.d)),.sh (.tup (B.map Row.d)),.ow ((pre.flatMap fS).map Row.d),x3,x4,x5,x6]) (cu A B) (λpre m post env e h=>?_) (λenv h=>?_) ⟨_,_,_,_,rfl⟩
 .obtain ⟨x3,x4,x5,x6,rfl⟩:=h
  have hm:m∈cu A B:=by rw [e];simp
  obtain ⟨k1,k2,k3,k4,k5⟩:=oD (bA _) hm
  have b1:=ha _ k1
  have b2:=hb _ k2
  unfold aD at b1 b2
  have dG:(pre.flatMap fS).length<=2*pre.length:=by
   have:∀ms:List Met,(∀m∈ms,m.lo<=m.hi)->(ms.flatMap fS).length<=2*ms.length:=λms=>by
    induction ms with
    | nil=>intro _;simp
    | cons m ms ih =>
     intro h
     have:=ih λk hk=>h k (cY _ hk)
     have:=(tN (h m cM)).2.2
     rw [EJ,dq,pB]
     (clear l1 l2 sL e k3 k4 k5 b1 b2;omega)
   exact this _ λk hk=>(oD (A:=A) (B:=B) (bA _) (by rw [e];simp [hk])).2.2.2.2
  have Iq:pre.length<=800000:=by have:=congrArg wR e;simp at this;ext l1 l2 sL this
  have el:=b8U (p1:=m.a.at m.lo) (s1:=m.a.2.2.2) (p2:=m.b.at m.lo) (s2:=m.b.2.2.2) k5 (by ext k3 k4 b2) (by ext b1) (by ext b1) (by ext b2) (by ext b2)
  rw [zR,Rf,Rf]
  walk_at "v1"
  rw [el]
  walk_at "v1"
  have iM:=(tN k5).2.2
  refine ⟨?_,.sh (.int m.lo),.sh (.int m.hi),.sh (tF m.a m.lo),.sh (tF m.b m.lo),?_⟩
  .rw [cj,cj]
   show (pre.flatMap fS).length+(fS m).length<=_
   ext dG Iq iM
  .rw [Qe,ic]
   simp only [EJ,List.flatMap_nil,mU]
   rfl
 .obtain ⟨x3,x4,x5,x6,rfl⟩:=h
  walk_at "vc"
  rfl
noncomputable def m9:Option Int->Option Int->Option Int
 | some a,some b=>some (min a b)
 | some a,none=>some a
 | none,b=>b
theorem SQ{A:List Row}(ha:dS A){x:Int}:(∃r∈A,r.1<=x/\x<=r.2.1)↔look A x≠none:=by
 constructor
 .rintro ⟨r,hr,h1,h2⟩
  rw [nL ha hr h1 h2];exact λz=>nomatch z
 .intro h
  cases e:look A x with
  | none=>exact absurd e h
  | some c=>obtain ⟨r,hr,h1,h2,_⟩:=CA e;exact ⟨r,hr,h1,h2⟩
theorem b6y{A B:List Row}{V C:Int}(ca:dS A)(cb:dS B)(ha:∀r∈A,aD (10^140) r)(hb:∀r∈B,aD (10^140) r)(hV:V<=10^140)(hC:C<=10^140)
  (va:∀x c,look A x=some c->(-V<=x/\x<=V)/\(-C<=c/\c<=C))(vb:∀x c,look B x=some c->(-V<=x/\x<=V)/\(-C<=c/\c<=C))(hl:4*(A.length+B.length)<=mh):
  ∃fs:List Row,qA [.tup (A.map Row.d),.tup (B.map Row.d)]=some (.sh (.tup (fs.map Row.d)))/\Canon fs/\(∀x,look fs x=m9 (look A x) (look B x))/\fs.length<=4*(A.length+B.length):=by
 have hN:mh<=1600000/\0<mh:=by decide
 obtain ⟨sa,ea,SA⟩:=RX ca (by ext hl hN)
 obtain ⟨sb,eb,SB⟩:=RX cb (by ext hl hN)
 have QD:∀{L:List Row} {ss:List Span},br L ss->(∀r∈L,aD (10^140) r)->∀s∈ss,GI s:=λ{L ss} S hL s hs=>by
  obtain ⟨⟨r1,h1,e1⟩,⟨r2,h2,e2⟩⟩:=S.ends s hs
  have k1:=hL r1 h1
  have k2:=hL r2 h2
  unfold aD at k1 k2
  unfold GI
  ext e1 e2 k1 k2
 have Sw:∀{L:List Row} {ss:List Span},br L ss->pO ss:=λ{L ss} S=>⟨S.ok,S.apart.imp λ{a b} h=>by ext h⟩
 have oa:=Ue (rs:=A) (ss:=sb) (λr hr=>(ha r hr).mono (by decide)) (QD SB hb) (by ext hl hN) (by have:=SB.len;ext hl hN this)
 have ob:=Ue (rs:=B) (ss:=sa) (λr hr=>(hb r hr).mono (by decide)) (QD SA ha) (by ext hl hN) (by have:=SA.len;ext hl hN this)
 obtain ⟨a1,a2,a3,a4⟩:=MO ca (Sw SB)
 obtain ⟨b1,b2,b3,b4⟩:=MO cb (Sw SA)
 obtain ⟨c1,c2⟩:=b3o ca cb
 have la:=SA.len
 have lb:=SB.len
 have ll:=b3p A B
 have lm:=MM (A:=A) (B:=B) (bA _)
 have O7:∀x,gC sa x↔look A x≠none:=λx=>(SA.u9 x).trans (SQ ca)
 have HW:∀x,gC sb x↔look B x≠none:=λx=>(SB.u9 x).trans (SQ cb)
 have OG:∀r∈gU A B++(dj A sb++dj B sa),r.1<=r.2.1:=λr hr=>by
  rcases bX.mp hr with h | h
  .exact c1.1 r h
  .exact (bX.mp h).elim (a1.1 r) (b1.1 r)
 have apart:∀{L M:List Row},(∀r∈L,r.1<=r.2.1)->(∀r∈M,r.1<=r.2.1)->(∀x c d,Val L x c->Val M x d->False)->∀a∈L,∀b∈M,ku a b:=λ{L M} hL hM hx a A8 b sQ=>by
  have h1:=hL a A8
  have h2:=hM b sQ
  by_cases h:a.2.1<b.1\/b.2.1<a.1
  .exact h
  .exact (hx (max a.1 b.1) _ _ ⟨a,A8,by ext,by ext h1 h,rfl⟩ ⟨b,sQ,by ext,by ext h2 h,rfl⟩).elim
 have own:∀{L:List Row},dS L->L.Pairwise ku:=λ{L} h=>h.2.imp λ{a b} z=>.inl z
 have IX:(gU A B++(dj A sb++dj B sa)).Pairwise ku:=by
  refine gm.mpr ⟨own c1,gm.mpr ⟨own a1,own b1,apart a1.1 b1.1 λx c d h1 h2=>?_⟩,λa A8 b sQ=>?_⟩
  .obtain ⟨k1,k2⟩:=(a3 x c).mp h1
   obtain ⟨k3,k4⟩:=(b3 x d).mp h2
   rw [HW,Mr cb] at *
   exact k2 (by rw [k3];exact λz=>nomatch z)
  .rcases bX.mp sQ with sQ | sQ
   .refine apart c1.1 a1.1 (λx c d h1 h2=>?_) a A8 b sQ
    obtain ⟨p,q,k1,k2,_⟩:=(c2 x c).mp h1
    obtain ⟨_,k4⟩:=(a3 x d).mp h2
    exact k4 ((HW x).mpr (by rw [k2];exact λz=>nomatch z))
   .refine apart c1.1 b1.1 (λx c d h1 h2=>?_) a A8 b sQ
    obtain ⟨p,q,k1,k2,_⟩:=(c2 x c).mp h1
    obtain ⟨_,k4⟩:=(b3 x d).mp h2
    exact k4 ((O7 x).mpr (by rw [k1];exact λz=>nomatch z))
 have c6:(gU A B++(dj A sb++dj B sa)).length<mh:=by
  rw [dq,dq]
  ext hl hN a4 b4 la lb ll lm
 obtain ⟨ts,es,cts,Va,HB⟩:=b0X OG IX c6
 have Ii:∀x c,Val (gU A B++(dj A sb++dj B sa)) x c↔m9 (look A x) (look B x)=some c:=λx c=>by
  rw [Val.app,Val.app,c2,a3,b3,O7,HW,Mr ca,Mr cb]
  cases look A x with
  | none=>cases look B x<;>simp [m9]
  | some a=>cases look B x<;>simp [m9,eq_comm]
 have Jc:∀r∈ts,aD (10^140) r:=λr hr=>by
  have wG:=HB.subset hr
  have hle:=OG r wG
  rcases bX.mp wG with h | h
  .obtain ⟨m,_,_,k1,k2,k3,k4,k5,k6,k7,k8,k9⟩:=Mv h
   have q1:=ha _ k1
   have q2:=hb _ k2
   have v1:=va _ _ (nL ca k1 (x:=r.1) (by ext k3 k5) (by ext hle k4 k7))
   have v2:=vb _ _ (nL cb k2 (x:=r.1) (by ext k3 k5) (by ext hle k4 k7))
   have e1:r.at r.1=r.2.2.1:=by unfold Row.at;simp
   have e2:=k9 r.1 (eQ _) hle
   rw [e1] at e2
   unfold aD at *
   ext hV hC hle k4 k7 k8 q1 q2 v1 v2 e2
  .have key:∀{L:List Row} {q:Row},dS L->(∀r∈L,aD (10^140) r)->(∀x c,look L x=some c->(-V<=x/\x<=V)/\(-C<=c/\c<=C))->(∃r∈L,r.1<=q.1/\q.2.1<=r.2.1/\q.2.2.1=r.at q.1/\q.2.2.2=r.2.2.2)->q.1<=q.2.1->aD (10^140) q:=λ{L q} hA hL hv ⟨z,hz,k1,k2,k3,k4⟩ hq=>by
    have q1:=hL z hz
    have v1:=hv _ _ (nL hA hz (x:=q.1) ‹_› (by ext hq k2))
    unfold aD at *
    rw [k3,k4]
    ext hC hq k1 k2 q1 v1
   rcases bX.mp h with h | h
   .exact key ca ha va (a2 r h) hle
   .exact key cb hb vb (b2 r h) hle
 obtain ⟨fs,ef,L⟩:=Ly cts Jc (by rw [HB.length_eq];ext hN c6) (ro:=false)
 have lk:∀x,look fs x=m9 (look A x) (look B x):=λx=>b5X L.canon.gp λc=>by rw [L.val,Va,Ii]
 refine ⟨fs,?_,L.canon,lk,?_⟩
 .refine Wo.eq (rZ.mpr ?_)
  unfold LP
  walk_at "vc"
  rw [eb,ea]
  walk_at "vc"
  rw [oa,ob]
  walk_at "vc"
  rw [b3P (λr hr=>(ha r hr).mono (by decide)) (λr hr=>(hb r hr).mono (by decide)) (by ext hl hN) (by ext hl hN)]
  walk_at "vc"
  rw [<-ic,<-ic,es]
  walk_at "vc"
  rw [ef]
  walk_at "vc"
  simp only [cj,dq]
  ext hl hN a4 b4 la lb ll lm
 .have:=L.len
  have:=HB.length_eq
  rw [dq,dq] at this
  lia
theorem S6{fs:List Row}(h:Canon fs){B C:Int}(hC:0<=C)(hb:∀x c,look fs x=some c->(-B<=x/\x<=B)/\(-C<=c/\c<=C)):∀r∈fs,(-B<=r.1/\r.1<=B)/\(-B<=r.2.1/\r.2.1<=B)/\(-C<=r.2.2.1/\r.2.2.1<=C)/\(-(2*C)<=r.2.2.2/\r.2.2.2<=2*C):=λr hr=>by
 have ok:=h.1 r hr
 unfold vK at ok
 have l1:=nL h.gp hr (x:=r.1) (eQ _) ok.1
 have l2:=nL h.gp hr (x:=r.2.1) ok.1 (eQ _)
 have b1:=hb _ _ l1
 have b2:=hb _ _ l2
 have e1:r.at r.1=r.2.2.1:=by unfold Row.at;simp
 rw [e1] at b1
 refine ⟨b1.1,b2.1,b1.2,?_⟩
 by_cases hs:r.1=r.2.1
 .rw [ok.2 hs];ext hC
 .have l3:=nL h.gp hr (x:=r.1+1) (by ext) (by ext ok hs)
  have b3:=hb _ _ l3
  have e3:r.at (r.1+1)=r.2.2.1+r.2.2.2:=by unfold Row.at;rw [show r.1+1-r.1=1 by ext,Ef]
  rw [e3] at b3
  ext b1 b3
noncomputable def Gl(φ:List D->Option Sl):SF:=
 (ai (cG (bE (aa iN (bH (bV 0)) (eC (.int 2))))
 (aB (mO (cn (eV 0)) (ax (bV 0) (eC (.int 0))) (bD ae))) c5)
 (ai (aX 1 (aa cJ (bH (bV 0)) (eC (.int 2))))
 (aB (aP 2 qA (af (aP 1 φ (af (l7 (bV 0) mC (lO (eV 1))) ae)) (af (aP 1 φ (af (l7 (bV 0) (lO (eV 1)) mC) ae)) ae))))))
theorem b81{α:Type}(xs:List α){k:Nat}(h:k<=xs.length):nu xs none (some (k:Int))=xs.take k:=by
 unfold nu
 have e1:HT.bz xs.length 0 none=0:=rfl
 have e2:HT.bz xs.length xs.length (some (k:Int))=min k xs.length:=HT.mx _ _ k
 rw [e1,e2,Ek,Nat.sub_zero,JO h]
theorem b82{α:Type}(xs:List α){k:Nat}(h:k<=xs.length):nu xs (some (k:Int)) none=xs.drop k:=by
 unfold nu
 have e1:HT.bz xs.length 0 (some (k:Int))=min k xs.length:=HT.mx _ _ k
 have e2:HT.bz xs.length xs.length none=xs.length:=rfl
 rw [e1,e2,JO h,BU]
 rw [nE]
 ext
structure FV(V C:Int)(f:List Row):Prop where
 canon:Canon f
 bd:∀x c,look f x=some c->(-V<=x/\x<=V)/\(-C<=c/\c<=C)
theorem FV.row{V C:Int}{f:List Row}(h:FV V C f)(hV:V<=10^140)(hC:0<=C/\2*C<=10^140):∀r∈f,aD (10^140) r:=λr hr=>by
 have:=S6 h.canon hC.1 h.bd r hr
 unfold aD
 ext hV hC this
def lh(Fs:List (List Row))(f:List Row):Prop:=∀x v,look f x=some v↔(∃g∈Fs,look g x=some v)/\∀g∈Fs,∀w,look g x=some w->v<=w
theorem lh.fv{V C:Int}{Fs:List (List Row)}{f:List Row}(h:lh Fs f)(cf:Canon f)(hF:∀g∈Fs,FV V C g):FV V C f:=⟨cf,λx c e=>by
 obtain ⟨⟨g,hg,k⟩,_⟩:=(h x c).mp e
 exact (hF g hg).bd x c k⟩
theorem lh.merge{Fs Gs:List (List Row)}{a b f:List Row}(ha:lh Fs a)(hb:lh Gs b)(lk:∀x,look f x=m9 (look a x) (look b x)):lh (Fs++Gs) f:=λx v=>by
 rw [lk]
 have no:∀{Hs:List (List Row)} {h:List Row},lh Hs h->look h x=none->∀g∈Hs,look g x=none:=λ{Hs h} hh e=>by
  have key:∀Ks:List (List Row),(∀g∈Ks,g∈Hs)->(∃g∈Ks,look g x≠none)->∃v,(∃g∈Ks,look g x=some v)/\∀g∈Ks,∀w,look g x=some w->v<=w:=λKs=>by
   induction Ks with
   | nil=>rintro _ ⟨g,hg,_⟩;cases hg
   | cons k Ks ih =>
    intro hs hex
    by_cases hK:∃g∈Ks,look g x≠none
    .obtain ⟨v,⟨g,hg,e1⟩,m⟩:=ih (λg hg=>hs g (cY _ hg)) hK
     cases ek:look k x with
     | none=>exact ⟨v,⟨g,cY _ hg,e1⟩,λq hq w hw=>by
       rcases bI.mp hq with rfl | hq
       .rw [ek] at hw;cases hw
       .exact m q hq w hw⟩
     | some u =>
      by_cases Pb:u<=v
      .exact ⟨u,⟨k,cM ..,ek⟩,λq hq w hw=>by
        rcases bI.mp hq with rfl | hq
        .rw [ek] at hw;cases hw;exact eQ _
        .exact J4 Pb (m q hq w hw)⟩
      .exact ⟨v,⟨g,cY _ hg,e1⟩,λq hq w hw=>by
        rcases bI.mp hq with rfl | hq
        .rw [ek] at hw;cases hw;ext Pb
        .exact m q hq w hw⟩
    .obtain ⟨g,hg,e1⟩:=hex
     rcases bI.mp hg with rfl | hg
     .cases ek:look g x with
      | none=>exact absurd ek e1
      | some u=>exact ⟨u,⟨g,cM ..,ek⟩,λq hq w hw=>by
        rcases bI.mp hq with rfl | hq
        .rw [ek] at hw;cases hw;exact eQ _
        .exact absurd ⟨q,hq,by rw [hw];exact λz=>nomatch z⟩ hK⟩
     .exact absurd ⟨g,hg,e1⟩ hK
  intro g hg
  refine Classical.byContradiction λz=>?_
  obtain ⟨v,hv⟩:=key Hs (λ_ h=>h) ⟨g,hg,z⟩
  rw [(hh x v).mpr hv] at e
  cases e
 cases ea:look a x with
 | none =>
  have n1:=no ha ea
  show look b x=some v↔_
  rw [hb x v]
  constructor
  .rintro ⟨⟨g,hg,e⟩,m⟩
   exact ⟨⟨g,ie _ hg,e⟩,λq hq w hw=>(bX.mp hq).elim (λz=>by rw [n1 q z] at hw;cases hw) λz=>m q z w hw⟩
  .rintro ⟨⟨g,hg,e⟩,m⟩
   exact ⟨(bX.mp hg).elim (λz=>by rw [n1 g z] at e;cases e) λz=>⟨g,z,e⟩,λq hq=>m q (ie _ hq)⟩
 | some u =>
  obtain ⟨⟨g1,DY,e1⟩,m1⟩:=(ha x u).mp ea
  cases eb:look b x with
  | none =>
   have n2:=no hb eb
   show some u=some v↔_
   constructor
   .intro z
    cases z
    exact ⟨⟨g1,iR _ DY,e1⟩,λq hq w hw=>(bX.mp hq).elim (λz=>m1 q z w hw) λz=>by rw [n2 q z] at hw;cases hw⟩
   .rintro ⟨⟨g,hg,e⟩,m⟩
    rcases bX.mp hg with z | z
    .have k1:=m g1 (iR _ DY) u e1
     have k2:=m1 g z v e
     rw [show u=v by ext k1 k2]
    .rw [n2 g z] at e;cases e
  | some t =>
   obtain ⟨⟨g2,p8,e2⟩,m2⟩:=(hb x t).mp eb
   show some (min u t)=some v↔_
   constructor
   .intro z
    cases z
    refine ⟨?_,λq hq w hw=>?_⟩
    .by_cases c:u<=t
     .exact ⟨g1,iR _ DY,by rw [e1,show min u t=u by ext c]⟩
     .exact ⟨g2,ie _ p8,by rw [e2,show min u t=t by ext c]⟩
    .rcases bX.mp hq with z | z
     .have:=m1 q z w hw;ext this
     .have:=m2 q z w hw;ext this
   .rintro ⟨⟨g,hg,e⟩,m⟩
    have k1:=m g1 (iR _ DY) u e1
    have k2:=m g2 (ie _ p8) t e2
    congr 1
    rcases bX.mp hg with z | z
    .have:=m1 g z v e;ext k1 k2 this
    .have:=m2 g z v e;ext k1 k2 this
def yA(φ:List D->Option Sl)(n m:Nat):Prop:=∀{V C:Int} {Fs:List (List Row)} {r:Bool},V<=10^140->0<=C/\2*C<=10^140->(∀f∈Fs,FV V C f/\f.length<=3)->Fs≠[]->Fs.length<=n->∃fs:List Row,φ [.lst r (Fs.map λf=>.tup (f.map Row.d))]=some (.sh (.tup (fs.map Row.d)))/\Canon fs/\lh Fs fs/\fs.length<=m
theorem RQ{φ ψ:List D->Option Sl}(W:∀{a0:D} {Q:Sl->Prop},Wo (ψ [a0]) Q↔Wo (Gl φ [.sh a0,.no]) (aO Q)):yA ψ 1 3:=λ{V C Fs r} hV hC hF cC hl=>by
 match Fs,cC,hl with
 | [f],_,_ =>
  refine ⟨f,Wo.eq (W.mpr ?_),(hF f (cM ..)).1.canon,λx v=>?_,(hF f (cM ..)).2⟩
  .unfold Gl
   dsimp only [qg]
   walk_at "vc"
   exact λz=>nomatch z
  .exact ⟨λe=>⟨⟨f,cM ..,e⟩,λg hg w hw=>by rw [bT.mp hg] at hw;rw [e] at hw;cases hw;exact eQ _⟩,λ⟨⟨g,hg,e⟩,_⟩=>by rw [bT.mp hg] at e;exact e⟩
theorem F6{φ ψ:List D->Option Sl}{n m:Nat}(hn:n<=1000)(hm:8*m<=mh)(ZI:3<=8*m)(h:yA φ n m)(W:∀{a0:D} {Q:Sl->Prop},Wo (ψ [a0]) Q↔Wo (Gl φ [.sh a0,.no]) (aO Q)):yA ψ (2*n) (8*m):=λ{V C Fs r} hV hC hF cC hl=>by
 by_cases hlen:Fs.length<2
 .have ni:=pC.mpr cC
  obtain ⟨fs,e,c,k,l⟩:=RQ W hV hC hF cC (by ext hlen) (r:=r)
  exact ⟨fs,e,c,k,by ext ZI l⟩
 .obtain ⟨k,hk⟩:∃k:Nat,(Fs.length:Int)/2=k:=⟨((Fs.length:Int)/2).toNat,by lia⟩
  have DX:1<=k:=by lia
  have sM:k<Fs.length:=by lia
  have nA:Fs.take k≠[]:=KD (by rw [jk];ext DX sM)
  have nB:Fs.drop k≠[]:=KD (by rw [nE];ext sM)
  have Pu:∀f∈Fs.take k,FV V C f/\f.length<=3:=λf hf=>hF f (vq hf)
  have Pr:∀f∈Fs.drop k,FV V C f/\f.length<=3:=λf hf=>hF f (vo hf)
  obtain ⟨A,ea,cA,mA,lA⟩:=h (r:=false) hV hC Pu nA (by rw [jk];lia)
  obtain ⟨B,eb,cB,mB,lB⟩:=h (r:=false) hV hC Pr nB (by rw [nE];lia)
  have vA:=mA.fv cA λf hf=>(Pu f hf).1
  have vB:=mB.fv cB λf hf=>(Pr f hf).1
  obtain ⟨fs,ef,cf,lk,lf⟩:=b6y (V:=V) (C:=C) cA.gp cB.gp (vA.row hV hC) (vB.row hV hC) hV (by ext hC) vA.bd vB.bd (by ext hm lA lB)
  have mf:=mA.merge mB lk
  rw [nC] at mf
  refine ⟨fs,Wo.eq (W.mpr ?_),cf,mf,by ext lA lB lf⟩
  unfold Gl
  walk_at "v1"
  refine rS ?_ ?_
  .walk_at "vc"
   rw [cj]
   ext hlen
  walk_at "v1"
  rw [cj,hk,S',S',b81 _ (by ext sM),b82 _ (by ext sM)]
  walk_at "v1"
  refine ⟨tM (by decide) (by decide),?_⟩
  rw [ea]
  walk_at "v1"
  rw [eb]
  walk_at "v1"
  rw [ef]
  walk_at "vc"
def gh(r:Row)(y:Int):Prop:=r.1<=y/\y<=r.2.1
def Conv(r s:Row)(x c:Int):Prop:=(∃y z,gh r y/\gh s z/\y+z=x/\c=r.at y+s.at z)/\∀y z,gh r y->gh s z->y+z=x->c<=r.at y+s.at z
theorem Conv.sym{r s:Row}{x c:Int}(h:Conv r s x c):Conv s r x c:=by
 obtain ⟨⟨y,z,hy,hz,e,k⟩,m⟩:=h
 exact ⟨⟨z,y,hz,hy,by ext e,by ext k⟩,λy z hy hz e=>by have:=m z y hz hy (by ext e);ext this⟩
theorem Conv.uniq{r s:Row}{x c c':Int}(h:Conv r s x c)(h':Conv r s x c'):c=c':=by
 obtain ⟨⟨y,z,hy,hz,e,k⟩,m⟩:=h
 obtain ⟨⟨y',z',Ig,sG,e',k'⟩,m'⟩:=h'
 have:=m y' z' Ig sG e'
 have:=m' y z hy hz e
 lia
theorem Conv.n9{r s:Row}{x c:Int}(h:Conv r s x c):r.1+s.1<=x/\x<=r.2.1+s.2.1:=by
 obtain ⟨⟨y,z,hy,hz,e,k⟩,m⟩:=h
 unfold gh at hy hz
 ext hy hz e
theorem Cw{u v:Row}(h:u.2.2.2<=v.2.2.2){x i j:Int}(hi:0<=i/\i<=u.2.1-u.1)(hj:0<=j/\j<=v.2.1-v.1)(e:x=u.1+v.1+i+j)(hl:i=u.2.1-u.1\/j=0):Conv u v x (u.2.2.1+v.2.2.1+u.2.2.2*i+v.2.2.2*j):=by
 refine ⟨⟨u.1+i,v.1+j,by unfold gh;ext hi,by unfold gh;ext hj,by ext e,by unfold Row.at;rw [show u.1+i-u.1=i by ext,show v.1+j-v.1=j by ext];ext⟩,λy z hy hz k=>?_⟩
 unfold gh at hy hz
 unfold Row.at
 have:=vE (show 0<=v.2.2.2-u.2.2.2 by ext h) (show 0<=i-(y-u.1) by ext e hl hy hz k)
 have e2:z-v.1=j+(i-(y-u.1)):=by ext e k
 rw [e2]
 generalize y-u.1=q at *
 grind
theorem Conv.ex{u v:Row}(hu:u.1<=u.2.1)(hv:v.1<=v.2.1){x:Int}(h1:u.1+v.1<=x)(h2:x<=u.2.1+v.2.1):∃c,Conv u v x c:=by
 have key:∀{u v:Row},u.1<=u.2.1->v.1<=v.2.1->u.2.2.2<=v.2.2.2->u.1+v.1<=x->x<=u.2.1+v.2.1->∃c,Conv u v x c:=λ{u v} hu hv hs h1 h2=>by
  by_cases c:x-(u.1+v.1)<=u.2.1-u.1
  .exact ⟨_,Cw hs (i:=x-(u.1+v.1)) (j:=0) (by ext h1 c) (by ext hv) (by ext) (.inr rfl)⟩
  .exact ⟨_,Cw hs (i:=u.2.1-u.1) (j:=x-(u.1+v.1)-(u.2.1-u.1)) (by ext hu) (by ext h2 c) (by ext) (.inl rfl)⟩
 by_cases hs:u.2.2.2<=v.2.2.2
 .exact key hu hv hs h1 h2
 .obtain ⟨c,h⟩:=key hv hu (by ext hs) (by ext h1) (by ext h2)
  exact ⟨c,h.sym⟩
noncomputable def nI(u v:Row):List Row:=
 [(u.1+v.1,u.1+v.1,u.2.2.1+v.2.2.1,0)]
 ++ (if u.2.1-u.1>0 then [(u.1+v.1+1,u.1+v.1+(u.2.1-u.1),u.2.2.1+v.2.2.1+u.2.2.2,u.2.2.2)] else [])
 ++ (if v.2.1-v.1>0 then [(u.1+v.1+(u.2.1-u.1)+1,u.1+v.1+(u.2.1-u.1)+(v.2.1-v.1),u.2.2.1+v.2.2.1+u.2.2.2*(u.2.1-u.1)+v.2.2.2,v.2.2.2)] else [])
theorem Ml(u v:Row):(nI u v).length<=3:=by
 unfold nI
 rw [dq,dq]
 split<;>split<;>simp
theorem Mm{u v r:Row}(h:r∈nI u v):r=(u.1+v.1,u.1+v.1,u.2.2.1+v.2.2.1,0)\/(u.2.1-u.1>0/\r=(u.1+v.1+1,u.1+v.1+(u.2.1-u.1),u.2.2.1+v.2.2.1+u.2.2.2,u.2.2.2))\/(v.2.1-v.1>0/\r=(u.1+v.1+(u.2.1-u.1)+1,u.1+v.1+(u.2.1-u.1)+(v.2.1-v.1),u.2.2.1+v.2.2.1+u.2.2.2*(u.2.1-u.1)+v.2.2.2,v.2.2.2)):=by
 unfold nI at h
 rcases bX.mp h with h | h
 .rcases bX.mp h with h | h
  .exact .inl (bT.mp h)
  .split at h
   .exact .inr (.inl ⟨‹_›,bT.mp h⟩)
   .cases h
 .split at h
  .exact .inr (.inr ⟨‹_›,bT.mp h⟩)
  .cases h
theorem b20{u v:Row}(hu:u.1<=u.2.1)(hv:v.1<=v.2.1):dS (nI u v):=by
 refine ⟨λr hr=>?_,?_⟩
 .rcases Mm hr with rfl | ⟨_,rfl⟩ | ⟨_,rfl⟩<;>dsimp only<;>lia
 .unfold nI
  refine gm.mpr ⟨gm.mpr ⟨qj _ _,?_,λa ha b hb=>?_⟩,?_,λa ha b hb=>?_⟩
  .split
   .exact qj _ _
   .exact .nil
  .rw [bT] at ha
   split at hb
   .rw [bT] at hb
    subst ha hb
    dsimp only
    ext
   .cases hb
  .split
   .exact qj _ _
   .exact .nil
  .split at hb
   .rw [bT] at hb
    subst hb
    rcases bX.mp ha with ha | ha
    .rw [bT] at ha
     subst ha
     dsimp only
     ext hu
    .split at ha
     .rw [bT] at ha
      subst ha
      dsimp only
      ext
     .cases ha
   .cases hb
theorem SG{u v:Row}(hu:u.1<=u.2.1)(hv:v.1<=v.2.1)(hs:u.2.2.2<=v.2.2.2)(x c:Int):Val (nI u v) x c↔Conv u v x c:=by
 have fwd:∀c,Val (nI u v) x c->Conv u v x c:=λc h=>by
  obtain ⟨r,hr,h1,h2,rfl⟩:=h
  rcases Mm hr with rfl | ⟨_,rfl⟩ | ⟨_,rfl⟩
  .dsimp only at h1 h2
   have:=Cw hs (x:=x) (i:=0) (j:=0) (by ext hu) (by ext hv) (by ext h1 h2) (.inr rfl)
   unfold Row.at
   simpa using this
  .dsimp only at h1 h2
   have:=Cw hs (x:=x) (i:=x-(u.1+v.1)) (j:=0) (by ext h1 h2) (by ext hv) (by ext) (.inr rfl)
   have e:Row.at (u.1+v.1+1,u.1+v.1+(u.2.1-u.1),u.2.2.1+v.2.2.1+u.2.2.2,u.2.2.2) x=u.2.2.1+v.2.2.1+u.2.2.2*(x-(u.1+v.1))+v.2.2.2*0:=by unfold Row.at;dsimp only;grind
   rw [e]
   exact this
  .dsimp only at h1 h2
   have:=Cw hs (x:=x) (i:=u.2.1-u.1) (j:=x-(u.1+v.1)-(u.2.1-u.1)) (by ext hu) (by ext h1 h2) (by ext) (.inl rfl)
   have e:Row.at (u.1+v.1+(u.2.1-u.1)+1,u.1+v.1+(u.2.1-u.1)+(v.2.1-v.1),u.2.2.1+v.2.2.1+u.2.2.2*(u.2.1-u.1)+v.2.2.2,v.2.2.2) x=u.2.2.1+v.2.2.1+u.2.2.2*(u.2.1-u.1)+v.2.2.2*(x-(u.1+v.1)-(u.2.1-u.1)):=by unfold Row.at;dsimp only;grind
   rw [e]
   exact this
 refine ⟨fwd c,λh=>?_⟩
 have d:=h.n9
 have hex:∃c',Val (nI u v) x c':=by
  unfold Val nI
  by_cases c1:x=u.1+v.1
  .exact ⟨_,(u.1+v.1,u.1+v.1,u.2.2.1+v.2.2.1,0),by simp,by dsimp only;ext c1,by dsimp only;ext c1,rfl⟩
  .by_cases c2:x<=u.1+v.1+(u.2.1-u.1)
   .refine ⟨_,(u.1+v.1+1,u.1+v.1+(u.2.1-u.1),u.2.2.1+v.2.2.1+u.2.2.2,u.2.2.2),?_,by dsimp only;ext d c1,by dsimp only;assumption,rfl⟩
    rw [if_pos (by ext d c1 c2)]
    simp
   .refine ⟨_,(u.1+v.1+(u.2.1-u.1)+1,u.1+v.1+(u.2.1-u.1)+(v.2.1-v.1),u.2.2.1+v.2.2.1+u.2.2.2*(u.2.1-u.1)+v.2.2.2,v.2.2.2),?_,by dsimp only;ext c2,by dsimp only;ext d,rfl⟩
    rw [if_pos (show v.2.1-v.1>0 by ext d c2)]
    simp
 obtain ⟨c',hc⟩:=hex
 rw [h.uniq (fwd c' hc)]
 exact hc
def qG(A B:List Row)(x c:Int):Prop:=(∃y z cy cz,Val A y cy/\Val B z cz/\y+z=x/\c=cy+cz)/\∀y z cy cz,Val A y cy->Val B z cz->y+z=x->c<=cy+cz
theorem qG.sym{A B:List Row}{x c:Int}(h:qG A B x c):qG B A x c:=by
 obtain ⟨⟨y,z,cy,cz,hy,hz,e,k⟩,m⟩:=h
 exact ⟨⟨z,y,cz,cy,hz,hy,by ext e,by ext k⟩,λy z cy cz hy hz e=>by have:=m z y cz cy hz hy (by ext e);ext this⟩
def Pk(A B:List Row)(x c:Int):Prop:=(∃r∈A,∃s∈B,Conv r s x c)/\∀r∈A,∀s∈B,∀c',Conv r s x c'->c<=c'
theorem Rm{A B:List Row}(ha:∀r∈A,r.1<=r.2.1)(hb:∀r∈B,r.1<=r.2.1){x c:Int}:Pk A B x c↔qG A B x c:=by
 constructor
 .rintro ⟨⟨r,hr,s,hs,⟨y,z,hy,hz,e,k⟩,_⟩,m⟩
  refine ⟨⟨y,z,_,_,⟨r,hr,hy.1,hy.2,rfl⟩,⟨s,hs,hz.1,hz.2,rfl⟩,e,k⟩,λy z cy cz hy hz e=>?_⟩
  obtain ⟨r,hr,y1,y2,rfl⟩:=hy
  obtain ⟨s,hs,z1,z2,rfl⟩:=hz
  obtain ⟨c',h'⟩:=Conv.ex (ha r hr) (hb s hs) (x:=x) (by ext e y1 z1) (by ext e y2 z2)
  have:=m r hr s hs c' h'
  have:=h'.2 y z ⟨y1,y2⟩ ⟨z1,z2⟩ e
  exact J4 ‹_› ‹_›
 .rintro ⟨⟨y,z,cy,cz,⟨r,hr,y1,y2,rfl⟩,⟨s,hs,z1,z2,rfl⟩,e,k⟩,m⟩
  refine ⟨⟨r,hr,s,hs,⟨y,z,⟨y1,y2⟩,⟨z1,z2⟩,e,k⟩,λy z hy hz e=>m y z _ _ ⟨r,hr,hy.1,hy.2,rfl⟩ ⟨s,hs,hz.1,hz.2,rfl⟩ e⟩,λr hr s hs c' h'=>?_⟩
  obtain ⟨⟨y,z,hy,hz,e,rfl⟩,_⟩:=h'
  exact m y z _ _ ⟨r,hr,hy.1,hy.2,rfl⟩ ⟨s,hs,hz.1,hz.2,rfl⟩ e
theorem Ta(r:Row):ym [r.d]=some (.sh (.int r.2.2.2)):=by
 refine Wo.eq (nN.mpr ?_)
 unfold MW
 rw [dh]
 walk_at "vc"
theorem HD(κ:Nat->Int):(KS.ord κ 2=[0,1]/\κ 0<=κ 1)\/(KS.ord κ 2=[1,0]/\κ 1<=κ 0):=by
 obtain ⟨p,s⟩:=KS.cO κ 2 (by decide)
 have hl:(KS.ord κ 2).length=2:=by rw [p.length_eq];rfl
 match h:KS.ord κ 2,hl with
 | [i,j],_ =>
  rw [h] at p s
  have s1:=(iC.mp s).1 j (bT.mpr rfl)
  have hi:i<2:=qi.mp (p.mem_iff.mp (cM ..))
  have hj:j<2:=qi.mp (p.mem_iff.mp (by simp))
  have nd:i≠j:=by have:=p.nodup_iff.mpr List.nodup_range;simpa using this
  by_cases e:i=0
  .obtain rfl:=e
   obtain rfl:j=1:=by ext hj nd
   exact .inl ⟨rfl,s1⟩
  .obtain rfl:i=1:=by ext hi e
   obtain rfl:j=0:=by ext hj nd
   exact .inr ⟨rfl,s1⟩
theorem b50(a b:Row):jx ym [a.d,b.d]=some [a.2.2.2,b.2.2.2]:=by
 unfold jx
 rw [Ta]
 unfold jx
 rw [Ta]
 rfl
theorem b5r(a b:Row):(bB [a.2.2.2,b.2.2.2] D.aG [a.d,b.d]=[a.d,b.d]/\a.2.2.2<=b.2.2.2)\/(bB [a.2.2.2,b.2.2.2] D.aG [a.d,b.d]=[b.d,a.d]/\b.2.2.2<=a.2.2.2):=by
 unfold bB
 rw [if_neg (by simp)]
 rcases HD (λi=>[a.2.2.2,b.2.2.2].getD i 0) with ⟨e,h⟩ | ⟨e,h⟩
 .exact .inl ⟨by show (KS.ord _ 2).map _=_;rw [e];rfl,h⟩
 .exact .inr ⟨by show (KS.ord _ 2).map _=_;rw [e];rfl,h⟩
noncomputable def fK(r:Row):Int:=r.2.1-r.1
def PB(r:Row):Prop:=r.1<=r.2.1/\(-(10^60)<=r.1/\r.2.1<=10^60)/\(-(10^130)<=r.2.2.1/\r.2.2.1<=10^130)/\(-(10^130)<=r.at r.2.1/\r.at r.2.1<=10^130)/\(-(2*10^130)<=r.2.2.2/\r.2.2.2<=2*10^130)
theorem b5C{u v:Row}(hu:PB u)(hv:PB v):∀r∈nI u v,aD (10^140) r:=λr hr=>by
 unfold PB at hu hv
 have e:u.at u.2.1=u.2.2.1+u.2.2.2*(u.2.1-u.1):=rfl
 rw [e] at hu
 unfold aD
 rcases Mm hr with rfl | ⟨_,rfl⟩ | ⟨_,rfl⟩<;>dsimp only<;>omega
theorem RW{a b f g:Row}(ha:PB a)(hb:PB b)(hf:bB [a.2.2.2,b.2.2.2] D.aG [a.d,b.d]=[f.d,g.d])(hF:PB f)(hG:PB g)(e1:f.1+g.1=a.1+b.1)(e2:f.2.2.1+g.2.2.1=a.2.2.1+b.2.2.1){ro:Bool}:∃fs:List Row,vY [.lst ro [a.d,b.d]]=some (.sh (.tup (fs.map Row.d)))/\Laid (nI f g) fs:=by
 have hB:=b5C hF hG
 have hl:=Ml f g
 obtain ⟨fs,ef,LD⟩:=Ly (b20 hF.1 hG.1) hB (by ext hl) (ro:=false)
 refine ⟨fs,?_,LD⟩
 clear LD hB hl
 unfold PB at ha hb hF hG
 have hm:MulC f.2.2.2 (fK f):=FR (by ext hF) (by ext hF) (by unfold fK;ext hF) (by unfold fK;ext hF)
 have rf:MulC g.2.2.2 (fK g):=FR (by ext hG) (by ext hG) (by unfold fK;ext hG) (by unfold fK;ext hG)
 refine Wo.eq (pM.mpr ?_)
 unfold Me
 have hk:=b50 a b
 rw [dh a,dh b] at hk hf ⊢
 walk_at "v1"
 rw [b2r (r:=ro) (by rfl) hk (by simp),hf]
 walk_at "v1"
 rw [dh f,dh g]
 walk_at "v1"
 rw [show [a.1,b.1].sum=a.1+b.1 by simp,show [a.2.2.1,b.2.2.1].sum=a.2.2.1+b.2.2.1 by simp]
 rw [show f.2.1-f.1=fK f from rfl]
 unfold nI at ef
 rw [show f.2.1-f.1=fK f from rfl,show g.2.1-g.1=fK g from rfl,e1,e2] at ef
 generalize a.1+b.1=L at *
 generalize a.2.2.1+b.2.2.1=P at *
 generalize hd:D.tup [D.int f.1,D.int f.2.1,D.int f.2.2.1,D.int f.2.2.2]=fd at *
 generalize hs:Sl.sh (D.lst ro [D.tup [D.int a.1,D.int a.2.1,D.int a.2.2.1,D.int a.2.2.2],D.tup [D.int b.1,D.int b.2.1,D.int b.2.2.1,D.int b.2.2.2]])=s0 at *
 refine Wo.mono (P:=λq=>q=(.nx,[s0,.sh (.int L),.sh (.int P),.ow (([(L,L,P,0)]++(if fK f>0 then [(L+1,L+fK f,P+f.2.2.2,f.2.2.2)] else []):List Row).map Row.d),.sh fd,.sh (.int (fK f))])) ?_ λq hq=>?_
 .rw [a2h,<-hd]
  walk_at "vc"
  refine ⟨λh=>?_,λh=>?_⟩
  .rw [if_pos h];rfl
  .rw [if_neg h];rfl
 subst hq
 walk_at "v1"
 rw [<-hd]
 walk_at "v1"
 refine ⟨hm,?_⟩
 rw [show g.2.1-g.1=fK g from rfl]
 refine Wo.mono (P:=λq=>∃x4 x5,q=(.nx,[s0,.sh (.int (L+fK f)),.sh (.int (P+f.2.2.2*fK f)),.ow ((([(L,L,P,0)]++(if fK f>0 then [(L+1,L+fK f,P+f.2.2.2,f.2.2.2)] else []))++(if fK g>0 then [(L+fK f+1,L+fK f+fK g,P+f.2.2.2*fK f+g.2.2.2,g.2.2.2)] else []):List Row).map Row.d),x4,x5])/\x4=.sh (.tup [.int g.1,.int g.2.1,.int g.2.2.1,.int g.2.2.2])/\x5=.sh (.int (fK g))) ?_ λq hq=>?_
 .rw [a2h]
  walk_at "vc"
  refine ⟨λh=>?_,λh=>?_⟩
  .rw [if_pos h]
   refine ⟨by by_cases h1:fK f>0<;>simp [h1],_,_,?_,rfl,rfl⟩
   rw [ic (l₂:=[(L+fK f+1,L+fK f+fK g,P+f.2.2.2*fK f+g.2.2.2,g.2.2.2)])]
   rfl
  .rw [if_neg h,mU]
   exact ⟨_,_,rfl,rfl,rfl⟩
 obtain ⟨x4,x5,rfl,rfl,rfl⟩:=hq
 walk_at "v1"
 refine ⟨rf,?_⟩
 rw [Li,K7 (by rfl)]
 walk_at "v1"
 rw [ef]
 walk_at "vc"
theorem b8T{a b:Row}(ha:PB a)(hb:PB b){ro:Bool}:∃fs:List Row,vY [.lst ro [a.d,b.d]]=some (.sh (.tup (fs.map Row.d)))/\Canon fs/\fs.length<=3/\∀x c,Val fs x c↔Conv a b x c:=by
 rcases b5r a b with ⟨e,h⟩ | ⟨e,h⟩
 .obtain ⟨fs,e,L⟩:=RW ha hb e ha hb rfl rfl (ro:=ro)
  exact ⟨fs,e,L.canon,dY L.len (Ml _ _),λx c=>by rw [L.val,SG ha.1 hb.1 h]⟩
 .obtain ⟨fs,e,L⟩:=RW ha hb e hb ha (by ext) (by ext) (ro:=ro)
  exact ⟨fs,e,L.canon,dY L.len (Ml _ _),λx c=>by rw [L.val,SG hb.1 ha.1 h];exact ⟨Conv.sym,Conv.sym⟩⟩
theorem FV.pb{f:List Row}(h:FV (10^60) (10^130) f):∀r∈f,PB r:=λr hr=>by
 have k:=S6 h.canon (by decide) h.bd r hr
 have o:=h.canon.gp.1 r hr
 have v:=(h.bd r.2.1 _ (nL h.canon.gp hr o (eQ _))).2
 unfold PB
 ext k o v
theorem QT{i:Nat}{m n:Int}{f:En->Option Sl}{env:En}{Q:Fl×En->Prop}(e1:env[i]?=some (.sh (.int m)))(e2:f env=some (.sh (.int n)))(hc:lq m n)(h:Q (.nx,env.set i (.sh (.int (m*n))))):Wo (Fm i f env) Q:=
 ⟨_,by unfold Fm xD;rw [e1];dsimp only;rw [e2];dsimp only;rw [if_pos hc],h⟩
theorem Cr(A B:List Row)(l1:A.length<=900000)(l2:B.length<=900000){ro:Bool}:pK [.lst ro [.tup (A.map Row.d),.tup (B.map Row.d)]]=some (.sh (.int (A.length*B.length))):=by
 refine Wo.eq (gg.mpr ?_)
 unfold NR
 walk_at "vc"
 refine QT (m:=1) (n:=A.length) rfl (by show some (Sl.sh (.int ((A.map Row.d).length:Int)))=_;rw [cj]) (.inl ⟨by decide,by decide⟩) ?_
 refine ⟨by simp,?_⟩
 refine QT (m:=1*A.length) (n:=B.length) rfl (by show some (Sl.sh (.int ((B.map Row.d).length:Int)))=_;rw [cj]) (.inl ⟨by ext,by ext l1⟩) ?_
 rw [Int.one_mul]
 exact rfl
noncomputable def pairD(A B:List Row):List D:=A.flatMap λr=>B.map λs=>.lst false [r.d,s.d]
theorem Gi(A B:List Row):(pairD A B).length=A.length*B.length:=by
 unfold pairD
 induction A with
 | nil=>simp
 | cons a A ih=>rw [EJ,dq,ih,cj,pB,JJ,Nat.one_mul];ext
theorem Mc{A B:List Row}(ha:A≠[])(hb:B≠[])(hp:A.length*B.length<=100){ro:Bool}:qB [.lst ro [.tup (A.map Row.d),.tup (B.map Row.d)]]=some (.sh (.lst false (pairD A B))):=by
 have h1:=pC.mpr ha
 have h2:=pC.mpr hb
 have h3:0<A.length*B.length:=Nat.mul_pos h1 h2
 have l1:A.length<=A.length*B.length:=Nat.le_mul_of_pos_right _ h2
 have l2:B.length<=A.length*B.length:=Nat.le_mul_of_pos_left _ h1
 have em:=Cr A B (by ext hp l1) (by ext hp l2) (ro:=ro)
 have ez:(A.length:Int)*B.length=((A.length*B.length:Nat):Int):=by rw [Int.natCast_mul]
 rw [ez] at em
 refine Wo.eq (jM.mpr ?_)
 unfold Cv
 walk_at "v1"
 generalize hN:A.length*B.length=N at *
 refine rS ?_ ?_
 .walk_at "vc"
  rw [em]
  walk_at "vc"
  simp
  ext hp
 walk_at "v1"
 refine rS ?_ ?_
 .walk_at "vc"
  rw [em]
  walk_at "vc"
  simp
  ext h3
 walk_at "v1"
 rw [tO Row.d (λr=>.lst false [r.d]) (λe=>∃x0,e=[x0,.sh (.lst false [])]) A (λr hr e he=>?_) ⟨_,rfl⟩]
 .rw [cj,a0h]
  refine ⟨by ext hp l1,by rw [cj];ext hp l1,?_⟩
  walk_at "v1"
  rw [BS]
  rw [Li,K7 (by rfl)]
  walk_at "v1"
  refine oE (λr:Row=>D.lst false [r.d]) (λpre env=>∃x4,env=[.sh (.lst ro [.tup (A.map Row.d),.tup (B.map Row.d)]),.sh (.lst false (A.map λr=>.lst false [r.d])),.sh (.tup (B.map Row.d)),.ow (pairD pre B),x4]) A (λpre r post env e h=>?_) (λenv h=>?_) ⟨_,rfl⟩
  .obtain ⟨x4,rfl⟩:=h
   have dG:=Gi pre B
   have DT:pre.length*B.length+B.length<=N:=by
    rw [<-hN,e,dq,pB,JJ,JJ,Nat.one_mul]
    ext
   walk_at "v1"
   rw [tO Row.d (λs=>.lst false [r.d,s.d]) (λe=>∃x0,e=[x0,.sh (.lst false [r.d])]) B (λs hs e he=>?_) ⟨_,rfl⟩]
   .rw [cj,a0h]
    walk_at "v1"
    rw [cj]
    refine ⟨by ext hp l2,by ext hp dG DT,.sh (.lst false [r.d]),?_⟩
    unfold pairD
    rw [Qe]
    simp
   .obtain ⟨x0,rfl⟩:=he
    walk_at "vc"
    exact ⟨⟨_,rfl⟩,rfl⟩
  .obtain ⟨x4,rfl⟩:=h
   walk_at "v1"
   rw [Li,K7 (by rfl)]
   walk_at "vc"
 .obtain ⟨x0,rfl⟩:=he
  walk_at "vc"
  exact ⟨⟨_,rfl⟩,rfl⟩
noncomputable def ij(A B:List Row):List (Row×Row):=A.flatMap λr=>B.map λs=>(r,s)
theorem LR(A B:List Row):pairD A B=(ij A B).map λp=>.lst false [p.1.d,p.2.d]:=by
 unfold pairD ij
 rw [List.map_flatMap]
 simp only [lD]
 rfl
theorem aI{A B:List Row}{p:Row×Row}:p∈ij A B↔p.1∈A/\p.2∈B:=by
 unfold ij
 simp only [Kr,mV]
 constructor
 .rintro ⟨r,hr,s,hs,rfl⟩;exact ⟨hr,hs⟩
 .rintro ⟨h1,h2⟩;exact ⟨p.1,h1,p.2,h2,rfl⟩
theorem pairs_len(A B:List Row):(ij A B).length=A.length*B.length:=by
 rw [<-Gi,LR,cj]
theorem b6t{A B:List Row}(hA:FV (10^60) (10^130) A)(hB:FV (10^60) (10^130) B)(ha:A≠[])(hb:B≠[]){n m:Nat}(hp:A.length*B.length<=n)(hn:n<=100)(LO:yA tW n m):∃fs:List Row,tT [.tup (A.map Row.d),.tup (B.map Row.d)]=some (.sh (.tup (fs.map Row.d)))/\Canon fs/\(∀x c,look fs x=some c↔qG A B x c)/\fs.length<=m:=by
 have one:∀p:Row×Row,∃f:List Row,PB p.1/\PB p.2->vY [.lst false [p.1.d,p.2.d]]=some (.sh (.tup (f.map Row.d)))/\Canon f/\f.length<=3/\∀x c,Val f x c↔Conv p.1 p.2 x c:=λp=>by
  by_cases h:PB p.1/\PB p.2
  .obtain ⟨f,e⟩:=b8T h.1 h.2 (ro:=false)
   exact ⟨f,λ_=>e⟩
  .exact ⟨[],λz=>absurd z h⟩
 obtain ⟨ff,IS⟩:=Classical.axiomOfChoice one
 have Ir:∀p∈ij A B,PB p.1/\PB p.2:=λp hp=>⟨hA.pb _ (aI.mp hp).1,hB.pb _ (aI.mp hp).2⟩
 have cC:(ij A B).map ff≠[]:=KD (by rw [cj,pairs_len];exact Nat.mul_pos (pC.mpr ha) (pC.mpr hb))
 have hF:∀f∈(ij A B).map ff,FV (2*10^60) (2*10^130) f/\f.length<=3:=λf hf=>by
  obtain ⟨p,hp,rfl⟩:=mV.mp hf
  obtain ⟨e1,e2,e3,e4⟩:=IS p (Ir p hp)
  refine ⟨⟨e2,λx c h=>?_⟩,e3⟩
  obtain ⟨⟨y,z,hy,hz,k,rfl⟩,_⟩:=(e4 x c).mp ((qE e2.gp).mp h)
  have b1:=hA.bd y _ (nL hA.canon.gp (aI.mp hp).1 hy.1 hy.2)
  have b2:=hB.bd z _ (nL hB.canon.gp (aI.mp hp).2 hz.1 hz.2)
  ext k b1 b2
 obtain ⟨fs,e,c,mf,lf⟩:=LO (V:=2*10^60) (C:=2*10^130) (r:=false) (by decide) (by decide) hF cC (by rw [cj,pairs_len];exact hp)
 refine ⟨fs,?_,c,λx v=>?_,lf⟩
 .refine Wo.eq (m6.mpr ?_)
  unfold FF
  walk_at "v1"
  have el:yw [.lst false [.tup (A.map Row.d),.tup (B.map Row.d)]]=some (.sh (.tup (fs.map Row.d))):=by
   refine Wo.eq (eh.mpr ?_)
   unfold Gx
   walk_at "v1"
   rw [Mc ha hb (by ext hp hn)]
   walk_at "v1"
   rw [LR,tO (λp:Row×Row=>D.lst false [p.1.d,p.2.d]) (λp=>.tup ((ff p).map Row.d)) (λe=>∃x0,e=[x0]) (ij A B) (λp hp e he=>?_) ⟨_,rfl⟩]
   .walk_at "v1"
    rw [lD] at e
    rw [cj,pairs_len]
    refine ⟨by ext hp hn,?_⟩
    rw [show (λp=>D.tup ((ff p).map Row.d))=(λf:List Row=>D.tup (f.map Row.d))∘ff from rfl,e]
    walk_at "vc"
   .obtain ⟨x0,rfl⟩:=he
    walk_at "vc"
    rw [(IS p (Ir p hp)).1]
    walk_at "vc"
    exact ⟨_,rfl⟩
  rw [el]
  walk_at "vc"
 .rw [<-Rm hA.canon.gp.1 hB.canon.gp.1,mf x v]
  unfold Pk
  have cv:∀p∈ij A B,∀w,look (ff p) x=some w↔Conv p.1 p.2 x w:=λp hp w=>by
   obtain ⟨_,e2,_,e4⟩:=IS p (Ir p hp)
   rw [qE e2.gp,e4]
  constructor
  .rintro ⟨⟨f,hf,k⟩,m⟩
   obtain ⟨p,hp,rfl⟩:=mV.mp hf
   refine ⟨⟨p.1,(aI.mp hp).1,p.2,(aI.mp hp).2,(cv p hp v).mp k⟩,λr hr s hs c' h'=>m _ (mV.mpr ⟨(r,s),aI.mpr ⟨hr,hs⟩,rfl⟩) c' ((cv (r,s) (aI.mpr ⟨hr,hs⟩) c').mpr h')⟩
  .rintro ⟨⟨r,hr,s,hs,k⟩,m⟩
   refine ⟨⟨ff (r,s),mV.mpr ⟨(r,s),aI.mpr ⟨hr,hs⟩,rfl⟩,(cv (r,s) (aI.mpr ⟨hr,hs⟩) v).mpr k⟩,λf hf w hw=>?_⟩
   obtain ⟨p,hp,rfl⟩:=mV.mp hf
   exact m p.1 (aI.mp hp).1 p.2 (aI.mp hp).2 w ((cv p hp w).mp hw)
theorem b3N{A B:List Row}(h:A=[]\/B=[])(l1:A.length<=900000)(l2:B.length<=900000):tT [.tup (A.map Row.d),.tup (B.map Row.d)]=some (.sh (.tup [])):=by
 refine Wo.eq (m6.mpr ?_)
 unfold FF
 walk_at "v1"
 have ez:(A.length:Int)*B.length=0:=by rcases h with rfl | rfl<;>simp
 have ep:qB [.lst false [.tup (A.map Row.d),.tup (B.map Row.d)]]=some (.ow []):=by
  refine Wo.eq (jM.mpr ?_)
  unfold Cv
  walk_at "v1"
  refine rS ?_ ?_
  .walk_at "vc"
   rw [Cr A B l1 l2,ez]
   walk_at "vc"
  walk_at "vc"
  rw [Cr A B l1 l2,ez]
  walk_at "vc"
 have el:yw [.lst false [.tup (A.map Row.d),.tup (B.map Row.d)]]=some (.sh (.tup [])):=by
  refine Wo.eq (eh.mpr ?_)
  unfold Gx
  walk_at "v1"
  rw [ep]
  walk_at "v1"
  rw [show tW [.lst false []]=some (.sh (.tup [])) from Wo.eq (eW.mpr (by
   unfold NC
   walk_at "vc"
   exact λz=>nomatch z))]
  walk_at "vc"
 rw [el]
 walk_at "vc"
theorem Bq{A B:List Row}(hA:FV (10^60) (10^130) A)(hB:FV (10^60) (10^130) B)(l1:A.length<=900000)(l2:B.length<=900000){n m:Nat}(hp:A.length*B.length<=n)(hn:n<=100)(LO:yA tW n m):∃fs:List Row,tT [.tup (A.map Row.d),.tup (B.map Row.d)]=some (.sh (.tup (fs.map Row.d)))/\Canon fs/\(∀x c,look fs x=some c↔qG A B x c)/\fs.length<=m:=by
 by_cases h:A=[]\/B=[]
 .refine ⟨[],b3N h l1 l2,⟨λr hr=>(nomatch hr),trivial⟩,λx c=>⟨λz=>(nomatch z),λz=>?_⟩,og _⟩
  obtain ⟨⟨y,w,cy,cw,⟨r,hr,_⟩,⟨s,hs,_⟩,_⟩,_⟩:=z
  rcases h with rfl | rfl
  .cases hr
  .cases hs
 .exact b6t hA hB (λz=>h (.inl z)) (λz=>h (.inr z)) hp hn LO
theorem b7R{A B fs:List Row}{V C:Int}(hA:FV V C A)(hB:FV V C B)(c:Canon fs)(h:∀x v,look fs x=some v↔qG A B x v):FV (2*V) (2*C) fs:=⟨c,λx v e=>by
 obtain ⟨⟨y,z,cy,cz,hy,hz,k,rfl⟩,_⟩:=(h x v).mp e
 have b1:=hA.bd y cy ((qE hA.canon.gp).mpr hy)
 have b2:=hB.bd z cz ((qE hB.canon.gp).mpr hz)
 ext k b1 b2⟩
theorem FW{rs:List Row}{n:Nat}(h:n<rs.length):eH (rs.map Row.d) (n:Int)=some (Row.d rs[n]):=by
 rw [DL.c7];simp [h]
theorem b6v{rs:List Row}(ha:dS rs)(hl:rs.length<=900000)(x:Int):∃n:Nat,ye [.tup (rs.map Row.d),.int x]=some (.sh (.int n))/\n<=rs.length/\(∀i (h:i<rs.length),i<n->rs[i].2.1<x)/\(∀i (h:i<rs.length),n<=i->x<=rs[i].2.1):=by
 have mono:∀i j (hi:i<rs.length) (hj:j<rs.length),i<=j->rs[i].2.1<=rs[j].2.1:=λi j hi hj h=>by
  rcases Nat.lt_or_eq_of_le h with h | rfl
  .have:=(xw.mp ha.2) i j hi hj h
   have:=ha.1 _ (oq hj)
   lia
  .exact eQ _
 have key:Wo (ye [.tup (rs.map Row.d),.int x]) λs=>∃n:Nat,s=.sh (.int n)/\n<=rs.length/\(∀i (h:i<rs.length),i<n->rs[i].2.1<x)/\(∀i (h:i<rs.length),n<=i->x<=rs[i].2.1):=by
  refine ml.mpr ?_
  unfold M7
  walk_at "vc"
  rw [cj,Mf]
  refine CQ (λm env=>∃x4,∃f b:Nat,env=[.sh (.tup (rs.map Row.d)),.sh (.int x),.sh (.int f),.sh (.int b),x4]/\m=b-f/\f<=b/\b<=rs.length/\(∀i (h:i<rs.length),i<f->rs[i].2.1<x)/\(∀i (h:i<rs.length),b<=i->x<=rs[i].2.1)) (λm env h=>?_) _ rs.length
   (show rs.length<1000000 by ext hl) ⟨_,0,rs.length,rfl,by simp,by simp,bA _,λi h z=>absurd z (JN _),λi h z=>absurd h (by ext z)⟩
  obtain ⟨x4,f,b,rfl,rfl,h1,h2,h3,h4⟩:=h
  walk_at "vc"
  refine ⟨λaY=>?_,λmK=>⟨f,rfl,by ext h1 h2,h3,λi h z=>h4 i h (by ext mK z)⟩⟩
  have hm:((f:Int)+b)/2=(((f+b)/2:Nat):Int):=by lia
  have oY:(f+b)/2<rs.length:=by lia
  rw [hm,FW oY,dh]
  walk_at "vc"
  refine ⟨by walk_at "sc",λhc=>?_,λhc=>?_⟩
  .exact ⟨b-((f+b)/2+1),by (clear h1 hc;omega),_,(f+b)/2+1,b,rfl,rfl,by lia,h2,λi h z=>Int.lt_of_le_of_lt (mono i ((f+b)/2) h oY (by ext z)) hc,h4⟩
  .exact ⟨(f+b)/2-f,by lia,_,f,(f+b)/2,rfl,rfl,by lia,by ext oY,h3,λi h z=>J4 (by ext oY hc) (mono ((f+b)/2) i oY h z)⟩
 obtain ⟨s,e,n,rfl,h⟩:=key
 exact ⟨n,e,h⟩
theorem b3R{rs:List Row}(ha:dS rs)(hl:rs.length<=900000)(hb:∀r∈rs,aD (10^140) r){x:Int}(hx:-(10^140)<=x/\x<=10^140):yj [.tup (rs.map Row.d),.int x]=some (.sh (rz (look rs x))):=by
 refine Wo.eq (nU.mpr ?_)
 unfold MS
 walk_at "vc"
 obtain ⟨n,en,hn,h1,h2⟩:=b6v ha hl x
 rw [en]
 walk_at "vc"
 rw [cj]
 have split:rs=rs.take n++rs.drop n:=(nC n rs).symm
 have fT:∀q∈rs.take n,q.2.1<x:=λq hq=>by
  obtain ⟨i,hi,rfl⟩:=rJ.mp hq
  rw [jk] at hi
  rw [EK]
  exact h1 i (by ext hi) (by ext hi)
 have lk:look rs x=look (rs.drop n) x:=by
  have:=MK (x:=x) (post:=rs.drop n) fT
  rwa [<-split] at this
 refine ⟨λhe=>?_,λhe=>?_⟩
 .have:rs.drop n=[]:=oi (by ext he)
  rw [lk,this];rfl
 .have aY:n<rs.length:=by ext hn he
  have hd:rs.drop n=rs[n]::rs.drop (n+1):=jT aY
  have hr:=hb rs[n] (oq aY)
  have hle:=h2 n aY (bA _)
  unfold aD at hr
  rw [FW aY,dh]
  walk_at "vc"
  refine ⟨λDQ=>?_,λDQ=>?_⟩
  .rw [lk,T8];rfl
   intro q hq
   rw [hd] at hq
   rcases bI.mp hq with rfl | hq
   .exact .inl DQ
   .have hp:=ha.2
    rw [split,hd] at hp
    have:=(iC.mp (gm.mp hp).2.1).1 q hq
    have:=ha.1 rs[n] (oq aY)
    exact .inl (Int.lt_of_le_of_lt ‹_› ‹_›)
  .rw [<-dh,FZ (by ext aY hr) (by ext aY hr) (by ext aY DQ) (by ext aY hx hr)]
   walk_at "vc"
   rw [lk,hd,look,if_pos ⟨by ext aY DQ,hle⟩]
   rfl
theorem Ls(n f:Int)(h:0<=f/\f<2^62):∃m:Int,v5 [.int n,.int f]=some (.sh (.int m))/\0<=m/\m<2147483629:=by
 refine ⟨n%2147483629*f%2147483629,?_,kG _ (by decide),kH _ (by decide)⟩
 refine Wo.eq (kX.mpr ?_)
 unfold Nk
 walk_at "vc"
 exact .inr (.inl (by ext h))
theorem b6C{rs:List Row}{q:Row}(h:rs.getLast?=some q):eH (rs.map Row.d) (-1)=some q.d:=by
 obtain ⟨pre,rfl⟩:=Qv.mp h
 rw [ic]
 exact fF
def gi(i:Nat)(r:Row):Prop:=r.1<=r.2.1/\r.2.1-r.1<=10^41/\(-(10^50+i*10^42)<=r.1/\r.1<=10^50+i*10^42)/\(-(10^41+i*10^84)<=r.2.2.1/\r.2.2.1<=10^41+i*10^84)/\(-(10^42)<=r.2.2.2/\r.2.2.2<=10^42)
theorem b1T{n:Int}(hn:0<=n/\n<10^18){ro:Bool}{rs:List Row}{i:Nat}(hi:i<=10)(hl:rs.length<=10)(hb:∀r,rs.getLast?=some r->gi i r):∃r:Row,yq [.int n,.lst ro (rs.map Row.d)]=some (.sh r.d)/\gi (i+1) r/\∀q,rs.getLast?=some q->q.2.1<r.1:=by
 have key:Wo (yq [.int n,.lst ro (rs.map Row.d)]) λs=>∃r:Row,s=.sh r.d/\gi (i+1) r/\∀q,rs.getLast?=some q->q.2.1<r.1:=by
  refine iV.mpr ?_
  unfold NB
  obtain ⟨one,e1,b1⟩:=Ls n 1583458089 (by decide)
  obtain ⟨two,e2,b2⟩:=Ls n 784588716 (by decide)
  obtain ⟨three,e3,b3⟩:=Ls n 950706376 (by decide)
  walk_at "v1"
  have f1:=kG (n*48271^12) (show (10^50:Int)≠0 by decide)
  have f2:=kH (n*48271^12) (show (0:Int)<10^50 by decide)
  have w1:=kG (n*69621^12) (show (10^40:Int)≠0 by decide)
  have w2:=kH (n*69621^12) (show (0:Int)<10^40 by decide)
  generalize n*48271^12%10^50=far at *
  generalize n*69621^12%10^40=wide at *
  rw [e1]
  walk_at "v1"
  rw [e2]
  walk_at "v1"
  rw [e3]
  walk_at "v1"
  refine ⟨by decide,.inl (by ext hn),by decide,by decide,by decide,.inl (by ext hn),by decide,by decide,?_⟩
  walk_at "st"
  refine xU [0,one/7%41-20,far-5*10^49] (kG _ (by decide)) (kH _ (by decide)) λlow AD=>?_
  have AD:-(10^50)<=low/\low<=10^50:=by simp at AD;lia
  walk_at "v1"
  walk_at "st"
  refine xU [two/5%61-30,wide-5*10^39] (kG _ (by decide)) (kH _ (by decide)) λprice oV=>?_
  have oV:-(10^41)<=price/\price<=10^41:=by simp at oV;lia
  walk_at "v1"
  walk_at "st"
  refine xU [0,three/9%7-3,three/9%7-3,far/10^9-5*10^40] (kG _ (by decide)) (kH _ (by decide)) λstep sH=>?_
  have sH:-(10^42)<=step/\step<=10^42:=by simp at sH;lia
  walk_at "v1"
  walk_at "st"
  refine xU [1,2,1+one/300%9,1+wide] (kG _ (by decide)) (kH _ (by decide)) λsize sI=>?_
  have sI:1<=size/\size<=10^41:=by simp at sI;lia
  walk_at "v1"
  rw [a2h]
  walk_at "v1"
  rw [cj]
  cases hq:rs.getLast? with
  | none =>
   have:rs=[]:=List.getLast?_eq_none_iff.mp hq
   subst this
   refine ⟨λz=>absurd z (by simp),λ_=>?_⟩
   walk_at "vc"
   exact ⟨(low,low+size-1,price,step),rfl,(by unfold gi;dsimp only;lia:gi (i+1) (low,low+size-1,price,step))⟩
  | some q =>
   have rk:=hb q hq
   refine ⟨λ_=>?_,λz=>absurd z (by
    have:rs≠[]:=λw=>by rw [w] at hq;cases hq
    have:=pC.mpr this
    ext this)⟩
   rw [b6C hq,a0h,dh q]
   walk_at "v1"
   unfold gi at rk
   refine ⟨tM (by decide) (by decide),by decide,by decide,tM (by decide) (by decide),?_⟩
   refine xU [0,0,1+two/3000%5,far%10^40] (kG _ (by decide)) (kH _ (by decide)) λgap uP=>?_
   have uP:0<=gap/\gap<=10^40:=by simp at uP;lia
   walk_at "v1"
   have hmul:=QJ (a:=q.2.2.2) (b:=q.2.1-q.1+1) (A:=10^42) (B:=10^41+1) (by ext rk) (by ext rk) (by ext rk) (by ext rk)
   refine b6X (λd=>∃p:Int,d=.int p /\ -(10^41+((i+1:Nat):Int)*10^84)<=p/\p<=10^41+((i+1:Nat):Int)*10^84) (by simp) ?_ λd hd=>?_
   .walk_at "vc"
    refine ⟨tM (by decide) (by decide),λ_=>⟨FR (by ext rk) (by ext rk) (by ext rk) (by ext rk),tM (by decide) (by decide),_,rfl,by lia,by lia⟩,λ_=>⟨_,rfl,_,rfl,by lia,by lia⟩⟩
   obtain ⟨p,rfl,hp⟩:=hd
   walk_at "vc"
   exact ⟨(q.2.1+1+gap,q.2.1+1+gap+size-1,p,step),rfl,(by unfold gi;dsimp only;lia:gi (i+1) (q.2.1+1+gap,q.2.1+1+gap+size-1,p,step)),λq' z=>by cases z;dsimp only;ext uP⟩
 obtain ⟨s,e,r,rfl,h⟩:=key
 exact ⟨r,e,h⟩
theorem b30{rs:List Row}{r:Row}(h:dS rs)(hr:r.1<=r.2.1)(hl:∀q,rs.getLast?=some q->q.2.1<r.1):dS (rs++[r]):=by
 have g0:∀q∈rs,q.2.1<r.1:=λq hq=>by
  obtain ⟨z,hz⟩:∃z,rs.getLast?=some z:=⟨_,QA (Kd hq)⟩
  obtain ⟨pre,e⟩:=Qv.mp hz
  subst e
  have h1:=hl z hz
  rcases bX.mp hq with hm | hm
  .have:=(gm.mp h.2).2.2 q hm z (by simp)
   have:=h.1 z (by simp)
   lia
  .rw [bT.mp hm];exact h1
 refine ⟨λq hq=>?_,gm.mpr ⟨h.2,qj _ _,λa ha b hb=>?_⟩⟩
 .rcases bX.mp hq with h' | h'
  .exact h.1 q h'
  .rw [bT.mp h'];exact hr
 .rw [bT.mp hb];exact g0 a ha
theorem gi.mono{i j:Nat}{r:Row}(h:gi i r)(cI:i<=j):gi j r:=by
 unfold gi at *
 omega
theorem b8S{ls:List Int}(hb:∀n∈ls,0<=n/\n<10^18)(hl:ls.length<=4){ro:Bool}:∃rs:List Row,tY [.lst ro (ls.map D.int)]=some (.ow (rs.map Row.d))/\rs.length=ls.length/\dS rs/\∀r∈rs,gi 4 r:=by
 have key:Wo (tY [.lst ro (ls.map D.int)]) λs=>∃rs:List Row,s=.ow (rs.map Row.d)/\rs.length=ls.length/\dS rs/\∀r∈rs,gi 4 r:=by
  refine mm.mpr ?_
  unfold M6
  walk_at "v1"
  refine oE D.int (λpre env=>∃x2,∃rs:List Row,env=[.sh (.lst ro (ls.map D.int)),.ow (rs.map Row.d),x2]/\rs.length=pre.length/\dS rs/\∀r∈rs,gi pre.length r) ls (λpre n post env e h=>?_) (λenv h=>?_) ⟨_,[],rfl,rfl,⟨λ_ z=>(nomatch z),.nil⟩,λ_ z=>(nomatch z)⟩
  .obtain ⟨x2,rs,rfl,h1,h2,h3⟩:=h
   have dG:pre.length<4:=by have:=congrArg wR e;simp at this;ext hl this
   obtain ⟨r,er,hr,hq⟩:=b1T (hb n (by rw [e];simp)) (rs:=rs) (i:=pre.length) (ro:=false) (by ext dG) (by ext h1 dG) (λr hr=>h3 r (KO hr))
   walk_at "v1"
   refine b4p (ds:=rs.map Row.d) rfl ?_
   walk_at "v1"
   rw [er]
   walk_at "v1"
   rw [cj]
   refine ⟨r.d,rfl,rfl,by ext h1 dG,_,rs++[r],by rw [ic];rfl,by simp;assumption,b30 h2 hr.1 hq,λq jR=>?_⟩
   rw [dq]
   rcases bX.mp jR with h | h
   .exact (h3 q h).mono (by simp)
   .rw [bT.mp h];exact hr
  .obtain ⟨x2,rs,rfl,h1,h2,h3⟩:=h
   walk_at "vc"
   exact ⟨rs,rfl,h1,h2,λr hr=>(h3 r hr).mono hl⟩
 obtain ⟨s,e,rs,rfl,h⟩:=key
 exact ⟨rs,e,h⟩
theorem gi.bd{r:Row}(h:gi 4 r):aD (10^140) r:=by
 unfold gi at h
 unfold aD
 omega
noncomputable def u7(ls:List Int)(a c:Int):List Int:=(fq (dW a ls.length c)).map λ(j:Nat)=>ls.getD (a+(j:Int)*c).toNat 0
theorem b6e{ls:List Int}(h:∀v∈ls,0<=v/\v<10^18)(k:Nat):0<=ls.getD k 0/\ls.getD k 0<10^18:=by
 by_cases hk:k<ls.length
 .rw [show ls.getD k 0=ls[k] by simp [hk]]
  exact h _ (oq hk)
 .rw [show ls.getD k 0=0 by simp [Kw hk]]
  decide
theorem Sd{ls:List Int}{a c:Int}(ha:0<=a)(hc:0<c):jn (gN 0) lG (ax (bV 1) (eV 0)) (jv a c (dW a ls.length c)) [.no,.sh (.lst false (ls.map D.int))]=some ((u7 ls a c).map D.int):=by
 unfold jv
 rw [tO (λ(j:Nat)=>D.int (a+(j:Int)*c)) (λj=>D.int (ls.getD (a+(j:Int)*c).toNat 0)) (λe=>∃x,e=[x,.sh (.lst false (ls.map D.int))]) (fq (dW a ls.length c)) (λj hj e he=>?_) ⟨_,rfl⟩]
 .unfold u7
  rw [lD]
  rfl
 .obtain ⟨x,rfl⟩:=he
  have sN:=qi.mp hj
  have ZP:a+j*c<ls.length:=by
   unfold dW at sN
   split at sN
   .have h0:0<=((ls.length:Int)-a-1)/c:=JL (by lia) (by ext hc)
    have h1:(j:Int)<=((ls.length:Int)-a-1)/c:=by ext sN
    have h2:=(Int.le_ediv_iff_mul_le hc).mp h1
    ext h2
   .contradiction
  have ZE:(0:Int)<=j*c:=vE (by ext) (by ext hc)
  walk_at "vc"
  rw [Ga 0 (by ext ha ZE) ZP]
  walk_at "vc"
  exact ⟨_,rfl⟩
theorem Md{ls:List Int}{a:Int}(ha:0<=a){c:Int}(hc:2<=c)(hl:ls.length<=6):(u7 ls a c).length<=3:=by
 unfold u7 dW
 rw [cj,BP]
 split
 .have:((ls.length:Int)-a-1)/c<3:=Int.ediv_lt_of_lt_mul (by ext hc) (by ext ha hc hl)
  ext this
 .decide
theorem RD{ls:List Int}(h:∀v∈ls,0<=v/\v<10^18)(a c:Int):∀v∈u7 ls a c,0<=v/\v<10^18:=λv hv=>by
 unfold u7 at hv
 obtain ⟨j,_,rfl⟩:=mV.mp hv
 exact b6e h _
theorem RB{ls:List Int}(hb:∀v∈ls,0<=v/\v<10^18)(hl:ls.length<=4):∃rs fs:List Row,tY [.lst false (ls.map D.int)]=some (.ow (rs.map Row.d))/\qF [.lst false (rs.map Row.d)]=some (.sh (.tup (fs.map Row.d)))/\Laid rs fs/\FV (10^52) (10^86) fs/\fs.length<=ls.length/\dS rs/\(∀r∈rs,gi 4 r)/\rs.length=ls.length:=by
 obtain ⟨rs,er,h1,h2,h3⟩:=b8S hb hl (ro:=false)
 obtain ⟨fs,ef,L⟩:=Ly h2 (λr hr=>(h3 r hr).bd) (by ext hl h1) (ro:=false)
 refine ⟨rs,fs,er,ef,L,⟨L.canon,λx c h=>?_⟩,by have:=L.len;ext h1 this,h2,h3,h1⟩
 obtain ⟨r,hr,k1,k2,rfl⟩:=(L.val x c).mp ((qE L.canon.gp).mp h)
 have b:=h3 r hr
 unfold gi at b
 have m:=QJ (a:=r.2.2.2) (b:=x-r.1) (A:=10^42) (B:=10^41) (by ext b) (by ext b) (by ext k1) (by ext k2 b)
 unfold Row.at
 omega
theorem FO{V C V' C':Int}{f:List Row}(h:FV V C f)(h1:V<=V')(h2:C<=C'):FV V' C' f:=⟨h.canon,λx c e=>by have:=h.bd x c e;ext h1 h2 this⟩
theorem QP{ls:List Int}(hl:ls.length<=6){a c:Int}(ha:0<=a/\a<=10)(hc:2<=c/\c<=10):kZ a ls.length c/\(jv a c (dW a ls.length c)).length<=16777216:=by
 have:=Md (ls:=ls) ha.1 hc.1 hl
 unfold u7 at this
 rw [cj,BP] at this
 refine ⟨⟨⟨by ext hc,by ext hc⟩,⟨by ext ha,by ext ha⟩,by ext,by ext hl⟩,?_⟩
 unfold jv
 rw [cj,BP]
 ext this
theorem YD:yA tW 16 12288:=
 F6 (n:=8) (m:=1536) (by decide) (by decide) (by decide) (F6 (n:=4) (m:=192) (by decide) (by decide) (by decide) (F6 (n:=2) (m:=24) (by decide) (by decide) (by decide) (F6 (n:=1) (m:=3) (by decide) (by decide) (by decide) (RQ (φ:=CW) a7e) (φ:=yr) a7d) (φ:=yt) a7c) (φ:=yu) a7b) (φ:=yv) eW
theorem b8R{A B:List Row}(hA:FV (10^52) (10^86) A)(hB:FV (10^52) (10^86) B)(l1:A.length<=3)(l2:B.length<=3):∃fs:List Row,tT [.tup (A.map Row.d),.tup (B.map Row.d)]=some (.sh (.tup (fs.map Row.d)))/\Canon fs/\(∀x c,look fs x=some c↔qG A B x c)/\fs.length<=12288:=
 Bq (FO hA (by decide) (by decide)) (FO hB (by decide) (by decide)) (by ext l1) (by ext l2) (n:=16) (dY (Nat.mul_le_mul l1 l2) (by decide)) (by decide) YD
theorem b6I{i:Nat}{hit:Str->Bool}{Fb Fh:SF}{rb:RF}{env:En}{Q:Fl×En->Prop}(h:Wo (Fb env) Q):Wo (j0 i hit Fb rb Fh env) Q:=by
 obtain ⟨x,e,q⟩:=h
 exact ⟨x,by unfold j0;rw [e],q⟩
theorem b6H{i:Nat}{hit:Str->Bool}{Fb Fh:SF}{rb:RF}{env env1:En}{nm:Str}{Q:Fl×En->Prop}(h:Fb env=none)(h1:rb env=some (nm,env1))(h2:hit nm=true)(h3:i<env1.length)
  (h4:Wo (Fh (env1.set i (.sh (.exc nm)))) λp=>Q (p.1,p.2.set i .no)):Wo (j0 i hit Fb rb Fh env) Q:=by
 obtain ⟨⟨fl,e2⟩,e,q⟩:=h4
 refine ⟨(fl,e2.set i .no),?_,q⟩
 unfold j0
 rw [h,h1]
 dsimp only
 rw [if_pos ⟨h2,h3⟩,e]
theorem none_of{α:Type}{o:Option α}(h:¬Wo o λ_=>True):o=none:=by
 cases o with
 | none=>rfl
 | some a=>exact absurd ⟨a,rfl,trivial⟩ h
theorem SJ{r:RF}{F:SF}{r':RF}{env:En}{x:Str×En}(h:r env=some x):e9 r F r' env=some x:=by
 unfold e9
 rw [h]
theorem zi{c:En->Option Bool}{r r':RF}{env:En}(h:c env=some true):oK c r r' env=r env:=by
 unfold oK
 rw [h]
theorem Uc{rs:List Row}{x:Int}(hb:∀r∈rs,aD (10^120) r)(hx:-(10^120)<=x/\x<=10^120){ro:Bool}:yn [.lst ro (rs.map Row.d),.int x]=some (.sh (rz (look rs x))):=by
 refine Wo.eq (mn.mpr ?_)
 unfold M5
 walk_at "v1"
 refine oE Row.d (λpre env=>∃x2 x3 x4 x5 rest,env=[.sh (.lst ro (rs.map Row.d)),.sh (.int x),x2,x3,x4,x5]/\rs=pre++rest/\look rs x=look rest x) rs (λpre r post env e h=>?_) (λenv h=>?_) ⟨_,_,_,_,rs,rfl,rfl,rfl⟩
 .obtain ⟨x2,x3,x4,x5,rest,rfl,e2,iw⟩:=h
  obtain rfl:rest=r::post:=EZ (e2.symm.trans e)
  have hr:=hb r (by rw [e];simp)
  unfold aD at hr
  have hm:MulC r.2.2.2 (x-r.1):=FR (by ext hr) (by ext hr) (by ext hx hr) (by ext hx hr)
  rw [look] at iw
  rw [dh r]
  walk_at "vc"
  refine ⟨λh1=>⟨λh2=>⟨hm,?_⟩,λh2=>?_⟩,λh1=>?_⟩
  .rw [iw,if_pos ⟨h1,h2⟩];rfl
  .rw [if_neg (by ext h2)] at iw
   exact ⟨_,_,_,_,post,rfl,by rw [e];simp,iw⟩
  .rw [if_neg (by ext h1)] at iw
   exact ⟨_,_,_,_,post,rfl,by rw [e];simp,iw⟩
 .obtain ⟨x2,x3,x4,x5,rest,rfl,e2,iw⟩:=h
  have:rest=[]:=by simpa using e2
  subst this
  walk_at "vc"
  rw [iw];rfl
noncomputable def de(rs:List Row)(i:Nat):Row:=rs.getD i (0,0,0,0)
def Pt(l:Int)(r:Row)(y:Int):Prop:=gh r y/\(r.2.2.2<l->y=r.2.1)/\(l<r.2.2.2->y=r.1)
structure Gr(rs:List Row)(x:Int)(pre post:List Nat)(ys:List Int)(left:Int):Prop where
 len:ys.length=rs.length
 rest:∀i∈post,ys.getD i 0=(de rs i).1
 box:∀i∈pre,gh (de rs i) (ys.getD i 0)
 nn:0<=left
 sum:ys.sum+left=x
 full:0<left->∀i∈pre,ys.getD i 0=(de rs i).2.1
 OH:left=0->∃l,(∀i∈pre,Pt l (de rs i) (ys.getD i 0))/\∀i∈post,l<=(de rs i).2.2.2
theorem sum_set:∀{ys:List Int} {k:Nat} {m:Int},k<ys.length->(ys.set k (ys.getD k 0+m)).sum=ys.sum+m
 | [],k,m,h=>absurd h (JN _)
 | y::ys,0,m,_=>by
  show (y+m)+ys.sum=y+ys.sum+m
  ext
 | y::ys,k+1,m,h=>by
  have:=sum_set (ys:=ys) (k:=k) (m:=m) (by simpa using h)
  show y+(ys.set k (ys.getD k 0+m)).sum=y+ys.sum+m
  ext this
theorem Tf{ys:List Int}{k i:Nat}{v:Int}(h:k<ys.length):(ys.set k v).getD i 0=if i=k then v else ys.getD i 0:=by
 rw [vH,EM]
 by_cases c:k=i
 .subst c;simp [h]
 .rw [if_neg c,if_neg (fE c),<-vH]
theorem Gr.next{rs:List Row}{x:Int}{pre post:List Nat}{k:Nat}{ys:List Int}{left:Int}(g:Gr rs x pre (k::post) ys left)(hk:k<rs.length)(hp:k∉pre)(hq:k∉post)(h1:∀i∈pre,(de rs i).2.2.2<=(de rs k).2.2.2)(h2:∀j∈post,(de rs k).2.2.2<=(de rs j).2.2.2)(hw:(de rs k).1<=(de rs k).2.1):
  Gr rs x (pre++[k]) post (ys.set k (ys.getD k 0+min left ((de rs k).2.1-(de rs k).1))) (left-min left ((de rs k).2.1-(de rs k).1)):=by
 have hl:k<ys.length:=by rw [g.len];exact hk
 have e0:=g.rest k (cM ..)
 have nn:=g.nn
 have ek:∀i,i≠k->(ys.set k (ys.getD k 0+min left ((de rs k).2.1-(de rs k).1))).getD i 0=ys.getD i 0:=λi hi=>by rw [Tf hl,if_neg hi]
 have D8:(ys.set k (ys.getD k 0+min left ((de rs k).2.1-(de rs k).1))).getD k 0=(de rs k).1+min left ((de rs k).2.1-(de rs k).1):=by rw [Tf hl,if_pos rfl,e0]
 have np:∀i∈pre,i≠k:=λi hi z=>hp (z▸hi)
 have nq:∀i∈post,i≠k:=λi hi z=>hq (z▸hi)
 refine ⟨by rw [BM];exact g.len,λi hi=>by rw [ek i (nq i hi)];exact g.rest i (cY _ hi),λi hi=>?_,by ext,by rw [sum_set hl];have:=g.sum;ext this,λni i hi=>?_,λhz=>?_⟩
 .rcases bX.mp hi with hi | hi
  .rw [ek i (np i hi)];exact g.box i hi
  .rw [bT.mp hi,D8]
   unfold gh
   ext hw nn
 .rcases bX.mp hi with hi | hi
  .rw [ek i (np i hi)];exact g.full (by ext hw ni) i hi
  .rw [bT.mp hi,D8]
   ext ni
 .by_cases hL:left=0
  .obtain ⟨l,t1,t2⟩:=g.OH hL
   refine ⟨l,λi hi=>?_,λi hi=>t2 i (cY _ hi)⟩
   rcases bX.mp hi with hi | hi
   .rw [ek i (np i hi)];exact t1 i hi
   .rw [bT.mp hi,D8]
    have:=t2 k (cM ..)
    unfold Pt gh
    ext hz hL this
  .refine ⟨(de rs k).2.2.2,λi hi=>?_,h2⟩
   rcases bX.mp hi with hi | hi
   .rw [ek i (np i hi)]
    have:=g.full (by ext nn hL) i hi
    have:=h1 i hi
    have:=g.box i hi
    unfold Pt
    exact ⟨g.box i hi,λ_=>g.full (by ext nn hL) i hi,λz=>by lia⟩
   .rw [bT.mp hi,D8]
    unfold Pt gh
    ext nn hz
theorem T9(f:Nat->Int):∀(os:List Nat),∃l,∀i∈os,l<=f i
 | []=>⟨0,λ_ h=>nomatch h⟩
 | i::os=>by
  obtain ⟨l,h⟩:=T9 f os
  refine ⟨min l (f i),λj hj=>?_⟩
  rcases bI.mp hj with rfl | hj
  .ext
  .have:=h j hj;ext this
theorem Gr.start{rs:List Row}{x:Int}{os:List Nat}(h:∀i∈os,i<rs.length)(hx:(rs.map λr=>r.1).sum<=x):Gr rs x [] os (rs.map λr=>r.1) (x-(rs.map λr=>r.1).sum):=by
 refine ⟨by simp,λi hi=>?_,λi hi=>(nomatch hi),by ext hx,by ext,λ_ i hi=>(nomatch hi),λ_=>?_⟩
 .have:=h i hi
  unfold de
  simp [this]
 .obtain ⟨l,hl⟩:=T9 (λi=>(de rs i).2.2.2) os
  exact ⟨l,λi hi=>(nomatch hi),hl⟩
theorem Ub{l:Int}:∀{rs:List Row} {ys:List Int},ys.length=rs.length->(∀i,i<rs.length->Pt l (de rs i) (ys.getD i 0))->Paired (Pt l) rs ys
 | [],[],_,_=>.nil
 | r::rs,y::ys,hl,h=>.cons (h 0 (by simp)) (Ub (by simpa using hl) λi hi=>h (i+1) (by simpa using hi))
theorem Gr.done{rs:List Row}{x:Int}{os:List Nat}{ys:List Int}{left:Int}(g:Gr rs x os [] ys left)(ho:∀i,i<rs.length->i∈os)(hx:x<=(rs.map λr=>r.2.1).sum):∃l,Paired (Pt l) rs ys/\ys.sum=x:=by
 have hz:left=0:=by
  by_cases hp:0<left
  .have:ys=rs.map λr=>r.2.1:=by
    refine EG (by rw [g.len];simp) λi h1 h2=>?_
    have hi:i<rs.length:=by rw [<-g.len];exact h1
    have:=g.full hp i (ho i hi)
    unfold de at this
    simpa [h1,hi] using this
   have hs:=g.sum
   rw [this] at hs
   ext hx hp hs
  .have:=g.nn;ext hp this
 obtain ⟨l,t1,_⟩:=g.OH hz
 exact ⟨l,Ub g.len λi hi=>t1 i (ho i hi),by have:=g.sum;ext hz this⟩
noncomputable def iD:List Row->List Int->Int
 | r::rs,y::ys=>r.at y+iD rs ys
 | _,_=>0
theorem SH{l:Int}:∀{rs:List Row} {ys zs:List Int},Paired (Pt l) rs ys->Paired gh rs zs->iD rs ys-l*ys.sum<=iD rs zs-l*zs.sum
 | _,_,_,.nil,.nil=>eQ _
 | _,_,_,.cons (a:=r) (b:=y) p ps,.cons (b:=z) q qs=>by
  have ih:=SH ps qs
  obtain ⟨⟨b1,b2⟩,p1,p2⟩:=p
  obtain ⟨q1,q2⟩:=q
  have key:r.at y-l*y<=r.at z-l*z:=by
   unfold Row.at
   have h0:0<=(r.2.2.2-l)*(z-y):=by
    by_cases c:r.2.2.2<l
    .have:=p1 c
     exact Int.mul_nonneg_of_nonpos_of_nonpos (by ext c) (by ext q2 this)
    .by_cases d:l<r.2.2.2
     .have:=p2 d
      exact vE (by ext d) (by ext q1 this)
     .have:r.2.2.2-l=0:=by ext c d
      rw [this,Int.zero_mul]
      exact eQ _
   grind
  simp only [List.sum_cons,iD,Int.mul_add]
  ext ih key
theorem b1M{l x:Int}{rs:List Row}{ys zs:List Int}(h:Paired (Pt l) rs ys)(hs:ys.sum=x)(h':Paired gh rs zs)(nY:zs.sum=x):iD rs ys<=iD rs zs:=by
 have:=SH h h'
 rw [hs,nY] at this
 ext this
theorem Cf{i:Nat}{m n:Int}{f:En->Option Sl}{env:En}{Q:Fl×En->Prop}(e1:env[i]?=some (.sh (.int m)))(e2:f env=some (.sh (.int n)))(h:Q (.nx,env.set i (.sh (.int (m-n))))):Wo (Fo i f env) Q:=
 ⟨_,by unfold Fo xD;rw [e1];dsimp only;rw [e2];dsimp only;rw [if_pos trivial],h⟩
noncomputable def uj(kz:List Int)(n:Nat):List Nat:=if n<2 then fq n else KS.ord (λi=>kz.getD i 0) n
theorem b29(kz:List Int)(n:Nat):(uj kz n).Perm (fq n):=by
 unfold uj
 split
 .exact BR _
 .exact (KS.cO _ n (by lia)).1
theorem b8h(kz:List Int)(n:Nat):(uj kz n).Pairwise λi j=>kz.getD i 0<=kz.getD j 0:=by
 unfold uj
 split
 .rename_i h
  match n,h with
  | 0,_=>exact .nil
  | 1,_=>exact qj _ _
 .exact (KS.cO _ n (by omega)).2
theorem zA(kz:List Int)(n:Nat):bB kz D.aG (bR 0 n)=(uj kz n).map λ(i:Nat)=>D.int i:=by
 have hl:(bR 0 n).length=n:=by unfold bR;simp
 unfold bB uj
 rw [hl]
 by_cases h:n<2
 .rw [if_pos h,if_pos h]
  unfold bR
  simp
 .rw [if_neg h,if_neg h]
  refine Ki λi hi=>?_
  have hi:i<n:=qi.mp ((KS.cO (λi=>kz.getD i 0) n (by ext h)).1.mem_iff.mp hi)
  unfold bR
  simp [hi]
theorem Q1{rs:List Row}{j:Nat}(hj:j<rs.length):eH (rs.map Row.d) (j:Int)=some (Row.d (de rs j)):=by
 rw [ME hj]
 unfold de
 simp [hj]
theorem b6z{rs:List Row}(hl:rs.length<64)(hw:∀r∈rs,r.1<=r.2.1){x:Int}(h1:(rs.map λr=>r.1).sum<=x)(h2:x<=(rs.map λr=>r.2.1).sum){ro:Bool}:∃ys:List Int,yc [.lst ro (rs.map Row.d),.int x]=some (.ow (ys.map D.int))/\∃l,Paired (Pt l) rs ys/\ys.sum=x:=by
 have key:Wo (yc [.lst ro (rs.map Row.d),.int x]) λs=>∃ys:List Int,s=.ow (ys.map D.int)/\∃l,Paired (Pt l) rs ys/\ys.sum=x:=by
  refine r6.mpr ?_
  unfold LN
  walk_at "v1"
  rw [tO Row.d (λr=>.int r.1) (λe=>∃x0,e=[x0]) rs (λr hr e he=>?_) ⟨_,rfl⟩]
  .rw [show rs.map (λr=>D.int r.1)=(rs.map λr=>r.1).map D.int by rw [lD];rfl]
   walk_at "v1"
   refine ⟨by rw [cj];ext hl,?_⟩
   have hk:∀j,j<rs.length->ax (fX (ax (bV 1) (eV 0))) (eC (D.int 3)) [.sh (.int (j:Nat)),.sh (.lst ro (rs.map Row.d))]=some (.sh (.int (de rs j).2.2.2)):=λj hj=>Wo.eq (by
    walk_at "vc"
    rw [Q1 hj]
    walk_at "vc"
    rw [dh]
    walk_at "vc")
   rw [b2s (n:=rs.length) (d:=.lst ro (rs.map Row.d)) (kf:=λj=>(de rs j).2.2.2) (Wo.eq (by walk_at "vc";simp)) rfl hl hk,zA]
   have pm:=b29 ((fq rs.length).map λj=>(de rs j).2.2.2) rs.length
   have up:=b8h ((fq rs.length).map λj=>(de rs j).2.2.2) rs.length
   generalize uj ((fq rs.length).map λj=>(de rs j).2.2.2) rs.length=os at *
   have nd:os.Nodup:=pm.nodup_iff.mpr List.nodup_range
   have hm:∀i,i∈os↔i<rs.length:=λi=>by rw [pm.mem_iff,qi]
   have up:os.Pairwise λi j=>(de rs i).2.2.2<=(de rs j).2.2.2:=up.imp_of_mem λ{i j} hi hj h=>by
    simpa [(hm i).mp hi,(hm j).mp hj] using h
   walk_at "v1"
   refine oE (λi:Nat=>D.int i) (λpre env=>∃ys left post x4 x5,os=pre++post/\env=[.sh (.lst ro (rs.map Row.d)),.sh (.int x),.ow (ys.map D.int),.sh (.int left),x4,x5]/\Gr rs x pre post ys left) os (λpre k post env e hI=>?_) (λenv hI=>?_) ⟨_,_,os,_,_,rfl,rfl,Gr.start (λi hi=>(hm i).mp hi) h1⟩
   .obtain ⟨ys,left,mz,x4,x5,e',rfl,g⟩:=hI
    obtain rfl:mz=k::post:=EZ (e'.symm.trans e)
    have p7:k<rs.length:=(hm k).mp (by rw [e];simp)
    rw [e] at nd up
    have n1:=List.nodup_append.mp nd
    have u1:=gm.mp up
    have Zn:(de rs k).1<=(de rs k).2.1:=by
     unfold de
     rw [vH,qk p7]
     exact hw _ (oq p7)
    have gn:=g.next p7 (λz=>n1.2.2 k z k (cM ..) rfl) (vv.mp n1.2.1).1 (λi hi=>u1.2.2 i hi k (cM ..)) (iC.mp u1.2.1).1 Zn
    walk_at "v1"
    rw [Q1 p7]
    walk_at "v1"
    rw [dh]
    walk_at "v1"
    have Zi:(ys.map D.int)[k]?=some (D.int (ys.getD k 0)):=by
     have:k<ys.length:=by rw [g.len];exact p7
     simp [this]
    rw [b37 (n:=k) (m:=ys.getD k 0) (v:=min left ((de rs k).2.1-(de rs k).1)) (by rfl) (by rfl) Zi (by rfl),a6q]
    refine Cf (by rfl) (by rfl) ?_
    walk_at "v1"
    refine ⟨_,_,post,.sh (.int k),.sh (.int (min left ((de rs k).2.1-(de rs k).1))),by rw [e];simp,?_,gn⟩
    simp [List.map_set]
   .obtain ⟨ys,left,mz,x4,x5,e',rfl,g⟩:=hI
    obtain rfl:mz=[]:=EZ (e'.symm.trans (mU os).symm)
    walk_at "v1"
    obtain ⟨l,h3,h4⟩:=g.done (λi hi=>(hm i).mpr hi) h2
    exact ⟨ys,rfl,l,h3,h4⟩
  .obtain ⟨x0,rfl⟩:=he
   rw [dh]
   walk_at "vc"
   exact ⟨_,rfl⟩
 obtain ⟨s,e,ys,rfl,h⟩:=key
 exact ⟨ys,e,h⟩
noncomputable def qa(x:List Int):Int:=x.headD 0
theorem fold_min:∀(r:List (List Int)) (m:List Int),m≠[]->(∀x∈r,x≠[])->(r.foldl (λm y=>if HT.lexLt y m then y else m) m)∈m::r/\∀x∈m::r,qa (r.foldl (λm y=>if HT.lexLt y m then y else m) m)<=qa x
 | [],m,_,_=>⟨bT.mpr rfl,λx hx=>by rw [bT.mp hx];exact eQ _⟩
 | y::r,m,hm,hr=>by
  have hy:=hr y (cM ..)
  have hd:qa (if HT.lexLt y m then y else m)<=qa y/\qa (if HT.lexLt y m then y else m)<=qa m:=by
   cases y with
   | nil=>exact absurd rfl hy
   | cons a ys =>
    cases m with
    | nil=>exact absurd rfl hm
    | cons b ms =>
     rw [HT.dB]
     show qa (if _ then _ else _)<=a/\qa (if _ then _ else _)<=b
     by_cases c:a=b
     .subst c
      rw [if_pos rfl]
      split<;>exact ⟨eQ _,eQ _⟩
     .rw [if_neg c]
      by_cases d:a<b
      .rw [if_pos (decide_eq_true d)];show a<=a/\a<=b;ext d
      .rw [if_neg (by simpa using d)];show b<=a/\b<=b;ext d
  obtain ⟨h1,h2⟩:=fold_min r (if HT.lexLt y m then y else m) (by split<;>assumption) λx hx=>hr x (cY _ hx)
  rw [JP]
  refine ⟨?_,λx hx=>?_⟩
  .rcases bI.mp h1 with h1 | h1
   .rw [h1]
    split
    .exact cY _ (cM ..)
    .exact cM ..
   .exact cY _ (cY _ h1)
  .have h0:=h2 _ (cM ..)
   rcases bI.mp hx with rfl | hx
   .ext hd h0
   .rcases bI.mp hx with rfl | hx
    .ext hd h0
    .exact h2 x (cY _ hx)
theorem b5V{rs:List (List Int)}(hn:rs≠[])(h:∀x∈rs,x≠[]):fR rs∈rs/\∀x∈rs,qa (fR rs)<=qa x:=by
 cases rs with
 | nil=>exact absurd rfl hn
 | cons m r=>exact fold_min r m (h m (cM ..)) λx hx=>h x (cY _ hx)
def Reach(rs:List Row)(x:Int):Prop:=(rs.map λr=>r.1).sum<=x/\x<=(rs.map λr=>r.2.1).sum
noncomputable instance (rs:List Row) (x:Int):Decidable (Reach rs x):=by unfold Reach;infer_instance
theorem b1V{rs:List Row}(hl:rs.length<64){x:Int}{ro:Bool}:tS [.lst ro (rs.map Row.d),.int x]=some (.sh (.bl (decide (Reach rs x)))):=by
 have c1:∀(x0:Sl),jn (gN 0) lG (ax (bV 0) (eC (D.int 0))) (rs.map Row.d) [x0]=some ((rs.map λr=>r.1).map D.int):=λx0=>by
  rw [tO Row.d (λr=>.int r.1) (λe=>∃x0,e=[x0]) rs (λr hr e he=>?_) ⟨_,rfl⟩,lD]
  .rfl
  .obtain ⟨x0,rfl⟩:=he
   rw [dh]
   walk_at "vc"
   exact ⟨_,rfl⟩
 have c2:∀(x0:Sl),jn (gN 0) lG (ax (bV 0) (eC (D.int 1))) (rs.map Row.d) [x0]=some ((rs.map λr=>r.2.1).map D.int):=λx0=>by
  rw [tO Row.d (λr=>.int r.2.1) (λe=>∃x0,e=[x0]) rs (λr hr e he=>?_) ⟨_,rfl⟩,lD]
  .rfl
  .obtain ⟨x0,rfl⟩:=he
   rw [dh]
   walk_at "vc"
   exact ⟨_,rfl⟩
 refine Wo.eq (nO.mpr ?_)
 unfold MV
 walk_at "vc"
 rw [b7n]
 walk_at "vc"
 have hz:(rs.map Row.d).length<=16777216:=by rw [cj];ext hl
 refine ⟨hz,?_⟩
 rw [c1,a0h,CF,a0h]
 refine ⟨λh=>⟨hz,?_⟩,λh=>?_⟩
 .rw [c2,a0h,CF,a0h]
  unfold Reach
  simp [h]
 .unfold Reach
  simp [h]
theorem S0:∀{rs:List Row} {ys:List Int},Paired gh rs ys->iG (rs.map Row.d) (ys.map D.int)=(rs.zip ys).map λp=>.tup [p.1.d,.int p.2]
 | _,_,.nil=>rfl
 | _,_,.cons p ps=>by
  show D.tup [_,_]::iG _ _=D.tup [_,_]::_
  rw [S0 ps]
  rfl
theorem S9:∀{rs:List Row} {ys:List Int},Paired gh rs ys->((rs.zip ys).map λp=>p.1.at p.2).sum=iD rs ys
 | _,_,.nil=>rfl
 | _,_,.cons p ps=>by
  rw [Ke,kM,List.sum_cons,S9 ps]
  rfl
theorem MX:∀{rs:List Row} {ys:List Int} {p:Row×Int},Paired gh rs ys->p∈rs.zip ys->p.1∈rs/\gh p.1 p.2
 | _,_,_,.nil,h=>absurd h (by simp)
 | _,_,p,.cons q qs,h=>by
  rw [Ke] at h
  rcases bI.mp h with rfl | h
  .exact ⟨cM ..,q⟩
  .exact ⟨cY _ (MX qs h).1,(MX qs h).2⟩
theorem MP{l:Int}:∀{rs:List Row} {ys:List Int},Paired (Pt l) rs ys->Paired gh rs ys
 | _,_,.nil=>.nil
 | _,_,.cons p ps=>.cons p.1 (MP ps)
theorem b3Q{rs:List Row}(hl:rs.length<64)(hb:∀r∈rs,PB r){x:Int}(hx:Reach rs x){ro:Bool}:∃ys:List Int,pL [.lst ro (rs.map Row.d),.int x]=some (.sh (.tup [.int (iD rs ys),.lst false (ys.map D.int)]))/\∃l,Paired (Pt l) rs ys/\ys.sum=x:=by
 obtain ⟨ys,ed,l,hp,hs⟩:=b6z hl (λr hr=>(hb r hr).1) hx.1 hx.2 (ro:=ro)
 have hq:=MP hp
 have hly:ys.length=rs.length:=hq.length.symm
 refine ⟨ys,?_,l,hp,hs⟩
 refine Wo.eq (fH.mpr ?_)
 unfold NP
 walk_at "v1"
 rw [ed]
 walk_at "v1"
 rw [S0 hq,tO (λp:Row×Int=>.tup [p.1.d,.int p.2]) (λp=>.int (p.1.at p.2)) (λe=>∃x0 x1,e=[x0,x1]) (rs.zip ys) (λp q9 e he=>?_) ⟨_,_,rfl⟩]
 .rw [show (rs.zip ys).map (λp=>D.int (p.1.at p.2))=((rs.zip ys).map λp=>p.1.at p.2).map D.int by rw [lD];rfl]
  walk_at "v1"
  rw [S9 hq]
  refine ⟨?_,?_⟩
  .rw [cj,List.length_zip];ext hl
  .trivial
 .obtain ⟨x0,x1,rfl⟩:=he
  obtain ⟨m1,m2⟩:=MX hq q9
  have:=hb _ m1
  unfold PB at this
  unfold gh at m2
  walk_at "vc"
  refine ⟨⟨_,_,rfl⟩,?_⟩
  rw [FZ (by ext this) (by ext this) (by ext m2) (by ext m2 this)]
  walk_at "vc"
theorem b6B{r:RF}{F:SF}{r':RF}{env env1:En}(h0:r env=none)(h:F env=some (.nx,env1)):e9 r F r' env=r' env1:=by
 unfold e9
 rw [h0,h]
theorem b85{c:En->Option Bool}{r:RF}{env:En}(h:c env=some false):oK c r my env=none:=by
 unfold oK
 rw [h]
 rfl
theorem F7{r:RF}{F:SF}{r':RF}{env:En}(h0:r env=none)(h:∀e,r' e=none):e9 r F r' env=none:=by
 unfold e9
 rw [h0]
 dsimp only
 split
 .exact h _
 .rfl
theorem b6b{c:En->Option Bool}(env:En):oK c my my env=none:=by
 unfold oK
 split<;>rfl
theorem b09{nm t:Str}{env:En}:Cm nm (af (eC (.str t)) ae) env=some (nm,env):=by
 unfold Cm
 show (if (1:Nat)<=16777216 then some (nm,env) else none)=_
 rw [if_pos (by decide)]
theorem LS{n:Nat}{ρ:List D->Option Str}{fs:En->Option (List D)}{env:En}{ds:List D}(hf:fs env=some ds)(hl:ds.length=n):qu n ρ fs env=ρ ds:=by
 unfold qu
 rw [hf,md,if_pos hl]
theorem LA{n:Int}(h:-(2^250)<=n/\n<=2^250):t7 n:=by
 unfold t7
 have h2:n.natAbs<2^251:=by omega
 by_cases z:n.natAbs=0
 .rw [z];decide
 .have:=(Nat.log2_lt z).mpr h2
  ext this
noncomputable abbrev pr(p:Row×Row):List Row:=[p.1,p.2]
theorem fP{p:Row×Row}{x:Int}:Reach (pr p) x↔p.1.1+p.2.1<=x/\x<=p.1.2.1+p.2.2.1:=by
 unfold Reach
 simp
noncomputable def dU(x:Int)(p:Row×Row):List Int:=Classical.epsilon λys:List Int=>pL [.lst false ((pr p).map Row.d),.int x]=some (.sh (.tup [.int (iD (pr p) ys),.lst false (ys.map D.int)]))/\∃l,Paired (Pt l) (pr p) ys/\ys.sum=x
theorem TZ{x:Int}{p:Row×Row}(h1:PB p.1)(h2:PB p.2)(hx:Reach (pr p) x):pL [.lst false ((pr p).map Row.d),.int x]=some (.sh (.tup [.int (iD (pr p) (dU x p)),.lst false ((dU x p).map D.int)]))/\∃l,Paired (Pt l) (pr p) (dU x p)/\(dU x p).sum=x:=by
 have h:∃ys:List Int,pL [.lst false ((pr p).map Row.d),.int x]=some (.sh (.tup [.int (iD (pr p) ys),.lst false (ys.map D.int)]))/\∃l,Paired (Pt l) (pr p) ys/\ys.sum=x:=b3Q (by simp) (λr hr=>by
  rcases bI.mp hr with rfl | hr
  .exact h1
  .rw [bT.mp hr];exact h2) hx
 exact Classical.epsilon_spec h
theorem b7E{x:Int}{p:Row×Row}{ys:List Int}{l:Int}(h:Paired (Pt l) (pr p) ys)(hs:ys.sum=x):∃y z,ys=[y,z]/\gh p.1 y/\gh p.2 z/\y+z=x/\Conv p.1 p.2 x (iD (pr p) ys):=by
 have hq:=MP h
 have IG:=λy' z' (a:gh p.1 y') (b:gh p.2 z') (e:y'+z'=x)=>b1M h hs (zs:=[y',z']) (.cons a (.cons b .nil)) (by simpa using e)
 cases hq with
 | cons a b =>
  cases b with
  | cons b c =>
   cases c
   rename_i y z
   have e:y+z=x:=by simpa using hs
   refine ⟨y,z,rfl,a,b,e,⟨y,z,a,b,e,by simp [iD]⟩,λy' z' a' b' e'=>?_⟩
   have:=IG y' z' a' b' e'
   simpa [iD] using this
theorem TH{A B:List Row}(hA:∀r∈A,PB r)(hB:∀r∈B,PB r)(x:Int):jn (gN 0) (cn (aP 2 tS (af (eV 0) (af (eV 1) ae)))) (aP 2 pL (af (eV 0) (af (eV 1) ae))) (pairD A B) [.no,.sh (.int x)] =
  some (((ij A B).filter λp=>decide (Reach (pr p) x)).map λp=>.tup [.int (iD (pr p) (dU x p)),.lst false ((dU x p).map D.int)]):=by
 rw [LR]
 refine a82 (λp:Row×Row=>.lst false [p.1.d,p.2.d]) (λp=>decide (Reach (pr p) x)) _ (λe=>∃x0,e=[x0,.sh (.int x)]) (ij A B) (λp hp e he=>?_) ⟨_,rfl⟩
 obtain ⟨x0,rfl⟩:=he
 obtain ⟨m1,m2⟩:=aI.mp hp
 walk_at "vc"
 refine ⟨⟨_,rfl⟩,?_⟩
 rw [show D.lst false [p.1.d,p.2.d]=D.lst false ((pr p).map Row.d) from rfl,b1V (by simp)]
 walk_at "vc"
 intro h
 rw [(TZ (hA _ m1) (hB _ m2) h).1]
 walk_at "vc"
theorem b0C{A B:List Row}(hA:∀r∈A,PB r)(hB:∀r∈B,PB r){x:Int}(cC:(ij A B).filter (λp=>decide (Reach (pr p) x))≠[]):∃y z cy cz:Int,DO (fR (((ij A B).filter λp=>decide (Reach (pr p) x)).map λp=>iD (pr p) (dU x p)::dU x p))=.tup [.int (cy+cz),.lst false [.int y,.int z]]/\Val A y cy/\Val B z cz/\y+z=x/\qG A B x (cy+cz):=by
 have mem:∀p,p∈(ij A B).filter (λp=>decide (Reach (pr p) x))↔(p.1∈A/\p.2∈B)/\Reach (pr p) x:=λp=>by rw [ES,aI,decide_eq_true_iff]
 have cv:∀p,p∈(ij A B).filter (λp=>decide (Reach (pr p) x))->∃y z,dU x p=[y,z]/\gh p.1 y/\gh p.2 z/\y+z=x/\Conv p.1 p.2 x (iD (pr p) (dU x p)):=λp hp=>by
  obtain ⟨⟨m1,m2⟩,hr⟩:=(mem p).mp hp
  obtain ⟨_,l,h1,h2⟩:=TZ (hA _ m1) (hB _ m2) hr
  exact b7E h1 h2
 obtain ⟨h1,h2⟩:=b5V (rs:=((ij A B).filter λp=>decide (Reach (pr p) x)).map λp=>iD (pr p) (dU x p)::dU x p) (by simpa using cC) λz hz=>by
  obtain ⟨p,_,rfl⟩:=mV.mp hz
  exact λz=>nomatch z
 generalize fR (((ij A B).filter λp=>decide (Reach (pr p) x)).map λp=>iD (pr p) (dU x p)::dU x p)=m at *
 obtain ⟨p,hp,rfl⟩:=mV.mp h1
 obtain ⟨y,z,ey,iy,iz,e,hc⟩:=cv p hp
 obtain ⟨⟨m1,m2⟩,_⟩:=(mem p).mp hp
 have ec:iD (pr p) (dU x p)=p.1.at y+p.2.at z:=by rw [ey];simp [iD]
 refine ⟨y,z,p.1.at y,p.2.at z,?_,⟨p.1,m1,iy.1,iy.2,rfl⟩,⟨p.2,m2,iz.1,iz.2,rfl⟩,e,?_⟩
 .rw [<-ec,ey]
  rfl
 .rw [<-ec]
  refine (Rm (λr hr=>(hA r hr).1) λr hr=>(hB r hr).1).mp ⟨⟨p.1,m1,p.2,m2,hc⟩,λr hr s hs c' h'=>?_⟩
  have hq:(r,s)∈(ij A B).filter (λp=>decide (Reach (pr p) x)):=(mem (r,s)).mpr ⟨⟨hr,hs⟩,fP.mpr h'.n9⟩
  obtain ⟨_,_,_,_,_,_,lx⟩:=cv (r,s) hq
  have:=h2 _ (mV.mpr ⟨(r,s),hq,rfl⟩)
  rw [<-lx.uniq h']
  exact this
theorem b8X{A B:List Row}(hA:∀r∈A,PB r)(hB:∀r∈B,PB r)(ha:A≠[])(hb:B≠[])(hp:A.length*B.length<=100){x:Int}(hr:∃r∈A,∃s∈B,r.1+s.1<=x/\x<=r.2.1+s.2.1){ro:Bool}:
  ∃y z cy cz:Int,rV [.lst ro [.tup (A.map Row.d),.tup (B.map Row.d)],.int x]=some (.sh (.lst false [.int y,.int z]))/\Val A y cy/\Val B z cz/\y+z=x/\qG A B x (cy+cz):=by
 have cC:(ij A B).filter (λp=>decide (Reach (pr p) x))≠[]:=λz=>by
  obtain ⟨r,h1,s,h2,h3⟩:=hr
  have:(r,s)∈(ij A B).filter (λp=>decide (Reach (pr p) x)):=by
   rw [ES,aI,decide_eq_true_iff]
   exact ⟨⟨h1,h2⟩,fP.mpr h3⟩
  rw [z] at this
  cases this
 obtain ⟨y,z,cy,cz,e,h⟩:=b0C hA hB cC
 refine ⟨y,z,cy,cz,?_,h⟩
 refine Wo.eq (fI.mpr ?_)
 unfold Gj
 walk_at "v1"
 rw [Mc ha hb hp]
 walk_at "v1"
 refine ⟨?_,?_⟩
 .rw [Gi];ext hp
 rw [TH hA hB]
 walk_at "v1"
 have hm:((ij A B).filter (λp=>decide (Reach (pr p) x))).map (λp=>iD (pr p) (dU x p)::dU x p)≠[]:=by simpa using cC
 generalize (ij A B).filter (λp=>decide (Reach (pr p) x))=F at *
 refine rS ?_ ?_
 .walk_at "vc"
  cases F with
  | nil=>exact absurd rfl cC
  | cons a b=>simp
 rw [a6q]
 walk_at "v1"
 rw [b4o (k:=true) (by rfl) (Th F) hm,e]
 walk_at "vc"
theorem b3O{A B:List Row}(h:A=[]\/B=[])(l1:A.length<=900000)(l2:B.length<=900000){ro:Bool}:qB [.lst ro [.tup (A.map Row.d),.tup (B.map Row.d)]]=some (.ow []):=by
 have hm:=Cr A B l1 l2 (ro:=ro)
 have hz:(A.length:Int)*B.length=0:=by rcases h with rfl | rfl<;>simp
 rw [hz] at hm
 refine Wo.eq (jM.mpr ?_)
 unfold Cv
 walk_at "v1"
 refine rS ?_ ?_
 .walk_at "vc"
  rw [hm]
  walk_at "vc"
 walk_at "v1"
 rw [a2h]
 walk_at "v1"
 rw [hm]
 walk_at "vc"
theorem b0d{A B:List Row}(l1:A.length<=900000)(l2:B.length<=900000)(hp:A.length*B.length<=100){ro:Bool}:yd [.lst ro [.tup (A.map Row.d),.tup (B.map Row.d)]]=none:=by
 have hm:=Cr A B l1 l2 (ro:=ro)
 have q9:(A.length:Int)*B.length<=100:=by exact_mod_cast hp
 unfold yd j6 RK
 have c1:∀env:En,env=jW 5 [.lst ro [.tup (A.map Row.d),.tup (B.map Row.d)]]->bE (aa o8 (aP 1 pK (af (eV 0) ae)) (eC (.int 100))) env=some false:=λenv he=>by
  subst he
  refine Wo.eq ?_
  show Wo (bE _ [.sh (.lst ro [.tup (A.map Row.d),.tup (B.map Row.d)]),.no,.no,.no,.no]) _
  walk_at "vc"
  rw [hm]
  walk_at "vc"
  simpa using q9
 rw [Qw]
 exact F7 (b85 (c1 _ rfl)) λe=>F7 (b6b e) λe=>F7 rfl λe=>F7 rfl λe=>rfl
theorem b2j{A B:List Row}{x:Int}(hA:∀r∈A,PB r)(hB:∀r∈B,PB r)(l1:A.length<=900000)(l2:B.length<=900000)(hp:A.length*B.length<=100)(hr:¬ ∃r∈A,∃s∈B,r.1+s.1<=x/\x<=r.2.1+s.2.1){ro:Bool}:
  rV [.lst ro [.tup (A.map Row.d),.tup (B.map Row.d)],.int x]=none/\vZ [.lst ro [.tup (A.map Row.d),.tup (B.map Row.d)],.int x]=some ("NotOffered":Str):=by
 have found:(aX 2 (gG (fC (aP 1 qB (af (eV 0) ae))) [1] 1 (gN 0) (cn (aP 2 tS (af (eV 0) (af (eV 1) ae)))) (aP 2 pL (af (eV 0) (af (eV 1) ae))))) [.sh (.lst ro [.tup (A.map Row.d),.tup (B.map Row.d)]),.sh (.int x),.no]=some (.nx,[.sh (.lst ro [.tup (A.map Row.d),.tup (B.map Row.d)]),.sh (.int x),.sh (.lst false [])]):=by
  refine Wo.eq ?_
  walk_at "v1"
  by_cases hz:A=[]\/B=[]
  .rw [b3O hz l1 l2]
   walk_at "v1"
  .rw [Mc (λz=>hz (.inl z)) (λz=>hz (.inr z)) hp]
   walk_at "v1"
   refine ⟨by rw [Gi];ext hp,?_⟩
   rw [TH hA hB,List.filter_eq_nil_iff.mpr λp q9=>?_]
   .walk_at "v1"
    rfl
   .obtain ⟨m1,m2⟩:=aI.mp q9
    intro z
    exact hr ⟨p.1,m1,p.2,m2,fP.mp (of_decide_eq_true z)⟩
 constructor
 .refine none_of λh=>?_
  have h:=fI.mp h
  unfold Gj at h
  rw [Wo_seq] at h
  obtain ⟨q,e,h⟩:=h
  rw [found] at e
  cases e
  rw [a6q,Wo_seq] at h
  obtain ⟨q,e,_⟩:=h
  cases e
 .unfold vZ j6 UJ
  rw [show jW 3 [.lst ro [.tup (A.map Row.d),.tup (B.map Row.d)],.int x]=[.sh (.lst ro [.tup (A.map Row.d),.tup (B.map Row.d)]),.sh (.int x),.no] from rfl]
  have p0:rE (qu 1 yd (af (eV 0) ae)) [.sh (.lst ro [.tup (A.map Row.d),.tup (B.map Row.d)]),.sh (.int x),.no]=none:=by
   unfold rE
   rw [Qw]
   refine Eq.trans (LS (n:=1) (ds:=[.lst ro [.tup (A.map Row.d),.tup (B.map Row.d)]]) ?_ rfl) (b0d l1 l2 hp)
   rfl
  rw [b6B p0 found,SJ (x:=("NotOffered",[.sh (.lst ro [.tup (A.map Row.d),.tup (B.map Row.d)]),.sh (.int x),.sh (.lst false [])])) (by rw [zi (by rfl)];exact b09)]
  rfl
theorem b6w{A B:List Row}{x y z:Int}(h:rV [.lst false [.tup (A.map Row.d),.tup (B.map Row.d)],.int x]=some (.sh (.lst false [.int y,.int z]))):tZ [.tup (A.map Row.d),.tup (B.map Row.d),.int x]=some (.sh (.tup [.int y,.int z])):=by
 refine Wo.eq (ip.mpr ?_)
 unfold Gc
 walk_at "v1"
 rw [h]
 walk_at "vc"
theorem b2N{A B:List Row}{x y z:Int}(h:tZ [.tup (A.map Row.d),.tup (B.map Row.d),.int x]=some (.sh (.tup [.int y,.int z]))):yo [.tup (A.map Row.d),.tup (B.map Row.d),.int x]=some (.sh (.tup [.bl false,.tup [.int y,.int z]])):=by
 refine Wo.eq (iq.mpr ?_)
 unfold Gb
 walk_at "v1"
 refine b6I ?_
 walk_at "v1"
 rw [h]
 walk_at "vc"
theorem b0i{A B:List Row}{x:Int}(h:rV [.lst false [.tup (A.map Row.d),.tup (B.map Row.d)],.int x]=none)(h':vZ [.lst false [.tup (A.map Row.d),.tup (B.map Row.d)],.int x]=some ("NotOffered":Str)):tZ [.tup (A.map Row.d),.tup (B.map Row.d),.int x]=none/\vX [.tup (A.map Row.d),.tup (B.map Row.d),.int x]=some ("NotOffered":Str):=by
 constructor
 .refine none_of ?_
  rw [ip]
  unfold Gc
  walk_at "v1"
  rw [h]
  walk_at "v1"
 .unfold vX j6 Uh
  rw [show jW 4 [.tup (A.map Row.d),.tup (B.map Row.d),.int x]=[.sh (.tup (A.map Row.d)),.sh (.tup (B.map Row.d)),.sh (.int x),.no] from rfl]
  rw [SJ (x:=("NotOffered",[.sh (.tup (A.map Row.d)),.sh (.tup (B.map Row.d)),.sh (.int x),.no])) (by
   unfold rE
   rw [show qu 2 vZ (af (aZ (af (eV 0) (af (eV 1) ae))) (af (eV 2) ae)) [.sh (.tup (A.map Row.d)),.sh (.tup (B.map Row.d)),.sh (.int x),.no]=some ("NotOffered":Str) from Eq.trans (LS (n:=2) (ds:=[.lst false [.tup (A.map Row.d),.tup (B.map Row.d)],.int x]) rfl rfl) h']
   rfl)]
  rfl
theorem b5j{A B:List Row}{x:Int}(h:tZ [.tup (A.map Row.d),.tup (B.map Row.d),.int x]=none)(h':vX [.tup (A.map Row.d),.tup (B.map Row.d),.int x]=some ("NotOffered":Str)):yo [.tup (A.map Row.d),.tup (B.map Row.d),.int x]=some (.sh (.tup [.bl true,.aG])):=by
 refine Wo.eq (iq.mpr ?_)
 unfold Gb
 walk_at "v1"
 refine b6H (nm:="NotOffered") (env1:=[.sh (.tup (A.map Row.d)),.sh (.tup (B.map Row.d)),.sh (.int x),.sh .aG,.sh (.bl false),.no]) (none_of ?_) ?_ (by decide) (by simp) ?_
 .walk_at "v1"
  rw [h]
  walk_at "v1"
 .unfold rE
  rw [show qu 3 vX (af (eV 0) (af (eV 1) (af (eV 2) ae))) [.sh (.tup (A.map Row.d)),.sh (.tup (B.map Row.d)),.sh (.int x),.sh .aG,.sh (.bl false),.no]=some ("NotOffered":Str) from Eq.trans (LS (n:=3) (ds:=[.tup (A.map Row.d),.tup (B.map Row.d),.int x]) rfl rfl) h']
  rfl
 .walk_at "vc"
  refine ⟨.sh (.bl true),rfl,true,rfl,c3J (λ_=>⟨.sh (.bl true),rfl,true,rfl,c3J (λ_=>⟨.sh (.bl false),rfl,false,rfl,rfl⟩) (λz=>nomatch z)⟩) (λz=>nomatch z)⟩
theorem Ud{A B:List Row}{x:Int}{ro rp:Bool}:CV [.lst ro (A.map Row.d),.lst rp (B.map Row.d),.int x]=some (.sh (.bl (decide (∃r∈A,∃s∈B,r.1+s.1<=x/\x<=r.2.1+s.2.1)))):=by
 refine Wo.eq (iW.mpr ?_)
 unfold NA
 walk_at "v1"
 refine oE Row.d (λpre env=>∃x3 x4,env=[.sh (.lst ro (A.map Row.d)),.sh (.lst rp (B.map Row.d)),.sh (.int x),x3,x4]/\∀r∈pre,∀s∈B,¬(r.1+s.1<=x/\x<=r.2.1+s.2.1)) A (λpre r post env e h=>?_) (λenv h=>?_) ⟨_,_,rfl,λr hr=>nomatch hr⟩
 .obtain ⟨x3,x4,rfl,hn⟩:=h
  walk_at "v1"
  refine oE Row.d (λzo env=>∃x4,env=[.sh (.lst ro (A.map Row.d)),.sh (.lst rp (B.map Row.d)),.sh (.int x),.sh r.d,x4]/\∀s∈zo,¬(r.1+s.1<=x/\x<=r.2.1+s.2.1)) B (λzo s mz env e' h=>?_) (λenv h=>?_) ⟨_,rfl,λr hr=>nomatch hr⟩
  .obtain ⟨x4,rfl,hm⟩:=h
   rw [dh r,dh s]
   walk_at "vc"
   refine ⟨λh1=>⟨λh2=>?_,λh2=>?_⟩,λh1=>?_⟩
   .rw [decide_eq_true (p:=∃r∈A,∃s∈B,r.1+s.1<=x/\x<=r.2.1+s.2.1) ⟨r,by rw [e];simp,s,by rw [e'];simp,h1,h2⟩]
   .refine ⟨_,rfl,λq hq=>?_⟩
    rcases bX.mp hq with h | h
    .exact hm q h
    .rw [bT.mp h];ext h2
   .refine ⟨_,rfl,λq hq=>?_⟩
    rcases bX.mp hq with h | h
    .exact hm q h
    .rw [bT.mp h];ext h1
  .obtain ⟨x4,rfl,hm⟩:=h
   refine ⟨_,_,rfl,λq hq=>?_⟩
   rcases bX.mp hq with h | h
   .exact hn q h
   .rw [bT.mp h];exact hm
 .obtain ⟨x3,x4,rfl,hn⟩:=h
  walk_at "vc"
  rw [decide_eq_false]
  rintro ⟨r,hr,s,hs,h⟩
  exact hn r hr s hs h
theorem b3T{A B:List Row}(lA:A.length<=3)(lB:B.length<=3)(hA:∀r∈A,gi 4 r)(hB:∀r∈B,gi 4 r){cell:Int}(hs:t7 cell){ro rp:Bool}:∃x:Int,yy [.lst ro (A.map Row.d),.lst rp (B.map Row.d),.int cell]=some (.sh (.int x)) /\ -(10^52)<=x/\x<=10^52:=by
 have key:Wo (yy [.lst ro (A.map Row.d),.lst rp (B.map Row.d),.int cell]) λs=>∃x:Int,s=.sh (.int x) /\ -(10^52)<=x/\x<=10^52:=by
  refine jO.mpr ?_
  unfold Ng
  walk_at "v1"
  have a1:mv (cell%2147483629) 48271:=⟨LA (by lia),by unfold LIM;decide,by unfold LIM;decide⟩
  have g1:=kG (cell%2147483629*48271) (show (2147483629:Int)≠0 by decide)
  have g2:=kH (cell%2147483629*48271) (show (0:Int)<2147483629 by decide)
  generalize cell%2147483629*48271%2147483629=some at *
  refine ⟨a1,?_⟩
  rw [a2h]
  walk_at "v1"
  simp only [cj]
  have a2:PowC 10 50/\(0:Int)<10^50/\PowC 10 49/\mv 5 (10^49)/\∃x,Sl.sh (D.int (cell%10^50-5*10^49))=Sl.sh (D.int x) /\ -10^52<=x/\x<=10^52:=
   ⟨by decide,by decide,by decide,⟨LA (by decide),by unfold LIM;decide,by unfold LIM;decide⟩,_,rfl,by lia,by lia⟩
  refine ⟨λ_=>a2,λz1=>⟨λ_=>a2,λz2=>⟨λ_=>a2,λz3=>⟨tM (by decide) (by decide),by ext z1,?_⟩⟩⟩⟩
  have m1:=kG (some/6) (show (A.length:Int)≠0 by assumption)
  have m2:=kH (some/6) (show (0:Int)<A.length by ext z1)
  obtain ⟨n,hn⟩:∃n:Nat,some/6%(A.length:Int)=n:=⟨(some/6%(A.length:Int)).toNat,by ext m1⟩
  rw [hn] at m2 ⊢
  have Pe:n<A.length:=by ext m2
  rw [FW Pe,dh,a0h]
  refine ⟨tM (by decide) (by decide),by ext z2,?_⟩
  have m3:=kG (some/60) (show (B.length:Int)≠0 by assumption)
  have m4:=kH (some/60) (show (0:Int)<B.length by ext z2)
  obtain ⟨n',IC⟩:∃n:Nat,some/60%(B.length:Int)=n:=⟨(some/60%(B.length:Int)).toNat,by ext m3⟩
  rw [IC] at m4 ⊢
  have AB:n'<B.length:=by ext m4
  rw [FW AB,dh,a0h]
  have b:=hA A[n] (oq Pe)
  have b':=hB B[n'] (oq AB)
  unfold gi at b b'
  generalize A[n]=r at *
  generalize B[n']=q at *
  walk_at "v1"
  rw [a2h]
  walk_at "v1"
  refine ⟨λ_=>?_,λ_=>?_⟩
  .refine xU [r.1+q.1,r.2.1+q.2.1] (kG _ (by decide)) (kH _ (by decide)) λt ht=>?_
   have ht:t=r.1+q.1\/t=r.2.1+q.2.1:=by simpa using ht
   walk_at "v1"
   refine ⟨tM (by decide) (by decide),_,rfl,by omega,by omega⟩
  .have c1:=kG (cell*69621^12) (show r.2.1+q.2.1-(r.1+q.1)+1≠0 by ext b b')
   have c2:=kH (cell*69621^12) (show (0:Int)<r.2.1+q.2.1-(r.1+q.1)+1 by ext b b')
   refine ⟨by decide,⟨hs,by unfold LIM;decide,by unfold LIM;decide⟩,by ext b b',_,rfl,by lia,by omega⟩
 obtain ⟨s,e,x,rfl,h⟩:=key
 exact ⟨x,e,h⟩
theorem b6u{A B:List Row}{x y z cy cz:Int}(hA:∀r∈A,aD (10^120) r)(hB:∀r∈B,aD (10^120) r)(hy:-(10^120)<=y/\y<=10^120)(hz:-(10^120)<=z/\z<=10^120)(ey:look A y=some cy)(ez:look B z=some cz)(e:y+z=x){ro rp:Bool}:
  C5 [.tup [.int y,.int z],.lst ro (A.map Row.d),.lst rp (B.map Row.d),.int x,.int (cy+cz)]=some (.sh (.bl true)):=by
 refine Wo.eq (kW.mpr ?_)
 unfold Nl
 walk_at "v1"
 refine rS ?_ ?_
 .walk_at "vc"
 walk_at "vc"
 rw [Uc hA hy,ey]
 walk_at "vc"
 rw [Uc hB hz,ez]
 walk_at "vc"
 refine ⟨λz=>(nomatch z),λ_=>⟨λz=>(nomatch z),λ_=>⟨λ_=>?_,λh=>absurd e h⟩⟩⟩
 dsimp only [rz]
 walk_at "vc"
 rfl
theorem fin(ns:List Int)(p6:ns.length<=63)(DR:∀n∈ns,Sm n):FJ [.lst true (ns.map D.int)]=some (.sh (.bl true)):=by
 refine Wo.eq (C8.mpr ?_)
 unfold K2
 walk_at "v1"
 obtain ⟨ls,el,DV,_,AG⟩:=b1X ns p6 0 6 (by decide) (by decide) (by decide) (by decide) (r:=true)
 rw [el]
 walk_at "v1"
 have k1:=Md (ls:=ls) (a:=0) (by decide) (c:=2) (by decide) (by ext DV)
 have k2:=Md (ls:=ls) (a:=1) (by decide) (c:=2) (by decide) (by ext DV)
 obtain ⟨r1,f1,e1,l1,L1,F1,g1,A1,B1,n1⟩:=RB (RD AG 0 2) (by ext k1)
 obtain ⟨r2,f2,e2,l2,L2,F2,g2,A2,B2,n2⟩:=RB (RD AG 1 2) (by ext k2)
 obtain ⟨fs,es,cs,hs,ss⟩:=b8R F1 F2 (by ext k1 g1) (by ext k2 g2)
 have Fs:=b7R F1 F2 cs hs
 rw [cj,S1,Sd (by decide) (by decide)]
 walk_at "v1"
 obtain ⟨o1,o2⟩:=QP (ls:=ls) (by ext DV) (a:=0) (c:=2) (by decide) (by decide)
 obtain ⟨o3,o4⟩:=QP (ls:=ls) (by ext DV) (a:=1) (c:=2) (by decide) (by decide)
 refine ⟨o1,o2,?_⟩
 rw [e1]
 walk_at "v1"
 rw [S1,Sd (by decide) (by decide)]
 walk_at "v1"
 refine ⟨o3,o4,?_⟩
 rw [e2]
 walk_at "v1"
 rw [l1]
 walk_at "v1"
 rw [l2]
 walk_at "v1"
 rw [es]
 walk_at "v1"
 rw [b4m]
 walk_at "v1"
 rw [show ns.map D.int++[D.int 0]=(ns++[0]).map D.int by simp]
 refine ⟨by rw [cj];exact dY ‹_› (by decide),?_⟩
 have lp:f1.length*f2.length<=100:=dY (Nat.mul_le_mul (show f1.length<=10 by ext k1 g1) (show f2.length<=10 by ext k2 g2)) (by decide)
 have P1:=(FO F1 (show (10:Int)^52<=10^60 by decide) (show (10:Int)^86<=10^130 by decide)).pb
 have P2:=(FO F2 (show (10:Int)^52<=10^60 by decide) (show (10:Int)^86<=10^130 by decide)).pb
 have bd:∀{r:Row},gi 4 r->aD (10^120) r:=λ{r} h=>by
  unfold gi at h
  unfold aD
  omega
 have vb:∀{rs:List Row} {y c:Int},(∀r∈rs,gi 4 r)->Val rs y c -> -(10^120)<=y/\y<=10^120:=λ{rs y c} h v=>by
  obtain ⟨q,hq,a,b,_⟩:=v
  have:=h q hq
  unfold gi at this
  omega
 refine oE D.int (λ_ env=>∃x7 x8 x9,env=[.sh (.lst true (ns.map D.int)),.sh (.lst false (ls.map D.int)),.sh (.lst false (r1.map Row.d)),.sh (.lst false (r2.map Row.d)),.sh (.tup (f1.map Row.d)),.sh (.tup (f2.map Row.d)),.sh (.tup (fs.map Row.d)),x7,x8,x9]) (ns++[0]) (λpre c post env e h=>?_) (λenv h=>?_) ⟨_,_,_,rfl⟩
 .obtain ⟨x7,x8,x9,rfl⟩:=h
  have hc:t7 c:=by
   have:c∈ns++[0]:=by rw [e];simp
   rcases bX.mp this with h | h
   .exact (DR c h).x
   .rw [bT.mp h];exact LA (by decide)
  obtain ⟨x,ex,hx⟩:=b3T (by ext k1 n1) (by ext k2 n2) B1 B2 hc (ro:=false) (rp:=false)
  have ec:=b3R cs.gp (by ext ss) (Fs.row (by decide) (by decide)) (x:=x) (by ext hx)
  walk_at "v1"
  rw [ex]
  walk_at "v1"
  by_cases hr:∃r∈f1,∃s∈f2,r.1+s.1<=x/\x<=r.2.1+s.2.1
  .have cC:f1≠[]/\f2≠[]:=by
    obtain ⟨r,h1,s,h2,_⟩:=hr
    exact ⟨Kd h1,Kd h2⟩
   obtain ⟨y,z,cy,cz,eb,vy,vz,qZ,sp⟩:=b8X P1 P2 cC.1 cC.2 lp hr (ro:=false)
   have wy:=(L1.val _ _).mp vy
   have wz:=(L2.val _ _).mp vz
   have ho:∃r∈r1,∃s∈r2,r.1+s.1<=x/\x<=r.2.1+s.2.1:=by
    obtain ⟨q,hq,a1,a2,_⟩:=wy
    obtain ⟨q',jR,b1,b2,_⟩:=wz
    exact ⟨q,hq,q',jR,by ext qZ a1 b1,by ext qZ a2 b2⟩
   have er:=b6u (ro:=false) (rp:=false) (λr h=>bd (B1 r h)) (λr h=>bd (B2 r h)) (vb B1 wy) (vb B2 wz) ((qE A1).mpr wy) ((qE A2).mpr wz) qZ
   rw [b2N (b6w eb)]
   walk_at "v1"
   rw [a2h]
   walk_at "v1"
   rw [Ud,decide_eq_true ho]
   walk_at "v1"
   refine rS ?_ ?_
   .walk_at "vc"
    rw [ec,(hs _ _).mpr sp]
    walk_at "vc"
    dsimp only [rz]
    rw [er]
    walk_at "vc"
   exact ⟨_,_,_,rfl⟩
  .have ho:¬ ∃r∈r1,∃s∈r2,r.1+s.1<=x/\x<=r.2.1+s.2.1:=λ⟨r,h1,s,h2,h3⟩=>by
    obtain ⟨v,hv⟩:=Conv.ex (A1.1 r h1) (A2.1 s h2) h3.1 h3.2
    obtain ⟨⟨y,z,hy,hz,qZ,_⟩,_⟩:=hv
    obtain ⟨q,hq,a1,a2,_⟩:=(L1.val y _).mpr ⟨r,h1,hy.1,hy.2,rfl⟩
    obtain ⟨q',jR,b1,b2,_⟩:=(L2.val z _).mpr ⟨s,h2,hz.1,hz.2,rfl⟩
    exact hr ⟨q,hq,q',jR,by ext qZ a1 b1,by ext qZ a2 b2⟩
   have hl:look fs x=none:=by
    cases h:look fs x with
    | none=>rfl
    | some v =>
     obtain ⟨⟨y,z,_,_,⟨q,hq,a1,a2,_⟩,⟨q',jR,b1,b2,_⟩,qZ,_⟩,_⟩:=(hs _ _).mp h
     exact absurd ⟨q,hq,q',jR,by ext a1 b1 qZ,by ext a2 b2 qZ⟩ hr
   obtain ⟨bn,bx⟩:=b2j P1 P2 (by ext k1 g1) (by ext k2 g2) lp hr (ro:=false)
   obtain ⟨pn,px⟩:=b0i bn bx
   rw [b5j pn px]
   walk_at "v1"
   rw [a2h]
   walk_at "v1"
   rw [Ud,decide_eq_false ho]
   walk_at "v1"
   refine rS ?_ ?_
   .walk_at "vc"
    rw [ec,hl]
    walk_at "vc"
    rfl
   exact ⟨_,_,_,rfl⟩
 .obtain ⟨x7,x8,x9,rfl⟩:=h
  walk_at "vc"
end My
namespace PySem.W.Fast
theorem tw16839953810336200291:True:=trivial
theorem tw3376464307795283908:True:=trivial
theorem tw10233201086849646685:True:=trivial
theorem tw9663617413093774484:True:=trivial
theorem tw12783686689478048361:True:=trivial
theorem tw13776362446648888098:True:=trivial
theorem tw7737368033789145107:True:=trivial
theorem tw10495009843873847519:True:=trivial
theorem tw7346034166546792497:True:=trivial
theorem tw14332335853162445964:True:=trivial
theorem tw7638079733998585450:True:=trivial
theorem tw13792515681111722266:True:=trivial
theorem tw3997251930858420129:True:=trivial
theorem tw13990388233247589635:True:=trivial
theorem tw8123706547950775934:True:=trivial
theorem tw15996430671697982662:True:=trivial
theorem tw10903386440294672830:True:=trivial
theorem tw6915223898405026044:True:=trivial
theorem tw5224520305678393311:True:=trivial
theorem tw12919178295844838807:True:=trivial
theorem tw5756174090390994683:True:=trivial
theorem tw14133926996178980698:True:=trivial
theorem tw12174387099554130554:True:=trivial
theorem tw3504979900505868591:True:=trivial
theorem tw18165703078762170960:True:=trivial
theorem tw12518686736229287031:True:=trivial
theorem tw479538731020848186:True:=trivial
theorem tw1218389505570607444:True:=trivial
theorem tw12904915767233189150:True:=trivial
theorem tw1193147770603642325:True:=trivial
theorem tw18260382982296431097:True:=trivial
theorem tw7035624872369456402:True:=trivial
theorem tw12120640506574023707:True:=trivial
theorem tw2527623708062639578:True:=trivial
theorem tw8619525500513520133:True:=trivial
theorem tw4884206920404278457:True:=trivial
theorem tw8142370837773198719:True:=trivial
theorem tw2826803386065356227:True:=trivial
theorem tw10746114818151669460:True:=trivial
theorem tw18207199840380222608:True:=trivial
theorem tw10792645476161598049:True:=trivial
theorem tw15761567106518280258:True:=trivial
theorem tw7054568332491379784:True:=trivial
theorem tw11134507829108403622:True:=trivial
theorem tw6536913344297294291:True:=trivial
theorem tw17639822679617824436:True:=trivial
theorem tw5612646483303054707:True:=trivial
theorem tw16535776234212575488:True:=trivial
theorem tw2487779951709982974:True:=trivial
theorem tw1894260938436201489:True:=trivial
theorem tw12007191294997327903:True:=trivial
theorem tw17946665943043991129:True:=trivial
theorem tw2168102613113406376:True:=trivial
theorem tw13192811417542649610:True:=trivial
theorem tw10987889378673557029:True:=trivial
theorem tw2119339944003693493:True:=trivial
theorem tw11894920985731957182:True:=trivial
theorem tw9086463154167471495:True:=trivial
theorem tw4763887828208300613:True:=trivial
theorem tw6683209993421240855:True:=trivial
theorem tw7317274542320712787:True:=trivial
theorem tw13075450305213941934:True:=trivial
theorem tw12996985883891709497:True:=trivial
theorem tw10297976933787763880:True:=trivial
theorem tw10582828652135835804:True:=trivial
theorem tw3454487632083308762:True:=trivial
theorem tw4822164907280168016:True:=trivial
theorem tw11804668565776829087:True:=trivial
theorem tw1067709413696886405:True:=trivial
theorem tw9486349251164603077:True:=trivial
theorem tw5190304032974307362:True:=trivial
theorem tw653236749391936617:True:=trivial
theorem tw14143259593546951840:True:=trivial
theorem tw15803081704445689979:True:=trivial
theorem tw14031557119089104539:True:=trivial
theorem tw1955120840240809689:True:=trivial
theorem tw15934009460632819864:True:=trivial
theorem tw11018646833385916831:True:=trivial
theorem tw5198192335313586279:True:=trivial
theorem tw14699307104451672990:True:=trivial
theorem tw6044465499502206316:True:=trivial
theorem tw6181188919499962574:True:=trivial
theorem tw2149591047426463225:True:=trivial
theorem tw3481733753748275936:True:=trivial
theorem tw8136416629942820105:True:=trivial
theorem tw4682986403722271178:True:=trivial
theorem tw7576868227716104960:True:=trivial
theorem tw13936385605668804480:True:=trivial
theorem tw3367040716952431311:True:=trivial
theorem tw11991520584025012606:True:=trivial
theorem tw12094101280423300965:True:=trivial
theorem tw11484251218455029571:True:=trivial
theorem tw15560713131061311321:True:=trivial
theorem tw14095675151477260039:True:=trivial
theorem tw11482845157982752445:True:=trivial
theorem tw17124357473086216502:True:=trivial
theorem tw4243350796660982289:True:=trivial
theorem tw17705198151497289251:True:=trivial
theorem tw17582995949332436720:True:=trivial
theorem tw5768164734239920093:True:=trivial
theorem tw18320132061817165463:True:=trivial
theorem tw16786360781436073812:True:=trivial
theorem tw13341825836761109953:True:=trivial
theorem tw533632498830178341:True:=trivial
theorem tw14201680613300330239:True:=trivial
theorem tw18385306288364594160:True:=trivial
theorem tw10514102772037426226:True:=trivial
theorem tw15842043175572515372:True:=trivial
theorem tw5978983682608088488:True:=trivial
theorem tw203949572068276668:True:=trivial
theorem tw514621836102906677:True:=trivial
theorem tw12994229584891354729:True:=trivial
theorem tw6182881507299118488:True:=trivial
theorem tw4591622443581544735:True:=trivial
theorem tw17644092918212736614:True:=trivial
theorem tw15683013227674932037:True:=trivial
theorem tw5114562674658743839:True:=trivial
theorem tw17317557595810453173:True:=trivial
theorem tw3501699023413931961:True:=trivial
theorem tw11858434251001605277:True:=trivial
theorem tw12624046676509356041:True:=trivial
theorem tw5515858294412971736:True:=trivial
theorem tw8684148965445679215:True:=trivial
theorem tw10919540808773174370:True:=trivial
theorem tw14268166172580965954:True:=trivial
theorem tw8170427579864610859:True:=trivial
theorem tw6832130063990253504:True:=trivial
theorem tw4371870466081434949:True:=trivial
theorem tw13035755165880224507:True:=trivial
theorem tw4289714018036799760:True:=trivial
theorem tw11932891779861484037:True:=trivial
theorem tw7924179629972942095:True:=trivial
theorem tw5814249468718589791:True:=trivial
theorem tw9705867296824137658:True:=trivial
theorem tw409171470588395544:True:=trivial
theorem tw9649260020220363609:True:=trivial
theorem tw4578010235798466954:True:=trivial
theorem tw4271552693283134017:True:=trivial
theorem tw10835480255808581714:True:=trivial
theorem tw10375152643055199059:True:=trivial
theorem tw4527397270641761768:True:=trivial
theorem tw12888903117299849330:True:=trivial
theorem tw7013281021464680668:True:=trivial
theorem tw17190506979054167289:True:=trivial
theorem tw17019425849887284729:True:=trivial
theorem tw6601749369079991179:True:=trivial
theorem tw17109198198696652719:True:=trivial
theorem tw15948721544121244888:True:=trivial
theorem tw5312482478520465981:True:=trivial
theorem tw8779654177675259723:True:=trivial
theorem tw17803054311760967584:True:=trivial
theorem tw12851871476379334644:True:=trivial
theorem tw15308532159727835563:True:=trivial
theorem tw1679497290862347276:True:=trivial
theorem tw336605047338500781:True:=trivial
theorem tw14697620315409648216:True:=trivial
theorem tw16299955929121678027:True:=trivial
theorem tw4714079999405347162:True:=trivial
theorem tw17986905225265076108:True:=trivial
theorem tw8589520315116856756:True:=trivial
theorem tw7608845719853926590:True:=trivial
theorem tw4329631489907684413:True:=trivial
theorem tw5854808458744170536:True:=trivial
theorem tw13375956691956212468:True:=trivial
theorem tw5314954225126940703:True:=trivial
theorem tw18430224475435536606:True:=trivial
theorem tw1623498512608580464:True:=trivial
theorem tw14340921552451555594:True:=trivial
theorem tw16424559956284889754:True:=trivial
theorem tw8156465882904179531:True:=trivial
theorem tw8095580271511134856:True:=trivial
theorem tw9429331346045145445:True:=trivial
theorem tw11140586066700772967:True:=trivial
theorem tw4751929942851257019:True:=trivial
theorem tw3635389623694953871:True:=trivial
theorem tw10858003452257235202:True:=trivial
theorem tw4204706343738688621:True:=trivial
theorem tw13128515112391801437:True:=trivial
theorem tw13762799493820057643:True:=trivial
theorem tw12264935573796707348:True:=trivial
theorem tw7457336392292751035:True:=trivial
theorem tw9099919339601021533:True:=trivial
theorem tw18287890180921650209:True:=trivial
theorem tw16114262822871379085:True:=trivial
theorem tw13847844486392295201:True:=trivial
theorem tw9519700561224380376:True:=trivial
theorem tw8222674776302827665:True:=trivial
theorem tw9974575635761415225:True:=trivial
theorem tw11630958596643975160:True:=trivial
end PySem.W.Fast
open PySem PySem.W PyProof.Rows
set_option maxRecDepth 100000 in
set_option maxHeartbeats 0 in
theorem PySem.Challenge.cw_offerhouse_k44_parts_told_holds : PySem.Challenge.rw_offerhouse_k44_parts_told.Holds := by
  w_on; o_law; k_head; (case hw => w_witness2)
  k_fill
  refine DL.ua (l := PySem.Challenge.rw_offerhouse_k44_parts_told) (k := 14) ⟨rfl, by decide, by decide⟩ rfl rfl (fun w h Y => ⟨PySem.W.km_in_of Y, PySem.W.km_tabs_of Y⟩) (fun w => by kernel_rfl) ?F
  case F =>
    intro w mg fa h KX G uL
    refine' My.all_mk (cT := 267) (pT := 265) KX G uL ?i1 ?i2 ?i3 ?i4 ?i5 ?i6 ?i7 ?i8 ?i9 ?i10 ?i11 ?i12 ?i13 ?i14 ?i15 ?i16 ?i17 ?i18 ?i19 ?i20 ?i21 ?i22 ?i23 ?i24 ?i25 ?i26 ?i27 ?i28 ?i29 ?i30 ?i31 ?i32 ?i33 ?i34 ?i35 ?i36 ?i37 ?i38 ?i39 ?i40 ?i41 ?i42 ?i43 ?zmax ?zmin ?ztuple ?zlen ?zsorted ?zsum ?zMOST_PICKS ?zzip ?zrange ?zisinstance ?zValueError ?zbool ?zint ?n_NotOffered ?g1_NotOffered ?g2_NotOffered ?g3_NotOffered ?g6_NotOffered ?g8_NotOffered ?g7_NotOffered ?n_OfferError ?g1_OfferError ?g2_OfferError ?g3_OfferError ?g6_OfferError ?g8_OfferError ?g7_OfferError ?n_TooMany ?g1_TooMany ?g2_TooMany ?g3_TooMany ?g6_TooMany ?g8_TooMany ?g7_TooMany ?g4 ?g5 ?e_NotOffered_OfferError ?e_TooMany_OfferError ?s_NotOffered_NotOffered ?s_NotOffered_TooMany ?s_TooMany_NotOffered ?s_TooMany_TooMany ?v_NotOffered_ValueError ?v_TooMany_ValueError ?x1_NotOffered ?x2_NotOffered ?x3_NotOffered ?x4_NotOffered ?x1_TooMany ?x2_TooMany ?x3_TooMany ?x4_TooMany ?hT ?hC ?fin
    (case i1 => constructor <;> k_is)
    (case i2 => constructor <;> k_is)
    (case i3 => constructor <;> k_is)
    (case i4 => constructor <;> k_is)
    (case i5 => constructor <;> k_is)
    (case i6 => constructor <;> k_is)
    (case i7 => constructor <;> k_is)
    (case i8 => constructor <;> k_is)
    (case i9 => constructor <;> k_is)
    (case i10 => constructor <;> k_is)
    (case i11 => constructor <;> k_is)
    (case i12 => constructor <;> k_is)
    (case i13 => constructor <;> k_is)
    (case i14 => constructor <;> k_is)
    (case i15 => constructor <;> k_is)
    (case i16 => constructor <;> k_is)
    (case i17 => constructor <;> k_is)
    (case i18 => constructor <;> k_is)
    (case i19 => constructor <;> k_is)
    (case i20 => constructor <;> k_is)
    (case i21 => constructor <;> k_is)
    (case i22 => constructor <;> k_is)
    (case i23 => constructor <;> k_is)
    (case i24 => constructor <;> k_is)
    (case i25 => constructor <;> k_is)
    (case i26 => constructor <;> k_is)
    (case i27 => constructor <;> k_is)
    (case i28 => constructor <;> k_is)
    (case i29 => constructor <;> k_is)
    (case i30 => constructor <;> k_is)
    (case i31 => constructor <;> k_is)
    (case i32 => constructor <;> k_is)
    (case i33 => constructor <;> k_is)
    (case i34 => constructor <;> k_is)
    (case i35 => constructor <;> k_is)
    (case i36 => constructor <;> k_is)
    (case i37 => constructor <;> k_is)
    (case i38 => constructor <;> k_is)
    (case i39 => constructor <;> k_is)
    (case i40 => constructor <;> k_is)
    (case i41 => constructor <;> k_is)
    (case i42 => constructor <;> k_is)
    (case i43 => constructor <;> k_is)
    (case zmax => k_is)
    (case zmin => k_is)
    (case ztuple => k_is)
    (case zlen => k_is)
    (case zsorted => k_is)
    (case zsum => k_is)
    (case zMOST_PICKS => exact ⟨_, by k_is⟩)
    (case zzip => k_is)
    (case zrange => k_is)
    (case zisinstance => k_is)
    (case zValueError => k_is)
    (case zbool => k_is)
    (case zint => k_is)
    (case n_NotOffered => k_is)
    (case g1_NotOffered => k_is)
    (case g2_NotOffered => k_is)
    (case g3_NotOffered => k_is)
    (case g6_NotOffered => k_is)
    (case g8_NotOffered => k_is)
    (case g7_NotOffered => kernel_rfl)
    (case n_OfferError => k_is)
    (case g1_OfferError => k_is)
    (case g2_OfferError => k_is)
    (case g3_OfferError => k_is)
    (case g6_OfferError => k_is)
    (case g8_OfferError => k_is)
    (case g7_OfferError => kernel_rfl)
    (case n_TooMany => k_is)
    (case g1_TooMany => k_is)
    (case g2_TooMany => k_is)
    (case g3_TooMany => k_is)
    (case g6_TooMany => k_is)
    (case g8_TooMany => k_is)
    (case g7_TooMany => kernel_rfl)
    (case g4 => k_is)
    (case g5 => k_is)
    (case e_NotOffered_OfferError => kernel_rfl)
    (case e_TooMany_OfferError => kernel_rfl)
    (case s_NotOffered_NotOffered => kernel_rfl)
    (case s_NotOffered_TooMany => kernel_rfl)
    (case s_TooMany_NotOffered => kernel_rfl)
    (case s_TooMany_TooMany => kernel_rfl)
    (case v_NotOffered_ValueError => kernel_rfl)
    (case v_TooMany_ValueError => kernel_rfl)
    (case x1_NotOffered => k_is)
    (case x2_NotOffered => kernel_rfl)
    (case x3_NotOffered => k_is)
    (case x4_NotOffered => kernel_rfl)
    (case x1_TooMany => k_is)
    (case x2_TooMany => kernel_rfl)
    (case x3_TooMany => k_is)
    (case x4_TooMany => kernel_rfl)
    (case hT => kernel_rfl)
    (case hC => kernel_rfl)
    (case fin => exact My.fin)
