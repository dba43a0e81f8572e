import PyProof.Rows.All
import Wide.All
import OpenK.AllK
import Wide.FinOn
import Lean
import PyProof.EqAt
import PyProof.EqKinds
import PyProof.TupleCall
import PySem.Challenge.RW_offerhouse_k33_leaves_as_forms
set_option Elab.async false
set_option linter.all false
set_option synthInstance.maxSize 10000
set_option synthInstance.maxHeartbeats 60000
namespace QA
inductive E | v (i:Nat) | k (n:Nat) | i (z:Int) | u (b:Bool) (x y:E) | a (x y:E) | s (x y:E) | n (x:E) | m (s:Bool) (n:Nat) (z:Int) (x:E) | c (x:E)
inductive F | le (d t:Bool) (x y:E) | eq (t:Bool) (x y:E) | ff | no (f:F) | an (f g:F) | or (f g:F) | im (f g:F) | io (f g:F)
structure C where
  i:List Int
  n:List Nat
noncomputable def gi:List Int->Nat->Int
  | [],_=>0
  | x::_,0=>x
  | _::l,i+1=>gi l i
noncomputable def gn:List Nat->Nat->Nat
  | [],_=>0
  | x::_,0=>x
  | _::l,i+1=>gn l i
noncomputable def den (c:C):E->Nat × Int
  | .v i=>(gn c.n i,gi c.i i)
  | .k n=>(n,0)
  | .i z=>(0,z)
  | .u b x y=>(cond b (max (den c x).1 (den c y).1) (min (den c x).1 (den c y).1),cond b (max (den c x).2 (den c y).2) (min (den c x).2 (den c y).2))
  | .a x y=>((den c x).1+(den c y).1,(den c x).2+(den c y).2)
  | .s x y=>((den c x).1 - (den c y).1,(den c x).2 - (den c y).2)
  | .n x=>(0,- (den c x).2)
  | .m s n z x=>(cond s (n * (den c x).1) ((den c x).1 * n),cond s (z * (den c x).2) ((den c x).2 * z))
  | .c x=>((den c x).2.toNat,((den c x).1:Int))
noncomputable def dF (c:C):F->Prop
  | .le d t x y=>cond d (cond t ((den c x).1 < (den c y).1) ((den c x).2 < (den c y).2)) (cond t ((den c x).1<=(den c y).1) ((den c x).2<=(den c y).2))
  | .eq t x y=>cond t ((den c x).1=(den c y).1) ((den c x).2=(den c y).2)
  | .ff=>False
  | .no f=>¬ dF c f
  | .an f g=>dF c f/\dF c g
  | .or f g=>dF c f ∨ dF c g
  | .im f g=>dF c f->dF c g
  | .io f g=>(dF c f ↔ dF c g)
noncomputable def ev (r:Nat->Int):List Int->Int
  | []=>0
  | c::l=>c * r 0+ev (λi=>r (i+1)) l
noncomputable def ad:List Int->List Int->List Int
  | [],m=>m
  | x::l,[]=>x::l
  | x::l,y::m=>Int.add x y::ad l m
noncomputable def sc (k:Int):List Int->List Int
  | []=>[]
  | x::l=>Int.mul k x::sc k l
theorem ev_ad:∀ (l m:List Int) (r:Nat->Int),ev r (ad l m)=ev r l+ev r m
  | [],m,r=>(Int.zero_add _).symm
  | x::l,[],r=>(Int.add_zero _).symm
  | x::l,y::m,r=>by
    show (x+y) * r 0+ev _ (ad l m)=(x * r 0+ev _ l)+(y * r 0+ev _ m)
    rw [ev_ad l m,Int.add_mul];omega
theorem ev_sc (k:Int):∀ (l:List Int) (r:Nat->Int),ev r (sc k l)=k * ev r l
  | [],r=>(Int.mul_zero k).symm
  | x::l,r=>by
    show k * x * r 0+ev _ (sc k l)=k * (x * r 0+ev _ l)
    rw [ev_sc k l,Int.mul_add,Int.mul_assoc]
noncomputable def zz:List Int->List Int
  | []=>[]
  | k::l=>k::0::0::l
noncomputable def ui:Nat->List Int
  | 0=>[0,1]
  | i+1=>zz (ui i)
noncomputable def un:Nat->List Int
  | 0=>[0,0,1]
  | i+1=>zz (un i)
noncomputable def rr (c:C):Nat->Nat->Int
  | j,0=>gi c.i j
  | j,1=>(gn c.n j:Int)
  | j,i+2=>rr c (j+1) i
noncomputable def rho (c:C) (j:Nat):Nat->Int
  | 0=>1
  | i+1=>rr c j i
theorem ev_zz {c:C} {j:Nat}:∀ l,ev (rho c j) (zz l)=ev (rho c (j+1)) l
  | []=>rfl
  | k::l=>by
    show k * 1+(0 * _+(0 * _+ev _ l))=k * 1+ev _ l
    rw [Int.zero_mul,Int.zero_mul,Int.zero_add,Int.zero_add];rfl
theorem ev_ui {c:C}:∀ (i j:Nat),ev (rho c j) (ui i)=gi c.i (j+i)
  | 0,j=>by show 0 * _+(1 * gi c.i j+0)=gi c.i j;omega
  | i+1,j=>by show ev _ (zz _)=_;rw [ev_zz,ev_ui i];congr 1;omega
theorem ev_un {c:C}:∀ (i j:Nat),ev (rho c j) (un i)=(gn c.n (j+i):Int)
  | 0,j=>by show 0 * _+(0 * _+(1 * (gn c.n j:Int)+0))=(gn c.n j:Int);omega
  | i+1,j=>by show ev _ (zz _)=_;rw [ev_zz,ev_un i];congr 2;omega
noncomputable def ge (k:Int) (x y:List Int):List Int:=ad [k] (ad y (sc (-1) x))
theorem ev_ge {c:C} {k:Int} {x y:List Int}:ev (rho c 0) (ge k x y)=k+ev (rho c 0) y - ev (rho c 0) x:=by
  unfold ge;rw [ev_ad,ev_ad,ev_sc];show k * 1+0+_=_;omega
noncomputable def Al (r:Nat->Int) (l:List (List Int)):Prop:=∀ x∈l,0<=ev r x
theorem al_c {r:Nat->Int} {x:List Int} {l:List (List Int)} (h:0<=ev r x) (hl:Al r l):Al r (x::l):=List.forall_mem_cons.mpr ⟨h,hl⟩
theorem al_n {r:Nat->Int}:Al r []:=λ_ h=>nomatch h
theorem al_a {r:Nat->Int} {l m:List (List Int)} (h:Al r l) (hl:Al r m):Al r (l++m):=λx hx=>(List.mem_append.mp hx).elim (h x) (hl x)
noncomputable abbrev A:=List Int × List (List Int)
noncomputable def G (c:C) (P:List A) (v:Int):Prop:=∃ q∈P,ev (rho c 0) q.1=v/\Al (rho c 0) q.2
noncomputable def cp (P Q:List A) (f:List Int->List Int->List A):List A:=P.flatMap λp=>Q.flatMap λq=>(f p.1 q.1).map λr=>(r.1,r.2++(p.2++q.2))
theorem cp_ok {c:C} {P Q:List A} {f:List Int->List Int->List A} {x y v:Int} (hx:G c P x) (hy:G c Q y) (hf:∀ l m,ev (rho c 0) l=x->ev (rho c 0) m=y->G c (f l m) v):G c (cp P Q f) v:=by
  obtain ⟨p,p1,p2,p3⟩:=hx;obtain ⟨q,q1,q2,q3⟩:=hy;obtain ⟨r,r1,r2,r3⟩:=hf _ _ p2 q2
  exact ⟨_,List.mem_flatMap.mpr ⟨p,p1,List.mem_flatMap.mpr ⟨q,q1,List.mem_map.mpr ⟨r,r1,rfl⟩⟩⟩,r2,al_a r3 (al_a p3 q3)⟩
noncomputable def e0:List A:=[([],[])]
noncomputable def li:E->Bool->List A
  | .v i,t=>[(cond t (un i) (ui i),[])]
  | .k n,t=>[(cond t [(n:Int)] [],[])]
  | .i z,t=>[(cond t [] [z],[])]
  | .u b x y,t=>cp (li x t) (li y t) λl m=>[(cond b l m,[ge 0 m l]),(cond b m l,[ge 0 l m])]
  | .a x y,t=>cp (li x t) (li y t) λl m=>[(ad l m,[])]
  | .s x y,t=>cp (li x t) (li y t) λl m=>(ge 0 m l,cond t [ge 0 m l] [])::cond t [([],[ge 0 l m])] []
  | .n x,t=>cp (li x t) e0 λl _=>[(cond t [] (sc (-1) l),[])]
  | .m _ n z x,t=>cp (li x t) e0 λl _=>[(sc (cond t (n:Int) z) l,[])]
  | .c x,t=>cp (li x (!t)) e0 λl _=>(l,cond t [l] [])::cond t [([],[ge 0 l []])] []
noncomputable def va (c:C) (t:Bool) (e:E):Int:=cond t ((den c e).1:Int) (den c e).2
theorem g1 {c:C} {l:List Int} {v:Int} {L:List A} {k:List (List Int)} (h:ev (rho c 0) l=v) (hk:Al (rho c 0) k):G c ((l,k)::L) v:=⟨_,List.mem_cons_self ..,h,hk⟩
theorem g2 {c:C} {q:A} {v:Int} {L:List A} (h:G c L v):G c (q::L) v:=h.elim λx hx=>⟨x,List.mem_cons_of_mem _ hx.1,hx.2⟩
theorem ge_1 {c:C} {l m:List Int} {x y:Int} (hx:ev (rho c 0) l=x) (hy:ev (rho c 0) m=y) (h:y<=x):Al (rho c 0) [ge 0 m l]:=al_c (by rw [ev_ge];omega) al_n
theorem li_ok {c:C} (e:E):∀ (t:Bool),G c (li e t) (va c t e):=by
  have z0:G c e0 0:=g1 rfl al_n
  have k1:∀ k,ev (rho c 0) [k]=k:=λk=>by show k * 1+0=k;omega
  induction e with
  | v i=>intro t;cases t <;> exact g1 ((by first | exact ev_ui i 0 | exact ev_un i 0:ev _ _=_).trans (by rw [Nat.zero_add];rfl)) al_n
  | k n=>intro t;cases t;exact g1 rfl al_n;exact g1 (k1 _) al_n
  | i z=>intro t;cases t;exact g1 (k1 _) al_n;exact g1 rfl al_n
  | u b x y hx hy =>
    intro t;refine cp_ok (hx t) (hy t) λl m e1 e2=>?_
    rcases Int.le_total (va c t y) (va c t x) with h | h
    · refine g1 ?_ (ge_1 e1 e2 h)
      cases t <;> cases b <;> (show ev _ _=_;simp only [cond_true,cond_false];first | rw [e1] | rw [e2]) <;> (simp only [va,den,cond_true,cond_false] at *;omega)
    · refine g2 (g1 ?_ (ge_1 e2 e1 h))
      cases t <;> cases b <;> (show ev _ _=_;simp only [cond_true,cond_false];first | rw [e1] | rw [e2]) <;> (simp only [va,den,cond_true,cond_false] at *;omega)
  | a x y hx hy =>
    intro t;refine cp_ok (hx t) (hy t) λl m e1 e2=>g1 ?_ al_n
    rw [ev_ad,e1,e2];cases t <;> simp only [va,den,cond_true,cond_false];omega
  | s x y hx hy =>
    intro t;refine cp_ok (hx t) (hy t) λl m e1 e2=>?_
    cases t with
    | false=>exact g1 (by rw [ev_ge,e1,e2];simp only [va,den,cond_false];omega) al_n
    | true =>
      rcases Int.le_total (va c true y) (va c true x) with h | h
      · exact g1 (by rw [ev_ge,e1,e2];simp only [va,den,cond_true] at *;omega) (ge_1 e1 e2 h)
      · exact g2 (g1 (by show (0:Int)=_;simp only [va,den,cond_true] at *;omega) (ge_1 e2 e1 h))
  | n x hx =>
    intro t;refine cp_ok (hx t) z0 λl m e1 e2=>g1 ?_ al_n
    cases t with
    | false=>show ev _ (sc _ _)=_;rw [ev_sc,e1];simp only [va,den,cond_false];omega
    | true=>rfl
  | m s n z x hx =>
    intro t;refine cp_ok (hx t) z0 λl m e1 e2=>g1 ?_ al_n
    rw [ev_sc,e1];cases t <;> cases s <;> simp only [va,den,cond_true,cond_false,Int.natCast_mul,Int.mul_comm]
  | c x hx =>
    intro t;refine cp_ok (hx (!t)) z0 λl m e1 e2=>?_
    cases t with
    | false=>exact g1 e1 al_n
    | true =>
      rcases Int.le_total 0 (va c false x) with h | h
      · exact g1 (by rw [e1];simp only [va,den,cond_true,cond_false,Bool.not_true] at *;omega) (al_c (by rw [e1];exact h) al_n)
      · exact g2 (g1 (by show (0:Int)=_;simp only [va,den,cond_true,cond_false] at *;omega) (ge_1 rfl e1 h))
noncomputable def sg:Int->Ordering
  | .ofNat 0=>.eq
  | .ofNat _=>.gt
  | .negSucc _=>.lt
noncomputable abbrev B:=Int × Int × List Int
structure P3 where
  p:List B
  n:List B
  z:List (List Int)
noncomputable def p1 (k a:Int) (r:List Int) (q:P3):Ordering->P3
  | .eq=>⟨q.p,q.n,(k::r)::q.z⟩
  | .gt=>⟨(a,k,r)::q.p,q.n,q.z⟩
  | .lt=>⟨q.p,(Int.neg a,k,r)::q.n,q.z⟩
noncomputable def ex:Nat->List Int->Int × List Int
  | _,[]=>(0,[])
  | 0,a::l=>(a,l)
  | j+1,a::l=>((ex j l).1,a::(ex j l).2)
noncomputable def p2 (j:Nat) (q:P3):List Int->P3
  | []=>q
  | k::l=>p1 k (ex j l).1 (ex j l).2 q (sg (ex j l).1)
noncomputable def pt (j:Nat):List (List Int)->P3
  | []=>⟨[],[],[]⟩
  | x::l=>p2 j (pt j l) x
noncomputable def ct (q:P3):Bool:=Nat.ble (Nat.mul q.p.length q.n.length) (Nat.succ (Nat.add q.p.length q.n.length))
noncomputable def bs (l:List (List Int)):Nat->Nat->Nat
  | 0,_=>0
  | n+1,j=>cond (ct (pt j l)) j (bs l n (j+1))
noncomputable def gc:List Int->Nat
  | []=>0
  | x::l=>Nat.gcd x.natAbs (gc l)
noncomputable def dv (g:Int):List Int->List Int
  | []=>[]
  | x::l=>x / g::dv g l
noncomputable def t1 (k:Int) (l:List Int):Nat->List Int
  | 0=>[k]
  | 1=>k::l
  | g+2=>k / ((g+2:Nat):Int)::dv ((g+2:Nat):Int) l
noncomputable def tg:List Int->List Int
  | []=>[]
  | k::l=>t1 k l (gc l)
noncomputable def co (a b:B):List Int:=tg (ad (sc b.1 (a.2.1::a.2.2)) (sc a.1 (b.2.1::b.2.2)))
noncomputable def cr (n:List B) (z:List (List Int)) (p:List B):List (List Int):=(p.flatMap λa=>n.map λb=>co a b)++z
noncomputable def f1:List Int->Bool
  | [.negSucc _]=>true
  | _=>false
noncomputable def f0 (l:List (List Int)) (j:Nat) (f:List (List Int)->Bool):Bool:=f (cr (pt j l).n (pt j l).z (pt j l).p)
noncomputable def fm:Nat->List (List Int)->Bool
  | 0,l=>l.any f1
  | n+1,l=>l.any f1 || (Nat.ble l.length 300 && f0 l (bs l (n+1) 0) (fm n))
noncomputable def dr:Nat->(Nat->Int)->Nat->Int
  | 0,r,i=>r (i+1)
  | _+1,r,0=>r 0
  | j+1,r,i+1=>dr j (λi=>r (i+1)) i
theorem ex_ok:∀ (j:Nat) (l:List Int) (r:Nat->Int),ev r l=(ex j l).1 * r j+ev (dr j r) (ex j l).2
  | 0,[],r=>by show 0=0 * _+0;rw [Int.zero_mul];rfl
  | j+1,[],r=>by show 0=0 * _+0;rw [Int.zero_mul];rfl
  | 0,a::l,r=>rfl
  | j+1,a::l,r=>by
    show a * r 0+ev _ l=(ex j l).1 * r (j+1)+(a * r 0+ev (dr j λi=>r (i+1)) (ex j l).2)
    rw [ex_ok j l];exact Int.add_left_comm ..
noncomputable def sh (j:Nat) (r:Nat->Int):Nat->Int
  | 0=>r 0
  | i+1=>dr j (λi=>r (i+1)) i
theorem ev_cut {r:Nat->Int} {j:Nat} {k:Int} {l:List Int}:ev r (k::l)=(ex j l).1 * r (j+1)+ev (sh j r) (k::(ex j l).2):=by
  show k * r 0+ev _ l=(ex j l).1 * r (j+1)+(k * r 0+ev (dr j λi=>r (i+1)) (ex j l).2)
  rw [ex_ok j l];exact Int.add_left_comm ..
noncomputable def Bp (r:Nat->Int) (y:Int) (a:B):Prop:=0 < a.1/\0<=a.1 * y+ev r (a.2.1::a.2.2)
noncomputable def P0 (r:Nat->Int) (j:Nat) (q:P3):Prop:=(∀ a∈q.p,Bp (sh j r) (r (j+1)) a)/\(∀ a∈q.n,Bp (sh j r) (-r (j+1)) a)/\Al (sh j r) q.z
theorem sg_ok (a:Int):(sg a=.eq/\a=0) ∨ (sg a=.gt/\0 < a) ∨ (sg a=.lt/\a < 0):=by
  match a with
  | .ofNat 0=>exact .inl ⟨rfl,rfl⟩
  | .ofNat (n+1)=>exact .inr (.inl ⟨rfl,Int.natCast_pos.mpr (Nat.succ_pos n)⟩)
  | .negSucc _=>exact .inr (.inr ⟨rfl,by omega⟩)
theorem p2_ok {r:Nat->Int} {j:Nat} {q:P3} (h:P0 r j q):∀ {x:List Int},0<=ev r x->P0 r j (p2 j q x)
  | [],_=>h
  | k::l,hx=>by
    rw [ev_cut (j:=j)] at hx
    show P0 r j (p1 k (ex j l).1 (ex j l).2 q (sg (ex j l).1))
    rcases sg_ok (ex j l).1 with ⟨e,g⟩ | ⟨e,g⟩ | ⟨e,g⟩ <;> rw [e]
    · exact ⟨h.1,h.2.1,al_c (by rw [g,Int.zero_mul,Int.zero_add] at hx;exact hx) h.2.2⟩
    · exact ⟨List.forall_mem_cons.mpr ⟨⟨g,hx⟩,h.1⟩,h.2⟩
    · exact ⟨h.1,List.forall_mem_cons.mpr ⟨⟨Int.neg_pos_of_neg g,by show 0<=-(ex j l).1 * -r (j+1)+_;rw [Int.neg_mul_neg];exact hx⟩,h.2.1⟩,h.2.2⟩
theorem pt_ok {r:Nat->Int} (j:Nat):∀ {l:List (List Int)},Al r l->P0 r j (pt j l)
  | [],_=>⟨λ_ h=>(nomatch h),λ_ h=>(nomatch h),al_n⟩
  | x::l,h=>p2_ok (pt_ok j λy hy=>h y (List.mem_cons_of_mem _ hy)) (h x (List.mem_cons_self ..))
theorem gc_dv:∀ (l:List Int) (g:Nat) (r:Nat->Int),g ∣ gc l->ev r l=g * ev r (dv g l)
  | [],g,r,_=>(Int.mul_zero _).symm
  | x::l,g,r,h=>by
    have h3:(g:Int) * (x / g)=x:=Int.mul_ediv_cancel' (Int.ofNat_dvd_left.mpr (Nat.dvd_trans h (Nat.gcd_dvd_left ..)))
    show x * _+ev _ l=g * (x / g * _+ev _ (dv g l))
    rw [gc_dv l g _ (Nat.dvd_trans h (Nat.gcd_dvd_right ..)),Int.mul_add,← Int.mul_assoc,h3]
theorem t1_ok {r:Nat->Int} (hr:r 0=1) {k:Int} {l:List Int} (h:0<=ev r (k::l)):∀ {g},g=gc l->0<=ev r (t1 k l g)
  | 0,e=>by
    have h:0<=k * r 0+ev _ l:=h
    rw [gc_dv l 0 _ (by rw [e];exact Nat.dvd_refl _),Int.natCast_zero,Int.zero_mul] at h;exact h
  | 1,e=>h
  | g+2,e=>by
    have h:0<=k * r 0+ev _ l:=h
    show 0<=k / ((g+2:Nat):Int) * r 0+ev _ (dv ((g+2:Nat):Int) l)
    rw [gc_dv l (g+2) _ (by rw [e];exact Nat.dvd_refl _),hr,Int.mul_one] at h
    rw [hr,Int.mul_one]
    have hg:0 < ((g+2:Nat):Int):=by omega
    generalize ((g+2:Nat):Int)=d at *
    generalize ev _ (dv d l)=y at *
    have:-y<=k / d:=(Int.le_ediv_iff_mul_le hg).mpr (by rw [Int.neg_mul,Int.mul_comm];omega)
    omega
theorem co_ok {r:Nat->Int} (hr:r 0=1) {y:Int} {a b:B} (h1:Bp r y a) (h2:Bp r (-y) b):0<=ev r (co a b):=by
  refine t1_ok hr ?_ rfl
  show 0<=ev r (ad (sc b.1 (a.2.1::a.2.2)) (sc a.1 (b.2.1::b.2.2)))
  rw [ev_ad,ev_sc,ev_sc]
  have e1:=Int.mul_nonneg (Int.le_of_lt h2.1) h1.2
  have e2:=Int.mul_nonneg (Int.le_of_lt h1.1) h2.2
  rw [Int.mul_add] at e1 e2
  have:a.1 * (b.1 * -y)=- (b.1 * (a.1 * y)):=by rw [Int.mul_neg,Int.mul_neg,Int.mul_left_comm]
  omega
theorem f1_ok {r:Nat->Int} (hr:r 0=1) {l:List (List Int)} (h:Al r l):¬ l.any f1=true:=λk=>by
  obtain ⟨x,h1,h2⟩:=List.any_eq_true.mp k
  have:=h x h1
  unfold f1 at h2;split at h2
  · have t:0<=_ * r 0+0:=this
    rw [hr] at t;omega
  · cases h2
theorem fm_ok:∀ (n:Nat) {r:Nat->Int} {l:List (List Int)},r 0=1->Al r l->¬ fm n l=true
  | 0,r,l,hr,h=>f1_ok hr h
  | n+1,r,l,hr,h=>λk=>by
    rcases Bool.or_eq_true_iff.mp k with k | k
    · exact f1_ok hr h k
    · obtain ⟨i,j,m⟩:=pt_ok (bs l (n+1) 0) h
      refine fm_ok n (r:=sh _ r) hr (al_a (λx hx=>?_) m) (Bool.and_eq_true_iff.mp k).2
      obtain ⟨a,a1,a2⟩:=List.mem_flatMap.mp hx
      obtain ⟨b,b1,rfl⟩:=List.mem_map.mp a2
      exact co_ok (r:=sh _ r) hr (i a a1) (j b b1)
noncomputable abbrev T:=List (Bool × F)
noncomputable def al (t:Bool) (x y:E) (cs:List (List Int)) (k:List Int->List Int->List (List Int)->Bool):Bool:=(li x t).all λp=>(li y t).all λq=>k p.1 q.1 (p.2++(q.2++cs))
noncomputable def tb (w:Nat):Nat->T->List (List Int)->Bool
  | 0,_,_=>false
  | n+1,[],cs=>fm w cs
  | n+1,(b,f)::r,cs=>match f with
    | .le d t x y=>al t x y cs λl m cs=>tb w n r (cond b (ge (cond d (-1) 0) l m) (ge (cond d 0 (-1)) m l)::cs)
    | .eq t x y=>al t x y cs λl m cs=>cond b (tb w n r (ge 0 l m::ge 0 m l::cs)) (tb w n r (ge (-1) l m::cs) && tb w n r (ge (-1) m l::cs))
    | .ff=>cond b true (tb w n r cs)
    | .no f=>tb w n ((!b,f)::r) cs
    | .an f g=>cond b (tb w n ((true,f)::(true,g)::r) cs) (tb w n ((false,f)::r) cs && tb w n ((false,g)::r) cs)
    | .or f g=>cond b (tb w n ((true,f)::r) cs && tb w n ((true,g)::r) cs) (tb w n ((false,f)::(false,g)::r) cs)
    | .im f g=>cond b (tb w n ((false,f)::r) cs && tb w n ((true,g)::r) cs) (tb w n ((true,f)::(false,g)::r) cs)
    | .io f g=>tb w n ((b,g)::(true,f)::r) cs && tb w n ((!b,g)::(false,f)::r) cs
noncomputable def hd (c:C) (q:Bool × F):Prop:=cond q.1 (dF c q.2) (¬ dF c q.2)
theorem al_ok {c:C} {t:Bool} {x y:E} {cs:List (List Int)} {k:List Int->List Int->List (List Int)->Bool} (h:al t x y cs k=true) (hc:Al (rho c 0) cs):∃ l m d,ev (rho c 0) l=va c t x/\ev (rho c 0) m=va c t y/\Al (rho c 0) d/\k l m d=true:=by
  obtain ⟨p,p1,p2,p3⟩:=li_ok (c:=c) x t;obtain ⟨q,q1,q2,q3⟩:=li_ok (c:=c) y t
  exact ⟨_,_,_,p2,q2,al_a p3 (al_a q3 hc),List.all_eq_true.mp (List.all_eq_true.mp h p p1) q q1⟩
theorem tb_ok {c:C} {w:Nat}:∀ (n:Nat) {r:T} {cs:List (List Int)},Al (rho c 0) cs->(∀ q∈r,hd c q)->¬ tb w n r cs=true
  | 0,_,_,_,_=>nofun
  | n+1,[],cs,hc,hr=>fm_ok w rfl hc
  | n+1,(b,f)::r,cs,hc,hr=>λh=>by
    obtain ⟨hq,hr'⟩:=List.forall_mem_cons.mp hr
    have I:∀ {p q},hd c p->hd c q->tb w n (p::q::r) cs=true->False:=λh1 h2 h3=>tb_ok n hc (List.forall_mem_cons.mpr ⟨h1,List.forall_mem_cons.mpr ⟨h2,hr'⟩⟩) h3
    have J:∀ {p},hd c p->tb w n (p::r) cs=true->False:=λh1 h3=>tb_ok n hc (List.forall_mem_cons.mpr ⟨h1,hr'⟩) h3
    cases f with
    | le d t x y =>
      have h:al t x y cs (λl m cs=>tb w n r (cond b (ge (cond d (-1) 0) l m) (ge (cond d 0 (-1)) m l)::cs))=true:=h
      obtain ⟨l,m,e,h1,h2,he,h3⟩:=al_ok h hc
      refine tb_ok n (al_c ?_ he) hr' h3
      cases b <;> cases t <;> cases d <;> (show 0<=ev _ (ge _ _ _);rw [ev_ge,h1,h2];simp only [hd,dF,va,cond_true,cond_false] at *;omega)
    | eq t x y =>
      have h:al t x y cs (λl m cs=>cond b (tb w n r (ge 0 l m::ge 0 m l::cs)) (tb w n r (ge (-1) l m::cs) && tb w n r (ge (-1) m l::cs)))=true:=h
      obtain ⟨l,m,e,h1,h2,he,h3⟩:=al_ok h hc
      cases b with
      | true =>
        refine tb_ok n (al_c ?_ (al_c ?_ he)) hr' h3 <;>
        cases t <;> (rw [ev_ge,h1,h2];simp only [hd,dF,va,cond_true,cond_false] at *;omega)
      | false =>
        obtain ⟨h4,h5⟩:=Bool.and_eq_true_iff.mp h3
        rcases Int.lt_or_lt_of_ne (a:=ev (rho c 0) l) (b:=ev (rho c 0) m) (by rw [h1,h2];cases t <;> (simp only [hd,dF,va,cond_true,cond_false] at *;omega)) with g | g
        · exact tb_ok n (al_c (by rw [ev_ge];omega) he) hr' h4
        · exact tb_ok n (al_c (by rw [ev_ge];omega) he) hr' h5
    | ff =>
      cases b with
      | true=>exact hq
      | false=>exact tb_ok n hc hr' h
    | no f =>
      cases b with
      | true=>exact J (p:=(false,f)) hq h
      | false=>exact J (p:=(true,f)) (Classical.not_not.mp hq) h
    | an f g =>
      cases b with
      | true=>exact I (p:=(true,f)) (q:=(true,g)) hq.1 hq.2 h
      | false =>
        obtain ⟨h4,h5⟩:=Bool.and_eq_true_iff.mp h
        by_cases k:dF c f
        · exact J (p:=(false,g)) (λz=>hq ⟨k,z⟩) h5
        · exact J (p:=(false,f)) k h4
    | or f g =>
      cases b with
      | false=>exact I (p:=(false,f)) (q:=(false,g)) (λz=>hq (.inl z)) (λz=>hq (.inr z)) h
      | true =>
        obtain ⟨h4,h5⟩:=Bool.and_eq_true_iff.mp h
        rcases (hq:dF c f ∨ dF c g) with k | k
        · exact J (p:=(true,f)) k h4
        · exact J (p:=(true,g)) k h5
    | im f g =>
      cases b with
      | false=>exact I (p:=(true,f)) (q:=(false,g)) (Classical.byContradiction λz=>hq λy=>(z y).elim) (λz=>hq λ_=>z) h
      | true =>
        obtain ⟨h4,h5⟩:=Bool.and_eq_true_iff.mp h
        by_cases k:dF c f
        · exact J (p:=(true,g)) (hq k) h5
        · exact J (p:=(false,f)) k h4
    | io f g =>
      obtain ⟨h4,h5⟩:=Bool.and_eq_true_iff.mp h
      by_cases k:dF c f
      · refine I (p:=(b,g)) (q:=(true,f)) ?_ k h4
        cases b with
        | true=>exact hq.mp k
        | false=>exact λz=>hq ⟨λ_=>z,λ_=>k⟩
      · refine I (p:=(!b,g)) (q:=(false,f)) ?_ k h5
        cases b with
        | true=>exact λz=>k (hq.mpr z)
        | false=>exact Classical.byContradiction λz=>hq ⟨λy=>(k y).elim,λy=>(z y).elim⟩
noncomputable def mx:E->Nat
  | .v i=>i+1
  | .a x y=>(mx x).max (mx y)
  | .s x y=>(mx x).max (mx y)
  | .u _ x y=>(mx x).max (mx y)
  | .m _ _ _ x=>mx x
  | .n x=>mx x
  | .c x=>mx x
  | _=>0
noncomputable def mF:F->Nat
  | .le _ _ x y=>(mx x).max (mx y)
  | .eq _ x y=>(mx x).max (mx y)
  | .ff=>0
  | .no f=>mF f
  | .an f g=>(mF f).max (mF g)
  | .or f g=>(mF f).max (mF g)
  | .im f g=>(mF f).max (mF g)
  | .io f g=>(mF f).max (mF g)
noncomputable def nz:Nat->List (List Int)
  | 0=>[]
  | i+1=>un i::nz i
theorem nz_ok {c:C}:∀ n,Al (rho c 0) (nz n)
  | 0=>al_n
  | n+1=>al_c (by rw [ev_un];exact Int.natCast_nonneg _) (nz_ok n)
noncomputable def ok (f:F):Bool:=tb (mF f+mF f) 400 [(false,f)] (nz (mF f))
noncomputable abbrev Wit (c:C) (f:F):Prop:=ok f=true->dF c f
theorem R {c:C} {f:F}:Wit c f:=λh=>Classical.byContradiction λk=>tb_ok 400 (nz_ok _) (r:=[(false,f)]) (List.forall_mem_cons.mpr ⟨k,λ_ h=>absurd h List.not_mem_nil⟩) h
class AI (e:Int) (l:List Int) (l':outParam (List Int)) (n:outParam Nat):Prop
instance:AI e [] [e] 0:=⟨⟩
instance (priority:=low) [AI e l l' n]:AI e (d::l) (d::l') (.succ n):=⟨⟩
instance:AI e (e::l) (e::l) 0:=⟨⟩
class AN (e:Nat) (l:List Nat) (l':outParam (List Nat)) (n:outParam Nat):Prop
instance:AN e [] [e] 0:=⟨⟩
instance (priority:=low) [AN e l l' n]:AN e (d::l) (d::l') (.succ n):=⟨⟩
instance:AN e (e::l) (e::l) 0:=⟨⟩
class RI (e:Int) (c:C) (c':outParam C) (x:outParam E):Prop
class RN (e:Nat) (c:C) (c':outParam C) (x:outParam E):Prop
instance (priority:=low) [AI e i i' k]:RI e ⟨i,n⟩ ⟨i',n⟩ (.v k):=⟨⟩
instance (priority:=low) [AN e n n' k]:RN e ⟨i,n⟩ ⟨i,n'⟩ (.v k):=⟨⟩
class LN (e:Nat):Prop
instance:LN 0:=⟨⟩
instance:LN 1:=⟨⟩
instance:LN 1000:=⟨⟩
instance:LN 120:=⟨⟩
instance:LN 140:=⟨⟩
instance:LN 16:=⟨⟩
instance:LN 16777216:=⟨⟩
instance:LN 2:=⟨⟩
instance:LN 200:=⟨⟩
instance:LN 24:=⟨⟩
instance:LN 250:=⟨⟩
instance:LN 3:=⟨⟩
instance:LN 38:=⟨⟩
instance:LN 39:=⟨⟩
instance:LN 4:=⟨⟩
instance:LN 40:=⟨⟩
instance:LN 41:=⟨⟩
instance:LN 42:=⟨⟩
instance:LN 43:=⟨⟩
instance:LN 45:=⟨⟩
instance:LN 5:=⟨⟩
instance:LN 52:=⟨⟩
instance:LN 6:=⟨⟩
instance:LN 60:=⟨⟩
instance:LN 63:=⟨⟩
instance:LN 64:=⟨⟩
instance:LN 8:=⟨⟩
instance:LN 80:=⟨⟩
instance:LN 8000000:=⟨⟩
instance:LN 82:=⟨⟩
instance:LN 9:=⟨⟩
class LI (e:Int):Prop
instance:LI 0:=⟨⟩
instance:LI 1:=⟨⟩
instance:LI 10:=⟨⟩
instance:LI 1000:=⟨⟩
instance:LI 2:=⟨⟩
instance:LI 200:=⟨⟩
instance:LI 3:=⟨⟩
instance:LI 30:=⟨⟩
instance:LI 33:=⟨⟩
instance:LI 4:=⟨⟩
instance:LI 40:=⟨⟩
instance:LI 5:=⟨⟩
instance:LI 6:=⟨⟩
instance:LI 60:=⟨⟩
instance:LI 72:=⟨⟩
instance:LI 76:=⟨⟩
instance:LI 7907:=⟨⟩
instance:LI 80:=⟨⟩
instance:LI 84:=⟨⟩
instance:LI 88:=⟨⟩
instance:LI 9:=⟨⟩
instance [LI a]:LI (-a):=⟨⟩
instance (priority:=500) [LN e]:RN e c c (.k e):=⟨⟩
instance (priority:=500) [LI e]:RI e c c (.i e):=⟨⟩
instance [LI a] [LN b]:RI (a ^ b) c c (.i (a ^ b)):=⟨⟩
instance [LN a] [LN b]:RN (a ^ b) c c (.k (a ^ b)):=⟨⟩
instance [RI a c d x] [RI b d e y]:RI (max a b) c e (.u true x y):=⟨⟩
instance [RI a c d x] [RI b d e y]:RI (min a b) c e (.u false x y):=⟨⟩
instance [RN a c d x] [RN b d e y]:RN (max a b) c e (.u true x y):=⟨⟩
instance [RN a c d x] [RN b d e y]:RN (min a b) c e (.u false x y):=⟨⟩
instance [RI a c d x] [RI b d e y]:RI (a+b) c e (.a x y):=⟨⟩
instance [RN a c d x] [RN b d e y]:RN (a+b) c e (.a x y):=⟨⟩
instance [RI a c d x] [RI b d e y]:RI (a - b) c e (.s x y):=⟨⟩
instance [RN a c d x] [RN b d e y]:RN (a - b) c e (.s x y):=⟨⟩
instance [RI a c d x]:RI (-a) c d (.n x):=⟨⟩
instance [LI a] [RI b c d y]:RI (a * b) c d (.m true 0 a y):=⟨⟩
instance [LI a] [RI b c d y]:RI (b * a) c d (.m false 0 a y):=⟨⟩
instance [LN a] [RN b c d y]:RN (a * b) c d (.m true a 0 y):=⟨⟩
instance [LN a] [RN b c d y]:RN (b * a) c d (.m false a 0 y):=⟨⟩
instance [RN a c d x]:RI (Nat.cast a) c d (.c x):=⟨⟩
instance [RI a c d x]:RN (Int.toNat a) c d (.c x):=⟨⟩

class RF (p:Prop) (c:C) (c':outParam C) (f:outParam F):Prop
instance {a b:Int} [RI a c d x] [RI b d e y]:RF (a<=b) c e (.le false false x y):=⟨⟩
instance {a b:Int} [RI a c d x] [RI b d e y]:RF (a < b) c e (.le true false x y):=⟨⟩
instance {a b:Int} [RI a c d x] [RI b d e y]:RF (b ≥ a) c e (.le false false x y):=⟨⟩
instance {a b:Int} [RI a c d x] [RI b d e y]:RF (b > a) c e (.le true false x y):=⟨⟩
instance {a b:Int} [RI a c d x] [RI b d e y]:RF (a=b) c e (.eq false x y):=⟨⟩
instance {a b:Int} [RI a c d x] [RI b d e y]:RF (a ≠ b) c e (.no (.eq false x y)):=⟨⟩
instance {a b:Nat} [RN a c d x] [RN b d e y]:RF (a<=b) c e (.le false true x y):=⟨⟩
instance {a b:Nat} [RN a c d x] [RN b d e y]:RF (a < b) c e (.le true true x y):=⟨⟩
instance {a b:Nat} [RN a c d x] [RN b d e y]:RF (b ≥ a) c e (.le false true x y):=⟨⟩
instance {a b:Nat} [RN a c d x] [RN b d e y]:RF (b > a) c e (.le true true x y):=⟨⟩
instance {a b:Nat} [RN a c d x] [RN b d e y]:RF (a=b) c e (.eq true x y):=⟨⟩
instance {a b:Nat} [RN a c d x] [RN b d e y]:RF (a ≠ b) c e (.no (.eq true x y)):=⟨⟩
instance:RF False c c .ff:=⟨⟩
instance [RF p c d f]:RF (¬p) c d (.no f):=⟨⟩
instance [RF p c d f] [RF q d e g]:RF (p/\q) c e (.an f g):=⟨⟩
instance [RF p c d f] [RF q d e g]:RF (p ∨ q) c e (.or f g):=⟨⟩
instance [RF p c d f] [RF q d e g]:RF (p->q) c e (.im f g):=⟨⟩
instance [RF p c d f] [RF q d e g]:RF (p ↔ q) c e (.io f g):=⟨⟩
theorem Rw (p:Prop) [RF p ⟨[],[]⟩ c f]:Wit c f:=R
end QA
local macro_rules
  | `(tactic| ext $ps:rintroPat*:$_:num)=>`(tactic| (refine id ?_;ext $ps*))
  | `(tactic| ext $ps:rintroPat*)=>do
    let mut ty ← `(_)
    let mut f:=false
    let mut hs:=#[]
    for p in ps do
      match p with
      | `(rintroPat| $h:ident)=>hs:=hs.push (← `($h:ident))
      | _=>f:=true
    for h in hs.reverse do ty ← `(type_of% $h->$ty)
    let t ← `(tactic| (refine (?g:$ty) $hs*;refine (QA.R:type_of% (QA.Rw (type_of% ?g))) ?_;decide +kernel))
    if f then `(tactic| (exfalso;$t)) else return t
set_option Elab.async false
set_option linter.all false
set_option maxRecDepth 100000
open And renaming intro->c2W
open Array renaming length_toList->gD,getElem?_toList->sQ,toList_append->r9,getElem?_eq_getElem->yH,toList_push->vi,perm_iff_toList_perm->Ei,getElem_toList->BZ,toList_extract->Ee,toList_reverse->Ed,getD->yw,toList_inj->Im,toList_modify->Nh,append_assoc->Nd
open Array.Perm renaming refl->MR
open Bool renaming false_ne_true->qU,and_eq_true->ub,false_eq_true->xC,noConfusion->xx,not_eq_true->DT
open Classical renaming not_not->Nm
open Eq renaming trans->qN
open False renaming elim->mh
open ForInStep renaming yield->sJ,done->DX
open Iff renaming rfl->e8
open Int renaming mul_nonneg->vw,mul_le_mul->vt,toNat_natCast->yC,le_refl->sH,emod_lt_of_pos->Eh,mul_comm->yv,mul_one->yu,emod_nonneg->DO,not_le->DN,mul_zero->Ia,add_zero->H9,zero_add->HZ
open List renaming mem_cons->bG,length_append->da,getElem?_set_ne->eD,not_mem_nil->dr,size_toArray->dR,mem_cons_of_mem->gE,length_map->dF,getElem?_set_self->k6,length_cons->ff,getElem?_eq_getElem->mG,mem_cons_self->jz,append_assoc->iW,pairwise_cons->kZ,mem_singleton->lE,map_cons->e9,mem_append->jI,getElem?_eq_some_iff->qP,pairwise_append->pE,length_take->nu,map_append->mJ,mem_append_right->qy,lookup_cons->og,replicate->mI,drop_eq_getElem_cons->sR,take_append_drop->qW,getElem?_append_right->uf,mem_iff_getElem->qV,getElem?_map->qR,pairwise_singleton->vz,getElem?_append_left->xD,map_nil->oi,flatten_singleton->vA,length_drop->sd,mem_map->pF,take_of_length_le->xF,append_nil->rY,flatten_append->vn,mem_of_mem_take->xw,getElem_mem->ua,pairwise_iff_getElem->BR,range->pD,mem_append_left->yL,mem_of_mem_drop->yK,getElem?_replicate->BY,length_pos_iff->yI,drop_eq_nil_of_le->BW,cons_append->xy,perm_append_comm->BU,getElem?_eq_none->BS,zip_cons_cons->yM,extract_eq_take_drop->Em,find?_cons->xm,reverse_perm->yB,length_eq_zero_iff->D8,countP_cons_of_pos->D7,mem_reverse->yz,lookup->t8,length_replicate->D6,foldl_cons->yy,getD_eq_getElem?_getD->Jf,filterMap_cons->Ec,map_map->xo,zipWith->xn,countP_cons_of_neg->Jh,length->xr,flatten_cons->Ef,getElem_take->DU,length_singleton->IH,getElem?_toArray->IG,take_append_of_le_length->Ny,getElem?_append->IF,map_eq_cons_iff->ID,nodup_cons->DS,of_mem_zip->DR,length_nil->DQ,length_eraseIdx_of_lt->Nt,getElem?_eq_none_iff->NB,mem_range->DZ,drop_zero->DW,getLast?_eq_some_iff->NA,getElem?_set->IS,ext_getElem?->IP,getElem_drop->IK,pairwise_map->IJ,filterMap_cons_some->Nz,any_cons->D2,filter_cons_of_pos->NF,filter_cons_of_neg->ND,all_eq_true->Io,mem_filter->Il,dropLast_eq_take->M4,getElem?_zipWith->M3,nil_append->Ig,eq_nil_or_concat->MY,mem_of_getElem?->MX,reverse_reverse->MW,mem_of_getLast?->MV,foldl_nil->Iz,drop_take->Iy,take_succ_cons->Nj,length_zipWith->Ni,flatMap_append->Nf,mem_filterMap->Nc,map->yt,getElem?_take->Na
open List.Pairwise renaming nil->vj
open List.Perm renaming refl->ue,append_left->D4,swap->MP
open Nat renaming le_refl->bZ,ne_of_lt->dQ,lt_of_lt_of_le->nr,le_trans->jA,lt_succ_self->oQ,lt_succ_of_lt->qQ,eq_zero_of_not_pos->xE,lt_irrefl->sP,lt_of_succ_lt->xB,zero_le->r8,lt_of_le_of_ne->BH,le_of_lt->ve,le_succ->vg,add_sub_cancel_left->Jj,add_le_add_right->IE,ne_of_gt->BC,eq_zero_or_pos->IX,zero_add->BG,sub_self->BF,pos_of_ne_zero->IW,le_of_succ_le->IM,le_add_right->I0,le_of_sub_eq_zero->M0,lt_or_ge->DG,not_lt_zero->Ie,add_le_add_left->Nl,add_assoc->Ir,lt_trans->Ib
open Ne renaming symm->kY
open Option renaming bind_some->sL,map_eq_some_iff->yG,isSome_iff_exists->Jd,getD_none->Ip,isSome_map->Nr,map->HU
open Option.some renaming injEq->dJ,inj->dC
open Or renaming inr->bM,inl->cC
open PyProof.Rows renaming wpS_bind->bq,wpS_pure->bI,wpS_forRange->oh,slot_tuple_getitem->Ek,callWith_type1->Ej,wpS_mono->oa,wpS_modify->sI,pairsOf_toList->yD,wpS_get->qw
open PyProof.Rows.F renaming plain_set_update_loop->Ji,entry_set_update_loop->NC
open PyProof.Rows.SortSt renaming mk'->Bz
open PySem renaming wpAny_bind->aN,wpAny_pure->bJ,wpAny_newObj_type->sS,wpAny_mono->nF,sizeLine_eq->pZ,wpAny_holding->sO,mem_of_lookup->yJ,wpAny_call_entry->xA,Builtin->b9Y,wpAny_setField_rec->yN,call_isinstance->xl,fits_of_scanBound->yA,wpAny_callSpecial?_slot->D9,wpAny_setEntries_of->BI,codeAny_mono->vb,codeAny_builtin->yx,KeyKind->xq,wpAny_truthy_bool->BO,wpAny_setState_of->BN,wpAny_askSetting->BM,wpAny_passesOwn->BL,wpAny_Call_Name_kw->Eb,wpAny_ite_split->BQ,wpAny_of_eq->xi,plainId_quiet->BD,tupleKind_room_in1->IY,wpAny_fieldsOf->DV,wpAny_pyIter_list->IQ,intBits_le_64->D3,wpAny_attempt->D1,strKind->D0,noFill_tuple_add->Iq,wpAny_execs_nil->Ik,wpAny_standAt->Iv,seq_tuple_add->Iu,wpAny_rule->DM,Within->IB,call->HV
open PySem.Around renaming under_plainId->BK,under->IA
open PySem.Builtin.Int renaming intBits->Nk
open PySem.Builtin.List renaming listTooLong->Jb,listLengthHint->Nx,listExtendWith->Nw,listSameRef->NH
open PySem.Builtin.Range renaming rangeSize->NG
open PySem.Builtin.Slice renaming slicePlaces->Eo,sliceAdjust->Je,sliceApplied->Nu
open PySem.Builtin.Tuple renaming tupleExact->Ea
open PySem.Calls renaming Name_function_global->Nv,callWith_builtin->M7
open PySem.Code renaming isFrame->Ic
open PySem.F renaming called_set->vh,args_tuple_add_2->Jc,entry_tuple_add->Ja,plainAttrs_list->I9,slot_tuple_add->Jg,slot_list_append->M6,slot_list_extend->M5,slot_list_pop->Nb
open PySem.Heap renaming get?_push_of_some->dh,lt_size->cL,get?_push_size->kG,size_push->nG,SameBut->r6,get?_update_other->BX,get?_update_self->D5,ExtBut->DI
open PySem.Heap.SameBut renaming update->Ng,refl->Nq
open PySem.IsRange renaming new->HW
open PySem.NameKind renaming free->qx,cell->xp
open PySem.Obj renaming mapSeq->pC,putSet->DK
open PySem.PassesOwn renaming never->DP
open PySem.SetTable renaming below->rX,grown->xk,sizeAbove->IU,Probe->MQ
open PySem.SetTable.below renaming go->Np
open PySem.SetTable.probe renaming go->II
open PySem.Str renaming empty->xj,ofString->DH
open PySem.Value renaming ref->cK,none->mi,bool->n9,isStrOf_shape->BJ,isInt_shape->BP,type->t9,isStrOf->Iw,int->BB,str->BA,isInt->HY,float->HX
open PySem.W renaming Frag->aK,findIn->bp,nsIn->iX,fnOf->mf,isFn->mH,mg_none_of->qS,keepIn->p6,kia_one->rZ,plainGet->sM,hasDictIn->ud,emptyDict->uc,tabIn->qO,plainOver->vm,mg_of->sN,instObj->vq,makesIn->vo,kitOne->vy,mroIn->vf,tabObj->yE,specialIn->Eg,codeIn->BE,plainGet_of->IC,callWith_K->IZ,lookIn->DY,methodObj->IT,cellsFrom_some->M8,takerIn->Ij,takesIn->Ii,OpenLaw->Ih,methodCall_KW->MZ,kitx_list->M',kitx_dict->M9,handedIn->MU,codeHdIn->MS
open String renaming splitOnAux->Nn
open Sum renaming inr->rT,inl->xh
open Sum.inr renaming inj->DJ
open True renaming intro->rV
theorem Ra{a b c:Nat}(h:a+c<=b):a<=b:=jA (I0 _ _) h
theorem Q9{a b c:Nat}(h:a<=b):a-c<=b:=jA (Nat.sub_le _ _) h
namespace L2
open PySem PySem.Spec PyProof.Rows
abbrev Key:=Sum Int Str
def yQ:Key->Value->Bool
 | .inl k,v=>HY k v
 | .inr x,v=>Iw x v
def GW(w:World):Key->Int
 | .inl k=>hashInt k
 | .inr x=>hashStr w x
theorem ux:∀{k:Key} {v:Value},yQ k v=true->(∃i t,k=xh i/\v=BB i t)\/(∃x t,k=rT x/\v=BA x t)
 | .inl i,v,h=>by
  obtain ⟨t,e⟩:=BP (k:=i) (v:=v) h
  exact .inl ⟨i,t,rfl,e⟩
 | .inr x,v,h=>by
  obtain ⟨t,e⟩:=BJ (x:=x) (v:=v) h
  exact .inr ⟨x,t,rfl,e⟩
theorem Yp(i:Int)(t:Tok):yQ (.inl i) (.int i t)=true:=by simp [yQ,HY]
theorem Yq(x:Str)(t:Tok):yQ (.inr x) (.str x t)=true:=by simp [yQ,Iw]
theorem VN(a b:Int):decide ((xh a:Key)=xh b)=(a==b):=by
 by_cases e:a=b
 .subst e;simp
 .have h:¬(xh a:Key)=xh b:=λq=>e (Sum.inl.inj q)
  rw [decide_eq_false h]
  exact (beq_eq_false_iff_ne.mpr e).symm
theorem VQ(a b:Str):decide ((rT a:Key)=rT b)=decide (a=b):=by
 by_cases e:a=b
 .subst e;simp
 .have h:¬(rT a:Key)=rT b:=λq=>e (DJ q)
  rw [decide_eq_false h,decide_eq_false e]
theorem VO(a:Int)(b:Str):decide ((xh a:Key)=rT b)=false:=decide_eq_false (λq=>nomatch q)
theorem VP(a:Str)(b:Int):decide ((rT a:Key)=xh b)=false:=decide_eq_false (λq=>nomatch q)
def qa(prog:Program)(w:World):xq prog w Key where
 is:=yQ
 hash:=GW w
 inj:=λv a b ha hb=>by
  rcases ux ha with ⟨i,t,rfl,rfl⟩ | ⟨x,t,rfl,rfl⟩
  .rcases ux hb with ⟨j,u,rfl,e⟩ | ⟨y,u,rfl,e⟩
   .injection e with e1 _;rw [e1]
   .exact nomatch e
  .rcases ux hb with ⟨j,u,rfl,e⟩ | ⟨y,u,rfl,e⟩
   .exact nomatch e
   .injection e with e1 _;rw [e1]
 byValue:=λk v h=>by
  rcases ux h with ⟨i,t,rfl,rfl⟩ | ⟨x,t,rfl,rfl⟩<;>rfl
 pyHash:=λhv h=>by
  rcases ux hv with ⟨i,t,rfl,rfl⟩ | ⟨x,t,rfl,rfl⟩
  .exact wpAny_pyHash_int h
  .exact wpAny_pyHash_str h
 eqBool:=λhu hv h=>by
  rcases ux hu with ⟨i,t,rfl,rfl⟩ | ⟨x,t,rfl,rfl⟩
  .rcases ux hv with ⟨j,u,rfl,rfl⟩ | ⟨y,u,rfl,rfl⟩
   .rw [VN] at h;exact wpAny_eqBool_int h
   .rw [VO] at h;exact SeqAt.EqAt.int_str i t y u _ _ _ _ h
  .rcases ux hv with ⟨j,u,rfl,rfl⟩ | ⟨y,u,rfl,rfl⟩
   .rw [VP] at h;exact SeqAt.EqAt.str_int x t j u _ _ _ _ h
   .rw [VQ] at h;exact wpAny_eqBool_str h
 «strs»:=λk x t v h=>by
  rcases ux h with ⟨i,u,rfl,e⟩ | ⟨y,u,rfl,e⟩
  .exact nomatch e
  .injection e with e1 _
   subst e1
   cases v<;>rfl
theorem ZL(prog:Program)(w:World)(i:Int)(t:Tok):(qa prog w).is (.inl i) (.int i t)=true:=Yp i t
theorem ZM(prog:Program)(w:World)(x:Str)(t:Tok):(qa prog w).is (.inr x) (.str x t)=true:=Yq x t
end L2
namespace L2
open PySem PySem.Spec PyProof.Rows
inductive V where
 | bz | bl (b:Bool) | int (i:Int) | str (x:Str) | yF (b:Array UInt8) | w6 (b:UInt64) | ref (a:Addr) | ty (n:String)
 deriving DecidableEq
def RelV:V->Value->Prop
 | .bz,u=>u=mi
 | .bl b,u=>u=n9 b
 | .int i,u=>∃t,u=BB i t
 | .str x,u=>∃t,u=BA x t
 | .yF b,u=>∃t,u=Value.bytes b t
 | .w6 b,u=>∃t,u=HX b t
 | .ref a,u=>u=cK a
 | .ty n,u=>u=t9 n
abbrev aG:List V->List Value->Prop:=Paired RelV
theorem aG.length(r:aG xs us):xs.length=us.length:=Paired.length r
theorem aG.get:∀{xs:List V} {us:List Value} {i:Nat} {x:V},aG xs us->xs[i]?=some x->∃u,us[i]?=some u/\RelV x u
 | _,_,_,_,.nil,e=>by simp at e
 | _,_,0,_,.cons r _,e=>by simp at e;subst e;exact ⟨_,rfl,r⟩
 | _,_,i+1,x,.cons _ t,e=>by
  obtain ⟨u,h1,h2⟩:=aG.get (i:=i) (x:=x) t (by simpa using e)
  exact ⟨u,by simpa using h1,h2⟩
theorem aG.set(r:RelV x u):∀{xs:List V} {us:List Value} (i:Nat),aG xs us->aG (xs.set i x) (us.set i u)
 | _,_,_,.nil=>.nil
 | _,_,0,.cons _ t=>.cons r t
 | _,_,i+1,.cons q t=>.cons q (aG.set r i t)
theorem aG.append:∀{xs ys:List V} {us ws:List Value},aG xs us->aG ys ws->aG (xs++ys) (us++ws)
 | _,_,_,_,.nil,s=>s
 | _,_,_,_,.cons r t,s=>.cons r (aG.append t s)
theorem aG.take:∀{xs:List V} {us:List Value} (n:Nat),aG xs us->aG (xs.take n) (us.take n)
 | _,_,0,_=>.nil
 | _,_,_+1,.nil=>.nil
 | _,_,n+1,.cons r t=>.cons r (aG.take n t)
theorem aG.drop:∀{xs:List V} {us:List Value} (n:Nat),aG xs us->aG (xs.drop n) (us.drop n)
 | _,_,0,r=>r
 | _,_,_+1,.nil=>.nil
 | _,_,n+1,.cons _ t=>aG.drop n t
theorem aG.none_of:∀{xs:List V} {us:List Value} {i:Nat},aG xs us->xs[i]?=none->us[i]?=none:=λ{xs us i} r e=>by
 have h1:=r.length
 have h2:xs.length<=i:=NB.mp e
 exact NB.mpr (by ext h1 h2)
def d9:Option V->Option Value->Prop
 | some v,some u=>RelV v u
 | none,none=>True
 | _,_=>False
def KV{κ:Type}:List (κ×V)->List (κ×Value)->Prop:=Paired λ(p:κ×V) (q:κ×Value)=>p.1=q.1/\RelV p.2 q.2
def kV:Key->V
 | .inl i=>.int i
 | .inr x=>.str x
inductive HO where
 /-- a list -/
 | lst (xs:List V)
 /-- a tuple (never changes) -/
 | tup (xs:List V)
 /-- a dict uK keys are ints and texts;one uK keys are tuples of ints and texts (the empty one is both) -/
 | dK (aF:List (Key×V)) | dT (aF:List (List Key×V))
 /-- a set of ints: aA members,aA size -/
 | set (S:Int->Bool) (n:Nat)
 /-- an instance of the class at C,aA dict at dx,aA attributes -/
 | ins (C dx:Addr) (fs:List (Str×V))
 /-- the dict of the instance at x -/
 | own (x:Addr)
 /-- the dict of an exception -/
 | xd (fs:List (Str×V))
 /-- a bound method,f of x -/
 | met (f x:Addr)
 /-- a range object lo,lo+1,.. below hi -/
 | Gy (lo hi:Int)
 /-- a zt Rg is known to the object (the script;a dict while a loop walks it): read,never written while it is so -/
 | mF (o:Obj) (u:HO)
 /-- a code rE table -/
 | v3 (ps:Array Value)
 /-- a code rE table uK codes are all called q,and are aA own -/
 | tab (q:Str)
 /-- any other zt,by Rc is true of aA one object (a def of L6 own: SetO a S n:=HO.ext λh=>..) -/
 | ext (φ:Heap->Prop)
def ownOf:HO->Option Addr
 | .own x=>some x
 | .mF _ (.own x)=>some x
 | _=>none
def VG(q:Str)(o:Obj):Prop:=∃vs t,o.data=.fields vs/\vs[1]?=some (.str q t)
abbrev Hp:=Addr->Option HO
def upd(H:Hp)(a:Addr)(o:HO):Hp:=λb=>if b=a then some o else H b
theorem nI:upd H a o a=some o:=by unfold upd;rw [if_pos rfl]
theorem dM(h:b≠a):upd H a o b=H b:=by unfold upd;rw [if_neg h]
theorem b4m{H:Hp}{a b:Addr}{o u:HO}(h:H a=some o)(h':H b=some u)(d:o≠u):a≠b:=by
 intro e;subst e;rw [h] at h';exact d (dC h')
theorem q8{H:Hp}{a b:Addr}{o:HO}(h:H a=some o)(h':H b=none):a≠b:=by
 intro e;subst e;rw [h] at h';cases h'
section
variable (P:Program)(w:World)
def bH(H:Hp)(h:Heap)(a:Addr):HO->Prop
 | .lst xs=>xs.length<=sizeLine/\∃(aA:List Value) (n:Nat),aG xs aA/\h.get? a=some { cls:=.type "list",data:=.seq aA.toArray n }
 | .tup xs=>xs.length<=sizeLine/\∃aA:List Value,aG xs aA/\IsTup h a aA.toArray
 | .dK aF=>aF.length<=sizeLine/\(a==sysModules)=false/\∃vs,KV aF vs/\h.DictOf (qa P w) a vs
 | .dT aF=>aF.length<=sizeLine/\(a==sysModules)=false/\∃xs:List (List Key×Addr×Value),
   Paired (λ(p:List Key×V) (q:List Key×Addr×Value)=>p.1=q.1/\H q.2.1=some (.tup (p.1.map kV))/\RelV p.2 q.2.2) aF xs /\
   ∃o es ep,h.get? a=some o/\o.ExactDict/\o.data=.dict es ep/\es.toList=xs.map (entryOfKey (tupleKind (qa P w)))/\(xs.map (·.1)).Nodup
 | .set S n=>h.SetOf (intKind P w) a S n
 | .ins C dx fs=>H dx=some (.own a)/\fs.length<=1000/\dx≠a/\h.get? a=some (vq C dx) /\
   ∃mA,h.Ns1 dx mA/\(∀f,d9 (fs.lookup f) (mA f))/\IB mA (fs.map (·.1))
 | .own _=>∃o,h.get? a=some o
 | .xd fs=>∃mA,h.Ns1 a mA/\∀f,d9 (fs.lookup f) (mA f)
 | .Gy lo hi=>∃t u v,h.get? a=some { cls:=.type "range",data:=.fields #[.int lo t,.int hi u,.int 1 v] }
 | .mF o u=>h.get? a=some o/\bH H h a u
 | .v3 ps=>h.get? a=some { cls:=.none,data:=.fields ps }
 | .tab q=>∃ps,h.get? a=some (yE ps)/\TriplesOk ps.toList/\∀pos cv,codeAmong pos ps.toList=some cv->∃c oc,cv=.ref c/\H c=some (.mF oc (.own a))/\VG q oc
 | .met f x=>h.get? a=some (IT (.ref f) (.ref x))
 | .ext φ=>φ h/\(∃o,h.get? a=some o)/\∀h1 h2:Heap,φ h1->(∀o,h1.get? a=some o->h2.get? a=some o)->φ h2
def gF(H:Hp)(h:Heap):Prop:=∀a o,H a=some o->bH P w H h a o
end
section
variable {P:Program}{w:World}{H H':Hp}{h h':Heap}{a:Addr}{o:HO}
theorem bH.lt(x:bH P w H h a o):a<h.objs.size:=by
 cases o with
 | lst xs=>obtain ⟨_,_,_,_,e⟩:=x;exact cL e
 | tup xs=>obtain ⟨_,_,_,p⟩:=x;exact p.lt
 | dK aF=>obtain ⟨_,_,_,_,o,_,_,e,_⟩:=x;exact cL e
 | dT aF=>obtain ⟨_,_,_,_,o,_,_,e,_⟩:=x;exact cL e
 | set S n=>obtain ⟨o,_,_,_,e,_⟩:=x;exact cL e
 | ins C dx fs=>obtain ⟨_,_,_,e,_⟩:=x;exact cL e
 | own y=>obtain ⟨_,e⟩:=x;exact cL e
 | xd fs=>obtain ⟨_,⟨_,_,_,e,_⟩,_⟩:=x;exact cL e
 | Gy lo hi=>obtain ⟨_,_,_,e⟩:=x;exact cL e
 | mF ob u=>obtain ⟨e,_⟩:=x;exact cL e
 | v3 ps=>exact cL (show h.get? a=some _ from x)
 | tab q=>obtain ⟨_,e,_⟩:=x;exact cL e
 | met f y=>exact cL (show h.get? a=some _ from x)
 | ext φ=>obtain ⟨_,⟨_,e⟩,_⟩:=x;exact cL e
theorem Paired.wz{α β:Type}{F G:α->β->Prop}:∀{AA:List α} {Az:List β},Paired F AA Az->(∀a b,F a b->G a b)->Paired G AA Az
 | _,_,.nil,_=>.nil
 | _,_,.cons r t,f=>.cons (f _ _ r) (Paired.wz t f)
theorem bH.qg(x:bH P w H h a o)(k:∀b u,(b=a\/H b=some (.own a))->h.get? b=some u->h'.get? b=some u)
  (ho:∀b u,ownOf u=some a->H b=some u->H' b=some u)(ht:∀b xs,H b=some (.tup xs)->H' b=some (.tup xs)):bH P w H' h' a o:=by
 induction o with
 | lst xs=>obtain ⟨z,aA,n,r,e⟩:=x;exact ⟨z,aA,n,r,k _ _ (.inl rfl) e⟩
 | tup xs=>obtain ⟨z,aA,r,ob,e,c⟩:=x;exact ⟨z,aA,r,ob,k _ _ (.inl rfl) e,c⟩
 | dK aF=>obtain ⟨z,y,vs,r,ob,es,ep,e,c⟩:=x;exact ⟨z,y,vs,r,ob,es,ep,k _ _ (.inl rfl) e,c⟩
 | dT aF =>
  obtain ⟨z,y,xs,r,ob,es,ep,e,c⟩:=x
  exact ⟨z,y,xs,Paired.wz r λp q z=>⟨z.1,ht _ _ z.2.1,z.2.2⟩,ob,es,ep,k _ _ (.inl rfl) e,c⟩
 | set S n=>obtain ⟨ob,es,ep,t,e,c⟩:=x;exact ⟨ob,es,ep,t,k _ _ (.inl rfl) e,c⟩
 | ins C dx fs =>
  obtain ⟨d,z,ne,e,mA,⟨od,es,ep,e2,c⟩,r⟩:=x
  exact ⟨ho _ _ rfl d,z,ne,k _ _ (.inl rfl) e,mA,⟨od,es,ep,k _ _ (.inr d) e2,c⟩,r⟩
 | own y=>obtain ⟨ob,e⟩:=x;exact ⟨ob,k _ _ (.inl rfl) e⟩
 | xd fs=>obtain ⟨mA,⟨od,es,ep,e,c⟩,r⟩:=x;exact ⟨mA,⟨od,es,ep,k _ _ (.inl rfl) e,c⟩,r⟩
 | Gy lo hi=>obtain ⟨t,u,v,e⟩:=x;exact ⟨t,u,v,k _ _ (.inl rfl) e⟩
 | mF ob u ih=>obtain ⟨e,q⟩:=x;exact ⟨k _ _ (.inl rfl) e,ih q⟩
 | v3 ps =>
  have e:h.get? a=some { cls:=.none,data:=.fields ps }:=x
  show h'.get? a=some { cls:=.none,data:=.fields ps }
  exact k a _ (.inl rfl) e
 | tab q =>
  obtain ⟨ps,e,ht,z⟩:=x
  exact ⟨ps,k _ _ (.inl rfl) e,ht,λpos cv hc=>let ⟨c,oc,e1,e2,e3⟩:=z pos cv hc;⟨c,oc,e1,ho _ _ rfl e2,e3⟩⟩
 | met f y =>
  have e:h.get? a=some (IT (.ref f) (.ref y)):=x
  show h'.get? a=some (IT (.ref f) (.ref y))
  exact k a _ (.inl rfl) e
 | ext φ=>obtain ⟨p,⟨o,e⟩,st⟩:=x;exact ⟨st _ _ p λo q=>k _ _ (.inl rfl) q,⟨o,k _ _ (.inl rfl) e⟩,st⟩
theorem gF.lt(x:gF P w H h)(e:H a=some o):a<h.objs.size:=(x a o e).lt
theorem gF.fresh(x:gF P w H h)(e:h.objs.size<=a):H a=none:=by
 cases q:H a with
 | none=>rfl
 | some u=>exact absurd (nr (x.lt q) e) (sP _)
theorem gF.kept(x:gF P w H h)(k:∀b u,h.get? b=some u->h'.get? b=some u):gF P w H h':=λa o e =>
 (x a o e).qg (λb u _ q=>k b u q) (λ_ _ _ q=>q) λ_ _ q=>q
theorem gF.laid(x:gF P w H h)(k:∀b u,h.get? b=some u->h'.get? b=some u)(hp:h.objs.size<=a)(new:bH P w (upd H a o) h' a o):gF P w (upd H a o) h':=λb u e=>by
 have hn:=x.fresh hp
 by_cases hb:b=a
 .subst hb;rw [nI] at e;cases e;exact new
 .rw [dM hb] at e
  exact (x b u e).qg (λc v _ q=>k c v q) (λc _ _ q=>by rw [dM (q8 q hn)];exact q) λc xs q=>by rw [dM (q8 q hn)];exact q
end
def Rd(H:Hp)(a:Addr)(u:HO):Prop:=H a=some u\/∃o,H a=some (.mF o u)
theorem Rd.of(h:H a=some u):Rd H a u:=.inl h
theorem Rd.ok(r:Rd H a u)(x:gF P w H h):bH P w H h a u:=by
 rcases r with r | ⟨o,r⟩
 .exact x a u r
 .obtain ⟨_,q⟩:=x a _ r
  exact q
def C1:Option HO->Prop
 | some (.lst _)=>True
 | some (.dK _)=>True
 | some (.dT _)=>True
 | some (.set _ _)=>True
 | some (.ins _ _ _)=>True
 | some (.ext _)=>True
 | some (.tab _)=>True
 | _=>False
section
variable {P:Program}{w:World}{H:Hp}{h h':Heap}{x e:Addr}{o':HO}
theorem gF.write(ok:gF P w H h)(mu:C1 (H x))(he:e=x\/H e=some (.own x))(k:∀b u,b≠e->h.get? b=some u->h'.get? b=some u)(ym:∃u,h'.get? e=some u)
  (new:bH P w (upd H x o') h' x o'):gF P w (upd H x o') h':=λb u q=>by
 have GK:∀c y,H c=some (.own y)->c≠x:=λc y r z=>by subst z;rw [r] at mu;exact mu
 have GJ:∀c xs,H c=some (.tup xs)->c≠x:=λc xs r z=>by subst z;rw [r] at mu;exact mu
 have GL:∀c y u,ownOf u=some y->H c=some u->c≠x:=λc y u hu r z=>by
  subst z;rw [r] at mu
  cases u with
  | own y=>exact mu
  | mF o v=>exact mu
  | _=>cases hu
 by_cases hb:b=x
 .subst hb;rw [nI] at q;cases q;exact new
 .rw [dM hb] at q
  by_cases wR:b=e
  .have q':H b=some (.own x):=by
    rcases he with z | z
    .exact absurd (wR.trans z) hb
    .rw [wR];exact z
   rw [q] at q';cases q'
   obtain ⟨v,hv⟩:=ym
   exact ⟨v,by rw [wR];exact hv⟩
  .refine (ok b u q).qg (λc v hc r=>k c v ?_ r) (λc u hu r=>by rw [dM (GL c b u hu r)];exact r) λc xs r=>by rw [dM (GJ c xs r)];exact r
   rcases hc with rfl | hc
   .exact wR
   .rintro rfl
    rcases he with z | z
    .exact GK c b hc z
    .rw [hc] at z;cases z;exact hb rfl
end
structure Un(fs ex:List Addr)(H H':Hp)(h h':Heap):Prop where
 keep:∀b o,h.get? b=some o->H b=none->b∉fs->b∉ex->h'.get? b=some o
 slot:∀b o,h.get? b=some o->H b=none->b∈fs->b∉ex->∃sl,h'.get? b=some { o with slots:=sl }
 free:∀b o,h.get? b=some o->H b=none->b∉ex->H' b=none
 there:∀b o,h.get? b=some o->b∉ex->∃o',h'.get? b=some o'
 jd:∀b xs,H b=some (.tup xs)->H' b=some (.tup xs)
 ik:∀b o u,H b=some (.mF o u)->H' b=some (.mF o u)
 je:∀b ps,H b=some (.v3 ps)->∃more,H' b=some (.v3 (ps++more))
section
variable {fs yp ex MM:List Addr}{H H1 H2:Hp}{h h1 h2 h':Heap}{a x e:Addr}{o:HO}
theorem Un.any(u:Un fs ex H H1 h h1)(q:h.get? b=some ob)(n:H b=none)(hx:b∉ex):∃sl,h1.get? b=some { ob with slots:=sl }:=by
 by_cases hb:b∈fs
 .exact u.slot b ob q n hb hx
 .exact ⟨ob.slots,u.keep b ob q n hb hx⟩
theorem Un.trans(a:Un fs ex H H1 h h1)(b:Un fs ex H1 H2 h1 h2):Un fs ex H H2 h h2 where
 keep:=λc ob q n hc hx=>b.keep c ob (a.keep c ob q n hc hx) (a.free c ob q n hx) hc hx
 slot:=λc ob q n hc hx=>by
  obtain ⟨sl,e1⟩:=a.slot c ob q n hc hx
  obtain ⟨Gk,e2⟩:=b.slot c _ e1 (a.free c ob q n hx) hc hx
  exact ⟨Gk,e2⟩
 free:=λc ob q n hx=>by
  obtain ⟨o',e1⟩:=a.there c ob q hx
  exact b.free c o' e1 (a.free c ob q n hx) hx
 there:=λc ob q hx=>by
  obtain ⟨o',e1⟩:=a.there c ob q hx
  exact b.there c o' e1 hx
 jd:=λc xs q=>b.jd c xs (a.jd c xs q)
 ik:=λc ob xs q=>b.ik c ob xs (a.ik c ob xs q)
 je:=λc ps q=>by
  obtain ⟨m1,e1⟩:=a.je c ps q
  obtain ⟨m2,e2⟩:=b.je c _ e1
  exact ⟨m1++m2,by rw [e2,Nd]⟩
theorem Un.kept(k:∀b u,h.get? b=some u->h'.get? b=some u):Un fs ex H H h h':=
 ⟨λb ob q _ _ _=>k b ob q,λb ob q _ _ _=>⟨ob.slots,k b ob q⟩,λ_ _ _ n _=>n,λb ob q _=>⟨ob,k b ob q⟩,λ_ _ q=>q,λ_ _ _ q=>q,λ_ ps q=>⟨#[],by rw [q];simp⟩⟩
theorem Un.refl:Un fs ex H H h h:=Un.kept λ_ _ q=>q
theorem Un.laid(k:∀b u,h.get? b=some u->h'.get? b=some u)(hp:h.objs.size<=a)(hn:H a=none):Un fs ex H (upd H a o) h h' where
 keep:=λb u q _ _ _=>k b u q
 slot:=λb u q _ _ _=>⟨u.slots,k b u q⟩
 free:=λb u q n _=>by rw [dM (dQ (nr (cL q) hp))];exact n
 there:=λb u q _=>⟨u,k b u q⟩
 jd:=λb xs q=>by rw [dM (q8 q hn)];exact q
 ik:=λb u xs q=>by rw [dM (q8 q hn)];exact q
 je:=λb ps q=>⟨#[],by rw [dM (q8 q hn),q];simp⟩
theorem Un.write(mu:C1 (H x))(he:e=x\/H e=some (.own x))(k:∀b u,b≠e->h.get? b=some u->h'.get? b=some u)(ym:∃u,h'.get? e=some u):Un fs ex H (upd H x o) h h':=by
 have hx:∀b,H b=none->b≠x:=λb n z=>by subst z;rw [n] at mu;exact mu
 have hb:∀b,H b=none->b≠e:=λb n z=>by
  subst z
  rcases he with r | r
  .exact hx b n r
  .rw [n] at r;cases r
 have hm:∀b u,H b=some u->¬C1 (some u)->b≠x:=λb u q nm z=>by subst z;rw [q] at mu;exact nm mu
 refine ⟨λb u q n _ _=>k b u (hb b n) q,λb u q n _ _=>⟨u.slots,k b u (hb b n) q⟩,λb u q n _=>by rw [dM (hx b n)];exact n,λb u q _=>?_,
  λb xs q=>by rw [dM (hm b _ q λz=>z)];exact q,λb u xs q=>by rw [dM (hm b _ q λz=>z)];exact q,λb ps q=>⟨#[],by rw [dM (hm b _ q λz=>z),q];simp⟩⟩
 by_cases wR:b=e
 .subst wR;exact ym
 .exact ⟨u,k b u wR q⟩
theorem Un.mono(u:Un fs ex H H1 h h1)(hs:∀b∈fs,b∈yp)(hx:∀b∈ex,b∈MM):Un yp MM H H1 h h1:=
 ⟨λb ob q n hb he=>u.keep b ob q n (λz=>hb (hs b z)) λz=>he (hx b z),λ_ _ q n _ he=>u.any q n λz=>he (hx _ z),λb ob q n he=>u.free b ob q n λz=>he (hx b z),λb ob q he=>u.there b ob q λz=>he (hx b z),u.jd,u.ik,u.je⟩
end
def C7(h:Heap)(H:Hp):List Addr:=(pD h.objs.size).filter λa=>(H a).isSome
def m7(h:Heap)(H:Hp):Heap:=PySem.W.hideAll h (C7 h H)
theorem YF(h:Heap)(H:Hp):(m7 h H).objs.size=h.objs.size:=PySem.W.hideAll_size _ _
theorem XC(e:h.get? b=some o)(n:H b=none):(m7 h H).get? b=some o:=
 PySem.W.hideAll_get _ e λhm=>by
  have q:(H b).isSome=true:=(Il.mp hm).2
  rw [n] at q;simp at q
theorem Wk(e:(m7 h H).get? b=some o):h.get? b=some o/\H b=none:=by
 have e':h.get? b=some o:=PySem.W.of_hideAll (C7 h H) e
 refine ⟨e',?_⟩
 cases q:H b with
 | none=>rfl
 | some x =>
  have hm:b∈C7 h H:=Il.mpr ⟨DZ.mpr (cL e'),by simp [q]⟩
  have z:(m7 h H).get? b=none:=PySem.W.hideAll_none (C7 h H) hm
  rw [z] at e;cases e
def WO(g h:Heap)(L:Addr):List (Addr×Obj):=(pD h.objs.size).filterMap λa=>if a=L\/(g.get? a).isSome=true then none else (h.get? a).map λo=>(a,o)
def rest(g h:Heap)(L d:Addr):List (Addr×Obj):=(WO g h L).filter λp=>decide (p.1≠d)
end L2
namespace L2
open PySem PySem.Spec PyProof.Rows
structure Mod(K:aK)(mg:Str->Option Value)(base:Heap):Prop where
 AF:K.In base
 glob:base.Ns mainGlobals mg
 blt:∃mb,base.Ns builtinsNs mb/\∀x:Str,x ≠ "__name__" -> mb x=bootBuiltins x
 nolimit:base.NoLimit
 bmod:∃bm ob,mg "__builtins__" = some (.ref bm)/\bm≠builtinsNs/\base.get? bm=some ob/\ob.cls=.type "module" /\ ob.dict=some builtinsNs/\ob.data=.plain
structure Cx where
 prog:Program
 w:World
 K:aK
 mg:Str->Option Value
 base:Heap
 A:Around
 N:List Str
 cU:Shared
 sv:Hp
 env:Env
 outer:List Env
 stack:List Env
 ex:List Addr
 fn:Str->Bool
 calm:Bool
 pn:List (Addr×Obj)
 xe:Value->Shared->Prop
def qL(l:List Env):List Addr:=l.filterMap (·.frame)
abbrev Cx.fs(X:Cx):List Addr:=qL X.outer
def jK(sc:Scope)(x:Str):Prop:=sc.names.lookup x=some .local\/sc.names.lookup x=some .cell\/sc.names.lookup x=some .free
def Loc(sc:Scope)(x:Str):Prop:=sc.names.lookup x=some .local\/sc.names.lookup x=some .cell
def Look(env:Env)(h:Heap)(m:Str->Option Value)(x:Str)(u:Value):Prop:=
 (env.kindOf x=some .local/\m x=some u)\/((env.kindOf x=some .cell\/env.kindOf x=some .free)/\∃c,env.cells.lookup x=some c/\h.IsCell c (some u))
structure Cx.Ok(X:Cx):Prop where
 mod:Mod X.K X.mg X.base
 kind:X.env.scope.kind=.function
 glob:X.env.globals=mainGlobals
 blt:X.env.builtins=builtinsNs
 above:X.cU.heap.objs.size<=X.env.locals
 inj:∀x y c,X.env.cells.lookup x=some c->X.env.cells.lookup y=some c->x=y
 has:∀x,(X.env.kindOf x=some .cell\/X.env.kindOf x=some .free)->∃c,X.env.cells.lookup x=some c
 By:∀x c,X.fn x=true->X.env.cells.lookup x=some c->X.cU.heap.objs.size<=c
 hd:X.calm=true->X.A.handled=none
 frames:X.A.frames=some X.stack
 C9:X.stack=X.outer\/(X.stack=X.env::X.outer/\X.env.frame=some X.env.locals)
 ML:∀b∈X.ex,b≠X.env.locals/\∀x c,X.env.cells.lookup x=some c->c≠b
 bs:∀b o,X.base.get? b=some o->X.cU.heap.get? b=some o/\X.sv b=none
 rW:X.base.objs.size<=X.cU.heap.objs.size
 rF:∀b o,X.base.get? b=some o->b∉X.ex
 tX:∀b∈X.ex,b∉X.fs
 jt:X.cU.heap.FunFrames X.base X.outer
 u6:∀b∈X.fs,X.sv b=none
structure Inv(X:Cx)(pins:List (Addr×Obj))(σ:List (Option V))(H:Hp)(s:Shared):Prop where
 ok:X.Ok
 os:s.os=X.cU.os
 bare:AllBare s.gens
 base:Un X.fs X.ex X.sv H X.cU.heap s.heap
 loc:∃m,s.heap.Ns X.env.locals m/\∀(i:Nat) (x:Str) (v:V),X.N[i]?=some x->σ[i]?=some (some v)->jK X.env.scope x->∃u,RelV v u/\Look X.env s.heap m x u
 cell:∀x c,X.env.cells.lookup x=some c->∃v,s.heap.IsCell c v
 free:H X.env.locals=none
 ej:∀x c,X.env.cells.lookup x=some c->H c=none
 pin:∀p∈X.pn++pins,s.heap.get? p.1=some p.2/\H p.1=none/\p.1≠X.env.locals/\p.1∉X.fs/\∀v,p.2.data≠.cell v
 bB:gF X.prog X.w H s.heap
 len:σ.length=X.N.length
section
variable {X:Cx}{pins:List (Addr×Obj)}{σ:List (Option V)}{H H':Hp}{s:Shared}{h':Heap}
theorem Cx.Ok.GO(ok:X.Ok)(e:X.base.get? b=some o):b∉X.fs:=λhb=>by
 have:=(ok.jt.mem hb).1
 rw [e] at this;cases this
theorem Inv.bs(I:Inv X pins σ H s):∀b o,X.base.get? b=some o->s.heap.get? b=some o/\H b=none:=λb o e =>
 ⟨I.base.keep b o (I.ok.bs b o e).1 (I.ok.bs b o e).2 (I.ok.GO e) (I.ok.rF b o e),I.base.free b o (I.ok.bs b o e).1 (I.ok.bs b o e).2 (I.ok.rF b o e)⟩
theorem Inv.bk(I:Inv X pins σ H s):∀b o,X.base.get? b=some o->s.heap.get? b=some o:=λb o e=>(I.bs b o e).1
theorem Inv.mod(I:Inv X pins σ H s):Mod X.K X.mg X.base:=I.ok.mod
theorem Inv.j9(I:Inv X pins σ H s):X.K.In s.heap:=I.ok.mod.AF.keeps I.bk
theorem Inv.nolimit(I:Inv X pins σ H s):s.heap.NoLimit:=I.ok.mod.nolimit.keeps I.bk
theorem Inv.fr(I:Inv X pins σ H s):∃m,Fr X.base X.env.locals s.heap m:=
 let ⟨m,hn,_⟩:=I.loc
 ⟨m,hn,I.bk,jA I.ok.rW I.ok.above⟩
theorem Inv.lt(I:Inv X pins σ H s):X.env.locals<s.heap.objs.size:=let ⟨_,hn,_⟩:=I.loc;hn.lt
theorem Inv.sz(I:Inv X pins σ H s):X.cU.heap.objs.size<=s.heap.objs.size:=jA I.ok.above (ve I.lt)
theorem Inv.GN(I:Inv X pins σ H s){a:Addr}(h:s.heap.objs.size<=a):a∉X.fs:=λhb=>by
 obtain ⟨_,o,ho,_⟩:=I.ok.jt.mem hb
 exact absurd (nr (cL ho) (jA I.sz h)) (sP _)
theorem Inv.xg(I:Inv X pins σ H s):∀x c,X.env.cells.lookup x=some c->c≠X.env.locals:=λx c e z=>by
 obtain ⟨v,o,ho,hd⟩:=I.cell x c e
 obtain ⟨m,⟨o',es,ep,qr,uZ,_⟩,_⟩:=I.loc
 rw [z,qr] at ho;cases ho;rw [uZ] at hd;cases hd
theorem Inv.jt(I:Inv X pins σ H s):s.heap.FunFrames X.base X.outer:=by
 have all:∀(l:List Env),(∀b∈qL l,b∈X.fs)->X.cU.heap.FunFrames X.base l->s.heap.FunFrames X.base l:=by
  intro l
  induction l with
  | nil=>intro _ _;trivial
  | cons env r ih =>
   intro hs hl
   obtain ⟨hk,⟨L,o,hf,hn,ho,hd⟩,hr⟩:=hl
   have hL:L∈X.fs:=hs L (by unfold qL;rw [Ec,hf];exact jz)
   obtain ⟨sl,e⟩:=I.base.slot L o ho (I.ok.u6 L hL) hL λz=>I.ok.tX L z hL
   exact ⟨hk,⟨L,_,hf,hn,e,hd⟩,ih (λb hb=>hs b (by unfold qL;rw [Ec,hf];exact gE _ hb)) hr⟩
 exact all X.outer (λ_ hb=>hb) I.ok.jt
theorem Inv.stack(I:Inv X pins σ H s):s.heap.FunFrames X.base X.stack:=by
 rcases I.ok.C9 with e | ⟨e,hf⟩
 .rw [e];exact I.jt
 .rw [e]
  obtain ⟨m,hn,_⟩:=I.loc
  refine .cons (by rw [I.ok.kind];decide) hf hn ?_ I.jt
  exact Heap.get?_none_of_le (jA I.ok.rW I.ok.above)
theorem Inv.mN(I:Inv X pins σ H s):∀b∈qL X.stack,b∈X.env.locals::X.fs:=λb hb=>by
 rcases I.ok.C9 with e | ⟨e,hf⟩
 .rw [e] at hb;exact gE _ hb
 .rw [e] at hb
  unfold qL at hb
  rw [Ec,hf] at hb
  exact hb
theorem Inv.pO(I:Inv X pins σ H s):∀b∈qL X.stack,H b=none:=λb hb=>by
 rcases bG.mp (I.mN b hb) with e | hb
 .rw [e];exact I.free
 .obtain ⟨_,o,ho,_⟩:=I.ok.jt.mem hb
  exact I.base.free b o ho (I.ok.u6 b hb) λz=>I.ok.tX b z hb
theorem Inv.step{g':Array GenState}{t':Nat}{d':Drawn}{ch:List Addr}(I:Inv X pins σ H s)
  (sC:∀b∈ch,(b∈X.ex\/X.cU.heap.objs.size<=b)/\b≠X.env.locals/\(∀x c,X.env.cells.lookup x=some c->c≠b)/\∀p∈X.pn++pins,p.1≠b)
  (keep:∀b o,b≠X.env.locals->b∉X.fs->b∉ch->s.heap.get? b=some o->H b=none->h'.get? b=some o)
  (slot:∀b o,b≠X.env.locals->b∈X.fs->b∉ch->s.heap.get? b=some o->H b=none->∃sl,h'.get? b=some { o with slots:=sl })(free:∀b o,b∉ch->s.heap.get? b=some o->H b=none->H' b=none)
  (there:∀b o,b∉ch->s.heap.get? b=some o->∃o',h'.get? b=some o')
  (jd:∀b xs,H b=some (.tup xs)->H' b=some (.tup xs))(ik:∀b o u,H b=some (.mF o u)->H' b=some (.mF o u))(je:∀b ps,H b=some (.v3 ps)->∃more,H' b=some (.v3 (ps++more)))
  (ns:∀m,s.heap.Ns X.env.locals m->h'.Ns X.env.locals m)(bB:gF X.prog X.w H' h')(hg:AllBare g'):
  Inv X pins σ H' { s with heap:=h',gens:=g',drawn:=d',toks:=t' }:=by
 have L':∀b o,X.cU.heap.get? b=some o->b≠X.env.locals:=λb o e=>dQ (nr (cL e) I.ok.above)
 have Dh:∀b o,X.cU.heap.get? b=some o->b∉X.ex->b∉ch:=λb o e hx hb=>by
  rcases (sC b hb).1 with z | z
  .exact hx z
  .exact absurd (nr (cL e) z) (sP _)
 have cellK:∀x c,X.env.cells.lookup x=some c->∀v,s.heap.IsCell c v->h'.IsCell c v:=λx c e v ⟨o,ho,hd⟩=>by
  have Aw:c∉ch:=λz=>(sC c z).2.2.1 x c e rfl
  by_cases hc:c∈X.fs
  .obtain ⟨sl,q⟩:=slot c o (I.xg x c e) hc Aw ho (I.ej x c e)
   exact ⟨_,q,hd⟩
  .exact ⟨o,keep c o (I.xg x c e) hc Aw ho (I.ej x c e),hd⟩
 refine ⟨I.ok,I.os,hg,⟨λb o e n hb hx=>?_,λb o e n hb hx=>?_,λb o e n hx=>?_,λb o e hx=>?_,λb xs e=>jd b xs (I.base.jd b xs e),λb o xs e=>ik b o xs (I.base.ik b o xs e),λb ps e=>?_⟩,?_,λx c e=>?_,?_,λx c e=>?_,λp hp=>?_,bB,I.len⟩
 .exact keep b o (L' b o e) hb (Dh b o e hx) (I.base.keep b o e n hb hx) (I.base.free b o e n hx)
 .obtain ⟨sl,e1⟩:=I.base.slot b o e n hb hx
  obtain ⟨Gk,e2⟩:=slot b _ (L' b o e) hb (Dh b o e hx) e1 (I.base.free b o e n hx)
  exact ⟨Gk,e2⟩
 .obtain ⟨o',e1⟩:=I.base.there b o e hx
  exact free b o' (Dh b o e hx) e1 (I.base.free b o e n hx)
 .obtain ⟨o',e1⟩:=I.base.there b o e hx
  exact there b o' (Dh b o e hx) e1
 .obtain ⟨m1,e1⟩:=I.base.je b ps e
  obtain ⟨m2,e2⟩:=je b _ e1
  exact ⟨m1++m2,by rw [e2,Nd]⟩
 .obtain ⟨m,hn,hl⟩:=I.loc
  refine ⟨m,ns m hn,λi x v e1 e2 e3=>?_⟩
  obtain ⟨u,r,l⟩:=hl i x v e1 e2 e3
  refine ⟨u,r,?_⟩
  rcases l with l | ⟨k,c,e,z⟩
  .exact .inl l
  .exact .inr ⟨k,c,e,cellK x c e _ z⟩
 .obtain ⟨v,z⟩:=I.cell x c e
  exact ⟨v,cellK x c e v z⟩
 .obtain ⟨m,⟨o,_,_,ho,_⟩,_⟩:=I.loc
  exact free _ o (λz=>(sC _ z).2.1 rfl) ho I.free
 .obtain ⟨v,o,ho,hd⟩:=I.cell x c e
  exact free c o (λz=>(sC c z).2.2.1 x c e rfl) ho (I.ej x c e)
 .obtain ⟨e,n,ne,nf,d⟩:=I.pin p hp
  have Aw:p.1∉ch:=λz=>(sC p.1 z).2.2.2 p hp rfl
  exact ⟨keep p.1 p.2 ne nf Aw e n,free p.1 p.2 Aw e n,ne,nf,d⟩
theorem Inv.un(I:Inv X pins σ H s)(u:Un X.fs [] H H' s.heap h')(bB:gF X.prog X.w H' h'):Inv X pins σ H' { s with heap:=h',toks:=t' }:=by
 obtain ⟨m,⟨o,es,ep,ho,r⟩,_⟩:=id I.loc
 obtain ⟨sl,hL⟩:=u.any ho I.free (by simp)
 exact I.step (g':=s.gens) (d':=s.drawn) (ch:=[]) (λ_ z=>nomatch z) (λb o _ hb _ e n=>u.keep b o e n hb (by simp)) (λb o _ hb _ e n=>u.slot b o e n hb (by simp)) (λb o _ e n=>u.free b o e n (by simp)) (λb o _ e=>u.there b o e (by simp)) u.jd u.ik u.je (λm' hm=>by
  obtain ⟨o',tY,HD,qr,r'⟩:=hm
  rw [ho] at qr;cases qr
  exact ⟨_,tY,HD,hL,r'⟩) bB I.bare
theorem Inv.call(I:Inv X pins σ H s)(u:Un (qL X.stack) ch H H' s.heap h')(bB:gF X.prog X.w H' h')(hg:AllBare g')
  (sC:∀b∈ch,(b∈X.ex\/X.cU.heap.objs.size<=b)/\b≠X.env.locals/\(∀x c,X.env.cells.lookup x=some c->c≠b)/\∀p∈X.pn++pins,p.1≠b):
  Inv X pins σ H' { s with heap:=h',gens:=g',drawn:=d',toks:=t' }:=by
 obtain ⟨m,⟨o,es,ep,ho,r⟩,_⟩:=id I.loc
 obtain ⟨sl,hL⟩:=u.any ho I.free λz=>(sC _ z).2.1 rfl
 exact I.step (ch:=ch) sC (λb o hL hb hc e n=>u.keep b o e n (λz=>(bG.mp (I.mN b z)).elim hL hb) hc) (λb o _ _ hc e n=>u.any e n hc) (λb o hc e n=>u.free b o e n hc) (λb o hc e=>u.there b o e hc) u.jd u.ik u.je (λm' hm=>by
  obtain ⟨o',tY,HD,qr,r'⟩:=hm
  rw [ho] at qr;cases qr
  exact ⟨_,tY,HD,hL,r'⟩) bB hg
theorem Inv.turned(I:Inv X pins σ H s)(k:∀b o,b≠it->s.heap.get? b=some o->h'.get? b=some o)(hn:H it=none)(hL:it≠X.env.locals)
  (h1:it∈X.ex\/X.cU.heap.objs.size<=it)(h2:∀x c,X.env.cells.lookup x=some c->c≠it)(h3:∀p∈X.pn++pins,p.1≠it):Inv X pins σ H { s with heap:=h',toks:=t' }:=by
 have L9:∀b u,H b=some u->b≠it:=λb u e z=>by rw [z,hn] at e;cases e
 refine I.step (g':=s.gens) (d':=s.drawn) (ch:=[it]) (λb hb=>?_) (λb o _ _ hc e _=>k b o (λz=>hc (by simp [z])) e) (λb o _ _ hc e _=>⟨o.slots,k b o (λz=>hc (by simp [z])) e⟩) (λ_ _ _ _ n=>n)
  (λb o hc e=>⟨o,k b o (λz=>hc (by simp [z])) e⟩) (λ_ _ e=>e) (λ_ _ _ e=>e) (λb ps e=>⟨#[],by rw [e];simp⟩) (λm hm=>?_) (λb u e=>?_) I.bare
 .have e:b=it:=by simpa using hb
  subst e
  exact ⟨h1,hL,h2,h3⟩
 .obtain ⟨o,es,ep,ho,r⟩:=hm
  exact ⟨o,es,ep,k _ o (kY hL) ho,r⟩
 .refine (I.bB b u e).qg (λc v hc q=>k c v ?_ q) (λ_ _ _ q=>q) λ_ _ q=>q
  rcases hc with z | z
  .rw [z];exact L9 b u e
  .exact L9 c _ z
theorem Inv.tok(I:Inv X pins σ H s)(t:Nat):Inv X pins σ H { s with toks:=t }:=I.un (h':=s.heap) (t':=t) Un.refl I.bB
theorem Inv.kept(I:Inv X pins σ H s)(k:∀b u,s.heap.get? b=some u->h'.get? b=some u):Inv X pins σ H { s with heap:=h',toks:=t' }:=I.un (Un.kept k) (I.bB.kept k)
theorem Inv.laid{a:Addr}{o:HO}{t':Nat}(I:Inv X pins σ H s)(k:∀b u,s.heap.get? b=some u->h'.get? b=some u)(hp:s.heap.objs.size<=a)(new:bH X.prog X.w (upd H a o) h' a o):
  Inv X pins σ (upd H a o) { s with heap:=h',toks:=t' }:=I.un (Un.laid k hp (I.bB.fresh hp)) (I.bB.laid k hp new)
theorem Inv.write(I:Inv X pins σ H s)(mu:C1 (H x))(he:e=x\/H e=some (.own x))(k:∀b u,b≠e->s.heap.get? b=some u->h'.get? b=some u)(ym:∃u,h'.get? e=some u)
  (new:bH X.prog X.w (upd H x o) h' x o):Inv X pins σ (upd H x o) { s with heap:=h',toks:=t' }:=I.un (Un.write mu he k ym) (I.bB.write mu he k ym new)
theorem Inv.gU(I:Inv X pins σ H s)(h:∀p∈Ag,s.heap.get? p.1=some p.2/\H p.1=none/\p.1≠X.env.locals/\p.1∉X.fs/\∀v,p.2.data≠.cell v):Inv X Ag σ H s:=
 ⟨I.ok,I.os,I.bare,I.base,I.loc,I.cell,I.free,I.ej,λp hp=>(jI.mp hp).elim (λz=>I.pin p (yL _ z)) (h p),I.bB,I.len⟩
theorem PF{N:List Str}(hN:N.Nodup){i j:Nat}{x:Str}(a:N[i]?=some x)(b:N[j]?=some x):i=j:=by
 obtain ⟨h1,e1⟩:=qP.mp a
 obtain ⟨h2,e2⟩:=qP.mp b
 exact (List.getElem_inj hN).mp (e1.trans e2.symm)
theorem P7(I:Inv X pins σ H s)(hN:X.N.Nodup)(hi:X.N[i]?=some x)(hx:Loc X.env.scope x)(r:RelV v u)
  (h:∀s',Inv X pins (σ.set i (some v)) H s'->(∃a,r6 a s.heap s'.heap/\(a=X.env.locals\/X.env.cells.lookup x=some a))->Q () s')(hf:X.fn x=true\/X.env.scope.names.lookup x=some .local:=by first | exact .inl rfl | exact .inr rfl | assumption):wpAny M A (storeName X.env x u) Q E s:=by
 obtain ⟨m,hn,hl⟩:=id I.loc
 have Hm:(X.env.scope.kind==.class||(X.env.scope.kind==.module&&X.env.locals != X.env.globals))=false:=by rw [I.ok.kind];rfl
 have A3:i<σ.length:=by rw [I.len];exact (qP.mp hi).1
 have xg:=I.xg
 have tracked:∀{a:Addr} {h':Heap},(∃o,s.heap.get? a=some o/\H a=none)->r6 a s.heap h'->gF X.prog X.w H h':=λ{a h'} ha hs b ob e=>by
  obtain ⟨_,_,uY⟩:=ha
  refine (I.bB b ob e).qg (λc w' hc q=>(hs.2 c ?_).trans q) (λ_ _ _ q=>q) λ_ _ q=>q
  rintro rfl
  rcases hc with rfl | hc
  .rw [uY] at e;cases e
  .rw [uY] at hc;cases hc
 rcases hx with hk | hk
 .refine wpAny_storeName_local hk hn (λh' TM hs=>?_) Hm
  obtain ⟨oL,_,_,TH,_⟩:=id hn
  refine h _ ⟨I.ok,I.os,I.bare,⟨λb o e n hb hx=>?_,λb o e n hb hx=>?_,I.base.free,λb o e hx=>?_,I.base.jd,I.base.ik,I.base.je⟩,⟨_,TM,λj y v' e1 e2 e3=>?_⟩,λy c e=>?_,I.free,I.ej,λp hp=>?_,tracked ⟨oL,TH,I.free⟩ hs,by simpa using I.len⟩ ⟨_,hs,.inl rfl⟩
  .exact (hs.2 b (dQ (nr (cL e) I.ok.above))).trans (I.base.keep b o e n hb hx)
  .obtain ⟨sl,e1⟩:=I.base.slot b o e n hb hx
   exact ⟨sl,(hs.2 b (dQ (nr (cL e) I.ok.above))).trans e1⟩
  .obtain ⟨o',e1⟩:=I.base.there b o e hx
   exact ⟨o',(hs.2 b (dQ (nr (cL e) I.ok.above))).trans e1⟩
  .by_cases hj:j=i
   .subst hj
    rw [hi] at e1;cases e1
    rw [k6 A3] at e2
    cases e2
    exact ⟨u,r,.inl ⟨hk,by simp⟩⟩
   .rw [eD (kY hj)] at e2
    obtain ⟨u',r',q⟩:=hl j y v' e1 e2 e3
    refine ⟨u',r',?_⟩
    rcases q with ⟨k,e⟩ | ⟨k,c,e,z⟩
    .refine .inl ⟨k,?_⟩
     have:y≠x:=λe=>hj (PF hN e1 (e▸hi))
     simp [this,e]
    .exact .inr ⟨k,c,e,z.sameBut hs (xg y c e)⟩
  .obtain ⟨w',z⟩:=I.cell y c e
   exact ⟨w',z.sameBut hs (xg y c e)⟩
  .obtain ⟨e,n,ne,nf,d⟩:=I.pin p hp
   exact ⟨(hs.2 p.1 ne).trans e,n,ne,nf,d⟩
 .have Hi:X.fn x=true:=by
   rcases hf with z | z
   .exact z
   .rw [z] at hk;cases hk
  obtain ⟨c,hc⟩:=I.ok.has x (.inl hk)
  obtain ⟨w',z⟩:=I.cell x c hc
  refine wpAny_storeName_cell I.ok.kind hk hc z (λh' u4 hs=>?_)
  obtain ⟨oc,Mp,Ha⟩:=id z
  refine h { s with heap:=h' } ⟨I.ok,I.os,I.bare,⟨λb o e n hb hx=>?_,λb o e n hb hx=>?_,I.base.free,λb o e hx=>?_,I.base.jd,I.base.ik,I.base.je⟩,⟨m,hn.sameBut hs (kY (xg x c hc)),λj y v' e1 e2 e3=>?_⟩,λy c' e=>?_,I.free,I.ej,λp hp=>?_,tracked ⟨oc,Mp,I.ej x c hc⟩ hs,by simpa using I.len⟩ ⟨c,hs,.inr hc⟩
  .exact (hs.2 b (dQ (nr (cL e) (I.ok.By x c Hi hc)))).trans (I.base.keep b o e n hb hx)
  .obtain ⟨sl,e1⟩:=I.base.slot b o e n hb hx
   exact ⟨sl,(hs.2 b (dQ (nr (cL e) (I.ok.By x c Hi hc)))).trans e1⟩
  .obtain ⟨o',e1⟩:=I.base.there b o e hx
   exact ⟨o',(hs.2 b (dQ (nr (cL e) (I.ok.By x c Hi hc)))).trans e1⟩
  .by_cases hj:j=i
   .subst hj
    rw [hi] at e1;cases e1
    rw [k6 A3] at e2
    cases e2
    exact ⟨u,r,.inr ⟨.inl hk,c,hc,u4⟩⟩
   .rw [eD (kY hj)] at e2
    obtain ⟨u',r',q⟩:=hl j y v' e1 e2 e3
    refine ⟨u',r',?_⟩
    rcases q with q | ⟨k,c',e,z'⟩
    .exact .inl q
    .refine .inr ⟨k,c',e,z'.sameBut hs ?_⟩
     rintro rfl
     exact hj (PF hN e1 (I.ok.inj _ _ _ e hc▸hi))
  .by_cases Mz:c'=c
   .subst Mz;exact ⟨_,u4⟩
   .obtain ⟨w2,z2⟩:=I.cell y c' e
    exact ⟨w2,z2.sameBut hs Mz⟩
  .obtain ⟨e,n,ne,nf,d⟩:=I.pin p hp
   refine ⟨(hs.2 p.1 ?_).trans e,n,ne,nf,d⟩
   intro q
   rw [q,Mp] at e
   have q':oc=p.2:=dC e
   exact d w' (by rw [<-q'];exact Ha)
theorem Ks(I:Inv X pins σ H s)(hN:X.N.Nodup)(hi:X.N[i]?=some x)(hx:Loc X.env.scope x)(r:RelV v u)
  (h:∀s',Inv X pins (σ.set i (some v)) H s'->Q () s')(hf:X.fn x=true\/X.env.scope.names.lookup x=some .local:=by first | exact .inl rfl | exact .inr rfl | assumption):wpAny M A (storeName X.env x u) Q E s:=
 P7 I hN hi hx r (λs' I' _=>h s' I') hf
theorem Inv.Bx(I:Inv X pins σ H s)(ho:s'.os=s.os)(u:Un (qL X.stack) ch H H' s.heap s'.heap)(bB:gF X.prog X.w H' s'.heap)(hg:AllBare s'.gens)
  (sC:∀b∈ch,(b∈X.ex\/X.cU.heap.objs.size<=b)/\b≠X.env.locals/\(∀x c,X.env.cells.lookup x=some c->c≠b)/\∀p∈X.pn++pins,p.1≠b):Inv X pins σ H' s':=by
 obtain ⟨h',g',d',t',o'⟩:=s'
 have e:o'=s.os:=ho
 subst e
 exact I.call (g':=g') (t':=t') (d':=d') u bB hg sC
end
abbrev XK:=Value->Option Addr->Hp->Prop
abbrev St:=List (Option V)
abbrev VK:=V->Hp->Prop
abbrev TE:=St->Hp->VK->Prop
abbrev TT:=St->Hp->(Bool->Hp->Prop)->Prop
abbrev TA:=St->Hp->(List V->Hp->Prop)->Prop
structure Ends where
 nx:St->Hp->Prop
 rt:VK
 bk:St->Hp->Prop:=λ_ _=>False
 ct:St->Hp->Prop:=λ_ _=>False
abbrev TS:=Ends->St->Hp->Prop
def EP(X:Cx)(pins:List (Addr×Obj))(σ:St)(Q:VK)(u:Value)(s':Shared):Prop:=∃v H',Inv X pins σ H' s'/\RelV v u/\Q v H'
def TP(X:Cx)(pins:List (Addr×Obj))(σ:St)(Q:Bool->Hp->Prop)(b:Bool)(s':Shared):Prop:=∃H',Inv X pins σ H' s'/\Q b H'
def AP(X:Cx)(pins:List (Addr×Obj))(σ:St)(Q:List V->Hp->Prop)(us:List Value)(s':Shared):Prop:=∃vs H',Inv X pins σ H' s'/\aG vs us/\Q vs H'
def SP(X:Cx)(pins:List (Addr×Obj))(D:Ends)(f:Flow)(s':Shared):Prop:=
 match f with
 | .next=>∃bo H',Inv X pins bo H' s'/\D.nx bo H'
 | .brk=>∃bo H',Inv X pins bo H' s'/\D.bk bo H'
 | .cont=>∃bo H',Inv X pins bo H' s'/\D.ct bo H'
 | .ret u=>∃v bo H',Inv X pins bo H' s'/\RelV v u/\D.rt v H'
def PE(X:Cx)(e:Expr)(t:TE):Prop:=
 ∀(pins:List (Addr×Obj)) (s:Shared) (σ:St) (H:Hp) (Q:VK),Inv X pins σ H s->t σ H Q->wpAny (model X.prog X.w) X.A (eval e X.env) (EP X pins σ Q) X.xe s
def PT(X:Cx)(e:Expr)(t:TT):Prop:=
 ∀(pins:List (Addr×Obj)) (s:Shared) (σ:St) (H:Hp) (Q:Bool->Hp->Prop),Inv X pins σ H s->t σ H Q->wpAny (model X.prog X.w) X.A (isTrue e X.env (eval e X.env)) (TP X pins σ Q) X.xe s
def PW(X:Cx)(e:Expr)(t:TT):Prop:=
 ∀(whole:Sem Value) (pins:List (Addr×Obj)) (s:Shared) (σ:St) (H:Hp) (Q:Bool->Hp->Prop),Inv X pins σ H s->t σ H Q->wpAny (model X.prog X.w) X.A (isTrue e X.env whole) (TP X pins σ Q) X.xe s
theorem PW.pt(h:PW X e t):PT X e t:=h _
def PA(X:Cx)(es:List Expr)(t:TA):Prop:=
 ∀(pos:Pos) (pins:List (Addr×Obj)) (s:Shared) (σ:St) (H:Hp) (Q:List V->Hp->Prop),Inv X pins σ H s->t σ H Q->wpAny (model X.prog X.w) X.A (spliced (backTo pos (starEach es X.env))) (AP X pins σ Q) X.xe s
def PS(X:Cx)(st:Stmt)(t:TS):Prop:=
 ∀(pins:List (Addr×Obj)) (s:Shared) (σ:St) (H:Hp) (D:Ends),Inv X pins σ H s->t D σ H->wpAny (model X.prog X.w) X.A (exec st X.env) (SP X pins D) X.xe s
def qb(X:Cx)(st:List Stmt)(t:TS):Prop:=
 ∀(pins:List (Addr×Obj)) (s:Shared) (σ:St) (H:Hp) (D:Ends),Inv X pins σ H s->t D σ H->wpAny (model X.prog X.w) X.A (execs st X.env) (SP X pins D) X.xe s
theorem bQ{α:Type}{t:Sem α}{Q Q':α->Shared->Prop}{M:Model}{A:Around}{E:Value->Shared->Prop}{s:Shared}(h:wpAny M A t Q E s)(hQ:∀a s,Q a s->Q' a s):wpAny M A t Q' E s:=nF h hQ λ_ _ x=>x
end L2
namespace L2
open PySem PySem.Spec PyProof.Rows
section
variable {X:Cx}
def zx(i:Nat):TE:=λσ H Q=>∃v,σ[i]?=some (some v)/\Q v H
def tC(v:V):TE:=λ_ H Q=>Q v H
theorem sX{i:Nat}{x:Str}{pos:Pos}(hN:X.N[i]?=some x)(hv:jK X.env.scope x)(hd:(x==("__debug__":Str))=false:=by decide)(cO:(x==("__classdict__":Str))=false:=by decide):PE X (.Name x pos) (zx i):=by
 intro pins s σ H Q I h
 obtain ⟨v,e,h⟩:=h
 obtain ⟨m,hn,hl⟩:=I.loc
 obtain ⟨u,r,l⟩:=hl i x v hN e hv
 have fin:EP X pins σ Q u s:=⟨v,H,I,r,h⟩
 rcases l with ⟨hk,hm⟩ | ⟨hk,c,hc,ig⟩
 .exact wpAny_Name (wpAny_loadName_local I.ok.kind hk hn hm fin) hd
 .rcases hk with hk | hk
  .exact wpAny_Name (wpAny_loadName_cell I.ok.kind hk hc ig fin) hd
  .exact wpAny_Name (wpAny_loadName_free I.ok.kind hk hc ig fin cO) hd
theorem Vj{i j pos}:PE X (.Constant (.int i) j pos) (tC (.int i)):=λ_ _ _ H _ I h=>wpAny_Constant_int ⟨.int i,H,I.tok _,⟨_,rfl⟩,h⟩
theorem Am{b j pos}:PE X (.Constant (.bool b) j pos) (tC (.bl b)):=λ_ _ _ H _ I h=>Constant_bool ⟨.bl b,H,I,rfl,h⟩
theorem Vl{j pos}:PE X (.Constant .none j pos) (tC .bz):=λ_ _ _ H _ I h=>Constant_none ⟨.bz,H,I,rfl,h⟩
theorem Vn{x j pos}:PE X (.Constant (.str x) j pos) (tC (.str x)):=λ_ _ _ H _ I h=>Calls.Constant_str ⟨.str x,H,I.tok _,⟨_,rfl⟩,h⟩
def Gl(X:Cx)(x:Str):Prop:=X.env.kindOf x=some .globalImplicit
theorem E3{E:Value->Shared->Prop}{pins:List (Addr×Obj)}{s:Shared}{σ:St}{H:Hp}{x:Str}{u:Value}{pos:Pos}{Q:Value->Shared->Prop}(I:Inv X pins σ H s)(hg:Gl X x)(hm:X.mg x=some u)(h:Q u s)
  (hd:(x==("__debug__":Str))=false:=by decide):wpAny (model X.prog X.w) X.A (eval (.Name x pos) X.env) Q E s:=
 Nv I.ok.kind hg (Calls.loadGlobal_global (by rw [I.ok.glob];exact I.mod.glob.keeps I.bk) hm h) hd
theorem yZ{E:Value->Shared->Prop}{pins:List (Addr×Obj)}{s:Shared}{σ:St}{H:Hp}{x:Str}{u:Value}{pos:Pos}{Q:Value->Shared->Prop}(I:Inv X pins σ H s)(hg:Gl X x)(hm:X.mg x=none)(hv:bootBuiltins x=some u)(h:Q u s)
  (hn:x ≠ "__name__":=by decide)(hd:(x==("__debug__":Str))=false:=by decide):wpAny (model X.prog X.w) X.A (eval (.Name x pos) X.env) Q E s:=by
 obtain ⟨mb,h1,h2⟩:=I.mod.blt
 exact Nv I.ok.kind hg (Calls.loadGlobal_builtin (by rw [I.ok.glob];exact I.mod.glob.keeps I.bk) hm (by rw [I.ok.blt];exact h1.keeps I.bk) ((h2 x hn).trans hv) h) hd
theorem Xf(hg:Gl X x)(hm:X.mg x=some u)(r:RelV v u)(hd:(x==("__debug__":Str))=false:=by decide):PE X (.Name x pos) (tC v):=
 λ_ _ _ H _ I h=>E3 I hg hm ⟨v,H,I,r,h⟩ hd
theorem Wq{x:Str}{v:V}{u:Value}{pos:Pos}(hg:Gl X x)(hm:X.mg x=none)(hv:bootBuiltins x=some u)(r:RelV v u)(hn:x ≠ "__name__":=by decide)(hd:(x==("__debug__":Str))=false:=by decide):PE X (.Name x pos) (tC v):=
 λ_ _ _ H _ I h=>yZ I hg hm hv ⟨v,H,I,r,h⟩ hn hd
variable {a b:Expr}{ta tb:TE}{pos:Pos}
def PC(X:Cx)(op:CmpOp)(a b:Expr)(t:TE):Prop:=
 ∀(pins:List (Addr×Obj)) (s:Shared) (σ:St) (H:Hp) (Q:VK),Inv X pins σ H s->t σ H Q ->
  wpAny (model X.prog X.w) X.A (eval a X.env) (λv aY=>wpAny (model X.prog X.w) X.A (eval b X.env) (λu c6=>wpAny (model X.prog X.w) X.A (compareOp op v u) (EP X pins σ Q) X.xe c6) X.xe aY) X.xe s
theorem X4(b:Expr)(h:op≠.In)(h2:op≠.NotIn):behindInMarks op b=false:=by
 have e1:(op==CmpOp.In)=false:=by cases op<;>first | rfl | exact absurd rfl h
 have e2:(op==CmpOp.NotIn)=false:=by cases op<;>first | rfl | exact absurd rfl h2
 cases b<;>simp [behindInMarks,e1,e2]
def tB(t:TE):TT:=λσ H Q=>t σ H λx H1=>∃c,x=.bl c/\Q c H1
theorem Vu(h:PC X op a b t)(h1:behindInMarks op b=false:=by first | exact X4 _ (by decide) (by decide) | rfl):PT X (.Compare a [op] [b] pos) (tB t):=by
 intro pins s σ H Q I hw
 refine wpAny_isTrue_Compare1 (bQ (h pins s σ H _ I hw) λv s1 h1=>bQ h1 λu s2 h2=>bQ h2 λc s3 ⟨x,H1,I1,r1,q1⟩=>?_) h1
 obtain ⟨d,rfl,q⟩:=q1
 cases r1
 exact BO ⟨H1,I1,q⟩
variable {tA C8:TT}{rest:List Expr}
def Gf(t u:TT):TT:=λσ H Q=>t σ H λc H1=>if c=true then u σ H1 Q else Q false H1
def Rj(t u:TT):TT:=λσ H Q=>t σ H λc H1=>if c=true then Q true H1 else u σ H1 Q
def F8(t:TT):TT:=λσ H Q=>t σ H λc H1=>Q (!c) H1
theorem WW(ha:PT X a tA):PW X (.BoolOp .And [a] pos) tA:=by
 intro wh pins s σ H Q I h
 refine isTrue_and (bQ (ha pins s σ H Q I h) λc s1 e=>?_)
 cases c with
 | true=>exact isTrue_and_nil e
 | false=>exact e
theorem Vy(ha:PT X a tA):PW X (.BoolOp .Or [a] pos) tA:=by
 intro wh pins s σ H Q I h
 refine isTrue_or (bQ (ha pins s σ H Q I h) λc s1 e=>?_)
 cases c with
 | false=>exact isTrue_or_nil e
 | true=>exact e
theorem Vx(ha:PT X a tA)(hb:PW X (.BoolOp .And (b::rest) pos) C8):PW X (.BoolOp .And (a::b::rest) pos) (Gf tA C8):=by
 intro wh pins s σ H Q I h
 refine isTrue_and (bQ (ha pins s σ H _ I h) λc s1 ⟨H1,I1,q1⟩=>?_)
 cases c with
 | true=>exact hb wh pins s1 σ H1 Q I1 q1
 | false=>exact ⟨H1,I1,q1⟩
theorem pw_or(ha:PT X a tA)(hb:PW X (.BoolOp .Or (b::rest) pos) C8):PW X (.BoolOp .Or (a::b::rest) pos) (Rj tA C8):=by
 intro wh pins s σ H Q I h
 refine isTrue_or (bQ (ha pins s σ H _ I h) λc s1 ⟨H1,I1,q1⟩=>?_)
 cases c with
 | true=>exact ⟨H1,I1,q1⟩
 | false=>exact hb wh pins s1 σ H1 Q I1 q1
theorem Vv(ha:PT X a tA):PT X (.UnaryOp .Not a pos) (F8 tA):=by
 intro pins s σ H Q I h
 exact isTrue_not (ha pins s σ H (λc H1=>Q (!c) H1) I h)
def zI(ta tb:TE):TE:=λσ H Q=>ta σ H λx H1=>∃c,x=.bl c/\if c=true then tb σ H1 Q else Q (.bl false) H1
def F7(ta tb:TE):TE:=λσ H Q=>ta σ H λx H1=>∃c,x=.bl c/\if c=true then Q (.bl true) H1 else tb σ H1 Q
theorem Vm{op}(h:PE X a t):PE X (.BoolOp op [a] pos) t:=λpins s σ H Q I hw=>BoolOp_one (h pins s σ H Q I hw)
theorem Vg(ha:PE X a ta)(hb:PE X (.BoolOp .And (b::rest) pos) tb):PE X (.BoolOp .And (a::b::rest) pos) (zI ta tb):=by
 intro pins s σ H Q I h
 refine BoolOp_and (bQ (ha pins s σ H _ I h) λv s1 ⟨x,H1,I1,r1,q1⟩=>?_)
 obtain ⟨c,rfl,q1⟩:=q1
 cases r1
 refine BO ?_
 cases c with
 | true=>exact hb pins s1 σ H1 Q I1 q1
 | false=>exact ⟨.bl false,H1,I1,rfl,q1⟩
theorem NN(ha:PE X a ta)(hb:PE X (.BoolOp .Or (b::rest) pos) tb):PE X (.BoolOp .Or (a::b::rest) pos) (F7 ta tb):=by
 intro pins s σ H Q I h
 refine BoolOp_or (bQ (ha pins s σ H _ I h) λv s1 ⟨x,H1,I1,r1,q1⟩=>?_)
 obtain ⟨c,rfl,q1⟩:=q1
 cases r1
 refine BO ?_
 cases c with
 | false=>exact hb pins s1 σ H1 Q I1 q1
 | true=>exact ⟨.bl true,H1,I1,rfl,q1⟩
def Rk(t:TT)(ta tb:TE):TE:=λσ H Q=>t σ H λc H1=>if c=true then ta σ H1 Q else tb σ H1 Q
theorem X9(hc:PT X c tA)(ha:PE X a ta)(hb:PE X b tb):PE X (.IfExp c a b pos) (Rk tA ta tb):=by
 intro pins s σ H Q I h
 refine wpAny_IfExp (bQ (hc pins s σ H _ I h) λd s1 ⟨H1,I1,q1⟩=>?_)
 cases d with
 | true=>exact ha pins s1 σ H1 Q I1 q1
 | false=>exact hb pins s1 σ H1 Q I1 q1
end
end L2
namespace L2
open PySem PySem.Spec PyProof.Rows
def eG(K:aK)(H:Hp)(a:Addr)(xs:List V):Prop:=
 Rd H a (.lst xs) \/
  ∃(o:Obj) (aA:Array Value) (n:Nat),K.lookup a=some o/\o.cls=.type "list" /\ o.dict=none/\o.data=.seq aA n/\aA.size<=sizeLine/\aG xs aA.toList
def gC(K:aK)(H:Hp)(a:Addr)(xs:List V):Prop:=
 Rd H a (.tup xs) \/
  ∃(o:Obj) (aA:Array Value) (n:Nat),K.lookup a=some o/\o.cls=.type "tuple" /\ o.data=.seq aA n/\aA.size<=sizeLine/\aG xs aA.toList
def JI:Value->Option V
 | .none=>some .bz
 | .bool b=>some (.bl b)
 | .int i _=>some (.int i)
 | .str x _=>some (.str x)
 | .bytes b _=>some (.yF b)
 | .float b _=>some (.w6 b)
 | .ref a=>some (.ref a)
 | .type n=>some (.ty n)
 | _=>none
theorem RelV.abs(r:RelV x u):JI u=some x:=by
 cases x with
 | bz=>cases r;rfl
 | bl _=>cases r;rfl
 | int _=>obtain ⟨t,rfl⟩:=r;rfl
 | str _=>obtain ⟨t,rfl⟩:=r;rfl
 | yF _=>obtain ⟨t,rfl⟩:=r;rfl
 | w6 _=>obtain ⟨t,rfl⟩:=r;rfl
 | ref _=>cases r;rfl
 | ty _=>cases r;rfl
theorem RelV.inj(r:RelV x u)(q:RelV y u):x=y:=dC (r.abs.symm.trans q.abs)
theorem aG.inj:∀{xs ys:List V} {us:List Value},aG xs us->aG ys us->xs=ys
 | _,_,_,.nil,.nil=>rfl
 | _,_,_,.cons r t,.cons r' t'=>by rw [r.inj r',aG.inj t t']
section
variable {X:Cx}{pins:List (Addr×Obj)}{σ:St}{H:Hp}{s:Shared}{a:Addr}{xs ys:List V}
theorem eG.of{K:aK}(h:H a=some (.lst xs)):eG K H a xs:=.inl (.inl h)
theorem gC.of{K:aK}(h:H a=some (.tup xs)):gC K H a xs:=.inl (.inl h)
theorem Inv.list(I:Inv X pins σ H s)(h:eG X.K H a xs):∃aA:List Value,aG xs aA/\PlainL s.heap a aA.toArray/\xs.length<=sizeLine:=by
 rcases h with h | ⟨o,aA,n,hk,hc,hd,hs,hz,r⟩
 .obtain ⟨z,aA,n,r,e⟩:=h.ok I.bB
  exact ⟨aA,r,⟨_,n,e,rfl,rfl,rfl⟩,z⟩
 .refine ⟨aA.toList,r,⟨o,n,I.j9 a o hk,hc,hd,by simpa using hs⟩,?_⟩
  have e:=r.length
  simp only [gD] at e
  ext hz e
theorem Inv.tuple(I:Inv X pins σ H s)(h:gC X.K H a xs):∃aA:List Value,aG xs aA/\IsTup s.heap a aA.toArray/\xs.length<=sizeLine:=by
 rcases h with h | ⟨o,aA,n,hk,hc,hs,hz,r⟩
 .obtain ⟨z,aA,r,p⟩:=h.ok I.bB
  exact ⟨aA,r,p,z⟩
 .refine ⟨aA.toList,r,⟨o,I.j9 a o hk,hc,n,by simpa using hs⟩,?_⟩
  have e:=r.length
  simp only [gD] at e
  ext hz e
theorem Inv.nN(I:Inv X pins σ H s)(h:eG X.K H a xs)(h':eG X.K H a ys):xs=ys:=by
 obtain ⟨aA,r,⟨o,n,e,_,_,d⟩,_⟩:=I.list h
 obtain ⟨its',r',⟨o',n',e',_,_,d'⟩,_⟩:=I.list h'
 rw [e] at e';cases e'
 rw [d] at d'
 injection d' with d1 _
 have:aA=its':=by simpa using congrArg Array.toList d1
 subst this
 exact r.inj r'
theorem Inv.mD(I:Inv X pins σ H s)(h:gC X.K H a xs)(h':gC X.K H a ys):xs=ys:=by
 obtain ⟨aA,r,⟨o,e,_,n,d⟩,_⟩:=I.tuple h
 obtain ⟨its',r',⟨o',e',_,n',d'⟩,_⟩:=I.tuple h'
 rw [e] at e';cases e'
 rw [d] at d'
 injection d' with d1 _
 have:aA=its':=by simpa using congrArg Array.toList d1
 subst this
 exact r.inj r'
end
abbrev Cx.gG(X:Cx)(E:Value->Shared->Prop):Cx:={ X with xe:=E }
abbrev Cx.j0(X:Cx):Cx:=X.gG λ_ _=>False
theorem Cx.Ok.gG{X:Cx}(ok:X.Ok)(E:Value->Shared->Prop):(X.gG E).Ok:=
 ⟨ok.mod,ok.kind,ok.glob,ok.blt,ok.above,ok.inj,ok.has,ok.By,ok.hd,ok.frames,ok.C9,ok.ML,ok.bs,ok.rW,ok.rF,ok.tX,ok.jt,ok.u6⟩
theorem Cx.Ok.cM{X:Cx}(ok:(X.gG E).Ok):X.Ok:=
 ⟨ok.mod,ok.kind,ok.glob,ok.blt,ok.above,ok.inj,ok.has,ok.By,ok.hd,ok.frames,ok.C9,ok.ML,ok.bs,ok.rW,ok.rF,ok.tX,ok.jt,ok.u6⟩
section
variable {X:Cx}{pins:List (Addr×Obj)}{σ:St}{H:Hp}{s:Shared}{E:Value->Shared->Prop}
theorem Inv.gG(I:Inv X pins σ H s)(E:Value->Shared->Prop):Inv (X.gG E) pins σ H s:=⟨I.ok.gG E,I.os,I.bare,I.base,I.loc,I.cell,I.free,I.ej,I.pin,I.bB,I.len⟩
theorem Inv.cM(I:Inv (X.gG E) pins σ H s):Inv X pins σ H s:=⟨I.ok.cM,I.os,I.bare,I.base,I.loc,I.cell,I.free,I.ej,I.pin,I.bB,I.len⟩
theorem SP.cM(h:SP (X.gG E) pins D f s'):SP X pins D f s':=by
 cases f with
 | next=>obtain ⟨bo,H',I,q⟩:=h;exact ⟨bo,H',I.cM,q⟩
 | brk=>obtain ⟨bo,H',I,q⟩:=h;exact ⟨bo,H',I.cM,q⟩
 | cont=>obtain ⟨bo,H',I,q⟩:=h;exact ⟨bo,H',I.cM,q⟩
 | ret u=>obtain ⟨v,bo,H',I,r,q⟩:=h;exact ⟨v,bo,H',I.cM,r,q⟩
theorem PE.j0(h:PE X.j0 e t):PE X e t:=λpins s σ H Q I hw =>
 nF (h pins s σ H Q (I.gG _) hw) (λ_ _ ⟨v,H',I',r,q⟩=>⟨v,H',I'.cM,r,q⟩) λ_ _ z=>mh z
theorem PT.j0(h:PT X.j0 e t):PT X e t:=λpins s σ H Q I hw =>
 nF (h pins s σ H Q (I.gG _) hw) (λ_ _ ⟨H',I',q⟩=>⟨H',I'.cM,q⟩) λ_ _ z=>mh z
theorem qb.j0{st:List Stmt}{t:TS}(h:qb X.j0 st t):qb X st t:=λpins s σ H D I hw =>
 nF (h pins s σ H D (I.gG _) hw) (λ_ _ q=>q.cM) λ_ _ z=>mh z
end
section
variable {X:Cx}{st:Stmt}{rest:List Stmt}{t u:TS}{e:Expr}{te:TE}{pos:Pos}
def zC:TS:=λD σ H=>D.nx σ H
def F5(t u:TS):TS:=λD σ H=>t { D with nx:=u D } σ H
theorem O6:qb X [] zC:=λ_ _ σ H _ I h=>Ik ⟨σ,H,I,h⟩
theorem O8(h1:PS X st t)(h2:qb X rest u):qb X (st::rest) (F5 t u):=by
 intro pins s σ H D I h
 refine wpAny_execs_cons (bQ (h1 pins s σ H { D with nx:=u D } I h) λf s1 q=>?_)
 cases f with
 | next =>
  obtain ⟨bo,H',I',q⟩:=q
  exact h2 pins s1 bo H' D I' q
 | ret v=>exact q
 | brk=>exact q
 | cont=>exact q
theorem Xm(h1:PS X st t):qb X [st] t:=by
 intro pins s σ H D I h
 refine wpAny_execs_cons (bQ (h1 pins s σ H D I h) λf s1 q=>?_)
 cases f with
 | next=>exact Ik q
 | ret v=>exact q
 | brk=>exact q
 | cont=>exact q
theorem Inv.quiet{pins:List (Addr×Obj)}{σ:St}{H:Hp}{s:Shared}(I:Inv X pins σ H s):interactive X.env=false:=by simp [interactive,I.ok.kind]
def zE(te:TE):TS:=λD σ H=>te σ H λ_ H1=>D.nx σ H1
theorem J0(he:PE X e te)(hs:swapsWith e none pos.line X.env=pure false:=by rfl):PS X (.Expr e pos) (zE te):=by
 intro pins s σ H D I h
 exact wpAny_Expr_any (bQ (he pins s σ H _ I h) λv s1 ⟨x,H1,I1,r1,q1⟩=>⟨σ,H1,I1,q1⟩) I.quiet hs
def F6(te:TE):TS:=λD σ H=>te σ H D.rt
theorem Oj(he:PE X e te):PS X (.Return (some e) pos) (F6 te):=by
 intro pins s σ H D I h
 exact wpAny_Return_some (bQ (he pins s σ H _ I h) λv s1 ⟨x,H1,I1,r1,q1⟩=>⟨x,σ,H1,I1,r1,q1⟩)
def F'(c:TT)(t u:TS):TS:=λD σ H=>c σ H λb H1=>if b=true then t D σ H1 else u D σ H1
theorem Af(hc:PT X c tc)(ha:qb X a t)(hb:qb X b u):PS X (.If c a b pos) (F' tc t u):=by
 intro pins s σ H D I h
 refine wpAny_If (bQ (hc pins s σ H _ I h) λd s1 ⟨H1,I1,q1⟩=>?_)
 cases d with
 | true=>exact ha pins s1 σ H1 D I1 q1
 | false=>exact hb pins s1 σ H1 D I1 q1
end
abbrev TG:=V->St->Hp->(St->Hp->Prop)->Prop
abbrev vR:=List V->St->Hp->(St->Hp->Prop)->Prop
def PG(X:Cx)(target:Expr)(t:TG):Prop:=
 ∀(pins:List (Addr×Obj)) (s:Shared) (σ:St) (H:Hp) (v:V) (u:Value) (Q:St->Hp->Prop),Inv X pins σ H s->RelV v u->t v σ H Q ->
  wpAny (model X.prog X.w) X.A (assign target X.env u) (λ_ s'=>∃bo H',Inv X pins bo H' s'/\Q bo H') X.xe s
def CZ(X:Cx)(ts:List Expr)(t:vR):Prop:=
 ∀(pins:List (Addr×Obj)) (s:Shared) (σ:St) (H:Hp) (vs:List V) (us:List Value) (Q:St->Hp->Prop),Inv X pins σ H s->aG vs us->t vs σ H Q ->
  wpAny (model X.prog X.w) X.A (assignInOrder ((assignEach ts X.env).map (·.2)) us) (λ_ s'=>∃bo H',Inv X pins bo H' s'/\Q bo H') X.xe s
abbrev xT:=V->V->V->Hp->(Hp->Prop)->Prop
def CY(X:Cx)(t:xT):Prop:=
 ∀(pins:List (Addr×Obj)) (s:Shared) (σ:St) (H:Hp) (o i v:V) (ov iv u:Value) (Q:Hp->Prop),Inv X pins σ H s->RelV o ov->RelV i iv->RelV v u->t o i v H Q ->
  wpAny (model X.prog X.w) X.A (setItem ov iv u) (λ_ s'=>∃H',Inv X pins σ H' s'/\Q H') X.xe s
abbrev LL:=V->V->Hp->VK->Prop
def Q4(X:Cx)(op:Operator)(t:LL):Prop:=
 ∀(pins:List (Addr×Obj)) (s:Shared) (σ:St) (H:Hp) (x y:V) (v u:Value) (Q:VK),Inv X pins σ H s->RelV x v->RelV y u->t x y H Q ->
  wpAny (model X.prog X.w) X.A (inplaceOp op v u) (EP X pins σ Q) X.xe s
section
variable {X:Cx}{pos:Pos}
def NS(i:Nat):TG:=λv σ H Q=>Q (σ.set i (some v)) H
theorem Xh(hN:X.N.Nodup)(hi:X.N[i]?=some x)(hx:Loc X.env.scope x)(hf:X.fn x=true\/X.env.scope.names.lookup x=some .local:=by first | exact .inl rfl | exact .inr rfl | assumption):PG X (.Name x pos) (NS i):=by
 intro pins s σ H v u Q I r h
 exact wpAny_assign_Name (Ks I hN hi hx r (λs' I'=>⟨_,H,I',h⟩) hf)
def Hw:vR:=λvs σ H Q=>vs=[]/\Q σ H
def Be(t:TG)(u:vR):vR:=λvs σ H Q=>∃v r,vs=v::r/\t v σ H λbo H'=>u r bo H' Q
theorem Xi:CZ X [] Hw:=by
 intro pins s σ H vs us Q I r h
 obtain ⟨e,h⟩:=h
 subst e
 cases r
 exact assignInOrder_nil ⟨σ,H,I,h⟩
theorem Yc{e:Expr}{es:List Expr}{t:TG}{u:vR}(h1:PG X e t)(h2:CZ X es u)
  (hs:(assignEach (e::es) X.env).map (·.2)=assign e X.env::(assignEach es X.env).map (·.2):=by rfl):CZ X (e::es) (Be t u):=by
 intro pins s σ H vs us Q I r h
 obtain ⟨v,vr,e1,h⟩:=h
 subst e1
 cases r with
 | cons r rr =>
  rw [hs]
  refine assignInOrder_cons (bQ (h1 pins s σ H _ _ _ I r h) λ_ s1 ⟨sx,H1,I1,q1⟩=>?_)
  exact h2 pins s1 sx H1 _ _ Q I1 rr q1
def Hv(K:aK)(n:Nat)(t:vR):TG:=λv σ H Q=>∃a xs,v=.ref a/\gC K H a xs/\xs.length=n/\t xs σ H Q
theorem Vq{es:List Expr}{k:Nat}{t:vR}{n:Nat}(hc:X.calm=true)(h:CZ X es t)
  (hn:(assignEach es X.env).length=n:=by rfl)(sy:(assignEach es X.env).findIdx? (·.1)=none:=by rfl):PG X (.Tuple es k pos) (Hv X.K n t):=by
 intro pins s σ H v u Q I r hw
 obtain ⟨a,xs,e1,hq,hl,hw⟩:=hw
 subst e1
 cases r
 obtain ⟨aA,rv,ht,hz⟩:=I.tuple hq
 refine assign_Tuple_tuple (I.ok.hd hc) ht (by simp [hn,<-hl,rv.length]) sy λh' hx=>?_
 have I1:Inv X pins σ H { s with heap:=h' }:=I.kept (t':=s.toks) λb o e=>hx b o (dQ (cL e)) e
 exact h pins _ σ H xs _ Q I1 (by simpa using rv) hw
def dH(to ti:TE)(t:xT):TG:=λv σ H Q=>to σ H λo H1=>ti σ H1 λi H2=>t o i v H2 λH3=>Q σ H3
theorem Vp{o i:Expr}{to ti:TE}{t:xT}(ho:PE X o to)(hi:PE X i ti)(hs:CY X t)
  (ha:∀v,assign (.Subscript o i pos) X.env v=(do
   let ov <-holding [v] (eval o X.env)
   let iv <-holding [v,ov] (eval i X.env)
   standAt pos
   holding [v,ov,iv] (setItem ov iv v)
   release [v,ov,iv] []):=by intro _;rfl):PG X (.Subscript o i pos) (dH to ti t):=by
 intro pins s σ H v u Q I r h
 rw [ha]
 refine aN (sO (bQ (ho pins s σ H _ I h) λov s1 ⟨x,H1,I1,r1,q1⟩=>?_))
 refine aN (sO (bQ (hi pins s1 σ H1 _ I1 q1) λiv s2 ⟨y,H2,I2,r2,q2⟩=>?_))
 refine aN (Iv (aN (sO (bQ (hs pins s2 σ H2 x y v ov iv u _ I2 r1 r2 r q2) λ_ s3 ⟨H3,I3,q3⟩=>?_))))
 exact wpAny_release ⟨σ,H3,I3,q3⟩
def zH(te:TE)(g:TG):TS:=λD σ H=>te σ H λx H1=>g x σ H1 D.nx
theorem Vr{tg e:Expr}{te:TE}{g:TG}(he:PE X e te)(hg:PG X tg g)(hs:swapsWithSole [tg] e pos.line X.env=pure false:=by rfl)(hw:swappedStores [tg] e X.env=pure none:=by rfl)
  (h1:(assignEach [tg] X.env).map (·.2)=[assign tg X.env]:=by rfl):PS X (.Assign [tg] e pos) (zH te g):=by
 intro pins s σ H D I h
 refine wpAny_Assign_stores (bQ (he pins s σ H _ I h) λv s1 ⟨x,H1,I1,r1,q1⟩=>?_) hs hw
 rw [h1]
 exact bQ (hg pins s1 σ H1 x v _ I1 r1 q1) λ_ s2 q=>q
theorem JR(hN:X.N.Nodup)(hi:X.N[i]?=some x)(hx:Loc X.env.scope x)(he:PE X e te)(hs:swapsWith e (some (.Name x pos')) pos.line X.env=pure false:=by rfl)(hf:X.fn x=true\/X.env.scope.names.lookup x=some .local:=by first | exact .inl rfl | exact .inr rfl | assumption):
  PS X (.Assign [.Name x pos'] e pos) (zH te (NS i)):=by
 intro pins s σ H D I h
 refine wpAny_Assign_Name (bQ (he pins s σ H _ I h) λv s1 ⟨y,H1,I1,r1,q1⟩=>?_) hs
 exact Ks I1 hN hi hx r1 (λs2 I2=>⟨_,H1,I2,q1⟩) hf
def Ge(i:Nat)(te:TE)(ti:LL):TS:=λD σ H=>∃x,σ[i]?=some (some x)/\te σ H λy H1=>ti x y H1 λz H2=>D.nx (σ.set i (some z)) H2
theorem Vs(hN:X.N.Nodup)(hi:X.N[i]?=some x)(hx:Loc X.env.scope x)(he:PE X e te)(ho:Q4 X op ti)(hf:X.fn x=true\/X.env.scope.names.lookup x=some .local:=by first | exact .inl rfl | exact .inr rfl | assumption):
  PS X (.AugAssign (.Name x pos') op e pos) (Ge i te ti):=by
 intro pins s σ H D I h
 obtain ⟨v,e1,h⟩:=h
 obtain ⟨m,hn,hl⟩:=I.loc
 have rj:jK X.env.scope x:=by rcases hx with k | k;exact .inl k;exact .inr (.inl k)
 obtain ⟨u,r,l⟩:=hl i x v hi e1 rj
 refine wpAny_AugAssign_Name ?_
 have go:wpAny (model X.prog X.w) X.A (eval e X.env) (λw c6=>wpAny (model X.prog X.w) X.A (inplaceOp op u w) (λr nK=>wpAny (model X.prog X.w) X.A (storeName X.env x r) (λ_=>SP X pins D .next) X.xe nK) X.xe c6) X.xe s:=by
  refine bQ (he pins s σ H _ I h) λw s1 ⟨y,H1,I1,r1,q1⟩=>?_
  refine bQ (ho pins s1 σ H1 v y u w _ I1 r r1 q1) λz s2 ⟨zv,H2,I2,r2,q2⟩=>?_
  exact Ks I2 hN hi hx r2 (λs3 I3=>⟨_,H2,I3,q2⟩) hf
 rcases l with ⟨hk,hm⟩ | ⟨hk,c,hc,ig⟩
 .exact wpAny_loadName_local I.ok.kind hk hn hm go
 .rcases hk with hk | hk
  .exact wpAny_loadName_cell I.ok.kind hk hc ig go
  .rcases hx with k | k
   .have:X.env.scope.names.lookup x=some .free:=hk
    rw [k] at this;cases this
   .have:X.env.scope.names.lookup x=some .free:=hk
    rw [k] at this;cases this
def Tc(f:Int->Int->Int):LL:=λx y H Q=>∃i j,x=.int i/\y=.int j/\Q (.int (f i j)) H
theorem VF:Q4 X .Add (Tc λi j=>i+j):=by
 intro pins s σ H x y v u Q I r1 r2 h
 obtain ⟨i,j,e1,e2,q⟩:=h
 subst e1;subst e2
 obtain ⟨t,rfl⟩:=r1
 obtain ⟨t',rfl⟩:=r2
 exact iadd_int ⟨.int _,H,I.tok _,⟨_,rfl⟩,q⟩
end
section
variable {X:Cx}{pos:Pos}
end
structure It where
 go:Nat->Hp->Prop
 vU:Nat->Hp->V->Hp->Prop
 stop:Nat->Hp->Prop
def kQ(X:Cx)(pins:List (Addr×Obj))(H:Hp)(b:Addr):Prop:=
 H b=none/\b≠X.env.locals/\b∉X.fs/\(b∈X.ex\/X.cU.heap.objs.size<=b)/\(∀x c,X.env.cells.lookup x=some c->c≠b)/\∀p∈X.pn++pins,p.1≠b
theorem Inv.rO{X:Cx}{pins:List (Addr×Obj)}{σ:St}{H H':Hp}{s:Shared}{b:Addr}(I:Inv X pins σ H s)(hb:s.heap.objs.size<=b)(hn:H' b=none):kQ X pins H' b:=by
 refine ⟨hn,BC (nr I.lt hb),I.GN hb,.inr (jA I.sz hb),λx c e z=>?_,λp hp z=>?_⟩
 .obtain ⟨v,q⟩:=I.cell x c e
  exact absurd (nr q.lt (by rw [z];exact hb)) (sP _)
 .exact absurd (nr (cL (I.pin p hp).1) (by rw [z];exact hb)) (sP _)
structure Turn(P:Program)(w:World)(K:aK)(tg:Expr)(J:It)(fp:List Addr)(it:Addr)(tn:Nat->Heap->Prop):Prop where
 mem:it∈fp
 obj:∀i h,tn i h->∀b∈fp,∃o,h.get? b=some o/\∀v,o.data≠.cell v
 keep:∀i h h',tn i h->(∀b∈fp,∀o,h.get? b=some o->h'.get? b=some o)->tn i h'
 item:∀(X:Cx),X.prog=P->X.w=w->X.K=K->X.calm=true->∀(i:Nat) (pins:List (Addr×Obj)) (s:Shared) (σ:St) (H:Hp) (E:Value->Shared->Prop),Inv X pins σ H s->(∀b∈fp,kQ X pins H b)->tn i s.heap->J.go i H ->
  wpAny (model P w) X.A (pyNext (.ref it)) (λr s1=>∃u,r=some u /\
   wpAny (model P w) X.A (letOwnedTupleGo tg (.ref it) u) (λ_ s2=>∃x H',Inv X pins σ H' s2/\RelV x u/\J.vU i H x H'/\tn (i+1) s2.heap/\∀b∈fp,H' b=none) E s1) E s
 done:∀(X:Cx),X.prog=P->X.w=w->X.K=K->X.calm=true->∀(i:Nat) (pins:List (Addr×Obj)) (s:Shared) (σ:St) (H:Hp) (E:Value->Shared->Prop),Inv X pins σ H s->(∀b∈fp,kQ X pins H b)->tn i s.heap->J.stop i H ->
  wpAny (model P w) X.A (pyNext (.ref it)) (λr s1=>r=none/\Inv X pins σ H s1) E s
 self:∀(A:Around) (i:Nat) (s:Shared) (Q:Value->Shared->Prop) (E:Value->Shared->Prop),tn i s.heap->Q (.ref it) s->wpAny (model P w) A (pyIter (.ref it)) Q E s
abbrev TI:=St->Hp->(It->Hp->Prop)->Prop
def LM(X:Cx)(pins:List (Addr×Obj))(σ:St)(tg:Expr)(R:It->Hp->Prop)(G0:Value)(s2:Shared):Prop:=
 ∃(it:Addr) (fp:List Addr) (tn:Nat->Heap->Prop) (J:It) (H':Hp),G0=.ref it/\Inv X pins σ H' s2/\Turn X.prog X.w X.K tg J fp it tn/\tn 0 s2.heap/\(∀b∈fp,kQ X pins H' b)/\R J H'
def PI(X:Cx)(tg iter:Expr)(wi:TI):Prop:=
 ∀(pins:List (Addr×Obj)) (s:Shared) (σ:St) (H:Hp) (R:It->Hp->Prop),Inv X pins σ H s->wi σ H R ->
  wpAny (model X.prog X.w) X.A (eval iter X.env) (λv s1=>wpAny (model X.prog X.w) X.A (pyIter v) (LM X pins σ tg R) X.xe s1) X.xe s
theorem Eu(ho:s.heap.get? it=some o)(hc:o.cls=.type n)(hd:o.data=.fields vs)
  (hn:["enumerate","zip","dict_itemiterator","dict_reverseitemiterator","odict_iterator","itertools.zip_longest","itertools.pairwise"].contains n=false)(hQ:Q () s):wpAny M A (letOwnedTupleGo tg (.ref it) u) Q E s:=by
 unfold letOwnedTupleGo
 cases tg<;>first
  | exact bJ hQ
  | (cases u<;>first
    | exact bJ hQ
    | (refine aN (wpAny_load ho ?_)
       rw [hc,hd]
       show wpAny M A (if (["enumerate","zip","dict_itemiterator","dict_reverseitemiterator","odict_iterator","itertools.zip_longest","itertools.pairwise"].contains n&&vs[0]?==some (rawInt _))=true then _ else _) Q E s
       rw [if_neg (by intro h;rw [hn,Bool.false_and] at h;cases h)]
       exact bJ hQ))
def C3(K:aK)(a:Addr):It:=
 ⟨λi H=>∃xs x,eG K H a xs/\xs[i]?=some x,λi H x H'=>H'=H/\∀xs,eG K H a xs->xs[i]?=some x,λi H=>∃xs,eG K H a xs/\xs.length<=i⟩
def C2(K:aK)(a:Addr):It:=
 ⟨λi H=>∃xs x,gC K H a xs/\xs[i]?=some x,λi H x H'=>H'=H/\∀xs,gC K H a xs->xs[i]?=some x,λi H=>∃xs,gC K H a xs/\xs.length<=i⟩
def qd(lo:Int)(n:Nat):It:=⟨λi _=>i<n,λi H x H'=>H'=H/\x=.int (lo+i),λi _=>n<=i⟩
theorem Zm{P:Program}{w:World}{K:aK}{tg:Expr}(a it:Addr):Turn P w K tg (C3 K a) [it] it (λi h=>h.IsListIter it a i) where
 mem:=by simp
 obj:=λi h st b hb=>by
  have e:b=it:=by simpa using hb
  subst e
  obtain ⟨o,e,c,d⟩:=st
  exact ⟨o,e,λv z=>by rw [d] at z;cases z⟩
 keep:=λi h h' st k=>st.at λo e=>k it (by simp) o e
 item:=by
  intro X hP hw hK hc i pins s σ H E I hf st hg
  subst hP hw hK
  obtain ⟨xs,x,hq,hx⟩:=hg
  obtain ⟨aA,rv,p,hz⟩:=I.list hq
  obtain ⟨u,hu,ru⟩:=rv.get hx
  obtain ⟨f0,f1,f2,f3,f4,f5⟩:=hf it (by simp)
  refine wpAny_pyNext_list_item st p.isList (x:=u) (by simpa using hu) λh' av sb=>?_
  have I1:Inv X pins σ H { s with heap:=h' }:=I.turned (t':=s.toks) (λb o hb e=>(sb.2 b hb).trans e) f0 f1 f3 f4 f5
  obtain ⟨o,e,c,d⟩:=id av
  exact ⟨u,rfl,Eu (s:={ s with heap:=h' }) e c d (by decide) ⟨x,H,I1,ru,⟨rfl,λys hy=>by rw [I.nN hy hq];exact hx⟩,av,λb hb=>(hf b hb).1⟩⟩
 done:=by
  intro X hP hw hK hc i pins s σ H E I hf st hg
  subst hP hw hK
  obtain ⟨xs,hq,hx⟩:=hg
  obtain ⟨aA,rv,p,hz⟩:=I.list hq
  obtain ⟨f0,f1,f2,f3,f4,f5⟩:=hf it (by simp)
  have hl:=rv.length
  exact wpAny_pyNext_list_end (I.ok.hd hc) st p.isList (by simp;ext hx hl) λh' eb=>⟨rfl,I.turned (t':=s.toks) (λb o hb e=>eb b o hb e) f0 f1 f3 f4 f5⟩
 self:=λ_ _ _ _ _ st h=>wpAny_pyIter_listiter st h
theorem Zy{P:Program}{w:World}{K:aK}{tg:Expr}(a it:Addr):Turn P w K tg (C2 K a) [it] it (λi h=>h.IsTupleIter it a i) where
 mem:=by simp
 obj:=λi h st b hb=>by
  have e:b=it:=by simpa using hb
  subst e
  obtain ⟨o,e,c,d⟩:=st
  exact ⟨o,e,λv z=>by rw [d] at z;cases z⟩
 keep:=λi h h' st k=>st.at λo e=>k it (by simp) o e
 item:=by
  intro X hP hw hK hc i pins s σ H E I hf st hg
  subst hP hw hK
  obtain ⟨xs,x,hq,hx⟩:=hg
  obtain ⟨aA,rv,p,hz⟩:=I.tuple hq
  obtain ⟨u,hu,ru⟩:=rv.get hx
  obtain ⟨f0,f1,f2,f3,f4,f5⟩:=hf it (by simp)
  refine wpAny_pyNext_tuple_item st (show s.heap.IsTuple a aA.toArray from p) (x:=u) (by simpa using hu) λh' av sb=>?_
  have I1:Inv X pins σ H { s with heap:=h' }:=I.turned (t':=s.toks) (λb o hb e=>(sb.2 b hb).trans e) f0 f1 f3 f4 f5
  obtain ⟨o,e,c,d⟩:=id av
  exact ⟨u,rfl,Eu (s:={ s with heap:=h' }) e c d (by decide) ⟨x,H,I1,ru,⟨rfl,λys hy=>by rw [I.mD hy hq];exact hx⟩,av,λb hb=>(hf b hb).1⟩⟩
 done:=by
  intro X hP hw hK hc i pins s σ H E I hf st hg
  subst hP hw hK
  obtain ⟨xs,hq,hx⟩:=hg
  obtain ⟨aA,rv,p,hz⟩:=I.tuple hq
  obtain ⟨f0,f1,f2,f3,f4,f5⟩:=hf it (by simp)
  have hl:=rv.length
  exact wpAny_pyNext_tuple_end (I.ok.hd hc) st (show s.heap.IsTuple a aA.toArray from p) (by simp;ext hx hl) λh' eb=>⟨rfl,I.turned (t':=s.toks) (λb o hb e=>eb b o hb e) f0 f1 f3 f4 f5⟩
 self:=λ_ _ _ _ _ st h=>wpAny_pyIter_tupleiter st h
theorem Qu{P:Program}{w:World}{K:aK}{tg:Expr}(it:Addr)(lo:Int)(n:Nat):Turn P w K tg (qd lo n) [it] it (λi h=>IsRangeIter h it (lo+(i:Nat)*1) ((n:Int)-(i:Nat)) 1) where
 mem:=by simp
 obj:=λi h st b hb=>by
  have e:b=it:=by simpa using hb
  subst e
  exact ⟨_,st,λv z=>by
   have z':Data.fields _=Data.cell v:=z
   cases z'⟩
 keep:=λi h h' st k=>k it (by simp) _ st
 item:=by
  intro X hP hw hK hc i pins s σ H E I hf st hg
  subst hP hw hK
  obtain ⟨f0,f1,f2,f3,f4,f5⟩:=hf it (by simp)
  have W:=Walks.range (prog:=X.prog) (w:=X.w) (I.ok.hd hc) it lo 1 n
  refine W.item i s _ _ hg st λv h' tk hv av kk=>?_
  obtain ⟨t,rfl⟩:=hv
  have I1:Inv X pins σ H { s with heap:=h',toks:=tk }:=I.turned (λb o hb e=>kk b o (by simpa using hb) e) f0 f1 f3 f4 f5
  refine ⟨_,rfl,Eu (s:={ s with heap:=h',toks:=tk }) (n:="range_iterator") av rfl rfl (by decide) ⟨.int (lo+i),H,I1,⟨t,?_⟩,⟨rfl,rfl⟩,av,λb hb=>(hf b hb).1⟩⟩
  rw [yu]
 done:=by
  intro X hP hw hK hc i pins s σ H E I hf st hg
  subst hP hw hK
  obtain ⟨f0,f1,f2,f3,f4,f5⟩:=hf it (by simp)
  exact wpAny_pyNext_range_end (I.ok.hd hc) st (by have:n<=i:=hg;ext this) λh' eb=>⟨rfl,I.turned (t':=s.toks) (λb o hb e=>eb b o hb e) f0 f1 f3 f4 f5⟩
 self:=λ_ _ _ _ _ st h=>wpAny_pyIter_rangeiter st h
end L2
namespace L2
open PySem PySem.Spec PyProof.Rows
section
variable {X:Cx}{tg:Expr}
theorem Yg{pins:List (Addr×Obj)}{σ:St}{H:Hp}{s:Shared}{R:It->Hp->Prop}{E:Value->Shared->Prop}{lo hi:Int}{t u v:Tok}{tk:Nat}(I:Inv X pins σ H s)(h1:-(2^62)<=lo)(h2:lo<2^62)(h3:-(2^62)<=hi)(h4:hi<2^62)
  (q:R (qd lo (hi-lo).toNat) H):wpAny (model X.prog X.w) X.A (pyIter (.ref s.heap.objs.size)) (LM X pins σ tg R) E { s with heap:=s.heap.push { cls:=.type "range",data:=.fields #[.int lo t,.int hi u,.int 1 v] },toks:=tk }:=by
 refine wpAny_pyIter_range (HW ..) (small_one h1 h2 h3 h4) ?_
 have I1:Inv X pins σ H { s with heap:=s.heap.push { cls:=.type "range",data:=.fields #[.int lo t,.int hi u,.int 1 v] },toks:=tk }:=I.kept λb o e=>dh _ e
 refine ⟨(s.heap.push { cls:=.type "range",data:=.fields #[.int lo t,.int hi u,.int 1 v] }).objs.size,[(s.heap.push { cls:=.type "range",data:=.fields #[.int lo t,.int hi u,.int 1 v] }).objs.size],_,_,H,rfl,
  I1.kept (t':=tk) λb o e=>dh _ e,Qu _ lo (hi-lo).toNat,?_,λb hb=>?_,q⟩
 .have e1:lo+((0:Nat):Int)*1=lo:=by simp
  have e2:(((hi-lo).toNat:Nat):Int)-((0:Nat):Int)=NG lo hi 1:=by rw [rangeSize_one];split<;>lia
  show IsRangeIter _ _ (lo+((0:Nat):Int)*1) ((((hi-lo).toNat:Nat):Int)-((0:Nat):Int)) 1
  rw [e1,e2]
  exact kG _ rfl
 .have e:b=(s.heap.push { cls:=.type "range",data:=.fields #[.int lo t,.int hi u,.int 1 v] }).objs.size:=by simpa using hb
  subst e
  exact I1.rO (bZ _) (I1.bB.fresh (bZ _))
def AL(ta:TA):TI:=λσ H R=>ta σ H λvs H1=>∃j:Int,vs=[.int j] /\ -(2^62)<=j/\j<2^62/\R (qd 0 j.toNat) H1
theorem Zq(hg:Gl X "range")(hm:X.mg "range" = none)(ha:PA X [a] ta)(hs:starEach [a] X.env=[(false,eval a X.env)]:=by rfl):PI X tg (.Call (.Name "range" p) [a] [] pos) (AL ta):=by
 intro pins s σ H R I h
 refine Call_ (yZ I hg hm boot_range (Ej (bQ (ha pos pins s σ H _ I h) λus s1 ⟨vs,H1,I1,r1,q1⟩=>?_) hs rfl))
 obtain ⟨j,e,q1,q2,q⟩:=q1
 subst e
 cases r1 with
 | cons r rr =>
  cases rr
  obtain ⟨t,rfl⟩:=r
  exact call_range_1 (Yg I1 (by decide) (by decide) q1 q2 (by simpa using q))
def Ga(wi:TI)(g:TG)(tb:TS):TS:=λD σ H=>wi σ H λJ H1=>∃W:Nat->Nat->St->Hp->Prop,(∃m,W 0 m σ H1)/\∀i m σ H,W i m σ H ->
 (J.stop i H/\D.nx σ H)\/(J.go i H/\∃N:St->Hp->Prop,(∀bo H',N bo H'->∃m',m'<m/\W (i+1) m' bo H')/\∀x H',J.vU i H x H'->g x σ H' λdi H2=>tb { D with nx:=N,ct:=N,bk:=D.nx } di H2)
def uk(fp:List Addr)(h:Heap):List (Addr×Obj):=fp.filterMap λb=>(h.get? b).map λo=>(b,o)
theorem CD(hb:b∈fp)(e:h.get? b=some o):(b,o)∈uk fp h:=Nc.mpr ⟨b,hb,by rw [e];rfl⟩
theorem Kr(hp:p∈uk fp h):p.1∈fp/\h.get? p.1=some p.2:=by
 obtain ⟨b,hb,e⟩:=Nc.mp hp
 cases q:h.get? b with
 | none=>rw [q] at e;cases e
 | some o =>
  rw [q] at e
  have e':(b,o)=p:=dC e
  subst e'
  exact ⟨hb,q⟩
theorem Inv.pinned{pins:List (Addr×Obj)}{σ:St}{H:Hp}{s:Shared}{fp:List Addr}(I:Inv X pins σ H s)(hf:∀b∈fp,kQ X pins H b)(ho:∀b∈fp,∃o,s.heap.get? b=some o/\∀v,o.data≠.cell v):Inv X (pins++uk fp s.heap) σ H s:=
 I.gU λp hp=>(jI.mp hp).elim (λz=>I.pin p (qy _ z)) λz=>by
  obtain ⟨hb,e⟩:=Kr z
  obtain ⟨f0,f1,f2,_⟩:=hf p.1 hb
  obtain ⟨o,e',d⟩:=ho p.1 hb
  rw [e] at e';cases e'
  exact ⟨e,f0,f1,f2,d⟩
theorem Inv.lj{pins pl:List (Addr×Obj)}{σ:St}{H:Hp}{s:Shared}(I:Inv X (pins++pl) σ H s):Inv X pins σ H s:=I.gU λp hp=>I.pin p (qy _ (yL _ hp))
theorem JQ(hp:PassesOwn (model X.prog X.w) X.A X.env X.xe)(hc:X.calm=true)(hi:PI X tg iter wi)(hg:PG X tg g)(hb:qb X body tb)
  (hs:∀x,foldedSetIterable iter X.env x=pure x:=by intro _;rfl):PS X (.For tg iter body [] pos) (Ga wi g tb):=by
 intro pins s σ H D I h
 refine wpAny_For (bQ (hi pins s σ H _ I h) λv s1 h1=>bQ h1 λG0 s2 h2=>?_) hs
 obtain ⟨it,fp,tn,J,H2,e,I2,T,jM,f2,W,⟨m0,w0⟩,turn⟩:=h2
 subst e
 have v7:∀{H':Hp},(∀b∈fp,H' b=none)->∀b∈fp,kQ X pins H' b:=λhn b hb=>⟨hn b hb,(f2 b hb).2⟩
 refine codeAny_forLoop_any (λn s'=>∃i bo H',Inv X pins bo H' s'/\tn i s'.heap/\(∀b∈fp,H' b=none)/\W i n bo H') ?_ m0 ⟨0,σ,H2,I2,jM,λb hb=>(f2 b hb).1,w0⟩
 rintro n s3 ⟨i,qf,H3,I3,lQ,Bf,w3⟩
 rcases turn i n qf H3 w3 with ⟨stop,qn⟩ | ⟨go,N,hN,step⟩
 .refine BL hp (bQ (T.done X rfl rfl rfl hc i pins s3 qf H3 X.xe I3 (v7 Bf) lQ stop) λr s4 ⟨hr,I4⟩=>?_)
  subst hr
  exact Ik ⟨qf,H3,I4,qn⟩
 .refine BL hp (bQ (T.item X rfl rfl rfl hc i pins s3 qf H3 X.xe I3 (v7 Bf) lQ go) λr s4 ⟨u,hr,h4⟩=>?_)
  subst hr
  refine BL hp (bQ h4 λ_ s5 ⟨x,H5,I5,r5,y5,v8,Hz⟩=>?_)
  have LP:=I5.pinned (v7 Hz) (T.obj _ _ v8)
  refine BL hp (bQ (hg _ s5 qf H5 x u _ LP r5 (step x H5 y5)) λ_ s6 ⟨oO,H6,I6,q6⟩=>?_)
  refine BL hp (bQ (hb _ s6 oO H6 _ I6 q6) λf s7 q7=>?_)
  have again:∀{ra:St} {H7:Hp},Inv X (pins++uk fp s5.heap) ra H7 s7->N ra H7->∃m,m<n/\∃i bo H',Inv X pins bo H' s7/\tn i s7.heap/\(∀b∈fp,H' b=none)/\W i m bo H':=λ{ra H7} I7 n7=>by
   obtain ⟨m',hm,w7⟩:=hN ra H7 n7
   refine ⟨m',hm,i+1,ra,H7,I7.lj,T.keep _ _ _ v8 λb hb o e=>(I7.pin (b,o) (qy _ (qy _ (CD hb e)))).1,λb hb=>?_,w7⟩
   obtain ⟨o,e,d⟩:=T.obj _ _ v8 b hb
   exact (I7.pin (b,o) (qy _ (qy _ (CD hb e)))).2.1
  cases f with
  | next=>obtain ⟨ra,H7,I7,n7⟩:=q7;exact again I7 n7
  | cont=>obtain ⟨ra,H7,I7,n7⟩:=q7;exact again I7 n7
  | brk=>obtain ⟨ra,H7,I7,q7⟩:=q7;exact ⟨ra,H7,I7.lj,q7⟩
  | ret v=>obtain ⟨x7,ra,H7,I7,r7,q7⟩:=q7;exact ⟨x7,ra,H7,I7.lj,r7,q7⟩
end
theorem XB{K:aK}{a:Addr}{xs:List V}{g:TG}{tb:TS}{D:Ends}{σ:St}{H:Hp}(Pv:Nat->St->Hp->Prop)(h0:Pv 0 σ H)(hl:∀i σ H,i<=xs.length->Pv i σ H->eG K H a xs)
  (hs:∀i x σ H,xs[i]?=some x->Pv i σ H->g x σ H λdi H2=>tb { D with nx:=Pv (i+1),ct:=Pv (i+1),bk:=D.nx } di H2)(hd:∀σ H,Pv xs.length σ H->D.nx σ H):
  ∃W:Nat->Nat->St->Hp->Prop,(∃m,W 0 m σ H)/\∀i m σ H,W i m σ H ->
   ((C3 K a).stop i H/\D.nx σ H)\/((C3 K a).go i H/\∃N:St->Hp->Prop,(∀bo H',N bo H'->∃m',m'<m/\W (i+1) m' bo H')/\∀x H',(C3 K a).vU i H x H'->g x σ H' λdi H2=>tb { D with nx:=N,ct:=N,bk:=D.nx } di H2):=by
 refine ⟨λi m σ H=>m=xs.length-i/\i<=xs.length/\Pv i σ H,⟨xs.length,by simp,r8 _,h0⟩,?_⟩
 rintro i m σ H ⟨rfl,hi,p⟩
 have q:=hl i σ H hi p
 by_cases cq:i<xs.length
 .refine .inr ⟨⟨xs,xs[i],q,by simp [cq]⟩,Pv (i+1),λbo H' p'=>⟨xs.length-(i+1),by ext cq,rfl,cq,p'⟩,λx H' y=>?_⟩
  obtain ⟨e,y⟩:=y
  subst e
  exact hs i x σ _ (y xs q) p
 .have e:i=xs.length:=by ext hi cq
  subst e
  exact .inl ⟨⟨xs,q,bZ _⟩,hd σ H p⟩
theorem WK{K:aK}{a:Addr}{xs:List V}{g:TG}{tb:TS}{D:Ends}{σ:St}{H:Hp}(Pv:Nat->St->Hp->Prop)(h0:Pv 0 σ H)(hl:∀i σ H,i<=xs.length->Pv i σ H->gC K H a xs)
  (hs:∀i x σ H,xs[i]?=some x->Pv i σ H->g x σ H λdi H2=>tb { D with nx:=Pv (i+1),ct:=Pv (i+1),bk:=D.nx } di H2)(hd:∀σ H,Pv xs.length σ H->D.nx σ H):
  ∃W:Nat->Nat->St->Hp->Prop,(∃m,W 0 m σ H)/\∀i m σ H,W i m σ H ->
   ((C2 K a).stop i H/\D.nx σ H)\/((C2 K a).go i H/\∃N:St->Hp->Prop,(∀bo H',N bo H'->∃m',m'<m/\W (i+1) m' bo H')/\∀x H',(C2 K a).vU i H x H'->g x σ H' λdi H2=>tb { D with nx:=N,ct:=N,bk:=D.nx } di H2):=by
 refine ⟨λi m σ H=>m=xs.length-i/\i<=xs.length/\Pv i σ H,⟨xs.length,by simp,r8 _,h0⟩,?_⟩
 rintro i m σ H ⟨rfl,hi,p⟩
 have q:=hl i σ H hi p
 by_cases cq:i<xs.length
 .refine .inr ⟨⟨xs,xs[i],q,by simp [cq]⟩,Pv (i+1),λbo H' p'=>⟨xs.length-(i+1),by ext cq,rfl,cq,p'⟩,λx H' y=>?_⟩
  obtain ⟨e,y⟩:=y
  subst e
  exact hs i x σ _ (y xs q) p
 .have e:i=xs.length:=by ext hi cq
  subst e
  exact .inl ⟨⟨xs,q,bZ _⟩,hd σ H p⟩
theorem YD{lo:Int}{n:Nat}{g:TG}{tb:TS}{D:Ends}{σ:St}{H:Hp}(Pv:Nat->St->Hp->Prop)(h0:Pv 0 σ H)
  (hs:∀i σ H,i<n->Pv i σ H->g (.int (lo+i)) σ H λdi H2=>tb { D with nx:=Pv (i+1),ct:=Pv (i+1),bk:=D.nx } di H2)(hd:∀σ H,Pv n σ H->D.nx σ H):
  ∃W:Nat->Nat->St->Hp->Prop,(∃m,W 0 m σ H)/\∀i m σ H,W i m σ H ->
   ((qd lo n).stop i H/\D.nx σ H)\/((qd lo n).go i H/\∃N:St->Hp->Prop,(∀bo H',N bo H'->∃m',m'<m/\W (i+1) m' bo H')/\∀x H',(qd lo n).vU i H x H'->g x σ H' λdi H2=>tb { D with nx:=N,ct:=N,bk:=D.nx } di H2):=by
 refine ⟨λi m σ H=>m=n-i/\i<=n/\Pv i σ H,⟨n,by simp,r8 _,h0⟩,?_⟩
 rintro i m σ H ⟨rfl,hi,p⟩
 by_cases cq:i<n
 .refine .inr ⟨cq,Pv (i+1),λbo H' p'=>⟨n-(i+1),by ext cq,rfl,cq,p'⟩,λx H' y=>?_⟩
  obtain ⟨e,y⟩:=y
  subst e y
  exact hs i σ _ cq p
 .have e:i=n:=by ext hi cq
  subst e
  exact .inl ⟨bZ _,hd σ H p⟩
end L2
namespace L2
open PySem PySem.Spec PyProof.Rows
abbrev R2:=V->V->Hp->VK->Prop
def lN(X:Cx)(f:Value->Value->Sem Value)(r:R2):Prop:=
 ∀(pins:List (Addr×Obj)) (s:Shared) (σ:St) (H:Hp) (x y:V) (v u:Value) (Q:VK),Inv X pins σ H s->RelV x v->RelV y u->r x y H Q ->
  wpAny (model X.prog X.w) X.A (f v u) (EP X pins σ Q) X.xe s
def LJ(X:Cx)(f:Value->Sem Value)(r:V->Hp->VK->Prop):Prop:=
 ∀(pins:List (Addr×Obj)) (s:Shared) (σ:St) (H:Hp) (x:V) (v:Value) (Q:VK),Inv X pins σ H s->RelV x v->r x H Q ->
  wpAny (model X.prog X.w) X.A (f v) (EP X pins σ Q) X.xe s
def cA(X:Cx)(f:Value)(r:List V->Hp->VK->Prop):Prop:=
 ∀(pins:List (Addr×Obj)) (s:Shared) (σ:St) (H:Hp) (xs:List V) (us:List Value) (Q:VK),Inv X pins σ H s->aG xs us->r xs H Q ->
  wpAny (model X.prog X.w) X.A (call f us) (EP X pins σ Q) X.xe s
def LK(X:Cx)(r:V->Hp->(Bool->Hp->Prop)->Prop):Prop:=
 ∀(pins:List (Addr×Obj)) (s:Shared) (σ:St) (H:Hp) (x:V) (v:Value) (Q:Bool->Hp->Prop),Inv X pins σ H s->RelV x v->r x H Q ->
  wpAny (model X.prog X.w) X.A (truthy v) (TP X pins σ Q) X.xe s
def zA(r:R2)(ta tb:TE):TE:=λσ H Q=>ta σ H λx H1=>tb σ H1 λy H2=>r x y H2 Q
def Rh(r:V->Hp->VK->Prop)(ta:TE):TE:=λσ H Q=>ta σ H λx H1=>r x H1 Q
def rI(C:Int->Int->Prop)(g:Int->Int->V):R2:=λx y H Q=>∃i j,x=.int i/\y=.int j/\C i j/\Q (g i j) H
def wc(g:Int->Int->V):R2:=λx y H Q=>∃i j,x=.int i/\y=.int j/\Q (g i j) H
def rU(g:Int->V):V->Hp->VK->Prop:=λx H Q=>∃i,x=.int i/\Q (g i) H
section
variable {X:Cx}{a b c:Expr}{ta tb tc:TE}{pos:Pos}
theorem xt(ha:PE X a ta)(hb:PE X b tb){pins:List (Addr×Obj)}{s:Shared}{σ:St}{H:Hp}{R:V->V->Hp->Prop}(I:Inv X pins σ H s)
  (h:ta σ H λx H1=>tb σ H1 λy H2=>R x y H2){Q:Value->Shared->Prop}{f:Value->Value->Sem Value}
  (hf:∀v u s2 x y H2,Inv X pins σ H2 s2->RelV x v->RelV y u->R x y H2->wpAny (model X.prog X.w) X.A (f v u) Q X.xe s2):
  wpAny (model X.prog X.w) X.A (eval a X.env) (λv aY=>wpAny (model X.prog X.w) X.A (eval b X.env) (λu c6=>wpAny (model X.prog X.w) X.A (f v u) Q X.xe c6) X.xe aY) X.xe s:=by
 refine bQ (ha pins s σ H _ I h) λv s1 ⟨x,H1,I1,r1,q1⟩=>?_
 refine bQ (hb pins s1 σ H1 _ I1 q1) λu s2 ⟨y,H2,I2,r2,q2⟩=>?_
 exact hf v u s2 x y H2 I2 r1 r2 q2
theorem Aj(ho:lN X (binaryOp op) r)(ha:PE X a ta)(hb:PE X b tb):PE X (.BinOp a op b pos) (zA r ta tb):=by
 intro pins s σ H Q I h
 exact wpAny_BinOp (xt ha hb I h λv u s2 x y H2 I2 rx ry q=>ho pins s2 σ H2 x y v u Q I2 rx ry q)
theorem Ai(ho:LJ X (unaryOp op) r)(ha:PE X a ta):PE X (.UnaryOp op a pos) (Rh r ta):=by
 intro pins s σ H Q I h
 exact UnaryOp_ (bQ (ha pins s σ H _ I h) λv s1 ⟨x,H1,I1,r1,q1⟩=>ho pins s1 σ H1 x v Q I1 r1 q1)
theorem Ar{f:Value->Value->Sem Value}{C:Int->Int->Prop}{g:Int->Int->Int}
  (rule:∀(i j:Int) (t u:Tok) (s:Shared) (Q:Value->Shared->Prop) (E:Value->Shared->Prop),C i j->Q (.int (g i j) s.toks) { s with toks:=s.toks+1 }->wpAny (model X.prog X.w) X.A (f (.int i t) (.int j u)) Q E s):
  lN X f (rI C λi j=>.int (g i j)):=by
 intro pins s σ H x y v u Q I rx ry h
 obtain ⟨i,j,rfl,rfl,hc,q⟩:=h
 obtain ⟨t,rfl⟩:=rx
 obtain ⟨t',rfl⟩:=ry
 exact rule i j t t' s _ _ hc ⟨.int (g i j),H,I.tok _,⟨_,rfl⟩,q⟩
theorem GI{f:Value->Value->Sem Value}{g:Int->Int->Int}
  (rule:∀(i j:Int) (t u:Tok) (s:Shared) (Q:Value->Shared->Prop) (E:Value->Shared->Prop),Q (.int (g i j) s.toks) { s with toks:=s.toks+1 }->wpAny (model X.prog X.w) X.A (f (.int i t) (.int j u)) Q E s):
  lN X f (wc λi j=>.int (g i j)):=by
 intro pins s σ H x y v u Q I rx ry h
 obtain ⟨i,j,rfl,rfl,q⟩:=h
 obtain ⟨t,rfl⟩:=rx
 obtain ⟨t',rfl⟩:=ry
 exact rule i j t t' s _ _ ⟨.int (g i j),H,I.tok _,⟨_,rfl⟩,q⟩
theorem wo{f:Value->Value->Sem Value}{g:Int->Int->Bool}
  (rule:∀(i j:Int) (t u:Tok) (s:Shared) (Q:Value->Shared->Prop) (E:Value->Shared->Prop),Q (.bool (g i j)) s->wpAny (model X.prog X.w) X.A (f (.int i t) (.int j u)) Q E s):
  lN X f (wc λi j=>.bl (g i j)):=by
 intro pins s σ H x y v u Q I rx ry h
 obtain ⟨i,j,rfl,rfl,q⟩:=h
 obtain ⟨t,rfl⟩:=rx
 obtain ⟨t',rfl⟩:=ry
 exact rule i j t t' s _ _ ⟨.bl (g i j),H,I,rfl,q⟩
def uJ(i j:Int):Prop:=(-(2^64)<i/\i<2^64)\/(-(2^64)<j/\j<2^64)
theorem uJ.ok(h:uJ i j):IntMulOk i j:=by
 rcases h with ⟨h1,h2⟩ | ⟨h1,h2⟩
 .exact .of_left (D3 h1 h2)
 .exact .of_right (D3 h1 h2)
theorem wm:lN X (binaryOp .Add) (wc λi j=>.int (i+j)):=GI λ_ _ _ _ _ _ _ q=>add_int q
theorem Rf{f:Value->Sem Value}{g:Int->Int}
  (rule:∀(i:Int) (t:Tok) (s:Shared) (Q:Value->Shared->Prop) (E:Value->Shared->Prop),Q (.int (g i) s.toks) { s with toks:=s.toks+1 }->wpAny (model X.prog X.w) X.A (f (.int i t)) Q E s):
  LJ X f (rU λi=>.int (g i)):=by
 intro pins s σ H x v Q I rx h
 obtain ⟨i,rfl,q⟩:=h
 obtain ⟨t,rfl⟩:=rx
 exact rule i t s _ _ ⟨.int (g i),H,I.tok _,⟨_,rfl⟩,q⟩
theorem V':LJ X (unaryOp .USub) (rU λi=>.int (-i)):=Rf λ_ _ _ _ _ q=>neg_int q
end
section
variable {X:Cx}{a b c:Expr}{ta tb tc:TE}{pos:Pos}
theorem VA{pins:List (Addr×Obj)}{σ:St}{H:Hp}{s:Shared}{Q:VK}{k k':Bool}(I:Inv X pins σ H s)(q:Q (.bl k) H)(e:k=k'):EP X pins σ Q (.bool k') s:=by
 subst e
 exact ⟨.bl k,H,I,rfl,q⟩
theorem Ao:lN X (compareOp .Lt) (wc λi j=>.bl (decide (i<j))):=wo λ_ _ _ _ _ _ _ q=>lt_int q
theorem Ap:lN X (compareOp .LtE) (wc λi j=>.bl (decide (i<=j))):=wo λ_ _ _ _ _ _ _ q=>le_int q
theorem Aq:lN X (compareOp .Gt) (wc λi j=>.bl (decide (j<i))):=wo λ_ _ _ _ _ _ _ q=>gt_int q
theorem Wn:lN X (compareOp .IsNot) (λx y H Q=>y=.bz/\Q (.bl (!decide (x=.bz))) H):=by
 intro pins s σ H x y v u Q I rx ry h
 obtain ⟨rfl,q⟩:=h
 cases ry
 refine isnot_none_gen (VA I q ?_)
 cases x<;>first
  | (cases rx;rfl)
  | (obtain ⟨t,rfl⟩:=rx;rfl)
theorem lN.or(h:lN X f r)(h':lN X f r'):lN X f (λx y H Q=>r x y H Q\/r' x y H Q):=by
 intro pins s σ H x y v u Q I rx ry q
 rcases q with q | q
 .exact h pins s σ H x y v u Q I rx ry q
 .exact h' pins s σ H x y v u Q I rx ry q
theorem Og(b:Expr)(h:op≠.In:=by decide)(h2:op≠.NotIn:=by decide):behindInMarks op b=false:=by
 have e1:(op==CmpOp.In)=false:=by cases op<;>first | rfl | exact absurd rfl h
 have e2:(op==CmpOp.NotIn)=false:=by cases op<;>first | rfl | exact absurd rfl h2
 cases b<;>simp [behindInMarks,e1,e2]
theorem Ws(ho:lN X (compareOp op) r)(ha:PE X a ta)(hb:PE X b tb)(hm:behindInMarks op b=false):PE X (.Compare a [op] [b] pos) (zA r ta tb):=by
 intro pins s σ H Q I h
 exact wpAny_Compare1 (xt ha hb I h λv u s2 x y H2 I2 rx ry q=>ho pins s2 σ H2 x y v u Q I2 rx ry q) hm
def zy(t:TE):TT:=λσ H Q=>t σ H λx H'=>∃k,x=.bl k/\Q k H'
theorem Xn(ho:lN X (compareOp op) r)(ha:PE X a ta)(hb:PE X b tb)(hm:behindInMarks op b=false):PT X (.Compare a [op] [b] pos) (zy (zA r ta tb)):=by
 intro pins s σ H Q I h
 refine wpAny_isTrue_Compare1 (bQ (ha pins s σ H _ I h) λv s1 ⟨x,H1,I1,r1,q1⟩=>bQ (hb pins s1 σ H1 _ I1 q1) λu s2 ⟨y,H2,I2,r2,q2⟩ =>
  bQ (ho pins s2 σ H2 x y v u _ I2 r1 r2 q2) λc s3 ⟨z,H3,I3,r3,k,e,q3⟩=>?_) hm
 subst e
 cases r3
 exact BO ⟨H3,I3,q3⟩
def xS(K:aK)(x:V)(H:Hp)(k:Bool):Prop:=
 match x with
 | .bz=>k=false
 | .bl b=>k=b
 | .int i=>k=(i != 0)
 | .str y=>y.length<=sizeLine/\k=((y.length:Int) != 0)
 | .yF y=>y.size<=sizeLine/\k=((y.size:Int) != 0)
 | .ref p=>(∃xs,eG K H p xs/\k=!xs.isEmpty)\/(∃xs,gC K H p xs/\k=!xs.isEmpty)\/∃aF,H p=some (.dK aF)/\k=!aF.isEmpty
 | _=>False
theorem Y8{κ:Type}{aF:List (κ×V)}{vs:List (κ×Value)}(r:KV aF vs):(!vs.isEmpty)=!aF.isEmpty:=by
 cases r<;>rfl
theorem Qn(r:aG xs aA):(!aA.toArray.isEmpty)=!xs.isEmpty:=by
 cases r<;>simp
theorem y2:(sizeLine:Nat)<2^63:=by rw [pZ];decide
theorem V8:LK X (λx H Q=>∃k,xS X.K x H k/\Q k H):=by
 intro pins s σ H x v Q I rx h
 obtain ⟨k,e,q⟩:=h
 have hl:=y2
 have hs:sizeLine=16777216:=pZ
 cases x with
 | bz =>
  cases rx
  have e':k=false:=e
  subst e'
  exact truthy_none ⟨H,I,q⟩
 | bl b =>
  cases rx
  have e':k=b:=e
  subst e'
  exact BO ⟨H,I,q⟩
 | int i =>
  obtain ⟨t,rfl⟩:=rx
  have e':k=(i != 0):=e
  subst e'
  exact PySem.P.truthy_int ⟨H,I,q⟩
 | str y =>
  obtain ⟨t,rfl⟩:=rx
  obtain ⟨hy,e'⟩:y.length<=sizeLine/\k=((y.length:Int) != 0):=e
  subst e'
  exact PySem.P.truthy_str (by ext hs hy) ⟨H,I.tok _,q⟩
 | yF y =>
  obtain ⟨t,rfl⟩:=rx
  obtain ⟨hy,e'⟩:y.size<=sizeLine/\k=((y.size:Int) != 0):=e
  subst e'
  exact PySem.W.truthy_bytes (jA ‹_› (by decide)) ⟨H,I.tok _,q⟩
 | ref p =>
  cases rx
  have e':(∃xs,eG X.K H p xs/\k=!xs.isEmpty)\/(∃xs,gC X.K H p xs/\k=!xs.isEmpty)\/∃aF,H p=some (.dK aF)/\k=!aF.isEmpty:=e
  rcases e' with ⟨xs,hx,e'⟩ | ⟨xs,hx,e'⟩ | ⟨aF,hx,e'⟩
  .subst e'
   obtain ⟨aA,r,pl,hz⟩:=I.list hx
   have hlen:=r.length
   exact wpAny_truthy_list pl.isList (by simp only [dR];ext hs hz hlen) ⟨H,I.tok _,by rw [Qn r];exact q⟩
  .subst e'
   obtain ⟨aA,r,pl,hz⟩:=I.tuple hx
   have hlen:=r.length
   exact truthy_tuple pl (by simp only [dR];ext hs hz hlen) ⟨H,I.tok _,by rw [Qn r];exact q⟩
  .subst e'
   obtain ⟨hz,hS,vs,r,m⟩:aF.length<=sizeLine/\(p==sysModules)=false/\∃vs,KV aF vs/\s.heap.DictOf (qa X.prog X.w) p vs:=I.bB p _ hx
   have hlen:aF.length=vs.length:=Paired.length r
   exact wpAny_truthy_dict hS m (by ext hs hz hlen) ⟨H,I.tok _,by rw [Y8 r];exact q⟩
 | _=>exact (show False from e).elim
theorem O9(ha:PE X a ta)(he:∀whole,isTrue a X.env whole=(do let v <-whole;standAt a.pos;holding [v] (truthy v))):
  PT X a (λσ H Q=>ta σ H λx H'=>∃k,xS X.K x H' k/\Q k H'):=by
 intro pins s σ H Q I h
 exact isTrue_plain (bQ (ha pins s σ H _ I h) λv s1 ⟨x,H1,I1,r1,q1⟩=>V8 pins s1 σ H1 x v Q I1 r1 q1) (he _)
theorem o4:lN X (binaryOp .Add) (λx y H Q=>∃i j,x=.str i/\y=.str j/\i.length+j.length<=sizeLine/\Q (.str (i++j)) H):=by
 intro pins s σ H x y v u Q I rx ry h
 obtain ⟨i,j,rfl,rfl,hz,q⟩:=h
 obtain ⟨t,rfl⟩:=rx
 obtain ⟨t',rfl⟩:=ry
 exact add_str (λt' tk=>⟨.str (i++j),H,I.tok _,⟨_,rfl⟩,q⟩) hz
theorem vals1(r:aG [x] us):∃u,us=[u]/\RelV x u:=by
 cases r with
 | cons r1 r2=>cases r2;exact ⟨_,rfl,r1⟩
theorem vals2(r:aG [x,y] us):∃u w',us=[u,w']/\RelV x u/\RelV y w':=by
 cases r with
 | cons r1 r2 =>
  cases r2 with
  | cons r3 r4=>cases r4;exact ⟨_,_,rfl,r1,r3⟩
theorem YM(hc:X.calm=true):cA X (.builtin "min") (λxs H Q=>∃i j,xs=[.int i,.int j]/\Q (.int (if j<i then j else i)) H):=by
 intro pins s σ H xs us Q I r h
 obtain ⟨i,j,rfl,q⟩:=h
 obtain ⟨u,w',rfl,⟨t,rfl⟩,⟨t',rfl⟩⟩:=vals2 r
 refine min_two_ints (I.ok.hd hc) λh' tk k=>⟨_,H,I.kept k,?_,q⟩
 by_cases hj:j<i
 .rw [if_pos hj,if_pos hj];exact ⟨_,rfl⟩
 .rw [if_neg hj,if_neg hj];exact ⟨_,rfl⟩
end
end L2
namespace L2
open PySem PySem.Spec PyProof.Rows
structure pM(h:Heap)(x dx C:Addr)(mA:Str->Option Value):Prop where
 obj:h.get? x=some (vq C dx)
 ns:h.Ns1 dx mA
 ne:dx≠x
theorem Yr{h:Heap}(n:h.Ns1 dx mA):∃od,h.get? dx=some od/\∀name,DY name od=some (mA name):=by
 obtain ⟨o,es,ep,ho,hd,hk,_,hm⟩:=n
 refine ⟨o,ho,λname=>?_⟩
 have e:=hm name
 unfold nsFind findBy at e
 rw [<-Array.find?_toList] at e
 unfold DY
 rw [hd]
 dsimp only
 split
 .rename_i y q
  rw [q] at e
  exact congrArg some e
 .rename_i q
  rw [q] at e
  have a:es.toList.any (·.refKey)=false:=by
   rw [List.any_eq_false]
   intro y hy
   obtain ⟨z,t,He⟩:=hk y (Array.mem_toList_iff.mp hy)
   simp [DictEntry.refKey,He]
  have a':¬es.toList.any (·.refKey)=true:=by rw [a];exact qU
  rw [if_neg a']
  exact congrArg some e
theorem pM.look(I:pM h x dx C mA):∃od,PySem.W.InstAt h x (vq C dx) C (some od)/\∀name,DY name od=some (mA name):=
 let ⟨od,ho,hl⟩:=Yr I.ns
 ⟨od,⟨I.obj,rfl,rfl,ho⟩,hl⟩
section
variable {prog:Program}{w:World}{A:Around}{E:Value->Shared->Prop}{s:Shared}{K:aK}{x dx C f:Addr}{mA:Str->Option Value}{name:Str}{v:Value}
theorem WL(X:K.In s.heap)(I:pM s.heap x dx C mA)(hg:sM K C name=true)(hh:ud K C=true)
  (ha:bp K (.ref C) name=some none)(hv:mA name=some v)(To:MU v=true)(h:Q v { s with toks:=s.toks+1 }):
  wpAny (model prog w) A (getAttr (.ref x) name expr) Q E s:=by
 obtain ⟨od,J,hl⟩:=I.look
 exact PySem.W.get_value X J (IC hg).1 (PySem.W.findObj_own hh ha rfl (by rw [hl,hv])) To h
theorem b2i(X:K.In s.heap)(I:pM s.heap x dx C mA)(hg:sM K C name=true)
  (hf:bp K (.ref C) name=some (some (.ref f)))(ht:mH K (.ref f)=true)(hv:mA name=none)(h:Q (.ref f,[.ref x]) s):
  wpAny (model prog w) A (getMethod (.ref x) name pl) Q E s:=by
 obtain ⟨od,J,hl⟩:=I.look
 exact PySem.W.method_fn X J (IC hg).1 (IC hg).2 hf (beq_iff_eq.mp ht) (by show (DY name od).map (·.isSome)=some false;rw [hl,hv];rfl) h
theorem W0(X:K.In s.heap)(I:pM s.heap x dx C mA)
  (hs:bp K (.ref C) "__setattr__" = some (some (.builtin "object.__setattr__")))(hp:vm K C=true)(ht:Ij K C name=some none)(hh:ud K C=true)
  (hw:IB mA ns)(hsz:ns.length<=sizeLine)
  (h:∀h',pM h' x dx C (λy=>if y=name then some v else mA y)->r6 dx s.heap h'->Q () { s with heap:=h',toks:=s.toks+2 }):
  wpAny (model prog w) A (setAttr (.ref x) name v) Q E s:=by
 obtain ⟨od,J,hl⟩:=I.look
 refine PySem.W.set_plain X J hs (PySem.W.osa_open (s:={ s with toks:=s.toks+1 }) (r:=none) X J hp ht λb=>?_)
 obtain ⟨cd,hc,uZ⟩:=PySem.W.any_some hh
 have hx:s.heap.get? x=some ⟨.ref C,some dx,.plain,#[]⟩:=I.obj
 refine aN (bJ (aN (aN (wpAny_loadPart hx (aN (PySem.W.Looks.here (s:={ s with toks:=s.toks+1 }) (PySem.W.looks_clsIn X hc) ?_))))))
 rw [uZ]
 refine bJ (a:=some dx) (aN (bJ (aN ?_)))
 refine wpAny_nsSet1 (s:={ s with toks:=s.toks+1 }) I.ns λh' Dv lA=>?_
 obtain ⟨oD,esD,epD,TJ,T1,T3⟩:=Dv.count (PySem.Within.cons name v hw)
 refine aN (wpAny_lookBehind TJ (by rw [T1];exact pastItsLine_dict (jA T3 (by rw [ff];ext hsz))) ?_)
 exact bJ (h _ ⟨(lA.2 _ (kY I.ne)).trans I.obj,Dv,I.ne⟩ lA)
theorem X0(X:K.In s.heap)(hm:vo K C=true)
  (hi:bp K (.ref C) "__init__" = some (some (.ref f)))(hf:PySem.W.typeIn K (.ref f)=some (.type "function"))
  (h:codeAny (model prog w) (A.under (.builtin "type.__call__" ⟨.ref C::vs,kw⟩)) (.call (.ref f) ⟨.ref (s.heap.objs.size+1)::vs,kw⟩) (PySem.W.InitBack (s.heap.objs.size+1) R)
   { s with heap:=(s.heap.push uc).push (vq C s.heap.objs.size) }):
  codeAny (model prog w) A (.call (.ref C) ⟨vs,kw⟩) R s:=by
 obtain ⟨hh,g,d,t,os⟩:=s
 exact PySem.W.make_core (PySem.W.makes_of X hm) (PySem.W.looks_findIn X hi) (λself=>PySem.W.bind_fn X self hf) (.inl rfl) h
end
def dW(f:Str)(v:V):List (Str×V)->List (Str×V)
 | []=>[(f,v)]
 | (g,x)::r=>if g=f then (g,v)::r else (g,x)::dW f v r
theorem Ql(f g:Str)(v:V):∀fs:List (Str×V),(dW f v fs).lookup g=if g=f then some v else fs.lookup g
 | []=>by
  show t8 g [(f,v)]=_
  by_cases h:g=f
  .have hb:(g==f)=true:=beq_iff_eq.mpr h
   simp only [t8,hb,if_pos h]
  .have hb:(g==f)=false:=beq_eq_false_iff_ne.mpr h
   simp only [t8,hb,if_neg h]
 | (k,x)::r=>by
  have ih:=Ql f g v r
  rw [show dW f v ((k,x)::r)=(if k=f then (k,v)::r else (k,x)::dW f v r) from rfl]
  by_cases hk:k=f
  .rw [if_pos hk]
   by_cases h:g=k
   .have hb:(g==k)=true:=beq_iff_eq.mpr h
    simp only [t8,hb,if_pos (h.trans hk)]
   .have hb:(g==k)=false:=beq_eq_false_iff_ne.mpr h
    simp only [t8,hb,if_neg (λe:g=f=>h (e.trans hk.symm))]
  .rw [if_neg hk]
   by_cases h:g=k
   .have hb:(g==k)=true:=beq_iff_eq.mpr h
    simp only [t8,hb,if_neg (λe:g=f=>hk (h.symm.trans e))]
   .have hb:(g==k)=false:=beq_eq_false_iff_ne.mpr h
    simp only [t8,hb]
    exact ih
theorem Kp(f:Str)(v:V):∀fs:List (Str×V),f∈(dW f v fs).map (·.1)/\∀g,g∈fs.map (·.1)->g∈(dW f v fs).map (·.1)
 | []=>⟨by simp [dW],λg h=>by simp at h⟩
 | (k,x)::r=>by
  obtain ⟨i1,i2⟩:=Kp f v r
  rw [show dW f v ((k,x)::r)=(if k=f then (k,v)::r else (k,x)::dW f v r) from rfl]
  by_cases hk:k=f
  .rw [if_pos hk]
   subst hk
   exact ⟨by simp,λg h=>by simpa using h⟩
  .rw [if_neg hk]
   refine ⟨?_,λg h=>?_⟩
   .rw [e9]
    exact gE _ i1
   .rw [e9] at h ⊢
    rcases bG.mp h with e | e
    .exact bG.mpr (.inl e)
    .exact gE _ (i2 g e)
theorem Qi(f:Str)(v:V):∀fs:List (Str×V),(dW f v fs).length<=fs.length+1
 | []=>by simp [dW]
 | (k,x)::r=>by
  have ih:=Qi f v r
  rw [show dW f v ((k,x)::r)=(if k=f then (k,v)::r else (k,x)::dW f v r) from rfl]
  by_cases hk:k=f
  .rw [if_pos hk,ff,ff];ext
  .rw [if_neg hk,ff,ff];ext ih
theorem d9.some_of(r:d9 (some v) o):∃u,o=some u/\RelV v u:=by
 cases o with
 | none=>exact (show False from r).elim
 | some u=>exact ⟨u,rfl,r⟩
theorem d9.none_of(r:d9 none o):o=none:=by
 cases o with
 | none=>rfl
 | some u=>exact (show False from r).elim
theorem YE(r:RelV v u):MU u=true:=by
 cases v with
 | bz=>cases (show u=mi from r);rfl
 | bl b=>cases (show u=n9 b from r);rfl
 | int i=>obtain ⟨t,e⟩:=(show ∃t,u=BB i t from r);cases e;rfl
 | str x=>obtain ⟨t,e⟩:=(show ∃t,u=BA x t from r);cases e;rfl
 | yF b=>obtain ⟨t,e⟩:=(show ∃t,u=Value.bytes b t from r);cases e;rfl
 | w6 b=>obtain ⟨t,e⟩:=(show ∃t,u=HX b t from r);cases e;rfl
 | ref a=>cases (show u=cK a from r);rfl
 | ty n=>cases (show u=t9 n from r);rfl
section
variable {P:Program}{w:World}{H H':Hp}{h h':Heap}{a C dx:Addr}{fs yp:List (Str×V)}
theorem E2(bB:gF P w H h)(e:H a=some (.ins C dx fs)):∃mA,pM h a dx C mA/\(∀f,d9 (fs.lookup f) (mA f))/\IB mA (fs.map (·.1))/\fs.length<=1000/\H dx=some (.own a):=by
 obtain ⟨d,z,ne,ob,mA,n,r,q⟩:=(show bH P w H h a (.ins C dx fs) from bB a _ e)
 exact ⟨mA,⟨ob,n,ne⟩,r,q,z,d⟩
end
structure qe(K:aK)(C:Addr):Prop where
 pg:sM K C xj=true
 hd:ud K C=true
 po:vm K C=true
 sa:bp K (.ref C) "__setattr__" = some (some (.builtin "object.__setattr__"))
theorem qe.get{K:aK}{C:Addr}(c:qe K C)(f:Str):sM K C f=true:=c.pg
def au(K:aK)(C:Addr)(f:Str):Prop:=bp K (.ref C) f=some none
theorem au.zu{K:aK}{C:Addr}{f:Str}(n:au K C f):Ij K C f=some none:=by
 unfold Ij
 rw [show bp K (.ref C) f=some none from n]
 rfl
structure Con(K:aK)(C:Addr)(f:Str)(v:V)(u:Value):Prop where
 at_:bp K (.ref C) f=some (some u)
 rel:RelV v u
 get:Eg K u "__get__" = some none
 cp:PySem.W.copiedNames.contains f=false
structure bL(K:aK)(C:Addr)(m:Str)(f:Addr):Prop where
 at_:bp K (.ref C) m=some (some (.ref f))
 fn:mH K (.ref f)=true
 kp:p6 K (.ref f)=true
section
variable {X:Cx}{pins:List (Addr×Obj)}{σ:St}{H:Hp}{s:Shared}{a C dx:Addr}{fs:List (Str×V)}{f:Str}{v:V}{A:Around}{E:Value->Shared->Prop}
theorem Y7(I:Inv X pins σ H s)(e:H a=some (.ins C dx fs))(c:qe X.K C)(n:au X.K C f)(l:fs.lookup f=some v)
  (h:∀u s',Inv X pins σ H s'->RelV v u->Q u s'):wpAny (model X.prog X.w) A (getAttr (.ref a) f b) Q E s:=by
 obtain ⟨mA,O,r,_,_,_⟩:=E2 I.bB e
 obtain ⟨u,hu,ru⟩:=d9.some_of (v:=v) (o:=mA f) (by rw [<-l];exact r f)
 exact WL I.j9 O (c.get f) c.hd n hu (YE ru) (h u _ (I.tok _) ru)
theorem Qm(I:Inv X pins σ H s)(e:H a=some (.ins C dx fs))(c:qe X.K C)(k:bL X.K C m g)(l:fs.lookup m=none)
  (h:Q (.ref g,[.ref a]) s):wpAny (model X.prog X.w) A (getMethod (.ref a) m pl) Q E s:=by
 obtain ⟨mA,O,r,_,_,_⟩:=E2 I.bB e
 have hn:mA m=none:=d9.none_of (by rw [<-l];exact r m)
 exact b2i I.j9 O (c.get m) k.at_ k.fn hn h
theorem Zw(I:Inv X pins σ H s)(e:H a=some (.ins C dx fs))(c:qe X.K C)(n:au X.K C f)(hl:fs.length<1000)(ry:RelV y u)
  (h:∀s',Inv X pins σ (upd H a (.ins C dx (dW f y fs))) s'->Q () s'):wpAny (model X.prog X.w) A (setAttr (.ref a) f u) Q E s:=by
 obtain ⟨mA,O,r,wi,_,ho⟩:=E2 I.bB e
 have hz:(fs.map (·.1)).length<=sizeLine:=by rw [dF,pZ];ext hl
 refine W0 I.j9 O c.sa c.po n.zu c.hd wi hz λh' O' sb=>h _ ?_
 have hd:∃o,h'.get? dx=some o:=let ⟨o,_,_,e',_⟩:=O'.ns;⟨o,e'⟩
 refine I.write (x:=a) (e:=dx) (by rw [e];exact rV) (.inr ho) (λb q hb z=>(sb.2 b hb).trans z) hd ?_
 refine ⟨by rw [dM O.ne];exact ho,?_,O.ne,O'.obj,_,O'.ns,λg=>?_,λg hg=>?_⟩
 .have:=Qi f y fs;ext hl this
 .show d9 ((dW f y fs).lookup g) (if g=f then some u else mA g)
  rw [Ql]
  by_cases q:g=f
  .rw [if_pos q,if_pos q];exact ry
  .rw [if_neg q,if_neg q];exact r g
 .by_cases q:g=f
  .rw [q];exact (Kp f y fs).1
  .refine (Kp f y fs).2 g (wi g λz=>hg ?_)
   show (if g=f then some u else mA g)=none
   rw [if_neg q];exact z
theorem Inv.made(I:Inv X pins σ H s):Inv X pins σ (upd (upd H s.heap.objs.size (.own (s.heap.objs.size+1))) (s.heap.objs.size+1) (.ins C s.heap.objs.size []))
  { s with heap:=(s.heap.push uc).push (vq C s.heap.objs.size) }:=by
 have e1:(s.heap.push uc).get? s.heap.objs.size=some uc:=kG s.heap rfl
 have e2:((s.heap.push uc).push (vq C s.heap.objs.size)).get? (s.heap.objs.size+1)=some (vq C s.heap.objs.size):=by
  have:=kG (s.heap.push uc) (o:=vq C s.heap.objs.size) rfl
  rwa [nG] at this
 have e3:(s.heap.push uc).Ns s.heap.objs.size (λ_=>none):=⟨uc,#[],_,e1,rfl,(λe he=>absurd he (by simp)),λ_=>rfl⟩
 have I1:=I.laid (a:=s.heap.objs.size) (o:=.own (s.heap.objs.size+1)) (h':=s.heap.push uc) (t':=s.toks) (λb u q=>dh _ q) (bZ _) ⟨_,e1⟩
 refine I1.laid (a:=s.heap.objs.size+1) (o:=.ins C s.heap.objs.size []) (t':=s.toks) (λb u q=>dh _ q) (Nat.le_of_eq (nG _ _)) ?_
 have ne:s.heap.objs.size≠s.heap.objs.size+1:=dQ (oQ _)
 refine ⟨by rw [dM ne,nI],r8 _,ne,e2,λ_=>none,(Heap.Ns1.of_empty e3).at λo q=>dh _ q,λ_=>rV,λy hy=>absurd rfl hy⟩
theorem WS(hb:attributeBase e f env (eval e env)=eval e env)
  (h:wpAny (model prog w) A (eval e env) (λo aY=>wpAny (model prog w) A (getAttr o f true) Q E aY) E s):wpAny (model prog w) A (eval (.Attribute e f pos) env) Q E s:=
 Attribute_any_ h (by rw [arm_eval_Attribute,hb])
end
def Gb(K:aK)(ta:TE)(f:Str):TE:=λσ H Q=>ta σ H λx H1=>∃a C dx fs v,x=.ref a/\H1 a=some (.ins C dx fs)/\qe K C/\au K C f/\fs.lookup f=some v/\Q v H1
def Gr(K:aK)(ta tv:TE)(f:Str):TS:=λD σ H=>tv σ H λy H1=>ta σ H1 λx H2=>∃a C dx fs,x=.ref a/\H2 a=some (.ins C dx fs)/\qe K C/\au K C f/\fs.length<1000 /\
 D.nx σ (upd H2 a (.ins C dx (dW f y fs)))
section
variable {X:Cx}{o e value:Expr}{f:Str}{pos pos' F0:Pos}{ta tv:TE}
theorem Vi(he:PE X e ta)(hb:attributeBase e f X.env (eval e X.env)=eval e X.env):PE X (.Attribute e f pos) (Gb X.K ta f):=by
 intro pins s σ H Q I h
 refine WS hb (bQ (he pins s σ H _ I h) λu s1 ⟨x,H1,I1,rx,a,C,dx,fs,v,ex,ea,c,n,l,q⟩=>?_)
 subst ex
 obtain rfl:u=cK a:=rx
 exact Y7 I1 ea c n l λu' s2 I2 ru=>⟨v,H1,I2,ru,q⟩
theorem Vt(ha:PE X o ta)(hv:PE X value tv)(hs:swapsWith value (some (.Attribute o f pos')) pos.line X.env=pure false):PS X (.Assign [.Attribute o f pos'] value pos) (Gr X.K ta tv f):=by
 intro pins s σ H D I h
 refine plainObj_wpAny_Assign_Attribute (bQ (hv pins s σ H _ I h) λu s1 ⟨y,H1,I1,ry,q⟩=>bQ (ha pins s1 σ H1 _ I1 q) λov s2 ⟨x,H2,I2,rx,a,C,dx,fs,ex,ea,c,n,l,q2⟩=>?_) hs
 subst ex
 obtain rfl:ov=cK a:=rx
 exact Zw I2 ea c n l ry λs3 I3=>⟨σ,_,I3,q2⟩
end
section
variable {X:Cx}{pins:List (Addr×Obj)}{σ:St}{H:Hp}{s:Shared}{A:Around}{E:Value->Shared->Prop}{Q:Value->Shared->Prop}{c:Value}{b:Bool}
inductive jH (K:aK) (H:Hp):V->Value->Prop where
 | bz:jH K H .bz (.type "NoneType")
 | bl (x:Bool):jH K H (.bl x) (.type "bool")
 | int (i:Int):jH K H (.int i) (.type "int")
 | str (x:Str):jH K H (.str x) (.type "str")
 | w6 (x:UInt64):jH K H (.w6 x) (.type "float")
 | lst {a:Addr} {xs:List V} (e:H a=some (.lst xs)):jH K H (.ref a) (.type "list")
 | mF {a:Addr} {o:Obj} {xs:List V} (e:H a=some (.mF o (.lst xs))):jH K H (.ref a) (.type "list")
 | tup {a:Addr} {xs:List V} (e:H a=some (.tup xs)):jH K H (.ref a) (.type "tuple")
 | dK {a:Addr} {aF:List (Key×V)} (e:H a=some (.dK aF)):jH K H (.ref a) (.type "dict")
 | dT {a:Addr} {aF:List (List Key×V)} (e:H a=some (.dT aF)):jH K H (.ref a) (.type "dict")
 | ins {a C dx:Addr} {fs:List (Str×V)} (e:H a=some (.ins C dx fs)) (cl:qe K C) (ha:bp K (.ref C) "__class__" = some (some (.builtin "object.__class__")))
   (hn:Eg K (.builtin "object.__class__") "__get__" = some (some (.builtin "getset_descriptor.__get__"))) (Mj:Ii K (.builtin "object.__class__")=some true)
   (hm:vf K C (.type "object")=some true):jH K H (.ref a) (.ref C)
theorem Yo(I:Inv X pins σ H s)(rx:RelV x u)(ty:jH X.K H x t)(e:vy X.K t c=some b)(h:∀tk,Q (.bool b) { s with toks:=tk }):
  wpAny (model X.prog X.w) A (call (.builtin "isinstance") [u,c]) Q E s:=by
 cases ty with
 | bz=>cases (show u=mi from rx);exact rZ PySem.W.kitx_none I.j9 rV e (λz=>nomatch z) h
 | bl y=>cases (show u=n9 y from rx);exact rZ PySem.W.kitx_bool I.j9 rV e (λz=>nomatch z) h
 | int i=>obtain ⟨t,q⟩:=(show ∃t,u=BB i t from rx);cases q;exact rZ PySem.W.kitx_int I.j9 rV e (λz=>nomatch z) h
 | str y=>obtain ⟨t,q⟩:=(show ∃t,u=BA y t from rx);cases q;exact rZ PySem.W.kitx_str I.j9 rV e (λz=>nomatch z) h
 | w6 y=>obtain ⟨t,q⟩:=(show ∃t,u=HX y t from rx);cases q;exact rZ PySem.W.kitx_float I.j9 rV e (λz=>nomatch z) h
 | @lst a xs ea =>
  cases (show u=cK a from rx)
  obtain ⟨_,_,n,_,h1⟩:=(show bH X.prog X.w H s.heap a (.lst xs) from I.bB a _ ea)
  exact rZ M' I.j9 ⟨_,h1,rfl⟩ e (λz=>nomatch z) h
 | @mF a ob xs ea =>
  cases (show u=cK a from rx)
  obtain ⟨_,_,_,n,_,h1⟩:=(show bH X.prog X.w H s.heap a (.mF ob (.lst xs)) from I.bB a _ ea)
  exact rZ M' I.j9 ⟨_,h1,rfl⟩ e (λz=>nomatch z) h
 | @tup a xs ea =>
  cases (show u=cK a from rx)
  obtain ⟨_,_,_,p⟩:=(show bH X.prog X.w H s.heap a (.tup xs) from I.bB a _ ea)
  obtain ⟨o,h1,h2,_⟩:=p
  exact rZ PySem.W.kitx_tuple I.j9 ⟨o,h1,h2⟩ e (λz=>nomatch z) h
 | @dK a aF ea =>
  cases (show u=cK a from rx)
  obtain ⟨_,_,vs,_,p⟩:=(show bH X.prog X.w H s.heap a (.dK aF) from I.bB a _ ea)
  obtain ⟨o,es,ep,h1,h2,_⟩:=p
  exact rZ M9 I.j9 ⟨o,h1,h2.1⟩ e (λz=>nomatch z) h
 | @dT a aF ea =>
  cases (show u=cK a from rx)
  obtain ⟨_,_,xs,_,o,es,ep,h1,h2,_⟩:=(show bH X.prog X.w H s.heap a (.dT aF) from I.bB a _ ea)
  exact rZ M9 I.j9 ⟨o,h1,h2.1⟩ e (λz=>nomatch z) h
 | @ins a C dx fs ea cl ha hn Mj hm =>
  cases (show u=cK a from rx)
  obtain ⟨mA,O,_⟩:=E2 I.bB ea
  obtain ⟨od,J,_⟩:=O.look
  exact rZ (PySem.W.kitx_own (cl.get _) cl.hd ha hn Mj hm) I.j9 J e (λz=>nomatch z) h
end
end L2
namespace L2
open PySem PySem.Spec PyProof.Rows
structure bY(k:Nat)(A:Around):Prop where
 hd:A.handled=none
 dp:A.depth+3*k+5<recursionLimit
 un:A.units+16*k+200<cLine
theorem bY.mono(r:bY k A)(h:j<=k):bY j A:=⟨r.hd,by have:=r.dp;ext h this,by have:=r.un;ext h this⟩
theorem bY.deeper(r:bY (k+1) A)(env:Env):bY k (A.deeper env):=
 ⟨r.hd,by have:=r.dp;show A.depth+1+3*k+5<_;ext this,by have:=r.un;show A.units+3+16*k+200<_;ext this⟩
theorem bY.in1(r:bY (k+1) A):bY k A.in1:=
 ⟨r.hd,by have:=r.dp;show A.depth+3*k+5<_;ext this,by have:=r.un;show A.units+1+16*k+200<_;ext this⟩
theorem Y'{A:Around}{kw:List (Str×Value)}:(A.under (.builtin "type.__call__" ⟨.ref C::us,kw⟩)).depth=A.depth+1:=by
 first | rfl | simp [IA,Code.weight,Code.isCreation,Code.isGuard,Code.isCaller,Code.frames,Ic,guardIds]
theorem Za{A:Around}{kw:List (Str×Value)}:(A.under (.builtin "type.__call__" ⟨.ref C::us,kw⟩)).units=A.units+1:=by
 first | rfl | simp [IA,Code.cUnits,Code.frames,Ic]
theorem bY.make(r:bY (k+1) A)(C:Addr)(us:List Value)(kw:List (Str×Value)):bY k (A.under (.builtin "type.__call__" ⟨.ref C::us,kw⟩)):=
 ⟨r.hd,by have:=r.dp;rw [Y'];ext this,by have:=r.un;rw [Za];ext this⟩
theorem bY.depth(r:bY k A):A.depth<recursionLimit:=by have:=r.dp;ext this
theorem bY.units(r:bY k A):A.units+64<cLine:=by have:=r.un;ext this
def zB:TA:=λ_ H Q=>Q [] H
def zG(ta:TE)(tr:TA):TA:=λσ H Q=>ta σ H λx H1=>tr σ H1 λxs H2=>Q (x::xs) H2
section
variable {X:Cx}{e:Expr}{es:List Expr}{te:TE}{t:TA}{pos:Pos}
theorem oX:PA X [] zB:=λ_ _ _ _ H Q I h=>Calls.spliced_nil ⟨[],H,I,.nil,h⟩
theorem nH(ha:PE X e te)(hr:PA X es t)(hs:starEach (e::es) X.env=(false,eval e X.env)::starEach es X.env:=by rfl):PA X (e::es) (zG te t):=by
 intro pos pins s σ H Q I h
 rw [hs]
 show wpAny _ _ (spliced ((false,eval e X.env)::backTo pos (starEach es X.env))) _ _ s
 refine Calls.spliced_cons (bQ (ha pins s σ H _ I h) λu s1 ⟨x,H1,I1,r1,q1⟩=>?_)
 exact bQ (hr pos pins s1 σ H1 _ I1 q1) λus s2 ⟨xs,H2,I2,r2,q2⟩=>⟨x::xs,H2,I2,.cons r1 r2,q2⟩
def F4(t:TA):TE:=λσ H Q=>t σ H λxs H1=>xs.length<=sizeLine/\∀p,H1 p=none->Q (.ref p) (upd H1 p (.tup xs))
def F9(t:TA):TE:=λσ H Q=>t σ H λxs H1=>xs.length<=sizeLine/\∀p,H1 p=none->Q (.ref p) (upd H1 p (.lst xs))
theorem Vo{x1}(h:PA X es t):PE X (.Tuple es x1 pos) (F4 t):=by
 intro pins s σ H Q I hq
 refine wpAny_Tuple_spliced (bQ (h pos pins s σ H _ I hq) λus s1 ⟨xs,H1,I1,r,z,q⟩=>⟨by rw [<-r.length];exact z,?_⟩)
 have hf:H1 s1.heap.objs.size=none:=I1.bB.fresh (bZ _)
 refine ⟨.ref s1.heap.objs.size,upd H1 s1.heap.objs.size (.tup xs),I1.laid (t':=s1.toks) (λb u e=>dh _ e) (bZ _) ?_,rfl,q _ hf⟩
 exact ⟨z,us,r,⟨_,kG _ rfl,rfl,_,rfl⟩⟩
theorem Vk(h:PA X es t):PE X (.List es pos) (F9 t):=by
 intro pins s σ H Q I hq
 refine wpAny_List_spliced (bQ (h pos pins s σ H _ I hq) λus s1 ⟨xs,H1,I1,r,z,q⟩=>⟨by rw [<-r.length];exact z,?_⟩)
 have hf:H1 s1.heap.objs.size=none:=I1.bB.fresh (bZ _)
 refine ⟨.ref s1.heap.objs.size,upd H1 s1.heap.objs.size (.lst xs),I1.laid (t':=s1.toks) (λb u e=>dh _ e) (bZ _) ?_,rfl,q _ hf⟩
 exact ⟨z,us,0,r,kG _ rfl⟩
end
abbrev Sp:=List V->Hp->VK->XK->Prop
abbrev qG:=List Env->Hp->Shared->XK->Value->Shared->Prop
structure mC(P:Program)(w:World)(K:aK)(mg:Str->Option Value)(base:Heap)(A:Around)(outer:List Env)(s:Shared)(H:Hp):Prop where
 frames:A.frames=some outer
 mod:Mod K mg base
 bs:∀b o,base.get? b=some o->s.heap.get? b=some o/\H b=none
 rW:base.objs.size<=s.heap.objs.size
 jt:s.heap.FunFrames base outer
 u6:∀b∈qL outer,H b=none
 bB:gF P w H s.heap
 bare:AllBare s.gens
def CE(outer:List Env)(P:Program)(w:World)(H:Hp)(s:Shared)(Q:VK)(u:Value)(s':Shared):Prop:=
 ∃v H',s'.os=s.os/\AllBare s'.gens/\Un (qL outer) [] H H' s.heap s'.heap/\gF P w H' s'.heap/\RelV v u/\Q v H'
def CR(CX:qG)(outer:List Env)(P:Program)(w:World)(H:Hp)(s:Shared)(Q:VK)(E:XK)(r:Result)(s':Shared):Prop:=
 match r with
 | .ok (.ret u)=>CE outer P w H s Q u s'
 | .ok _=>False
 | .error e=>CX outer H s E e s'
structure cn(P:Program)(w:World)(K:aK)(mg:Str->Option Value)(base:Heap)(CX:qG)(k:Nat)(f:Addr)(fd:FuncData)(ps:List Str)(sp:Sp):Prop where
 len:∀vs H Q E,sp vs H Q E->vs.length=ps.length
 run:∀(A:Around) (outer:List Env) (s:Shared) (H:Hp) (args:Args) (us:List Value) (vs:List V) (Q:VK) (E:XK),bY k A->mC P w K mg base A outer s H->BindsTo s fd args (ps.zip us)->aG vs us->sp vs H Q E ->
  codeAny (model P w) A (.call (.ref f) args) (CR CX outer P w H s Q E) s
theorem cn.mono{P:Program}{w:World}{K:aK}{mg:Str->Option Value}{base:Heap}{CX:qG}{j k:Nat}{f:Addr}{fd:FuncData}{ps:List Str}{sp:Sp}(F:cn P w K mg base CX j f fd ps sp)(h:j<=k):
  cn P w K mg base CX k f fd ps sp:=⟨F.len,λA outer s H args us vs Q E hr=>F.run A outer s H args us vs Q E (hr.mono h)⟩
theorem cn.imp{P:Program}{w:World}{K:aK}{mg:Str->Option Value}{base:Heap}{CX:qG}{k:Nat}{f:Addr}{fd:FuncData}{ps:List Str}{sp LX:Sp}(F:cn P w K mg base CX k f fd ps sp)
  (h:∀vs H Q E,LX vs H Q E->sp vs H Q E):cn P w K mg base CX k f fd ps LX:=
 ⟨λvs H Q E q=>F.len vs H Q E (h _ _ _ _ q),λA outer s H args us vs Q E hr he hb hv hs=>F.run A outer s H args us vs Q E hr he hb hv (h _ _ _ _ hs)⟩
theorem mC.make{P:Program}{w:World}{K:aK}{mg:Str->Option Value}{base:Heap}{A:Around}{outer:List Env}{s:Shared}{H:Hp}(e:mC P w K mg base A outer s H)(C:Addr)(us:List Value)(kw:List (Str×Value)):
  mC P w K mg base (A.under (.builtin "type.__call__" ⟨.ref C::us,kw⟩)) outer s H:=⟨by first | exact e.frames | (simpa [IA,Code.envs,Ic,pushEnvs] using e.frames),e.mod,e.bs,e.rW,e.jt,e.u6,e.bB,e.bare⟩
theorem mC.in1{P:Program}{w:World}{K:aK}{mg:Str->Option Value}{base:Heap}{A:Around}{outer:List Env}{s:Shared}{H:Hp}(e:mC P w K mg base A outer s H):
  mC P w K mg base A.in1 outer s H:=⟨e.frames,e.mod,e.bs,e.rW,e.jt,e.u6,e.bB,e.bare⟩
section
variable {X:Cx}{pins:List (Addr×Obj)}{σ:St}{H:Hp}{s s':Shared}
theorem Inv.kj(I:Inv X pins σ H s):mC X.prog X.w X.K X.mg X.base X.A X.stack s H:=
 ⟨I.ok.frames,I.ok.mod,I.bs,jA I.ok.rW I.sz,I.stack,I.pO,I.bB,I.bare⟩
theorem Inv.after(I:Inv X pins σ H s)(h:CE X.stack X.prog X.w H s Q u s'):EP X pins σ Q u s':=by
 obtain ⟨v,H',os,bare,un,bB,r,q⟩:=h
 obtain ⟨hh,g,d,t,GH⟩:=s'
 obtain rfl:GH=s.os:=os
 exact ⟨v,H',I.call (h':=hh) (g':=g) (d':=d) (t':=t) (ch:=[]) un bB bare (λb z=>absurd z (by simp)),r,q⟩
end
def N0(sp:Sp)(dvs:List V)(E:XK)(t:TA):TE:=λσ H Q=>t σ H λvs H1=>sp (vs++dvs) H1 Q E
def zD(C:Addr)(sp:Sp)(dvs:List V)(E:XK)(t:TA):TE:=λσ H Q=>t σ H λvs H1=>∀x dx,H1 x=none->H1 dx=none->dx≠x ->
 sp (.ref x::(vs++dvs)) (upd (upd H1 dx (.own x)) x (.ins C dx [])) (λv H2=>v=.bz/\Q (.ref x) H2) E
def Binds(K:aK)(fd:FuncData)(ps:List Str)(ds:List Value):Prop:=
 ∀(s:Shared) (us:List Value),K.In s.heap->(us++ds).length=ps.length->BindsTo s fd ⟨us,[]⟩ (ps.zip (us++ds))
theorem Binds.all{K:aK}{fd:FuncData}{ps:List Str}(h:∀us:List Value,us.length=ps.length->bindArgs fd ⟨us,[]⟩=pure (ps.zip us)):Binds K fd ps []:=λs us _ hl=>by
 rw [rY] at hl ⊢
 exact .of_eq (h us hl)
def Cd(CX:qG)(X:Cx)(E:XK):Prop:=∀(pins:List (Addr×Obj)) (σ:St) (H:Hp) (s:Shared) (e:Value) (s':Shared),Inv X pins σ H s->CX X.stack H s E e s'->X.xe e s'
section
variable {X:Cx}{CX:qG}{k:Nat}{f C:Addr}{fd:FuncData}{ps:List Str}{sp:Sp}{dvs:List V}{ds:List Value}{E:XK}{x m:Str}{p pos apos:Pos}{e o:Expr}{es:List Expr}{ta:TE}{t:TA}
theorem JJ{pins:List (Addr×Obj)}{σ:St}{H:Hp}{s:Shared}{Q:VK}{us:List Value}{vs:List V}(F:cn X.prog X.w X.K X.mg X.base CX k f fd ps sp)(hr:bY k X.A)(hb:Binds X.K fd ps ds)(hd:aG dvs ds)(hx:Cd CX X E)
  (I:Inv X pins σ H s)(r:aG vs us)(h:sp (vs++dvs) H Q E):wpAny (model X.prog X.w) X.A (call (.ref f) us) (EP X pins σ Q) X.xe s:=by
 have r2:aG (vs++dvs) (us++ds):=r.append hd
 have hl:(us++ds).length=ps.length:=by rw [<-r2.length];exact F.len _ _ _ _ h
 refine wpAny_call (vb (F.run X.A X.stack s H ⟨us,[]⟩ (us++ds) (vs++dvs) Q E hr I.kj (hb s us I.j9 hl) r2 h) λr s' hq=>?_)
 cases r with
 | error e=>exact hx pins σ H s e s' I hq
 | ok fl =>
  cases fl with
  | ret u=>exact I.after hq
  | next=>exact mh hq
  | brk=>exact mh hq
  | cont=>exact mh hq
theorem Wr(F:cn X.prog X.w X.K X.mg X.base CX k f fd ps sp)(hr:bY k X.A)(hg:Gl X x)(hm:X.mg x=some (.ref f))(hk:p6 X.K (.ref f)=true)(hb:Binds X.K fd ps ds)(hd:aG dvs ds)(hx:Cd CX X E)
  (ha:PA X (e::es) t)(nX:(x==("__debug__":Str))=false:=by decide)(he:starEach (e::es) X.env=(false,eval e X.env)::starEach es X.env:=by rfl)(eU:(backTo pos (starEach es X.env)).any (·.1)=false:=by rfl):
  PE X (.Call (.Name x p) (e::es) [] pos) (N0 sp dvs E t):=by
 intro pins s σ H Q I h
 refine Eb (E3 I hg hm ?_ nX)
 refine IZ (h₀:=X.base) I.ok.mod.AF hk (bQ (ha pos pins s σ H _ I h) λus s1 ⟨vs,H1,I1,r,q⟩=>⟨I1.j9,?_⟩) he eU
 exact JJ F hr hb hd hx I1 r q
structure Mk(K:aK)(C f:Addr):Prop where
 makes:vo K C=true
 init:bp K (.ref C) "__init__" = some (some (.ref f))
 fn:mH K (.ref f)=true
 kp:p6 K (.ref C)=true
theorem XQ{pins:List (Addr×Obj)}{σ:St}{H:Hp}{s:Shared}{Q:VK}{us:List Value}{vs:List V}(M:Mk X.K C f)(F:cn X.prog X.w X.K X.mg X.base CX k f fd ps sp)(hr:bY (k+1) X.A)(hb:Binds X.K fd ps ds)(hd:aG dvs ds)
  (hx:Cd CX X E)(I:Inv X pins σ H s)(r:aG vs us)
  (h:∀x dx,H x=none->H dx=none->dx≠x->sp (.ref x::(vs++dvs)) (upd (upd H dx (.own x)) x (.ins C dx [])) (λv H2=>v=.bz/\Q (.ref x) H2) E):
  wpAny (model X.prog X.w) X.A (call (.ref C) us) (EP X pins σ Q) X.xe s:=by
 have hq:=h (s.heap.objs.size+1) s.heap.objs.size (I.bB.fresh (vg _)) (I.bB.fresh (bZ _)) (dQ (oQ _))
 have I2:=Inv.made (C:=C) I
 have r2:aG (V.ref (s.heap.objs.size+1)::(vs++dvs)) (cK (s.heap.objs.size+1)::(us++ds)):=.cons rfl (r.append hd)
 have hl:(cK (s.heap.objs.size+1)::us++ds).length=ps.length:=by
  have e:=r2.length
  rw [F.len _ _ _ _ hq] at e
  exact e.symm
 refine wpAny_call (X0 (f:=f) I.j9 M.makes M.init (beq_iff_eq.mp M.fn) (vb (F.run _ X.stack _ _ ⟨cK (s.heap.objs.size+1)::us,[]⟩ (cK (s.heap.objs.size+1)::(us++ds)) _ _ E (hr.make C us [])
  (I2.kj.make C us []) (hb _ (cK (s.heap.objs.size+1)::us) I2.j9 hl) r2 hq) λr s' c8=>?_))
 cases r with
 | error e=>exact hx pins σ _ _ e s' I2 c8
 | ok fl =>
  cases fl with
  | ret u =>
   obtain ⟨v,H',I3,rv,ev,q3⟩:=I2.after c8
   subst ev
   exact ⟨rv,⟨V.ref (s.heap.objs.size+1),H',I3,rfl,q3⟩⟩
  | next=>exact mh c8
  | brk=>exact mh c8
  | cont=>exact mh c8
theorem Xg(M:Mk X.K C f)(F:cn X.prog X.w X.K X.mg X.base CX k f fd ps sp)(hr:bY (k+1) X.A)(hg:Gl X x)(hm:X.mg x=some (.ref C))(hb:Binds X.K fd ps ds)(hd:aG dvs ds)(hx:Cd CX X E)
  (ha:PA X (e::es) t)(nX:(x==("__debug__":Str))=false:=by decide)(he:starEach (e::es) X.env=(false,eval e X.env)::starEach es X.env:=by rfl)(eU:(backTo pos (starEach es X.env)).any (·.1)=false:=by rfl):
  PE X (.Call (.Name x p) (e::es) [] pos) (zD C sp dvs E t):=by
 intro pins s σ H Q I h
 refine Eb (E3 I hg hm ?_ nX)
 refine IZ (h₀:=X.base) I.ok.mod.AF M.kp (bQ (ha pos pins s σ H _ I h) λus s1 ⟨vs,H1,I1,r,q⟩=>⟨I1.j9,?_⟩) he eU
 exact XQ M F hr hb hd hx I1 r q
end
section
variable {X:Cx}{CX:qG}{k:Nat}{f C:Addr}{fd:FuncData}{ps ks:List Str}{sp:Sp}{E:XK}{x m:Str}{p pos apos SW:Pos}{e o:Expr}{es:List Expr}{kws:List Keyword}{te ta:TE}{t tk:TA}{nm:Option Str}
structure LO(K:aK)(fd:FuncData)(ps ks:List Str)(g:List Value->List Value->List Value)(gV:List V->List V->List V):Prop where
 to:∀(s:Shared) (us ws:List Value),K.In s.heap->(g us ws).length=ps.length->BindsTo s fd ⟨us,ks.zip ws⟩ (ps.zip (g us ws))
 rel:∀{vs:List V} {us:List Value} {zs:List V} {ws:List Value},aG vs us->aG zs ws->aG (gV vs zs) (g us ws)
variable {g:List Value->List Value->List Value}{gV:List V->List V->List V}
end
structure cE(N P:List Str)(sc:Scope):Prop where
 kind:sc.kind=.function
 co:sc.isCoroutine=false
 gen:sc.isGenerator=false
 nd:N.Nodup
 pre:N.take P.length=P
 par:∀x∈P,sc.names.lookup x=some .local\/sc.names.lookup x=some .cell
 wu:∀y∈sc.names,y.2≠.free
theorem PL{kindOf:Str->Option NameKind}{x:Str}:∀{binds:List (Str×Value)} {m:Str->Option Value},(∀v,(x,v)∉binds)->bindL kindOf binds m x=m x
 | [],_,_=>rfl
 | (n,v)::r,m,h=>by
  unfold bindL
  rw [PL λw hw=>h w (gE _ hw)]
  split
  .have:x≠n:=by rintro rfl;exact h v jz
   simp [this]
  .rfl
theorem PJ{kindOf:Str->Option NameKind}{x:Str}:∀{binds:List (Str×Value)} {m:Str->Option Value},(∀v,(x,v)∉binds)->bindC kindOf binds m x=m x
 | [],_,_=>rfl
 | (n,v)::r,m,h=>by
  unfold bindC
  rw [PJ λw hw=>h w (gE _ hw)]
  split
  .rfl
  .have:x≠n:=by rintro rfl;exact h v jz
   simp [this]
theorem PK{kindOf:Str->Option NameKind}{x:Str}{v:Value}:∀{P:List Str} {vs:List Value} {i:Nat} {m:Str->Option Value},P.Nodup->P[i]?=some x->vs[i]?=some v->kindOf x=some .local ->
  bindL kindOf (P.zip vs) m x=some v
 | [],_,_,_,_,h,_,_=>by simp at h
 | _::_,[],_,_,_,_,h,_=>by simp at h
 | p::P,w::vs,0,m,nd,h1,h2,hk=>by
  simp at h1 h2;subst h1;subst h2
  show bindL kindOf ((p,w)::P.zip vs) m p=_
  unfold bindL
  rw [PL λv hv=>(DS.mp nd).1 (DR hv).1,if_pos hk]
  simp
 | p::P,w::vs,i+1,m,nd,h1,h2,hk=>by
  show bindL kindOf ((p,w)::P.zip vs) m x=_
  unfold bindL
  exact PK (i:=i) (DS.mp nd).2 (by simpa using h1) (by simpa using h2) hk
theorem PH{kindOf:Str->Option NameKind}{x:Str}{v:Value}:∀{P:List Str} {vs:List Value} {i:Nat} {m:Str->Option Value},P.Nodup->P[i]?=some x->vs[i]?=some v->kindOf x≠some .local ->
  bindC kindOf (P.zip vs) m x=some v
 | [],_,_,_,_,h,_,_=>by simp at h
 | _::_,[],_,_,_,_,h,_=>by simp at h
 | p::P,w::vs,0,m,nd,h1,h2,hk=>by
  simp at h1 h2;subst h1;subst h2
  show bindC kindOf ((p,w)::P.zip vs) m p=_
  unfold bindC
  rw [PJ λv hv=>(DS.mp nd).1 (DR hv).1,if_neg hk]
  simp
 | p::P,w::vs,i+1,m,nd,h1,h2,hk=>by
  show bindC kindOf ((p,w)::P.zip vs) m x=_
  unfold bindC
  exact PH (i:=i) (DS.mp nd).2 (by simpa using h1) (by simpa using h2) hk
def start(N:List Str)(vs:List V):St:=vs.map some++mI (N.length-vs.length) none
def n5(CX:qG)(P:Program)(w:World)(K:aK)(mg:Str->Option Value)(base:Heap)(N:List Str)(qual:Str)(scope:Scope)(f:Addr)(cd:Value)(A:Around)(outer:List Env)(s:Shared)(H:Hp)(E:XK):Cx where
 prog:=P
 w:=w
 K:=K
 mg:=mg
 base:=base
 A:=A.deeper (envOfC qual scope s.heap.objs.size f cd)
 N:=N
 cU:=s
 sv:=H
 env:=envOfC qual scope s.heap.objs.size f cd
 outer:=outer
 stack:=envOfC qual scope s.heap.objs.size f cd::outer
 ex:=[]
 calm:=true
 fn:=λ_=>true
 pn:=[]
 xe:=λe s'=>wpAny (model P w) (A.deeper (envOfC qual scope s.heap.objs.size f cd)) (leaving (envOfC qual scope s.heap.objs.size f cd) e) (λ_ zV=>CX outer H s E e zV) (λe' zV=>CX outer H s E e' zV) s'
theorem Pu{sc:Scope}{n:Nat}{x:Str}(h:sc.names.lookup x=some .cell):∃c,(cellsFrom n sc.names []).lookup x=some c:=by
 have q:=M8 sc.names n [] (.inl h)
 exact Jd.mp q
theorem YG{CX:qG}{P:Program}{w:World}{K:aK}{mg:Str->Option Value}{base:Heap}{N ps:List Str}{qual:Str}{scope:Scope}{f:Addr}{cd:Value}{A:Around}{outer:List Env}{s s1:Shared}{H:Hp}{E:XK}{us:List Value}{vs:List V}
  (S:cE N ps scope)(hd:A.handled=none)(e0:mC P w K mg base A outer s H)(hl:vs.length=ps.length)(r:aG vs us)
  (x:InCallC s s.heap.objs.size (bindL (envOfC qual scope s.heap.objs.size f cd).kindOf (ps.zip us) λ_=>none) (cellsFrom (s.heap.objs.size+1) scope.names []) (bindC (envOfC qual scope s.heap.objs.size f cd).kindOf (ps.zip us) λ_=>none) s1):
  Inv (n5 CX P w K mg base N qual scope f cd A outer s H E) [] (start N vs) H s1:=by
 have eU:ps.length<=N.length:=by have:=congrArg xr S.pre;rw [nu] at this;ext this
 obtain ⟨h1,tk,rfl,hk⟩:=x.done
 have GP:∀b:Addr,b∉(n5 CX P w K mg base N qual scope f cd A outer s H E).ex:=λb z=>absurd (show b∈([]:List Addr) from z) (by simp)
 refine ⟨⟨e0.mod,S.kind,rfl,rfl,bZ _,λy z c h1 h2=>?_,λy hy=>?_,λy c _ h=>?_,λ_=>hd,Around.frames_deeper e0.frames,.inr ⟨rfl,rfl⟩,λb z=>absurd z (GP b),e0.bs,e0.rW,λb _ _=>GP b,λb z=>absurd z (GP b),e0.jt,e0.u6⟩,
  rfl,e0.bare,Un.kept hk,⟨_,x.toInCall.ns,λi y v h1 h2 h3=>?_⟩,λy c h=>⟨_,x.cell y c h⟩,e0.bB.fresh (bZ _),λy c h=>?_,λp hp=>absurd (show p∈([]:List (Addr×Obj)) from hp) (by simp),e0.bB.kept hk,?_⟩
 .exact name_of_addr x.apart (yJ h1) (yJ h2)
 .have hy:scope.names.lookup y=some .cell\/scope.names.lookup y=some .free:=hy
  rcases hy with hy | hy
  .exact Pu hy
  .exact absurd rfl (S.wu _ (yJ hy))
 .exact ve (x.above y c (yJ h))
 .have hi:i<vs.length:=by
   unfold start at h2
   by_cases hi:i<vs.length
   .exact hi
   .rw [uf (by simpa using hi)] at h2
    rw [BY] at h2
    split at h2<;>cases h2
  have ha:vs[i]?=some v:=by
   unfold start at h2
   rw [xD (by simpa using hi),qR] at h2
   cases e:vs[i]? with
   | none=>rw [e] at h2;cases h2
   | some a=>rw [e] at h2;cases h2;rfl
  obtain ⟨u,hu,rv⟩:=r.get ha
  have hp:ps[i]?=some y:=by
   rw [<-S.pre,List.getElem?_take_of_lt (by ext hl hi)];exact h1
  have Mb:ps.Nodup:=by rw [<-S.pre];exact S.nd.sublist (List.take_sublist _ _)
  refine ⟨u,rv,?_⟩
  rcases S.par y (MX hp) with k | k
  .exact .inl ⟨k,PK Mb hp hu k⟩
  .obtain ⟨c,e⟩:=Pu (n:=s.heap.objs.size+1) k
   refine .inr ⟨.inl k,c,e,?_⟩
   have q:=x.cell y c e
   rw [PH Mb hp hu (by show scope.names.lookup y≠_;rw [k];decide)] at q
   exact q
 .exact e0.bB.fresh (ve (x.above y c (yJ h)))
 .unfold start
  show _=N.length
  rw [da,dF,D6]
  ext hl eU
theorem Bj{CX:qG}{P:Program}{w:World}{K:aK}{mg:Str->Option Value}{base:Heap}{k:Nat}{f:Addr}{name qual:Str}{params:Arguments}{body:List Stmt}{scope:Scope}{dV kV doc pm dg ct oc:Value}{an od:Option Addr}
  {uO:Array (Option Value)}{N ps:List Str}{sp:Sp}(lk:K.lookup f=some ⟨oc,od,.func (mf name qual params body scope dV kV doc pm an dg ct),uO⟩)(cO:BE K dg qual=true)(S:cE N ps scope)
  (len:∀vs H Q E,sp vs H Q E->vs.length=ps.length)
  (cG:∀(A:Around) (outer:List Env) (s:Shared) (H:Hp) (vs:List V) (Q:VK) (E:XK),bY k (A.deeper (envOfC qual scope s.heap.objs.size f dg))->sp vs H Q E ->
   ∃t,qb (n5 CX P w K mg base N qual scope f dg A outer s H E) body t/\t { nx:=λ_ H'=>Q .bz H',rt:=Q } (start N vs) H):
  cn P w K mg base CX (k+1) f (mf name qual params body scope dV kV doc pm an dg ct) ps sp:=by
 refine ⟨len,λA outer s H args us vs Q E hr e0 hb r uT=>?_⟩
 have hl:=len _ _ _ _ uT
 have KX:K.In s.heap:=e0.mod.AF.keeps λb o e=>(e0.bs b o e).1
 have lim:s.heap.NoLimit:=e0.mod.nolimit.keeps λb o e=>(e0.bs b o e).1
 have A1:∀y∈ps.zip us,scope.names.lookup y.1=some .local\/(scope.names.lookup y.1=some .cell/\((cellsFrom (s.heap.objs.size+1) scope.names []).lookup y.1).isSome=true):=λ⟨n,v⟩ hy=>by
  rcases S.par n (DR hy).1 with q | q
  .exact .inl q
  .exact .inr ⟨q,M8 _ _ _ (.inl q)⟩
 refine codeAny_call_function hr.depth (KX _ _ lk) rfl S.co S.gen rfl (PySem.W.codeRec_of KX cO) (hb _ _ _ _ ?_)
 refine wpAny_newFunctionEnv_cells S.kind A1 λenv he s1 x=>?_
 subst he
 refine ⟨lim.keeps x.toInCall.keep,codeAny_func ?_⟩
 obtain ⟨t,ht,hq⟩:=cG A outer s H vs Q E (hr.deeper _) uT
 have I:Inv (n5 CX P w K mg base N qual scope f dg A outer s H E) [] (start N vs) H s1:=YG S hr.hd e0 hl r x
 refine nF (ht [] s1 (start N vs) H _ I hq) (λfl s' hs=>?_) λe s' hs=>hs
 have fin:∀{bo:St} {H':Hp} {v:V} {u:Value},Inv (n5 CX P w K mg base N qual scope f dg A outer s H E) [] bo H' s'->RelV v u->Q v H'->CE outer P w H s Q u s':=
  λ{bo H' v u} J rv q=>⟨v,H',J.os,J.bare,J.base,J.bB,rv,q⟩
 cases fl with
 | ret u =>
  obtain ⟨v,bo,H',J,rv,q⟩:=hs
  exact fin J rv q
 | next =>
  obtain ⟨bo,H',J,q⟩:=hs
  exact fin (v:=V.bz) (u:=mi) J rfl q
 | brk =>
  obtain ⟨_,_,_,q⟩:=hs
  exact mh q
 | cont =>
  obtain ⟨_,_,_,q⟩:=hs
  exact mh q
end L2
namespace L2
open PySem PySem.Spec PyProof.Rows
section
variable {X:Cx}{x:Str}{p pos:Pos}{e:Expr}{es:List Expr}{t:TA}{id T:String}{r:List V->Hp->VK->Prop}
def LV(r:List V->Hp->VK->Prop)(t:TA):TE:=λσ H Q=>t σ H λvs H1=>r vs H1 Q
theorem uq(hc:cA X (.builtin id) r)(hg:Gl X x)(hm:X.mg x=none)(hv:bootBuiltins x=some (.builtin id))(ha:PA X (e::es) t)(hn:x ≠ "__name__":=by decide)(nX:(x==("__debug__":Str))=false:=by decide)
  (he:starEach (e::es) X.env=(false,eval e X.env)::starEach es X.env:=by rfl)(eU:(backTo pos (starEach es X.env)).any (·.1)=false:=by rfl):PE X (.Call (.Name x p) (e::es) [] pos) (LV r t):=by
 intro pins s σ H Q I h
 refine Eb (yZ I hg hm hv ?_ hn nX)
 exact PyProof.Rows.callWith_builtin1 (bQ (ha pos pins s σ H _ I h) λus s1 ⟨vs,H1,I1,r1,q1⟩=>hc pins s1 σ H1 vs us Q I1 r1 q1) he eU
theorem Cp(hc:cA X (.type T) r)(hg:Gl X x)(hm:X.mg x=none)(hv:bootBuiltins x=some (.type T))(ha:PA X (e::es) t)(hn:x ≠ "__name__":=by decide)(nX:(x==("__debug__":Str))=false:=by decide)
  (he:starEach (e::es) X.env=(false,eval e X.env)::starEach es X.env:=by rfl)(eU:(backTo pos (starEach es X.env)).any (·.1)=false:=by rfl):PE X (.Call (.Name x p) (e::es) [] pos) (LV r t):=by
 intro pins s σ H Q I h
 refine Eb (yZ I hg hm hv ?_ hn nX)
 exact Ej (bQ (ha pos pins s σ H _ I h) λus s1 ⟨vs,H1,I1,r1,q1⟩=>hc pins s1 σ H1 vs us Q I1 r1 q1) he eU
end
end L2
namespace HT
open PySem PyProof.Rows
section
open PySem.SeqAt
open PySem.AutoSeq1 (wpAny_loadPart')
open PySem.MeetsSeq PySem.MeetsSeq2 PySem.MeetsSeq3
end
section
variable {prog:Program}{w:World}{A:Around}{E:Value->Shared->Prop}{s:Shared}
theorem t7(ht:IsTup s.heap t vs.toArray)(hb:IsTup s.heap b ws.toArray)(hv:vs≠[])
  (h1:ws=[]->Q (.ref t) s)(h2:ws≠[]->Q (.ref s.heap.objs.size) { s with heap:=s.heap.push { cls:=.type "tuple",data:=.seq (vs++ws).toArray } })
  (hsz:vs.length+ws.length<=sizeLine):wpAny (model prog w) A (binaryOp .Add (.ref t) (.ref b)) Q E s:=by
 obtain ⟨⟨cls,dd,data,sl⟩,ho,hc,n,hd⟩:=id ht
 obtain ⟨⟨HR,DE,data2,zO⟩,wN,A8,n2,hd2⟩:=id hb
 simp only at hc hd A8 hd2
 subst hc hd A8 hd2
 have e:vs.toArray++ws.toArray=(vs++ws).toArray:=by simp
 by_cases hw:ws=[]
 .exact concat_meets ⟨_,ho,rfl⟩ ⟨_,wN,rfl⟩ Iq Iu Jg Ja (Jc _ _)
   (tuple_addW1 t b vs.toArray ws.toArray n n2 dd DE sl zO (by simpa using hv) (by simp [hw])) ⟨ho,wN,h1 hw⟩
 .refine concat_meets ⟨_,ho,rfl⟩ ⟨_,wN,rfl⟩ Iq Iu Jg Ja (Jc _ _)
   (tuple_addW2 t b vs.toArray ws.toArray n n2 dd DE sl zO (by simpa using hv) (by simpa using hw) (by rw [dR,dR];exact hsz)) ⟨ho,wN,?_⟩
  rw [e]
  exact h2 hw
def cc(n d:Nat):Option Int->Nat
 | none=>d
 | some v=>if v<0 then (v+(n:Int)).toNat else min v.toNat n
theorem rz(n d:Nat):cc n d none=d:=rfl
theorem tH(n d k:Nat):cc n d (some (k:Int))=min k n:=by
 show (if (k:Int)<0 then ((k:Int)+(n:Int)).toNat else min (k:Int).toNat n)=min k n
 rw [if_neg (by ext),yC]
theorem Vz(n d:Nat)(hd:d<=n)(o:Option Int):cc n d o<=n:=by
 cases o with
 | none=>exact hd
 | some v =>
  show (if v<0 then (v+(n:Int)).toNat else min v.toNat n)<=n
  by_cases hv:v<0
  .rw [if_pos hv];ext hv
  .rw [if_neg hv];exact Nat.min_le_right _ _
theorem OI(v:Int)(n d:Nat):(if v<0 then max (v+(n:Int)) 0 else min v (n:Int))=((cc n d (some v):Nat):Int):=by
 show (if v<0 then max (v+(n:Int)) 0 else min v (n:Int))=(((if v<0 then (v+(n:Int)).toNat else min v.toNat n):Nat):Int)
 by_cases hv:v<0
 .simp only [if_pos hv];ext
 .simp only [if_neg hv];ext hv
theorem Y4(lo hi:Option Int)(n:Nat):Je lo hi 1 (n:Int)=(((cc n 0 lo:Nat):Int),((cc n n hi:Nat):Int)):=by
 have h1:¬((1:Int)<0):=by decide
 unfold Je
 simp only [h1,if_false]
 refine Prod.ext ?_ ?_
 .cases lo with
  | none=>rfl
  | some v=>exact OI v n 0
 .cases hi with
  | none=>rfl
  | some v=>exact OI v n n
theorem ZI(i j:Nat):Eo (i:Int) (j:Int) 1=j-i:=by
 unfold Eo
 have h1:(1:Int)>0:=by decide
 simp only [h1,if_true,Int.ediv_one]
 split<;>lia
theorem Qq(p:IsPart v o)(h:Q o s):wpAny (model prog w) A (Builtin.Slice.slicePartIndex v) Q E s:=by
 cases p with
 | none=>exact slicePart_none h
 | int i t=>exact slicePart_int h
theorem a4M{lo hi:Option Int}{n:Nat}(hs:s.heap.IsSliceOf sl vl vu .none)(pl:IsPart vl lo)(pu:IsPart vu hi)
  (h:Q (((cc n 0 lo:Nat):Int),1,cc n n hi-cc n 0 lo) s):wpAny (model prog w) A (Nu (.ref sl) (pure (n:Int))) Q E s:=by
 obtain ⟨os,wL,Mx,Dz⟩:=id hs
 unfold Nu Builtin.Slice.sliceFields
 refine aN (aN (wpAny_field wL Dz (x:=vl) rfl (aN (wpAny_field wL Dz (x:=vu) rfl (aN (wpAny_field wL Dz (x:=.none) rfl (bJ ?_)))))))
 refine aN (slicePart_none ?_)
 show wpAny _ _ (if ((1:Int)==0)=true then _ else _) _ _ s
 rw [if_neg (by decide)]
 refine aN (Qq pl (aN (Qq pu (aN (bJ ?_)))))
 show wpAny _ _ (match Je lo hi 1 (n:Int) with | (lo,hi)=>pure (lo,(1:Int),Eo lo hi 1)) _ _ s
 rw [Y4 lo hi n]
 show wpAny _ _ (pure (((cc n 0 lo:Nat):Int),(1:Int),Eo ((cc n 0 lo:Nat):Int) ((cc n n hi:Nat):Int) 1)) _ _ s
 rw [ZI]
 exact bJ h
theorem Yd(xs:Array Value)(i k:Nat):((pD k).filterMap λ(m:Nat)=>xs[((i:Int)+(m:Int)*1).toNat]?).toArray=((xs.toList.drop i).take k).toArray:=by
 have e:(λ(m:Nat)=>xs[((i:Int)+(m:Int)*1).toNat]?)=λm=>xs[i+m]?:=by
  funext m
  have:((i:Int)+(m:Int)*1).toNat=i+m:=by ext
  rw [this]
 rw [e]
 have:=pick_run xs i k
 rw [List.filterMap_map] at this
 have e2:((λx=>xs[x]?)∘λx=>i+x)=λm=>xs[i+m]?:=rfl
 rw [e2] at this
 rw [this]
theorem ij{items:Array Value}{lo hi:Option Int}(ht:IsTup s.heap t items)(hs:s.heap.IsSliceOf sl vl vu .none)(pl:IsPart vl lo)(pu:IsPart vu hi)
  (hw:¬(cc items.size 0 lo=0/\cc items.size items.size hi=items.size))
  (h:Q (.ref s.heap.objs.size) { s with heap:=s.heap.push { cls:=.type "tuple",data:=.seq ((items.toList.drop (cc items.size 0 lo)).take (cc items.size items.size hi-cc items.size 0 lo)).toArray } })
  (hsz:items.size<=sizeLine):wpAny (model prog w) A (getItem (.ref t) (.ref sl)) Q E s:=by
 have pU:sizeOk (.seq ((items.toList.drop (cc items.size 0 lo)).take (cc items.size items.size hi-cc items.size 0 lo)).toArray):=by
  show ((items.toList.drop (cc items.size 0 lo)).take (cc items.size items.size hi-cc items.size 0 lo)).toArray.size<=sizeLine
  rw [dR,nu,sd,gD]
  ext hsz
 have hj:cc items.size items.size hi<=items.size:=Vz _ _ (bZ _) hi
 obtain ⟨os,wL,Mx,Dz⟩:=id hs
 have Ba:s.TypeIs (.ref sl) "slice":=⟨os,wL,Mx⟩
 unfold getItem
 try with_reducible refine sO ?_
 first | refine aN (bJ ?_) | skip
 refine aN (wpAny_sequenceKey ht.typeIs (by decide) ?_)
 refine aN (D9 (name:=DH "__getitem__") ht.typeIs Ek
  (xA Ek ht.typeIs entry_tuple_getitem ?_ (args_tuple_getitem _ _)))
 show wpAny _ _ (Builtin.Tuple.tupleItemsOf (.ref t) >>= _) _ _ s
 refine aN (tupleItemsOf_ ht ?_)
 refine aN (wpAny_typeOf Ba ?_)
 rw [if_pos (by decide)]
 refine aN (a4M hs pl pu ?_)
 have uV:¬((((cc items.size 0 lo:Nat):Int)==0&&(1:Int)==1&&(cc items.size items.size hi-cc items.size 0 lo)==items.size)=true):=by
  intro q
  rw [ub,ub] at q
  have q1:((cc items.size 0 lo:Nat):Int)=0:=eq_of_beq q.1.1
  have q2:cc items.size items.size hi-cc items.size 0 lo=items.size:=eq_of_beq q.2
  exact hw ⟨by ext q1,by ext q1 q2⟩
 show wpAny _ _ (if (((cc items.size 0 lo:Nat):Int)==0&&(1:Int)==1&&(cc items.size items.size hi-cc items.size 0 lo)==items.size)=true then _ else _) _ _ s
 rw [if_neg uV,Yd]
 first
  | exact aN (m:=Ea _) (sS (bJ ⟨_,rfl,bJ h⟩) pU)
  | exact aN (m:=Ea _) (sS (aN (bJ (bJ ⟨_,rfl,bJ h⟩))) pU)
  | exact aN (aN (m:=Ea _) (sS (bJ (bJ ⟨_,rfl,bJ h⟩)) pU))
  | exact aN (aN (m:=Ea _) (sS (bJ ⟨_,rfl,bJ h⟩) pU))
end
end HT
namespace L2
open PySem PySem.Spec PyProof.Rows
abbrev TO:=St->Hp->(Option Int->Hp->Prop)->Prop
def PO(X:Cx)(e:Option Expr)(t:TO):Prop:=
 ∀(pins:List (Addr×Obj)) (s:Shared) (σ:St) (H:Hp) (Q:Option Int->Hp->Prop),Inv X pins σ H s->t σ H Q ->
  wpAny (model X.prog X.w) X.A (evalPart e X.env) (λu s'=>∃o H',Inv X pins σ H' s'/\IsPart u o/\Q o H') X.xe s
def W':TO:=λ_ H Q=>Q none H
def zz(t:TE):TO:=λσ H Q=>t σ H λx H1=>∃i,x=.int i/\Q (some i) H1
section
variable {X:Cx}{e:Expr}{te:TE}{lo hi:Option Expr}{tl th:TO}{pos p2:Pos}
theorem Xj:PO X none W':=by
 intro pins s σ H Q I h
 rw [evalPart_none]
 exact bJ ⟨none,H,I,.none,h⟩
theorem Xk(h:PE X e te):PO X (some e) (zz te):=by
 intro pins s σ H Q I hw
 rw [evalPart_some]
 refine bQ (h pins s σ H _ I hw) λu s1 ⟨x,H1,I1,r1,q1⟩=>?_
 obtain ⟨i,rfl,q⟩:=q1
 obtain ⟨t,rfl⟩:=r1
 exact ⟨some i,H1,I1,.int i t,q⟩
def xU(X:Cx)(r:V->Option Int->Option Int->Hp->VK->Prop):Prop:=
 ∀(pins:List (Addr×Obj)) (s:Shared) (σ:St) (H:Hp) (x:V) (v vl vu:Value) (lo hi:Option Int) (sl:Addr) (Q:VK),Inv X pins σ H s->RelV x v->s.heap.IsSliceOf sl vl vu .none->IsPart vl lo->IsPart vu hi->r x lo hi H Q ->
  ∃T id,typeLookup (.type T) "__getitem__" = pure (some (.builtin id))/\s.TypeIs v T/\wpAny (model X.prog X.w) X.A (getItem v (.ref sl)) (EP X pins σ Q) X.xe s
theorem xU.or(h:xU X r)(h':xU X r'):xU X (λx lo hi H Q=>r x lo hi H Q\/r' x lo hi H Q):=by
 intro pins s σ H x v vl vu lo hi sl Q I rx hs pl pu q
 rcases q with q | q
 .exact h pins s σ H x v vl vu lo hi sl Q I rx hs pl pu q
 .exact h' pins s σ H x v vl vu lo hi sl Q I rx hs pl pu q
def Ri(r:V->Option Int->Option Int->Hp->VK->Prop)(te:TE)(tl th:TO):TE:=λσ H Q=>te σ H λx H1=>tl σ H1 λl H2=>th σ H2 λu H3=>r x l u H3 Q
theorem Yb(hr:xU X r)(he:PE X e te)(hl:PO X lo tl)(hu:PO X hi th):PE X (.Subscript e (.Slice lo hi none p2) pos) (Ri r te tl th):=by
 intro pins s σ H Q I h
 refine Subscript_ (bQ (he pins s σ H _ I h) λv s1 ⟨x,H1,I1,r1,q1⟩=>?_)
 refine wpAny_Slice (bQ (hl pins s1 σ H1 _ I1 q1) λvl s2 ⟨l,H2,I2,pl,q2⟩=>bQ (hu pins s2 σ H2 _ I2 q2) λvu s3 ⟨u,H3,I3,pu,q3⟩=>?_)
 rw [evalPart_none]
 refine bJ ?_
 have I4:Inv X pins σ H3 { s3 with heap:=s3.heap.push { cls:=.type "slice",data:=.fields #[vl,vu,.none] } }:=I3.kept (t':=s3.toks) λb ob q=>dh _ q
 obtain ⟨T,id,hT,ht,hg⟩:=hr pins { s3 with heap:=s3.heap.push { cls:=.type "slice",data:=.fields #[vl,vu,.none] } } σ H3 x v vl vu l u s3.heap.objs.size Q I4 r1 (Heap.IsSliceOf.new ..) pl pu q3
 show wpAny (model X.prog X.w) X.A (subscriptTail e (.Slice lo hi none p2) v (.ref s3.heap.objs.size)) (EP X pins σ Q) X.xe { s3 with heap:=s3.heap.push { cls:=.type "slice",data:=.fields #[vl,vu,.none] } }
 exact tail_any (ops:=[.ref s3.heap.objs.size,v]) ht hT hg (by with_unfolding_all rfl)
def n6(xs:List V)(lo hi:Option Int):List V:=(xs.drop (HT.cc xs.length 0 lo)).take (HT.cc xs.length xs.length hi-HT.cc xs.length 0 lo)
theorem Qh(xs:List V)(lo hi:Option Int):(n6 xs lo hi).length<=xs.length:=by
 unfold n6
 rw [nu,sd]
 ext
def Gz(K:aK):V->Option Int->Option Int->Hp->VK->Prop:=λx lo hi H Q=>∃a xs,x=.ref a/\gC K H a xs /\
 ¬(HT.cc xs.length 0 lo=0/\HT.cc xs.length xs.length hi=xs.length)/\∀p,H p=none->Q (.ref p) (upd H p (.tup (n6 xs lo hi)))
theorem V5:xU X (Gz X.K):=by
 intro pins s σ H x v vl vu lo hi sl Q I rx hs pl pu h
 obtain ⟨a,xs,rfl,hx,hw,q⟩:=h
 cases rx
 obtain ⟨aA,r,ht,hz⟩:=I.tuple hx
 have hlen:aA.toArray.size=xs.length:=by rw [dR];exact r.length.symm
 refine ⟨"tuple",_,Ek.lookup,ht.typeIs,?_⟩
 refine HT.ij ht hs pl pu (by rw [hlen];exact hw) ?_ (by rw [hlen];exact hz)
 rw [hlen]
 refine ⟨.ref s.heap.objs.size,_,I.laid (t':=s.toks) (o:=.tup (n6 xs lo hi)) (λb ob q=>dh _ q) (bZ _) ?_,rfl,q _ (I.bB.fresh (bZ _))⟩
 exact ⟨jA (Qh xs lo hi) hz,_,(r.drop (HT.cc xs.length 0 lo)).take (HT.cc xs.length xs.length hi-HT.cc xs.length 0 lo),IsTup.new _ _⟩
def Ad(K:aK):R2:=λx y H Q=>∃a b xs ys,x=.ref a/\y=.ref b/\gC K H a xs/\gC K H b ys/\xs≠[]/\xs.length+ys.length<=sizeLine /\
 (ys=[]->Q (.ref a) H)/\(ys≠[]->∀p,H p=none->Q (.ref p) (upd H p (.tup (xs++ys))))
theorem aG.eJ(r:aG xs us):us=[]↔xs=[]:=by
 cases r with
 | nil=>simp
 | cons _ _=>simp
theorem tJ:lN X (binaryOp .Add) (Ad X.K):=by
 intro pins s σ H x y v u Q I rx ry h
 obtain ⟨a,b,xs,ys,rfl,rfl,ha,hb,hx,hz,q1,q2⟩:=h
 cases rx
 cases ry
 obtain ⟨aA,r1,p1,_⟩:=I.tuple ha
 obtain ⟨c7,r2,p2,_⟩:=I.tuple hb
 refine HT.t7 p1 p2 (λz=>hx (r1.eJ.mp z)) (λz=>⟨.ref a,H,I,rfl,q1 (r2.eJ.mp z)⟩) (λz=>?_) (by rw [<-r1.length,<-r2.length];exact hz)
 refine ⟨.ref s.heap.objs.size,_,I.laid (t':=s.toks) (o:=.tup (xs++ys)) (λb ob q=>dh _ q) (bZ _) ?_,rfl,q2 (λw=>z (r2.eJ.mpr w)) _ (I.bB.fresh (bZ _))⟩
 exact ⟨by rw [da];exact hz,_,r1.append r2,IsTup.new _ _⟩
end
end L2
namespace L2
open PySem PySem.Spec PyProof.Rows
def nR(n:Nat)(i:Int):Option Nat:=if 0<=i then (if i<n then some i.toNat else none) else if -(n:Int)<=i then some (i+n).toNat else none
def dt{α:Type}(xs:List α)(i:Int):Option α:=(nR xs.length i).bind λj=>xs[j]?
theorem Oy(h:nR n i=some j):seqIndex? i n=some j/\j<n /\ -(n:Int)<=i/\i<n:=by
 unfold nR at h
 by_cases h0:0<=i
 .rw [if_pos h0] at h
  by_cases h1:i<n
  .rw [if_pos h1] at h
   have e:i.toNat=j:=dC h
   exact ⟨by rw [seqIndex_of h0 h1,e],by ext h0 h1 e,by ext h0,h1⟩
  .rw [if_neg h1] at h;cases h
 .rw [if_neg h0] at h
  by_cases h1:-(n:Int)<=i
  .rw [if_pos h1] at h
   have e:(i+n).toNat=j:=dC h
   exact ⟨by rw [seqIndex_neg (by ext h0) h1,e],by ext h0 h1 e,h1,by ext h0⟩
  .rw [if_neg h1] at h;cases h
theorem JV{α:Type}{xs:List α}{i:Int}{v:α}(h:dt xs i=some v):∃j,seqIndex? i xs.length=some j/\xs[j]?=some v/\j<xs.length /\ -(xs.length:Int)<=i/\i<xs.length:=by
 unfold dt at h
 cases e:nR xs.length i with
 | none=>rw [e] at h;cases h
 | some j =>
  rw [e] at h
  obtain ⟨h1,h2,h3,h4⟩:=Oy e
  exact ⟨j,h1,h,h2,h3,h4⟩
theorem eK{α:Type}{xs:List α}{j:Nat}{v:α}(h:xs[j]?=some v):dt xs (j:Int)=some v:=by
 have hj:j<xs.length:=(qP.mp h).1
 have e:nR xs.length (j:Int)=some j:=by
  unfold nR
  rw [if_pos (by ext),if_pos (by ext hj)];simp
 unfold dt;rw [e];exact h
theorem lG{α:Type}(xs:List α)(v:α):dt (xs++[v]) (-1)=some v:=by
 have hl:(xs++[v]).length=xs.length+1:=by simp
 have e:nR (xs++[v]).length (-1)=some xs.length:=by
  unfold nR
  rw [hl,if_neg (by decide),if_pos (by ext)]
  congr 1
  ext
 unfold dt
 rw [e]
 show (xs++[v])[xs.length]?=some v
 simp
def Ow(b:Expr):Prop:=∀o i,subscripted b false o i=operate [o,i] (getItem o i)
def uH(X:Cx)(r:R2):Prop:=
 ∀(value slice:Expr) (pins:List (Addr×Obj)) (s:Shared) (σ:St) (H:Hp) (x y:V) (v u:Value) (Q:VK),Inv X pins σ H s->RelV x v->RelV y u->r x y H Q ->
  subscripted slice false v u=operate [v,u] (getItem v u)->wpAny (model X.prog X.w) X.A (subscriptTail value slice v u) (EP X pins σ Q) X.xe s
def zj(X:Cx)(id:String)(r:V->List V->Hp->VK->Prop):Prop:=
 ∀(pins:List (Addr×Obj)) (s:Shared) (σ:St) (H:Hp) (x:V) (xs:List V) (v:Value) (us:List Value) (Q:VK),Inv X pins σ H s->RelV x v->aG xs us->r x xs H Q ->
  wpAny (model X.prog X.w) X.A (call (.builtin id) (v::us)) (EP X pins σ Q) X.xe s
section
variable {X:Cx}{a b:Expr}{ta tb:TE}{pos:Pos}
theorem uH.or(h:uH X r)(h':uH X r'):uH X (λx y H Q=>r x y H Q\/r' x y H Q):=by
 intro value slice pins s σ H x y v u Q I rx ry q hs
 rcases q with q | q
 .exact h value slice pins s σ H x y v u Q I rx ry q hs
 .exact h' value slice pins s σ H x y v u Q I rx ry q hs
theorem zj.or{id:String}{r r':V->List V->Hp->VK->Prop}(h:zj X id r)(h':zj X id r'):zj X id (λx xs H Q=>r x xs H Q\/r' x xs H Q):=by
 intro pins s σ H x xs v us Q I rx rs q
 rcases q with q | q
 .exact h pins s σ H x xs v us Q I rx rs q
 .exact h' pins s σ H x xs v us Q I rx rs q
theorem Ak(hr:uH X r)(ha:PE X a ta)(hb:PE X b tb)(hs:Ow b):PE X (.Subscript a b pos) (zA r ta tb):=by
 intro pins s σ H Q I h
 exact Subscript_ (xt ha hb I h λv u s2 x y H2 I2 rx ry q=>hr a b pins s2 σ H2 x y v u Q I2 rx ry q (hs _ _))
def Ac(K:aK):R2:=λx y H Q=>∃p xs i v,x=.ref p/\y=.int i/\eG K H p xs/\dt xs i=some v/\Q v H
def Aa(K:aK):R2:=λx y H Q=>∃p xs i v,x=.ref p/\y=.int i/\gC K H p xs/\dt xs i=some v/\Q v H
def Ab:R2:=λx y H Q=>∃z i c,x=.str z/\y=.int i/\z.length<=sizeLine/\dt z.cps.toList i=some c/\Q (.str ⟨#[c]⟩) H
theorem tL:uH X (Ac X.K):=by
 intro value slice pins s σ H x y v u Q I rx ry h hs
 obtain ⟨p,xs,i,z,rfl,rfl,hq,he,q⟩:=h
 cases rx
 obtain ⟨t,rfl⟩:=ry
 obtain ⟨aA,r,pl,hz⟩:=I.list hq
 obtain ⟨j,h1,h2,h3,h4,h5⟩:=JV he
 obtain ⟨w,ew,tI⟩:=r.get h2
 have hl:=r.length
 have hn:=y2
 have fin:EP X pins σ Q w s:=⟨z,H,I,tI,q⟩
 by_cases h0:0<=i
 .have hj:i.toNat=j:=by
   rw [seqIndex_of h0 h5] at h1
   exact dC h1
  exact item_listR pl.isList h0 (by ext hz h5 hn) (by rw [hj];simpa using ew) fin hs
 .have hj:(i+(aA.toArray.size:Int)).toNat=j:=by
   rw [seqIndex_neg (DN.mp ‹_›) h4] at h1
   rw [dR,<-hl]
   exact dC h1
  exact subscriptTail_builtinR (x:=w) pl.isList.typeIs slot_list_getitem.lookup
   (wpAny_getItem_list_neg (Q:=λr s'=>r=w/\EP X pins σ Q r s') pl.isList (DN.mp ‹_›) (by rw [dR]<;>lia) (by lia) (by rw [hj];simpa using ew) ⟨rfl,fin⟩) hs
theorem wD:uH X (Aa X.K):=by
 intro value slice pins s σ H x y v u Q I rx ry h hs
 obtain ⟨p,xs,i,z,rfl,rfl,hq,he,q⟩:=h
 cases rx
 obtain ⟨t,rfl⟩:=ry
 obtain ⟨aA,r,pl,hz⟩:=I.tuple hq
 obtain ⟨j,h1,h2,h3,h4,h5⟩:=JV he
 obtain ⟨w,ew,tI⟩:=r.get h2
 have hl:=r.length
 have hn:=y2
 have fin:EP X pins σ Q w s:=⟨z,H,I,tI,q⟩
 exact subscriptTail_builtinR (x:=w) pl.typeIs Ek.lookup
  (getItem_tuple (j:=j) (Q:=λr s'=>r=w/\EP X pins σ Q r s') pl (by (clear he hs h1 h2 h5 ew;omega)) (by (clear he hs h1 h2 h4 ew;omega)) (by rw [dR,<-hl];exact h1) (by simpa using ew) ⟨rfl,fin⟩) hs
theorem VL:uH X Ab:=by
 intro value slice pins s σ H x y v u Q I rx ry h hs
 obtain ⟨z,i,c,rfl,rfl,hz,he,q⟩:=h
 obtain ⟨t,rfl⟩:=rx
 obtain ⟨t',rfl⟩:=ry
 obtain ⟨j,h1,h2,h3,h4,h5⟩:=JV he
 have hl:z.cps.toList.length=z.length:=by simp [Str.length]
 rw [hl] at h1 h4 h5
 have hn:=y2
 exact tail_any (typeIs_str s z t) slot_str_getitem.lookup (getItem_str (c:=c) (by
  have e1:decide (i < -(2^63:Int))=false:=decide_eq_false (by lia)
  have e2:decide (i≥2^63)=false:=decide_eq_false (by lia)
  rw [e1,e2,Bool.or_false]) (by rw [h1];simpa using h2) ⟨.str ⟨#[c]⟩,H,I.tok _,⟨_,rfl⟩,q⟩) hs
def RJ(K:aK):R2:=λx y H Q=>Ac K x y H Q\/Aa K x y H Q\/Ab x y H Q
theorem VJ:uH X (RJ X.K):=tL.or (wD.or VL)
theorem Zb(aA:List Value)(n j:Nat)(u:Value):pC (·.setIfInBounds j u) { cls:=.type "list",data:=.seq aA.toArray n }={ cls:=.type "list",data:=.seq (aA.set j u).toArray n }:=by
 simp [pC]
theorem Inv.lst{pins:List (Addr×Obj)}{σ:St}{H:Hp}{s:Shared}{p:Addr}{xs:List V}(I:Inv X pins σ H s)(h:H p=some (.lst xs)):
  ∃(aA:List Value) (n:Nat),aG xs aA/\s.heap.get? p=some { cls:=.type "list",data:=.seq aA.toArray n }/\xs.length<=sizeLine:=by
 obtain ⟨z,aA,n,r,e⟩:=I.bB p _ h
 exact ⟨aA,n,r,e,z⟩
theorem Inv.wB{pins:List (Addr×Obj)}{σ:St}{H:Hp}{s:Shared}{p:Addr}{xs ys:List V}{aA its':List Value}{n n':Nat}{f:Obj->Obj}(I:Inv X pins σ H s)(h:H p=some (.lst xs))
  (ho:s.heap.get? p=some { cls:=.type "list",data:=.seq aA.toArray n })(hf:f { cls:=.type "list",data:=.seq aA.toArray n }={ cls:=.type "list",data:=.seq its'.toArray n' })(r:aG ys its')(hz:ys.length<=sizeLine)(t:Nat):
  Inv X pins σ (upd H p (.lst ys)) { s with heap:=s.heap.update p f,toks:=t }:=by
 have e:(s.heap.update p f).get? p=some { cls:=.type "list",data:=.seq its'.toArray n' }:=by
  rw [D5 f ho (by rw [hf]<;>rfl),hf]
 refine I.write (x:=p) (e:=p) (by rw [h];trivial) (.inl rfl) (λb u hb q=>(BX _ _ (kY hb)).trans q) ⟨_,e⟩ ?_
 exact ⟨hz,its',n',r,e⟩
def z9:V->V->V->Hp->(Hp->Prop)->Prop:=λo i v H Q=>∃p xs k j,o=.ref p/\i=.int k/\H p=some (.lst xs)/\nR xs.length k=some j/\Q (upd H p (.lst (xs.set j v)))
theorem XR:CY X z9:=by
 intro pins s σ H o i v ov iv u Q I ro ri rv h
 obtain ⟨p,xs,k,j,rfl,rfl,hp,hj,q⟩:=h
 cases ro
 obtain ⟨t,rfl⟩:=ri
 obtain ⟨aA,n,r,ho,hz⟩:=I.lst hp
 obtain ⟨h1,h2,h3,h4⟩:=Oy hj
 have hl:=r.length
 have hn:=y2
 have I':Inv X pins σ (upd H p (.lst (xs.set j v))) { s with heap:=s.heap.update p (pC (·.setIfInBounds j u)) }:=
  I.wB hp ho (Zb aA n j u) (r.set rv j) (by rw [List.length_set];exact hz) s.toks
 by_cases h0:0<=k
 .have hk:k.toNat=j:=by
   rw [seqIndex_of h0 h4] at h1
   exact dC h1
  exact PySem.W.ki_setAt ho h0 (by lia) (by rw [dR,<-hl];exact h4) (by rw [hk];exact ⟨_,I',q⟩)
 .have hk:(k+(aA.toArray.size:Int)).toNat=j:=by
   rw [seqIndex_neg (DN.mp ‹_›) h3] at h1
   rw [dR,<-hl]
   exact dC h1
  exact PySem.W.ki_setBack ho (DN.mp ‹_›) (by rw [dR,<-hl];exact h3) (by lia) (by rw [hk];exact ⟨_,I',q⟩)
theorem Z6(lo hi:Option Int)(n:Nat):(sliceBounds lo hi none n).1=((HT.cc n 0 lo:Nat):Int)/\(sliceBounds lo hi none n).2.1=((HT.cc n n hi:Nat):Int)/\(sliceBounds lo hi none n).2.2=1:=by
 refine ⟨?_,?_,rfl⟩
 .cases lo with
  | none=>simp [sliceBounds,HT.cc]
  | some i =>
   simp only [sliceBounds,HT.cc,Ip,show (1:Int)>0 by decide,if_true]
   by_cases h:i<0
   .simp only [h,if_true]<;>lia
   .simp only [h,if_false]<;>lia
 .cases hi with
  | none=>simp [sliceBounds,HT.cc]
  | some i =>
   simp only [sliceBounds,HT.cc,Ip,show (1:Int)>0 by decide,if_true]
   by_cases h:i<0
   .simp only [h,if_true]<;>omega
   .simp only [h,if_false]<;>omega
theorem a52(aA:List Value)(lo hi:Option Int):slicePick aA.toArray lo hi none=((aA.drop (HT.cc aA.length 0 lo)).take (HT.cc aA.length aA.length hi-HT.cc aA.length 0 lo)).toArray:=by
 obtain ⟨h1,h2,h3⟩:=Z6 lo hi aA.toArray.size
 unfold slicePick
 rw [h1,h2,h3]
 simp only [sliceRange_one,pick_run,dR]<;>rfl
def GA(K:aK):V->Option Int->Option Int->Hp->VK->Prop:=λx lo hi H Q=>∃a xs,x=.ref a/\eG K H a xs/\∀p,H p=none->Q (.ref p) (upd H p (.lst (n6 xs lo hi)))
theorem tG:xU X (GA X.K):=by
 intro pins s σ H x v vl vu lo hi sl Q I rx hs pl pu h
 obtain ⟨a,xs,rfl,hx,q⟩:=h
 cases rx
 obtain ⟨aA,r,ht,hz⟩:=I.list hx
 have hlen:=r.length
 refine ⟨"list",_,slot_list_getitem.lookup,ht.isList.typeIs,?_⟩
 refine wpAny_getItem_list_slice ht.isList hs pl pu .none (by simp) ?_ (by rw [dR]<;>lia)
 rw [a52,<-hlen]
 refine ⟨.ref s.heap.objs.size,_,I.laid (t':=s.toks) (o:=.lst (n6 xs lo hi)) (λb ob q=>dh _ q) (bZ _) ?_,rfl,q _ (I.bB.fresh (bZ _))⟩
 exact ⟨jA (Qh xs lo hi) hz,_,0,(r.drop (HT.cc xs.length 0 lo)).take (HT.cc xs.length xs.length hi-HT.cc xs.length 0 lo),kG _ rfl⟩
theorem ZJ:cA X (.builtin "len") (λxs H Q=>∃p ys,xs=[.ref p]/\(eG X.K H p ys\/gC X.K H p ys)/\Q (.int ys.length) H):=by
 intro pins s σ H xs us Q I r h
 obtain ⟨p,ys,rfl,hq,q⟩:=h
 obtain ⟨u,rfl,rx⟩:=vals1 r
 cases rx
 have hn:=y2
 rcases hq with hq | hq
 .obtain ⟨aA,r',pl,hz⟩:=I.list hq
  have hlen:=r'.length
  exact Calls.call_len_list pl.isList (by simp only [dR]<;>lia) ⟨.int ys.length,H,I.tok _,⟨s.toks+1,by rw [dR,hlen]⟩,q⟩
 .obtain ⟨aA,r',pl,hz⟩:=I.tuple hq
  have hlen:=r'.length
  exact len_tuple pl (by simp only [dR]<;>omega) ⟨.int ys.length,H,I.tok _,⟨s.toks+1,by rw [dR,hlen]⟩,q⟩
theorem cA.or(h:cA X f r)(h':cA X f r'):cA X f (λxs H Q=>r xs H Q\/r' xs H Q):=by
 intro pins s σ H xs us Q I rs q
 rcases q with q | q
 .exact h pins s σ H xs us Q I rs q
 .exact h' pins s σ H xs us Q I rs q
theorem ZK:cA X (.type "list") (λxs H Q=>∃p ys,xs=[.ref p]/\(eG X.K H p ys\/gC X.K H p ys)/\∀l,H l=none->Q (.ref l) (upd H l (.lst ys))):=by
 intro pins s σ H xs us Q I r h
 obtain ⟨p,ys,rfl,hq,q⟩:=h
 obtain ⟨u,rfl,rx⟩:=vals1 r
 cases rx
 have fin:∀(aA:List Value),aG ys aA->ys.length<=sizeLine->∀(h':Heap) (c':Nat),(∀b o',s.heap.get? b=some o'->h'.get? b=some o') ->
   h'.get? s.heap.objs.size=some { cls:=.type "list",dict:=none,data:=.seq aA.toArray c',slots:=#[] }->EP X pins σ Q (.ref s.heap.objs.size) { s with heap:=h' }:=λaA r' hz h' c' kp e =>
  ⟨.ref s.heap.objs.size,_,I.laid (t':=s.toks) kp (bZ _) (show bH X.prog X.w _ h' _ (.lst ys) from ⟨hz,aA,c',r',e⟩),rfl,q _ (I.bB.fresh (bZ _))⟩
 rcases hq with hq | hq
 .obtain ⟨aA,r',pl,hz⟩:=I.list hq
  have hlen:=r'.length
  obtain ⟨o,ho,hc,n,hd⟩:=pl.isList
  exact call_list_seq p (.inl rfl) ho hc hd (λh' c' kp e=>fin aA r' hz h' c' kp e) (by simp only [dR]<;>omega)
 .obtain ⟨aA,r',pl,hz⟩:=I.tuple hq
  have hlen:=r'.length
  obtain ⟨o,ho,hc,n,hd⟩:=pl
  exact call_list_seq p (.inr rfl) ho hc hd (λh' c' kp e=>fin aA r' hz h' c' kp e) (by simp only [dR]<;>omega)
theorem Z7:cA X (.type "tuple") (λxs H Q=>∃p ys,xs=[.ref p]/\((eG X.K H p ys/\∀l,H l=none->Q (.ref l) (upd H l (.tup ys)))\/(gC X.K H p ys/\Q (.ref p) H))):=by
 intro pins s σ H xs us Q I r h
 obtain ⟨p,ys,rfl,h⟩:=h
 obtain ⟨u,rfl,rx⟩:=vals1 r
 cases rx
 rcases h with ⟨hq,q⟩ | ⟨hq,q⟩
 .obtain ⟨aA,r',pl,hz⟩:=I.list hq
  have hlen:=r'.length
  refine call_tuple_list pl.isList (λh' kp=>?_) (by simp only [dR]<;>omega)
  have I1:Inv X pins σ H { s with heap:=h' }:=I.kept (t':=s.toks) kp
  have I2:Inv X pins σ (upd H h'.objs.size (.tup ys)) { s with heap:=h'.push { cls:=.type "tuple",data:=.seq aA.toArray } }:=
   I1.laid (t':=s.toks) (λb o e=>dh _ e) (bZ _) (show bH X.prog X.w _ _ _ (.tup ys) from ⟨hz,aA,r',IsTup.new _ _⟩)
  exact ⟨.ref h'.objs.size,_,I2,rfl,q _ (I1.bB.fresh (bZ _))⟩
 .obtain ⟨aA,r',pl,hz⟩:=I.tuple hq
  exact call_tuple_same pl ⟨.ref p,H,I,rfl,q⟩
def FX(K:aK)(T:String)(x:V)(H:Hp):Prop:=match x with
 | .str _=>T = "str"
 | .int _=>T = "int"
 | .ref p=>(T = "list" /\ ∃xs,eG K H p xs)\/(T = "tuple" /\ ∃o,K.lookup p=some o/\o.cls=.type "tuple" /\ o.dict=none) \/
   (T = "dict" /\ ((∃aF,H p=some (.dK aF))\/∃aF,H p=some (.dT aF)))\/(T = "set" /\ ∃S n,H p=some (.set S n))
 | _=>False
theorem Ov{pins:List (Addr×Obj)}{σ:St}{H:Hp}{s:Shared}{T:String}{x:V}{v:Value}(I:Inv X pins σ H s)(r:RelV x v)(ty:FX X.K T x H):
  s.TypeIs v T/\∀a,v=.ref a->∃ob,s.heap.get? a=some ob/\ob.dict=none:=by
 cases x with
 | str z =>
  obtain ⟨t,rfl⟩:=r
  cases (show T = "str" from ty)
  exact ⟨typeIs_str s z t,λ_ e=>nomatch e⟩
 | int i =>
  obtain ⟨t,rfl⟩:=r
  cases (show T = "int" from ty)
  exact ⟨typeIs_int s i t,λ_ e=>nomatch e⟩
 | ref p =>
  cases r
  rcases ty with ⟨rfl,xs,hq⟩ | ⟨rfl,o,hk,hc,hd⟩ | ⟨rfl,hk⟩ | ⟨rfl,S,n,hk⟩
  .obtain ⟨aA,_,pl,_⟩:=I.list hq
   refine ⟨pl.isList.typeIs,λa e=>?_⟩
   cases e
   obtain ⟨o,n,e,c,hd,_⟩:=pl
   exact ⟨o,e,hd⟩
  .refine ⟨⟨o,I.j9 p o hk,hc⟩,λa e=>?_⟩
   cases e
   exact ⟨o,I.j9 _ o hk,hd⟩
  .have z:∃o,s.heap.get? p=some o/\o.ExactDict:=by
    rcases hk with ⟨aF,hk⟩ | ⟨aF,hk⟩
    .obtain ⟨_,_,_,_,o,_,_,e,ex,_⟩:=I.bB p _ hk
     exact ⟨o,e,ex⟩
    .obtain ⟨_,_,_,_,o,_,_,e,ex,_⟩:=I.bB p _ hk
     exact ⟨o,e,ex⟩
   obtain ⟨o,e,ex⟩:=z
   refine ⟨⟨o,e,ex.1⟩,λa e2=>?_⟩
   cases e2
   exact ⟨o,e,ex.2.1⟩
  .obtain ⟨o,_,_,_,e,ex,_⟩:=I.bB p _ hk
   refine ⟨⟨o,e,ex.1⟩,λa e2=>?_⟩
   cases e2
   exact ⟨o,e,ex.2.1⟩
 | _=>exact mh ty
def Gc(K:aK)(T:String)(r:V->List V->Hp->VK->Prop)(to:TE):TE:=λσ H Q=>to σ H λx H1=>FX K T x H1/\r x [] H1 Q
def Rm(K:aK)(T:String)(r:V->List V->Hp->VK->Prop)(to:TE)(t:TA):TE:=λσ H Q=>to σ H λx H1=>FX K T x H1/\t σ H1 λxs H2=>r x xs H2 Q
variable {o e:Expr}{es:List Expr}{to:TE}{t:TA}{name:Str}{apos bj:Pos}{T id:String}{r:V->List V->Hp->VK->Prop}
theorem Vh(pa:PlainAttrs T)(slot:Slot T name id)(wH:typeOf (.builtin id)=pure (.type "method_descriptor"))(hm:zj X id r)(ho:PE X o to)
  (cH:attributeBase o name X.env (eval o X.env)=eval o X.env:=by rfl)(cF:(apos.endLine==bj.line)=true:=by rfl):PE X (.Call (.Attribute o name apos) [] [] bj) (Gc X.K T r to):=by
 intro pins s σ H Q I h
 refine wpAny_Call_method0_late cH cF (bQ (ho pins s σ H _ I h) λv s1 ⟨x,H1,I1,r1,ty,q1⟩=>?_)
 obtain ⟨h1,h2⟩:=Ov I1 r1 ty
 exact ⟨T,id,pa,slot,wH,h1,h2,M7 rfl (PySem.evalArgs_none (hm pins s1 σ H1 x [] v [] Q I1 r1 .nil q1))⟩
theorem NM(pa:PlainAttrs T)(slot:Slot T name id)(wH:typeOf (.builtin id)=pure (.type "method_descriptor"))(hm:zj X id r)(ho:PE X o to)(ha:PA X (e::es) t)
  (cH:attributeBase o name X.env (eval o X.env)=eval o X.env:=by rfl)
  (lC:((backTo bj (starEach (e::es) X.env)).all (λx=>!x.1)&&(backToKw bj (keywordEach [] X.env)).all (λx=>x.1.isSome)
   && decide ((e::es).length+([]:List Keyword).length+(if ([]:List Keyword).isEmpty then 0 else 1)<30))=true:=by rfl)
  (cF:(apos.endLine==bj.line)=true:=by rfl)(hs:starEach (e::es) X.env=(false,eval e X.env)::starEach es X.env:=by rfl)(wJ:(backTo bj (starEach es X.env)).any (·.1)=false:=by rfl):
  PE X (.Call (.Attribute o name apos) (e::es) [] bj) (Rm X.K T r to t):=by
 intro pins s σ H Q I h
 refine wpAny_Call_method_late cH lC cF rfl (bQ (ho pins s σ H _ I h) λv s1 ⟨x,H1,I1,r1,ty,q1⟩=>?_)
 obtain ⟨h1,h2⟩:=Ov I1 r1 ty
 refine ⟨T,id,pa,slot,wH,h1,h2,?_⟩
 have hA:=ha bj pins s1 σ H1 _ I1 q1
 rw [hs] at hA ⊢
 refine M7 (by show (false||(backTo bj (starEach es X.env)).any (·.1))=false;rw [wJ]<;>rfl) (Calls.evalArgs_plain ?_)
 exact bQ hA λus s2 ⟨vs,H2,I2,r2,q2⟩=>hm pins s2 σ H2 x vs v us Q I2 r1 r2 q2
end
end L2
namespace L2
open PySem PySem.Spec PyProof.Rows
def LN(X:Cx)(id:String)(r:V->List V->Hp->VK->Prop):Prop:=
 ∀(pins:List (Addr×Obj)) (s:Shared) (σ:St) (H:Hp) (x:V) (xs:List V) (v:Value) (us:List Value) (Q:VK),Inv X pins σ H s->RelV x v->aG xs us->r x xs H Q ->
  wpAny (model X.prog X.w) X.A (call (.builtin id) (v::us)) (EP X pins σ Q) X.xe s
theorem aG.one:∀{x:V} {us:List Value},aG [x] us->∃u,us=[u]/\RelV x u
 | _,_,.cons r .nil=>⟨_,rfl,r⟩
theorem aG.two:∀{x y:V} {us:List Value},aG [x,y] us->∃u v,us=[u,v]/\RelV x u/\RelV y v
 | _,_,_,.cons r (.cons q .nil)=>⟨_,_,rfl,r,q⟩
theorem aG.zero:∀{us:List Value},aG [] us->us=[]
 | _,.nil=>rfl
theorem aG.dropLast(h:aG xs us):aG xs.dropLast us.dropLast:=by
 induction h with
 | nil=>exact .nil
 | cons r t ih =>
  cases t with
  | nil=>exact .nil
  | cons q t'=>exact .cons r ih
theorem aG.eraseIdx:∀{xs:List V} {us:List Value} (i:Nat),aG xs us->aG (xs.eraseIdx i) (us.eraseIdx i)
 | _,_,_,.nil=>.nil
 | _,_,0,.cons _ t=>t
 | _,_,i+1,.cons r t=>.cons r (aG.eraseIdx i t)
theorem aG.reverse(h:aG xs us):aG xs.reverse us.reverse:=by
 induction h with
 | nil=>exact .nil
 | cons r t ih=>rw [List.reverse_cons,List.reverse_cons];exact aG.append ih (.cons r .nil)
theorem Y6{α:Type}(l:List α):l.eraseIdx (l.length-1)=l.dropLast:=by
 induction l with
 | nil=>rfl
 | cons a r ih =>
  cases r with
  | nil=>rfl
  | cons b r =>
   have e:(a::b::r).length-1=((b::r).length-1)+1:=by
    have h1:(a::b::r).length=r.length+2:=rfl
    have h2:(b::r).length=r.length+1:=rfl
    assumption
   rw [e,List.eraseIdx_cons_succ,ih]
   all_goals rfl
section
variable {X:Cx}{pins:List (Addr×Obj)}{σ:St}{H:Hp}{s:Shared}{l b:Addr}{xs ys zs:List V}
theorem Inv.wC{aA its':List Value}{n:Nat}{t':Nat}(I:Inv X pins σ H s)(hH:H l=some (.lst xs))
  (e:s.heap.get? l=some { cls:=.type "list",data:=.seq aA.toArray n })(hf:f aA.toArray=its'.toArray)(hv:aG ys its')(hz:ys.length<=sizeLine):
  Inv X pins σ (upd H l (.lst ys)) { s with heap:=s.heap.update l (pC f),toks:=t' }:=by
 have q:=PySem.IsL.update e f
 rw [hf] at q
 refine I.write (x:=l) (e:=l) (by rw [hH];exact trivial) (.inl rfl) (λb' u hb hu=>(BX s.heap (pC f) (kY hb)).trans hu) ⟨_,q⟩ ?_
 exact ⟨hz,its',_,hv,q⟩
theorem Inv.GR(I:Inv X pins σ H s)(hv:aG ys aA)(hz:ys.length<=sizeLine):
  Inv X pins σ (upd H s.heap.objs.size (.lst ys)) { s with heap:=s.heap.push { cls:=.type "list",data:=.seq aA.toArray },toks:=t' }:=
 I.laid (λ_ _ q=>dh _ q) (bZ _) ⟨hz,aA,0,hv,kG _ rfl⟩
theorem Inv.fresh(I:Inv X pins σ H s):H s.heap.objs.size=none:=I.bB.fresh (bZ _)
theorem Inv.qm(I:Inv X pins σ H s)(hH:H l=some (.lst xs)):xs.length<=sizeLine/\∃(aA:List Value) (n:Nat),aG xs aA/\xs.length=aA.length/\s.heap.get? l=some { cls:=.type "list",data:=.seq aA.toArray n }:=by
 obtain ⟨z,aA,n,r,e⟩:=I.bB l _ hH
 exact ⟨z,aA,n,r,r.length,e⟩
theorem X5(h:n<=sizeLine):Jb n=false:=by
 unfold Jb
 exact decide_eq_false (Nat.not_lt.mpr ‹_›)
end
section
variable {X:Cx}
def WX:V->List V->Hp->VK->Prop:=λx vs H Q=>∃l xs y,x=.ref l/\vs=[y]/\H l=some (.lst xs)/\xs.length<sizeLine/\Q .bz (upd H l (.lst (xs++[y])))
theorem Yv:LN X "list.append" WX:=by
 intro pins s σ H x vs v us Q I rx rv h
 obtain ⟨l,xs,y,rfl,rfl,hH,hz,q⟩:=h
 cases rx
 obtain ⟨u,rfl,ru⟩:=rv.one
 obtain ⟨z,aA,n,r,hl,e⟩:=I.qm hH
 refine call_meets M6 ⟨_,e,rfl⟩ F.entry_list_append (F.args_list_append_2 _ _) (PySem.list_append l aA.toArray n u (by rw [dR];lia)) ⟨e,?_⟩
 refine ⟨.bz,_,I.wC (its':=aA++[u]) hH e (by simp) (r.append (.cons ru .nil)) ?_,rfl,q⟩
 rw [da,IH]
 assumption
def WY:V->List V->Hp->VK->Prop:=λx vs H Q=>∃l b xs zs,x=.ref l/\vs=[.ref b]/\H l=some (.lst xs)/\H b=some (.lst zs)/\xs.length+zs.length<=sizeLine/\Q .bz (upd H l (.lst (xs++zs)))
theorem Yw:LN X "list.extend" WY:=by
 intro pins s σ H x vs v us Q I rx rv h
 obtain ⟨l,b,xs,zs,rfl,rfl,hH,hB,hz,q⟩:=h
 cases rx
 obtain ⟨u,rfl,ru⟩:=rv.one
 cases ru
 obtain ⟨z,aA,n,r,hl,e⟩:=I.qm hH
 obtain ⟨z2,c7,n2,r2,nW,e2⟩:=I.qm hB
 have hsz:aA.toArray.size+c7.toArray.size<=sizeLine:=by rw [dR,dR];lia
 have AZ:¬(!aA.toArray.isEmpty&&Jb (aA.toArray.size+c7.toArray.size))=true:=by
  rw [X5 hsz,Bool.and_false]
  exact qU
 refine call_meets M5 ⟨_,e,rfl⟩ F.entry_list_extend (F.args_list_extend_2 _ _)
  (AutoSeq1.list_extend_list_list_0 l aA.toArray n b c7.toArray n2 AZ (by rw [dR];exact Ra ‹_›) (jA ‹_› (by decide))) ⟨e,e2,?_⟩
 refine ⟨.bz,_,I.wC (its':=aA++c7) hH e (by simp) (r.append r2) ?_,rfl,q⟩
 rw [da]
 assumption
def GB:V->List V->Hp->VK->Prop:=λx vs H Q=>∃l xs y,x=.ref l/\vs=[]/\H l=some (.lst xs)/\xs[xs.length-1]?=some y/\Q y (upd H l (.lst xs.dropLast))
theorem VS:LN X "list.pop" GB:=by
 intro pins s σ H x vs v us Q I rx rv h
 obtain ⟨l,xs,y,rfl,rfl,hH,hy,q⟩:=h
 cases rx
 have Tp:=rv.zero
 subst Tp
 obtain ⟨z,aA,n,r,hl,e⟩:=I.qm hH
 obtain ⟨u,hu,ru⟩:=r.get hy
 have AO:aA.toArray[aA.toArray.size-1]?=some u:=by
  show aA.toArray[aA.length-1]?=some u
  rw [<-sQ,<-hl]
  exact hu
 refine call_meets Nb ⟨_,e,rfl⟩ F.entry_list_pop (F.args_list_pop_1 _) (MeetsSeq.list_pop_last l aA.toArray n u AO (by rw [dR];lia)) ⟨e,?_⟩
 refine ⟨y,_,I.wC (its':=aA.dropLast) hH e ?_ r.dropLast ?_,ru,q⟩
 .show aA.toArray.eraseIdxIfInBounds (aA.toArray.size-1)=aA.dropLast.toArray
  rw [dR,List.eraseIdxIfInBounds_toArray,Y6]
 .rw [List.length_dropLast]
  exact Q9 ‹_›
def GC:R2:=λx y H Q=>∃l b xs zs,x=.ref l/\y=.ref b/\H l=some (.lst xs)/\H b=some (.lst zs)/\xs.length+zs.length<=sizeLine/\∀p,H p=none->Q (.ref p) (upd H p (.lst (xs++zs)))
theorem wj:lN X (binaryOp .Add) GC:=by
 intro pins s σ H x y v u Q I rx ry h
 obtain ⟨l,b,xs,zs,rfl,rfl,hH,hB,hz,q⟩:=h
 cases rx
 cases ry
 obtain ⟨z,aA,n,r,hl,e⟩:=I.qm hH
 obtain ⟨z2,c7,n2,r2,nW,e2⟩:=I.qm hB
 refine PySem.P.add_list e e2 ?_ (by rw [dR,dR];omega)
 have ea:aA.toArray++c7.toArray=(aA++c7).toArray:=by simp
 rw [ea]
 exact ⟨.ref _,_,I.GR (t':=s.toks) (r.append r2) (by rw [da];assumption),rfl,q _ I.fresh⟩
end
section
variable {prog:Program}{w:World}{A:Around}{E:Value->Shared->Prop}{s:Shared}
end
section
variable {X:Cx}
end
end L2
namespace Q6
open PySem PySem.W PySem.Calls PyProof.Rows
theorem a5n:∀(ns:List Int) (vs:List Value),WellAll P h vs (ns.map WData.int)->IntsAre vs ns:=by
 intro ns
 induction ns with
 | nil =>
  intro vs w
  rw [oi] at w
  cases w
  exact .nil
 | cons n ns ih =>
  intro vs w
  rw [e9] at w
  cases w with
  | cons a b =>
   cases a
   exact .cons _ _ (ih _ b)
theorem Zi{l:OpenLaw}{n:Nat}(hn:l.most=some n){h:Heap}
  (qp:l.row.toRowW.claim.pre args=true)(G5:WellAll P h vals args):
  ∃a vs ns,vals=[cK a]/\args=[WData.list (ns.map WData.int)]/\h.get? a=some { cls:=.type "list",data:=.seq vs.toArray }/\IntsAre vs ns/\ns.length<=n:=by
 have Tq:WShape.hasAll [] args [.list .int]=true:=(pre_splitW qp).1
 have hc:l.pre.holds [] { args:=args }=true:=(pre_splitW qp).2
 obtain ⟨d,r,rfl,h1,h2⟩:=hasAllW_cons Tq
 obtain rfl:=hasAllW_nil h2
 obtain ⟨xs,rfl,h3⟩:=hasW_list h1
 obtain ⟨ns,rfl⟩:=items_int h3
 have hlen:ns.length<=n:=by
  unfold OpenLaw.pre at hc
  have h4:(WTm.not (.lt (.lit (.int (n:Int))) (.len (.arg 0)))).holds [] { args:=[.list (ns.map .int)] }=true:=by
   have h4:=(holds_andW hc).1
   rw [hn] at h4
   exact h4
  have h5:=condW_of h4 (w_not (w_lt w_lit (w_len_list (w_arg rfl))))
  rw [dF] at h5
  refine Nat.le_of_not_lt λq=>?_
  have q':(n:Int)<((ns.length:Nat):Int):=by exact Int.ofNat_lt.mpr ‹_›
  first
   | (rw [decide_eq_true q'] at h5;exact absurd h5 (by decide))
   | (simp at h5;omega)
 cases G5 with
 | cons w1 w2 =>
  cases w2
  cases w1 with
  | list ho Hn=>exact ⟨_,_,ns,rfl,rfl,ho,a5n ns _ Hn,hlen⟩
theorem Zr(l:OpenLaw)(args:List WData):l.row.toRowW.claim.post args (.bool true) args=true:=
 postW_of (r:=l.row.toRowW) (X:=(true==true))
  (show WShape.has [] (.bool true) .bool=true by first | rfl | decide | simp [WShape.has,WShape.arms,WShape.armsAll])
  (show (WTm.eq .res (.lit (.bool true))).value [] { args:=args,res:=some (.bool true),after:=args }=some (.bool (true==true)) from w_eq_bool (w_res rfl) w_lit) rfl
theorem oj{l:OpenLaw}{n:Nat}{loose:List Str}{d:DefRec}
  (hn:l.most=some n)(A6:d.params.defaults=[])
  (call:∀(w:World) (cU aY:Shared) (mg mb:Str->Option Value) (fa:Addr) (o:Obj) (pm cd doc:Value) (a:Addr) (vs:List Value) (ns:List Int),
   Ground q loose [] XP w cU mg mb aY.heap->YP w aY.heap ->
   aY.heap.get? fa=some o->o.data=.func (docDef d.name d.params d.body d.scope pm cd doc)->aY.heap.CodeRec cd d.name->mg d.name=some (.ref fa) ->
   aY.heap.get? a=some { cls:=.type "list",data:=.seq vs.toArray }->IntsAre vs ns->ns.length<=n->aY.gens=#[] ->
   codeAny (model l.prog w) callerA (.call (.ref fa) ⟨[.ref a],[]⟩) (λr s'=>r=.ok (.ret (.bool true))/\OldK aY.heap s'.heap/\s'.os=aY.os/\AllBare s'.gens) aY):
  WalkO q loose XP YP l.row.toRowW d [] (λf vs=>HV f vs):=by
 intro w cU aY mg mb G Y fa o pm cd doc dV kV ho hd cO hD AY hg args vals as qp TQ hrd G5 tQ
 obtain rfl:dV=.none:=Dflts.none hD A6
 obtain rfl:kV=.none:=Dflts.noKw hD
 obtain ⟨a,vs,ns,rfl,rfl,wM,hints,hlen⟩:=Zi hn qp G5
 refine enter_call (vb (call w cU aY mg mb fa o pm cd doc a vs ns G Y ho (fd_plain hd) cO AY wM hints hlen hg) λr s' hq=>?_)
 obtain ⟨rfl,h2,h3,h4⟩:=hq
 exact ⟨.inl ⟨.bool true,.bool true,[],rfl,λ_=>rfl,.bool true,Zr l _,λ_=>⟨vj,λ_ hm=>(nomatch hm)⟩⟩,h2,h3,h4⟩
section
variable {prog:Program}{w:World}{A:Around}{E:Value->Shared->Prop}{s:Shared}{K:Frag}
def ledger(h:Heap)(L d:Addr):List (Addr×Obj):=(pD h.objs.size).filterMap λa=>if a=L\/a=d then none else (h.get? a).map λo=>(a,o)
end
end Q6
namespace L2
open PySem PySem.Spec PyProof.Rows
theorem P9:∀{vs:List Value} {ns:List Int},IntsAre vs ns->aG (ns.map V.int) vs
 | _,_,.nil=>.nil
 | _,_,.cons n t h=>.cons ⟨t,rfl⟩ (P9 h)
theorem P'{α:Type}{c:Prop}[Decidable c]{a b:α}(h:(if c then some a else none)=some b):c/\a=b:=by
 by_cases hc:c
 .rw [if_pos hc] at h;exact ⟨hc,dC h⟩
 .rw [if_neg hc] at h;cases h
def tK:Str:="dealt.<locals>.<lambda>"
def Tb(K:aK)(H:Hp):Prop:=∀c P,qO K "dealt" = some (c,P)->H P=some (.tab tK)
def EI(K:aK)(ts:List Addr):Bool:=match qO K "dealt" with
 | some (c,P)=>MS K c P&&(K.lookup P).isNone&&ts.contains P
 | none=>true
theorem XZ{P:Program}{w:World}{K:aK}{mg mb:Str->Option Value}{CX:qG}{k:Nat}{fa a:Addr}{fd:FuncData}{x:Str}{sp:Sp}{aY:Shared}{vs:List Value}{ns:List Int}{ts:List Addr}
  (KX:K.In aY.heap)(AX:aY.heap.Ns mainGlobals mg)(hb:aY.heap.Ns builtinsNs mb)(DB:∀x:Str,x ≠ "__name__" -> mb x=bootBuiltins x)(Hc:aY.heap.NoLimit)(hg:aY.gens=#[])
  (T5:∃bm ob,mg "__builtins__" = some (.ref bm)/\bm≠builtinsNs/\aY.heap.get? bm=some ob/\ob.cls=.type "module" /\ ob.dict=some builtinsNs/\ob.data=.plain)
  (hL:EI K ts=true)(Ba:∀P∈ts,aY.heap.get? P=some (yE #[]))
  (ha:aY.heap.get? a=some { cls:=.type "list",data:=.seq vs.toArray })(hi:IntsAre vs ns)(hl:ns.length<=sizeLine)(hr:bY k callerA)
  (F:∀base:Heap,K.In base->base.Ns mainGlobals mg->cn P w K mg base CX k fa fd [x] sp)(A9:∀(s:Shared) (u:Value),BindsTo s fd ⟨[u],[]⟩ [(x,u)])
  (uT:∀H:Hp,Tb K H->eG K H a (ns.map V.int)->sp [.ref a] H (λv H'=>v=.bl true/\Tb K H') λ_ _ _=>False)
  (Hs:∀H e s',CX [] H aY (λ_ _ _=>False) e s'->False):
  codeAny (model P w) callerA (.call (.ref fa) ⟨[.ref a],[]⟩) (λr s'=>r=.ok (.ret (.bool true))/\OldK aY.heap s'.heap/\s'.os=aY.os/\AllBare s'.gens) aY:=by
 have rv:=P9 hi
 have GS:=hi.length
 have tabs:∀c P,qO K "dealt" = some (c,P)->MS K c P=true/\K.lookup P=none/\aY.heap.get? P=some (yE #[]):=λc P e=>by
  unfold EI at hL
  rw [e] at hL
  simp only [ub,Option.isNone_iff_eq_none,List.contains_iff_mem] at hL
  exact ⟨hL.1.1,hL.1.2,Ba P hL.2⟩
 have core:∀H:Hp,Tb K H->eG K H a (ns.map V.int)->gF P w H aY.heap->(∀b,H b≠none->(b=a/\∃o xs,H b=some (.mF o (.lst xs)))\/∃c,qO K "dealt" = some (c,b))->(H a≠none->K.lookup a=none) ->
   codeAny (model P w) callerA (.call (.ref fa) ⟨[.ref a],[]⟩) (λr s'=>r=.ok (.ret (.bool true))/\OldK aY.heap s'.heap/\s'.os=aY.os/\AllBare s'.gens) aY:=by
  intro H hO hS bB hA hK
  have nk:∀{b:Addr} {o:Obj},aY.heap.get? b=some o->H b=none->(m7 aY.heap H).get? b=some o:=λe n=>XC e n
  have L8:∀{b:Addr} {o:Obj},aY.heap.get? b=some o->(∀xs n,o.data≠.seq xs n)->(∀xs,o.data=.fields xs->o.cls≠.none)->H b=none:=λ{b o} e d d2=>by
   cases q:H b with
   | none=>rfl
   | some u =>
    rcases hA b (by rw [q];simp) with ⟨e',_⟩ | ⟨c,e'⟩
    .subst e'
     rw [ha] at e;cases e
     exact absurd rfl (d _ _)
    .rw [(tabs c b e').2.2] at e;cases e
     exact absurd rfl (d2 _ rfl)
  have Dg:∀{b:Addr} {m:Str->Option Value},aY.heap.Ns b m->(m7 aY.heap H).Ns b m:=λ{b m} ⟨o,es,ep,e,d,r⟩=>⟨o,es,ep,nk e (L8 e (λ_ _ z=>by rw [d] at z;cases z) λ_ z=>by rw [d] at z;cases z),d,r⟩
  have MF:K.In (m7 aY.heap H):=λb o e=>nk (KX b o e) (by
   cases q:H b with
   | none=>rfl
   | some u =>
    rcases hA b (by rw [q];simp) with ⟨e',_⟩ | ⟨c,e'⟩
    .subst e'
     rw [hK (by rw [q];simp)] at e;cases e
    .rw [(tabs c b e').2.1] at e;cases e)
  have hM:Mod K mg (m7 aY.heap H):=⟨MF,Dg AX,⟨mb,Dg hb,DB⟩,let ⟨mc,h1,h2⟩:=Hc;⟨mc,Dg h1,h2⟩,let ⟨bm,ob,b1,b2,b3,b4,b5,b6⟩:=T5;⟨bm,ob,b1,b2,nk b3 (L8 b3 (λ_ _ z=>by rw [b6] at z;cases z) λ_ z=>by rw [b6] at z;cases z),b4,b5,b6⟩⟩
  have e0:mC P w K mg (m7 aY.heap H) callerA [] aY H:=⟨rfl,hM,λb o e=>Wk e,Nat.le_of_eq (YF _ _),trivial,λb hb=>absurd (show b∈([]:List Addr) from hb) (by simp),bB,.of_eq hg⟩
  refine vb ((F _ MF (Dg AX)).run callerA [] aY H ⟨[.ref a],[]⟩ [.ref a] [.ref a] _ _ hr e0 (A9 aY (.ref a)) (.cons rfl .nil) (uT H hO hS)) λr s' h=>?_
  cases r with
  | error e=>exact (Hs H e s' h).elim
  | ok fl =>
   cases fl with
   | next=>exact mh h
   | brk=>exact mh h
   | cont=>exact mh h
   | ret u =>
    obtain ⟨v,H',os,bare,un,AW,r',q,qT⟩:=h
    subst q
    obtain rfl:u=n9 true:=r'
    have old:∀b o,aY.heap.get? b=some o->s'.heap.get? b=some o\/∃c ps,qO K "dealt" = some (c,b)/\s'.heap.get? b=some (yE ps):=λb o e=>by
     cases q:H b with
     | none=>exact .inl (un.keep b o e q (by intro z;exact absurd (show b∈([]:List Addr) from z) (by simp)) (by simp))
     | some u =>
      rcases hA b (by rw [q];simp) with ⟨_,ob,xs,z⟩ | ⟨c,e'⟩
      .have z2:=un.ik b ob _ z
       obtain ⟨e1,_⟩:=bB b _ z
       obtain ⟨e2,_⟩:=AW b _ z2
       rw [e] at e1;cases e1
       exact .inl e2
      .obtain ⟨ps,e2,_⟩:=AW b _ (qT c b e')
       exact .inr ⟨c,ps,e',e2⟩
    refine ⟨rfl,⟨λb o e=>?_,λb o e=>?_⟩,os,bare⟩
    .rcases old b o e with z | ⟨c,ps,e',z⟩
     .exact .inl z
     .obtain ⟨t1,_,t3⟩:=tabs c b e'
      rw [t3] at e;cases e
      exact .inr (.inl ⟨((PySem.W.codeHd_of_K KX t1).tab t3).isCodeTable,rfl,#[],ps,rfl,by rw [Array.empty_append];exact z⟩)
    .rcases old b o e with z | ⟨c,ps,e',z⟩
     .exact ⟨o,z⟩
     .exact ⟨_,z⟩
 have L7:∀(H:Hp) (b:Addr),(∃c,qO K "dealt" = some (c,b))->bH P w H aY.heap b (.tab tK):=λH b ⟨c,e⟩=>⟨#[],(tabs c b e).2.2,trivial,λpos cv h=>by simp [codeAmong] at h⟩
 have Ma:∀c b,qO K "dealt" = some (c,b)->b≠a:=λc b e z=>by
  have:=(tabs c b e).2.2
  rw [z,ha] at this
  cases this
 cases hk:K.lookup a with
 | some o =>
  have e:=KX a o hk
  rw [ha] at e
  cases e
  refine core (λb=>if (qO K "dealt").map (·.2)=some b then some (.tab tK) else none) (λc b e=>if_pos (by rw [e];rfl)) (.inr ⟨_,vs.toArray,_,hk,rfl,rfl,rfl,by rw [dR,GS];exact hl,by simpa using rv⟩) (λb u z=>?_) (λb z=>?_) λz=>?_
  .obtain ⟨hc,rfl⟩:=(P' z)
   obtain ⟨⟨c,b'⟩,e,rfl⟩:=yG.mp hc
   exact L7 _ _ ⟨c,e⟩
  .by_cases hc:(qO K "dealt").map (·.2)=some b
   .obtain ⟨⟨c,b'⟩,e,rfl⟩:=yG.mp hc
    exact .inr ⟨c,e⟩
   .exact absurd (if_neg hc) z
  .by_cases hc:(qO K "dealt").map (·.2)=some a
   .obtain ⟨⟨c,b'⟩,e,e2⟩:=yG.mp hc
    exact absurd e2 (Ma c b' e)
   .exact absurd (if_neg hc) z
 | none =>
  refine core (λb=>if b=a then some (.mF { cls:=.type "list",data:=.seq vs.toArray } (.lst (ns.map V.int))) else if (qO K "dealt").map (·.2)=some b then some (.tab tK) else none) (λc b e=>by show (if b=a then _ else _)=_;rw [if_neg (Ma c b e),if_pos (by rw [e];rfl)]) (.inl (.inr ⟨{ cls:=.type "list",data:=.seq vs.toArray },if_pos rfl⟩)) (λb u z=>?_) (λb z=>?_) λ_=>hk
  .by_cases hb:b=a
   .have z':=(if_pos hb).symm.trans z
    cases z'
    subst hb
    exact ⟨ha,by rw [dF];exact hl,vs,_,rv,ha⟩
   .obtain ⟨hc,rfl⟩:=P' ((if_neg hb).symm.trans z)
    obtain ⟨⟨c,b'⟩,e,rfl⟩:=yG.mp hc
    exact L7 _ _ ⟨c,e⟩
  .by_cases hb:b=a
   .exact .inl ⟨hb,_,_,if_pos hb⟩
   .by_cases hc:(qO K "dealt").map (·.2)=some b
    .obtain ⟨⟨c,b'⟩,e,rfl⟩:=yG.mp hc
     exact .inr ⟨c,e⟩
    .exact absurd ((if_neg hb).trans (if_neg hc)) z
end L2
namespace L2
open PySem PySem.Spec PyProof.Rows
abbrev KOf{K:aK}{h:Heap}(_:K.In h):aK:=K
theorem tu{l:Ih}{n k:Nat}{q:Program}{loose:List Str}{XP:(Str->Option Value)->Heap->Prop}{YP:World->Heap->Prop}{d:DefRec}{K:Params->aK}{CX:World->qG}{sp:World->Sp}{x:Str}{ts:List Addr}
  (hn:l.most=some n)(Dv:n<=sizeLine)(A6:d.params.defaults=[])(hr:bY k callerA)
  (hY:∀(w:World) (h:Heap),YP w h->(K w.params).In h/\∀P∈ts,h.get? P=some (yE #[]))(hL:∀w:World,EI (K w.params) ts=true)
  (F:∀(w:World) (mg:Str->Option Value) (fa:Addr) (h:Heap),(K w.params).In h->h.Ns mainGlobals mg->mg d.name=some (.ref fa) ->
   ∃fd:FuncData,(∀(s:Shared) (u:Value),BindsTo s fd ⟨[u],[]⟩ [(x,u)]) /\
    ∀base:Heap,(K w.params).In base->base.Ns mainGlobals mg->cn l.prog w (K w.params) mg base (CX w) k fa fd [x] (sp w))
  (uT:∀(w:World) (H:Hp) (a:Addr) (ns:List Int),ns.length<=n->Tb (K w.params) H->eG (K w.params) H a (ns.map V.int)->sp w [.ref a] H (λv H'=>v=.bl true/\Tb (K w.params) H') λ_ _ _=>False)
  (Hs:∀(w:World) (H:Hp) (s:Shared) (e:Value) (s':Shared),CX w [] H s (λ_ _ _=>False) e s'->False):
  PySem.W.WalkO q loose XP YP l.row.toRowW d [] (λf vs=>HV f vs):=by
 refine Q6.oj hn A6 λw cU aY mg mb fa o pm cd doc a vs ns G Y ho hd cO AY wM hints hlen hg=>?_
 obtain ⟨KX,Ba⟩:=hY w _ Y
 obtain ⟨fd,hb,hF⟩:=F w mg fa _ KX G.T.g AY
 exact XZ KX G.T.g G.T.b G.T.builtins G.T.nolimit hg G.T.bmain (hL w) Ba wM hints (jA hlen Dv) hr hF hb (λH hO hS=>uT w H a ns hlen hO hS) λH e s'=>Hs w H aY e s'
end L2
namespace L2
open PySem PySem.Spec PyProof.Rows
def oy(s:Stmt)(j:Nat):Stmt:=match s with
 | .ClassDef _ _ _ body _ _ _ _ _ _ _=>body.getD j (.Pass ⟨0,0,0,0⟩)
 | _=>.Pass ⟨0,0,0,0⟩
def nA(s:Stmt):Arguments:=match s with
 | .FunctionDef _ a _ _ _ _ _ _ _ _=>a
 | _=>{ posonlyargs:=[],args:=[],vararg:=none,kwonlyargs:=[],kw_defaults:=[],kwarg:=none,defaults:=[] }
def jD(s:Stmt):List Stmt:=match s with
 | .FunctionDef _ _ b _ _ _ _ _ _ _=>b
 | _=>[]
def dS(s:Stmt):Scope:=match s with
 | .FunctionDef _ _ _ _ _ _ sc _ _ _=>sc
 | _=>{ kind:=.function,names:=[],isGenerator:=false,isCoroutine:=false }
abbrev lK:qG:=λ_ _ _ _ _ _=>False
abbrev E0:XK:=λ_ _ _=>False
theorem EC:Cd lK X E0:=λ_ _ _ _ _ _ _ h=>h.elim
structure tj(K:aK)(x qual:Str)(st:Stmt)(f:Addr)(fd:FuncData):Prop where
 ex:∃(oc:Value) (od:Option Addr) (kV doc pm:Value) (an:Option Addr) (dg ct:Value) (uO:Array (Option Value)),
  fd=mf x qual (nA st) (jD st) (dS st) .none kV doc pm an dg ct/\K.lookup f=some ⟨oc,od,.func fd,uO⟩/\BE K dg qual=true
 kp:p6 K (.ref f)=true
section
variable {P:Program}{w:World}{K:aK}{mg:Str->Option Value}{base:Heap}
theorem tj.ok{x qual:Str}{st:Stmt}{f:Addr}{fd:FuncData}{N ps:List Str}{k:Nat}{sp:Sp}(F:tj K x qual st f fd)(S:cE N ps (dS st))(len:∀vs H Q E,sp vs H Q E->vs.length=ps.length)
  (cG:∀(dg:Value) (A:Around) (outer:List Env) (s:Shared) (H:Hp) (vs:List V) (Q:VK) (E:XK),bY k (A.deeper (envOfC qual (dS st) s.heap.objs.size f dg))->sp vs H Q E ->
   ∃t,qb (n5 lK P w K mg base N qual (dS st) f dg A outer s H E).j0 (jD st) t/\t { nx:=λ_ H'=>Q .bz H',rt:=Q } (start N vs) H):cn P w K mg base lK (k+1) f fd ps sp:=by
 obtain ⟨oc,od,kV,doc,pm,an,dg,ct,uO,rfl,lk,cO⟩:=F.ex
 refine Bj lk cO S len λA outer s H vs Q E hr uT=>?_
 obtain ⟨t,h,q⟩:=cG dg A outer s H vs Q E hr uT
 exact ⟨t,h.j0,q⟩
theorem tj.binds{x qual:Str}{st:Stmt}{f:Addr}{fd:FuncData}{ps:List Str}(F:tj K x qual st f fd)
  (h:∀(kV doc pm:Value) (an:Option Addr) (dg ct:Value) (us:List Value),us.length=ps.length->bindArgs (mf x qual (nA st) (jD st) (dS st) .none kV doc pm an dg ct) ⟨us,[]⟩=pure (ps.zip us)):Binds K fd ps []:=by
 obtain ⟨oc,od,kV,doc,pm,an,dg,ct,uO,rfl,lk,cO⟩:=F.ex
 exact .all (h kV doc pm an dg ct)
theorem ER{x qual:Str}{st:Stmt}{f:Addr}{oc:Value}{od an:Option Addr}{uO:Array (Option Value)}{kV doc pm dg ct:Value}(l:K.lookup f=some ⟨oc,od,.func (mf x qual (nA st) (jD st) (dS st) .none kV doc pm an dg ct),uO⟩)
  (c:BE K dg qual=true)(k:p6 K (.ref f)=true):tj K x qual st f (mf x qual (nA st) (jD st) (dS st) .none kV doc pm an dg ct):=⟨⟨oc,od,kV,doc,pm,an,dg,ct,uO,rfl,l,c⟩,k⟩
end
theorem Ju(hr:bY k A):A.units+1<cLine:=Nat.lt_of_le_of_lt (Nl (by decide:1<=64) _) hr.units
section
variable {X:Cx}
theorem pv(i:Nat){x:Str}{pos:Pos}(hN:X.N[i]?=some x:=by rfl)(hv:jK X.env.scope x:=by first | exact cC rfl | exact bM (cC rfl) | exact bM (bM rfl))(hd:(x==("__debug__":Str))=false:=by decide)
  (cO:(x==("__classdict__":Str))=false:=by decide):PE X (.Name x pos) (zx i):=sX hN hv hd cO
end
def aH(H H':Hp):Prop:=∀b o,H b=some o->H' b=some o
theorem aH.refl(H:Hp):aH H H:=λ_ _ h=>h
theorem aH.trans(a:aH H H1)(b:aH H1 H2):aH H H2:=λc o h=>b c o (a c o h)
theorem aH.free(e:aH H H')(h:H' l=Option.none):H l=Option.none:=by
 cases q:H l with
 | none=>rfl
 | some o =>
  rw [e l o q] at h
  cases h
theorem aH.seq{K:aK}{H H':Hp}{a:Addr}{xs:List V}(e:aH H H')(h:eG K H a xs):eG K H' a xs:=by
 rcases h with (h | ⟨o,h⟩) | h
 .exact .inl (.inl (e _ _ h))
 .exact .inl (.inr ⟨o,e _ _ h⟩)
 .exact .inr h
end L2
set_option maxHeartbeats 4000000
namespace L2
open PySem PySem.Spec PyProof.Rows
section
variable {κ:Type}[DecidableEq κ]
noncomputable def gH(aF:List (κ×V))(k:κ):Option V:=(aF.find? λkv=>decide (kv.1=k)).map (·.2)
noncomputable def putK(aF:List (κ×V))(k:κ)(v:V):List (κ×V):=
 if (aF.any λkv=>decide (kv.1=k))=true then aF.map (λkv=>if kv.1=k then (kv.1,v) else kv) else aF++[(k,v)]
noncomputable def NK(aF:List (κ×V))(k:κ):List (κ×V):=aF.filter λkv=>decide (kv.1≠k)
theorem Kw{p:κ×V}{r:List (κ×V)}{k:κ}(e:p.1=k):gH (p::r) k=some p.2:=by simp [gH,xm,e]
theorem Ku{p:κ×V}{r:List (κ×V)}{k:κ}(e:¬p.1=k):gH (p::r) k=gH r k:=by simp [gH,xm,e]
theorem Ph(k:κ):∀aF:List (κ×V),(aF.any λkv=>decide (kv.1=k))=(gH aF k).isSome
 | []=>rfl
 | p::r=>by
  rw [D2]
  by_cases e:p.1=k
  .simp only [Kw e,decide_eq_true e,Bool.true_or,Option.isSome_some]
  .rw [Ku e,decide_eq_false e,Bool.false_or];exact Ph k r
theorem Qj(aF:List (κ×V))(k:κ)(v:V):(putK aF k v).length<=aF.length+1:=by
 unfold putK
 split
 .rw [dF];omega
 .rw [da,ff,DQ];omega
theorem d9.jr{o:Option V}{u:Option Value}(r:d9 o u):o.isSome=u.isSome:=by
 cases o with
 | none=>cases u with
  | none=>rfl
  | some _=>exact (show False from r).elim
 | some _=>cases u with
  | none=>exact (show False from r).elim
  | some _=>rfl
theorem d9.getD{o:Option V}{u:Option Value}{d:V}{d':Value}(r:d9 o u)(rd:RelV d d'):RelV (o.getD d) (u.getD d'):=by
 cases o with
 | none=>cases u with
  | none=>exact rd
  | some _=>exact (show False from r).elim
 | some _=>cases u with
  | none=>exact (show False from r).elim
  | some _=>exact r
theorem KV.val{aF:List (κ×V)}{vs:List (κ×Value)}(r:KV aF vs)(k:κ):d9 (gH aF k) (valueAt vs k):=by
 unfold KV at r
 induction r with
 | nil=>exact rV
 | @cons p q ps qs h t ih =>
  obtain ⟨h1,h2⟩:=h
  by_cases e:p.1=k
  .have e':q.1=k:=h1.symm.trans e
   have b:valueAt (q::qs) k=some q.2:=by simp [valueAt,xm,e']
   rw [Kw e,b];exact h2
  .have e':¬q.1=k:=λz=>e (h1.trans z)
   have b:valueAt (q::qs) k=valueAt qs k:=by simp [valueAt,xm,e']
   rw [Ku e,b];exact ih
theorem KV.any{aF:List (κ×V)}{vs:List (κ×Value)}(r:KV aF vs)(k:κ):(aF.any λkv=>decide (kv.1=k))=vs.any λkv=>decide (kv.1=k):=by
 unfold KV at r
 induction r with
 | nil=>rfl
 | cons h t ih=>rw [D2,D2,ih,h.1]
theorem KV.wb{aF:List (κ×V)}{vs:List (κ×Value)}(r:KV aF vs)(k:κ){y:V}{u:Value}(ry:RelV y u):
  KV (aF.map λkv=>if kv.1=k then (kv.1,y) else kv) (vs.map λkv=>if kv.1=k then (kv.1,u) else kv):=by
 unfold KV at r ⊢
 induction r with
 | nil=>exact .nil
 | @cons p q ps qs h t ih =>
  rw [e9,e9]
  refine .cons ?_ ih
  obtain ⟨h1,h2⟩:=h
  by_cases e:p.1=k
  .rw [if_pos e,if_pos (h1.symm.trans e)];exact ⟨h1,ry⟩
  .rw [if_neg e,if_neg (λz=>e (h1.trans z))];exact ⟨h1,h2⟩
theorem KV.put{aF:List (κ×V)}{vs:List (κ×Value)}(r:KV aF vs)(k:κ){y:V}{u:Value}(ry:RelV y u):KV (putK aF k y) (stored vs k u):=by
 unfold putK stored
 rw [r.any k]
 by_cases e:(vs.any λkv=>decide (kv.1=k))=true
 .rw [if_pos e,if_pos e];exact r.wb k ry
 .rw [if_neg e,if_neg e];exact Paired.snoc r ⟨rfl,ry⟩
theorem KV.drop{aF:List (κ×V)}{vs:List (κ×Value)}(r:KV aF vs)(k:κ):KV (NK aF k) (without vs k):=by
 unfold KV at r ⊢
 unfold NK without
 induction r with
 | nil=>exact .nil
 | @cons p q ps qs h t ih =>
  obtain ⟨h1,h2⟩:=h
  rw [List.filter_cons,List.filter_cons]
  by_cases e:p.1=k
  .have a:¬decide (p.1≠k)=true:=by simp [e]
   have b:¬decide (q.1≠k)=true:=by simp [h1.symm.trans e]
   rw [if_neg a,if_neg b];exact ih
  .have e':¬q.1=k:=λz=>e (h1.trans z)
   have a:decide (p.1≠k)=true:=by simp [e]
   have b:decide (q.1≠k)=true:=by simp [e']
   rw [if_pos a,if_pos b];exact .cons ⟨h1,h2⟩ ih
theorem KV.length{aF:List (κ×V)}{vs:List (κ×Value)}(r:KV aF vs):aF.length=vs.length:=Paired.length r
end
theorem EH{P:Program}{w:World}{k:Key}{u:Value}(r:RelV (kV k) u):(qa P w).is k u=true:=by
 cases k with
 | inl i=>obtain ⟨t,e⟩:=(show ∃t,u=BB i t from r);subst e;exact ZL P w i t
 | inr x=>obtain ⟨t,e⟩:=(show ∃t,u=BA x t from r);subst e;exact ZM P w x t
theorem Qb{P:Program}{w:World}:∀{ks:List Key} {us:List Value},aG (ks.map kV) us->ItemsAre (qa P w) ks us
 | [],_,r=>by rw [oi] at r;cases r;exact .nil
 | k::ks,_,r=>by
  rw [e9] at r
  cases r with
  | cons h t=>exact .cons (EH h) (Qb t)
abbrev KT(H:Hp):List (List Key×V)->List (List Key×Addr×Value)->Prop:=Paired λp q=>p.1=q.1/\H q.2.1=some (.tup (p.1.map kV))/\RelV p.2 q.2.2
theorem KT.val{H:Hp}{aF:List (List Key×V)}{xs:List (List Key×Addr×Value)}(r:KT H aF xs)(k:List Key):d9 (gH aF k) ((atKey xs k).map (·.2)):=by
 induction r with
 | nil=>exact rV
 | @cons p q ps qs h t ih =>
  obtain ⟨h1,_,h2⟩:=h
  by_cases e:p.1=k
  .have e':q.1=k:=h1.symm.trans e
   have b:atKey (q::qs) k=some q.2:=by simp [atKey,xm,e']
   rw [Kw e,b];exact h2
  .have e':¬q.1=k:=λz=>e (h1.trans z)
   have b:atKey (q::qs) k=atKey qs k:=by simp [atKey,xm,e']
   rw [Ku e,b];exact ih
theorem KT.wb{H:Hp}{aF:List (List Key×V)}{xs:List (List Key×Addr×Value)}(r:KT H aF xs)(k:List Key){y:V}{u:Value}(ry:RelV y u):
  KT H (aF.map λkv=>if kv.1=k then (kv.1,y) else kv) (xs.map (putAt k u)):=by
 induction r with
 | nil=>exact .nil
 | @cons p q ps qs h t ih =>
  rw [e9,e9]
  refine .cons ?_ ih
  obtain ⟨h1,h2,h3⟩:=h
  unfold putAt
  by_cases e:p.1=k
  .rw [if_pos e,if_pos (h1.symm.trans e)];exact ⟨h1,h2,ry⟩
  .rw [if_neg e,if_neg (λz=>e (h1.trans z))];exact ⟨h1,h2,h3⟩
theorem KT.put{H:Hp}{aF:List (List Key×V)}{xs:List (List Key×Addr×Value)}(r:KT H aF xs)(k:List Key){b:Addr}{y:V}{u:Value}(hb:H b=some (.tup (k.map kV)))(ry:RelV y u):
  KT H (putK aF k y) (storedH xs k b u):=by
 have e:(aF.any λkv=>decide (kv.1=k))=(atKey xs k).isSome:=by
  rw [Ph,(r.val k).jr,Nr]
 unfold putK storedH
 rw [e]
 by_cases q:(atKey xs k).isSome=true
 .rw [if_pos q,if_pos q];exact r.wb k ry
 .rw [if_neg q,if_neg q];exact Paired.snoc r ⟨rfl,hb,ry⟩
theorem KT.keeps{H H':Hp}{aF:List (List Key×V)}{xs:List (List Key×Addr×Value)}(r:KT H aF xs)(ht:∀b ys,H b=some (.tup ys)->H' b=some (.tup ys)):KT H' aF xs:=
 Paired.wz r λ_ _ z=>⟨z.1,ht _ _ z.2.1,z.2.2⟩
section
variable {P:Program}{w:World}{H:Hp}{h:Heap}{a:Addr}
theorem NO{u:HO}(ok:gF P w H h)(e:Rd H a u):bH P w H h a u:=e.ok ok
theorem Ew{aF:List (Key×V)}(ok:gF P w H h)(e:Rd H a (.dK aF)):aF.length<=sizeLine/\(a==sysModules)=false/\∃vs,KV aF vs/\h.DictOf (qa P w) a vs:=
 show bH P w H h a (.dK aF) from NO ok e
theorem Bv{aF:List (Key×V)}(ok:gF P w H h)(e:H a=some (.dK aF)):aF.length<=sizeLine/\(a==sysModules)=false/\∃vs,KV aF vs/\h.DictOf (qa P w) a vs:=Ew ok (.inl e)
theorem EU{ks:List Key}(ok:gF P w H h)(e:H a=some (.tup (ks.map kV))):(tupleKind (qa P w)).is h ks a:=by
 obtain ⟨_,aA,r,o,h1,h2,n,h3⟩:=(show bH P w H h a (.tup (ks.map kV)) from ok a _ e)
 exact ⟨o,aA.toArray,n,h1,h2,h3,by simpa using Qb r⟩
theorem Ep{aF:List (List Key×V)}(ok:gF P w H h)(e:Rd H a (.dT aF)):aF.length<=sizeLine/\(a==sysModules)=false /\
  ∃xs,KT H aF xs/\h.DictOfH (tupleKind (qa P w)) a xs:=by
 obtain ⟨z,y,xs,r,o,es,ep,h1,h2,h3,h4,h5⟩:=(show bH P w H h a (.dT aF) from NO ok e)
 refine ⟨z,y,xs,r,o,es,ep,h1,h2,h3,h4,λx hx=>?_,h5⟩
 have all:∀{l:List (List Key×V)} {m:List (List Key×Addr×Value)},KT H l m->∀x∈m,(tupleKind (qa P w)).is h x.1 x.2.1:=by
  intro l m q
  induction q with
  | nil=>intro x hx;exact nomatch hx
  | @cons p q ps qs hq t ih =>
   intro x hx
   rcases bG.mp hx with e | hx
   .subst e
    exact EU ok (by rw [<-hq.1];exact hq.2.1)
   .exact ih x hx
 exact all r x hx
theorem Bu{aF:List (List Key×V)}(ok:gF P w H h)(e:H a=some (.dT aF)):aF.length<=sizeLine/\(a==sysModules)=false /\
  ∃xs,KT H aF xs/\h.DictOfH (tupleKind (qa P w)) a xs:=Ep ok (.inl e)
end
def lJ(H:Hp)(a:Addr)(y:V)(r:Option V):Prop:=
 (∃aF k,Rd H a (.dK aF)/\y=kV k/\r=gH aF k)\/∃aF k b,Rd H a (.dT aF)/\y=.ref b/\H b=some (.tup (k.map kV))/\r=gH aF k
def pN(H:Hp)(a:Addr)(y v:V)(H':Hp):Prop:=
 (∃aF k,H a=some (.dK aF)/\y=kV k/\aF.length<sizeLine/\H'=upd H a (.dK (putK aF k v))) \/
 ∃aF k b,H a=some (.dT aF)/\y=.ref b/\H b=some (.tup (k.map kV))/\aF.length<sizeLine/\H'=upd H a (.dT (putK aF k v))
theorem lJ.k{H:Hp}{a:Addr}{aF:List (Key×V)}{k:Key}(e:H a=some (.dK aF)):lJ H a (kV k) (gH aF k):=.inl ⟨aF,k,.inl e,rfl,rfl⟩
theorem lJ.t{H:Hp}{a b:Addr}{aF:List (List Key×V)}{k:List Key}(e:H a=some (.dT aF))(eb:H b=some (.tup (k.map kV))):lJ H a (.ref b) (gH aF k):=.inr ⟨aF,k,b,.inl e,rfl,eb,rfl⟩
theorem pN.k{H:Hp}{a:Addr}{aF:List (Key×V)}{k:Key}{v:V}(e:H a=some (.dK aF))(hl:aF.length<sizeLine):pN H a (kV k) v (upd H a (.dK (putK aF k v))):=.inl ⟨aF,k,e,rfl,hl,rfl⟩
theorem pN.t{H:Hp}{a b:Addr}{aF:List (List Key×V)}{k:List Key}{v:V}(e:H a=some (.dT aF))(eb:H b=some (.tup (k.map kV)))(hl:aF.length<sizeLine):
  pN H a (.ref b) v (upd H a (.dT (putK aF k v))):=.inr ⟨aF,k,b,e,rfl,eb,hl,rfl⟩
section
variable {X:Cx}{pins:List (Addr×Obj)}{σ:St}{H:Hp}{s:Shared}{a:Addr}{y v:V}{u r:Value}{o:Option V}{A:Around}{E:Value->Shared->Prop}
theorem Inv.big(I:Inv X pins σ H s):sysModules<s.heap.objs.size:=by
 have h:mainGlobals<s.heap.objs.size:=(I.mod.glob.keeps I.bk).lt
 exact Ib (by decide) h
theorem Yz{Q:Value->Shared->Prop}(hu:A.units+1<cLine)(I:Inv X pins σ H s)(g:lJ H a y (some v))(ry:RelV y u)(h:∀w' s',Inv X pins σ H s'->RelV v w'->Q w' s'):
  wpAny (model X.prog X.w) A (getItem (.ref a) u) Q E s:=by
 rcases g with ⟨aF,k,e,ey,l⟩ | ⟨aF,k,b,e,ey,eb,l⟩
 .subst ey
  obtain ⟨z,hd,vs,rel,dd⟩:=Ew I.bB e
  obtain ⟨w',hw,tI⟩:=d9.some_of (v:=v) (o:=valueAt vs k) (by rw [l];exact rel.val k)
  exact wpAny_getItem_of (EH ry) dd.mapOf hw (h w' _ (I.tok _) tI)
 .subst ey
  cases (show u=cK b from ry)
  obtain ⟨z,hd,xs,rel,dd⟩:=Ep I.bB e
  obtain ⟨w',hw,tI⟩:=d9.some_of (v:=v) (o:=(atKey xs k).map (·.2)) (by rw [l];exact rel.val k)
  obtain ⟨p,hp,Tz⟩:=yG.mp hw
  refine wpAny_getItem_heap (IY hu) (EU I.bB eb) dd hp ?_
  rw [Tz]
  exact h w' _ (I.tok _) tI
theorem WT{Q:Value->Shared->Prop}(hu:A.units+1<cLine)(I:Inv X pins σ H s)(g:lJ H a y o)(ry:RelV y u)(h:∀s',Inv X pins σ H s'->Q (.bool (!o.isSome)) s'):
  wpAny (model X.prog X.w) A (compareOp .NotIn u (.ref a)) Q E s:=by
 rcases g with ⟨aF,k,e,ey,l⟩ | ⟨aF,k,b,e,ey,eb,l⟩
 .subst ey
  obtain ⟨z,hd,vs,rel,dd⟩:=Ew I.bB e
  refine wpAny_notIn_of (EH ry) hd dd.mapOf ?_
  rw [<-(rel.val k).jr,<-l]
  exact h _ (I.tok _)
 .subst ey
  cases (show u=cK b from ry)
  obtain ⟨z,hd,xs,rel,dd⟩:=Ep I.bB e
  refine wpAny_notIn_heap (IY hu) (EU I.bB eb) hd dd ?_
  have q:=(rel.val k).jr
  rw [Nr] at q
  rw [<-q,<-l]
  exact h _ (I.tok _)
theorem OK{h':Heap}{t':Nat}{ob:HO}(I:Inv X pins σ H s)(mu:C1 (H a))(hs:r6 a s.heap h')(he:∃q,h'.get? a=some q)(new:bH X.prog X.w (upd H a ob) h' a ob):
  Inv X pins σ (upd H a ob) { s with heap:=h',toks:=t' }:=
 I.write (x:=a) (e:=a) mu (.inl rfl) (λb q hb z=>(hs.2 b hb).trans z) he new
theorem U8{P:Program}{w:World}{H':Hp}{h':Heap}{aF:List (Key×V)}{vs:List (Key×Value)}(z:aF.length<=sizeLine)(hd:(a==sysModules)=false)(rel:KV aF vs)(dd:h'.DictOf (qa P w) a vs):
  bH P w H' h' a (.dK aF):=⟨z,hd,vs,rel,dd⟩
theorem YA{H':Hp}{Q:Unit->Shared->Prop}(hu:A.units+1<cLine)(I:Inv X pins σ H s)(g:pN H a y v H')(ry:RelV y u)(rv:RelV v r)(h:∀s',Inv X pins σ H' s'->Q () s'):
  wpAny (model X.prog X.w) A (setItem (.ref a) u r) Q E s:=by
 rcases g with ⟨aF,k,e,ey,l,eH⟩ | ⟨aF,k,b,e,ey,eb,l,eH⟩
 .subst ey eH
  obtain ⟨z,hd,vs,rel,dd⟩:=Bv I.bB e
  have hz:vs.length<=sizeLine:=by rw [<-rel.length];exact z
  have hl:(putK aF k v).length<=sizeLine:=by have:=Qj aF k v;omega
  refine wpAny_setItem_pairs (hsz:=hz) (EH ry) dd λh' DF hs=>h _ ?_
  have he:∃q,h'.get? a=some q:=let ⟨q,_,_,hq,_⟩:=DF;⟨q,hq⟩
  exact OK I (by rw [e];exact rV) hs he (U8 hl hd (rel.put k rv) DF)
 .subst ey eH
  cases (show u=cK b from ry)
  obtain ⟨z,hd,xs,rel,dd⟩:=Bu I.bB e
  have hz:xs.length<=sizeLine:=by rw [<-Paired.length rel];exact z
  have hl:(putK aF k v).length<=sizeLine:=by have:=Qj aF k v;omega
  refine wpAny_setItem_heap (hsz:=hz) (IY hu) (EU I.bB eb) dd λh' DF hs=>h _ ?_
  obtain ⟨q,es,ep,hq,h2,h3,h4,_,h5⟩:=DF
  refine OK I (by rw [e];exact rV) hs ⟨q,hq⟩ ⟨hl,hd,_,(rel.put k eb rv).keeps λc ys ec=>?_,q,es,ep,hq,h2,h3,h4,h5⟩
  rw [dM (b4m ec e (λz=>nomatch z))]
  exact ec
end
section
variable {X:Cx}{pins:List (Addr×Obj)}{σ:St}{H:Hp}{s:Shared}{a:Addr}{aF:List (Key×V)}{k:Key}{u:Value}{A:Around}{E:Value->Shared->Prop}
end
def uF(i:Expr):Prop:=∀ov iv,subscripted i false ov iv=operate [ov,iv] (getItem ov iv)
theorem W3{prog:Program}{w:World}{A:Around}{E:Value->Shared->Prop}{s:Shared}{env:Env}{value slice:Expr}{pos:Pos}{T id:String}{Q:Value->Shared->Prop}
  (hl:typeLookup (.type T) "__getitem__" = pure (some (.builtin id)))(hs:uF slice)
  (h:wpAny (model prog w) A (eval value env) (λo aY=>wpAny (model prog w) A (eval slice env) (λi c6=>c6.TypeIs o T/\wpAny (model prog w) A (getItem o i) Q E c6) E aY) E s):
  wpAny (model prog w) A (eval (.Subscript value slice pos) env) Q E s:=by
 refine Subscript_ (nF h (λo aY h₁=>nF h₁ (λi c6 rH=>?_) λ_ _ x=>x) λ_ _ x=>x)
 obtain ⟨hT,rH⟩:=rH
 unfold subscriptTail
 refine aN ?_
 rw [getitemInPython_of_ne hT.not_modules]
 refine aN (wpAny_specialOf hT hl ?_)
 have fin:wpAny (model prog w) A (subscripted slice false o i) (λr nK=>wpAny (model prog w) A (letTemporaryGo value o r >>= λ_=>pure r) Q E nK) E c6:=by
  rw [hs o i]
  exact wpAny_operating (nF rH (λr nK tM=>aN (wpAny_letTemporaryGo (bJ tM))) λ_ _ x=>x)
 first
  | exact bJ (aN fin)
  | exact aN (bJ (aN fin))
  | exact aN fin
theorem Zv{X:Cx}{pins:List (Addr×Obj)}{σ:St}{H:Hp}{s:Shared}{a:Addr}{y:V}{o:Option V}(I:Inv X pins σ H s)(g:lJ H a y o):s.TypeIs (.ref a) "dict":=by
 rcases g with ⟨aF,k,e,_,_⟩ | ⟨aF,k,b,e,_,_,_⟩
 .obtain ⟨_,_,vs,_,dd⟩:=Ew I.bB e
  exact dd.typeIs
 .obtain ⟨_,_,xs,_,dd⟩:=Ep I.bB e
  exact dd.typeIs
noncomputable def zF(td ty:TE):TE:=λσ H Q=>td σ H λx H1=>ty σ H1 λy H2=>∃a v,x=.ref a/\lJ H2 a y (some v)/\Q v H2
noncomputable def J2(ty td:TE):TE:=λσ H Q=>ty σ H λy H1=>td σ H1 λx H2=>∃a o,x=.ref a/\lJ H2 a y o/\Q (.bl (!o.isSome)) H2
noncomputable def zT(td ty tv:TE):TS:=λD σ H=>tv σ H λv H1=>td σ H1 λx H2=>ty σ H2 λy H3=>∃a H4,x=.ref a/\pN H3 a y v H4/\D.nx σ H4
section
variable {X:Cx}{o i e value:Expr}{pos pos' F0:Pos}{td ty tv:TE}
theorem Wt(hu:X.A.units+1<cLine)(ho:PE X o td)(hi:PE X i ty)(hs:uF i):PE X (.Subscript o i pos) (zF td ty):=by
 intro pins s σ H Q I h
 refine W3 PySem.F.slot_dict_getitem.lookup hs (bQ (ho pins s σ H _ I h) λu s1 ⟨x,H1,I1,rx,q1⟩=>bQ (hi pins s1 σ H1 _ I1 q1) λiv s2 ⟨y,H2,I2,ry,a,v,ex,g,q2⟩=>?_)
 subst ex
 obtain rfl:u=cK a:=rx
 exact ⟨Zv I2 g,Yz hu I2 g ry λw' s3 I3 tI=>⟨v,H2,I3,tI,q2⟩⟩
theorem Zo(hu:X.A.units+1<cLine)(hi:PE X i ty)(ho:PE X o td):PC X .NotIn i o (J2 ty td):=by
 intro pins s σ H Q I h
 refine bQ (hi pins s σ H _ I h) λiv s1 ⟨y,H1,I1,ry,q1⟩=>bQ (ho pins s1 σ H1 _ I1 q1) λu s2 ⟨x,H2,I2,rx,a,ov,ex,g,q2⟩=>?_
 subst ex
 obtain rfl:u=cK a:=rx
 exact WT hu I2 g ry λs3 I3=>⟨.bl (!ov.isSome),H2,I3,rfl,q2⟩
theorem Xl(hu:X.A.units+1<cLine)(ho:PE X o td)(hi:PE X i ty)(hv:PE X value tv)(hs:swapsWith value (some (.Subscript o i pos')) pos.line X.env=pure false):
  PS X (.Assign [.Subscript o i pos'] value pos) (zT td ty tv):=by
 intro pins s σ H D I h
 refine wpAny_Assign_Subscript (bQ (hv pins s σ H _ I h) λr s1 ⟨v,H1,I1,rv,q1⟩=>bQ (ho pins s1 σ H1 _ I1 q1) λu s2 ⟨x,H2,I2,rx,q2⟩=>bQ (hi pins s2 σ H2 _ I2 q2) λiv s3 ⟨y,H3,I3,ry,a,H4,ex,g,q3⟩=>?_) hs
 subst ex
 obtain rfl:u=cK a:=rx
 exact YA hu I3 g ry rv λs4 I4=>⟨σ,H4,I4,q3⟩
end
theorem XO{P:Program}{w:World}{H:Hp}(h:Heap)(hb:sysModules<h.objs.size):bH P w H (h.push { cls:=.type "dict",data:=.dict #[] }) h.objs.size (.dK []):=
 ⟨r8 _,beq_eq_false_iff_ne.mpr (kY (dQ hb)),[],.nil,Heap.DictOf.new h⟩
noncomputable def V7:TE:=λ_ H Q=>∀p,H p=none->Q (.ref p) (upd H p (.dK []))
section
variable {X:Cx}{pos:Pos}
theorem X8:PE X (.Dict [] [] pos) V7:=λpins s σ H Q I h =>
 wpAny_Dict_empty ⟨.ref s.heap.objs.size,_,I.laid (a:=s.heap.objs.size) (o:=.dK []) (t':=s.toks) (λ_ _ q=>dh _ q) (bZ _) (XO s.heap I.big),rfl,h _ (I.bB.fresh (bZ _))⟩
end
structure M1(X:Cx)(o:Expr)(m:Str)(apos:Pos)(e:Expr)(bj:Pos):Prop where
 base:attributeBase o m X.env (eval o X.env)=eval o X.env
 Um:((backTo bj (starEach [e] X.env)).all (λx=>!x.1)&&(backToKw bj (keywordEach [] X.env)).all (λx=>x.1.isSome)
  && decide (([e]:List Expr).length+([]:List Keyword).length+(if ([]:List Keyword).isEmpty then 0 else 1)<30))=true
 line:(apos.endLine==bj.line)=true
 trees:backTo bj (starEach [e] X.env)=[(false,eval e X.env)]
structure M2(X:Cx)(o:Expr)(m:Str)(apos:Pos)(e f:Expr)(bj:Pos):Prop where
 base:attributeBase o m X.env (eval o X.env)=eval o X.env
 Um:((backTo bj (starEach [e,f] X.env)).all (λx=>!x.1)&&(backToKw bj (keywordEach [] X.env)).all (λx=>x.1.isSome)
  && decide (([e,f]:List Expr).length+([]:List Keyword).length+(if ([]:List Keyword).isEmpty then 0 else 1)<30))=true
 line:(apos.endLine==bj.line)=true
 trees:backTo bj (starEach [e,f] X.env)=[(false,eval e X.env),(false,eval f X.env)]
section
variable {X:Cx}{pins:List (Addr×Obj)}{σ:St}{H:Hp}{s:Shared}{a:Addr}{y d:V}{u r:Value}{o:Option V}{A:Around}{E:Value->Shared->Prop}
end
section
variable {X:Cx}{o e f:Expr}{apos bj:Pos}{td ty tx:TE}
end
section
variable {X:Cx}{pins:List (Addr×Obj)}{σ:St}{H:Hp}{s:Shared}{a:Addr}{aF:List (Key×V)}{A:Around}{E:Value->Shared->Prop}
end
section
variable {X:Cx}{pins:List (Addr×Obj)}{σ:St}{H:Hp}{s:Shared}{a:Addr}{y:V}{u:Value}{A:Around}{E:Value->Shared->Prop}
end
end L2
namespace DL
open PySem PySem.Spec PyProof.Rows L2
section
variable {prog:Program}{w:World}{A:Around}{E:Value->Shared->Prop}{s:Shared}
theorem XM{ws:List Value}(ht:IsTup s.heap t #[])(hb:IsTup s.heap b ws.toArray)(h1:Q (.ref b) s):wpAny (model prog w) A (binaryOp .Add (.ref t) (.ref b)) Q E s:=by
 obtain ⟨⟨cls,dd,data,sl⟩,ho,hc,n,hd⟩:=id ht
 obtain ⟨⟨HR,DE,data2,zO⟩,wN,A8,n2,hd2⟩:=id hb
 simp only at hc hd A8 hd2
 subst hc hd A8 hd2
 exact concat_meets ⟨_,ho,rfl⟩ ⟨_,wN,rfl⟩ Iq Iu Jg Ja (Jc _ _)
   (tuple_addW0 t b #[] ws.toArray n n2 dd DE sl zO rfl) ⟨ho,wN,h1⟩
end
section
variable {X:Cx}
noncomputable def Ae(K:aK):R2:=λx y H Q=>∃a b ys,x=.ref a/\y=.ref b/\gC K H a []/\gC K H b ys/\Q (.ref b) H
theorem Wm:lN X (binaryOp .Add) (Ae X.K):=by
 intro pins s σ H x y v u Q I rx ry h
 obtain ⟨a,b,ys,rfl,rfl,ha,hb,q1⟩:=h
 cases rx
 cases ry
 obtain ⟨aA,r1,p1,_⟩:=I.tuple ha
 obtain ⟨c7,r2,p2,_⟩:=I.tuple hb
 cases r1
 exact XM p1 p2 ⟨.ref b,H,I,rfl,q1⟩
end
end DL
namespace DL
open PySem PySem.Spec PyProof.Rows L2
inductive D where
 | bz | bl (b:Bool) | int (i:Int) | str (x:Str) | tup (ds:List D) | lst (ro:Bool) (ds:List D) | exc (n:Str) | jv (fz:Bool) (aF:List (Int×Int))
 | obj (c:Str) (ns:List Str) (ds:List D) | dq (ks:List Str) (ds:List D)
 deriving Inhabited
inductive Sl where
 | no | sh (d:D) | ow (ds:List D) | dw (aF:List (Int×Int)) | tw (ks:List Str) (ds:List D)
 deriving Inhabited
noncomputable abbrev En:=List Sl
noncomputable def Sl.d:Sl->D
 | .no=>.bz
 | .sh d=>d
 | .ow ds=>.lst false ds
 | .dw aF=>.jv false aF
 | .tw ks ds=>.dq ks ds
def HQ(p C:Addr)(h:Heap):Prop:=∃o,h.get? p=some o/\o.cls=.ref C
noncomputable abbrev xf(ks:List Str)(vs:List V):HO:=.dK ((ks.zip vs).map λq=>(.inr q.1,q.2))
mutual
inductive Is (K:aK) (O:Addr->Prop) (H:Hp):V->D->Prop
 | bz:Is K O H .bz .bz
 | bl (b:Bool):Is K O H (.bl b) (.bl b)
 | int (i:Int):Is K O H (.int i) (.int i)
 | str (x:Str):Is K O H (.str x) (.str x)
 | tup {p:Addr} {xs:List V} {ds:List D} (ho:¬O p) (hp:Rd H p (.tup xs)) (hs:aZ K O H xs ds):Is K O H (.ref p) (.tup ds)
 | nP {p:Addr} {xs:List V} {ds:List D} (hp:gC K (λ_=>none) p xs) (hs:aZ K O H xs ds):Is K O H (.ref p) (.tup ds)
 | lst {p:Addr} {xs:List V} {ds:List D} (ho:¬O p) (hp:H p=some (.lst xs)) (hs:aZ K O H xs ds):Is K O H (.ref p) (.lst false ds)
 | nM {p:Addr} {xs:List V} {ds:List D} (ho:¬O p) (hp:Rd H p (.lst xs)) (hs:aZ K O H xs ds):Is K O H (.ref p) (.lst true ds)
 | nQ {p:Addr} {xs:List V} {ds:List D} (hp:eG K (λ_=>none) p xs) (hs:aZ K O H xs ds):Is K O H (.ref p) (.lst true ds)
 | exc {p C:Addr} {n:Str} (ho:¬O p) (hn:iX K mainGlobals n=some (some (.ref C))) (hp:H p=some (.ext (HQ p C))):Is K O H (.ref p) (.exc n)
 | jv {p:Addr} {aF:List (Int×Int)} (ho:¬O p) (hp:H p=some (.dK (aF.map λq=>(.inl q.1,.int q.2)))):Is K O H (.ref p) (.jv false aF)
 | rS {p:Addr} {aF:List (Int×Int)} {o:Obj} (ho:¬O p) (hp:H p=some (.mF o (.dK (aF.map λq=>(.inl q.1,.int q.2))))):Is K O H (.ref p) (.jv true aF)
 | obj {p C dx:Addr} {c:Str} {ns:List Str} {vs:List V} {ds:List D} (ho:¬O p) (hn:iX K mainGlobals c=some (some (.ref C))) (hp:H p=some (.ins C dx (ns.zip vs))) (hl:ns.length=vs.length) (hs:aZ K O H vs ds):Is K O H (.ref p) (.obj c ns ds)
 | dq {p:Addr} {ks:List Str} {vs:List V} {ds:List D} (ho:¬O p) (hp:H p=some (xf ks vs)) (hl:ks.length=vs.length) (hs:aZ K O H vs ds):Is K O H (.ref p) (.dq ks ds)
inductive aZ (K:aK) (O:Addr->Prop) (H:Hp):List V->List D->Prop
 | nil:aZ K O H [] []
 | cons {x:V} {d:D} {xs:List V} {ds:List D} (h:Is K O H x d) (t:aZ K O H xs ds):aZ K O H (x::xs) (d::ds)
end
theorem Oq{O:Addr->Prop}{H H':Hp}(hH:∀q u,H q=some u->¬O q->H' q=some u){p:Addr}{u:HO}(ho:¬O p)(h:Rd H p u):Rd H' p u:=by
 rcases h with h | ⟨o,h⟩
 .exact .inl (hH p u h ho)
 .exact .inr ⟨o,hH p _ h ho⟩
theorem OX(h:Rd H p u):H p≠none:=by
 rcases h with h | ⟨o,h⟩<;>rw [h]<;>exact λz=>nomatch z
theorem Cr{K:aK}{H:Hp}{p:Addr}{xs:List V}(h:eG K (λ_=>none) p xs):eG K H p xs:=by
 rcases h with (h | ⟨o,h⟩) | h
 .cases h
 .cases h
 .exact .inr h
theorem Cs{K:aK}{H:Hp}{p:Addr}{xs:List V}(h:gC K (λ_=>none) p xs):gC K H p xs:=by
 rcases h with (h | ⟨o,h⟩) | h
 .cases h
 .cases h
 .exact .inr h
section
variable {K:aK}{O O':Addr->Prop}{H H':Hp}
mutual
theorem Is.map(hO:∀q,H q≠none->¬O q->¬O' q)(hH:∀q u,H q=some u->¬O q->H' q=some u):∀{v:V} {d:D},Is K O H v d->Is K O' H' v d
 | _,_,.bz=>.bz
 | _,_,.bl b=>.bl b
 | _,_,.int i=>.int i
 | _,_,.str x=>.str x
 | _,_,.tup ho hp hs=>.tup (hO _ (OX hp) ho) (Oq hH ho hp) (aZ.map hO hH hs)
 | _,_,.nP hp hs=>.nP hp (aZ.map hO hH hs)
 | _,_,.lst ho hp hs=>.lst (hO _ (by rw [hp];exact λz=>nomatch z) ho) (hH _ _ hp ho) (aZ.map hO hH hs)
 | _,_,.nM ho hp hs=>.nM (hO _ (OX hp) ho) (Oq hH ho hp) (aZ.map hO hH hs)
 | _,_,.nQ hp hs=>.nQ hp (aZ.map hO hH hs)
 | _,_,.exc ho hn hp=>.exc (hO _ (by rw [hp];exact λz=>nomatch z) ho) hn (hH _ _ hp ho)
 | _,_,.jv ho hp=>.jv (hO _ (by rw [hp];exact λz=>nomatch z) ho) (hH _ _ hp ho)
 | _,_,.rS ho hp=>.rS (hO _ (by rw [hp];exact λz=>nomatch z) ho) (hH _ _ hp ho)
 | _,_,.obj ho hn hp hl hs=>.obj (hO _ (by rw [hp];exact λz=>nomatch z) ho) hn (hH _ _ hp ho) hl (aZ.map hO hH hs)
 | _,_,.dq ho hp hl hs=>.dq (hO _ (by rw [hp];exact λz=>nomatch z) ho) (hH _ _ hp ho) hl (aZ.map hO hH hs)
theorem aZ.map(hO:∀q,H q≠none->¬O q->¬O' q)(hH:∀q u,H q=some u->¬O q->H' q=some u):∀{v:List V} {d:List D},aZ K O H v d->aZ K O' H' v d
 | _,_,.nil=>.nil
 | _,_,.cons h t=>.cons (Is.map hO hH h) (aZ.map hO hH t)
end
theorem Is.grow(s:aH H H')(h:Is K O H v d):Is K O H' v d:=h.map (λ_ _ z=>z) λq u e _=>s q u e
theorem aZ.grow(s:aH H H')(h:aZ K O H v d):aZ K O H' v d:=h.map (λ_ _ z=>z) λq u e _=>s q u e
theorem Is.less(hO:∀q,O' q->O q)(h:Is K O H v d):Is K O' H v d:=h.map (λ_ _ z w=>z (hO _ w)) λ_ _ e _=>e
theorem aZ.less(hO:∀q,O' q->O q)(h:aZ K O H v d):aZ K O' H v d:=h.map (λ_ _ z w=>z (hO _ w)) λ_ _ e _=>e
theorem aZ.length:∀{v:List V} {d:List D},aZ K O H v d->v.length=d.length
 | _,_,.nil=>rfl
 | _,_,.cons _ t=>by rw [ff,ff,aZ.length t]
theorem aZ.append:∀{v w:List V} {d e:List D},aZ K O H v d->aZ K O H w e->aZ K O H (v++w) (d++e)
 | _,_,_,_,.nil,s=>s
 | _,_,_,_,.cons h t,s=>.cons h (aZ.append t s)
theorem aZ.get:∀{v:List V} {ds:List D} {i:Nat} {d:D},aZ K O H v ds->ds[i]?=some d->∃x,v[i]?=some x/\Is K O H x d
 | _,_,_,_,.nil,e=>by simp at e
 | _,_,0,_,.cons h _,e=>by simp at e;subst e;exact ⟨_,rfl,h⟩
 | _,_,i+1,d,.cons _ t,e=>by
  obtain ⟨u,h1,h2⟩:=aZ.get (i:=i) (d:=d) t (by simpa using e)
  exact ⟨u,by simpa using h1,h2⟩
theorem aZ.wW:∀{v:List V} {ds:List D} {i:Nat} {x:V},aZ K O H v ds->v[i]?=some x->∃d,ds[i]?=some d/\Is K O H x d
 | _,_,_,_,.nil,e=>by simp at e
 | _,_,0,_,.cons h _,e=>by simp at e;subst e;exact ⟨_,rfl,h⟩
 | _,_,i+1,d,.cons _ t,e=>by
  obtain ⟨u,h1,h2⟩:=aZ.wW (i:=i) (x:=d) t (by simpa using e)
  exact ⟨u,by simpa using h1,h2⟩
theorem aZ.take:∀{v:List V} {d:List D} (n:Nat),aZ K O H v d->aZ K O H (v.take n) (d.take n)
 | _,_,0,_=>.nil
 | _,_,_+1,.nil=>.nil
 | _,_,n+1,.cons h t=>.cons h (aZ.take n t)
theorem aZ.drop:∀{v:List V} {d:List D} (n:Nat),aZ K O H v d->aZ K O H (v.drop n) (d.drop n)
 | _,_,0,h=>h
 | _,_,_+1,.nil=>.nil
 | _,_,n+1,.cons _ t=>aZ.drop n t
theorem aZ.set(h:Is K O H x d):∀{v:List V} {ds:List D} (n:Nat),aZ K O H v ds->aZ K O H (v.set n x) (ds.set n d)
 | _,_,_,.nil=>.nil
 | _,_,0,.cons _ t=>.cons h t
 | _,_,n+1,.cons h' t=>.cons h' (aZ.set h n t)
theorem aZ.dt(h:aZ K O H v ds)(e:L2.dt ds i=some d):∃x,L2.dt v i=some x/\Is K O H x d:=by
 unfold L2.dt at e ⊢
 rw [h.length]
 cases q:nR ds.length i with
 | none=>rw [q] at e;cases e
 | some j =>
  rw [q] at e
  exact h.get e
theorem aZ.dropLast(h:aZ K O H v d):aZ K O H v.dropLast d.dropLast:=by
 rw [M4,M4,h.length]
 exact h.take _
theorem aZ.ints:∀(ns:List Int),aZ K O H (ns.map V.int) (ns.map D.int)
 | []=>.nil
 | n::r=>.cons (.int n) (aZ.ints r)
def Sq(K:aK)(H:Hp)(k:Bool)(p:Addr)(xs:List V):Prop:=if k=true then eG K H p xs else gC K H p xs
noncomputable def fA:D->Option (Bool×List D)
 | .tup ds=>some (false,ds)
 | .lst _ ds=>some (true,ds)
 | _=>none
theorem Is.seq(h:Is K O H v d)(e:fA d=some (k,ds)):∃p xs,v=.ref p/\Sq K H k p xs/\aZ K O H xs ds:=by
 cases h with
 | tup ho hp hs=>cases e;exact ⟨_,_,rfl,.inl hp,hs⟩
 | nP hp hs=>cases e;exact ⟨_,_,rfl,Cs hp,hs⟩
 | lst ho hp hs=>cases e;exact ⟨_,_,rfl,.inl (.inl hp),hs⟩
 | nM ho hp hs=>cases e;exact ⟨_,_,rfl,.inl hp,hs⟩
 | nQ hp hs=>cases e;exact ⟨_,_,rfl,Cr hp,hs⟩
 | _=>cases e
end
theorem Sq.grow{K:aK}{H H':Hp}{k:Bool}{p:Addr}{xs:List V}(s:aH H H')(h:Sq K H k p xs):Sq K H' k p xs:=by
 cases k with
 | true =>
  rcases h with (h | ⟨o,h⟩) | h
  .exact .inl (.inl (s _ _ h))
  .exact .inl (.inr ⟨o,s _ _ h⟩)
  .exact .inr h
 | false =>
  rcases h with (h | ⟨o,h⟩) | h
  .exact .inl (.inl (s _ _ h))
  .exact .inl (.inr ⟨o,s _ _ h⟩)
  .exact .inr h
noncomputable def Sl.own:Sl->Prop
 | .ow _=>True
 | .dw _=>True
 | .tw _ _=>True
 | _=>False
noncomputable abbrev HK(aF:List (Int×Int)):HO:=.dK (aF.map λq=>(.inl q.1,.int q.2))
def mM(σ:L2.St)(env:En)(p:Addr):Prop:=∃(i:Nat) (s:Sl),env[i]?=some s/\s.own/\σ[i]?=some (some (V.ref p))
abbrev OO(O:Addr->Prop)(σ:L2.St)(env:En)(q:Addr):Prop:=O q\/mM σ env q
theorem _root_.L2.Tb.grow{K:aK}{H H':Hp}(s:aH H H')(h:Tb K H):Tb K H':=λc P e=>s _ _ (h c P e)
def vT(K:aK)(O:Addr->Prop)(H:Hp):Prop:=(∀q,O q->H q≠none)/\Tb K H
theorem vT.grow{K:aK}{O:Addr->Prop}{H H':Hp}(s:aH H H')(h:vT K O H):vT K O H':=⟨λq hq hn=>h.1 q hq (s.free hn),h.2.grow s⟩
structure Rel(K:aK)(O:Addr->Prop)(B:Hp)(σ:L2.St)(H:Hp)(env:En):Prop where
 same:aH B H
 qM:vT K O B
 len:σ.length=env.length
 sh:∀(i:Nat) (d:D),env[i]?=some (Sl.sh d)->∃v,σ[i]?=some (some v)/\Is K (OO O σ env) H v d
 ow:∀(i:Nat) (ds:List D),env[i]?=some (Sl.ow ds)->∃p xs,σ[i]?=some (some (V.ref p))/\B p=none/\H p=some (.lst xs)/\aZ K (OO O σ env) H xs ds
 dw:∀(i:Nat) (aF:List (Int×Int)),env[i]?=some (Sl.dw aF)->∃p,σ[i]?=some (some (V.ref p))/\B p=none/\H p=some (HK aF)
 tw:∀(i:Nat) (ks:List Str) (ds:List D),env[i]?=some (Sl.tw ks ds)->∃p vs,σ[i]?=some (some (V.ref p))/\B p=none/\H p=some (xf ks vs)/\ks.length=vs.length/\aZ K (OO O σ env) H vs ds
 sep:∀(i j:Nat) (ds es:Sl) (p:Addr),env[i]?=some ds->env[j]?=some es->σ[i]?=some (some (V.ref p))->σ[j]?=some (some (V.ref p))->ds.own->es.own->i=j
noncomputable def Res(K:aK)(O:Addr->Prop)(B H:Hp)(v:V):Sl->Prop
 | .no=>False
 | .sh d=>Is K O H v d
 | .ow ds=>∃p xs,v=.ref p/\B p=none/\H p=some (.lst xs)/\aZ K (λq=>O q\/q=p) H xs ds
 | .dw aF=>∃p,v=.ref p/\B p=none/\H p=some (HK aF)
 | .tw ks ds=>∃p vs,v=.ref p/\B p=none/\H p=some (xf ks vs)/\ks.length=vs.length/\aZ K (λq=>O q\/q=p) H vs ds
section
variable {K:aK}{O:Addr->Prop}{B H H' H1:Hp}{σ:L2.St}{env:En}{v:V}{r:Sl}
theorem Rel.ad(R:Rel K O B σ H env){i:Nat}{s:Sl}(h:env[i]?=some s)(ho:s.own):∃p u,σ[i]?=some (some (V.ref p))/\B p=none/\H p=some u:=by
 cases s with
 | ow ds=>obtain ⟨p,xs,e1,e2,e3,_⟩:=R.ow i ds h;exact ⟨p,_,e1,e2,e3⟩
 | dw aF=>obtain ⟨p,e1,e2,e3⟩:=R.dw i aF h;exact ⟨p,_,e1,e2,e3⟩
 | tw ks ds=>obtain ⟨p,vs,e1,e2,e3,_⟩:=R.tw i ks ds h;exact ⟨p,_,e1,e2,e3⟩
 | no=>exact ho.elim
 | sh d=>exact ho.elim
theorem Rel.oo(R:Rel K O B σ H env)(h:OO O σ env q):H q≠none:=by
 rcases h with h | ⟨i,s,h1,ho,h2⟩
 .intro z
  exact R.qM.1 q h (R.same.free z)
 .obtain ⟨p,u,e1,_,e3⟩:=R.ad h1 ho
  rw [h2] at e1
  cases e1
  rw [e3];exact λz=>nomatch z
theorem Rel.dm(R:Rel K O B σ H env):vT K (OO O σ env) H:=⟨λ_=>R.oo,R.qM.2.grow R.same⟩
theorem Rel.grow(R:Rel K O B σ H env)(s:aH H H'):Rel K O B σ H' env where
 same:=R.same.trans s
 qM:=R.qM
 len:=R.len
 sh:=λi d e=>let ⟨v,e1,h⟩:=R.sh i d e;⟨v,e1,h.grow s⟩
 ow:=λi ds e=>let ⟨p,xs,e1,e2,e3,h⟩:=R.ow i ds e;⟨p,xs,e1,e2,s _ _ e3,h.grow s⟩
 dw:=λi aF e=>let ⟨p,e1,e2,e3⟩:=R.dw i aF e;⟨p,e1,e2,s _ _ e3⟩
 tw:=λi ks ds e=>let ⟨p,vs,e1,e2,e3,e4,h⟩:=R.tw i ks ds e;⟨p,vs,e1,e2,s _ _ e3,e4,h.grow s⟩
 sep:=R.sep
theorem Res.grow(s:aH H H')(h:Res K O B H v r):Res K O B H' v r:=by
 cases r with
 | no=>exact h
 | sh d=>exact Is.grow s h
 | ow ds=>obtain ⟨p,xs,e1,e2,e3,h⟩:=h;exact ⟨p,xs,e1,e2,s _ _ e3,h.grow s⟩
 | dw aF=>obtain ⟨p,e1,e2,e3⟩:=h;exact ⟨p,e1,e2,s _ _ e3⟩
 | tw ks ds=>obtain ⟨p,vs,e1,e2,e3,e4,h⟩:=h;exact ⟨p,vs,e1,e2,s _ _ e3,e4,h.grow s⟩
theorem Res.from(s:aH H1 B)(h:Res K O B H v r):Res K O H1 H v r:=by
 cases r with
 | no=>exact h
 | sh d=>exact h
 | ow ds=>obtain ⟨p,xs,e1,e2,e3,h⟩:=h;exact ⟨p,xs,e1,s.free e2,e3,h⟩
 | dw aF=>obtain ⟨p,e1,e2,e3⟩:=h;exact ⟨p,e1,s.free e2,e3⟩
 | tw ks ds=>obtain ⟨p,vs,e1,e2,e3,e4,h⟩:=h;exact ⟨p,vs,e1,s.free e2,e3,e4,h⟩
theorem Res.less(hO:∀q,O' q->O q)(h:Res K O B H v r):Res K O' B H v r:=by
 cases r with
 | no=>exact h
 | sh d=>exact Is.less hO h
 | ow ds=>obtain ⟨p,xs,e1,e2,e3,h⟩:=h;exact ⟨p,xs,e1,e2,e3,h.less λq z=>z.elim (λw=>.inl (hO _ w)) .inr⟩
 | dw aF=>exact h
 | tw ks ds=>obtain ⟨p,vs,e1,e2,e3,e4,h⟩:=h;exact ⟨p,vs,e1,e2,e3,e4,h.less λq z=>z.elim (λw=>.inl (hO _ w)) .inr⟩
theorem Res.is(hd:∀q,O q->B q≠none)(h:Res K O B H v r):Is K O H v r.d:=by
 cases r with
 | no=>exact h.elim
 | sh d=>exact h
 | ow ds =>
  obtain ⟨p,xs,rfl,e2,e3,h⟩:=h
  exact .lst (λz=>hd p z e2) e3 (h.less λ_=>.inl)
 | dw aF =>
  obtain ⟨p,rfl,e2,e3⟩:=h
  exact .jv (λz=>hd p z e2) e3
 | tw ks ds =>
  obtain ⟨p,vs,rfl,e2,e3,e4,h⟩:=h
  exact .dq (λz=>hd p z e2) e3 e4 (h.less λ_=>.inl)
end
def EV(X:Cx)(e:Expr)(f:En->Option Sl):Prop:=
 ∃t:TE,PE X e t/\∀(O:Addr->Prop) (B:Hp) (σ:L2.St) (H:Hp) (env:En) (r:Sl) (Q:VK),Rel X.K O B σ H env->f env=some r ->
  (∀v H',aH H H'->Res X.K (OO O σ env) H H' v r->Q v H')->t σ H Q
def BV(X:Cx)(e:Expr)(f:En->Option (Bool×List D)):Prop:=
 ∃t:TE,PE X e t/\∀(O:Addr->Prop) (B:Hp) (σ:L2.St) (H:Hp) (env:En) (k:Bool) (ds:List D) (Q:VK),Rel X.K O B σ H env->f env=some (k,ds) ->
  (∀p xs H',aH H H'->Sq X.K H' k p xs->aZ X.K (OO O σ env) H' xs ds->Q (.ref p) H')->t σ H Q
def AV(X:Cx)(es:List Expr)(f:En->Option (List D)):Prop:=
 ∃t:TA,PA X es t/\∀(O:Addr->Prop) (B:Hp) (σ:L2.St) (H:Hp) (env:En) (ds:List D) (Q:List V->Hp->Prop),Rel X.K O B σ H env->f env=some ds ->
  (∀vs H',aH H H'->aZ X.K (OO O σ env) H' vs ds->Q vs H')->t σ H Q
def TV(X:Cx)(e:Expr)(f:En->Option Bool):Prop:=
 ∃t:TT,PT X e t/\∀(O:Addr->Prop) (B:Hp) (σ:L2.St) (H:Hp) (env:En) (b:Bool) (Q:Bool->Hp->Prop),Rel X.K O B σ H env->f env=some b ->
  (∀H',aH H H'->Q b H')->t σ H Q
def WV(X:Cx)(e:Expr)(f:En->Option Bool):Prop:=
 ∃t:TT,PW X e t/\∀(O:Addr->Prop) (B:Hp) (σ:L2.St) (H:Hp) (env:En) (b:Bool) (Q:Bool->Hp->Prop),Rel X.K O B σ H env->f env=some b ->
  (∀H',aH H H'->Q b H')->t σ H Q
inductive Fl where
 | nx | bk | ct | rt (r:Sl)
def Gd(σ:L2.St)(env:En)(H:Hp)(bo:L2.St)(ak:En)(H':Hp):Prop:=∀q u,H q=some u->¬mM σ env q->H' q=some u/\¬mM bo ak q
theorem Gd.trans(a:Gd σ env H sx dY H1)(b:Gd sx dY H1 di dX H2):Gd σ env H di dX H2:=λq u e n =>
 let ⟨e1,n1⟩:=a q u e n
 b q u e1 n1
theorem Gd.from(s:aH H H1)(b:Gd σ env H1 bo ak H'):Gd σ env H bo ak H':=λq u e n=>b q u (s _ _ e) n
theorem Gd.refl(s:aH H H'):Gd σ env H σ env H':=λq u e n=>⟨s _ _ e,n⟩
noncomputable def dE(K:aK)(O:Addr->Prop)(B:Hp)(σ:L2.St)(H:Hp)(env:En)(D:Ends):Fl->En->Prop
 | .nx,ak=>∀bo H',Rel K O B bo H' ak->Gd σ env H bo ak H'->D.nx bo H'
 | .bk,ak=>∀bo H',Rel K O B bo H' ak->Gd σ env H bo ak H'->D.bk bo H'
 | .ct,ak=>∀bo H',Rel K O B bo H' ak->Gd σ env H bo ak H'->D.ct bo H'
 | .rt r,_=>∀v H',aH B H'->Res K O B H' v r->D.rt v H'
theorem dE.from{K:aK}{O:Addr->Prop}{B:Hp}{σ sx:L2.St}{H H1:Hp}{env dY:En}{D:Ends}{fl:Fl}{ak:En}(g:Gd σ env H sx dY H1)(h:dE K O B σ H env D fl ak):dE K O B sx H1 dY D fl ak:=by
 cases fl with
 | nx=>exact λbo H' R g'=>h bo H' R (g.trans g')
 | bk=>exact λbo H' R g'=>h bo H' R (g.trans g')
 | ct=>exact λbo H' R g'=>h bo H' R (g.trans g')
 | rt r=>exact h
noncomputable abbrev SF:=En->Option (Fl×En)
def SV(X:Cx)(st:Stmt)(F:SF):Prop:=
 ∃t:TS,PS X st t/\∀(O:Addr->Prop) (B:Hp) (σ:L2.St) (H:Hp) (env:En) (fl:Fl) (ak:En) (D:Ends),Rel X.K O B σ H env->F env=some (fl,ak)->dE X.K O B σ H env D fl ak->t D σ H
def oJ(X:Cx)(st:List Stmt)(F:SF):Prop:=
 ∃t:TS,qb X st t/\∀(O:Addr->Prop) (B:Hp) (σ:L2.St) (H:Hp) (env:En) (fl:Fl) (ak:En) (D:Ends),Rel X.K O B σ H env->F env=some (fl,ak)->dE X.K O B σ H env D fl ak->t D σ H
section
variable {X:Cx}{a b c:Expr}{pos:Pos}{fa fb fc:En->Option Sl}
noncomputable def eC(d:D):En->Option Sl:=λ_=>some (.sh d)
theorem aw{i j pos}:EV X (.Constant (.int i) j pos) (eC (.int i)):=⟨_,Vj,λ_ _ _ _ _ _ _ _ e k=>by
 obtain rfl:=dC e
 exact k _ _ (aH.refl _) (Is.int i)⟩
theorem p7{i j pos}:EV X (.Constant (.bool i) j pos) (eC (.bl i)):=⟨_,Am,λ_ _ _ _ _ _ _ _ e k=>by
 obtain rfl:=dC e
 exact k _ _ (aH.refl _) (Is.bl i)⟩
theorem yV{j pos}:EV X (.Constant .none j pos) (eC .bz):=⟨_,Vl,λ_ _ _ _ _ _ _ _ e k=>by
 obtain rfl:=dC e
 exact k _ _ (aH.refl _) Is.bz⟩
theorem eL{x j pos}:EV X (.Constant (.str x) j pos) (eC (.str x)):=⟨_,Vn,λ_ _ _ _ _ _ _ _ e k=>by
 obtain rfl:=dC e
 exact k _ _ (aH.refl _) (Is.str x)⟩
noncomputable def Dc:Option Sl->Option Sl
 | some (.sh d)=>some (.sh d)
 | _=>none
theorem XS(h:Dc o=some r):∃d,o=some (Sl.sh d)/\r=.sh d:=by
 cases o with
 | none=>cases h
 | some s=>cases s with
  | sh d=>cases h;exact ⟨d,rfl,rfl⟩
  | no=>cases h
  | ow ds=>cases h
  | dw ds=>cases h
  | tw _ _=>cases h
noncomputable def eV(i:Nat):En->Option Sl:=λenv=>Dc env[i]?
theorem N4(i:Nat)(hN:X.N[i]?=some x:=by rfl)(hv:jK X.env.scope x:=by first | exact cC rfl | exact bM (cC rfl) | exact bM (bM rfl))(hd:(x==("__debug__":Str))=false:=by decide)
  (cO:(x==("__classdict__":Str))=false:=by decide):EV X (.Name x pos) (eV i):=⟨_,sX hN hv hd cO,λO B σ H env r Q R e k=>by
 obtain ⟨d,e1,rfl⟩:=XS e
 obtain ⟨v,e2,h⟩:=R.sh i d e1
 exact ⟨v,e2,k v H (aH.refl _) h⟩⟩
noncomputable def wa:Option Sl->Option (Bool×List D)
 | some (.sh d)=>fA d
 | some (.ow ds)=>some (true,ds)
 | _=>none
noncomputable def bV(i:Nat):En->Option (Bool×List D):=λenv=>wa env[i]?
theorem U7(i:Nat)(hN:X.N[i]?=some x:=by rfl)(hv:jK X.env.scope x:=by first | exact cC rfl | exact bM (cC rfl) | exact bM (bM rfl))(hd:(x==("__debug__":Str))=false:=by decide)
  (cO:(x==("__classdict__":Str))=false:=by decide):BV X (.Name x pos) (bV i):=⟨_,sX hN hv hd cO,λO B σ H env k ds Q R e q=>by
 unfold bV at e
 cases h:env[i]? with
 | none=>rw [h] at e;cases e
 | some s =>
  rw [h] at e
  cases s with
  | no=>cases e
  | sh d =>
   obtain ⟨v,e2,hv⟩:=R.sh i d h
   obtain ⟨p,xs,rfl,h1,h2⟩:=hv.seq (show fA d=some (k,ds) from e)
   exact ⟨_,e2,q p xs H (aH.refl _) h1 h2⟩
  | dw es=>cases e
  | tw _ _=>cases e
  | ow es =>
   obtain ⟨rfl,rfl⟩:true=k/\es=ds:=Prod.mk.inj (dC e)
   obtain ⟨p,xs,e2,_,e3,h2⟩:=R.ow i es h
   exact ⟨_,e2,q p xs H (aH.refl _) (.inl (.inl e3)) h2⟩⟩
noncomputable def kX(f:En->Option Sl):En->Option (Bool×List D):=λenv=>(f env).bind λr=>fA r.d
theorem bind_some{α β:Type}{o:Option α}{f:α->Option β}{b:β}(h:o.bind f=some b):∃a,o=some a/\f a=some b:=by
 cases o with
 | none=>cases h
 | some a=>exact ⟨a,rfl,h⟩
theorem lL(h:EV X a fa):BV X a (kX fa):=by
 obtain ⟨t,ht,p⟩:=h
 refine ⟨t,ht,λO B σ H env k ds Q R e q=>?_⟩
 obtain ⟨r,e1,e2⟩:=bind_some e
 refine p O B σ H env r _ R e1 λv H' s h=>?_
 obtain ⟨p,xs,rfl,h1,h2⟩:=(h.is (λz=>R.oo)).seq e2
 exact q p xs H' s h1 h2
def oM(X:Cx)(f:Value->Value->Sem Value)(g:D->D->Option Sl):Prop:=
 ∃r:R2,lN X f r/\∀(O:Addr->Prop) (H:Hp) (x y:V) (a b:D) (s:Sl) (Q:VK),(∀q,O q->H q≠none)->Is X.K O H x a->Is X.K O H y b->g a b=some s ->
  (∀v H',aH H H'->Res X.K O H H' v s->Q v H')->r x y H Q
noncomputable def aa(g:D->D->Option Sl)(fa fb:En->Option Sl):En->Option Sl:=λenv=>(fa env).bind λx=>(fb env).bind λy=>g x.d y.d
theorem Kj(hg:∀(O:Addr->Prop) (H:Hp) (x y:V) (a b:D) (s:Sl) (Q:VK),(∀q,O q->H q≠none)->Is X.K O H x a->Is X.K O H y b->g a b=some s->(∀v H',aH H H'->Res X.K O H H' v s->Q v H')->r x y H Q)(pa:∀(O:Addr->Prop) (B:Hp) (σ:L2.St) (H:Hp) (env:En) (r:Sl) (Q:VK),Rel X.K O B σ H env->fa env=some r->(∀v H',aH H H'->Res X.K (OO O σ env) H H' v r->Q v H')->ta σ H Q)
  (pb:∀(O:Addr->Prop) (B:Hp) (σ:L2.St) (H:Hp) (env:En) (r:Sl) (Q:VK),Rel X.K O B σ H env->fb env=some r->(∀v H',aH H H'->Res X.K (OO O σ env) H H' v r->Q v H')->tb σ H Q)
  (O:Addr->Prop)(B:Hp)(σ:L2.St)(H:Hp)(env:En)(s:Sl)(Q:VK)(R:Rel X.K O B σ H env)(e:aa g fa fb env=some s)
  (k:∀v H',aH H H'->Res X.K (OO O σ env) H H' v s->Q v H'):zA r ta tb σ H Q:=by
 obtain ⟨x,e1,e⟩:=bind_some e
 obtain ⟨y,e2,e⟩:=bind_some e
 refine pa O B σ H env x _ R e1 λv H1 s1 h1=>?_
 refine pb O B σ H1 env y _ (R.grow s1) e2 λu H2 s2 h2=>?_
 have R2:=(R.grow s1).grow s2
 refine hg (OO O σ env) H2 v u x.d y.d s Q (λq=>R2.oo) ((h1.is λq=>R.oo).grow s2) (h2.is λq=>(R.grow s1).oo) e λw H3 s3 h3=>?_
 exact k w H3 ((s1.trans s2).trans s3) (h3.from (s1.trans s2))
theorem bw(ho:oM X (binaryOp op) g)(ha:EV X a fa)(hb:EV X b fb):EV X (.BinOp a op b pos) (aa g fa fb):=by
 obtain ⟨r,hr,hg⟩:=ho
 obtain ⟨ta,pa,ka⟩:=ha
 obtain ⟨tb,pb,kb⟩:=hb
 exact ⟨_,Aj hr pa pb,Kj hg ka kb⟩
theorem EL(ho:oM X (compareOp op) g)(ha:EV X a fa)(hb:EV X b fb)(hm:behindInMarks op b=false:=by exact Og _):EV X (.Compare a [op] [b] pos) (aa g fa fb):=by
 obtain ⟨r,hr,hg⟩:=ho
 obtain ⟨ta,pa,ka⟩:=ha
 obtain ⟨tb,pb,kb⟩:=hb
 exact ⟨_,Ws hr pa pb hm,Kj hg ka kb⟩
noncomputable def mK:Option Sl->Option Bool
 | some (.sh (.bl b))=>some b
 | _=>none
theorem Fc{b:Bool}(h:mK o=some b):o=some (Sl.sh (.bl b)):=by
 cases o with
 | none=>cases h
 | some s=>cases s with
  | no=>cases h
  | ow ds=>cases h
  | dw ds=>cases h
  | tw _ _=>cases h
  | sh d=>cases d<;>cases h;rfl
noncomputable def cj(f:En->Option Sl):En->Option Bool:=λenv=>mK (f env)
theorem B1{K:aK}{O:Addr->Prop}{H:Hp}{v:V}{b:Bool}(h:Is K O H v (.bl b)):v=.bl b:=by cases h;rfl
theorem oA{K:aK}{O:Addr->Prop}{H:Hp}{v:V}{b:Int}(h:Is K O H v (.int b)):v=.int b:=by cases h;rfl
theorem N8{K:aK}{O:Addr->Prop}{H:Hp}{v:V}(h:Is K O H v .bz):v=.bz:=by cases h;rfl
theorem yX{K:aK}{O:Addr->Prop}{H:Hp}{v:V}{b:Str}(h:Is K O H v (.str b)):v=.str b:=by cases h;rfl
theorem cB(ho:oM X (compareOp op) g)(ha:EV X a fa)(hb:EV X b fb)(hm:behindInMarks op b=false:=by exact Og _):TV X (.Compare a [op] [b] pos) (cj (aa g fa fb)):=by
 obtain ⟨r,hr,hg⟩:=ho
 obtain ⟨ta,pa,ka⟩:=ha
 obtain ⟨tb,pb,kb⟩:=hb
 refine ⟨_,Xn hr pa pb hm,λO B σ H env k Q R e q=>?_⟩
 exact Kj hg ka kb O B σ H env _ _ R (Fc e) λv H' s h=>⟨k,B1 h,q H' s⟩
noncomputable def lO:D->Option Bool
 | .bz=>some false
 | .bl b=>some b
 | .int i=>some (i != 0)
 | .str y=>if y.length<=16777216 then some ((y.length:Int) != 0) else none
 | .tup ds=>some (!ds.isEmpty)
 | .lst _ ds=>some (!ds.isEmpty)
 | .exc _=>none
 | .jv _ _=>none
 | .obj _ _ _=>none
 | .dq _ _=>none
theorem aZ.isEmpty{K:aK}{O:Addr->Prop}{H:Hp}{xs:List V}{ds:List D}(h:aZ K O H xs ds):xs.isEmpty=ds.isEmpty:=by cases h<;>rfl
theorem Xa{K:aK}{O:Addr->Prop}{H:Hp}{v:V}{d:D}{b:Bool}(h:Is K O H v d)(e:lO d=some b):xS K v H b:=by
 cases h with
 | bz=>cases e;rfl
 | bl b=>cases e;rfl
 | int i=>cases e;rfl
 | str x =>
  unfold lO at e
  dsimp only at e
  by_cases hl:x.length<=16777216
  .rw [if_pos hl] at e;cases e;exact ⟨by rw [pZ];exact hl,rfl⟩
  .rw [if_neg hl] at e;cases e
 | tup ho hp hs=>cases e;exact .inr (.inl ⟨_,.inl hp,by rw [hs.isEmpty]⟩)
 | nP hp hs=>cases e;exact .inr (.inl ⟨_,Cs hp,by rw [hs.isEmpty]⟩)
 | lst ho hp hs=>cases e;exact .inl ⟨_,.inl (.inl hp),by rw [hs.isEmpty]⟩
 | nM ho hp hs=>cases e;exact .inl ⟨_,.inl hp,by rw [hs.isEmpty]⟩
 | nQ hp hs=>cases e;exact .inl ⟨_,Cr hp,by rw [hs.isEmpty]⟩
 | exc ho hn hp=>cases e
 | jv ho hp=>cases e
 | obj=>cases e
 | dq=>cases e
 | rS ho hp=>cases e
noncomputable def jf(f:En->Option Sl):En->Option Bool:=λenv=>(f env).bind λr=>lO r.d
theorem sY(ha:EV X a fa)(he:∀whole,isTrue a X.env whole=(do let v <-whole;standAt a.pos;holding [v] (truthy v)):=by intro _;rfl):TV X a (jf fa):=by
 obtain ⟨ta,pa,ka⟩:=ha
 refine ⟨_,O9 pa he,λO B σ H env k Q R e q=>?_⟩
 obtain ⟨r,e1,e2⟩:=bind_some e
 exact ka O B σ H env r _ R e1 λv H' s h=>⟨k,Xa (h.is λq=>R.oo) e2,q H' s⟩
noncomputable def EA(f:En->Option (Bool×List D)):En->Option Bool:=λenv=>(f env).bind λr=>some (!r.2.isEmpty)
theorem Xc{fa:En->Option (Bool×List D)}(ha:BV X a fa)(he:∀whole,isTrue a X.env whole=(do let v <-whole;standAt a.pos;holding [v] (truthy v)):=by intro _;rfl):TV X a (EA fa):=by
 obtain ⟨ta,pa,ka⟩:=ha
 refine ⟨_,O9 pa he,λO B σ H env k Q R e q=>?_⟩
 obtain ⟨⟨kk,ds⟩,e1,e2⟩:=bind_some e
 cases e2
 refine ka O B σ H env kk ds _ R e1 λp xs H' s h hs=>⟨_,?_,q H' s⟩
 cases kk with
 | true=>exact .inl ⟨xs,h,by rw [hs.isEmpty]⟩
 | false=>exact .inr (.inl ⟨xs,h,by rw [hs.isEmpty]⟩)
noncomputable def q4(f g:En->Option Bool):En->Option Bool:=λenv=>match f env with
 | some true=>g env
 | some false=>some false
 | none=>none
noncomputable def dU(f g:En->Option Bool):En->Option Bool:=λenv=>match f env with
 | some false=>g env
 | some true=>some true
 | none=>none
noncomputable def uh(f:En->Option Bool):En->Option Bool:=λenv=>(f env).map (!·)
variable {ga gb:En->Option Bool}{rest:List Expr}
theorem vN(ha:TV X a ga):WV X (.BoolOp .And [a] pos) ga:=let ⟨t,p,k⟩:=ha;⟨t,WW p,k⟩
theorem qB(ha:TV X a ga):WV X (.BoolOp .Or [a] pos) ga:=let ⟨t,p,k⟩:=ha;⟨t,Vy p,k⟩
theorem vG(ha:TV X a ga)(hb:WV X (.BoolOp .And (b::rest) pos) gb):WV X (.BoolOp .And (a::b::rest) pos) (q4 ga gb):=by
 obtain ⟨t,p,k⟩:=ha
 obtain ⟨u,p',k'⟩:=hb
 refine ⟨_,Vx p p',λO B σ H env d Q R e q=>?_⟩
 unfold q4 at e
 cases h:ga env with
 | none=>rw [h] at e;cases e
 | some x =>
  rw [h] at e
  refine k O B σ H env x _ R h λH1 s1=>?_
  cases x with
  | true =>
   rw [if_pos rfl]
   exact k' O B σ H1 env d Q (R.grow s1) e λH2 s2=>q H2 (s1.trans s2)
  | false =>
   cases e
   rw [if_neg qU]
   exact q H1 s1
theorem qA(ha:TV X a ga)(hb:WV X (.BoolOp .Or (b::rest) pos) gb):WV X (.BoolOp .Or (a::b::rest) pos) (dU ga gb):=by
 obtain ⟨t,p,k⟩:=ha
 obtain ⟨u,p',k'⟩:=hb
 refine ⟨_,pw_or p p',λO B σ H env d Q R e q=>?_⟩
 unfold dU at e
 cases h:ga env with
 | none=>rw [h] at e;cases e
 | some x =>
  rw [h] at e
  refine k O B σ H env x _ R h λH1 s1=>?_
  cases x with
  | false =>
   rw [if_neg qU]
   exact k' O B σ H1 env d Q (R.grow s1) e λH2 s2=>q H2 (s1.trans s2)
  | true =>
   cases e
   rw [if_pos rfl]
   exact q H1 s1
theorem dj(h:WV X a ga):TV X a ga:=let ⟨t,p,k⟩:=h;⟨t,p.pt,k⟩
theorem y4(ha:TV X a ga):TV X (.UnaryOp .Not a pos) (uh ga):=by
 obtain ⟨t,p,k⟩:=ha
 refine ⟨_,Vv p,λO B σ H env d Q R e q=>?_⟩
 unfold uh at e
 cases h:ga env with
 | none=>rw [h] at e;cases e
 | some x =>
  rw [h] at e
  cases e
  exact k O B σ H env x _ R h λH1 s1=>q H1 s1
noncomputable def rR(f g:En->Option Sl):En->Option Sl:=λenv=>match mK (f env) with
 | some true=>g env
 | some false=>some (.sh (.bl false))
 | none=>none
noncomputable def MO(f g:En->Option Sl):En->Option Sl:=λenv=>match mK (f env) with
 | some false=>g env
 | some true=>some (.sh (.bl true))
 | none=>none
noncomputable def Bq(f:En->Option Sl):En->Option Sl:=λenv=>(mK (f env)).map λb=>.sh (.bl !b)
theorem V1(h:EV X a fa):EV X (.BoolOp op [a] pos) fa:=let ⟨t,p,k⟩:=h;⟨t,Vm p,k⟩
theorem VX(ha:EV X a fa)(hb:EV X (.BoolOp .And (b::rest) pos) fb):EV X (.BoolOp .And (a::b::rest) pos) (rR fa fb):=by
 obtain ⟨t,p,k⟩:=ha
 obtain ⟨u,p',k'⟩:=hb
 refine ⟨_,Vg p p',λO B σ H env r Q R e q=>?_⟩
 unfold rR at e
 cases h:mK (fa env) with
 | none=>rw [h] at e;cases e
 | some x =>
  rw [h] at e
  refine k O B σ H env _ _ R (Fc h) λv H1 s1 r1=>⟨x,B1 r1,?_⟩
  cases x with
  | true =>
   rw [if_pos rfl]
   exact k' O B σ H1 env r Q (R.grow s1) e λv2 H2 s2 r2=>q v2 H2 (s1.trans s2) (r2.from s1)
  | false =>
   obtain rfl:=dC e
   rw [if_neg qU]
   exact q _ H1 s1 (Is.bl false)
noncomputable def yr(c:En->Option Bool)(f g:En->Option Sl):En->Option Sl:=λenv=>match c env with
 | some true=>f env
 | some false=>g env
 | none=>none
theorem NX(hc:TV X c ga)(ha:EV X a fa)(hb:EV X b fb):EV X (.IfExp c a b pos) (yr ga fa fb):=by
 obtain ⟨tc,pc,kc⟩:=hc
 obtain ⟨t,p,k⟩:=ha
 obtain ⟨u,p',k'⟩:=hb
 refine ⟨_,X9 pc p p',λO B σ H env r Q R e q=>?_⟩
 unfold yr at e
 cases h:ga env with
 | none=>rw [h] at e;cases e
 | some x =>
  rw [h] at e
  refine kc O B σ H env x _ R h λH1 s1=>?_
  cases x with
  | true =>
   rw [if_pos rfl]
   exact k O B σ H1 env r Q (R.grow s1) e λv2 H2 s2 r2=>q v2 H2 (s1.trans s2) (r2.from s1)
  | false =>
   rw [if_neg qU]
   exact k' O B σ H1 env r Q (R.grow s1) e λv2 H2 s2 r2=>q v2 H2 (s1.trans s2) (r2.from s1)
noncomputable def w4:D->Option Sl
 | .int i=>some (.sh (.int (-i)))
 | _=>none
noncomputable def qu(f:En->Option Sl):En->Option Sl:=λenv=>(f env).bind λr=>w4 r.d
theorem EN(ha:EV X a fa):EV X (.UnaryOp .USub a pos) (qu fa):=by
 obtain ⟨t,p,k⟩:=ha
 refine ⟨_,Ai V' p,λO B σ H env r Q R e q=>?_⟩
 obtain ⟨x,e1,e2⟩:=bind_some e
 refine k O B σ H env x _ R e1 λv H1 s1 r1=>?_
 have hi:=r1.is λq=>R.oo
 cases hd:x.d with
 | int i =>
  rw [hd] at hi e2
  obtain rfl:=oA hi
  obtain rfl:=dC e2
  exact ⟨i,rfl,q _ H1 s1 (Is.int _)⟩
 | _=>rw [hd] at e2;cases e2
variable {e:Expr}{es:List Expr}
noncomputable def af:En->Option (List D):=λ_=>some []
noncomputable def ag(f:En->Option Sl)(g:En->Option (List D)):En->Option (List D):=λenv=>(f env).bind λr=>(g env).bind λds=>some (r.d::ds)
theorem be:AV X [] af:=⟨_,oX,λO B σ H env ds Q R e q=>by
 obtain rfl:=dC e
 exact q [] H (aH.refl _) .nil⟩
theorem ai(ha:EV X e fe)(hb:AV X es fs)(hs:starEach (e::es) X.env=(false,eval e X.env)::starEach es X.env:=by rfl):AV X (e::es) (ag fe fs):=by
 obtain ⟨t,p,k⟩:=ha
 obtain ⟨u,p',k'⟩:=hb
 refine ⟨_,nH p p' hs,λO B σ H env ds Q R e q=>?_⟩
 obtain ⟨r,e1,e2⟩:=bind_some e
 obtain ⟨ds',e4,e3⟩:=bind_some e2
 obtain rfl:=dC e3
 refine k O B σ H env r _ R e1 λv H1 s1 r1=>?_
 refine k' O B σ H1 env ds' _ (R.grow s1) e4 λvs H2 s2 r2=>?_
 exact q _ H2 (s1.trans s2) (.cons ((r1.is λq=>R.oo).grow s2) r2)
theorem oC(h:H p=none)(o:HO):aH H (upd H p o):=λb u q=>by rw [dM (q8 q h)];exact q
noncomputable def cu(f:En->Option (List D)):En->Option Sl:=λenv=>(f env).bind λds=>if ds.length<=16777216 then some (.sh (.tup ds)) else none
noncomputable def bU(f:En->Option (List D)):En->Option Sl:=λenv=>(f env).bind λds=>if ds.length<=16777216 then some (.ow ds) else none
theorem lI{α:Type}{c:Prop}[Decidable c]{x y:α}(h:(if c then some x else none)=some y):c/\x=y:=by
 by_cases hc:c
 .rw [if_pos hc] at h;exact ⟨hc,dC h⟩
 .rw [if_neg hc] at h;cases h
theorem E4{K:aK}{O:Addr->Prop}{H:Hp}{p:Addr}{xs:List V}{ds:List D}(hO:∀q,O q->H q≠none)(hp:H p=none)(h:aZ K O H xs ds):Res K O H (upd H p (.tup xs)) (.ref p) (.sh (.tup ds)):=
 Is.tup (λz=>hO p z hp) (.inl nI) (h.grow (oC hp _))
theorem y8{K:aK}{O:Addr->Prop}{H:Hp}{p:Addr}{xs:List V}{ds:List D}(hp:H p=none)(h:aZ K O H xs ds):Res K O H (upd H p (.lst xs)) (.ref p) (.ow ds):=
 ⟨p,xs,rfl,hp,nI,h.map (λq hq hn z=>z.elim hn λw=>hq (by rw [w];exact hp)) λq u e _=>oC hp _ q u e⟩
theorem mo{x1}(h:AV X es fs):EV X (.Tuple es x1 pos) (cu fs):=by
 obtain ⟨t,p,k⟩:=h
 refine ⟨_,Vo p,λO B σ H env r Q R e q=>?_⟩
 obtain ⟨ds,e1,e2⟩:=bind_some e
 obtain ⟨hl,rfl⟩:=lI e2
 refine k O B σ H env ds _ R e1 λvs H1 s1 r1=>⟨by rw [r1.length,pZ];exact hl,λp hp=>?_⟩
 exact q _ _ (s1.trans (oC hp _)) ((E4 (O:=OO O σ env) (H:=H1) (λ_ z=>(R.grow s1).oo z) hp r1).from s1)
theorem gz(h:AV X es fs):EV X (.List es pos) (bU fs):=by
 obtain ⟨t,p,k⟩:=h
 refine ⟨_,Vk p,λO B σ H env r Q R e q=>?_⟩
 obtain ⟨ds,e1,e2⟩:=bind_some e
 obtain ⟨hl,rfl⟩:=lI e2
 refine k O B σ H env ds _ R e1 λvs H1 s1 r1=>⟨by rw [r1.length,pZ];exact hl,λp hp=>?_⟩
 exact q _ _ (s1.trans (oC hp _)) ((y8 hp r1).from s1)
noncomputable def aS(f:En->Option (Bool×List D))(g:En->Option Sl):En->Option Sl:=λenv=>(f env).bind λx=>(g env).bind λy=>match y.d with
 | .int i=>(dt x.2 i).map .sh
 | _=>none
theorem bb{fa:En->Option (Bool×List D)}(ha:BV X a fa)(hb:EV X b fb)(hs:Ow b:=by exact λ_ _=>rfl):EV X (.Subscript a b pos) (aS fa fb):=by
 obtain ⟨t,p,k⟩:=ha
 obtain ⟨u,p',k'⟩:=hb
 refine ⟨_,Ak VJ p p' hs,λO B σ H env r Q R e q=>?_⟩
 obtain ⟨⟨kk,ds⟩,e1,e2⟩:=bind_some e
 obtain ⟨y,e2,e3⟩:=bind_some e2
 refine k O B σ H env kk ds _ R e1 λl xs H1 s1 hq hx=>?_
 refine k' O B σ H1 env y _ (R.grow s1) e2 λw H2 s2 r2=>?_
 have hi:=r2.is λq=>(R.grow s1).oo
 cases hd:y.d with
 | int i =>
  rw [hd] at hi e3
  obtain rfl:=oA hi
  dsimp only at e3
  cases h:dt ds i with
  | none=>rw [h] at e3;cases e3
  | some d =>
   rw [h] at e3
   obtain rfl:=dC e3
   obtain ⟨v,h1,h2⟩:=(hx.grow s2).dt h
   have c8:=hq.grow s2
   have fin:=q v H2 (s1.trans s2) h2
   cases kk with
   | true=>exact .inl ⟨l,xs,i,v,rfl,rfl,c8,h1,fin⟩
   | false=>exact .inr (.inl ⟨l,xs,i,v,rfl,rfl,c8,h1,fin⟩)
 | _=>rw [hd] at e3;cases e3
end
noncomputable def LIM:Int:=10^250
theorem Wb(h1:-LIM<=j)(h2:j<=LIM):j.natAbs<2^900:=by
 have e:LIM<(2:Int)^900:=by unfold LIM;decide +kernel
 have e2:((2:Int)^900)=((2^900:Nat):Int):=by simp
 generalize (2^900:Nat)=m at *
 generalize LIM=l at *
 omega
theorem OC(h1:-LIM<=j)(h2:j<=LIM):j.natAbs.log2<900:=by
 rcases IX j.natAbs with h0 | hp
 .rw [h0];decide
 .exact (Nat.log2_lt (BC hp)).mpr (Wb h1 h2)
theorem PB(h1:-LIM<=j)(h2:j<=LIM):Nk j<=900:=by
 have:=OC h1 h2
 unfold Nk
 split<;>lia
def MulC(i j:Int):Prop:=(-(2^64)<i/\i<2^64)\/(-(2^64)<j/\j<2^64)\/((-LIM<=i/\i<=LIM)/\(-LIM<=j/\j<=LIM))
noncomputable instance (i j:Int):Decidable (MulC i j):=by unfold MulC;infer_instance
theorem MulC.ok(h:MulC i j):IntMulOk i j:=by
 rcases h with ⟨h1,h2⟩ | ⟨h1,h2⟩ | ⟨⟨h1,h2⟩,h3,h4⟩
 .exact .of_left (D3 h1 h2)
 .exact .of_right (D3 h1 h2)
 .exact mulOk_of_bits (PB h1 h2) (PB h3 h4) (by decide)
def DivC(_ j:Int):Prop:=0<j/\j<=LIM
noncomputable instance (i j:Int):Decidable (DivC i j):=by unfold DivC;infer_instance
def uG(_ j:Int):Prop:=0<j
noncomputable instance (i j:Int):Decidable (uG i j):=by unfold uG;infer_instance
def PowC(i j:Int):Prop:=0<=j/\j<=1000000/\i.natAbs<2^64
noncomputable instance (i j:Int):Decidable (PowC i j):=by unfold PowC;infer_instance
noncomputable def gI(C:Int->Int->Prop)[∀i j,Decidable (C i j)](h:Int->Int->Int):D->D->Option Sl
 | .int i,.int j=>if C i j then some (.sh (.int (h i j))) else none
 | _,_=>none
noncomputable def gB(h:Int->Int->Bool):D->D->Option Sl
 | .int i,.int j=>some (.sh (.bl (h i j)))
 | _,_=>none
section
variable {X:Cx}
theorem B4{f:Value->Value->Sem Value}{C:Int->Int->Prop}[∀i j,Decidable (C i j)]{h:Int->Int->Int}(ho:lN X f (rI C λi j=>.int (h i j))):oM X f (gI C h):=by
 refine ⟨_,ho,λO H x y a b s Q hO hx hy e q=>?_⟩
 cases a with
 | int i=>cases b with
  | int j =>
   obtain ⟨hc,rfl⟩:=lI (show (if C i j then some (Sl.sh (.int (h i j))) else none)=some s from e)
   exact ⟨i,j,oA hx,oA hy,hc,q _ H (aH.refl _) (Is.int _)⟩
  | _=>cases e
 | _=>cases e
theorem Jp(ho:lN X f (wc λi j=>.bl (h i j))):oM X f (gB h):=by
 refine ⟨_,ho,λO H x y a b s Q hO hx hy e q=>?_⟩
 cases a with
 | int i=>cases b with
  | int j =>
   obtain rfl:=dC (show some (Sl.sh (.bl (h i j)))=some s from e)
   exact ⟨i,j,oA hx,oA hy,q _ H (aH.refl _) (Is.bl _)⟩
  | _=>cases e
 | _=>cases e
noncomputable def cz:D->D->Option Sl:=gI MulC λi j=>i*j
noncomputable def rM:D->D->Option Sl:=gI DivC λi j=>i/j
noncomputable def pf:D->D->Option Sl:=gI uG λi j=>i%j
noncomputable def nY:D->D->Option Sl:=gI PowC λi j=>i^j.toNat
noncomputable def dH:D->D->Option Sl:=gI (λ_ _=>True) λi j=>i-j
noncomputable def sF:D->D->Option Sl:=gB λi j=>decide (i<j)
noncomputable def u5:D->D->Option Sl:=gB λi j=>decide (i<=j)
noncomputable def tW:D->D->Option Sl:=gB λi j=>decide (j<i)
noncomputable def Uj:D->D->Option Sl:=gB λi j=>decide (j<=i)
theorem jC:oM X (binaryOp .Mult) cz:=B4 (Ar λ_ _ _ _ _ _ _ (hc:MulC _ _) q=>mul_int q hc.ok)
theorem JG:oM X (binaryOp .FloorDiv) rM:=B4 (Ar λi j _ _ _ _ _ (hc:DivC i j) q=>by
 have h1:(0:Int)<j:=hc.1
 have h2:=OC (j:=j) (by have:(0:Int)<=LIM:=(by decide +kernel);ext h1 this) hc.2
 exact floordiv_int (by ext h1) (by rw [Int.fdiv_eq_ediv_of_nonneg i (by ext h1)];exact q) (.inl (PyProof.noPylong_of_log2 (jA ‹_› (by decide)))))
theorem Ce:oM X (binaryOp .Mod) pf:=B4 (Ar λi j _ _ _ _ _ (hc:uG i j) q=>by
 have h1:(0:Int)<j:=hc
 exact mod_int' (by ext h1) (by rw [Int.fmod_eq_emod_of_nonneg i (by ext h1)];exact q))
theorem y3:oM X (binaryOp .Pow) nY:=B4 (Ar λ_ _ _ _ _ _ _ (hc:PowC _ _) q=>pow_int_small hc.1 hc.2.1 hc.2.2 q)
theorem p9:oM X (binaryOp .Sub) dH:=B4 (Ar λ_ _ _ _ _ _ _ _ q=>sub_int q)
theorem vF:oM X (compareOp .Lt) sF:=Jp Ao
theorem yT:oM X (compareOp .LtE) u5:=Jp Ap
theorem xI:oM X (compareOp .Gt) tW:=Jp Aq
noncomputable def br:D->D->Option Sl
 | .int i,.int j=>some (.sh (.int (i+j)))
 | .lst false a,.lst false b=>if a.length+b.length<=16777216 then some (.ow (a++b)) else none
 | .tup a,.tup b=>if a.length+b.length<=16777216 then some (.sh (.tup (a++b))) else none
 | .str a,.str b=>if a.length+b.length<=16777216 then some (.sh (.str (a++b))) else none
 | _,_=>none
theorem ET{K:aK}{O:Addr->Prop}{H:Hp}{v:V}{ds:List D}(h:Is K O H v (.tup ds)):∃p xs,v=.ref p/\gC K H p xs/\aZ K O H xs ds:=by
 obtain ⟨p,xs,e,h1,h2⟩:=h.seq (k:=false) rfl
 exact ⟨p,xs,e,h1,h2⟩
theorem JD{K:aK}{O:Addr->Prop}{H:Hp}{v:V}{ds:List D}(h:Is K O H v (.lst false ds)):∃p xs,v=.ref p/\¬O p/\H p=some (.lst xs)/\aZ K O H xs ds:=by
 cases h with
 | lst ho hp hs=>exact ⟨_,_,rfl,ho,hp,hs⟩
theorem aZ.eJ{K:aK}{O:Addr->Prop}{H:Hp}{xs:List V}{ds:List D}(h:aZ K O H xs ds):xs=[]↔ds=[]:=by cases h<;>simp
theorem Qa{α:Type}{c:Prop}{d:Decidable c}{x y:α}(h:(@ite _ c d (some x) none)=some y):c/\x=y:=lI h
theorem du:oM X (binaryOp .Add) br:=by
 refine ⟨_,wm.or (wj.or (tJ.or (o4.or Wm))),λO H x y a b s Q hO hx hy e q=>?_⟩
 cases a with
 | int i=>cases b with
  | int j =>
   obtain rfl:=dC (show some (Sl.sh (.int (i+j)))=some s from e)
   exact .inl ⟨i,j,oA hx,oA hy,q _ H (aH.refl _) (Is.int _)⟩
  | _=>cases e
 | lst r a=>cases r with
  | true=>cases b<;>cases e
  | false=>cases b with
   | lst r b=>cases r with
    | true=>cases e
    | false =>
     obtain ⟨hl,rfl⟩:=lI (show (if a.length+b.length<=16777216 then some (Sl.ow (a++b)) else none)=some s from e)
     obtain ⟨p1,xs,rfl,_,h1,i1⟩:=JD hx
     obtain ⟨p2,ys,rfl,_,h2,i2⟩:=JD hy
     exact .inr (.inl ⟨p1,p2,xs,ys,rfl,rfl,h1,h2,by rw [i1.length,i2.length,pZ];exact hl,λp hp=>q _ _ (oC hp _) (y8 hp (i1.append i2))⟩)
   | _=>cases e
 | tup a=>cases b with
  | tup b =>
   obtain ⟨hl,rfl⟩:=Qa (show (if a.length+b.length<=16777216 then some (Sl.sh (.tup (a++b))) else none)=some s from e)
   obtain ⟨p1,xs,rfl,h1,i1⟩:=ET hx
   obtain ⟨p2,ys,rfl,h2,i2⟩:=ET hy
   by_cases h0:a=[]
   .subst h0
    cases i1
    exact .inr (.inr (.inr (.inr ⟨p1,p2,ys,rfl,rfl,h1,h2,q _ H (aH.refl _) hy⟩)))
   refine .inr (.inr (.inl ⟨p1,p2,xs,ys,rfl,rfl,h1,h2,λz=>h0 (i1.eJ.mp z),by rw [i1.length,i2.length,pZ];exact hl,λz=>?_,λz p hp=>q _ _ (oC hp _) (E4 hO hp (i1.append i2))⟩))
   have z':=i2.eJ.mp z
   subst z'
   rw [rY] at q
   exact q _ H (aH.refl _) hx
  | _=>cases e
 | str a=>cases b with
  | str b =>
   obtain ⟨hl,rfl⟩:=lI (show (if a.length+b.length<=16777216 then some (Sl.sh (.str (a++b))) else none)=some s from e)
   exact .inr (.inr (.inr (.inl ⟨a,b,yX hx,yX hy,by rw [pZ];exact hl,q _ H (aH.refl _) (Is.str _)⟩)))
  | _=>cases e
 | _=>cases e
theorem map_some{α β:Type}{o:Option α}{f:α->β}{b:β}(h:o.map f=some b):∃a,o=some a/\f a=b:=by
 cases o with
 | none=>cases h
 | some a=>exact ⟨a,rfl,dC h⟩
noncomputable def D.cV:D->Bool
 | .bz=>true
 | _=>false
theorem WN{K:aK}{O:Addr->Prop}{H:Hp}{x:V}{a:D}(hx:Is K O H x a):decide (x=.bz)=a.cV:=by
 cases hx<;>simp [D.cV]
noncomputable def Hy:D->D->Option Sl:=λa b=>if b.cV=true then some (.sh (.bl a.cV)) else none
noncomputable def Js:D->D->Option Sl:=λa b=>if b.cV=true then some (.sh (.bl !a.cV)) else none
theorem XE{b:D}(h:b.cV=true):b=.bz:=by cases b<;>first | rfl | cases h
theorem Wj:oM X (compareOp .IsNot) Js:=by
 refine ⟨_,Wn,λO H x y a b s Q hO hx hy e q=>?_⟩
 obtain ⟨hb,rfl⟩:=lI e
 rw [XE hb] at hy
 exact ⟨N8 hy,by rw [WN hx];exact q _ H (aH.refl _) (Is.bl _)⟩
end
section
variable {X:Cx}{a b c:Expr}{pos p:Pos}{fa fb:En->Option Sl}{es:List Expr}{e:Expr}
def NL(X:Cx)(f:Value)(g:List D->Option Sl):Prop:=
 ∃r:List V->Hp->VK->Prop,cA X f r/\∀(O:Addr->Prop) (H:Hp) (xs:List V) (ds:List D) (s:Sl) (Q:VK),(∀q,O q->H q≠none)->aZ X.K O H xs ds->g ds=some s ->
  (∀v H',aH H H'->Res X.K O H H' v s->Q v H')->r xs H Q
noncomputable def B'(g:List D->Option Sl)(fs:En->Option (List D)):En->Option Sl:=λenv=>(fs env).bind g
theorem J6{id:String}{x:Str}{g:List D->Option Sl}{fs:En->Option (List D)}(hc:NL X (.builtin id) g)(hg:Gl X x)(hm:X.mg x=none)(hv:bootBuiltins x=some (.builtin id))(ha:AV X (e::es) fs)(hn:x ≠ "__name__":=by decide)(nX:(x==("__debug__":Str))=false:=by decide)
  (he:starEach (e::es) X.env=(false,eval e X.env)::starEach es X.env:=by rfl)(eU:(backTo pos (starEach es X.env)).any (·.1)=false:=by rfl):
  EV X (.Call (.Name x p) (e::es) [] pos) (B' g fs):=by
 obtain ⟨r,hr,TY⟩:=hc
 obtain ⟨t,pt,k⟩:=ha
 refine ⟨_,uq hr hg hm hv pt hn nX he eU,λO B σ H env s Q R e q=>?_⟩
 obtain ⟨ds,e1,e2⟩:=bind_some e
 refine k O B σ H env ds _ R e1 λvs H1 s1 r1=>?_
 exact TY (OO O σ env) H1 vs ds s Q (λq=>(R.grow s1).oo) r1 e2 λv H2 s2 r2=>q v H2 (s1.trans s2) (r2.from s1)
noncomputable def yO:List D->Option Sl
 | [.int i,.int j]=>some (.sh (.int (if j<i then j else i)))
 | _=>none
noncomputable def NJ:List D->Option Sl
 | [.int i,.int j]=>some (.sh (.int (if j>i then j else i)))
 | _=>none
theorem PR{K:aK}{O:Addr->Prop}{H:Hp}{xs:List V}{i j:Int}(h:aZ K O H xs [.int i,.int j]):xs=[.int i,.int j]:=by
 cases h with
 | cons h t=>cases t with
  | cons h' t=>cases t;rw [oA h,oA h']
theorem JO{g:Int->Int->Option Sl}{ds:List D}{s:Sl}(e:(match ds with | [.int i,.int j]=>g i j | _=>none)=some s):∃i j,ds=[.int i,.int j]/\g i j=some s:=by
 split at e
 .exact ⟨_,_,rfl,e⟩
 .cases e
theorem JW(hc:X.calm=true):NL X (.builtin "min") yO:=by
 refine ⟨_,YM hc,λO H xs ds s Q hO h e q=>?_⟩
 obtain ⟨i,j,rfl,e⟩:=JO (g:=λi j=>some (.sh (.int (if j<i then j else i)))) e
 obtain rfl:=dC e
 exact ⟨i,j,PR h,q _ H (aH.refl _) (Is.int _)⟩
noncomputable def lD(f:En->Option (Bool×List D)):En->Option Sl:=λenv=>(f env).map λx=>.sh (.int x.2.length)
noncomputable def Es(f:En->Option (Bool×List D)):En->Option Sl:=λenv=>(f env).map λx=>.ow x.2
noncomputable def Ca(f:En->Option (Bool×List D)):En->Option Sl:=λenv=>(f env).bind λx=>if x.1=true then some (.sh (.tup x.2)) else none
variable {ba:En->Option (Bool×List D)}
theorem um(hg:Gl X "len")(hm:X.mg "len" = none)(ha:BV X a ba)(hs:starEach [a] X.env=[(false,eval a X.env)]:=by rfl):EV X (.Call (.Name "len" p) [a] [] pos) (lD ba):=by
 obtain ⟨t,pt,k⟩:=ha
 refine ⟨_,uq ZJ hg hm PySem.boot_len (nH pt oX hs) (by decide) (by decide) hs rfl,λO B σ H env s Q R e q=>?_⟩
 obtain ⟨⟨kk,ds⟩,e1,rfl⟩:=map_some e
 refine k O B σ H env kk ds _ R e1 λl xs H1 s1 hq hx=>⟨l,xs,rfl,?_,?_⟩
 .cases kk with
  | true=>exact .inl hq
  | false=>exact .inr hq
 .rw [hx.length]
  exact q _ H1 s1 (Is.int _)
theorem OR(hg:Gl X "list")(hm:X.mg "list" = none)(ha:BV X a ba)(hs:starEach [a] X.env=[(false,eval a X.env)]:=by rfl):EV X (.Call (.Name "list" p) [a] [] pos) (Es ba):=by
 obtain ⟨t,pt,k⟩:=ha
 refine ⟨_,Cp ZK hg hm (by decide +kernel) (nH pt oX hs) (by decide) (by decide) hs rfl,λO B σ H env s Q R e q=>?_⟩
 obtain ⟨⟨kk,ds⟩,e1,rfl⟩:=map_some e
 refine k O B σ H env kk ds _ R e1 λl xs H1 s1 hq hx=>⟨l,xs,rfl,?_,λp hp=>?_⟩
 .cases kk with
  | true=>exact .inl hq
  | false=>exact .inr hq
 .exact q _ _ (s1.trans (oC hp _)) ((y8 hp hx).from s1)
theorem Py(hg:Gl X "tuple")(hm:X.mg "tuple" = none)(ha:BV X a ba)(hs:starEach [a] X.env=[(false,eval a X.env)]:=by rfl):EV X (.Call (.Name "tuple" p) [a] [] pos) (Ca ba):=by
 obtain ⟨t,pt,k⟩:=ha
 refine ⟨_,Cp Z7 hg hm (by decide +kernel) (nH pt oX hs) (by decide) (by decide) hs rfl,λO B σ H env s Q R e q=>?_⟩
 obtain ⟨⟨kk,ds⟩,e1,e2⟩:=bind_some e
 obtain ⟨h1,rfl⟩:=lI e2
 refine k O B σ H env kk ds _ R e1 λl xs H1 s1 hq hx=>⟨l,xs,rfl,?_⟩
 cases (show kk=true from h1)
 exact .inl ⟨hq,λp hp=>q _ _ (s1.trans (oC hp _)) ((E4 (O:=OO O σ env) (H:=H1) (λ_ z=>(R.grow s1).oo z) hp hx).from s1)⟩
end
section
variable {K:aK}{O:Addr->Prop}{B H H1:Hp}{σ:L2.St}{env:En}{v:V}{r:Sl}{i:Nat}
theorem Wp(h:mM (σ.set i (some v)) (env.set i r) q):mM σ env q\/(r.own/\v=.ref q):=by
 obtain ⟨j,t,h1,ho,h2⟩:=h
 by_cases hj:i=j
 .subst hj
  rw [IS] at h1 h2
  rw [if_pos rfl] at h1 h2
  split at h1
  .cases h1
   split at h2
   .cases h2;exact .inr ⟨ho,rfl⟩
   .cases h2
  .cases h1
 .rw [eD hj] at h1 h2
  exact .inl ⟨j,t,h1,ho,h2⟩
theorem Res.fresh(h:Res K O B H v r)(ho:r.own):∃p,v=.ref p/\B p=none/\H p≠none:=by
 cases r with
 | no=>exact ho.elim
 | sh d=>exact ho.elim
 | ow ds=>obtain ⟨p,xs,e1,e2,e3,_⟩:=h;exact ⟨p,e1,e2,by rw [e3];exact λz=>nomatch z⟩
 | dw aF=>obtain ⟨p,e1,e2,e3⟩:=h;exact ⟨p,e1,e2,by rw [e3];exact λz=>nomatch z⟩
 | tw ks ds=>obtain ⟨p,vs,e1,e2,e3,_⟩:=h;exact ⟨p,e1,e2,by rw [e3];exact λz=>nomatch z⟩
theorem Rel.set(R:Rel K O B σ H env)(s:aH H H1)(h:Res K (OO O σ env) H H1 v r)(hi:i<env.length):
  Rel K O B (σ.set i (some v)) H1 (env.set i r)/\Gd σ env H (σ.set i (some v)) (env.set i r) H1:=by
 have new:∀q,mM (σ.set i (some v)) (env.set i r) q->mM σ env q\/(H q=none/\r.own/\v=.ref q):=λq z=>by
  rcases Wp z with z | ⟨ho,rfl⟩
  .exact .inl z
  .obtain ⟨p,e1,e2,_⟩:=h.fresh ho
   cases e1
   exact .inr ⟨e2,ho,rfl⟩
 have hO:∀q,H q≠none->¬OO O σ env q->¬OO O (σ.set i (some v)) (env.set i r) q:=λq hq hn z=>by
  rcases z with z | z
  .exact hn (.inl z)
  .rcases new q z with z | ⟨z,_⟩
   .exact hn (.inr z)
   .exact hq z
 have hH:∀q u,H q=some u->¬OO O σ env q->H1 q=some u:=λq u e _=>s q u e
 have tP:i<σ.length:=by rw [R.len];exact hi
 refine ⟨⟨R.same.trans s,R.qM,by simp [R.len],λj d e=>?_,λj ds e=>?_,λj aF e=>?_,λj ks ds e=>?_,λj k ds es p e1 e2 e3 e4 o1 o2=>?_⟩,λq u e n=>⟨s q u e,λz=>?_⟩⟩
 .by_cases hj:i=j
  .subst hj
   rw [k6 hi] at e
   cases e
   refine ⟨v,by rw [k6 tP],Is.less (O:=OO O σ env) (λq z=>z.elim .inl λz=>?_) h⟩
   rcases new q z with z | ⟨_,z,_⟩
   .exact .inr z
   .exact z.elim
  .rw [eD hj] at e
   obtain ⟨w,e1,h1⟩:=R.sh j d e
   exact ⟨w,by rw [eD hj];exact e1,h1.map hO hH⟩
 .by_cases hj:i=j
  .subst hj
   rw [k6 hi] at e
   cases e
   obtain ⟨p,xs,rfl,e2,e3,h1⟩:=h
   refine ⟨p,xs,by rw [k6 tP],R.same.free e2,e3,h1.less λq z=>?_⟩
   rcases z with z | z
   .exact .inl (.inl z)
   .rcases new q z with z | ⟨_,_,z⟩
    .exact .inl (.inr z)
    .cases z;exact .inr rfl
  .rw [eD hj] at e
   obtain ⟨p,xs,e1,e2,e3,h1⟩:=R.ow j ds e
   exact ⟨p,xs,by rw [eD hj];exact e1,e2,s _ _ e3,h1.map hO hH⟩
 .by_cases hj:i=j
  .subst hj
   rw [k6 hi] at e
   cases e
   obtain ⟨p,rfl,e2,e3⟩:=h
   exact ⟨p,by rw [k6 tP],R.same.free e2,e3⟩
  .rw [eD hj] at e
   obtain ⟨p,e1,e2,e3⟩:=R.dw j aF e
   exact ⟨p,by rw [eD hj];exact e1,e2,s _ _ e3⟩
 .by_cases hj:i=j
  .subst hj
   rw [k6 hi] at e
   cases e
   obtain ⟨p,vs,rfl,e2,e3,e4,h1⟩:=h
   refine ⟨p,vs,by rw [k6 tP],R.same.free e2,e3,e4,h1.less λq z=>?_⟩
   rcases z with z | z
   .exact .inl (.inl z)
   .rcases new q z with z | ⟨_,_,z⟩
    .exact .inl (.inr z)
    .cases z;exact .inr rfl
  .rw [eD hj] at e
   obtain ⟨p,vs,e1,e2,e3,e4,h1⟩:=R.tw j ks ds e
   exact ⟨p,vs,by rw [eD hj];exact e1,e2,s _ _ e3,e4,h1.map hO hH⟩
 .have other:∀j t,j≠i->env[j]?=some t->t.own->σ[j]?=some (some (V.ref p))->r.own->v≠.ref p:=λj t hj e ho e' hr z=>by
   obtain ⟨p',rfl,e2,_⟩:=h.fresh hr
   cases z
   obtain ⟨p2,u,e5,_,e6⟩:=R.ad e ho
   rw [e'] at e5
   cases e5
   rw [e2] at e6
   cases e6
  by_cases hj:i=j
  .by_cases hk:i=k
   .rw [<-hj,<-hk]
   .subst hj
    rw [k6 hi] at e1
    rw [k6 tP] at e3
    rw [eD hk] at e2 e4
    cases e1
    cases e3
    exact absurd rfl (other k es (kY hk) e2 o2 e4 o1)
  .by_cases hk:i=k
   .subst hk
    rw [k6 hi] at e2
    rw [k6 tP] at e4
    rw [eD hj] at e1 e3
    cases e2
    cases e4
    exact absurd rfl (other j ds (kY hj) e1 o1 e3 o2)
   .rw [eD hj] at e1 e3
    rw [eD hk] at e2 e4
    exact R.sep j k ds es p e1 e2 e3 e4 o1 o2
 .rcases new q z with z | ⟨z,_⟩
  .exact n z
  .rw [e] at z;cases z
theorem Rel.LS{p:Addr}{u':HO}{t t':Sl}(R:Rel K O B σ H env)(he:env[i]?=some t)(ho:t.own)(qr:t'.own)(hs:σ[i]?=some (some (V.ref p)))
  (hx:(∀ds',t'=.ow ds'->∃nD,u'=.lst nD/\aZ K (OO O σ env) H nD ds')/\(∀AE,t'=.dw AE->u'=HK AE)/\∀ks' ds',t'=.tw ks' ds'->∃vs',u'=xf ks' vs'/\ks'.length=vs'.length/\aZ K (OO O σ env) H vs' ds'):
  Rel K O B σ (upd H p u') (env.set i t')/\Gd σ env H σ (env.set i t') (upd H p u'):=by
 have hi:i<env.length:=(qP.mp he).1
 have own:∀q,mM σ (env.set i t') q->mM σ env q:=λq ⟨j,es,e1,e3,e2⟩=>by
  by_cases hj:i=j
  .subst hj;exact ⟨i,t,he,ho,e2⟩
  .rw [eD hj] at e1;exact ⟨j,es,e1,e3,e2⟩
 have An:mM σ env p:=⟨i,t,he,ho,hs⟩
 obtain ⟨p0,u0,f1,f2,f3⟩:=R.ad he ho
 rw [hs] at f1
 cases f1
 have hO:∀q,H q≠none->¬OO O σ env q->¬OO O σ (env.set i t') q:=λq _ hn z=>hn (z.elim .inl λz=>.inr (own q z))
 have hH:∀q u,H q=some u->¬OO O σ env q->upd H p u' q=some u:=λq u e n=>by
  rw [dM (λz=>n (.inr (by rw [z];exact An)))]
  exact e
 refine ⟨⟨λq u e=>?_,R.qM,by simp [R.len],λj d e=>?_,λj es e=>?_,λj aF e=>?_,λj ks es e=>?_,λj k es fs q e1 e2 e3 e4 o1 o2=>?_⟩,λq u e n=>⟨?_,λz=>n (own q z)⟩⟩
 .rw [dM (q8 e f2)];exact R.same q u e
 .by_cases hj:i=j
  .subst hj;rw [k6 hi] at e;cases e;exact qr.elim
  .rw [eD hj] at e
   obtain ⟨w,e1,h1⟩:=R.sh j d e
   exact ⟨w,e1,h1.map hO hH⟩
 .by_cases hj:i=j
  .subst hj
   rw [k6 hi] at e
   cases e
   obtain ⟨nD,hu,kU⟩:=hx.1 _ rfl
   exact ⟨p,nD,hs,f2,by rw [nI,hu],kU.map hO hH⟩
  .rw [eD hj] at e
   obtain ⟨p2,vV,e1,e2,e3,h1⟩:=R.ow j es e
   refine ⟨p2,vV,e1,e2,?_,h1.map hO hH⟩
   rw [dM (λz=>hj (R.sep i j t _ p he e hs (by rw [e1,z]) ho trivial))]
   exact e3
 .by_cases hj:i=j
  .subst hj
   rw [k6 hi] at e
   cases e
   exact ⟨p,hs,f2,by rw [nI,hx.2.1 _ rfl]⟩
  .rw [eD hj] at e
   obtain ⟨p2,e1,e2,e3⟩:=R.dw j aF e
   refine ⟨p2,e1,e2,?_⟩
   rw [dM (λz=>hj (R.sep i j t _ p he e hs (by rw [e1,z]) ho trivial))]
   exact e3
 .by_cases hj:i=j
  .subst hj
   rw [k6 hi] at e
   cases e
   obtain ⟨vs',hu,hl,kU⟩:=hx.2.2 _ _ rfl
   exact ⟨p,vs',hs,f2,by rw [nI,hu],hl,kU.map hO hH⟩
  .rw [eD hj] at e
   obtain ⟨p2,vV,e1,e2,e3,e4,h1⟩:=R.tw j ks es e
   refine ⟨p2,vV,e1,e2,?_,e4,h1.map hO hH⟩
   rw [dM (λz=>hj (R.sep i j t _ p he e hs (by rw [e1,z]) ho trivial))]
   exact e3
 .have fix:∀(j:Nat) (es:Sl),(env.set i t')[j]?=some es->es.own->∃gs:Sl,env[j]?=some gs/\gs.own:=λj es e o=>by
   by_cases hj:i=j
   .subst hj;exact ⟨t,he,ho⟩
   .rw [eD hj] at e;exact ⟨es,e,o⟩
  obtain ⟨g1,h1,q1⟩:=fix j es e1 o1
  obtain ⟨g2,h2,q2⟩:=fix k fs e2 o2
  exact R.sep j k g1 g2 q h1 h2 e3 e4 q1 q2
 .rw [dM (λz=>n (by rw [z];exact An))];exact e
theorem Rel.wr(R:Rel K O B σ H env)(he:env[i]?=some (Sl.ow ds))(hs:σ[i]?=some (some (V.ref p)))(hx:aZ K (OO O σ env) H nD ds'):
  Rel K O B σ (upd H p (.lst nD)) (env.set i (.ow ds'))/\Gd σ env H σ (env.set i (.ow ds')) (upd H p (.lst nD)):=
 R.LS (t':=.ow ds') he trivial trivial hs ⟨λ_ e=>by cases e;exact ⟨nD,rfl,hx⟩,λ_ e=>(nomatch e),λ_ _ e=>(nomatch e)⟩
theorem Rel.Rb{p:Addr}{ks ks':List Str}{ds ds':List D}{vs':List V}(R:Rel K O B σ H env)(he:env[i]?=some (Sl.tw ks ds))(hs:σ[i]?=some (some (V.ref p)))(hl:ks'.length=vs'.length)(hx:aZ K (OO O σ env) H vs' ds'):
  Rel K O B σ (upd H p (xf ks' vs')) (env.set i (.tw ks' ds'))/\Gd σ env H σ (env.set i (.tw ks' ds')) (upd H p (xf ks' vs')):=
 R.LS (t':=.tw ks' ds') he trivial trivial hs ⟨λ_ e=>(nomatch e),λ_ e=>(nomatch e),λ_ _ e=>by cases e;exact ⟨vs',rfl,hl,hx⟩⟩
theorem Rel.w5{t:Sl}(R:Rel K O B σ H env)(he:env[i]?=some t)(ho:t.own):Rel K O B σ H (env.set i (.sh t.d))/\Gd σ env H σ (env.set i (.sh t.d)) H:=by
 have hi:i<env.length:=(qP.mp he).1
 obtain ⟨p,u0,f1,f2,f3⟩:=R.ad he ho
 have own:∀q,mM σ (env.set i (.sh t.d)) q->mM σ env q/\q≠p:=λq ⟨j,es,e1,o,e2⟩=>by
  by_cases hj:i=j
  .subst hj;rw [k6 hi] at e1;cases e1;exact o.elim
  .rw [eD hj] at e1
   exact ⟨⟨j,es,e1,o,e2⟩,λz=>hj (R.sep i j t es p he e1 f1 (by rw [e2,z]) ho o)⟩
 have less:∀q,OO O σ (env.set i (.sh t.d)) q->OO O σ env q:=λq z=>z.elim .inl λz=>.inr (own q z).1
 have np:¬OO O σ (env.set i (.sh t.d)) p:=λz=>z.elim (λz=>R.qM.1 p z f2) λz=>(own p z).2 rfl
 refine ⟨⟨R.same,R.qM,by simp [R.len],λj d e=>?_,λj es e=>?_,λj aF e=>?_,λj ks es e=>?_,λj k es fs q e1 e2 e3 e4 o1 o2=>?_⟩,λq u e n=>⟨e,λz=>n (own q z).1⟩⟩
 .by_cases hj:i=j
  .subst hj
   rw [k6 hi] at e
   cases e
   refine ⟨.ref p,f1,?_⟩
   cases t with
   | no=>exact ho.elim
   | sh d=>exact ho.elim
   | ow ds =>
    obtain ⟨p',xs,g1,g2,g3,g4⟩:=R.ow i ds he
    rw [f1] at g1;cases g1
    exact .lst np g3 (g4.less less)
   | dw aF =>
    obtain ⟨p',g1,g2,g3⟩:=R.dw i aF he
    rw [f1] at g1;cases g1
    exact .jv np g3
   | tw ks ds =>
    obtain ⟨p',vs,g1,g2,g3,g4,g5⟩:=R.tw i ks ds he
    rw [f1] at g1;cases g1
    exact .dq np g3 g4 (g5.less less)
  .rw [eD hj] at e
   obtain ⟨w,e1,h1⟩:=R.sh j d e
   exact ⟨w,e1,h1.less less⟩
 .by_cases hj:i=j
  .subst hj;rw [k6 hi] at e;cases e
  .rw [eD hj] at e
   obtain ⟨p2,vV,e1,e2,e3,h1⟩:=R.ow j es e
   exact ⟨p2,vV,e1,e2,e3,h1.less less⟩
 .by_cases hj:i=j
  .subst hj;rw [k6 hi] at e;cases e
  .rw [eD hj] at e
   exact R.dw j aF e
 .by_cases hj:i=j
  .subst hj;rw [k6 hi] at e;cases e
  .rw [eD hj] at e
   obtain ⟨p2,vV,e1,e2,e3,e4,h1⟩:=R.tw j ks es e
   exact ⟨p2,vV,e1,e2,e3,e4,h1.less less⟩
 .have fix:∀(j:Nat) (es:Sl),(env.set i (.sh t.d))[j]?=some es->es.own->env[j]?=some es:=λj es e o=>by
   by_cases hj:i=j
   .subst hj;rw [k6 hi] at e;cases e;exact o.elim
   .rw [eD hj] at e;exact e
  exact R.sep j k es fs q (fix j es e1 o1) (fix k fs e2 o2) e3 e4 o1 o2
theorem Rel.mF{ds:List D}(R:Rel K O B σ H env)(he:env[i]?=some (Sl.ow ds)):Rel K O B σ H (env.set i (.sh (.lst false ds)))/\Gd σ env H σ (env.set i (.sh (.lst false ds))) H:=R.w5 he trivial
end
section
variable {X:Cx}{st:Stmt}{rest:List Stmt}{F G:SF}{a b c e:Expr}{fa:En->Option Sl}{ga:En->Option Bool}{pos:Pos}
noncomputable def cR:SF:=λenv=>some (.nx,env)
noncomputable def RG:SF:=λenv=>some (.bk,env)
noncomputable def RE:SF:=λenv=>some (.ct,env)
noncomputable def az(F G:SF):SF:=λenv=>match F env with
 | some (.nx,dY)=>G dY
 | r=>r
theorem dD:oJ X [] cR:=⟨_,O6,λO B σ H env fl ak D R e q=>by
 cases (show some (Fl.nx,env)=some (fl,ak) from e)
 exact q σ H R (Gd.refl (aH.refl _))⟩
theorem bx(h:SV X st F):oJ X [st] F:=let ⟨t,p,k⟩:=h;⟨t,Xm p,k⟩
theorem bu(h:SV X st F)(h2:oJ X rest G):oJ X (st::rest) (az F G):=by
 obtain ⟨t,p,k⟩:=h
 obtain ⟨u,p',k'⟩:=h2
 refine ⟨_,O8 p p',λO B σ H env fl ak D R e q=>?_⟩
 unfold az at e
 cases hF:F env with
 | none=>rw [hF] at e;cases e
 | some x =>
  obtain ⟨f1,dY⟩:=x
  rw [hF] at e
  refine k O B σ H env f1 dY _ R hF ?_
  cases f1 with
  | nx=>exact λbo H' R' g'=>k' O B bo H' dY fl ak D R' e (q.from g')
  | bk=>cases e;exact q
  | ct=>cases e;exact q
  | rt r=>cases e;exact q
noncomputable def cN(c:En->Option Bool)(F G:SF):SF:=λenv=>match c env with
 | some true=>F env
 | some false=>G env
 | none=>none
theorem dv(hc:TV X c ga)(ha:oJ X sa F)(hb:oJ X sb G):SV X (.If c sa sb pos) (cN ga F G):=by
 obtain ⟨tc,pc,kc⟩:=hc
 obtain ⟨t,p,k⟩:=ha
 obtain ⟨u,p',k'⟩:=hb
 refine ⟨_,Af pc p p',λO B σ H env fl ak D R e q=>?_⟩
 unfold cN at e
 cases h:ga env with
 | none=>rw [h] at e;cases e
 | some x =>
  rw [h] at e
  refine kc O B σ H env x _ R h λH1 s1=>?_
  cases x with
  | true =>
   rw [if_pos rfl]
   exact k O B σ H1 env fl ak D (R.grow s1) e (q.from (Gd.refl s1))
  | false =>
   rw [if_neg qU]
   exact k' O B σ H1 env fl ak D (R.grow s1) e (q.from (Gd.refl s1))
noncomputable def aT(f:En->Option Sl):SF:=λenv=>(f env).map λr=>(.rt r,env)
theorem cm(h:EV X e fa):SV X (.Return (some e) pos) (aT fa):=by
 obtain ⟨t,p,k⟩:=h
 refine ⟨_,Oj p,λO B σ H env fl ak D R e q=>?_⟩
 obtain ⟨r,e1,e2⟩:=map_some e
 cases e2
 exact k O B σ H env r _ R e1 λv H1 s1 r1=>q v H1 (R.same.trans s1) ((r1.from R.same).less λq z=>.inl z)
noncomputable def zR:SF:=λenv=>some (.rt (.sh .bz),env)
noncomputable def sU(i:Nat):SF:=λenv=>match env[i]? with
 | some (.ow ds)=>some (.rt (.ow ds),env)
 | some (.dw ds)=>some (.rt (.dw ds),env)
 | some (.tw ks ds)=>some (.rt (.tw ks ds),env)
 | some (.sh d)=>some (.rt (.sh d),env)
 | _=>none
theorem W7(i:Nat){x:Str}{p2:Pos}(hN:X.N[i]?=some x:=by rfl)(hv:jK X.env.scope x:=by first | exact cC rfl | exact bM (cC rfl) | exact bM (bM rfl))(hd:(x==("__debug__":Str))=false:=by decide)
  (cO:(x==("__classdict__":Str))=false:=by decide):SV X (.Return (some (.Name x p2)) pos) (sU i):=by
 refine ⟨_,Oj (sX hN hv hd cO),λO B σ H env fl ak D R e q=>?_⟩
 unfold sU at e
 cases h:env[i]? with
 | none=>rw [h] at e;cases e
 | some s =>
  rw [h] at e
  cases s with
  | no=>cases e
  | sh d =>
   cases e
   obtain ⟨v,e2,hv⟩:=R.sh i d h
   exact ⟨v,e2,q v H R.same (Is.less (λq z=>.inl z) hv)⟩
  | ow ds =>
   cases e
   obtain ⟨p,xs,e1,e2,e3,h1⟩:=R.ow i ds h
   exact ⟨_,e1,q _ H R.same ⟨p,xs,rfl,e2,e3,h1.less λq z=>z.elim .inl λz=>.inr ⟨i,.ow ds,h,trivial,by rw [z];exact e1⟩⟩⟩
  | dw aF =>
   cases e
   obtain ⟨p,e1,e2,e3⟩:=R.dw i aF h
   exact ⟨_,e1,q _ H R.same ⟨p,rfl,e2,e3⟩⟩
  | tw ks ds =>
   cases e
   obtain ⟨p,vs,e1,e2,e3,e4,h1⟩:=R.tw i ks ds h
   exact ⟨_,e1,q _ H R.same ⟨p,vs,rfl,e2,e3,e4,h1.less λq z=>z.elim .inl λz=>.inr ⟨i,.tw ks ds,h,trivial,by rw [z];exact e1⟩⟩⟩
noncomputable def ei(i:Nat)(f:En->Option Sl):SF:=λenv=>(f env).bind λr=>if i<env.length then some (.nx,env.set i r) else none
theorem Ou(hN:X.N.Nodup)(hi:X.N[i]?=some x)(hx:Loc X.env.scope x)(he:EV X e fa)(hs:swapsWith e (some (.Name x pos')) pos.line X.env=pure false:=by rfl)(hf:X.fn x=true\/X.env.scope.names.lookup x=some .local:=by first | exact .inl rfl | exact .inr rfl | assumption):
  SV X (.Assign [.Name x pos'] e pos) (ei i fa):=by
 obtain ⟨t,p,k⟩:=he
 refine ⟨_,JR hN hi hx p hs hf,λO B σ H env fl ak D R e q=>?_⟩
 obtain ⟨r,e1,e2⟩:=bind_some e
 obtain ⟨hl,e3⟩:=lI e2
 cases e3
 refine k O B σ H env r _ R e1 λv H1 s1 r1=>?_
 obtain ⟨R',g'⟩:=R.set s1 r1 hl
 exact q _ H1 R' g'
noncomputable def de(i:Nat)(f:En->Option Sl):SF:=λenv=>(f env).bind λr=>if i<env.length then some (.nx,env.set i (.sh r.d)) else none
theorem O0(hN:X.N.Nodup)(hi:X.N[i]?=some x)(hx:Loc X.env.scope x)(he:EV X e fa)(hs:swapsWith e (some (.Name x pos')) pos.line X.env=pure false:=by rfl)(hf:X.fn x=true\/X.env.scope.names.lookup x=some .local:=by first | exact .inl rfl | exact .inr rfl | assumption):
  SV X (.Assign [.Name x pos'] e pos) (de i fa):=by
 obtain ⟨t,p,k⟩:=he
 refine ⟨_,JR hN hi hx p hs hf,λO B σ H env fl ak D R e q=>?_⟩
 obtain ⟨r,e1,e2⟩:=bind_some e
 obtain ⟨hl,e3⟩:=lI e2
 cases e3
 refine k O B σ H env r _ R e1 λv H1 s1 r1=>?_
 obtain ⟨R',g'⟩:=R.set (r:=.sh r.d) s1 (r1.is λq=>R.oo) hl
 exact q _ H1 R' g'
noncomputable def Jw(f:En->Option Sl):SF:=λenv=>(f env).map λ_=>(.nx,env)
theorem W4(he:EV X e fa)(hs:swapsWith e none pos.line X.env=pure false:=by rfl):SV X (.Expr e pos) (Jw fa):=by
 obtain ⟨t,p,k⟩:=he
 refine ⟨_,J0 p hs,λO B σ H env fl ak D R e q=>?_⟩
 obtain ⟨r,e1,e2⟩:=map_some e
 cases e2
 exact k O B σ H env r _ R e1 λv H1 s1 r1=>q σ H1 (R.grow s1) (Gd.refl s1)
noncomputable def rN(i:Nat)(env:En):En:=match env[i]? with
 | some (.ow ds)=>env.set i (.sh (.lst false ds))
 | some (.dw ds)=>env.set i (.sh (.jv false ds))
 | some (.tw ks ds)=>env.set i (.sh (.dq ks ds))
 | _=>env
noncomputable def qj(i:Nat)(F:SF):SF:=λenv=>F (rN i env)
theorem JL(i:Nat)(h:SV X st F):SV X st (qj i F):=by
 obtain ⟨t,p,k⟩:=h
 refine ⟨t,p,λO B σ H env fl ak D R e q=>?_⟩
 unfold qj rN at e
 cases h:env[i]? with
 | none=>rw [h] at e;exact k O B σ H env fl ak D R e q
 | some s =>
  rw [h] at e
  cases s with
  | no=>exact k O B σ H env fl ak D R e q
  | sh d=>exact k O B σ H env fl ak D R e q
  | ow ds =>
   obtain ⟨R',g'⟩:=R.mF h
   exact k O B σ H _ fl ak D R' e (q.from g')
  | dw ds =>
   obtain ⟨R',g'⟩:=R.w5 h trivial
   exact k O B σ H _ fl ak D R' e (q.from g')
  | tw ks ds =>
   obtain ⟨R',g'⟩:=R.w5 h trivial
   exact k O B σ H _ fl ak D R' e (q.from g')
noncomputable def ji(i:Nat)(f:En->Option Sl):SF:=λenv=>match env[i]? with
 | some (.ow ds)=>(f env).bind λr=>if ds.length<16777216 then some (.nx,env.set i (.ow (ds++[r.d]))) else none
 | _=>none
theorem P8{i:Nat}{x:Str}{p1 p2 bj:Pos}(ha:EV X e fa)(hN:X.N[i]?=some x:=by rfl)(hv:jK X.env.scope x:=by first | exact cC rfl | exact bM (cC rfl) | exact bM (bM rfl))(hd:(x==("__debug__":Str))=false:=by decide)
  (cO:(x==("__classdict__":Str))=false:=by decide)(hs:starEach [e] X.env=[(false,eval e X.env)]:=by rfl)
  (cH:attributeBase (.Name x p1) "append" X.env (eval (.Name x p1) X.env)=eval (.Name x p1) X.env:=by rfl)
  (lC:((backTo bj (starEach [e] X.env)).all (λx=>!x.1)&&(backToKw bj (keywordEach [] X.env)).all (λx=>x.1.isSome)
   && decide ([e].length+([]:List Keyword).length+(if ([]:List Keyword).isEmpty then 0 else 1)<30))=true:=by rfl)
  (cF:(p2.endLine==bj.line)=true:=by rfl)
  (tO:swapsWith (.Call (.Attribute (.Name x p1) "append" p2) [e] [] bj) none pos.line X.env=pure false:=by rfl):
  SV X (.Expr (.Call (.Attribute (.Name x p1) "append" p2) [e] [] bj) pos) (ji i fa):=by
 obtain ⟨t,p,k⟩:=ha
 refine ⟨_,J0 (NM I9 M6 PySem.F.type_list_append Yv (sX hN hv hd cO) (nH p oX hs) cH lC cF hs rfl) tO,λO B σ H env fl ak D R e q=>?_⟩
 unfold ji at e
 cases h:env[i]? with
 | none=>rw [h] at e;cases e
 | some s =>
  rw [h] at e
  cases s with
  | no=>cases e
  | sh d=>cases e
  | dw aF=>cases e
  | tw _ _=>cases e
  | ow ds =>
   obtain ⟨r,e1,e2⟩:=bind_some e
   obtain ⟨hl,e3⟩:=lI e2
   cases e3
   obtain ⟨l,xs,f1,f2,f3,f4⟩:=R.ow i ds h
   refine ⟨_,f1,.inl ⟨rfl,_,eG.of f3⟩,?_⟩
   refine k O B σ H env r _ R e1 λv H1 s1 r1=>⟨l,xs,v,rfl,rfl,s1 _ _ f3,by rw [f4.length,pZ];exact hl,?_⟩
   obtain ⟨R',g'⟩:=(R.grow s1).wr h f1 ((f4.grow s1).append (.cons (r1.is λq=>R.oo) .nil))
   exact q _ _ R' (g'.from s1)
end
section
variable {X:Cx}{st:Stmt}{F:SF}{a b c e tg it:Expr}{fa:En->Option Sl}{ba:En->Option (Bool×List D)}{ga:En->Option Bool}{pos:Pos}
noncomputable abbrev GF:=D->En->Option En
def GV(X:Cx)(tg:Expr)(g:GF):Prop:=
 ∃t:TG,PG X tg t/\∀(O:Addr->Prop) (B:Hp) (σ:L2.St) (H:Hp) (env ak:En) (v:V) (d:D) (Q:L2.St->Hp->Prop),Rel X.K O B σ H env->Is X.K (OO O σ env) H v d->g d env=some ak ->
  (∀bo H',Rel X.K O B bo H' ak->Gd σ env H bo ak H'->Q bo H')->t v σ H Q
noncomputable def gN(i:Nat):GF:=λd env=>if i<env.length then some (env.set i (.sh d)) else none
theorem WM(hN:X.N.Nodup)(hi:X.N[i]?=some x)(hx:Loc X.env.scope x)(hf:X.fn x=true\/X.env.scope.names.lookup x=some .local:=by first | exact .inl rfl | exact .inr rfl | assumption):GV X (.Name x pos) (gN i):=by
 refine ⟨_,Xh hN hi hx hf,λO B σ H env ak v d Q R h e q=>?_⟩
 obtain ⟨hl,rfl⟩:=lI e
 obtain ⟨R',g'⟩:=R.set (r:=.sh d) (aH.refl _) h hl
 exact q _ H R' g'
noncomputable abbrev xW:=List D->En->Option En
def FV(X:Cx)(tg:List Expr)(g:xW):Prop:=
 ∃t:vR,CZ X tg t/\∀(O:Addr->Prop) (B:Hp) (σ:L2.St) (H:Hp) (env ak:En) (v:List V) (d:List D) (Q:L2.St->Hp->Prop),Rel X.K O B σ H env->aZ X.K (OO O σ env) H v d->g d env=some ak ->
  (∀bo H',Rel X.K O B bo H' ak->Gd σ env H bo ak H'->Q bo H')->t v σ H Q
noncomputable def vB:xW:=λds env=>match ds with
 | []=>some env
 | _::_=>none
noncomputable def p8(g:GF)(u:xW):xW:=λds env=>match ds with
 | d::r=>(g d env).bind (u r)
 | []=>none
theorem EZ:FV X [] vB:=by
 refine ⟨_,Xi,λO B σ H env ak v d Q R h e q=>?_⟩
 cases h with
 | nil=>cases e;exact ⟨rfl,q σ H R (Gd.refl (aH.refl _))⟩
 | cons _ _=>cases e
theorem Gd.Dm{K:aK}{O:Addr->Prop}{σ bo:L2.St}{env ak:En}{H H':Hp}(g:Gd σ env H bo ak H'){v:List V}{d:List D}(h:aZ K (OO O σ env) H v d):aZ K (OO O bo ak) H' v d:=
 h.map (λq hq hn z=>by
  cases e:H q with
  | none=>exact hq e
  | some u =>
   obtain ⟨_,n'⟩:=g q u e λw=>hn (.inr w)
   exact z.elim (λw=>hn (.inl w)) n') λq u e n=>(g q u e λw=>n (.inr w)).1
theorem vM{es:List Expr}{g:GF}{u:xW}(h1:GV X e g)(h2:FV X es u)
  (hs:(assignEach (e::es) X.env).map (·.2)=assign e X.env::(assignEach es X.env).map (·.2):=by rfl):FV X (e::es) (p8 g u):=by
 obtain ⟨t,p,k⟩:=h1
 obtain ⟨t',p',k'⟩:=h2
 refine ⟨_,Yc p p' hs,λO B σ H env ak v d Q R h e q=>?_⟩
 cases h with
 | nil=>cases e
 | cons h ht =>
  obtain ⟨dY,e1,e2⟩:=bind_some (show (g _ env).bind (u _)=some ak from e)
  refine ⟨_,_,rfl,k O B σ H env dY _ _ _ R h e1 λsx H1 R1 g1=>?_⟩
  exact k' O B sx H1 dY ak _ _ Q R1 (g1.Dm ht) e2 λdi H2 R2 g2=>q di H2 R2 (g1.trans g2)
noncomputable def gT(n:Nat)(u:xW):GF:=λd env=>match d with
 | .tup ds=>if ds.length=n then u ds env else none
 | _=>none
theorem ES{es:List Expr}{k n:Nat}{u:xW}(hc:X.calm=true)(h:FV X es u)(hn:(assignEach es X.env).length=n:=by rfl)(sy:(assignEach es X.env).findIdx? (·.1)=none:=by rfl):GV X (.Tuple es k pos) (gT n u):=by
 obtain ⟨t,p,k'⟩:=h
 refine ⟨_,Vq hc p hn sy,λO B σ H env ak v d Q R h e q=>?_⟩
 cases d with
 | tup ds =>
  have e':(if ds.length=n then u ds env else none)=some ak:=e
  by_cases hl:ds.length=n
  .rw [if_pos hl] at e'
   obtain ⟨a,xs,rfl,h1,h2⟩:=ET h
   exact ⟨a,xs,rfl,h1,by rw [h2.length];exact hl,k' O B σ H env ak xs ds Q R h2 e' q⟩
  .rw [if_neg hl] at e';cases e'
 | _=>cases e
noncomputable def zU(f:En->Option Sl)(g:GF):SF:=λenv=>(f env).bind λr=>(g r.d env).map λak=>(.nx,ak)
noncomputable def forL(g:GF)(F:SF):List D->SF
 | [],env=>some (.nx,env)
 | d::ds,env=>match g d env with
  | none=>none
  | some dY=>match F dY with
   | some (.nx,dX)=>forL g F ds dX
   | some (.ct,dX)=>forL g F ds dX
   | some (.bk,dX)=>some (.nx,dX)
   | some (.rt r,dX)=>some (.rt r,dX)
   | none=>none
structure Left(K:aK)(O:Addr->Prop)(B:Hp)(tm:L2.St)(H0:Hp)(kj:En)(g:GF)(F:SF)(ds:List D)(fl:Fl)(ak:En)(i:Nat)(σ:L2.St)(H:Hp):Prop where
 ex:∃env,Rel K O B σ H env/\Gd tm kj H0 σ env H/\forL g F (ds.drop i) env=some (fl,ak)
theorem Ka{g:GF}{tF:TG}{tb:TS}{O:Addr->Prop}{B:Hp}{tm:L2.St}{H0:Hp}{kj ak:En}{fl:Fl}{D:Ends}{ds:List DL.D}{xs:List V}{i:Nat}{x:V}{σ:L2.St}{H:Hp}
  (kg:∀(O:Addr->Prop) (B:Hp) (σ:L2.St) (H:Hp) (env ak:En) (v:V) (d:DL.D) (Q:L2.St->Hp->Prop),Rel X.K O B σ H env->Is X.K (OO O σ env) H v d->g d env=some ak ->
   (∀bo H',Rel X.K O B bo H' ak->Gd σ env H bo ak H'->Q bo H')->tF v σ H Q)
  (kb:∀(O:Addr->Prop) (B:Hp) (σ:L2.St) (H:Hp) (env:En) (fl:Fl) (ak:En) (D:Ends),Rel X.K O B σ H env->F env=some (fl,ak)->dE X.K O B σ H env D fl ak->tb D σ H)
  (hx:aZ X.K (OO O tm kj) H0 xs ds)(hi:xs[i]?=some x)(q:dE X.K O B tm H0 kj D fl ak)(h:Left X.K O B tm H0 kj g F ds fl ak i σ H):
  tF x σ H λdi H2=>tb { D with nx:=Left X.K O B tm H0 kj g F ds fl ak (i+1),ct:=Left X.K O B tm H0 kj g F ds fl ak (i+1),bk:=D.nx } di H2:=by
 obtain ⟨env,R,gd,e⟩:=h
 obtain ⟨d,hd,_⟩:=hx.wW hi
 have Hf:i<ds.length:=(qP.mp hd).1
 have pd:ds.drop i=d::ds.drop (i+1):=by
  rw [sR Hf]
  rw [mG Hf] at hd
  rw [dC hd]
 obtain ⟨x',kU,Tg⟩:=(gd.Dm hx).get hd
 rw [hi] at kU
 cases kU
 rw [pd,forL] at e
 cases hg:g d env with
 | none=>rw [hg] at e;cases e
 | some dY =>
  rw [hg] at e
  refine kg O B σ H env dY x d _ R Tg hg λsx H1 R1 g1=>?_
  dsimp only at e
  cases hF:F dY with
  | none=>rw [hF] at e;cases e
  | some y =>
   obtain ⟨f2,dX⟩:=y
   rw [hF] at e
   have go:=gd.trans g1
   refine kb O B sx H1 dY f2 dX _ R1 hF ?_
   cases f2 with
   | nx=>exact λdi H2 R2 g2=>⟨dX,R2,go.trans g2,e⟩
   | ct=>exact λdi H2 R2 g2=>⟨dX,R2,go.trans g2,e⟩
   | bk=>cases e;exact λdi H2 R2 g2=>q di H2 R2 (go.trans g2)
   | rt r=>cases e;exact q
theorem Fe{D:Ends}{ds:List DL.D}{n:Nat}(hn:ds.length<=n)
  (q:dE X.K O B tm H0 kj D fl ak)(h:Left X.K O B tm H0 kj g F ds fl ak n σ H):D.nx σ H:=by
 obtain ⟨env,R,gd,e⟩:=h
 rw [BW hn,forL] at e
 cases e
 exact q σ H R gd
noncomputable def gO(f:En->Option Sl)(g:GF)(F:SF):SF:=λenv=>(f env).bind λr=>(fA r.d).bind λx=>forL g F x.2 env
theorem Gd.sq{K:aK}{σ bo:L2.St}{env ak:En}{H H':Hp}(gd:Gd σ env H bo ak H'){k:Bool}{p:Addr}{xs:List V}(h:Sq K H k p xs)(hp:¬mM σ env p\/H p=none):Sq K H' k p xs:=by
 have rd:∀u,Rd H p u->Rd H' p u:=λu z=>by
  rcases z with z | ⟨o,z⟩
  .rcases hp with hp | hp
   .exact .inl (gd p _ z hp).1
   .rw [hp] at z;cases z
  .rcases hp with hp | hp
   .exact .inr ⟨o,(gd p _ z hp).1⟩
   .rw [hp] at z;cases z
 cases k with
 | true =>
  rcases h with h | h
  .exact .inl (rd _ h)
  .exact .inr h
 | false =>
  rcases h with h | h
  .exact .inl (rd _ h)
  .exact .inr h
theorem Is.zP{K:aK}{O:Addr->Prop}{H:Hp}{v:V}{d:D}{k:Bool}{ds:List D}(h:Is K O H v d)(e:fA d=some (k,ds)):∃p xs,v=.ref p/\Sq K H k p xs/\aZ K O H xs ds/\(¬O p\/∀H',Sq K H' k p xs):=by
 cases h with
 | tup ho hp hs=>cases e;exact ⟨_,_,rfl,.inl hp,hs,.inl ho⟩
 | nP hp hs=>cases e;exact ⟨_,_,rfl,Cs hp,hs,.inr λ_=>Cs hp⟩
 | lst ho hp hs=>cases e;exact ⟨_,_,rfl,.inl (.inl hp),hs,.inl ho⟩
 | nM ho hp hs=>cases e;exact ⟨_,_,rfl,.inl hp,hs,.inl ho⟩
 | nQ hp hs=>cases e;exact ⟨_,_,rfl,Cr hp,hs,.inr λ_=>Cr hp⟩
 | _=>cases e
noncomputable def G1(K:aK)(tl:TE):TI:=λσ H R=>tl σ H λx H1=>∃a,x=.ref a/\(((∃xs,eG K H1 a xs)/\R (C3 K a) H1)\/((∃xs,gC K H1 a xs)/\R (C2 K a) H1))
theorem Oi(hl:PE X l tl):PI X tg l (G1 X.K tl):=by
 intro pins s σ H R I h
 refine bQ (hl pins s σ H _ I h) λv s1 ⟨x,H1,I1,r1,q1⟩=>?_
 obtain ⟨a,e,q1⟩:=q1
 subst e
 cases r1
 rcases q1 with ⟨⟨xs,hq⟩,q⟩ | ⟨⟨xs,hq⟩,q⟩
 .obtain ⟨aA,rv,p,hz⟩:=I1.list hq
  refine IQ p.isList ?_
  refine ⟨s1.heap.objs.size,[s1.heap.objs.size],_,_,H1,rfl,I1.kept (t':=s1.toks) λb o e=>dh _ e,Zm a _,⟨_,kG _ rfl,rfl,rfl⟩,λb hb=>?_,q⟩
  have e:b=s1.heap.objs.size:=by simpa using hb
  subst e
  exact I1.rO (bZ _) (I1.bB.fresh (bZ _))
 .obtain ⟨aA,rv,p,hz⟩:=I1.tuple hq
  refine wpAny_pyIter_tuple (show s1.heap.IsTuple a aA.toArray from p) ?_
  refine ⟨s1.heap.objs.size,[s1.heap.objs.size],_,_,H1,rfl,I1.kept (t':=s1.toks) λb o e=>dh _ e,Zy a _,⟨_,kG _ rfl,rfl,rfl⟩,λb hb=>?_,q⟩
  have e:b=s1.heap.objs.size:=by simpa using hb
  subst e
  exact I1.rO (bZ _) (I1.bB.fresh (bZ _))
theorem si(hp:PassesOwn (model X.prog X.w) X.A X.env X.xe)(hc:X.calm=true)(hi:EV X it fa)(hg:GV X tg g)(hb:oJ X body F)
  (hs:∀x,foldedSetIterable it X.env x=pure x:=by intro _;rfl):SV X (.For tg it body [] pos) (gO fa g F):=by
 obtain ⟨ti,pi,ki⟩:=hi
 obtain ⟨tF,pg,kg⟩:=hg
 obtain ⟨tb,pb,kb⟩:=hb
 refine ⟨_,JQ hp hc (Oi pi) pg pb hs,λO B σ H env fl ak D R e q=>?_⟩
 obtain ⟨r,e1,e2⟩:=bind_some e
 obtain ⟨⟨k,ds⟩,e4,e5⟩:=bind_some e2
 refine ki O B σ H env r _ R e1 λv H1 s1 r1=>?_
 obtain ⟨p,xs,rfl,h1,h2,h3⟩:=(r1.is λq=>R.oo).zP e4
 refine ⟨p,rfl,?_⟩
 have q':dE X.K O B σ H1 env D fl ak:=q.from (Gd.refl s1)
 have keep:∀i di H2,Left X.K O B σ H1 env g F ds fl ak i di H2->Sq X.K H2 k p xs:=λi di H2 L=>by
  rcases h3 with h3 | h3
  .obtain ⟨dX,_,gd,_⟩:=L
   exact gd.sq h1 (.inl λz=>h3 (.inr z))
  .exact h3 H2
 cases k with
 | true =>
  refine .inl ⟨⟨xs,h1⟩,?_⟩
  exact XB (xs:=xs) (Left X.K O B σ H1 env g F ds fl ak) ⟨env,R.grow s1,Gd.refl (aH.refl _),e5⟩ (λi di H2 _ L=>keep i di H2 L) (λi x di H2 hx L=>Ka kg kb h2 hx q' L) (λdi H2 L=>Fe (by rw [h2.length];exact bZ _) q' L)
 | false =>
  refine .inr ⟨⟨xs,h1⟩,?_⟩
  exact WK (xs:=xs) (Left X.K O B σ H1 env g F ds fl ak) ⟨env,R.grow s1,Gd.refl (aH.refl _),e5⟩ (λi di H2 _ L=>keep i di H2 L) (λi x di H2 hx L=>Ka kg kb h2 hx q' L) (λdi H2 L=>Fe (by rw [h2.length];exact bZ _) q' L)
noncomputable def dy(lo:Int)(n:Nat):List D:=(pD n).map λ(k:Nat)=>D.int (lo+(k:Int))
def R62(i:Int):Prop:=-(2^62)<=i/\i<2^62
noncomputable instance (i:Int):Decidable (R62 i):=by unfold R62;infer_instance
noncomputable def nL:List D->Option (List D)
 | [.int j]=>if R62 j then some (dy 0 j.toNat) else none
 | _=>none
noncomputable def Gx:List D->Option (List D)
 | [.int i,.int j]=>if R62 i/\R62 j then some (dy i (j-i).toNat) else none
 | _=>none
noncomputable def vC(h:List D->Option (List D))(f:En->Option (List D))(g:GF)(F:SF):SF:=λenv=>(f env).bind λds=>(h ds).bind λis=>forL g F is env
theorem WZ{K:aK}{O:Addr->Prop}{H:Hp}(lo:Int)(n:Nat):aZ K O H ((pD n).map λ(k:Nat)=>V.int (lo+(k:Int))) (dy lo n):=by
 have h:=aZ.ints (K:=K) (O:=O) (H:=H) ((pD n).map λ(k:Nat)=>lo+(k:Int))
 rw [xo,xo] at h
 exact h
theorem Pz{K:aK}{O:Addr->Prop}{H:Hp}{xs:List V}{i:Int}(h:aZ K O H xs [.int i]):xs=[.int i]:=by
 cases h with
 | cons h t=>cases t;rw [oA h]
theorem WJ{tb:TS}{tF:TG}{g:GF}{lo:Int}{n:Nat}{O:Addr->Prop}{B:Hp}{σ:L2.St}{H:Hp}{env ak:En}{fl:Fl}{D:Ends}
  (kg:∀(O:Addr->Prop) (B:Hp) (σ:L2.St) (H:Hp) (env ak:En) (v:V) (d:DL.D) (Q:L2.St->Hp->Prop),Rel X.K O B σ H env->Is X.K (OO O σ env) H v d->g d env=some ak ->
   (∀bo H',Rel X.K O B bo H' ak->Gd σ env H bo ak H'->Q bo H')->tF v σ H Q)
  (kb:∀(O:Addr->Prop) (B:Hp) (σ:L2.St) (H:Hp) (env:En) (fl:Fl) (ak:En) (D:Ends),Rel X.K O B σ H env->F env=some (fl,ak)->dE X.K O B σ H env D fl ak->tb D σ H)
  (R:Rel X.K O B σ H env)(e:forL g F (dy lo n) env=some (fl,ak))(q:dE X.K O B σ H env D fl ak):
  ∃W:Nat->Nat->L2.St->Hp->Prop,(∃m,W 0 m σ H)/\∀i m σ H,W i m σ H ->
   ((qd lo n).stop i H/\D.nx σ H)\/((qd lo n).go i H/\∃N:L2.St->Hp->Prop,(∀bo H',N bo H'->∃m',m'<m/\W (i+1) m' bo H')/\∀x H',(qd lo n).vU i H x H'->tF x σ H' λdi H2=>tb { D with nx:=N,ct:=N,bk:=D.nx } di H2):=by
 refine YD (Left X.K O B σ H env g F (dy lo n) fl ak) ⟨env,R,Gd.refl (aH.refl _),e⟩ (λi di H2 hi L=>?_) (λdi H2 L=>Fe (by simp [dy]) q L)
 exact Ka kg kb (WZ lo n) (by simp [hi]) q L
theorem Ct{body:List Stmt}{g:GF}{fs:En->Option (List D)}{p:Pos}(hp:PassesOwn (model X.prog X.w) X.A X.env X.xe)(hc:X.calm=true)(A4:Gl X "range")(hm:X.mg "range" = none)(ha:AV X [a] fs)(hg:GV X tg g)(hb:oJ X body F)
  (h1:starEach [a] X.env=[(false,eval a X.env)]:=by rfl)(hs:∀x,foldedSetIterable (.Call (.Name "range" p) [a] [] pos) X.env x=pure x:=by intro _;rfl){o3:Pos}:
  SV X (.For tg (.Call (.Name "range" p) [a] [] pos) body [] o3) (vC nL fs g F):=by
 obtain ⟨ti,pi,ki⟩:=ha
 obtain ⟨tF,pg,kg⟩:=hg
 obtain ⟨tb,pb,kb⟩:=hb
 refine ⟨_,JQ hp hc (Zq A4 hm pi h1) pg pb hs,λO B σ H env fl ak D R e q=>?_⟩
 obtain ⟨ds,e1,e2⟩:=bind_some e
 obtain ⟨is,e2,e3⟩:=bind_some e2
 refine ki O B σ H env ds _ R e1 λvs H1 s1 r1=>?_
 unfold nL at e2
 split at e2
 .obtain ⟨⟨h1,h2⟩,rfl⟩:=lI e2
  exact ⟨_,Pz r1,h1,h2,WJ kg kb (R.grow s1) e3 (q.from (Gd.refl s1))⟩
 .cases e2
end
noncomputable def rp(K:aK)(n:Nat)(φ:List D->Option Sl):Sp:=λvs H Q _=>∃(O:Addr->Prop) (ds:List D) (r:Sl),vT K O H/\aZ K O H vs ds/\vs.length=n/\φ ds=some r /\
 ∀v H',aH H H'->Res K O H H' v r->Q v H'
noncomputable def oB(N:Nat)(ds:List D):En:=ds.map Sl.sh++mI (N-ds.length) Sl.no
noncomputable def bK(F:SF)(N:Nat)(ds:List D):Option Sl:=match F (oB N ds) with
 | some (.rt r,_)=>some r
 | some (.nx,_)=>some (.sh .bz)
 | _=>none
theorem PZ{K:aK}{O:Addr->Prop}{H:Hp}{N:List Str}{vs:List V}{ds:List D}(hO:vT K O H)(h:aZ K O H vs ds):Rel K O H (start N vs) H (oB N.length ds):=by
 have hl:=h.length
 have As:∀(i:Nat) (s:Sl),(oB N.length ds)[i]?=some s->s.own->False:=λi s e1 o=>by
  unfold oB at e1
  rw [IF] at e1
  split at e1
  .rw [qR] at e1
   obtain ⟨d,_,e⟩:=map_some e1
   cases e
   exact o
  .rw [BY] at e1
   split at e1
   .cases e1;exact o
   .cases e1
 have no:∀p,¬mM (start N vs) (oB N.length ds) p:=λp ⟨i,es,e1,o,_⟩=>As i es e1 o
 refine ⟨aH.refl _,hO,?_,λi d e=>?_,λi es e=>(As i _ e trivial).elim,λi es e=>(As i _ e trivial).elim,λi ks es e=>(As i _ e trivial).elim,λi j es fs p e _ _ _ o _=>(As i _ e o).elim⟩
 .simp [L2.start,oB,hl]
 .unfold oB at e
  rw [IF] at e
  split at e
  .rename_i hi
   rw [dF] at hi
   rw [qR] at e
   obtain ⟨d',e1,e2⟩:=map_some e
   cases e2
   obtain ⟨x,hx,hd⟩:=h.get e1
   refine ⟨x,?_,hd.less λq z=>z.elim id λz=>(no q z).elim⟩
   unfold L2.start
   rw [xD (by rw [dF,hl];exact hi),qR,hx]
   rfl
  .rw [BY] at e
   split at e
   .cases e
   .cases e
section
variable {P:Program}{w:World}{K:aK}{mg:Str->Option Value}{base:Heap}
theorem HB{x qual:Str}{st:Stmt}{f:Addr}{fd:FuncData}{N ps:List Str}{k:Nat}{F:SF}(Fn:tj K x qual st f fd)(S:cE N ps (dS st))
  (cG:∀(dg:Value) (A:Around) (outer:List Env) (s:Shared) (H:Hp) (E:XK),bY k (A.deeper (envOfC qual (dS st) s.heap.objs.size f dg)) ->
   oJ (n5 lK P w K mg base N qual (dS st) f dg A outer s H E).j0 (jD st) F):cn P w K mg base lK (k+1) f fd ps (rp K ps.length (bK F N.length)):=by
 refine Fn.ok S (λvs H Q E h=>?_) (λdg A outer s H vs Q E hr h=>?_)
 .obtain ⟨O,ds,r,_,_,hl,_⟩:=h
  exact hl
 obtain ⟨O,ds,r,hO,hi,hl,e,q⟩:=h
 obtain ⟨t,p,kk⟩:=cG dg A outer s H E hr
 refine ⟨t,p,?_⟩
 unfold bK at e
 cases hF:F (oB N.length ds) with
 | none=>rw [hF] at e;cases e
 | some y =>
  obtain ⟨fl,ak⟩:=y
  rw [hF] at e
  refine kk O H (start N vs) H (oB N.length ds) fl ak _ (PZ hO hi) hF ?_
  cases fl with
  | nx=>cases e;exact λbo H' R' _=>q .bz H' R'.same Is.bz
  | bk=>cases e
  | ct=>cases e
  | rt r=>cases e;exact λv H' s h=>q v H' s h
end
section
variable {X:Cx}{k:Nat}{f:Addr}{fd:FuncData}{ps:List Str}{φ:List D->Option Sl}{x:Str}{p pos:Pos}{e:Expr}{es:List Expr}{fs:En->Option (List D)}
noncomputable def cw(n:Nat)(φ:List D->Option Sl)(fs:En->Option (List D)):En->Option Sl:=λenv=>(fs env).bind λds=>if ds.length=n then φ ds else none
theorem YO(ka:∀(O:Addr->Prop) (B:Hp) (σ:L2.St) (H:Hp) (env:En) (ds:List D) (Q:List V->Hp->Prop),Rel X.K O B σ H env->fs env=some ds->(∀vs H',aH H H'->aZ X.K (OO O σ env) H' vs ds->Q vs H')->t σ H Q)
  (O:Addr->Prop)(B:Hp)(σ:L2.St)(H:Hp)(env:En)(r:Sl)(Q:VK)(R:Rel X.K O B σ H env)(e:cw n φ fs env=some r)(q:∀v H',aH H H'->Res X.K (OO O σ env) H H' v r->Q v H'):N0 (rp X.K n φ) [] E t σ H Q:=by
 obtain ⟨ds,e1,e2⟩:=bind_some e
 refine ka O B σ H env ds _ R e1 λvs H1 s1 r1=>?_
 by_cases hn:ds.length=n
 .rw [if_pos hn] at e2
  rw [rY]
  refine ⟨OO O σ env,ds,r,(R.grow s1).dm,r1,by rw [r1.length,hn],e2,λv H2 s2 r2=>q v H2 (s1.trans s2) (r2.from s1)⟩
 .rw [if_neg hn] at e2;cases e2
theorem Wz(F:cn X.prog X.w X.K X.mg X.base lK k f fd ps (rp X.K ps.length φ))(hr:bY k X.A)(hg:Gl X x)(hm:X.mg x=some (.ref f))(hk:p6 X.K (.ref f)=true)(hb:Binds X.K fd ps [])
  (ha:AV X (e::es) fs)(nX:(x==("__debug__":Str))=false:=by decide)(he:starEach (e::es) X.env=(false,eval e X.env)::starEach es X.env:=by rfl)(eU:(backTo pos (starEach es X.env)).any (·.1)=false:=by rfl):
  EV X (.Call (.Name x p) (e::es) [] pos) (cw ps.length φ fs):=by
 obtain ⟨t,pt,ka⟩:=ha
 exact ⟨_,Wr F hr hg hm hk hb .nil EC pt nX he eU,λO B σ H env r Q R e q=>YO ka O B σ H env r Q R e q⟩
end
noncomputable def spT(K:aK):Sp:=λvs H Q _=>∃(a:Addr) (ns:List Int),vs=[.ref a]/\eG K H a (ns.map V.int)/\ns.length<=63/\Tb K H/\∀H',aH H H'->Q (.bl true) H'
theorem VR{P:Program}{w:World}{K:aK}{mg:Str->Option Value}{base:Heap}{k:Nat}{f:Addr}{fd:FuncData}{φ:List D->Option Sl}(F:cn P w K mg base lK k f fd ["script"] (rp K 1 φ))
  (h:∀ns:List Int,ns.length<=63->φ [.lst true (ns.map D.int)]=some (Sl.sh (.bl true))):cn P w K mg base lK k f fd ["script"] (spT K):=by
 refine F.imp λvs H Q E q=>?_
 obtain ⟨a,ns,rfl,hs,hl,tb,q⟩:=q
 refine ⟨λ_=>False,[.lst true (ns.map D.int)],_,⟨λ_ z=>z.elim,tb⟩,.cons ?_ .nil,rfl,h ns hl,λv H' sm r=>?_⟩
 .rcases hs with hs | hs
  .exact .nM id hs (aZ.ints ns)
  .exact .nQ (.inr hs) (aZ.ints ns)
 .have r':Is K (λ_=>False) H' v (.bl true):=r
  rw [B1 r']
  exact q H' sm
theorem rg{l:Ih}{q:Program}{loose:List Str}{XP:(Str->Option Value)->Heap->Prop}{YP:World->Heap->Prop}{d:DefRec}{K:Params->aK}{k:Nat}(hk:bY k callerA)(hn:l.most=some 63)(A6:d.params.defaults=[])
  {ts:List Addr}(hY:∀(w:World) (h:Heap),YP w h->(K w.params).In h/\∀P∈ts,h.get? P=some (yE #[]))(hL:∀w:World,EI (K w.params) ts=true)
  (F:∀(w:World) (mg:Str->Option Value) (fa:Addr) (h:Heap),(K w.params).In h->h.Ns mainGlobals mg->mg d.name=some (.ref fa) ->
   ∃fd:FuncData,(∀(s:Shared) (u:Value),BindsTo s fd ⟨[u],[]⟩ [("script",u)])/\∀base:Heap,(K w.params).In base->base.Ns mainGlobals mg->cn l.prog w (K w.params) mg base lK k fa fd ["script"] (spT (K w.params))):
  PySem.W.WalkO q loose XP YP l.row.toRowW d [] (λf vs=>HV f vs):=
 L2.tu (n:=63) (k:=k) (x:="script") (CX:=λ_=>lK) (sp:=λw=>spT (K w.params)) hn (by decide) A6 hk hY hL F (λw _ a ns hl tb hS=>⟨a,ns,rfl,hS,hl,tb,λ_ sm=>⟨rfl,tb.grow sm⟩⟩) λ_ _ _ _ _ z=>z
section
variable {X:Cx}{a:Expr}{pos p p2:Pos}{fa:En->Option Sl}
def AI(K:aK)(T:String)(x:V)(H:Hp)(b:Bool):Prop:=match x with
 | .bz=>b=false
 | .bl _=>b=(T == "bool" || T == "int")
 | .int _=>b=(T == "int")
 | .str _=>b=(T == "str")
 | .ref p=>(b=(T == "list")/\∃xs,eG K H p xs)\/(b=(T == "tuple")/\∃xs,gC K H p xs)
 | _=>False
theorem XI(hT:T = "int" \/ T = "bool" \/ T = "str" \/ T = "list" \/ T = "tuple"):
  cA X (.builtin "isinstance") (λxs H Q=>∃x b,xs=[x,.ty T]/\AI X.K T x H b/\Q (.bl b) H):=by
 intro pins s σ H xs us Q I r h
 obtain ⟨x,b,rfl,hx,q⟩:=h
 obtain ⟨u,w',rfl,r1,r2⟩:=vals2 r
 obtain rfl:w'=t9 T:=r2
 have yes:∀{Tx:String},s.TypeIs u Tx->isSubtype (.type Tx) (.type T)=pure true->typeOf (.type T)=pure (.type "type")->Q (.bl true) H->wpAny (model X.prog X.w) X.A (call (.builtin "isinstance") [u,.type T]) (EP X pins σ Q) X.xe s:=λh1 h2 h3 hq =>
  xl (isinstance_true h3 h2) ⟨h1,⟨.bl true,H,I,rfl,hq⟩⟩
 have fin:Q (.bl false) H->EP X pins σ Q (.bool false) { s with toks:=s.toks+1 }:=λhq=>⟨.bl false,H,I.tok _,rfl,hq⟩
 have ty:typeOf (.type T)=pure (.type "type"):=by rcases hT with rfl | rfl | rfl | rfl | rfl<;>rfl
 cases x with
 | bz =>
  obtain rfl:u=mi:=r1
  obtain rfl:b=false:=hx
  refine xl (isinstance_false_none ?_ ty ?_) (fin q)
  .rcases hT with rfl | rfl | rfl | rfl | rfl<;>decide +kernel
  .rcases hT with rfl | rfl | rfl | rfl | rfl<;>rfl
 | bl k =>
  obtain rfl:u=n9 k:=r1
  rcases hT with rfl | rfl | rfl | rfl | rfl
  .obtain rfl:b=true:=hx
   exact yes (Tx:="bool") rfl rfl ty q
  .obtain rfl:b=true:=hx
   exact yes (Tx:="bool") rfl rfl ty q
  all_goals
   obtain rfl:b=false:=hx
   exact xl (isinstance_false_bool (by decide +kernel) ty (by rfl)) (fin q)
 | int i =>
  obtain ⟨t,rfl⟩:=r1
  rcases hT with rfl | rfl | rfl | rfl | rfl
  .obtain rfl:b=true:=hx
   exact yes (Tx:="int") (typeIs_int s i t) rfl ty q
  all_goals
   obtain rfl:b=false:=hx
   exact xl (isinstance_false_int (by decide +kernel) ty (by rfl)) (fin q)
 | str z =>
  obtain ⟨t,rfl⟩:=r1
  rcases hT with rfl | rfl | rfl | rfl | rfl
  rotate_left 2
  .obtain rfl:b=true:=hx
   exact yes (Tx:="str") (typeIs_str s z t) rfl ty q
  all_goals
   obtain rfl:b=false:=hx
   exact xl (isinstance_false_str (by decide +kernel) ty (by rfl)) (fin q)
 | ref l =>
  cases r1
  rcases hx with ⟨rfl,xs,hq⟩ | ⟨rfl,xs,hq⟩
  .obtain ⟨aA,_,pl,_⟩:=I.list hq
   have wH:=pl.isList.typeIs
   obtain ⟨o,n,e,c,_,_⟩:=pl
   rcases hT with rfl | rfl | rfl | rfl | rfl
   rotate_left 3
   .exact yes (Tx:="list") wH rfl ty q
   all_goals exact xl (isinstance_false_list (by decide +kernel) ty (by rfl)) ⟨⟨o,e,c⟩,fin q⟩
  .obtain ⟨aA,_,pl,_⟩:=I.tuple hq
   have wH:=pl.typeIs
   obtain ⟨o,e,c,_⟩:=pl
   rcases hT with rfl | rfl | rfl | rfl | rfl
   rotate_left 4
   .exact yes (Tx:="tuple") wH rfl ty q
   all_goals exact xl (isinstance_false_tuple (by decide +kernel) ty (by rfl)) ⟨⟨o,e,c⟩,fin q⟩
 | _=>exact mh hx
noncomputable def bR(T:String):D->Bool
 | .bz=>false
 | .bl _=>(T == "bool" || T == "int")
 | .int _=>(T == "int")
 | .str _=>(T == "str")
 | .tup _=>(T == "tuple")
 | .lst _ _=>(T == "list")
 | .exc _=>false
 | .jv _ _=>false
 | .obj _ _ _=>false
 | .dq _ _=>false
noncomputable def D.isExc:D->Bool
 | .exc _=>true
 | .jv _ _=>true
 | .obj _ _ _=>true
 | .dq _ _=>true
 | _=>false
noncomputable def mX(T:String)(d:D):Option Sl:=if d.isExc=true then none else some (.sh (.bl (bR T d)))
theorem VH{K:aK}{O:Addr->Prop}{H:Hp}{T:String}{v:V}{d:D}(h:Is K O H v d)(ne:d.isExc=false):AI K T v H (bR T d):=by
 cases h with
 | bz=>rfl
 | bl b=>rfl
 | int i=>rfl
 | str x=>rfl
 | tup ho hp hs=>exact .inr ⟨rfl,_,.inl hp⟩
 | nP hp hs=>exact .inr ⟨rfl,_,Cs hp⟩
 | lst ho hp hs=>exact .inl ⟨rfl,_,.inl (.inl hp)⟩
 | nM ho hp hs=>exact .inl ⟨rfl,_,.inl hp⟩
 | nQ hp hs=>exact .inl ⟨rfl,_,Cr hp⟩
 | exc ho hn hp=>cases ne
 | jv ho hp=>cases ne
 | obj=>cases ne
 | dq=>cases ne
 | rS ho hp=>cases ne
noncomputable def qv(T:String)(f:En->Option Sl):En->Option Sl:=λenv=>(f env).bind λr=>mX T r.d
theorem EM(hT:T = "int" \/ T = "bool" \/ T = "str" \/ T = "list" \/ T = "tuple")(hg:Gl X "isinstance")(hm:X.mg "isinstance" = none)(yi:Gl X x)(yg:X.mg x=none)(hv:bootBuiltins x=some (.type T))(ha:EV X a fa)
  (hn:x ≠ "__name__":=by decide)(hd:(x==("__debug__":Str))=false:=by decide)
  (hs:starEach [a,.Name x p2] X.env=[(false,eval a X.env),(false,eval (.Name x p2) X.env)]:=by rfl)(lA:starEach [.Name x p2] X.env=[(false,eval (.Name x p2) X.env)]:=by rfl):
  EV X (.Call (.Name "isinstance" p) [a,.Name x p2] [] pos) (qv T fa):=by
 obtain ⟨t,pt,k⟩:=ha
 refine ⟨_,uq (XI hT) hg hm (by decide +kernel) (nH pt (nH (Wq (v:=.ty T) yi yg hv rfl hn hd) oX lA) (by rw [hs,lA])) (by decide) (by decide) (by rw [hs,lA]) (by rw [lA];rfl),λO B σ H env s Q R e q=>?_⟩
 obtain ⟨r,e1,e2⟩:=bind_some e
 unfold mX at e2
 split at e2
 .cases e2
 .rename_i ne
  cases e2
  exact k O B σ H env r _ R e1 λv H1 s1 r1=>⟨v,_,rfl,VH (r1.is λq=>R.oo) (by simpa using ne),q _ H1 s1 (Is.bl _)⟩
end
section
variable {X:Cx}{a b c e:Expr}{fa fb:En->Option Sl}{pos:Pos}
noncomputable def mP(i:Nat)(f:En->Option Sl):SF:=λenv=>match env[i]? with
 | some (.ow ds)=>(f env).bind λr=>match r.d with
  | .lst false es=>if ds.length+es.length<=16777216 then some (.nx,env.set i (.ow (ds++es))) else none
  | _=>none
 | _=>none
theorem Zk{i:Nat}{x:Str}{p1 p2 bj:Pos}(ha:EV X e fa)(hN:X.N[i]?=some x:=by rfl)(hv:jK X.env.scope x:=by first | exact cC rfl | exact bM (cC rfl) | exact bM (bM rfl))(hd:(x==("__debug__":Str))=false:=by decide)
  (cO:(x==("__classdict__":Str))=false:=by decide)(hs:starEach [e] X.env=[(false,eval e X.env)]:=by rfl)
  (cH:attributeBase (.Name x p1) "extend" X.env (eval (.Name x p1) X.env)=eval (.Name x p1) X.env:=by rfl)
  (lC:((backTo bj (starEach [e] X.env)).all (λx=>!x.1)&&(backToKw bj (keywordEach [] X.env)).all (λx=>x.1.isSome)
   && decide ([e].length+([]:List Keyword).length+(if ([]:List Keyword).isEmpty then 0 else 1)<30))=true:=by rfl)
  (cF:(p2.endLine==bj.line)=true:=by rfl)
  (tO:swapsWith (.Call (.Attribute (.Name x p1) "extend" p2) [e] [] bj) none pos.line X.env=pure false:=by rfl):
  SV X (.Expr (.Call (.Attribute (.Name x p1) "extend" p2) [e] [] bj) pos) (mP i fa):=by
 obtain ⟨t,p,k⟩:=ha
 refine ⟨_,J0 (NM I9 M5 PySem.F.type_list_extend Yw (sX hN hv hd cO) (nH p oX hs) cH lC cF hs rfl) tO,λO B σ H env fl ak D R e q=>?_⟩
 unfold mP at e
 cases h:env[i]? with
 | none=>rw [h] at e;cases e
 | some s =>
  rw [h] at e
  cases s with
  | no=>cases e
  | sh d=>cases e
  | dw ds=>cases e
  | tw _ _=>cases e
  | ow ds =>
   obtain ⟨r,e1,e2⟩:=bind_some e
   obtain ⟨l,xs,f1,f2,f3,f4⟩:=R.ow i ds h
   refine ⟨_,f1,.inl ⟨rfl,_,eG.of f3⟩,?_⟩
   refine k O B σ H env r _ R e1 λv H1 s1 r1=>?_
   have hi:=r1.is λq=>R.oo
   cases hd:r.d with
   | lst ro es =>
    rw [hd] at hi e2
    cases ro with
    | true=>cases e2
    | false =>
     obtain ⟨hl,e3⟩:=lI (show (if ds.length+es.length<=16777216 then some (Fl.nx,env.set i (.ow (ds++es))) else none)=some (fl,ak) from e2)
     cases e3
     obtain ⟨b,zs,rfl,hb,g1,g2⟩:=JD hi
     refine ⟨l,b,xs,zs,rfl,rfl,s1 _ _ f3,g1,by rw [f4.length,g2.length,pZ];exact hl,?_⟩
     obtain ⟨R',g'⟩:=(R.grow s1).wr h f1 ((f4.grow s1).append g2)
     exact q _ _ R' (g'.from s1)
   | _=>rw [hd] at e2;cases e2
noncomputable def qi(i j:Nat):SF:=λenv=>match env[j]? with
 | some (.ow ds)=>(ds[ds.length-1]?).bind λd=>if i<env.length/\i≠j then some (.nx,(env.set j (.ow ds.dropLast)).set i (.sh d)) else none
 | _=>none
theorem Zl{i j:Nat}{x y:Str}{pos' p1 p2 bj:Pos}(hN:X.N.Nodup)(hi:X.N[i]?=some x)(hx:Loc X.env.scope x)
  (Ho:X.N[j]?=some y:=by rfl)(hv:jK X.env.scope y:=by first | exact cC rfl | exact bM (cC rfl) | exact bM (bM rfl))(hd:(y==("__debug__":Str))=false:=by decide)
  (cO:(y==("__classdict__":Str))=false:=by decide)
  (cH:attributeBase (.Name y p1) "pop" X.env (eval (.Name y p1) X.env)=eval (.Name y p1) X.env:=by rfl)
  (cF:(p2.endLine==bj.line)=true:=by rfl)
  (hs:swapsWith (.Call (.Attribute (.Name y p1) "pop" p2) [] [] bj) (some (.Name x pos')) pos.line X.env=pure false:=by rfl)(hf:X.fn x=true\/X.env.scope.names.lookup x=some .local:=by first | exact .inl rfl | exact .inr rfl | assumption):
  SV X (.Assign [.Name x pos'] (.Call (.Attribute (.Name y p1) "pop" p2) [] [] bj) pos) (qi i j):=by
 refine ⟨_,JR hN hi hx (Vh I9 Nb PySem.F.type_list_pop VS (sX Ho hv hd cO) cH cF) hs hf,λO B σ H env fl ak D R e q=>?_⟩
 unfold qi at e
 cases h:env[j]? with
 | none=>rw [h] at e;cases e
 | some s =>
  rw [h] at e
  cases s with
  | no=>cases e
  | sh d=>cases e
  | dw ds=>cases e
  | tw _ _=>cases e
  | ow ds =>
   obtain ⟨d,e1,e2⟩:=bind_some e
   obtain ⟨⟨hl,js⟩,e3⟩:=Qa e2
   cases e3
   obtain ⟨l,xs,f1,f2,f3,f4⟩:=R.ow j ds h
   obtain ⟨v,Tn,Tj⟩:=f4.get e1
   obtain ⟨R',g'⟩:=R.wr h f1 f4.dropLast
   refine ⟨_,f1,.inl ⟨rfl,_,eG.of f3⟩,l,xs,v,rfl,rfl,f3,by rw [f4.length];exact Tn,?_⟩
   have G6:aZ X.K (OO O σ (env.set j (.ow ds.dropLast))) (upd H l (.lst xs.dropLast)) [v] [d]:=g'.Dm (.cons Tj .nil)
   cases G6 with
   | cons G6 _ =>
    obtain ⟨R2,g2⟩:=R'.set (r:=.sh d) (i:=i) (aH.refl _) G6 (by simp;exact hl)
    exact q _ _ R2 (g'.trans g2)
noncomputable def B8(i:Nat)(f g:En->Option Sl):SF:=λenv=>match env[i]? with
 | some (.ow ds)=>(f env).bind λr=>(g env).bind λk=>match k.d with
  | .int n=>(nR ds.length n).bind λj=>some (.nx,env.set i (.ow (ds.set j r.d)))
  | _=>none
 | _=>none
theorem W6{i:Nat}{x:Str}{p1 p2:Pos}(ha:EV X e fa)(hb:EV X b fb)(hN:X.N[i]?=some x:=by rfl)(hv:jK X.env.scope x:=by first | exact cC rfl | exact bM (cC rfl) | exact bM (bM rfl))(hd:(x==("__debug__":Str))=false:=by decide)
  (cO:(x==("__classdict__":Str))=false:=by decide)
  (qo:∀v,assign (.Subscript (.Name x p1) b p2) X.env v=(do
   let ov <-holding [v] (eval (.Name x p1) X.env)
   let iv <-holding [v,ov] (eval b X.env)
   standAt p2
   holding [v,ov,iv] (setItem ov iv v)
   release [v,ov,iv] []):=by intro _;rfl)
  (hs:swapsWithSole [.Subscript (.Name x p1) b p2] e pos.line X.env=pure false:=by rfl)(hw:swappedStores [.Subscript (.Name x p1) b p2] e X.env=pure none:=by rfl)
  (h1:(assignEach [.Subscript (.Name x p1) b p2] X.env).map (·.2)=[assign (.Subscript (.Name x p1) b p2) X.env]:=by rfl):
  SV X (.Assign [.Subscript (.Name x p1) b p2] e pos) (B8 i fa fb):=by
 obtain ⟨t,p,k⟩:=ha
 obtain ⟨t',p',k'⟩:=hb
 refine ⟨_,Vr p (Vp (sX hN hv hd cO) p' XR qo) hs hw h1,λO B σ H env fl ak D R e q=>?_⟩
 unfold B8 at e
 cases h:env[i]? with
 | none=>rw [h] at e;cases e
 | some s =>
  rw [h] at e
  cases s with
  | no=>cases e
  | sh d=>cases e
  | dw ds=>cases e
  | tw _ _=>cases e
  | ow ds =>
   obtain ⟨r,e1,e2⟩:=bind_some e
   obtain ⟨kk,e2,e3⟩:=bind_some e2
   obtain ⟨l,xs,f1,f2,f3,f4⟩:=R.ow i ds h
   refine k O B σ H env r _ R e1 λv H1 s1 r1=>⟨_,f1,?_⟩
   refine k' O B σ H1 env kk _ (R.grow s1) e2 λw H2 s2 r2=>?_
   have hi:=r2.is λq=>(R.grow s1).oo
   cases hd:kk.d with
   | int n =>
    rw [hd] at hi e3
    obtain rfl:=oA hi
    obtain ⟨j,e4,e5⟩:=bind_some (show (nR ds.length n).bind (λj=>some (Fl.nx,env.set i (.ow (ds.set j r.d))))=some (fl,ak) from e3)
    cases e5
    have pR:=s1.trans s2
    refine ⟨l,xs,n,j,rfl,rfl,pR _ _ f3,by rw [f4.length];exact e4,?_⟩
    obtain ⟨R',g'⟩:=(R.grow pR).wr h f1 ((f4.grow pR).set ((r1.is λq=>R.oo).grow s2) j)
    exact q _ _ R' (g'.from pR)
   | _=>rw [hd] at e3;cases e3
def PP(X:Cx)(e:Option Expr)(f:En->Option (Option Int)):Prop:=
 ∃t:TO,PO X e t/\∀(O:Addr->Prop) (B:Hp) (σ:L2.St) (H:Hp) (env:En) (o:Option Int) (Q:Option Int->Hp->Prop),Rel X.K O B σ H env->f env=some o->(∀H',aH H H'->Q o H')->t σ H Q
noncomputable def Df:En->Option (Option Int):=λ_=>some none
noncomputable def we(f:En->Option Sl):En->Option (Option Int):=λenv=>(f env).bind λr=>match r.d with
 | .int i=>some (some i)
 | _=>none
theorem O5:PP X none Df:=⟨_,Xj,λO B σ H env o Q R e q=>by
 obtain rfl:=dC e
 exact q H (aH.refl _)⟩
theorem E7(h:EV X e fa):PP X (some e) (we fa):=by
 obtain ⟨t,p,k⟩:=h
 refine ⟨_,Xk p,λO B σ H env o Q R e q=>?_⟩
 obtain ⟨r,e1,e2⟩:=bind_some e
 refine k O B σ H env r _ R e1 λv H1 s1 r1=>?_
 have hi:=r1.is λq=>R.oo
 cases hd:r.d with
 | int i =>
  rw [hd] at hi e2
  obtain rfl:=dC e2
  exact ⟨i,oA hi,q H1 s1⟩
 | _=>rw [hd] at e2;cases e2
noncomputable def cutD(xs:List D)(lo hi:Option Int):List D:=(xs.drop (HT.cc xs.length 0 lo)).take (HT.cc xs.length xs.length hi-HT.cc xs.length 0 lo)
theorem aZ.cut{K:aK}{O:Addr->Prop}{H:Hp}{xs:List V}{ds:List D}(h:aZ K O H xs ds)(lo hi:Option Int):aZ K O H (n6 xs lo hi) (cutD ds lo hi):=by
 unfold n6 cutD
 rw [h.length]
 exact (h.drop _).take _
noncomputable def yq(f:En->Option (Bool×List D))(lo hi:En->Option (Option Int)):En->Option Sl:=λenv=>(f env).bind λx=>(lo env).bind λl=>(hi env).bind λh =>
 if x.1=true then some (.ow (cutD x.2 l h)) else if ¬(HT.cc x.2.length 0 l=0/\HT.cc x.2.length x.2.length h=x.2.length) then some (.sh (.tup (cutD x.2 l h))) else none
theorem J7{ba:En->Option (Bool×List D)}{lo hi:Option Expr}{fl fh:En->Option (Option Int)}{p2:Pos}(ha:BV X a ba)(hl:PP X lo fl)(hh:PP X hi fh):EV X (.Subscript a (.Slice lo hi none p2) pos) (yq ba fl fh):=by
 obtain ⟨t,p,k⟩:=ha
 obtain ⟨tl,pl,kl⟩:=hl
 obtain ⟨th,ph,kh⟩:=hh
 refine ⟨_,Yb (tG.or V5) p pl ph,λO B σ H env r Q R e q=>?_⟩
 obtain ⟨⟨kk,ds⟩,e1,e2⟩:=bind_some e
 obtain ⟨l,e2,e3⟩:=bind_some e2
 obtain ⟨h,e3,e4⟩:=bind_some e3
 refine k O B σ H env kk ds _ R e1 λpp xs H1 s1 hq hx=>?_
 refine kl O B σ H1 env l _ (R.grow s1) e2 λH2 s2=>?_
 refine kh O B σ H2 env h _ ((R.grow s1).grow s2) e3 λH3 s3=>?_
 have pR:=s1.trans (s2.trans s3)
 have c8:=hq.grow (s2.trans s3)
 have kU:=hx.grow (s2.trans s3)
 dsimp only at e4
 cases kk with
 | true =>
  rw [if_pos rfl] at e4
  obtain rfl:=dC e4
  exact .inl ⟨pp,xs,rfl,c8,λp hp=>q _ _ (pR.trans (oC hp _)) ((y8 hp (kU.cut l h)).from pR)⟩
 | false =>
  rw [if_neg qU] at e4
  obtain ⟨hw,rfl⟩:=lI e4
  exact .inr ⟨pp,xs,rfl,c8,by rw [kU.length];exact hw,λp hp=>q _ _ (pR.trans (oC hp _)) ((E4 (O:=OO O σ env) (H:=H3) (λ_ z=>(R.grow pR).oo z) hp (kU.cut l h)).from pR)⟩
noncomputable def Bp(f:En->Option Sl)(lo hi:En->Option (Option Int)):En->Option Sl:=λenv=>(f env).bind λx=>(lo env).bind λl=>(hi env).bind λh=>match x.d with
 | .tup ds=>some (.sh (.tup (cutD ds l h)))
 | _=>none
end
structure Def(K:aK)(mg:Str->Option Value)(x:Str)(st:Stmt)(ps:List Str)(f:Addr)(fd:FuncData):Prop where
 fn:tj K x x st f fd
 bd:Binds K fd ps []
 m:mg x=some (.ref f)
end DL
namespace DL
open PySem PySem.Spec PyProof.Rows L2
structure Fx(X:Cx)(N:List Str)(sc:Scope)(k:Nat)(full:Bool:=true):Prop where
 n:X.N=N
 sc:X.env.scope=sc
 calm:X.calm=true
 fn:full=true->∀x,X.fn x=true
 own:PassesOwn (model X.prog X.w) X.A X.env X.xe
 room:bY k X.A
 nd:N.Nodup
 top:full=true->X.stack=X.env::X.outer/\X.env.frame=some X.env.locals/\X.ex=[]
section
variable {X:Cx}{N:List Str}{sc:Scope}{k:Nat}{full:Bool}{pos p p1 p2 pos' bj:Pos}{e a b:Expr}{fa fb:En->Option Sl}
theorem Fx.rj(h:Fx X N sc k full)(hv:jK sc x):jK X.env.scope x:=by rw [h.sc];exact hv
theorem Fx.loc(h:Fx X N sc k full)(hv:Loc sc x):Loc X.env.scope x:=by rw [h.sc];exact hv
theorem Fx.ix(h:Fx X N sc k full){i:Nat}{x:Str}(hN:N[i]?=some x):X.N[i]?=some x:=by rw [h.n];exact hN
theorem Fx.xX(h:Fx X N sc k full)(hf:full=true\/sc.names.lookup x=some .local):X.fn x=true\/X.env.scope.names.lookup x=some .local:=hf.elim (λe=>.inl (h.fn e x)) λe=>.inr (by rw [h.sc];exact e)
theorem Fx.yb(h:Fx X N sc k full):X.N.Nodup:=by rw [h.n];exact h.nd
theorem Fx.g(h:Fx X N sc k full)(hg:sc.names.lookup x=some .globalImplicit:=by rfl):Gl X x:=by
 show X.env.kindOf x=some .globalImplicit
 unfold Env.kindOf
 rw [h.sc]
 exact hg
theorem Fx.v(h:Fx X N sc k full)(i:Nat)(hN:N[i]?=some x:=by rfl)(hv:jK sc x:=by first | exact cC rfl | exact bM (cC rfl) | exact bM (bM rfl))(hd:(x==("__debug__":Str))=false:=by rfl)
  (cO:(x==("__classdict__":Str))=false:=by rfl):EV X (.Name x pos) (eV i):=N4 i (h.ix hN) (h.rj hv) hd cO
theorem Fx.bv(h:Fx X N sc k full)(i:Nat)(hN:N[i]?=some x:=by rfl)(hv:jK sc x:=by first | exact cC rfl | exact bM (cC rfl) | exact bM (bM rfl))(hd:(x==("__debug__":Str))=false:=by rfl)
  (cO:(x==("__classdict__":Str))=false:=by rfl):BV X (.Name x pos) (bV i):=U7 i (h.ix hN) (h.rj hv) hd cO
theorem Fx.tg(h:Fx X N sc k full)(i:Nat)(hN:N[i]?=some x:=by rfl)(hv:Loc sc x:=by first | exact cC rfl | exact bM rfl)(hf:full=true\/sc.names.lookup x=some .local:=by first | exact cC rfl | exact bM rfl):GV X (.Name x pos) (gN i):=WM h.yb (h.ix hN) (h.loc hv) (h.xX hf)
theorem Fx.set(h:Fx X N sc k full)(i:Nat)(he:EV X e fa)(hN:N[i]?=some x:=by rfl)(hv:Loc sc x:=by first | exact cC rfl | exact bM rfl)
  (hs:swapsWith e (some (.Name x pos')) pos.line X.env=pure false:=by rfl)(hf:full=true\/sc.names.lookup x=some .local:=by first | exact cC rfl | exact bM rfl):SV X (.Assign [.Name x pos'] e pos) (ei i fa):=Ou h.yb (h.ix hN) (h.loc hv) he hs (h.xX hf)
theorem Fx.bT(h:Fx X N sc k full)(i:Nat)(he:EV X e fa)(hN:N[i]?=some x:=by rfl)(hv:Loc sc x:=by first | exact cC rfl | exact bM rfl)
  (hs:swapsWith e (some (.Name x pos')) pos.line X.env=pure false:=by rfl)(hf:full=true\/sc.names.lookup x=some .local:=by first | exact cC rfl | exact bM rfl):SV X (.Assign [.Name x pos'] e pos) (de i fa):=O0 h.yb (h.ix hN) (h.loc hv) he hs (h.xX hf)
theorem Fx.rB(h:Fx X N sc k full)(i:Nat)(hN:N[i]?=some x:=by rfl)(hv:jK sc x:=by first | exact cC rfl | exact bM (cC rfl) | exact bM (bM rfl))(hd:(x==("__debug__":Str))=false:=by rfl)
  (cO:(x==("__classdict__":Str))=false:=by rfl):SV X (.Return (some (.Name x p2)) pos) (sU i):=W7 i (h.ix hN) (h.rj hv) hd cO
theorem Fx.app(h:Fx X N sc k full)(i:Nat)(ha:EV X e fa)(hN:N[i]?=some x:=by rfl)(hv:jK sc x:=by first | exact cC rfl | exact bM (cC rfl) | exact bM (bM rfl))(hd:(x==("__debug__":Str))=false:=by rfl)
  (cO:(x==("__classdict__":Str))=false:=by rfl)(hs:starEach [e] X.env=[(false,eval e X.env)]:=by rfl)
  (cH:attributeBase (.Name x p1) "append" X.env (eval (.Name x p1) X.env)=eval (.Name x p1) X.env:=by rfl)
  (lC:((backTo bj (starEach [e] X.env)).all (λx=>!x.1)&&(backToKw bj (keywordEach [] X.env)).all (λx=>x.1.isSome)
   && decide ([e].length+([]:List Keyword).length+(if ([]:List Keyword).isEmpty then 0 else 1)<30))=true:=by rfl)
  (cF:(p2.endLine==bj.line)=true:=by rfl)
  (tO:swapsWith (.Call (.Attribute (.Name x p1) "append" p2) [e] [] bj) none pos.line X.env=pure false:=by rfl):
  SV X (.Expr (.Call (.Attribute (.Name x p1) "append" p2) [e] [] bj) pos) (ji i fa):=P8 ha (h.ix hN) (h.rj hv) hd cO hs cH lC cF tO
theorem Fx.ext(h:Fx X N sc k full)(i:Nat)(ha:EV X e fa)(hN:N[i]?=some x:=by rfl)(hv:jK sc x:=by first | exact cC rfl | exact bM (cC rfl) | exact bM (bM rfl))(hd:(x==("__debug__":Str))=false:=by rfl)
  (cO:(x==("__classdict__":Str))=false:=by rfl)(hs:starEach [e] X.env=[(false,eval e X.env)]:=by rfl)
  (cH:attributeBase (.Name x p1) "extend" X.env (eval (.Name x p1) X.env)=eval (.Name x p1) X.env:=by rfl)
  (lC:((backTo bj (starEach [e] X.env)).all (λx=>!x.1)&&(backToKw bj (keywordEach [] X.env)).all (λx=>x.1.isSome)
   && decide ([e].length+([]:List Keyword).length+(if ([]:List Keyword).isEmpty then 0 else 1)<30))=true:=by rfl)
  (cF:(p2.endLine==bj.line)=true:=by rfl)
  (tO:swapsWith (.Call (.Attribute (.Name x p1) "extend" p2) [e] [] bj) none pos.line X.env=pure false:=by rfl):
  SV X (.Expr (.Call (.Attribute (.Name x p1) "extend" p2) [e] [] bj) pos) (mP i fa):=Zk ha (h.ix hN) (h.rj hv) hd cO hs cH lC cF tO
theorem Fx.pop(h:Fx X N sc k full)(i j:Nat){x y:Str}(hN:N[i]?=some x:=by rfl)(hx:Loc sc x:=by first | exact cC rfl | exact bM rfl)(Ho:N[j]?=some y:=by rfl)(hv:jK sc y:=by first | exact cC rfl | exact bM (cC rfl) | exact bM (bM rfl))
  (hd:(y==("__debug__":Str))=false:=by rfl)(cO:(y==("__classdict__":Str))=false:=by rfl)
  (cH:attributeBase (.Name y p1) "pop" X.env (eval (.Name y p1) X.env)=eval (.Name y p1) X.env:=by rfl)
  (cF:(p2.endLine==bj.line)=true:=by rfl)
  (hs:swapsWith (.Call (.Attribute (.Name y p1) "pop" p2) [] [] bj) (some (.Name x pos')) pos.line X.env=pure false:=by rfl)(hf:full=true\/sc.names.lookup x=some .local:=by first | exact cC rfl | exact bM rfl):
  SV X (.Assign [.Name x pos'] (.Call (.Attribute (.Name y p1) "pop" p2) [] [] bj) pos) (qi i j):=Zl h.yb (h.ix hN) (h.loc hx) (h.ix Ho) (h.rj hv) hd cO cH cF hs (h.xX hf)
theorem Fx.item(h:Fx X N sc k full)(i:Nat){x:Str}(ha:EV X e fa)(hb:EV X b fb)(hN:N[i]?=some x:=by rfl)(hv:jK sc x:=by first | exact cC rfl | exact bM (cC rfl) | exact bM (bM rfl))(hd:(x==("__debug__":Str))=false:=by rfl)
  (cO:(x==("__classdict__":Str))=false:=by rfl)
  (qo:∀v,assign (.Subscript (.Name x p1) b p2) X.env v=(do
   let ov <-holding [v] (eval (.Name x p1) X.env)
   let iv <-holding [v,ov] (eval b X.env)
   standAt p2
   holding [v,ov,iv] (setItem ov iv v)
   release [v,ov,iv] []):=by intro _;rfl)
  (hs:swapsWithSole [.Subscript (.Name x p1) b p2] e pos.line X.env=pure false:=by rfl)(hw:swappedStores [.Subscript (.Name x p1) b p2] e X.env=pure none:=by rfl)
  (h1:(assignEach [.Subscript (.Name x p1) b p2] X.env).map (·.2)=[assign (.Subscript (.Name x p1) b p2) X.env]:=by rfl):
  SV X (.Assign [.Subscript (.Name x p1) b p2] e pos) (B8 i fa fb):=W6 ha hb (h.ix hN) (h.rj hv) hd cO qo hs hw h1
end
theorem AD{us:List Value}(h:us.length=0):us=[]:=by
 exact D8.mp h
theorem yR{us:List Value}(h:us.length=1):∃a0,us=[a0]:=by
 cases us with
 | nil=>cases h
 | cons a r =>
  have:=AD (us:=r) (by simpa using h)
  exact ⟨a,by rw [this]⟩
theorem yS{us:List Value}(h:us.length=2):∃a0 a1,us=[a0,a1]:=by
 cases us with
 | nil=>cases h
 | cons a r =>
  have:=yR (us:=r) (by simpa using h)
  obtain ⟨b0,e⟩:=this
  exact ⟨a,b0,by rw [e]⟩
theorem ug{us:List Value}(h:us.length=3):∃a0 a1 a2,us=[a0,a1,a2]:=by
 cases us with
 | nil=>cases h
 | cons a r =>
  have:=yS (us:=r) (by simpa using h)
  obtain ⟨b0,b1,e⟩:=this
  exact ⟨a,b0,b1,by rw [e]⟩
theorem EB{us:List Value}(h:us.length=4):∃a0 a1 a2 a3,us=[a0,a1,a2,a3]:=by
 cases us with
 | nil=>cases h
 | cons a r =>
  have:=ug (us:=r) (by simpa using h)
  obtain ⟨b0,b1,b2,e⟩:=this
  exact ⟨a,b0,b1,b2,by rw [e]⟩
section
variable {P:Program}{w:World}{K:aK}{mg:Str->Option Value}{base:Heap}
theorem Bi{x qual:Str}{st:Stmt}{f:Addr}{fd:FuncData}{N ps:List Str}{k:Nat}{F:SF}(Fn:tj K x qual st f fd)(S:cE N ps (dS st))
  (cG:∀X:Cx,X.prog=P->X.w=w->X.K=K->X.mg=mg->X.base=base->Fx X N (dS st) k->oJ X (jD st) F):cn P w K mg base lK (k+1) f fd ps (rp K ps.length (bK F N.length)):=
 HB Fn S λdg A outer s H E hr=>cG _ rfl rfl rfl rfl rfl ⟨rfl,rfl,rfl,λ_ _=>rfl,DP,hr,S.nd,λ_=>⟨rfl,rfl,rfl⟩⟩
end
def Oz(P:Program)(w:World)(K:aK)(mg:Str->Option Value)(base:Heap)(x:Str)(st:Stmt)(ps:List Str)(j:Nat)(φ:List D->Option Sl):Prop:=∃f fd,Def K mg x st ps f fd/\cn P w K mg base lK j f fd ps (rp K ps.length φ)
inductive Sx:Cx->Program->World->aK->(Str->Option Value)->Heap->Prop
 | mk (X:Cx):Sx X X.prog X.w X.K X.mg X.base
theorem Bh{P:Program}{w:World}{K:aK}{mg:Str->Option Value}{base:Heap}{x:Str}{st:Stmt}{f:Addr}{fd:FuncData}{N ps:List Str}{k:Nat}{F:SF}(D':Def K mg x st ps f fd)
  (cG:∀X:Cx,Sx X P w K mg base->Fx X N (dS st) k->oJ X (jD st) F)(S:cE N ps (dS st):=by exact ⟨rfl,rfl,rfl,by decide +kernel,rfl,by decide +kernel,by decide +kernel⟩):cn P w K mg base lK (k+1) f fd ps (rp K ps.length (bK F N.length)):=
 Bi D'.fn S λX e1 e2 e3 e4 e5=>by subst e1 e2 e3 e4 e5;exact cG X (.mk X)
theorem dB{P:Program}{w:World}{K:aK}{mg:Str->Option Value}{base:Heap}{x:Str}{st:Stmt}{f:Addr}{fd:FuncData}{N ps:List Str}{k:Nat}{F:SF}(D':Def K mg x st ps f fd)
  (cG:∀X:Cx,Sx X P w K mg base->Fx X N (dS st) k->oJ X (jD st) F)(S:cE N ps (dS st):=by exact ⟨rfl,rfl,rfl,by decide +kernel,rfl,by decide +kernel,by decide +kernel⟩):Oz P w K mg base x st ps (k+1) (bK F N.length):=
 ⟨f,fd,D',Bh D' cG S⟩
theorem Fx.cl{X:Cx}{N:List Str}{sc:Scope}{k j:Nat}{full:Bool}{x:Str}{st:Stmt}{ps:List Str}{φ:List D->Option Sl}{e:Expr}{es:List Expr}{fs:En->Option (List D)}{p pos:Pos}(h:Fx X N sc k full)(O:Oz X.prog X.w X.K X.mg X.base x st ps j φ)(ha:AV X (e::es) fs)(hj:j<=k:=by decide)(hg:sc.names.lookup x=some .globalImplicit:=by rfl)(nX:(x==("__debug__":Str))=false:=by decide)(he:starEach (e::es) X.env=(false,eval e X.env)::starEach es X.env:=by rfl)(eU:(backTo pos (starEach es X.env)).any (·.1)=false:=by rfl):
  EV X (.Call (.Name x p) (e::es) [] pos) (cw ps.length φ fs):=by
 obtain ⟨f,fd,D',F⟩:=O
 exact Wz F (h.room.mono hj) (h.g hg) D'.m D'.fn.kp D'.bd ha nX he eU
structure FI(K:aK)(n:Str)(t:Stmt)(f:Addr)(od an:Option Addr)(sl:Array (Option Value))(oc kV dc pm cd ct:Value):Prop where
 a:iX K mainGlobals n=some (some (.ref f))
 l:K.lookup f=some ⟨oc,od,.func (mf n n (nA t) (jD t) (dS t) .none kV dc pm an cd ct),sl⟩
 c:BE K cd n=true
 k:p6 K (.ref f)=true
section
variable {K:aK}{mg:Str->Option Value}{h:Heap}{n:Str}{t:Stmt}{f:Addr}{od an:Option Addr}{sl:Array (Option Value)}{oc kV dc pm cd ct:Value}{ps:List Str}
theorem Di(X:K.In h)(G:h.Ns mainGlobals mg)(i:FI K n t f od an sl oc kV dc pm cd ct)(hb:∀(kV doc pm:Value) (an:Option Addr) (dg ct:Value) (us:List Value),us.length=ps.length->bindArgs (mf n n (nA t) (jD t) (dS t) .none kV doc pm an dg ct) ⟨us,[]⟩=pure (ps.zip us)):Def K mg n t ps f (mf n n (nA t) (jD t) (dS t) .none kV dc pm an cd ct):=
 ⟨ER i.l i.c i.k,(ER i.l i.c i.k).binds hb,sN X G i.a⟩
theorem ql(X:K.In h)(G:h.Ns mainGlobals mg)(i:FI K n t f od an sl oc kV dc pm cd ct)(hb:∀(kV doc pm:Value) (an:Option Addr) (dg ct a0:Value),bindArgs (mf n n (nA t) (jD t) (dS t) .none kV doc pm an dg ct) ⟨[a0],[]⟩=pure (ps.zip [a0]):=by intros;rfl)(hl:ps.length=1:=by rfl):Def K mg n t ps f (mf n n (nA t) (jD t) (dS t) .none kV dc pm an cd ct):=
 Di X G i λ_ _ _ _ _ _ us hu=>by obtain ⟨_,rfl⟩:=yR (hu.trans hl);exact hb ..
theorem lx(X:K.In h)(G:h.Ns mainGlobals mg)(i:FI K n t f od an sl oc kV dc pm cd ct)(hb:∀(kV doc pm:Value) (an:Option Addr) (dg ct a0 a1:Value),bindArgs (mf n n (nA t) (jD t) (dS t) .none kV doc pm an dg ct) ⟨[a0,a1],[]⟩=pure (ps.zip [a0,a1]):=by intros;rfl)(hl:ps.length=2:=by rfl):Def K mg n t ps f (mf n n (nA t) (jD t) (dS t) .none kV dc pm an cd ct):=
 Di X G i λ_ _ _ _ _ _ us hu=>by obtain ⟨_,_,rfl⟩:=yS (hu.trans hl);exact hb ..
theorem wy(X:K.In h)(G:h.Ns mainGlobals mg)(i:FI K n t f od an sl oc kV dc pm cd ct)(hb:∀(kV doc pm:Value) (an:Option Addr) (dg ct a0 a1 a2:Value),bindArgs (mf n n (nA t) (jD t) (dS t) .none kV doc pm an dg ct) ⟨[a0,a1,a2],[]⟩=pure (ps.zip [a0,a1,a2]):=by intros;rfl)(hl:ps.length=3:=by rfl):Def K mg n t ps f (mf n n (nA t) (jD t) (dS t) .none kV dc pm an cd ct):=
 Di X G i λ_ _ _ _ _ _ us hu=>by obtain ⟨_,_,_,rfl⟩:=ug (hu.trans hl);exact hb ..
theorem GQ(X:K.In h)(G:h.Ns mainGlobals mg)(i:FI K n t f od an sl oc kV dc pm cd ct)(hb:∀(kV doc pm:Value) (an:Option Addr) (dg ct a0 a1 a2 a3:Value),bindArgs (mf n n (nA t) (jD t) (dS t) .none kV doc pm an dg ct) ⟨[a0,a1,a2,a3],[]⟩=pure (ps.zip [a0,a1,a2,a3]):=by intros;rfl)(hl:ps.length=4:=by rfl):Def K mg n t ps f (mf n n (nA t) (jD t) (dS t) .none kV dc pm an cd ct):=
 Di X G i λ_ _ _ _ _ _ us hu=>by obtain ⟨_,_,_,_,rfl⟩:=EB (hu.trans hl);exact hb ..
end
end DL
namespace DL
open PySem L2
theorem VB(i j:Int):dH (.int i) (.int j)=some (.sh (.int (i-j))):=rfl
end DL
namespace DL
open PySem PySem.Spec PyProof.Rows L2
def EK(K:aK)(O:Addr->Prop)(J:It)(H:Hp)(ds:List D):Prop:=
 ∀(O':Addr->Prop) (H2:Hp),(∀q u,H q=some u->¬O q->H2 q=some u/\¬O' q)->(∀q,O' q->H2 q≠none) ->
  ∀i:Nat,(∀d,ds[i]?=some d->J.go i H2/\∀x H3,J.vU i H2 x H3->aH H2 H3/\Is K O' H3 x d)/\(ds.length<=i->J.stop i H2)
def IV(X:Cx)(tg it:Expr)(f:En->Option (List D)):Prop:=
 ∃wi:TI,PI X tg it wi/\∀(O:Addr->Prop) (B:Hp) (σ:L2.St) (H:Hp) (env:En) (ds:List D) (R:It->Hp->Prop),Rel X.K O B σ H env->f env=some ds ->
  (∀J H',aH H H'->EK X.K (OO O σ env) J H' ds->R J H')->wi σ H R
theorem W2{K:aK}{O:Addr->Prop}{H H2:Hp}{k:Bool}{p:Addr}{xs:List V}(kp:∀q u,H q=some u->¬O q->H2 q=some u)(h:Sq K H k p xs)(hp:¬O p):Sq K H2 k p xs:=by
 cases k with
 | true =>
  rcases h with (h | ⟨o,h⟩) | h
  .exact .inl (.inl (kp _ _ h hp))
  .exact .inl (.inr ⟨o,kp _ _ h hp⟩)
  .exact .inr h
 | false =>
  rcases h with (h | ⟨o,h⟩) | h
  .exact .inl (.inl (kp _ _ h hp))
  .exact .inl (.inr ⟨o,kp _ _ h hp⟩)
  .exact .inr h
noncomputable def kf(f:En->Option Sl):En->Option (List D):=λenv=>(f env).bind λr=>(fA r.d).map (·.2)
section
variable {X:Cx}{tg it:Expr}{fa:En->Option Sl}
theorem xK(hi:EV X it fa):IV X tg it (kf fa):=by
 obtain ⟨ti,pi,ki⟩:=hi
 refine ⟨_,Oi pi,λO B σ H env ds R Rl e q=>?_⟩
 obtain ⟨r,e1,e2⟩:=bind_some e
 obtain ⟨⟨k,ds'⟩,e4,e5⟩:=map_some e2
 cases e5
 refine ki O B σ H env r _ Rl e1 λv H1 s1 r1=>?_
 obtain ⟨p,xs,rfl,h1,h2,h3⟩:=(r1.is λq=>Rl.oo).zP e4
 refine ⟨p,rfl,?_⟩
 have key:∀(O':Addr->Prop) (H2:Hp),(∀q u,H1 q=some u->¬OO O σ env q->H2 q=some u/\¬O' q)->Sq X.K H2 k p xs/\aZ X.K O' H2 xs ds':=λO' H2 kp=>by
  refine ⟨?_,h2.map (λq hq hn=>?_) λq u e n=>(kp q u e n).1⟩
  .rcases h3 with h3 | h3
   .exact W2 (λq u e n=>(kp q u e n).1) h1 h3
   .exact h3 H2
  .cases e:H1 q with
   | none=>exact (hq e).elim
   | some u=>exact (kp q u e hn).2
 cases k with
 | true =>
  refine .inl ⟨⟨xs,h1⟩,q _ H1 s1 λO' H2 kp hO i=>⟨λd hd=>?_,λhl=>?_⟩⟩
  .obtain ⟨hq,hs⟩:=key O' H2 kp
   obtain ⟨x,hx,uZ⟩:=hs.get hd
   refine ⟨⟨xs,x,hq,hx⟩,λy H3 hy=>?_⟩
   obtain ⟨rfl,hy⟩:=hy
   have:=hy xs hq
   rw [hx] at this
   cases this
   exact ⟨aH.refl _,uZ⟩
  .obtain ⟨hq,hs⟩:=key O' H2 kp
   exact ⟨xs,hq,by rw [hs.length];exact hl⟩
 | false =>
  refine .inr ⟨⟨xs,h1⟩,q _ H1 s1 λO' H2 kp hO i=>⟨λd hd=>?_,λhl=>?_⟩⟩
  .obtain ⟨hq,hs⟩:=key O' H2 kp
   obtain ⟨x,hx,uZ⟩:=hs.get hd
   refine ⟨⟨xs,x,hq,hx⟩,λy H3 hy=>?_⟩
   obtain ⟨rfl,hy⟩:=hy
   have:=hy xs hq
   rw [hx] at this
   cases this
   exact ⟨aH.refl _,uZ⟩
  .obtain ⟨hq,hs⟩:=key O' H2 kp
   exact ⟨xs,hq,by rw [hs.length];exact hl⟩
theorem Pa{K:aK}{O:Addr->Prop}{H:Hp}(lo:Int)(n:Nat):EK K O (qd lo n) H (dy lo n):=λO' H2 _ _ i=>by
 refine ⟨λd hd=>?_,λhl=>show n<=i by simpa [dy] using hl⟩
 unfold dy at hd
 rw [qR] at hd
 obtain ⟨k,hk,rfl⟩:=map_some hd
 obtain ⟨hi,rfl⟩:=qP.mp hk
 rw [List.length_range] at hi
 refine ⟨hi,λx H3 hy=>?_⟩
 obtain ⟨rfl,rfl⟩:=hy
 rw [List.getElem_range]
 exact ⟨aH.refl _,Is.int _⟩
noncomputable def rP(h:List D->Option (List D))(f:En->Option (List D)):En->Option (List D):=λenv=>(f env).bind h
noncomputable def Jx(f:En->Option (List D))(g:GF)(F:SF):SF:=λenv=>(f env).bind λds=>forL g F ds env
theorem W5(hp:PassesOwn (model X.prog X.w) X.A X.env X.xe)(hc:X.calm=true)(hi:IV X tg it fi)(hg:GV X tg g)(hb:oJ X body F)
  (hs:∀x,foldedSetIterable it X.env x=pure x:=by intro _;rfl):SV X (.For tg it body [] pos) (Jx fi g F):=by
 obtain ⟨wi,pi,ki⟩:=hi
 obtain ⟨tF,pg,kg⟩:=hg
 obtain ⟨tb,pb,kb⟩:=hb
 refine ⟨_,JQ hp hc pi pg pb hs,λO B σ H env fl ak D R e q=>?_⟩
 obtain ⟨ds,e1,e2⟩:=bind_some e
 refine ki O B σ H env ds _ R e1 λJ H1 s1 wk=>?_
 have q':dE X.K O B σ H1 env D fl ak:=q.from (Gd.refl s1)
 refine ⟨λi m di H2=>m=ds.length-i/\i<=ds.length/\Left X.K O B σ H1 env g F ds fl ak i di H2,⟨ds.length,by simp,r8 _,⟨env,R.grow s1,Gd.refl (aH.refl _),e2⟩⟩,?_⟩
 rintro i m di H2 ⟨rfl,hi,L⟩
 obtain ⟨dX,R2,gd,ee⟩:=id L
 have w:=wk (OO O di dX) H2 (λa u ea na=>by
  obtain ⟨h1,h2⟩:=gd a u ea λz=>na (.inr z)
  exact ⟨h1,λz=>z.elim (λz=>na (.inl z)) h2⟩) (λa=>R2.oo) i
 by_cases cq:i<ds.length
 .obtain ⟨go,yl⟩:=w.1 ds[i] (by simp [cq])
  refine .inr ⟨go,Left X.K O B σ H1 env g F ds fl ak (i+1),λbo H' p'=>⟨ds.length-(i+1),by ext cq,rfl,cq,p'⟩,λx H3 hy=>?_⟩
  obtain ⟨s3,hx⟩:=yl x H3 hy
  have pd:ds.drop i=ds[i]::ds.drop (i+1):=sR cq
  rw [pd,forL] at ee
  cases Hg:g ds[i] dX with
  | none=>rw [Hg] at ee;cases ee
  | some pj =>
   rw [Hg] at ee
   refine kg O B di H3 dX pj x ds[i] _ (R2.grow s3) hx Hg λQ8 H4 R4 g4=>?_
   dsimp only at ee
   cases hF:F pj with
   | none=>rw [hF] at ee;cases ee
   | some y =>
    obtain ⟨f2,ju⟩:=y
    rw [hF] at ee
    have Hu:=gd.trans ((Gd.refl s3).trans g4)
    refine kb O B Q8 H4 pj f2 ju _ R4 hF ?_
    cases f2 with
    | nx=>exact λFW H5 R5 g5=>⟨ju,R5,Hu.trans g5,ee⟩
    | ct=>exact λFW H5 R5 g5=>⟨ju,R5,Hu.trans g5,ee⟩
    | bk=>cases ee;exact λFW H5 R5 g5=>q' FW H5 R5 (Hu.trans g5)
    | rt r=>cases ee;exact q'
 .exact .inl ⟨w.2 (by ext cq),Fe (by ext cq) q' L⟩
end
noncomputable def rl(cI sc:Scope):Scope:=
 { cI with names:=cI.names.map λ(n,k)=>if (k==.free&&sc.kind==.function&&sc.names.lookup n==some .cell) then (n,.cell) else (n,k) }
theorem Kq{sc:Scope}:∀{names:List (Str×NameKind)} {x:Str} {k:NameKind},names.lookup x=some k ->
  (names.map λ(n,k)=>if (k==qx&&sc.kind==.function&&sc.names.lookup n==some .cell) then (n,xp) else (n,k)).lookup x=some (if (k==qx&&sc.kind==.function&&sc.names.lookup x==some .cell) then xp else k)
 | [],_,_,h=>by simp at h
 | (n,k')::r,x,k,h=>by
  have ih:=@Kq sc r x k
  show t8 x ((if (k'==qx&&sc.kind==.function&&sc.names.lookup n==some .cell)=true then (n,xp) else (n,k'))::_)=_
  cases hx:x==n with
  | true =>
   simp only [og,hx] at h
   cases h
   have e:x=n:=by simpa using hx
   subst e
   split<;>simp [og]
  | false =>
   simp only [og,hx] at h
   split
   .simp only [og,hx];exact ih h
   .simp only [og,hx];exact ih h
theorem Y9{sc:Scope}:∀{names:List (Str×NameKind)} {x:Str} {k:NameKind},
  (names.map λ(n,k)=>if (k==qx&&sc.kind==.function&&sc.names.lookup n==some .cell) then (n,xp) else (n,k)).lookup x=some k->∃k',names.lookup x=some k'/\k=if (k'==qx&&sc.kind==.function&&sc.names.lookup x==some .cell) then xp else k'
 | names,x,k,h=>by
  cases e:names.lookup x with
  | some k'=>have:=Kq (sc:=sc) e;rw [h] at this;exact ⟨k',rfl,dC this⟩
  | none =>
   exfalso
   induction names with
   | nil=>simp at h
   | cons y r ih =>
    obtain ⟨n,k'⟩:=y
    have h':t8 x ((if (k'==qx&&sc.kind==.function&&sc.names.lookup n==some .cell)=true then (n,xp) else (n,k'))::(r.map λ(n,k)=>if (k==qx&&sc.kind==.function&&sc.names.lookup n==some .cell) then (n,xp) else (n,k)))=some k:=h
    cases hx:x==n with
    | true=>simp [og,hx] at e
    | false =>
     simp only [og,hx] at e
     apply ih _ e
     split at h'
     .simpa only [og,hx] using h'
     .simpa only [og,hx] using h'
noncomputable def gj(cells:List (Str×Addr)):List (Str×NameKind)->List (Str×Addr)->List (Str×Addr)
 | [],acc=>acc
 | (n,k)::r,acc=>gj cells r (if k==.free then (n,(cells.lookup n).getD 0)::acc else acc)
theorem KI:∀(names:List (Str×NameKind)) (acc:List (Str×Addr)),(∀y∈names,y.2=.free->∃c,env.cells.lookup y.1=some c) ->
  (forIn names acc λ(x:Str×NameKind) r=>(if (x.2==.free)=true then do let a <-cellOf env x.1;pure (sJ ((x.1,a)::r)) else pure (sJ r):Sem (ForInStep (List (Str×Addr)))))=pure (gj env.cells names acc)
 | [],acc,_=>rfl
 | (n,k)::r,acc,h=>by
  rw [List.forIn_cons]
  have hr:∀y∈r,y.2=.free->∃c,env.cells.lookup y.1=some c:=λy hy=>h y (gE _ hy)
  cases hk:k==qx with
  | true =>
   have ek:k=.free:=by simpa using hk
   obtain ⟨c,hc⟩:=h (n,k) jz ek
   replace hc:env.cells.lookup n=some c:=hc
   have T2:cellOf env n=pure c:=by unfold cellOf;rw [hc]
   simp only [if_true]
   rw [T2]
   simp only [pure_bind]
   rw [KI r _ hr]
   conv=>rhs;unfold gj
   rw [hk,hc]
   rfl
  | false =>
   simp only [xC,if_false,pure_bind]
   rw [KI r _ hr]
   conv=>rhs;unfold gj
   rw [hk]
   rfl
theorem ZY(h:∀y∈sc.names,y.2=.free->∃c,env.cells.lookup y.1=some c):closureFor sc env=pure (gj env.cells sc.names []):=by
 unfold closureFor
 rw [<-KI sc.names [] h]
 show (forIn sc.names [] _ >>= λcs=>pure cs)=_
 rw [bind_pure]
theorem Pw:∀(names:List (Str×NameKind)) (acc:List (Str×Addr)) {c:Addr},(gj cells names acc).lookup x=some c->acc.lookup x=some c\/((x,qx)∈names/\c=(cells.lookup x).getD 0)
 | [],acc,c,h=>.inl h
 | (n,k)::r,acc,c,h=>by
  unfold gj at h
  rcases Pw r _ h with h1 | ⟨h,e⟩
  .clear h
   have h:=h1
   clear h1
   cases hk:k==qx with
   | false=>rw [hk] at h;exact .inl (by simpa using h)
   | true =>
    rw [hk] at h
    simp only [if_true] at h
    have ek:k=.free:=by simpa using hk
    cases hx:x==n with
    | true =>
     simp only [og,hx] at h
     have e:x=n:=by simpa using hx
     subst e ek
     exact .inr ⟨jz,(dC h).symm⟩
    | false =>
     simp only [og,hx] at h
     exact .inl h
  .exact .inr ⟨gE _ h,e⟩
theorem PN:∀(names:List (Str×NameKind)) (acc:List (Str×Addr)),((∃c,acc.lookup x=some c)\/(x,qx)∈names)->∃c,(gj cells names acc).lookup x=some c
 | [],acc,h=>h.elim id λz=>nomatch z
 | (n,k)::r,acc,h=>by
  unfold gj
  refine PN r _ ?_
  cases hk:k==qx with
  | false =>
   rcases h with h | h
   .exact .inl (by simpa using h)
   .rcases bG.mp h with e | h
    .cases e;simp at hk
    .exact .inr h
  | true =>
   simp only [if_true]
   cases hx:x==n with
   | true=>exact .inl ⟨_,by simp only [og,hx];rfl⟩
   | false =>
    rcases h with ⟨c,h⟩ | h
    .exact .inl ⟨c,by simp only [og,hx];exact h⟩
    .rcases bG.mp h with e | h
     .cases e;simp at hx
     .exact .inr h
structure cT(N:List Str)(sc:Scope)(N':List Str)(caps:List Nat)(nt:Nat)(cI:Scope):Prop where
 kind:cI.kind=.function
 loc:∀y∈cI.names,y.2=.local->cI.names.lookup y.1=some .local
 rG:∀y∈cI.names,y.2≠.cell
 free:∀y∈cI.names,y.2=.free->sc.names.lookup y.1=some .cell\/sc.names.lookup y.1=some .free
 nd:N'.Nodup
 len:N'.length=nt+caps.length
 U3:caps.map (λi=>N[i]?)=(N'.drop nt).map some
 fr:∀x∈N'.drop nt,cI.names.lookup x=some .free
theorem K6{names:List (Str×NameKind)}{x:Str}(h:names.lookup x=some k):(x,k)∈names:=yJ h
noncomputable def me:List Nat->En->Option En
 | [],_=>some []
 | i::is,env=>match env[i]? with
  | some (.sh d)=>(me is env).map (Sl.sh d::·)
  | _=>none
noncomputable def oR(g:GF)(fc:En->Option Bool)(fe:En->Option Sl):List D->En->Option (List D)
 | [],_=>some []
 | d::ds,e=>(g d e).bind λe1=>(fc e1).bind λb=>if b=true then (fe e1).bind λr=>(oR g fc fe ds e1).bind λrs=>some (r.d::rs) else oR g fc fe ds e1
noncomputable def mL(fi:En->Option (List D))(caps:List Nat)(nt:Nat)(g:GF)(fc:En->Option Bool)(fe:En->Option Sl):En->Option Sl:=λenv =>
 (fi env).bind λds=>(me caps env).bind λcs=>if ds.length<=16777216 then (oR g fc fe ds (mI nt Sl.no++cs)).map Sl.ow else none
noncomputable def dZ:List Nat->L2.St->L2.St
 | [],_=>[]
 | i::is,σ=>(σ[i]?).getD none::dZ is σ
theorem OV{K:aK}{O:Addr->Prop}{B:Hp}{σ:L2.St}{H:Hp}{env:En}(R:Rel K O B σ H env):∀{caps:List Nat} {cs:En},me caps env=some cs->cs.length=caps.length/\(dZ caps σ).length=caps.length /\
  ∀(j:Nat) (s:Sl),cs[j]?=some s->∃(d:D) (v:V) (i:Nat),s=Sl.sh d/\(dZ caps σ)[j]?=some (some v)/\Is K (OO O σ env) H v d/\caps[j]?=some i/\σ[i]?=some (some v)
 | [],cs,e=>by cases e;exact ⟨rfl,rfl,λj s h=>by simp at h⟩
 | i::is,cs,e=>by
  unfold me at e
  cases h:env[i]? with
  | none=>rw [h] at e;cases e
  | some s =>
   rw [h] at e
   cases s with
   | no=>cases e
   | ow ds=>cases e
   | dw ds=>cases e
   | tw _ _=>cases e
   | sh d =>
    obtain ⟨cs',e1,rfl⟩:=map_some (show (me is env).map (Sl.sh d::·)=some cs from e)
    obtain ⟨l1,l2,ih⟩:=OV R e1
    obtain ⟨v,hv,hi⟩:=R.sh i d h
    refine ⟨by simp [l1],by simp [dZ,l2],λj s hj=>?_⟩
    cases j with
    | zero=>simp at hj;subst hj;exact ⟨d,v,i,rfl,by simp [dZ,hv],hi,rfl,hv⟩
    | succ j =>
     obtain ⟨d',v',i',a1,a2,a3,a4,a5⟩:=ih j s (by simpa using hj)
     exact ⟨d',v',i',a1,by simpa [dZ] using a2,a3,by simpa using a4,a5⟩
def C5(X:Cx)(ifs:List Expr)(f:En->Option Bool):Prop:=
 ∃t:TT,(∀(pins:List (Addr×Obj)) (s:Shared) (σ:L2.St) (H:Hp) (Q:Bool->Hp->Prop),Inv X pins σ H s->t σ H Q ->
   wpAny (model X.prog X.w) X.A (forIn ifs true λc r=>if r=true then do let ok <-isTrue c X.env (eval c X.env);pure (sJ ok) else pure (sJ r)) (TP X pins σ Q) X.xe s) /\
  ∀(O:Addr->Prop) (B:Hp) (σ:L2.St) (H:Hp) (env:En) (b:Bool) (Q:Bool->Hp->Prop),Rel X.K O B σ H env->f env=some b->(∀H',aH H H'->Q b H')->t σ H Q
noncomputable def sV:En->Option Bool:=λ_=>some true
theorem yW:C5 X [] sV:=⟨λ_ H Q=>Q true H,λpins s σ H Q I h=>wpAny_tests_nil ⟨H,I,h⟩,λO B σ H env b Q R e q=>by cases e;exact q H (aH.refl _)⟩
theorem N7(h:TV X c f):C5 X [c] f:=by
 obtain ⟨t,p,k⟩:=h
 exact ⟨t,λpins s σ H Q I h=>wpAny_tests_one (p pins s σ H Q I h),k⟩
section
variable {prog:Program}{w:World}{A:Around}{R:Result->Shared->Prop}{s:Shared}
theorem Zu{elt target iter:Expr}{ifs:List Expr}{scope:Scope}{pos:Pos}{it acc:Value}{env:Env}(I:Nat->Shared->Prop){N:Value->Shared->Prop}(hN:∀x s',N x s'->False)
  (turn:∀n s,I n s->wpAny (model prog w) A (pyNext it) (λr aY=>match r with
   | none=>R (.ok .next) aY
   | some v=>wpAny (model prog w) A (letOwnedTupleGo target it v) (λ_ uL=>wpAny (model prog w) A (assign target env v) (λ_ c6 =>
     wpAny (model prog w) A (forIn ifs true λc r=>if r=true then do let ok <-isTrue c env (eval c env);pure (sJ ok) else pure (sJ r)) (λok nK =>
      if ok=true then wpAny (model prog w) A (eval elt env) (λx zK =>
       wpAny (model prog w) A (call (.builtin "list.append") [acc,x]) (λ_ zJ=>∃m,m<n/\I m zJ) N zK) N nK
      else ∃m,m<n/\I m nK) N c6) N uL) N aY) N s)
  (n:Nat)(h:I n s):
  codeAny (model prog w) A (.compLoop (.ListComp elt [⟨target,iter,ifs,0⟩] scope pos) 0 it acc env) R s:=by
 refine codeAny_loop rfl I (λn s hI=>?_) n h
 show wpAny _ A ((compTurn (.ListComp elt [⟨target,iter,ifs,0⟩] scope pos) 0 it acc env).onRaise (λx=>do noteFrame x env;theTreesLotGoes x)) _ _ s
 refine wpAny_noted ?_
 rw [compTurn_list]
 have no:∀{P:Value->Shared->Prop} (x:Value) (s':Shared),N x s'->P x s':=λx s' z=>(hN x s' z).elim
 refine aN (Iv (aN (nF (turn n s hI) (λr aY h₁=>?_) no)))
 cases r with
 | none=>exact bJ h₁
 | some v =>
  refine aN (nF h₁ (λ_ uL AM=>?_) no)
  refine aN (nF AM (λ_ c6 rH=>aN (nF rH (λok nK tM=>?_) no)) no)
  cases ok with
  | false=>exact bJ ⟨rfl,tM⟩
  | true =>
   exact aN (aN (nF tM (λx zK G3=>aN (nF G3 (λ_ zJ G2=>bJ (bJ ⟨rfl,G2⟩)) no)) no))
end
section
variable {X:Cx}{N N':List Str}{sc cI:Scope}{k:Nat}{full:Bool}{elt iter tg:Expr}{ifs:List Expr}{pos:Pos}{fi:En->Option (List D)}{caps:List Nat}{nt:Nat}{g:GF}{fc:En->Option Bool}{fe:En->Option Sl}
noncomputable def u9(X:Cx)(N':List Str)(cI:Scope)(ex:List Addr)(s:Shared)(H:Hp):Cx where
 prog:=X.prog
 w:=X.w
 K:=X.K
 mg:=X.mg
 base:=X.base
 A:=X.A
 N:=N'
 cU:=s
 sv:=H
 env:=compEnvC cI (gj X.env.cells cI.names []) s.heap.objs.size X.env
 outer:=X.stack
 stack:=X.stack
 ex:=ex
 fn:=λ_=>false
 calm:=true
 pn:=[]
 xe:=λ_ _=>False
theorem vI(C:cT N sc N' caps nt cI)(qJ:X.env.scope=sc){pins:List (Addr×Obj)}{σ:L2.St}{H:Hp}{s:Shared}(I:Inv X pins σ H s){x:Str}{c:Addr}(h:(gj X.env.cells cI.names []).lookup x=some c):X.env.cells.lookup x=some c:=by
 rcases Pw _ _ h with h | ⟨h,e⟩
 .simp at h
 .obtain ⟨c',u4⟩:=I.ok.has x (by
   show X.env.scope.names.lookup x=_\/X.env.scope.names.lookup x=_
   rw [qJ]
   exact C.free _ h rfl)
  rw [u4] at e
  rw [e];exact u4
theorem N1(h:cI.names.lookup x=some .free):∃c,(gj X.env.cells cI.names []).lookup x=some c:=PN _ _ (.inr (K6 h))
theorem XH(C:cT N sc N' caps nt cI)(qJ:X.env.scope=sc)(hc:X.calm=true){pins:List (Addr×Obj)}{σ:L2.St}{H:Hp}{s s3:Shared}{fp:List Addr}(I:Inv X pins σ H s)(I3:Inv X pins σ H s3)
  (hf:∀b∈fp,kQ X pins H b)(A5:∀b∈fp,∃o,s3.heap.get? b=some o)(hs:s3.heap.objs.size=s.heap.objs.size+1):(u9 X N' cI (s.heap.objs.size::fp) s3 H).Ok:=by
 have small:∀x c,X.env.cells.lookup x=some c->c<s.heap.objs.size:=λx c e=>by
  obtain ⟨v,z⟩:=I.cell x c e
  exact z.lt
 have kd:∀x,((u9 X N' cI (s.heap.objs.size::fp) s3 H).env.kindOf x=some .cell\/(u9 X N' cI (s.heap.objs.size::fp) s3 H).env.kindOf x=some .free)->cI.names.lookup x=some .free:=λx h=>by
  have h':∃k,(rl cI X.env.scope).names.lookup x=some k/\(k=.cell\/k=.free):=h.elim (λz=>⟨_,z,.inl rfl⟩) λz=>⟨_,z,.inr rfl⟩
  obtain ⟨k,e,hk⟩:=h'
  obtain ⟨k',e1,e2⟩:=Y9 e
  have nc:k'≠.cell:=C.rG _ (K6 e1)
  by_cases u3:(k'==qx&&X.env.scope.kind==.function&&X.env.scope.names.lookup x==some .cell)=true
  .have:k'=.free:=by
    have:=(ub _ _▸(ub _ _▸u3).1).1
    simpa using this
   rw [e1,this]
  .rw [if_neg u3] at e2
   subst e2
   rcases hk with rfl | rfl
   .exact (nc rfl).elim
   .exact e1
 refine ⟨I.ok.mod,C.kind,I.ok.glob,I.ok.blt,bZ _,λx y c h1 h2=>I.ok.inj x y c (vI C qJ I h1) (vI C qJ I h2),λx h=>N1 (kd x h),λ_ _ (z:false=true) _=>(nomatch z),λ_=>I.ok.hd hc,I.ok.frames,.inl rfl,λb hb=>⟨?_,λx c e=>?_⟩,λb o e=>?_,?_,λb o e hb=>?_,λb hb uX=>?_,I3.stack,λb hb=>I.pO b hb⟩
 .show b≠s3.heap.objs.size
  rcases bG.mp hb with rfl | hb
  .rw [hs];exact dQ (oQ _)
  .obtain ⟨o,e⟩:=A5 b hb
   exact dQ (cL e)
 .have e':=vI C qJ I e
  rcases bG.mp hb with rfl | hb
  .exact dQ (small x c e')
  .exact (hf b hb).2.2.2.2.1 x c e'
 .exact I3.bs b o e
 .exact jA I.ok.rW I3.sz
 .have lt:b<X.base.objs.size:=cL e
  have h0:=I.ok.rW
  have h1:=I.sz
  rcases bG.mp hb with rfl | hb
  .exact absurd (nr lt (jA h0 h1)) (sP _)
  .rcases (hf b hb).2.2.2.1 with z | z
   .exact I.ok.rF b o e z
   .exact absurd (nr lt (jA h0 z)) (sP _)
 .rcases bG.mp hb with rfl | hb
  .obtain ⟨_,o,ho,_⟩:=I.stack.mem uX
   exact absurd (cL ho) (sP _)
  .rcases bG.mp (I.mN b uX) with z | z
   .exact (hf b hb).2.1 z
   .exact (hf b hb).2.2.1 z
theorem E8{α:Type}{n j:Nat}{x y:α}{l:List α}(h:(mI n x++l)[j]?=some y):y=x\/(n<=j/\l[j-n]?=some y):=by
 by_cases hj:j<n
 .rw [xD (by simpa using hj),BY,if_pos hj] at h
  exact .inl (dC h).symm
 .rw [uf (by simpa using hj),D6] at h
  exact .inr ⟨by ext hj,h⟩
theorem YI(C:cT N sc N' caps nt cI)(qJ:X.env.scope=sc)(hN:X.N=N)(hc:X.calm=true){pins:List (Addr×Obj)}{σ:L2.St}{H:Hp}{s s3 s4:Shared}{fp:List Addr}(I:Inv X pins σ H s)(I3:Inv X pins σ H s3)
  (hf:∀b∈fp,kQ X pins H b)(A5:∀b∈fp,∃o,s3.heap.get? b=some o)(hs:s3.heap.objs.size=s.heap.objs.size+1)
  (wL:s4.os=s3.os)(hg:s4.gens=s3.gens)(hk:∀b o,s3.heap.get? b=some o->s4.heap.get? b=some o)(AX:s4.heap.Ns s3.heap.objs.size λ_=>none):
  Inv (u9 X N' cI (s.heap.objs.size::fp) s3 H) [] (mI nt none++dZ caps σ) H s4:=by
 have sl:∀(caps:List Nat) (σ:L2.St),(dZ caps σ).length=caps.length:=λcaps σ=>by
  induction caps with
  | nil=>rfl
  | cons i r ih=>simp [dZ,ih]
 have sg:∀(caps:List Nat) (σ:L2.St) (j:Nat) (v:V),(dZ caps σ)[j]?=some (some v)->∃i,caps[j]?=some i/\σ[i]?=some (some v):=λcaps σ=>by
  induction caps with
  | nil=>intro j v h;simp [dZ] at h
  | cons i r ih =>
   intro j v h
   cases j with
   | zero =>
    have h':(σ[i]?).getD none=some v:=by simpa [dZ] using h
    refine ⟨i,rfl,?_⟩
    cases e:σ[i]? with
    | none=>rw [e] at h';cases h'
    | some o=>rw [e] at h';exact congrArg some h'
   | succ j =>
    obtain ⟨i',e1,e2⟩:=ih j v (by simpa [dZ] using h)
    exact ⟨i',by simpa using e1,e2⟩
 refine ⟨XH C qJ hc I I3 hf A5 hs,wL,by rw [hg];exact I3.bare,Un.kept hk,⟨_,AX,λi x v h1 h2 h3=>?_⟩,λx c e=>?_,I3.bB.fresh (bZ _),λx c e=>I3.ej x c (vI C qJ I e),λp hp=>absurd (show p∈([]:List (Addr×Obj)) from hp) (by simp),I3.bB.kept hk,?_⟩
 .have h1:N'[i]?=some x:=h1
  rcases E8 h2 with z | ⟨hi,h2⟩
  .cases z
  .obtain ⟨i',e1,e2⟩:=sg caps σ _ v h2
   have hd:(N'.drop nt)[i-nt]?=some x:=by rw [List.getElem?_drop,Nat.add_sub_cancel' hi];exact h1
   have hm:=congrArg (λl=>l[i-nt]?) C.U3
   simp only [qR,e1,hd,Option.map_some] at hm
   have Uc:X.N[i']?=some x:=by rw [hN];exact dC hm
   have Hh:=C.fr x (MX hd)
   have ig:=C.free _ (K6 Hh) rfl
   obtain ⟨m,hn,hl⟩:=I3.loc
   obtain ⟨u,r,l⟩:=hl i' x v Uc e2 (by rw [qJ];exact .inr ig)
   refine ⟨u,r,.inr ⟨?_,?_⟩⟩
   .have e:=Kq (sc:=X.env.scope) Hh
    show (rl cI X.env.scope).names.lookup x=_\/(rl cI X.env.scope).names.lookup x=_
    have e':(rl cI X.env.scope).names.lookup x=_:=e
    rw [e']
    split
    .exact .inl rfl
    .exact .inr rfl
   .rcases l with ⟨k,_⟩ | ⟨k,c,e,z⟩
    .exfalso
     have k:X.env.scope.names.lookup x=some .local:=k
     rw [qJ] at k
     dsimp only at ig
     rw [k] at ig
     rcases ig with z | z<;>cases z
    .obtain ⟨c',u4⟩:=N1 (X:=X) Hh
     have:=vI C qJ I u4
     rw [e] at this
     cases this
     exact ⟨c,u4,z.keeps hk⟩
 .obtain ⟨v,z⟩:=I3.cell x c (vI C qJ I e)
  exact ⟨v,z.keeps hk⟩
 .show (mI nt none++dZ caps σ).length=N'.length
  rw [da,D6,sl,C.len]
theorem XX(r:aG xs us):xs.length=us.length:=r.length
theorem YJ{pins pl:List (Addr×Obj)}{σ bo:L2.St}{H2 H':Hp}{s2 s3 s1:Shared}{fp:List Addr}{h':Heap}{xs:List V}{ys:List Value}(I2:Inv X pins σ H2 s2)(wI:s3.os=s2.os)(Bb:∀b o,s2.heap.get? b=some o->s3.heap.get? b=some o)
  (hsz:s3.heap.objs.size=s2.heap.objs.size+1)(f2:∀b∈fp,kQ X pins H2 b)(I':Inv (u9 X N' cI (s2.heap.objs.size::fp) s3 H2) pl bo H' s1)(sb:r6 s3.heap.objs.size s1.heap h')
  (hn:H' s2.heap.objs.size=none)(hl:∃n,s1.heap.get? s2.heap.objs.size=some { cls:=.type "list",data:=.seq ys.toArray n })(hv:aG xs ys)(hz:xs.length<=sizeLine):
  Inv X pins σ (upd H' s2.heap.objs.size (.lst xs)) { s1 with heap:=h' }:=by
 have SU:∀b,b<s3.heap.objs.size->b≠s3.heap.objs.size:=λb h=>dQ h
 have Md:∀b,b<s2.heap.objs.size->b≠s2.heap.objs.size:=λb h=>dQ h
 have out:∀b o,s2.heap.get? b=some o->b∉fp->b∉s2.heap.objs.size::fp:=λb o e n z=>(bG.mp z).elim (Md b (cL e)) n
 have hC:H' s3.heap.objs.size=none:=I'.free
 have up:∀b o,s2.heap.get? b=some o->∀o',s1.heap.get? b=some o'->h'.get? b=some o':=λb o e o' e'=>(sb.2 b (SU b (cL (Bb b o e)))).trans e'
 have uQ:∀b u,H' b=some u->b≠s2.heap.objs.size:=λb u e z=>by rw [z,hn] at e;cases e
 have u:=I'.base
 refine I2.Bx (s':={ s1 with heap:=h' }) (ch:=fp) (I'.os.trans wI) ⟨λb o e n hb hx=>?_,λb o e n hb hx=>?_,λb o e n hx=>?_,λb o e hx=>?_,λb zs e=>?_,λb o v e=>?_,λb ps e=>?_⟩ (λb v e=>?_) I'.bare (λb hb=>?_)
 .exact up b o e o (u.keep b o (Bb b o e) n hb (out b o e hx))
 .obtain ⟨sl,e1⟩:=u.slot b o (Bb b o e) n hb (out b o e hx)
  exact ⟨sl,up b o e _ e1⟩
 .rw [dM (Md b (cL e))]
  exact u.free b o (Bb b o e) n (out b o e hx)
 .obtain ⟨o',e1⟩:=u.there b o (Bb b o e) (out b o e hx)
  exact ⟨o',up b o e _ e1⟩
 .have:=u.jd b zs e
  rw [dM (uQ b _ this)];exact this
 .have:=u.ik b o v e
  rw [dM (uQ b _ this)];exact this
 .obtain ⟨more,this⟩:=u.je b ps e
  exact ⟨more,by rw [dM (uQ b _ this)];exact this⟩
 .by_cases hb:b=s2.heap.objs.size
  .subst hb
   rw [nI] at e
   cases e
   obtain ⟨n,e1⟩:=hl
   exact ⟨hz,ys,n,hv,(sb.2 _ (by rw [hsz];exact dQ (oQ _))).trans e1⟩
  .rw [dM hb] at e
   refine (I'.bB b v e).qg (λc w hc q=>(sb.2 c ?_).trans q) (λc _ _ q=>by rw [dM (uQ c _ q)];exact q) λc zs q=>by rw [dM (uQ c _ q)];exact q
   rintro rfl
   rcases hc with z | z
   .rw [<-z,hC] at e;cases e
   .rw [hC] at z;cases z
 .obtain ⟨_,g1,_,g3,g4,g5⟩:=f2 b hb
  exact ⟨g3,g1,g4,g5⟩
theorem PQ(h:Fx X N sc k full)(C:cT N sc N' caps nt cI){wi:TI}(pi:PI X tg iter wi)(ki:∀(O:Addr->Prop) (B:Hp) (σ:L2.St) (H:Hp) (env:En) (ds:List D) (R:It->Hp->Prop),Rel X.K O B σ H env->fi env=some ds->(∀J H',aH H H'->EK X.K (OO O σ env) J H' ds->R J H')->wi σ H R)
  (hb:∀X':Cx,X'.prog=X.prog->X'.w=X.w->X'.K=X.K->X'.mg=X.mg->X'.base=X.base->Fx X' N' (rl cI sc) k false->GV X' tg g/\C5 X' ifs fc/\EV X' elt fe)
  (uX:∀x,foldedSetIterable iter X.env x=pure x){pins:List (Addr×Obj)}{s:Shared}{σ:L2.St}{H:Hp}(I:Inv X pins σ H s){O:Addr->Prop}{B:Hp}{env:En}{r:Sl}(R:Rel X.K O B σ H env)(e:mL fi caps nt g fc fe env=some r)
  {use:Option (Value->Sem Unit)}{QQ:Value->Shared->Prop}
  (fin:∀(C0 p:Addr) (H':Hp) (s':Shared),(∃m,s'.heap.Ns C0 m)->kQ X pins H' C0->(∀h',r6 C0 s'.heap h'->Inv X pins σ H' { s' with heap:=h' })->aH H H'->Res X.K (OO O σ env) H H' (.ref p) r ->
   compPost (model X.prog X.w) X.A X.xe use QQ (.ref p) C0 (.ok .next) s'):
  wpAny (model X.prog X.w) X.A (comprehension (.ListComp elt [⟨tg,iter,ifs,0⟩] cI pos) cI X.env (firstIterPos [⟨tg,iter,ifs,0⟩] pos) (newList []) (firstAsync [⟨tg,iter,ifs,0⟩]) (firstIter [⟨tg,iter,ifs,0⟩] X.env) use) QQ X.xe s:=by
 obtain ⟨ds,e1,e2⟩:=bind_some e
 obtain ⟨cs,e3,e4⟩:=bind_some e2
 by_cases hlen:ds.length<=16777216
 case neg=>rw [if_neg hlen] at e4;cases e4
 rw [if_pos hlen] at e4
 obtain ⟨rs,e5,rfl⟩:=map_some e4
 have A7:closureFor cI X.env=pure (gj X.env.cells cI.names []):=ZY λy hy hf=>I.ok.has y.1 (by
  show X.env.scope.names.lookup y.1=_\/X.env.scope.names.lookup y.1=_
  rw [h.sc]
  exact C.free y hy hf)
 have Tw:=pi pins s σ H (λJ H'=>aH H H'/\EK X.K (OO O σ env) J H' ds) I (ki O B σ H env ds _ R e1 λJ H' s' wk=>⟨s',wk⟩)
 refine wpAny_comprehension_free (use:=use) rfl uX A7 C.kind C.loc (bQ Tw λxv s1 h1=>bQ h1 λG0 s2 h2=>?_)
 obtain ⟨it,fp,tn,J,H2,rfl,I2,T,jM,f2,pR,wk⟩:=h2
 refine sS (wpAny_newFunctionEnv C.rG (by intro y hy;simp at hy) (λh₁ o9 o8=>?_) C.kind)
 dsimp only at o9 o8 ⊢
 generalize Hr:s2.heap.push { cls:=.type "list",dict:=none,data:=.seq ([]:List Value).toArray }=H3 at o9 o8 ⊢
 have hsz:H3.objs.size=s2.heap.objs.size+1:=by rw [<-Hr,nG]
 have AG:∀b o,s2.heap.get? b=some o->H3.get? b=some o:=λb o e=>by rw [<-Hr];exact dh _ e
 have Dl:∀b o,H3.get? b=some o->h₁.get? b=some o:=λb o e=>o8.extBut b o (dQ (cL e)) (dh _ e)
 have I3:Inv X pins σ H2 { s2 with heap:=H3 }:=I2.kept (t':=s2.toks) AG
 have Au:∀b∈fp,b<s2.heap.objs.size:=λb hb=>by obtain ⟨o,eo,_⟩:=T.obj 0 _ jM b hb;exact cL eo
 have uQ:∀b∈fp,b≠s2.heap.objs.size:=λb hb=>dQ (Au b hb)
 have A5:∀b∈fp,∃o,H3.get? b=some o:=λb hb=>by obtain ⟨o,eo,_⟩:=T.obj 0 _ jM b hb;exact ⟨o,AG b o eo⟩
 have R2:=R.grow pR
 obtain ⟨lc,ls,cg⟩:=OV R2 e3
 generalize oP:u9 X N' cI (s2.heap.objs.size::fp) { s2 with heap:=H3 } H2=X'
 have I4:∀t,Inv X' [] (mI nt none++dZ caps σ) H2 { s2 with heap:=h₁,toks:=t }:=λt=>by
  rw [<-oP]
  exact YI (s3:={ s2 with heap:=H3 }) (s4:={ s2 with heap:=h₁,toks:=t }) C h.sc h.n h.calm I2 I3 f2 A5 hsz rfl rfl Dl (by simpa using o9)
 have hP:X'.prog=X.prog:=by rw [<-oP];rfl
 have hW:X'.w=X.w:=by rw [<-oP];rfl
 have hK:X'.K=X.K:=by rw [<-oP];rfl
 have hE:X'.env=compEnvC cI (gj X.env.cells cI.names []) H3.objs.size X.env:=by rw [<-oP];rfl
 have hA:X'.A=X.A:=by rw [<-oP];rfl
 have hx:X'.xe=λ_ _=>False:=by rw [<-oP];rfl
 have Hl:X'.calm=true:=by rw [<-oP];rfl
 have DA:=hb X' hP hW hK (by rw [<-oP];rfl) (by rw [<-oP];rfl) ⟨by rw [<-oP];rfl,by rw [hE];show rl cI X.env.scope=_;rw [h.sc],Hl,λz=>(nomatch z),by rw [hx];exact DP,by rw [hA];exact h.room,C.nd,λz=>(nomatch z)⟩
 obtain ⟨⟨tF,pg,kg⟩,⟨tc,pc,kc⟩,te,pe,ke⟩:=DA
 have HA:∀{H':Hp} {pl:List (Addr×Obj)},(∀b∈fp,H' b=none)->(∀p∈pl,∀b∈fp,p.1≠b)->∀b∈fp,kQ X' pl H' b:=λ{H' pl} hn eU b hb=>by
  obtain ⟨_,g1,g2,g3,g4,g5⟩:=f2 b hb
  rw [<-oP]
  refine ⟨hn b hb,dQ (nr (Au b hb) (by show s2.heap.objs.size<=H3.objs.size;rw [hsz];exact vg _)),λz=>?_,.inl (gE _ hb),λx c e=>g4 x c (vI C h.sc I2 e),λp hp=>eU p (by simpa [u9] using hp) b hb⟩
  rcases bG.mp (I2.mN b z) with z | z
  .exact g1 z
  .exact g2 z
 have R0:Rel X'.K (OO O σ env) H2 (mI nt none++dZ caps σ) H2 (mI nt Sl.no++cs):=by
  have o5:∀(i:Nat) (es:Sl),(mI nt Sl.no++cs)[i]?=some es->es.own->False:=λi es e o=>by
   rcases E8 e with z | ⟨_,z⟩
   .cases z;exact o
   .obtain ⟨d,_,_,z,_⟩:=cg _ _ z
    cases z;exact o
  have noOwn:∀p,¬mM (mI nt none++dZ caps σ) (mI nt Sl.no++cs) p:=λp ⟨i,es,e,o,_⟩=>o5 i es e o
  rw [hK]
  refine ⟨aH.refl _,R2.dm,by simp [lc,ls],λi d e=>?_,λi es e=>(o5 i _ e trivial).elim,λi es e=>(o5 i _ e trivial).elim,λi ks es e=>(o5 i _ e trivial).elim,λi j es fs p e _ _ _ o=>(o5 i es e o).elim⟩
  rcases E8 e with z | ⟨hi,z⟩
  .cases z
  .obtain ⟨d',v,i',z1,z2,z3,_⟩:=cg _ _ z
   cases z1
   refine ⟨v,?_,z3.less λp hp=>hp.elim id λz=>(noOwn p z).elim⟩
   rw [uf (by simpa using hi),D6]
   exact z2
 have loop:∀t,codeAny (model X.prog X.w) X.A (.compLoop (.ListComp elt [⟨tg,iter,ifs,0⟩] cI pos) 0 (.ref it) (.ref s2.heap.objs.size) (compEnvC cI (gj X.env.cells cI.names []) H3.objs.size X.env))
   (compPost (model X.prog X.w) X.A X.xe use QQ (.ref s2.heap.objs.size) H3.objs.size) { s2 with heap:=h₁,toks:=t }:=λt=>by
  refine Zu (N:=λ_ _=>False) (λn s'=>∃(i:Nat) (bo:L2.St) (H':Hp) (ak:En) (ys:List Value) (xs:List V) (uM Dd:List D),n=ds.length-i/\i<=ds.length/\Inv X' [] bo H' s'/\tn i s'.heap/\(∀b∈fp,H' b=none)/\H' s2.heap.objs.size=none /\
    s'.heap.PlainList s2.heap.objs.size ys.toArray/\aG xs ys/\Rel X'.K (OO O σ env) H2 bo H' ak/\Gd (mI nt none++dZ caps σ) (mI nt Sl.no++cs) H2 bo ak H' /\
    aZ X'.K (OO (OO O σ env) bo ak) H' xs uM/\oR g fc fe (ds.drop i) ak=some Dd/\uM++Dd=rs/\uM.length<=i) (λ_ _ z=>z) ?_ ds.length
   ⟨0,_,H2,_,[],[],[],rs,by simp,r8 _,I4 t,T.keep _ _ _ jM (λb _ o e=>Dl b o (AG b o e)),λb hb=>(f2 b hb).1,I2.bB.fresh (bZ _),⟨_,Dl _ _ (by rw [<-Hr];exact kG _ rfl)⟩,.nil,R0,Gd.refl (aH.refl _),.nil,by simpa using e5,rfl,bZ _⟩
  rintro n s3 ⟨i,qf,zk,pj,ys,xs,uM,Dd,rfl,hi,J3,lQ,Bf,T',L0,vx,R3,MJ,AJ,Bw,Dr,G8⟩
  have Ah:Inv X' (uk [s2.heap.objs.size] s3.heap) qf zk s3:=by
   refine J3.gU λp hp=>?_
   obtain ⟨hb,e⟩:=Kr hp
   have hb:p.1=s2.heap.objs.size:=by simpa using hb
   obtain ⟨n,en⟩:=L0
   rw [hb,en] at e
   refine ⟨by rw [hb,en];exact e,by rw [hb];exact T',?_,λz=>?_,λv z=>?_⟩
   .rw [hb,hE]
    show s2.heap.objs.size≠H3.objs.size
    rw [hsz]
    exact dQ (oQ _)
   .rw [hb,<-oP] at z
    obtain ⟨_,o,ho,_⟩:=I2.stack.mem z
    exact absurd (cL ho) (sP _)
   .rw [<-dC e] at z;cases z
  have apart:∀p∈uk [s2.heap.objs.size] s3.heap,∀b∈fp,p.1≠b:=λp hp b hb z=>by
   have e:p.1=s2.heap.objs.size:=by simpa using (Kr hp).1
   exact uQ b hb (z.symm.trans e)
  have se:∀{pl:List (Addr×Obj)} {bo:L2.St} {H':Hp} {s':Shared},Inv X' pl bo H' s'->(∀p∈uk [s2.heap.objs.size] s3.heap,p∈pl)->s'.heap.PlainList s2.heap.objs.size ys.toArray/\H' s2.heap.objs.size=none:=λ{pl bo H' s'} J qo=>by
   obtain ⟨n,en⟩:=L0
   obtain ⟨q1,q2,_⟩:=J.pin _ (qy _ (qo _ (CD (fp:=[s2.heap.objs.size]) (by simp) en)))
   exact ⟨⟨n,q1⟩,q2⟩
  have w:=wk (OO (OO O σ env) qf pj) zk (λa u ea na=>by
   obtain ⟨h1,h2⟩:=MJ a u ea λ⟨i,es,e,o,_⟩=>by
    rcases E8 e with z | ⟨_,z⟩
    .cases z;exact o
    .obtain ⟨d,_,_,z,_⟩:=cg _ _ z
     cases z;exact o
   exact ⟨h1,λz=>z.elim na h2⟩) (λa=>R3.oo) i
  by_cases cq:i<ds.length
  .obtain ⟨go,yl⟩:=w.1 ds[i] (by simp [cq])
   have pd:ds.drop i=ds[i]::ds.drop (i+1):=sR cq
   rw [pd,oR] at Bw
   obtain ⟨ju,c1,c2⟩:=bind_some Bw
   obtain ⟨b,c2,c3⟩:=bind_some c2
   have ti:=T.item X' hP hW hK Hl i _ s3 qf zk (λ_ _=>False) Ah (HA Bf apart) lQ go
   rw [hA] at ti
   refine bQ ti λr s4 ⟨u,hr,h4⟩=>?_
   subst hr
   refine bQ h4 λ_ s5 ⟨x,H5,I5,r5,y5,v8,Hz⟩=>?_
   obtain ⟨Gv,Ti⟩:=yl x H5 y5
   have LP:=I5.pinned (HA Hz apart) (T.obj _ _ v8)
   have uS:∀{bo:L2.St} {H':Hp} {s':Shared},Inv X' (uk [s2.heap.objs.size] s3.heap++uk fp s5.heap) bo H' s'->tn (i+1) s'.heap/\∀b∈fp,H' b=none:=λ{bo H' s'} J=>by
    refine ⟨T.keep _ _ _ v8 λb hb o e=>(J.pin (b,o) (qy _ (qy _ (CD hb e)))).1,λb hb=>?_⟩
    obtain ⟨o,e,_⟩:=T.obj _ _ v8 b hb
    exact (J.pin (b,o) (qy _ (qy _ (CD hb e)))).2.1
   have L1:=pg _ s5 qf H5 x u _ LP r5 (kg (OO O σ env) H2 qf H5 pj ju x ds[i] (λoO H6=>Rel X'.K (OO O σ env) H2 oO H6 ju/\Gd qf pj H5 oO ju H6) (R3.grow Gv) (hK▸Ti) c1 λoO H6 R6 g6=>⟨R6,g6⟩)
   rw [hP,hW,hA,hE,hx] at L1
   refine bQ L1 λ_ s6 ⟨oO,H6,I6,R6,g6⟩=>?_
   have L4:=pc _ s6 oO H6 (λb' H'=>b'=b/\aH H6 H') I6 (kc (OO O σ env) H2 oO H6 ju b _ R6 c2 λH' s'=>⟨rfl,s'⟩)
   rw [hP,hW,hA,hE,hx] at L4
   refine bQ L4 λok s7 ⟨H7,I7,bB,Gu⟩=>?_
   subst bB
   have R7:=R6.grow Gu
   have MI:=MJ.trans ((Gd.refl Gv).trans (g6.trans (Gd.refl Gu)))
   have Mh:aZ X'.K (OO (OO O σ env) oO ju) H7 xs uM:=((Gd.refl Gv).trans (g6.trans (Gd.refl Gu))).Dm AJ
   cases ok with
   | false =>
    rw [if_neg qU] at c3 ⊢
    obtain ⟨Ro,Ul⟩:=uS I7
    obtain ⟨RX,T9⟩:=se I7 λp hp=>yL _ hp
    exact ⟨ds.length-(i+1),by ext cq,i+1,oO,H7,ju,ys,xs,uM,Dd,rfl,cq,I7.gU (λ_ z=>nomatch z),Ro,Ul,T9,RX,vx,R7,MI,Mh,c3,Dr,by ext G8⟩
   | true =>
    rw [if_pos rfl] at c3 ⊢
    obtain ⟨r,d3,d4⟩:=bind_some c3
    obtain ⟨RH,d5,d6⟩:=bind_some d4
    clear c3 d4 Bw
    obtain rfl:=dC d6
    have L3:=pe _ s7 oO H7 (λv H'=>aH H7 H'/\Is X'.K (OO (OO O σ env) oO ju) H' v r.d) I7 (ke (OO O σ env) H2 oO H7 ju r _ R7 d3 λv H' s' rr=>⟨s',rr.is λp=>R7.oo⟩)
    rw [hP,hW,hA,hE,hx] at L3
    refine bQ L3 λy s8 ⟨v,H8,I8,ry,Gs,hv⟩=>?_
    obtain ⟨Rn,Uk⟩:=uS I8
    obtain ⟨RW,MC⟩:=se I8 λp hp=>yL _ hp
    have Tf:ys.length=uM.length:=by rw [<-XX vx,AJ.length]
    refine wpAny_list_append_plain (hsz:=by rw [dR,Tf,pZ];ext hlen G8 cq) RW λh' RV LZ=>?_
    have J8:Inv X' [] oO H8 s8:=I8.gU λ_ z=>nomatch z
    have J9:Inv X' [] oO H8 { s8 with heap:=h' }:=J8.turned (t':=s8.toks) (it:=s2.heap.objs.size) (λb o hb e=>(LZ.2 b hb).trans e) MC
     (by rw [hE];show s2.heap.objs.size≠H3.objs.size;rw [hsz];exact dQ (oQ _)) (.inl (by rw [<-oP];exact jz))
     (λx c e=>by
      rw [hE] at e
      obtain ⟨_,z⟩:=I2.cell x c (vI C h.sc I2 e)
      exact dQ z.lt) (λp hp=>by rw [<-oP] at hp;exact absurd hp (by simp [u9]))
    refine ⟨ds.length-(i+1),by ext cq,i+1,oO,H8,ju,ys++[y],xs++[v],uM++[r.d],RH,rfl,cq,J9,T.keep _ _ _ Rn λb hb o e=>(LZ.2 b (uQ b hb)).trans e,Uk,MC,by simpa using RV,vx.append (.cons ry .nil),R7.grow Gs,MI.trans (Gd.refl Gs),(Mh.grow Gs).append (.cons hv .nil),d5,by rw [<-Dr];simp,by simp;assumption⟩
  .have Hf:i=ds.length:=by ext hi cq
   have td:=T.done X' hP hW hK Hl i _ s3 qf zk (λ_ _=>False) Ah (HA Bf apart) lQ (w.2 (by ext cq))
   rw [hA] at td
   refine bQ td λr s4 ⟨hr,C6⟩=>?_
   subst hr
   obtain ⟨RY,tR⟩:=se C6 λp hp=>hp
   rw [BW (by ext cq),oR] at Bw
   obtain rfl:=dC Bw
   rw [rY] at Dr
   subst Dr
   obtain ⟨m4,Mq,_⟩:=C6.loc
   rw [hE] at Mq
   obtain ⟨n4,Ur⟩:=RY
   rw [<-oP] at C6
   have MA:H2 s2.heap.objs.size=none:=I2.bB.fresh (bZ _)
   have wQ:s2.heap.objs.size<=H3.objs.size:=by rw [hsz];exact vg _
   have Ug:zk H3.objs.size=none:=C6.free
   have cW:H3.objs.size≠s2.heap.objs.size:=by rw [hsz];exact Nat.succ_ne_self _
   refine fin H3.objs.size s2.heap.objs.size (upd zk s2.heap.objs.size (.lst xs)) s4 ⟨m4,Mq⟩ (I2.rO wQ (by rw [dM cW];exact Ug)) (λh' sb=>YJ (s3:={ s2 with heap:=H3 }) (ys:=ys) I2 rfl AG hsz f2 C6 sb tR ⟨n4,Ur⟩ vx (by rw [AJ.length,pZ];ext hlen hi G8)) ?_ ⟨_,xs,rfl,pR.free MA,nI,?_⟩
   .intro b o e
    have e2:=pR b o e
    rw [dM (q8 e2 MA)]
    exact R3.same b o e2
   .rw [hK] at AJ
    refine AJ.map (λp hp hn z=>hn (.inl (z.elim id λz=>?_))) λp u e _=>by rw [dM (q8 e tR)];exact e
    rw [z,tR] at hp
    exact (hp rfl).elim
 exact codeAny_compStart_list (loop _) (T.self _ 0 _ _ _ (T.keep _ _ _ jM (λb _ o e=>Dl b o (AG b o e))) (loop _))
theorem xM(h:Fx X N sc k full)(C:cT N sc N' caps nt cI)(hi:IV X tg iter fi)
  (hb:∀X':Cx,X'.prog=X.prog->X'.w=X.w->X'.K=X.K->X'.mg=X.mg->X'.base=X.base->Fx X' N' (rl cI sc) k false->GV X' tg g/\C5 X' ifs fc/\EV X' elt fe)
  (uX:∀x,foldedSetIterable iter X.env x=pure x:=by intro _;rfl):EV X (.ListComp elt [⟨tg,iter,ifs,0⟩] cI pos) (mL fi caps nt g fc fe):=by
 obtain ⟨wi,pi,ki⟩:=hi
 refine ⟨λσ H Q=>∃O B env r,Rel X.K O B σ H env/\mL fi caps nt g fc fe env=some r/\∀v H',aH H H'->Res X.K (OO O σ env) H H' v r->Q v H',?_,λO B σ H env r Q R e q=>⟨O,B,env,r,R,e,q⟩⟩
 rintro pins s σ H Q I ⟨O,B,env,r,R,e,q⟩
 rw [eval_ListComp]
 exact PQ h C pi ki hb uX I R e (use:=none) λC0 p H' s' ⟨m,hn⟩ _ hI sm rr=>⟨m,hn,λh' sb=>⟨.ref p,H',hI h' sb,rfl,q _ H' sm rr⟩⟩
theorem W8{i:Nat}{x:Str}{pos' zM:Pos}(b:Bool)(h:Fx X N sc k full)(C:cT N sc N' caps nt cI)(hi:IV X tg iter fi)
  (hb:∀X':Cx,X'.prog=X.prog->X'.w=X.w->X'.K=X.K->X'.mg=X.mg->X'.base=X.base->Fx X' N' (rl cI sc) k false->GV X' tg g/\C5 X' ifs fc/\EV X' elt fe)
  (hN:N[i]?=some x:=by rfl)(hv:Loc sc x:=by first | exact cC rfl | exact bM rfl)(hf:full=true\/sc.names.lookup x=some .local:=by first | exact cC rfl | exact bM rfl)(h1:(sc.names.lookup x==some .local)=true:=by rfl)(h2:(pos'.line==pos.line)=true:=by rfl)(h3:(cI.names.any λ(n,k)=>n==x&&(k==.local||k==.cell))=false:=by rfl)
  (uX:∀x,foldedSetIterable iter X.env x=pure x:=by intro _;rfl):SV X (.Assign [.Name x pos'] (.ListComp elt [⟨tg,iter,ifs,0⟩] cI pos) zM) (bif b then ei i (mL fi caps nt g fc fe) else de i (mL fi caps nt g fc fe)):=by
 obtain ⟨wi,pi,ki⟩:=hi
 refine ⟨λD σ H=>∃O B env fl ak,Rel X.K O B σ H env/\(bif b then ei i (mL fi caps nt g fc fe) else de i (mL fi caps nt g fc fe)) env=some (fl,ak)/\dE X.K O B σ H env D fl ak,?_,λO B σ H env fl ak D R e q=>⟨O,B,env,fl,ak,R,e,q⟩⟩
 rintro pins s σ H D I ⟨O,B,env,fl,ak,R,e,q⟩
 obtain ⟨r,e1,hl,yj,t,rfl,ht⟩:∃r,mL fi caps nt g fc fe env=some r/\i<env.length/\fl=.nx/\∃t,ak=env.set i t/\(t=r\/t=.sh r.d):=by
  cases b with
  | true =>
   dsimp only [cond] at e
   obtain ⟨r,e1,e2⟩:=bind_some e
   obtain ⟨hl,e3⟩:=lI e2
   cases e3
   exact ⟨r,e1,hl,rfl,_,rfl,.inl rfl⟩
  | false =>
   dsimp only [cond] at e
   obtain ⟨r,e1,e2⟩:=bind_some e
   obtain ⟨hl,e3⟩:=lI e2
   cases e3
   exact ⟨r,e1,hl,rfl,_,rfl,.inr rfl⟩
 subst yj
 have hs:swapsWith (.ListComp elt [⟨tg,iter,ifs,0⟩] cI pos) (some (.Name x pos')) zM.line X.env=pure true:=by
  have hk:X.env.blockKind=.function:=by unfold Env.blockKind;rw [I.ok.kind];rfl
  have Dw:X.env.kindOf x=sc.names.lookup x:=by unfold Env.kindOf;rw [h.sc]
  unfold swapsWith
  dsimp only
  rw [hk,Dw,h1,show (pos'.line==(Expr.ListComp elt [⟨tg,iter,ifs,0⟩] cI pos).pos.line)=true from h2,h3]
  rfl
 rw [exec_Assign_Name_used _ _ _ _ hs]
 refine aN (Iv (aN ?_))
 show wpAny _ _ (comprehension _ cI X.env _ (newList []) _ _ (some (assign (.Name x pos') X.env)) >>= λ_=>pure ()) _ _ _
 refine aN (PQ h C pi ki hb uX I R e1 (use:=some (assign (.Name x pos') X.env)) λC0 p H' s' ⟨m,hn⟩ qt hI sm rr=>?_)
 have I':Inv X pins σ H' s':=hI s'.heap (Nq _ _)
 refine wpAny_assign_Name (P7 (v:=.ref p) I' h.yb (h.ix hN) (h.loc hv) rfl (λs2 I2 ⟨a,sb,ha⟩=>?_) (h.xX hf))
 have T8:C0≠a:=λz=>by
  rcases ha with ha | ha
  .exact qt.2.1 (z.trans ha)
  .exact qt.2.2.2.2.1 x a ha z.symm
 obtain ⟨o,es,ep,ho,rest⟩:=hn
 refine ⟨m,⟨o,es,ep,(sb.2 C0 T8).trans ho,rest⟩,λh' RC=>?_⟩
 refine bJ (bJ ?_)
 have I3:Inv X pins (σ.set i (some (.ref p))) H' { s2 with heap:=h' }:=I2.turned (t':=s2.toks) (it:=C0) (λb o hb e=>(RC.2 b hb).trans e) qt.1 qt.2.1 qt.2.2.2.1 qt.2.2.2.2.1 qt.2.2.2.2.2
 have hr:Res X.K (OO O σ env) H H' (.ref p) t:=by
  rcases ht with rfl | rfl
  .exact rr
  .exact rr.is λq=>R.oo
 obtain ⟨R',g'⟩:=R.set sm hr hl
 exact ⟨_,H',I3,q _ H' R' g'⟩
end
end DL
namespace DL
open PySem PySem.Spec PyProof.Rows L2
section
variable {X:Cx}{pins:List (Addr×Obj)}{σ:L2.St}{H:Hp}{s:Shared}
theorem Ky(I:Inv X pins σ H s)(hA:A'.handled=none)(hq:Sq X.K H k p xs)
  (h:∀(aA:List Value) (h2:Heap) (St:Nat->Heap->Prop),aG xs aA->Walks X.prog X.w A' s.heap.objs.size [s.heap.objs.size,p] [s.heap.objs.size] aA.length (λi v=>aA[i]?=some v) St->St 0 h2 ->
   (∀b o,s.heap.get? b=some o->h2.get? b=some o)->(∀b∈[s.heap.objs.size,p],b<h2.objs.size)->Q (.ref s.heap.objs.size) { s with heap:=h2 }):wpAny (model X.prog X.w) A' (pyIter (.ref p)) Q E s:=by
 cases k with
 | true =>
  obtain ⟨aA,rv,pl,hz⟩:=I.list (show eG X.K H p xs from hq)
  have cq:p<s.heap.objs.size:=by obtain ⟨o,n,e,_⟩:=pl;exact cL e
  refine IQ pl.isList ?_
  have W:=Walks.list (prog:=X.prog) (w:=X.w) hA s.heap.objs.size p (dQ cq) aA.toArray
  refine h aA _ (λi h=>h.IsListIter s.heap.objs.size p i/\h.IsList p aA.toArray) rv (by simpa using W) ⟨⟨_,kG _ rfl,rfl,rfl⟩,pl.isList.push _⟩ (λb o e=>dh _ e) λb hb=>?_
  rw [nG]
  rcases bG.mp hb with rfl | hb
  .exact oQ _
  .rw [lE.mp hb];exact qQ cq
 | false =>
  obtain ⟨aA,rv,pl,hz⟩:=I.tuple (show gC X.K H p xs from hq)
  have bX:s.heap.IsTuple p aA.toArray:=pl
  have cq:p<s.heap.objs.size:=by obtain ⟨o,e,_⟩:=pl;exact cL e
  refine wpAny_pyIter_tuple bX ?_
  have W:=Walks.tuple (prog:=X.prog) (w:=X.w) hA s.heap.objs.size p (dQ cq) aA.toArray
  refine h aA _ (λi h=>h.IsTupleIter s.heap.objs.size p i/\h.IsTuple p aA.toArray) rv (by simpa using W) ⟨⟨_,kG _ rfl,rfl,rfl⟩,?_⟩ (λb o e=>dh _ e) λb hb=>?_
  .obtain ⟨o,e,r⟩:=bX
   exact ⟨o,dh _ e,r⟩
  .rw [nG]
   rcases bG.mp hb with rfl | hb
   .exact oQ _
   .rw [lE.mp hb];exact qQ cq
theorem KH(I:Inv X pins σ H s){h2 h':Heap}{tk:Nat}(k1:∀b o,s.heap.get? b=some o->h2.get? b=some o)(k2:∀b o,b∉[s.heap.objs.size]->h2.get? b=some o->h'.get? b=some o):Inv X pins σ H { s with heap:=h',toks:=tk }:=
 I.kept λb o e=>k2 b o (λz=>absurd (cL e) (by rw [lE.mp z];exact sP _)) (k1 b o e)
end
noncomputable def ou:List D->Option (List Int)
 | []=>some []
 | .int i::ds=>(ou ds).map (i::·)
 | _::_=>none
noncomputable def kF:List D->Option (List Bool)
 | []=>some []
 | .bl i::ds=>(kF ds).map (i::·)
 | _::_=>none
theorem Ko:∀(ns:List Int),ou (ns.map D.int)=some ns
 | []=>rfl
 | n::r=>by rw [e9,ou,Ko r];rfl
theorem Pt:∀(ns:List Bool),kF (ns.map D.bl)=some ns
 | []=>rfl
 | n::r=>by rw [e9,kF,Pt r];rfl
theorem CC:∀{ds:List D} {ns:List Int},ou ds=some ns->ds=ns.map D.int
 | [],ns,e=>by cases e;rfl
 | .int i::ds,ns,e=>by
  obtain ⟨r,e1,rfl⟩:=map_some (show (ou ds).map (i::·)=some ns from e)
  rw [CC e1];rfl
 | .bz::_,_,e=>by cases e
 | .bl _::_,_,e=>by cases e
 | .str _::_,_,e=>by cases e
 | .tup _::_,_,e=>by cases e
 | .lst _ _::_,_,e=>by cases e
theorem Cm{K:aK}{O:Addr->Prop}{H:Hp}:∀{xs:List V} {ns:List Int},aZ K O H xs (ns.map D.int)->xs=ns.map V.int
 | _,[],.nil=>rfl
 | _,n::r,.cons h t=>by rw [oA h,Cm t];rfl
theorem Cv{ns:List Int}(r:aG (ns.map V.int) aA){i:Nat}(h:aA[i]?=some v):∃t,v=.int (ns.getD i 0) t:=by
 have hl:=r.length
 have hi:=(qP.mp h).1
 have sA:i<ns.length:=by rw [dF] at hl;ext hl hi
 obtain ⟨u,hu,ru⟩:=r.get (show (ns.map V.int)[i]?=some (.int ns[i]) by simp [sA])
 rw [h] at hu
 cases hu
 obtain ⟨t,e⟩:=ru
 exact ⟨t,by rw [e];simp [sA]⟩
section
variable {X:Cx}{a:Expr}{p pos:Pos}{ba:En->Option (Bool×List D)}
theorem preSum_eq(ns:List Int):∀j,j<=ns.length->preSum (λi=>ns.getD i 0) j=(ns.take j).sum
 | 0,_=>rfl
 | j+1,h=>by
  have hj:j<ns.length:=h
  rw [preSum,preSum_eq ns j (ve hj),<-List.take_append_getElem hj,List.sum_append]
  simp [hj]
theorem Zs(ns:List Bool):(pD ns.length).all (λi=>ns.getD i false)=ns.all id:=by
 rw [Bool.eq_iff_iff,Io,Io]
 constructor
 .intro h x hx
  obtain ⟨i,hi,rfl⟩:=qV.mp hx
  have:=h i (DZ.mpr hi)
  simpa [hi] using this
 .intro h i hi
  have hi:=DZ.mp hi
  have:=h ns[i] (ua hi)
  simpa [hi] using this
theorem YQ(hc:X.calm=true):cA X (.builtin "sum") (λxs H Q=>∃p k ns,xs=[.ref p]/\Sq X.K H k p (yt V.int ns)/\Q (.int ns.sum) H):=by
 intro pins s σ H xs us Q I r h
 obtain ⟨p,k,ns,rfl,hq,q⟩:=h
 obtain ⟨u,rfl,ru⟩:=r.one
 cases ru
 refine call_sum_walkAnyS (Ky (A':=X.A.in1) I (I.ok.hd hc) hq λaA h2 St rv W v9 k1 qt=>?_)
 refine ⟨_,_,_,_,_,_,_,λi=>ns.getD i 0,rfl,W.toS,v9,qt,λi v hv=>Cv rv hv,λs' t' M=>?_⟩
 have hl:aA.length=ns.length:=by rw [<-rv.length];simp
 have e:preSum (λi=>ns.getD i 0) aA.length=ns.sum:=by rw [hl,preSum_eq ns _ (bZ _)];simp
 rw [e]
 obtain ⟨h',g',d',t2,o'⟩:=s'
 obtain ⟨m1,m2,m3,m4,m5⟩:=M
 have m2:g'=s.gens:=m2
 have m3:d'=s.drawn:=m3
 have m4:o'=s.os:=m4
 subst m2 m3 m4
 exact ⟨.int ns.sum,H,KH I k1 m1,⟨t',rfl⟩,q⟩
noncomputable def hV:List Int->Int
 | []=>0
 | n::r=>r.foldl (λa b=>if b<a then b else a) n
noncomputable def h7:List Int->Int
 | []=>0
 | n::r=>r.foldl (λa b=>if b>a then b else a) n
theorem Pq(ns:List Int):∀j,j<ns.length->argBest (λi j=>decide (ns.getD i 0<ns.getD j 0)) j<ns.length/\ns.getD (argBest (λi j=>decide (ns.getD i 0<ns.getD j 0)) j) 0=hV (ns.take (j+1))
 | 0,h=>by
  refine ⟨h,?_⟩
  cases ns with
  | nil=>cases h
  | cons n r=>rfl
 | j+1,h=>by
  obtain ⟨h1,h2⟩:=Pq ns j (by ext h)
  have e:ns.take (j+1+1)=ns.take (j+1)++[ns.getD (j+1) 0]:=by rw [List.take_add_one];simp [h]
  have e2:hV (ns.take (j+1+1))=if ns.getD (j+1) 0<hV (ns.take (j+1)) then ns.getD (j+1) 0 else hV (ns.take (j+1)):=by
   rw [e]
   cases ns with
   | nil=>cases h
   | cons n r=>simp only [Nj,xy,hV,List.foldl_append,yy,Iz];rfl
  rw [e2,<-h2]
  simp only [argBest,decide_eq_true_eq]
  split
  .exact ⟨h,rfl⟩
  .exact ⟨h1,rfl⟩
theorem Pp(ns:List Int):∀j,j<ns.length->argBest (λi j=>decide (ns.getD i 0>ns.getD j 0)) j<ns.length/\ns.getD (argBest (λi j=>decide (ns.getD i 0>ns.getD j 0)) j) 0=h7 (ns.take (j+1))
 | 0,h=>by
  refine ⟨h,?_⟩
  cases ns with
  | nil=>cases h
  | cons n r=>rfl
 | j+1,h=>by
  obtain ⟨h1,h2⟩:=Pp ns j (by ext h)
  have e:ns.take (j+1+1)=ns.take (j+1)++[ns.getD (j+1) 0]:=by rw [List.take_add_one];simp [h]
  have e2:h7 (ns.take (j+1+1))=if ns.getD (j+1) 0>h7 (ns.take (j+1)) then ns.getD (j+1) 0 else h7 (ns.take (j+1)):=by
   rw [e]
   cases ns with
   | nil=>cases h
   | cons n r=>simp only [Nj,xy,h7,List.foldl_append,yy,Iz];rfl
  rw [e2,<-h2]
  simp only [argBest,decide_eq_true_eq]
  split
  .exact ⟨h,rfl⟩
  .exact ⟨h1,rfl⟩
theorem YN(hc:X.calm=true):cA X (.builtin "min") (λxs H Q=>∃p k ns,xs=[.ref p]/\Sq X.K H k p (yt V.int ns)/\ns≠[]/\Q (.int (hV ns)) H):=by
 intro pins s σ H xs us Q I r h
 obtain ⟨p,k,ns,rfl,hq,cW,q⟩:=h
 obtain ⟨u,rfl,ru⟩:=r.one
 cases ru
 refine call_min_walk (Ky (A':=X.A.in1) I (I.ok.hd hc) hq λaA h2 St rv W v9 k1 qt=>?_)
 have hl:aA.length=ns.length:=by rw [<-rv.length];simp
 have hp:0<ns.length:=yI.mpr cW
 refine ⟨_,_,_,_,_,_,_,rfl,W,v9,qt,by ext hl hp,CmpOf.ints_lt (λi=>ns.getD i 0) (λi v hv=>Cv rv hv),λv h' tk hv hk=>?_⟩
 obtain ⟨t,e⟩:=Cv rv hv
 obtain ⟨b1,b2⟩:=Pq ns (aA.length-1) (by ext hl hp)
 have e2:ns.take (aA.length-1+1)=ns:=by rw [xF];ext hl
 rw [e2] at b2
 refine ⟨.int (hV ns),H,KH I k1 hk,⟨t,?_⟩,q⟩
 rw [e,<-b2]
theorem YL(hc:X.calm=true):cA X (.builtin "max") (λxs H Q=>∃p k ns,xs=[.ref p]/\Sq X.K H k p (yt V.int ns)/\ns≠[]/\Q (.int (h7 ns)) H):=by
 intro pins s σ H xs us Q I r h
 obtain ⟨p,k,ns,rfl,hq,cW,q⟩:=h
 obtain ⟨u,rfl,ru⟩:=r.one
 cases ru
 refine call_max_walk (Ky (A':=X.A.in1) I (I.ok.hd hc) hq λaA h2 St rv W v9 k1 qt=>?_)
 have hl:aA.length=ns.length:=by rw [<-rv.length];simp
 have hp:0<ns.length:=yI.mpr cW
 refine ⟨_,_,_,_,_,_,_,rfl,W,v9,qt,by ext hl hp,CmpOf.ints_gt (λi=>ns.getD i 0) (λi v hv=>Cv rv hv),λv h' tk hv hk=>?_⟩
 obtain ⟨t,e⟩:=Cv rv hv
 obtain ⟨b1,b2⟩:=Pp ns (aA.length-1) (by ext hl hp)
 have e2:ns.take (aA.length-1+1)=ns:=by rw [xF];ext hl
 rw [e2] at b2
 refine ⟨.int (h7 ns),H,KH I k1 hk,⟨t,?_⟩,q⟩
 rw [e,<-b2]
noncomputable def t4(f:En->Option (Bool×List D)):En->Option Sl:=λenv=>(f env).bind λx=>(ou x.2).map λns=>.sh (.int ns.sum)
noncomputable def Bt(f:En->Option (Bool×List D)):En->Option Sl:=λenv=>(f env).bind λx=>(kF x.2).map λns=>.sh (.bl (ns.all id))
noncomputable def Br(f:En->Option (Bool×List D)):En->Option Sl:=λenv=>(f env).bind λx=>(kF x.2).map λns=>.sh (.bl (ns.any id))
noncomputable def t5(f:En->Option (Bool×List D)):En->Option Sl:=λenv=>(f env).bind λx=>(ou x.2).bind λns=>if ns≠[] then some (.sh (.int (hV ns))) else none
noncomputable def t6(f:En->Option (Bool×List D)):En->Option Sl:=λenv=>(f env).bind λx=>(ou x.2).bind λns=>if ns≠[] then some (.sh (.int (h7 ns))) else none
theorem V2(hg:Gl X "sum")(hm:X.mg "sum" = none)(hc:X.calm=true)(ha:BV X a ba)(hs:starEach [a] X.env=[(false,eval a X.env)]:=by rfl):EV X (.Call (.Name "sum" p) [a] [] pos) (t4 ba):=by
 obtain ⟨t,pt,k⟩:=ha
 refine ⟨_,uq (YQ hc) hg hm (by decide +kernel) (nH pt oX hs) (by decide) (by decide) hs rfl,λO B σ H env s Q R e q=>?_⟩
 obtain ⟨⟨kk,ds⟩,e1,e2⟩:=bind_some e
 obtain ⟨ns,e3,rfl⟩:=map_some e2
 have u7:=CC e3
 dsimp only at u7
 subst u7
 refine k O B σ H env kk _ _ R e1 λl xs H1 s1 hq hx=>⟨l,kk,ns,rfl,?_,q _ H1 s1 (Is.int _)⟩
 rw [<-Cm hx];exact hq
theorem V0(hg:Gl X "min")(hm:X.mg "min" = none)(hc:X.calm=true)(ha:BV X a ba)(hs:starEach [a] X.env=[(false,eval a X.env)]:=by rfl):EV X (.Call (.Name "min" p) [a] [] pos) (t5 ba):=by
 obtain ⟨t,pt,k⟩:=ha
 refine ⟨_,uq (YN hc) hg hm (by decide +kernel) (nH pt oX hs) (by decide) (by decide) hs rfl,λO B σ H env s Q R e q=>?_⟩
 obtain ⟨⟨kk,ds⟩,e1,e2⟩:=bind_some e
 obtain ⟨ns,e3,e4⟩:=bind_some e2
 obtain ⟨cW,rfl⟩:=lI e4
 have u7:=CC e3
 dsimp only at u7
 subst u7
 refine k O B σ H env kk _ _ R e1 λl xs H1 s1 hq hx=>⟨l,kk,ns,rfl,?_,cW,q _ H1 s1 (Is.int _)⟩
 rw [<-Cm hx];exact hq
theorem VZ(hg:Gl X "max")(hm:X.mg "max" = none)(hc:X.calm=true)(ha:BV X a ba)(hs:starEach [a] X.env=[(false,eval a X.env)]:=by rfl):EV X (.Call (.Name "max" p) [a] [] pos) (t6 ba):=by
 obtain ⟨t,pt,k⟩:=ha
 refine ⟨_,uq (YL hc) hg hm (by decide +kernel) (nH pt oX hs) (by decide) (by decide) hs rfl,λO B σ H env s Q R e q=>?_⟩
 obtain ⟨⟨kk,ds⟩,e1,e2⟩:=bind_some e
 obtain ⟨ns,e3,e4⟩:=bind_some e2
 obtain ⟨cW,rfl⟩:=lI e4
 have u7:=CC e3
 dsimp only at u7
 subst u7
 refine k O B σ H env kk _ _ R e1 λl xs H1 s1 hq hx=>⟨l,kk,ns,rfl,?_,cW,q _ H1 s1 (Is.int _)⟩
 rw [<-Cm hx];exact hq
end
end DL
namespace DL
open PySem PySem.Spec PyProof.Rows L2
noncomputable def ny:List (Option Bool)->Option (List Bool)
 | []=>some []
 | some b::r=>(ny r).map (b::·)
 | none::_=>none
noncomputable def bC:Nat->D->D->Option Bool
 | _,.int i,.int j=>some (decide (i=j))
 | _,.bl i,.bl j=>some (decide (i=j))
 | _,.str i,.str j=>some (decide (i=j))
 | _,.bz,.bz=>some true
 | _,.bl i,.int j=>some (decide ((if i then 1 else 0)=j))
 | _,.int i,.bl j=>some (decide (i=(if j then 1 else 0)))
 | n+1,.tup a,.tup b=>(ny (xn (bC n) a b)).map λbs=>bs.all id&&decide (a.length=b.length)
 | n+1,.lst _ a,.lst _ b=>if a.length=b.length then (ny (xn (bC n) a b)).map λbs=>bs.all id else some false
 | 0,.tup _,.tup _=>none
 | 0,.lst _ _,.lst _ _=>none
 | _,.exc _,_=>none
 | _,_,.exc _=>none
 | _,.jv _ _,_=>none
 | _,.obj _ _ _,_=>none
 | _,.dq _ _,_=>none
 | _,_,.jv _ _=>none
 | _,_,.obj _ _ _=>none
 | _,_,.dq _ _=>none
 | _,_,_=>some false
theorem Ck:∀{os:List (Option Bool)} {bs:List Bool},ny os=some bs->os.length=bs.length/\∀(i:Nat) (b:Bool),bs[i]?=some b->os[i]?=some (some b)
 | [],bs,e=>by cases e;exact ⟨rfl,λi b h=>by simp at h⟩
 | some b::r,bs,e=>by
  obtain ⟨bs',e1,rfl⟩:=map_some (show (ny r).map (b::·)=some bs from e)
  obtain ⟨l,ih⟩:=Ck e1
  refine ⟨by simp [l],λi c h=>?_⟩
  cases i with
  | zero=>simpa using h
  | succ i=>simpa using ih i c (by simpa using h)
 | none::_,bs,e=>by cases e
theorem all_range{bs:List Bool}{n:Nat}(h:bs.length=n):(pD n).all (λi=>bs.getD i false)=bs.all id:=by rw [<-h];exact Zs bs
section
variable {X:Cx}{pins:List (Addr×Obj)}{σ:L2.St}{H:Hp}{s:Shared}{O O':Addr->Prop}
noncomputable def C4(K:aK)(O:Addr->Prop)(H:Hp)(v:V):D->Prop
 | .bz=>v=.bz
 | .bl b=>v=.bl b
 | .int i=>v=.int i
 | .str x=>v=.str x
 | .tup ds=>∃p xs,v=.ref p/\gC K H p xs/\aZ K O H xs ds
 | .lst _ ds=>∃p xs,v=.ref p/\eG K H p xs/\aZ K O H xs ds
 | .exc _=>True
 | .jv _ _=>True
 | .obj _ _ _=>True
 | .dq _ _=>True
theorem Is.qI{K:aK}{v:V}{d:D}(h:Is K O H v d):C4 K O H v d:=by
 cases d with
 | bz=>exact N8 h
 | bl b=>exact B1 h
 | int i=>exact oA h
 | str x=>exact yX h
 | tup ds=>exact ET h
 | lst r ds =>
  obtain ⟨p,xs,e,h1,h2⟩:=h.seq (k:=true) (ds:=ds) rfl
  exact ⟨p,xs,e,h1,h2⟩
 | exc n=>trivial
 | jv n m=>trivial
 | obj n1 m1 o1=>trivial
 | dq n1 m1=>trivial
theorem Fj(I:Inv X pins σ H s)(h:gC X.K H p xs)(h':eG X.K H p ys):False:=by
 obtain ⟨_,_,⟨o,e1,c1,_⟩,_⟩:=I.tuple h
 obtain ⟨_,_,⟨o',_,e2,c2,_⟩,_⟩:=I.list h'
 rw [e1] at e2
 cases e2
 rw [c1] at c2
 injection c2 with c3
 exact absurd c3 (by decide)
theorem zip_get{n:Nat}{i:Nat}{o:Option Bool}(h:(xn (bC n) a b)[i]?=some o):∃x y,a[i]?=some x/\b[i]?=some y/\bC n x y=o:=by
 rw [M3] at h
 cases ha:a[i]? with
 | none=>rw [ha] at h;simp at h
 | some x =>
  cases hb:b[i]? with
  | none=>rw [ha,hb] at h;simp at h
  | some y=>rw [ha,hb] at h;exact ⟨x,y,rfl,rfl,by simpa using h⟩
theorem Px(I:Inv X pins σ H s):∀(n:Nat) {v:V} {d d':D} {b:Bool},Is X.K O H v d->Is X.K O' H v d'->bC n d d'=some b->b=true:=by
 intro n
 induction n with
 | zero =>
  intro v d d' b h h' e
  have h:=h.qI
  have h':=h'.qI
  cases d<;>cases d'<;>simp only [C4] at h h'<;>simp only [bC,dJ,reduceCtorEq] at e<;>first
   | (subst h;cases h';exact e.symm)
   | (subst h;cases h';rw [<-e];simp;done)
   | (subst h;cases h';done)
   | (subst h;obtain ⟨_,_,h',_⟩:=h';cases h';done)
   | (subst h';obtain ⟨_,_,h,_⟩:=h;cases h;done)
   | (obtain ⟨_,_,rfl,h,_⟩:=h;obtain ⟨_,_,hr,h',_⟩:=h';cases hr;first | exact (Fj I h h').elim | exact (Fj I h' h).elim)
 | succ n ih =>
  intro v d d' b h h' e
  have key:∀{xs:List V} {ds ds':List D} {bs:List Bool},aZ X.K O H xs ds->aZ X.K O' H xs ds'->ny (xn (bC n) ds ds')=some bs->bs.all id=true:=λ{xs ds ds' bs} a1 a2 ea=>by
   obtain ⟨_,g⟩:=Ck ea
   rw [Io]
   intro c hc
   obtain ⟨i,hi,rfl⟩:=qV.mp hc
   obtain ⟨x,y,ex,ey,Uo⟩:=zip_get (g i _ (mG hi))
   obtain ⟨z,ez,iz⟩:=a1.get ex
   obtain ⟨z',MK,Ta⟩:=a2.get ey
   rw [ez] at MK
   cases MK
   exact ih iz Ta Uo
  have h:=h.qI
  have h':=h'.qI
  cases d<;>cases d'<;>simp only [C4] at h h'<;>simp only [bC,dJ,reduceCtorEq] at e<;>first
   | (subst h;cases h';exact e.symm)
   | (subst h;cases h';rw [<-e];simp;done)
   | (subst h;cases h';done)
   | (subst h;obtain ⟨_,_,h',_⟩:=h';cases h';done)
   | (subst h';obtain ⟨_,_,h,_⟩:=h;cases h;done)
   | (obtain ⟨_,_,rfl,h,_⟩:=h;obtain ⟨_,_,hr,h',_⟩:=h';cases hr;first | exact (Fj I h h').elim | exact (Fj I h' h).elim)
   | skip
  .obtain ⟨_,xs,rfl,h,a1⟩:=h
   obtain ⟨_,ys,hr,h',a2⟩:=h'
   cases hr
   cases I.mD h h'
   obtain ⟨bs,e1,rfl⟩:=map_some e
   rw [key a1 a2 e1,<-a1.length,<-a2.length]
   simp
  .obtain ⟨_,xs,rfl,h,a1⟩:=h
   obtain ⟨_,ys,hr,h',a2⟩:=h'
   cases hr
   cases I.nN h h'
   rw [if_pos (by rw [<-a1.length,<-a2.length])] at e
   obtain ⟨bs,e1,rfl⟩:=map_some e
   exact key a1 a2 e1
theorem O3{xs:List V}{aA:List Value}{O:Addr->Prop}{K:aK}{ds:List D}(r:aG xs aA)(a:aZ K O H xs ds){j:Nat}(h:j<aA.toArray.size):∃d v,ds[j]?=some d/\Is K O H v d/\RelV v aA.toArray[j]:=by
 have hj:j<aA.length:=by simpa using h
 have hl:=r.length
 obtain ⟨d,hd,hv⟩:=a.wW (i:=j) (x:=xs[j]'(by ext hj hl)) (mG (by ext hj hl))
 obtain ⟨u,hu,ru⟩:=r.get (i:=j) (x:=xs[j]'(by ext hj hl)) (mG (by ext hj hl))
 rw [mG hj] at hu
 refine ⟨d,_,hd,hv,?_⟩
 rw [List.getElem_toArray,dC hu]
 exact ru
open PySem.SeqAt in
theorem N5(I:Inv X pins σ H s)(hu:A.units<cLine)(h:C4 X.K O H v d)(h':C4 X.K O' H v' d')(r:RelV v u)(r':RelV v' u')(e:bC n d d'=some b)
  (hn:(∀a c,d=.tup a->d'=.tup c->False)/\∀a c r r',d=.lst r a->d'=.lst r' c->False):EqAt A s u u' b/\RcAt A s u u' b/\RcNeAt A s u u' (!b):=by
 cases d with
 | bz =>
  cases d' with
  | bz =>
   subst h;obtain rfl:u=mi:=r
   subst h';obtain rfl:u'=mi:=r'
   simp only [bC,dJ] at e
   subst e
   exact ⟨EqAt.same _,RcAt.none_none,RcNeAt.none_none⟩
  | bl k' =>
   subst h;obtain rfl:u=mi:=r
   subst h';obtain rfl:u'=n9 k':=r'
   simp only [bC,dJ] at e
   subst e
   exact ⟨EqAt.none_bool k',RcAt.none_bool k',RcNeAt.none_bool k'⟩
  | int k' =>
   subst h;obtain rfl:u=mi:=r
   subst h';obtain ⟨t',rfl⟩:=r'
   simp only [bC,dJ] at e
   subst e
   exact ⟨EqAt.none_int k' t',RcAt.none_int k' t',RcNeAt.none_int k' t'⟩
  | str k' =>
   subst h;obtain rfl:u=mi:=r
   subst h';obtain ⟨t',rfl⟩:=r'
   simp only [bC,dJ] at e
   subst e
   exact ⟨EqAt.none_str k' t',RcAt.none_str k' t',RcNeAt.none_str k' t'⟩
  | tup ds' =>
   subst h;obtain rfl:u=mi:=r
   obtain ⟨p',nD,rfl,c8,_⟩:=h';obtain ⟨its',_,bX,_⟩:=I.tuple c8;obtain rfl:u'=cK p':=r';replace bX:s.heap.IsTuple p' its'.toArray:=bX
   simp only [bC,dJ] at e
   subst e
   exact ⟨EqAt.none_tuple bX hu,RcAt.none_tuple bX hu,RcNeAt.none_tuple bX hu⟩
  | lst rA ds' =>
   subst h;obtain rfl:u=mi:=r
   obtain ⟨p',nD,rfl,c8,_⟩:=h';obtain ⟨its',_,bX,_⟩:=I.list c8;obtain rfl:u'=cK p':=r';replace bX:=bX.isList
   simp only [bC,dJ] at e
   subst e
   exact ⟨EqAt.none_list bX hu,RcAt.none_list bX hu,RcNeAt.none_list bX hu⟩
  | exc n'=>simp [bC] at e
  | jv n' m'=>simp [bC] at e
  | obj n1 m1 o1=>simp [bC] at e
  | dq n1 m1=>simp [bC] at e
 | bl k =>
  cases d' with
  | bz =>
   subst h;obtain rfl:u=n9 k:=r
   subst h';obtain rfl:u'=mi:=r'
   simp only [bC,dJ] at e
   subst e
   exact ⟨EqAt.bool_none k,RcAt.bool_none k,RcNeAt.bool_none k⟩
  | bl k' =>
   subst h;obtain rfl:u=n9 k:=r
   subst h';obtain rfl:u'=n9 k':=r'
   simp only [bC,dJ] at e
   subst e
   exact ⟨EqAt.bool_bool k k',RcAt.bool_bool k k',RcNeAt.bool_bool k k'⟩
  | int k' =>
   subst h;obtain rfl:u=n9 k:=r
   subst h';obtain ⟨t',rfl⟩:=r'
   simp only [bC,dJ] at e
   subst e
   exact ⟨EqAt.bool_int k k' t',RcAt.bool_int k k' t',RcNeAt.bool_int k k' t'⟩
  | str k' =>
   subst h;obtain rfl:u=n9 k:=r
   subst h';obtain ⟨t',rfl⟩:=r'
   simp only [bC,dJ] at e
   subst e
   exact ⟨EqAt.bool_str k k' t',RcAt.bool_str k k' t',RcNeAt.bool_str k k' t'⟩
  | tup ds' =>
   subst h;obtain rfl:u=n9 k:=r
   obtain ⟨p',nD,rfl,c8,_⟩:=h';obtain ⟨its',_,bX,_⟩:=I.tuple c8;obtain rfl:u'=cK p':=r';replace bX:s.heap.IsTuple p' its'.toArray:=bX
   simp only [bC,dJ] at e
   subst e
   exact ⟨EqAt.bool_tuple k bX hu,RcAt.bool_tuple k bX hu,RcNeAt.bool_tuple k bX hu⟩
  | lst rA ds' =>
   subst h;obtain rfl:u=n9 k:=r
   obtain ⟨p',nD,rfl,c8,_⟩:=h';obtain ⟨its',_,bX,_⟩:=I.list c8;obtain rfl:u'=cK p':=r';replace bX:=bX.isList
   simp only [bC,dJ] at e
   subst e
   exact ⟨EqAt.bool_list k bX hu,RcAt.bool_list k bX hu,RcNeAt.bool_list k bX hu⟩
  | exc n'=>simp [bC] at e
  | jv n' m'=>simp [bC] at e
  | obj n1 m1 o1=>simp [bC] at e
  | dq n1 m1=>simp [bC] at e
 | int k =>
  cases d' with
  | bz =>
   subst h;obtain ⟨t,rfl⟩:=r
   subst h';obtain rfl:u'=mi:=r'
   simp only [bC,dJ] at e
   subst e
   exact ⟨EqAt.int_none k t,RcAt.int_none k t,RcNeAt.int_none k t⟩
  | bl k' =>
   subst h;obtain ⟨t,rfl⟩:=r
   subst h';obtain rfl:u'=n9 k':=r'
   simp only [bC,dJ] at e
   subst e
   exact ⟨EqAt.int_bool k t k',RcAt.int_bool k t k',RcNeAt.int_bool k t k'⟩
  | int k' =>
   subst h;obtain ⟨t,rfl⟩:=r
   subst h';obtain ⟨t',rfl⟩:=r'
   simp only [bC,dJ] at e
   subst e
   exact ⟨EqAt.int_int k t k' t',RcAt.int_int k t k' t',RcNeAt.int_int k t k' t'⟩
  | str k' =>
   subst h;obtain ⟨t,rfl⟩:=r
   subst h';obtain ⟨t',rfl⟩:=r'
   simp only [bC,dJ] at e
   subst e
   exact ⟨EqAt.int_str k t k' t',RcAt.int_str k t k' t',RcNeAt.int_str k t k' t'⟩
  | tup ds' =>
   subst h;obtain ⟨t,rfl⟩:=r
   obtain ⟨p',nD,rfl,c8,_⟩:=h';obtain ⟨its',_,bX,_⟩:=I.tuple c8;obtain rfl:u'=cK p':=r';replace bX:s.heap.IsTuple p' its'.toArray:=bX
   simp only [bC,dJ] at e
   subst e
   exact ⟨EqAt.int_tuple k t bX hu,RcAt.int_tuple k t bX hu,RcNeAt.int_tuple k t bX hu⟩
  | lst rA ds' =>
   subst h;obtain ⟨t,rfl⟩:=r
   obtain ⟨p',nD,rfl,c8,_⟩:=h';obtain ⟨its',_,bX,_⟩:=I.list c8;obtain rfl:u'=cK p':=r';replace bX:=bX.isList
   simp only [bC,dJ] at e
   subst e
   exact ⟨EqAt.int_list k t bX hu,RcAt.int_list k t bX hu,RcNeAt.int_list k t bX hu⟩
  | exc n'=>simp [bC] at e
  | jv n' m'=>simp [bC] at e
  | obj n1 m1 o1=>simp [bC] at e
  | dq n1 m1=>simp [bC] at e
 | str k =>
  cases d' with
  | bz =>
   subst h;obtain ⟨t,rfl⟩:=r
   subst h';obtain rfl:u'=mi:=r'
   simp only [bC,dJ] at e
   subst e
   exact ⟨EqAt.str_none k t,RcAt.str_none k t,RcNeAt.str_none k t⟩
  | bl k' =>
   subst h;obtain ⟨t,rfl⟩:=r
   subst h';obtain rfl:u'=n9 k':=r'
   simp only [bC,dJ] at e
   subst e
   exact ⟨EqAt.str_bool k t k',RcAt.str_bool k t k',RcNeAt.str_bool k t k'⟩
  | int k' =>
   subst h;obtain ⟨t,rfl⟩:=r
   subst h';obtain ⟨t',rfl⟩:=r'
   simp only [bC,dJ] at e
   subst e
   exact ⟨EqAt.str_int k t k' t',RcAt.str_int k t k' t',RcNeAt.str_int k t k' t'⟩
  | str k' =>
   subst h;obtain ⟨t,rfl⟩:=r
   subst h';obtain ⟨t',rfl⟩:=r'
   simp only [bC,dJ] at e
   subst e
   exact ⟨EqAt.str_str k t k' t',RcAt.str_str k t k' t',RcNeAt.str_str k t k' t'⟩
  | tup ds' =>
   subst h;obtain ⟨t,rfl⟩:=r
   obtain ⟨p',nD,rfl,c8,_⟩:=h';obtain ⟨its',_,bX,_⟩:=I.tuple c8;obtain rfl:u'=cK p':=r';replace bX:s.heap.IsTuple p' its'.toArray:=bX
   simp only [bC,dJ] at e
   subst e
   exact ⟨EqAt.str_tuple k t bX hu,RcAt.str_tuple k t bX hu,RcNeAt.str_tuple k t bX hu⟩
  | lst rA ds' =>
   subst h;obtain ⟨t,rfl⟩:=r
   obtain ⟨p',nD,rfl,c8,_⟩:=h';obtain ⟨its',_,bX,_⟩:=I.list c8;obtain rfl:u'=cK p':=r';replace bX:=bX.isList
   simp only [bC,dJ] at e
   subst e
   exact ⟨EqAt.str_list k t bX hu,RcAt.str_list k t bX hu,RcNeAt.str_list k t bX hu⟩
  | exc n'=>simp [bC] at e
  | jv n' m'=>simp [bC] at e
  | obj n1 m1 o1=>simp [bC] at e
  | dq n1 m1=>simp [bC] at e
 | tup ds =>
  cases d' with
  | bz =>
   obtain ⟨p,xs,rfl,hq,_⟩:=h;obtain ⟨aA,_,pl,_⟩:=I.tuple hq;obtain rfl:u=cK p:=r;replace pl:s.heap.IsTuple p aA.toArray:=pl
   subst h';obtain rfl:u'=mi:=r'
   simp only [bC,dJ] at e
   subst e
   exact ⟨EqAt.tuple_none pl hu,RcAt.tuple_none pl hu,RcNeAt.tuple_none pl hu⟩
  | bl k' =>
   obtain ⟨p,xs,rfl,hq,_⟩:=h;obtain ⟨aA,_,pl,_⟩:=I.tuple hq;obtain rfl:u=cK p:=r;replace pl:s.heap.IsTuple p aA.toArray:=pl
   subst h';obtain rfl:u'=n9 k':=r'
   simp only [bC,dJ] at e
   subst e
   exact ⟨EqAt.tuple_bool k' pl hu,RcAt.tuple_bool k' pl hu,RcNeAt.tuple_bool k' pl hu⟩
  | int k' =>
   obtain ⟨p,xs,rfl,hq,_⟩:=h;obtain ⟨aA,_,pl,_⟩:=I.tuple hq;obtain rfl:u=cK p:=r;replace pl:s.heap.IsTuple p aA.toArray:=pl
   subst h';obtain ⟨t',rfl⟩:=r'
   simp only [bC,dJ] at e
   subst e
   exact ⟨EqAt.tuple_int k' t' pl hu,RcAt.tuple_int k' t' pl hu,RcNeAt.tuple_int k' t' pl hu⟩
  | str k' =>
   obtain ⟨p,xs,rfl,hq,_⟩:=h;obtain ⟨aA,_,pl,_⟩:=I.tuple hq;obtain rfl:u=cK p:=r;replace pl:s.heap.IsTuple p aA.toArray:=pl
   subst h';obtain ⟨t',rfl⟩:=r'
   simp only [bC,dJ] at e
   subst e
   exact ⟨EqAt.tuple_str k' t' pl hu,RcAt.tuple_str k' t' pl hu,RcNeAt.tuple_str k' t' pl hu⟩
  | tup ds'=>exact (hn.1 _ _ rfl rfl).elim
  | lst rA ds' =>
   obtain ⟨p,xs,rfl,hq,_⟩:=h;obtain ⟨aA,_,pl,_⟩:=I.tuple hq;obtain rfl:u=cK p:=r;replace pl:s.heap.IsTuple p aA.toArray:=pl
   obtain ⟨p',nD,rfl,c8,_⟩:=h';obtain ⟨its',_,bX,_⟩:=I.list c8;obtain rfl:u'=cK p':=r';replace bX:=bX.isList
   simp only [bC,dJ] at e
   subst e
   exact ⟨EqAt.tuple_list pl bX hu,RcAt.tuple_list pl bX hu,RcNeAt.tuple_list pl bX hu⟩
  | exc n'=>simp [bC] at e
  | jv n' m'=>simp [bC] at e
  | obj n1 m1 o1=>simp [bC] at e
  | dq n1 m1=>simp [bC] at e
 | lst ro ds =>
  cases d' with
  | bz =>
   obtain ⟨p,xs,rfl,hq,_⟩:=h;obtain ⟨aA,_,pl,_⟩:=I.list hq;obtain rfl:u=cK p:=r;replace pl:=pl.isList
   subst h';obtain rfl:u'=mi:=r'
   simp only [bC,dJ] at e
   subst e
   exact ⟨EqAt.list_none pl hu,RcAt.list_none pl hu,RcNeAt.list_none pl hu⟩
  | bl k' =>
   obtain ⟨p,xs,rfl,hq,_⟩:=h;obtain ⟨aA,_,pl,_⟩:=I.list hq;obtain rfl:u=cK p:=r;replace pl:=pl.isList
   subst h';obtain rfl:u'=n9 k':=r'
   simp only [bC,dJ] at e
   subst e
   exact ⟨EqAt.list_bool k' pl hu,RcAt.list_bool k' pl hu,RcNeAt.list_bool k' pl hu⟩
  | int k' =>
   obtain ⟨p,xs,rfl,hq,_⟩:=h;obtain ⟨aA,_,pl,_⟩:=I.list hq;obtain rfl:u=cK p:=r;replace pl:=pl.isList
   subst h';obtain ⟨t',rfl⟩:=r'
   simp only [bC,dJ] at e
   subst e
   exact ⟨EqAt.list_int k' t' pl hu,RcAt.list_int k' t' pl hu,RcNeAt.list_int k' t' pl hu⟩
  | str k' =>
   obtain ⟨p,xs,rfl,hq,_⟩:=h;obtain ⟨aA,_,pl,_⟩:=I.list hq;obtain rfl:u=cK p:=r;replace pl:=pl.isList
   subst h';obtain ⟨t',rfl⟩:=r'
   simp only [bC,dJ] at e
   subst e
   exact ⟨EqAt.list_str k' t' pl hu,RcAt.list_str k' t' pl hu,RcNeAt.list_str k' t' pl hu⟩
  | tup ds' =>
   obtain ⟨p,xs,rfl,hq,_⟩:=h;obtain ⟨aA,_,pl,_⟩:=I.list hq;obtain rfl:u=cK p:=r;replace pl:=pl.isList
   obtain ⟨p',nD,rfl,c8,_⟩:=h';obtain ⟨its',_,bX,_⟩:=I.tuple c8;obtain rfl:u'=cK p':=r';replace bX:s.heap.IsTuple p' its'.toArray:=bX
   simp only [bC,dJ] at e
   subst e
   exact ⟨EqAt.list_tuple pl bX hu,RcAt.list_tuple pl bX hu,RcNeAt.list_tuple pl bX hu⟩
  | lst rA ds'=>exact (hn.2 _ _ _ _ rfl rfl).elim
  | exc n'=>simp [bC] at e
  | jv n' m'=>simp [bC] at e
  | obj n1 m1 o1=>simp [bC] at e
  | dq n1 m1=>simp [bC] at e
 | exc n=>cases d'<;>simp [bC] at e
 | jv n m=>cases d'<;>simp [bC] at e
 | obj n1 m1 o1=>cases d'<;>simp [bC] at e
 | dq n1 m1=>cases d'<;>simp [bC] at e
open PySem.SeqAt in
theorem N3(I:Inv X pins σ H s):∀(n:Nat) {A:Around} {u u':Value} {v v':V} {d d':D} {b:Bool},A.units+n<cLine->Is X.K O H v d->Is X.K O' H v' d'->RelV v u->RelV v' u'->bC n d d'=some b ->
  EqAt A s u u' b/\RcAt A s u u' b/\RcNeAt A s u u' (!b):=by
 intro n
 induction n with
 | zero =>
  intro A u u' v v' d d' b hu h h' r r' e
  refine N5 I ‹_› h.qI h'.qI r r' e ⟨?_,?_⟩
  .rintro a c rfl rfl;simp [bC] at e
  .rintro a c ro rA rfl rfl;simp [bC] at e
 | succ n ih =>
  intro A u u' v v' d d' b hu h h' r r' e
  have elems:∀{xs ys:List V} {aA c7:List Value} {ds es:List D} {bs:List Bool},aG xs aA->aG ys c7->aZ X.K O H xs ds->aZ X.K O' H ys es->ny (xn (bC n) ds es)=some bs ->
    ∀j (h1:j<aA.toArray.size) (h2:j<c7.toArray.size),EqAt A.in1 s aA.toArray[j] c7.toArray[j] (bs.getD j false):=λ{xs ys aA c7 ds es bs} rx ry ax ay ea j h1 h2=>by
   obtain ⟨d1,v1,e1,i1,r1⟩:=O3 rx ax h1
   obtain ⟨d2,v2,e2,i2,r2⟩:=O3 ry ay h2
   obtain ⟨hl,g⟩:=Ck ea
   have hz:(xn (bC n) ds es)[j]?=some (bC n d1 d2):=by rw [M3,e1,e2]
   have hj:j<bs.length:=by rw [<-hl];exact (qP.mp hz).1
   have:=g j bs[j] (mG hj)
   rw [hz] at this
   have e3:bs.getD j false=bs[j]:=by simp [hj]
   rw [e3]
   exact (ih (A:=A.in1) (by show A.units+1+n<_;ext hu) i1 i2 r1 r2 (dC this)).1
  by_cases ht:∃a c,d=.tup a/\d'=.tup c
  .obtain ⟨ds,es,rfl,rfl⟩:=ht
   simp only [bC] at e
   obtain ⟨bs,e1,rfl⟩:=map_some e
   obtain ⟨p,xs,rfl,hq,ax⟩:=h.qI
   obtain ⟨p',ys,rfl,c8,ay⟩:=h'.qI
   obtain ⟨aA,rx,pl,_⟩:=I.tuple hq
   obtain ⟨c7,ry,bX,_⟩:=I.tuple c8
   obtain rfl:u=cK p:=r
   obtain rfl:u'=cK p':=r'
   have pl:s.heap.IsTuple p aA.toArray:=pl
   have bX:s.heap.IsTuple p' c7.toArray:=bX
   have hlen:bs.length=min ds.length es.length:=by rw [<-(Ck e1).1,Ni]
   have l1:aA.toArray.size=ds.length:=by rw [dR,<-rx.length,ax.length]
   have l2:c7.toArray.size=es.length:=by rw [dR,<-ry.length,ay.length]
   have val:((pD (min aA.toArray.size c7.toArray.size)).all (λj=>bs.getD j false)&&aA.toArray.size==c7.toArray.size)=(bs.all id&&decide (ds.length=es.length)):=by
    rw [l1,l2,all_range hlen]
    rfl
   have rc:=RcAt.tuples pl bX (by ext hu) (elems rx ry ax ay e1)
   have rn:=RcNeAt.tuples pl bX (by ext hu) (elems rx ry ax ay e1)
   rw [val] at rc rn
   refine ⟨?_,rc,rn⟩
   by_cases hp:p=p'
   .subst hp
    have:=Px I (n+1) h h' (show bC (n+1) (.tup ds) (.tup es)=some (bs.all id&&decide (ds.length=es.length)) by simp only [bC];rw [e1];rfl)
    rw [this]
    exact EqAt.same _
   .exact .of_refs hp rc
  by_cases hl:∃a c ro rA,d=.lst ro a/\d'=.lst rA c
  .obtain ⟨ds,es,ro,rA,rfl,rfl⟩:=hl
   have e0:=e
   simp only [bC] at e
   obtain ⟨p,xs,rfl,hq,ax⟩:=h.qI
   obtain ⟨p',ys,rfl,c8,ay⟩:=h'.qI
   obtain ⟨aA,rx,pl,_⟩:=I.list hq
   obtain ⟨c7,ry,bX,_⟩:=I.list c8
   obtain rfl:u=cK p:=r
   obtain rfl:u'=cK p':=r'
   have l1:aA.toArray.size=ds.length:=by rw [dR,<-rx.length,ax.length]
   have l2:c7.toArray.size=es.length:=by rw [dR,<-ry.length,ay.length]
   have fin:RcAt A s (.ref p) (.ref p') b->RcNeAt A s (.ref p) (.ref p') (!b)->EqAt A s (.ref p) (.ref p') b/\RcAt A s (.ref p) (.ref p') b/\RcNeAt A s (.ref p) (.ref p') (!b):=λrc rn=>by
    refine ⟨?_,rc,rn⟩
    by_cases hp:p=p'
    .subst hp
     rw [Px I (n+1) h h' e0]
     exact EqAt.same _
    .exact .of_refs hp rc
   by_cases hlen:ds.length=es.length
   .rw [if_pos hlen] at e
    obtain ⟨bs,e1,rfl⟩:=map_some e
    have T4:bs.length=ds.length:=by rw [<-(Ck e1).1,Ni];ext hlen
    have rc:=RcAt.lists pl.isList bX.isList (by ext l1 l2 hlen) (by ext hu) (elems rx ry ax ay e1)
    have rn:=RcNeAt.lists pl.isList bX.isList (by ext l1 l2 hlen) (by ext hu) (elems rx ry ax ay e1)
    rw [l1,all_range T4] at rc rn
    exact fin rc rn
   .rw [if_neg hlen] at e
    cases e
    have cW:(aA.toArray.size != c7.toArray.size)=true:=by rw [l1,l2];simpa using hlen
    exact fin (RcAt.lists_lengths pl.isList bX.isList cW (by ext hu)) (RcNeAt.lists_lengths pl.isList bX.isList cW (by ext hu))
  refine N5 I (by ext hu) h.qI h'.qI r r' e ⟨λa c e1 e2=>ht ⟨a,c,e1,e2⟩,λa c ro rA e1 e2=>hl ⟨a,c,ro,rA,e1,e2⟩⟩
noncomputable def bP:D->D->Option Sl:=λa b=>(bC 8 a b).map λk=>.sh (.bl k)
noncomputable def dA:D->D->Option Sl:=λa b=>(bC 8 a b).map λk=>.sh (.bl !k)
theorem iZ(hu:X.A.units+8<cLine):oM X (compareOp .Eq) bP:=by
 refine ⟨λx y H Q=>∃O O' a b k,Is X.K O H x a/\Is X.K O' H y b/\bC 8 a b=some k/\Q (.bl k) H,?_,λO H x y a b s Q hO hx hy e q=>?_⟩
 .intro pins s σ H x y v u Q I rx ry h
  obtain ⟨O,O',a,b,k,hx,hy,e,q⟩:=h
  exact (N3 I 8 hu hx hy rx ry e).2.1 _ _ _ _ ⟨.bl k,H,I,rfl,q⟩
 .obtain ⟨k,e1,rfl⟩:=map_some e
  exact ⟨O,O,a,b,k,hx,hy,e1,q _ H (aH.refl _) (Is.bl _)⟩
theorem uo(hu:X.A.units+8<cLine):oM X (compareOp .NotEq) dA:=by
 refine ⟨λx y H Q=>∃O O' a b k,Is X.K O H x a/\Is X.K O' H y b/\bC 8 a b=some k/\Q (.bl !k) H,?_,λO H x y a b s Q hO hx hy e q=>?_⟩
 .intro pins s σ H x y v u Q I rx ry h
  obtain ⟨O,O',a,b,k,hx,hy,e,q⟩:=h
  exact (N3 I 8 hu hx hy rx ry e).2.2 _ _ _ _ ⟨.bl _,H,I,rfl,q⟩
 .obtain ⟨k,e1,rfl⟩:=map_some e
  exact ⟨O,O,a,b,k,hx,hy,e1,q _ H (aH.refl _) (Is.bl _)⟩
end
theorem Fx.u8{X:Cx}{N:List Str}{sc:Scope}{k:Nat}{full:Bool}(h:Fx X N sc k full):X.A.units+8<cLine:=by have:=h.room.un;ext this
theorem zl{X X':Cx}{x:Str}(e4:X'.mg=X.mg)(h:X.mg x=none):X'.mg x=none:=by rw [e4];exact h
end DL
namespace DL
open PySem PySem.Spec PyProof.Rows L2
theorem Zn{P:Program}{w:World}{K:aK}{tg:Expr}(it:Addr)(lo:Int)(n:Nat):Turn P w K tg (qd lo n) [it] it (λi h=>IsLongIter h it (lo+(i:Nat)*1) ((n:Int)-(i:Nat)) 1) where
 mem:=by simp
 obj:=λi h st b hb=>by
  have e:b=it:=by simpa using hb
  subst e
  exact ⟨_,st,λv z=>by
   have z':Data.fields _=Data.cell v:=z
   cases z'⟩
 keep:=λi h h' st k=>k it (by simp) _ st
 item:=by
  intro X hP hw hK hc i pins s σ H E I hf st hg
  subst hP hw hK
  obtain ⟨f0,f1,f2,f3,f4,f5⟩:=hf it (by simp)
  have W:=Walks.longrange (prog:=X.prog) (w:=X.w) (I.ok.hd hc) it lo 1 n
  refine W.item i s _ _ hg st λv h' tk hv av kk=>?_
  obtain ⟨t,rfl⟩:=hv
  have I1:Inv X pins σ H { s with heap:=h',toks:=tk }:=I.turned (λb o hb e=>kk b o (by simpa using hb) e) f0 f1 f3 f4 f5
  refine ⟨_,rfl,Eu (s:={ s with heap:=h',toks:=tk }) (n:="longrange_iterator") av rfl rfl (by decide) ⟨.int (lo+i),H,I1,⟨t,?_⟩,⟨rfl,rfl⟩,av,λb hb=>(hf b hb).1⟩⟩
  rw [yu]
 done:=by
  intro X hP hw hK hc i pins s σ H E I hf st hg
  subst hP hw hK
  obtain ⟨f0,f1,f2,f3,f4,f5⟩:=hf it (by simp)
  exact wpAny_pyNext_long_end (I.ok.hd hc) st (by have:n<=i:=hg;ext this) λh' eb=>⟨rfl,I.turned (t':=s.toks) (λb o hb e=>eb b o hb e) f0 f1 f3 f4 f5⟩
 self:=λ_ _ _ _ _ st h=>wpAny_pyIter_longiter st h
section
variable {X:Cx}{tg:Expr}
theorem PY{pins:List (Addr×Obj)}{σ:L2.St}{H:Hp}{s:Shared}{R:It->Hp->Prop}{E:Value->Shared->Prop}{lo hi:Int}{t u v:Tok}{tk:Nat}(I:Inv X pins σ H s)
  (q:R (qd lo (hi-lo).toNat) H):wpAny (model X.prog X.w) X.A (pyIter (.ref s.heap.objs.size)) (LM X pins σ tg R) E { s with heap:=s.heap.push { cls:=.type "range",data:=.fields #[.int lo t,.int hi u,.int 1 v] },toks:=tk }:=by
 have I1:Inv X pins σ H { s with heap:=s.heap.push { cls:=.type "range",data:=.fields #[.int lo t,.int hi u,.int 1 v] },toks:=tk }:=I.kept λb o e=>dh _ e
 have e1:lo+((0:Nat):Int)*1=lo:=by simp
 have e2:(((hi-lo).toNat:Nat):Int)-((0:Nat):Int)=NG lo hi 1:=by rw [rangeSize_one];split<;>lia
 have fin:∀b∈[(s.heap.push { cls:=.type "range",data:=.fields #[.int lo t,.int hi u,.int 1 v] }).objs.size],kQ X pins H b:=λb hb=>by
  have e:b=(s.heap.push { cls:=.type "range",data:=.fields #[.int lo t,.int hi u,.int 1 v] }).objs.size:=by simpa using hb
  subst e
  exact I1.rO (bZ _) (I1.bB.fresh (bZ _))
 by_cases Ml:Builtin.Range.small lo hi 1=true
 .refine wpAny_pyIter_range (HW ..) Ml ?_
  refine ⟨_,[(s.heap.push { cls:=.type "range",data:=.fields #[.int lo t,.int hi u,.int 1 v] }).objs.size],_,_,H,rfl,I1.kept (t':=tk) λb o e=>dh _ e,Qu _ lo (hi-lo).toNat,?_,fin,q⟩
  show IsRangeIter _ _ (lo+((0:Nat):Int)*1) ((((hi-lo).toNat:Nat):Int)-((0:Nat):Int)) 1
  rw [e1,e2]
  exact kG _ rfl
 .refine wpAny_pyIter_longrange (HW ..) (by simpa using Ml) ?_
  refine ⟨_,[(s.heap.push { cls:=.type "range",data:=.fields #[.int lo t,.int hi u,.int 1 v] }).objs.size],_,_,H,rfl,I1.kept (t':=tk) λb o e=>dh _ e,Zn _ lo (hi-lo).toNat,?_,fin,q⟩
  show IsLongIter _ _ (lo+((0:Nat):Int)*1) ((((hi-lo).toNat:Nat):Int)-((0:Nat):Int)) 1
  rw [e1,e2]
  exact kG _ rfl
noncomputable def VC(ta:TA):TI:=λσ H R=>ta σ H λvs H1=>∃j:Int,vs=[.int j]/\R (qd 0 j.toNat) H1
noncomputable def VD(ta:TA):TI:=λσ H R=>ta σ H λvs H1=>∃i j:Int,vs=[.int i,.int j]/\R (qd i (j-i).toNat) H1
theorem ZG(hg:Gl X "range")(hm:X.mg "range" = none)(ha:PA X [a] ta)(hs:starEach [a] X.env=[(false,eval a X.env)]:=by rfl):PI X tg (.Call (.Name "range" p) [a] [] pos) (VC ta):=by
 intro pins s σ H R I h
 refine Call_ (yZ I hg hm boot_range (Ej (bQ (ha pos pins s σ H _ I h) λus s1 ⟨vs,H1,I1,r1,q1⟩=>?_) hs rfl))
 obtain ⟨j,e,q⟩:=q1
 subst e
 cases r1 with
 | cons r rr =>
  cases rr
  obtain ⟨t,rfl⟩:=r
  exact call_range_1 (PY I1 (by simpa using q))
theorem ZH{a b:Expr}{ta:TA}{p pos:Pos}(hg:Gl X "range")(hm:X.mg "range" = none)(ha:PA X [a,b] ta)(hs:starEach [a,b] X.env=[(false,eval a X.env),(false,eval b X.env)]:=by rfl)(lA:starEach [b] X.env=[(false,eval b X.env)]:=by rfl):
  PI X tg (.Call (.Name "range" p) [a,b] [] pos) (VD ta):=by
 intro pins s σ H R I h
 refine Call_ (yZ I hg hm boot_range (Ej (bQ (ha pos pins s σ H _ I h) λus s1 ⟨vs,H1,I1,r1,q1⟩=>?_) (by rw [hs,lA]) (by rw [lA];rfl)))
 obtain ⟨i,j,e,q⟩:=q1
 subst e
 cases r1 with
 | cons r rr =>
  cases rr with
  | cons r' rr =>
   cases rr
   obtain ⟨t,rfl⟩:=r
   obtain ⟨t',rfl⟩:=r'
   exact call_range_2 (PY I1 q)
noncomputable def EE:List D->Option (List D)
 | [.int j]=>some (dy 0 j.toNat)
 | _=>none
noncomputable def EF:List D->Option (List D)
 | [.int i,.int j]=>some (dy i (j-i).toNat)
 | _=>none
theorem Yl(A4:Gl X "range")(hm:X.mg "range" = none)(ha:AV X [a] fs)(h1:starEach [a] X.env=[(false,eval a X.env)]:=by rfl):IV X tg (.Call (.Name "range" p) [a] [] pos) (rP EE fs):=by
 obtain ⟨ti,pi,ki⟩:=ha
 refine ⟨_,ZG A4 hm pi h1,λO B σ H env ds R Rl e q=>?_⟩
 obtain ⟨as,e1,e2⟩:=bind_some e
 refine ki O B σ H env as _ Rl e1 λvs H1 s1 r1=>?_
 unfold EE at e2
 split at e2
 .cases e2
  exact ⟨_,Pz r1,q _ H1 s1 (Pa _ _)⟩
 .cases e2
theorem Ym{a b:Expr}{fs:En->Option (List D)}{p pos:Pos}(A4:Gl X "range")(hm:X.mg "range" = none)(ha:AV X [a,b] fs)(h1:starEach [a,b] X.env=[(false,eval a X.env),(false,eval b X.env)]:=by rfl)
  (h2:starEach [b] X.env=[(false,eval b X.env)]:=by rfl):IV X tg (.Call (.Name "range" p) [a,b] [] pos) (rP EF fs):=by
 obtain ⟨ti,pi,ki⟩:=ha
 refine ⟨_,ZH A4 hm pi h1 h2,λO B σ H env ds R Rl e q=>?_⟩
 obtain ⟨as,e1,e2⟩:=bind_some e
 refine ki O B σ H env as _ Rl e1 λvs H1 s1 r1=>?_
 unfold EF at e2
 split at e2
 .cases e2
  exact ⟨_,_,PR r1,q _ H1 s1 (Pa _ _)⟩
 .cases e2
end
end DL
namespace DL
open PySem PySem.Spec PyProof.Rows L2
def zS(b:Bool)(h:Heap)(it l:Addr)(k:Nat):Prop:=match b with
 | true=>h.IsListIter it l k
 | false=>h.IsTupleIter it l k
def ya(b:Bool)(h:Heap)(l:Addr)(items:Array Value):Prop:=match b with
 | true=>h.IsList l items
 | false=>h.IsTuple l items
theorem zS.keep(x:zS b h it l k)(e:∀o,h.get? it=some o->h'.get? it=some o):zS b h' it l k:=by
 cases b with
 | true=>obtain ⟨o,ho,r⟩:=x;exact ⟨o,e _ ho,r⟩
 | false=>obtain ⟨o,ho,r⟩:=x;exact ⟨o,e _ ho,r⟩
theorem ya.keep(x:ya b h l items)(e:∀o,h.get? l=some o->h'.get? l=some o):ya b h' l items:=by
 cases b with
 | true=>obtain ⟨o,ho,r⟩:=x;exact ⟨o,e _ ho,r⟩
 | false=>obtain ⟨o,ho,r⟩:=x;exact ⟨o,e _ ho,r⟩
theorem zS.lt(x:zS b h it l k):it<h.objs.size:=by
 cases b with
 | true=>obtain ⟨o,ho,r⟩:=x;exact cL ho
 | false=>obtain ⟨o,ho,r⟩:=x;exact cL ho
theorem ya.lt(x:ya b h l items):l<h.objs.size:=by
 cases b with
 | true=>obtain ⟨o,ho,r⟩:=x;exact cL ho
 | false=>obtain ⟨o,ho,r⟩:=x;exact cL ho
section
variable {prog:Program}{w:World}{A:Around}{E:Value->Shared->Prop}{s:Shared}
structure ZAp(z TI TO i1 i2 l1 l2:Addr):Prop where
 a1:TI≠z
 a2:TO≠z
 a3:i1≠z
 a4:i2≠z
 a6:TO≠i1
 a7:TO≠i2
 a8:i1≠i2
 b1:l1≠z
 b2:l1≠TO
 b3:l1≠i1
 b4:l1≠i2
 c1:l2≠z
 c2:l2≠TO
 c3:l2≠i1
 c4:l2≠i2
end
end DL
namespace DL
open PySem PySem.Spec PyProof.Rows L2
section
variable {X:Cx}{pins:List (Addr×Obj)}{σ:L2.St}{H:Hp}{s:Shared}
theorem zL(I:Inv X pins σ H s)(h:Sq X.K H b l xs):∃aA:List Value,aG xs aA/\ya b s.heap l aA.toArray:=by
 cases b with
 | true=>obtain ⟨aA,r,p,_⟩:=I.list h;exact ⟨aA,r,p.isList⟩
 | false=>obtain ⟨aA,r,p,_⟩:=I.tuple h;exact ⟨aA,r,p⟩
end
section
variable {prog:Program}{w:World}{A:Around}{E:Value->Shared->Prop}{s:Shared}
end
section
variable {X:Cx}{elts:List Expr}{kk:Nat}{tp:Pos}
noncomputable def rf(a b:List D):List D:=xn (λd e=>D.tup [d,e]) a b
noncomputable def tq:List D->Option (List D)
 | [a,b]=>(fA a).bind λp=>(fA b).map λq=>rf p.2 q.2
 | _=>none
end
end DL
namespace SO
section pure
variable {α:Type}
def eE(κ:α->Int)(l:List α):Prop:=l.Pairwise λx y=>κ x<κ y
structure Inv(κ:α->Int)(la lb out:List α)(ia ib:Nat):Prop where
 perm:out.Perm (la.take ia++lb.take ib)
 qh:eE κ out
 lo:∀x∈out,(∀y∈la.drop ia,κ x<κ y)/\∀y∈lb.drop ib,κ x<κ y
variable {κ:α->Int}{la lb out:List α}{ia ib:Nat}
theorem Inv.sym(h:Inv κ la lb out ia ib):Inv κ lb la out ib ia:=⟨h.perm.trans BU,h.qh,λx hx=>⟨(h.lo x hx).2,(h.lo x hx).1⟩⟩
theorem y'(h:eE κ l)(i:Nat):eE κ (l.drop i):=h.sublist (List.drop_sublist ..)
theorem Kz(h:eE κ l)(i:Nat):eE κ (l.take i):=h.sublist (List.take_sublist ..)
theorem KU(h:eE κ l)(i:Nat):∀x∈l.take i,∀y∈l.drop i,κ x<κ y:=by
 have:eE κ (l.take i++l.drop i):=by rw [qW];exact h
 exact (pE.mp this).2.2
theorem Inv.a(h:Inv κ la lb out ia ib)(sa:eE κ la)(k:Nat)(hk:∀x∈(la.drop ia).take k,∀y∈lb.drop ib,κ x<κ y):Inv κ la lb (out++(la.drop ia).take k) (ia+k) ib:=by
 refine ⟨?_,pE.mpr ⟨h.qh,Kz (y' sa ia) k,λx hx y hy=>(h.lo x hx).1 y (xw hy)⟩,λx hx=>?_⟩
 .rw [List.take_add,iW]
  refine (h.perm.append_right _).trans ?_
  rw [iW]
  exact BU.append_left _
 .rw [<-List.drop_drop]
  rcases jI.mp hx with hx | hx
  .exact ⟨λy hy=>(h.lo x hx).1 y (yK hy),(h.lo x hx).2⟩
  .exact ⟨λy hy=>KU (y' sa ia) k x hx y hy,hk x hx⟩
theorem Inv.b(h:Inv κ la lb out ia ib)(sb:eE κ lb)(k:Nat)(hk:∀x∈(lb.drop ib).take k,∀y∈la.drop ia,κ x<κ y):Inv κ la lb (out++(lb.drop ib).take k) ia (ib+k):=(h.sym.a sb k hk).sym
theorem Inv.last(h:Inv κ la lb out ia ib)(sa:eE κ la)(sb:eE κ lb)(hm:∀x∈lb.drop ib,∀y∈la.drop ia,κ x<κ y):eE κ (out++lb.drop ib++la.drop ia)/\(out++lb.drop ib++la.drop ia).Perm (la++lb):=by
 refine ⟨pE.mpr ⟨pE.mpr ⟨h.qh,y' sb ib,λx hx=>(h.lo x hx).2⟩,y' sa ia,λx hx y hy=>?_⟩,?_⟩
 .rcases jI.mp hx with hx | hx
  .exact (h.lo x hx).1 y hy
  .exact hm x hx y hy
 .have e:la++lb=(la.take ia++la.drop ia)++(lb.take ib++lb.drop ib):=by rw [qW,qW]
  rw [e,iW]
  refine (h.perm.append_right _).trans ?_
  simp only [iW]
  refine D4 _ ?_
  refine BU.trans ?_
  simp only [iW]
  refine (BU).trans ?_
  simp only [iW]
  refine D4 _ ?_
  exact ue _
theorem Inv.done(h:Inv κ la lb out ia ib)(sa:eE κ la)(sb:eE κ lb)(hm:∀x∈la.drop ia,∀y∈lb.drop ib,κ x<κ y):eE κ (out++la.drop ia++lb.drop ib)/\(out++la.drop ia++lb.drop ib).Perm (la++lb):=
 have q:=h.sym.last sb sa hm
 ⟨q.1,q.2.trans BU⟩
theorem AK:Inv κ la lb [] 0 0:=⟨by simp,vj,λx hx=>nomatch hx⟩
theorem VM(sa:eE κ A)(sb:eE κ B)(h1:∀x∈A.take k,∀y∈B,κ x<κ y)(h2:∀x∈B.drop m,∀y∈A,κ y<κ x)(sm:eE κ M)(pm:M.Perm (A.drop k++B.take m)):
  eE κ (A.take k++M++B.drop m)/\(A.take k++M++B.drop m).Perm (A++B):=by
 constructor
 .refine pE.mpr ⟨pE.mpr ⟨Kz sa k,sm,λx hx y hy=>?_⟩,y' sb m,λx hx y hy=>?_⟩
  .rcases jI.mp (pm.mem_iff.mp hy) with hy | hy
   .exact KU sa k x hx y hy
   .exact h1 x hx y (xw hy)
  .rcases jI.mp hx with hx | hx
   .exact h1 x hx y (yK hy)
   .rcases jI.mp (pm.mem_iff.mp hx) with hx | hx
    .exact h2 y hy x (yK hx)
    .exact KU sb m x hx y hy
 .have e:A++B=(A.take k++A.drop k)++(B.take m++B.drop m):=by rw [qW,qW]
  rw [e,iW]
  simp only [iW]
  refine D4 _ ?_
  rw [<-iW]
  exact pm.append_right _
theorem m8(m:List α):∀(xs:Array α) (o n:Nat) (k:Nat),o+n+m.length<=xs.size->((m.zipIdx n).foldl (λa p=>a.setIfInBounds (o+p.2) p.1) xs)[k]?=if o+n<=k/\k<o+n+m.length then m[k-(o+n)]? else xs[k]?:=by
 induction m with
 | nil=>intro xs o n k h;simp only [List.zipIdx_nil,Iz,DQ];rw [if_neg (by ext)]
 | cons x m ih =>
  intro xs o n k h
  simp only [ff] at h
  rw [List.zipIdx_cons,yy,ih _ o (n+1) k (by simp only [Array.size_setIfInBounds];ext h)]
  simp only [ff]
  by_cases c:o+(n+1)<=k/\k<o+(n+1)+m.length
  .rw [if_pos c,if_pos (by ext c),show k-(o+n)=(k-(o+(n+1)))+1 by ext c,List.getElem?_cons_succ]
  .rw [if_neg c,Array.getElem?_setIfInBounds]
   by_cases c2:o+n=k
   .subst c2
    rw [if_pos rfl,if_pos (by ext h),if_pos (by ext)]
    simp
   .rw [if_neg c2,if_neg (by ext c c2)]
theorem Zx{P A S m:List α}{xs:Array α}(e:xs.toList=P++A++S)(hl:m.length=A.length):(m.zipIdx.foldl (λa p=>a.setIfInBounds (P.length+p.2) p.1) xs).toList=P++m++S:=by
 have hs:xs.size=P.length+A.length+S.length:=by rw [<-gD,e];simp;ext
 refine IP λk=>?_
 rw [sQ,m8 m xs P.length 0 k (by ext hl hs),Nat.add_zero,<-sQ,e]
 by_cases h1:k<P.length
 .rw [if_neg (by ext h1),iW,iW,xD h1,xD h1]
 .by_cases h2:k<P.length+m.length
  .rw [if_pos ⟨by ext h1,h2⟩,iW,uf (by ext h1),xD (by ext h1 h2)]
  .rw [if_neg (by ext h2),uf (by simp;ext hl h2),uf (by simp;ext h2)]
   simp [hl]
noncomputable def oK:Nat->List (List α)->List (Nat×Nat×Nat)->Prop
 | _,[],[]=>True
 | o,R::Rs,p::ps=>p.1=o/\p.2.1=R.length/\oK (o+R.length) Rs ps
 | _,_,_=>False
theorem oK.len:∀{o:Nat} {Rs:List (List α)} {ps:List (Nat×Nat×Nat)},oK o Rs ps->ps.length=Rs.length
 | _,[],[],_=>rfl
 | _,R::Rs,p::ps,h=>by simp [h.2.2.len]
theorem oK.app:∀{o:Nat} {Rs Ss:List (List α)} {ps qs:List (Nat×Nat×Nat)},oK o Rs ps->oK (o+Rs.flatten.length) Ss qs->oK o (Rs++Ss) (ps++qs)
 | o,[],Ss,[],qs,_,h=>by simpa using h
 | o,R::Rs,Ss,p::ps,qs,h,k=>⟨h.1,h.2.1,h.2.2.app (by rw [Ef,da,<-Ir] at k;exact k)⟩
theorem oK.split:∀{o:Nat} {Rs Ss:List (List α)} {ps:List (Nat×Nat×Nat)},oK o (Rs++Ss) ps->oK o Rs (ps.take Rs.length)/\oK (o+Rs.flatten.length) Ss (ps.drop Rs.length)
 | o,[],Ss,ps,h=>⟨trivial,by simpa using h⟩
 | o,R::Rs,Ss,p::ps,h=>by
  obtain ⟨k1,k2⟩:=oK.split (Rs:=Rs) h.2.2
  refine ⟨⟨h.1,h.2.1,k1⟩,?_⟩
  rw [Ef,da,<-Ir]
  exact k2
end pure
open PySem PyProof.Rows
noncomputable def a8c:Bool → Keyed → Array Keyed → Nat → Nat → Nat → StateT SortSt Sem (Option Nat):=sortPriv% PySem.Builtin.gallop
noncomputable def b1V:Array Keyed → Array Keyed → StateT SortSt Sem (Array Keyed):=sortPriv% PySem.Builtin.mergeLo
noncomputable def b1W:Array Keyed → Array Keyed → StateT SortSt Sem (Array Keyed):=sortPriv% PySem.Builtin.mergeHi
noncomputable def setG':Nat → StateT SortSt Sem Unit:=sortPriv% PySem.Builtin.setMinGallop
section
variable {prog:Program}{w:World}{A:Around}{E:Value->Shared->Prop}{s:Shared}
theorem y6{σ α:Type}{M:Model}{m:StateT σ Sem α}{Q:α->σ->Prop}{st:σ}(h:wpS M A E s m Q st):wpAny M A (m st) (λr s'=>s'=s/\Q r.1 r.2) E s:=h
structure Ask(prog:Program)(w:World)(s:Shared)(kd:SortKind)(κ:Keyed->Int)(C:Keyed->Prop):Prop where
 lt:∀{x y:Keyed},C x->C y->κ x≠κ y->∀{A:Around} {E:Value->Shared->Prop} {Q:Bool->Shared->Prop},Q (decide (κ x<κ y)) s->wpAny (model prog w) A (keyLt' kd x.1 y.1) Q E s
variable {kd:SortKind}{κ:Keyed->Int}{C:Keyed->Prop}
theorem AB(hk:Ask prog w s kd κ C){st:SortSt}{Q:Option Bool->SortSt->Prop}(hd:kindOf st=kd)(hx:C x)(hy:C y)(cW:κ x≠κ y)(h:Q (some (decide (κ x<κ y))) st):wpS (model prog w) A E s (lt' x y) Q st:=by
 rw [lt'_eq]
 refine bq (qw ?_)
 rw [hd]
 exact bq (wpS_lift (D1 (hk.lt hx hy cW ⟨rfl,bI h⟩)))
theorem lH{Q:Keyed->SortSt->Prop}{st:SortSt}(hi:i<arr.size)(h:Q arr[i] st):wpS (model prog w) A E s (elem' arr i) Q st:=by
 rw [elem'_eq,getElem?_pos arr i hi]
 exact bI h
noncomputable def kv(κ:Keyed->Int)(arr:Array Keyed)(i:Nat):Int:=match arr[i]? with
 | some p=>κ p
 | none=>0
theorem lM(h:i<arr.size):kv κ arr i=κ arr[i]:=by unfold kv;rw [getElem?_pos arr i h]
theorem B2(h:xs[i]?=ys[j]?):kv κ xs i=kv κ ys j:=by unfold kv;rw [h]
theorem U4(hk:Ask prog w s kd κ C){st:SortSt}(hd:kindOf st=kd){Q:Option Bool->SortSt->Prop}(hC:C key)(hj:j<arr.size)(hx:C arr[j])(cW:κ arr[j]≠κ key)(h:Q (some (decide (kv κ arr j<κ key))) st):
  wpS (model prog w) A E s (elem' arr j >>= λx=>if left=true then lt' x key else lt' key x >>= λr=>pure (HU (λx=>!x) r)) Q st:=by
 refine bq (lH hj ?_)
 rw [lM hj] at h
 cases left with
 | true =>
  rw [if_pos rfl]
  exact AB hk hd hx hC cW h
 | false =>
  rw [if_neg (by decide)]
  refine bq (AB hk hd hC hx (kY cW) (bI ?_))
  have e:(!decide (κ key<κ arr[j]))=decide (κ arr[j]<κ key):=by
   by_cases c:κ key<κ arr[j]
   .rw [decide_eq_true c,decide_eq_false (by ext hj c)];rfl
   .rw [decide_eq_false c,decide_eq_true (by ext hj cW c)];rfl
  rw [Option.map_some,e]
  exact h
theorem DD(hk:Ask prog w s kd κ C){st:SortSt}(hd:kindOf st=kd){Q:Option Nat->SortSt->Prop}(hC:C key)(hn:base+n<=arr.size)(hh:hint<n)
  (hA:∀j (h:j<arr.size),base<=j->j<base+n->C arr[j]/\κ arr[j]≠κ key)(hs:∀i j,i<j->j<n->kv κ arr (base+i)<kv κ arr (base+j))
  (h:∀k,k<=n->(∀i,i<k->kv κ arr (base+i)<κ key)->(∀i,k<=i->i<n->κ key<kv κ arr (base+i))->Q (some k) st):wpS (model prog w) A E s (a8c left key arr base n hint) Q st:=by
 have ask:∀i,i<n->∀{Q:Option Bool->SortSt->Prop},Q (some (decide (kv κ arr (base+i)<κ key))) st->wpS (model prog w) A E s (elem' arr (base+i) >>= λx=>if left=true then lt' x key else lt' key x >>= λr=>pure (HU (λx=>!x) r)) Q st:=λi hi Q hQ =>
  have hj:base+i<arr.size:=by ext hn hi
  U4 hk hd hC hj (hA _ hj (by ext) (by ext hi)).1 (hA _ hj (by ext) (by ext hi)).2 hQ
 have ne:∀i,i<n->kv κ arr (base+i)≠κ key:=λi hi=>by
  have hj:base+i<arr.size:=by ext hn hi
  rw [lM hj]
  exact (hA _ hj (by ext) (by ext hi)).2
 have dn:∀i j,i<=j->j<n->kv κ arr (base+j)<κ key->kv κ arr (base+i)<κ key:=λi j h1 h2 h3=>by
  by_cases c:i=j
  .subst c;exact h3
  .have:=hs i j (by ext h1 c) h2;ext h3 this
 have up:∀i j,i<=j->j<n->κ key<kv κ arr (base+i)->κ key<kv κ arr (base+j):=λi j h1 h2 h3=>by
  by_cases c:i=j
  .subst c;exact h3
  .have:=hs i j (by ext h1 c) h2;ext h3 this
 unfold wpS
 wp_delta
 wp_delta
 wp_delta
 refine y6 (Q:=Q) (bq (ask hint hh ?_))
 dsimp only
 have tail:∀lo hi:Nat,lo<=hi->hi<=n->(∀i,i<lo->kv κ arr (base+i)<κ key)->(∀i,hi<=i->i<n->κ key<kv κ arr (base+i)) ->
   wpS (model prog w) A E s (forIn [0:n] ((none,lo,hi):Option (Option Nat)×Nat×Nat) (λx q=>if q.2.1≥q.2.2 then pure (DX (none,q.2.1,q.2.2)) else
    (elem' arr (base+(q.2.1+(q.2.2-q.2.1)/2)) >>= λx=>if left=true then lt' x key else lt' key x >>= λr=>pure (HU (λx=>!x) r)) >>= λr=>match r with
     | some more=>if more=true then pure (sJ (none,q.2.1+(q.2.2-q.2.1)/2+1,q.2.2)) else pure (sJ (none,q.2.1,q.2.1+(q.2.2-q.2.1)/2))
     | x=>pure (DX (some none,q.2.1,q.2.2)))) (λq av=>av=st/\∃k,q.1=none/\q.2.2=k/\k<=n/\(∀i,i<k->kv κ arr (base+i)<κ key)/\∀i,k<=i->i<n->κ key<kv κ arr (base+i)) st:=λlo hi h1 h2 h3 h4=>by
  refine oh (λx q av=>av=st/\∃l r,q=(none,l,r)/\l<=r/\r<=n/\r-l<=n-x/\(∀i,i<l->kv κ arr (base+i)<κ key)/\∀i,r<=i->i<n->κ key<kv κ arr (base+i)) (λx q av _ hx hI=>?_) (λq av hI=>?_) ⟨rfl,lo,hi,rfl,h1,h2,by ext h2,h3,h4⟩
  .obtain ⟨rfl,l,r,rfl,j1,j2,j3,j4,j5⟩:=hI
   dsimp only
   by_cases c:l≥r
   .rw [if_pos c]
    obtain rfl:l=r:=by ext j1 c
    exact bI ⟨rfl,l,rfl,rfl,j2,j4,j5⟩
   .rw [if_neg c]
    refine bq (ask _ (by lia) ?_)
    dsimp only
    by_cases c2:kv κ arr (base+(l+(r-l)/2))<κ key
    .rw [if_pos (decide_eq_true c2)]
     exact bI ⟨rfl,_,_,rfl,by lia,‹_›,by ext j3,λi hi=>dn i _ (by ext hi) (by lia) c2,j5⟩
    .rw [if_neg (by simpa using c2)]
     have:=ne (l+(r-l)/2) (by lia)
     exact bI ⟨rfl,_,_,rfl,by ext,by lia,by lia,j4,λi hi h'=>up _ i hi h' (by ext c2 this)⟩
  .obtain ⟨rfl,l,r,rfl,j1,j2,j3,j4,j5⟩:=hI
   obtain rfl:l=r:=by ext j1 j3
   exact ⟨rfl,l,rfl,rfl,j2,j4,j5⟩
 by_cases c:kv κ arr (base+hint)<κ key
 .rw [if_pos (decide_eq_true c)]
  refine bq (oa (oh (λx q av=>av=st/\∃l o,q=(none,l,o)/\l<o/\x+1<=o/\hint+l<n/\kv κ arr (base+(hint+l))<κ key) (Q:=λq av=>av=st/\∃l o,q=(none,l,o)/\l<o/\hint+l<n/\kv κ arr (base+(hint+l))<κ key/\(o<n-hint->κ key<kv κ arr (base+(hint+o)))) (λx q av _ hx hI=>?_) (λq av hI=>?_) ⟨rfl,0,1,rfl,by decide,by decide,‹_›,c⟩) λq av hI=>?_)
  .obtain ⟨rfl,l,o,rfl,j1,j2,j3,j4⟩:=hI
   dsimp only
   by_cases c1:o≥n-hint
   .rw [if_pos c1]
    exact bI ⟨rfl,l,o,rfl,j1,j3,j4,λz=>absurd z (by ext c1)⟩
   .rw [if_neg c1]
    refine bq (ask (hint+o) (by ext c1) ?_)
    dsimp only
    by_cases c2:kv κ arr (base+(hint+o))<κ key
    .rw [if_neg (by simpa using c2)]
     exact bI ⟨rfl,o,2*o+1,rfl,by ext,by ext j2,by ext c1,c2⟩
    .rw [if_pos (by simpa using c2)]
     have:=ne (hint+o) (by ext c1)
     exact bI ⟨rfl,l,o,rfl,j1,j3,j4,λ_=>by ext c2 this⟩
  .obtain ⟨rfl,l,o,rfl,j1,j2,j3,j4⟩:=hI
   exact ⟨rfl,l,o,rfl,j1,j3,j4,λz=>absurd z (by ext j2)⟩
  .obtain ⟨rfl,l,o,rfl,j1,j3,j4,j5⟩:=hI
   dsimp only
   refine bq (oa (tail (hint+l+1) (hint+min o (n-hint)) (by ext j1 j3) (by ext hh) (λi hi=>dn i _ (by ext hi) j3 j4) λi hi h'=>?_) λq av hI=>?_)
   .by_cases c1:o<n-hint
    .exact up (hint+o) i (by ext hi c1) h' (j5 c1)
    .ext hi h' c1
   .obtain ⟨rfl,k,e1,rfl,k1,k2,k3⟩:=hI
    rw [e1]
    exact bI (h _ k1 k2 k3)
 .rw [if_neg (by simpa using c)]
  have c0:=ne hint hh
  refine bq (oa (oh (λx q av=>av=st/\∃l o,q=(none,l,o)/\l<o/\x+1<=o/\l<=hint/\κ key<kv κ arr (base+(hint-l))) (Q:=λq av=>av=st/\∃l o,q=(none,l,o)/\l<o/\l<=hint/\κ key<kv κ arr (base+(hint-l))/\(o<hint+1->kv κ arr (base+(hint-o))<κ key)) (λx q av _ hx hI=>?_) (λq av hI=>?_) ⟨rfl,0,1,rfl,by decide,by decide,by ext,by rw [Nat.sub_zero];ext c c0⟩) λq av hI=>?_)
  .obtain ⟨rfl,l,o,rfl,j1,j2,j3,j4⟩:=hI
   dsimp only
   by_cases c1:o≥hint+1
   .rw [if_pos c1]
    exact bI ⟨rfl,l,o,rfl,j1,j3,j4,λz=>absurd z (by ext c1)⟩
   .rw [if_neg c1]
    refine bq (ask (hint-o) (by ext hh) ?_)
    dsimp only
    by_cases c2:kv κ arr (base+(hint-o))<κ key
    .rw [if_pos (decide_eq_true c2)]
     exact bI ⟨rfl,l,o,rfl,j1,j3,j4,λ_=>c2⟩
    .rw [if_neg (by simpa using c2)]
     have:=ne (hint-o) (by ext hh)
     exact bI ⟨rfl,o,2*o+1,rfl,by ext,by ext j2,by ext c1,by ext c2 this⟩
  .obtain ⟨rfl,l,o,rfl,j1,j2,j3,j4⟩:=hI
   exact ⟨rfl,l,o,rfl,j1,j3,j4,λz=>absurd z (by ext hh j2)⟩
  .obtain ⟨rfl,l,o,rfl,j1,j3,j4,j5⟩:=hI
   dsimp only
   refine bq (oa (tail (hint+1-min o (hint+1)) (hint-l) (by ext j1) (by ext hh) (λi hi=>?_) λi hi h'=>up _ i hi h' j4) λq av hI=>?_)
   .by_cases c1:o<hint+1
    .exact dn i (hint-o) (by ext hi) (by ext hh) (j5 c1)
    .ext hi c1
   .obtain ⟨rfl,k,e1,rfl,k1,k2,k3⟩:=hI
    rw [e1]
    exact bI (h _ k1 k2 k3)
end
section
variable {κ:Keyed->Int}
theorem JZ{a:Array Keyed}{i k:Nat}(h:x∈(a.toList.drop i).take k):∃j,∃hj:j<a.size,i<=j/\j<i+k/\x=a[j]:=by
 obtain ⟨n,hn,e⟩:=qV.mp h
 simp only [nu,sd,gD] at hn
 refine ⟨i+n,by ext hn:1,by ext:1,by ext hn:1,?_⟩
 rw [<-e]
 simp
theorem Cw{a:Array Keyed}{i:Nat}(h:x∈a.toList.drop i):∃j,∃hj:j<a.size,i<=j/\x=a[j]:=by
 obtain ⟨n,hn,e⟩:=qV.mp h
 simp only [sd,gD] at hn
 refine ⟨i+n,by ext hn:1,by ext:1,?_⟩
 rw [<-e]
 simp
theorem jg(h:eE κ a.toList)(h1:i<j)(h2:j<a.size):kv κ a i<kv κ a j:=by
 rw [lM (by ext h1 h2:1),lM h2]
 have:=BR.mp h i j (by simp;ext h1 h2:1) (by simpa using h2) h1
 simpa using this
theorem Pb(a:Array Keyed)(i k:Nat):(a.extract i (i+k)).toList=(a.toList.drop i).take k:=by
 rw [Ee,Em,Jj]
theorem Fv(a:Array Keyed)(i:Nat):(a.extract i a.size).toList=a.toList.drop i:=by
 rw [Ee,Em]
 exact xF (by simp)
theorem Kx{a:Array Keyed}{i:Nat}(h:i<a.size):(a.toList.drop i).take 1=[a[i]]:=by
 rw [sR (by simpa using h)]
 simp
end
noncomputable abbrev sg(st:SortSt)(g:Nat):SortSt:=Bz (kindOf st) (arrOf st) (pendingOf st) g (failedOf st)
section
variable {prog:Program}{w:World}{A:Around}{E:Value->Shared->Prop}{s:Shared}{kd:SortKind}{κ:Keyed->Int}{C:Keyed->Prop}
theorem Ex{st:SortSt}{Q:Unit->SortSt->Prop}(h:Q () (sg st g)):wpS (model prog w) A E s (setG' g) Q st:=by
 show wpS _ _ _ _ (modify _) _ _
 exact sI h
theorem yU{st:SortSt}{Q:Unit->SortSt->Prop}(h:Q () st):wpS (model prog w) A E s (liftM (rule t):StateT SortSt Sem Unit) Q st:=wpS_lift (DM ⟨rfl,h⟩)
structure jL(κ:Keyed->Int)(C:Keyed->Prop)(a b:Array Keyed):Prop where
 sa:eE κ a.toList
 sb:eE κ b.toList
 ca:∀x∈a.toList,C x
 cb:∀x∈b.toList,C x
 ne:∀x∈a.toList,∀y∈b.toList,κ x≠κ y
variable {a b:Array Keyed}
theorem jL.Dq(T:jL κ C a b)(h:i<a.size):C a[i]:=T.ca _ (by simp)
theorem jL.Dp(T:jL κ C a b)(h:i<b.size):C b[i]:=T.cb _ (by simp)
theorem jL.yc(T:jL κ C a b)(hi:i<a.size)(hj:j<b.size):κ a[i]≠κ b[j]:=T.ne _ (by simp) _ (by simp)
theorem Bd(hk:Ask prog w s kd κ C)(T:jL κ C a b){st:SortSt}(hd:kindOf st=kd){Q:Option Nat->SortSt->Prop}(hi:i<a.size)(hj:j<b.size)
  (h:∀k,i+k<=a.size->(∀x∈(a.toList.drop i).take k,∀y∈b.toList.drop j,κ x<κ y)->(∀y∈a.toList.drop (i+k),κ b[j]<κ y)->Q (some k) st):wpS (model prog w) A E s (a8c l b[j] a i (a.size-i) 0) Q st:=by
 refine DD hk hd (T.Dp hj) (by ext hi) (by ext hi) (λn hn _ _=>⟨T.Dq hn,T.yc hn hj⟩) (λx y h1 h2=>jg T.sa (by ext h1) (by ext h2)) λk k1 k2 k3=>h k (by ext hi k1) (λx hx y hy=>?_) λy hy=>?_
 .obtain ⟨n,hn,n1,n2,rfl⟩:=JZ hx
  obtain ⟨m,hm,m1,rfl⟩:=Cw hy
  have e:=k2 (n-i) (by ext n1 n2)
  rw [show i+(n-i)=n by ext n1,lM hn] at e
  by_cases c:j=m
  .subst c;exact e
  .have:=jg T.sb (show j<m by ext m1 c) hm
   rw [lM hj,lM hm] at this
   ext hn hm hj e this
 .obtain ⟨n,hn,n1,rfl⟩:=Cw hy
  have e:=k3 (n-i) (by ext n1) (by ext hn n1)
  rw [show i+(n-i)=n by ext n1,lM hn] at e
  exact e
theorem jL.sym(T:jL κ C a b):jL κ C b a:=⟨T.sb,T.sa,T.cb,T.ca,λx hx y hy z=>T.ne y hy x hx z.symm⟩
theorem Inv.rD{out:Array Keyed}{ia ib:Nat}(h:Inv κ a.toList b.toList out.toList ia ib)(T:jL κ C a b)(hi:ia<a.size)(hk:∀y∈b.toList.drop ib,κ a[ia]<κ y):Inv κ a.toList b.toList (out.push a[ia]).toList (ia+1) ib:=by
 rw [vi,<-Kx hi]
 refine h.a T.sa 1 λx hx y hy=>?_
 rw [Kx hi,lE] at hx
 rw [hx]
 exact hk y hy
theorem Inv.rC{out:Array Keyed}{ia ib:Nat}(h:Inv κ a.toList b.toList out.toList ia ib)(T:jL κ C a b)(hi:ib<b.size)(hk:∀y∈a.toList.drop ia,κ b[ib]<κ y):Inv κ a.toList b.toList (out.push b[ib]).toList ia (ib+1):=(h.sym.rD T.sym hi hk).sym
theorem Inv.zQ(h:Inv κ a.toList b.toList out.toList ia ib)(T:jL κ C a b)(k:Nat)(hk:∀x∈(a.toList.drop ia).take k,∀y∈b.toList.drop ib,κ x<κ y):Inv κ a.toList b.toList (out++a.extract ia (ia+k)).toList (ia+k) ib:=by
 rw [r9,Pb]
 exact h.a T.sa k hk
theorem Inv.Gm(h:Inv κ a.toList b.toList out.toList ia ib)(T:jL κ C a b)(k:Nat)(hk:∀x∈(b.toList.drop ib).take k,∀y∈a.toList.drop ia,κ x<κ y):Inv κ a.toList b.toList (out++b.extract ib (ib+k)).toList ia (ib+k):=(h.sym.zQ T.sym k hk).sym
theorem EY(T:jL κ C a b)(hi:i<a.size)(hj:j<b.size)(h:κ b[j]<κ a[i]):∀y∈a.toList.drop i,κ b[j]<κ y:=λy hy=>by
 obtain ⟨n,hn,n1,rfl⟩:=Cw hy
 by_cases c:i=n
 .subst c;exact h
 .have:=jg T.sa (show i<n by ext n1 c) hn
  rw [lM hi,lM hn] at this
  ext hj hn hi h this
def Mg(κ:Keyed->Int)(a b r:Array Keyed):Prop:=eE κ r.toList/\r.toList.Perm (a.toList++b.toList)
theorem Inv.lz(h:Inv κ a.toList b.toList out.toList ia ib)(T:jL κ C a b)(hm:ia=a.size\/ib=b.size):Mg κ a b (out++a.extract ia a.size++b.extract ib b.size):=by
 unfold Mg
 rw [r9,r9,Fv,Fv]
 refine h.done T.sa T.sb λx hx y hy=>?_
 obtain ⟨n,hn,n1,rfl⟩:=Cw hx
 obtain ⟨m,hm,m1,rfl⟩:=Cw hy
 lia
theorem Inv.mV(h:Inv κ a.toList b.toList out.toList ia ib)(T:jL κ C a b)(hm:∀x∈b.toList,∀y∈a.toList.drop (a.size-1),κ x<κ y)(hi:ia+1=a.size):Mg κ a b (out++b.extract ib b.size++a.extract ia a.size):=by
 unfold Mg
 rw [r9,r9,Fv,Fv]
 exact h.last T.sa T.sb λx hx y hy=>hm x (yK hx) y (by rw [<-hi];exact hy)
theorem JO{n:Nat}(h:2<=n)(h':¬n-1=1):2<=n-1:=by ext h h'
theorem V9(h:¬m=1)(h':¬m=0):2<=m:=by ext h h'
theorem AH{β γ:Type}{M:Model}{c:γ->Prop}[∀v,Decidable (c v)]{x y:γ->StateT SortSt Sem β}{Q:β->SortSt->Prop}{st:SortSt}(u:γ->γ)(hx:∀v,x v=y (u v))(h:∀u,wpS M A E s (y u) Q st):∀v,wpS M A E s (if c v then x v else y v) Q st:=λv=>by
 rw [hx]
 split<;>exact h _
theorem EG{β γ δ:Type}{M:Model}{c:Prop}[Decidable c]{R:γ->δ->Prop}{x y:γ->δ->StateT SortSt Sem β}{Q:β->SortSt->Prop}{st:SortSt}(P:γ->δ->Prop)(hF:∀u v,P u v->wpS M A E s (y u v) Q st)
  (h1:∀u v,R u v->(∀u v,P u v->wpS M A E s (y u v) Q st)->c->wpS M A E s (x u v) Q st)(h2:∀u v,R u v->¬c->P u v):∀u v,R u v->wpS M A E s (if c then x u v else y u v) Q st:=λu v hR=>by
 by_cases hc:c
 .rw [if_pos hc];exact h1 u v hR hF hc
 .rw [if_neg hc];exact hF u v (h2 u v hR hc)
structure J(κ:Keyed->Int)(a b out:Array Keyed)(ia ib:Nat):Prop where
 inv:Inv κ a.toList b.toList out.toList ia ib
 la:ia+1<a.size
 lb:ib<b.size
theorem SQ(hk:Ask prog w s kd κ C)(T:jL κ C a b){st:SortSt}(hd:kindOf st=kd){Q:Array Keyed->SortSt->Prop}(ha:0<a.size)(hb:0<b.size)(h0:κ b[0]<κ a[0])(hm:∀x∈b.toList,∀y∈a.toList.drop (a.size-1),κ x<κ y)
  (h:∀r g,Mg κ a b r->Q r (sg st g)):wpS (model prog w) A E s (b1V a b) Q st:=by
 unfold wpS
 wp_delta
 wp_delta
 wp_delta
 refine y6 (Q:=Q) (bq (yU (bq (lH hb ?_))))
 dsimp only
 have i0:Inv κ a.toList b.toList (#[b[0]]:Array Keyed).toList 0 1:=(AK (κ:=κ) (la:=a.toList) (lb:=b.toList)).rC (out:=#[]) T hb (EY T ha hb h0)
 by_cases c1:1=b.size
 .rw [if_pos (by simpa using c1)]
  exact bI (h _ (gallopOf st) (i0.lz T (.inr c1)))
 rw [if_neg (by simpa using c1)]
 by_cases c2:0+1=a.size
 .rw [if_pos (by simpa using c2)]
  exact bI (h _ (gallopOf st) (i0.mV T hm c2))
 rw [if_neg (by simpa using c2)]
 refine bq (qw ?_)
 refine bq (oa (oh (λx q av=>(∃g,av=sg st g)/\∃out ia ib mg,q=(none,out,ia,ib,mg)/\J κ a b out ia ib/\x+1<=ia+ib) (Q:=λq av=>(∃g,av=sg st g)/\∃r,q.1=some r/\Mg κ a b r) (λx q av _ hx hI=>?_) (λq av hI=>?_) ⟨⟨gallopOf st,rfl⟩,_,_,_,_,rfl,⟨i0,by ext ha c2,by ext hb c1⟩,by decide⟩) λq av hI=>?_)
 .obtain ⟨⟨g,rfl⟩,out,ia,ib,mg,rfl,hJ,hp⟩:=hI
  dsimp only
  refine bq (oa (oh (λx q av=>(∃g,av=sg st g)/\∃jl o7 o6 ac bc,q=(none,jl,o7,o6,ac,bc)/\J κ a b jl o7 o6/\ia+ib+x<=o7+o6) (Q:=λq av=>(∃g,av=sg st g)/\((∃r,q.1=some r/\Mg κ a b r)\/∃jl o7 o6 ac bc,q=(none,jl,o7,o6,ac,bc)/\J κ a b jl o7 o6/\ia+ib+1<=o7+o6)) (λx q av _ hx hI=>?_) (λq av hI=>?_) ⟨⟨_,rfl⟩,_,_,_,_,_,rfl,hJ,by ext⟩) λq av hI=>?_)
  .obtain ⟨⟨g,rfl⟩,out,ia,ib,ac,bc,rfl,hJ,hp⟩:=hI
   dsimp only
   refine bq (lH hJ.lb (bq (lH (xB hJ.la) (bq (AB hk hd (T.Dp hJ.lb) (T.Dq _) (kY (T.yc _ hJ.lb)) ?_)))))
   dsimp only
   have la:=hJ.la
   have lb:=hJ.lb
   by_cases c:κ b[ib]<κ a[ia]
   .rw [if_pos (decide_eq_true c)]
    refine bq (lH hJ.lb ?_)
    have i2:=hJ.inv.rC T hJ.lb (EY T (by ext la) lb c)
    by_cases d1:ib+1=b.size
    .rw [if_pos (by simpa using d1)]
     exact bI ⟨⟨_,rfl⟩,.inl ⟨_,rfl,i2.lz T (.inr d1)⟩⟩
    rw [if_neg (by simpa using d1)]
    by_cases d2:bc+1≥mg
    .rw [if_pos d2]
     exact bI ⟨⟨_,rfl⟩,.inr ⟨_,_,_,_,_,rfl,⟨i2,la,by ext lb d1⟩,by ext hp⟩⟩
    .rw [if_neg d2]
     exact bI ⟨⟨_,rfl⟩,_,_,_,_,_,rfl,⟨i2,la,by ext lb d1⟩,by ext hp⟩
   .rw [if_neg (by simpa using c)]
    refine bq (lH (xB hJ.la) ?_)
    have cW:=T.yc (xB hJ.la) hJ.lb
    have i2:=hJ.inv.rD T (xB hJ.la) (EY T.sym lb (by ext la) (by ext la lb ha hb c cW))
    by_cases d1:ia+1+1=a.size
    .rw [if_pos (by simpa using d1)]
     exact bI ⟨⟨_,rfl⟩,.inl ⟨_,rfl,i2.mV T hm d1⟩⟩
    rw [if_neg (by simpa using d1)]
    by_cases d2:ac+1≥mg
    .rw [if_pos d2]
     exact bI ⟨⟨_,rfl⟩,.inr ⟨_,_,_,_,_,rfl,⟨i2,by ext la d1,lb⟩,by ext hp⟩⟩
    .rw [if_neg d2]
     exact bI ⟨⟨_,rfl⟩,_,_,_,_,_,rfl,⟨i2,by ext la d1,lb⟩,by ext hp⟩
  .obtain ⟨hg,out,ia,ib,ac,bc,rfl,hJ,hp⟩:=hI
   exact ⟨hg,.inr ⟨_,_,_,_,_,rfl,hJ,by ext hb hp⟩⟩
  .obtain ⟨⟨g,rfl⟩,⟨r,e,hr⟩ | ⟨jl,o7,o6,ac,bc,rfl,Hq,wK⟩⟩:=hI
   .obtain ⟨q1,q2⟩:=q
    dsimp only at e
    rw [e]
    exact bI ⟨⟨_,rfl⟩,_,rfl,hr⟩
   dsimp only
   refine bq (yU ?_)
   refine bq (oa (oh (λx q av=>(∃g,av=sg st g)/\∃out ja jb mg ac bc,q=(none,out,ja,jb,mg,ac,bc)/\J κ a b out ja jb/\o7+o6<=ja+jb) (Q:=λq av=>(∃g,av=sg st g)/\((∃r,q.1=some r/\Mg κ a b r)\/∃out ja jb mg ac bc,q=(none,out,ja,jb,mg,ac,bc)/\J κ a b out ja jb/\o7+o6<=ja+jb)) (λx q av _ hx hI=>?_) (λq av hI=>?_) ⟨⟨_,rfl⟩,_,_,_,_,_,_,rfl,Hq,by ext⟩) λq av hI=>?_)
   .obtain ⟨⟨g,rfl⟩,out,ja,jb,mg,ac,bc,rfl,hJ,hp⟩:=hI
    dsimp only
    have la:=hJ.la
    have lb:=hJ.lb
    revert mg
    refine AH (λmg=>mg-1) (λ_=>rfl) λmg=>?_
    refine bq (Ex (bq (lH lb (bq ?_))))
    refine Bd hk T ?_ (xB la) lb λk k1 k2 k3=>?_
    .exact hd
    dsimp only
    have hR:Inv κ a.toList b.toList out.toList ja jb/\(k=0->∀y∈a.toList.drop ja,κ b[jb]<κ y)/\(k=0->ja+1<a.size)/\o7+o6<=ja+jb/\ja+k<=a.size/\(∀x∈(a.toList.drop ja).take k,∀y∈b.toList.drop jb,κ x<κ y)/\∀y∈a.toList.drop (ja+k),κ b[jb]<κ y:=⟨hJ.inv,λz=>by rw [z] at k3;exact k3,λ_=>la,hp,k1,k2,k3⟩
    clear hJ la hp k1 k2 k3
    revert out ja
    refine EG (λo j=>Inv κ a.toList b.toList o.toList j jb/\j+1<a.size/\(∀y∈a.toList.drop j,κ b[jb]<κ y)/\o7+o6<=j+jb) ?_ (λout ja hR hF d0=>?_) λout ja hR d0=>⟨hR.1,hR.2.2.1 (xE d0),hR.2.1 (xE d0),hR.2.2.2.1⟩
    .rintro o j ⟨i1,hj,k3,hp⟩
     have Dx:=xB hj
     refine bq (lH lb ?_)
     have i2:=i1.rC T lb k3
     by_cases d3:jb+1=b.size
     .rw [if_pos (by simpa using d3)]
      exact bI ⟨⟨_,rfl⟩,.inl ⟨_,rfl,i2.lz T (.inr d3)⟩⟩
     rw [if_neg (by simpa using d3)]
     have l2:jb+1<b.size:=BH lb d3
     refine bq (lH Dx (bq ?_))
     refine Bd hk T.sym ?_ l2 Dx λm m1 m2 m3=>?_
     .exact hd
     dsimp only
     have hR:Inv κ a.toList b.toList (o.push b[jb]).toList j (jb+1)/\(m=0->∀y∈b.toList.drop (jb+1),κ a[j]<κ y)/\jb+1<b.size/\o7+o6<=j+(jb+1)/\jb+1+m<=b.size/\(∀x∈(b.toList.drop (jb+1)).take m,∀y∈a.toList.drop j,κ x<κ y)/\∀y∈b.toList.drop (jb+1+m),κ a[j]<κ y:=⟨i2,λz=>by rw [z] at m3;exact m3,l2,Nat.le_succ_of_le hp,m1,m2,m3⟩
     clear i2 l2 m1 m2 m3
     generalize o.push b[jb]=o2 at hR ⊢
     generalize jb+1=j2 at hR ⊢
     revert o2 j2
     refine EG (λp q=>Inv κ a.toList b.toList p.toList j q/\q<b.size/\(∀y∈b.toList.drop q,κ a[j]<κ y)/\o7+o6<=j+q) ?_ (λo2 j2 hR hF d4=>?_) λout ja hR d0=>⟨hR.1,hR.2.2.1,hR.2.1 (xE d0),hR.2.2.2.1⟩
     .rintro p q ⟨i3,hq,m3,hp⟩
      refine bq (lH Dx ?_)
      have i4:=i3.rD T Dx m3
      by_cases d6:j+1+1=a.size
      .rw [if_pos (by simpa using d6)]
       exact bI ⟨⟨_,rfl⟩,.inl ⟨_,rfl,i4.mV T hm d6⟩⟩
      rw [if_neg (by simpa using d6)]
      have hJ:J κ a b (p.push a[j]) (j+1) q:=⟨i4,BH hj d6,hq⟩
      have Mo:o7+o6<=j+1+q:=jA hp (IE (vg j) q)
      by_cases d7:(decide (k<7)&&decide (m<7))=true
      .rw [if_pos d7]
       exact bI ⟨⟨_,rfl⟩,.inr ⟨_,_,_,_,_,_,rfl,hJ,Mo⟩⟩
      .rw [if_neg d7]
       exact bI ⟨⟨_,rfl⟩,_,_,_,_,_,_,rfl,hJ,Mo⟩
     .obtain ⟨i2,_,l2,hp,m1,m2,m3⟩:=hR
      have i3:=i2.Gm T m m2
      by_cases d5:j2+m=b.size
      .rw [if_pos (by simpa using d5)]
       exact bI ⟨⟨_,rfl⟩,.inl ⟨_,rfl,i3.lz T (.inr d5)⟩⟩
      rw [if_neg (by simpa using d5)]
      exact hF _ _ ⟨i3,BH m1 d5,m3,jA hp (Nl (I0 j2 m) j)⟩
    .obtain ⟨i0,_,la,hp,k1,k2,k3⟩:=hR
     have i1:=i0.zQ T k k2
     by_cases d1:ja+k+1=a.size
     .rw [if_pos (by simpa using d1)]
      exact bI ⟨⟨_,rfl⟩,.inl ⟨_,rfl,i1.mV T hm d1⟩⟩
     rw [if_neg (by simpa using d1)]
     by_cases d2:ja+k=a.size
     .rw [if_pos (by simpa using d2)]
      exact bI ⟨⟨_,rfl⟩,.inl ⟨_,rfl,i1.lz T (.inl d2)⟩⟩
     rw [if_neg (by simpa using d2)]
     exact hF _ _ ⟨i1,BH (BH k1 d2) d1,k3,jA hp (IE (I0 ja k) jb)⟩
   .obtain ⟨hg,out,ja,jb,mg,ac,bc,rfl,hJ,hp⟩:=hI
    exact ⟨hg,.inr ⟨_,_,_,_,_,_,rfl,hJ,‹_›⟩⟩
   .obtain ⟨⟨g,rfl⟩,⟨r,e,hr⟩ | ⟨out,ja,jb,mg,ac,bc,rfl,hJ,hp⟩⟩:=hI
    .obtain ⟨q1,q2⟩:=q
     dsimp only at e
     rw [e]
     exact bI ⟨⟨_,rfl⟩,_,rfl,hr⟩
    .dsimp only
     exact bq (Ex (bI ⟨⟨_,rfl⟩,_,_,_,_,rfl,hJ,by lia⟩))
 .obtain ⟨_,out,ia,ib,mg,rfl,hJ,hp⟩:=hI
  have la:=hJ.la
  have lb:=hJ.lb
  ext _ hb hp la lb
 .obtain ⟨⟨g,rfl⟩,r,e,hr⟩:=hI
  rw [e]
  exact bI (h _ _ hr)
end
section
variable {prog:Program}{w:World}{A:Around}{E:Value->Shared->Prop}{s:Shared}{kd:SortKind}{κ:Keyed->Int}{C:Keyed->Prop}{a b:Array Keyed}
noncomputable def ng(κ:Keyed->Int)(x:Keyed):Int:=-κ x
theorem dG:eE (ng κ) l.reverse↔eE κ l:=by
 unfold eE
 rw [List.pairwise_reverse]
 constructor<;>exact λh=>h.imp λz=>by unfold ng at *;ext z
theorem sT(l:List Keyed)(h:n<=l.length):l.reverse.drop (l.length-n)=(l.take n).reverse:=by
 rw [List.reverse_take]
theorem NP(l:List Keyed)(h:n<=l.length)(hk:k<=n):(l.reverse.drop (l.length-n)).take (n-k)=((l.take n).drop k).reverse:=by
 rw [sT l h,List.reverse_drop,nu,Nat.min_eq_left h]
theorem Fu(a:Array Keyed)(n:Nat):(a.extract 0 n).toList=a.toList.take n:=by
 rw [Ee,Em]
 rfl
theorem J'(a:Array Keyed)(i n:Nat):(a.extract i n).toList=(a.toList.take n).drop i:=by
 rw [Ee,Em,Iy]
structure H(κ:Keyed->Int)(a b out:Array Keyed)(na nb:Nat):Prop where
 inv:Inv (ng κ) a.toList.reverse b.toList.reverse out.toList (a.toList.length-na) (b.toList.length-nb)
 la:na<=a.toList.length
 lb:nb<=b.toList.length
variable {out:Array Keyed}{na nb:Nat}
theorem H.sym(h:H κ a b out na nb):H κ b a out nb na:=⟨h.inv.sym,h.lb,h.la⟩
theorem H.seg(h:H κ a b out na nb)(T:jL κ C a b)(hk:k<=na)(hx:∀x∈(a.toList.take na).drop k,∀y∈b.toList.take nb,κ y<κ x):H κ a b (out++(a.extract k na).reverse) k nb:=by
 have la:=h.la
 refine ⟨?_,by ext hk la,h.lb⟩
 have i:=h.inv.a (dG.mpr T.sa) (na-k) λx kU y hy=>?_
 .rw [NP _ h.la hk,show a.toList.length-na+(na-k)=a.toList.length-k by ext hk la] at i
  rw [r9,Ed,J']
  exact i
 .rw [NP _ h.la hk] at kU
  rw [sT _ h.lb] at hy
  have:=hx x (yz.mp kU) y (yz.mp hy)
  unfold ng
  ext this
theorem H.push(h:H κ a b out na nb)(T:jL κ C a b)(h0:0<na)(hn:na-1<a.size)(hx:∀y∈b.toList.take nb,κ y<κ a[na-1]):H κ a b (out.push a[na-1]) (na-1) nb:=by
 have la:=h.la
 rw [gD] at la
 have e:(a.toList.take na).drop (na-1)=[a[na-1]]:=by
  rw [Iy,show na-(na-1)=1 by ext h0,Kx hn]
 have:=h.seg T (k:=na-1) (by ext) λx kU y hy=>by
  rw [e,lE] at kU
  rw [kU]
  exact hx y hy
 have e2:out++(a.extract (na-1) na).reverse=out.push a[na-1]:=by
  apply Im.mp
  rw [r9,Ed,J',e,vi]
  rfl
 rw [e2] at this
 exact this
theorem H.Ax(h:H κ a b out na nb)(T:jL κ C a b)(hm:na=0\/nb=0):Mg κ a b (a.extract 0 na++b.extract 0 nb++out.reverse):=by
 have q:=h.inv.last (dG.mpr T.sa) (dG.mpr T.sb) λx hx y hy=>by
  rw [sT _ h.lb,yz] at hx
  rw [sT _ h.la,yz] at hy
  rcases hm with rfl | rfl
  .rw [List.take_zero] at hy;cases hy
  .rw [List.take_zero] at hx;cases hx
 have e:(a.extract 0 na++b.extract 0 nb++out.reverse).toList=(out.toList++b.toList.reverse.drop (b.toList.length-nb)++a.toList.reverse.drop (a.toList.length-na)).reverse:=by
  rw [sT _ h.lb,sT _ h.la,r9,r9,Ed,Fu,Fu]
  simp
 unfold Mg
 rw [e]
 refine ⟨?_,?_⟩
 .have:=q.1
  rw [<-MW (as:=out.toList++_++_)] at this
  exact dG.mp this
 .refine (yB _).trans (q.2.trans ?_)
  exact (yB _).append (yB _)
theorem H.Dj(h:H κ a b out na nb)(T:jL κ C a b)(hm:∀x∈b.toList.take nb,∀y∈a.toList,κ x<κ y):Mg κ a b (b.extract 0 nb++a.extract 0 na++out.reverse):=by
 have q:=h.inv.done (dG.mpr T.sa) (dG.mpr T.sb) λx hx y hy=>by
  rw [sT _ h.la,yz] at hx
  rw [sT _ h.lb,yz] at hy
  have:=hm y hy x (xw hx)
  unfold ng
  ext this
 have e:(b.extract 0 nb++a.extract 0 na++out.reverse).toList=(out.toList++a.toList.reverse.drop (a.toList.length-na)++b.toList.reverse.drop (b.toList.length-nb)).reverse:=by
  rw [sT _ h.lb,sT _ h.la,r9,r9,Ed,Fu,Fu]
  simp
 unfold Mg
 rw [e]
 refine ⟨?_,?_⟩
 .have:=q.1
  rw [<-MW (as:=out.toList++_++_)] at this
  exact dG.mp this
 .refine (yB _).trans (q.2.trans ?_)
  exact (yB _).append (yB _)
theorem JF(h:x∈a.toList.take n):∃j,∃hj:j<a.size,j<n/\x=a[j]:=by
 obtain ⟨j,hj,_,j2,e⟩:=JZ (i:=0) (k:=n) (by rw [DW];exact h)
 exact ⟨j,hj,by ext j2,e⟩
theorem Jo(T:jL κ C a b)(hi:i<a.size)(hj:j<b.size)(h:κ b[j]<κ a[i]):∀y∈b.toList.take (j+1),κ y<κ a[i]:=λy hy=>by
 obtain ⟨m,hm,m1,rfl⟩:=JF hy
 by_cases c:m=j
 .subst c;exact h
 .have:=jg T.sb (show m<j by ext m1 c) hj
  rw [lM hm,lM hj] at this
  ext hm hi hj h this
theorem Bc(hk:Ask prog w s kd κ C)(T:jL κ C a b){st:SortSt}(hd:kindOf st=kd){Q:Option Nat->SortSt->Prop}(hn:n<=a.size)(h0:0<n)(hj:j<b.size)
  (h:∀k,k<=n->(∀x∈(a.toList.take n).drop k,∀y∈b.toList.take (j+1),κ y<κ x)->(∀y∈a.toList.take k,κ y<κ b[j])->Q (some k) st):wpS (model prog w) A E s (a8c l b[j] a 0 n (n-1)) Q st:=by
 refine DD hk hd (T.Dp hj) (by ext hn) (by ext h0) (λn hn _ _=>⟨T.Dq hn,T.yc hn hj⟩) (λx y h1 h2=>jg T.sa (by ext h1) (by ext hn h2)) λk k1 k2 k3=>h k ‹_› (λx hx=>?_) λy hy=>?_
 .rw [Iy] at hx
  obtain ⟨m,hm,m1,m2,rfl⟩:=JZ hx
  have e:=k3 m ‹_› (by ext k1 m2)
  rw [BG,lM hm] at e
  exact Jo T hm hj e
 .obtain ⟨m,hm,m1,rfl⟩:=JF hy
  have e:=k2 m ‹_›
  rw [BG,lM hm] at e
  exact e
theorem SR(hk:Ask prog w s kd κ C)(T:jL κ C a b){st:SortSt}(hd:kindOf st=kd){Q:Array Keyed->SortSt->Prop}(ha:0<a.size)(hb:0<b.size)(h0:κ b[0]<κ a[0])(hm:∀x∈b.toList,κ x<κ a[a.size-1])
  (h:∀r g,Mg κ a b r->Q r (sg st g)):wpS (model prog w) A E s (b1W a b) Q st:=by
 unfold wpS
 wp_delta
 wp_delta
 wp_delta
 refine y6 (Q:=Q) (bq (yU (bq (lH (show a.size-1<a.size by ext ha) ?_))))
 dsimp only
 have hz:H κ a b #[] a.size b.size:=⟨by rw [gD,gD,BF,BF];exact AK,by simp,by simp⟩
 have i0:H κ a b #[a[a.size-1]] (a.size-1) b.size:=hz.push T ha (by ext ha) λy hy=>hm y (xw hy)
 have hf:∀x∈b.toList.take 1,∀y∈a.toList,κ x<κ y:=λx hx y hy=>by
  obtain ⟨m,hm,m1,rfl⟩:=JF hx
  obtain rfl:m=0:=by ext m1
  exact EY T ha hb h0 y (by rw [DW];exact hy)
 by_cases c1:a.size-1=0
 .rw [if_pos (by simpa using c1)]
  exact bI (h _ (gallopOf st) (i0.Ax T (.inl c1)))
 rw [if_neg (by simpa using c1)]
 by_cases c2:b.size=1
 .rw [if_pos (by simpa using c2)]
  exact bI (h _ (gallopOf st) (i0.Dj T (by rw [c2];exact hf)))
 rw [if_neg (by simpa using c2)]
 refine bq (qw ?_)
 refine bq (oa (oh (λx q av=>(∃g,av=sg st g)/\∃na nb out mg,q=(none,na,nb,out,mg)/\H κ a b out na nb/\1<=na/\2<=nb/\na+nb+x+1<=a.size+b.size) (Q:=λq av=>(∃g,av=sg st g)/\∃r,q.1=some r/\Mg κ a b r) (λx q av _ hx hI=>?_) (λq av hI=>?_) ⟨⟨gallopOf st,rfl⟩,_,_,_,_,rfl,i0,by ext ha c1,by ext hb c2,by ext ha⟩) λq av hI=>?_)
 .obtain ⟨⟨g,rfl⟩,na,nb,out,mg,rfl,hJ,ga,gb,hp⟩:=hI
  dsimp only
  refine bq (oa (oh (λx q av=>(∃g,av=sg st g)/\∃pT pS jl ac bc,q=(none,pT,pS,jl,ac,bc)/\H κ a b jl pT pS/\1<=pT/\2<=pS/\pT+pS+x<=na+nb) (Q:=λq av=>(∃g,av=sg st g)/\((∃r,q.1=some r/\Mg κ a b r)\/∃pT pS jl ac bc,q=(none,pT,pS,jl,ac,bc)/\H κ a b jl pT pS/\1<=pT/\2<=pS/\pT+pS+1<=na+nb)) (λx q av _ hx hI=>?_) (λq av hI=>?_) ⟨⟨_,rfl⟩,_,_,_,_,_,rfl,hJ,ga,gb,by ext⟩) λq av hI=>?_)
  .obtain ⟨⟨g,rfl⟩,na,nb,out,ac,bc,rfl,hJ,ga,gb,hp⟩:=hI
   dsimp only
   have la:=hJ.la
   have lb:=hJ.lb
   rw [gD] at la lb
   have xa:na-1<a.size:=by ext ga la
   have xb:nb-1<b.size:=by ext gb lb
   refine bq (lH xb (bq (lH xa (bq (AB hk hd (T.Dp xb) (T.Dq xa) (kY (T.yc xa xb)) ?_)))))
   dsimp only
   by_cases c:κ b[nb-1]<κ a[na-1]
   .rw [if_pos (decide_eq_true c)]
    refine bq (lH xa ?_)
    have i2:=hJ.push T ‹_› xa (by have:=Jo T xa xb c;rw [show nb-1+1=nb by ext gb] at this;exact this)
    by_cases d1:na-1=0
    .rw [if_pos (by simpa using d1)]
     exact bI ⟨⟨_,rfl⟩,.inl ⟨_,rfl,i2.Ax T (.inl d1)⟩⟩
    rw [if_neg (by simpa using d1)]
    by_cases d2:ac+1≥mg
    .rw [if_pos d2]
     exact bI ⟨⟨_,rfl⟩,.inr ⟨_,_,_,_,_,rfl,i2,by ext d1,‹_›,by ext hp d1⟩⟩
    .rw [if_neg d2]
     exact bI ⟨⟨_,rfl⟩,_,_,_,_,_,rfl,i2,by ext d1,‹_›,by ext hp d1⟩
   .rw [if_neg (by simpa using c)]
    refine bq (lH xb ?_)
    have cW:=T.yc xa xb
    have i2:=(hJ.sym.push T.sym (by ext gb) xb (by have:=Jo T.sym xb xa (by ext xa xb c cW);rw [show na-1+1=na by ext ga] at this;exact this)).sym
    by_cases d1:nb-1=1
    .rw [if_pos (by simpa using d1)]
     exact bI ⟨⟨_,rfl⟩,.inl ⟨_,rfl,i2.Dj T (by rw [d1];exact hf)⟩⟩
    rw [if_neg (by simpa using d1)]
    by_cases d2:bc+1≥mg
    .rw [if_pos d2]
     exact bI ⟨⟨_,rfl⟩,.inr ⟨_,_,_,_,_,rfl,i2,‹_›,by ext gb d1,by ext gb hp⟩⟩
    .rw [if_neg d2]
     exact bI ⟨⟨_,rfl⟩,_,_,_,_,_,rfl,i2,‹_›,by ext gb d1,by ext gb hp⟩
  .obtain ⟨hg,na,nb,out,ac,bc,rfl,hJ,ga,gb,hp⟩:=hI
   exact ⟨hg,.inr ⟨_,_,_,_,_,rfl,hJ,ga,gb,by ext ha hb hp⟩⟩
  .obtain ⟨⟨g,rfl⟩,⟨r,e,hr⟩ | ⟨pT,pS,jl,ac,bc,rfl,Hq,Ui,Uh,wK⟩⟩:=hI
   .obtain ⟨q1,q2⟩:=q
    dsimp only at e
    rw [e]
    exact bI ⟨⟨_,rfl⟩,_,rfl,hr⟩
   dsimp only
   refine bq (yU ?_)
   refine bq (oa (oh (λx q av=>(∃g,av=sg st g)/\∃ja jb out mg ac bc,q=(none,ja,jb,out,mg,ac,bc)/\H κ a b out ja jb/\1<=ja/\2<=jb/\ja+jb<=pT+pS) (Q:=λq av=>(∃g,av=sg st g)/\((∃r,q.1=some r/\Mg κ a b r)\/∃ja jb out mg ac bc,q=(none,ja,jb,out,mg,ac,bc)/\H κ a b out ja jb/\1<=ja/\2<=jb/\ja+jb<=pT+pS)) (λx q av _ hx hI=>?_) (λq av hI=>?_) ⟨⟨_,rfl⟩,_,_,_,_,_,_,rfl,Hq,Ui,Uh,by ext⟩) λq av hI=>?_)
   .obtain ⟨⟨g,rfl⟩,ja,jb,out,mg,ac,bc,rfl,hJ,ga,gb,hp⟩:=hI
    dsimp only
    have la:=hJ.la
    have lb:=hJ.lb
    rw [gD] at la lb
    have xb:jb-1<b.size:=by ext gb lb
    revert mg
    refine AH (λmg=>mg-1) (λ_=>rfl) λmg=>?_
    refine bq (Ex (bq (lH xb (bq ?_))))
    refine Bc hk T ?_ la ga xb λk k1 k2 k3=>?_
    .exact hd
    dsimp only
    have jj:jb-1+1=jb:=Nat.sub_add_cancel (IM gb)
    rw [jj] at k2
    have hR:H κ a b out ja jb/\(ja-k=0->1<=ja/\ja<=k)/\k<=ja/\(∀x∈(a.toList.take ja).drop k,∀y∈b.toList.take jb,κ y<κ x):=⟨hJ,λz=>⟨ga,M0 z⟩,k1,k2⟩
    have TR:k<=a.size:=jA k1 la
    have Tv:k+jb<=pT+pS:=jA (IE k1 jb) hp
    clear hJ k2 la ga hp k1
    generalize ja-k=cnt at hR ⊢
    revert out ja
    refine EG (λn o=>H κ a b o n jb/\n=k/\1<=n) ?_ (λja out hR hF d0=>?_) λja out hR d0=>⟨hR.1,Nat.le_antisymm (hR.2.1 (xE d0)).2 hR.2.2.1,(hR.2.1 (xE d0)).1⟩
    .rintro n o ⟨i1,rfl,hn⟩
     have xa:n-1<a.size:=nr (Nat.sub_lt hn Nat.one_pos) TR
     refine bq (lH xb ?_)
     have i2:=(i1.sym.push T.sym (Nat.lt_of_succ_le (IM gb)) xb k3).sym
     by_cases d3:jb-1=1
     .rw [if_pos (by simpa using d3)]
      exact bI ⟨⟨_,rfl⟩,.inl ⟨_,rfl,i2.Dj T (by rw [d3];exact hf)⟩⟩
     rw [if_neg (by simpa using d3)]
     have g2:2<=jb-1:=JO gb d3
     have g3:jb-1<=b.size:=ve xb
     refine bq (lH xa (bq ?_))
     refine Bc hk T.sym ?_ g3 (xB g2) xa λm m1 m2 m3=>?_
     .exact hd
     dsimp only
     rw [Nat.sub_add_cancel hn] at m2
     have hR:H κ a b (o.push b[jb-1]) n (jb-1)/\(jb-1-m=0->2<=jb-1/\jb-1<=m)/\m<=jb-1/\(∀x∈(b.toList.take (jb-1)).drop m,∀y∈a.toList.take n,κ y<κ x):=⟨i2,λz=>⟨g2,M0 z⟩,m1,m2⟩
     have Mn:n-1+m<=pT+pS:=jA (Nat.add_le_add (Nat.sub_le n 1) (jA m1 (Nat.sub_le jb 1))) Tv
     clear i2 g2 g3 m1 m2
     generalize jb-1-m=HP at hR ⊢
     generalize o.push b[jb-1]=o2 at hR ⊢
     generalize jb-1=j2 at hR ⊢
     revert o2 j2
     refine EG (λp q=>H κ a b p n q/\q=m/\2<=q) ?_ (λo2 j2 hR hF d4=>?_) λout ja hR d0=>⟨hR.1,Nat.le_antisymm (hR.2.1 (xE d0)).2 hR.2.2.1,(hR.2.1 (xE d0)).1⟩
     .rintro p q ⟨i3,rfl,hq⟩
      refine bq (lH xa ?_)
      have i4:=i3.push T hn xa m3
      by_cases d6:n-1=0
      .rw [if_pos (by simpa using d6)]
       exact bI ⟨⟨_,rfl⟩,.inl ⟨_,rfl,i4.Ax T (.inl d6)⟩⟩
      rw [if_neg (by simpa using d6)]
      have h6:1<=n-1:=IW d6
      by_cases d7:(decide (cnt<7)&&decide (HP<7))=true
      .rw [if_pos d7]
       exact bI ⟨⟨_,rfl⟩,.inr ⟨_,_,_,_,_,_,rfl,i4,h6,hq,Mn⟩⟩
      .rw [if_neg d7]
       exact bI ⟨⟨_,rfl⟩,_,_,_,_,_,_,rfl,i4,h6,hq,Mn⟩
     .obtain ⟨i2,_,m1,m2⟩:=hR
      have i3:=(i2.sym.seg T.sym m1 m2).sym
      by_cases d5:m=1
      .rw [if_pos (by simpa using d5)]
       exact bI ⟨⟨_,rfl⟩,.inl ⟨_,rfl,i3.Dj T (by rw [d5];exact hf)⟩⟩
      rw [if_neg (by simpa using d5)]
      by_cases d8:m=0
      .rw [if_pos (by simpa using d8)]
       exact bI ⟨⟨_,rfl⟩,.inl ⟨_,rfl,i3.Ax T (.inr d8)⟩⟩
      rw [if_neg (by simpa using d8)]
      exact hF _ _ ⟨i3,rfl,V9 d5 d8⟩
    .obtain ⟨hJ,_,k1,k2⟩:=hR
     have i1:=hJ.seg T k1 k2
     by_cases d1:k=0
     .rw [if_pos (by simpa using d1)]
      exact bI ⟨⟨_,rfl⟩,.inl ⟨_,rfl,i1.Ax T (.inl d1)⟩⟩
     rw [if_neg (by simpa using d1)]
     exact hF _ _ ⟨i1,rfl,IW d1⟩
   .obtain ⟨hg,ja,jb,out,mg,ac,bc,rfl,hJ,ga,gb,hp⟩:=hI
    exact ⟨hg,.inr ⟨_,_,_,_,_,_,rfl,hJ,ga,gb,‹_›⟩⟩
   .obtain ⟨⟨g,rfl⟩,⟨r,e,hr⟩ | ⟨ja,jb,out,mg,ac,bc,rfl,hJ,ga,gb,hp⟩⟩:=hI
    .obtain ⟨q1,q2⟩:=q
     dsimp only at e
     rw [e]
     exact bI ⟨⟨_,rfl⟩,_,rfl,hr⟩
    .dsimp only
     exact bq (Ex (bI ⟨⟨_,rfl⟩,_,_,_,_,rfl,hJ,ga,gb,by lia⟩))
 .obtain ⟨_,na,nb,out,mg,rfl,hJ,ga,gb,hp⟩:=hI
  ext _ hp
 .obtain ⟨⟨g,rfl⟩,r,e,hr⟩:=hI
  rw [e]
  exact bI (h _ _ hr)
end
section
variable {prog:Program}{w:World}{A:Around}{E:Value->Shared->Prop}{s:Shared}{kd:SortKind}{κ:Keyed->Int}{C:Keyed->Prop}
theorem Xd{σ:Type}{M:Model}{Q:PUnit->σ->Prop}{st av:σ}(h:Q ⟨⟩ av):wpS M A E s (set av:StateT σ Sem PUnit) Q st:=by
 unfold wpS
 rw [StateT.run_set]
 exact bJ ⟨rfl,h⟩
theorem OA(e:arr.toList=P++R++S)(h:i<R.length):kv κ arr (P.length+i)=κ R[i]:=by
 unfold kv
 have:arr[P.length+i]?=some R[i]:=by
  rw [<-sQ,e,iW,uf (by ext),xD (by ext h)]
  simp [h]
 rw [this]
def vS(κ:Keyed->Int)(l:List Keyed):Prop:=(l.map κ).Nodup
theorem vS.ne{arr:Array Keyed}(h:vS κ arr.toList){i j:Nat}(hi:i<arr.size)(hj:j<arr.size)(js:i≠j):κ arr[i]≠κ arr[j]:=λz=>by
 refine js ((List.getElem_inj (h₀:=by simpa using hi) (h₁:=by simpa using hj) h).mp ?_)
 simpa using z
theorem vS.app(h:vS κ (l++m)):∀x∈l,∀y∈m,κ x≠κ y:=λx hx y hy z=>by
 unfold vS at h
 rw [mJ,List.nodup_append] at h
 exact h.2.2 _ (pF.mpr ⟨x,hx,rfl⟩) _ (pF.mpr ⟨y,hy,rfl⟩) z
theorem E9{R:List Keyed}(h:eE κ R){i j:Nat}(js:i<j)(hj:j<R.length):κ (R[i]'(by ext js hj))<κ R[j]:=BR.mp h i j (by ext js hj) hj js
theorem SS(hk:Ask prog w s kd κ C){st:SortSt}(hd:kindOf st=kd)(hf:failedOf st=none){Q:Bool->SortSt->Prop}(e:(arrOf st).toList=P++R1++R2++S)(hC:∀x∈(arrOf st).toList,C x)(hD:vS κ (arrOf st).toList)
  (s1:eE κ R1)(s2:eE κ R2)(n1:R1≠[])(n2:R2≠[])(e1:(pendingOf st)[i]?=some (P.length,R1.length,pw))(e2:(pendingOf st)[i+1]?=some (P.length+R1.length,R2.length,p2))
  (h:∀av R,kindOf av=kd->failedOf av=none->(arrOf av).toList=P++R++S->eE κ R->R.Perm (R1++R2)->pendingOf av=((pendingOf st).setIfInBounds i (P.length,R1.length+R2.length,pw)).eraseIdxIfInBounds (i+1)->Q true av):wpS (model prog w) A E s (mergeAt' i) Q st:=by
 have l1:=yI.mpr n1
 have l2:=yI.mpr n2
 have hz:(arrOf st).size=P.length+R1.length+R2.length+S.length:=by rw [<-gD,e];simp only [da]
 have eA:(arrOf st).toList=P++R1++(R2++S):=by rw [e,iW]
 have eB:(arrOf st).toList=(P++R1)++R2++S:=e
 have lB:(P++R1).length=P.length+R1.length:=da ..
 have kA:∀j (hj:j<R1.length),kv κ (arrOf st) (P.length+j)=κ R1[j]:=λj hj=>OA eA hj
 have kB:∀j (hj:j<R2.length),kv κ (arrOf st) (P.length+R1.length+j)=κ R2[j]:=λj hj=>by rw [<-lB];exact OA eB hj
 have b0:P.length+R1.length<(arrOf st).size:=by ext l2 hz:1
 have Me:κ (arrOf st)[P.length+R1.length]=κ R2[0]:=by rw [<-lM (κ:=κ) b0,<-kB 0 l2];rfl
 have aL:P.length+R1.length-1<(arrOf st).size:=by ext b0:1
 have Mf:κ (arrOf st)[P.length+R1.length-1]=κ R1[R1.length-1]:=by rw [<-lM (κ:=κ) aL,<-kA _ (by ext l1:1)];congr 1;ext l1:1
 have DC:∀j (hj:j<(arrOf st).size),C (arrOf st)[j]:=λj hj=>hC _ (by simp)
 have z1:P.length+R1.length<=(arrOf st).size:=by ext b0:1
 have z2:P.length+R1.length+R2.length<=(arrOf st).size:=by ext hz:1
 have plain:(∀x∈R1,∀y∈R2,κ x<κ y)->eE κ (R1++R2):=λz=>pE.mpr ⟨s1,s2,z⟩
 unfold wpS
 wp_delta
 wp_delta
 wp_delta
 refine y6 (Q:=Q) (bq (qw ?_))
 rw [e1,e2]
 dsimp only
 refine bq (Xd (bq (lH b0 (bq ?_))))
 refine DD hk ?_ (DC _ b0) z1 l1 (λj hj h1 h2=>⟨DC j hj,hD.ne hj b0 (by ext h2:1)⟩) (λx y hx hy=>by rw [kA _ (by ext hx hy:1),kA _ hy];exact E9 s1 hx hy) λk k1 k2 k3=>?_
 .exact hd
 dsimp only
 have c2:∀x∈R1.take k,∀y∈R2,κ x<κ y:=λx hx y hy=>by
  obtain ⟨j,hj,rfl⟩:=qV.mp hx
  obtain ⟨m,hm,rfl⟩:=qV.mp hy
  rw [nu] at hj
  have:=k2 j (by ext hj:1)
  rw [kA j (by ext hj:1),Me] at this
  rw [DU]
  by_cases c:m=0
  .subst c;exact this
  .have:=E9 s2 (show 0<m by ext c:1) hm
   lia
 by_cases d1:R1.length-k=0
 .rw [if_pos (by simpa using d1)]
  refine bI (h _ (R1++R2) hd hf (by show (arrOf st).toList=_;rw [e];simp) (plain ?_) (ue _) rfl)
  rw [xF (by ext d1:1)] at c2
  exact c2
 rw [if_neg (by simpa using d1)]
 have ek:P.length+k+(R1.length-k)-1=P.length+R1.length-1:=by ext k1:1
 rw [ek]
 refine bq (lH aL (bq ?_))
 refine DD hk ?_ (DC _ aL) z2 (by ext l2:1) (λj hj h1 h2=>⟨DC j hj,hD.ne hj aL (by ext l1 h1:1)⟩) (λx y hx hy=>by rw [kB _ (by ext hx hy:1),kB _ hy];exact E9 s2 hx hy) λm m1 m2 m3=>?_
 .exact hd
 dsimp only
 have c3:∀x∈R2.drop m,∀y∈R1,κ y<κ x:=λx hx y hy=>by
  obtain ⟨j,hj,rfl⟩:=qV.mp hx
  obtain ⟨n,hn,rfl⟩:=qV.mp hy
  rw [sd] at hj
  have:=m3 (m+j) (by ext:1) (by ext hj:1)
  rw [kB _ (by ext hj:1),Mf] at this
  rw [IK]
  by_cases c:n=R1.length-1
  .subst c;exact this
  .have:=E9 s1 (show n<R1.length-1 by ext hn c:1) (by ext l1:1)
   lia
 by_cases d2:m=0
 .rw [if_pos (by simpa using d2)]
  refine bI (h _ (R1++R2) hd hf (by show (arrOf st).toList=_;rw [e];simp) (plain λx hx y hy=>c3 y (by rw [d2];exact hy) x hx) (ue _) rfl)
 rw [if_neg (by simpa using d2)]
 have eX:((arrOf st).extract (P.length+k) (P.length+R1.length)).toList=R1.drop k:=by
  rw [J',eA,Ny (by simp),<-lB,List.take_length,List.drop_append,BW (by ext:1),Ig]
  congr 1
  ext:1
 have eY:((arrOf st).extract (P.length+R1.length) (P.length+R1.length+m)).toList=R2.take m:=by
  rw [Pb,eB,iW,<-lB,List.drop_append,List.drop_length,Ig,BF,DW,Ny m1]
 have zX:((arrOf st).extract (P.length+k) (P.length+R1.length)).size=R1.length-k:=by rw [<-gD,eX,sd]
 have zY:((arrOf st).extract (P.length+R1.length) (P.length+R1.length+m)).size=m:=by rw [<-gD,eY,nu];ext m1:1
 have Ue:∀x∈R1,C x:=λx hx=>hC x (by rw [e];simp [hx])
 have Ud:∀x∈R2,C x:=λx hx=>hC x (by rw [e];simp [hx])
 have cW:∀x∈R1,∀y∈R2,κ x≠κ y:=λx hx y hy=>by
  rw [eA] at hD
  exact hD.app x (by simp [hx]) y (by simp [hy])
 have T:jL κ C ((arrOf st).extract (P.length+k) (P.length+R1.length)) ((arrOf st).extract (P.length+R1.length) (P.length+R1.length+m)):=by
  refine ⟨?_,?_,?_,?_,?_⟩
  .rw [eX];exact y' s1 k
  .rw [eY];exact Kz s2 m
  .rw [eX];exact λx hx=>Ue x (yK hx)
  .rw [eY];exact λx hx=>Ud x (xw hx)
  .rw [eX,eY];exact λx hx y hy=>cW x (yK hx) y (xw hy)
 have gX:∀j (hj:j<((arrOf st).extract (P.length+k) (P.length+R1.length)).size),κ ((arrOf st).extract (P.length+k) (P.length+R1.length))[j]=κ (R1[k+j]'(by ext zX hj:1)):=λj hj=>by
  rw [<-BZ]
  simp only [eX,IK]
 have gY:∀j (hj:j<((arrOf st).extract (P.length+R1.length) (P.length+R1.length+m)).size),κ ((arrOf st).extract (P.length+R1.length) (P.length+R1.length+m))[j]=κ (R2[j]'(by ext m1 zY hj:1)):=λj hj=>by
  rw [<-BZ]
  simp only [eY,DU]
 have pX:0<((arrOf st).extract (P.length+k) (P.length+R1.length)).size:=by ext d1 zX:1
 have pY:0<((arrOf st).extract (P.length+R1.length) (P.length+R1.length+m)).size:=by ext d2 zY:1
 have h0:κ ((arrOf st).extract (P.length+R1.length) (P.length+R1.length+m))[0]<κ ((arrOf st).extract (P.length+k) (P.length+R1.length))[0]:=by
  rw [gX 0 pX,gY 0 pY]
  have:=k3 k (bZ _) (by ext zX pX:1)
  rw [kA k (by ext zX pX:1),Me] at this
  exact this
 have pV:∀x∈((arrOf st).extract (P.length+R1.length) (P.length+R1.length+m)).toList,κ x<κ R1[R1.length-1]:=λx hx=>by
  rw [eY] at hx
  obtain ⟨j,hj,rfl⟩:=qV.mp hx
  rw [nu] at hj
  have:=m2 j (by ext m1 zY hj:1)
  rw [kB j (by ext m1 zY hj:1),Mf] at this
  rw [DU]
  exact this
 have rest:∀(r:Array Keyed) (g:Nat),Mg κ ((arrOf st).extract (P.length+k) (P.length+R1.length)) ((arrOf st).extract (P.length+R1.length) (P.length+R1.length+m)) r->Q true (Bz (kindOf st) (r.toList.zipIdx.foldl (λa x=>match x with | (p,j)=>a.setIfInBounds (P.length+k+j) p) (arrOf st)) (((pendingOf st).setIfInBounds i (P.length,R1.length+R2.length,pw)).eraseIdxIfInBounds (i+1)) g (failedOf st)):=λr g hM=>by
  unfold Mg at hM
  rw [eX,eY] at hM
  obtain ⟨q1,q2⟩:=VM s1 s2 c2 c3 hM.1 hM.2
  refine h _ (R1.take k++r.toList++R2.drop m) hd hf ?_ q1 q2 rfl
  have hl:r.toList.length=(R1.drop k++R2.take m).length:=hM.2.length_eq
  have eP:(arrOf st).toList=(P++R1.take k)++(R1.drop k++R2.take m)++(R2.drop m++S):=by
   rw [e]
   have x1:R1=R1.take k++R1.drop k:=(qW ..).symm
   have x2:R2=R2.take m++R2.drop m:=(qW ..).symm
   generalize R1.take k=u at *
   generalize R1.drop k=u2 at *
   generalize R2.take m=v at *
   generalize R2.drop m=v2 at *
   rw [x1,x2]
   simp only [iW]
  have lP:(P++R1.take k).length=P.length+k:=by rw [da,nu];ext hz lB k1:1
  have:=Zx eP hl
  rw [lP] at this
  show (r.toList.zipIdx.foldl (λa x=>a.setIfInBounds (P.length+k+x.2) x.1) (arrOf st)).toList=_
  rw [this]
  simp only [iW]
 by_cases d3:R1.length-k<=m
 .rw [if_pos d3]
  refine bq ?_
  refine SQ hk T ?_ pX pY h0 (λx hx y hy=>?_) λr g hM=>?_
  .exact hd
  .rw [eX,zX,List.drop_drop,show k+(R1.length-k-1)=R1.length-1 by ext l1 hz lB zX pX:1,sR (by ext l1 hz lB:1),show R1.length-1+1=R1.length by ext l1 hz lB:1,List.drop_length,lE] at hy
   rw [hy]
   exact pV x hx
  .refine bq (sI (bq (qw (bI ?_))))
   have:=rest r g hM
   show Q (failedOf st).isNone _
   rw [hf]
   exact this
 .rw [if_neg d3]
  refine bq ?_
  refine SR hk T ?_ pX pY h0 (λx hx=>?_) λr g hM=>?_
  .exact hd
  .rw [gX _ (by ext zX pX:1)]
   have:=pV x hx
   simp only [zX,show k+(R1.length-k-1)=R1.length-1 by ext l1 hz lB zX pX:1]
   exact this
  .refine bq (sI (bq (qw (bI ?_))))
   have:=rest r g hM
   show Q (failedOf st).isNone _
   rw [hf]
   exact this
end
section
variable {prog:Program}{w:World}{A:Around}{E:Value->Shared->Prop}{s:Shared}{kd:SortKind}{κ:Keyed->Int}{C:Keyed->Prop}
structure Bs(κ:Keyed->Int)(C:Keyed->Prop)(kd:SortKind)(st:SortSt)(lo:Nat)(av:SortSt):Prop where
 perm:(arrOf av).Perm (arrOf st)
 ahead:∀k,k<lo->(arrOf av)[k]?=(arrOf st)[k]?
 rest:av=setArr st (arrOf av)
theorem Bs.refl{st:SortSt}{lo:Nat}:Bs κ C kd st lo st:=⟨MR _,λ_ _=>rfl,rfl⟩
theorem Bs.put{st av:SortSt}{lo:Nat}(h:Bs κ C kd st lo av){xs:Array Keyed}(hp:xs.Perm (arrOf av))(ha:∀k,k<lo->xs[k]?=(arrOf av)[k]?):Bs κ C kd st lo (setArr av xs):=
 ⟨hp.trans h.perm,λk hk=>(ha k hk).trans (h.ahead k hk),by rw [h.rest]⟩
structure Al(κ:Keyed->Int)(C:Keyed->Prop)(kd:SortKind)(st:SortSt):Prop where
 kind:kindOf st=kd
 all:∀x∈(arrOf st).toList,C x
 dst:vS κ (arrOf st).toList
theorem Al.of{st av:SortSt}(h:Al κ C kd st)(hp:(arrOf av).Perm (arrOf st))(hk:kindOf av=kd):Al κ C kd av:=
 have p:=Ei.mp hp
 ⟨hk,λx hx=>h.all x (p.mem_iff.mp hx),(p.map κ).nodup_iff.mpr h.dst⟩
theorem Al.bs{st av:SortSt}{lo:Nat}(h:Al κ C kd st)(b:Bs κ C kd st lo av):Al κ C kd av:=h.of b.perm (by rw [b.rest];exact h.kind)
theorem Al.ne{st:SortSt}(h:Al κ C kd st)(hi:i<(arrOf st).size)(hj:j<(arrOf st).size)(js:i≠j):kv κ (arrOf st) i≠kv κ (arrOf st) j:=by
 rw [lM hi,lM hj]
 exact h.dst.ne hi hj js
theorem B3(hk:Ask prog w s kd κ C){st:SortSt}(hA:Al κ C kd st){Q:Option Bool->SortSt->Prop}(hi:i<(arrOf st).size)(hj:j<(arrOf st).size)(js:i≠j)(h:Q (some (decide (kv κ (arrOf st) i<kv κ (arrOf st) j))) st):wpS (model prog w) A E s (ltAt' i j) Q st:=by
 rw [ltAt'_eq]
 refine bq (qw ?_)
 show wpS _ _ _ _ (do let p <-elem' (arrOf st) i;let q <-elem' (arrOf st) j;lt' p q) Q st
 refine bq (lH hi (bq (lH hj ?_)))
 rw [lM hi,lM hj] at h
 exact AB hk hA.kind (hA.all _ (by simp)) (hA.all _ (by simp)) (hA.dst.ne hi hj js) h
def Up(κ:Keyed->Int)(xs:Array Keyed)(lo k:Nat):Prop:=∀i j,i<j->j<k->kv κ xs (lo+i)<kv κ xs (lo+j)
def Dn(κ:Keyed->Int)(xs:Array Keyed)(lo k:Nat):Prop:=∀i j,i<j->j<k->kv κ xs (lo+j)<kv κ xs (lo+i)
theorem Up.next{lo x:Nat}(h:Up κ xs lo x)(hx:1<=x)(hl:kv κ xs (lo+(x-1))<kv κ xs (lo+x)):Up κ xs lo (x+1):=λi j js hj=>by
 by_cases c:j<x
 .exact h i j js c
 .obtain rfl:j=x:=by ext hj c
  by_cases d:i=j-1
  .subst d;exact hl
  .have:=h i (j-1) (by ext js d) (by ext hx);ext hl this
theorem Dn.next{lo x:Nat}(h:Dn κ xs lo x)(hx:1<=x)(hl:kv κ xs (lo+x)<kv κ xs (lo+(x-1))):Dn κ xs lo (x+1):=λi j js hj=>by
 by_cases c:j<x
 .exact h i j js c
 .obtain rfl:j=x:=by ext hj c
  by_cases d:i=j-1
  .subst d;exact hl
  .have:=h i (j-1) (by ext js d) (by ext hx);ext hl this
theorem B7(hk:Ask prog w s kd κ C){st:SortSt}(hA:Al κ C kd st){lo a dz:Nat}{Q:Option (Option Nat)×Nat->SortSt->Prop}(hn:lo+dz<=(arrOf st).size)(ha:1<=a)(MB:a<=dz)(hu:Up κ (arrOf st) lo a)
  (h:∀n,a<=n->n<=dz->Up κ (arrOf st) lo n->(n=dz\/n<dz/\kv κ (arrOf st) (lo+n)<kv κ (arrOf st) (lo+(n-1)))->Q (none,n) st):
  wpS (model prog w) A E s (forIn [a:dz] ((none,a):Option (Option Nat)×Nat) λ_ q=>ltAt' (lo+q.2) (lo+q.2-1) >>= λr=>match r with
   | some b=>if b=true then pure (DX (none,q.2)) else pure (sJ (none,q.2+1))
   | x=>pure (DX (some none,q.2))) Q st:=by
 refine oh (λx c av=>av=st/\c=(none,x)/\Up κ (arrOf st) lo x) (λx c av h1 h2 hI=>?_) (λc av hI=>?_) ⟨rfl,rfl,hu⟩
 .obtain ⟨rfl,rfl,AQ⟩:=hI
  dsimp only
  rw [show lo+x-1=lo+(x-1) by ext ha h1]
  refine bq (B3 hk hA (by ext h2 hn) (by ext h2 hn) (by ext ha h1) ?_)
  dsimp only
  by_cases c:kv κ (arrOf av) (lo+x)<kv κ (arrOf av) (lo+(x-1))
  .rw [if_pos (decide_eq_true c)]
   exact bI (h x h1 (by ext h2) AQ (.inr ⟨h2,c⟩))
  .rw [if_neg (by simpa using c)]
   have:=hA.ne (i:=lo+x) (j:=lo+(x-1)) (by ext h2 hn) (by ext h2 hn) (by ext ha h1)
   exact bI ⟨rfl,rfl,AQ.next (by ext ha h1) (by ext c this)⟩
 .obtain ⟨rfl,rfl,AQ⟩:=hI
  rw [show max a dz=dz by ext MB] at AQ ⊢
  exact h dz MB (bZ _) AQ (.inl rfl)
theorem Oc{xs:Array Keyed}{lo n:Nat}(hn:lo+n<=xs.size)(k:Nat):kv κ (mirror xs lo (lo+n) ((lo+n-lo)/2)) (lo+k)=if k<n then kv κ xs (lo+(n-1-k)) else kv κ xs (lo+k):=by
 have e:=getElem?_mirror_all (i:=lo) hn (lo+k)
 by_cases h:k<n
 .rw [if_pos (by ext h),show lo+(lo+n)-1-(lo+k)=lo+(n-1-k) by ext h] at e
  rw [if_pos h];exact B2 e
 .rw [if_neg (by ext h)] at e
  rw [if_neg h];exact B2 e
theorem HN(hk:Ask prog w s kd κ C){st:SortSt}(hA:Al κ C kd st){lo dz:Nat}{Q:Option Nat->SortSt->Prop}(hn:lo+dz<=(arrOf st).size)(h1:1<=dz)
  (h:∀m av,Bs κ C kd st lo av->1<=m->m<=dz->Up κ (arrOf av) lo m->Q (some m) av):wpS (model prog w) A E s (countRun' lo dz) Q st:=by
 unfold wpS
 wp_delta
 wp_delta
 wp_delta
 refine y6 (Q:=Q) (bq ?_)
 refine B7 hk hA hn (bZ 1) h1 (λi j _ _=>by lia) λn n1 n2 hu G'=>?_
 dsimp only
 by_cases c1:n=dz
 .rw [if_pos (by simpa using c1)]
  exact bI (h n st Bs.refl n1 n2 hu)
 rw [if_neg (by simpa using c1)]
 have cq:kv κ (arrOf st) (lo+n)<kv κ (arrOf st) (lo+(n-1)):=by ext G' c1
 by_cases c2:n>1
 .rw [if_pos c2,show lo+n-1=lo+(n-1) by ext c2]
  refine bq (B3 hk hA (by ext hn h1) (by ext hn n2 c2) (by ext c2) ?_)
  dsimp only
  have h0:=hu 0 (n-1) (by ext c2) (by ext c2)
  rw [Nat.add_zero] at h0
  rw [if_pos (decide_eq_true h0)]
  exact bI (h n st Bs.refl n1 n2 hu)
 rw [if_neg c2]
 obtain rfl:n=1:=by ext n1 c2
 refine bq (yU ?_)
 refine bq (oa (oh (λx c av=>av=st/\c=(none,x,0)/\Dn κ (arrOf st) lo x) (Q:=λc av=>av=st/\∃x,c=(none,x,0)/\2<=x/\x<=dz/\Dn κ (arrOf st) lo x) (λx c av g1 g2 hI=>?_) (λc av hI=>?_) ⟨rfl,rfl,λi j js hj=>?_⟩) λc av hI=>?_)
 .obtain ⟨rfl,rfl,hs⟩:=hI
  dsimp only
  rw [show lo+x-1=lo+(x-1) by ext g1]
  have cW:=hA.ne (i:=lo+x) (j:=lo+(x-1)) (by ext g2 hn) (by ext g2 hn) (by ext g1)
  refine bq (B3 hk hA (by ext g2 hn) (by ext g2 hn) (by ext g1) ?_)
  dsimp only
  by_cases c:kv κ (arrOf av) (lo+x)<kv κ (arrOf av) (lo+(x-1))
  .rw [if_pos (decide_eq_true c),if_neg (by decide)]
   exact bI ⟨rfl,rfl,hs.next (by ext g1) c⟩
  .rw [if_neg (by simpa using c)]
   refine bq (B3 hk hA (by ext g2 hn) (by ext g2 hn) (by ext g1) ?_)
   dsimp only
   rw [if_pos (decide_eq_true (by ext cW c))]
   exact bI ⟨rfl,x,rfl,‹_›,by ext g2,hs⟩
 .obtain ⟨rfl,rfl,hs⟩:=hI
  rw [show max (1+1) dz=dz by ext c1 G'] at hs ⊢
  exact ⟨rfl,dz,rfl,by ext c1 G',by ext,hs⟩
 .obtain ⟨rfl,rfl⟩:i=0/\j=1:=by ext js hj
  exact cq
 .obtain ⟨rfl,x,rfl,x1,x2,hs⟩:=hI
  dsimp only
  rw [if_neg (by decide)]
  refine bq (wpS_reverse ?_)
  have hb:Bs κ C kd av lo (setArr av (mirror (arrOf av) lo (lo+x) ((lo+x-lo)/2))):=Bs.refl.put (mirror_perm _ _ _ _) λk hk=>by
   have e:=getElem?_mirror_all (xs:=arrOf av) (i:=lo) (j:=lo+x) (by ext hn x2) k
   rw [if_neg (by ext hk)] at e
   exact e
  refine bq ?_
  refine B7 hk (hA.bs hb) ?_ (by ext x1) x2 (λi j js hj=>?_) λm m1 m2 hm _=>bI (h m _ hb (by ext x1 m1) m2 hm)
  .show lo+dz<=(mirror (arrOf av) lo (lo+x) ((lo+x-lo)/2)).size
   rw [mirror_size]
   exact hn
  .show kv κ (mirror (arrOf av) lo (lo+x) ((lo+x-lo)/2)) (lo+i)<kv κ (mirror (arrOf av) lo (lo+x) ((lo+x-lo)/2)) (lo+j)
   rw [Oc (by ext hn x2),Oc (by ext hn x2),if_pos (by ext js hj),if_pos hj]
   exact hs _ _ (by ext js hj) (by ext hj)
theorem Jk(hk:Ask prog w s kd κ C){st:SortSt}(hA:Al κ C kd st){lo n ok:Nat}{Q:Bool->SortSt->Prop}(hn:lo+n<=(arrOf st).size)(bB:1<=ok)(TC:ok<=n)(hs:Up κ (arrOf st) lo ok)
  (h:∀av,Bs κ C kd st lo av->Up κ (arrOf av) lo n->Q true av):wpS (model prog w) A E s (binarySort' lo n ok) Q st:=by
 rw [binarySort'_eq]
 refine bq (oa (oh (λk c av=>c=(none,())/\Bs κ C kd st lo av/\Up κ (arrOf av) lo k) (Q:=λc av=>c=(none,())/\Bs κ C kd st lo av/\Up κ (arrOf av) lo n) (λk c av g1 g2 hI=>?_) (λc av hI=>?_) ⟨rfl,Bs.refl,?_⟩) λc av hI=>?_)
 .obtain ⟨rfl,wV,uU⟩:=hI
  have MG:=hA.bs wV
  have hsz:(arrOf av).size=(arrOf st).size:=wV.perm.size_eq
  refine bq (oa (oh (λx c jM=>jM=av/\∃l r,c=(none,l,r)/\l<=r/\r<=k/\r-l<=k-x/\(∀i,i<l->kv κ (arrOf av) (lo+i)<kv κ (arrOf av) (lo+k))/\∀i,r<=i->i<k->kv κ (arrOf av) (lo+k)<kv κ (arrOf av) (lo+i))
   (Q:=λc jM=>jM=av/\∃l r,c=(none,l,r)/\l<=k/\(∀i,i<l->kv κ (arrOf av) (lo+i)<kv κ (arrOf av) (lo+k))/\∀i,l<=i->i<k->kv κ (arrOf av) (lo+k)<kv κ (arrOf av) (lo+i)) (λx c jM f1 f2 hJ=>?_) (λc jM hJ=>?_) ⟨rfl,0,k,rfl,by ext,by ext,by ext,λi z=>by contradiction,λi z1 z2=>by ext z1 z2⟩) λc jM hJ=>?_)
  .obtain ⟨rfl,l,r,rfl,j1,j2,j3,j4,j5⟩:=hJ
   dsimp only
   by_cases wQ:l≥r
   .rw [if_pos wQ]
    obtain rfl:l=r:=by ext j1 wQ
    exact bI ⟨rfl,l,l,rfl,j2,j4,j5⟩
   .rw [if_neg wQ]
    refine bq (B3 hk MG (by ext hn g2 hsz) (by lia) (by lia) ?_)
    dsimp only
    have cW:=MG.ne (i:=lo+k) (j:=lo+(l+r)/2) (by ext hn g2 hsz) (by lia) (by lia)
    by_cases hl:kv κ (arrOf jM) (lo+k)<kv κ (arrOf jM) (lo+(l+r)/2)
    .rw [if_pos (decide_eq_true hl)]
     refine bI ⟨rfl,l,(l+r)/2,rfl,by lia,by lia,by lia,j4,λi z1 z2=>?_⟩
     by_cases hi:i=(l+r)/2
     .subst hi;exact hl
     .have:=uU ((l+r)/2) i (by ext z1 hi) z2;ext hl this
    .rw [if_neg (by simpa using hl)]
     refine bI ⟨rfl,(l+r)/2+1,r,rfl,by lia,‹_›,by lia,λi z1=>?_,j5⟩
     by_cases hi:i=(l+r)/2
     .subst hi;ext cW hl
     .have:=uU i ((l+r)/2) (by ext z1 hi) (by lia);ext hl this
  .obtain ⟨rfl,l,r,rfl,j1,j2,j3,j4,j5⟩:=hJ
   obtain rfl:l=r:=by ext j1 j3
   exact ⟨rfl,l,l,rfl,j2,j4,j5⟩
  .obtain ⟨rfl,l,r,rfl,j2,j4,j5⟩:=hJ
   show wpS _ _ _ _ (do moveDown' (lo+k) (lo+l);pure (sJ (none,()))) _ _
   rw [moveDown'_eq]
   have Hd:lo+k<(arrOf jM).size:=by ext hn g2 hsz
   have DB:=getElem?_bubble Hd (lo+k-(lo+l)) (by ext)
   refine bq (sI (bI ⟨rfl,wV.put (bubble_perm _ _ _) λq hq=>?_,λi j js hj=>?_⟩))
   .have e:=DB q
    rw [if_neg (by ext hq),if_neg (by ext hq)] at e
    exact e
   have kb:∀m,kv κ (bubble (arrOf jM) (lo+k) (lo+k-(lo+l))) (lo+m)=if m=l then kv κ (arrOf jM) (lo+k) else if l<m/\m<=k then kv κ (arrOf jM) (lo+(m-1)) else kv κ (arrOf jM) (lo+m):=λm=>by
    have e:=DB (lo+m)
    by_cases c1:m=l
    .rw [if_pos (by ext j2 c1)] at e;rw [if_pos c1];exact B2 e
    .rw [if_neg (by ext j2 c1)] at e;rw [if_neg c1]
     by_cases c2:l<m/\m<=k
     .rw [if_pos (by ext c2),show lo+m-1=lo+(m-1) by ext c2] at e;rw [if_pos c2];exact B2 e
     .rw [if_neg (by ext c2)] at e;rw [if_neg c2];exact B2 e
   show kv κ (bubble (arrOf jM) (lo+k) (lo+k-(lo+l))) (lo+i)<kv κ (bubble (arrOf jM) (lo+k) (lo+k-(lo+l))) (lo+j)
   rw [kb,kb]
   repeat' split
   all_goals first
    | (exfalso;lia)
    | exact j4 _ (by lia)
    | exact j5 _ (by lia) (by ext js hj)
    | exact uU _ _ (by lia) (by lia)
 .obtain ⟨hc,wV,uU⟩:=hI
  rw [show max (max ok 1) n=n by ext bB TC] at uU
  exact ⟨hc,wV,uU⟩
 .rw [show max ok 1=ok by ext bB];exact hs
 .obtain ⟨rfl,wV,uU⟩:=hI
  exact bI (h av wV uU)
end
section
variable {prog:Program}{w:World}{A:Around}{E:Value->Shared->Prop}{s:Shared}{kd:SortKind}{κ:Keyed->Int}{C:Keyed->Prop}
structure St(κ:Keyed->Int)(C:Keyed->Prop)(kd:SortKind)(a₀:Array Keyed)(st:SortSt)(Rs:List (List Keyed)):Prop where
 perm:(arrOf st).Perm a₀
 kind:kindOf st=kd
 failed:failedOf st=none
 pre:(arrOf st).toList.take Rs.flatten.length=Rs.flatten
 le:Rs.flatten.length<=a₀.size
 uN:oK 0 Rs (pendingOf st).toList
 run:∀R∈Rs,R≠[]/\eE κ R
variable {a₀:Array Keyed}
structure Kn(κ:Keyed->Int)(C:Keyed->Prop)(a₀:Array Keyed):Prop where
 all:∀x∈a₀.toList,C x
 dst:vS κ a₀.toList
theorem St.al{st:SortSt}(h:St κ C kd a₀ st Rs)(k:Kn κ C a₀):Al κ C kd st:=
 have p:=Ei.mp h.perm
 ⟨h.kind,λx hx=>k.all x (p.mem_iff.mp hx),(p.map κ).nodup_iff.mpr k.dst⟩
theorem St.cnt{st:SortSt}(h:St κ C kd a₀ st Rs):(pendingOf st).size=Rs.length:=by rw [<-gD];exact h.uN.len
theorem Ey(hk:Ask prog w s kd κ C)(k:Kn κ C a₀){st:SortSt}(h:St κ C kd a₀ st (Xs++R1::R2::Ys))(hi:i=Xs.length){Q:Bool->SortSt->Prop}
  (hQ:∀av R,St κ C kd a₀ av (Xs++R::Ys)->(Xs++R::Ys).flatten.length=(Xs++R1::R2::Ys).flatten.length->(arrOf av).toList.drop (Xs++R1::R2::Ys).flatten.length=(arrOf st).toList.drop (Xs++R1::R2::Ys).flatten.length->Q true av):wpS (model prog w) A E s (mergeAt' i) Q st:=by
 have hz:(arrOf st).size=a₀.size:=h.perm.size_eq
 have eF:(Xs++R1::R2::Ys).flatten=Xs.flatten++R1++R2++Ys.flatten:=by simp
 have al:=h.al k
 have r1:=h.run R1 (by simp)
 have r2:=h.run R2 (by simp)
 obtain ⟨q1,q2⟩:=h.uN.split
 rw [BG] at q2
 have AS:=h.uN.len
 generalize hp:(pendingOf st).toList=ps at *
 obtain ⟨u,v,pv,e3⟩:∃u v pv,ps.drop Xs.length=u::v::pv:=by
  match hd:ps.drop Xs.length,q2 with
  | u::v::pv,_=>exact ⟨u,v,pv,rfl⟩
 rw [e3] at q2
 obtain ⟨u1,u2,v1,v2,q3⟩:=q2
 have HF:ps=ps.take Xs.length++u::v::pv:=by rw [<-e3,qW]
 have lt:(ps.take Xs.length).length=Xs.length:=by rw [nu,AS,da];ext
 have g1:(pendingOf st)[i]?=some (Xs.flatten.length,R1.length,u.2.2):=by
  rw [<-sQ,hp,HF,uf (by ext hi lt),lt,hi,BF]
  show some u=_
  rw [<-u1,<-u2]
 have g2:(pendingOf st)[i+1]?=some (Xs.flatten.length+R1.length,R2.length,v.2.2):=by
  rw [<-sQ,hp,HF,uf (by ext hi lt),lt,hi,Jj]
  show some v=_
  rw [<-v1,<-v2]
 have eA:(arrOf st).toList=Xs.flatten++R1++R2++(Ys.flatten++(arrOf st).toList.drop (Xs++R1::R2::Ys).flatten.length):=by
  have:=qW (Xs++R1::R2::Ys).flatten.length (arrOf st).toList
  rw [h.pre] at this
  rw [<-iW,<-eF]
  exact this.symm
 refine SS hk h.kind h.failed eA al.all al.dst r1.2 r2.2 r1.1 r2.1 g1 g2 λav R a1 a2 a3 a4 a5 a6=>?_
 have lR:R.length=R1.length+R2.length:=by rw [a5.length_eq,da]
 have HG:(Xs++R::Ys).flatten=Xs.flatten++R++Ys.flatten:=by simp
 have lF:(Xs++R::Ys).flatten.length=(Xs++R1::R2::Ys).flatten.length:=by rw [eF,HG];simp only [da];ext lR
 refine hQ av R ⟨?_,a1,a2,?_,by rw [lF];exact h.le,?_,λS hS=>?_⟩ lF ?_
 .refine Array.Perm.trans (Ei.mpr ?_) h.perm
  generalize (arrOf st).toList.drop (Xs++R1::R2::Ys).flatten.length=D at *
  rw [a3,eA]
  refine List.Perm.append_right _ ?_
  rw [iW Xs.flatten]
  exact a5.append_left _
 .rw [a3,HG,<-iW,List.take_left]
 .have e6:(pendingOf av).toList=ps.take Xs.length++(Xs.flatten.length,R1.length+R2.length,u.2.2)::pv:=by
   rw [a6,Array.toList_eraseIdxIfInBounds,Array.toList_setIfInBounds,hp,hi]
   conv=>lhs;rw [HF]
   rw [List.set_append_right _ _ (by ext lt),lt,BF,List.set_cons_zero,List.eraseIdx_append_of_length_le (by ext lt),lt,Jj]
   rfl
  rw [e6]
  refine q1.app ?_
  rw [BG]
  refine ⟨rfl,lR.symm,?_⟩
  rw [lR,<-Ir]
  exact q3
 .rcases jI.mp hS with hS | hS
  .exact h.run S (yL _ hS)
  .rcases bG.mp hS with rfl | hS
   .refine ⟨λz=>?_,a4⟩
    rw [z] at lR
    have:=yI.mpr r1.1
    simp at lR
    ext lR this
   .exact h.run S (qy _ (by simp [hS]))
 .generalize (arrOf st).toList.drop (Xs++R1::R2::Ys).flatten.length=D at *
  rw [<-lF,a3,HG,<-iW,List.drop_left]
theorem JK{Rs:List (List Keyed)}(h:2<=Rs.length):∃Xs R1 R2,Rs=Xs++R1::R2::[]/\Xs.length=Rs.length-2:=by
 refine ⟨Rs.take (Rs.length-2),Rs[Rs.length-2],Rs[Rs.length-1],?_,by rw [nu];ext:1⟩
 conv=>lhs;rw [<-qW (Rs.length-2) Rs]
 congr 1
 rw [sR (by ext h:1),sR (by ext h:1),BW (by ext:1)]
 simp only [show Rs.length-2+1=Rs.length-1 by ext h:1]
theorem V6{Rs:List (List Keyed)}(h:3<=Rs.length):∃Xs R1 R2 R3,Rs=Xs++R1::R2::[R3]/\Xs.length=Rs.length-3:=by
 refine ⟨Rs.take (Rs.length-3),Rs[Rs.length-3],Rs[Rs.length-2],Rs[Rs.length-1],?_,by rw [nu];ext:1⟩
 conv=>lhs;rw [<-qW (Rs.length-3) Rs]
 congr 1
 rw [sR (by ext h:1),sR (by ext h:1),sR (by ext h:1),BW (by ext:1)]
 simp only [show Rs.length-3+1=Rs.length-2 by ext h:1,show Rs.length-2+1=Rs.length-1 by ext h:1]
theorem O2{xs:Array Keyed}{lo n:Nat}(h:Up κ xs lo n)(hn:lo+n<=xs.size):eE κ ((xs.toList.drop lo).take n):=by
 refine BR.mpr λi j hi hj js=>?_
 simp only [nu,sd,gD] at hi hj
 have:=h i j js (by ext hj:1)
 rw [lM (by ext hi:1),lM (by ext hj:1)] at this
 simpa using this
theorem Y5{xs ys:Array Keyed}{n:Nat}(h:∀k,k<n->xs[k]?=ys[k]?):xs.toList.take n=ys.toList.take n:=by
 refine IP λk=>?_
 rw [Na,Na,sQ,sQ]
 split
 .exact h k ‹_›
 .rfl
theorem XA{Rs:List (List Keyed)}(h:∀R∈Rs,R≠[]):Rs.length<=Rs.flatten.length:=by
 induction Rs with
 | nil=>exact bZ _
 | cons R Rs ih =>
  have:=ih λS hS=>h S (by simp [hS])
  have:=yI.mpr (h R (by simp))
  rw [Ef,da,ff]
  lia
theorem St.push{st:SortSt}(h:St κ C kd a₀ st Rs){av:SortSt}(e1:arrOf av=arrOf st)(e2:kindOf av=kindOf st)(e3:failedOf av=failedOf st)(hq:oK 0 Rs q)(e4:(pendingOf av).toList=q++[(Rs.flatten.length,n,0)])
  (hn:1<=n)(hl:Rs.flatten.length+n<=a₀.size)(hs:eE κ (((arrOf st).toList.drop Rs.flatten.length).take n)):St κ C kd a₀ av (Rs++[((arrOf st).toList.drop Rs.flatten.length).take n]):=by
 have hz:(arrOf st).toList.length=a₀.size:=by rw [gD];exact h.perm.size_eq
 have ln:(((arrOf st).toList.drop Rs.flatten.length).take n).length=n:=by rw [nu,sd];ext hl hz
 have eF:(Rs++[((arrOf st).toList.drop Rs.flatten.length).take n]).flatten=Rs.flatten++((arrOf st).toList.drop Rs.flatten.length).take n:=by simp
 have lF:(Rs++[((arrOf st).toList.drop Rs.flatten.length).take n]).flatten.length=Rs.flatten.length+n:=by rw [eF,da,ln]
 refine ⟨by rw [e1];exact h.perm,by rw [e2];exact h.kind,by rw [e3];exact h.failed,?_,by rw [lF];exact hl,?_,λR hR=>?_⟩
 .rw [lF,e1,List.take_add,h.pre,eF]
 .rw [e4]
  refine hq.app ⟨?_,ln.symm,trivial⟩
  exact (BG _).symm
 .rcases jI.mp hR with hR | hR
  .exact h.run R hR
  .rw [lE.mp hR]
   refine ⟨λz=>?_,hs⟩
   rw [z] at ln
   simp at ln
   ext hn ln
theorem oK.mod{α:Type}(f:Nat×Nat×Nat->Nat×Nat×Nat)(hf:∀x,(f x).1=x.1/\(f x).2.1=x.2.1):∀{o:Nat} {Rs:List (List α)} {ps:List (Nat×Nat×Nat)} (i:Nat),oK o Rs ps->oK o Rs (ps.modify i f)
 | _,[],[],i,_=>by cases i<;>exact trivial
 | o,R::Rs,p::ps,0,h=>⟨by rw [(hf p).1];exact h.1,by rw [(hf p).2];exact h.2.1,h.2.2⟩
 | o,R::Rs,p::ps,i+1,h=>⟨h.1,h.2.1,h.2.2.mod f hf i⟩
theorem St.weigh{st:SortSt}(h:St κ C kd a₀ st Rs){av:SortSt}(hb:Bs κ C kd st Rs.flatten.length av):St κ C kd a₀ av Rs:=
 ⟨hb.perm.trans h.perm,by rw [hb.rest];exact h.kind,by rw [hb.rest];exact h.failed,by rw [Y5 hb.ahead];exact h.pre,h.le,by rw [hb.rest];exact h.uN,h.run⟩
theorem zW(hk:Ask prog w s kd κ C)(k:Kn κ C a₀){st:SortSt}{Q:Unit->SortSt->Prop}(h:St κ C kd a₀ st [])(h2:2<=a₀.size)
  (hQ:∀av,(arrOf av).Perm a₀->failedOf av=none->eE κ (arrOf av).toList->Q () av):wpS (model prog w) A E s sortRuns' Q st:=by
 unfold wpS
 wp_delta
 wp_delta
 wp_delta
 refine y6 (Q:=Q) (bq (qw ?_))
 dsimp only
 have hz:(arrOf st).size=a₀.size:=h.perm.size_eq
 simp only [hz]
 refine bq (oa (oh (λx c av=>∃Rs:List (List Keyed),c=(none,Rs.flatten.length)/\St κ C kd a₀ av Rs/\x<=Rs.flatten.length) (Q:=λc av=>∃Rs:List (List Keyed),c=(none,Rs.flatten.length)/\St κ C kd a₀ av Rs/\Rs.flatten.length=a₀.size) (λx c av _ hx hI=>?_) (λc av hI=>?_) ⟨[],rfl,h,bZ _⟩) λc av hI=>?_)
 .obtain ⟨Rs,rfl,hS,hp⟩:=hI
  dsimp only
  have hle:=hS.le
  by_cases c1:Rs.flatten.length≥a₀.size
  .rw [if_pos c1]
   exact bI ⟨Rs,rfl,hS,by ext hle c1⟩
  rw [if_neg c1]
  have Te:(arrOf av).size=a₀.size:=hS.perm.size_eq
  refine bq ?_
  refine HN hk (hS.al k) (by ext c1 Te) (by ext c1) λm jM hb m1 m2 hu=>?_
  dsimp only
  have S2:=hS.weigh hb
  have AN:(arrOf jM).size=a₀.size:=S2.perm.size_eq
  generalize (sortPriv% PySem.Builtin.minRun) a₀.size a₀.size 0 = mr
  by_cases c2:m<mr
  .rw [if_pos c2]
   refine bq (yU (bq ?_))
   generalize hF:min (a₀.size-Rs.flatten.length) mr=n
   refine Jk hk (S2.al k) (by ext c1 AN hF) m1 (by ext m2 c2 hF) hu λlQ T7 G7=>?_
   rw [if_neg (by decide)]
   have S3:=S2.weigh T7
   have n1:1<=n:=by ext m1 m2 c2 hF
   have n2:Rs.flatten.length+n<=a₀.size:=by ext c1 hF
   have G4:(arrOf lQ).size=a₀.size:=S3.perm.size_eq
   have wI:=O2 G7 (by ext n2 G4)
   have l3:(((arrOf lQ).toList.drop Rs.flatten.length).take n).length=n:=by rw [nu,sd,gD];ext n2 G4
   refine bq (qw ?_)
   cases T6:(pendingOf lQ).back? with
   | none =>
    dsimp only
    refine bq (sI (bI ⟨Rs++[((arrOf lQ).toList.drop Rs.flatten.length).take n],?_,S3.push rfl rfl rfl S3.uN (vi ..) n1 n2 wI,?_⟩))
    .rw [vn,da,vA,l3]
    .rw [vn,da,vA,l3]
     ext hp n1
   | some p =>
    obtain ⟨s1,wx,p3⟩:=p
    dsimp only
    refine bq (oa (oh (λx c av=>c=(none,())/\∃Ts:List (List Keyed),St κ C kd a₀ av Ts/\Ts.flatten.length=Rs.flatten.length/\(arrOf av).toList.drop Rs.flatten.length=(arrOf lQ).toList.drop Rs.flatten.length) (Q:=λc av=>c=(none,())/\∃Ts:List (List Keyed),St κ C kd a₀ av Ts/\Ts.flatten.length=Rs.flatten.length/\(arrOf av).toList.drop Rs.flatten.length=(arrOf lQ).toList.drop Rs.flatten.length) (λx c av _ hx hI=>?_) (λc av hI=>hI) ⟨rfl,Rs,S3,rfl,rfl⟩) λc av hI=>?_)
    .obtain ⟨rfl,Ts,hT,hl,ha⟩:=hI
     refine bq (qw ?_)
     have hc:=hT.cnt
     simp only [hc]
     by_cases c3:Ts.length>1
     .rw [if_pos c3]
      cases hg:(pendingOf av)[Ts.length-2]? with
      | none=>exact bI ⟨rfl,Ts,hT,hl,ha⟩
      | some p =>
       obtain ⟨p1,p2,p3⟩:=p
       dsimp only
       split
       .exact bI ⟨rfl,Ts,hT,hl,ha⟩
       .obtain ⟨Xs,R1,R2,rfl,hX⟩:=JK (Rs:=Ts) ‹_›
        refine bq ?_
        refine Ey hk k hT hX.symm λxY R wU wO tR=>?_
        rw [if_neg (by decide)]
        exact bI ⟨rfl,_,wU,wO.trans hl,by rw [hl] at tR;exact tR.trans ha⟩
     .rw [if_neg c3]
      exact bI ⟨rfl,Ts,hT,hl,ha⟩
    .obtain ⟨rfl,Ts,hT,hl,ha⟩:=hI
     dsimp only
     refine bq (sI (bq (sI (bI ⟨Ts++[((arrOf av).toList.drop Ts.flatten.length).take n],?_,hT.push rfl rfl rfl (hT.uN.mod (λx=>(x.1,x.2.1,power' a₀.size (2*s1+wx) (2*s1+wx+wx+n) a₀.size)) (λ_=>⟨rfl,rfl⟩) ((pendingOf av).size-1)) (by rw [hl];exact (vi ..).trans (by rw [Nh];rfl)) n1 (by ext n2 hl) (by rw [hl,ha];exact wI),?_⟩))))
     .rw [vn,da,vA,hl,ha,l3]
     .rw [vn,da,vA,hl,ha,l3]
      ext hp n1
  .rw [if_neg c2]
   obtain ⟨n,rfl⟩:∃n,n=m:=⟨_,rfl⟩
   obtain ⟨lQ,rfl⟩:∃lQ,lQ=jM:=⟨_,rfl⟩
   have S3:=S2
   have G7:=hu
   have n1:1<=n:=by assumption
   have n2:Rs.flatten.length+n<=a₀.size:=by ext c1 m2
   have G4:(arrOf lQ).size=a₀.size:=S3.perm.size_eq
   have wI:=O2 G7 (by ext AN n2)
   have l3:(((arrOf lQ).toList.drop Rs.flatten.length).take n).length=n:=by rw [nu,sd,gD];ext AN n2
   refine bq (qw ?_)
   cases T6:(pendingOf lQ).back? with
   | none =>
    dsimp only
    refine bq (sI (bI ⟨Rs++[((arrOf lQ).toList.drop Rs.flatten.length).take n],?_,S3.push rfl rfl rfl S3.uN (vi ..) n1 n2 wI,?_⟩))
    .rw [vn,da,vA,l3]
    .rw [vn,da,vA,l3]
     ext hp m1
   | some p =>
    obtain ⟨s1,wx,p3⟩:=p
    dsimp only
    refine bq (oa (oh (λx c av=>c=(none,())/\∃Ts:List (List Keyed),St κ C kd a₀ av Ts/\Ts.flatten.length=Rs.flatten.length/\(arrOf av).toList.drop Rs.flatten.length=(arrOf lQ).toList.drop Rs.flatten.length) (Q:=λc av=>c=(none,())/\∃Ts:List (List Keyed),St κ C kd a₀ av Ts/\Ts.flatten.length=Rs.flatten.length/\(arrOf av).toList.drop Rs.flatten.length=(arrOf lQ).toList.drop Rs.flatten.length) (λx c av _ hx hI=>?_) (λc av hI=>hI) ⟨rfl,Rs,S3,rfl,rfl⟩) λc av hI=>?_)
    .obtain ⟨rfl,Ts,hT,hl,ha⟩:=hI
     refine bq (qw ?_)
     have hc:=hT.cnt
     simp only [hc]
     by_cases c3:Ts.length>1
     .rw [if_pos c3]
      cases hg:(pendingOf av)[Ts.length-2]? with
      | none=>exact bI ⟨rfl,Ts,hT,hl,ha⟩
      | some p =>
       obtain ⟨p1,p2,p3⟩:=p
       dsimp only
       split
       .exact bI ⟨rfl,Ts,hT,hl,ha⟩
       .obtain ⟨Xs,R1,R2,rfl,hX⟩:=JK (Rs:=Ts) ‹_›
        refine bq ?_
        refine Ey hk k hT hX.symm λxY R wU wO tR=>?_
        rw [if_neg (by decide)]
        exact bI ⟨rfl,_,wU,wO.trans hl,by rw [hl] at tR;exact tR.trans ha⟩
     .rw [if_neg c3]
      exact bI ⟨rfl,Ts,hT,hl,ha⟩
    .obtain ⟨rfl,Ts,hT,hl,ha⟩:=hI
     dsimp only
     refine bq (sI (bq (sI (bI ⟨Ts++[((arrOf av).toList.drop Ts.flatten.length).take n],?_,hT.push rfl rfl rfl (hT.uN.mod (λx=>(x.1,x.2.1,power' a₀.size (2*s1+wx) (2*s1+wx+wx+n) a₀.size)) (λ_=>⟨rfl,rfl⟩) ((pendingOf av).size-1)) (by rw [hl];exact (vi ..).trans (by rw [Nh];rfl)) n1 (by ext n2 hl) (by rw [hl,ha];exact wI),?_⟩))))
     .rw [vn,da,vA,hl,ha,l3]
     .rw [vn,da,vA,hl,ha,l3]
      ext hp m1
 .obtain ⟨Rs,rfl,hS,hp⟩:=hI
  have hle:=hS.le
  exact ⟨Rs,rfl,hS,by ext hp hle⟩
 .obtain ⟨Rs,rfl,hS,hp⟩:=hI
  dsimp only
  have hr:Rs.length<=a₀.size:=by rw [<-hp];exact XA λR hR=>(hS.run R hR).1
  refine bq (oa (oh (λx c av=>c=(none,())/\∃Rs:List (List Keyed),St κ C kd a₀ av Rs/\Rs.flatten.length=a₀.size/\Rs.length<=max 1 (a₀.size-x)) (Q:=λc av=>c=(none,())/\∃Rs:List (List Keyed),St κ C kd a₀ av Rs/\Rs.flatten.length=a₀.size/\Rs.length<=1) (λx c av _ hx hI=>?_) (λc av hI=>?_) ⟨rfl,Rs,hS,hp,by ext hr⟩) λc av hI=>?_)
  .obtain ⟨rfl,Rs,hS,hp,hl⟩:=hI
   refine bq (qw ?_)
   have hc:=hS.cnt
   simp only [hc]
   by_cases c1:Rs.length<=1
   .rw [if_pos c1]
    exact bI ⟨rfl,Rs,hS,hp,c1⟩
   rw [if_neg c1]
   refine bq ?_
   have key:∀j,(j=Rs.length-2\/(3<=Rs.length/\j=Rs.length-3))->∀{Q:Bool->SortSt->Prop},(∀av Ts,St κ C kd a₀ av Ts->Ts.flatten.length=Rs.flatten.length->Ts.length+1=Rs.length->Q true av)->wpS (model prog w) A E s (mergeAt' j) Q av:=λj hj Q hq=>by
    rcases hj with rfl | ⟨h3,rfl⟩
    .obtain ⟨Xs,R1,R2,rfl,hX⟩:=JK (Rs:=Rs) (by ext c1)
     exact Ey hk k hS hX.symm λxY R wU wO _=>hq xY _ wU wO (by simp)
    .obtain ⟨Xs,R1,R2,R3,rfl,hX⟩:=V6 (Rs:=Rs) ‹_›
     exact Ey hk k hS hX.symm λxY R wU wO _=>hq xY _ wU wO (by simp)
   refine key _ ?_ λxY Ts hT h1 h2=>?_
   .by_cases c2:Rs.length-2>0
    .rw [if_pos c2]
     split
     .exact .inr ⟨by ext c2,by ext⟩
     .exact .inl rfl
    .rw [if_neg c2]
     exact .inl rfl
   .rw [if_neg (by decide)]
    exact bI ⟨rfl,Ts,hT,by ext hp h1,by ext hl h2⟩
  .obtain ⟨rfl,Rs,hS,hp,hl⟩:=hI
   exact ⟨rfl,Rs,hS,hp,by ext hl⟩
  .obtain ⟨rfl,Rs,hS,hp,hl⟩:=hI
   refine bI (hQ _ hS.perm hS.failed ?_)
   have e:(arrOf av).toList=Rs.flatten:=by
    have:=hS.pre
    rw [xF (by rw [gD,hS.perm.size_eq];ext hp)] at this
    exact this
   rw [e]
   match Rs,hl,hS.run,hp with
   | [],_,_,hp=>exact vj
   | [R],_,hr,_ =>
    rw [Ef,List.flatten_nil,rY]
    exact (hr R (by simp)).2
end
end SO
noncomputable def CW:Nat:=1600000
namespace TS
open PySem PyProof.Rows
noncomputable abbrev kTup:Bool → SortKind:=sortPriv% PySem.Builtin.KeyKind.tuples
section
variable {prog:Program}{w:World}{A:Around}{E:Value->Shared->Prop}{s:Shared}
noncomputable def kI(ky:Value->Int)(xs:Array Keyed)(i:Nat):Int:=match xs[i]? with
 | some p=>ky p.1
 | none=>0
structure TB(a₀:Array Keyed)(st:SortSt):Prop where
 perm:(arrOf st).Perm a₀
 kind:kindOf st=kTup true
 failed:failedOf st=none
 pend:pendingOf st=#[]
variable {ky:Value->Int}{a₀:Array Keyed}
def Inc(ky:Value->Int)(xs:Array Keyed)(k:Nat):Prop:=∀i j,i<j->j<k->kI ky xs i<kI ky xs j
theorem wg{vs:List Value}{xs:Array Keyed}(hp:xs.Perm (pairsOf vs))(hi:Inc ky xs (pairsOf vs).size):(xs.map (·.2)).toList.Perm vs/\(xs.map (·.2)).toList.Pairwise λx y=>ky x<ky y:=by
 have eU:=Ei.mp hp
 have hz:(vs.zip vs).map (·.2)=vs:=by rw [List.map_snd_zip];exact bZ _
 have nV:∀p∈xs.toList,p.1=p.2:=λp wK=>by
  have:=eU.mem_iff.mp wK
  rw [yD] at this
  have key:∀(us:List Value) (p:Value×Value),p∈us.zip us->p.1=p.2:=λus=>by
   induction us with
   | nil=>intro p z;cases z
   | cons u us ih =>
    intro p z
    rcases bG.mp z with rfl | z
    .rfl
    .exact ih p z
  exact key vs p this
 rw [Array.toList_map]
 refine ⟨by have:=eU.map (·.2);rw [yD,hz] at this;exact this,?_⟩
 rw [IJ,BR]
 intro i j h1 h2 js
 have hsz:xs.size=(pairsOf vs).size:=hp.size_eq
 have g:∀k (hk:k<xs.toList.length),kI ky xs k=ky (xs.toList[k]).2:=λk hk=>by
  have uW:k<xs.size:=by simpa using hk
  unfold kI
  rw [getElem?_pos _ k uW]
  have:=nV xs.toList[k] (ua hk)
  show ky (xs[k]).1=_
  rw [<-this]
  simp
 rw [<-g i h1,<-g j h2]
 exact hi i j js (by rw [<-hsz];simpa using h2)
end
end TS
namespace DL
open PySem PySem.Spec PyProof.Rows L2
section
variable {X:Cx}
noncomputable def GX:D->Option (Int×D)
 | .tup (.int k::ds)=>some (k,.tup (.int k::ds))
 | _=>none
noncomputable def NU:List D->Option (List (Int×D))
 | []=>some []
 | d::ds=>(GX d).bind λk=>(NU ds).map λks=>k::ks
noncomputable def Jy(ds:List D):Option (List D):=(NU ds).bind λks=>if (ks.map (·.1)).Nodup/\ks.length<CW then some ((ks.mergeSort λa b=>decide (a.1<=b.1)).map (·.2)) else none
noncomputable def OM(f:En->Option Sl):En->Option Sl:=λenv=>(f env).bind λr=>match r.d with
 | .lst _ ds=>(Jy ds).map Sl.ow
 | _=>none
theorem YK:cA X (.type "int") (λxs H Q=>∃b:Bool,xs=[.bl b]/\Q (.int (if b then 1 else 0)) H):=by
 intro pins s σ H xs vs Q I r h
 obtain ⟨b,rfl,q⟩:=h
 obtain ⟨u,rfl,ru⟩:=r.one
 cases ru
 exact call_int_bool ⟨.int _,H,I.tok _,⟨_,rfl⟩,q⟩
noncomputable def Er(f:En->Option Sl):En->Option Sl:=λenv=>(mK (f env)).map λb=>.sh (.int (if b then 1 else 0))
theorem WA(hg:Gl X "int")(hm:X.mg "int" = none)(he:EV X e fa)(hs:starEach [e] X.env=[(false,eval e X.env)]:=by rfl):EV X (.Call (.Name "int" p) [e] [] pos) (Er fa):=by
 obtain ⟨t,pt,k⟩:=he
 refine ⟨_,Cp YK hg hm (by decide +kernel) (nH pt oX hs) (by decide) (by decide) hs rfl,λO B σ H env s Q R e q=>?_⟩
 obtain ⟨b,e1,rfl⟩:=map_some e
 refine k O B σ H env _ _ R (Fc e1) λv H1 s1 r1=>?_
 obtain rfl:=B1 r1
 exact ⟨b,rfl,q _ H1 s1 (Is.int _)⟩
end
end DL
namespace DL
open PySem PySem.Spec PyProof.Rows L2
section
variable {X:Cx}{N:List Str}{sc:Scope}{k:Nat}{full:Bool}{pos pos' p1 p2 p3 p4:Pos}{e c:Expr}{fa:En->Option Sl}{ga:En->Option Bool}
noncomputable def qk(i:Nat)(f:En->Option Sl):SF:=λenv=>match env[i]? with
 | some (.sh (.int m))=>match f env with
  | some (.sh (.int n))=>some (.nx,env.set i (.sh (.int (m+n))))
  | _=>none
 | _=>none
theorem P0(h:qk i f env=some y):∃m n,env[i]?=some (.sh (.int m))/\f env=some (.sh (.int n))/\y=(.nx,env.set i (.sh (.int (m+n)))):=by
 unfold qk at h
 split at h
 .rename_i m e1
  split at h
  .rename_i n e2
   cases h
   exact ⟨m,n,e1,e2,rfl⟩
  .cases h
 .cases h
theorem Fx.aug(h:Fx X N sc k full)(i:Nat)(he:EV X e fa)(hN:N[i]?=some x:=by rfl)(hv:Loc sc x:=by first | exact cC rfl | exact bM rfl)
  (hf:full=true\/sc.names.lookup x=some .local:=by first | exact cC rfl | exact bM rfl):SV X (.AugAssign (.Name x pos') .Add e pos) (qk i fa):=by
 obtain ⟨t,p,kk⟩:=he
 refine ⟨_,Vs h.yb (h.ix hN) (h.loc hv) p VF (h.xX hf),λO B σ H env fl ak D R e q=>?_⟩
 obtain ⟨m,n,hi,e1,e2⟩:=P0 e
 cases e2
 obtain ⟨v,e3,hv⟩:=R.sh i _ hi
 obtain rfl:=oA hv
 refine ⟨_,e3,kk O B σ H env _ _ R e1 λv H1 s1 r1=>?_⟩
 obtain rfl:=oA r1
 refine ⟨m,n,rfl,rfl,?_⟩
 obtain ⟨R',g'⟩:=R.set (v:=.int (m+n)) (r:=.sh (.int (m+n))) s1 (Is.int (m+n)) (qP.mp hi).1
 exact q _ H1 R' g'
noncomputable def NQ(i j:Nat)(c:En->Option Bool)(f:En->Option Sl):SF:=λenv=>match env[i]? with
 | some (.ow ds)=>forL (gN j) (cN c (aT f) cR) ds env
 | _=>none
end
end DL
namespace DL
open PySem L2
def Wo{α:Type}(o:Option α)(Q:α->Prop):Prop:=∃a,o=some a/\Q a
section
variable {α β:Type}
theorem a0e{a:α}{Q:α->Prop}:Wo (some a) Q↔Q a:=⟨λ⟨_,e,h⟩=>by cases e;exact h,λh=>⟨a,rfl,h⟩⟩
theorem Wo_none:Wo (none:Option α) Q↔False:=⟨λ⟨_,e,_⟩=>(nomatch e),mh⟩
theorem a0i{o:Option α}{f:α->Option β}{Q:β->Prop}:Wo (o.bind f) Q↔Wo o λa=>Wo (f a) Q:=by
 cases o with
 | none=>simp [Wo]
 | some a=>simp [Wo]
theorem a1m{o:Option α}{f:α->β}{Q:β->Prop}:Wo (o.map f) Q↔Wo o λa=>Q (f a):=by
 cases o with
 | none=>simp [Wo]
 | some a=>simp [Wo]
theorem mq{c:Prop}[Decidable c]{a:α}{Q:α->Prop}:Wo (if c then some a else none) Q↔c/\Q a:=by
 by_cases h:c
 .rw [if_pos h,a0e];exact ⟨λz=>⟨h,z⟩,λz=>z.2⟩
 .rw [if_neg h,Wo_none];exact ⟨mh,λz=>h z.1⟩
theorem Wo.mono{o:Option α}{P Q:α->Prop}(h:Wo o P)(k:∀a,P a->Q a):Wo o Q:=let ⟨a,e,p⟩:=h;⟨a,e,k a p⟩
theorem Wo.eq{o:Option α}{a:α}(h:Wo o λx=>x=a):o=some a:=let ⟨_,e,p⟩:=h;by rw [e,p]
theorem kL{o:Option α}{P Q:α->Prop}(k:∀a,P a↔Q a):Wo o P↔Wo o Q:=⟨λh=>h.mono λa=>(k a).mp,λh=>h.mono λa=>(k a).mpr⟩
end
noncomputable def rq(G:SF)(Q:Fl×En->Prop):Fl×En->Prop
 | (.nx,e)=>Wo (G e) Q
 | p=>Q p
theorem a48:rq G Q (.nx,e)↔Wo (G e) Q:=e8
theorem a9U:rq G Q (.bk,e)↔Q (.bk,e):=e8
theorem a9T:rq G Q (.ct,e)↔Q (.ct,e):=e8
theorem a9S:rq G Q (.rt r,e)↔Q (.rt r,e):=e8
theorem Wo_seq:Wo (az F G env) Q↔Wo (F env) (rq G Q):=by
 unfold az
 cases h:F env with
 | none=>simp [Wo]
 | some p =>
  obtain ⟨fl,e⟩:=p
  rw [a0e]
  cases fl with
  | nx=>exact e8
  | bk=>rw [a9U];exact a0e
  | ct=>rw [a9T];exact a0e
  | rt r=>rw [a9S];exact a0e
theorem a0G:Wo (cN c F G env) Q↔Wo (c env) λb=>(b=true->Wo (F env) Q)/\(b=false->Wo (G env) Q):=by
 unfold cN
 cases h:c env with
 | none=>simp [Wo]
 | some b=>cases b<;>simp [a0e]
theorem b7z:Wo (cR env) Q↔Q (.nx,env):=a0e
theorem Wo_bk:Wo (RG env) Q↔Q (.bk,env):=a0e
theorem Wo_ct:Wo (RE env) Q↔Q (.ct,env):=a0e
theorem b3A:Wo (aT f env) Q↔Wo (f env) λr=>Q (.rt r,env):=a1m
theorem b5l:Wo (zR env) Q↔Q (.rt (.sh .bz),env):=a0e
theorem b7u:Wo (ei i f env) Q↔Wo (f env) λr=>i<env.length/\Q (.nx,env.set i r):=by
 unfold ei;rw [a0i];simp only [mq]
theorem b5h:Wo (de i f env) Q↔Wo (f env) λr=>i<env.length/\Q (.nx,env.set i (.sh r.d)):=by
 unfold de;rw [a0i];simp only [mq]
theorem b5S{f:En->Option Sl}{env:En}{Q:Fl×En->Prop}:Wo (Jw f env) Q↔Wo (f env) λ_=>Q (.nx,env):=a1m
noncomputable def om:Option Sl->(Sl->Prop)->Prop
 | some (.sh d),Q=>Q (.sh d)
 | _,_=>False
theorem b44:om (some (.sh d)) Q↔Q (.sh d):=e8
theorem b7K:Wo (eV i env) Q↔om env[i]? Q:=by
 unfold eV
 cases env[i]? with
 | none=>simp [Dc,om,Wo]
 | some s=>cases s<;>simp [Dc,om,Wo]
theorem Wo_eC:Wo (eC d env) Q↔Q (.sh d):=a0e
theorem b7T:Wo (aa g fa fb env) Q↔Wo (fa env) λx=>Wo (fb env) λy=>Wo (g x.d y.d) Q:=by
 unfold aa;rw [a0i];simp only [a0i]
theorem b7A:Wo (qu f env) Q↔Wo (f env) λx=>Wo (w4 x.d) Q:=a0i
theorem b5r:Wo (w4 (.int i)) Q↔Q (.sh (.int (-i))):=a0e
theorem b5x:Wo (br (.int i) (.int j)) Q↔Q (.sh (.int (i+j))):=a0e
theorem b5p:Wo (dH (.int i) (.int j)) Q↔Q (.sh (.int (i-j))):=by rw [VB,a0e]
theorem b5t:Wo (cz (.int i) (.int j)) Q↔MulC i j/\Q (.sh (.int (i*j))):=mq
theorem b5w:Wo (rM (.int i) (.int j)) Q↔DivC i j/\Q (.sh (.int (i/j))):=mq
theorem b5u:Wo (pf (.int i) (.int j)) Q↔0<j/\Q (.sh (.int (i%j))):=mq
theorem b5q:Wo (nY (.int i) (.int j)) Q↔PowC i j/\Q (.sh (.int (i^j.toNat))):=mq
theorem b7E:Wo (sF (.int i) (.int j)) Q↔Q (.sh (.bl (decide (i<j)))):=a0e
theorem b7F:Wo (u5 (.int i) (.int j)) Q↔Q (.sh (.bl (decide (i<=j)))):=a0e
theorem b7G:Wo (tW (.int i) (.int j)) Q↔Q (.sh (.bl (decide (j<i)))):=a0e
theorem b7H:Wo (Uj (.int i) (.int j)) Q↔Q (.sh (.bl (decide (j<=i)))):=a0e
theorem b7I:Wo (bP (.int i) (.int j)) Q↔Q (.sh (.bl (decide (i=j)))):=a0e
theorem b7C:Wo (dA (.int i) (.int j)) Q↔Q (.sh (.bl (!decide (i=j)))):=a0e
theorem b5v:Wo (bP (.bl i) (.bl j)) Q↔Q (.sh (.bl (decide (i=j)))):=a0e
theorem b5s:Wo (dA (.bl i) (.bl j)) Q↔Q (.sh (.bl (!decide (i=j)))):=a0e
theorem b2Z:Wo (bP (.int i) .bz) Q↔Q (.sh (.bl false)):=a0e
theorem b2W:Wo (dA (.int i) .bz) Q↔Q (.sh (.bl true)):=a0e
theorem b2Y:Wo (bP .bz (.int i)) Q↔Q (.sh (.bl false)):=a0e
theorem b2V:Wo (dA .bz (.int i)) Q↔Q (.sh (.bl true)):=a0e
theorem b2X:Wo (bP .bz .bz) Q↔Q (.sh (.bl true)):=a0e
theorem b2U:Wo (dA .bz .bz) Q↔Q (.sh (.bl false)):=a0e
theorem b7B:Wo (Hy a .bz) Q↔Q (.sh (.bl a.cV)):=a0e
theorem b5m:Wo (Js a .bz) Q↔Q (.sh (.bl (!a.cV))):=a0e
theorem b3z:Wo (cj f env) Q↔Wo (f env) λr=>Wo (mK (some r)) Q:=by
 unfold cj
 cases f env with
 | none=>simp [mK,Wo]
 | some r=>rw [a0e]
theorem b7Y:Wo (mK (some (.sh (.bl b)))) Q↔Q b:=a0e
theorem b5e:Wo (jf f env) Q↔Wo (f env) λr=>Wo (lO r.d) Q:=a0i
theorem b5d:Wo (lO (.bl b)) Q↔Q b:=a0e
theorem b5c:Wo (lO (.int b)) Q↔Q (b != 0):=a0e
theorem b49:Wo (lO (.tup ds)) Q↔Q (!ds.isEmpty):=a0e
theorem b5b:Wo (lO (.lst r ds)) Q↔Q (!ds.isEmpty):=a0e
theorem b5a:Wo (lO .bz) Q↔Q false:=a0e
theorem b2O:Wo (EA f env) Q↔Wo (f env) λr=>Q (!r.2.isEmpty):=by
 unfold EA;rw [a0i];simp only [a0e]
theorem b5g:Wo (q4 f g env) Q↔Wo (f env) λb=>(b=true->Wo (g env) Q)/\(b=false->Q false):=by
 unfold q4
 cases f env with
 | none=>simp [Wo]
 | some b=>cases b<;>simp [a0e]
theorem b7r:Wo (dU f g env) Q↔Wo (f env) λb=>(b=true->Q true)/\(b=false->Wo (g env) Q):=by
 unfold dU
 cases f env with
 | none=>simp [Wo]
 | some b=>cases b<;>simp [a0e]
theorem b5f:Wo (uh f env) Q↔Wo (f env) λb=>Q (!b):=a1m
theorem b5Q:Wo (rR f g env) Q↔Wo (f env) λr=>Wo (mK (some r)) λb=>(b=true->Wo (g env) Q)/\(b=false->Q (.sh (.bl false))):=by
 unfold rR
 cases f env with
 | none=>simp [Wo,mK]
 | some r =>
  rw [a0e]
  cases mK (some r) with
  | none=>simp [Wo]
  | some b=>cases b<;>simp [a0e]
theorem b7O:Wo (MO f g env) Q↔Wo (f env) λr=>Wo (mK (some r)) λb=>(b=true->Q (.sh (.bl true)))/\(b=false->Wo (g env) Q):=by
 unfold MO
 cases f env with
 | none=>simp [Wo,mK]
 | some r =>
  rw [a0e]
  cases mK (some r) with
  | none=>simp [Wo]
  | some b=>cases b<;>simp [a0e]
theorem b5H:Wo (Bq f env) Q↔Wo (f env) λr=>Wo (mK (some r)) λb=>Q (.sh (.bl !b)):=by
 unfold Bq
 cases f env with
 | none=>simp [Wo,mK]
 | some r=>rw [a0e,a1m]
theorem b7R:Wo (yr c f g env) Q↔Wo (c env) λb=>(b=true->Wo (f env) Q)/\(b=false->Wo (g env) Q):=by
 unfold yr
 cases c env with
 | none=>simp [Wo]
 | some b=>cases b<;>simp [a0e]
theorem b5Y:Wo (af env) Q↔Q []:=a0e
theorem b3b:Wo (ag f g env) Q↔Wo (f env) λr=>Wo (g env) λds=>Q (r.d::ds):=by
 unfold ag;rw [a0i];simp only [a0i,a0e]
theorem b5D:Wo (cu f env) Q↔Wo (f env) λds=>ds.length<=16777216/\Q (.sh (.tup ds)):=by
 unfold cu;rw [a0i];simp only [mq]
theorem b5K:Wo (bU f env) Q↔Wo (f env) λds=>ds.length<=16777216/\Q (.ow ds):=by
 unfold bU;rw [a0i];simp only [mq]
noncomputable def mj:Option Sl->(Bool×List D->Prop)->Prop
 | some (.sh (.tup ds)),Q=>Q (false,ds)
 | some (.sh (.lst _ ds)),Q=>Q (true,ds)
 | some (.ow ds),Q=>Q (true,ds)
 | _,_=>False
theorem b7k:mj (some (.sh (.tup ds))) Q↔Q (false,ds):=e8
theorem b7m:mj (some (.sh (.lst r ds))) Q↔Q (true,ds):=e8
theorem b7l:mj (some (.ow ds)) Q↔Q (true,ds):=e8
theorem Wo_bV:Wo (bV i env) Q↔mj env[i]? Q:=by
 unfold bV
 cases env[i]? with
 | none=>simp [wa,mj,Wo]
 | some s=>cases s with
  | no=>simp [wa,mj,Wo]
  | dw ds=>simp [wa,mj,Wo]
  | tw _ _=>simp [wa,mj,Wo]
  | ow ds=>simp [wa,mj,Wo]
  | sh d=>cases d<;>simp [wa,mj,Wo,fA]
theorem b7U:Wo (kX f env) Q↔Wo (f env) λr=>Wo (fA r.d) Q:=a0i
theorem b7s:Wo (fA (.tup ds)) Q↔Q (false,ds):=a0e
theorem b7t:Wo (fA (.lst r ds)) Q↔Q (true,ds):=a0e
theorem b5L:Wo (lD f env) Q↔Wo (f env) λx=>Q (.sh (.int x.2.length)):=a1m
theorem b24:Wo (Es f env) Q↔Wo (f env) λx=>Q (.ow x.2):=a1m
theorem b1g:Wo (Ca f env) Q↔Wo (f env) λx=>x.1=true/\Q (.sh (.tup x.2)):=by
 unfold Ca;rw [a0i];simp only [mq]
def GZ(xs:List D)(d:D)(Q:Sl->Prop):Prop:=match d with
 | .int i=>Wo (dt xs i) λd=>Q (.sh d)
 | _=>False
theorem ixQ_i:GZ xs (.int i) Q↔Wo (dt xs i) λd=>Q (.sh d):=e8
theorem b7Q:Wo (aS f g env) Q↔Wo (f env) λx=>Wo (g env) λy=>GZ x.2 y.d Q:=by
 unfold aS
 rw [a0i]
 refine kL λx=>?_
 rw [a0i]
 refine kL λy=>?_
 unfold GZ
 cases y.d<;>simp [a1m,Wo_none]
theorem eK{α:Type}{xs:List α}{n:Nat}:dt xs (n:Int)=xs[n]?:=by
 unfold dt nR
 rw [if_pos (by ext)]
 by_cases h:n<xs.length
 .rw [if_pos (by ext h)];simp
 .rw [if_neg (by ext h),BS (by ext h)];rfl
theorem b7o{α:Type}{x:α}{xs:List α}:dt (x::xs) 0=some x:=eK (n:=0)
theorem atI_1{α:Type}{x y:α}{xs:List α}:dt (x::y::xs) 1=some y:=eK (n:=1)
theorem atI_2{α:Type}{x y z:α}{xs:List α}:dt (x::y::z::xs) 2=some z:=eK (n:=2)
theorem atI_3{α:Type}{x y z u:α}{xs:List α}:dt (x::y::z::u::xs) 3=some u:=eK (n:=3)
theorem b26:Wo (cw n φ fs env) Q↔Wo (fs env) λds=>ds.length=n/\Wo (φ ds) Q:=by
 unfold cw
 rw [a0i]
 have h:∀ds:List D,Wo (if ds.length=n then φ ds else none) Q↔ds.length=n/\Wo (φ ds) Q:=λds=>by
  by_cases h:ds.length=n<;>simp [h,Wo_none]
 simp only [h]
theorem b1i:Wo (B' g fs env) Q↔Wo (fs env) λds=>Wo (g ds) Q:=a0i
theorem b29:Wo (yO [.int i,.int j]) Q↔Q (.sh (.int (min i j))):=by
 have:(if j<i then j else i)=min i j:=by simp only [Int.min_def];split<;>split<;>lia
 unfold yO;rw [a0e,this]
theorem b3a:Wo (NJ [.int i,.int j]) Q↔Q (.sh (.int (max i j))):=by
 have:(if j>i then j else i)=max i j:=by simp only [Int.max_def];split<;>split<;>lia
 unfold NJ;rw [a0e,this]
theorem b5M:Wo (qv T f env) Q↔Wo (f env) λr=>Wo (mX T r.d) Q:=a0i
theorem b2a:Wo (mX T (.bz)) Q↔Q (.sh (.bl (bR T (.bz)))):=a0e
theorem b4y:Wo (mX T (.bl b)) Q↔Q (.sh (.bl (bR T (.bl b)))):=a0e
theorem b2c:Wo (mX T (.int i)) Q↔Q (.sh (.bl (bR T (.int i)))):=a0e
theorem b19:Wo (mX T (.str x)) Q↔Q (.sh (.bl (bR T (.str x)))):=a0e
theorem b18:Wo (mX T (.tup ds)) Q↔Q (.sh (.bl (bR T (.tup ds)))):=a0e
theorem b2b:Wo (mX T (.lst r ds)) Q↔Q (.sh (.bl (bR T (.lst r ds)))):=a0e
noncomputable def bS(Q:Sl->Prop):Fl×En->Prop
 | (.rt r,_)=>Q r
 | (.nx,_)=>Q (.sh .bz)
 | _=>False
theorem b4T:bS Q (.rt r,e)↔Q r:=e8
theorem b4U:bS Q (.nx,e)↔Q (.sh .bz):=e8
theorem fj:Wo (bK F N ds) Q↔Wo (F (oB N ds)) (bS Q):=by
 unfold bK
 cases F (oB N ds) with
 | none=>simp [Wo]
 | some p =>
  obtain ⟨fl,e⟩:=p
  rw [a0e]
  cases fl<;>simp [a0e,Wo_none,bS]
theorem b3B:Wo (gO f g F env) Q↔Wo (f env) λr=>Wo (fA r.d) λx=>Wo (forL g F x.2 env) Q:=by
 unfold gO;rw [a0i];simp only [a0i]
theorem b5y:Wo (vC h f g F env) Q↔Wo (f env) λds=>Wo (h ds) λis=>Wo (forL g F is env) Q:=by
 unfold vC;rw [a0i];simp only [a0i]
theorem b5j:Wo (nL [.int j]) Q↔R62 j/\Q (dy 0 j.toNat):=mq
theorem b5i:Wo (Gx [.int i,.int j]) Q↔(R62 i/\R62 j)/\Q (dy i (j-i).toNat):=mq
noncomputable def vD(I:En->Prop)(Q:Fl×En->Prop):Fl×En->Prop
 | (.nx,e)=>I e
 | (.ct,e)=>I e
 | (.bk,e)=>Q (.nx,e)
 | (.rt r,e)=>Q (.rt r,e)
theorem b1n:vD I Q (.nx,e)↔I e:=e8
theorem b1o:vD I Q (.ct,e)↔I e:=e8
theorem b1p:vD I Q (.bk,e)↔Q (.nx,e):=e8
theorem b1m:vD I Q (.rt r,e)↔Q (.rt r,e):=e8
theorem ur{α:Type}(enc:α->D)(I:List α->En->Prop)(xs:List α)(turn:∀pre a post env,xs=pre++a::post->I pre env->Wo (g (enc a) env) λe=>Wo (F e) (vD (I (pre++[a])) Q))
  (done:∀env,I xs env->Q (.nx,env)):∀{env:En},I [] env->Wo (forL g F (xs.map enc) env) Q:=by
 have key:∀(post pre:List α) (env:En),xs=pre++post->I pre env->Wo (forL g F (post.map enc) env) Q:=by
  intro post
  induction post with
  | nil =>
   intro pre env e h
   rw [rY] at e
   subst e
   exact ⟨_,rfl,done env h⟩
  | cons a post ih =>
   intro pre env e h
   obtain ⟨e1,h1,p,h2,h3⟩:=turn pre a post env e h
   rw [e9]
   unfold forL
   rw [h1]
   dsimp only
   rw [h2]
   obtain ⟨fl,e2⟩:=p
   cases fl with
   | nx=>exact ih (pre++[a]) e2 (by rw [e,iW];rfl) h3
   | ct=>exact ih (pre++[a]) e2 (by rw [e,iW];rfl) h3
   | bk=>exact ⟨_,rfl,h3⟩
   | rt r=>exact ⟨_,rfl,h3⟩
 exact λ{env} h=>key xs [] env rfl h
theorem y9(lo:Int)(n:Nat)(I:Nat->En->Prop)(turn:∀(k:Nat) env,k<n->I k env->Wo (g (.int (lo+k)) env) λe=>Wo (F e) (vD (I (k+1)) Q))
  (done:∀env,I n env->Q (.nx,env))(h:I 0 env):Wo (forL g F (dy lo n) env) Q:=by
 unfold dy
 refine ur (λ(k:Nat)=>D.int (lo+(k:Int))) (λpre env=>I pre.length env) (pD n) (λpre a post env e h=>?_) (λenv h=>done env (by simpa using h)) h
 have hl:=congrArg xr e
 have ha:(pD n)[pre.length]?=some a:=by rw [e];simp
 simp at hl
 rw [List.getElem?_range (by ext hl)] at ha
 cases ha
 simpa using turn pre.length env (by ext hl) h
theorem b7D:Wo (gN i d env) Q↔i<env.length/\Q (env.set i (.sh d)):=mq
theorem Wo_gT:Wo (gT n u (.tup ds) env) Q↔ds.length=n/\Wo (u ds env) Q:=by
 unfold gT
 by_cases h:ds.length=n<;>simp [h,Wo_none]
theorem b2T:Wo (vB [] env) Q↔Q env:=a0e
theorem b1e:Wo (p8 g u (d::ds) env) Q↔Wo (g d env) λe=>Wo (u ds e) Q:=a0i
theorem b7W:Wo (zU f g env) Q↔Wo (f env) λr=>Wo (g r.d env) λe=>Q (.nx,e):=by
 unfold zU;rw [a0i];simp only [a1m]
noncomputable def cf:Option Sl->(List D->Prop)->Prop
 | some (.ow ds),Q=>Q ds
 | _,_=>False
theorem b7n:cf (some (.ow ds)) Q↔Q ds:=e8
theorem b7Z:Wo (ji i f env) Q↔cf env[i]? λds=>Wo (f env) λr=>ds.length<16777216/\Q (.nx,env.set i (.ow (ds++[r.d]))):=by
 unfold ji
 cases env[i]? with
 | none=>simp [Wo_none,cf]
 | some s=>cases s with
  | no=>simp [Wo_none,cf]
  | dw d=>simp [Wo_none,cf]
  | tw _ _=>simp [Wo_none,cf]
  | sh d=>simp [Wo_none,cf]
  | ow ds=>dsimp only [cf];rw [a0i];simp only [mq]
def w8(env:En)(i:Nat)(ds:List D)(d:D)(Q:Fl×En->Prop):Prop:=match d with
 | .lst false es=>ds.length+es.length<=16777216/\Q (.nx,env.set i (.ow (ds++es)))
 | _=>False
theorem b6Z:w8 env i ds (.lst false es) Q↔ds.length+es.length<=16777216/\Q (.nx,env.set i (.ow (ds++es))):=e8
theorem b7J:Wo (mP i f env) Q↔cf env[i]? λds=>Wo (f env) λr=>w8 env i ds r.d Q:=by
 unfold mP
 cases env[i]? with
 | none=>simp [Wo_none,cf]
 | some s=>cases s with
  | no=>simp [Wo_none,cf]
  | dw d=>simp [Wo_none,cf]
  | tw _ _=>simp [Wo_none,cf]
  | sh d=>simp [Wo_none,cf]
  | ow ds =>
   dsimp only [cf];rw [a0i]
   refine kL λr=>?_
   unfold w8
   cases r.d with
   | lst ro es=>cases ro<;>simp [mq,Wo_none]
   | _=>simp [Wo_none]
theorem b7w:Wo (qi i j env) Q↔cf env[j]? λds=>Wo ds[ds.length-1]? λd=>(i<env.length/\i≠j)/\Q (.nx,(env.set j (.ow ds.dropLast)).set i (.sh d)):=by
 unfold qi
 cases env[j]? with
 | none=>simp [Wo_none,cf]
 | some s=>cases s with
  | no=>simp [Wo_none,cf]
  | dw d=>simp [Wo_none,cf]
  | tw _ _=>simp [Wo_none,cf]
  | sh d=>simp [Wo_none,cf]
  | ow ds=>dsimp only [cf];rw [a0i];simp only [mq]
def Jm(env:En)(i:Nat)(ds:List D)(d:D)(k:D)(Q:Fl×En->Prop):Prop:=match k with
 | .int n=>Wo (nR ds.length n) λj=>Q (.nx,env.set i (.ow (ds.set j d)))
 | _=>False
theorem b4w:Jm env i ds d (.int n) Q↔Wo (nR ds.length n) λj=>Q (.nx,env.set i (.ow (ds.set j d))):=e8
theorem b5n:Wo (B8 i f g env) Q↔cf env[i]? λds=>Wo (f env) λr=>Wo (g env) λk=>Jm env i ds r.d k.d Q:=by
 unfold B8
 cases env[i]? with
 | none=>simp [Wo_none,cf]
 | some s=>cases s with
  | no=>simp [Wo_none,cf]
  | dw d=>simp [Wo_none,cf]
  | tw _ _=>simp [Wo_none,cf]
  | sh d=>simp [Wo_none,cf]
  | ow ds =>
   dsimp only [cf];rw [a0i]
   refine kL λr=>?_
   rw [a0i]
   refine kL λk=>?_
   unfold Jm
   cases k.d<;>simp [a0i,a0e,Wo_none]
theorem JC:Wo (qj i F env) Q↔Wo (F (rN i env)) Q:=e8
theorem Jr(h:env[i]?=some (.ow ds)):rN i env=env.set i (.sh (.lst false ds)):=by unfold rN;rw [h]
noncomputable def B0(env:En):Option Sl->(Fl×En->Prop)->Prop
 | some (.ow ds),Q=>Q (.rt (.ow ds),env)
 | some (.dw ds),Q=>Q (.rt (.dw ds),env)
 | some (.tw ks ds),Q=>Q (.rt (.tw ks ds),env)
 | some (.sh d),Q=>Q (.rt (.sh d),env)
 | _,_=>False
theorem b46:B0 env (some (.ow ds)) Q↔Q (.rt (.ow ds),env):=e8
theorem b45:B0 env (some (.sh d)) Q↔Q (.rt (.sh d),env):=e8
theorem b5k:Wo (sU i env) Q↔B0 env env[i]? Q:=by
 unfold sU
 cases env[i]? with
 | none=>simp [Wo_none,B0]
 | some s=>cases s<;>simp [Wo_none,a0e,B0]
theorem b7y:Wo (Df env) Q↔Q none:=a0e
def pQ(d:D)(Q:Option Int->Prop):Prop:=match d with
 | .int i=>Q (some i)
 | _=>False
theorem pQ_i:pQ (.int i) Q↔Q (some i):=e8
theorem b7x:Wo (we f env) Q↔Wo (f env) λr=>pQ r.d Q:=by
 unfold we
 rw [a0i]
 refine kL λr=>?_
 unfold pQ
 cases r.d<;>simp [a0e,Wo_none]
theorem b7N:Wo (yq f lo hi env) Q↔Wo (f env) λx=>Wo (lo env) λl=>Wo (hi env) λh =>
  (x.1=true->Q (.ow (cutD x.2 l h)))/\(x.1=false->¬(HT.cc x.2.length 0 l=0/\HT.cc x.2.length x.2.length h=x.2.length)/\Q (.sh (.tup (cutD x.2 l h)))):=by
 unfold yq
 rw [a0i]
 simp only [a0i]
 have h:∀(x:Bool×List D) (l h:Option Int),Wo (if x.1=true then some (Sl.ow (cutD x.2 l h)) else if ¬(HT.cc x.2.length 0 l=0/\HT.cc x.2.length x.2.length h=x.2.length) then some (.sh (.tup (cutD x.2 l h))) else none) Q ↔
   (x.1=true->Q (.ow (cutD x.2 l h)))/\(x.1=false->¬(HT.cc x.2.length 0 l=0/\HT.cc x.2.length x.2.length h=x.2.length)/\Q (.sh (.tup (cutD x.2 l h)))):=λx l h=>by
  obtain ⟨k,ds⟩:=x
  cases k
  .simp only [xC,if_false,mq];simp
  .simp [a0e]
 simp only [h]
theorem Sl_sh:Sl.d (.sh d)=d:=rfl
theorem Sl_ow:Sl.d (.ow ds)=.lst false ds:=rfl
theorem b22:Wo (br (.lst false a) (.lst false b)) Q↔a.length+b.length<=16777216/\Q (.ow (a++b)):=mq
theorem b20:Wo (br (.tup a) (.tup b)) Q↔a.length+b.length<=16777216/\Q (.sh (.tup (a++b))):=mq
theorem b21:Wo (br (.str a) (.str b)) Q↔a.length+b.length<=16777216/\Q (.sh (.str (a++b))):=mq
theorem a77 :bR "int" .bz=false:=rfl
theorem a9p:bR "int" (.bl b)=true:=rfl
theorem a79:bR "int" (.int i)=true:=rfl
theorem a76:bR "int" (.str x)=false:=rfl
theorem a75:bR "int" (.tup ds)=false:=rfl
theorem a78:bR "int" (.lst r ds)=false:=rfl
theorem a7k :bR "bool" .bz=false:=rfl
theorem a8a:bR "bool" (.bl b)=true:=rfl
theorem a7m:bR "bool" (.int i)=false:=rfl
theorem a7j:bR "bool" (.str x)=false:=rfl
theorem a7i:bR "bool" (.tup ds)=false:=rfl
theorem a7l:bR "bool" (.lst r ds)=false:=rfl
theorem a71 :bR "str" .bz=false:=rfl
theorem a9o:bR "str" (.bl b)=false:=rfl
theorem a73:bR "str" (.int i)=false:=rfl
theorem a70:bR "str" (.str x)=true:=rfl
theorem a7Z:bR "str" (.tup ds)=false:=rfl
theorem a72:bR "str" (.lst r ds)=false:=rfl
theorem a7f :bR "list" .bz=false:=rfl
theorem a74:bR "list" (.bl b)=false:=rfl
theorem a7h:bR "list" (.int i)=false:=rfl
theorem a7e:bR "list" (.str x)=false:=rfl
theorem a7d:bR "list" (.tup ds)=false:=rfl
theorem a7g:bR "list" (.lst r ds)=true:=rfl
theorem a6l :bR "tuple" .bz=false:=rfl
theorem a7c:bR "tuple" (.bl b)=false:=rfl
theorem a6n:bR "tuple" (.int i)=false:=rfl
theorem a6k:bR "tuple" (.str x)=false:=rfl
theorem a6j:bR "tuple" (.tup ds)=true:=rfl
theorem a6m:bR "tuple" (.lst r ds)=false:=rfl
theorem Ki{α β:Type}{f:α->β}{xs:List α}{i:Int}(z:α)(h0:0<=i)(h:i<xs.length):dt (xs.map f) i=some (f (xs.getD i.toNat z)):=by
 unfold dt nR
 rw [dF,if_pos h0,if_pos h]
 have:i.toNat<xs.length:=by ext h0 h
 simp [this]
theorem a8j:Wo (forL g F [] env) Q↔Q (.nx,env):=a0e
theorem a7B:Wo (forL g F (d::ds) env) Q↔Wo (g d env) λe=>Wo (F e) (vD (λe=>Wo (forL g F ds e) Q) Q):=by
 rw [forL]
 cases g d env with
 | none=>simp [Wo_none]
 | some e =>
  rw [a0e]
  dsimp only
  cases F e with
  | none=>simp [Wo_none]
  | some p =>
   obtain ⟨fl,e2⟩:=p
   rw [a0e]
   cases fl<;>simp [vD,a0e]
theorem b0C:D.cV .bz=true:=rfl
theorem b2e:D.cV (.bl b)=false:=rfl
theorem b0E:D.cV (.int i)=false:=rfl
theorem b0B:D.cV (.str x)=false:=rfl
theorem b0A:D.cV (.tup ds)=false:=rfl
theorem b0D:D.cV (.lst r ds)=false:=rfl
theorem Ox(xs:List Int){i:Int}(h0:0<=i)(h1:i<xs.length)(h:∀v∈xs,Q (.int v))(e:ds=xs.map D.int:=by rfl):Wo (dt ds i) Q:=by
 have hi:i.toNat<xs.length:=by ext h0 h1
 rw [e,Ki 0 h0 h1,a0e,show xs.getD i.toNat 0=xs[i.toNat] by simp [hi]]
 exact h _ (ua hi)
theorem b5T:Wo (mL fi caps nt g fc fe env) Q↔Wo (fi env) λds=>Wo (me caps env) λcs=>ds.length<=16777216/\Wo (oR g fc fe ds (mI nt Sl.no++cs)) λrs=>Q (.ow rs):=by
 unfold mL
 rw [a0i]
 refine kL λds=>?_
 rw [a0i]
 refine kL λcs=>?_
 by_cases h:ds.length<=16777216
 .rw [if_pos h,a1m];exact ⟨λz=>⟨h,z⟩,λz=>z.2⟩
 .rw [if_neg h,Wo_none];exact ⟨mh,λz=>h z.1⟩
theorem b5V:Wo (me [] env) Q↔Q []:=a0e
theorem b5U:Wo (me (i::is) env) Q↔om env[i]? λs=>Wo (me is env) λcs=>Q (s::cs):=by
 rw [me]
 cases h:env[i]? with
 | none=>simp [Wo_none,om]
 | some s=>cases s<;>simp [Wo_none,om,a1m]
theorem rep0{l:En}:mI 0 Sl.no++l=l:=rfl
theorem rep1{l:En}:mI 1 Sl.no++l=Sl.no::l:=rfl
theorem rep2{l:En}:mI 2 Sl.no++l=Sl.no::Sl.no::l:=rfl
theorem rep3{l:En}:mI 3 Sl.no++l=Sl.no::Sl.no::Sl.no::l:=rfl
theorem rep4{l:En}:mI 4 Sl.no++l=Sl.no::Sl.no::Sl.no::Sl.no::l:=rfl
theorem b2N:Wo (sV env) Q↔Q true:=a0e
theorem b27:Wo (oR g fc fe [] e) Q↔Q []:=a0e
theorem b28:Wo (oR g fc fe (d::ds) e) Q↔Wo (g d e) λe1=>Wo (fc e1) λb =>
  (b=true->Wo (fe e1) λr=>Wo (oR g fc fe ds e1) λrs=>Q (r.d::rs))/\(b=false->Wo (oR g fc fe ds e1) Q):=by
 rw [oR,a0i]
 refine kL λe1=>?_
 rw [a0i]
 refine kL λb=>?_
 cases b
 .rw [if_neg qU];simp
 .rw [if_pos rfl,a0i];simp only [a0i,a0e];simp
theorem b5B:Wo (kf f env) Q↔Wo (f env) λr=>Wo (fA r.d) λx=>Q x.2:=by
 unfold kf;rw [a0i];simp only [a1m]
theorem b5C:Wo (rP h f env) Q↔Wo (f env) λds=>Wo (h ds) Q:=a0i
theorem b5A:Wo (Jx f g F env) Q↔Wo (f env) λds=>Wo (forL g F ds env) Q:=a0i
theorem comp_map{α:Type}(enc:α->D)(f:α->D)(P:En->Prop)(xs:List α)
  (h:∀a∈xs,∀e,P e->Wo (g (enc a) e) λe1=>P e1/\Wo (fc e1) λb=>b=true/\Wo (fe e1) λr=>r.d=f a):∀{e:En},P e->oR g fc fe (xs.map enc) e=some (xs.map f):=by
 induction xs with
 | nil=>intro e _;rfl
 | cons a xs ih =>
  intro e he
  obtain ⟨e1,g1,p1,b,c1,rfl,r,f1,f2⟩:=h a jz e he
  rw [e9,oR,g1,sL,c1,sL,if_pos rfl,f1,sL,ih (λb hb=>h b (gE _ hb)) p1,f2]
  rfl
theorem n8{α:Type}(enc:α->D)(p:α->Bool)(f:α->D)(P:En->Prop)(xs:List α)
  (h:∀a∈xs,∀e,P e->Wo (g (enc a) e) λe1=>P e1/\Wo (fc e1) λb=>b=p a/\(p a=true->Wo (fe e1) λr=>r.d=f a)):∀{e:En},P e->oR g fc fe (xs.map enc) e=some ((xs.filter p).map f):=by
 induction xs with
 | nil=>intro e _;rfl
 | cons a xs ih =>
  intro e he
  obtain ⟨e1,g1,p1,b,c1,rfl,k⟩:=h a jz e he
  have Mi:=ih (λb hb=>h b (gE _ hb)) p1
  rw [e9,oR,g1,sL,c1,sL]
  cases hp:p a with
  | true =>
   obtain ⟨r,f1,f2⟩:=k hp
   rw [if_pos rfl,f1,sL,Mi,f2,NF hp]
   rfl
  | false=>rw [if_neg qU,Mi,ND (by simp [hp])]
theorem b5F:Wo (t4 f env) Q↔Wo (f env) λx=>Wo (ou x.2) λns=>Q (.sh (.int ns.sum)):=by
 unfold t4;rw [a0i];simp only [a1m]
theorem b5R:Wo (Bt f env) Q↔Wo (f env) λx=>Wo (kF x.2) λns=>Q (.sh (.bl (ns.all id))):=by
 unfold Bt;rw [a0i];simp only [a1m]
theorem b5P:Wo (Br f env) Q↔Wo (f env) λx=>Wo (kF x.2) λns=>Q (.sh (.bl (ns.any id))):=by
 unfold Br;rw [a0i];simp only [a1m]
theorem b5I:Wo (t5 f env) Q↔Wo (f env) λx=>Wo (ou x.2) λns=>ns≠[]/\Q (.sh (.int (hV ns))):=by
 unfold t5;rw [a0i];simp only [a0i,mq]
theorem b5J:Wo (t6 f env) Q↔Wo (f env) λx=>Wo (ou x.2) λns=>ns≠[]/\Q (.sh (.int (h7 ns))):=by
 unfold t6;rw [a0i];simp only [a0i,mq]
theorem b5o:Wo (ou (ns.map D.int)) Q↔Q ns:=by rw [Ko,a0e]
theorem b7S:Wo (kF (ns.map D.bl)) Q↔Q ns:=by rw [Pt,a0e]
theorem b2R:Wo (ou []) Q↔Q []:=a0e
theorem b2S:Wo (ou (.int i::ds)) Q↔Wo (ou ds) λns=>Q (i::ns):=by
 show Wo ((ou ds).map (i::·)) Q↔_
 rw [a1m]
theorem b5W:Wo (kF []) Q↔Q []:=a0e
theorem b5X:Wo (kF (.bl i::ds)) Q↔Wo (kF ds) λns=>Q (i::ns):=by
 show Wo ((kF ds).map (i::·)) Q↔_
 rw [a1m]
theorem lG{α:Type}{xs:List α}{x:α}:dt (xs++[x]) (-1)=some x:=by
 unfold dt nR
 rw [if_neg (by decide),if_pos (by rw [da,IH];ext),da,IH]
 have:(-1+((xs.length+1:Nat):Int)).toNat=xs.length:=by ext
 rw [this]
 simp
noncomputable def pB{α:Type}(xs:List α)(lo hi:Option Int):List α:=(xs.drop (HT.cc xs.length 0 lo)).take (HT.cc xs.length xs.length hi-HT.cc xs.length 0 lo)
theorem J5{α:Type}{f:α->D}(xs:List α)(lo hi:Option Int):cutD (xs.map f) lo hi=(pB xs lo hi).map f:=by
 unfold cutD pB
 rw [dF,<-List.map_drop,<-List.map_take]
theorem OJ{α:Type}(xs:List α){n:Nat}:pB xs none (some (n:Int))=xs.take n:=by
 unfold pB
 rw [HT.tH,HT.rz]
 simp only [Nat.sub_zero,DW]
 by_cases h:n<=xs.length
 .rw [Nat.min_eq_left h]
 .rw [Nat.min_eq_right (by ext h),xF (bZ _),xF (by ext h)]
theorem b2Q:Wo (EE [.int j]) Q↔Q (dy 0 j.toNat):=a0e
theorem b2P:Wo (EF [.int i,.int j]) Q↔Q (dy i (j-i).toNat):=a0e
def Gj(d:D)(l h:Option Int)(Q:Sl->Prop):Prop:=match d with
 | .tup ds=>Q (.sh (.tup (cutD ds l h)))
 | _=>False
theorem slQ_t:Gj (.tup ds) l h Q↔Q (.sh (.tup (cutD ds l h))):=e8
theorem b5G:Wo (Bp f lo hi env) Q↔Wo (f env) λx=>Wo (lo env) λl=>Wo (hi env) λh=>Gj x.d l h Q:=by
 unfold Bp
 simp only [a0i]
 refine kL λx=>kL λl=>kL λh=>?_
 unfold Gj
 cases x.d<;>simp [a0e,Wo_none]
theorem b2J:Wo (tq [.tup a,.tup b]) Q↔Q (rf a b):=a0e
theorem b2K:Wo (tq [.tup a,.lst r b]) Q↔Q (rf a b):=a0e
theorem b2L:Wo (tq [.lst r a,.tup b]) Q↔Q (rf a b):=a0e
theorem b2M:Wo (tq [.lst r a,.lst r' b]) Q↔Q (rf a b):=a0e
def B6(i:Nat)(env:En)(a b:Sl)(Q:Fl×En->Prop):Prop:=match a,b with
 | .sh (.int m),.sh (.int n)=>Q (.nx,env.set i (.sh (.int (m+n))))
 | _,_=>False
theorem b7j:B6 i env (.sh (.int m)) (.sh (.int n)) Q↔Q (.nx,env.set i (.sh (.int (m+n)))):=e8
theorem b7V:Wo (qk i f env) Q↔om env[i]? λa=>Wo (f env) λr=>B6 i env a r Q:=by
 constructor
 .rintro ⟨y,e,h⟩
  obtain ⟨m,n,e1,e2,rfl⟩:=P0 e
  rw [e1];exact ⟨_,e2,h⟩
 .intro h
  cases hi:env[i]? with
  | none=>rw [hi] at h;exact h.elim
  | some s =>
   rw [hi] at h
   cases s with
   | no=>exact h.elim
   | ow ds=>exact h.elim
   | dw ds=>exact h.elim
   | tw _ _=>exact h.elim
   | sh d =>
    obtain ⟨r,e1,h⟩:=h
    cases d with
    | int m =>
     cases r with
     | sh d2 =>
      cases d2 with
      | int n=>exact ⟨_,by unfold qk;rw [hi,e1],h⟩
      | _=>exact h.elim
     | _=>exact h.elim
    | _=>exact h.elim
theorem b5z:Wo (NQ i j c f env) Q↔cf env[i]? λds=>Wo (forL (gN j) (cN c (aT f) cR) ds env) Q:=by
 unfold NQ
 cases h:env[i]? with
 | none=>simp [Wo_none,cf]
 | some s=>cases s<;>simp [Wo_none,cf]
def Gh(d:D)(Q:Sl->Prop):Prop:=match d with
 | .lst _ ds=>Wo (Jy ds) λrs=>Q (.ow rs)
 | _=>False
theorem srQ_l:Gh (.lst r ds) Q↔Wo (Jy ds) λrs=>Q (.ow rs):=e8
theorem a9x:Wo (OM f env) Q↔Wo (f env) λr=>Gh r.d Q:=by
 unfold OM
 rw [a0i]
 refine kL λr=>?_
 cases r.d<;>simp [Gh,Wo_none,a1m]
theorem b25:Wo (Er f env) Q↔Wo (f env) λr=>Wo (mK (some r)) λb=>Q (.sh (.int (if b=true then 1 else 0))):=by
 unfold Er
 cases f env with
 | none=>simp [Wo,mK]
 | some r=>rw [a0e,a1m]
end DL
namespace DL
theorem qC(h:-(10^250)<=i)(h2:i<=10^250)(h3:-(10^250)<=j)(h4:j<=10^250):MulC i j:=.inr (.inr ⟨⟨h,h2⟩,h3,h4⟩)
theorem OL(h:0<j)(h2:j<=10^250):DivC i j:=⟨h,h2⟩
end DL
namespace DL
open PySem PySem.Spec PyProof.Rows L2
def Tr(h:Heap)(e T:Addr)(c:Value):Prop:=∃oe vs a0 oT ts,h.get? e=some oe/\(oe.cls=c/\vs[0]?=some a0)/\oe.data=.fields vs/\vs[1]?=some (.ref T)/\T≠e/\h.get? T=some oT/\oT.data=.fields ts/\ts[3]?=some .none
structure Lies(h0:Heap)(H:Hp)(h:Heap)(e:Addr)(c:Value):Prop where
 new:h0.get? e=none
 un:H e=none
 tr:∃T,h0.get? T=none/\H T=none/\Tr h e T c
structure Moved(H:Hp)(l:List Env)(ex:List Addr)(h h':Heap):Prop where
 un:Un (qL l) ex H H h h'
section
variable {P:Program}{w:World}{K:aK}{mg:Str->Option Value}{base:Heap}{N:List Str}{qual:Str}{scope:Scope}{f:Addr}{cd:Value}{A:Around}{outer:List Env}{s:Shared}{H:Hp}{E:XK}
end
end DL
namespace DL
open PySem PySem.Spec PyProof.Rows L2
noncomputable abbrev RF:=En->Option (Str×En)
section
variable {X:Cx}{W:L2.St->Hp->Value->Prop}{e a b c:Expr}{es:List Expr}{st:Stmt}{rest sa sb:List Stmt}{F G:SF}{r r':RF}{re:En->Option Str}{fa:En->Option Sl}{ga:En->Option Bool}{fs:En->Option (List D)}{pos p bj np:Pos}
noncomputable def EJ:SF:=λ_=>none
theorem Pf:SV X st EJ:=⟨λ_ _ _=>False,λ_ _ _ _ _ _ h=>h.elim,λ_ _ _ _ _ _ _ _ _ e _=>by cases e⟩
theorem EV.j0(h:EV X.j0 e fa):EV X e fa:=let ⟨t,p,k⟩:=h;⟨t,p.j0,k⟩
theorem TV.j0(h:TV X.j0 e ga):TV X e ga:=let ⟨t,p,k⟩:=h;⟨t,p.j0,k⟩
theorem oJ.j0(h:oJ X.j0 rest F):oJ X rest F:=let ⟨t,p,k⟩:=h;⟨t,p.j0,k⟩
theorem SV.j0(h:SV X.j0 st F):SV X st F:=let ⟨t,p,k⟩:=h;⟨t,λpins s σ H D I hw=>nF (p pins s σ H D (I.gG _) hw) (λ_ _ q=>q.cM) λ_ _ z=>mh z,k⟩
theorem AV.j0(h:AV X.j0 es fs):AV X es fs:=let ⟨t,p,k⟩:=h;⟨t,λpo pins s σ H Q I hw=>nF (p po pins s σ H Q (I.gG _) hw) (λ_ _ ⟨v,H',I',r,q⟩=>⟨v,H',I'.cM,r,q⟩) λ_ _ z=>mh z,k⟩
end
noncomputable abbrev zp:List Value:=[.type "ValueError",.type "Exception",.type "BaseException",.type "object"]
structure ExcC(K:aK)(C:Addr):Prop where
 ob:∃(bm:List Value) (N:Addr) (nm q:Str) (bs:List Value) (Hk:Bool) (sn:List Str) (sub:List Value) (ab:Bool) (col:Option Bool) (dd:Option Addr) (k0 k1 k2 k3 k5:Option Value),K.lookup C=some (excClassObj nm q C N bs bm Hk sn sub ab col dd k0 k1 k2 k3 k5 "ValueError.__new__") /\
  PySem.W.nsOkIn K N=true/\iX K N "__init__" = some none/\PySem.W.tailIn K zp bm=true
section
variable {X:Cx}{W:L2.St->Hp->Value->Prop}{e:Expr}{es:List Expr}{fs:En->Option (List D)}{pos p bj np:Pos}{x:Str}{C:Addr}
end
section
variable {P:Program}{w:World}{K:aK}{mg:Str->Option Value}{base:Heap}
end
end DL
namespace DL
open PySem PySem.Spec PyProof.Rows L2
section
variable {X:Cx}{pins:List (Addr×Obj)}{σ:L2.St}{H:Hp}{s:Shared}{h':Heap}
end
theorem Rel.drop{K:aK}{O:Addr->Prop}{B H:Hp}{σ:L2.St}{env:En}(R:Rel K O B σ H env)(i:Nat):Rel K O B (σ.set i none) H (env.set i .no)/\Gd σ env H (σ.set i none) (env.set i .no) H:=by
 have own:∀q,mM (σ.set i none) (env.set i .no) q->mM σ env q:=λq ⟨j,ds,e1,o,e2⟩=>by
  by_cases hj:j=i
  .subst hj
   rw [IS] at e1
   simp at e1
   rw [<-e1.2] at o
   exact o.elim
  .rw [eD (kY hj)] at e1 e2
   exact ⟨j,ds,e1,o,e2⟩
 have oo:∀q,OO O (σ.set i none) (env.set i .no) q->OO O σ env q:=λq z=>z.elim .inl λz=>.inr (own q z)
 have at_:∀{j:Nat} {x:Sl},(env.set i .no)[j]?=some x->x≠.no->j≠i/\env[j]?=some x:=λ{j x} e hx=>by
  by_cases hj:j=i
  .subst hj
   rw [IS] at e
   simp at e
   exact absurd e.2.symm hx
  .rw [eD (kY hj)] at e
   exact ⟨hj,e⟩
 refine ⟨⟨R.same,R.qM,by simp [R.len],λj d e=>?_,λj ds e=>?_,λj ds e=>?_,λj ks ds e=>?_,λj k ds es p e1 e2 e3 e4 o1 o2=>?_⟩,λq u e n=>⟨e,λz=>n (own q z)⟩⟩
 .obtain ⟨hj,e⟩:=at_ e (λz=>nomatch z)
  obtain ⟨v,e1,h⟩:=R.sh j d e
  exact ⟨v,by rw [eD (kY hj)];exact e1,h.less oo⟩
 .obtain ⟨hj,e⟩:=at_ e (λz=>nomatch z)
  obtain ⟨p,xs,e1,e2,e3,h⟩:=R.ow j ds e
  exact ⟨p,xs,by rw [eD (kY hj)];exact e1,e2,e3,h.less oo⟩
 .obtain ⟨hj,e⟩:=at_ e (λz=>nomatch z)
  obtain ⟨p,e1,e2,e3⟩:=R.dw j ds e
  exact ⟨p,by rw [eD (kY hj)];exact e1,e2,e3⟩
 .obtain ⟨hj,e⟩:=at_ e (λz=>nomatch z)
  obtain ⟨p,xs,e1,e2,e3,e4,h⟩:=R.tw j ks ds e
  exact ⟨p,xs,by rw [eD (kY hj)];exact e1,e2,e3,e4,h.less oo⟩
 .obtain ⟨hj,e1⟩:=at_ e1 (λz=>by rw [z] at o1;exact o1)
  obtain ⟨hk,e2⟩:=at_ e2 (λz=>by rw [z] at o2;exact o2)
  rw [eD (kY hj)] at e3
  rw [eD (kY hk)] at e4
  exact R.sep j k ds es p e1 e2 e3 e4 o1 o2
end DL
namespace DL
open PySem PySem.Spec PyProof.Rows L2
structure Hx(X:Cx)(N:List Str)(sc:Scope):Prop where
 n:X.N=N
 sc:X.env.scope=sc
 fn:∀x,X.fn x=true
 nd:N.Nodup
section
variable {X:Cx}{N:List Str}{sc:Scope}{k i:Nat}{n Cn:Str}{hc:Value}{body LW:List Stmt}{b0:Stmt}{Fb Fh:SF}{rb:RF}{hit:Str->Bool}{np Tu pos:Pos}
end
end DL
namespace DL
open PySem PySem.W PySem.Spec PySem.Calls PyProof.Rows L2 PySem.Builtin.ObjectAttr PySem.Builtin PySem.Builtin.Getset_descriptor
section
variable {prog:Program}{w:World}{A:Around}{E:Value->Shared->Prop}{s:Shared}{K:Frag}{x C:Addr}
structure LR(K:Frag)(C:Addr):Prop where
 ga:findIn K (.ref C) "__getattribute__" = some (some (.builtin "BaseException.__getattribute__"))
 no:findIn K (.ref C) "__getattr__" = some none
 at_:findIn K (.ref C) "__class__" = some (some (.builtin "object.__class__"))
 get:specialIn K (.builtin "object.__class__") "__get__" = some (some (.builtin "getset_descriptor.__get__"))
 tk:takesIn K (.builtin "object.__class__")=some true
 mro:mroIn K C (.type "object")=some true
 mrB:mroIn K C (.type "BaseException")=some true
end
section
variable {X:Cx}{a:Expr}{pos p p2:Pos}{fa:En->Option Sl}
end
section
variable {X:Cx}{N:List Str}{sc:Scope}{pos p p1 p2 pos' bj:Pos}{e a b:Expr}{fa fb:En->Option Sl}
theorem Hx.v(h:Hx X N sc)(i:Nat)(hN:N[i]?=some x:=by rfl)(hv:jK sc x:=by first | exact cC rfl | exact bM (cC rfl) | exact bM (bM rfl))(hd:(x==("__debug__":Str))=false:=by rfl)
  (cO:(x==("__classdict__":Str))=false:=by rfl):EV X (.Name x pos) (eV i):=N4 i (by rw [h.n];exact hN) (by rw [h.sc];exact hv) hd cO
theorem Hx.g(h:Hx X N sc)(hg:sc.names.lookup x=some .globalImplicit:=by rfl):Gl X x:=by
 show X.env.kindOf x=some .globalImplicit
 unfold Env.kindOf
 rw [h.sc]
 exact hg
theorem Hx.set(h:Hx X N sc)(i:Nat)(he:EV X e fa)(hN:N[i]?=some x:=by rfl)(hv:Loc sc x:=by first | exact cC rfl | exact bM rfl)
  (hs:swapsWith e (some (.Name x pos')) pos.line X.env=pure false:=by rfl):SV X (.Assign [.Name x pos'] e pos) (ei i fa):=Ou (by rw [h.n];exact h.nd) (by rw [h.n];exact hN) (by rw [h.sc];exact hv) he hs (.inl (h.fn x))
theorem Hx.app(h:Hx X N sc)(i:Nat)(ha:EV X e fa)(hN:N[i]?=some x:=by rfl)(hv:jK sc x:=by first | exact cC rfl | exact bM (cC rfl) | exact bM (bM rfl))(hd:(x==("__debug__":Str))=false:=by rfl)
  (cO:(x==("__classdict__":Str))=false:=by rfl)(hs:starEach [e] X.env=[(false,eval e X.env)]:=by rfl)
  (cH:attributeBase (.Name x p1) "append" X.env (eval (.Name x p1) X.env)=eval (.Name x p1) X.env:=by rfl)
  (lC:((backTo bj (starEach [e] X.env)).all (λx=>!x.1)&&(backToKw bj (keywordEach [] X.env)).all (λx=>x.1.isSome)
   && decide ([e].length+([]:List Keyword).length+(if ([]:List Keyword).isEmpty then 0 else 1)<30))=true:=by rfl)
  (cF:(p2.endLine==bj.line)=true:=by rfl)
  (tO:swapsWith (.Call (.Attribute (.Name x p1) "append" p2) [e] [] bj) none pos.line X.env=pure false:=by rfl):
  SV X (.Expr (.Call (.Attribute (.Name x p1) "append" p2) [e] [] bj) pos) (ji i fa):=P8 ha (by rw [h.n];exact hN) (by rw [h.sc];exact hv) hd cO hs cH lC cF tO
end
structure Cl(K:Frag)(mg:Str->Option Value)(x:Str)(C:Addr):Prop where
 ns:nsIn K mainGlobals x=some (some (.ref C))
 m:mg x=some (.ref C)
 ck:LR K C
 cd:(clsIn K C).isSome=true
theorem Fx.j0{X:Cx}{N:List Str}{sc:Scope}{k:Nat}{full:Bool}(h:Fx X N sc k full):Fx X.j0 N sc k full:=⟨h.n,h.sc,h.calm,h.fn,DP,h.room,h.nd,h.top⟩
theorem Hx.bT{X:Cx}{N:List Str}{sc:Scope}{pos pos':Pos}{e:Expr}{fa:En->Option Sl}(h:Hx X N sc)(i:Nat){x:Str}(he:EV X e fa)(hN:N[i]?=some x:=by rfl)(hv:Loc sc x:=by first | exact cC rfl | exact bM rfl)
  (hs:swapsWith e (some (.Name x pos')) pos.line X.env=pure false:=by rfl):SV X (.Assign [.Name x pos'] e pos) (de i fa):=O0 (by rw [h.n];exact h.nd) (by rw [h.n];exact hN) (by rw [h.sc];exact hv) he hs (.inl (h.fn x))
theorem b1c:Wo (EJ env) Q↔False:=Wo_none
end DL
namespace DL
open PySem PySem.Spec PyProof.Rows L2
section
variable {X X':Cx}
def LQ(mg:Str->Option Value)(x:Str)(n:Int):Prop:=∃t,mg x=some (.int n t)
theorem Xw(hg:Gl X x)(hm:LQ X.mg x n)(hd:(x==("__debug__":Str))=false:=by decide):EV X (.Name x pos) (eC (.int n)):=by
 obtain ⟨t,hm⟩:=hm
 refine ⟨_,Xf (v:=.int n) hg hm ⟨t,rfl⟩ hd,λO B σ H env s Q R e q=>?_⟩
 cases e
 exact q _ H (aH.refl _) (Is.int _)
end
section
variable {X:Cx}{N:List Str}{sc:Scope}{k:Nat}{full:Bool}{pos pos':Pos}{e:Expr}{fa:En->Option Sl}
noncomputable instance (i j:Int):Decidable (uJ i j):=by unfold uJ;infer_instance
end
end DL
namespace TS
open PySem PyProof.Rows
section
variable {prog:Program}{w:World}{A:Around}{E:Value->Shared->Prop}{s:Shared}
theorem zN{l0:Addr}{vs:List Value}{n:Nat}{P:PySem.Fin->Shared->Prop}{κ:SortKind}{R:Array Value->Prop}(yh:s.heap.get? l0=some (seqObj "list" vs.toArray n))(hZ:vs.length<=sizeLine)(hR:vs.length<2->R vs.toArray)(hz:∀out,R out->out.size=vs.length)
  (run:∀S:Shared,(∀b o,b≠l0->s.heap.get? b=some o->S.heap.get? b=some o)->2<=vs.length->(∀{A:Around} {E:Value->Shared->Prop} {Q:SortKind->Shared->Prop},Q κ S->wpAny (model prog w) A (keyKind' vs.toArray) Q E S)/\∀{A:Around} {E:Value->Shared->Prop},wpS (model prog w) A E S sortRuns' (λ_ av=>R ((arrOf av).map (·.2))/\failedOf av=none) (Bz κ (pairsOf vs) #[] 7 none))
  (h:∀out:Array Value,R out->P (.done (.ret .none)) { s with heap:=sortedHeap s.heap l0 vs out }):wpAny (model prog w) A (Builtin.«list.sort» ⟨[.ref l0],[]⟩) P E s:=by
 have cq:l0<s.heap.objs.size:=cL yh
 obtain ⟨k1,Mt⟩:∃k1,(s.heap.update l0 (pC λ_=>#[])).get? l0=some (seqObj "list" #[] k1):=⟨_,get?_update_seq yh λ_=>#[]⟩
 rw [list_sort_plain]
 have MD:vs.toArray.size<=sizeLine:=by rw [dR];exact hZ
 have Ua:vs.toArray.toList.length<=sizeLine:=MD
 refine aN (listItems_at yh rfl (aN (listUpdate_at (hsz:=MD) yh rfl (aN (seqEpoch_at Mt rfl (aN (wpAny_newTuple (hsz:=Ua) (aN (wpAny_newList (sO ?_))))))))))
 have qK:(((s.heap.update l0 (pC λ_=>#[])).push (seqObj "tuple" vs.toArray 0)).push (seqObj "list" #[] 0)).get? l0=some (seqObj "list" #[] k1):=dh _ (dh _ Mt)
 have up:∀b o,b≠l0->s.heap.get? b=some o->(((s.heap.update l0 (pC λ_=>#[])).push (seqObj "tuple" vs.toArray 0)).push (seqObj "list" #[] 0)).get? b=some o:=λb o hb e =>
  dh _ (dh _ ((BX _ _ (kY hb)).trans e))
 dsimp only
 show wpAny _ _ _ _ _ { s with heap:=((s.heap.update l0 (pC λ_=>#[])).push (seqObj "tuple" vs.toArray 0)).push (seqObj "list" #[] 0) }
 generalize hS:({ s with heap:=((s.heap.update l0 (pC λ_=>#[])).push (seqObj "tuple" vs.toArray 0)).push (seqObj "list" #[] 0) }:Shared)=S
 have ME:S.heap=((s.heap.update l0 (pC λ_=>#[])).push (seqObj "tuple" vs.toArray 0)).push (seqObj "list" #[] 0):=by rw [<-hS]
 have nW:S.heap.get? l0=some (seqObj "list" #[] k1):=by rw [ME];exact qK
 have ends:∀st:SortSt,R ((arrOf st).map (·.2))->failedOf st=none ->
   wpAny (model prog w) A (do
    let touched:=(<-seqEpoch l0) != k1
    Builtin.List.listUpdate (.ref l0) λ_=>(arrOf st).map (·.2)
    if let some e:=failedOf st then rule "list.sort.comparison-raised";throw e
    if touched then rule "list.sort.modified";raiseError "ValueError" "list modified during sort"
    ret .none) P E S:=λst hr hf=>by
  refine aN (seqEpoch_at nW rfl (aN (listUpdate_at nW rfl ?_ (hsz2:=?_))))
  .rw [hf]
   simp only [bne_self_eq_false,xC,if_false]
   refine bJ ?_
   have:=h _ hr
   rw [<-hS]
   exact this
  .rw [hz _ hr];ext hZ
 have hsz:vs.toArray.size=vs.length:=by simp
 by_cases h2:vs.toArray.size<2
 .rw [if_pos h2]
  refine aN (bJ ?_)
  rw [if_pos h2,StateT.run_pure]
  refine aN (bJ ?_)
  refine ends (Bz general' (pairsOf vs) #[] 7 none) ?_ rfl
  have e:(pairsOf vs).map (·.2)=vs.toArray:=by
   apply Im.mp
   rw [Array.toList_map,yD,List.map_snd_zip (bZ _)]
  show R ((pairsOf vs).map (·.2))
  rw [e]
  exact hR (by ext h2)
 .rw [if_neg h2]
  obtain ⟨r1,r2⟩:=run S (λb o hb e=>by rw [ME];exact up b o hb e) (by ext hsz h2)
  refine aN (r1 ?_)
  rw [if_neg h2]
  refine aN (nF r2 (λr s' hr=>?_) λ_ _ z=>z)
  obtain ⟨rfl,p1,p2⟩:=hr
  exact ends r.2 p1 p2
end
end TS
namespace SE
open PySem PyProof.Rows
def kP(l:List Nat):Prop:=l.Pairwise (·<·)
theorem kP.lt{xs:Array Nat}(h:kP xs.toList){a b d:Nat}(sD:a<b)(hb:b<xs.size):xs.getD a d<xs.getD b d:=by
 have ha:a<xs.size:=Ib sD hb
 have:=(BR.mp h) a b (by simpa using ha) (by simpa using hb) sD
 simp only [BZ] at this
 simpa [yw,ha,hb] using this
structure Bl(xs:Array Nat)(j r:Nat):Prop where
 le:r<=xs.size
 lo:∀k,k<r->xs.getD k j<j
 hi:∀k,r<=k->k<xs.size->j<=xs.getD k j
theorem Jt{xs:Array Nat}{j:Nat}(hr:kP xs.toList):∀(n lo hi:Nat),hi-lo<=n->lo<=hi->hi<=xs.size->(∀k,k<lo->xs.getD k j<j)->(∀k,hi<=k->k<xs.size->j<=xs.getD k j)->Bl xs j (Np xs j n lo hi)
 | 0,lo,hi,a,b,c,d,e=>by
  have:lo=hi:=by omega
  subst this
  exact ⟨c,d,e⟩
 | n+1,lo,hi,a,b,c,d,e=>by
  unfold Np
  split
  .rename_i cq
   dsimp only
   split
   .rename_i hm
    refine Jt hr n _ _ (by omega) (by omega) c (λk hk=>?_) e
    rcases DG k ((lo+hi)/2) with q | q
    .exact Ib (hr.lt q (by omega)) hm
    .rw [show k=(lo+hi)/2 by omega];exact hm
   .rename_i hm
    refine Jt hr n _ _ (by omega) (by omega) (by omega) d (λk hk hs=>?_)
    rcases DG ((lo+hi)/2) k with q | q
    .exact ve (Nat.lt_of_le_of_lt (Nat.not_lt.mp hm) (hr.lt q hs))
    .rw [show k=(lo+hi)/2 by omega];exact Nat.not_lt.mp hm
  .have:lo=hi:=by omega
   subst this
   exact ⟨c,d,e⟩
theorem Po{xs:Array Nat}(hr:kP xs.toList)(j:Nat):Bl xs j (rX xs j):=
 Jt hr _ _ _ (bZ _) (r8 _) (bZ _) (λ_ h=>absurd h (Ie _)) λk h h'=>absurd h' (by omega)
theorem Yi{xs:Array Nat}(hr:kP xs.toList){j:Nat}(hj:(xs[rX xs j]?==some j)=false):kP (SetTable.insertAt xs (rX xs j) j).toList:=by
 have B:=Po hr j
 generalize rX xs j=r at B hj
 rw [SetTable.toList_insertAt]
 have e1:xs.toList=xs.toList.take r++xs.toList.drop r:=(qW r _).symm
 have p:=hr
 unfold kP at p
 rw [e1,pE] at p
 have lo:∀a∈xs.toList.take r,a<j:=λa ha=>by
  obtain ⟨k,hk,e⟩:=qV.mp ha
  rw [nu] at hk
  rw [DU] at e
  have uW:k<xs.size:=by simp at hk;omega
  have:=B.lo k (by omega)
  simp only [BZ] at e
  simp only [yw,uW,dif_pos] at this
  rw [<-e];exact this
 have hi:∀a∈xs.toList.drop r,j<a:=λa ha=>by
  obtain ⟨k,hk,e⟩:=qV.mp ha
  rw [sd] at hk
  rw [IK] at e
  have uW:r+k<xs.size:=by simp at hk;omega
  have h1:=B.hi (r+k) (by omega) uW
  simp only [BZ] at e
  simp only [yw,uW,dif_pos] at h1
  have h1:j<=a:=by rw [<-e];exact h1
  rcases Nat.lt_or_eq_of_le h1 with q | q
  .exact q
  .exfalso
   rcases IX k with z | z
   .subst z
    rw [yH (by omega:r<xs.size)] at hj
    have e':xs[r]'(by omega)=j:=by rw [q];exact e
    rw [e'] at hj
    simp at hj
   .have:=hr.lt (d:=j) (show r<r+k by omega) uW
    have h2:=B.hi r (bZ _) (by omega)
    have h3:xs.getD (r+k) j=a:=by simp only [yw,uW,dif_pos];exact e
    omega
 show List.Pairwise _ _
 first
 | (refine pE.mpr ⟨p.1,kZ.mpr ⟨hi,p.2.1⟩,λa ha b hb=>?_⟩
    rcases bG.mp hb with q | q
    .rw [q];exact lo a ha
    .exact p.2.2 a ha b q)
structure Tb(bt:Bool)(t:SetTable):Prop where
 led:t.led=true\/bt=true
 HI:t.dummies=#[]
 rise:t.plain=true->kP t.place.toList
theorem XU(bt:Bool):Tb bt (.fresh 0 0 (!bt)):=⟨by cases bt<;>simp [SetTable.fresh],rfl,λ_=>vj⟩
theorem Tb.pP{bt:Bool}{t:SetTable}(h:Tb bt t)(n:Nat):Tb bt (t.standIn n):=⟨h.led,rfl,λz=>absurd z (by simp [SetTable.standIn])⟩
theorem Tb.off{bt:Bool}{t:SetTable}(h:Tb bt t):Tb bt { t with plain:=false }:=⟨h.led,h.HI,λz=>absurd z (by simp)⟩
theorem OT(j:Nat):SetTable.has #[] j=false:=by simp [SetTable.has]
theorem Qp{t:SetTable}(hd:t.dummies=#[])(f:Nat->Int)(h:Int):∀(n:Nat) (p:MQ) (j:Nat) (q:Option Nat),p.dummy=none->II t f h n p=some (.empty j q)->q=none/\(t.place[rX t.place j]?==some j)=false
 | 0,p,j,q,_,e=>by simp [II] at e
 | n+1,p,j,q,hp,e=>by
  have ad:∀p:MQ,(t.advance p).dummy=p.dummy:=λp=>by unfold SetTable.advance;split<;>rfl
  unfold II at e
  unfold SetTable.slot at e
  rw [hd,OT] at e
  dsimp only at e
  by_cases hl:(t.place[rX t.place p.j]?==some p.j)=true
  .rw [if_pos hl] at e
   dsimp only at e
   split at e
   .simp at e
   .exact Qp hd f h n _ j q (by rw [ad];exact hp) e
  .rw [if_neg hl] at e
   simp only [xC,if_false,dJ,SetTable.Met.empty.injEq] at e
   obtain ⟨rfl,rfl⟩:=e
   exact ⟨hp,Bool.eq_false_iff.mpr hl⟩
theorem Tb.lay{bt:Bool}{t:SetTable}(T:Tb bt t)(es:Array (Int×Value))(h:Int)(x:Value):Tb bt (layNew t es h x).2.1:=by
 unfold layNew
 cases hf:t.freeSlot h with
 | none=>exact T.pP _
 | some z =>
  obtain ⟨slot,wd⟩:=z
  dsimp only
  have key:wd=false/\(t.place[rX t.place slot]?==some slot)=false:=by
   unfold SetTable.freeSlot SetTable.probe at hf
   split at hf
   .rename_i j q e
    obtain ⟨rfl,b⟩:=Qp T.HI _ _ _ _ j q rfl e
    simp only [Ip,Option.isSome_none,dJ,Prod.mk.injEq] at hf
    obtain ⟨rfl,rfl⟩:=hf
    exact ⟨rfl,b⟩
   .cases hf
  show Tb bt ((t.put slot).1.orStandIn _)
  have hp:Tb bt (t.put slot).1:=by
   unfold SetTable.put
   refine ⟨T.led,?_,λz=>?_⟩
   .dsimp only;rw [T.HI,OT];rfl
   .exact Yi (T.rise z) key.2
  unfold SetTable.orStandIn
  split
  .exact hp
  .exact hp.pP _
theorem Tb.z7{bt:Bool}{t:SetTable}(T:Tb bt t)(es:Array (Int×Value))(n:Nat):Tb bt (relayAll t es n).2.1:=by
 unfold relayAll
 cases hf:t.relaid (es.map (·.1)) n with
 | none=>exact T.pP _
 | some z =>
  obtain ⟨t',order⟩:=z
  dsimp only
  split
  .show Tb bt t'
   unfold SetTable.relaid SetTable.laid at hf
   simp only [Option.bind_eq_bind,Option.bind_eq_some_iff] at hf
   obtain ⟨ow,_,e⟩:=hf
   simp only [Option.pure_def,dJ,Prod.mk.injEq] at e
   obtain ⟨rfl,_⟩:=e
   refine ⟨T.led,rfl,λ_=>?_⟩
   show kP _
   unfold kP
   dsimp only
   have sub:List.Sublist (((pD (IU n-1+1)).filterMap λj=>(ow.getD j none).map (j,·)).map (·.1)) (pD (IU n-1+1)):=by
    generalize pD (IU n-1+1)=l
    induction l with
    | nil=>exact List.Sublist.slnil
    | cons a l ih =>
     rw [Ec]
     cases ow.getD a none with
     | none=>exact ih.cons _
     | some k=>exact ih.cons₂ _
   exact List.Pairwise.sublist sub List.pairwise_lt_range
  .exact T.pP _
end SE
namespace SE
open PySem PyProof.Rows PySem.Calls
theorem Fw{α β:Type}{f:α->β}{l m:List β}(h:l.Perm m):∀ts:List α,m=ts.map f->∃us:List α,us.Perm ts/\l=us.map f:=by
 induction h with
 | nil=>intro ts e;exact ⟨[],by rw [List.map_eq_nil_iff.mp e.symm],rfl⟩
 | cons a _ ih =>
  intro ts e
  obtain ⟨b,LU,rfl,rfl,rfl⟩:=ID.mp e.symm
  obtain ⟨us,p,rfl⟩:=ih LU rfl
  exact ⟨b::us,p.cons _,rfl⟩
 | swap a b l =>
  intro ts e
  obtain ⟨x,LU,rfl,rfl,e'⟩:=ID.mp e.symm
  obtain ⟨y,FY,rfl,rfl,rfl⟩:=ID.mp e'
  exact ⟨y::x::FY,MP ..,rfl⟩
 | trans _ _ i1 i2 =>
  intro ts e
  obtain ⟨us,p,e1⟩:=i2 ts e
  obtain ⟨vs,q,e2⟩:=i1 us e1
  exact ⟨vs,q.trans p,e2⟩
section
variable {prog:Program}{w:World}{K:Type}[DecidableEq K]{knd:KeyKind prog w K}{A:Around}{E:Value->Shared->Prop}{s:Shared}
noncomputable def pW(w:World):Bool:=w.params.followText "set-order"
def El(knd:KeyKind prog w K)(q:K×Int×Value):Prop:=knd.is q.1 q.2.2=true/\q.2.1=knd.hash q.1/\q.2.2.scannable=true
structure Sd(knd:KeyKind prog w K)(es:Array (Int×Value))(t:SetTable)(cJ:List (K×Int×Value)):Prop where
 tZ:es.toList=cJ.map (·.2)
 el:∀q∈cJ,El knd q
 fits:t.fits es.size=true
 tb:Tb (pW w) t
 lt:es.size<scanBound
theorem Sd.of{es:Array (Int×Value)}{t:SetTable}{cJ:List (K×Int×Value)}(S:Sd knd es t cJ):ElemsOf knd es.toList:=by
 rw [S.tZ]
 intro e he
 obtain ⟨q,hq,rfl⟩:=pF.mp he
 obtain ⟨a,b,c⟩:=S.el q hq
 exact ⟨⟨q.1,a,b⟩,c⟩
theorem Sd.len{es:Array (Int×Value)}{t:SetTable}{cJ:List (K×Int×Value)}(S:Sd knd es t cJ):es.size=cJ.length:=by
 rw [<-gD,S.tZ,dF]
def Sa(knd:KeyKind prog w K)(o:Obj)(ks:List K):Prop:=o.ExactSet/\∃es ep t cJ,o.data=.set es ep t/\Sd knd es t cJ/\ks=cJ.map (·.1)
theorem Oo{a:Addr}{o:Obj}{es:Array (Int×Value)}{ep:Nat}{t:SetTable}(ho:s.heap.get? a=some o)(hd:o.data=.set es ep t)(tY:Array (Int×Value))(t':SetTable):
  (s.heap.update a (DK tY t')).get? a=some { o with data:=.set tY (ep+1) t' }:=by
 have:=D5 (DK tY t') ho (by rw [putSet_of tY t' hd];rfl)
 rwa [putSet_of tY t' hd] at this
theorem O1{g:Bool->Sem Unit}(hg:∀(b:Bool) (aY:Shared) (Q':Unit->Shared->Prop),Q' () aY->wpAny (model prog w) A (g b) Q' E aY)
  {a:Addr}{o:Obj}{es:Array (Int×Value)}{ep:Nat}{t:SetTable}(ho:s.heap.get? a=some o)(hex:o.ExactSet)(hd:o.data=.set es ep t)
  {kW:Array (Int×Value)}{t2:SetTable}{cJ:List (K×Int×Value)}(S:Sd knd kW t2 cJ){wd:Bool}{R:Option Bool->Shared->Prop}
  (h:∀h' o' ks',r6 a s.heap h'->h'.get? a=some o'->Sa knd o' ks'->ks'.Perm (cJ.map (·.1))->R (some true) { s with heap:=h' }):
  wpAny (model prog w) A (storeSet a kW t2 >>= λ_=>if (!wd&&t2.tooFull)=true then (g (relayAll t2 kW (xk kW.size)).2.2 >>= λ_=>storeSet a (relayAll t2 kW (xk kW.size)).1 (relayAll t2 kW (xk kW.size)).2.1 >>= λ_=>pure (some true)) else pure (some true)) R E s:=by
 refine aN (wpAny_storeSet_of ho hd ?_ (yA S.lt))
 have o1:=Oo ho hd kW t2
 have sb:=Ng s.heap a (DK kW t2)
 split
 .have p:=relayAll_perm t2 kW (xk kW.size)
  have f:=relayAll_fits t2 kW (xk kW.size)
  have T:=S.tb.z7 kW (xk kW.size)
  generalize relayAll t2 kW (xk kW.size)=rl at p f T ⊢
  obtain ⟨HC,t3,gv⟩:=rl
  dsimp only at p f T ⊢
  obtain ⟨us,pu,eu⟩:=Fw p cJ S.tZ
  have z:HC.size=kW.size:=by rw [<-gD,p.length_eq,gD]
  have S2:Sd knd HC t3 us:=⟨eu,λq hq=>S.el q (pu.mem_iff.mp hq),f,T,by rw [z];exact S.lt⟩
  refine aN (hg _ _ _ ?_)
  refine aN (wpAny_storeSet_of o1 rfl ?_ (yA S2.lt))
  exact bJ (h _ _ _ (sb.trans (Ng _ a _)) (Oo (s:={ s with heap:=s.heap.update a (DK kW t2) }) o1 rfl HC t3) ⟨hex,_,_,_,us,rfl,S2,rfl⟩ (pu.map _))
 .exact bJ (h _ _ _ sb o1 ⟨hex,_,_,_,cJ,rfl,S,rfl⟩ (ue _))
theorem U6{a:Addr}{o:Obj}{ks:List K}{k:K}{x:Value}{Q:Bool->Shared->Prop}(ho:s.heap.get? a=some o)(S:Sa knd o ks)(hk:knd.is k x=true)(hx:x.scannable=true)(room:ks.length+1<scanBound)
  (h:∀b h' o' ks',r6 a s.heap h'->h'.get? a=some o'->Sa knd o' ks'->ks'.Perm (if k∈ks then ks else ks++[k])->Q b { s with heap:=h' }):
  wpAny (model prog w) A (setAddHashed a x (knd.hash k)) Q E s:=by
 obtain ⟨hex,es,ep,t,cJ,hd,D,rfl⟩:=S
 rw [dF] at room
 have Mw:=D.of
 unfold setAddHashed setAddHashedIn
 refine sO (aN (BN ho hd D.fits ?_))
 dsimp only
 rw [byScan_of hx D.lt Mw,if_pos rfl]
 unfold setAddByScan
 refine aN (aN (DM (aN (wpAny_setScan_of hk ho hd D.fits Mw ?_))))
 have mem:∀e∈es.toList,knd.is k e.2=true->k∈cJ.map (·.1):=λe he hp=>by
  rw [D.tZ] at he
  obtain ⟨q,hq,rfl⟩:=pF.mp he
  exact pF.mpr ⟨q,hq,knd.inj _ _ _ (D.el q hq).1 hp⟩
 cases hr:List.findIdx? (λe=>knd.is k e.2) es.toList with
 | some j =>
  obtain ⟨hj,hp,_⟩:=List.findIdx?_eq_some_iff_getElem.mp hr
  have hm:=mem _ (ua hj) hp
  refine bJ (bJ ?_)
  have:=h false s.heap o (cJ.map (·.1)) (Nq a s.heap) ho ⟨hex,es,ep,t,cJ,hd,D,rfl⟩ (by rw [if_pos hm])
  exact this
 | none =>
  have hm:k∉cJ.map (·.1):=λz=>by
   obtain ⟨q,hq,e⟩:=pF.mp z
   have:=List.findIdx?_eq_none_iff.mp hr q.2 (by rw [D.tZ];exact pF.mpr ⟨q,hq,rfl⟩)
   rw [<-e,(D.el q hq).1] at this
   exact xx this
  rw [if_neg hm] at h
  have p:=layNew_perm t es (knd.hash k) x
  have f:=layNew_fits t es (knd.hash k) x
  have T:=D.tb.lay es (knd.hash k) x
  dsimp only
  generalize layNew t es (knd.hash k) x=ly at p f T ⊢
  obtain ⟨kW,t1,wd,gv⟩:=ly
  dsimp only at p f T ⊢
  rw [vi] at p
  obtain ⟨us,pu,eu⟩:=Fw p (cJ++[(k,knd.hash k,x)]) (by rw [D.tZ,mJ];rfl)
  have z:kW.size=cJ.length+1:=by rw [<-gD,p.length_eq,da,gD,D.len];rfl
  have Us:∀q∈us,El knd q:=λq hq=>by
   rcases jI.mp (pu.mem_iff.mp hq) with m | m
   .exact D.el q m
   .rw [lE.mp m];exact ⟨hk,rfl,hx⟩
  have mk:∀t2:SetTable,t2.fits kW.size=true->Tb (pW w) t2->Sd knd kW t2 us:=λt2 a b=>⟨eu,Us,a,b,by rw [z];exact room⟩
  have fin:∀h' o' ks',r6 a s.heap h'->h'.get? a=some o'->Sa knd o' ks'->ks'.Perm (us.map (·.1))->Q true { s with heap:=h' }:=λh' o' ks' c1 c2 c3 c4 =>
   h true h' o' ks' c1 c2 c3 (c4.trans (by simpa using pu.map (·.1)))
  have hg:∀(b:Bool) (aY:Shared) (Q':Unit->Shared->Prop),Q' () aY->wpAny (model prog w) A (match b with | true=>rule "set.scan.the-table-gave-way" | false=>pure ()) Q' E aY:=λb aY Q' hq=>by
   cases b
   .exact bJ hq
   .exact DM hq
  refine aN (hg _ _ _ ?_)
  split
  .refine aN ?_
   rw [hashByValue_scannable 8 hx]
   refine bJ (O1 hg ho hex hd (mk _ ?_ ?_) λh' o' ks' c1 c2 c3 c4=>bJ (fin h' o' ks' c1 c2 c3 c4))
   .split
    .exact f
    .exact SetTable.fits_plain_off f
   .split
    .exact T
    .exact T.off
  .refine aN (bJ ?_)
   rw [if_pos rfl]
   exact O1 hg ho hex hd (mk _ f T) λh' o' ks' c1 c2 c3 c4=>bJ (fin h' o' ks' c1 c2 c3 c4)
end
end SE
namespace SE
open PySem PyProof.Rows PySem.Calls
section
variable {prog:Program}{w:World}{K:Type}[DecidableEq K]{knd:KeyKind prog w K}{A:Around}{E:Value->Shared->Prop}{s:Shared}{R:Result->Shared->Prop}{I:Addr}{fp wr:List Addr}{G:Array GenState->Array GenState->Prop}{n:Nat}{P:Nat->Value->Prop}{St:Nat->Shared->Prop}
structure Kd(val:Nat->K)(i:Nat)(ks:List K):Prop where
 nd:ks.Nodup
 mem:∀x,x∈ks↔∃j,j<i/\val j=x
 len:ks.length<=i
theorem Kd.nil(val:Nat->K):Kd val 0 []:=⟨List.nodup_nil,λx=>⟨λz=>(nomatch z),λ⟨j,hj,_⟩=>absurd hj (Ie _)⟩,bZ _⟩
theorem Kd.succ{val:Nat->K}{i:Nat}{ks ks':List K}(D:Kd val i ks)(p:ks'.Perm (if val i∈ks then ks else ks++[val i])):Kd val (i+1) ks':=by
 have m:∀x,(∃j,j<i+1/\val j=x)↔x∈ks\/x=val i:=λx=>by
  rw [D.mem]
  constructor
  .rintro ⟨j,hj,e⟩
   rcases Nat.lt_succ_iff_lt_or_eq.mp hj with q | q
   .exact .inl ⟨j,q,e⟩
   .exact .inr (by rw [<-e,q])
  .rintro (⟨j,hj,e⟩ | e)
   .exact ⟨j,qQ hj,e⟩
   .exact ⟨i,oQ _,e.symm⟩
 by_cases h:val i∈ks
 .rw [if_pos h] at p
  exact ⟨p.nodup_iff.mpr D.nd,λx=>by rw [m,p.mem_iff];exact ⟨.inl,λz=>z.elim id λe=>e▸h⟩,by rw [p.length_eq];exact Nat.le_succ_of_le D.len⟩
 .rw [if_neg h] at p
  refine ⟨p.nodup_iff.mpr (List.nodup_append.mpr ⟨D.nd,by simp,?_⟩),λx=>by rw [m,p.mem_iff,jI,lE],by rw [p.length_eq,da];exact Nat.succ_le_succ D.len⟩
  intro a ha b hb
  rw [lE.mp hb]
  exact λe=>h (e▸ha)
theorem Pg(W:WalksS prog w A.in1 I fp wr G n P St)(S:Addr)(tS:S∉fp)(val:Nat->K)(tN:∀i v,P i v->knd.is (val i) v=true/\v.scannable=true)(hb:n+1<scanBound):
  ∀(m i:Nat) (s:Shared) (o:Obj) (ks:List K),n-i=m->i<=n->St i s->s.heap.get? S=some o->Sa knd o ks->Kd val i ks ->
   (∀s' o' ks',Moved (S::wr) G s s'->s'.heap.get? S=some o'->Sa knd o' ks'->Kd val n ks'->R (.ok (.ret .none)) s') ->
   codeAny (model prog w) A (.builtin "set.update.loop" ⟨[.ref S,.ref I],[]⟩) R s
 | 0,i,s,o,ks,hm,hi,st,ho,Z,D,hR=>by
  have e:i=n:=by omega
  subst e
  refine yx NC ?_
  rw [BK Ji _]
  show wpAny _ A.in1 (pyNext (.ref I) >>= _) _ _ s
  exact aN (W.done s _ _ st λs' mv=>bJ (hR s' o ks (mv.mono λb hb=>gE _ hb) (mv.heap S _ (λh=>tS (W.sub _ h)) ho) Z D))
 | m+1,i,s,o,ks,hm,hi,st,ho,Z,D,hR=>by
  have cq:i<n:=by omega
  refine yx NC ?_
  rw [BK Ji _]
  show wpAny _ A.in1 (pyNext (.ref I) >>= _) _ _ s
  refine aN (W.item i s _ _ cq st λv s' hP av mv=>?_)
  obtain ⟨hv,hs⟩:=tN i v hP
  have qr:=mv.heap S _ (λh=>tS (W.sub _ h)) ho
  show wpAny _ A.in1 (holding [v] (setAdd S v) >>= _) _ _ s'
  refine aN (sO ?_)
  unfold setAdd
  refine sO (aN (knd.pyHash (k:=val i) hv ?_))
  have len:=D.len
  refine U6 (s:={ s' with toks:=s'.toks+1 }) qr Z hv hs (by omega) λb h' o' ks' sb o2 Z' pm=>?_
  refine bJ ⟨BD Ji _,Pg W S tS val tN hb m (i+1) _ o' ks' (by omega) cq (W.frame _ s' _ _ av (vg _) λb hb o e=>?_) o2 Z' (D.succ pm) λzV SI GU SM=>?_⟩
  .rw [sb.2 b (λh:b=S=>tS (by rw [<-h];exact hb))];exact e
  .refine hR zV SI GU (Moved.trans W.gtrans ((mv.mono λb hb=>gE _ hb).then_heap (vg _) λb o hb e=>?_) SM)
   rw [sb.2 b (λh:b=S=>hb (by rw [h];exact jz))];exact e
noncomputable def lr(w:World):Obj:={ cls:=.type "set",dict:=none,data:=.set #[] 0 (.fresh 0 0 (!pW w)) }
theorem Wi:Sa knd (lr w) []:=⟨⟨rfl,rfl,rfl⟩,#[],0,_,[],rfl,⟨rfl,λ_ z=>(nomatch z),by rfl,XU _,by decide⟩,rfl⟩
theorem XN(a:Value){Q₁:Value->Shared->Prop}(h:Q₁ (.ref s.heap.objs.size) { s with heap:=s.heap.push (lr w) }):
  codeAny (model prog w) A (.call (.builtin "set.__new__") ⟨[.type "set",a],[]⟩) (wants Q₁ E) s:=by
 refine codeAny_of_tree ?_
 show wpAny _ A.in1 (checkBuiltinCall "set.__new__" ⟨[.type "set",a],[]⟩ >>= λ_=>again (.builtin "set.__new__" ⟨[.type "set",a],[]⟩)) _ _ s
 refine aN (xi (F.newCall_set_1 a) (bJ ⟨BD F.plain_set_new _,yx F.entry_set_new ?_⟩))
 rw [BK F.plain_set_new _]
 unfold Builtin.«set.__new__» Builtin.Frozenset.newClass
 have qo:=sub_set_self
 obtain ⟨hp,g,d,tk,os⟩:=s
 dsimp only
 wp_walk
 refine BM (bJ ?_)
 dsimp only
 simp only [newObj]
 exact aN (wpAny_alloc (bJ (bJ h)))
theorem iG{l:Addr}{items:Array Value}{Q:Value->Shared->Prop}(hh:A.handled=none)(hl:s.heap.IsList l items)(val:Nat->K)(tN:∀(i:Nat) (v:Value),items[i]?=some v->knd.is (val i) v=true/\v.scannable=true)(hb:items.size+1<scanBound)
  (h:∀(h':Heap) (tk:Nat) o ks,(∀b o,b<s.heap.objs.size->s.heap.get? b=some o->h'.get? b=some o)->h'.get? s.heap.objs.size=some o->Sa knd o ks->Kd val items.size ks->Q (.ref s.heap.objs.size) { s with heap:=h',toks:=tk }):
  wpAny (model prog w) A (call (.type "set") [.ref l]) Q E s:=by
 obtain ⟨c,tl,TN⟩:=vh.mro
 have a1:=vh.made
 have a2:=vh.sub
 have a3:=vh.notType
 have a4:=vh.canCreate
 have a5:=F.typeCall_set_1 (.ref l)
 have hS:(s.heap.push (lr w)).get? s.heap.objs.size=some (lr w):=kG _ rfl
 have hT:({ s with heap:=s.heap.push (lr w) }:Shared).TypeIs (.ref s.heap.objs.size) "set":=⟨_,hS,rfl⟩
 refine wpAny_call (codeAny_of_tree (show wpAny _ _ (callAny (.type "set") _) _ _ _ from bJ ⟨Code.quiet_builtin _ (by decide +kernel),yx F.entry_type_call ?_⟩))
 rw [Around.under_plain (weight_type_call_type "set" [.ref l] []) rfl]
 repeat (any_goals (first | assumption | wp_step))
 refine vb (XN (.ref l) (E:=E) (Q₁:=λobj aY=>obj=.ref s.heap.objs.size/\aY={ s with heap:=s.heap.push (lr w) }) ⟨rfl,rfl⟩) λr aY hr=>?_
 cases r with
 | error e=>exact hr
 | ok fl =>
  cases fl with
  | ret obj =>
   obtain ⟨rfl,rfl⟩:=hr
   have a6:=vh.init.lookup
   have a7:=vh.init.bind (.ref s.heap.objs.size)
   repeat (any_goals (first | assumption | wp_step))
   refine vb (codeAny_call_builtin (R:=wants (λr c6=>r=.none/\Q (.ref s.heap.objs.size) c6) E) vh.init.plain F.entry_set_init (check_set_init_1 hT ?_)) λGw c6 rJ=>?_
   .obtain ⟨ol,TF,hcl,nl,hdl⟩:=id hl
    have qK:(s.heap.push (lr w)).IsList l items:=hl.push _
    have hTl:({ s with heap:=s.heap.push (lr w) }:Shared).TypeIs (.ref l) "list":=qK.typeIs
    have tP:l<s.heap.objs.size:=cL TF
    have n1:=F.sub_list_set
    have n2:=F.sub_list_frozenset
    have n3:(t9 "list" == t9 "dict")=false:=by decide
    unfold Builtin.«set.__init__» noKeywords Builtin.Frozenset.updateFrom
    generalize Ub:pyIter=PI
    wp_walk
    subst Ub
    refine IQ qK (aN (wpAny_runValue ?_))
    have cW:l≠(s.heap.push (lr w)).objs.size:=by rw [nG];exact dQ (qQ tP)
    have tS:s.heap.objs.size∉[(s.heap.push (lr w)).objs.size,l]:=by
     rw [nG];simp only [bG,dr,or_false,not_or]
     exact ⟨dQ (oQ _),BC tP⟩
    refine Pg (knd:=knd) ((Walks.list (by simp [hh]) _ l cW items).toS) s.heap.objs.size tS val tN hb (items.size-0) 0 _ (lr w) [] (by omega) (r8 _) ⟨⟨_,kG _ rfl,rfl,rfl⟩,(qK.push _)⟩ (dh _ hS) Wi (Kd.nil val) λs' o' ks' hm qr Z D=>?_
    obtain ⟨h',g',d',rm,GH⟩:=s'
    have e1:g'=s.gens:=hm.gens
    have e2:d'=s.drawn:=hm.drawn
    have e3:GH=s.os:=hm.os
    subst e1;subst e2;subst e3
    show wpAny _ _ (pure _ >>= _) _ _ _
    refine bJ (show wpAny _ _ (ret mi) _ _ _ from bJ ⟨rfl,h h' rm o' ks' (λb o hb e=>hm.heap b o ?_ (dh _ (dh _ e))) qr Z D⟩)
    simp only [bG,dr,or_false,not_or]
    exact ⟨dQ hb,dQ (by rw [nG];exact qQ hb)⟩
   .cases Gw with
    | error e=>exact rJ
    | ok Bk =>
     cases Bk with
     | ret r =>
      obtain ⟨rfl,hq⟩:=rJ
      repeat (any_goals (first | assumption | wp_step))
     | _=>exact rJ.elim
  | _=>exact hr.elim
end
end SE
namespace SE
open PySem PyProof.Rows PySem.Calls
section
variable {prog:Program}{w:World}{K:Type}[DecidableEq K]{knd:KeyKind prog w K}{A:Around}{E:Value->Shared->Prop}{s:Shared}
noncomputable def nx(w:World)(a:Addr)(es:Array (Int×Value))(ep:Nat)(t:SetTable)(slot given:Nat):Option (Value×Nat):=
 if pW w=true then ((pickOrder (w.params.setOrder a ep) es)[given]?).map λe=>(e.2,slot)
 else match es[rX t.place slot]?,t.place[rX t.place slot]? with
  | some (_,x),some j=>some (x,j+1)
  | _,_=>none
theorem OH{a:Addr}{o:Obj}{es:Array (Int×Value)}{ep:Nat}{t:SetTable}{cJ:List (K×Int×Value)}(ho:s.heap.get? a=some o)(hd:o.data=.set es ep t)(S:Sd knd es t cJ)(pd:pW w=false->t.plain=true\/es.size<=1){slot given:Nat}
  {Q:Option (Value×Nat)->Shared->Prop}(h:Q (nx w a es ep t slot given) s):wpAny (model prog w) A (setNext a slot given ep) Q E s:=by
 unfold setNext
 refine aN (BN ho hd S.fits ?_)
 dsimp only
 unfold setsByText
 refine aN (aN (BM (bJ ?_)))
 unfold nx at h
 by_cases hb:pW w=true
 .rw [if_pos hb] at h
  have yo:(model prog w).w.params.followText "set-order" = true:=hb
  dsimp only
  rw [if_pos yo]
  rw [if_neg (by simp)]
  refine aN ?_
  unfold setWalk setsByText
  refine aN (BN ho hd S.fits ?_)
  dsimp only
  refine aN (aN (BM (bJ ?_)))
  dsimp only
  rw [if_pos yo]
  refine aN (BM (bJ (bJ h)))
 .rw [if_neg hb] at h
  have yo:¬((model prog w).w.params.followText "set-order" = true):=hb
  dsimp only
  rw [if_neg yo]
  have hl:t.led=true:=S.tb.led.resolve_right hb
  refine BQ (λhz=>?_) (λ_=>?_)
  .exfalso
   have hz:(!t.plain&&decide (es.size>1))=true:=hz
   simp only [ub,Bool.not_eq_true',decide_eq_true_eq] at hz
   rcases pd (by simpa using hb) with q | q
   .rw [q] at hz;exact xx hz.1
   .omega
  .show wpAny _ _ ((if (!t.led&&!es.isEmpty)=true then unsupported "set:maker-not-led" else pure ()) >>= _) _ _ _
   rw [hl]
   simp only [Bool.not_true,Bool.false_and,xC,if_false]
   exact aN (bJ (bJ h))
noncomputable def sf(first:Value)(i:Nat)(a:Addr)(n ep:Nat):Obj:={ cls:=.type "set_iterator",data:=.fields #[first,rawInt i,.ref a,rawInt n,rawInt ep] }
theorem slot_next:Slot "set_iterator" "__next__" "set_iterator.__next__":=
 .of (owner:="set_iterator") (n:="__next__") (by rw [typeLookup_type,builtinLookup_eq_fast];kernel_rfl) (by decide +kernel) (by decide +kernel) (by decide +kernel)
  (by first | exact .inl (by decide +kernel) | exact .inr (by decide +kernel)) (by rw [isSubtype_type];kernel_rfl)
theorem KL:entryFor table "set_iterator.__next__" = some Builtin.«set_iterator.__next__»:=entryFor_of_tree (by kernel_rfl)
theorem Oh:Manifest.owners.lookup (String.ofList ['r','o','t','a','r','e','t','i','_','t','e','s'].reverse)=some Manifest.sig_set_iterator:=by kernel_rfl
theorem Km(a:Value):argsOk "set_iterator.__next__" ⟨[a],[]⟩:=by
 unfold argsOk;rw [signature?_of (id:="set_iterator.__next__") (n:=['_','_','t','x','e','n','_','_']) (o:=['r','o','t','a','r','e','t','i','_','t','e','s']) (by kernel_rfl) Oh];kernel_rfl
theorem NW{I a:Addr}{i slot:Nat}{o:Obj}{es:Array (Int×Value)}{ep:Nat}{t:SetTable}{cJ:List (K×Int×Value)}{Q:Option Value->Shared->Prop}(hI:s.heap.get? I=some (sf (rawInt slot) i a es.size ep))(ho:s.heap.get? a=some o)(hd:o.data=.set es ep t)(S:Sd knd es t cJ)(pd:pW w=false->t.plain=true\/es.size<=1)
  {x:Value}{j:Nat}(hx:nx w a es ep t slot i=some (x,j))(hQ:∀h',h'.get? I=some (sf (rawInt j) (i+1) a es.size ep)->r6 I s.heap h'->Q (some x) { s with heap:=h' }):wpAny (model prog w) A (pyNext (.ref I)) Q E s:=by
 have hT:s.TypeIs (.ref I) "set_iterator":=⟨_,hI,rfl⟩
 unfold pyNext
 refine aN (D1 (D9 (name:=DH "__next__") hT slot_next (xA slot_next hT KL ?_ (Km _))))
 unfold Builtin.«set_iterator.__next__»
 refine aN (xi (a:=(cK I,[])) rfl ?_)
 dsimp only
 refine aN (DV hI rfl ?_)
 show wpAny _ _ (setEntries a >>= _) _ _ _
 refine aN (BI ho hd S.fits ?_)
 rw [if_neg (by simp)]
 show wpAny _ _ (setNext a (slot:Int).toNat (i:Int).toNat (ep:Int).toNat >>= _) _ _ _
 simp only [yC]
 refine aN (OH ho hd S pd ?_)
 rw [hx]
 dsimp only
 refine aN (yN hI (by simp) λh1 e1 b1=>?_)
 refine aN (yN e1 (by simp) λh2 e2 b2=>?_)
 exact bJ ⟨x,rfl,bJ (hQ _ (by rw [e2];rfl) (b1.trans b2))⟩
end
end SE
namespace SE
open PySem PyProof.Rows PySem.Calls
section
variable {prog:Program}{w:World}{K:Type}[DecidableEq K]{knd:KeyKind prog w K}{A:Around}{E:Value->Shared->Prop}{s:Shared}
theorem P6{I:Addr}{Q:Option Value->Shared->Prop}(hT:s.TypeIs (.ref I) "set_iterator")(hm:wpAny (model prog w) A.in1 (Builtin.«set_iterator.__next__» ⟨[.ref I],[]⟩) (λ_ _=>False) (λe s'=>∃h',s'={ s with heap:=h' }/\DI I s.heap h'/\s'.TypeIs e "StopIteration") s)
  (hQ:∀h',DI I s.heap h'->Q none { s with heap:=h' }):wpAny (model prog w) A (pyNext (.ref I)) Q E s:=by
 unfold pyNext
 refine aN (D1 (D9 (name:=DH "__next__") hT slot_next (xA slot_next hT KL (nF hm (λ_ _ z=>z.elim) λe s' z=>?_) (Km _))))
 obtain ⟨h',rfl,k,t⟩:=z
 exact aN (wpAny_isInstance (T:="StopIteration") (b:=true) t isSubtype_stop (bJ (hQ _ k)))
theorem NZ{Q:PySem.Fin->Shared->Prop}(hh:A.handled=none)(h:∀e h',(∀b o,s.heap.get? b=some o->h'.get? b=some o)->({ s with heap:=h' }:Shared).TypeIs e "StopIteration" -> E e { s with heap:=h' }):
  wpAny (model prog w) A (newExc (.type "StopIteration") [] >>= λe=>raiseNew e) Q E s:=by
 refine aN ?_
 simp only [newExc,newTuple]
 refine aN (sS ?_ (by size_fits))
 refine aN (m:=firstArgMember _ _) (xi (a:=mi) (by first | rfl | (simp only [firstArgMember];rfl)) (sS ?_ (by size_fits)))
 simp only [raiseNew]
 refine aN (wpAny_handled ?_)
 rw [hh]
 refine aN (bJ (wpAny_throw ?_))
 refine h _ _ (λb o e=>dh _ (dh _ e)) ?_
 exact ⟨_,kG _ rfl,rfl⟩
theorem Of{I a:Addr}{i slot:Nat}{o:Obj}{es:Array (Int×Value)}{ep:Nat}{t:SetTable}{cJ:List (K×Int×Value)}{Q:Option Value->Shared->Prop}(hh:A.handled=none)(hI:s.heap.get? I=some (sf (rawInt slot) i a es.size ep))(ho:s.heap.get? a=some o)(hd:o.data=.set es ep t)(S:Sd knd es t cJ)(pd:pW w=false->t.plain=true\/es.size<=1)
  (hx:nx w a es ep t slot i=none)(hQ:∀h',DI I s.heap h'->Q none { s with heap:=h' }):wpAny (model prog w) A (pyNext (.ref I)) Q E s:=by
 refine P6 ⟨_,hI,rfl⟩ ?_ hQ
 unfold Builtin.«set_iterator.__next__»
 refine aN (xi (a:=(cK I,[])) rfl ?_)
 dsimp only
 refine aN (DV hI rfl ?_)
 show wpAny _ _ (setEntries a >>= _) _ _ _
 refine aN (BI ho hd S.fits ?_)
 rw [if_neg (by simp)]
 show wpAny _ _ (setNext a (slot:Int).toNat (i:Int).toNat (ep:Int).toNat >>= _) _ _ _
 simp only [yC]
 refine aN (OH ho hd S pd ?_)
 rw [hx]
 dsimp only
 refine aN (yN hI (by simp) λh1 e1 b1=>?_)
 exact NZ (by simp [hh]) λe h' k t=>⟨h',rfl,λb o hb eo=>k b o (b1.extBut b o hb eo),t⟩
theorem Av{I a tp:Addr}{i:Nat}{o ot:Obj}{es:Array (Int×Value)}{ep nt:Nat}{t:SetTable}{cJ:List (K×Int×Value)}{ps:List Nat}{Q:Option Value->Shared->Prop}(hI:s.heap.get? I=some (sf (.ref tp) i a es.size ep))(ho:s.heap.get? a=some o)(hd:o.data=.set es ep t)(S:Sd knd es t cJ)
  (ht:s.heap.get? tp=some ot)(yn:ot.data=.seq (ps.map λ(p:Nat)=>rawInt p).toArray nt){x:Value}{p:Nat}{hv:Int}(hp:ps[i]?=some p)(hx:es[p]?=some (hv,x))(hQ:∀h',h'.get? I=some (sf (.ref tp) (i+1) a es.size ep)->r6 I s.heap h'->Q (some x) { s with heap:=h' }):wpAny (model prog w) A (pyNext (.ref I)) Q E s:=by
 have hT:s.TypeIs (.ref I) "set_iterator":=⟨_,hI,rfl⟩
 unfold pyNext
 refine aN (D1 (D9 (name:=DH "__next__") hT slot_next (xA slot_next hT KL ?_ (Km _))))
 unfold Builtin.«set_iterator.__next__»
 refine aN (xi (a:=(cK I,[])) rfl ?_)
 dsimp only
 refine aN (DV hI rfl ?_)
 show wpAny _ _ (setEntries a >>= _) _ _ _
 refine aN (BI ho hd S.fits ?_)
 rw [if_neg (by simp)]
 show wpAny _ _ (seqItems? (.ref tp) >>= _) _ _ _
 refine aN (wpAny_seqItems ht yn ?_)
 dsimp only
 have e1:((ps.map λ(p:Nat)=>rawInt p).toArray)[((i:Int)).toNat]?=some (rawInt p):=by rw [yC,IG,qR,hp];rfl
 rw [e1]
 show wpAny _ _ (setNextDrawn a (p:Int).toNat (ep:Int).toNat >>= _) _ _ _
 simp only [yC]
 unfold setNextDrawn
 refine aN (aN (BN ho hd S.fits ?_))
 dsimp only
 rw [if_neg (by simp),hx]
 refine bJ (aN (yN hI (by simp) λh2 e2 b2=>?_))
 exact bJ ⟨x,rfl,bJ (hQ _ (by rw [e2];rfl) b2)⟩
theorem VT{I a tp:Addr}{i:Nat}{o ot:Obj}{es:Array (Int×Value)}{ep nt:Nat}{t:SetTable}{cJ:List (K×Int×Value)}{ps:List Nat}{Q:Option Value->Shared->Prop}(hh:A.handled=none)(hI:s.heap.get? I=some (sf (.ref tp) i a es.size ep))(ho:s.heap.get? a=some o)(hd:o.data=.set es ep t)(S:Sd knd es t cJ)
  (ht:s.heap.get? tp=some ot)(yn:ot.data=.seq (ps.map λ(p:Nat)=>rawInt p).toArray nt)(hp:ps[i]?=none)(hQ:∀h',DI I s.heap h'->Q none { s with heap:=h' }):wpAny (model prog w) A (pyNext (.ref I)) Q E s:=by
 refine P6 ⟨_,hI,rfl⟩ ?_ hQ
 unfold Builtin.«set_iterator.__next__»
 refine aN (xi (a:=(cK I,[])) rfl ?_)
 dsimp only
 refine aN (DV hI rfl ?_)
 show wpAny _ _ (setEntries a >>= _) _ _ _
 refine aN (BI ho hd S.fits ?_)
 rw [if_neg (by simp)]
 show wpAny _ _ (seqItems? (.ref tp) >>= _) _ _ _
 refine aN (wpAny_seqItems ht yn ?_)
 dsimp only
 have e1:((ps.map λ(p:Nat)=>rawInt p).toArray)[((i:Int)).toNat]?=none:=by rw [yC,IG,qR,hp];rfl
 rw [e1]
 refine aN (yN hI (by simp) λh1 e1 b1=>?_)
 refine aN (yN e1 (by simp) λh2 e2 b2=>?_)
 exact NZ (by simp [hh]) λe h' k t=>⟨h',rfl,λb o hb eo=>k b o ((b1.trans b2).extBut b o hb eo),t⟩
theorem OY:Slot "set_iterator" "__iter__" "set_iterator.__iter__":=
 .of (owner:="set_iterator") (n:="__iter__") (by rw [typeLookup_type,builtinLookup_eq_fast];kernel_rfl) (by decide +kernel) (by decide +kernel) (by decide +kernel)
  (by first | exact .inl (by decide +kernel) | exact .inr (by decide +kernel)) (by rw [isSubtype_type];kernel_rfl)
theorem WQ(a:Value):argsOk "set_iterator.__iter__" ⟨[a],[]⟩:=by
 unfold argsOk;rw [signature?_of (id:="set_iterator.__iter__") (n:=['_','_','r','e','t','i','_','_']) (o:=['r','o','t','a','r','e','t','i','_','t','e','s']) (by kernel_rfl) Oh];kernel_rfl
theorem Xu:entryFor table "set_iterator.__iter__" = some Builtin.«dict_keyiterator.__iter__»:=
 entryFor_alias (id':="dict_keyiterator.__iter__") (by kernel_rfl) (by first | rfl | decide +kernel | (unfold String.splitOn;simp +decide [Nn])) (by decide +kernel) (by kernel_rfl)
theorem Xv:entryFor table "set.__iter__" = some Builtin.«frozenset.__iter__»:=
 entryFor_alias (id':="frozenset.__iter__") (by kernel_rfl) (by first | rfl | decide +kernel | (unfold String.splitOn;simp +decide [Nn])) (by decide +kernel) (by kernel_rfl)
theorem J1{I:Addr}{Q:Value->Shared->Prop}(hT:s.TypeIs (.ref I) "set_iterator")(h:Q (.ref I) s):wpAny (model prog w) A (pyIter (.ref I)) Q E s:=by
 refine wpAny_pyIter_slot hT OY (xA OY hT Xu ?_ (WQ _))
 show wpAny _ _ (ret (.ref I)) _ _ s
 exact bJ ⟨_,rfl,"set_iterator",_,hT,slot_next.lookup,h⟩
end
end SE
namespace SE
open PySem PyProof.Rows PySem.Calls
theorem KJ{α:Type}:∀{l:List α} {i:Nat} (h:i<l.length),(l[i]::l.eraseIdx i).Perm l
 | _::_,0,_=>ue _
 | x::l,i+1,h=>by
  have h':i<l.length:=Nat.lt_of_succ_lt_succ h
  show (l[i]::x::l.eraseIdx i).Perm (x::l)
  exact (MP x _ _).trans ((KJ h').cons x)
theorem PX{α:Type}(next:Nat->Nat):∀(n k:Nat) (left:List α) (out:Array α),n=left.length->(pickOrder.go next n k left out).toList.Perm (out.toList++left)
 | 0,k,left,out,e=>by
  rw [D8.mp e.symm,rY]
  exact ue _
 | n+1,k,left,out,e=>by
  unfold pickOrder.go
  have hp:0<left.length:=by omega
  have hi:next k%left.length<left.length:=Nat.mod_lt _ hp
  rw [mG hi]
  dsimp only
  refine (PX next n (k+1) _ _ (by rw [Nt hi];omega)).trans ?_
  rw [vi,iW]
  refine D4 _ ?_
  exact KJ hi
section
variable {prog:Program}{w:World}{K:Type}[DecidableEq K]{knd:KeyKind prog w K}{A:Around}{E:Value->Shared->Prop}{s:Shared}
theorem Xe{src:Source}{n:Nat}{Q:Nat->Shared->Prop}(hn:n≠0)(h:∀i d',i<n->Q i { s with drawn:=d' }):wpAny (model prog w) A (choose src n) Q E s:=λΓ p hΓ=>by
 unfold choose
 rw [Sem.wp_choose]
 exact ⟨hn,h _ _ (Nat.mod_lt _ (IW hn))⟩
theorem O4{α:Type}:∀(n:Nat) (xs:List α) (s:Shared) (Q:List α->Shared->Prop),n=xs.length->(∀ys d',ys.Perm xs->Q ys { s with drawn:=d' })->wpAny (model prog w) A (drawOrder n xs) Q E s
 | 0,xs,s,Q,e,h=>by
  unfold drawOrder
  rw [D8.mp e.symm] at h
  exact bJ (h [] s.drawn (ue _))
 | n+1,[],s,Q,e,h=>by simp at e
 | n+1,x::xs,s,Q,e,h=>by
  unfold drawOrder
  refine aN (Xe (by simp) λi d' hi=>?_)
  rw [mG hi]
  dsimp only
  refine aN (O4 n _ _ _ (by rw [Nt hi,<-e];rfl) λys UE p=>bJ ?_)
  exact h _ UE ((p.cons _).trans (KJ hi))
def Pv(us:List (K×Int×Value))(i:Nat)(v:Value):Prop:=(us[i]?).map (·.2.2)=some v
theorem Et{es:Array (Int×Value)}{us:List (K×Int×Value)}(e:es.toList=us.map (·.2))(i:Nat):es[i]?=(us[i]?).map (·.2):=by
 rw [<-sQ,e,qR]
theorem zo{I a:Addr}{o:Obj}{es:Array (Int×Value)}{ep:Nat}{t:SetTable}{cJ:List (K×Int×Value)}(hh:A.handled=none)(cW:a≠I)(hd:o.data=.set es ep t)(S:Sd knd es t cJ)(hb:pW w=false)(pd:t.plain=true\/es.size<=1):
  Walks prog w A I [I,a] [I] cJ.length (Pv cJ) (λi h=>h.get? I=some (sf (rawInt ((if i=0 then 0 else t.place.getD (i-1) 0+1:Nat))) i a es.size ep)/\h.get? a=some o):=by
 have hz:t.place.size=es.size:=by
  have:=S.fits
  simp only [SetTable.fits,ub,beq_iff_eq] at this
  exact this.1
 have hr:kP t.place.toList:=by
  rcases pd with q | q
  .exact S.tb.rise q
  .unfold kP
   have:t.place.toList.length<=1:=by rw [gD,hz];exact q
   generalize t.place.toList=l at this
   cases l with
   | nil=>exact vj
   | cons x l=>cases l with
    | nil=>exact vz _ _
    | cons y l=>simp at this
 have key:∀i,i<=es.size->rX t.place (if i=0 then 0 else t.place.getD (i-1) 0+1)=i:=λi hi=>by
  have B:=Po hr (if i=0 then 0 else t.place.getD (i-1) 0+1)
  generalize rX t.place (if i=0 then 0 else t.place.getD (i-1) 0+1)=r at B
  have le:=B.le
  by_cases Mv:i=0
  .subst Mv
   rw [if_pos rfl] at B
   rcases IX r with q | q
   .exact q
   .exact absurd (B.lo 0 q) (Ie _)
  .rw [if_neg Mv] at B
   have gd:∀k d d',k<es.size->t.place.getD k d=t.place.getD k d':=λk d d' hk=>by simp [yw,hz,hk]
   rcases Nat.lt_trichotomy r i with q | q | q
   .have:=B.hi r (bZ _) (by omega)
    exfalso
    rw [gd r _ 0 (by omega)] at this
    rcases DG r (i-1) with z | z
    .have:=hr.lt (d:=0) z (by omega);omega
    .rw [show r=i-1 by omega] at this;omega
   .exact q
   .have:=B.lo i q
    rw [gd i _ 0 (by omega)] at this
    have:=hr.lt (d:=0) (show i-1<i by omega) (by omega)
    omega
 have len:=S.len
 have SJ:∀i,i<es.size->nx w a es ep t (if i=0 then 0 else t.place.getD (i-1) 0+1) i=(cJ[i]?).map λq=>(q.2.2,t.place.getD i 0+1):=λi hi=>by
  unfold nx
  rw [if_neg (by simp [hb]),key i (ve hi),Et S.tZ,mG (by omega),yH (by omega)]
  simp [yw,hz,hi]
 exact {
  sub:=λb hb=>by simp at hb;simp [hb]
  frame:=λi h h' st k=>⟨k I (by simp) _ st.1,k a (by simp) _ st.2⟩
  item:=λi s Q E hi st hQ=>by
   have sA:i<es.size:=by omega
   have e:=SJ i sA
   rw [mG hi] at e
   refine NW st.1 st.2 hd S (λ_=>pd) e λh' g sb=>hQ _ h' s.toks (by unfold Pv;rw [mG hi];rfl) ⟨?_,(sb.2 a cW).trans st.2⟩ λb o hb eo=>sb.extBut b o (λh=>hb (by simp [h])) eo
   rw [g,if_neg (Nat.succ_ne_zero i)];rfl
  done:=λs Q E st hQ=>by
   refine Of hh st.1 st.2 hd S (λ_=>pd) ?_ λh' g=>hQ h' s.toks λb o hb eo=>g b o (λh=>hb (by simp [h])) eo
   unfold nx
   rw [if_neg (by simp [hb]),<-len,key es.size (bZ _),Array.getElem?_eq_none (bZ _)]
  self:=λi s Q E st hQ=>J1 ⟨_,st.1,rfl⟩ hQ }
theorem zm{I a:Addr}{o:Obj}{es:Array (Int×Value)}{ep:Nat}{t:SetTable}{cJ us:List (K×Int×Value)}(hh:A.handled=none)(cW:a≠I)(hd:o.data=.set es ep t)(S:Sd knd es t cJ)(hb:pW w=true)(hu:(pickOrder (w.params.setOrder a ep) es).toList=us.map (·.2)):
  Walks prog w A I [I,a] [I] us.length (Pv us) (λi h=>h.get? I=some (sf (rawInt (0:Nat)) i a es.size ep)/\h.get? a=some o) where
 sub:=λb hb=>by simp at hb;simp [hb]
 frame:=λi h h' st k=>⟨k I (by simp) _ st.1,k a (by simp) _ st.2⟩
 item:=λi s Q E hi st hQ=>by
  refine NW st.1 st.2 hd S (λz=>by rw [hb] at z;exact xx z) (x:=(us[i]).2.2) (j:=0) ?_ λh' g sb=>hQ _ h' s.toks (by unfold Pv;rw [mG hi];rfl) ⟨g,(sb.2 a cW).trans st.2⟩ λb o hb eo=>sb.extBut b o (λh=>hb (by simp [h])) eo
  unfold nx
  rw [if_pos hb,Et hu,mG hi];rfl
 done:=λs Q E st hQ=>by
  refine Of hh st.1 st.2 hd S (λz=>by rw [hb] at z;exact xx z) ?_ λh' g=>hQ h' s.toks λb o hb eo=>g b o (λh=>hb (by simp [h])) eo
  unfold nx
  rw [if_pos hb,Et hu,BS (bZ _)];rfl
 self:=λi s Q E st hQ=>J1 ⟨_,st.1,rfl⟩ hQ
theorem rg{I a tp:Addr}{o ot:Obj}{es:Array (Int×Value)}{ep nt:Nat}{t:SetTable}{cJ:List (K×Int×Value)}{ps:List Nat}(hh:A.handled=none)(cW:a≠I)(TK:tp≠I)(hd:o.data=.set es ep t)(S:Sd knd es t cJ)(yn:ot.data=.seq (ps.map λ(p:Nat)=>rawInt p).toArray nt)(hp:∀p∈ps,p<es.size):
  Walks prog w A I [I,a,tp] [I] ps.length (λi v=>((ps[i]?).bind λp=>es[p]?).map (·.2)=some v) (λi h=>h.get? I=some (sf (.ref tp) i a es.size ep)/\h.get? a=some o/\h.get? tp=some ot) where
 sub:=λb hb=>by simp at hb;simp [hb]
 frame:=λi h h' st k=>⟨k I (by simp) _ st.1,k a (by simp) _ st.2.1,k tp (by simp) _ st.2.2⟩
 item:=λi s Q E hi st hQ=>by
  have h1:=hp _ (ua hi)
  refine Av st.1 st.2.1 hd S st.2.2 yn (mG hi) (yH h1) λh' g sb=>hQ _ h' s.toks ?_ ⟨g,(sb.2 a cW).trans st.2.1,(sb.2 tp TK).trans st.2.2⟩ λb o hb eo=>sb.extBut b o (λh=>hb (by simp [h])) eo
  rw [mG hi,sL,yH h1];rfl
 done:=λs Q E st hQ=>VT hh st.1 st.2.1 hd S st.2.2 yn (BS (bZ _)) λh' g=>hQ h' s.toks λb o hb eo=>g b o (λh=>hb (by simp [h])) eo
 self:=λi s Q E st hQ=>J1 ⟨_,st.1,rfl⟩ hQ
end
end SE
namespace SE
open PySem PyProof.Rows PySem.Calls
theorem NR{α β:Type}{f:α->Option β}:∀(l:List α),(∀x∈l,(f x).isSome=true)->∀i:Nat,(l.filterMap f)[i]?=(l[i]?).bind f
 | [],_,i=>rfl
 | x::l,h,i=>by
  obtain ⟨y,e⟩:=Jd.mp (h x jz)
  rw [Nz e]
  cases i with
  | zero=>simp [e]
  | succ i=>simpa using NR l (λx hx=>h x (gE _ hx)) i
theorem N6{α β:Type}{f:α->Option β}:∀(l:List α),(∀x∈l,(f x).isSome=true)->(l.filterMap f).length=l.length
 | [],_=>rfl
 | x::l,h=>by
  obtain ⟨y,e⟩:=Jd.mp (h x jz)
  rw [Nz e,ff,ff,N6 l λx hx=>h x (gE _ hx)]
section
variable {prog:Program}{w:World}{K:Type}[DecidableEq K]{knd:KeyKind prog w K}{A A2:Around}{E:Value->Shared->Prop}{s:Shared}
theorem Yk{a:Addr}{o:Obj}{es:Array (Int×Value)}{ep:Nat}{t:SetTable}{cJ:List (K×Int×Value)}{Q:Value->Shared->Prop}(hh:A2.handled=none)(ho:s.heap.get? a=some o)(hex:o.ExactSet)(hd:o.data=.set es ep t)(S:Sd knd es t cJ)
  (h:∀(h':Heap) d' (I:Addr) (fp:List Addr) St us,s.heap.objs.size<=I->(∀b o,s.heap.get? b=some o->h'.get? b=some o)->us.Perm cJ->Walks prog w A2 I fp [I] us.length (Pv us) St->St 0 h'->(∀b∈fp,b=a\/s.heap.objs.size<=b)->(∀b,b=I\/b∈fp->b<h'.objs.size)->Q (.ref I) { s with heap:=h',drawn:=d' }):
  wpAny (model prog w) A (pyIter (.ref a)) Q E s:=by
 have hT:s.TypeIs (.ref a) "set":=⟨o,ho,hex.1⟩
 have ha:a<s.heap.objs.size:=cL ho
 refine wpAny_pyIter_slot hT F.slot_set_iter (xA F.slot_set_iter hT Xv ?_ (F.args_set_iter_1 _))
 unfold Builtin.«frozenset.__iter__»
 refine aN (m:=Builtin.Frozenset.slot0 "__iter__" _) (xi (a:=a) rfl ?_)
 refine aN ?_
 unfold Builtin.Frozenset.sizeOf
 refine aN (BI ho hd S.fits (bJ ?_))
 refine aN ?_
 unfold setDrawn setsByText
 refine aN (BN ho hd S.fits ?_)
 dsimp only
 refine aN (aN (BM (bJ (bJ ?_))))
 have mE:∀(c:Bool),c=false->(∀us St,us.Perm cJ->Walks prog w A2 s.heap.objs.size [s.heap.objs.size,a] [s.heap.objs.size] us.length (Pv us) St->St 0 (s.heap.push (sf (rawInt (0:Nat)) 0 a es.size ep))->Q (.ref s.heap.objs.size) { s with heap:=s.heap.push (sf (rawInt (0:Nat)) 0 a es.size ep) }):=λc _ us St pu W st =>
  h _ s.drawn _ _ St us (bZ _) (λb o e=>dh _ e) pu W st (λb hb=>by
   simp only [bG,dr,or_false] at hb
   rcases hb with q | q
   .exact .inr (by rw [q];exact bZ _)
   .exact .inl q) λb hb=>by
    rw [nG]
    simp only [bG,dr,or_false] at hb
    rcases hb with q | q | q
    .rw [q];exact oQ _
    .rw [q];exact oQ _
    .rw [q];exact qQ ha
 refine BQ (λhz=>?_) (λhz=>?_)
 .have hz:(!(pW w)&&(!t.plain&&decide (es.size>1)))=true:=hz
  simp only [ub,Bool.not_eq_true',decide_eq_true_eq] at hz
  refine aN (O4 _ _ _ _ (by simp) λps d' pp=>?_)
  have cq:∀p∈ps,p<es.size:=λp hp=>DZ.mp (pp.mem_iff.mp hp)
  have hsz:(ps.map λ(p:Nat)=>rawInt p).length<=sizeLine:=by
   rw [dF,pp.length_eq,List.length_range]
   exact yA S.lt
  refine aN (wpAny_newTuple ?_ hsz)
  have len:=S.len
  refine aN (m:=setEpoch a) (wpAny_setEpoch_of (dh _ ho) hd S.fits ?_)
  refine aN (sS (bJ ⟨_,rfl,"set_iterator",_,⟨_,kG _ rfl,rfl⟩,slot_next.lookup,?_⟩) (by size_fits))
  have LY:∀p∈ps,(cJ[p]?).isSome=true:=λp hp=>by
   rw [mG (by have:=cq p hp;omega)];rfl
  have W:=rg (prog:=prog) (w:=w) (A:=A2) (I:=(s.heap.push { cls:=.type "tuple",data:=.seq (ps.map λ(p:Nat)=>rawInt p).toArray }).objs.size) (tp:=s.heap.objs.size) (ot:={ cls:=.type "tuple",data:=.seq (ps.map λ(p:Nat)=>rawInt p).toArray }) (nt:=0) (ps:=ps) hh (by rw [nG];exact dQ (qQ ha)) (by rw [nG];exact dQ (oQ _)) hd S rfl cq
  have eP:(λ(i:Nat) (v:Value)=>((ps[i]?).bind λp=>es[p]?).map (·.2)=some v)=Pv (ps.filterMap λp=>cJ[p]?):=by
   funext i v
   unfold Pv
   rw [NR ps LY i]
   cases ps[i]? with
   | none=>rfl
   | some p=>rw [sL,sL,Et S.tZ,Option.map_map];rfl
  rw [eP,<-N6 ps LY] at W
  refine h _ d' _ _ _ (ps.filterMap λp=>cJ[p]?) (by rw [nG];exact vg _) (λb o e=>dh _ (dh _ e)) ?_ W ⟨kG _ rfl,dh _ (dh _ ho),dh _ (kG _ rfl)⟩ (λb hb=>?_) λb hb=>?_
  .have:=pp.filterMap λp=>cJ[p]?
   rw [len,List.filterMap_getElem?_range_length] at this
   exact this
  .simp only [bG,dr,or_false,nG] at hb
   rcases hb with q | q | q
   .exact .inr (by rw [q];exact vg _)
   .exact .inl q
   .exact .inr (by rw [q];exact bZ _)
  .rw [nG,nG]
   simp only [bG,dr,or_false,nG] at hb
   rcases hb with q | q | q | q
   .rw [q];exact oQ _
   .rw [q];exact oQ _
   .rw [q];exact qQ (qQ ha)
   .rw [q];exact qQ (oQ _)
 .have hz:¬((!(pW w)&&(!t.plain&&decide (es.size>1)))=true):=hz
  rw [DT] at hz
  refine aN (bJ ?_)
  refine aN (m:=setEpoch a) (wpAny_setEpoch_of ho hd S.fits ?_)
  refine aN (sS (bJ ⟨_,rfl,"set_iterator",_,⟨_,kG _ rfl,rfl⟩,slot_next.lookup,?_⟩) (by size_fits))
  by_cases hb:pW w=true
  .obtain ⟨us,pu,eu⟩:=Fw (f:=λq:K×Int×Value=>q.2) (PX (w.params.setOrder a ep) es.size 0 es.toList #[] (gD).symm) cJ (by simpa using S.tZ)
   exact mE _ hz us _ pu (zm hh (dQ ha) hd S hb eu) ⟨kG _ rfl,dh _ ho⟩
  .refine mE _ hz cJ _ (ue _) (zo hh (dQ ha) hd S (by simpa using hb) ?_) ⟨kG _ rfl,dh _ ho⟩
   have yo:pW w=false:=by simpa using hb
   rw [yo] at hz
   simp only [Bool.not_false,Bool.true_and,Bool.and_eq_false_iff,Bool.not_eq_false',decide_eq_false_iff_not] at hz
   exact hz.imp id λq=>by omega
end
end SE
namespace SE
open PySem PyProof.Rows PySem.Calls PySem.W
section
variable {prog:Program}{w:World}{K:Type}[DecidableEq K]{knd:KeyKind prog w K}{A:Around}{E:Value->Shared->Prop}{s:Shared}
theorem XD{r:Addr}{Q:Bool->Shared->Prop}(hT:s.TypeIs (.ref r) "set")(h:Q false s):wpAny (model prog w) A (Nx (.ref r)) Q E s:=by
 unfold Nx
 refine aN (wpAny_specialOf hT F.slot_set_len.lookup ?_)
 generalize Mu:("set.__len__":String)=Td
 wp_delta
 rw [show splitId Td=some ("set","__len__") from by subst Mu;decide +kernel]
 subst Mu
 refine aN (wpAny_isInstance (T:="set") (b:=true) hT sub_set_self ?_)
 refine BQ (λz=>absurd z (by decide)) (λ_=>BQ (λ_=>?_) (λz=>absurd (by decide +kernel) z))
 exact aN (wpAny_typeOf hT (bJ h))
theorem Yj{us:List (K×Int×Value)}{acc:Array Value}(h:ItemsOf (Pv us) acc us.length):acc.toList=us.map (·.2.2):=by
 refine IP λi=>?_
 rw [qR]
 rcases DG i us.length with q | q
 .have hs:i<acc.size:=by rw [h.1];exact q
  have:=h.2 i acc[i] (yH hs)
  unfold Pv at this
  rw [this,sQ,yH hs]
 .rw [BS q,BS (by rw [gD,h.1];exact q)];rfl
theorem Zt{a:Addr}{o:Obj}{ks:List K}{R:List Value->Shared->Prop}(hh:A.handled=none)(ho:s.heap.get? a=some o)(Z:Sa knd o ks)
  (h:∀(h':Heap) d' tk (us:List (K×Int×Value)),(∀b o,s.heap.get? b=some o->h'.get? b=some o)->s.heap.objs.size<=h'.objs.size->(us.map (·.1)).Perm ks->(∀q∈us,knd.is q.1 q.2.2=true)->us.length<scanBound->R (us.map (·.2.2)) { s with heap:=h',drawn:=d',toks:=tk }):
  wpAny (model prog w) A (collect (.ref a)) R E s:=by
 obtain ⟨hex,es,ep,t,cJ,hd,S,rfl⟩:=Z
 have ha:a<s.heap.objs.size:=cL ho
 unfold collect
 refine aN (wpAny_runValue (yx entry_proto_collect' ?_))
 rw [BK F.plain_proto_collect _]
 show wpAny _ A.in1 (newList [] >>= λl=>again (.builtin "list.__iadd__" ⟨[l,.ref a],[]⟩)) _ _ s
 refine aN (sS (bJ ⟨BD F.plain_list_iadd _,yx entry_list_iadd' ?_⟩))
 rw [BK F.plain_list_iadd _]
 show wpAny _ A.in1 (Nw (.ref s.heap.objs.size) (.ref a) (.ref s.heap.objs.size)) _ _ _
 generalize hg:s.heap.push { cls:=.type "list",data:=.seq ([]:List Value).toArray }=g
 have gs:g.objs.size=s.heap.objs.size+1:=by rw [<-hg];exact nG ..
 have gl:g.get? s.heap.objs.size=some { cls:=.type "list",data:=.seq #[] }:=by rw [<-hg];exact kG _ rfl
 have up:∀b o,s.heap.get? b=some o->g.get? b=some o:=λb o e=>by rw [<-hg];exact dh _ e
 have ga:=up a o ho
 have hT:({ s with heap:=g }:Shared).TypeIs (.ref a) "set":=⟨o,ga,hex.1⟩
 unfold Nw
 refine aN (wpAny_typeOf hT ?_)
 have h1:NH (.ref s.heap.objs.size) (.ref a)=false:=by simp [NH,BC ha]
 have h2:(t9 "set" == t9 "list")=false:=by decide
 have h3:(t9 "set" == t9 "tuple")=false:=by decide
 simp only [h1,h2,h3,Bool.or_false,xC,if_false]
 refine aN (Yk (A2:=A.in1) (s:={ s with heap:=g }) (by simp [hh]) ga hex hd S λh' d' I fp St us hI k pu W st hf yj=>?_)
 have tS:s.heap.objs.size∉fp:=λz=>by
  rcases hf _ z with q | q
  .exact absurd q (BC ha)
  .simp only [gs] at q;omega
 have hSI:s.heap.objs.size≠I:=by simp only [gs] at hI;omega
 have end_:∀(h1:Heap) (c1 tk:Nat),St 0 h1->(∀b o,b≠s.heap.objs.size->s.heap.get? b=some o->h1.get? b=some o)->h1.get? s.heap.objs.size=some { cls:=.type "list",data:=.seq #[] c1 } ->
   codeAny (model prog w) A (.builtin "list.extend.loop" ⟨[.ref s.heap.objs.size,.ref I,.ref s.heap.objs.size],[]⟩) (λr s'=>∃(h':Heap) (rm:Nat) (acc:Array Value) (c':Nat),r=.ok (.ret (.ref s.heap.objs.size))/\s'={ s with heap:=h',drawn:=d',toks:=rm }/\(∀b o,s.heap.get? b=some o->h'.get? b=some o)/\h'.get? s.heap.objs.size=some { cls:=.type "list",dict:=none,data:=.seq acc c',slots:=#[] }/\acc.toList=us.map (·.2.2)) { s with heap:=h1,drawn:=d',toks:=tk }:=λh1 c1 tk Gg k1 g1=>by
  refine codeAny_extend_loopS W.toS ?_ _ tS _ us.length 0 _ #[] c1 rfl (r8 _) Gg g1 (ItemsOf.nil _) λs' acc c' mv g' it=>?_
  .rw [pu.length_eq,<-S.len];exact yA S.lt
  .have e:=Moved.eq_with mv
   refine ⟨s'.heap,s'.toks,acc,c',rfl,e,λb o eo=>mv.heap b o (λz=>?_) (k1 b o (dQ (cL eo)) eo),g',Yj it⟩
   have hb:=cL eo
   simp only [bG,dr,or_false] at z
   simp only [gs] at hI
   rcases z with z | z
   .exact dQ hb z
   .exact dQ (nr hb (IM hI)) z
 refine aN (sO (XD ⟨o,k a o ga,hex.1⟩ ?_))
 have g1:=k _ _ gl
 have fin:∀(c6:Shared) (h':Heap) (rm:Nat) (acc:Array Value) (c':Nat) (f:Array Value->Sem (List Value)),(∀xs,f xs=pure xs.toList)->c6={ s with heap:=h',drawn:=d',toks:=rm }->(∀b o,s.heap.get? b=some o->h'.get? b=some o)->s.heap.objs.size<h'.objs.size->acc.toList=us.map (·.2.2)->wpAny (model prog w) A (f acc) R E c6:=λc6 h' rm acc c' f hf e2 e3 e6 e5=>by
  subst e2
  rw [hf,e5]
  exact bJ (h h' d' rm us e3 (ve e6) (pu.map _) (λq hq=>(S.el q (pu.mem_iff.mp hq)).1) (by rw [pu.length_eq,<-S.len];exact S.lt))
 refine BQ (λ_=>?_) (λ_=>?_)
 rotate_left
 .refine bJ ⟨BD F.plain_extend_loop _,vb (end_ _ 0 s.toks st (λb o hb e=>k b o (up b o e)) g1) λq c6 ⟨h',rm,acc,c',e1,e2,e3,e4,e5⟩=>?_⟩
  subst e1;subst e2
  show wpAny _ A (load s.heap.objs.size >>= _) _ _ _
  exact aN (wpAny_load e4 (fin _ h' rm acc c' (λxs=>pure xs.toList) (λ_=>rfl) rfl e3 (cL e4) e5))
 refine aN (DM (aN ?_))
 show wpAny _ _ (updateSeq s.heap.objs.size (·.push .none) >>= λ_=>updateSeq s.heap.objs.size (·.pop)) _ _ _
 refine aN (wpAny_updateSeq g1 rfl ?_)
 have g2:=D5 (pC (·.push mi)) g1 rfl
 refine wpAny_updateSeq (hz:=by seq_fits) g2 rfl ?_
 have g3:=D5 (pC (·.pop)) g2 rfl
 have L5:∀b o,b≠s.heap.objs.size->h'.get? b=some o->((h'.update s.heap.objs.size (pC (·.push mi))).update s.heap.objs.size (pC (·.pop))).get? b=some o:=λb o hb e =>
  (BX _ _ (kY hb)).trans ((BX _ _ (kY hb)).trans e)
 refine bJ ⟨BD F.plain_extend_loop _,vb (end_ _ _ s.toks (W.frame 0 _ _ st λb hb o e=>L5 b o (λz=>tS (z▸hb)) e) (λb o hb e=>L5 b o hb (k b o (up b o e))) g3) λq c6 ⟨h',rm,acc,c',e1,e2,e3,e4,e5⟩=>?_⟩
 subst e1;subst e2
 show wpAny _ A (load s.heap.objs.size >>= _) _ _ _
 exact aN (wpAny_load e4 (fin _ h' rm acc c' (λxs=>pure xs.toList) (λ_=>rfl) rfl e3 (cL e4) e5))
end
end SE
namespace SE
open PySem PyProof.Rows PySem.Calls
theorem N2{α:Type}{p q:α->Bool}:∀(l:List α),(∀x∈l,p x=true->q x=true)->(∃x∈l,q x=true/\p x=false)->l.countP p<l.countP q
 | [],_,⟨_,z,_⟩=>nomatch z
 | a::l,h,⟨x,hx,h1,h2⟩=>by
  have mono:l.countP p<=l.countP q:=List.countP_mono_left λy hy=>h y (gE _ hy)
  rcases bG.mp hx with e | hx
  .subst e
   rw [D7 h1,Jh (by rw [h2];exact qU)]
   exact Nat.lt_succ_of_le mono
  .have ih:=N2 l (λy hy=>h y (gE _ hy)) ⟨x,hx,h1,h2⟩
   by_cases ha:p a=true
   .rw [D7 ha,D7 (h a jz ha)]
    exact Nat.succ_lt_succ ih
   .rw [Jh ha]
    by_cases hb:q a=true
    .rw [D7 hb];exact qQ ih
    .rw [Jh hb];exact ih
structure Ol{K:Type}(lt:K->K->Bool):Prop where
 yf:∀a,lt a a=false
 tr:∀{a b c},lt a b=true->lt b c=true->lt a c=true
 zr:∀{a b},a≠b->lt a b=true\/lt b a=true
section
variable {prog:Program}{w:World}{K:Type}[DecidableEq K]{knd:xq prog w K}{lt:K->K->Bool}{A:Around}{E:Value->Shared->Prop}{s:Shared}
structure Od(knd:xq prog w K)(lt:K->K->Bool):Prop where
 ol:Ol lt
 one:∀{a b:K} {u v:Value} {A:Around} {E:Value->Shared->Prop} {s:Shared} {Q:Bool->Shared->Prop},knd.is a u=true->knd.is b v=true->Q (lt a b) s->wpAny (model prog w) A (oneLt' true u v) Q E s
 kind:∀{us:List (K×Value)},(∀q∈us,knd.is q.1 q.2=true)->2<=us.length->keyKind' (us.map (·.2)).toArray=pure oneType'
noncomputable def rk(lt:K->K->Bool)(ks:List K)(k:K):Int:=(ks.countP λx=>lt x k:Nat)
theorem ED(O:Od knd lt){ks:List K}{a b:K}(ha:a∈ks)(h:lt a b=true):rk lt ks a<rk lt ks b:=by
 unfold rk
 have:=N2 (p:=λx=>lt x a) (q:=λx=>lt x b) ks (λx _ z=>O.ol.tr z h) ⟨a,ha,h,O.ol.yf a⟩
 omega
theorem Ot(O:Od knd lt){ks:List K}{a b:K}(ha:a∈ks)(hb:b∈ks):rk lt ks a<rk lt ks b↔lt a b=true:=by
 refine ⟨λz=>?_,ED O ha⟩
 by_cases e:a=b
 .subst e;omega
 .rcases O.ol.zr e with q | q
  .exact q
  .have:=ED O hb q;omega
noncomputable def ky(knd:xq prog w K)(lt:K->K->Bool)(ks:List K)(v:Value):Int:=match ks.find? λk=>knd.is k v with
 | some k=>rk lt ks k
 | none=>0
theorem Jn{ks:List K}{k:K}{v:Value}(hk:k∈ks)(h:knd.is k v=true):ky knd lt ks v=rk lt ks k:=by
 unfold ky
 cases hf:ks.find? λk=>knd.is k v with
 | none=>exact absurd h (by simpa using List.find?_eq_none.mp hf k hk)
 | some k'=>rw [knd.inj v k' k (List.find?_some (p:=λk=>knd.is k v) hf) h]
theorem W1(O:Od knd lt){ks:List K}{us:List (K×Value)}(Hd:ks.Nodup)(hu:(us.map (·.1)).Perm ks)(hi:∀q∈us,knd.is q.1 q.2=true)(S:Shared)(h2:2<=us.length):
  (∀{A:Around} {E:Value->Shared->Prop} {Q:SortKind->Shared->Prop},Q oneType' S->wpAny (model prog w) A (keyKind' (us.map (·.2)).toArray) Q E S) /\
  ∀{A:Around} {E:Value->Shared->Prop},wpS (model prog w) A E S sortRuns' (λ_ av=>((((arrOf av).map (·.2)).toList.Perm (us.map (·.2)))/\((arrOf av).map (·.2)).toList.Pairwise λx y=>ky knd lt ks x<ky knd lt ks y)/\failedOf av=none) (Bz oneType' (pairsOf (us.map (·.2))) #[] 7 none):=by
 have mem:∀q∈us,q.1∈ks:=λq hq=>hu.mem_iff.mp (pF.mpr ⟨q,hq,rfl⟩)
 have kq:∀q∈us,ky knd lt ks q.2=rk lt ks q.1:=λq hq=>Jn (mem q hq) (hi q hq)
 have pz:∀p∈(pairsOf (us.map (·.2))).toList,∃q∈us,p.1=q.2:=λp hp=>by
  rw [yD] at hp
  obtain ⟨q,hq,e⟩:=pF.mp (DR hp).1
  exact ⟨q,hq,e.symm⟩
 refine ⟨λ{A E Q} hQ=>by rw [O.kind hi h2];exact bJ hQ,λ{A E}=>?_⟩
 have hz:(pairsOf (us.map (·.2))).size=us.length:=by rw [<-gD,yD];simp
 refine SO.zW (kd:=oneType') (κ:=λp=>ky knd lt ks p.1) (C:=λp=>∃q∈us,p.1=q.2) (a₀:=pairsOf (us.map (·.2))) ⟨λ{x y} cx cy cW=>?_⟩ ⟨pz,?_⟩ ⟨MR _,rfl,rfl,rfl,r8 _,trivial,λR hR=>nomatch hR⟩ (by rw [hz];exact h2) λav p f i=>⟨TS.wg p λa b sD hb=>SO.jg i sD (by rw [p.size_eq];exact hb),f⟩
 .intro A E Q hQ
  obtain ⟨q,hq,e⟩:=cx
  obtain ⟨r,hr,e'⟩:=cy
  rw [keyLt'_oneType]
  rw [e,e',kq q hq,kq r hr] at hQ
  rw [e,e']
  refine O.one (hi q hq) (hi r hr) ?_
  have:decide (rk lt ks q.1<rk lt ks r.1)=lt q.1 r.1:=by
   rw [Bool.eq_iff_iff,decide_eq_true_eq];exact Ot O (mem q hq) (mem r hr)
  rwa [this] at hQ
 .have e:((pairsOf (us.map (·.2))).toList.map λp=>ky knd lt ks p.1)=us.map λq=>rk lt ks q.1:=by
   rw [yD]
   have:((us.map (·.2)).zip (us.map (·.2))).map (λp=>ky knd lt ks p.1)=(us.map (·.2)).map (ky knd lt ks):=by
    show ((us.map (·.2)).zip (us.map (·.2))).map (ky knd lt ks∘λp:Value×Value=>p.1)=_
    rw [<-xo,List.map_fst_zip (bZ _)]
   rw [this,xo]
   exact List.map_congr_left λq hq=>kq q hq
  show (((pairsOf (us.map (·.2))).toList.map λp=>ky knd lt ks p.1)).Nodup
  rw [e]
  have nd:(us.map (·.1)).Nodup:=hu.nodup_iff.mpr Hd
  have:us.map (λq=>rk lt ks q.1)=(us.map (·.1)).map (rk lt ks):=by rw [xo];rfl
  rw [this]
  refine List.Pairwise.map _ (λa b sD=>?_) (nd.imp_of_mem (S:=λa b=>a∈ks/\b∈ks/\a≠b) λ{a b} ha hb cW=>⟨hu.mem_iff.mp ha,hu.mem_iff.mp hb,cW⟩)
  intro e
  rcases O.ol.zr sD.2.2 with q | q
  .have:=ED O sD.1 q;omega
  .have:=ED O sD.2.1 q;omega
theorem oZ(O:Od knd lt){a:Addr}{o:Obj}{ks:List K}{Q:Value->Shared->Prop}(hh:A.handled=none)(ho:s.heap.get? a=some o)(Z:Sa knd o ks)(Hb:ks.Nodup)
  (h:∀(h':Heap) d' tk D e (us:List (K×Value)),(∀b o,s.heap.get? b=some o->h'.get? b=some o)->s.heap.objs.size<=D->h'.get? D=some (seqObj "list" (us.map (·.2)).toArray e)->(us.map (·.1)).Perm ks->(us.map (·.1)).Pairwise (λx y=>lt x y=true)->(∀q∈us,knd.is q.1 q.2=true)->us.length<scanBound->Q (.ref D) { s with heap:=h',drawn:=d',toks:=tk }):
  wpAny (model prog w) A (call (.builtin "sorted") [.ref a]) Q E s:=by
 refine Calls.call_function_entry kind_sorted plain_sorted entry_sorted (args_sorted1 _) ?_
 unfold Builtin.«sorted»
 refine aN (m:=checkCount "sorted" 1 1 _) (bJ (aN (Zt (by simp [hh]) ho Z λh1 d' tk us k1 sz pu iu lu=>?_)))
 generalize hv:us.map (λq=>(q.1,q.2.2))=vs
 have e1:us.map (·.2.2)=vs.map (·.2):=by rw [<-hv,xo];rfl
 have e2:us.map (·.1)=vs.map (·.1):=by rw [<-hv,xo];rfl
 have iv:∀q∈vs,knd.is q.1 q.2=true:=λq hq=>by
  rw [<-hv] at hq
  obtain ⟨r,hr,rfl⟩:=pF.mp hq
  exact iu r hr
 have lv:vs.length<scanBound:=by rw [<-hv,dF];exact lu
 rw [e2] at pu
 rw [e1]
 have hZ:(vs.map (·.2)).length<=sizeLine:=by rw [dF];exact yA lv
 refine aN (wpAny_newList (hsz:=hZ) ?_)
 have z2:(h1.push (seqObj "list" (vs.map (·.2)).toArray 0)).get? h1.objs.size=some (seqObj "list" (vs.map (·.2)).toArray 0):=kG _ rfl
 have mem:∀q∈vs,q.1∈ks:=λq hq=>pu.mem_iff.mp (pF.mpr ⟨q,hq,rfl⟩)
 refine aN (sO (xA slot_list_sort ⟨_,z2,rfl⟩ entry_list_sort (TS.zN (κ:=oneType') (R:=λout=>out.toList.Perm (vs.map (·.2))/\out.toList.Pairwise λx y=>ky knd lt ks x<ky knd lt ks y) z2 hZ (λhl=>?_) (λout ho=>?_) (λS _ h2=>W1 O Hb pu iv S (by rwa [dF] at h2)) λout o1=>⟨_,rfl,?_⟩) (args_list_sort _)))
 .refine ⟨ue _,?_⟩
  rw [dF] at hl
  show List.Pairwise _ (vs.map (·.2))
  cases vs with
  | nil=>exact vj
  | cons x l=>cases l with
   | nil=>exact vz _ _
   | cons y l=>simp at hl;omega
 .rw [<-gD,ho.1.length_eq]
 .refine bJ ⟨_,rfl,?_⟩
  obtain ⟨ws,pw,ew⟩:=Fw o1.1 vs rfl
  obtain ⟨e,he⟩:=sortedHeap_at (out:=out) z2
  have k2:∀b o,s.heap.get? b=some o->(sortedHeap (h1.push (seqObj "list" (vs.map (·.2)).toArray 0)) h1.objs.size (vs.map (·.2)) out).get? b=some o:=λb o eb=>by
   have hb:b<h1.objs.size:=cL (k1 b o eb)
   rw [sortedHeap_old (dQ hb) (by rw [nG];exact qQ hb)]
   exact dh _ (k1 b o eb)
  refine h _ d' tk _ e ws k2 sz (by rw [he];congr 1;congr 1;rw [<-ew]) ((pw.map _).trans pu) ?_ (λq hq=>iv q (pw.mem_iff.mp hq)) (by rw [pw.length_eq];exact lv)
  have p:=o1.2
  rw [ew,IJ] at p
  rw [IJ]
  refine p.imp_of_mem λ{x y} hx hy z=>?_
  have kU:=pw.mem_iff.mp hx
  have AO:=pw.mem_iff.mp hy
  rw [Jn (mem x kU) (iv x kU),Jn (mem y AO) (iv y AO)] at z
  exact (Ot O (mem x kU) (mem y AO)).mp z
end
end SE
namespace SE
open PySem PyProof.Rows
noncomputable def ltI:Int->Int->Bool:=λa b=>decide (a<b)
noncomputable def wA:Str->Str->Bool:=λa b=>decide (a.cps.toList<b.cps.toList)
theorem jm:Ol ltI where
 yf:=λa=>by simp [ltI]
 tr:=λh1 h2=>by simp [ltI] at *;omega
 zr:=λh=>by simp [ltI];omega
theorem wt{prog:Program}{w:World}:Od (intKind prog w) ltI where
 ol:=jm
 one:=λ{a b u v A E s Q} ha hb hQ=>by
  obtain ⟨t,rfl⟩:=BP ha
  obtain ⟨t',rfl⟩:=BP hb
  exact oneLt_int hQ
 kind:=λ{us} h h2=>by
  have key:∀us:List (Int×Value),(∀q∈us,(intKind prog w).is q.1 q.2=true)->IntsAre (us.map (·.2)) (us.map (·.1)):=λus=>by
   induction us with
   | nil=>intro _;exact .nil
   | cons q us ih =>
    intro h
    obtain ⟨t,e⟩:=BP (h q jz)
    rw [e9,e9,e]
    exact .cons _ t (ih λq hq=>h q (gE _ hq))
  have k:=key us h
  match us,h2,k with
  | a::b::us,_,k=>exact keyKind_ints k
theorem Qk:∀{a b:List Nat},a≠b->a<b\/b<a
 | [],[],h=>absurd rfl h
 | [],_::_,_=>.inl List.Lex.nil
 | _::_,[],_=>.inr List.Lex.nil
 | x::a,y::b,h=>by
  rcases Nat.lt_trichotomy x y with q | q | q
  .exact .inl (List.Lex.rel q)
  .subst q
   rcases Qk (a:=a) (b:=b) (λe=>h (by rw [e])) with z | z
   .exact .inl (List.Lex.cons z)
   .exact .inr (List.Lex.cons z)
  .exact .inr (List.Lex.rel q)
theorem mR:Ol wA where
 yf:=λa=>by simp [wA,List.lt_irrefl]
 tr:=λh1 h2=>by
  unfold wA at *
  rw [decide_eq_true_eq] at *
  exact List.lt_trans h1 h2
 zr:=λ{a b} h=>by
  unfold wA
  rw [decide_eq_true_eq,decide_eq_true_eq]
  refine Qk λe=>h ?_
  obtain ⟨x⟩:=a
  obtain ⟨y⟩:=b
  have e':x=y:=Im.mp e
  rw [e']
theorem wq{prog:Program}{w:World}:Od (D0 prog w) wA where
 ol:=mR
 one:=λ{a b u v A E s Q} ha hb hQ=>by
  obtain ⟨t,rfl⟩:=BJ ha
  obtain ⟨t',rfl⟩:=BJ hb
  exact oneLt_str hQ
 kind:=λ{us} h h2=>by
  have key:∀us:List (Str×Value),(∀q∈us,(D0 prog w).is q.1 q.2=true)->StrsAre (us.map (·.2)) (us.map (·.1)):=λus=>by
   induction us with
   | nil=>intro _;exact .nil
   | cons q us ih =>
    intro h
    obtain ⟨t,e⟩:=BJ (h q jz)
    rw [e9,e9,e]
    exact .cons _ t (ih λq hq=>h q (gE _ hq))
  have k:=key us h
  match us,h2,k with
  | a::b::us,_,k=>exact keyKind_strs k
noncomputable def ins{K:Type}(lt:K->K->Bool)(x:K):List K->List K
 | []=>[x]
 | y::l=>if lt x y=true then x::y::l else if lt y x=true then y::ins lt x l else y::l
noncomputable def qh{K:Type}(lt:K->K->Bool):List K->List K
 | []=>[]
 | x::l=>ins lt x (qh lt l)
section
variable {K:Type}[DecidableEq K]{lt:K->K->Bool}
theorem JX(O:Ol lt)(x z:K):∀l:List K,z∈ins lt x l↔z=x\/z∈l
 | []=>by simp [ins]
 | y::l=>by
  unfold ins
  split
  .simp
  .split
   .rw [bG,JX O x z l,bG]
    constructor
    .rintro (q | q | q)
     .exact .inr (.inl q)
     .exact .inl q
     .exact .inr (.inr q)
    .rintro (q | q | q)
     .exact .inr (.inl q)
     .exact .inl q
     .exact .inr (.inr q)
   .rename_i h1 h2
    have e:x=y:=Classical.byContradiction λz=>(O.zr z).elim h1 h2
    subst e
    simp
theorem OU(O:Ol lt)(x:K):∀l:List K,l.Pairwise (λa b=>lt a b=true)->(ins lt x l).Pairwise (λa b=>lt a b=true)
 | [],_=>vz _ _
 | y::l,h=>by
  obtain ⟨h1,h2⟩:=kZ.mp h
  unfold ins
  split
  .rename_i q
   refine kZ.mpr ⟨λz hz=>?_,h⟩
   rcases bG.mp hz with e | e
   .rw [e];exact q
   .exact O.tr q (h1 z e)
  .split
   .rename_i q
    refine kZ.mpr ⟨λz hz=>?_,OU O x l h2⟩
    rcases (JX O x z l).mp hz with e | e
    .rw [e];exact q
    .exact h1 z e
   .exact h
theorem kS(O:Ol lt)(z:K):∀l:List K,z∈qh lt l↔z∈l
 | []=>e8
 | x::l=>by unfold qh;rw [JX O,kS O z l,bG]
theorem kT(O:Ol lt):∀l:List K,(qh lt l).Pairwise (λa b=>lt a b=true)
 | []=>vj
 | x::l=>OU O x _ (kT O l)
theorem pG(O:Ol lt):∀{l m:List K},l.Pairwise (λa b=>lt a b=true)->m.Pairwise (λa b=>lt a b=true)->(∀z,z∈l↔z∈m)->l=m
 | [],[],_,_,_=>rfl
 | [],b::m,_,_,h=>absurd ((h b).mpr jz) (λz=>nomatch z)
 | a::l,[],_,_,h=>absurd ((h a).mp jz) (λz=>nomatch z)
 | a::l,b::m,hl,hm,h=>by
  obtain ⟨l1,l2⟩:=kZ.mp hl
  obtain ⟨m1,m2⟩:=kZ.mp hm
  have no:∀{x y:K},lt x y=true->lt y x=true->False:=λ{x y} p q=>by
   have:=O.tr p q
   rw [O.yf] at this
   exact xx this
  have e:a=b:=by
   rcases bG.mp ((h a).mp jz) with q | q
   .exact q
   .rcases bG.mp ((h b).mpr jz) with r | r
    .exact r.symm
    .exact (no (m1 a q) (l1 b r)).elim
  subst e
  rw [pG O l2 m2 λz=>?_]
  constructor
  .intro hz
   rcases bG.mp ((h z).mp (gE _ hz)) with q | q
   .subst q
    have:=l1 z hz
    rw [O.yf] at this
    exact xx this
   .exact q
  .intro hz
   rcases bG.mp ((h z).mpr (gE _ hz)) with q | q
   .subst q
    have:=m1 z hz
    rw [O.yf] at this
    exact xx this
   .exact q
end
end SE
namespace DL
open PySem PySem.Spec PyProof.Rows L2
theorem _root_.L2.Inv.drawn{X:Cx}{pins:List (Addr×Obj)}{σ:List (Option V)}{H:Hp}{s:Shared}(I:Inv X pins σ H s)(d':Drawn):Inv X pins σ H { s with drawn:=d' }:=
 ⟨I.ok,I.os,I.bare,I.base,I.loc,I.cell,I.free,I.ej,I.pin,I.bB,I.len⟩
section
variable {X:Cx}{K:Type}[DecidableEq K]{knd:xq X.prog X.w K}{lt:K->K->Bool}{mk:K->V}
structure Kv(knd:xq X.prog X.w K)(mk:K->V):Prop where
 to:∀{k:K} {u:Value},RelV (mk k) u->knd.is k u=true/\u.scannable=true
 of:∀{k:K} {u:Value},knd.is k u=true->RelV (mk k) u
noncomputable def sE(knd:xq X.prog X.w K)(a:Addr)(ks:List K):HO:=.ext λh=>∃o,h.get? a=some o/\SE.Sa knd o ks
theorem iG(T:Kv knd mk)(dk:K)(hc:X.calm=true):cA X (.type "set") (λxs H Q=>∃(p:Addr) (ns:List K),xs=[.ref p]/\Sq X.K H true p (ns.map mk)/\ns.length+1<scanBound /\
  ∀(a:Addr) (ks:List K),ks.Nodup->(∀x,x∈ks↔x∈ns)->H a=none->Q (.ref a) (upd H a (sE knd a ks))):=by
 intro pins s σ H xs us Q I r h
 obtain ⟨p,ns,rfl,hq,hb,q⟩:=h
 obtain ⟨u,rfl,ru⟩:=r.one
 cases ru
 obtain ⟨aA,rv,pl⟩:=zL (b:=true) I hq
 have hl:aA.length=ns.length:=by rw [<-rv.length,dF]
 refine SE.iG (knd:=knd) (items:=aA.toArray) (I.ok.hd hc) pl (λi=>ns.getD i dk) (λi v hv=>?_) (by rw [dR,hl];exact hb) λh' tk o ks k ho Z D=>?_
 .rw [IG] at hv
  have hi:i<ns.length:=by
   have:=(qP.mp hv).1
   omega
  obtain ⟨u,e1,e2⟩:=aG.get (x:=mk ns[i]) rv (i:=i) (by rw [qR,mG hi];rfl)
  rw [hv] at e1
  cases e1
  rw [Jf,mG hi]
  exact T.to e2
 .have fr:H s.heap.objs.size=none:=I.bB.fresh (bZ _)
  refine ⟨.ref s.heap.objs.size,_,I.laid (o:=sE knd s.heap.objs.size ks) (t':=tk) (λb o e=>k b o (cL e) e) (bZ _) ⟨⟨o,ho,Z⟩,⟨o,ho⟩,λh1 h2 ⟨o,e,z⟩ kk=>⟨o,kk _ e,z⟩⟩,rfl,q _ ks D.nd (λx=>?_) fr⟩
  rw [D.mem,dR,hl]
  constructor
  .rintro ⟨j,hj,e⟩
   rw [<-e,Jf,mG hj]
   exact ua hj
  .intro hx
   obtain ⟨j,hj,e⟩:=qV.mp hx
   exact ⟨j,hj,by rw [Jf,mG hj];exact e⟩
theorem Qv(T:Kv knd mk)(O:SE.Od knd lt)(hc:X.calm=true):cA X (.builtin "sorted") (λxs H Q=>∃(p:Addr) (ks:List K),xs=[.ref p]/\H p=some (sE knd p ks)/\ks.Nodup /\
  ∀(ms:List K) (a:Addr),ms.Perm ks->ms.Pairwise (λx y=>lt x y=true)->H a=none->Q (.ref a) (upd H a (.lst (ms.map mk)))):=by
 intro pins s σ H xs vs Q I r h
 obtain ⟨p,ks,rfl,hp,Hb,q⟩:=h
 obtain ⟨u,rfl,ru⟩:=r.one
 cases ru
 obtain ⟨⟨o,ho,Z⟩,_⟩:=I.bB p _ hp
 refine SE.oZ O (I.ok.hd hc) ho Z Hb λh' d' tk D e us k sz hD pu qX iu lu=>?_
 have fr:H D=none:=I.bB.fresh sz
 refine ⟨.ref D,_,(I.laid (o:=.lst ((us.map (·.1)).map mk)) (t':=tk) k sz ⟨?_,us.map (·.2),e,?_,hD⟩).drawn d',rfl,q _ D pu qX fr⟩
 .rw [dF,dF];exact yA lu
 .clear hD pu qX lu
  induction us with
  | nil=>exact .nil
  | cons x us ih=>exact .cons (T.of (iu x jz)) (ih λq hq=>iu q (gE _ hq))
theorem Ob:Kv (intKind X.prog X.w) V.int:=⟨λ{k u} ⟨t,e⟩=>by subst e;exact ⟨by simp [intKind,HY],rfl⟩,λh=>BP h⟩
theorem Oe:Kv (D0 X.prog X.w) V.str:=⟨λ{k u} ⟨t,e⟩=>by subst e;exact ⟨by simp [D0,Iw],rfl⟩,λh=>BJ h⟩
theorem NN{e:Expr}{t1 t2:TE}(h1:PE X e t1)(h2:PE X e t2):PE X e (λσ H Q=>t1 σ H Q\/t2 σ H Q):=λpins s σ H Q I h=>h.elim (h1 pins s σ H Q I) (h2 pins s σ H Q I)
theorem N9{K:aK}{O:Addr->Prop}{H:Hp}:∀ws:List Int,aZ K O H (ws.map V.int) (ws.map D.int)
 | []=>.nil
 | _::ws=>.cons (Is.int _) (N9 ws)
theorem Oa{K:aK}{O:Addr->Prop}{H:Hp}:∀ws:List Str,aZ K O H (ws.map V.str) (ws.map D.str)
 | []=>.nil
 | _::ws=>.cons (Is.str _) (Oa ws)
noncomputable def Ez:List D->Option (List Str)
 | []=>some []
 | .str x::ds=>(Ez ds).map (x::·)
 | _::_=>none
theorem Qt:∀{ds:List D} {ss:List Str},Ez ds=some ss->ds=ss.map D.str
 | [],ss,h=>by cases h;rfl
 | .str x::ds,ss,h=>by
  obtain ⟨s',h1,rfl⟩:=map_some (show (Ez ds).map (x::·)=some ss from h)
  rw [Qt h1];rfl
theorem PU{K:aK}{O:Addr->Prop}{H:Hp}:∀{xs:List V} {ns:List Str},aZ K O H xs (ns.map D.str)->xs=ns.map V.str
 | _,[],h=>by cases h;rfl
 | _,n::ns,h=>by
  cases h with
  | cons a t =>
   cases a
   rw [PU t];rfl
noncomputable def sset(ds:List D):Option (List D):=match ou ds with
 | some ns=>if ns.length+1<4096 then some ((SE.qh SE.ltI ns).map D.int) else none
 | none=>(Ez ds).bind λss=>if ss.length+1<4096 then some ((SE.qh SE.wA ss).map D.str) else none
noncomputable def B5(f:En->Option Sl):En->Option Sl:=λenv=>(f env).bind λr=>match r.d with
 | .lst _ ds=>(sset ds).map Sl.ow
 | _=>none
theorem OS{e:Expr}{fa:En->Option Sl}{p pos p2 o3:Pos}(hc:X.calm=true)(hg:Gl X "sorted")(hm:X.mg "sorted" = none)(yi:Gl X "set")(yg:X.mg "set" = none)(he:EV X e fa)(hs:starEach [e] X.env=[(false,eval e X.env)]:=by rfl)
  (lA:starEach [.Call (.Name "set" p2) [e] [] o3] X.env=[(false,eval (.Call (.Name "set" p2) [e] [] o3) X.env)]:=by rfl):EV X (.Call (.Name "sorted" p) [.Call (.Name "set" p2) [e] [] o3] [] pos) (B5 fa):=by
 obtain ⟨t,pt,k⟩:=he
 have P1:=uq (p:=p) (pos:=pos) (Qv Ob SE.wt hc) hg hm (by decide +kernel) (nH (Cp (p:=p2) (pos:=o3) (iG Ob (0:Int) hc) yi yg (by decide +kernel) (nH pt oX hs) (by decide) (by decide) hs rfl) oX lA) (by decide) (by decide) lA rfl
 have P2:=uq (p:=p) (pos:=pos) (Qv Oe SE.wq hc) hg hm (by decide +kernel) (nH (Cp (p:=p2) (pos:=o3) (iG Oe ("":Str) hc) yi yg (by decide +kernel) (nH pt oX hs) (by decide) (by decide) hs rfl) oX lA) (by decide) (by decide) lA rfl
 refine ⟨_,NN P1 P2,λO B σ H env s Q R e q=>?_⟩
 obtain ⟨r,e1,e2⟩:=bind_some e
 cases hd:r.d with
 | lst b ds =>
  rw [hd] at e2
  obtain ⟨rs,e3,rfl⟩:=map_some (show (sset ds).map Sl.ow=some s from e2)
  unfold sset at e3
  split at e3
  .rename_i ns e4
   obtain ⟨Ht,rfl⟩:=lI e3
   refine .inl (k O B σ H env r _ R e1 λv H1 s1 r1=>?_)
   have hi:=r1.is λq=>R.oo
   rw [hd] at hi
   have HH:=CC e4
   subst HH
   obtain ⟨a,xs,rfl,h2,h3⟩:=hi.seq (k:=true) rfl
   have ex:=Cm h3
   subst ex
   refine ⟨a,ns,rfl,h2,Ht,λc ks nd mem hc=>⟨c,ks,rfl,nI,nd,λms d pm qX hd=>?_⟩⟩
   have nV:ms=SE.qh SE.ltI ns:=SE.pG SE.jm qX (SE.kT SE.jm ns) λz=>by rw [pm.mem_iff,mem,SE.kS SE.jm]
   have uZ:H1 d=none:=by
    by_cases z:d=c
    .rw [z,nI] at hd;cases hd
    .rwa [dM z] at hd
   rw [<-nV] at q
   refine q _ _ ((s1.trans (oC hc _)).trans (oC hd _)) ((y8 hd ?_).from (s1.trans (oC hc _)))
   exact N9 _
  .rename_i e4
   obtain ⟨ss,e5,e6⟩:=bind_some e3
   obtain ⟨Ht,rfl⟩:=lI e6
   refine .inr (k O B σ H env r _ R e1 λv H1 s1 r1=>?_)
   have hi:=r1.is λq=>R.oo
   rw [hd] at hi
   have HH:=Qt e5
   subst HH
   obtain ⟨a,xs,rfl,h2,h3⟩:=hi.seq (k:=true) rfl
   have ex:=PU h3
   subst ex
   refine ⟨a,ss,rfl,h2,Ht,λc ks nd mem hc=>⟨c,ks,rfl,nI,nd,λms d pm qX hd=>?_⟩⟩
   have nV:ms=SE.qh SE.wA ss:=SE.pG SE.mR qX (SE.kT SE.mR ss) λz=>by rw [pm.mem_iff,mem,SE.kS SE.mR]
   rw [<-nV] at q
   refine q _ _ ((s1.trans (oC hc _)).trans (oC hd _)) ((y8 hd ?_).from (s1.trans (oC hc _)))
   exact Oa _
 | _=>rw [hd] at e2;cases e2
end
end DL
namespace DL
open PySem L2
def Gn(d:D)(Q:Sl->Prop):Prop:=match d with
 | .lst _ ds=>Wo (sset ds) λrs=>Q (.ow rs)
 | _=>False
theorem NY{r:Bool}{ds:List D}{Q:Sl->Prop}:Gn (.lst r ds) Q↔Wo (sset ds) λrs=>Q (.ow rs):=e8
theorem Pm{f:En->Option Sl}{env:En}{Q:Sl->Prop}:Wo (B5 f env) Q↔Wo (f env) λr=>Gn r.d Q:=by
 unfold B5
 rw [a0i]
 refine kL λr=>?_
 cases r.d<;>simp [Gn,Wo_none,a1m]
theorem Zj(ns:List Int)(h:ns.length+1<4096):∃ms:List Int,sset (ns.map D.int)=some (ms.map D.int)/\ms.Pairwise (·<·)/\(∀x,x∈ms↔x∈ns):=by
 refine ⟨SE.qh SE.ltI ns,?_,(SE.kT SE.jm ns).imp λ{a b} z=>by simpa [SE.ltI] using z,λx=>SE.kS SE.jm x ns⟩
 unfold sset
 rw [Ko]
 dsimp only
 rw [if_pos h]
end DL
namespace DL
open PySem PySem.Spec PyProof.Rows L2
mutual
noncomputable def qY:D->Bool
 | .tup ds=>EO ds
 | .lst _ _=>false
 | .exc _=>false
 | .jv _ _=>false
 | .obj _ _ _=>false
 | .dq _ _=>false
 | .bz=>true
 | .bl _=>true
 | .int _=>true
 | .str _=>true
noncomputable def EO:List D->Bool
 | []=>true
 | d::r=>qY d&&EO r
end
section
variable {K:aK}{O O':Addr->Prop}{H:Hp}{p:Addr}{ys:List V}
theorem z8(hp:H p=some (.lst ys))(h:Rd H q (.tup xs)):q≠p:=λz=>by
 subst z
 rcases h with h | ⟨o,h⟩
 .rw [hp] at h;cases h
 .rw [hp] at h;cases h
mutual
theorem Wa(hp:H p=some (.lst ys))(hO:∀q,O q->O' q\/q=p):∀{v:V} {d:D},Is K O' H v d->qY d=true->Is K O H v d
 | _,_,.bz,_=>.bz
 | _,_,.bl b,_=>.bl b
 | _,_,.int i,_=>.int i
 | _,_,.str x,_=>.str x
 | _,_,.tup ho h1 hs,f=>.tup (λz=>(hO _ z).elim ho (z8 hp h1)) h1 (Kb hp hO hs (by simpa [qY] using f))
 | _,_,.nP h1 hs,f=>.nP h1 (Kb hp hO hs (by simpa [qY] using f))
 | _,_,.lst _ _ _,f=>by simp [qY] at f
 | _,_,.nM _ _ _,f=>by simp [qY] at f
 | _,_,.nQ _ _,f=>by simp [qY] at f
 | _,_,.exc _ _ _,f=>by simp [qY] at f
 | _,_,.jv _ _,f=>by simp [qY] at f
 | _,_,.obj _ _ _ _ _,f=>by simp [qY] at f
 | _,_,.dq _ _ _ _,f=>by simp [qY] at f
 | _,_,.rS _ _,f=>by simp [qY] at f
theorem Kb(hp:H p=some (.lst ys))(hO:∀q,O q->O' q\/q=p):∀{v:List V} {d:List D},aZ K O' H v d->EO d=true->aZ K O H v d
 | _,_,.nil,_=>.nil
 | _,_,.cons h t,f=>by
  simp only [EO,ub] at f
  exact .cons (Wa hp hO h f.1) (Kb hp hO t f.2)
end
end
end DL
namespace DL
open PySem PySem.Spec PyProof.Rows L2
theorem Pj{K:aK}{O:Addr->Prop}{H:Hp}{f:Str}{d:D}:∀{ns:List Str} {vs:List V} {ds:List D},aZ K O H vs ds->(ns.zip ds).lookup f=some d->∃v,(ns.zip vs).lookup f=some v/\Is K O H v d
 | [],_,_,_,e=>by cases e
 | n::ns,_,_,.nil,e=>by cases e
 | n::ns,_,_,.cons h t,e=>by
  rw [yM,og] at e ⊢
  by_cases z:(f==n)=true
  .rw [z] at e ⊢
   cases e
   exact ⟨_,rfl,h⟩
  .rw [DT] at z
   rw [z] at e ⊢
   exact Pj t e
theorem Pk{m:Str}:∀{ns:List Str} {vs:List V},m∉ns->(ns.zip vs).lookup m=none
 | [],_,_=>rfl
 | n::ns,[],_=>rfl
 | n::ns,v::vs,h=>by
  rw [yM,og]
  have:(m==n)=false:=by
   rw [beq_eq_false_iff_ne]
   exact λe=>h (by rw [e];exact jz)
  rw [this]
  exact Pk λz=>h (gE _ z)
theorem O7{f:Str}{y:V}:∀{ns:List Str} {us:List V},f∉ns->ns.length=us.length->dW f y (ns.zip us)=(ns++[f]).zip (us++[y])
 | [],[],_,_=>rfl
 | [],_::_,_,h=>by cases h
 | _::_,[],_,h=>by cases h
 | n::ns,u::us,h,hl=>by
  show (if n=f then _ else (n,u)::dW f y (ns.zip us))=(n,u)::(ns++[f]).zip (us++[y])
  rw [if_neg (λe=>h (by rw [e];exact jz)),O7 (λz=>h (gE _ z)) (by simpa using hl)]
theorem NT{α:Type}{c:Prop}[Decidable c]{x:Option α}{y:α}(h:(if c then x else none)=some y):c/\x=some y:=by
 by_cases hc:c
 .rw [if_pos hc] at h;exact ⟨hc,h⟩
 .rw [if_neg hc] at h;cases h
theorem X7{σ:L2.St}{env:En}{x:Option V}{q:Addr}(h:mM (x::σ) (.no::env) q):mM σ env q:=by
 obtain ⟨i,s,e1,o,e2⟩:=h
 cases i with
 | zero=>cases e1;exact o.elim
 | succ i=>exact ⟨i,s,by simpa using e1,o,by simpa using e2⟩
theorem Yh{K:aK}{O:Addr->Prop}{B H:Hp}{σ:L2.St}{env:En}(x:Option V)(R:Rel K O B σ H env):Rel K O B (x::σ) H (.no::env):=by
 have oo:∀q,OO O (x::σ) (.no::env) q->OO O σ env q:=λq z=>z.elim .inl λz=>.inr (X7 z)
 refine ⟨R.same,R.qM,by simp [R.len],λi d e=>?_,λi ds e=>?_,λi ks e=>?_,λi ks ds e=>?_,λi j ds es p e1 e2 e3 e4 o1 o2=>?_⟩
 .cases i with
  | zero=>cases e
  | succ i=>obtain ⟨v,f1,f2⟩:=R.sh i d (by simpa using e);exact ⟨v,by simpa using f1,f2.less oo⟩
 .cases i with
  | zero=>cases e
  | succ i=>obtain ⟨p,xs,f1,f2,f3,f4⟩:=R.ow i ds (by simpa using e);exact ⟨p,xs,by simpa using f1,f2,f3,f4.less oo⟩
 .cases i with
  | zero=>cases e
  | succ i=>obtain ⟨p,f1,f2,f3⟩:=R.dw i ks (by simpa using e);exact ⟨p,by simpa using f1,f2,f3⟩
 .cases i with
  | zero=>cases e
  | succ i=>obtain ⟨p,xs,f1,f2,f3,f4,f5⟩:=R.tw i ks ds (by simpa using e);exact ⟨p,xs,by simpa using f1,f2,f3,f4,f5.less oo⟩
 .cases i with
  | zero=>cases e1;exact o1.elim
  | succ i =>
   cases j with
   | zero=>cases e2;exact o2.elim
   | succ j=>rw [R.sep i j ds es p (by simpa using e1) (by simpa using e2) (by simpa using e3) (by simpa using e4) o1 o2]
def qF(K:aK)(c:Str)(P:Addr->Prop):Prop:=∀C,iX K mainGlobals c=some (some (.ref C))->qe K C/\P C
noncomputable def fV(cs:List Str)(f:Str):D->Option D
 | .obj c ns ds=>if c∈cs then (ns.zip ds).lookup f else none
 | _=>none
noncomputable def dI(cs:List Str)(f:Str)(fo:En->Option Sl):En->Option Sl:=λenv=>(fo env).bind λr=>(fV cs f r.d).map Sl.sh
section
variable {X:Cx}{e o:Expr}{es:List Expr}{f m:Str}{pos apos p:Pos}{fo:En->Option Sl}{fs:En->Option (List D)}{cs:List Str}
theorem oW(ho:EV X o fo)(hc:∀c∈cs,qF X.K c λC=>au X.K C f)(hb:attributeBase o f X.env (eval o X.env)=eval o X.env:=by rfl):EV X (.Attribute o f pos) (dI cs f fo):=by
 obtain ⟨t,pt,k⟩:=ho
 refine ⟨_,Vi pt hb,λO B σ H env s Q R e q=>?_⟩
 obtain ⟨r,e1,e2⟩:=bind_some e
 obtain ⟨d,e3,rfl⟩:=map_some e2
 refine k O B σ H env r _ R e1 λv H1 s1 r1=>?_
 have hi:=r1.is λq=>R.oo
 cases hd:r.d with
 | obj c ns ds =>
  rw [hd] at hi e3
  obtain ⟨hm,e4⟩:=NT (show (if c∈cs then (ns.zip ds).lookup f else none)=some d from e3)
  cases hi with
  | obj ho hn hp hl hs =>
   obtain ⟨u,hu,iu⟩:=Pj hs e4
   obtain ⟨c1,c2⟩:=hc c hm _ hn
   exact ⟨_,_,_,_,u,rfl,hp,c1,c2,hu,q u H1 s1 iu⟩
 | _=>rw [hd] at e3;cases e3
noncomputable def JM(X:Cx)(m:Str)(j:Nat)(ta:TE)(t:TA):TE:=λσ H Q=>ta σ H λx H1=>∃a C dx fs f fd ps sp,x=.ref a/\H1 a=some (.ins C dx fs)/\qe X.K C/\bL X.K C m f/\fs.lookup m=none/\Binds X.K fd ps []/\cn X.prog X.w X.K X.mg X.base lK j f fd ps sp /\
 t σ H1 λvs H2=>sp (x::vs) H2 Q E0
theorem Ya{pl:Sem Bool}{j:Nat}{ta:TE}{t:TA}(he:PE X o ta)(hr:bY j X.A)(ha:PA X (e::es) t)
  (sy:starEach (e::es) X.env=(false,eval e X.env)::starEach es X.env:=by rfl)(eU:(backTo pos (starEach es X.env)).any (·.1)=false:=by rfl)
  (ht:eval (.Call (.Attribute o m apos) (e::es) [] pos) X.env=(eval o X.env >>= λov=>standAt apos.atName >>= λ_=>holding [ov] (getMethod ov m pl) >>= λz=>callWith pos z.1 z.2 (backTo pos (starEach (e::es) X.env)) (backToKw pos (keywordEach [] X.env))):=by rfl):
  PE X (.Call (.Attribute o m apos) (e::es) [] pos) (JM X m j ta t):=by
 intro pins s σ H Q I h
 refine MZ (pl:=pl) (bQ (he pins s σ H _ I h) λu s1 ⟨x,H1,I1,rx,a,C,dx,fs,f,fd,ps,sp,ex,ea,c,hm,l,hb,F,q⟩=>?_) ht
 subst ex
 obtain rfl:u=cK a:=rx
 refine Qm I1 ea c hm l (IZ (first:=[.ref a]) (h₀:=X.base) I.ok.mod.AF hm.kp (bQ (ha pos pins s1 σ H1 _ I1 q) λus s2 ⟨vs,H2,I2,r,q2⟩=>⟨I2.j9,?_⟩) sy eU)
 exact JJ (us:=.ref a::us) (vs:=.ref a::vs) (dvs:=[]) (E:=E0) F hr hb .nil EC I2 (.cons rfl r) (by rw [rY];exact q2)
theorem Zp{pl:Sem Bool}{j:Nat}{ta:TE}(he:PE X o ta)(hr:bY j X.A)
  (ht:eval (.Call (.Attribute o m apos) [] [] pos) X.env=(eval o X.env >>= λov=>standAt apos.atName >>= λ_=>holding [ov] (getMethod ov m pl) >>= λz=>callWith pos z.1 z.2 (backTo pos (starEach [] X.env)) (backToKw pos (keywordEach [] X.env))):=by rfl):
  PE X (.Call (.Attribute o m apos) [] [] pos) (JM X m j ta zB):=by
 intro pins s σ H Q I h
 refine MZ (pl:=pl) (bQ (he pins s σ H _ I h) λu s1 ⟨x,H1,I1,rx,a,C,dx,fs,f,fd,ps,sp,ex,ea,c,hm,l,hb,F,q⟩=>?_) ht
 subst ex
 obtain rfl:u=cK a:=rx
 exact Qm I1 ea c hm l (PySem.W.callWith_K0 (first:=[.ref a]) I1.j9 hm.kp (JJ (us:=[.ref a]) (vs:=[.ref a]) (dvs:=[]) (E:=E0) F hr hb .nil EC I1 (.cons rfl .nil) q))
noncomputable abbrev fq:=List (Str×(List D->Option Sl))
def MT(X:Cx)(m:Str)(n j:Nat)(tab:fq):Prop:=∀c φ,tab.lookup c=some φ->qF X.K c λC=>∃f fd ps,bL X.K C m f/\ps.length=n/\Binds X.K fd ps []/\cn X.prog X.w X.K X.mg X.base lK j f fd ps (rp X.K n φ)
noncomputable def sW(m:Str)(n:Nat)(tab:fq)(d:D)(as:List D):Option Sl:=match d with
 | .obj c ns ds=>if m∈ns\/as.length+1≠n then none else (tab.lookup c).bind λφ=>φ (.obj c ns ds::as)
 | _=>none
noncomputable def oq(m:Str)(n:Nat)(tab:fq)(fo:En->Option Sl)(fa:En->Option (List D)):En->Option Sl:=λenv=>(fo env).bind λr=>(fa env).bind λas=>sW m n tab r.d as
theorem Qg{t:TE}{u:TA}{n j:Nat}{tab:fq}(T:MT X m n j tab)
  (k:∀(O:Addr->Prop) (B:Hp) (σ:L2.St) (H:Hp) (env:En) (r:Sl) (Q:VK),Rel X.K O B σ H env->fo env=some r->(∀v H',aH H H'->Res X.K (OO O σ env) H H' v r->Q v H')->t σ H Q)
  (ka:∀(O:Addr->Prop) (B:Hp) (σ:L2.St) (H:Hp) (env:En) (ds:List D) (Q:List V->Hp->Prop),Rel X.K O B σ H env->fs env=some ds->(∀vs H',aH H H'->aZ X.K (OO O σ env) H' vs ds->Q vs H')->u σ H Q)
  (O:Addr->Prop)(B:Hp)(σ:L2.St)(H:Hp)(env:En)(s:Sl)(Q:VK)(R:Rel X.K O B σ H env)(e:oq m n tab fo fs env=some s)(q:∀v H',aH H H'->Res X.K (OO O σ env) H H' v s->Q v H'):JM X m j t u σ H Q:=by
 obtain ⟨r,e1,e2⟩:=bind_some e
 obtain ⟨as,e3,e4⟩:=bind_some e2
 refine k O B σ H env r _ R e1 λv H1 s1 r1=>?_
 have hi:=r1.is λq=>R.oo
 cases hd:r.d with
 | obj c ns ds =>
  rw [hd] at hi e4
  unfold sW at e4
  dsimp only at e4
  split at e4
  .cases e4
  .rename_i uV
   rw [not_or] at uV
   obtain ⟨φ,e5,e6⟩:=bind_some e4
   have sA:=hi
   cases hi with
   | obj ho hn hp hl hs =>
    obtain ⟨c1,f,fd,ps,c2,c3,c4,c5⟩:=T c φ e5 _ hn
    refine ⟨_,_,_,_,f,fd,ps,_,rfl,hp,c1,c2,Pk uV.1,c4,c5,?_⟩
    refine ka O B σ H1 env as _ (R.grow s1) e3 λvs H2 s2 r2=>?_
    have nl:as.length+1=n:=Nm.mp uV.2
    exact ⟨OO O σ env,_,s,((R.grow s1).grow s2).dm,.cons (sA.grow s2) r2,by rw [ff,r2.length];exact nl,e6,λv H3 s3 r3=>q v H3 ((s1.trans s2).trans s3) (r3.from (s1.trans s2))⟩
 | _=>rw [hd] at e4;cases e4
theorem WB{n j:Nat}{tab:fq}{pl:Sem Bool}(ho:EV X o fo)(ha:AV X (e::es) fs)(hr:bY j X.A)(T:MT X m n j tab)
  (sy:starEach (e::es) X.env=(false,eval e X.env)::starEach es X.env:=by rfl)(eU:(backTo pos (starEach es X.env)).any (·.1)=false:=by rfl)
  (ht:eval (.Call (.Attribute o m apos) (e::es) [] pos) X.env=(eval o X.env >>= λov=>standAt apos.atName >>= λ_=>holding [ov] (getMethod ov m pl) >>= λz=>callWith pos z.1 z.2 (backTo pos (starEach (e::es) X.env)) (backToKw pos (keywordEach [] X.env))):=by rfl):
  EV X (.Call (.Attribute o m apos) (e::es) [] pos) (oq m n tab fo fs):=by
 obtain ⟨t,pt,k⟩:=ho
 obtain ⟨u,pu,ka⟩:=ha
 exact ⟨_,Ya pt hr pu sy eU ht,λO B σ H env s Q R e q=>Qg T k ka O B σ H env s Q R e q⟩
theorem Xx{n j:Nat}{tab:fq}{pl:Sem Bool}(ho:EV X o fo)(hr:bY j X.A)(T:MT X m n j tab)
  (ht:eval (.Call (.Attribute o m apos) [] [] pos) X.env=(eval o X.env >>= λov=>standAt apos.atName >>= λ_=>holding [ov] (getMethod ov m pl) >>= λz=>callWith pos z.1 z.2 (backTo pos (starEach [] X.env)) (backToKw pos (keywordEach [] X.env))):=by rfl):
  EV X (.Call (.Attribute o m apos) [] [] pos) (oq m n tab fo af):=by
 obtain ⟨t,pt,k⟩:=ho
 refine ⟨_,Zp pt hr ht,λO B σ H env s Q R e q=>Qg T k (λO B σ H env ds Q R e q=>?_) O B σ H env s Q R e q⟩
 obtain rfl:=dC (show some []=some ds from e)
 exact q [] H (aH.refl _) .nil
noncomputable def Gi(K:aK)(C:Addr)(n:Nat)(ns:List Str)(ψ:List D->Option (List D)):Sp:=λvs H Q _=>∃(O:Addr->Prop) (p dx:Addr) (ws:List V) (ds fs:List D),vs=.ref p::ws/\ws.length=n/\H p=some (.ins C dx [])/\vT K O H/\O p/\aZ K O H ws ds/\ψ ds=some fs /\
 ∀(us:List V) (H':Hp),ns.length=us.length->(∀q u,H q=some u->q≠p->H' q=some u)->H' p=some (.ins C dx (ns.zip us))->aZ K O H' us fs->Q .bz H'
noncomputable def sG(c:Str)(n:Nat)(ns:List Str)(ψ:List D->Option (List D))(fa:En->Option (List D)):En->Option Sl:=λenv=>(fa env).bind λas=>if as.length=n then (ψ as).map λds=>Sl.sh (.obj c ns ds) else none
theorem Bm{c:Str}{C f:Addr}{fd:FuncData}{ps:List Str}{n j:Nat}{ns:List Str}{ψ:List D->Option (List D)}(M:Mk X.K C f)(F:cn X.prog X.w X.K X.mg X.base lK j f fd ps (Gi X.K C n ns ψ))(hr:bY (j+1) X.A)(hg:Gl X c)(hm:X.mg c=some (.ref C))(hn:iX X.K mainGlobals c=some (some (.ref C)))(hb:Binds X.K fd ps [])
  (ha:AV X (e::es) fs)(nX:(c==("__debug__":Str))=false:=by decide)(he:starEach (e::es) X.env=(false,eval e X.env)::starEach es X.env:=by rfl)(eU:(backTo pos (starEach es X.env)).any (·.1)=false:=by rfl):
  EV X (.Call (.Name c p) (e::es) [] pos) (sG c n ns ψ fs):=by
 obtain ⟨t,pt,ka⟩:=ha
 refine ⟨_,Xg M F hr hg hm hb .nil (EC (X:=X)) pt nX he eU,λO B σ H env r Q R e q=>?_⟩
 obtain ⟨as,e1,e2⟩:=bind_some e
 obtain ⟨hl,e3⟩:=NT e2
 obtain ⟨gs,e4,rfl⟩:=map_some e3
 refine ka O B σ H env as _ R e1 λvs H1 s1 r1=>?_
 intro x dx nx SK ne
 have nO:¬OO O σ env x:=λz=>(R.grow s1).oo z nx
 have up1:∀q u,H1 q=some u->upd (upd H1 dx (.own x)) x (.ins C dx []) q=some u:=λq u e=>by rw [dM (q8 e nx),dM (q8 e SK)];exact e
 refine ⟨λq=>OO O σ env q\/q=x,x,dx,vs,as,gs,by rw [rY],by rw [r1.length];exact hl,nI,⟨λq hq=>?_,(R.grow s1).dm.2.grow λq u e=>up1 q u e⟩,.inr rfl,r1.map (λq hq hn z=>z.elim hn λe=>hq (by rw [e];exact nx)) λq u e _=>up1 q u e,e4,λus H' A0 kp hp hs=>⟨rfl,?_⟩⟩
 .rcases hq with hq | rfl
  .cases hz:H1 q with
   | none=>exact absurd hz ((R.grow s1).oo hq)
   | some u=>rw [up1 q u hz];exact λz=>nomatch z
  .rw [nI];exact λz=>nomatch z
 .have sm:aH H1 H':=λq u e=>kp q u (up1 q u e) (q8 e nx)
  exact q _ H' (s1.trans sm) (Is.obj nO hn hp A0 (hs.less λq z=>.inl z))
def xV(X:Cx)(v5:List Stmt)(C:Addr)(F:En->List Str->List D->Option (List Str×List D)):Prop:=
 ∃t:TS,qb X v5 t/\∀(O:Addr->Prop) (σ:L2.St) (H:Hp) (env:En) (p dx:Addr) (ns:List Str) (us:List V) (ds:List D) (qH:List Str) (ds':List D) (Dn:Ends),Rel X.K O H σ H env->(∀(i:Nat) s,env[i]?=some s->¬s.own)->O p->σ[0]?=some (some (V.ref p))->H p=some (.ins C dx (ns.zip us))->ns.length=us.length->aZ X.K O H us ds->F env ns ds=some (qH,ds') ->
  (∀(H':Hp) (vY:List V),(∀q u,H q=some u->q≠p->H' q=some u)->H' p=some (.ins C dx (qH.zip vY))->qH.length=vY.length->aZ X.K O H' vY ds'->Dn.nx σ H')->t Dn σ H
noncomputable def nU:En->List Str->List D->Option (List Str×List D):=λ_ ns ds=>some (ns,ds)
noncomputable def eT(f:Str)(fe:En->Option Sl)(F:En->List Str->List D->Option (List Str×List D)):En->List Str->List D->Option (List Str×List D):=λenv ns ds=>(fe env).bind λr=>if f∈ns\/900<ns.length then none else F env (ns++[f]) (ds++[r.d])
theorem yY{C:Addr}:xV X [] C nU:=⟨_,O6,λO σ H env p dx ns us ds qH ds' Dn R no op hs hp hl hi e q=>by
 cases (show some (ns,ds)=some (qH,ds') from e)
 exact q H us (λ_ _ e _=>e) hp hl hi⟩
theorem VI{C:Addr}{fe:En->Option Sl}{F:En->List Str->List D->Option (List Str×List D)}{v5:List Stmt}{x:Str}{p1 pos':Pos}(hv:EV X e fe)(hr:xV X v5 C F)(c:qe X.K C)(n:au X.K C f)
  (hN:X.N[0]?=some x)(wG:jK X.env.scope x)(hd:(x==("__debug__":Str))=false:=by rfl)(cO:(x==("__classdict__":Str))=false:=by rfl)
  (hs:swapsWith e (some (.Attribute (.Name x p1) f pos')) pos.line X.env=pure false:=by rfl):xV X (.Assign [.Attribute (.Name x p1) f pos'] e pos::v5) C (eT f fe F):=by
 obtain ⟨t,pt,k⟩:=hv
 obtain ⟨u,pu,ku⟩:=hr
 refine ⟨_,O8 (Vt (sX hN wG hd cO) pt hs) pu,λO σ H env p dx ns us ds qH ds' Dn R no op hs hp hl hi e q=>?_⟩
 obtain ⟨r,e1,e2⟩:=bind_some e
 split at e2
 .cases e2
 rename_i uV
 rw [not_or] at uV
 have o5:∀q,mM σ env q->False:=λq ⟨i,s,h1,h2,_⟩=>no i s h1 h2
 refine k O H σ H env r _ R e1 λv H1 s1 r1=>?_
 have iv:=(r1.is λq=>R.oo).less (O':=O) λq z=>.inl z
 refine ⟨.ref p,hs,p,C,dx,ns.zip us,rfl,s1 _ _ hp,c,n,by rw [List.length_zip];omega,?_⟩
 rw [O7 uV.1 hl]
 have kp:∀q u,H1 q=some u->q≠p->upd H1 p (.ins C dx ((ns++[f]).zip (us++[v]))) q=some u:=λq u e ne=>by rw [dM ne];exact e
 have mp:∀{w:V} {d:D},Is X.K O H1 w d->Is X.K O (upd H1 p (.ins C dx ((ns++[f]).zip (us++[v])))) w d:=λh=>h.map (λ_ _ z=>z) λq u e nq=>kp q u e λz=>nq (by rw [z];exact op)
 have SN:∀{w:List V} {d:List D},aZ X.K O H1 w d->aZ X.K O (upd H1 p (.ins C dx ((ns++[f]).zip (us++[v])))) w d:=λh=>h.map (λ_ _ z=>z) λq u e nq=>kp q u e λz=>nq (by rw [z];exact op)
 refine ku O σ _ env p dx (ns++[f]) (us++[v]) (ds++[r.d]) qH ds' Dn ⟨aH.refl _,⟨λq hq=>?_,λc' P e'=>?_⟩,R.len,λi d e=>?_,λi es e=>(no i _ e trivial).elim,λi es e=>(no i _ e trivial).elim,λi ks es e=>(no i _ e trivial).elim,λi j es fs q e1 _ _ _ o _=>(no i _ e1 o).elim⟩ no op hs nI (by rw [da,da,hl];rfl) ((SN (hi.grow s1)).append (.cons (mp iv) .nil)) e2 λH' vY kq wK A0 sA=>q H' vY (λq u e ne=>kq q u (kp q u (s1 _ _ e) ne) ne) wK A0 sA
 .by_cases z:q=p
  .rw [z,nI];exact λz=>nomatch z
  .rw [dM z]
   cases hz:H q with
   | none=>exact absurd hz (R.qM.1 q hq)
   | some u=>rw [s1 _ _ hz];exact λz=>nomatch z
 .have e3:=R.qM.2 c' P e'
  exact kp _ _ (s1 _ _ e3) λz=>by rw [z,hp] at e3;cases e3
 .obtain ⟨w,f1,f2⟩:=R.sh i d e
  refine ⟨w,f1,(mp ((f2.grow s1).less λq z=>.inl z)).less λq z=>z.elim id λz=>(o5 q z).elim⟩
end
section
variable {P:Program}{w:World}{K:aK}{mg:Str->Option Value}{base:Heap}
noncomputable def lq(F:En->List Str->List D->Option (List Str×List D))(N:Nat)(ns:List Str)(ds:List D):Option (List D):=match F (.no::oB (N-1) ds) [] [] with
 | some (qH,fs)=>if qH=ns then some fs else none
 | none=>none
theorem WI{qual:Str}{st:Stmt}{f C:Addr}{fd:FuncData}{N ps:List Str}{k n:Nat}{ns:List Str}{F:En->List Str->List D->Option (List Str×List D)}(Fn:tj K "__init__" qual st f fd)(S:cE N ps (dS st))(AS:ps.length=n+1)(hN:1<=N.length)
  (cG:∀X:Cx,X.prog=P->X.w=w->X.K=K->X.mg=mg->X.base=base->Fx X N (dS st) k->xV X (jD st) C F):cn P w K mg base lK (k+1) f fd ps (Gi K C n ns (lq F N.length ns)):=by
 refine Fn.ok S (λvs H Q E h=>?_) (λdg A outer s H vs Q E hr h=>?_)
 .obtain ⟨O,p,dx,ws,ds,fs,rfl,hl,_⟩:=h
  rw [ff,hl,AS]
 obtain ⟨O,p,dx,ws,ds,fs,rfl,hl,hp,dm,op,hi,e,q⟩:=h
 obtain ⟨t,pt,kk⟩:=cG (n5 lK P w K mg base N qual (dS st) f dg A outer s H E).j0 rfl rfl rfl rfl rfl ⟨rfl,rfl,rfl,λ_ _=>rfl,DP,hr,S.nd,λ_=>⟨rfl,rfl,rfl⟩⟩
 refine ⟨t,pt,?_⟩
 have R0:=PZ (N:=N.tail) dm hi
 have R1:=Yh (some (V.ref p)) R0
 have es:some (V.ref p)::start N.tail ws=start N (V.ref p::ws):=by
  unfold L2.start
  rw [e9,xy,List.length_tail,ff,Nat.sub_sub,Nat.add_comm 1]
 rw [es,List.length_tail] at R1
 unfold lq at e
 cases hF:F (.no::oB (N.length-1) ds) [] [] with
 | none=>rw [hF] at e;cases e
 | some y =>
  obtain ⟨qH,yp⟩:=y
  rw [hF] at e
  obtain ⟨rfl,rfl⟩:=lI (show (if qH=ns then some yp else none)=some fs from e)
  refine kk O _ H _ p dx [] [] [] qH yp _ R1 (λi s h1 h2=>?_) op rfl hp rfl .nil hF λH' vY kp wK A0 sA=>q vY H' A0 kp wK sA
  cases i with
  | zero=>cases h1;exact h2
  | succ i =>
   have h1:(oB (N.length-1) ds)[i]?=some s:=by simpa using h1
   unfold oB at h1
   rw [IF] at h1
   split at h1
   .rw [qR] at h1
    obtain ⟨d,_,e⟩:=map_some h1
    cases e
    exact h2
   .rw [BY] at h1
    split at h1
    .cases h1;exact h2
    .cases h1
end
end DL
namespace DL
open PySem PySem.Spec PyProof.Rows L2
structure kR(K:aK)(c:Str)(C:Addr):Prop where
 a:iX K mainGlobals c=some (some (.ref C))
 c:qe K C
theorem kR.n{K:aK}{c:Str}{C:Addr}{P:Addr->Prop}(h:kR K c C)(p:P C):qF K c P:=λC' e=>by
 rw [h.a] at e
 cases e
 exact ⟨h.c,p⟩
def FL(K:aK)(f:Str)(cs:List Str):Prop:=∀c∈cs,qF K c λC=>au K C f
theorem vJ{K:aK}{f:Str}:FL K f []:=λ_ h=>nomatch h
theorem cS{K:aK}{f c:Str}{C:Addr}{cs:List Str}(h:kR K c C)(n:au K C f)(T:FL K f cs):FL K f (c::cs):=λc' hc=>by
 rcases bG.mp hc with rfl | hc
 .exact h.n n
 .exact T c' hc
structure df(K:aK)(f:Addr)(x qual:Str)(st:Stmt)(ps:List Str)(fd:FuncData):Prop where
 fn:tj K x qual st f fd
 bd:Binds K fd ps []
def Om(P:Program)(w:World)(K:aK)(mg:Str->Option Value)(base:Heap)(f:Addr)(x qual:Str)(st:Stmt)(ps:List Str)(j:Nat)(φ:List D->Option Sl):Prop:=∃fd,df K f x qual st ps fd/\cn P w K mg base lK j f fd ps (rp K ps.length φ)
theorem qZ{P:Program}{w:World}{K:aK}{mg:Str->Option Value}{base:Heap}{x qual:Str}{st:Stmt}{f:Addr}{fd:FuncData}{N ps:List Str}{k:Nat}{F:SF}(D':df K f x qual st ps fd)
  (cG:∀X:Cx,Sx X P w K mg base->Fx X N (dS st) k->oJ X (jD st) F)(S:cE N ps (dS st):=by exact ⟨rfl,rfl,rfl,by decide +kernel,rfl,by decide +kernel,by decide +kernel⟩):Om P w K mg base f x qual st ps (k+1) (bK F N.length):=
 ⟨fd,D',Bi D'.fn S λX e1 e2 e3 e4 e5=>by subst e1 e2 e3 e4 e5;exact cG X (.mk X)⟩
def oN(P:Program)(w:World)(K:aK)(mg:Str->Option Value)(base:Heap)(m:Str)(n j:Nat)(tab:fq):Prop:=∀c φ,tab.lookup c=some φ->qF K c λC=>∃f fd ps,bL K C m f/\ps.length=n/\Binds K fd ps []/\cn P w K mg base lK j f fd ps (rp K n φ)
section
variable {P:Program}{w:World}{K:aK}{mg:Str->Option Value}{base:Heap}{m c:Str}{n j:Nat}{tab:fq}
theorem vK:oN P w K mg base m n j []:=λc φ e=>nomatch e
theorem eh{C f:Addr}{x qual:Str}{st:Stmt}{ps:List Str}{i:Nat}{φ:List D->Option Sl}(h:kR K c C)(hm:bL K C m f)(O:Om P w K mg base f x qual st ps i φ)(T:oN P w K mg base m n j tab)(hj:i<=j:=by decide)(hl:ps.length=n:=by rfl):oN P w K mg base m n j ((c,φ)::tab):=λc' Q7 e=>by
 rw [og] at e
 by_cases z:(c'==c)=true
 .rw [z] at e
  cases e
  obtain rfl:c'=c:=by simpa using z
  obtain ⟨fd,D',F⟩:=O
  exact h.n ⟨f,fd,ps,hm,hl,D'.bd,by rw [<-hl];exact F.mono hj⟩
 .rw [DT] at z
  rw [z] at e
  exact T c' Q7 e
end
structure FM(K:aK)(n q:Str)(t:Stmt)(f:Addr)(od an:Option Addr)(sl:Array (Option Value))(oc kV dc pm cd ct:Value):Prop where
 l:K.lookup f=some ⟨oc,od,.func (mf n q (nA t) (jD t) (dS t) .none kV dc pm an cd ct),sl⟩
 c:BE K cd q=true
 k:p6 K (.ref f)=true
theorem nE{K:aK}{n q:Str}{t:Stmt}{f:Addr}{od an:Option Addr}{sl:Array (Option Value)}{oc kV dc pm cd ct:Value}{ps:List Str}(i:FM K n q t f od an sl oc kV dc pm cd ct)(hb:∀(kV doc pm:Value) (an:Option Addr) (dg ct:Value) (us:List Value),us.length=ps.length->bindArgs (mf n q (nA t) (jD t) (dS t) .none kV doc pm an dg ct) ⟨us,[]⟩=pure (ps.zip us)):
  df K f n q t ps (mf n q (nA t) (jD t) (dS t) .none kV dc pm an cd ct):=⟨ER i.l i.c i.k,(ER i.l i.c i.k).binds hb⟩
def qc(P:Program)(w:World)(K:aK)(mg:Str->Option Value)(base:Heap)(c:Str)(n:Nat)(ns:List Str)(j:Nat)(ψ:List D->Option (List D)):Prop:=∃C f fd ps,Mk K C f/\cn P w K mg base lK j f fd ps (Gi K C n ns ψ)/\mg c=some (.ref C)/\iX K mainGlobals c=some (some (.ref C))/\Binds K fd ps []
theorem yP{P:Program}{w:World}{K:aK}{mg:Str->Option Value}{base:Heap}{c qual:Str}{st:Stmt}{f C:Addr}{fd:FuncData}{N ps:List Str}{k n:Nat}{ns:List Str}{F:En->List Str->List D->Option (List Str×List D)}(h:kR K c C)(hm:mg c=some (.ref C))(M:Mk K C f)(D':df K f "__init__" qual st ps fd)
  (cG:∀X:Cx,Sx X P w K mg base->Fx X N (dS st) k->xV X (jD st) C F)(AS:ps.length=n+1:=by rfl)(hN:1<=N.length:=by decide)(S:cE N ps (dS st):=by exact ⟨rfl,rfl,rfl,by decide +kernel,rfl,by decide +kernel,by decide +kernel⟩):qc P w K mg base c n ns (k+1) (lq F N.length ns):=
 ⟨C,f,fd,ps,M,WI D'.fn S AS hN λX e1 e2 e3 e4 e5=>by subst e1 e2 e3 e4 e5;exact cG X (.mk X),hm,h.a,D'.bd⟩
section
variable {X:Cx}{N:List Str}{sc:Scope}{k j n:Nat}{full:Bool}{e o:Expr}{es:List Expr}{m c f:Str}{pos p apos pos' p1:Pos}{fo fe:En->Option Sl}{fs:En->Option (List D)}{tab:fq}
theorem Fx.mt(h:Fx X N sc k full)(T:oN X.prog X.w X.K X.mg X.base m n j tab)(ho:EV X o fo)(ha:AV X (e::es) fs)(hj:j<=k:=by decide){pl:Sem Bool}
  (sy:starEach (e::es) X.env=(false,eval e X.env)::starEach es X.env:=by rfl)(eU:(backTo pos (starEach es X.env)).any (·.1)=false:=by rfl)
  (ht:eval (.Call (.Attribute o m apos) (e::es) [] pos) X.env=(eval o X.env >>= λov=>standAt apos.atName >>= λ_=>holding [ov] (getMethod ov m pl) >>= λz=>callWith pos z.1 z.2 (backTo pos (starEach (e::es) X.env)) (backToKw pos (keywordEach [] X.env))):=by rfl):
  EV X (.Call (.Attribute o m apos) (e::es) [] pos) (oq m n tab fo fs):=WB (pl:=pl) ho ha (h.room.mono hj) T sy eU ht
theorem Fx.yd(h:Fx X N sc k full)(T:oN X.prog X.w X.K X.mg X.base m n j tab)(ho:EV X o fo)(hj:j<=k:=by decide){pl:Sem Bool}
  (ht:eval (.Call (.Attribute o m apos) [] [] pos) X.env=(eval o X.env >>= λov=>standAt apos.atName >>= λ_=>holding [ov] (getMethod ov m pl) >>= λz=>callWith pos z.1 z.2 (backTo pos (starEach [] X.env)) (backToKw pos (keywordEach [] X.env))):=by rfl):
  EV X (.Call (.Attribute o m apos) [] [] pos) (oq m n tab fo af):=Xx (pl:=pl) ho (h.room.mono hj) T ht
theorem Fx.ye{ns:List Str}{ψ:List D->Option (List D)}(h:Fx X N sc k full)(T:qc X.prog X.w X.K X.mg X.base c n ns j ψ)(ha:AV X (e::es) fs)(hj:j+1<=k:=by decide)(hg:sc.names.lookup c=some .globalImplicit:=by rfl)(nX:(c==("__debug__":Str))=false:=by rfl)
  (he:starEach (e::es) X.env=(false,eval e X.env)::starEach es X.env:=by rfl)(eU:(backTo pos (starEach es X.env)).any (·.1)=false:=by rfl):EV X (.Call (.Name c p) (e::es) [] pos) (sG c n ns ψ fs):=by
 obtain ⟨C,f,fd,ps,M,F,hm,hn,hb⟩:=T
 exact Bm M F (h.room.mono hj) (h.g hg) hm hn hb ha nX he eU
theorem Fx.j'{C:Addr}{v5:List Stmt}{F:En->List Str->List D->Option (List Str×List D)}{x:Str}(h:Fx X N sc k full)(c:qe X.K C)(n:au X.K C f)(hv:EV X e fe)(hr:xV X v5 C F)(hN:N[0]?=some x:=by rfl)(wG:jK sc x:=by first | exact cC rfl | exact bM (cC rfl) | exact bM (bM rfl))(hd:(x==("__debug__":Str))=false:=by rfl)(cO:(x==("__classdict__":Str))=false:=by rfl)
  (hs:swapsWith e (some (.Attribute (.Name x p1) f pos')) pos.line X.env=pure false:=by rfl):xV X (.Assign [.Attribute (.Name x p1) f pos'] e pos::v5) C (eT f fe F):=VI hv hr c n (h.ix hN) (h.rj wG) hd cO hs
end
structure uI(K:aK)(C R:Addr)(b:Bool):Prop where
 ha:bp K (.ref C) "__class__" = some (some (.builtin "object.__class__"))
 hn:Eg K (.builtin "object.__class__") "__get__" = some (some (.builtin "getset_descriptor.__get__"))
 ht:Ii K (.builtin "object.__class__")=some true
 hm:vf K C (.type "object")=some true
 k:vy K (.ref C) (.ref R)=some b
def IL(K:aK)(R:Addr)(tab:List (Str×Bool)):Prop:=∀c b,tab.lookup c=some b->qF K c λC=>uI K C R b
theorem VE{K:aK}{R:Addr}:IL K R []:=λ_ _ e=>nomatch e
theorem y7{K:aK}{c:Str}{C R:Addr}{b:Bool}{tab:List (Str×Bool)}(h:kR K c C)(i:uI K C R b)(T:IL K R tab):IL K R ((c,b)::tab):=λc' b' e=>by
 rw [og] at e
 by_cases z:(c'==c)=true
 .rw [z] at e
  cases e
  obtain rfl:c'=c:=by simpa using z
  exact h.n i
 .rw [DT] at z
  rw [z] at e
  exact T c' b' e
noncomputable def wF(tab:List (Str×Bool)):D->Option Sl
 | .obj c _ _=>(tab.lookup c).map λb=>.sh (.bl b)
 | _=>none
noncomputable def xc(tab:List (Str×Bool))(fo:En->Option Sl):En->Option Sl:=λenv=>(fo env).bind λr=>wF tab r.d
section
variable {X:Cx}{a:Expr}{p p2 pos:Pos}{fa:En->Option Sl}
theorem XJ{R:Addr}:cA X (.builtin "isinstance") (λxs H Q=>∃a C dx fs b,xs=[.ref a,.ref R]/\H a=some (.ins C dx fs)/\qe X.K C/\uI X.K C R b/\Q (.bl b) H):=by
 intro pins s σ H xs us Q I r h
 obtain ⟨a,C,dx,fs,b,rfl,ha,hc,hi,q⟩:=h
 obtain ⟨u,v,rfl,ru,rv⟩:=r.two
 cases ru;cases rv
 exact Yo (x:=.ref a) I rfl (jH.ins ha hc hi.ha hi.hn hi.ht hi.hm) hi.k λtk=>⟨.bl b,H,I.tok _,rfl,q⟩
theorem VY{x:Str}{R:Addr}{tab:List (Str×Bool)}(hg:Gl X "isinstance")(hm:X.mg "isinstance" = none)(yi:Gl X x)(yg:X.mg x=some (.ref R))(T:IL X.K R tab)(ha:EV X a fa)
  (hd:(x==("__debug__":Str))=false:=by decide)
  (hs:starEach [a,.Name x p2] X.env=[(false,eval a X.env),(false,eval (.Name x p2) X.env)]:=by rfl)(lA:starEach [.Name x p2] X.env=[(false,eval (.Name x p2) X.env)]:=by rfl):
  EV X (.Call (.Name "isinstance" p) [a,.Name x p2] [] pos) (xc tab fa):=by
 obtain ⟨t,pt,k⟩:=ha
 have pn:PE X (.Name x p2) (λ_ H Q=>Q (.ref R) H):=λpins s σ H Q I h=>E3 I yi yg ⟨.ref R,H,I,rfl,h⟩ hd
 refine ⟨_,uq (XJ (R:=R)) hg hm (by decide +kernel) (nH pt (nH pn oX lA) (by rw [hs,lA])) (by decide) (by decide) (by rw [hs,lA]) (by rw [lA];rfl),λO B σ H env s Q R e q=>?_⟩
 obtain ⟨r,e1,e2⟩:=bind_some e
 refine k O B σ H env r _ R e1 λv H1 s1 r1=>?_
 have hi:=r1.is λq=>R.oo
 cases hd:r.d with
 | obj c ns ds =>
  rw [hd] at e2 hi
  obtain ⟨b,e3,e4⟩:=map_some (show (tab.lookup c).map (λb=>Sl.sh (.bl b))=some s from e2)
  subst e4
  cases hi with
  | obj ho hn hp hl hs =>
   obtain ⟨c1,c2⟩:=T c b e3 _ hn
   exact ⟨_,_,_,_,b,rfl,hp,c1,c2,q _ H1 s1 (Is.bl _)⟩
 | _=>rw [hd] at e2;cases e2
end
end DL
namespace DL
open PySem PySem.Spec PyProof.Rows L2
noncomputable def ox{α:Type}:List Str->List α->Str->Option α
 | k::ks,x::xs,y=>if k=y then some x else ox ks xs y
 | _,_,_=>none
noncomputable def jQ{α:Type}:List Str->List α->Str->α->List α
 | k::ks,x::xs,y,z=>(if k=y then z else x)::jQ ks xs y z
 | _,xs,_,_=>xs
noncomputable def ui(ks:List Str)(y:Str):List Str:=if y∈ks then ks else ks++[y]
noncomputable def qz{α:Type}(ks:List Str)(xs:List α)(y:Str)(z:α):List α:=if y∈ks then jQ ks xs y z else xs++[z]
theorem JP:∀(ks:List Str) (vs:List V) (k:Str),gH ((ks.zip vs).map λq=>((.inr q.1:Key),q.2)) (.inr k)=ox ks vs k
 | [],_,_=>rfl
 | _::_,[],_=>rfl
 | n::ks,v::vs,k=>by
  unfold gH
  rw [yM,e9,xm,ox]
  by_cases h:n=k
  .simp [h]
  .have:¬((rT n:Key)=.inr k):=λz=>h (DJ z)
   simp only [this,decide_false,if_neg h]
   exact JP ks vs k
theorem NI:∀(ks:List Str) (vs:List V) (k:Str),ks.length=vs.length->(((ks.zip vs).map λq=>((.inr q.1:Key),q.2)).any λkv=>decide (kv.1=(.inr k:Key)))=decide (k∈ks)
 | [],_,_,_=>by simp
 | _::_,[],_,h=>by cases h
 | n::ks,v::vs,k,h=>by
  rw [yM,e9,D2,NI ks vs k (by simpa using h)]
  by_cases e:n=k
  .simp [e]
  .have:¬((rT n:Key)=.inr k):=λz=>e (DJ z)
   have e':¬(k=n):=λz=>e z.symm
   simp [this,e']
theorem NV:∀(ks:List Str) (vs:List V) (k:Str) (v:V),((ks.zip vs).map λq=>((.inr q.1:Key),q.2)).map (λkv=>if kv.1=(.inr k:Key) then (kv.1,v) else kv)=(ks.zip (jQ ks vs k v)).map λq=>((.inr q.1:Key),q.2)
 | [],_,_,_=>rfl
 | _::_,[],_,_=>rfl
 | n::ks,x::vs,k,v=>by
  rw [jQ,yM,yM,e9,e9,e9,NV ks vs k v]
  by_cases e:n=k
  .have:(rT n:Key)=.inr k:=by rw [e]
   simp [this,e]
  .have:¬((rT n:Key)=.inr k):=λz=>e (DJ z)
   simp [this,e]
theorem Pc{α:Type}:∀(ks:List Str) (xs:List α) (y:Str) (z:α),(jQ ks xs y z).length=xs.length
 | [],xs,_,_=>by cases xs<;>rfl
 | _::_,[],_,_=>rfl
 | k::ks,x::xs,y,z=>by rw [jQ,ff,ff,Pc ks xs y z]
theorem Yf{α:Type}{ks:List Str}{xs:List α}(h:ks.length=xs.length)(y:Str)(z:α):(ui ks y).length=(qz ks xs y z).length:=by
 unfold ui qz
 split
 .rw [Pc];exact h
 .rw [da,da,h];rfl
theorem Vw{ks:List Str}{vs:List V}(h:ks.length=vs.length)(k:Str)(v:V):HO.dK (putK ((ks.zip vs).map λq=>((.inr q.1:Key),q.2)) (.inr k) v)=xf (ui ks k) (qz ks vs k v):=by
 unfold putK ui qz
 rw [NI ks vs k h]
 by_cases e:k∈ks
 .simp only [e,decide_true,if_true]
  congr 1
  exact NV ks vs k v
 .simp only [e,decide_false,if_false]
  congr 1
  rw [List.zip_append h,mJ]
  rfl
theorem aZ.jQ{K:aK}{O:Addr->Prop}{H:Hp}{y:Str}{v:V}{d:D}(h:Is K O H v d):∀{ks:List Str} {vs:List V} {ds:List D},aZ K O H vs ds->aZ K O H (DL.jQ ks vs y v) (DL.jQ ks ds y d)
 | [],_,_,.nil=>.nil
 | [],_,_,.cons a t=>.cons a t
 | _::_,_,_,.nil=>.nil
 | k::ks,_,_,.cons a t=>by
  unfold DL.jQ
  refine .cons ?_ (aZ.jQ h t)
  split
  .exact h
  .exact a
theorem aZ.GD{K:aK}{O:Addr->Prop}{H:Hp}{y:Str}{v:V}{d:D}(h:Is K O H v d){ks:List Str}{vs:List V}{ds:List D}(t:aZ K O H vs ds):aZ K O H (qz ks vs y v) (qz ks ds y d):=by
 unfold qz
 split
 .exact aZ.jQ h t
 .exact t.append (.cons h .nil)
theorem JE{K:aK}{O:Addr->Prop}{H:Hp}{y:Str}:∀{ks:List Str} {vs:List V} {ds:List D},aZ K O H vs ds->(ox ks ds y=none/\ox ks vs y=none)\/∃v d,ox ks ds y=some d/\ox ks vs y=some v/\Is K O H v d
 | [],_,_,_=>.inl ⟨by cases ‹List D›<;>rfl,by cases ‹List V›<;>rfl⟩
 | _::_,_,_,.nil=>.inl ⟨rfl,rfl⟩
 | k::ks,_,_,.cons a t=>by
  unfold ox
  split
  .exact .inr ⟨_,_,rfl,rfl,a⟩
  .exact JE t
noncomputable def xG:Option Sl->Option Str
 | some (.sh (.str n))=>some n
 | _=>none
theorem Fd{o:Option Sl}{n:Str}(h:xG o=some n):o=some (.sh (.str n)):=by
 unfold xG at h
 split at h
 .cases h;rfl
 .cases h
section
variable {X:Cx}{e a b k v:Expr}{fa fb fk fv:En->Option Sl}{pos p1 p2 bj:Pos}{i:Nat}{x:Str}
noncomputable def HE:En->Option Sl:=λ_=>some (.tw [] [])
theorem WD:EV X (.Dict [] [] pos) HE:=⟨_,X8,λO B σ H env r Q R e q=>by
 cases e
 exact λp hp=>q _ _ (oC hp _) ⟨p,[],rfl,hp,nI,rfl,.nil⟩⟩
noncomputable def xZ(i:Nat)(f g:En->Option Sl):SF:=λenv=>match env[i]? with
 | some (.tw ks ds)=>(f env).bind λr=>(xG (g env)).bind λk=>if ks.length<16777216 then some (.nx,env.set i (.tw (ui ks k) (qz ks ds k r.d))) else none
 | _=>none
theorem W9(ha:EV X e fa)(hb:EV X b fb)(hu:X.A.units+1<cLine)(hN:X.N[i]?=some x)(hv:jK X.env.scope x)(hd:(x==("__debug__":Str))=false:=by decide)(cO:(x==("__classdict__":Str))=false:=by decide)
  (hs:swapsWith e (some (.Subscript (.Name x p1) b p2)) pos.line X.env=pure false:=by rfl):SV X (.Assign [.Subscript (.Name x p1) b p2] e pos) (xZ i fa fb):=by
 obtain ⟨ta,pa,ka⟩:=ha
 obtain ⟨tb,pb,kb⟩:=hb
 refine ⟨_,Xl hu (sX hN hv hd cO) pb pa hs,λO B σ H env fl ak Dn R e q=>?_⟩
 unfold xZ at e
 split at e
 .rename_i ks ds he
  obtain ⟨r,e1,e⟩:=bind_some e
  obtain ⟨n,e2,e⟩:=bind_some e
  obtain ⟨hl,e3⟩:=lI e
  cases e3
  obtain ⟨p,vs,f1,f2,f3,f4,f5⟩:=R.tw i ks ds he
  refine ka O B σ H env _ _ R e1 λvv H1 s1 r1=>⟨_,f1,?_⟩
  refine kb O B σ H1 env _ _ (R.grow s1) (Fd e2) λvk H2 s2 r2=>?_
  have h2:vk=.str n:=yX r2
  subst h2
  have hi:=(r1.is λq=>R.oo).grow s2
  refine ⟨p,_,rfl,pN.k (k:=.inr n) (s2 _ _ (s1 _ _ f3)) (by rw [dF,List.length_zip,pZ];omega),?_⟩
  obtain ⟨R',g'⟩:=(R.grow (s1.trans s2)).Rb (ks':=ui ks n) (ds':=qz ks ds n r.d) (vs':=qz ks vs n vv) he f1 (Yf f4 n vv) (((f5.grow s1).grow s2).GD hi)
  rw [Vw f4]
  exact q _ _ R' (g'.from (s1.trans s2))
 .cases e
noncomputable def w9(fd fk:En->Option Sl):En->Option Sl:=λenv=>(fd env).bind λr=>(xG (fk env)).bind λk=>match r.d with
 | .dq ks ds=>(ox ks ds k).map Sl.sh
 | _=>none
theorem WC(ha:EV X a fa)(hb:EV X b fb)(hu:X.A.units+1<cLine)(hs:uF b):EV X (.Subscript a b pos) (w9 fa fb):=by
 obtain ⟨ta,pa,ka⟩:=ha
 obtain ⟨tb,pb,kb⟩:=hb
 refine ⟨_,Wt hu pa pb hs,λO B σ H env s Q R e q=>?_⟩
 obtain ⟨r,e0,e⟩:=bind_some e
 obtain ⟨n,e1,e⟩:=bind_some e
 refine ka O B σ H env _ _ R e0 λvd H1 s1 r1=>kb O B σ H1 env _ _ (R.grow s1) (Fd e1) λvk H2 s2 r2=>?_
 have h2:vk=.str n:=yX r2
 subst h2
 have hi:=(r1.is λq=>R.oo).grow s2
 cases hd:r.d with
 | dq ks ds =>
  rw [hd] at hi e
  obtain ⟨d,e3,rfl⟩:=map_some e
  cases hi with
  | dq ho hp hl hs =>
   rcases JE (y:=n) hs with ⟨z,_⟩ | ⟨v,d',z1,z2,z3⟩
   .rw [e3] at z;cases z
   .rw [e3] at z1
    cases z1
    exact ⟨_,v,rfl,.inl ⟨_,.inr n,.inl hp,rfl,by rw [JP,z2]⟩,q _ _ (s1.trans s2) z3⟩
 | _=>rw [hd] at e;cases e
noncomputable def rQ(neg:Bool)(fk fd:En->Option Sl):En->Option Sl:=λenv=>(xG (fk env)).bind λk=>(fd env).bind λr=>match r.d with
 | .dq ks ds=>some (.sh (.bl (neg != (ox ks ds k).isSome)))
 | _=>none
theorem XW{O:Addr->Prop}{H:Hp}{vd:V}{ks:List Str}{ds:List D}{K:aK}(hi:Is K O H vd (.dq ks ds))(n:Str):∃p ov,vd=.ref p/\lJ H p (.str n) ov/\ov.isSome=(ox ks ds n).isSome:=by
 cases hi with
 | dq ho hp hl hs =>
  refine ⟨_,_,rfl,.inl ⟨_,.inr n,.inl hp,rfl,rfl⟩,?_⟩
  rw [JP]
  rcases JE (y:=n) hs with ⟨z1,z2⟩ | ⟨v,d',z1,z2,z3⟩<;>rw [z1,z2]<;>rfl
noncomputable def MN(fd:En->Option Sl):En->Option Sl:=λenv=>(fd env).bind λr=>match r.d with
 | .dq ks ds=>some (.tw ks ds)
 | _=>none
end
end DL
namespace DL
open PySem PySem.Spec PyProof.Rows L2
section
variable {X:Cx}{N:List Str}{sc:Scope}{k:Nat}{full:Bool}{e a b:Expr}{fa fb:En->Option Sl}{pos p1 p2 p:Pos}
theorem Xb{neg:Bool}{op:CmpOp}{td:TE->TE->TE}(hc:∀ta tb,PE X a ta->PE X b tb->PC X op a b (td ta tb))(hr:∀ta tb σ H Q,td ta tb σ H Q=(ta σ H λy H1=>tb σ H1 λx H2=>∃p o,x=.ref p/\lJ H2 p y o/\Q (.bl (neg != o.isSome)) H2))(ha:EV X a fa)(hb:EV X b fb)(hm:behindInMarks op b=false):
  TV X (.Compare a [op] [b] pos) (cj (rQ neg fa fb)):=by
 obtain ⟨ta,pa,ka⟩:=ha
 obtain ⟨tb,pb,kb⟩:=hb
 refine ⟨_,Vu (hc ta tb pa pb) hm,λO B σ H env c Q R e q=>?_⟩
 have e:=Fc e
 obtain ⟨n,e1,e⟩:=bind_some e
 obtain ⟨r,e0,e⟩:=bind_some e
 show td ta tb σ H _
 rw [hr]
 refine ka O B σ H env _ _ R (Fd e1) λvk H1 s1 r1=>kb O B σ H1 env _ _ (R.grow s1) e0 λvd H2 s2 r2=>?_
 have h2:vk=.str n:=yX r1
 subst h2
 have hi:=r2.is λq=>(R.grow s1).oo
 cases hd:r.d with
 | dq ks ds =>
  rw [hd] at hi e
  cases e
  obtain ⟨p,ov,rfl,g,eo⟩:=XW hi n
  exact ⟨p,ov,rfl,g,_,by rw [eo],q _ (s1.trans s2)⟩
 | _=>rw [hd] at e;cases e
theorem Fx.zq(h:Fx X N sc k full)(ha:EV X a fa)(hb:EV X b fb)(hm:behindInMarks .NotIn b=false:=by rfl):TV X (.Compare a [.NotIn] [b] pos) (cj (rQ true fa fb)):=
 Xb (neg:=true) (td:=J2) (λta tb pa pb=>Zo (Ju h.room) pa pb) (λta tb σ H Q=>by unfold J2;simp only [Bool.true_bne]) ha hb hm
theorem Fx.FZ(h:Fx X N sc k full)(i:Nat){x:Str}(ha:EV X e fa)(hb:EV X b fb)(hN:N[i]?=some x:=by rfl)(hv:jK sc x:=by first | exact cC rfl | exact bM (cC rfl) | exact bM (bM rfl))(hd:(x==("__debug__":Str))=false:=by rfl)(cO:(x==("__classdict__":Str))=false:=by rfl)
  (hs:swapsWith e (some (.Subscript (.Name x p1) b p2)) pos.line X.env=pure false:=by rfl):SV X (.Assign [.Subscript (.Name x p1) b p2] e pos) (xZ i fa fb):=W9 ha hb (Ju h.room) (h.ix hN) (h.rj hv) hd cO hs
theorem Fx.vZ(h:Fx X N sc k full)(ha:EV X a fa)(hb:EV X b fb)(hs:uF b:=by intro _ _;rfl):EV X (.Subscript a b pos) (w9 fa fb):=WC ha hb (Ju h.room) hs
end
end DL
namespace DL
open PySem L2
section
variable {env:En}{Q:Sl->Prop}{fo fk fd:En->Option Sl}{fa:En->Option (List D)}
theorem b5O{cs:List Str}{f:Str}:Wo (dI cs f fo env) Q↔Wo (fo env) λr=>Wo (fV cs f r.d) λd=>Q (.sh d):=by
 unfold dI
 rw [a0i]
 exact kL λr=>a1m
theorem b23{m:Str}{n:Nat}{tab:fq}:Wo (oq m n tab fo fa env) Q↔Wo (fo env) λr=>Wo (fa env) λas=>Wo (sW m n tab r.d as) Q:=by
 unfold oq
 rw [a0i]
 exact kL λr=>a0i
theorem b7P{c:Str}{n:Nat}{ns:List Str}{ψ:List D->Option (List D)}:Wo (sG c n ns ψ fa env) Q↔Wo (fa env) λas=>as.length=n/\Wo (ψ as) λds=>Q (.sh (.obj c ns ds)):=by
 unfold sG
 rw [a0i]
 refine kL λas=>?_
 by_cases h:as.length=n
 .rw [if_pos h,a1m];exact ⟨λz=>⟨h,z⟩,λz=>z.2⟩
 .rw [if_neg h];exact ⟨λz=>(Wo_none.mp z).elim,λz=>(h z.1).elim⟩
theorem b5N{tab:List (Str×Bool)}:Wo (xc tab fo env) Q↔Wo (fo env) λr=>Wo (wF tab r.d) Q:=a0i
theorem b7M:Wo (HE env) Q↔Q (.tw [] []):=a0e
def F2(d:D)(k:Str)(Q:Sl->Prop):Prop:=match d with
 | .dq ks ds=>Wo (ox ks ds k) λd=>Q (.sh d)
 | _=>False
theorem tgQ_d{ks:List Str}{ds:List D}{k:Str}:F2 (.dq ks ds) k Q↔Wo (ox ks ds k) λd=>Q (.sh d):=e8
theorem Vd{o:Option Sl}{Q:Str->Prop}:Wo (xG o) Q↔∃n,o=some (.sh (.str n))/\Q n:=by
 constructor
 .rintro ⟨n,e,q⟩
  exact ⟨n,Fd e,q⟩
 .rintro ⟨n,rfl,q⟩
  exact ⟨n,rfl,q⟩
theorem JT{g:En->Option Sl}{Q:Str->Prop}:Wo (xG (g env)) Q↔Wo (g env) λr=>∃n,r=.sh (.str n)/\Q n:=by
 rw [Vd]
 constructor
 .rintro ⟨n,e,q⟩;exact ⟨_,e,n,rfl,q⟩
 .rintro ⟨r,e,n,rfl,q⟩;exact ⟨n,e,q⟩
theorem JB:Wo (w9 fd fk env) Q↔Wo (fd env) λr=>Wo (fk env) λs=>∃k,s=.sh (.str k)/\F2 r.d k Q:=by
 unfold w9
 rw [a0i]
 refine kL λr=>?_
 rw [a0i,JT]
 refine kL λs=>?_
 refine exists_congr λk=>and_congr_right λ_=>?_
 cases r.d<;>simp [F2,Wo_none,a1m]
def F1(neg:Bool)(d:D)(k:Str)(Q:Sl->Prop):Prop:=match d with
 | .dq ks ds=>Q (.sh (.bl (neg != (ox ks ds k).isSome)))
 | _=>False
theorem tiQ_d{neg:Bool}{ks:List Str}{ds:List D}{k:Str}:F1 neg (.dq ks ds) k Q↔Q (.sh (.bl (neg != (ox ks ds k).isSome))):=e8
theorem V3{neg:Bool}:Wo (rQ neg fk fd env) Q↔Wo (fk env) λs=>∃k,s=.sh (.str k)/\Wo (fd env) λr=>F1 neg r.d k Q:=by
 unfold rQ
 rw [a0i,JT]
 refine kL λs=>?_
 refine exists_congr λk=>and_congr_right λ_=>?_
 rw [a0i]
 refine kL λr=>?_
 cases r.d<;>simp [F1,Wo_none,a0e]
def F3(d:D)(Q:Sl->Prop):Prop:=match d with
 | .dq ks ds=>Q (.tw ks ds)
 | _=>False
theorem tcQ_d{ks:List Str}{ds:List D}:F3 (.dq ks ds) Q↔Q (.tw ks ds):=e8
theorem b7L:Wo (MN fd env) Q↔Wo (fd env) λr=>F3 r.d Q:=by
 unfold MN
 rw [a0i]
 refine kL λr=>?_
 cases r.d<;>simp [F3,Wo_none,a0e]
theorem U5{i:Nat}{f g:En->Option Sl}{ks:List Str}{ds:List D}{Q:Fl×En->Prop}(he:env[i]?=some (.tw ks ds)):Wo (xZ i f g env) Q↔Wo (f env) λr=>Wo (g env) λs=>∃k,s=.sh (.str k)/\ks.length<16777216/\Q (.nx,env.set i (.tw (ui ks k) (qz ks ds k r.d))):=by
 unfold xZ
 rw [he]
 dsimp only
 rw [a0i]
 refine kL λr=>?_
 rw [a0i,JT]
 refine kL λs=>?_
 refine exists_congr λk=>and_congr_right λ_=>?_
 by_cases h:ks.length<16777216
 .rw [if_pos h,a0e];exact ⟨λz=>⟨h,z⟩,λz=>z.2⟩
 .rw [if_neg h];exact ⟨λz=>(Wo_none.mp z).elim,λz=>(h z.1).elim⟩
theorem Sl_tw{ks:List Str}{ds:List D}:(Sl.tw ks ds).d=.dq ks ds:=rfl
end
end DL
namespace My
open PySem L2 DL
noncomputable def top(i:Nat):Stmt:=PySem.Challenge.pw_offerhouse_k33_leaves_as_forms.main.body.getD i (.Pass ⟨0,0,0,0⟩)
noncomputable def c9:List Str:=["Each","Flat","Bands","Steps","Blocks","Named"]
noncomputable abbrev QM:Stmt:=oy (top 18) 5
noncomputable abbrev Lo{α:Type}(Y:Str->Str->Stmt->List Str->α):α:=Y "parts" "Rule.parts" QM ["self"]
noncomputable abbrev QN:Stmt:=oy (top 18) 4
noncomputable abbrev Lp{α:Type}(Y:Str->Str->Stmt->List Str->α):α:=Y "all_names" "Rule.all_names" QN ["self"]
noncomputable abbrev QP:Stmt:=oy (top 26) 1
noncomputable abbrev Lx{α:Type}(Y:Str->Str->Stmt->List Str->α):α:=Y "all_names" "Named.all_names" QP ["self"]
noncomputable abbrev QL:Stmt:=oy (top 18) 3
noncomputable abbrev Ln{α:Type}(Y:Str->Str->Stmt->List Str->α):α:=Y "names" "Rule.names" QL ["self"]
noncomputable abbrev QZ:Stmt:=oy (top 20) 2
noncomputable abbrev LH{α:Type}(Y:Str->Str->Stmt->List Str->α):α:=Y "form_here" "Each.form_here" QZ ["self","held","forms"]
noncomputable abbrev Q0:Stmt:=oy (top 21) 2
noncomputable abbrev LI{α:Type}(Y:Str->Str->Stmt->List Str->α):α:=Y "form_here" "Flat.form_here" Q0 ["self","held","forms"]
noncomputable abbrev QO:Stmt:=oy (top 23) 1
noncomputable abbrev Lw{α:Type}(Y:Str->Str->Stmt->List Str->α):α:=Y "form_here" "Bands.form_here" QO ["self","held","forms"]
noncomputable abbrev QT:Stmt:=oy (top 24) 1
noncomputable abbrev LA{α:Type}(Y:Str->Str->Stmt->List Str->α):α:=Y "form_here" "Steps.form_here" QT ["self","held","forms"]
noncomputable abbrev QU:Stmt:=oy (top 25) 2
noncomputable abbrev LC{α:Type}(Y:Str->Str->Stmt->List Str->α):α:=Y "form_here" "Blocks.form_here" QU ["self","held","forms"]
noncomputable abbrev QR:Stmt:=oy (top 26) 3
noncomputable abbrev Ly{α:Type}(Y:Str->Str->Stmt->List Str->α):α:=Y "form_here" "Named.form_here" QR ["self","held","forms"]
noncomputable abbrev QS:Stmt:=oy (top 18) 2
noncomputable abbrev Lz{α:Type}(Y:Str->Str->Stmt->List Str->α):α:=Y "form_up_to" "Rule.form_up_to" QS ["self","most","forms"]
noncomputable abbrev Qw:Stmt:=oy (top 18) 1
noncomputable abbrev K7{α:Type}(Y:Str->Str->Stmt->List Str->α):α:=Y "form" "Rule.form" Qw ["self","forms"]
noncomputable abbrev QV:Stmt:=oy (top 26) 0
noncomputable abbrev a41{α:Type}(Y:Str->Str->Stmt->List Str->α):α:=Y "__init__" "Named.__init__" QV ["self","name"]
noncomputable abbrev QY:Stmt:=oy (top 25) 0
noncomputable abbrev a4K{α:Type}(Y:Str->Str->Stmt->List Str->α):α:=Y "__init__" "Blocks.__init__" QY ["self","size","price","many"]
noncomputable abbrev Q3:Stmt:=oy (top 22) 0
noncomputable abbrev QK{α:Type}(Y:Str->Str->Stmt->List Str->α):α:=Y "__init__" "Rows.__init__" Q3 ["self","rows"]
noncomputable abbrev Q2:Stmt:=oy (top 21) 0
noncomputable abbrev a5t{α:Type}(Y:Str->Str->Stmt->List Str->α):α:=Y "__init__" "Flat.__init__" Q2 ["self","price","low","high"]
noncomputable abbrev Q1:Stmt:=oy (top 20) 0
noncomputable abbrev a5u{α:Type}(Y:Str->Str->Stmt->List Str->α):α:=Y "__init__" "Each.__init__" Q1 ["self","unit","low","high"]
noncomputable def K0:SF:=
 (aT (bU af))
noncomputable def sk:List D->Option Sl:=bK K0 1
theorem nB:Wo (sk [a0]) Q↔Wo (K0 [.sh a0]) (bS Q):=fj
noncomputable def CH:fq:=[("Each",sk),("Flat",sk),("Bands",sk),("Steps",sk),("Blocks",sk),("Named",sk)]
noncomputable def LG:SF:=
 (az (ei 1 (bU af))
 (az (gO (oq "parts" 1 CH (eV 0) af) (gN 2)
 (mP 1 (oq "all_names" 1 [] (eV 2) af)))
 (sU 1)))
noncomputable def uA:List D->Option Sl:=bK LG 3
theorem jE:Wo (uA [a0]) Q↔Wo (LG [.sh a0,.no,.no]) (bS Q):=fj
noncomputable def Lr:SF:=
 (aT (bU (ag (dI c9 "name" (eV 0)) af)))
noncomputable def CO:List D->Option Sl:=bK Lr 1
theorem iO:Wo (CO [a0]) Q↔Wo (Lr [.sh a0]) (bS Q):=fj
noncomputable def FT:fq:=[("Each",uA),("Flat",uA),("Bands",uA),("Steps",uA),("Blocks",uA),("Named",CO)]
noncomputable def KZ:SF:=
 (aT (B5 (oq "all_names" 1 FT (eV 0) af)))
noncomputable def sj:List D->Option Sl:=bK KZ 1
theorem nC:Wo (sj [a0]) Q↔Wo (KZ [.sh a0]) (bS Q):=fj
noncomputable def CG:fq:=[("Each",sj),("Flat",sj),("Bands",sj),("Steps",sj),("Blocks",sj),("Named",sj)]
noncomputable abbrev QB:Stmt:=top 37
noncomputable abbrev KN{α:Type}(Y:Str->Stmt->List Str->α):α:=Y "_law_ends" QB ["plan","forms"]
noncomputable def KA:SF:=
 (az (de 2 (aS (bV 0) (eC (.int 0))))
 (az (cN (cj (aa bP (eV 2) (eC (.str "name"))))
 (az (ei 3 (bU af))
 (az (gO (w9 (eV 1) (aS (bV 0) (eC (.int 1)))) (gN 4)
 (mP 3 (bU (ag (aS (bV 4) (eC (.int 0))) (ag (aS (bV 4) (eC (.int 1))) af)))))
 (sU 3))) cR)
 (az (cN (dU (cj (aa bP (eV 2) (eC (.str "each")))) (cj (aa bP (eV 2) (eC (.str "flat")))))
 (aT (bU (ag (aS (bV 0) (eC (.int 2))) (ag (aS (bV 0) (eC (.int 3))) af)))) cR)
 (az (cN (cj (aa bP (eV 2) (eC (.str "blocks"))))
 (aT (bU (ag (eC (.int 0)) (ag (aS (bV 0) (eC (.int 1))) (ag (aa cz (aS (bV 0) (eC (.int 1))) (aS (bV 0) (eC (.int 3)))) af))))) cR)
 (az (cN (dU (cj (aa bP (eV 2) (eC (.str "bands")))) (cj (aa bP (eV 2) (eC (.str "steps")))))
 (aT (aa br (bU (ag (eC (.int 0)) af)) (mL (kf (aS (bV 0) (eC (.int 1)))) [] 1 (gN 0) sV (aS (bV 0) (eC (.int 0)))))) cR)
 (aT (bU (ag (eC (.int 0)) af))))))))
noncomputable def xO:List D->Option Sl:=bK KA 5
theorem pL:Wo (xO [a0,a1]) Q↔Wo (KA [.sh a0,.sh a1,.no,.no,.no]) (bS Q):=fj
noncomputable abbrev QI:Stmt:=top 41
noncomputable abbrev Lk{α:Type}(Y:Str->Stmt->List Str->α):α:=Y "_law_cost_in" QI ["form","x"]
noncomputable def Lg:SF:=
 (az (gO (eV 0) (gN 2)
 (cN (q4 (cj (aa u5 (aS (bV 2) (eC (.int 0))) (eV 1))) (cj (aa u5 (eV 1) (aS (bV 2) (eC (.int 1))))))
 (aT (aa br (aS (bV 2) (eC (.int 2))) (aa cz (aS (bV 2) (eC (.int 3))) (aa dH (eV 1) (aS (bV 2) (eC (.int 0))))))) cR))
 (aT (eC .bz)))
noncomputable def CJ:List D->Option Sl:=bK Lg 3
theorem mx:Wo (CJ [a0,a1]) Q↔Wo (Lg [.sh a0,.sh a1,.no]) (bS Q):=fj
noncomputable abbrev QW:Stmt:=top 36
noncomputable abbrev Lc{α:Type}(Y:Str->Stmt->List Str->α):α:=Y "_law_leaf_cost" QW ["plan","x","forms"]
noncomputable def La:SF:=
 (az (de 3 (aS (bV 0) (eC (.int 0))))
 (az (cN (cj (aa bP (eV 3) (eC (.str "name"))))
 (az (de 5 (mL (kf (w9 (eV 2) (aS (bV 0) (eC (.int 1))))) [1] 1 (gN 0) (q4 (cj (aa u5 (aS (bV 0) (eC (.int 0))) (eV 1))) (cj (aa u5 (eV 1) (aS (bV 0) (eC (.int 1)))))) (eV 0)))
 (az (cN (cj (aa bP (lD (bV 5)) (eC (.int 0))))
 (aT (eC .bz)) cR)
 (aT (aa br (aS (kX (aS (bV 5) (eC (.int 0)))) (eC (.int 2))) (aa cz (aS (kX (aS (bV 5) (eC (.int 0)))) (eC (.int 3))) (aa dH (eV 1) (aS (kX (aS (bV 5) (eC (.int 0)))) (eC (.int 0))))))))) cR)
 (az (cN (dU (cj (aa bP (eV 3) (eC (.str "each")))) (cj (aa bP (eV 3) (eC (.str "flat")))))
 (az (cN (dU (cj (aa sF (eV 1) (aS (bV 0) (eC (.int 2))))) (cj (aa sF (aS (bV 0) (eC (.int 3))) (eV 1))))
 (aT (eC .bz)) cR)
 (aT (aa cz (aS (bV 0) (eC (.int 1))) (aS (kX (bU (ag (eC (.int 1)) (ag (eV 1) af)))) (Er (aa bP (eV 3) (eC (.str "each")))))))) cR)
 (az (cN (cj (aa bP (eV 3) (eC (.str "blocks"))))
 (az (cN (dU (cj (aa sF (eV 1) (eC (.int 0)))) (cj (aa tW (eV 1) (aa cz (aS (bV 0) (eC (.int 1))) (aS (bV 0) (eC (.int 3)))))))
 (aT (eC .bz)) cR)
 (aT (aa cz (aS (bV 0) (eC (.int 2))) (aa rM (aa dH (aa br (eV 1) (aS (bV 0) (eC (.int 1)))) (eC (.int 1))) (aS (bV 0) (eC (.int 1))))))) cR)
 (az (cN (dU (cj (aa sF (eV 1) (eC (.int 0)))) (cj (aa tW (eV 1) (aS (kX (aS (kX (aS (bV 0) (eC (.int 1)))) (qu (eC (.int 1))))) (eC (.int 0))))))
 (aT (eC .bz)) cR)
 (az (cN (cj (aa bP (eV 3) (eC (.str "bands"))))
 (aT (aa cz (eV 1) (aS (kX (mL (kf (aS (bV 0) (eC (.int 1)))) [1] 1 (gN 0) (cj (aa u5 (eV 1) (aS (bV 0) (eC (.int 0))))) (aS (bV 0) (eC (.int 1))))) (eC (.int 0))))) cR)
 (az (de 4 (aa br (bU (ag (eC (.int 0)) af)) (mL (kf (aS (bV 0) (eC (.int 1)))) [] 1 (gN 0) sV (aS (bV 0) (eC (.int 0))))))
 (aT (t4 (kX (mL (rP EE (ag (lD (kX (aS (bV 0) (eC (.int 1))))) af)) [0,1,4] 1 (gN 0) sV (aa cz (aS (kX (aS (kX (aS (bV 1) (eC (.int 1)))) (eV 0))) (eC (.int 1))) (aa dH (B' yO (ag (eV 2) (ag (aS (bV 3) (aa br (eV 0) (eC (.int 1)))) af))) (B' yO (ag (eV 2) (ag (aS (bV 3) (eV 0)) af))))))))))))))))
noncomputable def zh:List D->Option Sl:=bK La 6
theorem kO:Wo (zh [a0,a1,a2]) Q↔Wo (La [.sh a0,.sh a1,.sh a2,.no,.no,.no]) (bS Q):=fj
noncomputable abbrev QH:Stmt:=top 38
noncomputable abbrev Lj{α:Type}(Y:Str->Stmt->List Str->α):α:=Y "_law_amounts" QH ["plan","forms","script","scale"]
noncomputable def Lf:SF:=
 (az (ei 4 (bU (ag (qu (eC (.int 1))) (ag (eC (.int 0)) (ag (eC (.int 1)) af)))))
 (az (gO (yq (kX (B5 (cw 2 xO (ag (eV 0) (ag (eV 1) af))))) Df (we (eC (.int 24)))) (gN 5)
 (mP 4 (bU (ag (aa dH (eV 5) (eC (.int 1))) (ag (eV 5) (ag (aa br (eV 5) (eC (.int 1))) af))))))
 (az (gO (yq (bV 2) Df (we (eC (.int 40)))) (gN 6)
 (ji 4 (aa dH (aa pf (eV 6) (aa cz (eC (.int 5)) (eV 3))) (eV 3))))
 (sU 4))))
noncomputable def zi:List D->Option Sl:=bK Lf 7
theorem my:Wo (zi [a0,a1,a2,a3]) Q↔Wo (Lf [.sh a0,.sh a1,.sh a2,.sh a3,.no,.no,.no]) (bS Q):=fj
noncomputable abbrev Qy:Stmt:=top 40
noncomputable abbrev K9{α:Type}(Y:Str->Stmt->List Str->α):α:=Y "_law_apart" Qy ["ahead","part"]
noncomputable def K3:SF:=
 (az (cN (cj (aa u5 (aS (bV 1) (eC (.int 0))) (aS (bV 0) (eC (.int 1)))))
 (aT (eC (.bl false))) cR)
 (az (cN (cj (aa tW (aS (bV 1) (eC (.int 0))) (aa br (aS (bV 0) (eC (.int 1))) (eC (.int 1)))))
 (aT (eC (.bl true))) cR)
 (aT (rR (aa sF (aS (bV 0) (eC (.int 0))) (aS (bV 0) (eC (.int 1)))) (aa dA (aa br (aS (bV 0) (eC (.int 2))) (aa cz (aS (bV 0) (eC (.int 3))) (aa dH (aS (bV 1) (eC (.int 0))) (aS (bV 0) (eC (.int 0)))))) (aS (bV 1) (eC (.int 2))))))))
noncomputable def xP:List D->Option Sl:=bK K3 2
theorem oG:Wo (xP [a0,a1]) Q↔Wo (K3 [.sh a0,.sh a1]) (bS Q):=fj
noncomputable abbrev QJ:Stmt:=top 39
noncomputable abbrev Ll{α:Type}(Y:Str->Stmt->List Str->α):α:=Y "_law_is_form" QJ ["found"]
noncomputable def Lh:SF:=
 (az (cN (uh (jf (qv "tuple" (eV 0))))
 (aT (eC (.bl false))) cR)
 (az (vC nL (ag (lD (bV 0)) af) (gN 1)
 (az (de 2 (aS (bV 0) (eV 1)))
 (az (cN (dU (uh (jf (qv "tuple" (eV 2)))) (cj (aa dA (lD (bV 2)) (eC (.int 4)))))
 (aT (eC (.bl false))) cR)
 (az (gO (eV 2) (gN 3)
 (cN (dU (uh (jf (qv "int" (eV 3)))) (jf (qv "bool" (eV 3))))
 (aT (eC (.bl false))) cR))
 (az (cN (dU (cj (aa sF (aS (bV 2) (eC (.int 1))) (aS (bV 2) (eC (.int 0))))) (q4 (cj (aa bP (aS (bV 2) (eC (.int 0))) (aS (bV 2) (eC (.int 1))))) (cj (aa dA (aS (bV 2) (eC (.int 3))) (eC (.int 0))))))
 (aT (eC (.bl false))) cR)
 (cN (q4 (cj (aa tW (eV 1) (eC (.int 0)))) (uh (jf (cw 2 xP (ag (aS (bV 0) (aa dH (eV 1) (eC (.int 1)))) (ag (eV 2) af))))))
 (aT (eC (.bl false))) cR))))))
 (aT (eC (.bl true)))))
noncomputable def CK:List D->Option Sl:=bK Lh 4
theorem mw:Wo (CK [a0]) Q↔Wo (Lh [.sh a0,.no,.no,.no]) (bS Q):=fj
noncomputable def E1:List (Str×Bool):=[("Each",true),("Flat",true),("Bands",true),("Steps",true),("Blocks",true),("Named",true)]
noncomputable abbrev Qx:Stmt:=top 9
noncomputable abbrev K8{α:Type}(Y:Str->Stmt->List Str->α):α:=Y "holds_one" Qx ["row"]
noncomputable def K2:SF:=
 (aT (aa bP (aS (bV 0) (eC (.int 0))) (aS (bV 0) (eC (.int 1)))))
noncomputable def vP:List D->Option Sl:=bK K2 1
theorem oH:Wo (vP [a0]) Q↔Wo (K2 [.sh a0]) (bS Q):=fj
noncomputable abbrev Pd:Stmt:=top 13
noncomputable abbrev J4{α:Type}(Y:Str->Stmt->List Str->α):α:=Y "plain" Pd ["row"]
noncomputable def JS:SF:=
 (aT (yr (jf (cw 1 vP (ag (eV 0) af))) (cu (ag (aS (bV 0) (eC (.int 0))) (ag (aS (bV 0) (eC (.int 1))) (ag (aS (bV 0) (eC (.int 2))) (ag (eC (.int 0)) af))))) (eV 0)))
noncomputable def uy:List D->Option Sl:=bK JS 1
theorem uE:Wo (uy [a0]) Q↔Wo (JS [.sh a0]) (bS Q):=fj
noncomputable abbrev Qs:Stmt:=top 7
noncomputable abbrev KS{α:Type}(Y:Str->Stmt->List Str->α):α:=Y "line_at" Qs ["line","low","x"]
noncomputable def Kl:SF:=
 (aT (aa br (aS (bV 0) (eC (.int 0))) (aa cz (aS (bV 0) (eC (.int 1))) (aa dH (eV 2) (eV 1)))))
noncomputable def zg:List D->Option Sl:=bK Kl 3
theorem qD:Wo (zg [a0,a1,a2]) Q↔Wo (Kl [.sh a0,.sh a1,.sh a2]) (bS Q):=fj
noncomputable abbrev QG:Stmt:=top 12
noncomputable abbrev Li{α:Type}(Y:Str->Stmt->List Str->α):α:=Y "laid_beside" QG ["ahead","row"]
noncomputable def Le:SF:=
 (az (de 2 (yr (jf (cw 1 vP (ag (eV 0) af))) (aa dH (aS (bV 1) (eC (.int 2))) (aS (bV 0) (eC (.int 2)))) (aS (bV 0) (eC (.int 3)))))
 (az (cN (cj (aa dA (aS (bV 1) (eC (.int 2))) (cw 3 zg (ag (cu (ag (aS (bV 0) (eC (.int 2))) (ag (eV 2) af))) (ag (aS (bV 0) (eC (.int 0))) (ag (aS (bV 1) (eC (.int 0))) af))))))
 (aT (bU (ag (eV 0) (ag (cw 1 uy (ag (eV 1) af)) af)))) cR)
 (az (cN (dU (jf (cw 1 vP (ag (eV 1) af))) (cj (aa bP (aS (bV 1) (eC (.int 3))) (eV 2))))
 (aT (bU (ag (cu (ag (aS (bV 0) (eC (.int 0))) (ag (aS (bV 1) (eC (.int 1))) (ag (aS (bV 0) (eC (.int 2))) (ag (eV 2) af))))) af))) cR)
 (az (de 3 (cw 1 uy (ag (cu (ag (aa br (aS (bV 1) (eC (.int 0))) (eC (.int 1))) (ag (aS (bV 1) (eC (.int 1))) (ag (aa br (aS (bV 1) (eC (.int 2))) (aS (bV 1) (eC (.int 3)))) (ag (aS (bV 1) (eC (.int 3))) af))))) af)))
 (aT (bU (ag (cu (ag (aS (bV 0) (eC (.int 0))) (ag (aS (bV 1) (eC (.int 0))) (ag (aS (bV 0) (eC (.int 2))) (ag (eV 2) af))))) (ag (eV 3) af))))))))
noncomputable def CI:List D->Option Sl:=bK Le 4
theorem mB:Wo (CI [a0,a1]) Q↔Wo (Le [.sh a0,.sh a1,.no,.no]) (bS Q):=fj
noncomputable abbrev OZ:Stmt:=top 11
noncomputable abbrev JN{α:Type}(Y:Str->Stmt->List Str->α):α:=Y "laid" OZ ["rows"]
noncomputable def JA:SF:=
 (az (ei 1 (bU af))
 (az (gO (eV 0) (gN 2)
 (cN (q4 (EA (bV 1)) (cj (aa bP (aa br (aS (kX (aS (bV 1) (qu (eC (.int 1))))) (eC (.int 1))) (eC (.int 1))) (aS (bV 2) (eC (.int 0))))))
 (az (qi 3 1)
 (mP 1 (cw 2 CI (ag (eV 3) (ag (eV 2) af))))) (ji 1 (cw 1 uy (ag (eV 2) af)))))
 (aT (Ca (bV 1)))))
noncomputable def oY:List D->Option Sl:=bK JA 4
theorem xR:Wo (oY [a0]) Q↔Wo (JA [.sh a0,.no,.no,.no]) (bS Q):=fj
noncomputable def LD:SF:=
 (aT (cw 1 oY (ag (bU (ag (cu (ag (dI c9 "low" (eV 0)) (ag (dI c9 "high" (eV 0)) (ag (aa cz (dI c9 "unit" (eV 0)) (dI c9 "low" (eV 0))) (ag (dI c9 "unit" (eV 0)) af))))) af)) af)))
noncomputable def CU:List D->Option Sl:=bK LD 3
theorem jG:Wo (CU [a0,a1,a2]) Q↔Wo (LD [.sh a0,.sh a1,.sh a2]) (bS Q):=fj
noncomputable def LF:SF:=
 (aT (cw 1 oY (ag (bU (ag (cu (ag (dI c9 "low" (eV 0)) (ag (dI c9 "high" (eV 0)) (ag (dI c9 "price" (eV 0)) (ag (eC (.int 0)) af))))) af)) af)))
noncomputable def CM:List D->Option Sl:=bK LF 3
theorem jF:Wo (CM [a0,a1,a2]) Q↔Wo (LF [.sh a0,.sh a1,.sh a2]) (bS Q):=fj
noncomputable def Lq:SF:=
 (az (ei 3 (bU af))
 (az (de 4 (eC (.int 0)))
 (az (gO (dI c9 "rows" (eV 0)) (gT 2 (p8 (gN 5) (p8 (gN 6) vB)))
 (az (ji 3 (cu (ag (eV 4) (ag (eV 5) (ag (aa cz (eV 4) (eV 6)) (ag (eV 6) af))))))
 (de 4 (aa br (eV 5) (eC (.int 1))))))
 (qj 3 (aT (cw 1 oY (ag (eV 3) af)))))))
noncomputable def CN:List D->Option Sl:=bK Lq 7
theorem iP:Wo (CN [a0,a1,a2]) Q↔Wo (Lq [.sh a0,.sh a1,.sh a2,.no,.no,.no,.no]) (bS Q):=fj
noncomputable def Lv:SF:=
 (az (ei 3 (bU (ag (cu (ag (eC (.int 0)) (ag (eC (.int 0)) (ag (eC (.int 0)) (ag (eC (.int 0)) af))))) af)))
 (az (de 4 (eC (.int 0)))
 (az (de 5 (eC (.int 0)))
 (az (gO (dI c9 "rows" (eV 0)) (gT 2 (p8 (gN 6) (p8 (gN 7) vB)))
 (az (cN (cj (aa tW (eV 6) (eV 4)))
 (ji 3 (cu (ag (aa br (eV 4) (eC (.int 1))) (ag (eV 6) (ag (aa br (eV 5) (eV 7)) (ag (eV 7) af)))))) cR)
 (az (qk 5 (aa cz (eV 7) (aa dH (eV 6) (eV 4))))
 (de 4 (eV 6)))))
 (qj 3 (aT (cw 1 oY (ag (eV 3) af))))))))
noncomputable def CQ:List D->Option Sl:=bK Lv 8
theorem iL:Wo (CQ [a0,a1,a2]) Q↔Wo (Lv [.sh a0,.sh a1,.sh a2,.no,.no,.no,.no,.no]) (bS Q):=fj
noncomputable def LB:SF:=
 (az (ei 3 (bU (ag (cu (ag (eC (.int 0)) (ag (eC (.int 0)) (ag (eC (.int 0)) (ag (eC (.int 0)) af))))) af)))
 (az (Jx (rP EF (ag (eC (.int 1)) (ag (aa br (dI c9 "many" (eV 0)) (eC (.int 1))) af))) (gN 4)
 (az (de 5 (aa cz (dI c9 "size" (eV 0)) (eV 4)))
 (ji 3 (cu (ag (aa br (aa dH (eV 5) (dI c9 "size" (eV 0))) (eC (.int 1))) (ag (eV 5) (ag (aa cz (dI c9 "price" (eV 0)) (eV 4)) (ag (eC (.int 0)) af))))))))
 (qj 3 (aT (cw 1 oY (ag (eV 3) af))))))
noncomputable def CS:List D->Option Sl:=bK LB 6
theorem gA:Wo (CS [a0,a1,a2]) Q↔Wo (LB [.sh a0,.sh a1,.sh a2,.no,.no,.no]) (bS Q):=fj
noncomputable def Ls:SF:=
 (aT (w9 (eV 2) (dI c9 "name" (eV 0))))
noncomputable def CP:List D->Option Sl:=bK Ls 3
theorem iN:Wo (CP [a0,a1,a2]) Q↔Wo (Ls [.sh a0,.sh a1,.sh a2]) (bS Q):=fj
noncomputable def FU:fq:=[("Each",CU),("Flat",CM),("Bands",CN),("Steps",CQ),("Blocks",CS),("Named",CP)]
noncomputable def Lu:SF:=
 (az (de 3 (oq "form_here" 3 FU (eV 0) (ag (mL (kf (oq "parts" 1 CH (eV 0) af)) [1,2] 1 (gN 0) sV (oq "form_up_to" 3 [] (eV 0) (ag (eV 1) (ag (eV 2) af)))) (ag (eV 2) af))))
 (az (cN (q4 (cj (aa Js (eV 1) (eC .bz))) (cj (aa tW (lD (bV 3)) (eV 1))))
 EJ cR)
 (aT (eV 3))))
noncomputable def s9:List D->Option Sl:=bK Lu 4
theorem iM:Wo (s9 [a0,a1,a2]) Q↔Wo (Lu [.sh a0,.sh a1,.sh a2,.no]) (bS Q):=fj
noncomputable def FP:fq:=[("Each",s9),("Flat",s9),("Bands",s9),("Steps",s9),("Blocks",s9),("Named",s9)]
noncomputable abbrev QX:Stmt:=top 19
noncomputable abbrev Ld{α:Type}(Y:Str->Stmt->List Str->α):α:=Y "look_up_names" QX ["rule","forms"]
noncomputable def Lb:SF:=
 (gO (oq "names" 1 CG (eV 0) af) (gN 2)
 (cN (cj (rQ true (eV 2) (eV 1)))
 EJ cR))
noncomputable def CT:List D->Option Sl:=bK Lb 3
theorem kN:Wo (CT [a0,a1]) Q↔Wo (Lb [.sh a0,.sh a1,.no]) (bS Q):=fj
noncomputable def K1:SF:=
 (az (Jw (cw 2 CT (ag (eV 0) (ag (eV 1) af))))
 (aT (oq "form_up_to" 3 FP (eV 0) (ag (eC (.int 60)) (ag (eV 1) af)))))
noncomputable def tf:List D->Option Sl:=bK K1 2
theorem oI:Wo (tf [a0,a1]) Q↔Wo (K1 [.sh a0,.sh a1]) (bS Q):=fj
noncomputable def Cu:fq:=[("Each",tf),("Flat",tf),("Bands",tf),("Steps",tf),("Blocks",tf),("Named",tf)]
noncomputable def Cz:List Str:=["name"]
noncomputable def Ft:List D->Option (List D):=lq (eT "name" (eV 1) nU) 2 Cz
noncomputable def Co:List Str:=["size","price","many"]
noncomputable def Fs:List D->Option (List D):=lq (eT "size" (eV 1) (eT "price" (eV 2) (eT "many" (eV 3) nU))) 4 Co
noncomputable def CA:List Str:=["rows"]
noncomputable def CF:List D->Option (List D):=lq (eT "rows" (mL (kf (eV 1)) [] 2 (gT 2 (p8 (gN 0) (p8 (gN 1) vB))) sV (cu (ag (eV 0) (ag (eV 1) af)))) nU) 2 CA
noncomputable def Cy:List Str:=["rows"]
noncomputable def Cq:List D->Option (List D):=lq (eT "rows" (mL (kf (eV 1)) [] 2 (gT 2 (p8 (gN 0) (p8 (gN 1) vB))) sV (cu (ag (eV 0) (ag (eV 1) af)))) nU) 2 Cy
noncomputable def Ci:List Str:=["price","low","high"]
noncomputable def Fi:List D->Option (List D):=lq (eT "price" (eV 1) (eT "low" (eV 2) (eT "high" (eV 3) nU))) 4 Ci
noncomputable def Cg:List Str:=["unit","low","high"]
noncomputable def Fg:List D->Option (List D):=lq (eT "unit" (eV 1) (eT "low" (eV 2) (eT "high" (eV 3) nU))) 4 Cg
noncomputable abbrev QF:Stmt:=top 35
noncomputable abbrev KR{α:Type}(Y:Str->Stmt->List Str->α):α:=Y "_law_rule" QF ["plan"]
noncomputable def KG:SF:=
 (az (de 1 (aS (bV 0) (eC (.int 0))))
 (az (cN (cj (aa bP (eV 1) (eC (.str "each"))))
 (aT (sG "Each" 3 Cg Fg (ag (aS (bV 0) (eC (.int 1))) (ag (aS (bV 0) (eC (.int 2))) (ag (aS (bV 0) (eC (.int 3))) af))))) cR)
 (az (cN (cj (aa bP (eV 1) (eC (.str "flat"))))
 (aT (sG "Flat" 3 Ci Fi (ag (aS (bV 0) (eC (.int 1))) (ag (aS (bV 0) (eC (.int 2))) (ag (aS (bV 0) (eC (.int 3))) af))))) cR)
 (az (cN (cj (aa bP (eV 1) (eC (.str "bands"))))
 (aT (sG "Bands" 1 Cy Cq (ag (Es (kX (aS (bV 0) (eC (.int 1))))) af))) cR)
 (az (cN (cj (aa bP (eV 1) (eC (.str "steps"))))
 (aT (sG "Steps" 1 CA CF (ag (Es (kX (aS (bV 0) (eC (.int 1))))) af))) cR)
 (az (cN (cj (aa bP (eV 1) (eC (.str "blocks"))))
 (aT (sG "Blocks" 3 Co Fs (ag (aS (bV 0) (eC (.int 1))) (ag (aS (bV 0) (eC (.int 2))) (ag (aS (bV 0) (eC (.int 3))) af))))) cR)
 (aT (sG "Named" 1 Cz Ft (ag (aS (bV 0) (eC (.int 1))) af)))))))))
noncomputable def CL:List D->Option Sl:=bK KG 2
theorem pH:Wo (CL [a0]) Q↔Wo (KG [.sh a0,.no]) (bS Q):=fj
noncomputable abbrev Qr:Stmt:=top 29
noncomputable abbrev KW{α:Type}(Y:Str->Stmt->List Str->α):α:=Y "_law_mix" Qr ["cell","k","size"]
noncomputable def Kk:SF:=
 (az (de 3 (aa br (eC (.int 271828182845904523536028747135266249775724709369995)) (aa cz (aa cz (eC (.int 2)) (eV 1)) (eV 1))))
 (az (de 4 (aa br (aa cz (aa br (aa pf (eV 0) (aa nY (eC (.int 10)) (eC (.int 60)))) (eC (.int 1))) (eV 3)) (aa cz (eC (.int 7907)) (eV 1))))
 (aT (aa pf (aa rM (aa pf (aa cz (eV 4) (eV 4)) (aa br (aa nY (eC (.int 10)) (eC (.int 60))) (eC (.int 7)))) (eC (.int 11))) (eV 2)))))
noncomputable def k7:List D->Option Sl:=bK Kk 5
theorem qE:Wo (k7 [a0,a1,a2]) Q↔Wo (Kk [.sh a0,.sh a1,.sh a2,.no,.no]) (bS Q):=fj
noncomputable abbrev QA:Stmt:=top 30
noncomputable abbrev KY{α:Type}(Y:Str->Stmt->List Str->α):α:=Y "_law_price" QA ["cell","k"]
noncomputable def K5:SF:=
 (az (de 2 (aS (kX (bU (ag (eC (.int 3)) (ag (aa nY (eC (.int 10)) (eC (.int 9))) (ag (aa nY (eC (.int 10)) (eC (.int 39))) af))))) (cw 3 k7 (ag (eV 0) (ag (aa br (eV 1) (eC (.int 60))) (ag (eC (.int 3)) af))))))
 (aT (aa dH (cw 3 k7 (ag (eV 0) (ag (eV 1) (ag (aa br (aa cz (eC (.int 2)) (eV 2)) (eC (.int 1))) af)))) (eV 2))))
noncomputable def uB:List D->Option Sl:=bK K5 3
theorem oE:Wo (uB [a0,a1]) Q↔Wo (K5 [.sh a0,.sh a1,.no]) (bS Q):=fj
noncomputable abbrev QE:Stmt:=top 31
noncomputable abbrev KQ{α:Type}(Y:Str->Stmt->List Str->α):α:=Y "_law_rows" QE ["cell","scale"]
noncomputable def KE:SF:=
 (az (ei 2 (bU af))
 (az (de 3 (aa rM (aa cz (cw 3 k7 (ag (eV 0) (ag (eC (.int 30)) (ag (eV 1) af)))) (cw 3 k7 (ag (eV 0) (ag (eC (.int 31)) (ag (eC (.int 3)) af))))) (eC (.int 2))))
 (az (vC nL (ag (aa br (eC (.int 1)) (cw 3 k7 (ag (eV 0) (ag (eC (.int 32)) (ag (eC (.int 3)) af))))) af) (gN 4)
 (az (ji 2 (cu (ag (eV 3) (ag (cw 2 uB (ag (eV 0) (ag (aa br (eC (.int 33)) (eV 4)) af))) af))))
 (de 3 (aa br (aa br (eV 3) (eC (.int 1))) (cw 3 k7 (ag (eV 0) (ag (aa br (eC (.int 40)) (eV 4)) (ag (eV 1) af))))))))
 (sU 2))))
noncomputable def ze:List D->Option Sl:=bK KE 5
theorem pI:Wo (ze [a0,a1]) Q↔Wo (KE [.sh a0,.sh a1,.no,.no,.no]) (bS Q):=fj
noncomputable abbrev QD:Stmt:=top 32
noncomputable abbrev KP{α:Type}(Y:Str->Stmt->List Str->α):α:=Y "_law_leaf" QD ["cell","scale"]
noncomputable def KD:SF:=
 (az (de 2 (aS (kX (bU (ag (eC (.str "each")) (ag (eC (.str "flat")) (ag (eC (.str "bands")) (ag (eC (.str "steps")) (ag (eC (.str "blocks")) (ag (eC (.str "name")) af)))))))) (cw 3 k7 (ag (eV 0) (ag (eC (.int 1)) (ag (eC (.int 6)) af))))))
 (az (de 3 (cw 2 uB (ag (eV 0) (ag (eC (.int 2)) af))))
 (az (de 4 (aa cz (cw 3 k7 (ag (eV 0) (ag (eC (.int 3)) (ag (eV 1) af)))) (cw 3 k7 (ag (eV 0) (ag (eC (.int 4)) (ag (eC (.int 2)) af))))))
 (az (de 5 (aa br (eV 4) (aa cz (cw 3 k7 (ag (eV 0) (ag (eC (.int 5)) (ag (eV 1) af)))) (cw 3 k7 (ag (eV 0) (ag (eC (.int 6)) (ag (eC (.int 4)) af)))))))
 (az (cN (dU (cj (aa bP (eV 2) (eC (.str "bands")))) (cj (aa bP (eV 2) (eC (.str "steps")))))
 (aT (cu (ag (eV 2) (ag (cw 2 ze (ag (eV 0) (ag (eV 1) af))) af)))) cR)
 (az (cN (cj (aa bP (eV 2) (eC (.str "blocks"))))
 (aT (cu (ag (eV 2) (ag (aa br (eC (.int 1)) (cw 3 k7 (ag (eV 0) (ag (eC (.int 7)) (ag (eV 1) af))))) (ag (eV 3) (ag (aa br (eC (.int 1)) (cw 3 k7 (ag (eV 0) (ag (eC (.int 8)) (ag (eC (.int 4)) af))))) af)))))) cR)
 (az (cN (cj (aa bP (eV 2) (eC (.str "name"))))
 (aT (cu (ag (eV 2) (ag (aS (kX (bU (ag (eC (.str "p")) (ag (eC (.str "qq")) (ag (eC (.str "ptop")) af))))) (cw 3 k7 (ag (eV 0) (ag (eC (.int 9)) (ag (eC (.int 3)) af))))) af)))) cR)
 (aT (cu (ag (eV 2) (ag (eV 3) (ag (eV 4) (ag (eV 5) af)))))))))))))
noncomputable def zd:List D->Option Sl:=bK KD 6
theorem pJ:Wo (zd [a0,a1]) Q↔Wo (KD [.sh a0,.sh a1,.no,.no,.no,.no]) (bS Q):=fj
noncomputable abbrev QC:Stmt:=top 33
noncomputable abbrev KO{α:Type}(Y:Str->Stmt->List Str->α):α:=Y "_law_form" QC ["cell","scale"]
noncomputable def KC:SF:=
 (az (ei 2 (bU af))
 (az (de 3 (aa dH (cw 3 k7 (ag (eV 0) (ag (eC (.int 70)) (ag (aa cz (eC (.int 2)) (eV 1)) af)))) (eV 1)))
 (az (vC nL (ag (cw 3 k7 (ag (eV 0) (ag (eC (.int 71)) (ag (eC (.int 4)) af)))) af) (gN 4)
 (az (de 5 (aa br (eV 3) (aa cz (cw 3 k7 (ag (eV 0) (ag (aa br (eC (.int 72)) (eV 4)) (ag (eV 1) af)))) (cw 3 k7 (ag (eV 0) (ag (aa br (eC (.int 76)) (eV 4)) (ag (eC (.int 2)) af)))))))
 (az (de 6 (eC (.int 0)))
 (az (cN (cj (aa sF (eV 3) (eV 5)))
 (de 6 (cw 2 uB (ag (eV 0) (ag (aa br (eC (.int 80)) (eV 4)) af)))) cR)
 (az (ji 2 (cu (ag (eV 3) (ag (eV 5) (ag (cw 2 uB (ag (eV 0) (ag (aa br (eC (.int 84)) (eV 4)) af))) (ag (eV 6) af))))))
 (de 3 (aa br (aa br (eV 5) (eC (.int 2))) (cw 3 k7 (ag (eV 0) (ag (aa br (eC (.int 88)) (eV 4)) (ag (eV 1) af)))))))))))
 (aT (Ca (bV 2))))))
noncomputable def zc:List D->Option Sl:=bK KC 7
theorem pK:Wo (zc [a0,a1]) Q↔Wo (KC [.sh a0,.sh a1,.no,.no,.no,.no,.no]) (bS Q):=fj
noncomputable abbrev P4:Stmt:=top 28
noncomputable abbrev Kt{α:Type}(Y:Str->Stmt->List Str->α):α:=Y "_law_at" P4 ["script","k"]
noncomputable def Kh:SF:=
 (az (cN (cj (aa sF (eV 1) (lD (bV 0))))
 (aT (aS (bV 0) (eV 1))) cR)
 (aT (eC (.int 0))))
noncomputable def zb:List D->Option Sl:=bK Kh 2
theorem su:Wo (zb [a0,a1]) Q↔Wo (Kh [.sh a0,.sh a1]) (bS Q):=fj
noncomputable abbrev Qz:Stmt:=top 34
noncomputable abbrev K'{α:Type}(Y:Str->Stmt->List Str->α):α:=Y "_law_forms" Qz ["script","scale"]
noncomputable def K4:SF:=
 (az (ei 2 HE)
 (az (vC nL (ag (eC (.int 3)) af) (gN 3)
 (xZ 2 (cw 2 zc (ag (cw 2 zb (ag (eV 0) (ag (aa br (eC (.int 1)) (eV 3)) af))) (ag (eV 1) af))) (aS (kX (bU (ag (eC (.str "p")) (ag (eC (.str "qq")) (ag (eC (.str "ptop")) af))))) (eV 3))))
 (sU 2)))
noncomputable def zf:List D->Option Sl:=bK K4 4
theorem oF:Wo (zf [a0,a1]) Q↔Wo (K4 [.sh a0,.sh a1,.no,.no]) (bS Q):=fj
noncomputable abbrev Cf:Stmt:=top 42
noncomputable abbrev zw{α:Type}(Y:Str->Stmt->List Str->α):α:=Y "law" Cf ["script"]
noncomputable def Jl:SF:=
 (az (de 1 (aS (kX (bU (ag (eC (.int 9)) (ag (aa nY (eC (.int 10)) (eC (.int 6))) (ag (aa nY (eC (.int 10)) (eC (.int 38))) af))))) (aa pf (cw 2 zb (ag (eV 0) (ag (eC (.int 0)) af))) (eC (.int 3)))))
 (az (de 2 (cw 2 zf (ag (eV 0) (ag (eV 1) af))))
 (az (vC nL (ag (B' yO (ag (lD (bV 0)) (ag (eC (.int 30)) af))) af) (gN 3)
 (az (de 4 (cw 2 zd (ag (aS (bV 0) (eV 3)) (ag (eV 1) af))))
 (az (de 5 (cw 1 CL (ag (eV 4) af)))
 (az (de 6 (oq "form" 2 Cu (eV 5) (ag (eV 2) af)))
 (az (cN (dU (uh (jf (xc E1 (eV 5)))) (uh (jf (cw 1 CK (ag (eV 6) af)))))
 (aT (eC (.bl false))) cR)
 (az (gO (cw 4 zi (ag (eV 4) (ag (eV 2) (ag (yq (bV 0) (we (eV 3)) (we (aa br (eV 3) (eC (.int 4))))) (ag (eV 1) af))))) (gN 7)
 (cN (cj (aa dA (cw 2 CJ (ag (eV 6) (ag (eV 7) af))) (cw 3 zh (ag (eV 4) (ag (eV 7) (ag (eV 2) af))))))
 (aT (eC (.bl false))) cR))
 (az (de 8 (cw 2 xO (ag (eV 4) (ag (eV 2) af))))
 (az (cN (q4 (cj (aa bP (lD (bV 8)) (eC (.int 0)))) (cj (aa dA (eV 6) (cu af))))
 (aT (eC (.bl false))) cR)
 (az (cN (q4 (cj (aa tW (lD (bV 8)) (eC (.int 0)))) (dU (cj (aa dA (aS (kX (aS (bV 6) (eC (.int 0)))) (eC (.int 0))) (t5 (bV 8)))) (cj (aa dA (aS (kX (aS (bV 6) (qu (eC (.int 1))))) (eC (.int 1))) (t6 (bV 8))))))
 (aT (eC (.bl false))) cR)
 (az (de 9 (bU af))
 (az (cN (cj (aa bP (aS (bV 4) (eC (.int 0))) (eC (.str "name"))))
 (de 9 (bU (ag (aS (bV 4) (eC (.int 1))) af))) cR)
 (cN (cj (aa dA (oq "names" 1 CG (eV 5) af) (eV 9)))
 (aT (eC (.bl false))) cR))))))))))))
 (aT (eC (.bl true))))))
noncomputable def E6:List D->Option Sl:=bK Jl 10
theorem CV:Wo (E6 [a0]) Q↔Wo (Jl [.sh a0,.no,.no,.no,.no,.no,.no,.no,.no,.no]) (bS Q):=fj
structure Q5(K:aK)(mg:Str->Option Value)(aE aD ar ao ah aq bA aB aj aQ aC aW aV aR aO aJ aP ae aI a9 aX aM bf bg:Addr):Prop where
 bO:kR K "Each" aE
 wZ:mg "Each" = some (.ref aE)
 vX:Mk K aE bg
 n_Each_name:au K aE "name"
 n_Each_unit:au K aE "unit"
 n_Each_low:au K aE "low"
 n_Each_high:au K aE "high"
 n_Each_price:au K aE "price"
 n_Each_rows:au K aE "rows"
 n_Each_size:au K aE "size"
 n_Each_many:au K aE "many"
 h_Each_parts:bL K aE "parts" aB
 h_Each_all_names:bL K aE "all_names" aj
 h_Each_names:bL K aE "names" aC
 h_Each_form_here:bL K aE "form_here" aW
 h_Each_form_up_to:bL K aE "form_up_to" ae
 h_Each_form:bL K aE "form" aI
 nT:uI K aE bA true
 bN:kR K "Flat" aD
 wY:mg "Flat" = some (.ref aD)
 vW:Mk K aD bf
 n_Flat_name:au K aD "name"
 n_Flat_unit:au K aD "unit"
 n_Flat_low:au K aD "low"
 n_Flat_high:au K aD "high"
 n_Flat_price:au K aD "price"
 n_Flat_rows:au K aD "rows"
 n_Flat_size:au K aD "size"
 n_Flat_many:au K aD "many"
 h_Flat_parts:bL K aD "parts" aB
 h_Flat_all_names:bL K aD "all_names" aj
 h_Flat_names:bL K aD "names" aC
 h_Flat_form_here:bL K aD "form_here" aV
 h_Flat_form_up_to:bL K aD "form_up_to" ae
 h_Flat_form:bL K aD "form" aI
 nS:uI K aD bA true
 bF:kR K "Bands" ar
 tV:mg "Bands" = some (.ref ar)
 tE:Mk K ar aM
 n_Bands_name:au K ar "name"
 n_Bands_unit:au K ar "unit"
 n_Bands_low:au K ar "low"
 n_Bands_high:au K ar "high"
 n_Bands_price:au K ar "price"
 n_Bands_rows:au K ar "rows"
 n_Bands_size:au K ar "size"
 n_Bands_many:au K ar "many"
 h_Bands_parts:bL K ar "parts" aB
 h_Bands_all_names:bL K ar "all_names" aj
 h_Bands_names:bL K ar "names" aC
 h_Bands_form_here:bL K ar "form_here" aR
 h_Bands_form_up_to:bL K ar "form_up_to" ae
 h_Bands_form:bL K ar "form" aI
 m6:uI K ar bA true
 bD:kR K "Steps" ao
 tT:mg "Steps" = some (.ref ao)
 tz:Mk K ao aM
 n_Steps_name:au K ao "name"
 n_Steps_unit:au K ao "unit"
 n_Steps_low:au K ao "low"
 n_Steps_high:au K ao "high"
 n_Steps_price:au K ao "price"
 n_Steps_rows:au K ao "rows"
 n_Steps_size:au K ao "size"
 n_Steps_many:au K ao "many"
 h_Steps_parts:bL K ao "parts" aB
 h_Steps_all_names:bL K ao "all_names" aj
 h_Steps_names:bL K ao "names" aC
 h_Steps_form_here:bL K ao "form_here" aO
 h_Steps_form_up_to:bL K ao "form_up_to" ae
 h_Steps_form:bL K ao "form" aI
 mY:uI K ao bA true
 bh:kR K "Blocks" ah
 rL:mg "Blocks" = some (.ref ah)
 rh:Mk K ah aX
 n_Blocks_name:au K ah "name"
 n_Blocks_unit:au K ah "unit"
 n_Blocks_low:au K ah "low"
 n_Blocks_high:au K ah "high"
 n_Blocks_price:au K ah "price"
 n_Blocks_rows:au K ah "rows"
 n_Blocks_size:au K ah "size"
 n_Blocks_many:au K ah "many"
 h_Blocks_parts:bL K ah "parts" aB
 h_Blocks_all_names:bL K ah "all_names" aj
 h_Blocks_names:bL K ah "names" aC
 h_Blocks_form_here:bL K ah "form_here" aJ
 h_Blocks_form_up_to:bL K ah "form_up_to" ae
 h_Blocks_form:bL K ah "form" aI
 l6:uI K ah bA true
 bE:kR K "Named" aq
 tU:mg "Named" = some (.ref aq)
 tD:Mk K aq a9
 n_Named_name:au K aq "name"
 n_Named_unit:au K aq "unit"
 n_Named_low:au K aq "low"
 n_Named_high:au K aq "high"
 n_Named_price:au K aq "price"
 n_Named_rows:au K aq "rows"
 n_Named_size:au K aq "size"
 n_Named_many:au K aq "many"
 h_Named_parts:bL K aq "parts" aB
 h_Named_all_names:bL K aq "all_names" aQ
 h_Named_names:bL K aq "names" aC
 h_Named_form_here:bL K aq "form_here" aP
 h_Named_form_up_to:bL K aq "form_up_to" ae
 h_Named_form:bL K aq "form" aI
 mZ:uI K aq bA true
 wX:mg "Rule" = some (.ref bA)
section
variable {P:Program}{w:World}{K:aK}{mg:Str->Option Value}{base:Heap}
variable {aE aD ar ao ah aq bA aB aj aQ aC aW aV aR aO aJ aP ae aI a9 aX aM bf bg:Addr}(OB:Q5 K mg aE aD ar ao ah aq bA aB aj aQ aC aW aV aR aO aJ aP ae aI a9 aX aM bf bg)
variable (z_tuple:mg "tuple" = none)
variable (z_len:mg "len" = none)
variable (z_range:mg "range" = none)
variable (z_list:mg "list" = none)
variable (z_sum:mg "sum" = none)
variable (z_min:mg "min" = none)
variable (z_int:mg "int" = none)
variable (z_sorted:mg "sorted" = none)
variable (z_set:mg "set" = none)
variable (z_isinstance:mg "isinstance" = none)
variable (z_bool:mg "bool" = none)
variable (z_max:mg "max" = none)
variable (z_MOST_STRETCHES:LQ mg "MOST_STRETCHES" 60)
theorem a59(D':Lo (df K a) d):Lo (Om P w K mg base a) 1 sk:=qZ (N:=["self"]) D' λX r h=>by
 cases r
 exact (bx (cm (gz be)))
variable (uD:Lo (Om P w K mg base aB) 1 sk)
include OB uD in
theorem ZS:oN P w K mg base "parts" 1 1 CH:=(eh OB.bO OB.h_Each_parts uD (eh OB.bN OB.h_Flat_parts uD (eh OB.bF OB.h_Bands_parts uD (eh OB.bD OB.h_Steps_parts uD (eh OB.bh OB.h_Blocks_parts uD (eh OB.bE OB.h_Named_parts uD vK))))))
variable (cX:oN P w K mg base "parts" 1 1 CH)
include cX in
theorem a4l(D':Lp (df K a) d):Lp (Om P w K mg base a) 2 uA:=qZ (N:=["self","found","part"]) D' λX r h=>by
 cases r
 exact (bu (h.set 1 (gz be)) (bu (si h.own h.calm (h.yd (n:=1) cX (h.v 0)) (h.tg 2) (bx (h.ext 1 (h.yd (n:=1) (vK (j:=1)) (h.v 2))))) (bx (h.rB 1))))
variable (vQ:Lp (Om P w K mg base aj) 2 uA)
include OB in
theorem Ze:FL K "name" c9:=(cS OB.bO OB.n_Each_name (cS OB.bN OB.n_Flat_name (cS OB.bF OB.n_Bands_name (cS OB.bD OB.n_Steps_name (cS OB.bh OB.n_Blocks_name (cS OB.bE OB.n_Named_name vJ))))))
variable (dO:FL K "name" c9)
include dO in
theorem a3Y(D':Lx (df K a) d):Lx (Om P w K mg base a) 1 CO:=qZ (N:=["self"]) D' λX r h=>by
 cases r
 exact (bx (cm (gz (ai (oW (h.v 0) dO) be))))
variable (FJ:Lx (Om P w K mg base aQ) 1 CO)
include OB vQ FJ in
theorem a5a:oN P w K mg base "all_names" 1 2 FT:=(eh OB.bO OB.h_Each_all_names vQ (eh OB.bN OB.h_Flat_all_names vQ (eh OB.bF OB.h_Bands_all_names vQ (eh OB.bD OB.h_Steps_all_names vQ (eh OB.bh OB.h_Blocks_all_names vQ (eh OB.bE OB.h_Named_all_names FJ vK))))))
variable (cQ:oN P w K mg base "all_names" 1 2 FT)
include z_sorted z_set cQ in
theorem ZZ(D':Ln (df K a) d):Ln (Om P w K mg base a) 3 sj:=qZ (N:=["self"]) D' λX r h=>by
 cases r
 exact (bx (cm (OS h.calm h.g z_sorted h.g z_set (h.yd (n:=1) cQ (h.v 0)))))
variable (uC:Ln (Om P w K mg base aC) 3 sj)
include OB uC in
theorem ZR:oN P w K mg base "names" 1 3 CG:=(eh OB.bO OB.h_Each_names uC (eh OB.bN OB.h_Flat_names uC (eh OB.bF OB.h_Bands_names uC (eh OB.bD OB.h_Steps_names uC (eh OB.bh OB.h_Blocks_names uC (eh OB.bE OB.h_Named_names uC vK))))))
variable (cY:oN P w K mg base "names" 1 3 CG)
theorem ZT(D':KN (Def K mg) a d):KN (Oz P w K mg base) 1 xO:=dB (N:=["plan","forms","kind","told","part"]) D' λX r h=>by
 cases r
 exact (bu (h.bT 2 (bb (h.bv 0) aw)) (bu (dv (cB (iZ h.u8) (h.v 2) eL) (bu (h.set 3 (gz be)) (bu (si h.own h.calm (h.vZ (h.v 1) (bb (h.bv 0) aw)) (h.tg 4) (bx (h.ext 3 (gz (ai (bb (h.bv 4) aw) (ai (bb (h.bv 4) aw) be)))))) (bx (h.rB 3)))) dD) (bu (dv (dj (qA (cB (iZ h.u8) (h.v 2) eL) (qB (cB (iZ h.u8) (h.v 2) eL)))) (bx (cm (gz (ai (bb (h.bv 0) aw) (ai (bb (h.bv 0) aw) be))))) dD) (bu (dv (cB (iZ h.u8) (h.v 2) eL) (bx (cm (gz (ai aw (ai (bb (h.bv 0) aw) (ai (bw jC (bb (h.bv 0) aw) (bb (h.bv 0) aw)) be)))))) dD) (bu (dv (dj (qA (cB (iZ h.u8) (h.v 2) eL) (qB (cB (iZ h.u8) (h.v 2) eL)))) (bx (cm (bw du (gz (ai aw be)) (xM (N':=["row"]) (caps:=[]) (nt:=1) h ⟨rfl,by decide +kernel,by decide +kernel,by decide +kernel,by decide +kernel,rfl,rfl,by decide +kernel⟩ (xK (bb (h.bv 0) aw)) (λX1 pA px pq m9 pk h1=>⟨(h1.tg 0),yW,(bb (h1.bv 0) aw)⟩))))) dD) (bx (cm (gz (ai aw be)))))))))
variable (xQ:KN (Oz P w K mg base) 1 xO)
theorem Z8(D':Lk (Def K mg) a d):Lk (Oz P w K mg base) 1 CJ:=dB (N:=["form","x","part"]) D' λX r h=>by
 cases r
 exact (bu (si h.own h.calm (h.v 0) (h.tg 2) (bx (dv (dj (vG (cB yT (bb (h.bv 2) aw) (h.v 1)) (vN (cB yT (h.v 1) (bb (h.bv 2) aw))))) (bx (cm (bw du (bb (h.bv 2) aw) (bw jC (bb (h.bv 2) aw) (bw p9 (h.v 1) (bb (h.bv 2) aw)))))) dD))) (bx (cm yV)))
variable (FA:Lk (Oz P w K mg base) 1 CJ)
include z_len z_range z_sum z_min z_int in
theorem a4O(D':Lc (Def K mg) a d):Lc (Oz P w K mg base) 1 zh:=dB (N:=["plan","x","forms","kind","tops","found"]) D' λX r h=>by
 cases r
 exact (bu (h.bT 3 (bb (h.bv 0) aw)) (bu (dv (cB (iZ h.u8) (h.v 3) eL) (bu (W8 (i:=5) false (N':=["part","x"]) (caps:=[1]) (nt:=1) h ⟨rfl,by decide +kernel,by decide +kernel,by decide +kernel,by decide +kernel,rfl,rfl,by decide +kernel⟩ (xK (h.vZ (h.v 2) (bb (h.bv 0) aw))) (λX1 pA px pq m9 pk h1=>⟨(h1.tg 0),(N7 (dj (vG (cB yT (bb (h1.bv 0) aw) (h1.v 1)) (vN (cB yT (h1.v 1) (bb (h1.bv 0) aw)))))),(h1.v 0)⟩)) (bu (dv (cB (iZ h.u8) (um h.g z_len (h.bv 5)) aw) (bx (cm yV)) dD) (bx (cm (bw du (bb (lL (bb (h.bv 5) aw)) aw) (bw jC (bb (lL (bb (h.bv 5) aw)) aw) (bw p9 (h.v 1) (bb (lL (bb (h.bv 5) aw)) aw)))))))) dD) (bu (dv (dj (qA (cB (iZ h.u8) (h.v 3) eL) (qB (cB (iZ h.u8) (h.v 3) eL)))) (bu (dv (dj (qA (cB vF (h.v 1) (bb (h.bv 0) aw)) (qB (cB vF (bb (h.bv 0) aw) (h.v 1))))) (bx (cm yV)) dD) (bx (cm (bw jC (bb (h.bv 0) aw) (bb (lL (gz (ai aw (ai (h.v 1) be)))) (WA h.g z_int (EL (iZ h.u8) (h.v 3) eL))))))) dD) (bu (dv (cB (iZ h.u8) (h.v 3) eL) (bu (dv (dj (qA (cB vF (h.v 1) aw) (qB (cB xI (h.v 1) (bw jC (bb (h.bv 0) aw) (bb (h.bv 0) aw)))))) (bx (cm yV)) dD) (bx (cm (bw jC (bb (h.bv 0) aw) (bw JG (bw p9 (bw du (h.v 1) (bb (h.bv 0) aw)) aw) (bb (h.bv 0) aw)))))) dD) (bu (dv (dj (qA (cB vF (h.v 1) aw) (qB (cB xI (h.v 1) (bb (lL (bb (lL (bb (h.bv 0) aw)) (EN aw))) aw))))) (bx (cm yV)) dD) (bu (dv (cB (iZ h.u8) (h.v 3) eL) (bx (cm (bw jC (h.v 1) (bb (lL (xM (N':=["row","x"]) (caps:=[1]) (nt:=1) h ⟨rfl,by decide +kernel,by decide +kernel,by decide +kernel,by decide +kernel,rfl,rfl,by decide +kernel⟩ (xK (bb (h.bv 0) aw)) (λX1 pA px pq m9 pk h1=>⟨(h1.tg 0),(N7 (cB yT (h1.v 1) (bb (h1.bv 0) aw))),(bb (h1.bv 0) aw)⟩))) aw)))) dD) (bu (h.bT 4 (bw du (gz (ai aw be)) (xM (N':=["row"]) (caps:=[]) (nt:=1) h ⟨rfl,by decide +kernel,by decide +kernel,by decide +kernel,by decide +kernel,rfl,rfl,by decide +kernel⟩ (xK (bb (h.bv 0) aw)) (λX1 pA px pq m9 pk h1=>⟨(h1.tg 0),yW,(bb (h1.bv 0) aw)⟩)))) (bx (cm (V2 h.g z_sum h.calm (lL (xM (N':=["j","plan","x","tops"]) (caps:=[0,1,4]) (nt:=1) h ⟨rfl,by decide +kernel,by decide +kernel,by decide +kernel,by decide +kernel,rfl,rfl,by decide +kernel⟩ (Yl h.g z_range (ai (um h.g z_len (lL (bb (h.bv 0) aw))) be)) (λX1 pA px pq m9 pk h1=>⟨(h1.tg 0),yW,(bw jC (bb (lL (bb (lL (bb (h1.bv 1) aw)) (h1.v 0))) aw) (bw p9 (J6 (JW h1.calm) h1.g (zl m9 z_min) (by decide +kernel) (ai (h1.v 2) (ai (bb (h1.bv 3) (bw du (h1.v 0) aw)) be))) (J6 (JW h1.calm) h1.g (zl m9 z_min) (by decide +kernel) (ai (h1.v 2) (ai (bb (h1.bv 3) (h1.v 0)) be)))))⟩)))))))))))))
variable (FQ:Lc (Oz P w K mg base) 1 zh)
include z_sorted z_set xQ in
theorem a5A(D':Lj (Def K mg) a d):Lj (Oz P w K mg base) 2 zi:=dB (N:=["plan","forms","script","scale","told","x","cell"]) D' λX r h=>by
 cases r
 exact (bu (h.set 4 (gz (ai (EN aw) (ai aw (ai aw be))))) (bu (si h.own h.calm (J7 (lL (OS h.calm h.g z_sorted h.g z_set (h.cl xQ (ai (h.v 0) (ai (h.v 1) be))))) O5 (E7 aw)) (h.tg 5) (bx (h.ext 4 (gz (ai (bw p9 (h.v 5) aw) (ai (h.v 5) (ai (bw du (h.v 5) aw) be))))))) (bu (si h.own h.calm (J7 (h.bv 2) O5 (E7 aw)) (h.tg 6) (bx (h.app 4 (bw p9 (bw Ce (h.v 6) (bw jC aw (h.v 3))) (h.v 3))))) (bx (h.rB 4)))))
variable (Fz:Lj (Oz P w K mg base) 2 zi)
theorem Z3(D':K9 (Def K mg) a d):K9 (Oz P w K mg base) 1 xP:=dB (N:=["ahead","part"]) D' λX r h=>by
 cases r
 exact (bu (dv (cB yT (bb (h.bv 1) aw) (bb (h.bv 0) aw)) (bx (cm p7)) dD) (bu (dv (cB xI (bb (h.bv 1) aw) (bw du (bb (h.bv 0) aw) aw)) (bx (cm p7)) dD) (bx (cm (VX (EL vF (bb (h.bv 0) aw) (bb (h.bv 0) aw)) (V1 (EL (uo h.u8) (bw du (bb (h.bv 0) aw) (bw jC (bb (h.bv 0) aw) (bw p9 (bb (h.bv 1) aw) (bb (h.bv 0) aw)))) (bb (h.bv 1) aw))))))))
variable (FD:K9 (Oz P w K mg base) 1 xP)
include z_tuple z_len z_range z_int z_isinstance z_bool FD in
theorem Z9(D':Ll (Def K mg) a d):Ll (Oz P w K mg base) 2 CK:=dB (N:=["found","k","part","number"]) D' λX r h=>by
 cases r
 exact (bu (dv (y4 (sY (EM (bM (bM (bM (bM rfl)))) h.g z_isinstance h.g z_tuple (by decide +kernel) (h.v 0)))) (bx (cm p7)) dD) (bu (Ct h.own h.calm h.g z_range (ai (um h.g z_len (h.bv 0)) be) (h.tg 1) (bu (h.bT 2 (bb (h.bv 0) (h.v 1))) (bu (dv (dj (qA (y4 (sY (EM (bM (bM (bM (bM rfl)))) h.g z_isinstance h.g z_tuple (by decide +kernel) (h.v 2)))) (qB (cB (uo h.u8) (um h.g z_len (h.bv 2)) aw)))) (bx (cm p7)) dD) (bu (si h.own h.calm (h.v 2) (h.tg 3) (bx (dv (dj (qA (y4 (sY (EM (cC rfl) h.g z_isinstance h.g z_int (by decide +kernel) (h.v 3)))) (qB (sY (EM (bM (cC rfl)) h.g z_isinstance h.g z_bool (by decide +kernel) (h.v 3)))))) (bx (cm p7)) dD))) (bu (dv (dj (qA (cB vF (bb (h.bv 2) aw) (bb (h.bv 2) aw)) (qB (dj (vG (cB (iZ h.u8) (bb (h.bv 2) aw) (bb (h.bv 2) aw)) (vN (cB (uo h.u8) (bb (h.bv 2) aw) aw))))))) (bx (cm p7)) dD) (bx (dv (dj (vG (cB xI (h.v 1) aw) (vN (y4 (sY (h.cl FD (ai (bb (h.bv 0) (bw p9 (h.v 1) aw)) (ai (h.v 2) be)))))))) (bx (cm p7)) dD))))))) (bx (cm p7))))
variable (FC:Ll (Oz P w K mg base) 2 CK)
include OB in
theorem Zz:mg "Rule" = some (.ref bA)/\IL K bA E1:=⟨OB.wX,(y7 OB.bO OB.nT (y7 OB.bN OB.nS (y7 OB.bF OB.m6 (y7 OB.bD OB.mY (y7 OB.bh OB.l6 (y7 OB.bE OB.mZ VE))))))⟩
variable (iT:mg "Rule" = some (.ref bA)/\IL K bA E1)
theorem Z2(D':K8 (Def K mg) a d):K8 (Oz P w K mg base) 1 vP:=dB (N:=["row"]) D' λX r h=>by
 cases r
 exact (bx (cm (EL (iZ h.u8) (bb (h.bv 0) aw) (bb (h.bv 0) aw))))
variable (vO:K8 (Oz P w K mg base) 1 vP)
include vO in
theorem X6(D':J4 (Def K mg) a d):J4 (Oz P w K mg base) 2 uy:=dB (N:=["row"]) D' λX r h=>by
 cases r
 exact (bx (cm (NX (sY (h.cl vO (ai (h.v 0) be))) (mo (ai (bb (h.bv 0) aw) (ai (bb (h.bv 0) aw) (ai (bb (h.bv 0) aw) (ai aw be))))) (h.v 0))))
variable (vL:J4 (Oz P w K mg base) 2 uy)
theorem ZF(D':KS (Def K mg) a d):KS (Oz P w K mg base) 1 zg:=dB (N:=["line","low","x"]) D' λX r h=>by
 cases r
 exact (bx (cm (bw du (bb (h.bv 0) aw) (bw jC (bb (h.bv 0) aw) (bw p9 (h.v 2) (h.v 1))))))
variable (E':KS (Oz P w K mg base) 1 zg)
include vO vL E' in
theorem a5B(D':Li (Def K mg) a d):Li (Oz P w K mg base) 3 CI:=dB (N:=["ahead","row","step","rest"]) D' λX r h=>by
 cases r
 exact (bu (h.bT 2 (NX (sY (h.cl vO (ai (h.v 0) be))) (bw p9 (bb (h.bv 1) aw) (bb (h.bv 0) aw)) (bb (h.bv 0) aw))) (bu (dv (cB (uo h.u8) (bb (h.bv 1) aw) (h.cl E' (ai (mo (ai (bb (h.bv 0) aw) (ai (h.v 2) be))) (ai (bb (h.bv 0) aw) (ai (bb (h.bv 1) aw) be))))) (bx (cm (gz (ai (h.v 0) (ai (h.cl vL (ai (h.v 1) be)) be))))) dD) (bu (dv (dj (qA (sY (h.cl vO (ai (h.v 1) be))) (qB (cB (iZ h.u8) (bb (h.bv 1) aw) (h.v 2))))) (bx (cm (gz (ai (mo (ai (bb (h.bv 0) aw) (ai (bb (h.bv 1) aw) (ai (bb (h.bv 0) aw) (ai (h.v 2) be))))) be)))) dD) (bu (h.bT 3 (h.cl vL (ai (mo (ai (bw du (bb (h.bv 1) aw) aw) (ai (bb (h.bv 1) aw) (ai (bw du (bb (h.bv 1) aw) (bb (h.bv 1) aw)) (ai (bb (h.bv 1) aw) be))))) be))) (bx (cm (gz (ai (mo (ai (bb (h.bv 0) aw) (ai (bb (h.bv 1) aw) (ai (bb (h.bv 0) aw) (ai (h.v 2) be))))) (ai (h.v 3) be)))))))))
variable (Fy:Li (Oz P w K mg base) 3 CI)
include z_tuple vL Fy in
theorem Wl(D':JN (Def K mg) a d):JN (Oz P w K mg base) 4 oY:=dB (N:=["rows","made","row","ahead"]) D' λX r h=>by
 cases r
 exact (bu (h.set 1 (gz be)) (bu (si h.own h.calm (h.v 0) (h.tg 2) (bx (dv (dj (vG (Xc (h.bv 1)) (vN (cB (iZ h.u8) (bw du (bb (lL (bb (h.bv 1) (EN aw))) aw) aw) (bb (h.bv 2) aw))))) (bu (h.pop 3 1) (bx (h.ext 1 (h.cl Fy (ai (h.v 3) (ai (h.v 2) be)))))) (bx (h.app 1 (h.cl vL (ai (h.v 2) be))))))) (bx (cm (Py h.g z_tuple (h.bv 1))))))
variable (oV:JN (Oz P w K mg base) 4 oY)
include OB in
theorem Zh:FL K "unit" c9:=(cS OB.bO OB.n_Each_unit (cS OB.bN OB.n_Flat_unit (cS OB.bF OB.n_Bands_unit (cS OB.bD OB.n_Steps_unit (cS OB.bh OB.n_Blocks_unit (cS OB.bE OB.n_Named_unit vJ))))))
variable (iU:FL K "unit" c9)
include OB in
theorem Yx:FL K "low" c9:=(cS OB.bO OB.n_Each_low (cS OB.bN OB.n_Flat_low (cS OB.bF OB.n_Bands_low (cS OB.bD OB.n_Steps_low (cS OB.bh OB.n_Blocks_low (cS OB.bE OB.n_Named_low vJ))))))
variable (eI:FL K "low" c9)
include OB in
theorem Zc:FL K "high" c9:=(cS OB.bO OB.n_Each_high (cS OB.bN OB.n_Flat_high (cS OB.bF OB.n_Bands_high (cS OB.bD OB.n_Steps_high (cS OB.bh OB.n_Blocks_high (cS OB.bE OB.n_Named_high vJ))))))
variable (dP:FL K "high" c9)
include oV iU eI dP in
theorem a4n(D':LH (df K a) d):LH (Om P w K mg base a) 5 CU:=qZ (N:=["self","held","forms"]) D' λX r h=>by
 cases r
 exact (bx (cm (h.cl oV (ai (gz (ai (mo (ai (oW (h.v 0) eI) (ai (oW (h.v 0) dP) (ai (bw jC (oW (h.v 0) iU) (oW (h.v 0) eI)) (ai (oW (h.v 0) iU) be))))) be)) be))))
variable (FF:LH (Om P w K mg base aW) 5 CU)
include OB in
theorem ZN:FL K "price" c9:=(cS OB.bO OB.n_Each_price (cS OB.bN OB.n_Flat_price (cS OB.bF OB.n_Bands_price (cS OB.bD OB.n_Steps_price (cS OB.bh OB.n_Blocks_price (cS OB.bE OB.n_Named_price vJ))))))
variable (cZ:FL K "price" c9)
include oV eI dP cZ in
theorem a4m(D':LI (df K a) d):LI (Om P w K mg base a) 5 CM:=qZ (N:=["self","held","forms"]) D' λX r h=>by
 cases r
 exact (bx (cm (h.cl oV (ai (gz (ai (mo (ai (oW (h.v 0) eI) (ai (oW (h.v 0) dP) (ai (oW (h.v 0) cZ) (ai aw be))))) be)) be))))
variable (FG:LI (Om P w K mg base aV) 5 CM)
include OB in
theorem Zf:FL K "rows" c9:=(cS OB.bO OB.n_Each_rows (cS OB.bN OB.n_Flat_rows (cS OB.bF OB.n_Bands_rows (cS OB.bD OB.n_Steps_rows (cS OB.bh OB.n_Blocks_rows (cS OB.bE OB.n_Named_rows vJ))))))
variable (dN:FL K "rows" c9)
include oV dN in
theorem a3Z(D':Lw (df K a) d):Lw (Om P w K mg base a) 5 CN:=qZ (N:=["self","held","forms","stretches","low","top","unit"]) D' λX r h=>by
 cases r
 exact (bu (h.set 3 (gz be)) (bu (h.bT 4 aw) (bu (si h.own h.calm (oW (h.v 0) dN) (ES (n:=2) h.calm (vM (h.tg 5) (vM (h.tg 6) EZ))) (bu (h.app 3 (mo (ai (h.v 4) (ai (h.v 5) (ai (bw jC (h.v 4) (h.v 6)) (ai (h.v 6) be)))))) (bx (h.bT 4 (bw du (h.v 5) aw))))) (bx (JL 3 (cm (h.cl oV (ai (h.v 3) be))))))))
variable (FH:Lw (Om P w K mg base aR) 5 CN)
include oV dN in
theorem a3V(D':LA (df K a) d):LA (Om P w K mg base a) 5 CQ:=qZ (N:=["self","held","forms","stretches","ahead","cost","top","unit"]) D' λX r h=>by
 cases r
 exact (bu (h.set 3 (gz (ai (mo (ai aw (ai aw (ai aw (ai aw be))))) be))) (bu (h.bT 4 aw) (bu (h.bT 5 aw) (bu (si h.own h.calm (oW (h.v 0) dN) (ES (n:=2) h.calm (vM (h.tg 6) (vM (h.tg 7) EZ))) (bu (dv (cB xI (h.v 6) (h.v 4)) (bx (h.app 3 (mo (ai (bw du (h.v 4) aw) (ai (h.v 6) (ai (bw du (h.v 5) (h.v 7)) (ai (h.v 7) be))))))) dD) (bu (h.aug 5 (bw jC (h.v 7) (bw p9 (h.v 6) (h.v 4)))) (bx (h.bT 4 (h.v 6)))))) (bx (JL 3 (cm (h.cl oV (ai (h.v 3) be)))))))))
variable (FN:LA (Om P w K mg base aO) 5 CQ)
include OB in
theorem Zg:FL K "size" c9:=(cS OB.bO OB.n_Each_size (cS OB.bN OB.n_Flat_size (cS OB.bF OB.n_Bands_size (cS OB.bD OB.n_Steps_size (cS OB.bh OB.n_Blocks_size (cS OB.bE OB.n_Named_size vJ))))))
variable (iV:FL K "size" c9)
include OB in
theorem Zd:FL K "many" c9:=(cS OB.bO OB.n_Each_many (cS OB.bN OB.n_Flat_many (cS OB.bF OB.n_Bands_many (cS OB.bD OB.n_Steps_many (cS OB.bh OB.n_Blocks_many (cS OB.bE OB.n_Named_many vJ))))))
variable (lh:FL K "many" c9)
include z_range oV cZ iV lh in
theorem a3E(D':LC (df K a) d):LC (Om P w K mg base a) 5 CS:=qZ (N:=["self","held","forms","stretches","begun","last"]) D' λX r h=>by
 cases r
 exact (bu (h.set 3 (gz (ai (mo (ai aw (ai aw (ai aw (ai aw be))))) be))) (bu (W5 h.own h.calm (Ym h.g z_range (ai aw (ai (bw du (oW (h.v 0) lh) aw) be))) (h.tg 4) (bu (h.bT 5 (bw jC (oW (h.v 0) iV) (h.v 4))) (bx (h.app 3 (mo (ai (bw du (bw p9 (h.v 5) (oW (h.v 0) iV)) aw) (ai (h.v 5) (ai (bw jC (oW (h.v 0) cZ) (h.v 4)) (ai aw be))))))))) (bx (JL 3 (cm (h.cl oV (ai (h.v 3) be)))))))
variable (FO:LC (Om P w K mg base aJ) 5 CS)
include dO in
theorem a3X(D':Ly (df K a) d):Ly (Om P w K mg base a) 1 CP:=qZ (N:=["self","held","forms"]) D' λX r h=>by
 cases r
 exact (bx (cm (h.vZ (h.v 2) (oW (h.v 0) dO))))
variable (FK:Ly (Om P w K mg base aP) 1 CP)
include OB FF FG FH FN FO FK in
theorem a49:oN P w K mg base "form_here" 3 5 FU:=(eh OB.bO OB.h_Each_form_here FF (eh OB.bN OB.h_Flat_form_here FG (eh OB.bF OB.h_Bands_form_here FH (eh OB.bD OB.h_Steps_form_here FN (eh OB.bh OB.h_Blocks_form_here FO (eh OB.bE OB.h_Named_form_here FK vK))))))
variable (cP:oN P w K mg base "form_here" 3 5 FU)
include z_len cX cP in
theorem a3W(D':Lz (df K a) d):Lz (Om P w K mg base a) 6 s9:=qZ (N:=["self","most","forms","made"]) D' λX r h=>by
 cases r
 exact (bu (h.bT 3 (h.mt (n:=3) cP (h.v 0) (ai (xM (N':=["part","most","forms"]) (caps:=[1,2]) (nt:=1) h ⟨rfl,by decide +kernel,by decide +kernel,by decide +kernel,by decide +kernel,rfl,rfl,by decide +kernel⟩ (xK (h.yd (n:=1) cX (h.v 0))) (λX1 pA px pq m9 pk h1=>⟨(h1.tg 0),yW,(h1.mt (n:=3) (vK (j:=1)) (h1.v 0) (ai (h1.v 1) (ai (h1.v 2) be)))⟩)) (ai (h.v 2) be)))) (bu (dv (dj (vG (cB Wj (h.v 1) yV) (vN (cB xI (um h.g z_len (h.bv 3)) (h.v 1))))) (bx Pf) dD) (bx (cm (h.v 3)))))
variable (uz:Lz (Om P w K mg base ae) 6 s9)
include OB uz in
theorem a4P:oN P w K mg base "form_up_to" 3 6 FP:=(eh OB.bO OB.h_Each_form_up_to uz (eh OB.bN OB.h_Flat_form_up_to uz (eh OB.bF OB.h_Bands_form_up_to uz (eh OB.bD OB.h_Steps_form_up_to uz (eh OB.bh OB.h_Blocks_form_up_to uz (eh OB.bE OB.h_Named_form_up_to uz vK))))))
variable (cD:oN P w K mg base "form_up_to" 3 6 FP)
include cY in
theorem a4N(D':Ld (Def K mg) a d):Ld (Oz P w K mg base) 4 CT:=dB (N:=["rule","forms","name"]) D' λX r h=>by
 cases r
 exact (bx (si h.own h.calm (h.yd (n:=1) cY (h.v 0)) (h.tg 2) (bx (dv (h.zq (h.v 2) (h.v 1)) (bx Pf) dD))))
variable (FR:Ld (Oz P w K mg base) 4 CT)
include z_MOST_STRETCHES cD FR in
theorem Z1(D':K7 (df K a) d):K7 (Om P w K mg base a) 7 tf:=qZ (N:=["self","forms"]) D' λX r h=>by
 cases r
 exact (bu (W4 (h.cl FR (ai (h.v 0) (ai (h.v 1) be)))) (bx (cm (h.mt (n:=3) cD (h.v 0) (ai (Xw h.g z_MOST_STRETCHES) (ai (h.v 1) be))))))
variable (uw:K7 (Om P w K mg base aI) 7 tf)
include OB uw in
theorem ZD:oN P w K mg base "form" 2 7 Cu:=(eh OB.bO OB.h_Each_form uw (eh OB.bN OB.h_Flat_form uw (eh OB.bF OB.h_Bands_form uw (eh OB.bD OB.h_Steps_form uw (eh OB.bh OB.h_Blocks_form uw (eh OB.bE OB.h_Named_form uw vK))))))
variable (k8:oN P w K mg base "form" 2 7 Cu)
include OB in
theorem ZP(D':a41 (df K a9) d):qc P w K mg base "Named" 1 Cz 1 Ft:=yP (N:=["self","name"]) OB.bE OB.tU OB.tD D' λX r h=>by
 cases r
 exact (h.j' OB.bE.c OB.n_Named_name (h.v 1) yY)
variable (iR:qc P w K mg base "Named" 1 Cz 1 Ft)
include OB in
theorem Z0(D':a4K (df K aX) d):qc P w K mg base "Blocks" 3 Co 1 Fs:=yP (N:=["self","size","price","many"]) OB.bh OB.rL OB.rh D' λX r h=>by
 cases r
 exact (h.j' OB.bh.c OB.n_Blocks_size (h.v 1) (h.j' OB.bh.c OB.n_Blocks_price (h.v 2) (h.j' OB.bh.c OB.n_Blocks_many (h.v 3) yY)))
variable (eM:qc P w K mg base "Blocks" 3 Co 1 Fs)
include OB in
theorem ZQ(D':QK (df K aM) d):qc P w K mg base "Steps" 1 CA 1 CF:=yP (N:=["self","rows"]) OB.bD OB.tT OB.tz D' λX r h=>by
 cases r
 exact (h.j' OB.bD.c OB.n_Steps_rows (xM (N':=["top","unit"]) (caps:=[]) (nt:=2) h ⟨rfl,by decide +kernel,by decide +kernel,by decide +kernel,by decide +kernel,rfl,rfl,by decide +kernel⟩ (xK (h.v 1)) (λX1 pA px pq m9 pk h1=>⟨(ES (n:=2) h1.calm (vM (h1.tg 0) (vM (h1.tg 1) EZ))),yW,(mo (ai (h1.v 0) (ai (h1.v 1) be)))⟩)) yY)
variable (iQ:qc P w K mg base "Steps" 1 CA 1 CF)
include OB in
theorem ZO(D':QK (df K aM) d):qc P w K mg base "Bands" 1 Cy 1 Cq:=yP (N:=["self","rows"]) OB.bF OB.tV OB.tE D' λX r h=>by
 cases r
 exact (h.j' OB.bF.c OB.n_Bands_rows (xM (N':=["top","unit"]) (caps:=[]) (nt:=2) h ⟨rfl,by decide +kernel,by decide +kernel,by decide +kernel,by decide +kernel,rfl,rfl,by decide +kernel⟩ (xK (h.v 1)) (λX1 pA px pq m9 pk h1=>⟨(ES (n:=2) h1.calm (vM (h1.tg 0) (vM (h1.tg 1) EZ))),yW,(mo (ai (h1.v 0) (ai (h1.v 1) be)))⟩)) yY)
variable (iS:qc P w K mg base "Bands" 1 Cy 1 Cq)
include OB in
theorem ZC(D':a5t (df K bf) d):qc P w K mg base "Flat" 3 Ci 1 Fi:=yP (N:=["self","price","low","high"]) OB.bN OB.wY OB.vW D' λX r h=>by
 cases r
 exact (h.j' OB.bN.c OB.n_Flat_price (h.v 1) (h.j' OB.bN.c OB.n_Flat_low (h.v 2) (h.j' OB.bN.c OB.n_Flat_high (h.v 3) yY)))
variable (k9:qc P w K mg base "Flat" 3 Ci 1 Fi)
include OB in
theorem ZA(D':a5u (df K bg) d):qc P w K mg base "Each" 3 Cg 1 Fg:=yP (N:=["self","unit","low","high"]) OB.bO OB.wZ OB.vX D' λX r h=>by
 cases r
 exact (h.j' OB.bO.c OB.n_Each_unit (h.v 1) (h.j' OB.bO.c OB.n_Each_low (h.v 2) (h.j' OB.bO.c OB.n_Each_high (h.v 3) yY)))
variable (lg:qc P w K mg base "Each" 3 Cg 1 Fg)
include z_list iR eM iQ iS k9 lg in
theorem ZX(D':KR (Def K mg) a d):KR (Oz P w K mg base) 3 CL:=dB (N:=["plan","kind"]) D' λX r h=>by
 cases r
 exact (bu (h.bT 1 (bb (h.bv 0) aw)) (bu (dv (cB (iZ h.u8) (h.v 1) eL) (bx (cm (h.ye lg (ai (bb (h.bv 0) aw) (ai (bb (h.bv 0) aw) (ai (bb (h.bv 0) aw) be)))))) dD) (bu (dv (cB (iZ h.u8) (h.v 1) eL) (bx (cm (h.ye k9 (ai (bb (h.bv 0) aw) (ai (bb (h.bv 0) aw) (ai (bb (h.bv 0) aw) be)))))) dD) (bu (dv (cB (iZ h.u8) (h.v 1) eL) (bx (cm (h.ye iS (ai (OR h.g z_list (lL (bb (h.bv 0) aw))) be)))) dD) (bu (dv (cB (iZ h.u8) (h.v 1) eL) (bx (cm (h.ye iQ (ai (OR h.g z_list (lL (bb (h.bv 0) aw))) be)))) dD) (bu (dv (cB (iZ h.u8) (h.v 1) eL) (bx (cm (h.ye eM (ai (bb (h.bv 0) aw) (ai (bb (h.bv 0) aw) (ai (bb (h.bv 0) aw) be)))))) dD) (bx (cm (h.ye iR (ai (bb (h.bv 0) aw) be))))))))))
variable (Fq:KR (Oz P w K mg base) 3 CL)
theorem ZE(D':KW (Def K mg) a d):KW (Oz P w K mg base) 1 k7:=dB (N:=["cell","k","size","odd","big"]) D' λX r h=>by
 cases r
 exact (bu (h.bT 3 (bw du aw (bw jC (bw jC aw (h.v 1)) (h.v 1)))) (bu (h.bT 4 (bw du (bw jC (bw du (bw Ce (h.v 0) (bw y3 aw aw)) aw) (h.v 3)) (bw jC aw (h.v 1)))) (bx (cm (bw Ce (bw JG (bw Ce (bw jC (h.v 4) (h.v 4)) (bw du (bw y3 aw aw) aw)) aw) (h.v 2))))))
variable (iY:KW (Oz P w K mg base) 1 k7)
include iY in
theorem Z5(D':KY (Def K mg) a d):KY (Oz P w K mg base) 2 uB:=dB (N:=["cell","k","most"]) D' λX r h=>by
 cases r
 exact (bu (h.bT 2 (bb (lL (gz (ai aw (ai (bw y3 aw aw) (ai (bw y3 aw aw) be))))) (h.cl iY (ai (h.v 0) (ai (bw du (h.v 1) aw) (ai aw be)))))) (bx (cm (bw p9 (h.cl iY (ai (h.v 0) (ai (h.v 1) (ai (bw du (bw jC aw (h.v 2)) aw) be)))) (h.v 2)))))
variable (sr:KY (Oz P w K mg base) 2 uB)
include z_range iY sr in
theorem ZW(D':KQ (Def K mg) a d):KQ (Oz P w K mg base) 3 ze:=dB (N:=["cell","scale","rows","top","j"]) D' λX r h=>by
 cases r
 exact (bu (h.set 2 (gz be)) (bu (h.bT 3 (bw JG (bw jC (h.cl iY (ai (h.v 0) (ai aw (ai (h.v 1) be)))) (h.cl iY (ai (h.v 0) (ai aw (ai aw be))))) aw)) (bu (Ct h.own h.calm h.g z_range (ai (bw du aw (h.cl iY (ai (h.v 0) (ai aw (ai aw be))))) be) (h.tg 4) (bu (h.app 2 (mo (ai (h.v 3) (ai (h.cl sr (ai (h.v 0) (ai (bw du aw (h.v 4)) be))) be)))) (bx (h.bT 3 (bw du (bw du (h.v 3) aw) (h.cl iY (ai (h.v 0) (ai (bw du aw (h.v 4)) (ai (h.v 1) be))))))))) (bx (h.rB 2)))))
variable (Fp:KQ (Oz P w K mg base) 3 ze)
include iY sr Fp in
theorem ZV(D':KP (Def K mg) a d):KP (Oz P w K mg base) 4 zd:=dB (N:=["cell","scale","kind","price","low","high"]) D' λX r h=>by
 cases r
 exact (bu (h.bT 2 (bb (lL (gz (ai eL (ai eL (ai eL (ai eL (ai eL (ai eL be)))))))) (h.cl iY (ai (h.v 0) (ai aw (ai aw be)))))) (bu (h.bT 3 (h.cl sr (ai (h.v 0) (ai aw be)))) (bu (h.bT 4 (bw jC (h.cl iY (ai (h.v 0) (ai aw (ai (h.v 1) be)))) (h.cl iY (ai (h.v 0) (ai aw (ai aw be)))))) (bu (h.bT 5 (bw du (h.v 4) (bw jC (h.cl iY (ai (h.v 0) (ai aw (ai (h.v 1) be)))) (h.cl iY (ai (h.v 0) (ai aw (ai aw be))))))) (bu (dv (dj (qA (cB (iZ h.u8) (h.v 2) eL) (qB (cB (iZ h.u8) (h.v 2) eL)))) (bx (cm (mo (ai (h.v 2) (ai (h.cl Fp (ai (h.v 0) (ai (h.v 1) be))) be))))) dD) (bu (dv (cB (iZ h.u8) (h.v 2) eL) (bx (cm (mo (ai (h.v 2) (ai (bw du aw (h.cl iY (ai (h.v 0) (ai aw (ai (h.v 1) be))))) (ai (h.v 3) (ai (bw du aw (h.cl iY (ai (h.v 0) (ai aw (ai aw be))))) be))))))) dD) (bu (dv (cB (iZ h.u8) (h.v 2) eL) (bx (cm (mo (ai (h.v 2) (ai (bb (lL (gz (ai eL (ai eL (ai eL be))))) (h.cl iY (ai (h.v 0) (ai aw (ai aw be))))) be))))) dD) (bx (cm (mo (ai (h.v 2) (ai (h.v 3) (ai (h.v 4) (ai (h.v 5) be))))))))))))))
variable (Fo:KP (Oz P w K mg base) 4 zd)
include z_tuple z_range iY sr in
theorem ZU(D':KO (Def K mg) a d):KO (Oz P w K mg base) 3 zc:=dB (N:=["cell","scale","told","low","j","high","step"]) D' λX r h=>by
 cases r
 exact (bu (h.set 2 (gz be)) (bu (h.bT 3 (bw p9 (h.cl iY (ai (h.v 0) (ai aw (ai (bw jC aw (h.v 1)) be)))) (h.v 1))) (bu (Ct h.own h.calm h.g z_range (ai (h.cl iY (ai (h.v 0) (ai aw (ai aw be)))) be) (h.tg 4) (bu (h.bT 5 (bw du (h.v 3) (bw jC (h.cl iY (ai (h.v 0) (ai (bw du aw (h.v 4)) (ai (h.v 1) be)))) (h.cl iY (ai (h.v 0) (ai (bw du aw (h.v 4)) (ai aw be))))))) (bu (h.bT 6 aw) (bu (dv (cB vF (h.v 3) (h.v 5)) (bx (h.bT 6 (h.cl sr (ai (h.v 0) (ai (bw du aw (h.v 4)) be))))) dD) (bu (h.app 2 (mo (ai (h.v 3) (ai (h.v 5) (ai (h.cl sr (ai (h.v 0) (ai (bw du aw (h.v 4)) be))) (ai (h.v 6) be)))))) (bx (h.bT 3 (bw du (bw du (h.v 5) aw) (h.cl iY (ai (h.v 0) (ai (bw du aw (h.v 4)) (ai (h.v 1) be)))))))))))) (bx (cm (Py h.g z_tuple (h.bv 2)))))))
variable (Fk:KO (Oz P w K mg base) 3 zc)
include z_len in
theorem Yy(D':Kt (Def K mg) a d):Kt (Oz P w K mg base) 1 zb:=dB (N:=["script","k"]) D' λX r h=>by
 cases r
 exact (bu (dv (cB vF (h.v 1) (um h.g z_len (h.bv 0))) (bx (cm (bb (h.bv 0) (h.v 1)))) dD) (bx (cm aw)))
variable (xN:Kt (Oz P w K mg base) 1 zb)
include z_range Fk xN in
theorem Z4(D':K' (Def K mg) a d):K' (Oz P w K mg base) 4 zf:=dB (N:=["script","scale","told","j"]) D' λX r h=>by
 cases r
 exact (bu (h.set 2 WD) (bu (Ct h.own h.calm h.g z_range (ai aw be) (h.tg 3) (bx (h.FZ 2 (h.cl Fk (ai (h.cl xN (ai (h.v 0) (ai (bw du aw (h.v 3)) be))) (ai (h.v 1) be))) (bb (lL (gz (ai eL (ai eL (ai eL be))))) (h.v 3))))) (bx (h.rB 2))))
variable (FE:K' (Oz P w K mg base) 4 zf)
include z_len z_range z_min z_isinstance z_max cY xQ FA FQ Fz FC iT k8 Fq Fo xN FE in
theorem Vf(D':zw (Def K mg) a d):cn P w K mg base lK 8 a d ["script"] (rp K 1 E6):=Bh (N:=["script","scale","forms","k","plan","rule","found","x","ends","due"]) D' λX r h=>by
 cases r
 exact (bu (h.bT 1 (bb (lL (gz (ai aw (ai (bw y3 aw aw) (ai (bw y3 aw aw) be))))) (bw Ce (h.cl xN (ai (h.v 0) (ai aw be))) aw))) (bu (h.bT 2 (h.cl FE (ai (h.v 0) (ai (h.v 1) be)))) (bu (Ct h.own h.calm h.g z_range (ai (J6 (JW h.calm) h.g z_min (by decide +kernel) (ai (um h.g z_len (h.bv 0)) (ai aw be))) be) (h.tg 3) (bu (h.bT 4 (h.cl Fo (ai (bb (h.bv 0) (h.v 3)) (ai (h.v 1) be)))) (bu (h.bT 5 (h.cl Fq (ai (h.v 4) be))) (bu (h.bT 6 (h.mt (n:=2) k8 (h.v 5) (ai (h.v 2) be))) (bu (dv (dj (qA (y4 (sY (VY h.g z_isinstance h.g iT.1 iT.2 (h.v 5)))) (qB (y4 (sY (h.cl FC (ai (h.v 6) be))))))) (bx (cm p7)) dD) (bu (si h.own h.calm (h.cl Fz (ai (h.v 4) (ai (h.v 2) (ai (J7 (h.bv 0) (E7 (h.v 3)) (E7 (bw du (h.v 3) aw))) (ai (h.v 1) be))))) (h.tg 7) (bx (dv (cB (uo h.u8) (h.cl FA (ai (h.v 6) (ai (h.v 7) be))) (h.cl FQ (ai (h.v 4) (ai (h.v 7) (ai (h.v 2) be))))) (bx (cm p7)) dD))) (bu (h.bT 8 (h.cl xQ (ai (h.v 4) (ai (h.v 2) be)))) (bu (dv (dj (vG (cB (iZ h.u8) (um h.g z_len (h.bv 8)) aw) (vN (cB (uo h.u8) (h.v 6) (mo be))))) (bx (cm p7)) dD) (bu (dv (dj (vG (cB xI (um h.g z_len (h.bv 8)) aw) (vN (dj (qA (cB (uo h.u8) (bb (lL (bb (h.bv 6) aw)) aw) (V0 h.g z_min h.calm (h.bv 8))) (qB (cB (uo h.u8) (bb (lL (bb (h.bv 6) (EN aw))) aw) (VZ h.g z_max h.calm (h.bv 8))))))))) (bx (cm p7)) dD) (bu (h.bT 9 (gz be)) (bu (dv (cB (iZ h.u8) (bb (h.bv 4) aw) eL) (bx (h.bT 9 (gz (ai (bb (h.bv 4) aw) be)))) dD) (bx (dv (cB (uo h.u8) (h.yd (n:=1) cY (h.v 5)) (h.v 9)) (bx (cm p7)) dD))))))))))))) (bx (cm p7)))))
end
theorem all_mk{l:Ih}{w:World}{K:aK}{h:Heap}{mg:Str->Option Value}{fa:Addr}(X:K.In h)(G:h.Ns mainGlobals mg)(TZ:mg "law" = some (.ref fa))
  (i1:FI K "_law_ends" QB f1 od1 an1 sl1 oc1 kV1 dc1 pm1 cd1 ct1)
  (i2:FI K "_law_cost_in" QI f2 od2 an2 zO oc2 kV2 dc2 pm2 cd2 ct2)
  (i3:FI K "_law_leaf_cost" QW f3 od3 an3 sl3 oc3 kV3 dc3 pm3 cd3 ct3)
  (i4:FI K "_law_amounts" QH f4 od4 an4 sl4 oc4 kV4 dc4 pm4 cd4 ct4)
  (i5:FI K "_law_apart" Qy f5 od5 an5 sl5 oc5 kV5 dc5 pm5 cd5 ct5)
  (i6:FI K "_law_is_form" QJ f6 od6 an6 sl6 oc6 kV6 dc6 pm6 cd6 ct6)
  (i7:FI K "holds_one" Qx f7 od7 an7 sl7 oc7 kV7 dc7 pm7 cd7 ct7)
  (i8:FI K "plain" Pd f8 od8 an8 sl8 oc8 kV8 dc8 pm8 cd8 ct8)
  (i9:FI K "line_at" Qs f9 od9 an9 sl9 oc9 kV9 dc9 pm9 cd9 ct9)
  (i10:FI K "laid_beside" QG f10 Sm Y1 RB SH S' UD RU U2 UQ)
  (i11:FI K "laid" OZ f11 Sk Y0 RA SG S9 UC RT U1 UP)
  (i12:FI K "look_up_names" QX f12 Sj YZ Rz SD S8 UB RS U0 UO)
  (i13:FI K "_law_rule" QF f13 Si YY Ry SA S7 UA RR UZ UN)
  (i14:FI K "_law_mix" Qr f14 Sh YX Rx Sz S6 Uz RQ UY UM)
  (i15:FI K "_law_price" QA f15 Sg YW Rw Sy S5 Uy RP UX UL)
  (i16:FI K "_law_rows" QE f16 Sf YV Rv Sw S4 Ux RO UW UK)
  (i17:FI K "_law_leaf" QD f17 Se YU Ru Sv S1 Uw RN UU UJ)
  (i18:FI K "_law_form" QC f18 Sb YT Rt Su S0 Uv RM UT UI)
  (i19:FI K "_law_at" P4 f19 R9 YS Rr Sr SY Uu RL US UH)
  (i20:FI K "_law_forms" Qz f20 R8 YR Rq So SX Ut RK UR UG)
  (i21:FI K "law" Cf f21 RZ JH Rp Sn GY HL GG HS HM)
  (ztuple:iX K mainGlobals "tuple" = some none)
  (zlen:iX K mainGlobals "len" = some none)
  (zrange:iX K mainGlobals "range" = some none)
  (zlist:iX K mainGlobals "list" = some none)
  (zsum:iX K mainGlobals "sum" = some none)
  (zmin:iX K mainGlobals "min" = some none)
  (zint:iX K mainGlobals "int" = some none)
  (zsorted:iX K mainGlobals "sorted" = some none)
  (zset:iX K mainGlobals "set" = some none)
  (zisinstance:iX K mainGlobals "isinstance" = some none)
  (zbool:iX K mainGlobals "bool" = some none)
  (zmax:iX K mainGlobals "max" = some none)
  (zMOST_STRETCHES:∃t,iX K mainGlobals "MOST_STRETCHES" = some (some (.int 60 t)))
  {aE aD ar ao ah aq bA aB aj aQ aC aW aV aR aO aJ aP ae aI a9 aX aM bf bg:Addr}
  (a_Each:iX K mainGlobals "Each" = some (some (.ref aE)))
  (a_Flat:iX K mainGlobals "Flat" = some (some (.ref aD)))
  (a_Bands:iX K mainGlobals "Bands" = some (some (.ref ar)))
  (a_Steps:iX K mainGlobals "Steps" = some (some (.ref ao)))
  (a_Blocks:iX K mainGlobals "Blocks" = some (some (.ref ah)))
  (a_Named:iX K mainGlobals "Named" = some (some (.ref aq)))
  (a_Rule:iX K mainGlobals "Rule" = some (some (.ref bA)))
  (p1_Each:sM K aE xj=true)
  (p2_Each:ud K aE=true)
  (p3_Each:vm K aE=true)
  (p4_Each:bp K (.ref aE) "__setattr__" = some (some (.builtin "object.__setattr__")))
  (q1_Each:vo K aE=true)
  (q2_Each:bp K (.ref aE) "__init__" = some (some (.ref bg)))
  (q4_Each:p6 K (.ref aE)=true)
  (n_Each_name:bp K (.ref aE) "name" = some none)
  (n_Each_unit:bp K (.ref aE) "unit" = some none)
  (n_Each_low:bp K (.ref aE) "low" = some none)
  (n_Each_high:bp K (.ref aE) "high" = some none)
  (n_Each_price:bp K (.ref aE) "price" = some none)
  (n_Each_rows:bp K (.ref aE) "rows" = some none)
  (n_Each_size:bp K (.ref aE) "size" = some none)
  (n_Each_many:bp K (.ref aE) "many" = some none)
  (h_Each_parts:bp K (.ref aE) "parts" = some (some (.ref aB)))
  (h_Each_all_names:bp K (.ref aE) "all_names" = some (some (.ref aj)))
  (h_Each_names:bp K (.ref aE) "names" = some (some (.ref aC)))
  (h_Each_form_here:bp K (.ref aE) "form_here" = some (some (.ref aW)))
  (h_Each_form_up_to:bp K (.ref aE) "form_up_to" = some (some (.ref ae)))
  (h_Each_form:bp K (.ref aE) "form" = some (some (.ref aI)))
  (p1_Flat:sM K aD xj=true)
  (p2_Flat:ud K aD=true)
  (p3_Flat:vm K aD=true)
  (p4_Flat:bp K (.ref aD) "__setattr__" = some (some (.builtin "object.__setattr__")))
  (q1_Flat:vo K aD=true)
  (q2_Flat:bp K (.ref aD) "__init__" = some (some (.ref bf)))
  (q4_Flat:p6 K (.ref aD)=true)
  (n_Flat_name:bp K (.ref aD) "name" = some none)
  (n_Flat_unit:bp K (.ref aD) "unit" = some none)
  (n_Flat_low:bp K (.ref aD) "low" = some none)
  (n_Flat_high:bp K (.ref aD) "high" = some none)
  (n_Flat_price:bp K (.ref aD) "price" = some none)
  (n_Flat_rows:bp K (.ref aD) "rows" = some none)
  (n_Flat_size:bp K (.ref aD) "size" = some none)
  (n_Flat_many:bp K (.ref aD) "many" = some none)
  (h_Flat_parts:bp K (.ref aD) "parts" = some (some (.ref aB)))
  (h_Flat_all_names:bp K (.ref aD) "all_names" = some (some (.ref aj)))
  (h_Flat_names:bp K (.ref aD) "names" = some (some (.ref aC)))
  (h_Flat_form_here:bp K (.ref aD) "form_here" = some (some (.ref aV)))
  (h_Flat_form_up_to:bp K (.ref aD) "form_up_to" = some (some (.ref ae)))
  (h_Flat_form:bp K (.ref aD) "form" = some (some (.ref aI)))
  (p1_Bands:sM K ar xj=true)
  (p2_Bands:ud K ar=true)
  (p3_Bands:vm K ar=true)
  (p4_Bands:bp K (.ref ar) "__setattr__" = some (some (.builtin "object.__setattr__")))
  (q1_Bands:vo K ar=true)
  (q2_Bands:bp K (.ref ar) "__init__" = some (some (.ref aM)))
  (q4_Bands:p6 K (.ref ar)=true)
  (n_Bands_name:bp K (.ref ar) "name" = some none)
  (n_Bands_unit:bp K (.ref ar) "unit" = some none)
  (n_Bands_low:bp K (.ref ar) "low" = some none)
  (n_Bands_high:bp K (.ref ar) "high" = some none)
  (n_Bands_price:bp K (.ref ar) "price" = some none)
  (n_Bands_rows:bp K (.ref ar) "rows" = some none)
  (n_Bands_size:bp K (.ref ar) "size" = some none)
  (n_Bands_many:bp K (.ref ar) "many" = some none)
  (h_Bands_parts:bp K (.ref ar) "parts" = some (some (.ref aB)))
  (h_Bands_all_names:bp K (.ref ar) "all_names" = some (some (.ref aj)))
  (h_Bands_names:bp K (.ref ar) "names" = some (some (.ref aC)))
  (h_Bands_form_here:bp K (.ref ar) "form_here" = some (some (.ref aR)))
  (h_Bands_form_up_to:bp K (.ref ar) "form_up_to" = some (some (.ref ae)))
  (h_Bands_form:bp K (.ref ar) "form" = some (some (.ref aI)))
  (p1_Steps:sM K ao xj=true)
  (p2_Steps:ud K ao=true)
  (p3_Steps:vm K ao=true)
  (p4_Steps:bp K (.ref ao) "__setattr__" = some (some (.builtin "object.__setattr__")))
  (q1_Steps:vo K ao=true)
  (q2_Steps:bp K (.ref ao) "__init__" = some (some (.ref aM)))
  (q4_Steps:p6 K (.ref ao)=true)
  (n_Steps_name:bp K (.ref ao) "name" = some none)
  (n_Steps_unit:bp K (.ref ao) "unit" = some none)
  (n_Steps_low:bp K (.ref ao) "low" = some none)
  (n_Steps_high:bp K (.ref ao) "high" = some none)
  (n_Steps_price:bp K (.ref ao) "price" = some none)
  (n_Steps_rows:bp K (.ref ao) "rows" = some none)
  (n_Steps_size:bp K (.ref ao) "size" = some none)
  (n_Steps_many:bp K (.ref ao) "many" = some none)
  (h_Steps_parts:bp K (.ref ao) "parts" = some (some (.ref aB)))
  (h_Steps_all_names:bp K (.ref ao) "all_names" = some (some (.ref aj)))
  (h_Steps_names:bp K (.ref ao) "names" = some (some (.ref aC)))
  (h_Steps_form_here:bp K (.ref ao) "form_here" = some (some (.ref aO)))
  (h_Steps_form_up_to:bp K (.ref ao) "form_up_to" = some (some (.ref ae)))
  (h_Steps_form:bp K (.ref ao) "form" = some (some (.ref aI)))
  (p1_Blocks:sM K ah xj=true)
  (p2_Blocks:ud K ah=true)
  (p3_Blocks:vm K ah=true)
  (p4_Blocks:bp K (.ref ah) "__setattr__" = some (some (.builtin "object.__setattr__")))
  (q1_Blocks:vo K ah=true)
  (q2_Blocks:bp K (.ref ah) "__init__" = some (some (.ref aX)))
  (q4_Blocks:p6 K (.ref ah)=true)
  (n_Blocks_name:bp K (.ref ah) "name" = some none)
  (n_Blocks_unit:bp K (.ref ah) "unit" = some none)
  (n_Blocks_low:bp K (.ref ah) "low" = some none)
  (n_Blocks_high:bp K (.ref ah) "high" = some none)
  (n_Blocks_price:bp K (.ref ah) "price" = some none)
  (n_Blocks_rows:bp K (.ref ah) "rows" = some none)
  (n_Blocks_size:bp K (.ref ah) "size" = some none)
  (n_Blocks_many:bp K (.ref ah) "many" = some none)
  (h_Blocks_parts:bp K (.ref ah) "parts" = some (some (.ref aB)))
  (h_Blocks_all_names:bp K (.ref ah) "all_names" = some (some (.ref aj)))
  (h_Blocks_names:bp K (.ref ah) "names" = some (some (.ref aC)))
  (h_Blocks_form_here:bp K (.ref ah) "form_here" = some (some (.ref aJ)))
  (h_Blocks_form_up_to:bp K (.ref ah) "form_up_to" = some (some (.ref ae)))
  (h_Blocks_form:bp K (.ref ah) "form" = some (some (.ref aI)))
  (p1_Named:sM K aq xj=true)
  (p2_Named:ud K aq=true)
  (p3_Named:vm K aq=true)
  (p4_Named:bp K (.ref aq) "__setattr__" = some (some (.builtin "object.__setattr__")))
  (q1_Named:vo K aq=true)
  (q2_Named:bp K (.ref aq) "__init__" = some (some (.ref a9)))
  (q4_Named:p6 K (.ref aq)=true)
  (n_Named_name:bp K (.ref aq) "name" = some none)
  (n_Named_unit:bp K (.ref aq) "unit" = some none)
  (n_Named_low:bp K (.ref aq) "low" = some none)
  (n_Named_high:bp K (.ref aq) "high" = some none)
  (n_Named_price:bp K (.ref aq) "price" = some none)
  (n_Named_rows:bp K (.ref aq) "rows" = some none)
  (n_Named_size:bp K (.ref aq) "size" = some none)
  (n_Named_many:bp K (.ref aq) "many" = some none)
  (h_Named_parts:bp K (.ref aq) "parts" = some (some (.ref aB)))
  (h_Named_all_names:bp K (.ref aq) "all_names" = some (some (.ref aQ)))
  (h_Named_names:bp K (.ref aq) "names" = some (some (.ref aC)))
  (h_Named_form_here:bp K (.ref aq) "form_here" = some (some (.ref aP)))
  (h_Named_form_up_to:bp K (.ref aq) "form_up_to" = some (some (.ref ae)))
  (h_Named_form:bp K (.ref aq) "form" = some (some (.ref aI)))
  (f_Rule_parts:mH K (.ref aB)=true)
  {lW ml:Option Addr}{lS:Array (Option Value)}{lY l4 l7 lU ma l9:Value}
  (i_Rule_parts:FM K "parts" "Rule.parts" QM aB lW ml lS lY l4 l7 lU ma l9)
  (f_Rule_all_names:mH K (.ref aj)=true)
  {gW iH:Option Addr}{gJ:Array (Option Value)}{g8 h8 il gP iC iw:Value}
  (i_Rule_all_names:FM K "all_names" "Rule.all_names" QN aj gW iH gJ g8 h8 il gP iC iw)
  (f_Named_all_names:mH K (.ref aQ)=true)
  {fJ gx:Option Addr}{fx:Array (Option Value)}{fO fT fZ fE gp gh:Value}
  (i_Named_all_names:FM K "all_names" "Named.all_names" QP aQ fJ gx fx fO fT fZ fE gp gh)
  (f_Rule_names:mH K (.ref aC)=true)
  {lX mm:Option Addr}{lT:Array (Option Value)}{lZ l5 l8 lV md l':Value}
  (i_Rule_names:FM K "names" "Rule.names" QL aC lX mm lT lZ l5 l8 lV md l')
  (f_Each_form_here:mH K (.ref aW)=true)
  {g0 iJ:Option Addr}{gL:Array (Option Value)}{hG ic iq gR iE iA:Value}
  (i_Each_form_here:FM K "form_here" "Each.form_here" QZ aW g0 iJ gL hG ic iq gR iE iA)
  (f_Flat_form_here:mH K (.ref aV)=true)
  {gZ iI:Option Addr}{gK:Array (Option Value)}{g9 h9 ip gQ iD iy:Value}
  (i_Flat_form_here:FM K "form_here" "Flat.form_here" Q0 aV gZ iI gK g9 h9 ip gQ iD iy)
  (f_Bands_form_here:mH K (.ref aR)=true)
  {fK gy:Option Addr}{fy:Array (Option Value)}{fP fU f' fF gq gi:Value}
  (i_Bands_form_here:FM K "form_here" "Bands.form_here" QO aR fK gy fy fP fU f' fF gq gi)
  (f_Steps_form_here:mH K (.ref aO)=true)
  {fG gr:Option Addr}{ft:Array (Option Value)}{fL fQ fW fB gk gc:Value}
  (i_Steps_form_here:FM K "form_here" "Steps.form_here" QT aO fG gr ft fL fQ fW fB gk gc)
  (f_Blocks_form_here:mH K (.ref aJ)=true)
  {eQ fg:Option Addr}{eN:Array (Option Value)}{eR eS eW eO e7 eZ:Value}
  (i_Blocks_form_here:FM K "form_here" "Blocks.form_here" QU aJ eQ fg eN eR eS eW eO e7 eZ)
  (f_Named_form_here:mH K (.ref aP)=true)
  {fI gw:Option Addr}{fw:Array (Option Value)}{fN fS fY fD gn gg:Value}
  (i_Named_form_here:FM K "form_here" "Named.form_here" QR aP fI gw fw fN fS fY fD gn gg)
  (f_Rule_form_up_to:mH K (.ref ae)=true)
  {fH gu:Option Addr}{fu:Array (Option Value)}{fM fR fX fC gm gf:Value}
  (i_Rule_form_up_to:FM K "form_up_to" "Rule.form_up_to" QS ae fH gu fu fM fR fX fC gm gf)
  (f_Rule_form:mH K (.ref aI)=true)
  {mS nv:Option Addr}{mO:Array (Option Value)}{mT mW nh mQ nj ni:Value}
  (i_Rule_form:FM K "form" "Rule.form" Qw aI mS nv mO mT mW nh mQ nj ni)
  (f_Named_Xinit__:mH K (.ref a9)=true)
  {jn jB:Option Addr}{jh:Array (Option Value)}{jo jq jw jk jy jx:Value}
  (i_Named_Xinit__:FM K "__init__" "Named.__init__" QV a9 jn jB jh jo jq jw jk jy jx)
  (f_Blocks_Xinit__:mH K (.ref aX)=true)
  {g7 iK:Option Addr}{gM:Array (Option Value)}{hU ie ir gS iF iB:Value}
  (i_Blocks_Xinit__:FM K "__init__" "Blocks.__init__" QY aX g7 iK gM hU ie ir gS iF iB)
  (f_Rows_Xinit__:mH K (.ref aM)=true)
  {jU kH:Option Addr}{jN:Array (Option Value)}{jX j6 km jR kC kr:Value}
  (i_Rows_Xinit__:FM K "__init__" "Rows.__init__" Q3 aM jU kH jN jX j6 km jR kC kr)
  (f_Flat_Xinit__:mH K (.ref bf)=true)
  {jV kJ:Option Addr}{jO:Array (Option Value)}{jY j7 kn jS kD kx:Value}
  (i_Flat_Xinit__:FM K "__init__" "Flat.__init__" Q2 bf jV kJ jO jY j7 kn jS kD kx)
  (f_Each_Xinit__:mH K (.ref bg)=true)
  {jW kK:Option Addr}{jP:Array (Option Value)}{jZ j8 ko jT kE kz:Value}
  (i_Each_Xinit__:FM K "__init__" "Each.__init__" Q1 bg jW kK jP jZ j8 ko jT kE kz)
  (g4o:Eg K (.builtin "object.__class__") "__get__" = some (some (.builtin "getset_descriptor.__get__")))
  (g5o:Ii K (.builtin "object.__class__")=some true)
  (s1_Each:bp K (.ref aE) "__class__" = some (some (.builtin "object.__class__")))
  (s4_Each:vf K aE (.type "object")=some true)
  (j_Each_Rule:vy K (.ref aE) (.ref bA)=some true)
  (s1_Flat:bp K (.ref aD) "__class__" = some (some (.builtin "object.__class__")))
  (s4_Flat:vf K aD (.type "object")=some true)
  (j_Flat_Rule:vy K (.ref aD) (.ref bA)=some true)
  (s1_Bands:bp K (.ref ar) "__class__" = some (some (.builtin "object.__class__")))
  (s4_Bands:vf K ar (.type "object")=some true)
  (j_Bands_Rule:vy K (.ref ar) (.ref bA)=some true)
  (s1_Steps:bp K (.ref ao) "__class__" = some (some (.builtin "object.__class__")))
  (s4_Steps:vf K ao (.type "object")=some true)
  (j_Steps_Rule:vy K (.ref ao) (.ref bA)=some true)
  (s1_Blocks:bp K (.ref ah) "__class__" = some (some (.builtin "object.__class__")))
  (s4_Blocks:vf K ah (.type "object")=some true)
  (j_Blocks_Rule:vy K (.ref ah) (.ref bA)=some true)
  (s1_Named:bp K (.ref aq) "__class__" = some (some (.builtin "object.__class__")))
  (s4_Named:vf K aq (.type "object")=some true)
  (j_Named_Rule:vy K (.ref aq) (.ref bA)=some true)
  (fin:∀ns:List Int,ns.length<=63->E6 [.lst true (ns.map D.int)]=some (.sh (.bl true))):
  ∃fd:FuncData,(∀(s:Shared) (v:Value),BindsTo s fd ⟨[v],[]⟩ [("script",v)])/\∀base:Heap,K.In base->base.Ns mainGlobals mg->cn l.prog w K mg base lK 8 fa fd ["script"] (spT K):=by
 have e:=TZ.symm.trans (sN X G i21.a)
 cases e
 have z_tuple:=qS X G ztuple
 have z_len:=qS X G zlen
 have z_range:=qS X G zrange
 have z_list:=qS X G zlist
 have z_sum:=qS X G zsum
 have z_min:=qS X G zmin
 have z_int:=qS X G zint
 have z_sorted:=qS X G zsorted
 have z_set:=qS X G zset
 have z_isinstance:=qS X G zisinstance
 have z_bool:=qS X G zbool
 have z_max:=qS X G zmax
 have z_MOST_STRETCHES:LQ mg "MOST_STRETCHES" 60:=zMOST_STRETCHES.imp λ_ q=>sN X G q
 have OB:Q5 K mg aE aD ar ao ah aq bA aB aj aQ aC aW aV aR aO aJ aP ae aI a9 aX aM bf bg:=⟨⟨a_Each,⟨p1_Each,p2_Each,p3_Each,p4_Each⟩⟩,sN X G a_Each,⟨q1_Each,q2_Each,f_Each_Xinit__,q4_Each⟩,n_Each_name,n_Each_unit,n_Each_low,n_Each_high,n_Each_price,n_Each_rows,n_Each_size,n_Each_many,⟨h_Each_parts,f_Rule_parts,i_Rule_parts.k⟩,⟨h_Each_all_names,f_Rule_all_names,i_Rule_all_names.k⟩,⟨h_Each_names,f_Rule_names,i_Rule_names.k⟩,⟨h_Each_form_here,f_Each_form_here,i_Each_form_here.k⟩,⟨h_Each_form_up_to,f_Rule_form_up_to,i_Rule_form_up_to.k⟩,⟨h_Each_form,f_Rule_form,i_Rule_form.k⟩,⟨s1_Each,g4o,g5o,s4_Each,j_Each_Rule⟩,⟨a_Flat,⟨p1_Flat,p2_Flat,p3_Flat,p4_Flat⟩⟩,sN X G a_Flat,⟨q1_Flat,q2_Flat,f_Flat_Xinit__,q4_Flat⟩,n_Flat_name,n_Flat_unit,n_Flat_low,n_Flat_high,n_Flat_price,n_Flat_rows,n_Flat_size,n_Flat_many,⟨h_Flat_parts,f_Rule_parts,i_Rule_parts.k⟩,⟨h_Flat_all_names,f_Rule_all_names,i_Rule_all_names.k⟩,⟨h_Flat_names,f_Rule_names,i_Rule_names.k⟩,⟨h_Flat_form_here,f_Flat_form_here,i_Flat_form_here.k⟩,⟨h_Flat_form_up_to,f_Rule_form_up_to,i_Rule_form_up_to.k⟩,⟨h_Flat_form,f_Rule_form,i_Rule_form.k⟩,⟨s1_Flat,g4o,g5o,s4_Flat,j_Flat_Rule⟩,⟨a_Bands,⟨p1_Bands,p2_Bands,p3_Bands,p4_Bands⟩⟩,sN X G a_Bands,⟨q1_Bands,q2_Bands,f_Rows_Xinit__,q4_Bands⟩,n_Bands_name,n_Bands_unit,n_Bands_low,n_Bands_high,n_Bands_price,n_Bands_rows,n_Bands_size,n_Bands_many,⟨h_Bands_parts,f_Rule_parts,i_Rule_parts.k⟩,⟨h_Bands_all_names,f_Rule_all_names,i_Rule_all_names.k⟩,⟨h_Bands_names,f_Rule_names,i_Rule_names.k⟩,⟨h_Bands_form_here,f_Bands_form_here,i_Bands_form_here.k⟩,⟨h_Bands_form_up_to,f_Rule_form_up_to,i_Rule_form_up_to.k⟩,⟨h_Bands_form,f_Rule_form,i_Rule_form.k⟩,⟨s1_Bands,g4o,g5o,s4_Bands,j_Bands_Rule⟩,⟨a_Steps,⟨p1_Steps,p2_Steps,p3_Steps,p4_Steps⟩⟩,sN X G a_Steps,⟨q1_Steps,q2_Steps,f_Rows_Xinit__,q4_Steps⟩,n_Steps_name,n_Steps_unit,n_Steps_low,n_Steps_high,n_Steps_price,n_Steps_rows,n_Steps_size,n_Steps_many,⟨h_Steps_parts,f_Rule_parts,i_Rule_parts.k⟩,⟨h_Steps_all_names,f_Rule_all_names,i_Rule_all_names.k⟩,⟨h_Steps_names,f_Rule_names,i_Rule_names.k⟩,⟨h_Steps_form_here,f_Steps_form_here,i_Steps_form_here.k⟩,⟨h_Steps_form_up_to,f_Rule_form_up_to,i_Rule_form_up_to.k⟩,⟨h_Steps_form,f_Rule_form,i_Rule_form.k⟩,⟨s1_Steps,g4o,g5o,s4_Steps,j_Steps_Rule⟩,⟨a_Blocks,⟨p1_Blocks,p2_Blocks,p3_Blocks,p4_Blocks⟩⟩,sN X G a_Blocks,⟨q1_Blocks,q2_Blocks,f_Blocks_Xinit__,q4_Blocks⟩,n_Blocks_name,n_Blocks_unit,n_Blocks_low,n_Blocks_high,n_Blocks_price,n_Blocks_rows,n_Blocks_size,n_Blocks_many,⟨h_Blocks_parts,f_Rule_parts,i_Rule_parts.k⟩,⟨h_Blocks_all_names,f_Rule_all_names,i_Rule_all_names.k⟩,⟨h_Blocks_names,f_Rule_names,i_Rule_names.k⟩,⟨h_Blocks_form_here,f_Blocks_form_here,i_Blocks_form_here.k⟩,⟨h_Blocks_form_up_to,f_Rule_form_up_to,i_Rule_form_up_to.k⟩,⟨h_Blocks_form,f_Rule_form,i_Rule_form.k⟩,⟨s1_Blocks,g4o,g5o,s4_Blocks,j_Blocks_Rule⟩,⟨a_Named,⟨p1_Named,p2_Named,p3_Named,p4_Named⟩⟩,sN X G a_Named,⟨q1_Named,q2_Named,f_Named_Xinit__,q4_Named⟩,n_Named_name,n_Named_unit,n_Named_low,n_Named_high,n_Named_price,n_Named_rows,n_Named_size,n_Named_many,⟨h_Named_parts,f_Rule_parts,i_Rule_parts.k⟩,⟨h_Named_all_names,f_Named_all_names,i_Named_all_names.k⟩,⟨h_Named_names,f_Rule_names,i_Rule_names.k⟩,⟨h_Named_form_here,f_Named_form_here,i_Named_form_here.k⟩,⟨h_Named_form_up_to,f_Rule_form_up_to,i_Rule_form_up_to.k⟩,⟨h_Named_form,f_Rule_form,i_Rule_form.k⟩,⟨s1_Named,g4o,g5o,s4_Named,j_Named_Rule⟩,sN X G a_Rule⟩
 refine ⟨mf "law" "law" (nA Cf) (jD Cf) (dS Cf) .none GY HL GG JH HS HM,λs v=>.of_eq rfl,λbase _ _=>?_⟩
 have uD:=a59 (P:=l.prog) (w:=w) (base:=base) (mg:=mg) (nE i_Rule_parts λ_ _ _ _ _ _ us hu=>by obtain ⟨_,rfl⟩:=yR hu;rfl)
 have cX:=ZS OB uD
 have vQ:=a4l cX (nE i_Rule_all_names λ_ _ _ _ _ _ us hu=>by obtain ⟨_,rfl⟩:=yR hu;rfl)
 have dO:=Ze OB
 have FJ:=a3Y (P:=l.prog) (w:=w) (base:=base) (mg:=mg) dO (nE i_Named_all_names λ_ _ _ _ _ _ us hu=>by obtain ⟨_,rfl⟩:=yR hu;rfl)
 have cQ:=a5a OB vQ FJ
 have uC:=ZZ z_sorted z_set cQ (nE i_Rule_names λ_ _ _ _ _ _ us hu=>by obtain ⟨_,rfl⟩:=yR hu;rfl)
 have cY:=ZR OB uC
 have xQ:=ZT (P:=l.prog) (w:=w) (base:=base) (lx X G i1)
 have FA:=Z8 (P:=l.prog) (w:=w) (base:=base) (lx X G i2)
 have FQ:=a4O (P:=l.prog) (w:=w) (base:=base) z_len z_range z_sum z_min z_int (wy X G i3)
 have Fz:=a5A z_sorted z_set xQ (GQ X G i4)
 have FD:=Z3 (P:=l.prog) (w:=w) (base:=base) (lx X G i5)
 have FC:=Z9 z_tuple z_len z_range z_int z_isinstance z_bool FD (ql X G i6)
 have iT:=Zz OB
 have vO:=Z2 (P:=l.prog) (w:=w) (base:=base) (ql X G i7)
 have vL:=X6 vO (ql X G i8)
 have E':=ZF (P:=l.prog) (w:=w) (base:=base) (wy X G i9)
 have Fy:=a5B vO vL E' (lx X G i10)
 have oV:=Wl z_tuple vL Fy (ql X G i11)
 have iU:=Zh OB
 have eI:=Yx OB
 have dP:=Zc OB
 have FF:=a4n oV iU eI dP (nE i_Each_form_here λ_ _ _ _ _ _ us hu=>by obtain ⟨_,_,_,rfl⟩:=ug hu;rfl)
 have cZ:=ZN OB
 have FG:=a4m oV eI dP cZ (nE i_Flat_form_here λ_ _ _ _ _ _ us hu=>by obtain ⟨_,_,_,rfl⟩:=ug hu;rfl)
 have dN:=Zf OB
 have FH:=a3Z oV dN (nE i_Bands_form_here λ_ _ _ _ _ _ us hu=>by obtain ⟨_,_,_,rfl⟩:=ug hu;rfl)
 have FN:=a3V oV dN (nE i_Steps_form_here λ_ _ _ _ _ _ us hu=>by obtain ⟨_,_,_,rfl⟩:=ug hu;rfl)
 have iV:=Zg OB
 have lh:=Zd OB
 have FO:=a3E z_range oV cZ iV lh (nE i_Blocks_form_here λ_ _ _ _ _ _ us hu=>by obtain ⟨_,_,_,rfl⟩:=ug hu;rfl)
 have FK:=a3X (P:=l.prog) (w:=w) (base:=base) (mg:=mg) dO (nE i_Named_form_here λ_ _ _ _ _ _ us hu=>by obtain ⟨_,_,_,rfl⟩:=ug hu;rfl)
 have cP:=a49 OB FF FG FH FN FO FK
 have uz:=a3W z_len cX cP (nE i_Rule_form_up_to λ_ _ _ _ _ _ us hu=>by obtain ⟨_,_,_,rfl⟩:=ug hu;rfl)
 have cD:=a4P OB uz
 have FR:=a4N cY (lx X G i12)
 have uw:=Z1 z_MOST_STRETCHES cD FR (nE i_Rule_form λ_ _ _ _ _ _ us hu=>by obtain ⟨_,_,rfl⟩:=yS hu;rfl)
 have k8:=ZD OB uw
 have iR:=ZP (P:=l.prog) (w:=w) (base:=base) OB (nE i_Named_Xinit__ λ_ _ _ _ _ _ us hu=>by obtain ⟨_,_,rfl⟩:=yS hu;rfl)
 have eM:=Z0 (P:=l.prog) (w:=w) (base:=base) OB (nE i_Blocks_Xinit__ λ_ _ _ _ _ _ us hu=>by obtain ⟨_,_,_,_,rfl⟩:=EB hu;rfl)
 have iQ:=ZQ (P:=l.prog) (w:=w) (base:=base) OB (nE i_Rows_Xinit__ λ_ _ _ _ _ _ us hu=>by obtain ⟨_,_,rfl⟩:=yS hu;rfl)
 have iS:=ZO (P:=l.prog) (w:=w) (base:=base) OB (nE i_Rows_Xinit__ λ_ _ _ _ _ _ us hu=>by obtain ⟨_,_,rfl⟩:=yS hu;rfl)
 have k9:=ZC (P:=l.prog) (w:=w) (base:=base) OB (nE i_Flat_Xinit__ λ_ _ _ _ _ _ us hu=>by obtain ⟨_,_,_,_,rfl⟩:=EB hu;rfl)
 have lg:=ZA (P:=l.prog) (w:=w) (base:=base) OB (nE i_Each_Xinit__ λ_ _ _ _ _ _ us hu=>by obtain ⟨_,_,_,_,rfl⟩:=EB hu;rfl)
 have Fq:=ZX z_list iR eM iQ iS k9 lg (ql X G i13)
 have iY:=ZE (P:=l.prog) (w:=w) (base:=base) (wy X G i14)
 have sr:=Z5 iY (lx X G i15)
 have Fp:=ZW z_range iY sr (lx X G i16)
 have Fo:=ZV iY sr Fp (lx X G i17)
 have Fk:=ZU z_tuple z_range iY sr (lx X G i18)
 have xN:=Yy (P:=l.prog) (w:=w) (base:=base) z_len (lx X G i19)
 have FE:=Z4 z_range Fk xN (lx X G i20)
 have O_law:=Vf z_len z_range z_min z_isinstance z_max cY xQ FA FQ Fz FC iT k8 Fq Fo xN FE (ql X G i21)
 exact VR O_law fin
end My
open PySem L2 DL
def vcNames:String:="a0e Wo_none a0i a1m a48 a9U a9T a9S Wo_seq b7z Wo_bk Wo_ct b3A b5l b7u b5h b7V b7j b5z b5S b44 b7K Wo_eC b7T b7A b5r b5x b5p b5t b5w b5u b5q b7E b7F b7G b7H b7I b7C b5v b5s b2Z b2W b2Y b2V b2X b2U b5T b5V b5U rep0 rep1 rep2 rep3 rep4 b2N b27 b28 b5B b5C b5A b5F b5R b5P b5I b5J b5o b7S b2R b2S b5W b5X b7B b5m b0C b2e b0E b0B b0A b0D b3z b7Y b5e b5d b5c b49 b5b b5a b2O b5g b7r b5f b5Q b7O b5H b7R b5Y b3b b5D b5K b7k b7m b7l Wo_bV b7U b7s b7t b5L b24 b1g ixQ_i b7Q b7o atI_1 atI_2 atI_3 b26 b1i b29 b3a b5M b4T b4U b3B b5y a8j a7B b5j b5i b2Q b2P b1n b1o b1p b1m b7D Wo_gT b2T b1e b7W b7n b7Z b6Z b7J b7w b4w b5n b46 b45 b5k b7y pQ_i b7x b7N b5G slQ_t b2J b2K b2L b2M srQ_l a9x b25 b20 b22 Sl_sh Sl_ow b21 List.getElem?_cons_zero List.getElem?_cons_succ List.set_cons_zero List.set_cons_succ List.length_cons List.length_nil a77 a9p a79 a76 a75 a78 a7k a8a a7m a7j a7i a7l a71 a9o a73 a70 a7Z a72 a7f a74 a7h a7e a7d a7g a6l a7c a6n a6k a6j a6m decide_eq_true_eq decide_eq_false_iff_not Bool.not_eq_true' Bool.not_eq_false' Bool.not_true Bool.not_false true_and and_true forall_const Bool.true_eq_false Bool.false_eq_true false_implies reduceCtorEq implies_true true_implies Int.reduceToNat Nat.reduceAdd Nat.reduceLT Nat.reduceLeDiff Nat.reduceSub Int.reduceLT Int.reduceLE Int.reduceEq Int.cast_ofNat_Int not_true_eq_false not_false_eq_true"
local macro_rules | `(tactic| walk_at "vc")=>do
 let ls ← ((vcNames.splitOn " ") ++ ["a0G","b1c","b2a","b4y","b2c","b19","b18","b2b"]).toArray.mapM fun s=>`(Lean.Parser.Tactic.simpLemma| $(Lean.mkIdent s.toName):ident)
 `(tactic| first | simp only [$ls,*] | dsimp only | skip)
local macro_rules | `(tactic| walk_at "v1")=>do
 let ls ← (vcNames.splitOn " ").toArray.mapM fun s=>`(Lean.Parser.Tactic.simpLemma| $(Lean.mkIdent s.toName):ident)
 `(tactic| first | simp only [$ls,*] | dsimp only | skip)
local macro_rules | `(tactic| walk_at "sc")=>`(tactic| first | omega | (simp only [DivC,PowC,MulC,LIM,R62]; omega) | rfl | decide)
local macro_rules | `(tactic| walk_at "go")=>`(tactic| (walk_at "vc"; repeat' first | apply c2W | intro _); all_goals try (walk_at "sc"))
local macro_rules | `(tactic| walk_at "sp")=>`(tactic| (repeat' first | apply And.intro | intro _); all_goals first | (exfalso; omega) | walk_at "sc" | ((repeat apply Exists.intro); rfl) | skip)
local macro_rules | `(tactic| walk_at "st")=>`(tactic| repeat (refine And.intro ?_ ?_; · first | (simp only [DivC,PowC,MulC,LIM,R62]; omega) | omega))
namespace My
theorem Wd:∀{ns:List Int} {n:Int},n∈ns->hV ns<=n:=by
 intro ns
 have key:∀(r:List Int) (a:Int),r.foldl (λa b=>if b<a then b else a) a<=a/\∀n∈r,r.foldl (λa b=>if b<a then b else a) a<=n:=λr=>by
  induction r with
  | nil=>intro a;simp
  | cons b r ih =>
   intro a
   simp only [yy]
   obtain ⟨h1,h2⟩:=ih (if b<a then b else a)
   have h3:(if b<a then b else a)<=a/\(if b<a then b else a)<=b:=by split<;>omega
   refine ⟨by omega,λn hn=>?_⟩
   rcases bG.mp hn with rfl | hn
   .omega
   .exact h2 n hn
 cases ns with
 | nil=>intro n h;cases h
 | cons m r =>
  intro n h
  rcases bG.mp h with rfl | h
  .exact (key r n).1
  .exact (key r m).2 n h
theorem X2:∀{ns:List Int},ns≠[]->hV ns∈ns:=by
 intro ns
 have key:∀(r:List Int) (a:Int),r.foldl (λa b=>if b<a then b else a) a∈a::r:=λr=>by
  induction r with
  | nil=>intro a;simp
  | cons b r ih =>
   intro a
   simp only [yy]
   have:=ih (if b<a then b else a)
   rcases bG.mp this with h | h
   .rw [h];split<;>simp
   .simp [h]
 cases ns with
 | nil=>intro h;exact (h rfl).elim
 | cons m r=>intro _;exact key r m
theorem Yt:∀{ns:List Int},ns≠[]->h7 ns∈ns/\∀n∈ns,n<=h7 ns:=by
 intro ns
 have key:∀(r:List Int) (a:Int),r.foldl (λa b=>if b>a then b else a) a∈a::r/\a<=r.foldl (λa b=>if b>a then b else a) a/\∀n∈r,n<=r.foldl (λa b=>if b>a then b else a) a:=λr=>by
  induction r with
  | nil=>intro a;simp
  | cons b r ih =>
   intro a
   simp only [yy]
   obtain ⟨h1,h2,h3⟩:=ih (if b>a then b else a)
   have hx:a<=(if b>a then b else a)/\b<=(if b>a then b else a):=by split<;>omega
   refine ⟨?_,by omega,λn hn=>?_⟩
   .rcases bG.mp h1 with h | h
    .rw [h];split<;>simp
    .exact gE _ (gE _ h)
   .rcases bG.mp hn with rfl | hn
    .omega
    .exact h3 n hn
 cases ns with
 | nil=>intro h;exact (h rfl).elim
 | cons m r =>
  intro _
  obtain ⟨h1,h2,h3⟩:=key r m
  refine ⟨h1,λn hn=>?_⟩
  rcases bG.mp hn with rfl | hn
  .exact h2
  .exact h3 n hn
noncomputable abbrev Row:=Int×Int×Int×Int
noncomputable def Row.d(r:Row):D:=.tup [.int r.1,.int r.2.1,.int r.2.2.1,.int r.2.2.2]
theorem mn(r:Row):Row.d r=.tup [.int r.1,.int r.2.1,.int r.2.2.1,.int r.2.2.2]:=rfl
noncomputable def Row.at(r:Row)(x:Int):Int:=r.2.2.1+r.2.2.2*(x-r.1)
def xH(r:Row):Prop:=r.1<=r.2.1/\(r.1=r.2.1->r.2.2.2=0)
def Cc(a r:Row):Prop:=a.2.1<r.1/\(r.1=a.2.1+1->a.1<a.2.1/\r.2.2.1≠a.at r.1)
noncomputable def bW(R:Row->Row->Prop):List Row->Prop
 | a::b::rs=>R a b/\bW R (b::rs)
 | _=>True
theorem bW.snoc{R:Row->Row->Prop}{r:Row}:∀{rs:List Row},bW R rs->(∀a,rs.getLast?=some a->R a r)->bW R (rs++[r])
 | [],_,_=>trivial
 | [a],_,h=>⟨h a rfl,trivial⟩
 | a::b::rs,h,k=>⟨h.1,h.2.snoc (rs:=b::rs) λc hc=>k c (by simpa using hc)⟩
theorem bW.tail{R:Row->Row->Prop}{r:Row}{rs:List Row}(h:bW R (r::rs)):bW R rs:=by
 cases rs with
 | nil=>trivial
 | cons q rs=>exact h.2
def Canon(rs:List Row):Prop:=(∀r∈rs,xH r)/\bW Cc rs
def aU(B:Int)(r:Row):Prop:=(-B<=r.1/\r.1<=B)/\(-B<=r.2.1/\r.2.1<=B)/\(-B<=r.2.2.1/\r.2.2.1<=B)/\(-B<=r.2.2.2/\r.2.2.2<=B)
noncomputable def look:List Row->Int->Option Int
 | [],_=>none
 | r::rs,x=>if r.1<=x/\x<=r.2.1 then some (r.at x) else look rs x
noncomputable def nZ:Option Int->D
 | none=>.bz
 | some i=>.int i
def q9(rs:List Row):Prop:=(∀r∈rs,r.1<=r.2.1)/\rs.Pairwise λa b=>a.2.1<b.1
theorem Canon.qX:∀{rs:List Row},Canon rs->q9 rs
 | [],_=>⟨λ_ z=>(nomatch z),.nil⟩
 | [r],h=>⟨λq hq=>(h.1 q hq).1,vz _ _⟩
 | r::q::rs,h=>by
  obtain ⟨i1,i2⟩:=Canon.qX (rs:=q::rs) ⟨λa ha=>h.1 a (gE _ ha),h.2.2⟩
  refine ⟨λa ha=>(h.1 a ha).1,kZ.mpr ⟨λa ha=>?_,i2⟩⟩
  have h1:=h.2.1.1
  rcases bG.mp ha with rfl | ha
  .exact h1
  .have:=(kZ.mp i2).1 a ha
   have:=i1 q jz
   lia
theorem Qf{x:Int}{post:List Row}:∀{pre:List Row},(∀q∈pre,q.2.1<x)->look (pre++post) x=look post x
 | [],_=>rfl
 | r::pre,h=>by
  have:=h r jz
  rw [xy,look,if_neg (by ext this)]
  exact Qf λq hq=>h q (gE _ hq)
theorem Qe{x:Int}:∀{rs:List Row},(∀q∈rs,x<q.1\/q.2.1<x)->look rs x=none
 | [],_=>rfl
 | r::rs,h=>by
  have:=h r jz
  rw [look,if_neg (by ext this)]
  exact Qe λq hq=>h q (gE _ hq)
theorem Ke{x c:Int}:∀{rs:List Row},look rs x=some c->∃r∈rs,r.1<=x/\x<=r.2.1/\c=r.at x
 | [],h=>by cases h
 | r::rs,h=>by
  rw [look] at h
  split at h
  .exact ⟨r,jz,by lia,by lia,(dC h).symm⟩
  .obtain ⟨q,hq,k⟩:=Ke h
   exact ⟨q,gE _ hq,k⟩
theorem JY{rs:List Row}(h:q9 rs){r:Row}(hr:r∈rs){x:Int}(h1:r.1<=x)(h2:x<=r.2.1):look rs x=some (r.at x):=by
 obtain ⟨pre,post,rfl⟩:=List.append_of_mem hr
 rw [Qf λq hq=>?_,look,if_pos ⟨h1,h2⟩]
 have:=(pE.mp h.2).2.2 q hq r jz
 ext h1 this
def Val(rs:List Row)(x c:Int):Prop:=∃r∈rs,r.1<=x/\x<=r.2.1/\c=r.at x
theorem Ff{rs:List Row}(h:q9 rs){x c:Int}:look rs x=some c↔Val rs x c:=
 ⟨Ke,λ⟨r,hr,h1,h2,e⟩=>by rw [JY h hr h1 h2,e]⟩
theorem Wc{rs qs:List Row}(h:q9 rs)(k:q9 qs){x:Int}(e:∀c,Val rs x c↔Val qs x c):look rs x=look qs x:=by
 cases h1:look rs x with
 | some c=>exact ((Ff k).mpr ((e c).mp ((Ff h).mp h1))).symm
 | none =>
  cases h2:look qs x with
  | none=>rfl
  | some c =>
   have:=(Ff h).mpr ((e c).mpr ((Ff k).mp h2))
   rw [h1] at this;cases this
theorem Val.app{rs qs:List Row}{x c:Int}:Val (rs++qs) x c↔Val rs x c\/Val qs x c:=by
 unfold Val
 constructor
 .rintro ⟨r,hr,h⟩
  rcases jI.mp hr with hr | hr
  .exact .inl ⟨r,hr,h⟩
  .exact .inr ⟨r,hr,h⟩
 .rintro (⟨r,hr,h⟩ | ⟨r,hr,h⟩)
  .exact ⟨r,yL _ hr,h⟩
  .exact ⟨r,qy _ hr,h⟩
theorem Val.one{r:Row}{x c:Int}:Val [r] x c↔r.1<=x/\x<=r.2.1/\c=r.at x:=by
 unfold Val
 simp
theorem Val.two{r q:Row}{x c:Int}:Val [r,q] x c↔(r.1<=x/\x<=r.2.1/\c=r.at x)\/(q.1<=x/\x<=q.2.1/\c=q.at x):=by
 unfold Val
 simp
noncomputable def total(rs:List Row):Int:=(rs.map λr=>r.2.1-r.1+1).sum
theorem CB(rs qs:List Row):total (rs++qs)=total rs+total qs:=by unfold total;rw [mJ,List.sum_append]
theorem bW.append{R:Row->Row->Prop}:∀{rs qs:List Row},bW R rs->bW R qs->(∀a b,rs.getLast?=some a->qs.head?=some b->R a b)->bW R (rs++qs)
 | [],_,_,h,_=>h
 | [a],[],_,_,_=>trivial
 | [a],b::qs,_,h,k=>⟨k a b rfl rfl,h⟩
 | a::b::rs,qs,h,h',k=>⟨h.1,bW.append (rs:=b::rs) h.2 h' λc d hc hd=>k c d (by simpa using hc) hd⟩
theorem bW.left{R:Row->Row->Prop}:∀{rs qs:List Row},bW R (rs++qs)->bW R rs
 | [],_,_=>trivial
 | [a],_,_=>trivial
 | a::b::rs,qs,h=>⟨h.1,bW.left (rs:=b::rs) h.2⟩
theorem bW.mid{R:Row->Row->Prop}{b:Row}:∀{rs:List Row},bW R (rs++[b])->∀a,rs.getLast?=some a->R a b
 | [],_,a,h=>by cases h
 | [a],h,c,hc=>by cases hc;exact h.1
 | a::c::rs,h,d,hd=>bW.mid (rs:=c::rs) h.2 d (by simpa using hd)
theorem bW.get{R:Row->Row->Prop}:∀{rs:List Row},bW R rs->∀(k:Nat) (h:k+1<rs.length),R (rs[k]'(by ext h)) rs[k+1]
 | [],_,k,h=>absurd h (by simp)
 | [a],_,k,h=>absurd h (by simp)
 | a::b::rs,h,0,_=>h.1
 | a::b::rs,h,k+1,hk=>bW.get (rs:=b::rs) h.2 k (by simpa using hk)
theorem Pn{rs:List Row}{n:Nat}(h:n<rs.length):dt (rs.map Row.d) (n:Int)=some (Row.d rs[n]):=by
 rw [DL.eK];simp [h]
theorem aU.mono{A B:Int}{r:Row}(h:aU A r)(sD:A<=B):aU B r:=by unfold aU at *;ext h sD
theorem VU{p s l x:Int}(h1:-(10^250)<=s)(h2:s<=10^250)(h3:-(10^250)<=x-l)(h4:x-l<=10^250):zg [.tup [.int p,.int s],.int l,.int x]=some (.sh (.int (p+s*(x-l)))):=by
 refine Wo.eq (qD.mpr ?_)
 unfold Kl
 walk_at "go"
theorem Jq(r:Row):vP [r.d]=some (.sh (.bl (decide (r.1=r.2.1)))):=by
 refine Wo.eq (oH.mpr ?_)
 unfold K2
 rw [mn r]
 walk_at "go"
noncomputable def jc(r:Row):Row:=if r.1=r.2.1 then (r.1,r.2.1,r.2.2.1,0) else r
theorem EW(r:Row):uy [r.d]=some (.sh (jc r).d):=by
 refine Wo.eq (uE.mpr ?_)
 unfold JS
 walk_at "vc"
 rw [Jq]
 walk_at "vc"
 unfold jc
 refine ⟨λh=>?_,λh=>?_⟩
 .rw [if_pos h,mn]
  walk_at "vc"
  rfl
 .rw [if_neg h]
noncomputable def oS(a r:Row):Int:=if a.1=a.2.1 then r.2.2.1-a.2.2.1 else a.2.2.2
noncomputable def oU(a r:Row):List Row:=if r.2.2.1≠a.2.2.1+oS a r*(r.1-a.1) then [a,jc r] else if r.1=r.2.1\/r.2.2.2=oS a r then [(a.1,r.2.1,a.2.2.1,oS a r)] else
 [(a.1,r.1,a.2.2.1,oS a r),jc (r.1+1,r.2.1,r.2.2.1+r.2.2.2,r.2.2.2)]
theorem Xp{a r:Row}(ha:aU (3*10^140) a)(hr:aU (10^140) r):CI [a.d,r.d]=some (.ow ((oU a r).map Row.d)):=by
 refine Wo.eq (mB.mpr ?_)
 unfold Le
 walk_at "v1"
 rw [Jq]
 unfold aU at ha hr
 have sy:Wo (some (Sl.sh (D.bl (decide (a.1=a.2.1))))) λRI=>Wo (lO RI.d) λb=>True:=⟨_,rfl,_,rfl,trivial⟩
 have Mm:-(10^200)<=oS a r/\oS a r<=10^200:=by unfold oS;split<;>omega
 rw [mn a,mn r]
 walk_at "v1"
 have fin:∀{st:Int},st=oS a r->Wo (az (cN (cj (aa dA (aS (bV 1) (eC (.int 2))) (cw 3 zg (ag (cu (ag (aS (bV 0) (eC (.int 2))) (ag (eV 2) af))) (ag (aS (bV 0) (eC (.int 0))) (ag (aS (bV 1) (eC (.int 0))) af))))))
   (aT (bU (ag (eV 0) (ag (cw 1 uy (ag (eV 1) af)) af)))) cR)
   (az (cN (dU (jf (cw 1 vP (ag (eV 1) af))) (cj (aa bP (aS (bV 1) (eC (.int 3))) (eV 2))))
   (aT (bU (ag (cu (ag (aS (bV 0) (eC (.int 0))) (ag (aS (bV 1) (eC (.int 1))) (ag (aS (bV 0) (eC (.int 2))) (ag (eV 2) af))))) af))) cR)
   (az (de 3 (cw 1 uy (ag (cu (ag (aa br (aS (bV 1) (eC (.int 0))) (eC (.int 1))) (ag (aS (bV 1) (eC (.int 1))) (ag (aa br (aS (bV 1) (eC (.int 2))) (aS (bV 1) (eC (.int 3)))) (ag (aS (bV 1) (eC (.int 3))) af))))) af)))
   (aT (bU (ag (cu (ag (aS (bV 0) (eC (.int 0))) (ag (aS (bV 1) (eC (.int 0))) (ag (aS (bV 0) (eC (.int 2))) (ag (eV 2) af))))) (ag (eV 3) af)))))) [.sh (.tup [.int a.1,.int a.2.1,.int a.2.2.1,.int a.2.2.2]),.sh (.tup [.int r.1,.int r.2.1,.int r.2.2.1,.int r.2.2.2]),.sh (.int st),.no])
   (bS λx=>x=.ow ((oU a r).map Row.d)):=by
  rintro st rfl
  walk_at "vc"
  rw [VU (by ext Mm) (by ext Mm) (by ext ha hr) (by ext ha hr),<-mn r,EW,Jq]
  have e2:=EW (r.1+1,r.2.1,r.2.2.1+r.2.2.2,r.2.2.2)
  rw [mn] at e2
  dsimp only at e2
  rw [e2]
  walk_at "vc"
  unfold oU
  refine ⟨λh=>?_,λh=>⟨λh1=>?_,λh1=>⟨λh2=>?_,λh2=>?_⟩⟩⟩
  .rw [if_pos h];rfl
  .rw [if_neg (by simpa using h),if_pos (.inl h1)];rfl
  .rw [if_neg (by simpa using h),if_pos (.inr h2)];rfl
  .rw [if_neg (by simpa using h),if_neg (by simp [h1,h2])];rfl
 refine ⟨λh=>?_,λh=>?_⟩
 .exact Wo_seq.mp (fin (by unfold oS;rw [if_pos h]))
 .exact Wo_seq.mp (fin (by unfold oS;rw [if_neg h]))
theorem PV{a r:Row}(ha:xH a)(hr:r.1<=r.2.1)(hn:r.1=a.2.1+1):(∀q∈oU a r,xH q)/\bW Cc (oU a r)/\(∀x c,Val (oU a r) x c↔(a.1<=x/\x<=a.2.1/\c=a.at x)\/(r.1<=x/\x<=r.2.1/\c=r.at x)) /\
  total (oU a r)=(a.2.1-a.1+1)+(r.2.1-r.1+1)/\(∃q,(oU a r).head?=some q/\q.1=a.1/\q.2.2.1=a.2.2.1)/\(∃q,(oU a r).getLast?=some q/\q.2.1=r.2.1)/\(oU a r).length<=2:=by
 obtain ⟨a0,a1,a2,a3⟩:=a
 obtain ⟨r0,r1,r2,r3⟩:=r
 unfold xH at ha
 dsimp only at ha hr hn
 have eU:∀r:Row,r.1<=r.2.1->xH (jc r)/\(jc r).1=r.1/\(jc r).2.1=r.2.1/\(jc r).2.2.1=r.2.2.1/\∀x,r.1<=x->x<=r.2.1->(jc r).at x=r.at x:=λr h=>by
  unfold jc
  split
  .rename_i e
   refine ⟨⟨by dsimp only;ext h,λ_=>rfl⟩,rfl,rfl,rfl,λx h1 h2=>?_⟩
   have:x=r.1:=by ext e h1 h2
   unfold Row.at
   dsimp only
   rw [this];simp
  .rename_i e
   exact ⟨⟨h,λz=>absurd z e⟩,rfl,rfl,rfl,λ_ _ _=>rfl⟩
 generalize hs:oS (a0,a1,a2,a3) (r0,r1,r2,r3)=s
 have Tt:a0=a1->s=r2-a2:=λe=>by rw [<-hs];unfold oS;dsimp only;rw [if_pos e]
 have lA:a0≠a1->s=a3:=λe=>by rw [<-hs];unfold oS;dsimp only;rw [if_neg e]
 unfold oU
 dsimp only
 rw [hs]
 by_cases cW:r2≠a2+s*(r0-a0)
 .rw [if_pos cW]
  have MH:a0≠a1:=λe=>cW (by rw [Tt e,hn,<-e];grind)
  have hs:=lA MH
  obtain ⟨p1,p2,p3,p4,p5⟩:=eU (r0,r1,r2,r3) hr
  dsimp only at p2 p3 p4 p5
  refine ⟨λq hq=>?_,⟨⟨by rw [p2];dsimp only;ext hn,λ_=>⟨by dsimp only;ext ha MH,?_⟩⟩,trivial⟩,λx c=>?_,?_,⟨_,rfl,rfl,rfl⟩,⟨_,rfl,p3⟩,by simp⟩
  .simp at hq
   rcases hq with rfl | rfl
   .exact ha
   .exact p1
  .rw [p4,p2]
   unfold Row.at
   dsimp only
   rw [<-hs];exact cW
  .rw [Val.two,p2,p3]
   constructor
   .rintro (h | ⟨h1,h2,h3⟩)
    .exact .inl h
    .exact .inr ⟨h1,h2,by rw [h3,p5 x h1 h2]⟩
   .rintro (h | ⟨h1,h2,h3⟩)
    .exact .inl h
    .exact .inr ⟨h1,h2,by rw [h3,p5 x h1 h2]⟩
  .unfold total
   simp [p2,p3]
 .have he:r2=a2+s*(r0-a0):=Nm.mp cW
  rw [if_neg cW]
  have va:∀x,a0<=x->x<=a1->a2+s*(x-a0)=a2+a3*(x-a0):=λx h1 h2=>by
   by_cases e:a0=a1
   .have:x=a0:=by ext h1 h2 e
    rw [this];simp
   .rw [lA e]
  by_cases hj:r0=r1\/r3=s
  .rw [if_pos hj]
   have vr:∀x,r0<=x->x<=r1->a2+s*(x-a0)=r2+r3*(x-r0):=λx h1 h2=>by
    have e1:a2+s*(x-a0)=r2+s*(x-r0):=by rw [he];grind
    rw [e1]
    rcases hj with e | e
    .have:x=r0:=by ext h1 h2 e
     rw [this];simp
    .rw [e]
   refine ⟨λq hq=>?_,trivial,λx c=>?_,?_,⟨_,rfl,rfl,rfl⟩,⟨_,rfl,rfl⟩,by simp⟩
   .simp at hq
    subst hq
    exact ⟨by dsimp only;ext ha hr hn,λz=>by dsimp only at z;ext ha hr hn z⟩
   .rw [Val.one]
    unfold Row.at
    dsimp only
    constructor
    .rintro ⟨h1,h2,h3⟩
     by_cases hx:x<=a1
     .exact .inl ⟨h1,hx,by rw [h3];exact va x h1 hx⟩
     .exact .inr ⟨by ext hn hx,h2,by rw [h3];exact vr x (by ext hn hx) h2⟩
    .rintro (⟨h1,h2,h3⟩ | ⟨h1,h2,h3⟩)
     .exact ⟨h1,by ext hr hn h2,by rw [h3];exact (va x h1 h2).symm⟩
     .exact ⟨by ext ha hn h1,h2,by rw [h3];exact (vr x h1 h2).symm⟩
   .unfold total
    simp
    ext hn
  .rw [if_neg hj]
   have TX:r0≠r1:=λe=>hj (.inl e)
   have TU:r3≠s:=λe=>hj (.inr e)
   obtain ⟨p1,p2,p3,p4,p5⟩:=eU (r0+1,r1,r2+r3,r3) (by dsimp only;ext hr TX)
   dsimp only at p2 p3 p4 p5
   have vp:∀x,Row.at (r0+1,r1,r2+r3,r3) x=r2+r3*(x-r0):=λx=>by unfold Row.at;dsimp only;grind
   refine ⟨λq hq=>?_,⟨⟨by rw [p2];dsimp only;ext,λ_=>⟨by dsimp only;ext ha hn,?_⟩⟩,trivial⟩,λx c=>?_,?_,⟨_,rfl,rfl,rfl⟩,⟨_,rfl,p3⟩,by simp⟩
   .simp at hq
    rcases hq with rfl | rfl
    .exact ⟨by dsimp only;ext ha hn,λz=>by dsimp only at z;ext ha hn z⟩
    .exact p1
   .rw [p4,p2]
    unfold Row.at
    dsimp only
    have:a2+s*(r0+1-a0)=r2+s:=by rw [he];grind
    rw [this]
    ext TU
   .rw [Val.two,p2,p3]
    unfold Row.at at vp p5 ⊢
    dsimp only at vp p5 ⊢
    constructor
    .rintro (⟨h1,h2,h3⟩ | ⟨h1,h2,h3⟩)
     .by_cases hx:x<=a1
      .exact .inl ⟨h1,hx,by rw [h3];exact va x h1 hx⟩
      .have:x=r0:=by ext hn h2 hx
       exact .inr ⟨by ext hn hx,by ext hr h2,by rw [h3,this,<-he];simp⟩
     .refine .inr ⟨by ext h1,h2,?_⟩
      rw [p5 x h1 h2,vp] at h3
      exact h3
    .rintro (⟨h1,h2,h3⟩ | ⟨h1,h2,h3⟩)
     .exact .inl ⟨h1,by ext hn h2,by rw [h3];exact (va x h1 h2).symm⟩
     .by_cases hx:x=r0
      .exact .inl ⟨by ext ha hn hx,by ext hx,by rw [h3,hx,<-he];simp⟩
      .refine .inr ⟨by ext h1 hx,h2,?_⟩
       rw [p5 x (by ext h1 hx) h2,vp]
       exact h3
   .unfold total
    simp [p2,p3]
    ext hn
theorem YH{a r:Row}(ha:aU (3*10^140) a/\(-(2*10^140)<=a.2.2.1/\a.2.2.1<=2*10^140))(hr:aU (10^140) r):∀q∈oU a r,aU (3*10^140) q/\(-(2*10^140)<=q.2.2.1/\q.2.2.1<=2*10^140):=by
 unfold aU at *
 have hs:-(3*10^140)<=oS a r/\oS a r<=3*10^140:=by unfold oS;split<;>omega
 have hp:∀z:Row,((jc z).1=z.1/\(jc z).2.1=z.2.1/\(jc z).2.2.1=z.2.2.1/\((jc z).2.2.2=z.2.2.2\/(jc z).2.2.2=0)):=λz=>by unfold jc;split<;>simp
 intro q hq
 unfold oU at hq
 split at hq
 .simp at hq
  rcases hq with rfl | rfl
  .exact ha
  .have:=hp r;ext hr this
 .split at hq
  .simp at hq
   subst hq
   dsimp only
   ext ha hr hs
  .simp at hq
   rcases hq with rfl | rfl
   .dsimp only;ext ha hr hs
   .have:=hp (r.1+1,r.2.1,r.2.2.1+r.2.2.2,r.2.2.2)
    dsimp only at this
    ext hr this
theorem Ye{r:Row}(h:r.1<=r.2.1):xH (jc r)/\(jc r).1=r.1/\(jc r).2.1=r.2.1/\(jc r).2.2.1=r.2.2.1/\∀x,r.1<=x->x<=r.2.1->(jc r).at x=r.at x:=by
 unfold jc
 split
 .rename_i e
  refine ⟨⟨by dsimp only;ext h,λ_=>rfl⟩,rfl,rfl,rfl,λx h1 h2=>?_⟩
  have:x=r.1:=by ext e h1 h2
  unfold Row.at
  dsimp only
  rw [this];simp
 .rename_i e
  exact ⟨⟨h,λz=>absurd z e⟩,rfl,rfl,rfl,λ_ _ _=>rfl⟩
structure Laid(pre ms:List Row):Prop where
 canon:Canon ms
 val:∀x c,Val ms x c↔Val pre x c
 total:total ms=total pre
 last:∀a r,ms.getLast?=some a->pre.getLast?=some r->a.2.1=r.2.1
 none:ms=[]↔pre=[]
 len:ms.length<=pre.length
 bd:∀q∈ms,aU (3*10^140) q/\(-(2*10^140)<=q.2.2.1/\q.2.2.1<=2*10^140)
theorem Laid.append{pre ms:List Row}{r:Row}(h:Laid pre ms)(hr:r.1<=r.2.1)(hb:aU (10^140) r)(hf:∀a,ms.getLast?=some a->a.2.1<r.1/\a.2.1+1≠r.1):Laid (pre++[r]) (ms++[jc r]):=by
 obtain ⟨p1,p2,p3,p4,p5⟩:=Ye hr
 refine ⟨⟨λq hq=>?_,h.canon.2.snoc λa ha=>?_⟩,λx c=>?_,?_,λa q ha hq=>?_,by simp,by simp;exact h.len,λq hq=>?_⟩
 .rcases jI.mp hq with hq | hq
  .exact h.canon.1 q hq
  .rw [lE.mp hq];exact p1
 .have:=hf a ha
  exact ⟨by rw [p2];ext this,λz=>by rw [p2] at z;ext this z⟩
 .rw [Val.app,Val.app,h.val x c,Val.one,Val.one,p2,p3]
  constructor
  .rintro (h | ⟨h1,h2,h3⟩)
   .exact .inl h
   .exact .inr ⟨h1,h2,by rw [h3,p5 x h1 h2]⟩
  .rintro (h | ⟨h1,h2,h3⟩)
   .exact .inl h
   .exact .inr ⟨h1,h2,by rw [h3,p5 x h1 h2]⟩
 .rw [CB,CB,h.total]
  unfold My.total
  simp [p2,p3]
 .simp at ha hq
  subst ha hq
  exact p3
 .rcases jI.mp hq with hq | hq
  .exact h.bd q hq
  .rw [lE.mp hq]
   have:(jc r).2.2.2=r.2.2.2\/(jc r).2.2.2=0:=by unfold jc;split<;>simp
   unfold aU at *
   ext hb p2 p3 p4 this
theorem Laid.xu{pre ms:List Row}{a r:Row}(h:Laid pre (ms++[a]))(hr:r.1<=r.2.1)(hb:aU (10^140) r)(hn:a.2.1+1=r.1):Laid (pre++[r]) (ms++oU a r):=by
 obtain ⟨b1,b2,b3,b4,⟨q1,b5,b6,b7⟩,⟨q2,b8,b9⟩,Yn⟩:=PV (h.canon.1 a (by simp)) hr hn.symm
 have cW:oU a r≠[]:=λz=>by rw [z] at b5;cases b5
 refine ⟨⟨λq hq=>?_,h.canon.2.left.append b2 λc d hc hd=>?_⟩,λx c=>?_,?_,λc q hc hq=>?_,by simp [cW],?_,λq hq=>?_⟩
 .rcases jI.mp hq with hq | hq
  .exact h.canon.1 q (by simp [hq])
  .exact b1 q hq
 .rw [b5] at hd
  cases hd
  have:=h.canon.2.mid c hc
  unfold Cc at this ⊢
  rw [b6,b7]
  exact this
 .rw [Val.app,Val.app,Val.one,b3,<-h.val,Val.app,Val.one,or_assoc]
 .have e:=h.total
  rw [CB] at e
  rw [CB,CB,b4,<-e]
  unfold My.total
  simp
  ext
 .rw [List.getLast?_append,b8] at hc
  simp at hc hq
  subst hc hq
  exact b9
 .have:=h.len
  simp at this ⊢
  ext Yn this
 .rcases jI.mp hq with hq | hq
  .exact h.bd q (by simp [hq])
  .exact YH (h.bd a (by simp)) hb q hq
theorem Vb{rows:List Row}(ha:q9 rows)(hb:∀r∈rows,aU (10^140) r)(hl:rows.length<=8000000){ro:Bool}:∃fs:List Row,oY [.lst ro (rows.map Row.d)]=some (.sh (.tup (fs.map Row.d)))/\Laid rows fs:=by
 have key:Wo (oY [.lst ro (rows.map Row.d)]) λs=>∃fs:List Row,s=.sh (.tup (fs.map Row.d))/\Laid rows fs:=by
  refine xR.mpr ?_
  unfold JA
  walk_at "vc"
  refine ur Row.d (λpre env=>∃x2 x3,∃ms:List Row,env=[.sh (.lst ro (rows.map Row.d)),.ow (ms.map Row.d),x2,x3]/\Laid pre ms) rows (λpre r post env e h=>?_) (λenv h=>?_)
   ⟨_,_,[],rfl,⟨⟨λ_ z=>(nomatch z),trivial⟩,λ_ _=>e8,rfl,λ_ _ z=>(nomatch z),e8,bZ _,λ_ z=>(nomatch z)⟩⟩
  .obtain ⟨x2,x3,ms,rfl,h⟩:=h
   have hr:r∈rows:=by rw [e];simp
   have Ds:=ha.1 r hr
   have Dt:=hb r hr
   have hlen:ms.length<=8000000:=jA h.len (jA (by rw [e];simp) hl)
   have qp:∀q,pre.getLast?=some q->q.2.1<r.1:=λq hq=>by
    have:=ha.2
    rw [e] at this
    exact (pE.mp this).2.2 q (MV hq) r jz
   rcases MY ms with rfl | ⟨ns,a,e2⟩
   .walk_at "vc"
    simp only [oi,List.isEmpty_nil,Bool.not_true,xC,false_implies,true_implies,true_and]
    rw [EW]
    walk_at "vc"
    have:=h.append Ds Dt (λ_ z=>nomatch z)
    exact ⟨_,_,[jc r],rfl,this⟩
   .have e2:ms=ns++[a]:=by simpa using e2
    subst e2
    have AU:pre≠[]:=λz=>by have:=h.none.mpr z;simp at this
    obtain ⟨q,hq⟩:∃q,pre.getLast?=some q:=⟨pre.getLast AU,List.getLast?_eq_some_getLast AU⟩
    have pV:=h.last a q (by simp) hq
    have cq:=qp q hq
    walk_at "vc"
    have em:(yt Row.d (ns++[a])).isEmpty=false:=by simp
    rw [em,mJ,e9,oi,DL.lG,mn a,mn r]
    walk_at "vc"
    refine ⟨λhe=>?_,λhe=>?_⟩
    .have ed:(yt Row.d ns++[D.tup [D.int a.1,D.int a.2.1,D.int a.2.2.1,D.int a.2.2.2]])[(yt Row.d ns++[D.tup [D.int a.1,D.int a.2.1,D.int a.2.2.1,D.int a.2.2.2]]).length-1]?=some (D.tup [D.int a.1,D.int a.2.1,D.int a.2.2.1,D.int a.2.2.2]):=by simp
     rw [ed,List.dropLast_concat]
     walk_at "vc"
     rw [<-mn a,<-mn r,Xp (h.bd a (by simp)).1 Dt]
     walk_at "vc"
     have hb2:=(PV (h.canon.1 a (by simp)) Ds he.symm).2.2.2.2.2.2
     simp at hlen
     refine ⟨by decide,by simp;lia,_,_,ns++oU a r,by rw [mJ],h.xu Ds Dt he⟩
    .rw [<-mn a,<-mn r,EW]
     walk_at "vc"
     simp at hlen
     refine ⟨by simp;lia,_,_,ns++[a]++[jc r],by rw [mJ,mJ];rfl,h.append Ds Dt λc hc=>?_⟩
     simp at hc
     subst hc
     exact ⟨by ext pV cq,he⟩
  .obtain ⟨x2,x3,ms,rfl,h⟩:=h
   walk_at "vc"
   exact ⟨ms,rfl,h⟩
 obtain ⟨s,e,fs,rfl,h⟩:=key
 exact ⟨fs,e,h⟩
theorem JU{c:En->Option Bool}{F:SF}{env:En}{Q:Fl×En->Prop}(hc:Wo (c env) λb=>b=false)(h:Q (.nx,env)):Wo (cN c F cR env) Q:=by
 rw [a0G]
 exact hc.mono λb hb=>⟨λz=>(by rw [hb] at z;cases z),λ_=>(by rw [b7z];exact h)⟩
theorem Bn(ns:List Int)(k:Int)(hk:0<=k){r:Bool}:zb [.lst r (ns.map D.int),.int k]=some (.sh (.int (ns.getD k.toNat 0))):=by
 refine Wo.eq (su.mpr ?_)
 unfold Kh
 walk_at "vc"
 rw [dF]
 refine ⟨λh=>?_,λh=>?_⟩
 .rw [Ki 0 hk h]
  walk_at "vc"
 .have:ns.length<=k.toNat:=by ext h
  rw [show ns.getD k.toNat 0=0 by simp [this]]
theorem nz(c k s:Int)(hk:0<=k/\k<=1000)(hs:0<s/\s<=10^45):∃m:Int,k7 [.int c,.int k,.int s]=some (.sh (.int m))/\0<=m/\m<s:=by
 have key:Wo (k7 [.int c,.int k,.int s]) λx=>∃m:Int,x=.sh (.int m)/\0<=m/\m<s:=by
  refine qE.mpr ?_
  unfold Kk
  have a1:=DO c (show (10^60:Int)≠0 by decide)
  have a2:=Eh c (show (0:Int)<10^60 by decide)
  have k1:0<=k*k:=vw hk.1 hk.1
  have k2:k*k<=1000*1000:=vt hk.2 hk.2 hk.1 (by decide)
  have k3:2*k*k=2*(k*k):=Int.mul_assoc ..
  walk_at "vc"
  have o1:0<=271828182845904523536028747135266249775724709369995+2*k*k:=by omega
  have o2:271828182845904523536028747135266249775724709369995+2*k*k<=10^52:=by omega
  generalize 271828182845904523536028747135266249775724709369995+2*k*k=o at *
  generalize c%10^60=u at *
  have p1:0<=(u+1)*o:=vw (by ext a1) o1
  have p2:(u+1)*o<=10^60*10^52:=vt (by ext a2) o2 o1 (by decide)
  generalize (u+1)*o=p at *
  generalize (p+7907*k)*(p+7907*k)%(10^60+7)/11=w at *
  exact ⟨.inl (by decide),.inl (by ext hk),by walk_at "sc",by decide,qC (by ext a1) (by ext a2) (by ext o1) (by ext o2),.inl (by decide),qC (by ext hk p1) (by omega) (by ext hk p1) (by omega),by walk_at "sc",by decide,OL (by decide) (by decide),hs.1,_,rfl,DO _ (by ext hs),Eh _ hs.1⟩
 obtain ⟨x,e,m,rfl,h⟩:=key
 exact ⟨m,e,h⟩
local macro_rules | `(tactic| walk_at "o1")=>do
 let ls ← ((vcNames.splitOn " ") ++ ["b5O","b23","b7P","b5N","b7M","b7L","tcQ_d","tgQ_d","tiQ_d","Sl_tw"]).toArray.mapM fun s=>`(Lean.Parser.Tactic.simpLemma| $(Lean.mkIdent s.toName):ident)
 `(tactic| first | simp only [$ls,*] | dsimp only | skip)
inductive Pl where
 | each (p lo hi:Int) | flat (p lo hi:Int) | bands (rs:List (Int×Int)) | steps (rs:List (Int×Int)) | blocks (s p m:Int) | name (n:Str)
noncomputable def Pr(q:Int×Int):D:=.tup [.int q.1,.int q.2]
noncomputable def Pl.d:Pl->D
 | .each p lo hi=>.tup [.str "each",.int p,.int lo,.int hi]
 | .flat p lo hi=>.tup [.str "flat",.int p,.int lo,.int hi]
 | .bands rs=>.tup [.str "bands",.lst false (rs.map Pr)]
 | .steps rs=>.tup [.str "steps",.lst false (rs.map Pr)]
 | .blocks s p m=>.tup [.str "blocks",.int s,.int p,.int m]
 | .name n=>.tup [.str "name",.str n]
noncomputable def Pl.o:Pl->D
 | .each p lo hi=>.obj "Each" Cg [.int p,.int lo,.int hi]
 | .flat p lo hi=>.obj "Flat" Ci [.int p,.int lo,.int hi]
 | .bands rs=>.obj "Bands" Cy [.lst false (rs.map Pr)]
 | .steps rs=>.obj "Steps" CA [.lst false (rs.map Pr)]
 | .blocks s p m=>.obj "Blocks" Co [.int s,.int p,.int m]
 | .name n=>.obj "Named" Cz [.str n]
def uj(rs:List (Int×Int)):Prop:=rs≠[]/\rs.length<=3/\(∀q∈rs,(0<=q.1/\q.1<=10^40) /\ -(10^40)<=q.2/\q.2<=10^40)/\rs.Pairwise λa b=>a.1<b.1
noncomputable def Pl.ok:Pl->Prop
 | .each p lo hi=>(-(10^40)<=p/\p<=10^40)/\(0<=lo/\lo<=10^40)/\(lo<=hi/\hi<=10^40)
 | .flat p lo hi=>(-(10^40)<=p/\p<=10^40)/\(0<=lo/\lo<=10^40)/\(lo<=hi/\hi<=10^40)
 | .bands rs=>uj rs
 | .steps rs=>uj rs
 | .blocks s p m=>(1<=s/\s<=10^39)/\(-(10^40)<=p/\p<=10^40)/\1<=m/\m<=4
 | .name n=>n = "p" \/ n = "qq" \/ n = "ptop"
theorem EX(c k:Int)(hk:0<=k/\k<=200):∃m:Int,uB [.int c,.int k]=some (.sh (.int m)) /\ -(10^40)<=m/\m<=10^40:=by
 have key:Wo (uB [.int c,.int k]) λx=>∃m:Int,x=.sh (.int m) /\ -(10^40)<=m/\m<=10^40:=by
  refine oE.mpr ?_
  unfold K5
  obtain ⟨a,ea,a0,a1⟩:=nz c (k+60) 3 (by ext hk) (by decide)
  walk_at "v1"
  rw [ea]
  walk_at "v1"
  refine ⟨by decide,by decide,?_⟩
  refine Ox [3,10^9,10^39] a0 (by simpa using a1) λv hv=>?_
  have hb:0<v/\v<=10^39:=by
   simp only [bG,dr,or_false] at hv
   ext hv
  obtain ⟨b,eb,b0,b1⟩:=nz c k (2*v+1) (by ext hk) (by ext hb)
  walk_at "v1"
  rw [eb]
  walk_at "v1"
  exact ⟨.inl (by decide),_,rfl,by ext hb b0,by ext hb b1⟩
 obtain ⟨x,e,m,rfl,h⟩:=key
 exact ⟨m,e,h⟩
theorem eqF{a b:Str}(h:a≠b):bP (.str a) (.str b)=some (.sh (.bl false)):=by
 simp [bP,bC,h]
theorem eqT(a:Str):bP (.str a) (.str a)=some (.sh (.bl true)):=by
 simp [bP,bC]
theorem ne_eb:("each":Str) ≠ "bands":=by decide +kernel
theorem ne_es:("each":Str) ≠ "steps":=by decide +kernel
theorem ne_eo:("each":Str) ≠ "blocks":=by decide +kernel
theorem ne_en:("each":Str) ≠ "name":=by decide +kernel
theorem ne_ef:("each":Str) ≠ "flat":=by decide +kernel
theorem ne_fe:("flat":Str) ≠ "each":=by decide +kernel
theorem ne_fb:("flat":Str) ≠ "bands":=by decide +kernel
theorem ne_fs:("flat":Str) ≠ "steps":=by decide +kernel
theorem ne_fo:("flat":Str) ≠ "blocks":=by decide +kernel
theorem ne_fn:("flat":Str) ≠ "name":=by decide +kernel
theorem ne_be:("bands":Str) ≠ "each":=by decide +kernel
theorem ne_bf:("bands":Str) ≠ "flat":=by decide +kernel
theorem ne_bs:("bands":Str) ≠ "steps":=by decide +kernel
theorem ne_bo:("bands":Str) ≠ "blocks":=by decide +kernel
theorem ne_bn:("bands":Str) ≠ "name":=by decide +kernel
theorem ne_se:("steps":Str) ≠ "each":=by decide +kernel
theorem ne_sf:("steps":Str) ≠ "flat":=by decide +kernel
theorem ne_sb:("steps":Str) ≠ "bands":=by decide +kernel
theorem ne_so:("steps":Str) ≠ "blocks":=by decide +kernel
theorem ne_sn:("steps":Str) ≠ "name":=by decide +kernel
theorem ne_oe:("blocks":Str) ≠ "each":=by decide +kernel
theorem b4m:("blocks":Str) ≠ "flat":=by decide +kernel
theorem ne_ob:("blocks":Str) ≠ "bands":=by decide +kernel
theorem ne_os:("blocks":Str) ≠ "steps":=by decide +kernel
theorem ne_on:("blocks":Str) ≠ "name":=by decide +kernel
theorem ne_ne:("name":Str) ≠ "each":=by decide +kernel
theorem ne_nf:("name":Str) ≠ "flat":=by decide +kernel
theorem ne_nb:("name":Str) ≠ "bands":=by decide +kernel
theorem ne_ns:("name":Str) ≠ "steps":=by decide +kernel
theorem ne_no:("name":Str) ≠ "blocks":=by decide +kernel
local macro_rules | `(tactic| walk_at "kd")=>`(tactic| try simp only [eqT,eqF ne_eb,eqF ne_es,eqF ne_eo,eqF ne_en,eqF ne_ef,eqF ne_fe,eqF ne_fb,eqF ne_fs,eqF ne_fo,eqF ne_fn,eqF ne_be,eqF ne_bf,eqF ne_bs,eqF ne_bo,eqF ne_bn,eqF ne_se,eqF ne_sf,eqF ne_sb,eqF ne_so,eqF ne_sn,eqF ne_oe,eqF b4m,eqF ne_ob,eqF ne_os,eqF ne_on,eqF ne_ne,eqF ne_nf,eqF ne_nb,eqF ne_ns,eqF ne_no])
theorem Wx(c sc:Int)(hs:1<=sc/\sc<=10^38):∃rs,ze [.int c,.int sc]=some (.ow (rs.map Pr))/\uj rs:=by
 have key:Wo (ze [.int c,.int sc]) λx=>∃rs,x=.ow (rs.map Pr)/\uj rs:=by
  refine pI.mpr ?_
  unfold KE
  obtain ⟨a,ea,a0,a1⟩:=nz c 30 sc (by decide) (by ext hs)
  obtain ⟨b,eb,b0,b1⟩:=nz c 31 3 (by decide) (by decide)
  obtain ⟨m,em,m0,m1⟩:=nz c 32 3 (by decide) (by decide)
  walk_at "v1"
  rw [ea]
  walk_at "v1"
  rw [eb]
  walk_at "v1"
  have hp0:0<=a*b:=vw a0 b0
  have hp1:a*b<=10^38*2:=vt (by ext hs a1) (by ext b1) b0 (by decide)
  refine ⟨.inr (.inl (by ext b0 b1)),by walk_at "sc",?_⟩
  generalize a*b=ab at *
  rw [em]
  walk_at "v1"
  refine ⟨by walk_at "sc",?_⟩
  refine y9 _ _ (λk env=>∃x4,∃(rs:List (Int×Int)) (top:Int),env=[.sh (.int c),.sh (.int sc),.ow (rs.map Pr),.sh (.int top),x4]/\rs.length=k/\0<=top/\top<=10^38+k*(10^38+1)/\(∀q∈rs,((0<=q.1/\q.1<=10^40) /\ -(10^40)<=q.2/\q.2<=10^40)/\q.1<top)/\rs.Pairwise λa b=>a.1<b.1) (λk env hk h=>?_) (λenv h=>?_) ⟨_,[],_,rfl,rfl,by lia,by lia,λq hq=>(nomatch hq),vj⟩
  .obtain ⟨x4,rs,top,rfl,hl,t0,t1,hq,hw⟩:=h
   obtain ⟨p,ep,p0,p1⟩:=EX c (33+(0+(k:Int))) (by ext m1 hk)
   obtain ⟨n,en,n0,n1⟩:=nz c (40+(0+(k:Int))) sc (by ext m1 hk) (by ext hs)
   walk_at "v1"
   rw [ep]
   walk_at "v1"
   refine ⟨by rw [dF];ext m1 hk hl,?_⟩
   rw [en]
   walk_at "v1"
   refine ⟨_,rs++[(top,p)],_,by rw [mJ];rfl,by simp [hl],by ext t0 n0,by lia,λq c8=>?_,?_⟩
   .rcases jI.mp c8 with z | z
    .have:=hq q z;ext n0 this
    .rw [lE.mp z];dsimp only;lia
   .refine pE.mpr ⟨hw,vz _ _,λa ha b hb=>?_⟩
    rw [lE.mp hb]
    exact (hq a ha).2
  .obtain ⟨x4,rs,top,rfl,hl,t0,t1,hq,hw⟩:=h
   walk_at "vc"
   refine ⟨rs,rfl,?_,by ext m1 hl,λq c8=>(hq q c8).1,hw⟩
   intro z
   rw [z] at hl
   simp at hl
   ext m0 hl
 obtain ⟨x,e,rs,rfl,h⟩:=key
 exact ⟨rs,e,h⟩
theorem Vc(c sc:Int)(hs:1<=sc/\sc<=10^38):∃P:Pl,zd [.int c,.int sc]=some (.sh P.d)/\P.ok:=by
 have key:Wo (zd [.int c,.int sc]) λx=>∃P:Pl,x=.sh P.d/\P.ok:=by
  refine pJ.mpr ?_
  unfold KD
  obtain ⟨t,et,t0,t1⟩:=nz c 1 6 (by decide) (by decide)
  obtain ⟨p,ep,p0,p1⟩:=EX c 2 (by decide)
  obtain ⟨a,ea,a0,a1⟩:=nz c 3 sc (by decide) (by ext hs)
  obtain ⟨b,eb,b0,b1⟩:=nz c 4 2 (by decide) (by decide)
  obtain ⟨u,eu,u0,u1⟩:=nz c 5 sc (by decide) (by ext hs)
  obtain ⟨v,ev,v0,v1⟩:=nz c 6 4 (by decide) (by decide)
  obtain ⟨s,es,s0,s1⟩:=nz c 7 sc (by decide) (by ext hs)
  obtain ⟨m,em,m0,m1⟩:=nz c 8 4 (by decide) (by decide)
  obtain ⟨w,ew,w0,w1⟩:=nz c 9 3 (by decide) (by decide)
  obtain ⟨rs,er,hr⟩:=Wx c sc hs
  have l0:0<=a*b:=vw a0 b0
  have l1:a*b<=10^38*1:=vt (by ext hs a1) (by ext b1) b0 (by decide)
  have h0:0<=u*v:=vw u0 v0
  have h1:u*v<=10^38*3:=vt (by ext hs u1) (by ext v1) v0 (by decide)
  have c1:MulC a b:=.inr (.inl (by ext b0 b1))
  have c2:MulC u v:=.inr (.inl (by ext v0 v1))
  have ht:t=0\/t=1\/t=2\/t=3\/t=4\/t=5:=by ext t0 t1
  have hw:w=0\/w=1\/w=2:=by ext w0 w1
  walk_at "v1"
  rw [et]
  walk_at "v1"
  rcases ht with rfl | rfl | rfl | rfl | rfl | rfl
  all_goals
   rw [show dt _ _=some _ from rfl,a0e]
   rw [ep];walk_at "v1"
   rw [ea];walk_at "v1"
   rw [eb];walk_at "v1"
   refine ⟨c1,?_⟩
   rw [eu];walk_at "v1"
   rw [ev];walk_at "v1"
   refine ⟨c2,?_⟩
   generalize a*b=ab at *
   generalize u*v=uv at *
   rw [a0G]
   walk_at "v1"
   walk_at "kd"
   walk_at "v1"
   try (rw [a0G];walk_at "v1";walk_at "kd";walk_at "v1")
   try (rw [a0G];walk_at "v1";walk_at "kd";walk_at "v1")
  .exact ⟨.each p ab (ab+uv),rfl,by simp only [Pl.ok];ext p0 p1 l0 l1 h0 h1⟩
  .exact ⟨.flat p ab (ab+uv),rfl,by simp only [Pl.ok];ext p0 p1 l0 l1 h0 h1⟩
  .rw [er,a0e]
   exact ⟨.bands rs,rfl,hr⟩
  .rw [er,a0e]
   exact ⟨.steps rs,rfl,hr⟩
  .rw [es]
   walk_at "v1"
   rw [em]
   walk_at "v1"
   exact ⟨.blocks (1+s) p (1+m),rfl,by simp only [Pl.ok];ext hs p0 p1 s0 s1 m0 m1⟩
  .rw [ew]
   walk_at "v1"
   rcases hw with rfl | rfl | rfl<;>rw [show dt _ _=some _ from rfl,a0e]
   .exact ⟨.name "p",rfl,.inl rfl⟩
   .exact ⟨.name "qq",rfl,.inr (.inl rfl)⟩
   .exact ⟨.name "ptop",rfl,.inr (.inr rfl)⟩
 obtain ⟨x,e,P,rfl,h⟩:=key
 exact ⟨P,e,h⟩
def q5(rs:List Row):Prop:=q9 rs/\(rs.length<=3/\Canon rs)/\∀r∈rs,aU (10^41) r
theorem Ww(c sc:Int)(hs:1<=sc/\sc<=10^38):∃rs:List Row,zc [.int c,.int sc]=some (.sh (.tup (rs.map Row.d)))/\q5 rs:=by
 have key:Wo (zc [.int c,.int sc]) λx=>∃rs:List Row,x=.sh (.tup (rs.map Row.d))/\q5 rs:=by
  refine pK.mpr ?_
  unfold KC
  obtain ⟨a,ea,a0,a1⟩:=nz c 70 (2*sc) (by decide) (by ext hs)
  obtain ⟨m,em,m0,m1⟩:=nz c 71 4 (by decide) (by decide)
  walk_at "v1"
  refine ⟨.inl (by decide),?_⟩
  rw [ea]
  walk_at "v1"
  rw [em]
  walk_at "v1"
  refine ⟨by walk_at "sc",?_⟩
  refine y9 _ _ (λk env=>∃x4 x5 x6,∃(rs:List Row) (lo:Int),env=[.sh (.int c),.sh (.int sc),.ow (rs.map Row.d),.sh (.int lo),x4,x5,x6]/\rs.length=k/\(-(10^38)<=lo/\lo<=10^38+k*(2*10^38+2))/\(∀q∈rs,aU (10^41) q/\q.2.1+1<lo)/\Canon rs) (λk env hk h=>?_) (λenv h=>?_) ⟨_,_,_,[],_,rfl,rfl,by omega,λq hq=>(nomatch hq),λq hq=>(nomatch hq),trivial⟩
  .obtain ⟨x4,x5,x6,rs,lo,rfl,hl,t0,hq,hw⟩:=h
   obtain ⟨u,eu,u0,u1⟩:=nz c (72+(0+(k:Int))) sc (by ext m1 hk) (by ext hs)
   obtain ⟨v,ev,v0,v1⟩:=nz c (76+(0+(k:Int))) 2 (by ext m1 hk) (by decide)
   obtain ⟨st,Uq,v9,Gg⟩:=EX c (80+(0+(k:Int))) (by ext m1 hk)
   obtain ⟨p,ep,p0,p1⟩:=EX c (84+(0+(k:Int))) (by ext m1 hk)
   obtain ⟨n,en,n0,n1⟩:=nz c (88+(0+(k:Int))) sc (by ext m1 hk) (by ext hs)
   have h0:0<=u*v:=vw u0 v0
   have h1:u*v<=10^38*1:=vt (by ext hs u1) (by ext v1) v0 (by decide)
   have c2:MulC u v:=.inr (.inl (by ext v0 v1))
   have fin:∀(hi s:Int),lo<=hi->hi<=lo+10^38 -> -(10^40)<=s->s<=10^40->(lo=hi->s=0)->∃x4 x5 x6,∃(De:List Row) (Dk:Int),([.sh (.int c),.sh (.int sc),.ow (rs.map Row.d++[.tup [.int lo,.int hi,.int p,.int s]]),.sh (.int (hi+2+n)),.sh (.int (0+(k:Int))),.sh (.int hi),.sh (.int s)]:En)=[.sh (.int c),.sh (.int sc),.ow (De.map Row.d),.sh (.int Dk),x4,x5,x6]/\De.length=k+1/\(-(10^38)<=Dk/\Dk<=10^38+((k+1:Nat):Int)*(2*10^38+2))/\(∀q∈De,aU (10^41) q/\q.2.1+1<Dk)/\Canon De:=by
    intro hi s z1 z2 z3 z4 z5
    refine ⟨_,_,_,rs++[(lo,hi,p,s)],_,by rw [mJ];rfl,by simp [hl],by omega,λq c8=>?_,λq c8=>?_,?_⟩
    .rcases jI.mp c8 with z | z
     .exact ⟨(hq q z).1,by have:=(hq q z).2;ext n0 z1 this⟩
     .rw [lE.mp z];unfold aU;dsimp only;omega
    .rcases jI.mp c8 with z | z
     .exact hw.1 q z
     .rw [lE.mp z];exact ⟨z1,z5⟩
    .refine hw.2.snoc λa ha=>?_
     have:=(hq a (MV ha)).2
     exact ⟨by dsimp only;ext this,λe=>by dsimp only at e;ext this e⟩
   walk_at "v1"
   rw [eu]
   walk_at "v1"
   rw [ev]
   walk_at "v1"
   refine ⟨c2,?_⟩
   generalize u*v=uv at *
   rw [a0G]
   walk_at "v1"
   refine ⟨λcq=>?_,λcq=>?_⟩
   .rw [Uq]
    walk_at "v1"
    rw [ep]
    walk_at "v1"
    refine ⟨by rw [dF];ext m1 hk hl,?_⟩
    rw [en]
    walk_at "v1"
    exact fin _ _ (by ext cq) (by ext h1) v9 Gg (λe=>by ext cq e)
   .rw [ep]
    walk_at "v1"
    refine ⟨by rw [dF];ext m1 hk hl,?_⟩
    rw [en]
    walk_at "v1"
    exact fin _ _ (by ext h0) (by ext cq) (by decide) (by decide) (λ_=>rfl)
  .obtain ⟨x4,x5,x6,rs,lo,rfl,hl,t0,hq,hw⟩:=h
   walk_at "vc"
   exact ⟨rs,rfl,hw.qX,⟨by ext m1 hl,hw⟩,λq c8=>(hq q c8).1⟩
 obtain ⟨x,e,rs,rfl,h⟩:=key
 exact ⟨rs,e,h⟩
theorem Jz{ks:List Str}{y:Str}(h:y∉ks):ui ks y=ks++[y]:=by
 unfold ui
 rw [if_neg h]
theorem Jv{α:Type}{ks:List Str}{xs:List α}{y:Str}{z:α}(h:y∉ks):qz ks xs y z=xs++[z]:=by
 unfold qz
 rw [if_neg h]
noncomputable def uR:List Str:=["p","qq","ptop"]
noncomputable def Fm(A:List (List Row)):D:=.dq uR (A.map λf=>.tup (f.map Row.d))
theorem Wu(ns:List Int)(sc:Int)(hs:1<=sc/\sc<=10^38):∃A:List (List Row),zf [.lst true (ns.map D.int),.int sc]=some (.tw uR (A.map λf=>.tup (f.map Row.d)))/\A.length=3/\∀f∈A,q5 f:=by
 have key:Wo (zf [.lst true (ns.map D.int),.int sc]) λx=>∃A:List (List Row),x=.tw uR (A.map λf=>.tup (f.map Row.d))/\A.length=3/\∀f∈A,q5 f:=by
  refine oF.mpr ?_
  unfold K4
  walk_at "o1"
  refine ⟨by decide,?_⟩
  refine y9 _ _ (λk env=>∃x3,∃A:List (List Row),env=[.sh (.lst true (ns.map D.int)),.sh (.int sc),.tw (uR.take k) (A.map λf=>.tup (f.map Row.d)),x3]/\A.length=k/\∀f∈A,q5 f) (λk env hk h=>?_) (λenv h=>?_) ⟨_,[],rfl,rfl,λf hf=>(nomatch hf)⟩
  .obtain ⟨x3,A,rfl,hl,hA⟩:=h
   obtain ⟨f,ef,hf⟩:=Ww (ns.getD (1+(0+(k:Int))).toNat 0) sc hs
   rw [b7D]
   rw [U5 (ks:=uR.take k) (ds:=A.map λf=>.tup (f.map Row.d)) rfl]
   walk_at "o1"
   rw [Bn _ _ (by ext)]
   walk_at "o1"
   rw [ef]
   walk_at "o1"
   have kk:k=0\/k=1\/k=2:=by ext hk
   have last:∀g∈A++[f],q5 g:=λg hg=>by
    rcases jI.mp hg with z | z
    .exact hA g z
    .rw [lE.mp z];exact hf
   rcases kk with rfl | rfl | rfl
   .rw [show dt _ _=some (D.str "p") from rfl,a0e]
    refine ⟨"p",rfl,by decide,.sh (.int 0),A++[f],?_,by simp [hl],last⟩
    rw [Jz (by decide +kernel),Jv (by decide +kernel),mJ]
    rfl
   .rw [show dt _ _=some (D.str "qq") from rfl,a0e]
    refine ⟨"qq",rfl,by decide,.sh (.int 1),A++[f],?_,by simp [hl],last⟩
    rw [Jz (by decide +kernel),Jv (by decide +kernel),mJ]
    rfl
   .rw [show dt _ _=some (D.str "ptop") from rfl,a0e]
    refine ⟨"ptop",rfl,by decide,.sh (.int 2),A++[f],?_,by simp [hl],last⟩
    rw [Jz (by decide +kernel),Jv (by decide +kernel),mJ]
    rfl
  .obtain ⟨x3,A,rfl,hl,hA⟩:=h
   walk_at "o1"
   exact ⟨A,rfl,hl,hA⟩
 obtain ⟨x,e,A,rfl,h⟩:=key
 exact ⟨A,e,h⟩
theorem We(a b c:D):Fg [a,b,c]=some [a,b,c]:=by kernel_rfl
theorem Wf(a b c:D):Fi [a,b,c]=some [a,b,c]:=by kernel_rfl
theorem Yu(a b c:D):Fs [a,b,c]=some [a,b,c]:=by kernel_rfl
theorem X3(a:D):Ft [a]=some [a]:=by kernel_rfl
theorem OD(P:Pl):sW "names" 1 CG P.o []=sj [P.o]:=by cases P<;>kernel_rfl
theorem OE(P:Pl):sW "parts" 1 CH P.o []=sk [P.o]:=by cases P<;>kernel_rfl
theorem Ay(P:Pl):wF E1 P.o=some (.sh (.bl true)):=by cases P<;>kernel_rfl
theorem B9:sset []=some []:=by kernel_rfl
theorem RD:sset [.str "p"]=some [.str "p"]:=by kernel_rfl
theorem Gp:sset [.str "qq"]=some [.str "qq"]:=by kernel_rfl
theorem V4:sset [.str "ptop"]=some [.str "ptop"]:=by kernel_rfl
theorem Wg(rs:List (Int×Int))(hl:rs.length<=3):Wo (mL (kf (eV 1)) [] 2 (gT 2 (p8 (gN 0) (p8 (gN 1) vB))) sV (cu (ag (eV 0) (ag (eV 1) af))) [.no,.sh (.lst false (rs.map Pr))]) λr=>r=.ow (rs.map Pr):=by
 walk_at "v1"
 refine ⟨by rw [dF];ext hl,_,DL.comp_map Pr Pr (λe=>e.length=2) rs (λa ha e he=>?_) rfl,rfl⟩
 obtain ⟨y0,y1,rfl⟩:∃y0 y1,e=[y0,y1]:=by
  match e,he with
  | [a,b],_=>exact ⟨a,b,rfl⟩
 unfold Pr
 walk_at "v1"
noncomputable def oz(A:List (List Row))(n:Str):List Row:=(ox uR A n).getD []
noncomputable def vH(rs:List (Int×Int))(x:Int):Int:=match rs with
 | []=>0
 | q::rs=>if x<=q.1 then q.2 else vH rs x
noncomputable def uu(x:Int):Int->List (Int×Int)->Int
 | _,[]=>0
 | a,q::rs=>q.2*(min x q.1-min x a)+uu x q.1 rs
noncomputable def kM:List (Int×Int)->Int
 | []=>0
 | [q]=>q.1
 | _::rs=>kM rs
noncomputable def Pl.due(A:List (List Row))(x:Int):Pl->Option Int
 | .each p lo hi=>if lo<=x/\x<=hi then some (p*x) else none
 | .flat p lo hi=>if lo<=x/\x<=hi then some p else none
 | .bands rs=>if 0<=x/\x<=kM rs then some (x*vH rs x) else none
 | .steps rs=>if 0<=x/\x<=kM rs then some (uu x 0 rs) else none
 | .blocks s p m=>if 0<=x/\x<=s*m then some (p*((x+s-1)/s)) else none
 | .name n=>look (oz A n) x
theorem lp(a:Int×Int):kM [a]=a.1:=rfl
theorem top2(a b:Int×Int):kM [a,b]=b.1:=rfl
theorem ll(a b c:Int×Int):kM [a,b,c]=c.1:=rfl
theorem z6:dy 0 1=[.int 0]:=rfl
theorem z0:dy 0 2=[.int 0,.int 1]:=rfl
theorem zZ:dy 0 3=[.int 0,.int 1,.int 2]:=rfl
theorem Kf{A:List (List Row)}{x:Int}{rs:List (Int×Int)}(h:¬(0<=x/\x<=kM rs)):Pl.due A x (.bands rs)=none:=by
 unfold Pl.due;exact if_neg h
theorem Y2{A:List (List Row)}{x:Int}{rs:List (Int×Int)}(h:0<=x/\x<=kM rs):Pl.due A x (.bands rs)=some (x*vH rs x):=by
 unfold Pl.due;exact if_pos h
theorem Kg{A:List (List Row)}{x:Int}{rs:List (Int×Int)}(h:¬(0<=x/\x<=kM rs)):Pl.due A x (.steps rs)=none:=by
 unfold Pl.due;exact if_neg h
theorem Y3{A:List (List Row)}{x:Int}{rs:List (Int×Int)}(h:0<=x/\x<=kM rs):Pl.due A x (.steps rs)=some (uu x 0 rs):=by
 unfold Pl.due;exact if_pos h
theorem xJ{rs:List (Int×Int)}(h:uj rs):(∃a,rs=[a])\/(∃a b,rs=[a,b])\/∃a b c,rs=[a,b,c]:=by
 obtain ⟨h0,h1,_⟩:=h
 match rs,h0,h1 with
 | [],h0,_=>exact (h0 rfl).elim
 | [a],_,_=>exact .inl ⟨a,rfl⟩
 | [a,b],_,_=>exact .inr (.inl ⟨a,b,rfl⟩)
 | [a,b,c],_,_=>exact .inr (.inr ⟨a,b,c,rfl⟩)
 | a::b::c::d::rs,_,h=>exact absurd h (by simp)
theorem za{A:List (List Row)}(hA:A.length=3){n:Str}(hn:n = "p" \/ n = "qq" \/ n = "ptop"):ox uR (A.map λf=>D.tup (f.map Row.d)) n=some (.tup ((oz A n).map Row.d))/\oz A n∈A:=by
 match A,hA with
 | [a,b,c],_ =>
  rcases hn with rfl | rfl | rfl
  .exact ⟨by kernel_rfl,.head _⟩
  .exact ⟨by kernel_rfl,.tail _ (.head _)⟩
  .exact ⟨by kernel_rfl,.tail _ (.tail _ (.head _))⟩
theorem Qd(x:Int):∀rs:List Row,look rs x=((rs.filter λr=>decide (r.1<=x/\x<=r.2.1)).head?).map λr=>r.at x
 | []=>rfl
 | r::rs=>by
  rw [look]
  by_cases h:r.1<=x/\x<=r.2.1
  .rw [if_pos h,NF (by simpa using h)];rfl
  .rw [if_neg h,ND (by simpa using h),Qd x rs]
theorem Wv{A:List (List Row)}(hA:A.length=3)(hF:∀f∈A,q5 f)(P:Pl)(hP:P.ok){x:Int}(hx:-(10^43)<=x/\x<=10^43):zh [P.d,.int x,Fm A]=some (.sh (nZ (P.due A x))):=by
 have key:Wo (zh [P.d,.int x,Fm A]) λr=>r=.sh (nZ (P.due A x)):=by
  refine kO.mpr ?_
  unfold La
  cases P with
  | each p lo hi =>
   simp only [Pl.ok] at hP
   unfold Pl.d
   walk_at "o1"
   iterate 3 (rw [a0G];walk_at "v1";walk_at "kd";walk_at "o1")
   refine ⟨λh=>?_,λh=>⟨λh2=>?_,λh2=>?_⟩⟩
   .simp only [Pl.due];rw [if_neg (by ext h)];rfl
   .simp only [Pl.due];rw [if_neg (by ext h2)];rfl
   .rw [if_pos trivial]
    walk_at "v1"
    refine ⟨qC (by ext hP) (by ext hP) (by ext hx) (by ext hx),?_⟩
    simp only [Pl.due];rw [if_pos (by ext h h2)];rfl
  | flat p lo hi =>
   simp only [Pl.ok] at hP
   unfold Pl.d
   walk_at "o1"
   iterate 3 (rw [a0G];walk_at "v1";walk_at "kd";walk_at "o1")
   refine ⟨λh=>?_,λh=>⟨λh2=>?_,λh2=>?_⟩⟩
   .simp only [Pl.due];rw [if_neg (by ext h)];rfl
   .simp only [Pl.due];rw [if_neg (by ext h2)];rfl
   .rw [if_neg (by simp)]
    walk_at "v1"
    refine ⟨.inr (.inl (by decide)),?_⟩
    simp only [Pl.due];rw [if_pos (by ext h h2),yu];rfl
  | blocks s p m =>
   simp only [Pl.ok] at hP
   unfold Pl.d
   walk_at "o1"
   iterate 4 (rw [a0G];walk_at "v1";walk_at "kd";walk_at "o1")
   refine ⟨λh=>?_,λh=>⟨.inr (.inl (by ext hP)),λh2=>?_,λh2=>⟨OL (by ext hP) (by ext hP),?_,?_⟩⟩⟩
   .simp only [Pl.due];rw [if_neg (by ext h)];rfl
   .simp only [Pl.due];rw [if_neg (by ext h2)];rfl
   .have q0:0<=(x+s-1)/s:=Int.ediv_nonneg (by ext hP h) (by ext hP)
    have q1:(x+s-1)/s<=x+s-1:=Int.ediv_le_self _ (by ext hP h)
    exact qC (by ext hP) (by ext hP) (by ext q0) (by ext hx hP q1)
   .simp only [Pl.due];rw [if_pos (by ext h h2)];rfl
  | name n =>
   obtain ⟨e1,e2⟩:=za hA hP
   obtain ⟨Hj,Dy,yk⟩:=hF _ e2
   unfold Pl.d Fm
   walk_at "o1"
   rw [a0G]
   walk_at "v1"
   walk_at "kd"
   walk_at "o1"
   rw [JB]
   walk_at "o1"
   refine ⟨n,rfl,?_⟩
   rw [e1]
   walk_at "v1"
   refine ⟨by rw [dF];omega,_,DL.n8 Row.d (λr=>decide (r.1<=x/\x<=r.2.1)) Row.d (λe=>∃y,e=[y,.sh (.int x)]) _ (λr hr e he=>?_) ⟨_,rfl⟩,?_⟩
   .obtain ⟨y,rfl⟩:=he
    rw [mn r]
    walk_at "v1"
    refine ⟨⟨_,rfl⟩,λh1=>?_,λh1=>?_⟩
    .by_cases h2:x<=r.2.1<;>simp [h1,h2]
    .simp [h1]
   .simp only [Pl.due]
    rw [Qd]
    rw [a0G]
    cases yj:(oz A n).filter λr=>decide (r.1<=x/\x<=r.2.1) with
    | nil =>
     walk_at "v1"
     exact ⟨λ_=>rfl,λh=>(h rfl).elim⟩
    | cons r rest =>
     have hr:r∈oz A n:=(Il.mp (by rw [yj];exact .head _)).1
     have AR:=yk r hr
     unfold aU at AR
     rw [e9,mn r]
     walk_at "v1"
     exact ⟨λh=>by ext _ h,λ_=>⟨qC (by ext AR) (by ext AR) (by ext hx AR) (by ext hx AR),rfl⟩⟩
  | bands rs =>
   have hq:=hP.2.2.1
   have hw:=hP.2.2.2
   rcases xJ hP with ⟨⟨a1,a2⟩,rfl⟩ | ⟨⟨a1,a2⟩,⟨b1,b2⟩,rfl⟩ | ⟨⟨a1,a2⟩,⟨b1,b2⟩,⟨c1,c2⟩,rfl⟩
   all_goals
    simp only [bG,dr,or_false,forall_eq_or_imp,forall_eq] at hq
    simp only [kZ,bG,dr,or_false,forall_eq_or_imp,forall_eq] at hw
    simp only [Pl.d,e9,oi,Pr]
    walk_at "o1"
    iterate 4 (rw [a0G];walk_at "v1";walk_at "kd";walk_at "o1")
    refine ⟨λh=>?_,λh=>?_⟩
   all_goals try (simp only [Pl.due];rw [if_neg (by ext h)];rfl)
   all_goals
    rw [show dt _ (-1)=some _ from rfl,a0e]
    walk_at "v1"
    refine ⟨λh=>?_,λh=>?_⟩
   (rw [Kf (by simp only [lp,top2,ll];ext h)];rfl);rotate_left
   (rw [Kf (by simp only [lp,top2,ll];ext h)];rfl);rotate_left
   (rw [Kf (by simp only [lp,top2,ll];ext h)];rfl);rotate_left
   all_goals
    rw [a0G]
    walk_at "v1"
    walk_at "kd"
    walk_at "v1"
    have b0:0<=x:=by omega
    rw [Y2 (by simp only [lp,top2,ll];omega)]
    simp only [vH,nZ]
    (repeat' first | apply c2W | intro _)
   all_goals first | (exfalso;omega) | exact qC (by ext hx) (by ext hx) (by ext hq) (by ext hq) | (simp only [*,if_true,if_false,not_false_eq_true];done) | (simp [*];done)
  | steps rs =>
   have hq:=hP.2.2.1
   have hw:=hP.2.2.2
   rcases xJ hP with ⟨⟨a1,a2⟩,rfl⟩ | ⟨⟨a1,a2⟩,⟨b1,b2⟩,rfl⟩ | ⟨⟨a1,a2⟩,⟨b1,b2⟩,⟨c1,c2⟩,rfl⟩
   all_goals
    simp only [bG,dr,or_false,forall_eq_or_imp,forall_eq] at hq
    simp only [kZ,bG,dr,or_false,forall_eq_or_imp,forall_eq] at hw
    simp only [Pl.d,e9,oi,Pr]
    walk_at "o1"
    iterate 4 (rw [a0G];walk_at "v1";walk_at "kd";walk_at "o1")
    refine ⟨λh=>?_,λh=>?_⟩
   all_goals try (simp only [Pl.due];rw [if_neg (by ext h)];rfl)
   all_goals
    rw [show dt _ (-1)=some _ from rfl,a0e]
    walk_at "v1"
    refine ⟨λh=>?_,λh=>?_⟩
   (rw [Kg (by simp only [lp,top2,ll];ext h)];rfl);rotate_left
   (rw [Kg (by simp only [lp,top2,ll];ext h)];rfl);rotate_left
   (rw [Kg (by simp only [lp,top2,ll];ext h)];rfl);rotate_left
   all_goals
    rw [a0G]
    walk_at "v1"
    walk_at "kd"
    walk_at "v1"
    have b0:0<=x:=by omega
    rw [Y3 (by simp only [lp,top2,ll];omega)]
    simp only [uu,nZ]
    simp only [z6,z0,zZ,xy,Ig]
    walk_at "v1"
    simp only [show (0:Int)+1=1 from rfl,show (1:Int)+1=2 from rfl,show (2:Int)+1=3 from rfl]
    walk_at "v1"
    (repeat' apply c2W)
   all_goals first | exact qC (by ext hq) (by ext hq) (by omega) (by ext hq) | rfl
 obtain ⟨x,e,rfl⟩:=key
 exact e
theorem OQ(P:Pl):sk [P.o]=some (.ow []):=by
 refine Wo.eq (nB.mpr ?_)
 unfold K0
 walk_at "v1"
theorem Cb(P:Pl):uA [P.o]=some (.ow []):=by
 refine Wo.eq (jE.mpr ?_)
 unfold LG
 walk_at "o1"
 rw [OE,OQ]
 walk_at "o1"
theorem VV(n:Str):CO [(Pl.name n).o]=some (.ow [.str n]):=by
 refine Wo.eq (iO.mpr ?_)
 unfold Lr
 walk_at "o1"
 rw [show fV c9 "name" (Pl.name n).o=some (.str n) from by kernel_rfl]
 walk_at "o1"
noncomputable def Pl.ns:Pl->List Str
 | .name n=>[n]
 | _=>[]
theorem Bo(P:Pl):sW "all_names" 1 FT P.o []=some (.ow (P.ns.map D.str)):=by
 cases P with
 | name n=>exact qN (by kernel_rfl) (VV n)
 | each a b c=>exact qN (by kernel_rfl) (Cb (.each a b c))
 | flat a b c=>exact qN (by kernel_rfl) (Cb (.flat a b c))
 | blocks a b c=>exact qN (by kernel_rfl) (Cb (.blocks a b c))
 | bands a=>exact qN (by kernel_rfl) (Cb (.bands a))
 | steps a=>exact qN (by kernel_rfl) (Cb (.steps a))
theorem Gq(P:Pl)(hP:P.ok):sset (P.ns.map D.str)=some (P.ns.map D.str):=by
 cases P with
 | name n =>
  rcases hP with rfl | rfl | rfl
  .exact RD
  .exact Gp
  .exact V4
 | each a b c=>exact B9
 | flat a b c=>exact B9
 | blocks a b c=>exact B9
 | bands a=>exact B9
 | steps a=>exact B9
theorem OP(P:Pl)(hP:P.ok):sj [P.o]=some (.ow (P.ns.map D.str)):=by
 refine Wo.eq (nC.mpr ?_)
 unfold KZ
 rw [b3A,Pm]
 walk_at "o1"
 rw [Bo]
 walk_at "o1"
 rw [NY,Gq P hP]
 walk_at "o1"
theorem Xt{A:List (List Row)}(hA:A.length=3)(P:Pl)(hP:P.ok):Wo (CT [P.o,Fm A]) λ_=>True:=by
 refine kN.mpr ?_
 unfold Lb
 walk_at "o1"
 rw [OD,OP P hP]
 walk_at "o1"
 cases P with
 | name n =>
  obtain ⟨e1,e2⟩:=za hA hP
  simp only [Pl.ns,e9,oi]
  walk_at "o1"
  rw [a0G,b3z,V3]
  unfold Fm
  walk_at "o1"
  refine ⟨n,rfl,?_⟩
  rw [e1]
  walk_at "o1"
  exact λh=>absurd h (by simp)
 | each a b c=>simp only [Pl.ns,oi];walk_at "o1"
 | flat a b c=>simp only [Pl.ns,oi];walk_at "o1"
 | blocks a b c=>simp only [Pl.ns,oi];walk_at "o1"
 | bands a=>simp only [Pl.ns,oi];walk_at "o1"
 | steps a=>simp only [Pl.ns,oi];walk_at "o1"
def Ve(zs:List Int):Prop:=zs.length<=6/\∀z∈zs,-(10^42)<=z/\z<=10^42
noncomputable def Pl.ends(A:List (List Row)):Pl->List Int
 | .each _ lo hi=>[lo,hi]
 | .flat _ lo hi=>[lo,hi]
 | .blocks s _ m=>[0,s,s*m]
 | .bands rs=>0::rs.map (·.1)
 | .steps rs=>0::rs.map (·.1)
 | .name n=>(oz A n).flatMap λr=>[r.1,r.2.1]
theorem ON{A:List (List Row)}(hA:A.length=3)(hF:∀f∈A,q5 f)(P:Pl)(hP:P.ok):xO [P.d,Fm A]=some (.ow ((P.ends A).map D.int)):=by
 refine Wo.eq (pL.mpr ?_)
 unfold KA
 cases P with
 | each p lo hi =>
  unfold Pl.d
  walk_at "o1"
  iterate 2 (rw [a0G];walk_at "v1";walk_at "kd";walk_at "o1")
  rfl
 | flat p lo hi =>
  unfold Pl.d
  walk_at "o1"
  iterate 2 (rw [a0G];walk_at "v1";walk_at "kd";walk_at "o1")
  rfl
 | blocks s p m =>
  simp only [Pl.ok] at hP
  unfold Pl.d
  walk_at "o1"
  iterate 3 (rw [a0G];walk_at "v1";walk_at "kd";walk_at "o1")
  exact ⟨.inr (.inl (by ext hP)),rfl⟩
 | name n =>
  obtain ⟨e1,e2⟩:=za hA hP
  obtain ⟨Hj,Dy,yk⟩:=hF _ e2
  unfold Pl.d Fm
  walk_at "o1"
  rw [a0G];walk_at "v1";walk_at "kd";walk_at "o1"
  rw [JB]
  walk_at "o1"
  refine ⟨n,rfl,?_⟩
  rw [e1]
  walk_at "o1"
  refine ur Row.d (λpre env=>∃x4,env=[.sh (.tup [.str "name",.str n]),.sh (.dq uR (A.map λf=>.tup (f.map Row.d))),.sh (.str "name"),.ow ((pre.flatMap λr=>[r.1,r.2.1]).map D.int),x4]/\(pre.flatMap λr=>[r.1,r.2.1]).length=2*pre.length) _ (λpre r post env e h=>?_) (λenv h=>?_) ⟨_,rfl,rfl⟩
  .obtain ⟨x4,rfl,hl⟩:=h
   have nW:=congrArg xr e
   simp only [da,ff] at nW
   rw [mn r]
   walk_at "o1"
   refine ⟨by rw [dF];omega,.sh (.tup [.int r.1,.int r.2.1,.int r.2.2.1,.int r.2.2.2]),by rw [Nf,mJ];rfl,?_⟩
   rw [Nf,da,da,hl]
   simp
   ext
  .obtain ⟨x4,rfl,hl⟩:=h
   walk_at "o1"
   rfl
 | bands rs =>
  rcases xJ hP with ⟨⟨a1,a2⟩,rfl⟩ | ⟨⟨a1,a2⟩,⟨b1,b2⟩,rfl⟩ | ⟨⟨a1,a2⟩,⟨b1,b2⟩,⟨c1,c2⟩,rfl⟩
  all_goals
   simp only [Pl.d,e9,oi,Pr]
   walk_at "o1"
   iterate 4 (rw [a0G];walk_at "v1";walk_at "kd";walk_at "o1")
   rfl
 | steps rs =>
  rcases xJ hP with ⟨⟨a1,a2⟩,rfl⟩ | ⟨⟨a1,a2⟩,⟨b1,b2⟩,rfl⟩ | ⟨⟨a1,a2⟩,⟨b1,b2⟩,⟨c1,c2⟩,rfl⟩
  all_goals
   simp only [Pl.d,e9,oi,Pr]
   walk_at "o1"
   iterate 4 (rw [a0G];walk_at "v1";walk_at "kd";walk_at "o1")
   rfl
theorem U9{A:List (List Row)}(hA:A.length=3)(hF:∀f∈A,q5 f)(P:Pl)(hP:P.ok):∃zs:List Int,xO [P.d,Fm A]=some (.ow (zs.map D.int))/\Ve zs:=by
 refine ⟨P.ends A,ON hA hF P hP,?_⟩
 cases P with
 | each p lo hi =>
  simp only [Pl.ok] at hP
  exact ⟨by simp [Pl.ends],by simp only [Pl.ends,bG,dr,or_false];omega⟩
 | flat p lo hi =>
  simp only [Pl.ok] at hP
  exact ⟨by simp [Pl.ends],by simp only [Pl.ends,bG,dr,or_false];omega⟩
 | blocks s p m =>
  simp only [Pl.ok] at hP
  have q0:0<=s*m:=vw (by omega) (by omega)
  have q1:s*m<=10^39*4:=vt (by omega) (by omega) (by omega) (by decide)
  refine ⟨by simp [Pl.ends],?_⟩
  simp only [Pl.ends,bG,dr,or_false]
  generalize s*m=sm at *
  omega
 | name n =>
  obtain ⟨Hj,Dy,yk⟩:=hF _ (za hA hP).2
  have hl:∀G:List Row,(G.flatMap λr=>[r.1,r.2.1]).length=2*G.length:=λG=>by
   induction G with
   | nil=>rfl
   | cons r G ih=>rw [List.flatMap_cons,da,ih,ff];simp;omega
  refine ⟨by rw [Pl.ends,hl];omega,λz hz=>?_⟩
  obtain ⟨r,hr,hz⟩:=List.mem_flatMap.mp hz
  have h1:=yk r hr
  unfold aU at h1
  simp only [bG,dr,or_false] at hz
  omega
 | bands rs =>
  have hq:=hP.2.2.1
  have hl:=hP.2.1
  refine ⟨by rw [Pl.ends,ff,dF];omega,λz hz=>?_⟩
  rcases bG.mp hz with rfl | hz
  .decide
  .obtain ⟨q,h1,rfl⟩:=pF.mp hz
   have:=hq q h1
   omega
 | steps rs =>
  have hq:=hP.2.2.1
  have hl:=hP.2.1
  refine ⟨by rw [Pl.ends,ff,dF];omega,λz hz=>?_⟩
  rcases bG.mp hz with rfl | hz
  .decide
  .obtain ⟨q,h1,rfl⟩:=pF.mp hz
   have:=hq q h1
   omega
theorem YB{A:List (List Row)}(hA:A.length=3)(hF:∀f∈A,q5 f)(P:Pl)(hP:P.ok){sc:Int}(hs:1<=sc/\sc<=10^38)(ms:List Int){r:Bool}:∃xs:List Int,zi [P.d,Fm A,.lst r (ms.map D.int),.int sc]=some (.ow (xs.map D.int))/\xs.length<=200/\∀x∈xs,-(10^43)<=x/\x<=10^43:=by
 have key:Wo (zi [P.d,Fm A,.lst r (ms.map D.int),.int sc]) λr=>∃xs:List Int,r=.ow (xs.map D.int)/\xs.length<=200/\∀x∈xs,-(10^43)<=x/\x<=10^43:=by
  refine my.mpr ?_
  unfold Lf
  obtain ⟨zs,ez,hz1,AN⟩:=U9 hA hF P hP
  obtain ⟨ys,ey,_,hy⟩:=Zj zs (by omega)
  walk_at "o1"
  rw [Pm]
  walk_at "o1"
  rw [ez]
  walk_at "o1"
  rw [NY,ey]
  walk_at "o1"
  rw [J5,show pB ys none (some 24)=ys.take 24 from OJ ys (n:=24)]
  have yh:(ys.take 24).length<=24:=by rw [nu];ext
  refine ur D.int (λpre env=>∃x5,∃xs:List Int,env=[.sh P.d,.sh (Fm A),.sh (.lst r (ms.map D.int)),.sh (.int sc),.ow (xs.map D.int),x5,.no]/\xs.length=3+3*pre.length/\∀x∈xs,-(10^43)<=x/\x<=10^43) _ (λpre z post env e h=>?_) (λenv h=>?_) ⟨_,[-1,0,1],rfl,rfl,by simp only [bG,dr,or_false];omega⟩
  .obtain ⟨x5,xs,rfl,hl,hx⟩:=h
   have hz:=AN z ((hy z).mp (xw (by rw [e];simp)))
   have nW:=congrArg xr e
   simp only [da,ff] at nW
   walk_at "o1"
   refine ⟨by rw [dF];omega,_,xs++[z-1,z,z+1],by rw [mJ];rfl,by simp [hl];ext,λx kU=>?_⟩
   rcases jI.mp kU with w | w
   .exact hx x w
   .simp only [bG,dr,or_false] at w
    ext hz w
  .obtain ⟨x5,xs,rfl,hl,hx⟩:=h
   walk_at "o1"
   rw [J5,show pB ms none (some 40)=ms.take 40 from OJ ms (n:=40)]
   have qK:(ms.take 40).length<=40:=by rw [nu];ext
   refine ur D.int (λpre env=>∃x6,∃xs:List Int,env=[.sh P.d,.sh (Fm A),.sh (.lst r (ms.map D.int)),.sh (.int sc),.ow (xs.map D.int),x5,x6]/\xs.length<=80+pre.length/\∀x∈xs,-(10^43)<=x/\x<=10^43) _ (λpre z post env e h=>?_) (λenv h=>?_) ⟨_,xs,rfl,by ext yh hl,hx⟩
   .obtain ⟨x6,xs,rfl,hl,hx⟩:=h
    have nW:=congrArg xr e
    simp only [da,ff] at nW
    walk_at "o1"
    have m0:0<=z%(5*sc):=DO _ (by ext hs)
    have m1:z%(5*sc)<5*sc:=Eh _ (by ext hs)
    refine ⟨.inl (by decide),by walk_at "sc",by rw [dF];ext qK hl nW,?_⟩
    refine ⟨_,xs++[z%(5*sc)-sc],by rw [mJ];rfl,by simp;ext hl,λx kU=>?_⟩
    rcases jI.mp kU with w | w
    .exact hx x w
    .rw [lE.mp w]
     ext hs m0 m1
   .obtain ⟨x6,xs,rfl,hl,hx⟩:=h
    walk_at "o1"
    exact ⟨xs,rfl,by ext qK hl,hx⟩
 obtain ⟨x,e,zs,rfl,h⟩:=key
 exact ⟨zs,e,h⟩
theorem Wh(o:Option Int):dA (nZ o) (nZ o)=some (.sh (.bl false)):=by
 cases o<;>simp [nZ,dA,bC]
noncomputable def sZ:Int->List (Int×Int)->List Row
 | _,[]=>[]
 | lo,q::rs=>(lo,q.1,lo*q.2,q.2)::sZ (q.1+1) rs
noncomputable def jJ:Int->Int->List (Int×Int)->List Row
 | _,_,[]=>[]
 | a,c,q::rs=>if a<q.1 then (a+1,q.1,c+q.2,q.2)::jJ q.1 (c+q.2*(q.1-a)) rs else jJ q.1 (c+q.2*(q.1-a)) rs
noncomputable def nJ(s p:Int):Nat->List Row
 | 0=>[(0,0,0,0)]
 | n+1=>nJ s p n++[(s*(n+1:Nat)-s+1,s*(n+1:Nat),p*(n+1:Nat),0)]
noncomputable def Pl.rows(A:List (List Row)):Pl->List Row
 | .each p lo hi=>[(lo,hi,p*lo,p)]
 | .flat p lo hi=>[(lo,hi,p,0)]
 | .bands rs=>sZ 0 rs
 | .steps rs=>(0,0,0,0)::jJ 0 0 rs
 | .blocks s p m=>nJ s p m.toNat
 | .name n=>oz A n
theorem WE{A:List (List Row)}{h:D}{p lo hi:Int}(hP:(Pl.each p lo hi).ok){Q:Sl->Prop}(hQ:Wo (oY [.lst false (((Pl.each p lo hi).rows A).map Row.d)]) Q):Wo (CU [(Pl.each p lo hi).o,h,Fm A]) Q:=by
 refine jG.mpr ?_
 simp only [Pl.ok] at hP
 unfold LD
 walk_at "o1"
 rw [show fV c9 "low" (Pl.each p lo hi).o=some (.int lo) from by kernel_rfl,show fV c9 "high" (Pl.each p lo hi).o=some (.int hi) from by kernel_rfl,show fV c9 "unit" (Pl.each p lo hi).o=some (.int p) from by kernel_rfl]
 walk_at "o1"
 exact ⟨qC (by ext hP) (by ext hP) (by ext hP) (by ext hP),hQ⟩
theorem WG{A:List (List Row)}{h:D}{p lo hi:Int}{Q:Sl->Prop}(hQ:Wo (oY [.lst false (((Pl.flat p lo hi).rows A).map Row.d)]) Q):Wo (CM [(Pl.flat p lo hi).o,h,Fm A]) Q:=by
 refine jF.mpr ?_
 unfold LF
 walk_at "o1"
 rw [show fV c9 "low" (Pl.flat p lo hi).o=some (.int lo) from by kernel_rfl,show fV c9 "high" (Pl.flat p lo hi).o=some (.int hi) from by kernel_rfl,show fV c9 "price" (Pl.flat p lo hi).o=some (.int p) from by kernel_rfl]
 walk_at "o1"
 exact hQ
theorem WH{A:List (List Row)}(hA:A.length=3){n:Str}(hP:(Pl.name n).ok){h:D}:CP [(Pl.name n).o,h,Fm A]=some (.sh (.tup ((oz A n).map Row.d))):=by
 refine Wo.eq (iN.mpr ?_)
 obtain ⟨e1,e2⟩:=za hA hP
 unfold Ls Fm
 walk_at "o1"
 rw [JB]
 walk_at "o1"
 rw [show fV c9 "name" (Pl.name n).o=some (.str n) from by kernel_rfl]
 walk_at "o1"
 refine ⟨n,rfl,?_⟩
 rw [e1]
 walk_at "o1"
theorem Xy{A:List (List Row)}{h:D}{rs:List (Int×Int)}(hP:uj rs){Q:Sl->Prop}(hQ:Wo (oY [.lst false (((Pl.bands rs).rows A).map Row.d)]) Q):Wo (CN [(Pl.bands rs).o,h,Fm A]) Q:=by
 refine iP.mpr ?_
 unfold Lq
 walk_at "o1"
 rw [show fV c9 "rows" (Pl.bands rs).o=some (.lst false (rs.map Pr)) from by kernel_rfl]
 walk_at "o1"
 refine ur Pr (λpre env=>∃x5 x6,∃(lo:Int) (ds:List Row),env=[.sh (Pl.bands rs).o,.sh h,.sh (Fm A),.ow (ds.map Row.d),.sh (.int lo),x5,x6]/\(0<=lo/\lo<=10^41)/\ds.length=pre.length/\∀more,sZ 0 (pre++more)=ds++sZ lo more) _ (λpre q post env e i=>?_) (λenv i=>?_) ⟨_,_,_,[],rfl,by decide,rfl,λ_=>rfl⟩
 .obtain ⟨x5,x6,lo,ds,rfl,tQ,hl,hm⟩:=i
  have hq:=hP.2.2.1 q (by rw [e];simp)
  have qK:=hP.2.1
  have nW:=congrArg xr e
  simp only [da,ff] at nW
  unfold Pr
  walk_at "o1"
  refine ⟨qC (by ext tQ) (by ext tQ) (by ext hq) (by ext hq),by rw [dF];ext hl qK nW,?_⟩
  refine ⟨.sh (.int q.1),.sh (.int q.2),q.1+1,ds++[(lo,q.1,lo*q.2,q.2)],by rw [mJ];rfl,by ext hq,by simp [hl],λmore=>?_⟩
  rw [iW,iW]
  exact hm _
 .obtain ⟨x5,x6,lo,ds,rfl,tQ,hl,hm⟩:=i
  rw [a48,JC,Jr (by rfl)]
  walk_at "o1"
  have:=hm []
  simp only [sZ,rY] at this
  rw [<-this]
  exact hQ
theorem Xz{A:List (List Row)}{h:D}{rs:List (Int×Int)}(hP:uj rs){Q:Sl->Prop}(hQ:Wo (oY [.lst false (((Pl.steps rs).rows A).map Row.d)]) Q):Wo (CQ [(Pl.steps rs).o,h,Fm A]) Q:=by
 refine iL.mpr ?_
 unfold Lv
 walk_at "o1"
 rw [show fV c9 "rows" (Pl.steps rs).o=some (.lst false (rs.map Pr)) from by kernel_rfl]
 walk_at "o1"
 refine ur Pr (λpre env=>∃x6 x7,∃(a c:Int) (ds:List Row),env=[.sh (Pl.steps rs).o,.sh h,.sh (Fm A),.ow (((0,0,0,0)::ds:List Row).map Row.d),.sh (.int a),.sh (.int c),x6,x7]/\(0<=a/\a<=10^41)/\ds.length<=pre.length/\∀more,jJ 0 0 (pre++more)=ds++jJ a c more) _ (λpre q post env e i=>?_) (λenv i=>?_) ⟨_,_,_,_,[],rfl,by decide,bZ _,λ_=>rfl⟩
 .obtain ⟨x6,x7,a,c,ds,rfl,ha,hl,hm⟩:=i
  have hq:=hP.2.2.1 q (by rw [e];simp)
  have qK:=hP.2.1
  have nW:=congrArg xr e
  simp only [da,ff] at nW
  have Mr:∀more,jJ 0 0 ((pre++[q])++more)=ds++jJ a c (q::more):=λmore=>by rw [iW];exact hm _
  unfold Pr
  walk_at "o1"
  rw [a0G]
  walk_at "o1"
  refine ⟨λcq=>?_,λcq=>?_⟩
  .refine ⟨by rw [dF,ff];ext hl qK nW,qC (by ext hq) (by ext hq) (by ext cq) (by ext ha hq),?_⟩
   refine ⟨.sh (.int q.1),.sh (.int q.2),q.1,c+q.2*(q.1-a),ds++[(a+1,q.1,c+q.2,q.2)],by rw [<-xy,mJ];rfl,by ext hq,by simp only [da,ff,DQ];ext hl,λmore=>?_⟩
   rw [Mr,jJ,if_pos cq,iW]
   rfl
  .refine ⟨qC (by ext hq) (by ext hq) (by ext ha hq) (by ext cq),?_⟩
   refine ⟨.sh (.int q.1),.sh (.int q.2),q.1,c+q.2*(q.1-a),ds,rfl,by ext hq,by simp only [da,ff,DQ];ext hl,λmore=>?_⟩
   rw [Mr,jJ,if_neg cq]
 .obtain ⟨x6,x7,a,c,ds,rfl,tQ,hl,hm⟩:=i
  rw [a48,JC,Jr (by rfl)]
  walk_at "o1"
  have:=hm []
  simp only [jJ,rY] at this
  rw [<-this]
  exact hQ
theorem YC{A:List (List Row)}{h:D}{s p m:Int}(hP:(Pl.blocks s p m).ok){Q:Sl->Prop}(hQ:Wo (oY [.lst false (((Pl.blocks s p m).rows A).map Row.d)]) Q):Wo (CS [(Pl.blocks s p m).o,h,Fm A]) Q:=by
 refine gA.mpr ?_
 unfold LB
 simp only [Pl.ok] at hP
 walk_at "o1"
 rw [show fV c9 "many" (Pl.blocks s p m).o=some (.int m) from by kernel_rfl]
 walk_at "o1"
 refine y9 _ _ (λk env=>∃x4 x5,env=[.sh (Pl.blocks s p m).o,.sh h,.sh (Fm A),.ow ((nJ s p k).map Row.d),x4,x5]/\(nJ s p k).length=k+1) (λk env hk i=>?_) (λenv i=>?_) ⟨_,_,rfl,rfl⟩
 .obtain ⟨x4,x5,rfl,hl⟩:=i
  walk_at "o1"
  rw [show fV c9 "size" (Pl.blocks s p m).o=some (.int s) from by kernel_rfl,show fV c9 "price" (Pl.blocks s p m).o=some (.int p) from by kernel_rfl]
  walk_at "o1"
  refine ⟨.inr (.inl (by ext hP hk)),.inr (.inl (by ext hP hk)),by rw [dF];ext hP hk hl,?_⟩
  have ek:(1+(k:Int))=((k+1:Nat):Int):=by ext
  rw [ek]
  refine ⟨.sh (.int ((k+1:Nat):Int)),.sh (.int (s*((k+1:Nat):Int))),?_,?_⟩
  .rw [nJ,mJ]
   rfl
  .rw [nJ,da,hl]
   rfl
 .obtain ⟨x4,x5,rfl,hl⟩:=i
  rw [a48,JC,Jr (by rfl)]
  walk_at "o1"
  rw [show (m+1-1).toNat=m.toNat by congr 1;ext]
  exact hQ
theorem mU{a b:Int}(ha:-(10^41)<=a/\a<=10^41)(hb:-(10^41)<=b/\b<=10^41):-(10^82)<=a*b/\a*b<=10^82:=by
 have h:(a*b).natAbs<=10^41*10^41:=by
  rw [Int.natAbs_mul]
  exact Nat.mul_le_mul (by omega) (by omega)
 generalize a*b=c at *
 omega
theorem E5(lo t u x:Int):Row.at (lo,t,lo*u,u) x=x*u:=by
 unfold Row.at
 dsimp only
 rw [Int.mul_sub,yv lo u,yv x u]
 ext
theorem WR(a t c u x:Int):Row.at (a+1,t,c+u,u) x=c+u*(x-a):=by
 unfold Row.at
 dsimp only
 rw [show x-(a+1)=x-a-1 by ext,Int.mul_sub u (x-a) 1,yu]
 ext
theorem XG{rs:List (Int×Int)}(hP:uj rs):q9 (sZ 0 rs)/\(sZ 0 rs).length<=5/\(∀r∈sZ 0 rs,aU (10^140) r)/\∀x,look (sZ 0 rs) x=if 0<=x/\x<=kM rs then some (x*vH rs x) else none:=by
 have hq:=hP.2.2.1
 have hw:=hP.2.2.2
 rcases xJ hP with ⟨⟨a1,a2⟩,rfl⟩ | ⟨⟨a1,a2⟩,⟨b1,b2⟩,rfl⟩ | ⟨⟨a1,a2⟩,⟨b1,b2⟩,⟨c1,c2⟩,rfl⟩
 all_goals
  simp only [bG,dr,or_false,forall_eq_or_imp,forall_eq] at hq
  simp only [kZ,bG,dr,or_false,forall_eq_or_imp,forall_eq] at hw
  simp only [sZ]
 .have m1:=mU (a:=0) (b:=a2) (by decide) (by ext hq)
  generalize e1:0*a2=z1 at *
  refine ⟨⟨by simp only [bG,dr,or_false,forall_eq_or_imp,forall_eq];ext hq,by simp only [kZ,bG,dr,or_false,forall_eq_or_imp,forall_eq];simp⟩,by simp,by simp only [bG,dr,or_false,forall_eq_or_imp,forall_eq,aU];ext hq e1,λx=>?_⟩
  rw [lp]
  simp only [look,<-e1,E5,vH]
  repeat' split
  all_goals first | rfl | (exfalso;omega)
 .have m1:=mU (a:=0) (b:=a2) (by decide) (by ext hq)
  have m2:=mU (a:=a1+1) (b:=b2) (by ext hq) (by ext hq)
  generalize e1:0*a2=z1 at *
  generalize e2:(a1+1)*b2=z2 at *
  refine ⟨⟨by simp only [bG,dr,or_false,forall_eq_or_imp,forall_eq];omega,by simp only [kZ,bG,dr,or_false,forall_eq_or_imp,forall_eq];simp;ext⟩,by simp,by simp only [bG,dr,or_false,forall_eq_or_imp,forall_eq,aU];ext hq e1 m2,λx=>?_⟩
  rw [top2]
  simp only [look,<-e1,<-e2,E5,vH]
  repeat' split
  all_goals first | rfl | (exfalso;omega)
 .have m1:=mU (a:=0) (b:=a2) (by decide) (by ext hq)
  have m2:=mU (a:=a1+1) (b:=b2) (by ext hq) (by ext hq)
  have m3:=mU (a:=b1+1) (b:=c2) (by ext hq) (by ext hq)
  generalize e1:0*a2=z1 at *
  generalize e2:(a1+1)*b2=z2 at *
  generalize e3:(b1+1)*c2=z3 at *
  refine ⟨⟨by simp only [bG,dr,or_false,forall_eq_or_imp,forall_eq];omega,by simp only [kZ,bG,dr,or_false,forall_eq_or_imp,forall_eq];simp;omega⟩,by simp,by simp only [bG,dr,or_false,forall_eq_or_imp,forall_eq,aU];ext hq e1 m2 m3,λx=>?_⟩
  rw [ll]
  simp only [look,<-e1,<-e2,<-e3,E5,vH]
  repeat' split
  all_goals first | rfl | (exfalso;omega)
theorem Lm{x:Int}:∀{rs:List (Int×Int)} {a:Int},x<=a->(∀q∈rs,a<=q.1)->rs.Pairwise (λa b=>a.1<b.1)->uu x a rs=0
 | [],_,_,_,_=>rfl
 | q::rs,a,h,hq,hw=>by
  have h1:=hq q (.head _)
  obtain ⟨w1,w2⟩:=kZ.mp hw
  rw [uu,Lm (a:=q.1) (by ext h h1) (λr hr=>by have:=w1 r hr;ext this) w2,show min x q.1-min x a=0 by ext h h1,Ia]
  rfl
noncomputable def vE:Int->List (Int×Int)->Int
 | a,[]=>a
 | _,q::rs=>vE q.1 rs
theorem Kc:∀{rs:List (Int×Int)} {a:Int},(∀q∈rs,a<=q.1)->rs.Pairwise (λa b=>a.1<b.1)->a<=vE a rs
 | [],_,_,_=>sH _
 | q::rs,a,hq,hw=>by
  obtain ⟨w1,w2⟩:=kZ.mp hw
  have:=Kc (rs:=rs) (a:=q.1) (λr hr=>by have:=w1 r hr;ext this) w2
  have:=hq q (.head _)
  rw [vE]
  omega
theorem Qo{x:Int}:∀{rs:List (Int×Int)} {a c:Int},a<x->(∀q∈rs,a<=q.1)->rs.Pairwise (λa b=>a.1<b.1)->look (jJ a c rs) x=if x<=vE a rs then some (c+uu x a rs) else none
 | [],a,c,h,_,_=>by rw [jJ,look,vE,if_neg (by ext h)]
 | q::rs,a,c,h,hq,hw=>by
  have h1:=hq q (.head _)
  obtain ⟨w1,w2⟩:=kZ.mp hw
  have G9:∀r∈rs,q.1<=r.1:=λr hr=>by have:=w1 r hr;ext this
  have hl:=Kc G9 w2
  have ih:=λ(hx:q.1<x)=>Qo (x:=x) (rs:=rs) (a:=q.1) (c:=c+q.2*(q.1-a)) hx G9 w2
  rw [jJ,vE,uu]
  by_cases hx:q.1<x
  .have e:look (if a<q.1 then (a+1,q.1,c+q.2,q.2)::jJ q.1 (c+q.2*(q.1-a)) rs else jJ q.1 (c+q.2*(q.1-a)) rs) x=look (jJ q.1 (c+q.2*(q.1-a)) rs) x:=by
    split
    .rw [look,if_neg (by dsimp only;ext hx)]
    .rfl
   rw [e,ih hx,show min x q.1-min x a=q.1-a by ext h hx,Int.add_assoc]
  .rw [if_pos (by ext h hx),look,if_pos (by dsimp only;ext h hx),if_pos (by ext hl hx),WR,Lm (by ext hx) G9 w2,show min x q.1-min x a=x-a by ext h hx,H9]
theorem Qc:∀(rs:List (Int×Int)) (q:Int×Int) (a:Int),vE a (q::rs)=kM (q::rs)
 | [],_,_=>rfl
 | r::rs,q,a=>Qc rs r q.1
theorem P5:∀{rs:List (Int×Int)} {a c:Int},(∀q∈rs,a<=q.1)->rs.Pairwise (λa b=>a.1<b.1)->(∀r∈jJ a c rs,a<r.1/\r.1<=r.2.1)/\(jJ a c rs).Pairwise (λp q=>p.2.1<q.1)/\(jJ a c rs).length<=rs.length
 | [],_,_,_,_=>⟨λ_ h=>(nomatch h),.nil,bZ _⟩
 | q::rs,a,c,hq,hw=>by
  have h1:=hq q (.head _)
  obtain ⟨w1,w2⟩:=kZ.mp hw
  obtain ⟨i1,i2,i3⟩:=P5 (rs:=rs) (a:=q.1) (c:=c+q.2*(q.1-a)) (λr hr=>by have:=w1 r hr;ext this) w2
  rw [jJ]
  split
  .refine ⟨λr hr=>?_,kZ.mpr ⟨λr hr=>(i1 r hr).1,i2⟩,by simp only [ff];ext i3⟩
   rcases bG.mp hr with rfl | hr
   .dsimp only;omega
   .have:=i1 r hr;omega
  .exact ⟨λr hr=>by have:=i1 r hr;ext h1 this,i2,by simp only [ff];ext i3⟩
theorem Pe:∀{rs:List (Int×Int)} {a c B:Int},(0<=a/\a<=10^40)->(∀q∈rs,(0<=q.1/\q.1<=10^40) /\ -(10^40)<=q.2/\q.2<=10^40) -> -B<=c/\c<=B->B+rs.length*10^83<=10^139->∀r∈jJ a c rs,aU (10^140) r
 | [],_,_,_,_,_,_,_=>λ_ h=>(nomatch h)
 | q::rs,a,c,B,ha,hq,hc,hB=>by
  have h1:=hq q (.head _)
  have m1:=mU (a:=q.2) (b:=q.1-a) (by ext h1) (by ext ha h1)
  simp only [ff] at hB
  have hB2:0<=(rs.length:Int)*10^83:=by omega
  have ih:=Pe (rs:=rs) (a:=q.1) (c:=c+q.2*(q.1-a)) (B:=B+10^82) h1.1 (λr hr=>hq r (.tail _ hr)) (by ext hc m1) (by omega)
  rw [jJ]
  split
  .intro r hr
   rcases bG.mp hr with rfl | hr
   .unfold aU;dsimp only;omega
   .exact ih r hr
  .exact ih
theorem XT{rs:List (Int×Int)}(hP:uj rs):q9 (((0,0,0,0):Row)::jJ 0 0 rs)/\(((0,0,0,0):Row)::jJ 0 0 rs).length<=5/\(∀r∈((0,0,0,0):Row)::jJ 0 0 rs,aU (10^140) r)/\∀x,look (((0,0,0,0):Row)::jJ 0 0 rs) x=if 0<=x/\x<=kM rs then some (uu x 0 rs) else none:=by
 have hq:=hP.2.2.1
 have hw:=hP.2.2.2
 have Du:∀q∈rs,0<=q.1:=λq h=>(hq q h).1.1
 obtain ⟨i1,i2,i3⟩:=P5 (c:=0) Du hw
 have hl:=hP.2.1
 have hb:=Pe (a:=0) (c:=0) (B:=0) (by decide) hq (by decide) (by omega)
 refine ⟨⟨λr hr=>?_,kZ.mpr ⟨λr hr=>(i1 r hr).1,i2⟩⟩,by simp only [ff];ext i3 hl,λr hr=>?_,λx=>?_⟩
 .rcases bG.mp hr with rfl | hr
  .exact sH _
  .exact (i1 r hr).2
 .rcases bG.mp hr with rfl | hr
  .unfold aU;decide
  .exact hb r hr
 .have Ms:vE 0 rs=kM rs:=by
   cases rs with
   | nil=>exact (hP.1 rfl).elim
   | cons q rs=>exact Qc rs q 0
  have wQ:=Kc Du hw
  rw [look]
  by_cases h0:0<x
  .rw [if_neg (by dsimp only;ext h0),Qo h0 Du hw,Ms,HZ]
   by_cases h1:x<=kM rs
   .rw [if_pos h1,if_pos ⟨by ext h0,h1⟩]
   .rw [if_neg h1,if_neg (by ext h1)]
  .by_cases h1:x=0
   .subst h1
    rw [if_pos (by decide),if_pos (by ext Ms wQ),Lm (sH _) Du hw]
    rfl
   .rw [if_neg (by dsimp only;ext h1),if_neg (by ext h0 h1)]
    exact Qe λr hr=>.inl (by have:=(i1 r hr).1;ext h0 this)
theorem PD(x:Int)(B:List Row):∀A:List Row,look (A++B) x=(look A x).or (look B x)
 | []=>rfl
 | r::A=>by
  rw [xy,look,look]
  split
  .rfl
  .exact PD x B A
theorem PM{s p:Int}(hs:1<=s/\s<=10^39)(hp:-(10^40)<=p/\p<=10^40):∀{n:Nat},n<=4->q9 (nJ s p n)/\(nJ s p n).length=n+1/\(∀r∈nJ s p n,aU (10^140) r/\r.2.1<=s*n)/\∀x,look (nJ s p n) x=if 0<=x/\x<=s*n then some (p*((x+s-1)/s)) else none
 | 0,_=>by
  refine ⟨⟨by simp [nJ],by simp [nJ]⟩,rfl,by simp [nJ,aU],λx=>?_⟩
  simp only [nJ,look]
  rw [show s*((0:Nat):Int)=0 from Ia s]
  by_cases h:0<=x/\x<=0
  .obtain rfl:x=0:=by ext h
   rw [if_pos h,if_pos h,Int.ediv_eq_zero_of_lt (by ext hs) (by ext),Ia]
   rfl
  .rw [if_neg h,if_neg h]
 | n+1,hn=>by
  obtain ⟨i1,i2,i3,i4⟩:=PM hs hp (n:=n) (by ext hn)
  have m1:=mU (a:=p) (b:=((n+1:Nat):Int)) (by ext hp) (by ext hn)
  have m2:s*((n+1:Nat):Int)=s*n+s:=by rw [Int.natCast_add,Int.mul_add,Int.natCast_one,yu]
  have m3:0<=s*(n:Int):=vw (by ext hs) (by ext)
  have m4:s*(n:Int)<=10^39*4:=vt (by ext hs) (by ext hn) (by ext) (by decide)
  refine ⟨⟨λr hr=>?_,?_⟩,?_,λr hr=>?_,λx=>?_⟩
  .rcases jI.mp hr with hr | hr
   .exact i1.1 r hr
   .rw [lE.mp hr];dsimp only;ext hs
  .refine pE.mpr ⟨i1.2,vz _ _,λa ha b hb=>?_⟩
   rw [lE.mp hb]
   have:=(i3 a ha).2
   dsimp only
   ext m2 this
  .rw [nJ,da,i2];rfl
  .rcases jI.mp hr with hr | hr
   .exact ⟨(i3 r hr).1,by have:=(i3 r hr).2;ext hs m2 this⟩
   .rw [lE.mp hr];unfold aU;dsimp only;ext hs m1 m2 m3 m4
  .rw [nJ,PD,i4,look,look]
   generalize hz:s*((n+1:Nat):Int)=z at *
   by_cases h1:0<=x/\x<=s*n
   .rw [if_pos h1,Option.some_or,if_pos (show 0<=x/\x<=z by ext hs m2 h1)]
   .rw [if_neg h1]
    by_cases h2:0<=x/\x<=z
    .rw [if_pos h2,if_pos (by dsimp only;ext m2 h1 h2)]
     have e:(x+s-1)/s=((n+1:Nat):Int):=by
      refine (Int.ediv_eq_iff_of_pos (by ext hs)).mpr ⟨?_,?_⟩
      .rw [yv,hz];ext m2 h1 h2
      .rw [yv,hz];ext h2
     rw [e]
     unfold Row.at
     dsimp only
     rw [Int.zero_mul,H9]
     rfl
    .rw [if_neg h2,if_neg (by dsimp only;ext m3 m2 h2)]
     rfl
theorem Cj{R:List Row}(ha:q9 R)(hl:R.length<=5)(hb:∀r∈R,aU (10^140) r){f:Int->Option Int}(hf:∀x,look R x=f x):Wo (oY [.lst false (R.map Row.d)]) λr=>∃fs:List Row,r=.sh (.tup (fs.map Row.d))/\Canon fs/\(∀q∈fs,aU (3*10^140) q)/\fs.length<=60/\∀x,look fs x=f x:=by
 obtain ⟨fs,e,L⟩:=Vb ha hb (by ext hl) (ro:=false)
 refine ⟨_,e,fs,rfl,L.canon,λq hq=>(L.bd q hq).1,by have:=L.len;ext hl this,λx=>?_⟩
 rw [<-hf,Wc L.canon.qX ha λc=>L.val x c]
theorem Va{A:List (List Row)}(hA:A.length=3)(hF:∀f∈A,q5 f)(P:Pl)(hP:P.ok)(h:D):Wo (sW "form_here" 3 FU P.o [h,Fm A]) λr=>∃fs:List Row,r=.sh (.tup (fs.map Row.d))/\Canon fs/\(∀q∈fs,aU (3*10^140) q)/\fs.length<=60/\(∀x,look fs x=P.due A x)/\∀n,P=.name n->fs=oz A n:=by
 cases P with
 | name n =>
  obtain ⟨e1,e2⟩:=za hA hP
  obtain ⟨Hj,Dy,yk⟩:=hF _ e2
  exact ⟨_,qN (by kernel_rfl) (WH hA hP (h:=h)),oz A n,rfl,Dy.2,λq hq=>by have:=yk q hq;unfold aU at this ⊢;ext this,by omega,λx=>rfl,λm e=>by cases e;rfl⟩
 | each a b c =>
  have hh:=WE (A:=A) (h:=h) hP (Cj (f:=λx=>(Pl.each a b c).due A x) ⟨?_,?_⟩ (by simp [Pl.rows]) ?_ λx=>?_)
  .obtain ⟨r,e,fs,k1,k2,k3,k4,k5⟩:=hh
   exact ⟨r,qN (by kernel_rfl) e,fs,k1,k2,k3,k4,k5,λn z=>nomatch z⟩
  all_goals simp only [Pl.ok] at hP
  .simp only [Pl.rows,bG,dr,or_false,forall_eq];ext hP
  .exact vz _ _
  .have m1:=mU (a:=a) (b:=b) (by ext hP) (by ext hP)
   simp only [Pl.rows,bG,dr,or_false,forall_eq,aU];ext hP m1
  .simp only [Pl.rows,look,Pl.due,yv a b,E5]
   rw [yv x a]
 | flat a b c =>
  have hh:=WG (A:=A) (h:=h) (p:=a) (lo:=b) (hi:=c) (Cj (f:=λx=>(Pl.flat a b c).due A x) ⟨?_,?_⟩ (by simp [Pl.rows]) ?_ λx=>?_)
  .obtain ⟨r,e,fs,k1,k2,k3,k4,k5⟩:=hh
   exact ⟨r,qN (by kernel_rfl) e,fs,k1,k2,k3,k4,k5,λn z=>nomatch z⟩
  all_goals simp only [Pl.ok] at hP
  .simp only [Pl.rows,bG,dr,or_false,forall_eq];ext hP
  .exact vz _ _
  .simp only [Pl.rows,bG,dr,or_false,forall_eq,aU];ext hP
  .simp only [Pl.rows,look,Pl.due,Row.at,Int.zero_mul,H9]
 | blocks s p m =>
  have hm:((m.toNat:Nat):Int)=m:=by simp only [Pl.ok] at hP;ext hP
  obtain ⟨i1,i2,i3,i4⟩:=PM (n:=m.toNat) hP.1 hP.2.1 (by simp only [Pl.ok] at hP;ext hP)
  obtain ⟨r,e,fs,k1,k2,k3,k4,k5⟩:=YC (A:=A) (h:=h) hP (Cj (f:=λx=>(Pl.blocks s p m).due A x) i1 (by show (nJ s p m.toNat).length<=5;simp only [Pl.ok] at hP;ext hP i2) (λr hr=>(i3 r hr).1) λx=>by
   show look (nJ s p m.toNat) x=_
   rw [i4,hm]
   rfl)
  exact ⟨r,qN (by kernel_rfl) e,fs,k1,k2,k3,k4,k5,λn z=>nomatch z⟩
 | bands rs =>
  obtain ⟨i1,i2,i3,i4⟩:=XG hP
  obtain ⟨r,e,fs,k1,k2,k3,k4,k5⟩:=Xy (A:=A) (h:=h) hP (Cj (f:=λx=>(Pl.bands rs).due A x) i1 i2 i3 i4)
  exact ⟨r,qN (by kernel_rfl) e,fs,k1,k2,k3,k4,k5,λn z=>nomatch z⟩
 | steps rs =>
  obtain ⟨i1,i2,i3,i4⟩:=XT hP
  obtain ⟨r,e,fs,k1,k2,k3,k4,k5⟩:=Xz (A:=A) (h:=h) hP (Cj (f:=λx=>(Pl.steps rs).due A x) i1 i2 i3 i4)
  exact ⟨r,qN (by kernel_rfl) e,fs,k1,k2,k3,k4,k5,λn z=>nomatch z⟩
theorem U'{A:List (List Row)}(hA:A.length=3)(hF:∀f∈A,q5 f)(P:Pl)(hP:P.ok):∃fs:List Row,sW "form" 2 Cu P.o [Fm A]=some (.sh (.tup (fs.map Row.d)))/\Canon fs/\(∀q∈fs,aU (3*10^140) q)/\fs.length<=60/\(∀x,look fs x=P.due A x)/\∀n,P=.name n->fs=oz A n:=by
 have m1:sW "form" 2 Cu P.o [Fm A]=tf [P.o,Fm A]:=by cases P<;>kernel_rfl
 have m2:sW "form_up_to" 3 FP P.o [.int 60,Fm A]=s9 [P.o,.int 60,Fm A]:=by cases P<;>kernel_rfl
 obtain ⟨r,e,fs,rfl,h1,h2,h3,h4⟩:=Va hA hF P hP (.lst false [])
 obtain ⟨r2,e2,_⟩:=Xt hA P hP
 refine ⟨fs,?_,h1,h2,h3,h4⟩
 rw [m1]
 refine Wo.eq (oI.mpr ?_)
 unfold K1
 walk_at "o1"
 rw [e2]
 walk_at "o1"
 rw [m2]
 refine iM.mpr ?_
 unfold Lu
 walk_at "o1"
 rw [OE,OQ]
 walk_at "o1"
 rw [e]
 walk_at "o1"
 rw [a0G]
 walk_at "o1"
 intro hz
 rw [dF] at hz
 ext _ h3 hz
theorem WU{a r:Row}(Bg:Cc a r)(h1:aU (3*10^140) a)(h2:aU (3*10^140) r):xP [a.d,r.d]=some (.sh (.bl true)):=by
 refine Wo.eq (oG.mpr ?_)
 unfold K3
 unfold aU at h1 h2
 unfold Cc Row.at at Bg
 rw [mn a,mn r]
 walk_at "o1"
 rw [a0G]
 walk_at "o1"
 refine ⟨λh=>by ext _ Bg h,λh=>?_⟩
 rw [a0G]
 walk_at "o1"
 refine λh3=>?_
 have f2:=Bg.2 (by ext Bg h3)
 refine ⟨λh4=>⟨qC (by ext h1) (by ext h1) (by ext Bg f2) (by ext h1 h2),?_⟩,λh4=>by ext _ f2 h4⟩
 rw [decide_eq_false λz=>f2.2 z.symm]
 rfl
theorem Xr{fs:List Row}(hc:Canon fs)(hb:∀r∈fs,aU (3*10^140) r)(hl:fs.length<=60):CK [.tup (fs.map Row.d)]=some (.sh (.bl true)):=by
 refine Wo.eq (mw.mpr ?_)
 unfold Lh
 walk_at "o1"
 rw [a0G]
 walk_at "o1"
 walk_at "vc"
 rw [dF]
 refine ⟨by walk_at "sc",?_⟩
 refine y9 _ _ (λ_ env=>∃x1 x2 x3,env=[.sh (.tup (fs.map Row.d)),x1,x2,x3]) (λk env hk h2=>?_) (λenv h2=>?_) ⟨_,_,_,rfl⟩
 .obtain ⟨x1,x2,x3,rfl⟩:=h2
  have hk:k<fs.length:=by ext hk
  have hr:=hc.1 fs[k] (ua hk)
  have OW:∀j:Nat,(k:Int)=(j+1:Nat)->∃a,dt (fs.map Row.d) (j:Int)=some a/\xP [a,fs[k].d]=some (.sh (.bl true)):=λj hj=>by
   obtain rfl:k=j+1:=by ext hj
   have hf:=hc.2.get j hk
   exact ⟨fs[j].d,by rw [Pn (show j<fs.length by ext hk)],WU hf (hb _ (ua _)) (hb _ (ua _))⟩
  walk_at "v1"
  rw [HZ,Pn hk,a0e]
  generalize fs[k]=r at *
  rw [mn r] at OW ⊢
  unfold xH at hr
  rw [a0G]
  walk_at "vc"
  have uP:∀{Q:Sl->Prop},0<(k:Int)->Q (.sh (.bl true))->Wo (dt (fs.map Row.d) ((k:Int)-1)) λd=>Wo (xP [d,.tup [.int r.1,.int r.2.1,.int r.2.2.1,.int r.2.2.2]]) Q:=λ{Q} hp hQ=>by
   obtain ⟨a,e1,e2⟩:=OW (k-1) (by ext hp)
   rw [show (k:Int)-1=((k-1:Nat):Int) by ext hp,e1,a0e,e2,a0e]
   exact hQ
  refine ⟨λz=>absurd z (by ext hr),λ_=>⟨λz=>⟨λz2=>absurd (hr.2 z) z2,λ_=>⟨λhp=>uP hp ?_,λ_=>⟨_,_,_,rfl⟩⟩⟩,λ_=>⟨λhp=>uP hp ?_,λ_=>⟨_,_,_,rfl⟩⟩⟩⟩
  .walk_at "vc"
   exact ⟨_,_,_,rfl⟩
  .walk_at "vc"
   exact ⟨_,_,_,rfl⟩
 .obtain ⟨x1,x2,x3,rfl⟩:=h2
  walk_at "vc"
theorem Xq{rs:List Row}{x:Int}(hb:∀r∈rs,aU (3*10^140) r)(hx:-(10^120)<=x/\x<=10^120):CJ [.tup (rs.map Row.d),.int x]=some (.sh (nZ (look rs x))):=by
 refine Wo.eq (mx.mpr ?_)
 unfold Lg
 rw [Wo_seq,b3B,b7K]
 refine ⟨_,rfl,?_⟩
 refine ur Row.d (λpre env=>∃x2 rest,env=[.sh (.tup (rs.map Row.d)),.sh (.int x),x2]/\rs=pre++rest/\look rs x=look rest x) rs (λpre r post env e h=>?_) (λenv h=>?_) ⟨_,rs,rfl,rfl,rfl⟩
 .obtain ⟨x2,rest,rfl,e2,rK⟩:=h
  obtain rfl:rest=r::post:=List.append_cancel_left (e2.symm.trans e)
  have hr:=hb r (by rw [e];simp)
  unfold aU at hr
  have hm:MulC r.2.2.2 (x-r.1):=qC (by ext hr) (by ext hr) (by ext hx hr) (by ext hx hr)
  rw [look] at rK
  rw [mn r]
  walk_at "vc"
  refine ⟨λh1=>⟨λh2=>⟨hm,?_⟩,λh2=>?_⟩,λh1=>?_⟩
  .rw [rK,if_pos ⟨h1,h2⟩];rfl
  .rw [if_neg (by ext h2)] at rK
   exact ⟨_,post,rfl,by rw [e];simp,rK⟩
  .rw [if_neg (by ext h1)] at rK
   exact ⟨_,post,rfl,by rw [e];simp,rK⟩
 .obtain ⟨x2,rest,rfl,e2,rK⟩:=h
  have:rest=[]:=by simpa using e2
  subst this
  walk_at "vc"
  rw [rK];rfl
theorem Xo{fs:List Row}(h:q9 fs){lo hi:Int}(tQ:lo<=hi)(hd:∀x,look fs x≠none↔lo<=x/\x<=hi):fs≠[]/\(∀f,fs.head?=some f->f.1=lo)/\∀f,fs.getLast?=some f->f.2.1=hi:=by
 have own:∀f∈fs,(lo<=f.1/\f.1<=hi)/\lo<=f.2.1/\f.2.1<=hi:=λf hf=>by
  have hl:=h.1 f hf
  have h1:=(hd f.1).mp (by rw [JY h hf (sH _) hl];simp)
  have h2:=(hd f.2.1).mp (by rw [JY h hf hl (sH _)];simp)
  exact ⟨h1,h2⟩
 have at_:∀x,lo<=x->x<=hi->∃q∈fs,q.1<=x/\x<=q.2.1:=λx h1 h2=>by
  have hn:=(hd x).mpr ⟨h1,h2⟩
  cases e:look fs x with
  | none=>exact absurd e hn
  | some c =>
   obtain ⟨q,hq,z1,z2,_⟩:=Ke e
   exact ⟨q,hq,z1,z2⟩
 refine ⟨λe=>?_,λf hf=>?_,λf hf=>?_⟩
 .obtain ⟨q,hq,_⟩:=at_ lo (sH _) tQ
  rw [e] at hq
  exact nomatch hq
 .cases fs with
  | nil=>exact nomatch hf
  | cons g gs =>
   obtain rfl:g=f:=by simpa using hf
   obtain ⟨q,hq,z1,z2⟩:=at_ lo (sH _) tQ
   have:=own g (.head _)
   rcases bG.mp hq with rfl | hq
   .ext z1 this
   .have:=(kZ.mp h.2).1 q hq
    have:=h.1 g (.head _)
    omega
 .obtain ⟨gs,rfl⟩:∃gs,fs=gs++[f]:=NA.mp hf
  obtain ⟨q,hq,z1,z2⟩:=at_ hi tQ (sH _)
  have:=own f (by simp)
  rcases jI.mp hq with hq | hq
  .have:=(pE.mp h.2).2.2 q hq f (by simp)
   have:=h.1 f (by simp)
   omega
  .rw [lE.mp hq] at z1 z2
   ext z2 this
theorem Mc(rs:List (Int×Int))(hl:rs.length<=3):Cq [.lst false (rs.map Pr)]=some [.lst false (rs.map Pr)]/\CF [.lst false (rs.map Pr)]=some [.lst false (rs.map Pr)]:=by
 obtain ⟨r,e,rfl⟩:=Wg rs hl
 have k:∀f:Str,eT f (mL (kf (eV 1)) [] 2 (gT 2 (p8 (gN 0) (p8 (gN 1) vB))) sV (cu (ag (eV 0) (ag (eV 1) af)))) nU [.no,.sh (.lst false (rs.map Pr))] [] []=some ([f],[.lst false (rs.map Pr)]):=λf=>by
  unfold eT
  rw [e,sL,if_neg (by simp)]
  rfl
 constructor
 .unfold Cq lq
  rw [show (Sl.no::oB (2-1) [D.lst false (rs.map Pr)])=[.no,.sh (.lst false (rs.map Pr))] from rfl,k]
  rfl
 .unfold CF lq
  rw [show (Sl.no::oB (2-1) [D.lst false (rs.map Pr)])=[.no,.sh (.lst false (rs.map Pr))] from rfl,k]
  rfl
theorem VW(P:Pl)(hP:P.ok):CL [P.d]=some (.sh P.o):=by
 refine Wo.eq (pH.mpr ?_)
 unfold KG
 cases P with
 | each p lo hi =>
  unfold Pl.d
  walk_at "o1"
  rw [a0G];walk_at "v1";walk_at "kd";walk_at "o1"
  rw [We]
  walk_at "v1"
  rfl
 | flat p lo hi =>
  unfold Pl.d
  walk_at "o1"
  iterate 2 (rw [a0G];walk_at "v1";walk_at "kd";walk_at "o1")
  rw [Wf]
  walk_at "v1"
  rfl
 | bands rs =>
  unfold Pl.d
  walk_at "o1"
  iterate 3 (rw [a0G];walk_at "v1";walk_at "kd";walk_at "o1")
  rw [(Mc rs hP.2.1).1]
  walk_at "v1"
  rfl
 | steps rs =>
  unfold Pl.d
  walk_at "o1"
  iterate 4 (rw [a0G];walk_at "v1";walk_at "kd";walk_at "o1")
  rw [(Mc rs hP.2.1).2]
  walk_at "v1"
  rfl
 | blocks p lo hi =>
  unfold Pl.d
  walk_at "o1"
  iterate 5 (rw [a0G];walk_at "v1";walk_at "kd";walk_at "o1")
  rw [Yu]
  walk_at "v1"
  rfl
 | name n =>
  unfold Pl.d
  walk_at "o1"
  iterate 5 (rw [a0G];walk_at "v1";walk_at "kd";walk_at "o1")
  rw [X3]
  walk_at "v1"
  rfl
theorem OG{l:List Int}{a:Int}(h:a∈l)(k:∀z∈l,a<=z):hV l=a:=by
 have h1:=Wd h
 have h2:=k _ (X2 (ns:=l) (λe=>by rw [e] at h;exact nomatch h))
 ext h1 h2
theorem OF{l:List Int}{a:Int}(h:a∈l)(k:∀z∈l,z<=a):h7 l=a:=by
 have h1:=Yt (ns:=l) (λe=>by rw [e] at h;exact nomatch h)
 have h2:=k _ h1.1
 have h3:=h1.2 a h
 ext h2 h3
theorem HJ{A:List (List Row)}(P:Pl)(hP:P.ok)(hn:∀n,P≠.name n):∃lo hi,lo<=hi/\(∀x,P.due A x≠none↔lo<=x/\x<=hi)/\lo∈P.ends A/\hi∈P.ends A/\∀z∈P.ends A,lo<=z/\z<=hi:=by
 cases P with
 | name n=>exact absurd rfl (hn n)
 | each p lo hi =>
  simp only [Pl.ok] at hP
  exact ⟨lo,hi,by ext hP,λx=>by simp only [Pl.due];by_cases h:lo<=x/\x<=hi<;>simp [h],by simp [Pl.ends],by simp [Pl.ends],by simp only [Pl.ends,bG,dr,or_false];omega⟩
 | flat p lo hi =>
  simp only [Pl.ok] at hP
  exact ⟨lo,hi,by ext hP,λx=>by simp only [Pl.due];by_cases h:lo<=x/\x<=hi<;>simp [h],by simp [Pl.ends],by simp [Pl.ends],by simp only [Pl.ends,bG,dr,or_false];omega⟩
 | blocks s p m =>
  simp only [Pl.ok] at hP
  have h1:s*1<=s*m:=Int.mul_le_mul_of_nonneg_left (by ext hP) (by ext hP)
  rw [yu] at h1
  refine ⟨0,s*m,by ext hP h1,λx=>by simp only [Pl.due];by_cases h:0<=x/\x<=s*m<;>simp [h],by simp [Pl.ends],by simp [Pl.ends],?_⟩
  generalize hz:s*m=z at *
  simp only [Pl.ends,hz,bG,dr,or_false]
  omega
 | bands rs =>
  have hq:=hP.2.2.1
  have hw:=hP.2.2.2
  have key:0<=kM rs/\kM rs∈rs.map (·.1)/\∀q∈rs,q.1<=kM rs:=by
   rcases xJ hP with ⟨⟨a1,a2⟩,rfl⟩ | ⟨⟨a1,a2⟩,⟨b1,b2⟩,rfl⟩ | ⟨⟨a1,a2⟩,⟨b1,b2⟩,⟨c1,c2⟩,rfl⟩
   all_goals
    simp only [bG,dr,or_false,forall_eq_or_imp,forall_eq] at hq
    simp only [kZ,bG,dr,or_false,forall_eq_or_imp,forall_eq] at hw
    simp only [lp,top2,ll,e9,oi,bG,dr,or_false,forall_eq_or_imp,forall_eq]
    simp
    try omega
  exact ⟨0,kM rs,key.1,λx=>by by_cases h:0<=x/\x<=kM rs<;>simp [Pl.due,h],by simp [Pl.ends],.tail _ key.2.1,λz hz=>by
   rcases bG.mp hz with rfl | hz
   .exact ⟨sH _,key.1⟩
   .obtain ⟨q,h1,rfl⟩:=pF.mp hz
    exact ⟨(hq q h1).1.1,key.2.2 q h1⟩⟩
 | steps rs =>
  have hq:=hP.2.2.1
  have hw:=hP.2.2.2
  have key:0<=kM rs/\kM rs∈rs.map (·.1)/\∀q∈rs,q.1<=kM rs:=by
   rcases xJ hP with ⟨⟨a1,a2⟩,rfl⟩ | ⟨⟨a1,a2⟩,⟨b1,b2⟩,rfl⟩ | ⟨⟨a1,a2⟩,⟨b1,b2⟩,⟨c1,c2⟩,rfl⟩
   all_goals
    simp only [bG,dr,or_false,forall_eq_or_imp,forall_eq] at hq
    simp only [kZ,bG,dr,or_false,forall_eq_or_imp,forall_eq] at hw
    simp only [lp,top2,ll,e9,oi,bG,dr,or_false,forall_eq_or_imp,forall_eq]
    simp
    try omega
  exact ⟨0,kM rs,key.1,λx=>by by_cases h:0<=x/\x<=kM rs<;>simp [Pl.due,h],by simp [Pl.ends],.tail _ key.2.1,λz hz=>by
   rcases bG.mp hz with rfl | hz
   .exact ⟨sH _,key.1⟩
   .obtain ⟨q,h1,rfl⟩:=pF.mp hz
    exact ⟨(hq q h1).1.1,key.2.2 q h1⟩⟩
theorem Wy{A:List (List Row)}(P:Pl)(hP:P.ok){fs:List Row}(hc:Canon fs)(hl:∀x,look fs x=P.due A x)(hn:∀n,P=.name n->fs=oz A n):(P.ends A=[]/\fs=[])\/P.ends A≠[]/\∃f g,fs.head?=some f/\fs.getLast?=some g/\f.1=hV (P.ends A)/\g.2.1=h7 (P.ends A):=by
 by_cases h:∃n,P=.name n
 .obtain ⟨n,rfl⟩:=h
  have e:=hn n rfl
  subst e
  have ha:=hc.qX
  show (((oz A n).flatMap λr=>[r.1,r.2.1])=[]/\_)\/((oz A n).flatMap λr=>[r.1,r.2.1])≠[]/\∃f g:Row,_/\_/\f.1=hV ((oz A n).flatMap λr=>[r.1,r.2.1])/\g.2.1=h7 ((oz A n).flatMap λr=>[r.1,r.2.1])
  generalize oz A n=G at *
  rcases MY G with rfl | ⟨gs,g,e⟩
  .exact .inl ⟨rfl,rfl⟩
  .have e:G=gs++[g]:=by simpa using e
   cases G with
   | nil=>simp at e
   | cons f rest =>
    have fm:∀z,z∈((f::rest).flatMap λr=>[r.1,r.2.1])↔∃r∈f::rest,z=r.1\/z=r.2.1:=λz=>by
     rw [List.mem_flatMap]
     exact exists_congr λr=>and_congr_right λ_=>by simp
    have hg:g∈f::rest:=by rw [e];simp
    refine .inr ⟨by simp,f,g,rfl,by rw [e];simp,(OG ((fm _).mpr ⟨f,.head _,.inl rfl⟩) λz hz=>?_).symm,(OF ((fm _).mpr ⟨g,hg,.inr rfl⟩) λz hz=>?_).symm⟩
    .obtain ⟨r,hr,hz⟩:=(fm z).mp hz
     have h1:=ha.1 r hr
     have h2:=ha.1 f (.head _)
     rcases bG.mp hr with rfl | hr
     .omega
     .have:=(kZ.mp ha.2).1 r hr
      ext hz h1 h2 this
    .obtain ⟨r,hr,hz⟩:=(fm z).mp hz
     have h1:=ha.1 r hr
     have h2:=ha.1 g hg
     have h3:=ha.2
     rw [e] at hr h3
     rcases jI.mp hr with hr | hr
     .have:=(pE.mp h3).2.2 r hr g (by simp)
      ext hz h1 h2 this
     .rw [lE.mp hr] at hz h1
      ext hz h1
 .obtain ⟨lo,hi,h0,hd,m1,m2,mz⟩:=HJ (A:=A) P hP λn e=>h ⟨n,e⟩
  obtain ⟨k1,k2,k3⟩:=Xo hc.qX h0 λx=>by rw [hl];exact hd x
  refine .inr ⟨λe=>by rw [e] at m1;exact (nomatch m1),?_⟩
  cases hf:fs.head? with
  | none=>exact absurd (List.head?_eq_none_iff.mp hf) k1
  | some f =>
   cases hg:fs.getLast? with
   | none=>exact absurd (List.getLast?_eq_none_iff.mp hg) k1
   | some g=>exact ⟨f,g,rfl,rfl,by rw [k2 f hf,OG m1 λz hz=>(mz z hz).1],by rw [k3 g hg,OF m2 λz hz=>(mz z hz).2]⟩
theorem XF{rs:List Row}{q:Row}(h:rs.getLast?=some q):dt (rs.map Row.d) (-1)=some q.d:=by
 obtain ⟨pre,rfl⟩:=NA.mp h
 rw [mJ]
 exact lG
theorem XY{rs:List Row}{q:Row}(h:rs.head?=some q):dt (rs.map Row.d) 0=some q.d:=by
 cases rs with
 | nil=>exact nomatch h
 | cons r rs =>
  obtain rfl:r=q:=by simpa using h
  simp only [e9,b7o]
theorem fin(ns:List Int)(AX:ns.length<=63):E6 [.lst true (ns.map D.int)]=some (.sh (.bl true)):=by
 refine Wo.eq (CV.mpr ?_)
 unfold Jl
 walk_at "o1"
 rw [Bn _ _ (by decide)]
 walk_at "o1"
 refine ⟨by decide,by decide,?_⟩
 refine Ox [9,10^6,10^38] (DO _ (by decide)) (by have:=Eh (ns.getD 0 0) (show (0:Int)<3 by decide);simpa using this) λv hv=>?_
 have hb:1<=v/\v<=10^38:=by
  simp only [bG,dr,or_false] at hv
  ext hv
 obtain ⟨A,eA,hA,hF⟩:=Wu ns v hb
 rw [eA]
 walk_at "o1"
 refine ⟨by rw [dF];walk_at "sc",?_⟩
 refine y9 _ _ (λk env=>∃x3 x4 x5 x6 x7 x8 x9,env=[.sh (.lst true (ns.map D.int)),.sh (.int v),.sh (Fm A),x3,x4,x5,x6,x7,x8,x9]) (λk env hk h=>?_) (λenv h=>?_) ⟨_,_,_,_,_,_,_,rfl⟩
 .obtain ⟨x3,x4,x5,x6,x7,x8,x9,rfl⟩:=h
  have Dw:k<ns.length:=by rw [dF] at hk;ext hk
  obtain ⟨P,eP,hP⟩:=Vc ns[k] v hb
  obtain ⟨fs,ef,hc,DA,yj,rK,TL⟩:=U' hA hF P hP
  walk_at "o1"
  rw [show dt (ns.map D.int) (0+(k:Int))=some (.int ns[k]) from by rw [HZ,Ki 0 (by ext) (by ext Dw)];simp [Dw],a0e,eP]
  walk_at "o1"
  rw [VW P hP]
  walk_at "o1"
  rw [ef]
  walk_at "o1"
  rw [a0G]
  walk_at "o1"
  rw [Ay]
  walk_at "o1"
  rw [Xr hc DA yj]
  walk_at "o1"
  rw [J5]
  obtain ⟨xs,ex,hxl,Th⟩:=YB hA hF P hP hb (pB ns (some (0+(k:Int))) (some (0+(k:Int)+4))) (r:=false)
  rw [ex]
  walk_at "o1"
  refine ur D.int (λpre env=>∃x7,env=[.sh (.lst true (ns.map D.int)),.sh (.int v),.sh (Fm A),.sh (.int (0+(k:Int))),.sh P.d,.sh P.o,.sh (.tup (fs.map Row.d)),x7,x8,x9]) _ (λpre x post env e h=>?_) (λenv h=>?_) ⟨_,rfl⟩
  .obtain ⟨x7,rfl⟩:=h
   have hx:=Th x (by rw [e];simp)
   walk_at "o1"
   rw [a0G]
   walk_at "o1"
   rw [Xq DA (by ext hx),rK]
   walk_at "o1"
   rw [Wv hA hF P hP hx]
   walk_at "o1"
   rw [Wh]
   walk_at "o1"
   exact ⟨_,rfl⟩
  .obtain ⟨x7,rfl⟩:=h
   walk_at "o1"
   rw [ON hA hF P hP]
   walk_at "o1"
   have he:=Wy P hP hc rK TL
   refine JU ?_ ?_
   .rcases he with ⟨e0,rfl⟩ | ⟨e0,f,g,hf,hg,h1,h2⟩
    .rw [e0]
     walk_at "vc"
     simp [dA,bC,ny,a0e,oi]
     walk_at "vc"
    .have e1:(P.ends A).length≠0:=λz=>e0 (D8.mp z)
     walk_at "vc"
     intro z
     rw [dF] at z
     exact absurd z (by ext e1)
   .rw [a48,Wo_seq]
    refine JU ?_ ?_
    .rcases he with ⟨e0,rfl⟩ | ⟨e0,f,g,hf,hg,h1,h2⟩
     .rw [e0]
      walk_at "vc"
      simp
     .walk_at "vc"
      rw [XY hf,XF hg,mn f,mn g]
      walk_at "vc"
      exact λ_=>⟨e0,λz=>absurd h1 z,λ_=>⟨e0,h2⟩⟩
    .walk_at "o1"
     cases P
     all_goals
      unfold Pl.d
      rw [a0G]
      walk_at "v1"
      walk_at "kd"
      walk_at "o1"
      refine JU ?_ ⟨_,_,_,_,_,_,_,rfl⟩
      walk_at "o1"
      rw [OD,OP _ hP]
      walk_at "o1"
      simp [dA,bC,ny,a0e,Pl.ns]
      walk_at "vc"
 .obtain ⟨x3,x4,x5,x6,x7,x8,x9,rfl⟩:=h
  walk_at "o1"
end My
namespace PySem.W.Fast
theorem tw2177623527728592272:True:=trivial
theorem tw12161062434570493544:True:=trivial
theorem tw9013505183903743196:True:=trivial
theorem tw14055049002668009741:True:=trivial
theorem tw11826538911883765009:True:=trivial
theorem tw17486789254245192097:True:=trivial
theorem tw4684546135050568168:True:=trivial
theorem tw12397398113139012776:True:=trivial
theorem tw9893849041986162120:True:=trivial
theorem tw5958710551217067381:True:=trivial
theorem tw5731678242280936711:True:=trivial
theorem tw11392489027236106182:True:=trivial
theorem tw12696161513769188011:True:=trivial
theorem tw7208276997372157134:True:=trivial
theorem tw18167687341287644853:True:=trivial
theorem tw10892009555313914515:True:=trivial
theorem tw2615607608540644292:True:=trivial
theorem tw5890388445564944271:True:=trivial
theorem tw4798401370582003764:True:=trivial
theorem tw13846251843993115670:True:=trivial
theorem tw2070458536882753876:True:=trivial
theorem tw13299359523671851089:True:=trivial
theorem tw12118152895722135372:True:=trivial
theorem tw3041576057113790131:True:=trivial
theorem tw9760211144552523353:True:=trivial
theorem tw3104744957700326833:True:=trivial
theorem tw1233152293792871061:True:=trivial
theorem tw8345119759257010282:True:=trivial
theorem tw5201047297009803184:True:=trivial
theorem tw16163181848973101785:True:=trivial
theorem tw8935877397845509081:True:=trivial
theorem tw7602154308404491889:True:=trivial
theorem tw17511925201852474826:True:=trivial
theorem tw9526320149854138539:True:=trivial
theorem tw14889048835133216293:True:=trivial
theorem tw142416580953855398:True:=trivial
theorem tw6704152243598510289:True:=trivial
theorem tw16361005946670832596:True:=trivial
theorem tw8200074347632051319:True:=trivial
theorem tw3518808047592376083:True:=trivial
theorem tw5391460425381871920:True:=trivial
theorem tw7209604905263199626:True:=trivial
theorem tw3239141807949156519:True:=trivial
theorem tw11863830524422066323:True:=trivial
theorem tw10818749860766575496:True:=trivial
theorem tw4730365963982571284:True:=trivial
theorem tw413128964378231010:True:=trivial
theorem tw3377734147335115537:True:=trivial
theorem tw8420033685367910488:True:=trivial
theorem tw15844305812624009517:True:=trivial
theorem tw17776953817260856326:True:=trivial
theorem tw11057522700754620994:True:=trivial
theorem tw18101749731486100058:True:=trivial
theorem tw2305275015530738314:True:=trivial
theorem tw13302368048300366734:True:=trivial
theorem tw18434993210184212908:True:=trivial
theorem tw13684306706732889526:True:=trivial
theorem tw15069479499511016054:True:=trivial
theorem tw3185089964944817867:True:=trivial
theorem tw3939804066994000901:True:=trivial
theorem tw15884982273559240037:True:=trivial
theorem tw11283448001297645937:True:=trivial
theorem tw5592309232444104448:True:=trivial
theorem tw16994208214054122513:True:=trivial
theorem tw11083981483858983969:True:=trivial
theorem tw11322329454647539724:True:=trivial
theorem tw8279810132606843390:True:=trivial
theorem tw12238788466482445661:True:=trivial
theorem tw8084750798946147414:True:=trivial
theorem tw16526667669858657958:True:=trivial
theorem tw11110838538929113025:True:=trivial
theorem tw17694845915118505758:True:=trivial
theorem tw2282243988748675594:True:=trivial
theorem tw6690262864339501795:True:=trivial
theorem tw5786775095886745084:True:=trivial
theorem tw5287476846572479211:True:=trivial
theorem tw6791415663542090769:True:=trivial
theorem tw4098671322942625671:True:=trivial
theorem tw988553915268120507:True:=trivial
theorem tw1547230287262083949:True:=trivial
theorem tw16236577983752145903:True:=trivial
theorem tw7271475607754587768:True:=trivial
theorem tw8627990881397180340:True:=trivial
theorem tw4043600678136122397:True:=trivial
theorem tw9035709841264020731:True:=trivial
theorem tw10197248772379548305:True:=trivial
theorem tw7545438807573730336:True:=trivial
theorem tw8142784193189397867:True:=trivial
theorem tw11471649059447874835:True:=trivial
theorem tw5583633622464206340:True:=trivial
theorem tw3247482508143946933:True:=trivial
theorem tw6041170339492047095:True:=trivial
theorem tw11528361130516086300:True:=trivial
theorem tw16172776563774859628:True:=trivial
theorem tw10239988657949127827:True:=trivial
theorem tw17536782876309887233:True:=trivial
theorem tw2267899413465361186:True:=trivial
theorem tw16975749034310102855:True:=trivial
theorem tw12184845351128814970:True:=trivial
theorem tw12516269814372513195:True:=trivial
theorem tw16059404769900423001:True:=trivial
theorem tw10725521571786456611:True:=trivial
theorem tw7989864857064059089:True:=trivial
theorem tw17728440341660121823:True:=trivial
theorem tw13652150104335786463:True:=trivial
theorem tw5574085316873955069:True:=trivial
theorem tw15061389804947405681:True:=trivial
theorem tw9702692505202758566:True:=trivial
theorem tw15785257699481293665:True:=trivial
theorem tw8501398980486703017:True:=trivial
theorem tw17901674434117870131:True:=trivial
theorem tw13909459718356120174:True:=trivial
theorem tw4192623086214578950:True:=trivial
theorem tw3479195492342133945:True:=trivial
theorem tw10564091938959302507:True:=trivial
theorem tw15673058549360627564:True:=trivial
theorem tw18112228292658504183:True:=trivial
theorem tw16443696809333999089:True:=trivial
theorem tw16195411619105268968:True:=trivial
theorem tw17292111776354982680:True:=trivial
theorem tw15787727141923463875:True:=trivial
theorem tw4129391989653338808:True:=trivial
theorem tw17055985380872283002:True:=trivial
theorem tw14152697122596525612:True:=trivial
theorem tw875937967183512720:True:=trivial
theorem tw17615473546768278269:True:=trivial
theorem tw7289766909777241711:True:=trivial
theorem tw13079732217666174202:True:=trivial
theorem tw10725374096277881807:True:=trivial
theorem tw17689038336235295720:True:=trivial
theorem tw5664411080001964946:True:=trivial
theorem tw6033160500345138791:True:=trivial
theorem tw14375891116614878842:True:=trivial
theorem tw13149436438015441910:True:=trivial
theorem tw8178287378775670548:True:=trivial
theorem tw10573377977978162426:True:=trivial
theorem tw566983412196827482:True:=trivial
theorem tw2862587804284218497:True:=trivial
theorem tw2471858548164602545:True:=trivial
theorem tw8229153403193059784:True:=trivial
theorem tw7229757126096724921:True:=trivial
theorem tw13700472145181306078:True:=trivial
theorem tw13189532024267311337:True:=trivial
theorem tw9181654779407736574:True:=trivial
theorem tw5498514597432850977:True:=trivial
theorem tw13296776802946293753:True:=trivial
theorem tw14230834118314815718:True:=trivial
theorem tw7278029728058783371:True:=trivial
theorem tw4310316802215563248:True:=trivial
theorem tw14542012530078844352:True:=trivial
theorem tw5372576697313294765:True:=trivial
theorem tw5135179024559560571:True:=trivial
theorem tw13614081276929181453:True:=trivial
theorem tw4551725753301779224:True:=trivial
theorem tw10458407262535614831:True:=trivial
theorem tw11374033367055667214:True:=trivial
theorem tw2109195655500610826:True:=trivial
theorem tw8766219204001549859:True:=trivial
theorem tw4954845594423956600:True:=trivial
theorem tw17031623515901955276:True:=trivial
theorem tw6116022218686838997:True:=trivial
theorem tw17909121814535525928:True:=trivial
theorem tw9168600354065323913:True:=trivial
theorem tw15636009055173620534:True:=trivial
theorem tw10131868631377031548:True:=trivial
theorem tw16710980438894320505:True:=trivial
theorem tw496096813873402287:True:=trivial
theorem tw7902992818339645464:True:=trivial
theorem tw18168883636570930422:True:=trivial
theorem tw14484913434704159936:True:=trivial
theorem tw15425465126274458774:True:=trivial
theorem tw14751272915758624671:True:=trivial
theorem tw9874541762548466060:True:=trivial
theorem tw11111712146106545025:True:=trivial
theorem tw9792840297610521302:True:=trivial
theorem tw13840253681459263906:True:=trivial
theorem tw17433248547825774685:True:=trivial
theorem tw3544000432561509816:True:=trivial
theorem tw5591265805570601225:True:=trivial
theorem tw7513151733273297899:True:=trivial
theorem tw14215583318088812495:True:=trivial
theorem tw4235220551352413249:True:=trivial
theorem tw8888233582167099291:True:=trivial
theorem tw9918943969241599579:True:=trivial
theorem tw2579745548033955777:True:=trivial
theorem tw7139801270808605707:True:=trivial
theorem tw5255972913692774119:True:=trivial
theorem tw15325023617347686951:True:=trivial
theorem tw7487395405555025535:True:=trivial
theorem tw4038938032380649353:True:=trivial
theorem tw556142497379238099:True:=trivial
theorem tw9103879661850725440:True:=trivial
theorem tw6822157473164165670:True:=trivial
theorem tw5976825026345400586:True:=trivial
theorem tw14913735413570671584:True:=trivial
theorem tw10779302720463709708:True:=trivial
theorem tw2156078901979305034:True:=trivial
theorem tw459737725555444447:True:=trivial
theorem tw9968444537688954221:True:=trivial
theorem tw9877009646720193846:True:=trivial
theorem tw12117637041350251463:True:=trivial
theorem tw712827515712422511:True:=trivial
theorem tw14666112959117560527:True:=trivial
theorem tw953073663863031148:True:=trivial
theorem tw10051692774270559353:True:=trivial
theorem tw4523696342045512228:True:=trivial
theorem tw236642908534827464:True:=trivial
theorem tw14912775925900212722:True:=trivial
theorem tw8695369661149932850:True:=trivial
theorem tw10374522957067839832:True:=trivial
theorem tw13080586802979503480:True:=trivial
theorem tw569589974167715320:True:=trivial
theorem tw15437806188262620553:True:=trivial
theorem tw17175568545669129635:True:=trivial
theorem tw4127240982849876030:True:=trivial
theorem tw13965268630840651000:True:=trivial
theorem tw15112320999197558284:True:=trivial
theorem tw8633653680103739664:True:=trivial
theorem tw12309697144551604097:True:=trivial
theorem tw16439354016566879776:True:=trivial
theorem tw1869808528684348428:True:=trivial
theorem tw10262244819965543628:True:=trivial
theorem tw7989703806918594885:True:=trivial
theorem tw3328010514721269146:True:=trivial
theorem tw3946305995485249355:True:=trivial
theorem tw16068192599764269418:True:=trivial
theorem tw5082342372508001951:True:=trivial
theorem tw13840789999542838687:True:=trivial
theorem tw3213655598427090909:True:=trivial
theorem tw12345359815915382177:True:=trivial
theorem tw4866996083237556601:True:=trivial
theorem tw15427405850039215524:True:=trivial
theorem tw8809347126584018372:True:=trivial
theorem tw8858981338186412903:True:=trivial
theorem tw12699366784404499568:True:=trivial
theorem tw1565752728803053328:True:=trivial
theorem tw5253827742461333170:True:=trivial
theorem tw11632140045640812813:True:=trivial
theorem tw4238180303971062575:True:=trivial
theorem tw8879124713378727344:True:=trivial
theorem tw2313050023870132480:True:=trivial
theorem tw14680689610224453756:True:=trivial
theorem tw15316125693491860815:True:=trivial
theorem tw3141316496947589460:True:=trivial
theorem tw5591252858135613054:True:=trivial
theorem tw18113024290646977309:True:=trivial
theorem tw12448607654860924388:True:=trivial
theorem tw16423112796002341637:True:=trivial
theorem tw12692636305959951396:True:=trivial
theorem tw5510299120204178983:True:=trivial
theorem tw13733166668491301217:True:=trivial
theorem tw18109373526540613531:True:=trivial
theorem tw13908765558251221461:True:=trivial
theorem tw13386429802102804824:True:=trivial
theorem tw1653940911482247079:True:=trivial
theorem tw3354835691941528400:True:=trivial
theorem tw6930877427580720330:True:=trivial
theorem tw13592868035638562626:True:=trivial
theorem tw14833109118913591785:True:=trivial
theorem tw16097020058974220881:True:=trivial
theorem tw65262414905350537:True:=trivial
theorem tw3722527790569590608:True:=trivial
theorem tw14306974660105818314:True:=trivial
theorem tw9057334138480796733:True:=trivial
theorem tw9627845999464582123:True:=trivial
theorem tw6080200876189564464:True:=trivial
theorem tw9842064371219732186:True:=trivial
theorem tw2438119010164962616:True:=trivial
theorem tw7653153685224952564:True:=trivial
theorem tw3928540300965888742:True:=trivial
theorem tw11133849447004673336:True:=trivial
theorem tw15217232777488136904:True:=trivial
theorem tw12398876634532717304:True:=trivial
theorem tw7799971192425108057:True:=trivial
theorem tw13520824179510746873:True:=trivial
theorem tw11077218462591954481:True:=trivial
theorem tw8303497285253595581:True:=trivial
theorem tw10875647922933063221:True:=trivial
theorem tw10117010602208150630:True:=trivial
theorem tw5734846992248978625:True:=trivial
theorem tw4942309706508747725:True:=trivial
theorem tw15341701010854200956:True:=trivial
theorem tw9010088070988287742:True:=trivial
theorem tw13774614343347828561:True:=trivial
theorem tw13907838285487619646:True:=trivial
theorem tw15408148477067423529:True:=trivial
theorem tw3597166853146645610:True:=trivial
theorem tw9647412934214667577:True:=trivial
theorem tw6479793440519424705:True:=trivial
theorem tw2854349220377901646:True:=trivial
end PySem.W.Fast
open PySem PySem.W PyProof.Rows
set_option maxRecDepth 100000 in
set_option maxHeartbeats 0 in
theorem PySem.Challenge.cw_offerhouse_k33_leaves_as_forms_holds : PySem.Challenge.rw_offerhouse_k33_leaves_as_forms.Holds := by
  w_on; o_law; k_head; (case hw => w_witness2)
  k_fill
  refine DL.rg (l := PySem.Challenge.rw_offerhouse_k33_leaves_as_forms) (k := 8) ⟨rfl, by decide, by decide⟩ rfl rfl (ts := []) (fun w h Y => ⟨PySem.W.kIn_of Y, fun _ z => nomatch z⟩) (fun w => by kernel_rfl) ?F
  case F =>
    intro w mg fa h KX G AY
    refine' My.all_mk KX G AY ?i1 ?i2 ?i3 ?i4 ?i5 ?i6 ?i7 ?i8 ?i9 ?i10 ?i11 ?i12 ?i13 ?i14 ?i15 ?i16 ?i17 ?i18 ?i19 ?i20 ?i21 ?ztuple ?zlen ?zrange ?zlist ?zsum ?zmin ?zint ?zsorted ?zset ?zisinstance ?zbool ?zmax ?zMOST_STRETCHES ?a_Each ?a_Flat ?a_Bands ?a_Steps ?a_Blocks ?a_Named ?a_Rule ?p1_Each ?p2_Each ?p3_Each ?p4_Each ?q1_Each ?q2_Each ?q4_Each ?n_Each_name ?n_Each_unit ?n_Each_low ?n_Each_high ?n_Each_price ?n_Each_rows ?n_Each_size ?n_Each_many ?h_Each_parts ?h_Each_all_names ?h_Each_names ?h_Each_form_here ?h_Each_form_up_to ?h_Each_form ?p1_Flat ?p2_Flat ?p3_Flat ?p4_Flat ?q1_Flat ?q2_Flat ?q4_Flat ?n_Flat_name ?n_Flat_unit ?n_Flat_low ?n_Flat_high ?n_Flat_price ?n_Flat_rows ?n_Flat_size ?n_Flat_many ?h_Flat_parts ?h_Flat_all_names ?h_Flat_names ?h_Flat_form_here ?h_Flat_form_up_to ?h_Flat_form ?p1_Bands ?p2_Bands ?p3_Bands ?p4_Bands ?q1_Bands ?q2_Bands ?q4_Bands ?n_Bands_name ?n_Bands_unit ?n_Bands_low ?n_Bands_high ?n_Bands_price ?n_Bands_rows ?n_Bands_size ?n_Bands_many ?h_Bands_parts ?h_Bands_all_names ?h_Bands_names ?h_Bands_form_here ?h_Bands_form_up_to ?h_Bands_form ?p1_Steps ?p2_Steps ?p3_Steps ?p4_Steps ?q1_Steps ?q2_Steps ?q4_Steps ?n_Steps_name ?n_Steps_unit ?n_Steps_low ?n_Steps_high ?n_Steps_price ?n_Steps_rows ?n_Steps_size ?n_Steps_many ?h_Steps_parts ?h_Steps_all_names ?h_Steps_names ?h_Steps_form_here ?h_Steps_form_up_to ?h_Steps_form ?p1_Blocks ?p2_Blocks ?p3_Blocks ?p4_Blocks ?q1_Blocks ?q2_Blocks ?q4_Blocks ?n_Blocks_name ?n_Blocks_unit ?n_Blocks_low ?n_Blocks_high ?n_Blocks_price ?n_Blocks_rows ?n_Blocks_size ?n_Blocks_many ?h_Blocks_parts ?h_Blocks_all_names ?h_Blocks_names ?h_Blocks_form_here ?h_Blocks_form_up_to ?h_Blocks_form ?p1_Named ?p2_Named ?p3_Named ?p4_Named ?q1_Named ?q2_Named ?q4_Named ?n_Named_name ?n_Named_unit ?n_Named_low ?n_Named_high ?n_Named_price ?n_Named_rows ?n_Named_size ?n_Named_many ?h_Named_parts ?h_Named_all_names ?h_Named_names ?h_Named_form_here ?h_Named_form_up_to ?h_Named_form ?f_Rule_parts ?i_Rule_parts ?f_Rule_all_names ?i_Rule_all_names ?f_Named_all_names ?i_Named_all_names ?f_Rule_names ?i_Rule_names ?f_Each_form_here ?i_Each_form_here ?f_Flat_form_here ?i_Flat_form_here ?f_Bands_form_here ?i_Bands_form_here ?f_Steps_form_here ?i_Steps_form_here ?f_Blocks_form_here ?i_Blocks_form_here ?f_Named_form_here ?i_Named_form_here ?f_Rule_form_up_to ?i_Rule_form_up_to ?f_Rule_form ?i_Rule_form ?f_Named_Xinit__ ?i_Named_Xinit__ ?f_Blocks_Xinit__ ?i_Blocks_Xinit__ ?f_Rows_Xinit__ ?i_Rows_Xinit__ ?f_Flat_Xinit__ ?i_Flat_Xinit__ ?f_Each_Xinit__ ?i_Each_Xinit__ ?g4o ?g5o ?s1_Each ?s4_Each ?j_Each_Rule ?s1_Flat ?s4_Flat ?j_Flat_Rule ?s1_Bands ?s4_Bands ?j_Bands_Rule ?s1_Steps ?s4_Steps ?j_Steps_Rule ?s1_Blocks ?s4_Blocks ?j_Blocks_Rule ?s1_Named ?s4_Named ?j_Named_Rule ?fin
    (case i1 => constructor <;> k_is)
    (case i2 => constructor <;> k_is)
    (case i3 => constructor <;> k_is)
    (case i4 => constructor <;> k_is)
    (case i5 => constructor <;> k_is)
    (case i6 => constructor <;> k_is)
    (case i7 => constructor <;> k_is)
    (case i8 => constructor <;> k_is)
    (case i9 => constructor <;> k_is)
    (case i10 => constructor <;> k_is)
    (case i11 => constructor <;> k_is)
    (case i12 => constructor <;> k_is)
    (case i13 => constructor <;> k_is)
    (case i14 => constructor <;> k_is)
    (case i15 => constructor <;> k_is)
    (case i16 => constructor <;> k_is)
    (case i17 => constructor <;> k_is)
    (case i18 => constructor <;> k_is)
    (case i19 => constructor <;> k_is)
    (case i20 => constructor <;> k_is)
    (case i21 => constructor <;> k_is)
    (case ztuple => k_is)
    (case zlen => k_is)
    (case zrange => k_is)
    (case zlist => k_is)
    (case zsum => k_is)
    (case zmin => k_is)
    (case zint => k_is)
    (case zsorted => k_is)
    (case zset => k_is)
    (case zisinstance => k_is)
    (case zbool => k_is)
    (case zmax => k_is)
    (case zMOST_STRETCHES => exact ⟨_, by k_is⟩)
    (case a_Each => k_is)
    (case a_Flat => k_is)
    (case a_Bands => k_is)
    (case a_Steps => k_is)
    (case a_Blocks => k_is)
    (case a_Named => k_is)
    (case a_Rule => k_is)
    (case p1_Each => k_is)
    (case p2_Each => k_is)
    (case p3_Each => k_is)
    (case p4_Each => k_is)
    (case q1_Each => k_is)
    (case q2_Each => k_is)
    (case q4_Each => k_is)
    (case n_Each_name => k_is)
    (case n_Each_unit => k_is)
    (case n_Each_low => k_is)
    (case n_Each_high => k_is)
    (case n_Each_price => k_is)
    (case n_Each_rows => k_is)
    (case n_Each_size => k_is)
    (case n_Each_many => k_is)
    (case h_Each_parts => k_is)
    (case h_Each_all_names => k_is)
    (case h_Each_names => k_is)
    (case h_Each_form_here => k_is)
    (case h_Each_form_up_to => k_is)
    (case h_Each_form => k_is)
    (case p1_Flat => k_is)
    (case p2_Flat => k_is)
    (case p3_Flat => k_is)
    (case p4_Flat => k_is)
    (case q1_Flat => k_is)
    (case q2_Flat => k_is)
    (case q4_Flat => k_is)
    (case n_Flat_name => k_is)
    (case n_Flat_unit => k_is)
    (case n_Flat_low => k_is)
    (case n_Flat_high => k_is)
    (case n_Flat_price => k_is)
    (case n_Flat_rows => k_is)
    (case n_Flat_size => k_is)
    (case n_Flat_many => k_is)
    (case h_Flat_parts => k_is)
    (case h_Flat_all_names => k_is)
    (case h_Flat_names => k_is)
    (case h_Flat_form_here => k_is)
    (case h_Flat_form_up_to => k_is)
    (case h_Flat_form => k_is)
    (case p1_Bands => k_is)
    (case p2_Bands => k_is)
    (case p3_Bands => k_is)
    (case p4_Bands => k_is)
    (case q1_Bands => k_is)
    (case q2_Bands => k_is)
    (case q4_Bands => k_is)
    (case n_Bands_name => k_is)
    (case n_Bands_unit => k_is)
    (case n_Bands_low => k_is)
    (case n_Bands_high => k_is)
    (case n_Bands_price => k_is)
    (case n_Bands_rows => k_is)
    (case n_Bands_size => k_is)
    (case n_Bands_many => k_is)
    (case h_Bands_parts => k_is)
    (case h_Bands_all_names => k_is)
    (case h_Bands_names => k_is)
    (case h_Bands_form_here => k_is)
    (case h_Bands_form_up_to => k_is)
    (case h_Bands_form => k_is)
    (case p1_Steps => k_is)
    (case p2_Steps => k_is)
    (case p3_Steps => k_is)
    (case p4_Steps => k_is)
    (case q1_Steps => k_is)
    (case q2_Steps => k_is)
    (case q4_Steps => k_is)
    (case n_Steps_name => k_is)
    (case n_Steps_unit => k_is)
    (case n_Steps_low => k_is)
    (case n_Steps_high => k_is)
    (case n_Steps_price => k_is)
    (case n_Steps_rows => k_is)
    (case n_Steps_size => k_is)
    (case n_Steps_many => k_is)
    (case h_Steps_parts => k_is)
    (case h_Steps_all_names => k_is)
    (case h_Steps_names => k_is)
    (case h_Steps_form_here => k_is)
    (case h_Steps_form_up_to => k_is)
    (case h_Steps_form => k_is)
    (case p1_Blocks => k_is)
    (case p2_Blocks => k_is)
    (case p3_Blocks => k_is)
    (case p4_Blocks => k_is)
    (case q1_Blocks => k_is)
    (case q2_Blocks => k_is)
    (case q4_Blocks => k_is)
    (case n_Blocks_name => k_is)
    (case n_Blocks_unit => k_is)
    (case n_Blocks_low => k_is)
    (case n_Blocks_high => k_is)
    (case n_Blocks_price => k_is)
    (case n_Blocks_rows => k_is)
    (case n_Blocks_size => k_is)
    (case n_Blocks_many => k_is)
    (case h_Blocks_parts => k_is)
    (case h_Blocks_all_names => k_is)
    (case h_Blocks_names => k_is)
    (case h_Blocks_form_here => k_is)
    (case h_Blocks_form_up_to => k_is)
    (case h_Blocks_form => k_is)
    (case p1_Named => k_is)
    (case p2_Named => k_is)
    (case p3_Named => k_is)
    (case p4_Named => k_is)
    (case q1_Named => k_is)
    (case q2_Named => k_is)
    (case q4_Named => k_is)
    (case n_Named_name => k_is)
    (case n_Named_unit => k_is)
    (case n_Named_low => k_is)
    (case n_Named_high => k_is)
    (case n_Named_price => k_is)
    (case n_Named_rows => k_is)
    (case n_Named_size => k_is)
    (case n_Named_many => k_is)
    (case h_Named_parts => k_is)
    (case h_Named_all_names => k_is)
    (case h_Named_names => k_is)
    (case h_Named_form_here => k_is)
    (case h_Named_form_up_to => k_is)
    (case h_Named_form => k_is)
    (case f_Rule_parts => k_is)
    (case i_Rule_parts => constructor <;> k_is)
    (case f_Rule_all_names => k_is)
    (case i_Rule_all_names => constructor <;> k_is)
    (case f_Named_all_names => k_is)
    (case i_Named_all_names => constructor <;> k_is)
    (case f_Rule_names => k_is)
    (case i_Rule_names => constructor <;> k_is)
    (case f_Each_form_here => k_is)
    (case i_Each_form_here => constructor <;> k_is)
    (case f_Flat_form_here => k_is)
    (case i_Flat_form_here => constructor <;> k_is)
    (case f_Bands_form_here => k_is)
    (case i_Bands_form_here => constructor <;> k_is)
    (case f_Steps_form_here => k_is)
    (case i_Steps_form_here => constructor <;> k_is)
    (case f_Blocks_form_here => k_is)
    (case i_Blocks_form_here => constructor <;> k_is)
    (case f_Named_form_here => k_is)
    (case i_Named_form_here => constructor <;> k_is)
    (case f_Rule_form_up_to => k_is)
    (case i_Rule_form_up_to => constructor <;> k_is)
    (case f_Rule_form => k_is)
    (case i_Rule_form => constructor <;> k_is)
    (case f_Named_Xinit__ => k_is)
    (case i_Named_Xinit__ => constructor <;> k_is)
    (case f_Blocks_Xinit__ => k_is)
    (case i_Blocks_Xinit__ => constructor <;> k_is)
    (case f_Rows_Xinit__ => k_is)
    (case i_Rows_Xinit__ => constructor <;> k_is)
    (case f_Flat_Xinit__ => k_is)
    (case i_Flat_Xinit__ => constructor <;> k_is)
    (case f_Each_Xinit__ => k_is)
    (case i_Each_Xinit__ => constructor <;> k_is)
    (case g4o => k_is)
    (case g5o => k_is)
    (case s1_Each => k_is)
    (case s4_Each => k_is)
    (case j_Each_Rule => kernel_rfl)
    (case s1_Flat => k_is)
    (case s4_Flat => k_is)
    (case j_Flat_Rule => kernel_rfl)
    (case s1_Bands => k_is)
    (case s4_Bands => k_is)
    (case j_Bands_Rule => kernel_rfl)
    (case s1_Steps => k_is)
    (case s4_Steps => k_is)
    (case j_Steps_Rule => kernel_rfl)
    (case s1_Blocks => k_is)
    (case s4_Blocks => k_is)
    (case j_Blocks_Rule => kernel_rfl)
    (case s1_Named => k_is)
    (case s4_Named => k_is)
    (case j_Named_Rule => kernel_rfl)
    (case fin => exact My.fin)
