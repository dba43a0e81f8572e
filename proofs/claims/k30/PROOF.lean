import PyProof.Rows.All
import Wide.All
import OpenK.AllK
import Wide.FinOn
import Lean
import PyProof.EqAt
import PyProof.EqKinds
import PyProof.TupleCall
import PySem.Challenge.RW_offerhouse_k30_whole_rows_of_deeds
set_option Elab.async false
set_option linter.all false
set_option synthInstance.maxSize 10000
set_option synthInstance.maxHeartbeats 60000
namespace QA
inductive E | v (i:Nat) | k (n:Nat) | i (z:Int) | u (b:Bool) (x y:E) | a (x y:E) | s (x y:E) | n (x:E) | m (s:Bool) (n:Nat) (z:Int) (x:E) | c (x:E)
inductive F | le (d t:Bool) (x y:E) | eq (t:Bool) (x y:E) | ff | no (f:F) | an (f g:F) | or (f g:F) | im (f g:F) | io (f g:F)
structure C where
  i:List Int
  n:List Nat
noncomputable def gi:List Int->Nat->Int
  | [],_=>0
  | x::_,0=>x
  | _::l,i+1=>gi l i
noncomputable def gn:List Nat->Nat->Nat
  | [],_=>0
  | x::_,0=>x
  | _::l,i+1=>gn l i
noncomputable def den (c:C):E->Nat × Int
  | .v i=>(gn c.n i,gi c.i i)
  | .k n=>(n,0)
  | .i z=>(0,z)
  | .u b x y=>(cond b (max (den c x).1 (den c y).1) (min (den c x).1 (den c y).1),cond b (max (den c x).2 (den c y).2) (min (den c x).2 (den c y).2))
  | .a x y=>((den c x).1+(den c y).1,(den c x).2+(den c y).2)
  | .s x y=>((den c x).1 - (den c y).1,(den c x).2 - (den c y).2)
  | .n x=>(0,- (den c x).2)
  | .m s n z x=>(cond s (n * (den c x).1) ((den c x).1 * n),cond s (z * (den c x).2) ((den c x).2 * z))
  | .c x=>((den c x).2.toNat,((den c x).1:Int))
noncomputable def dF (c:C):F->Prop
  | .le d t x y=>cond d (cond t ((den c x).1 < (den c y).1) ((den c x).2 < (den c y).2)) (cond t ((den c x).1<=(den c y).1) ((den c x).2<=(den c y).2))
  | .eq t x y=>cond t ((den c x).1=(den c y).1) ((den c x).2=(den c y).2)
  | .ff=>False
  | .no f=>¬ dF c f
  | .an f g=>dF c f/\dF c g
  | .or f g=>dF c f ∨ dF c g
  | .im f g=>dF c f->dF c g
  | .io f g=>(dF c f ↔ dF c g)
noncomputable def ev (r:Nat->Int):List Int->Int
  | []=>0
  | c::l=>c * r 0+ev (λi=>r (i+1)) l
noncomputable def ad:List Int->List Int->List Int
  | [],m=>m
  | x::l,[]=>x::l
  | x::l,y::m=>Int.add x y::ad l m
noncomputable def sc (k:Int):List Int->List Int
  | []=>[]
  | x::l=>Int.mul k x::sc k l
theorem ev_ad:∀ (l m:List Int) (r:Nat->Int),ev r (ad l m)=ev r l+ev r m
  | [],m,r=>(Int.zero_add _).symm
  | x::l,[],r=>(Int.add_zero _).symm
  | x::l,y::m,r=>by
    show (x+y) * r 0+ev _ (ad l m)=(x * r 0+ev _ l)+(y * r 0+ev _ m)
    rw [ev_ad l m,Int.add_mul];omega
theorem ev_sc (k:Int):∀ (l:List Int) (r:Nat->Int),ev r (sc k l)=k * ev r l
  | [],r=>(Int.mul_zero k).symm
  | x::l,r=>by
    show k * x * r 0+ev _ (sc k l)=k * (x * r 0+ev _ l)
    rw [ev_sc k l,Int.mul_add,Int.mul_assoc]
noncomputable def zz:List Int->List Int
  | []=>[]
  | k::l=>k::0::0::l
noncomputable def ui:Nat->List Int
  | 0=>[0,1]
  | i+1=>zz (ui i)
noncomputable def un:Nat->List Int
  | 0=>[0,0,1]
  | i+1=>zz (un i)
noncomputable def rr (c:C):Nat->Nat->Int
  | j,0=>gi c.i j
  | j,1=>(gn c.n j:Int)
  | j,i+2=>rr c (j+1) i
noncomputable def rho (c:C) (j:Nat):Nat->Int
  | 0=>1
  | i+1=>rr c j i
theorem ev_zz {c:C} {j:Nat}:∀ l,ev (rho c j) (zz l)=ev (rho c (j+1)) l
  | []=>rfl
  | k::l=>by
    show k * 1+(0 * _+(0 * _+ev _ l))=k * 1+ev _ l
    rw [Int.zero_mul,Int.zero_mul,Int.zero_add,Int.zero_add];rfl
theorem ev_ui {c:C}:∀ (i j:Nat),ev (rho c j) (ui i)=gi c.i (j+i)
  | 0,j=>by show 0 * _+(1 * gi c.i j+0)=gi c.i j;omega
  | i+1,j=>by show ev _ (zz _)=_;rw [ev_zz,ev_ui i];congr 1;omega
theorem ev_un {c:C}:∀ (i j:Nat),ev (rho c j) (un i)=(gn c.n (j+i):Int)
  | 0,j=>by show 0 * _+(0 * _+(1 * (gn c.n j:Int)+0))=(gn c.n j:Int);omega
  | i+1,j=>by show ev _ (zz _)=_;rw [ev_zz,ev_un i];congr 2;omega
noncomputable def ge (k:Int) (x y:List Int):List Int:=ad [k] (ad y (sc (-1) x))
theorem ev_ge {c:C} {k:Int} {x y:List Int}:ev (rho c 0) (ge k x y)=k+ev (rho c 0) y - ev (rho c 0) x:=by
  unfold ge;rw [ev_ad,ev_ad,ev_sc];show k * 1+0+_=_;omega
noncomputable def Al (r:Nat->Int) (l:List (List Int)):Prop:=∀ x∈l,0<=ev r x
theorem al_c {r:Nat->Int} {x:List Int} {l:List (List Int)} (h:0<=ev r x) (hl:Al r l):Al r (x::l):=List.forall_mem_cons.mpr ⟨h,hl⟩
theorem al_n {r:Nat->Int}:Al r []:=λ_ h=>nomatch h
theorem al_a {r:Nat->Int} {l m:List (List Int)} (h:Al r l) (hl:Al r m):Al r (l++m):=λx hx=>(List.mem_append.mp hx).elim (h x) (hl x)
noncomputable abbrev A:=List Int × List (List Int)
noncomputable def G (c:C) (P:List A) (v:Int):Prop:=∃ q∈P,ev (rho c 0) q.1=v/\Al (rho c 0) q.2
noncomputable def cp (P Q:List A) (f:List Int->List Int->List A):List A:=P.flatMap λp=>Q.flatMap λq=>(f p.1 q.1).map λr=>(r.1,r.2++(p.2++q.2))
theorem cp_ok {c:C} {P Q:List A} {f:List Int->List Int->List A} {x y v:Int} (hx:G c P x) (hy:G c Q y) (hf:∀ l m,ev (rho c 0) l=x->ev (rho c 0) m=y->G c (f l m) v):G c (cp P Q f) v:=by
  obtain ⟨p,p1,p2,p3⟩:=hx;obtain ⟨q,q1,q2,q3⟩:=hy;obtain ⟨r,r1,r2,r3⟩:=hf _ _ p2 q2
  exact ⟨_,List.mem_flatMap.mpr ⟨p,p1,List.mem_flatMap.mpr ⟨q,q1,List.mem_map.mpr ⟨r,r1,rfl⟩⟩⟩,r2,al_a r3 (al_a p3 q3)⟩
noncomputable def e0:List A:=[([],[])]
noncomputable def li:E->Bool->List A
  | .v i,t=>[(cond t (un i) (ui i),[])]
  | .k n,t=>[(cond t [(n:Int)] [],[])]
  | .i z,t=>[(cond t [] [z],[])]
  | .u b x y,t=>cp (li x t) (li y t) λl m=>[(cond b l m,[ge 0 m l]),(cond b m l,[ge 0 l m])]
  | .a x y,t=>cp (li x t) (li y t) λl m=>[(ad l m,[])]
  | .s x y,t=>cp (li x t) (li y t) λl m=>(ge 0 m l,cond t [ge 0 m l] [])::cond t [([],[ge 0 l m])] []
  | .n x,t=>cp (li x t) e0 λl _=>[(cond t [] (sc (-1) l),[])]
  | .m _ n z x,t=>cp (li x t) e0 λl _=>[(sc (cond t (n:Int) z) l,[])]
  | .c x,t=>cp (li x (!t)) e0 λl _=>(l,cond t [l] [])::cond t [([],[ge 0 l []])] []
noncomputable def va (c:C) (t:Bool) (e:E):Int:=cond t ((den c e).1:Int) (den c e).2
theorem g1 {c:C} {l:List Int} {v:Int} {L:List A} {k:List (List Int)} (h:ev (rho c 0) l=v) (hk:Al (rho c 0) k):G c ((l,k)::L) v:=⟨_,List.mem_cons_self ..,h,hk⟩
theorem g2 {c:C} {q:A} {v:Int} {L:List A} (h:G c L v):G c (q::L) v:=h.elim λx hx=>⟨x,List.mem_cons_of_mem _ hx.1,hx.2⟩
theorem ge_1 {c:C} {l m:List Int} {x y:Int} (hx:ev (rho c 0) l=x) (hy:ev (rho c 0) m=y) (h:y<=x):Al (rho c 0) [ge 0 m l]:=al_c (by rw [ev_ge];omega) al_n
theorem li_ok {c:C} (e:E):∀ (t:Bool),G c (li e t) (va c t e):=by
  have z0:G c e0 0:=g1 rfl al_n
  have k1:∀ k,ev (rho c 0) [k]=k:=λk=>by show k * 1+0=k;omega
  induction e with
  | v i=>intro t;cases t <;> exact g1 ((by first | exact ev_ui i 0 | exact ev_un i 0:ev _ _=_).trans (by rw [Nat.zero_add];rfl)) al_n
  | k n=>intro t;cases t;exact g1 rfl al_n;exact g1 (k1 _) al_n
  | i z=>intro t;cases t;exact g1 (k1 _) al_n;exact g1 rfl al_n
  | u b x y hx hy =>
    intro t;refine cp_ok (hx t) (hy t) λl m e1 e2=>?_
    rcases Int.le_total (va c t y) (va c t x) with h | h
    · refine g1 ?_ (ge_1 e1 e2 h)
      cases t <;> cases b <;> (show ev _ _=_;simp only [cond_true,cond_false];first | rw [e1] | rw [e2]) <;> (simp only [va,den,cond_true,cond_false] at *;omega)
    · refine g2 (g1 ?_ (ge_1 e2 e1 h))
      cases t <;> cases b <;> (show ev _ _=_;simp only [cond_true,cond_false];first | rw [e1] | rw [e2]) <;> (simp only [va,den,cond_true,cond_false] at *;omega)
  | a x y hx hy =>
    intro t;refine cp_ok (hx t) (hy t) λl m e1 e2=>g1 ?_ al_n
    rw [ev_ad,e1,e2];cases t <;> simp only [va,den,cond_true,cond_false];omega
  | s x y hx hy =>
    intro t;refine cp_ok (hx t) (hy t) λl m e1 e2=>?_
    cases t with
    | false=>exact g1 (by rw [ev_ge,e1,e2];simp only [va,den,cond_false];omega) al_n
    | true =>
      rcases Int.le_total (va c true y) (va c true x) with h | h
      · exact g1 (by rw [ev_ge,e1,e2];simp only [va,den,cond_true] at *;omega) (ge_1 e1 e2 h)
      · exact g2 (g1 (by show (0:Int)=_;simp only [va,den,cond_true] at *;omega) (ge_1 e2 e1 h))
  | n x hx =>
    intro t;refine cp_ok (hx t) z0 λl m e1 e2=>g1 ?_ al_n
    cases t with
    | false=>show ev _ (sc _ _)=_;rw [ev_sc,e1];simp only [va,den,cond_false];omega
    | true=>rfl
  | m s n z x hx =>
    intro t;refine cp_ok (hx t) z0 λl m e1 e2=>g1 ?_ al_n
    rw [ev_sc,e1];cases t <;> cases s <;> simp only [va,den,cond_true,cond_false,Int.natCast_mul,Int.mul_comm]
  | c x hx =>
    intro t;refine cp_ok (hx (!t)) z0 λl m e1 e2=>?_
    cases t with
    | false=>exact g1 e1 al_n
    | true =>
      rcases Int.le_total 0 (va c false x) with h | h
      · exact g1 (by rw [e1];simp only [va,den,cond_true,cond_false,Bool.not_true] at *;omega) (al_c (by rw [e1];exact h) al_n)
      · exact g2 (g1 (by show (0:Int)=_;simp only [va,den,cond_true,cond_false] at *;omega) (ge_1 rfl e1 h))
noncomputable def sg:Int->Ordering
  | .ofNat 0=>.eq
  | .ofNat _=>.gt
  | .negSucc _=>.lt
noncomputable abbrev B:=Int × Int × List Int
structure P3 where
  p:List B
  n:List B
  z:List (List Int)
noncomputable def p1 (k a:Int) (r:List Int) (q:P3):Ordering->P3
  | .eq=>⟨q.p,q.n,(k::r)::q.z⟩
  | .gt=>⟨(a,k,r)::q.p,q.n,q.z⟩
  | .lt=>⟨q.p,(Int.neg a,k,r)::q.n,q.z⟩
noncomputable def ex:Nat->List Int->Int × List Int
  | _,[]=>(0,[])
  | 0,a::l=>(a,l)
  | j+1,a::l=>((ex j l).1,a::(ex j l).2)
noncomputable def p2 (j:Nat) (q:P3):List Int->P3
  | []=>q
  | k::l=>p1 k (ex j l).1 (ex j l).2 q (sg (ex j l).1)
noncomputable def pt (j:Nat):List (List Int)->P3
  | []=>⟨[],[],[]⟩
  | x::l=>p2 j (pt j l) x
noncomputable def ct (q:P3):Bool:=Nat.ble (Nat.mul q.p.length q.n.length) (Nat.succ (Nat.add q.p.length q.n.length))
noncomputable def bs (l:List (List Int)):Nat->Nat->Nat
  | 0,_=>0
  | n+1,j=>cond (ct (pt j l)) j (bs l n (j+1))
noncomputable def gc:List Int->Nat
  | []=>0
  | x::l=>Nat.gcd x.natAbs (gc l)
noncomputable def dv (g:Int):List Int->List Int
  | []=>[]
  | x::l=>x / g::dv g l
noncomputable def t1 (k:Int) (l:List Int):Nat->List Int
  | 0=>[k]
  | 1=>k::l
  | g+2=>k / ((g+2:Nat):Int)::dv ((g+2:Nat):Int) l
noncomputable def tg:List Int->List Int
  | []=>[]
  | k::l=>t1 k l (gc l)
noncomputable def co (a b:B):List Int:=tg (ad (sc b.1 (a.2.1::a.2.2)) (sc a.1 (b.2.1::b.2.2)))
noncomputable def cr (n:List B) (z:List (List Int)) (p:List B):List (List Int):=(p.flatMap λa=>n.map λb=>co a b)++z
noncomputable def f1:List Int->Bool
  | [.negSucc _]=>true
  | _=>false
noncomputable def f0 (l:List (List Int)) (j:Nat) (f:List (List Int)->Bool):Bool:=f (cr (pt j l).n (pt j l).z (pt j l).p)
noncomputable def fm:Nat->List (List Int)->Bool
  | 0,l=>l.any f1
  | n+1,l=>l.any f1 || (Nat.ble l.length 300 && f0 l (bs l (n+1) 0) (fm n))
noncomputable def dr:Nat->(Nat->Int)->Nat->Int
  | 0,r,i=>r (i+1)
  | _+1,r,0=>r 0
  | j+1,r,i+1=>dr j (λi=>r (i+1)) i
theorem ex_ok:∀ (j:Nat) (l:List Int) (r:Nat->Int),ev r l=(ex j l).1 * r j+ev (dr j r) (ex j l).2
  | 0,[],r=>by show 0=0 * _+0;rw [Int.zero_mul];rfl
  | j+1,[],r=>by show 0=0 * _+0;rw [Int.zero_mul];rfl
  | 0,a::l,r=>rfl
  | j+1,a::l,r=>by
    show a * r 0+ev _ l=(ex j l).1 * r (j+1)+(a * r 0+ev (dr j λi=>r (i+1)) (ex j l).2)
    rw [ex_ok j l];exact Int.add_left_comm ..
noncomputable def sh (j:Nat) (r:Nat->Int):Nat->Int
  | 0=>r 0
  | i+1=>dr j (λi=>r (i+1)) i
theorem ev_cut {r:Nat->Int} {j:Nat} {k:Int} {l:List Int}:ev r (k::l)=(ex j l).1 * r (j+1)+ev (sh j r) (k::(ex j l).2):=by
  show k * r 0+ev _ l=(ex j l).1 * r (j+1)+(k * r 0+ev (dr j λi=>r (i+1)) (ex j l).2)
  rw [ex_ok j l];exact Int.add_left_comm ..
noncomputable def Bp (r:Nat->Int) (y:Int) (a:B):Prop:=0 < a.1/\0<=a.1 * y+ev r (a.2.1::a.2.2)
noncomputable def P0 (r:Nat->Int) (j:Nat) (q:P3):Prop:=(∀ a∈q.p,Bp (sh j r) (r (j+1)) a)/\(∀ a∈q.n,Bp (sh j r) (-r (j+1)) a)/\Al (sh j r) q.z
theorem sg_ok (a:Int):(sg a=.eq/\a=0) ∨ (sg a=.gt/\0 < a) ∨ (sg a=.lt/\a < 0):=by
  match a with
  | .ofNat 0=>exact .inl ⟨rfl,rfl⟩
  | .ofNat (n+1)=>exact .inr (.inl ⟨rfl,Int.natCast_pos.mpr (Nat.succ_pos n)⟩)
  | .negSucc _=>exact .inr (.inr ⟨rfl,by omega⟩)
theorem p2_ok {r:Nat->Int} {j:Nat} {q:P3} (h:P0 r j q):∀ {x:List Int},0<=ev r x->P0 r j (p2 j q x)
  | [],_=>h
  | k::l,hx=>by
    rw [ev_cut (j:=j)] at hx
    show P0 r j (p1 k (ex j l).1 (ex j l).2 q (sg (ex j l).1))
    rcases sg_ok (ex j l).1 with ⟨e,g⟩ | ⟨e,g⟩ | ⟨e,g⟩ <;> rw [e]
    · exact ⟨h.1,h.2.1,al_c (by rw [g,Int.zero_mul,Int.zero_add] at hx;exact hx) h.2.2⟩
    · exact ⟨List.forall_mem_cons.mpr ⟨⟨g,hx⟩,h.1⟩,h.2⟩
    · exact ⟨h.1,List.forall_mem_cons.mpr ⟨⟨Int.neg_pos_of_neg g,by show 0<=-(ex j l).1 * -r (j+1)+_;rw [Int.neg_mul_neg];exact hx⟩,h.2.1⟩,h.2.2⟩
theorem pt_ok {r:Nat->Int} (j:Nat):∀ {l:List (List Int)},Al r l->P0 r j (pt j l)
  | [],_=>⟨λ_ h=>(nomatch h),λ_ h=>(nomatch h),al_n⟩
  | x::l,h=>p2_ok (pt_ok j λy hy=>h y (List.mem_cons_of_mem _ hy)) (h x (List.mem_cons_self ..))
theorem gc_dv:∀ (l:List Int) (g:Nat) (r:Nat->Int),g ∣ gc l->ev r l=g * ev r (dv g l)
  | [],g,r,_=>(Int.mul_zero _).symm
  | x::l,g,r,h=>by
    have h3:(g:Int) * (x / g)=x:=Int.mul_ediv_cancel' (Int.ofNat_dvd_left.mpr (Nat.dvd_trans h (Nat.gcd_dvd_left ..)))
    show x * _+ev _ l=g * (x / g * _+ev _ (dv g l))
    rw [gc_dv l g _ (Nat.dvd_trans h (Nat.gcd_dvd_right ..)),Int.mul_add,← Int.mul_assoc,h3]
theorem t1_ok {r:Nat->Int} (hr:r 0=1) {k:Int} {l:List Int} (h:0<=ev r (k::l)):∀ {g},g=gc l->0<=ev r (t1 k l g)
  | 0,e=>by
    have h:0<=k * r 0+ev _ l:=h
    rw [gc_dv l 0 _ (by rw [e];exact Nat.dvd_refl _),Int.natCast_zero,Int.zero_mul] at h;exact h
  | 1,e=>h
  | g+2,e=>by
    have h:0<=k * r 0+ev _ l:=h
    show 0<=k / ((g+2:Nat):Int) * r 0+ev _ (dv ((g+2:Nat):Int) l)
    rw [gc_dv l (g+2) _ (by rw [e];exact Nat.dvd_refl _),hr,Int.mul_one] at h
    rw [hr,Int.mul_one]
    have hg:0 < ((g+2:Nat):Int):=by omega
    generalize ((g+2:Nat):Int)=d at *
    generalize ev _ (dv d l)=y at *
    have:-y<=k / d:=(Int.le_ediv_iff_mul_le hg).mpr (by rw [Int.neg_mul,Int.mul_comm];omega)
    omega
theorem co_ok {r:Nat->Int} (hr:r 0=1) {y:Int} {a b:B} (h1:Bp r y a) (h2:Bp r (-y) b):0<=ev r (co a b):=by
  refine t1_ok hr ?_ rfl
  show 0<=ev r (ad (sc b.1 (a.2.1::a.2.2)) (sc a.1 (b.2.1::b.2.2)))
  rw [ev_ad,ev_sc,ev_sc]
  have e1:=Int.mul_nonneg (Int.le_of_lt h2.1) h1.2
  have e2:=Int.mul_nonneg (Int.le_of_lt h1.1) h2.2
  rw [Int.mul_add] at e1 e2
  have:a.1 * (b.1 * -y)=- (b.1 * (a.1 * y)):=by rw [Int.mul_neg,Int.mul_neg,Int.mul_left_comm]
  omega
theorem f1_ok {r:Nat->Int} (hr:r 0=1) {l:List (List Int)} (h:Al r l):¬ l.any f1=true:=λk=>by
  obtain ⟨x,h1,h2⟩:=List.any_eq_true.mp k
  have:=h x h1
  unfold f1 at h2;split at h2
  · have t:0<=_ * r 0+0:=this
    rw [hr] at t;omega
  · cases h2
theorem fm_ok:∀ (n:Nat) {r:Nat->Int} {l:List (List Int)},r 0=1->Al r l->¬ fm n l=true
  | 0,r,l,hr,h=>f1_ok hr h
  | n+1,r,l,hr,h=>λk=>by
    rcases Bool.or_eq_true_iff.mp k with k | k
    · exact f1_ok hr h k
    · obtain ⟨i,j,m⟩:=pt_ok (bs l (n+1) 0) h
      refine fm_ok n (r:=sh _ r) hr (al_a (λx hx=>?_) m) (Bool.and_eq_true_iff.mp k).2
      obtain ⟨a,a1,a2⟩:=List.mem_flatMap.mp hx
      obtain ⟨b,b1,rfl⟩:=List.mem_map.mp a2
      exact co_ok (r:=sh _ r) hr (i a a1) (j b b1)
noncomputable abbrev T:=List (Bool × F)
noncomputable def al (t:Bool) (x y:E) (cs:List (List Int)) (k:List Int->List Int->List (List Int)->Bool):Bool:=(li x t).all λp=>(li y t).all λq=>k p.1 q.1 (p.2++(q.2++cs))
noncomputable def tb (w:Nat):Nat->T->List (List Int)->Bool
  | 0,_,_=>false
  | n+1,[],cs=>fm w cs
  | n+1,(b,f)::r,cs=>match f with
    | .le d t x y=>al t x y cs λl m cs=>tb w n r (cond b (ge (cond d (-1) 0) l m) (ge (cond d 0 (-1)) m l)::cs)
    | .eq t x y=>al t x y cs λl m cs=>cond b (tb w n r (ge 0 l m::ge 0 m l::cs)) (tb w n r (ge (-1) l m::cs) && tb w n r (ge (-1) m l::cs))
    | .ff=>cond b true (tb w n r cs)
    | .no f=>tb w n ((!b,f)::r) cs
    | .an f g=>cond b (tb w n ((true,f)::(true,g)::r) cs) (tb w n ((false,f)::r) cs && tb w n ((false,g)::r) cs)
    | .or f g=>cond b (tb w n ((true,f)::r) cs && tb w n ((true,g)::r) cs) (tb w n ((false,f)::(false,g)::r) cs)
    | .im f g=>cond b (tb w n ((false,f)::r) cs && tb w n ((true,g)::r) cs) (tb w n ((true,f)::(false,g)::r) cs)
    | .io f g=>tb w n ((b,g)::(true,f)::r) cs && tb w n ((!b,g)::(false,f)::r) cs
noncomputable def hd (c:C) (q:Bool × F):Prop:=cond q.1 (dF c q.2) (¬ dF c q.2)
theorem al_ok {c:C} {t:Bool} {x y:E} {cs:List (List Int)} {k:List Int->List Int->List (List Int)->Bool} (h:al t x y cs k=true) (hc:Al (rho c 0) cs):∃ l m d,ev (rho c 0) l=va c t x/\ev (rho c 0) m=va c t y/\Al (rho c 0) d/\k l m d=true:=by
  obtain ⟨p,p1,p2,p3⟩:=li_ok (c:=c) x t;obtain ⟨q,q1,q2,q3⟩:=li_ok (c:=c) y t
  exact ⟨_,_,_,p2,q2,al_a p3 (al_a q3 hc),List.all_eq_true.mp (List.all_eq_true.mp h p p1) q q1⟩
theorem tb_ok {c:C} {w:Nat}:∀ (n:Nat) {r:T} {cs:List (List Int)},Al (rho c 0) cs->(∀ q∈r,hd c q)->¬ tb w n r cs=true
  | 0,_,_,_,_=>nofun
  | n+1,[],cs,hc,hr=>fm_ok w rfl hc
  | n+1,(b,f)::r,cs,hc,hr=>λh=>by
    obtain ⟨hq,hr'⟩:=List.forall_mem_cons.mp hr
    have I:∀ {p q},hd c p->hd c q->tb w n (p::q::r) cs=true->False:=λh1 h2 h3=>tb_ok n hc (List.forall_mem_cons.mpr ⟨h1,List.forall_mem_cons.mpr ⟨h2,hr'⟩⟩) h3
    have J:∀ {p},hd c p->tb w n (p::r) cs=true->False:=λh1 h3=>tb_ok n hc (List.forall_mem_cons.mpr ⟨h1,hr'⟩) h3
    cases f with
    | le d t x y =>
      have h:al t x y cs (λl m cs=>tb w n r (cond b (ge (cond d (-1) 0) l m) (ge (cond d 0 (-1)) m l)::cs))=true:=h
      obtain ⟨l,m,e,h1,h2,he,h3⟩:=al_ok h hc
      refine tb_ok n (al_c ?_ he) hr' h3
      cases b <;> cases t <;> cases d <;> (show 0<=ev _ (ge _ _ _);rw [ev_ge,h1,h2];simp only [hd,dF,va,cond_true,cond_false] at *;omega)
    | eq t x y =>
      have h:al t x y cs (λl m cs=>cond b (tb w n r (ge 0 l m::ge 0 m l::cs)) (tb w n r (ge (-1) l m::cs) && tb w n r (ge (-1) m l::cs)))=true:=h
      obtain ⟨l,m,e,h1,h2,he,h3⟩:=al_ok h hc
      cases b with
      | true =>
        refine tb_ok n (al_c ?_ (al_c ?_ he)) hr' h3 <;>
        cases t <;> (rw [ev_ge,h1,h2];simp only [hd,dF,va,cond_true,cond_false] at *;omega)
      | false =>
        obtain ⟨h4,h5⟩:=Bool.and_eq_true_iff.mp h3
        rcases Int.lt_or_lt_of_ne (a:=ev (rho c 0) l) (b:=ev (rho c 0) m) (by rw [h1,h2];cases t <;> (simp only [hd,dF,va,cond_true,cond_false] at *;omega)) with g | g
        · exact tb_ok n (al_c (by rw [ev_ge];omega) he) hr' h4
        · exact tb_ok n (al_c (by rw [ev_ge];omega) he) hr' h5
    | ff =>
      cases b with
      | true=>exact hq
      | false=>exact tb_ok n hc hr' h
    | no f =>
      cases b with
      | true=>exact J (p:=(false,f)) hq h
      | false=>exact J (p:=(true,f)) (Classical.not_not.mp hq) h
    | an f g =>
      cases b with
      | true=>exact I (p:=(true,f)) (q:=(true,g)) hq.1 hq.2 h
      | false =>
        obtain ⟨h4,h5⟩:=Bool.and_eq_true_iff.mp h
        by_cases k:dF c f
        · exact J (p:=(false,g)) (λz=>hq ⟨k,z⟩) h5
        · exact J (p:=(false,f)) k h4
    | or f g =>
      cases b with
      | false=>exact I (p:=(false,f)) (q:=(false,g)) (λz=>hq (.inl z)) (λz=>hq (.inr z)) h
      | true =>
        obtain ⟨h4,h5⟩:=Bool.and_eq_true_iff.mp h
        rcases (hq:dF c f ∨ dF c g) with k | k
        · exact J (p:=(true,f)) k h4
        · exact J (p:=(true,g)) k h5
    | im f g =>
      cases b with
      | false=>exact I (p:=(true,f)) (q:=(false,g)) (Classical.byContradiction λz=>hq λy=>(z y).elim) (λz=>hq λ_=>z) h
      | true =>
        obtain ⟨h4,h5⟩:=Bool.and_eq_true_iff.mp h
        by_cases k:dF c f
        · exact J (p:=(true,g)) (hq k) h5
        · exact J (p:=(false,f)) k h4
    | io f g =>
      obtain ⟨h4,h5⟩:=Bool.and_eq_true_iff.mp h
      by_cases k:dF c f
      · refine I (p:=(b,g)) (q:=(true,f)) ?_ k h4
        cases b with
        | true=>exact hq.mp k
        | false=>exact λz=>hq ⟨λ_=>z,λ_=>k⟩
      · refine I (p:=(!b,g)) (q:=(false,f)) ?_ k h5
        cases b with
        | true=>exact λz=>k (hq.mpr z)
        | false=>exact Classical.byContradiction λz=>hq ⟨λy=>(k y).elim,λy=>(z y).elim⟩
noncomputable def mx:E->Nat
  | .v i=>i+1
  | .a x y=>(mx x).max (mx y)
  | .s x y=>(mx x).max (mx y)
  | .u _ x y=>(mx x).max (mx y)
  | .m _ _ _ x=>mx x
  | .n x=>mx x
  | .c x=>mx x
  | _=>0
noncomputable def mF:F->Nat
  | .le _ _ x y=>(mx x).max (mx y)
  | .eq _ x y=>(mx x).max (mx y)
  | .ff=>0
  | .no f=>mF f
  | .an f g=>(mF f).max (mF g)
  | .or f g=>(mF f).max (mF g)
  | .im f g=>(mF f).max (mF g)
  | .io f g=>(mF f).max (mF g)
noncomputable def nz:Nat->List (List Int)
  | 0=>[]
  | i+1=>un i::nz i
theorem nz_ok {c:C}:∀ n,Al (rho c 0) (nz n)
  | 0=>al_n
  | n+1=>al_c (by rw [ev_un];exact Int.natCast_nonneg _) (nz_ok n)
noncomputable def ok (f:F):Bool:=tb (mF f+mF f) 400 [(false,f)] (nz (mF f))
noncomputable abbrev Wit (c:C) (f:F):Prop:=ok f=true->dF c f
theorem R {c:C} {f:F}:Wit c f:=λh=>Classical.byContradiction λk=>tb_ok 400 (nz_ok _) (r:=[(false,f)]) (List.forall_mem_cons.mpr ⟨k,λ_ h=>absurd h List.not_mem_nil⟩) h
class AI (e:Int) (l:List Int) (l':outParam (List Int)) (n:outParam Nat):Prop
instance:AI e [] [e] 0:=⟨⟩
instance (priority:=low) [AI e l l' n]:AI e (d::l) (d::l') (.succ n):=⟨⟩
instance:AI e (e::l) (e::l) 0:=⟨⟩
class AN (e:Nat) (l:List Nat) (l':outParam (List Nat)) (n:outParam Nat):Prop
instance:AN e [] [e] 0:=⟨⟩
instance (priority:=low) [AN e l l' n]:AN e (d::l) (d::l') (.succ n):=⟨⟩
instance:AN e (e::l) (e::l) 0:=⟨⟩
class RI (e:Int) (c:C) (c':outParam C) (x:outParam E):Prop
class RN (e:Nat) (c:C) (c':outParam C) (x:outParam E):Prop
instance (priority:=low) [AI e i i' k]:RI e ⟨i,n⟩ ⟨i',n⟩ (.v k):=⟨⟩
instance (priority:=low) [AN e n n' k]:RN e ⟨i,n⟩ ⟨i,n'⟩ (.v k):=⟨⟩
class LN (e:Nat):Prop
instance:LN 0:=⟨⟩
instance:LN 1:=⟨⟩
instance:LN 10000:=⟨⟩
instance:LN 1000000:=⟨⟩
instance:LN 101:=⟨⟩
instance:LN 103:=⟨⟩
instance:LN 104:=⟨⟩
instance:LN 106:=⟨⟩
instance:LN 109:=⟨⟩
instance:LN 110:=⟨⟩
instance:LN 111:=⟨⟩
instance:LN 120:=⟨⟩
instance:LN 150:=⟨⟩
instance:LN 16:=⟨⟩
instance:LN 1600000:=⟨⟩
instance:LN 16777216:=⟨⟩
instance:LN 2:=⟨⟩
instance:LN 200:=⟨⟩
instance:LN 22:=⟨⟩
instance:LN 24:=⟨⟩
instance:LN 250:=⟨⟩
instance:LN 3:=⟨⟩
instance:LN 30:=⟨⟩
instance:LN 31:=⟨⟩
instance:LN 34:=⟨⟩
instance:LN 39:=⟨⟩
instance:LN 4:=⟨⟩
instance:LN 40:=⟨⟩
instance:LN 400000:=⟨⟩
instance:LN 45:=⟨⟩
instance:LN 48:=⟨⟩
instance:LN 5:=⟨⟩
instance:LN 50:=⟨⟩
instance:LN 5000:=⟨⟩
instance:LN 51:=⟨⟩
instance:LN 52:=⟨⟩
instance:LN 60:=⟨⟩
instance:LN 61:=⟨⟩
instance:LN 63:=⟨⟩
instance:LN 64:=⟨⟩
instance:LN 8:=⟨⟩
instance:LN 800000:=⟨⟩
instance:LN 8000000:=⟨⟩
instance:LN 81:=⟨⟩
instance:LN 900000:=⟨⟩
class LI (e:Int):Prop
instance:LI 0:=⟨⟩
instance:LI 1:=⟨⟩
instance:LI 10:=⟨⟩
instance:LI 100:=⟨⟩
instance:LI 1000:=⟨⟩
instance:LI 11:=⟨⟩
instance:LI 12:=⟨⟩
instance:LI 2:=⟨⟩
instance:LI 20:=⟨⟩
instance:LI 21:=⟨⟩
instance:LI 24:=⟨⟩
instance:LI 3:=⟨⟩
instance:LI 30:=⟨⟩
instance:LI 31:=⟨⟩
instance:LI 4:=⟨⟩
instance:LI 48271:=⟨⟩
instance:LI 5:=⟨⟩
instance:LI 6:=⟨⟩
instance:LI 7:=⟨⟩
instance:LI 72:=⟨⟩
instance:LI 8:=⟨⟩
instance [LI a]:LI (-a):=⟨⟩
instance (priority:=500) [LN e]:RN e c c (.k e):=⟨⟩
instance (priority:=500) [LI e]:RI e c c (.i e):=⟨⟩
instance [LI a] [LN b]:RI (a ^ b) c c (.i (a ^ b)):=⟨⟩
instance [LN a] [LN b]:RN (a ^ b) c c (.k (a ^ b)):=⟨⟩
instance [RI a c d x] [RI b d e y]:RI (max a b) c e (.u true x y):=⟨⟩
instance [RI a c d x] [RI b d e y]:RI (min a b) c e (.u false x y):=⟨⟩
instance [RN a c d x] [RN b d e y]:RN (max a b) c e (.u true x y):=⟨⟩
instance [RN a c d x] [RN b d e y]:RN (min a b) c e (.u false x y):=⟨⟩
instance [RI a c d x] [RI b d e y]:RI (a+b) c e (.a x y):=⟨⟩
instance [RN a c d x] [RN b d e y]:RN (a+b) c e (.a x y):=⟨⟩
instance [RI a c d x] [RI b d e y]:RI (a - b) c e (.s x y):=⟨⟩
instance [RN a c d x] [RN b d e y]:RN (a - b) c e (.s x y):=⟨⟩
instance [RI a c d x]:RI (-a) c d (.n x):=⟨⟩
instance [LI a] [RI b c d y]:RI (a * b) c d (.m true 0 a y):=⟨⟩
instance [LI a] [RI b c d y]:RI (b * a) c d (.m false 0 a y):=⟨⟩
instance [LN a] [RN b c d y]:RN (a * b) c d (.m true a 0 y):=⟨⟩
instance [LN a] [RN b c d y]:RN (b * a) c d (.m false a 0 y):=⟨⟩
instance [RN a c d x]:RI (Nat.cast a) c d (.c x):=⟨⟩
instance [RI a c d x]:RN (Int.toNat a) c d (.c x):=⟨⟩

class RF (p:Prop) (c:C) (c':outParam C) (f:outParam F):Prop
instance {a b:Int} [RI a c d x] [RI b d e y]:RF (a<=b) c e (.le false false x y):=⟨⟩
instance {a b:Int} [RI a c d x] [RI b d e y]:RF (a < b) c e (.le true false x y):=⟨⟩
instance {a b:Int} [RI a c d x] [RI b d e y]:RF (b ≥ a) c e (.le false false x y):=⟨⟩
instance {a b:Int} [RI a c d x] [RI b d e y]:RF (b > a) c e (.le true false x y):=⟨⟩
instance {a b:Int} [RI a c d x] [RI b d e y]:RF (a=b) c e (.eq false x y):=⟨⟩
instance {a b:Int} [RI a c d x] [RI b d e y]:RF (a ≠ b) c e (.no (.eq false x y)):=⟨⟩
instance {a b:Nat} [RN a c d x] [RN b d e y]:RF (a<=b) c e (.le false true x y):=⟨⟩
instance {a b:Nat} [RN a c d x] [RN b d e y]:RF (a < b) c e (.le true true x y):=⟨⟩
instance {a b:Nat} [RN a c d x] [RN b d e y]:RF (b ≥ a) c e (.le false true x y):=⟨⟩
instance {a b:Nat} [RN a c d x] [RN b d e y]:RF (b > a) c e (.le true true x y):=⟨⟩
instance {a b:Nat} [RN a c d x] [RN b d e y]:RF (a=b) c e (.eq true x y):=⟨⟩
instance {a b:Nat} [RN a c d x] [RN b d e y]:RF (a ≠ b) c e (.no (.eq true x y)):=⟨⟩
instance:RF False c c .ff:=⟨⟩
instance [RF p c d f]:RF (¬p) c d (.no f):=⟨⟩
instance [RF p c d f] [RF q d e g]:RF (p/\q) c e (.an f g):=⟨⟩
instance [RF p c d f] [RF q d e g]:RF (p ∨ q) c e (.or f g):=⟨⟩
instance [RF p c d f] [RF q d e g]:RF (p->q) c e (.im f g):=⟨⟩
instance [RF p c d f] [RF q d e g]:RF (p ↔ q) c e (.io f g):=⟨⟩
theorem Rw (p:Prop) [RF p ⟨[],[]⟩ c f]:Wit c f:=R
end QA
local macro_rules
  | `(tactic| ext $ps:rintroPat*:$_:num)=>`(tactic| (refine id ?_;ext $ps*))
  | `(tactic| ext $ps:rintroPat*)=>do
    let mut ty ← `(_)
    let mut f:=false
    let mut hs:=#[]
    for p in ps do
      match p with
      | `(rintroPat| $h:ident)=>hs:=hs.push (← `($h:ident))
      | _=>f:=true
    for h in hs.reverse do ty ← `(type_of% $h->$ty)
    let t ← `(tactic| (refine (?g:$ty) $hs*;refine (QA.R:type_of% (QA.Rw (type_of% ?g))) ?_;decide +kernel))
    if f then `(tactic| (exfalso;$t)) else return t
set_option Elab.async false
set_option linter.all false
set_option maxRecDepth 100000
open And renaming intro->b83
open Array renaming length_toList->gn,toList_append->lJ,getElem?_toList->om,perm_iff_toList_perm->yo,toList_push->rA,toList_extract->xY,toList_reverse->xX,getElem_toList->F8,toList_modify->F2,append_assoc->F0
open Array.Perm renaming refl->BZ
open Bool renaming false_ne_true->lI,false_eq_true->vv,and_eq_true->BN
open False renaming elim->ip
open ForInStep renaming yield->me,done->yk
open Iff renaming rfl->df
open Int renaming le_refl->eQ,mul_le_mul_of_nonneg_left->yq,lt_or_lt_of_ne->vq,mul_one->mW,add_zero->oi,emod_lt_of_pos->yj,sub_add_cancel->yi,sub_zero->rb,emod_nonneg->yb,mul_zero->vA,mul_nonneg->xP,sub_self->xT,mul_add->xS,sub_mul->xR,not_le->xK,le_of_lt->BG,lt_or_le->BF
open List renaming length_append->bP,length_map->bM,mem_singleton->cH,mem_append->bR,mem_cons_self->cP,mem_cons_of_mem->dj,mem_append_right->er,mem_append_left->dX,size_toArray->di,append_assoc->dH,getElem?_set_ne->fh,getElem?_set_self->fU,mem_cons->cU,pairwise_cons->eO,pairwise_append->fG,mem_map->cO,drop_eq_getElem_cons->jx,map_append->fg,length_cons->fS,getElem?_eq_some_iff->lK,replicate->fV,take_append_drop->kr,getElem?_append_right->m5,length_take->iW,drop_eq_nil_of_le->mY,mem_iff_getElem->md,lookup_cons->jW,getElem?_append_left->qd,flatten_singleton->oq,getElem_mem->lH,not_mem_nil->lE,pairwise_map->l7,map_map->iT,append_nil->lD,map_cons->jV,flatten_append->oj,getElem?_eq_getElem->rf,pairwise_singleton->rp,pairwise_iff_getElem->vF,length_singleton->rk,zipWith->kn,length_drop->ou,mem_of_mem_take->rj,mem_of_mem_drop->rh,range->jv,nodup_cons->ot,suffix_refl->qe,perm_append_comm->vE,extract_eq_take_drop->yt,getElem?_map->rB,reverse_perm->rz,getElem?_replicate->yr,mem_reverse->rq,length_replicate->xZ,length_nil->q9,flatMap_cons->vn,length_pos_iff->xW,sum_append->vz,take_of_length_le->Cb,flatten_cons->yh,getElem_take->yg,eq_nil_or_concat->B9,take_append_of_le_length->Gn,mem_flatMap->ye,filterMap_cons->B7,of_mem_zip->yc,length->ra,map_nil->vD,map->mX,getElem?_eq_none_iff->Gp,mem_range->yn,nodup_append->BQ,length_erase_of_mem->FZ,length_eq_zero_iff->FX,pairwise_mergeSort->FW,append_cancel_left->FV,all_eq_true->BM,zipWith_cons_cons->FR,length_pos_of_mem->FQ,length_set->BL,dropLast_eq_take->Gf,getElem?_zipWith->Ge,nil_append->B0,mem_of_getElem?->Gb,getElem?_append->Ga,reverse_reverse->F9,mem_of_getLast?->F7,dropLast_concat->F6,mem_erase_of_ne->F5,drop_take->BX,drop_zero->BW,length_zipWith->F3,mergeSort_perm->F1,mem_filterMap->Gk,getElem?_take->Gi,map_singleton->Gh,sum_singleton->Gg
open List.Pairwise renaming nil->BR
open List.Perm renaming append_left->Ca,refl->BY
open Nat renaming le_refl->bj,lt_of_lt_of_le->gz,le_trans->et,ne_of_lt->fH,eq_zero_of_not_pos->qc,lt_of_succ_lt->qf,lt_irrefl->mZ,lt_of_le_of_ne->vt,lt_succ_self->vm,zero_le->oh,add_sub_cancel_left->Cd,add_le_add_right->B8,zero_add->vC,sub_self->vB,le_succ->vj,le_add_right->BP,le_of_lt->xN,le_of_sub_eq_zero->Gc,add_assoc->B1,ne_of_gt->BJ
open Ne renaming symm->km
open Option renaming map_eq_some_iff->rm,map_some->vk,bind_some->yf,map->BC
open Option.some renaming inj->bQ,injEq->cV
open Or renaming inr->bo,inl->cw
open Prod renaming ext->xI
open PyProof.Rows renaming wpS_bind->aF,wpS_pure->aP,wpS_forRange->gO,callWith_type1->yp,wpS_mono->gQ,wpS_modify->l6,wpS_get->jT,pairsOf_toList->xQ,listItems_at->xV,pairsOf_size->xU
open PyProof.Rows.SortSt renaming mk'->xJ
open PySem renaming wpAny_bind->cn,wpAny_pure->eN,sizeLine_eq->il,mem_of_lookup->rg,wpAny_mono->jX,wpAny_passesOwn->qh,call_isinstance->qg,wpAny_truthy_bool->vo,Builtin->Wn,wpAny_holding->vw,wpAny_execs_nil->yd,wpAny_Call_Name_kw->Ce,intBits_le_64->xO,noFill_tuple_add->BO,wpAny_standAt->BU,seq_tuple_add->B2,call->BD
open PySem.Around renaming under->BI
open PySem.Builtin.Int renaming intBits->F4
open PySem.Builtin.List renaming listItems->x9,listTooLong->B5
open PySem.Builtin.Range renaming rangeSize->FY
open PySem.Calls renaming Name_function_global->Gm,callWith_builtin->FT
open PySem.Code renaming isFrame->BH
open PySem.F renaming args_tuple_add_2->B6,entry_tuple_add->B4,plainAttrs_list->B3,slot_tuple_add->Cc,slot_list_append->FP,slot_list_extend->FO,slot_list_pop->Gj
open PySem.Heap renaming get?_push_of_some->fT,lt_size->cE,get?_push_size->l9,get?_update_other->ya,SameBut->xM
open PySem.IsRange renaming new->BE
open PySem.NameKind renaming free->jU,cell->p9
open PySem.Obj renaming mapSeq->gP
open PySem.PassesOwn renaming never->FG
open PySem.Value renaming ref->dG,none->iV,bool->iU,int->jw,type->qb
open PySem.W renaming Frag->aC,fnOf->gy,mg_none_of->l8,tabIn->kq,nsIn->ko,keepIn->qa,tabObj->q8,findIn->vy,codeIn->ym,methodObj->BS,cellsFrom_some->FU,OpenLaw->BK,specialIn->FN,plainGet->FK,codeHdIn->FJ,instObj->FH
open Sum renaming inl->p8,inr->p7
theorem Jp{a b c:Nat}(h:a+c<=b):a<=b:=et (BP _ _) h
theorem Jo{a b c:Nat}(h:a<=b):a-c<=b:=et (Nat.sub_le _ _) h
namespace L2
open PySem PySem.Spec PyProof.Rows
abbrev Key:=Sum Int Str
def Gq:Key->Value->Bool
 | .inl k,v=>Value.isInt k v
 | .inr x,v=>Value.isStrOf x v
def As(w:World):Key->Int
 | .inl k=>hashInt k
 | .inr x=>hashStr w x
theorem nv:∀{k:Key} {v:Value},Gq k v=true->(∃i t,k=p8 i/\v=jw i t)\/(∃x t,k=p7 x/\v=Value.str x t)
 | .inl i,v,h=>by
  obtain ⟨t,e⟩:=Value.isInt_shape (k:=i) (v:=v) h
  exact .inl ⟨i,t,rfl,e⟩
 | .inr x,v,h=>by
  obtain ⟨t,e⟩:=Value.isStrOf_shape (x:=x) (v:=v) h
  exact .inr ⟨x,t,rfl,e⟩
theorem Pq(a b:Int):decide ((p8 a:Key)=p8 b)=(a==b):=by
 by_cases e:a=b
 .subst e;simp
 .have h:¬(p8 a:Key)=p8 b:=λq=>e (Sum.inl.inj q)
  rw [decide_eq_false h]
  exact (beq_eq_false_iff_ne.mpr e).symm
theorem Pu(a b:Str):decide ((p7 a:Key)=p7 b)=decide (a=b):=by
 by_cases e:a=b
 .subst e;simp
 .have h:¬(p7 a:Key)=p7 b:=λq=>e (Sum.inr.inj q)
  rw [decide_eq_false h,decide_eq_false e]
theorem Pr(a:Int)(b:Str):decide ((p8 a:Key)=p7 b)=false:=decide_eq_false (λq=>nomatch q)
theorem Pt(a:Str)(b:Int):decide ((p7 a:Key)=p8 b)=false:=decide_eq_false (λq=>nomatch q)
def C7(prog:Program)(w:World):PySem.KeyKind prog w Key where
 is:=Gq
 hash:=As w
 inj:=λv a b ha hb=>by
  rcases nv ha with ⟨i,t,rfl,rfl⟩ | ⟨x,t,rfl,rfl⟩
  .rcases nv hb with ⟨j,u,rfl,e⟩ | ⟨y,u,rfl,e⟩
   .injection e with e1 _;rw [e1]
   .exact nomatch e
  .rcases nv hb with ⟨j,u,rfl,e⟩ | ⟨y,u,rfl,e⟩
   .exact nomatch e
   .injection e with e1 _;rw [e1]
 byValue:=λk v h=>by
  rcases nv h with ⟨i,t,rfl,rfl⟩ | ⟨x,t,rfl,rfl⟩<;>rfl
 pyHash:=λhv h=>by
  rcases nv hv with ⟨i,t,rfl,rfl⟩ | ⟨x,t,rfl,rfl⟩
  .exact wpAny_pyHash_int h
  .exact wpAny_pyHash_str h
 eqBool:=λhu hv h=>by
  rcases nv hu with ⟨i,t,rfl,rfl⟩ | ⟨x,t,rfl,rfl⟩
  .rcases nv hv with ⟨j,u,rfl,rfl⟩ | ⟨y,u,rfl,rfl⟩
   .rw [Pq] at h;exact wpAny_eqBool_int h
   .rw [Pr] at h;exact SeqAt.EqAt.int_str i t y u _ _ _ _ h
  .rcases nv hv with ⟨j,u,rfl,rfl⟩ | ⟨y,u,rfl,rfl⟩
   .rw [Pt] at h;exact SeqAt.EqAt.str_int x t j u _ _ _ _ h
   .rw [Pu] at h;exact wpAny_eqBool_str h
 «strs»:=λk x t v h=>by
  rcases nv h with ⟨i,u,rfl,e⟩ | ⟨y,u,rfl,e⟩
  .exact nomatch e
  .injection e with e1 _
   subst e1
   cases v<;>rfl
end L2
namespace L2
open PySem PySem.Spec PyProof.Rows
inductive V where
 | aI | bl (b:Bool) | int (i:Int) | str (x:Str) | vi (b:Array UInt8) | uU (b:UInt64) | ref (a:Addr) | ty (n:String)
 deriving DecidableEq
def RelV:V->Value->Prop
 | .aI,u=>u=iV
 | .bl b,u=>u=iU b
 | .int i,u=>∃t,u=jw i t
 | .str x,u=>∃t,u=Value.str x t
 | .vi b,u=>∃t,u=Value.bytes b t
 | .uU b,u=>∃t,u=Value.float b t
 | .ref a,u=>u=dG a
 | .ty n,u=>u=qb n
abbrev aq:List V->List Value->Prop:=Paired RelV
theorem aq.length(r:aq xs us):xs.length=us.length:=Paired.length r
theorem aq.get:∀{xs:List V} {us:List Value} {i:Nat} {x:V},aq xs us->xs[i]?=some x->∃u,us[i]?=some u/\RelV x u
 | _,_,_,_,.nil,e=>by simp at e
 | _,_,0,_,.cons r _,e=>by simp at e;subst e;exact ⟨_,rfl,r⟩
 | _,_,i+1,x,.cons _ t,e=>by
  obtain ⟨u,h1,h2⟩:=aq.get (i:=i) (x:=x) t (by simpa using e)
  exact ⟨u,by simpa using h1,h2⟩
theorem aq.set(r:RelV x u):∀{xs:List V} {us:List Value} (i:Nat),aq xs us->aq (xs.set i x) (us.set i u)
 | _,_,_,.nil=>.nil
 | _,_,0,.cons _ t=>.cons r t
 | _,_,i+1,.cons q t=>.cons q (aq.set r i t)
theorem aq.append:∀{xs ys:List V} {us ws:List Value},aq xs us->aq ys ws->aq (xs++ys) (us++ws)
 | _,_,_,_,.nil,s=>s
 | _,_,_,_,.cons r t,s=>.cons r (aq.append t s)
theorem aq.take:∀{xs:List V} {us:List Value} (n:Nat),aq xs us->aq (xs.take n) (us.take n)
 | _,_,0,_=>.nil
 | _,_,_+1,.nil=>.nil
 | _,_,n+1,.cons r t=>.cons r (aq.take n t)
theorem aq.drop:∀{xs:List V} {us:List Value} (n:Nat),aq xs us->aq (xs.drop n) (us.drop n)
 | _,_,0,r=>r
 | _,_,_+1,.nil=>.nil
 | _,_,n+1,.cons _ t=>aq.drop n t
theorem aq.none_of:∀{xs:List V} {us:List Value} {i:Nat},aq xs us->xs[i]?=none->us[i]?=none:=λ{xs us i} r e=>by
 have h1:=r.length
 have h2:xs.length<=i:=Gp.mp e
 exact Gp.mpr (by ext h1 h2)
def nG:Option V->Option Value->Prop
 | some v,some u=>RelV v u
 | none,none=>True
 | _,_=>False
def KV{κ:Type}:List (κ×V)->List (κ×Value)->Prop:=Paired λ(p:κ×V) (q:κ×Value)=>p.1=q.1/\RelV p.2 q.2
def kV:Key->V
 | .inl i=>.int i
 | .inr x=>.str x
inductive HO where
 /-- a list -/
 | lst (xs:List V)
 /-- a tuple (never changes) -/
 | tup (xs:List V)
 /-- a dict nJ keys are ints and texts;one nJ keys are tuples of ints and texts (qK empty one is both) -/
 | dK (bb:List (Key×V)) | dT (bb:List (List Key×V))
 /-- a set of ints: ao members,ao size -/
 | set (S:Int->Bool) (n:Nat)
 /-- an instance of qK class at C,ao dict at dx,ao attributes -/
 | ins (C dx:Addr) (fs:List (Str×V))
 /-- qK dict of qK instance at x -/
 | own (x:Addr)
 /-- qK dict of an exception -/
 | xd (fs:List (Str×V))
 /-- a bound method,f of x -/
 | met (f x:Addr)
 /-- a range object lo,lo+1,.. below hi -/
 | Aa (lo hi:Int)
 /-- a fk Jv is known to qK object (qK script;a dict while a loop walks it): read,never written while it is so -/
 | gx (o:Obj) (u:HO)
 /-- a code kP table -/
 | o6 (ps:Array Value)
 /-- a code kP table nJ codes are all called q,and are ao own -/
 | tab (q:Str)
 /-- any other fk,by Jr is true of ao one object (a def of ET own: Uw a S n:=HO.ext λh=>..) -/
 | ext (φ:Heap->Prop)
def ownOf:HO->Option Addr
 | .own x=>some x
 | .gx _ (.own x)=>some x
 | _=>none
def P8(q:Str)(o:Obj):Prop:=∃vs t,o.data=.fields vs/\vs[1]?=some (.str q t)
abbrev Hp:=Addr->Option HO
def upd(H:Hp)(a:Addr)(o:HO):Hp:=λb=>if b=a then some o else H b
theorem oP:upd H a o a=some o:=by unfold upd;rw [if_pos rfl]
theorem dz(h:b≠a):upd H a o b=H b:=by unfold upd;rw [if_neg h]
theorem nC{H:Hp}{a b:Addr}{o:HO}(h:H a=some o)(h':H b=none):a≠b:=by
 intro e;subst e;rw [h] at h';cases h'
section
variable (P:Program)(w:World)
def cf(H:Hp)(h:Heap)(a:Addr):HO->Prop
 | .lst xs=>xs.length<=sizeLine/\∃(ao:List Value) (n:Nat),aq xs ao/\h.get? a=some { cls:=.type "list",data:=.seq ao.toArray n }
 | .tup xs=>xs.length<=sizeLine/\∃ao:List Value,aq xs ao/\IsTup h a ao.toArray
 | .dK bb=>bb.length<=sizeLine/\(a==sysModules)=false/\∃vs,KV bb vs/\h.DictOf (C7 P w) a vs
 | .dT bb=>bb.length<=sizeLine/\(a==sysModules)=false/\∃xs:List (List Key×Addr×Value),
   Paired (λ(p:List Key×V) (q:List Key×Addr×Value)=>p.1=q.1/\H q.2.1=some (.tup (p.1.map kV))/\RelV p.2 q.2.2) bb xs /\
   ∃o es ep,h.get? a=some o/\o.ExactDict/\o.data=.dict es ep/\es.toList=xs.map (entryOfKey (tupleKind (C7 P w)))/\(xs.map (·.1)).Nodup
 | .set S n=>h.SetOf (intKind P w) a S n
 | .ins C dx fs=>H dx=some (.own a)/\fs.length<=1000/\dx≠a/\h.get? a=some (FH C dx) /\
   ∃mA,h.Ns1 dx mA/\(∀f,nG (fs.lookup f) (mA f))/\PySem.Within mA (fs.map (·.1))
 | .own _=>∃o,h.get? a=some o
 | .xd fs=>∃mA,h.Ns1 a mA/\∀f,nG (fs.lookup f) (mA f)
 | .Aa lo hi=>∃t u v,h.get? a=some { cls:=.type "range",data:=.fields #[.int lo t,.int hi u,.int 1 v] }
 | .gx o u=>h.get? a=some o/\cf H h a u
 | .o6 ps=>h.get? a=some { cls:=.none,data:=.fields ps }
 | .tab q=>∃ps,h.get? a=some (q8 ps)/\TriplesOk ps.toList/\∀pos cv,codeAmong pos ps.toList=some cv->∃c oc,cv=.ref c/\H c=some (.gx oc (.own a))/\P8 q oc
 | .met f x=>h.get? a=some (BS (.ref f) (.ref x))
 | .ext φ=>φ h/\(∃o,h.get? a=some o)/\∀h1 h2:Heap,φ h1->(∀o,h1.get? a=some o->h2.get? a=some o)->φ h2
def fq(H:Hp)(h:Heap):Prop:=∀a o,H a=some o->cf P w H h a o
end
section
variable {P:Program}{w:World}{H H':Hp}{h h':Heap}{a:Addr}{o:HO}
theorem cf.lt(x:cf P w H h a o):a<h.objs.size:=by
 cases o with
 | lst xs=>obtain ⟨_,_,_,_,e⟩:=x;exact cE e
 | tup xs=>obtain ⟨_,_,_,p⟩:=x;exact p.lt
 | dK bb=>obtain ⟨_,_,_,_,o,_,_,e,_⟩:=x;exact cE e
 | dT bb=>obtain ⟨_,_,_,_,o,_,_,e,_⟩:=x;exact cE e
 | set S n=>obtain ⟨o,_,_,_,e,_⟩:=x;exact cE e
 | ins C dx fs=>obtain ⟨_,_,_,e,_⟩:=x;exact cE e
 | own y=>obtain ⟨_,e⟩:=x;exact cE e
 | xd fs=>obtain ⟨_,⟨_,_,_,e,_⟩,_⟩:=x;exact cE e
 | Aa lo hi=>obtain ⟨_,_,_,e⟩:=x;exact cE e
 | gx ob u=>obtain ⟨e,_⟩:=x;exact cE e
 | o6 ps=>exact cE (show h.get? a=some _ from x)
 | tab q=>obtain ⟨_,e,_⟩:=x;exact cE e
 | met f y=>exact cE (show h.get? a=some _ from x)
 | ext φ=>obtain ⟨_,⟨_,e⟩,_⟩:=x;exact cE e
theorem Paired.tV{α β:Type}{F G:α->β->Prop}:∀{tX:List α} {tW:List β},Paired F tX tW->(∀a b,F a b->G a b)->Paired G tX tW
 | _,_,.nil,_=>.nil
 | _,_,.cons r t,f=>.cons (f _ _ r) (Paired.tV t f)
theorem cf.jH(x:cf P w H h a o)(k:∀b u,(b=a\/H b=some (.own a))->h.get? b=some u->h'.get? b=some u)
  (ho:∀b u,ownOf u=some a->H b=some u->H' b=some u)(ht:∀b xs,H b=some (.tup xs)->H' b=some (.tup xs)):cf P w H' h' a o:=by
 induction o with
 | lst xs=>obtain ⟨z,ao,n,r,e⟩:=x;exact ⟨z,ao,n,r,k _ _ (.inl rfl) e⟩
 | tup xs=>obtain ⟨z,ao,r,ob,e,c⟩:=x;exact ⟨z,ao,r,ob,k _ _ (.inl rfl) e,c⟩
 | dK bb=>obtain ⟨z,y,vs,r,ob,es,ep,e,c⟩:=x;exact ⟨z,y,vs,r,ob,es,ep,k _ _ (.inl rfl) e,c⟩
 | dT bb =>
  obtain ⟨z,y,xs,r,ob,es,ep,e,c⟩:=x
  exact ⟨z,y,xs,Paired.tV r λp q z=>⟨z.1,ht _ _ z.2.1,z.2.2⟩,ob,es,ep,k _ _ (.inl rfl) e,c⟩
 | set S n=>obtain ⟨ob,es,ep,t,e,c⟩:=x;exact ⟨ob,es,ep,t,k _ _ (.inl rfl) e,c⟩
 | ins C dx fs =>
  obtain ⟨d,z,ne,e,mA,⟨od,es,ep,e2,c⟩,r⟩:=x
  exact ⟨ho _ _ rfl d,z,ne,k _ _ (.inl rfl) e,mA,⟨od,es,ep,k _ _ (.inr d) e2,c⟩,r⟩
 | own y=>obtain ⟨ob,e⟩:=x;exact ⟨ob,k _ _ (.inl rfl) e⟩
 | xd fs=>obtain ⟨mA,⟨od,es,ep,e,c⟩,r⟩:=x;exact ⟨mA,⟨od,es,ep,k _ _ (.inl rfl) e,c⟩,r⟩
 | Aa lo hi=>obtain ⟨t,u,v,e⟩:=x;exact ⟨t,u,v,k _ _ (.inl rfl) e⟩
 | gx ob u ih=>obtain ⟨e,q⟩:=x;exact ⟨k _ _ (.inl rfl) e,ih q⟩
 | o6 ps =>
  have e:h.get? a=some { cls:=.none,data:=.fields ps }:=x
  show h'.get? a=some { cls:=.none,data:=.fields ps }
  exact k a _ (.inl rfl) e
 | tab q =>
  obtain ⟨ps,e,ht,z⟩:=x
  exact ⟨ps,k _ _ (.inl rfl) e,ht,λpos cv hc=>let ⟨c,oc,e1,e2,e3⟩:=z pos cv hc;⟨c,oc,e1,ho _ _ rfl e2,e3⟩⟩
 | met f y =>
  have e:h.get? a=some (BS (.ref f) (.ref y)):=x
  show h'.get? a=some (BS (.ref f) (.ref y))
  exact k a _ (.inl rfl) e
 | ext φ=>obtain ⟨p,⟨o,e⟩,st⟩:=x;exact ⟨st _ _ p λo q=>k _ _ (.inl rfl) q,⟨o,k _ _ (.inl rfl) e⟩,st⟩
theorem fq.lt(x:fq P w H h)(e:H a=some o):a<h.objs.size:=(x a o e).lt
theorem fq.fresh(x:fq P w H h)(e:h.objs.size<=a):H a=none:=by
 cases q:H a with
 | none=>rfl
 | some u=>exact absurd (gz (x.lt q) e) (mZ _)
theorem fq.kept(x:fq P w H h)(k:∀b u,h.get? b=some u->h'.get? b=some u):fq P w H h':=λa o e =>
 (x a o e).jH (λb u _ q=>k b u q) (λ_ _ _ q=>q) λ_ _ q=>q
theorem fq.laid(x:fq P w H h)(k:∀b u,h.get? b=some u->h'.get? b=some u)(hp:h.objs.size<=a)(new:cf P w (upd H a o) h' a o):fq P w (upd H a o) h':=λb u e=>by
 have hn:=x.fresh hp
 by_cases hb:b=a
 .subst hb;rw [oP] at e;cases e;exact new
 .rw [dz hb] at e
  exact (x b u e).jH (λc v _ q=>k c v q) (λc _ _ q=>by rw [dz (nC q hn)];exact q) λc xs q=>by rw [dz (nC q hn)];exact q
end
def Rd(H:Hp)(a:Addr)(u:HO):Prop:=H a=some u\/∃o,H a=some (.gx o u)
theorem Rd.of(h:H a=some u):Rd H a u:=.inl h
theorem Rd.ok(r:Rd H a u)(x:fq P w H h):cf P w H h a u:=by
 rcases r with r | ⟨o,r⟩
 .exact x a u r
 .obtain ⟨_,q⟩:=x a _ r
  exact q
def zA:Option HO->Prop
 | some (.lst _)=>True
 | some (.dK _)=>True
 | some (.dT _)=>True
 | some (.set _ _)=>True
 | some (.ins _ _ _)=>True
 | some (.ext _)=>True
 | some (.tab _)=>True
 | _=>False
section
variable {P:Program}{w:World}{H:Hp}{h h':Heap}{x e:Addr}{o':HO}
theorem fq.write(ok:fq P w H h)(mu:zA (H x))(he:e=x\/H e=some (.own x))(k:∀b u,b≠e->h.get? b=some u->h'.get? b=some u)(qZ:∃u,h'.get? e=some u)
  (new:cf P w (upd H x o') h' x o'):fq P w (upd H x o') h':=λb u q=>by
 have Aj:∀c y,H c=some (.own y)->c≠x:=λc y r z=>by subst z;rw [r] at mu;exact mu
 have Ai:∀c xs,H c=some (.tup xs)->c≠x:=λc xs r z=>by subst z;rw [r] at mu;exact mu
 have Ak:∀c y u,ownOf u=some y->H c=some u->c≠x:=λc y u hu r z=>by
  subst z;rw [r] at mu
  cases u with
  | own y=>exact mu
  | gx o v=>exact mu
  | _=>cases hu
 by_cases hb:b=x
 .subst hb;rw [oP] at q;cases q;exact new
 .rw [dz hb] at q
  by_cases pN:b=e
  .have q':H b=some (.own x):=by
    rcases he with z | z
    .exact absurd (pN.trans z) hb
    .rw [pN];exact z
   rw [q] at q';cases q'
   obtain ⟨v,hv⟩:=qZ
   exact ⟨v,by rw [pN];exact hv⟩
  .refine (ok b u q).jH (λc v hc r=>k c v ?_ r) (λc u hu r=>by rw [dz (Ak c b u hu r)];exact r) λc xs r=>by rw [dz (Ai c xs r)];exact r
   rcases hc with rfl | hc
   .exact pN
   .rintro rfl
    rcases he with z | z
    .exact Aj c b hc z
    .rw [hc] at z;cases z;exact hb rfl
end
structure Un(fs ex:List Addr)(H H':Hp)(h h':Heap):Prop where
 keep:∀b o,h.get? b=some o->H b=none->b∉fs->b∉ex->h'.get? b=some o
 slot:∀b o,h.get? b=some o->H b=none->b∈fs->b∉ex->∃sl,h'.get? b=some { o with slots:=sl }
 free:∀b o,h.get? b=some o->H b=none->b∉ex->H' b=none
 there:∀b o,h.get? b=some o->b∉ex->∃o',h'.get? b=some o'
 dN:∀b xs,H b=some (.tup xs)->H' b=some (.tup xs)
 dF:∀b o u,H b=some (.gx o u)->H' b=some (.gx o u)
 dO:∀b ps,H b=some (.o6 ps)->∃more,H' b=some (.o6 (ps++more))
section
variable {fs Bh ex FD:List Addr}{H H1 H2:Hp}{h h1 h2 h':Heap}{a x e:Addr}{o:HO}
theorem Un.any(u:Un fs ex H H1 h h1)(q:h.get? b=some ob)(n:H b=none)(hx:b∉ex):∃sl,h1.get? b=some { ob with slots:=sl }:=by
 by_cases hb:b∈fs
 .exact u.slot b ob q n hb hx
 .exact ⟨ob.slots,u.keep b ob q n hb hx⟩
theorem Un.trans(a:Un fs ex H H1 h h1)(b:Un fs ex H1 H2 h1 h2):Un fs ex H H2 h h2 where
 keep:=λc ob q n hc hx=>b.keep c ob (a.keep c ob q n hc hx) (a.free c ob q n hx) hc hx
 slot:=λc ob q n hc hx=>by
  obtain ⟨sl,e1⟩:=a.slot c ob q n hc hx
  obtain ⟨zZ,e2⟩:=b.slot c _ e1 (a.free c ob q n hx) hc hx
  exact ⟨zZ,e2⟩
 free:=λc ob q n hx=>by
  obtain ⟨o',e1⟩:=a.there c ob q hx
  exact b.free c o' e1 (a.free c ob q n hx) hx
 there:=λc ob q hx=>by
  obtain ⟨o',e1⟩:=a.there c ob q hx
  exact b.there c o' e1 hx
 dN:=λc xs q=>b.dN c xs (a.dN c xs q)
 dF:=λc ob xs q=>b.dF c ob xs (a.dF c ob xs q)
 dO:=λc ps q=>by
  obtain ⟨m1,e1⟩:=a.dO c ps q
  obtain ⟨m2,e2⟩:=b.dO c _ e1
  exact ⟨m1++m2,by rw [e2,F0]⟩
theorem Un.kept(k:∀b u,h.get? b=some u->h'.get? b=some u):Un fs ex H H h h':=
 ⟨λb ob q _ _ _=>k b ob q,λb ob q _ _ _=>⟨ob.slots,k b ob q⟩,λ_ _ _ n _=>n,λb ob q _=>⟨ob,k b ob q⟩,λ_ _ q=>q,λ_ _ _ q=>q,λ_ ps q=>⟨#[],by rw [q];simp⟩⟩
theorem Un.refl:Un fs ex H H h h:=Un.kept λ_ _ q=>q
theorem Un.laid(k:∀b u,h.get? b=some u->h'.get? b=some u)(hp:h.objs.size<=a)(hn:H a=none):Un fs ex H (upd H a o) h h' where
 keep:=λb u q _ _ _=>k b u q
 slot:=λb u q _ _ _=>⟨u.slots,k b u q⟩
 free:=λb u q n _=>by rw [dz (fH (gz (cE q) hp))];exact n
 there:=λb u q _=>⟨u,k b u q⟩
 dN:=λb xs q=>by rw [dz (nC q hn)];exact q
 dF:=λb u xs q=>by rw [dz (nC q hn)];exact q
 dO:=λb ps q=>⟨#[],by rw [dz (nC q hn),q];simp⟩
theorem Un.write(mu:zA (H x))(he:e=x\/H e=some (.own x))(k:∀b u,b≠e->h.get? b=some u->h'.get? b=some u)(qZ:∃u,h'.get? e=some u):Un fs ex H (upd H x o) h h':=by
 have hx:∀b,H b=none->b≠x:=λb n z=>by subst z;rw [n] at mu;exact mu
 have hb:∀b,H b=none->b≠e:=λb n z=>by
  subst z
  rcases he with r | r
  .exact hx b n r
  .rw [n] at r;cases r
 have hm:∀b u,H b=some u->¬zA (some u)->b≠x:=λb u q nm z=>by subst z;rw [q] at mu;exact nm mu
 refine ⟨λb u q n _ _=>k b u (hb b n) q,λb u q n _ _=>⟨u.slots,k b u (hb b n) q⟩,λb u q n _=>by rw [dz (hx b n)];exact n,λb u q _=>?_,
  λb xs q=>by rw [dz (hm b _ q λz=>z)];exact q,λb u xs q=>by rw [dz (hm b _ q λz=>z)];exact q,λb ps q=>⟨#[],by rw [dz (hm b _ q λz=>z),q];simp⟩⟩
 by_cases pN:b=e
 .subst pN;exact qZ
 .exact ⟨u,k b u pN q⟩
theorem Un.mono(u:Un fs ex H H1 h h1)(hs:∀b∈fs,b∈Bh)(hx:∀b∈ex,b∈FD):Un Bh FD H H1 h h1:=
 ⟨λb ob q n hb he=>u.keep b ob q n (λz=>hb (hs b z)) λz=>he (hx b z),λ_ _ q n _ he=>u.any q n λz=>he (hx _ z),λb ob q n he=>u.free b ob q n λz=>he (hx b z),λb ob q he=>u.there b ob q λz=>he (hx b z),u.dN,u.dF,u.dO⟩
end
def w8(h:Heap)(H:Hp):List Addr:=(jv h.objs.size).filter λa=>(H a).isSome
def gi(h:Heap)(H:Hp):Heap:=PySem.W.hideAll h (w8 h H)
theorem SH(h:Heap)(H:Hp):(gi h H).objs.size=h.objs.size:=PySem.W.hideAll_size _ _
theorem RE(e:h.get? b=some o)(n:H b=none):(gi h H).get? b=some o:=
 PySem.W.hideAll_get _ e λhm=>by
  have q:(H b).isSome=true:=(List.mem_filter.mp hm).2
  rw [n] at q;simp at q
theorem Qx(e:(gi h H).get? b=some o):h.get? b=some o/\H b=none:=by
 have e':h.get? b=some o:=PySem.W.of_hideAll (w8 h H) e
 refine ⟨e',?_⟩
 cases q:H b with
 | none=>rfl
 | some x =>
  have hm:b∈w8 h H:=List.mem_filter.mpr ⟨yn.mpr (cE e'),by simp [q]⟩
  have z:(gi h H).get? b=none:=PySem.W.hideAll_none (w8 h H) hm
  rw [z] at e;cases e
def QN(g h:Heap)(L:Addr):List (Addr×Obj):=(jv h.objs.size).filterMap λa=>if a=L\/(g.get? a).isSome=true then none else (h.get? a).map λo=>(a,o)
def rest(g h:Heap)(L d:Addr):List (Addr×Obj):=(QN g h L).filter λp=>decide (p.1≠d)
end L2
namespace L2
open PySem PySem.Spec PyProof.Rows
structure Mod(K:aC)(mg:Str->Option Value)(base:Heap):Prop where
 Ar:K.In base
 glob:base.Ns mainGlobals mg
 blt:∃mb,base.Ns builtinsNs mb/\∀x:Str,x ≠ "__name__" -> mb x=bootBuiltins x
 nolimit:base.NoLimit
 bmod:∃bm ob,mg "__builtins__" = some (.ref bm)/\bm≠builtinsNs/\base.get? bm=some ob/\ob.cls=.type "module" /\ ob.dict=some builtinsNs/\ob.data=.plain
structure Cx where
 prog:Program
 w:World
 K:aC
 mg:Str->Option Value
 base:Heap
 A:Around
 N:List Str
 bX:Shared
 lQ:Hp
 env:Env
 outer:List Env
 stack:List Env
 ex:List Addr
 fn:Str->Bool
 calm:Bool
 pn:List (Addr×Obj)
 xe:Value->Shared->Prop
def lq(l:List Env):List Addr:=l.filterMap (·.frame)
abbrev Cx.fs(X:Cx):List Addr:=lq X.outer
def fY(sc:Scope)(x:Str):Prop:=sc.names.lookup x=some .local\/sc.names.lookup x=some .cell\/sc.names.lookup x=some .free
def Loc(sc:Scope)(x:Str):Prop:=sc.names.lookup x=some .local\/sc.names.lookup x=some .cell
def Look(env:Env)(h:Heap)(m:Str->Option Value)(x:Str)(u:Value):Prop:=
 (env.kindOf x=some .local/\m x=some u)\/((env.kindOf x=some .cell\/env.kindOf x=some .free)/\∃c,env.cells.lookup x=some c/\h.IsCell c (some u))
structure Cx.Ok(X:Cx):Prop where
 mod:Mod X.K X.mg X.base
 kind:X.env.scope.kind=.function
 glob:X.env.globals=mainGlobals
 blt:X.env.builtins=builtinsNs
 above:X.bX.heap.objs.size<=X.env.locals
 inj:∀x y c,X.env.cells.lookup x=some c->X.env.cells.lookup y=some c->x=y
 has:∀x,(X.env.kindOf x=some .cell\/X.env.kindOf x=some .free)->∃c,X.env.cells.lookup x=some c
 vh:∀x c,X.fn x=true->X.env.cells.lookup x=some c->X.bX.heap.objs.size<=c
 hd:X.calm=true->X.A.handled=none
 frames:X.A.frames=some X.stack
 xc:X.stack=X.outer\/(X.stack=X.env::X.outer/\X.env.frame=some X.env.locals)
 FC:∀b∈X.ex,b≠X.env.locals/\∀x c,X.env.cells.lookup x=some c->c≠b
 bs:∀b o,X.base.get? b=some o->X.bX.heap.get? b=some o/\X.lQ b=none
 lC:X.base.objs.size<=X.bX.heap.objs.size
 kQ:∀b o,X.base.get? b=some o->b∉X.ex
 mT:∀b∈X.ex,b∉X.fs
 dU:X.bX.heap.FunFrames X.base X.outer
 n0:∀b∈X.fs,X.lQ b=none
structure Inv(X:Cx)(pins:List (Addr×Obj))(σ:List (Option V))(H:Hp)(s:Shared):Prop where
 ok:X.Ok
 os:s.os=X.bX.os
 bare:AllBare s.gens
 base:Un X.fs X.ex X.lQ H X.bX.heap s.heap
 loc:∃m,s.heap.Ns X.env.locals m/\∀(i:Nat) (x:Str) (v:V),X.N[i]?=some x->σ[i]?=some (some v)->fY X.env.scope x->∃u,RelV v u/\Look X.env s.heap m x u
 cell:∀x c,X.env.cells.lookup x=some c->∃v,s.heap.IsCell c v
 free:H X.env.locals=none
 dh:∀x c,X.env.cells.lookup x=some c->H c=none
 pin:∀p∈X.pn++pins,s.heap.get? p.1=some p.2/\H p.1=none/\p.1≠X.env.locals/\p.1∉X.fs/\∀v,p.2.data≠.cell v
 bw:fq X.prog X.w H s.heap
 len:σ.length=X.N.length
section
variable {X:Cx}{pins:List (Addr×Obj)}{σ:List (Option V)}{H H':Hp}{s:Shared}{h':Heap}
theorem Cx.Ok.An(ok:X.Ok)(e:X.base.get? b=some o):b∉X.fs:=λhb=>by
 have:=(ok.dU.mem hb).1
 rw [e] at this;cases this
theorem Inv.bs(I:Inv X pins σ H s):∀b o,X.base.get? b=some o->s.heap.get? b=some o/\H b=none:=λb o e =>
 ⟨I.base.keep b o (I.ok.bs b o e).1 (I.ok.bs b o e).2 (I.ok.An e) (I.ok.kQ b o e),I.base.free b o (I.ok.bs b o e).1 (I.ok.bs b o e).2 (I.ok.kQ b o e)⟩
theorem Inv.bk(I:Inv X pins σ H s):∀b o,X.base.get? b=some o->s.heap.get? b=some o:=λb o e=>(I.bs b o e).1
theorem Inv.mod(I:Inv X pins σ H s):Mod X.K X.mg X.base:=I.ok.mod
theorem Inv.qU(I:Inv X pins σ H s):X.K.In s.heap:=I.ok.mod.Ar.keeps I.bk
theorem Inv.nolimit(I:Inv X pins σ H s):s.heap.NoLimit:=I.ok.mod.nolimit.keeps I.bk
theorem Inv.fr(I:Inv X pins σ H s):∃m,Fr X.base X.env.locals s.heap m:=
 let ⟨m,hn,_⟩:=I.loc
 ⟨m,hn,I.bk,et I.ok.lC I.ok.above⟩
theorem Inv.lt(I:Inv X pins σ H s):X.env.locals<s.heap.objs.size:=let ⟨_,hn,_⟩:=I.loc;hn.lt
theorem Inv.sz(I:Inv X pins σ H s):X.bX.heap.objs.size<=s.heap.objs.size:=et I.ok.above (xN I.lt)
theorem Inv.Am(I:Inv X pins σ H s){a:Addr}(h:s.heap.objs.size<=a):a∉X.fs:=λhb=>by
 obtain ⟨_,o,ho,_⟩:=I.ok.dU.mem hb
 exact absurd (gz (cE ho) (et I.sz h)) (mZ _)
theorem Inv.pW(I:Inv X pins σ H s):∀x c,X.env.cells.lookup x=some c->c≠X.env.locals:=λx c e z=>by
 obtain ⟨v,o,ho,hd⟩:=I.cell x c e
 obtain ⟨m,⟨o',es,ep,mP,uC,_⟩,_⟩:=I.loc
 rw [z,mP] at ho;cases ho;rw [uC] at hd;cases hd
theorem Inv.dU(I:Inv X pins σ H s):s.heap.FunFrames X.base X.outer:=by
 have all:∀(l:List Env),(∀b∈lq l,b∈X.fs)->X.bX.heap.FunFrames X.base l->s.heap.FunFrames X.base l:=by
  intro l
  induction l with
  | nil=>intro _ _;trivial
  | cons env r ih =>
   intro hs hl
   obtain ⟨hk,⟨L,o,hf,hn,ho,hd⟩,hr⟩:=hl
   have hL:L∈X.fs:=hs L (by unfold lq;rw [B7,hf];exact cP)
   obtain ⟨sl,e⟩:=I.base.slot L o ho (I.ok.n0 L hL) hL λz=>I.ok.mT L z hL
   exact ⟨hk,⟨L,_,hf,hn,e,hd⟩,ih (λb hb=>hs b (by unfold lq;rw [B7,hf];exact dj _ hb)) hr⟩
 exact all X.outer (λ_ hb=>hb) I.ok.dU
theorem Inv.stack(I:Inv X pins σ H s):s.heap.FunFrames X.base X.stack:=by
 rcases I.ok.xc with e | ⟨e,hf⟩
 .rw [e];exact I.dU
 .rw [e]
  obtain ⟨m,hn,_⟩:=I.loc
  refine .cons (by rw [I.ok.kind];decide) hf hn ?_ I.dU
  exact Heap.get?_none_of_le (et I.ok.lC I.ok.above)
theorem Inv.gc(I:Inv X pins σ H s):∀b∈lq X.stack,b∈X.env.locals::X.fs:=λb hb=>by
 rcases I.ok.xc with e | ⟨e,hf⟩
 .rw [e] at hb;exact dj _ hb
 .rw [e] at hb
  unfold lq at hb
  rw [B7,hf] at hb
  exact hb
theorem Inv.jo(I:Inv X pins σ H s):∀b∈lq X.stack,H b=none:=λb hb=>by
 rcases cU.mp (I.gc b hb) with e | hb
 .rw [e];exact I.free
 .obtain ⟨_,o,ho,_⟩:=I.ok.dU.mem hb
  exact I.base.free b o ho (I.ok.n0 b hb) λz=>I.ok.mT b z hb
theorem Inv.step{g':Array GenState}{t':Nat}{d':Drawn}{ch:List Addr}(I:Inv X pins σ H s)
  (lZ:∀b∈ch,(b∈X.ex\/X.bX.heap.objs.size<=b)/\b≠X.env.locals/\(∀x c,X.env.cells.lookup x=some c->c≠b)/\∀p∈X.pn++pins,p.1≠b)
  (keep:∀b o,b≠X.env.locals->b∉X.fs->b∉ch->s.heap.get? b=some o->H b=none->h'.get? b=some o)
  (slot:∀b o,b≠X.env.locals->b∈X.fs->b∉ch->s.heap.get? b=some o->H b=none->∃sl,h'.get? b=some { o with slots:=sl })(free:∀b o,b∉ch->s.heap.get? b=some o->H b=none->H' b=none)
  (there:∀b o,b∉ch->s.heap.get? b=some o->∃o',h'.get? b=some o')
  (dN:∀b xs,H b=some (.tup xs)->H' b=some (.tup xs))(dF:∀b o u,H b=some (.gx o u)->H' b=some (.gx o u))(dO:∀b ps,H b=some (.o6 ps)->∃more,H' b=some (.o6 (ps++more)))
  (ns:∀m,s.heap.Ns X.env.locals m->h'.Ns X.env.locals m)(bw:fq X.prog X.w H' h')(hg:AllBare g'):
  Inv X pins σ H' { s with heap:=h',gens:=g',drawn:=d',toks:=t' }:=by
 have EY:∀b o,X.bX.heap.get? b=some o->b≠X.env.locals:=λb o e=>fH (gz (cE e) I.ok.above)
 have xj:∀b o,X.bX.heap.get? b=some o->b∉X.ex->b∉ch:=λb o e hx hb=>by
  rcases (lZ b hb).1 with z | z
  .exact hx z
  .exact absurd (gz (cE e) z) (mZ _)
 have cellK:∀x c,X.env.cells.lookup x=some c->∀v,s.heap.IsCell c v->h'.IsCell c v:=λx c e v ⟨o,ho,hd⟩=>by
  have tR:c∉ch:=λz=>(lZ c z).2.2.1 x c e rfl
  by_cases hc:c∈X.fs
  .obtain ⟨sl,q⟩:=slot c o (I.pW x c e) hc tR ho (I.dh x c e)
   exact ⟨_,q,hd⟩
  .exact ⟨o,keep c o (I.pW x c e) hc tR ho (I.dh x c e),hd⟩
 refine ⟨I.ok,I.os,hg,⟨λb o e n hb hx=>?_,λb o e n hb hx=>?_,λb o e n hx=>?_,λb o e hx=>?_,λb xs e=>dN b xs (I.base.dN b xs e),λb o xs e=>dF b o xs (I.base.dF b o xs e),λb ps e=>?_⟩,?_,λx c e=>?_,?_,λx c e=>?_,λp hp=>?_,bw,I.len⟩
 .exact keep b o (EY b o e) hb (xj b o e hx) (I.base.keep b o e n hb hx) (I.base.free b o e n hx)
 .obtain ⟨sl,e1⟩:=I.base.slot b o e n hb hx
  obtain ⟨zZ,e2⟩:=slot b _ (EY b o e) hb (xj b o e hx) e1 (I.base.free b o e n hx)
  exact ⟨zZ,e2⟩
 .obtain ⟨o',e1⟩:=I.base.there b o e hx
  exact free b o' (xj b o e hx) e1 (I.base.free b o e n hx)
 .obtain ⟨o',e1⟩:=I.base.there b o e hx
  exact there b o' (xj b o e hx) e1
 .obtain ⟨m1,e1⟩:=I.base.dO b ps e
  obtain ⟨m2,e2⟩:=dO b _ e1
  exact ⟨m1++m2,by rw [e2,F0]⟩
 .obtain ⟨m,hn,hl⟩:=I.loc
  refine ⟨m,ns m hn,λi x v e1 e2 e3=>?_⟩
  obtain ⟨u,r,l⟩:=hl i x v e1 e2 e3
  refine ⟨u,r,?_⟩
  rcases l with l | ⟨k,c,e,z⟩
  .exact .inl l
  .exact .inr ⟨k,c,e,cellK x c e _ z⟩
 .obtain ⟨v,z⟩:=I.cell x c e
  exact ⟨v,cellK x c e v z⟩
 .obtain ⟨m,⟨o,_,_,ho,_⟩,_⟩:=I.loc
  exact free _ o (λz=>(lZ _ z).2.1 rfl) ho I.free
 .obtain ⟨v,o,ho,hd⟩:=I.cell x c e
  exact free c o (λz=>(lZ c z).2.2.1 x c e rfl) ho (I.dh x c e)
 .obtain ⟨e,n,ne,nf,d⟩:=I.pin p hp
  have tR:p.1∉ch:=λz=>(lZ p.1 z).2.2.2 p hp rfl
  exact ⟨keep p.1 p.2 ne nf tR e n,free p.1 p.2 tR e n,ne,nf,d⟩
theorem Inv.un(I:Inv X pins σ H s)(u:Un X.fs [] H H' s.heap h')(bw:fq X.prog X.w H' h'):Inv X pins σ H' { s with heap:=h',toks:=t' }:=by
 obtain ⟨m,⟨o,es,ep,ho,r⟩,_⟩:=id I.loc
 obtain ⟨sl,hL⟩:=u.any ho I.free (by simp)
 exact I.step (g':=s.gens) (d':=s.drawn) (ch:=[]) (λ_ z=>nomatch z) (λb o _ hb _ e n=>u.keep b o e n hb (by simp)) (λb o _ hb _ e n=>u.slot b o e n hb (by simp)) (λb o _ e n=>u.free b o e n (by simp)) (λb o _ e=>u.there b o e (by simp)) u.dN u.dF u.dO (λm' hm=>by
  obtain ⟨o',Bm,Bn,mP,r'⟩:=hm
  rw [ho] at mP;cases mP
  exact ⟨_,Bm,Bn,hL,r'⟩) bw I.bare
theorem Inv.call(I:Inv X pins σ H s)(u:Un (lq X.stack) ch H H' s.heap h')(bw:fq X.prog X.w H' h')(hg:AllBare g')
  (lZ:∀b∈ch,(b∈X.ex\/X.bX.heap.objs.size<=b)/\b≠X.env.locals/\(∀x c,X.env.cells.lookup x=some c->c≠b)/\∀p∈X.pn++pins,p.1≠b):
  Inv X pins σ H' { s with heap:=h',gens:=g',drawn:=d',toks:=t' }:=by
 obtain ⟨m,⟨o,es,ep,ho,r⟩,_⟩:=id I.loc
 obtain ⟨sl,hL⟩:=u.any ho I.free λz=>(lZ _ z).2.1 rfl
 exact I.step (ch:=ch) lZ (λb o hL hb hc e n=>u.keep b o e n (λz=>(cU.mp (I.gc b z)).elim hL hb) hc) (λb o _ _ hc e n=>u.any e n hc) (λb o hc e n=>u.free b o e n hc) (λb o hc e=>u.there b o e hc) u.dN u.dF u.dO (λm' hm=>by
  obtain ⟨o',Bm,Bn,mP,r'⟩:=hm
  rw [ho] at mP;cases mP
  exact ⟨_,Bm,Bn,hL,r'⟩) bw hg
theorem Inv.turned(I:Inv X pins σ H s)(k:∀b o,b≠it->s.heap.get? b=some o->h'.get? b=some o)(hn:H it=none)(hL:it≠X.env.locals)
  (h1:it∈X.ex\/X.bX.heap.objs.size<=it)(h2:∀x c,X.env.cells.lookup x=some c->c≠it)(h3:∀p∈X.pn++pins,p.1≠it):Inv X pins σ H { s with heap:=h',toks:=t' }:=by
 have EX:∀b u,H b=some u->b≠it:=λb u e z=>by rw [z,hn] at e;cases e
 refine I.step (g':=s.gens) (d':=s.drawn) (ch:=[it]) (λb hb=>?_) (λb o _ _ hc e _=>k b o (λz=>hc (by simp [z])) e) (λb o _ _ hc e _=>⟨o.slots,k b o (λz=>hc (by simp [z])) e⟩) (λ_ _ _ _ n=>n)
  (λb o hc e=>⟨o,k b o (λz=>hc (by simp [z])) e⟩) (λ_ _ e=>e) (λ_ _ _ e=>e) (λb ps e=>⟨#[],by rw [e];simp⟩) (λm hm=>?_) (λb u e=>?_) I.bare
 .have e:b=it:=by simpa using hb
  subst e
  exact ⟨h1,hL,h2,h3⟩
 .obtain ⟨o,es,ep,ho,r⟩:=hm
  exact ⟨o,es,ep,k _ o (km hL) ho,r⟩
 .refine (I.bw b u e).jH (λc v hc q=>k c v ?_ q) (λ_ _ _ q=>q) λ_ _ q=>q
  rcases hc with z | z
  .rw [z];exact EX b u e
  .exact EX c _ z
theorem Inv.tok(I:Inv X pins σ H s)(t:Nat):Inv X pins σ H { s with toks:=t }:=I.un (h':=s.heap) (t':=t) Un.refl I.bw
theorem Inv.kept(I:Inv X pins σ H s)(k:∀b u,s.heap.get? b=some u->h'.get? b=some u):Inv X pins σ H { s with heap:=h',toks:=t' }:=I.un (Un.kept k) (I.bw.kept k)
theorem Inv.laid{a:Addr}{o:HO}{t':Nat}(I:Inv X pins σ H s)(k:∀b u,s.heap.get? b=some u->h'.get? b=some u)(hp:s.heap.objs.size<=a)(new:cf X.prog X.w (upd H a o) h' a o):
  Inv X pins σ (upd H a o) { s with heap:=h',toks:=t' }:=I.un (Un.laid k hp (I.bw.fresh hp)) (I.bw.laid k hp new)
theorem Inv.write(I:Inv X pins σ H s)(mu:zA (H x))(he:e=x\/H e=some (.own x))(k:∀b u,b≠e->s.heap.get? b=some u->h'.get? b=some u)(qZ:∃u,h'.get? e=some u)
  (new:cf X.prog X.w (upd H x o) h' x o):Inv X pins σ (upd H x o) { s with heap:=h',toks:=t' }:=I.un (Un.write mu he k qZ) (I.bw.write mu he k qZ new)
theorem Inv.dB(I:Inv X pins σ H s)(h:∀p∈tB,s.heap.get? p.1=some p.2/\H p.1=none/\p.1≠X.env.locals/\p.1∉X.fs/\∀v,p.2.data≠.cell v):Inv X tB σ H s:=
 ⟨I.ok,I.os,I.bare,I.base,I.loc,I.cell,I.free,I.dh,λp hp=>(bR.mp hp).elim (λz=>I.pin p (dX _ z)) (h p),I.bw,I.len⟩
theorem HC{N:List Str}(hN:N.Nodup){i j:Nat}{x:Str}(a:N[i]?=some x)(b:N[j]?=some x):i=j:=by
 obtain ⟨h1,e1⟩:=lK.mp a
 obtain ⟨h2,e2⟩:=lK.mp b
 exact (List.getElem_inj hN).mp (e1.trans e2.symm)
theorem ID(I:Inv X pins σ H s)(hN:X.N.Nodup)(hi:X.N[i]?=some x)(hx:Loc X.env.scope x)(r:RelV v u)
  (h:∀s',Inv X pins (σ.set i (some v)) H s'->(∃a,xM a s.heap s'.heap/\(a=X.env.locals\/X.env.cells.lookup x=some a))->Q () s')(hf:X.fn x=true\/X.env.scope.names.lookup x=some .local:=by first | exact .inl rfl | exact .inr rfl | assumption):wpAny M A (storeName X.env x u) Q E s:=by
 obtain ⟨m,hn,hl⟩:=id I.loc
 have A6:(X.env.scope.kind==.class||(X.env.scope.kind==.module&&X.env.locals != X.env.globals))=false:=by rw [I.ok.kind];rfl
 have uw:i<σ.length:=by rw [I.len];exact (lK.mp hi).1
 have pW:=I.pW
 have tracked:∀{a:Addr} {h':Heap},(∃o,s.heap.get? a=some o/\H a=none)->xM a s.heap h'->fq X.prog X.w H h':=λ{a h'} ha hs b ob e=>by
  obtain ⟨_,_,nW⟩:=ha
  refine (I.bw b ob e).jH (λc w' hc q=>(hs.2 c ?_).trans q) (λ_ _ _ q=>q) λ_ _ q=>q
  rintro rfl
  rcases hc with rfl | hc
  .rw [nW] at e;cases e
  .rw [nW] at hc;cases hc
 rcases hx with hk | hk
 .refine wpAny_storeName_local hk hn (λh' M1 hs=>?_) A6
  obtain ⟨oL,_,_,MZ,_⟩:=id hn
  refine h _ ⟨I.ok,I.os,I.bare,⟨λb o e n hb hx=>?_,λb o e n hb hx=>?_,I.base.free,λb o e hx=>?_,I.base.dN,I.base.dF,I.base.dO⟩,⟨_,M1,λj y v' e1 e2 e3=>?_⟩,λy c e=>?_,I.free,I.dh,λp hp=>?_,tracked ⟨oL,MZ,I.free⟩ hs,by simpa using I.len⟩ ⟨_,hs,.inl rfl⟩
  .exact (hs.2 b (fH (gz (cE e) I.ok.above))).trans (I.base.keep b o e n hb hx)
  .obtain ⟨sl,e1⟩:=I.base.slot b o e n hb hx
   exact ⟨sl,(hs.2 b (fH (gz (cE e) I.ok.above))).trans e1⟩
  .obtain ⟨o',e1⟩:=I.base.there b o e hx
   exact ⟨o',(hs.2 b (fH (gz (cE e) I.ok.above))).trans e1⟩
  .by_cases hj:j=i
   .subst hj
    rw [hi] at e1;cases e1
    rw [fU uw] at e2
    cases e2
    exact ⟨u,r,.inl ⟨hk,by simp⟩⟩
   .rw [fh (km hj)] at e2
    obtain ⟨u',r',q⟩:=hl j y v' e1 e2 e3
    refine ⟨u',r',?_⟩
    rcases q with ⟨k,e⟩ | ⟨k,c,e,z⟩
    .refine .inl ⟨k,?_⟩
     have:y≠x:=λe=>hj (HC hN e1 (e▸hi))
     simp [this,e]
    .exact .inr ⟨k,c,e,z.sameBut hs (pW y c e)⟩
  .obtain ⟨w',z⟩:=I.cell y c e
   exact ⟨w',z.sameBut hs (pW y c e)⟩
  .obtain ⟨e,n,ne,nf,d⟩:=I.pin p hp
   exact ⟨(hs.2 p.1 ne).trans e,n,ne,nf,d⟩
 .have A2:X.fn x=true:=by
   rcases hf with z | z
   .exact z
   .rw [z] at hk;cases hk
  obtain ⟨c,hc⟩:=I.ok.has x (.inl hk)
  obtain ⟨w',z⟩:=I.cell x c hc
  refine wpAny_storeName_cell I.ok.kind hk hc z (λh' nY hs=>?_)
  obtain ⟨oc,Fc,AS⟩:=id z
  refine h { s with heap:=h' } ⟨I.ok,I.os,I.bare,⟨λb o e n hb hx=>?_,λb o e n hb hx=>?_,I.base.free,λb o e hx=>?_,I.base.dN,I.base.dF,I.base.dO⟩,⟨m,hn.sameBut hs (km (pW x c hc)),λj y v' e1 e2 e3=>?_⟩,λy c' e=>?_,I.free,I.dh,λp hp=>?_,tracked ⟨oc,Fc,I.dh x c hc⟩ hs,by simpa using I.len⟩ ⟨c,hs,.inr hc⟩
  .exact (hs.2 b (fH (gz (cE e) (I.ok.vh x c A2 hc)))).trans (I.base.keep b o e n hb hx)
  .obtain ⟨sl,e1⟩:=I.base.slot b o e n hb hx
   exact ⟨sl,(hs.2 b (fH (gz (cE e) (I.ok.vh x c A2 hc)))).trans e1⟩
  .obtain ⟨o',e1⟩:=I.base.there b o e hx
   exact ⟨o',(hs.2 b (fH (gz (cE e) (I.ok.vh x c A2 hc)))).trans e1⟩
  .by_cases hj:j=i
   .subst hj
    rw [hi] at e1;cases e1
    rw [fU uw] at e2
    cases e2
    exact ⟨u,r,.inr ⟨.inl hk,c,hc,nY⟩⟩
   .rw [fh (km hj)] at e2
    obtain ⟨u',r',q⟩:=hl j y v' e1 e2 e3
    refine ⟨u',r',?_⟩
    rcases q with q | ⟨k,c',e,z'⟩
    .exact .inl q
    .refine .inr ⟨k,c',e,z'.sameBut hs ?_⟩
     rintro rfl
     exact hj (HC hN e1 (I.ok.inj _ _ _ e hc▸hi))
  .by_cases Fk:c'=c
   .subst Fk;exact ⟨_,nY⟩
   .obtain ⟨w2,z2⟩:=I.cell y c' e
    exact ⟨w2,z2.sameBut hs Fk⟩
  .obtain ⟨e,n,ne,nf,d⟩:=I.pin p hp
   refine ⟨(hs.2 p.1 ?_).trans e,n,ne,nf,d⟩
   intro q
   rw [q,Fc] at e
   have q':oc=p.2:=bQ e
   exact d w' (by rw [<-q'];exact AS)
theorem Dd(I:Inv X pins σ H s)(hN:X.N.Nodup)(hi:X.N[i]?=some x)(hx:Loc X.env.scope x)(r:RelV v u)
  (h:∀s',Inv X pins (σ.set i (some v)) H s'->Q () s')(hf:X.fn x=true\/X.env.scope.names.lookup x=some .local:=by first | exact .inl rfl | exact .inr rfl | assumption):wpAny M A (storeName X.env x u) Q E s:=
 ID I hN hi hx r (λs' I' _=>h s' I') hf
theorem Inv.vg(I:Inv X pins σ H s)(ho:s'.os=s.os)(u:Un (lq X.stack) ch H H' s.heap s'.heap)(bw:fq X.prog X.w H' s'.heap)(hg:AllBare s'.gens)
  (lZ:∀b∈ch,(b∈X.ex\/X.bX.heap.objs.size<=b)/\b≠X.env.locals/\(∀x c,X.env.cells.lookup x=some c->c≠b)/\∀p∈X.pn++pins,p.1≠b):Inv X pins σ H' s':=by
 obtain ⟨h',g',d',t',o'⟩:=s'
 have e:o'=s.os:=ho
 subst e
 exact I.call (g':=g') (t':=t') (d':=d') u bw hg lZ
end
abbrev XK:=Value->Option Addr->Hp->Prop
abbrev St:=List (Option V)
abbrev VK:=V->Hp->Prop
abbrev TE:=St->Hp->VK->Prop
abbrev TT:=St->Hp->(Bool->Hp->Prop)->Prop
abbrev TA:=St->Hp->(List V->Hp->Prop)->Prop
structure Ends where
 nx:St->Hp->Prop
 rt:VK
 bk:St->Hp->Prop:=λ_ _=>False
 ct:St->Hp->Prop:=λ_ _=>False
abbrev TS:=Ends->St->Hp->Prop
def EP(X:Cx)(pins:List (Addr×Obj))(σ:St)(Q:VK)(u:Value)(s':Shared):Prop:=∃v H',Inv X pins σ H' s'/\RelV v u/\Q v H'
def TP(X:Cx)(pins:List (Addr×Obj))(σ:St)(Q:Bool->Hp->Prop)(b:Bool)(s':Shared):Prop:=∃H',Inv X pins σ H' s'/\Q b H'
def AP(X:Cx)(pins:List (Addr×Obj))(σ:St)(Q:List V->Hp->Prop)(us:List Value)(s':Shared):Prop:=∃vs H',Inv X pins σ H' s'/\aq vs us/\Q vs H'
def SP(X:Cx)(pins:List (Addr×Obj))(D:Ends)(f:Flow)(s':Shared):Prop:=
 match f with
 | .next=>∃aA H',Inv X pins aA H' s'/\D.nx aA H'
 | .brk=>∃aA H',Inv X pins aA H' s'/\D.bk aA H'
 | .cont=>∃aA H',Inv X pins aA H' s'/\D.ct aA H'
 | .ret u=>∃v aA H',Inv X pins aA H' s'/\RelV v u/\D.rt v H'
def PE(X:Cx)(e:Expr)(t:TE):Prop:=
 ∀(pins:List (Addr×Obj)) (s:Shared) (σ:St) (H:Hp) (Q:VK),Inv X pins σ H s->t σ H Q->wpAny (model X.prog X.w) X.A (eval e X.env) (EP X pins σ Q) X.xe s
def PT(X:Cx)(e:Expr)(t:TT):Prop:=
 ∀(pins:List (Addr×Obj)) (s:Shared) (σ:St) (H:Hp) (Q:Bool->Hp->Prop),Inv X pins σ H s->t σ H Q->wpAny (model X.prog X.w) X.A (isTrue e X.env (eval e X.env)) (TP X pins σ Q) X.xe s
def PW(X:Cx)(e:Expr)(t:TT):Prop:=
 ∀(whole:Sem Value) (pins:List (Addr×Obj)) (s:Shared) (σ:St) (H:Hp) (Q:Bool->Hp->Prop),Inv X pins σ H s->t σ H Q->wpAny (model X.prog X.w) X.A (isTrue e X.env whole) (TP X pins σ Q) X.xe s
theorem PW.pt(h:PW X e t):PT X e t:=h _
def PA(X:Cx)(es:List Expr)(t:TA):Prop:=
 ∀(pos:Pos) (pins:List (Addr×Obj)) (s:Shared) (σ:St) (H:Hp) (Q:List V->Hp->Prop),Inv X pins σ H s->t σ H Q->wpAny (model X.prog X.w) X.A (spliced (backTo pos (starEach es X.env))) (AP X pins σ Q) X.xe s
def PS(X:Cx)(st:Stmt)(t:TS):Prop:=
 ∀(pins:List (Addr×Obj)) (s:Shared) (σ:St) (H:Hp) (D:Ends),Inv X pins σ H s->t D σ H->wpAny (model X.prog X.w) X.A (exec st X.env) (SP X pins D) X.xe s
def jE(X:Cx)(st:List Stmt)(t:TS):Prop:=
 ∀(pins:List (Addr×Obj)) (s:Shared) (σ:St) (H:Hp) (D:Ends),Inv X pins σ H s->t D σ H->wpAny (model X.prog X.w) X.A (execs st X.env) (SP X pins D) X.xe s
theorem bu{α:Type}{t:Sem α}{Q Q':α->Shared->Prop}{M:Model}{A:Around}{E:Value->Shared->Prop}{s:Shared}(h:wpAny M A t Q E s)(hQ:∀a s,Q a s->Q' a s):wpAny M A t Q' E s:=jX h hQ λ_ _ x=>x
end L2
namespace L2
open PySem PySem.Spec PyProof.Rows
section
variable {X:Cx}
def sC(i:Nat):TE:=λσ H Q=>∃v,σ[i]?=some (some v)/\Q v H
def tC(v:V):TE:=λ_ H Q=>Q v H
theorem oG{i:Nat}{x:Str}{pos:Pos}(hN:X.N[i]?=some x)(hv:fY X.env.scope x)(hd:(x==("__debug__":Str))=false:=by decide)(cK:(x==("__classdict__":Str))=false:=by decide):PE X (.Name x pos) (sC i):=by
 intro pins s σ H Q I h
 obtain ⟨v,e,h⟩:=h
 obtain ⟨m,hn,hl⟩:=I.loc
 obtain ⟨u,r,l⟩:=hl i x v hN e hv
 have fin:EP X pins σ Q u s:=⟨v,H,I,r,h⟩
 rcases l with ⟨hk,hm⟩ | ⟨hk,c,hc,dE⟩
 .exact wpAny_Name (wpAny_loadName_local I.ok.kind hk hn hm fin) hd
 .rcases hk with hk | hk
  .exact wpAny_Name (wpAny_loadName_cell I.ok.kind hk hc dE fin) hd
  .exact wpAny_Name (wpAny_loadName_free I.ok.kind hk hc dE fin cK) hd
theorem PJ{i j pos}:PE X (.Constant (.int i) j pos) (tC (.int i)):=λ_ _ _ H _ I h=>wpAny_Constant_int ⟨.int i,H,I.tok _,⟨_,rfl⟩,h⟩
theorem tI{b j pos}:PE X (.Constant (.bool b) j pos) (tC (.bl b)):=λ_ _ _ H _ I h=>Constant_bool ⟨.bl b,H,I,rfl,h⟩
theorem PL{j pos}:PE X (.Constant .none j pos) (tC .aI):=λ_ _ _ H _ I h=>Constant_none ⟨.aI,H,I,rfl,h⟩
def Gl(X:Cx)(x:Str):Prop:=X.env.kindOf x=some .globalImplicit
theorem Qt{E:Value->Shared->Prop}{pins:List (Addr×Obj)}{s:Shared}{σ:St}{H:Hp}{x:Str}{u:Value}{pos:Pos}{Q:Value->Shared->Prop}(I:Inv X pins σ H s)(hg:Gl X x)(hm:X.mg x=some u)(h:Q u s)
  (hd:(x==("__debug__":Str))=false:=by decide):wpAny (model X.prog X.w) X.A (eval (.Name x pos) X.env) Q E s:=
 Gm I.ok.kind hg (Calls.loadGlobal_global (by rw [I.ok.glob];exact I.mod.glob.keeps I.bk) hm h) hd
theorem rM{E:Value->Shared->Prop}{pins:List (Addr×Obj)}{s:Shared}{σ:St}{H:Hp}{x:Str}{u:Value}{pos:Pos}{Q:Value->Shared->Prop}(I:Inv X pins σ H s)(hg:Gl X x)(hm:X.mg x=none)(hv:bootBuiltins x=some u)(h:Q u s)
  (hn:x ≠ "__name__":=by decide)(hd:(x==("__debug__":Str))=false:=by decide):wpAny (model X.prog X.w) X.A (eval (.Name x pos) X.env) Q E s:=by
 obtain ⟨mb,h1,h2⟩:=I.mod.blt
 exact Gm I.ok.kind hg (Calls.loadGlobal_builtin (by rw [I.ok.glob];exact I.mod.glob.keeps I.bk) hm (by rw [I.ok.blt];exact h1.keeps I.bk) ((h2 x hn).trans hv) h) hd
theorem QD{x:Str}{v:V}{u:Value}{pos:Pos}(hg:Gl X x)(hm:X.mg x=none)(hv:bootBuiltins x=some u)(r:RelV v u)(hn:x ≠ "__name__":=by decide)(hd:(x==("__debug__":Str))=false:=by decide):PE X (.Name x pos) (tC v):=
 λ_ _ _ H _ I h=>rM I hg hm hv ⟨v,H,I,r,h⟩ hn hd
variable {a b:Expr}{ta tb:TE}{pos:Pos}
variable {tA w9:TT}{rest:List Expr}
def zT(t u:TT):TT:=λσ H Q=>t σ H λc H1=>if c=true then u σ H1 Q else Q false H1
def Jx(t u:TT):TT:=λσ H Q=>t σ H λc H1=>if c=true then Q true H1 else u σ H1 Q
def zM(t:TT):TT:=λσ H Q=>t σ H λc H1=>Q (!c) H1
theorem QL(ha:PT X a tA):PW X (.BoolOp .And [a] pos) tA:=by
 intro wh pins s σ H Q I h
 refine isTrue_and (bu (ha pins s σ H Q I h) λc s1 e=>?_)
 cases c with
 | true=>exact isTrue_and_nil e
 | false=>exact e
theorem Qp(ha:PT X a tA):PW X (.BoolOp .Or [a] pos) tA:=by
 intro wh pins s σ H Q I h
 refine isTrue_or (bu (ha pins s σ H Q I h) λc s1 e=>?_)
 cases c with
 | false=>exact isTrue_or_nil e
 | true=>exact e
theorem Qo(ha:PT X a tA)(hb:PW X (.BoolOp .And (b::rest) pos) w9):PW X (.BoolOp .And (a::b::rest) pos) (zT tA w9):=by
 intro wh pins s σ H Q I h
 refine isTrue_and (bu (ha pins s σ H _ I h) λc s1 ⟨H1,I1,q1⟩=>?_)
 cases c with
 | true=>exact hb wh pins s1 σ H1 Q I1 q1
 | false=>exact ⟨H1,I1,q1⟩
theorem pw_or(ha:PT X a tA)(hb:PW X (.BoolOp .Or (b::rest) pos) w9):PW X (.BoolOp .Or (a::b::rest) pos) (Jx tA w9):=by
 intro wh pins s σ H Q I h
 refine isTrue_or (bu (ha pins s σ H _ I h) λc s1 ⟨H1,I1,q1⟩=>?_)
 cases c with
 | true=>exact ⟨H1,I1,q1⟩
 | false=>exact hb wh pins s1 σ H1 Q I1 q1
theorem Qn(ha:PT X a tA):PT X (.UnaryOp .Not a pos) (zM tA):=by
 intro pins s σ H Q I h
 exact isTrue_not (ha pins s σ H (λc H1=>Q (!c) H1) I h)
def sL(ta tb:TE):TE:=λσ H Q=>ta σ H λx H1=>∃c,x=.bl c/\if c=true then tb σ H1 Q else Q (.bl false) H1
def zL(ta tb:TE):TE:=λσ H Q=>ta σ H λx H1=>∃c,x=.bl c/\if c=true then Q (.bl true) H1 else tb σ H1 Q
def sF(ta:TE):TE:=λσ H Q=>ta σ H λx H1=>∃c,x=.bl c/\Q (.bl (!c)) H1
theorem PN{op}(h:PE X a t):PE X (.BoolOp op [a] pos) t:=λpins s σ H Q I hw=>BoolOp_one (h pins s σ H Q I hw)
theorem PF(ha:PE X a ta)(hb:PE X (.BoolOp .And (b::rest) pos) tb):PE X (.BoolOp .And (a::b::rest) pos) (sL ta tb):=by
 intro pins s σ H Q I h
 refine BoolOp_and (bu (ha pins s σ H _ I h) λv s1 ⟨x,H1,I1,r1,q1⟩=>?_)
 obtain ⟨c,rfl,q1⟩:=q1
 cases r1
 refine vo ?_
 cases c with
 | true=>exact hb pins s1 σ H1 Q I1 q1
 | false=>exact ⟨.bl false,H1,I1,rfl,q1⟩
theorem tF(ha:PE X a ta)(hb:PE X (.BoolOp .Or (b::rest) pos) tb):PE X (.BoolOp .Or (a::b::rest) pos) (zL ta tb):=by
 intro pins s σ H Q I h
 refine BoolOp_or (bu (ha pins s σ H _ I h) λv s1 ⟨x,H1,I1,r1,q1⟩=>?_)
 obtain ⟨c,rfl,q1⟩:=q1
 cases r1
 refine vo ?_
 cases c with
 | false=>exact hb pins s1 σ H1 Q I1 q1
 | true=>exact ⟨.bl true,H1,I1,rfl,q1⟩
theorem PM(ha:PE X a ta):PE X (.UnaryOp .Not a pos) (sF ta):=by
 intro pins s σ H Q I h
 refine UnaryOp_ (bu (ha pins s σ H _ I h) λv s1 ⟨x,H1,I1,r1,q1⟩=>?_)
 obtain ⟨c,rfl,q1⟩:=q1
 cases r1
 exact not_of (vo ⟨.bl (!c),H1,I1,rfl,q1⟩)
def Jy(t:TT)(ta tb:TE):TE:=λσ H Q=>t σ H λc H1=>if c=true then ta σ H1 Q else tb σ H1 Q
theorem Ro(hc:PT X c tA)(ha:PE X a ta)(hb:PE X b tb):PE X (.IfExp c a b pos) (Jy tA ta tb):=by
 intro pins s σ H Q I h
 refine wpAny_IfExp (bu (hc pins s σ H _ I h) λd s1 ⟨H1,I1,q1⟩=>?_)
 cases d with
 | true=>exact ha pins s1 σ H1 Q I1 q1
 | false=>exact hb pins s1 σ H1 Q I1 q1
end
end L2
namespace L2
open PySem PySem.Spec PyProof.Rows
def dg(K:aC)(H:Hp)(a:Addr)(xs:List V):Prop:=
 Rd H a (.lst xs) \/
  ∃(o:Obj) (ao:Array Value) (n:Nat),K.lookup a=some o/\o.cls=.type "list" /\ o.dict=none/\o.data=.seq ao n/\ao.size<=sizeLine/\aq xs ao.toList
def dv(K:aC)(H:Hp)(a:Addr)(xs:List V):Prop:=
 Rd H a (.tup xs) \/
  ∃(o:Obj) (ao:Array Value) (n:Nat),K.lookup a=some o/\o.cls=.type "tuple" /\ o.data=.seq ao n/\ao.size<=sizeLine/\aq xs ao.toList
def Cu:Value->Option V
 | .none=>some .aI
 | .bool b=>some (.bl b)
 | .int i _=>some (.int i)
 | .str x _=>some (.str x)
 | .bytes b _=>some (.vi b)
 | .float b _=>some (.uU b)
 | .ref a=>some (.ref a)
 | .type n=>some (.ty n)
 | _=>none
theorem RelV.abs(r:RelV x u):Cu u=some x:=by
 cases x with
 | aI=>cases r;rfl
 | bl _=>cases r;rfl
 | int _=>obtain ⟨t,rfl⟩:=r;rfl
 | str _=>obtain ⟨t,rfl⟩:=r;rfl
 | vi _=>obtain ⟨t,rfl⟩:=r;rfl
 | uU _=>obtain ⟨t,rfl⟩:=r;rfl
 | ref _=>cases r;rfl
 | ty _=>cases r;rfl
theorem RelV.inj(r:RelV x u)(q:RelV y u):x=y:=bQ (r.abs.symm.trans q.abs)
theorem aq.inj:∀{xs ys:List V} {us:List Value},aq xs us->aq ys us->xs=ys
 | _,_,_,.nil,.nil=>rfl
 | _,_,_,.cons r t,.cons r' t'=>by rw [r.inj r',aq.inj t t']
section
variable {X:Cx}{pins:List (Addr×Obj)}{σ:St}{H:Hp}{s:Shared}{a:Addr}{xs ys:List V}
theorem dg.of{K:aC}(h:H a=some (.lst xs)):dg K H a xs:=.inl (.inl h)
theorem dv.of{K:aC}(h:H a=some (.tup xs)):dv K H a xs:=.inl (.inl h)
theorem Inv.list(I:Inv X pins σ H s)(h:dg X.K H a xs):∃ao:List Value,aq xs ao/\PlainL s.heap a ao.toArray/\xs.length<=sizeLine:=by
 rcases h with h | ⟨o,ao,n,hk,hc,hd,hs,hz,r⟩
 .obtain ⟨z,ao,n,r,e⟩:=h.ok I.bw
  exact ⟨ao,r,⟨_,n,e,rfl,rfl,rfl⟩,z⟩
 .refine ⟨ao.toList,r,⟨o,n,I.qU a o hk,hc,hd,by simpa using hs⟩,?_⟩
  have e:=r.length
  simp only [gn] at e
  ext hz e
theorem Inv.tuple(I:Inv X pins σ H s)(h:dv X.K H a xs):∃ao:List Value,aq xs ao/\IsTup s.heap a ao.toArray/\xs.length<=sizeLine:=by
 rcases h with h | ⟨o,ao,n,hk,hc,hs,hz,r⟩
 .obtain ⟨z,ao,r,p⟩:=h.ok I.bw
  exact ⟨ao,r,p,z⟩
 .refine ⟨ao.toList,r,⟨o,I.qU a o hk,hc,n,by simpa using hs⟩,?_⟩
  have e:=r.length
  simp only [gn] at e
  ext hz e
theorem Inv.gH(I:Inv X pins σ H s)(h:dg X.K H a xs)(h':dg X.K H a ys):xs=ys:=by
 obtain ⟨ao,r,⟨o,n,e,_,_,d⟩,_⟩:=I.list h
 obtain ⟨its',r',⟨o',n',e',_,_,d'⟩,_⟩:=I.list h'
 rw [e] at e';cases e'
 rw [d] at d'
 injection d' with d1 _
 have:ao=its':=by simpa using congrArg Array.toList d1
 subst this
 exact r.inj r'
theorem Inv.fR(I:Inv X pins σ H s)(h:dv X.K H a xs)(h':dv X.K H a ys):xs=ys:=by
 obtain ⟨ao,r,⟨o,e,_,n,d⟩,_⟩:=I.tuple h
 obtain ⟨its',r',⟨o',e',_,n',d'⟩,_⟩:=I.tuple h'
 rw [e] at e';cases e'
 rw [d] at d'
 injection d' with d1 _
 have:ao=its':=by simpa using congrArg Array.toList d1
 subst this
 exact r.inj r'
end
abbrev Cx.eE(X:Cx)(E:Value->Shared->Prop):Cx:={ X with xe:=E }
abbrev Cx.mK(X:Cx):Cx:=X.eE λ_ _=>False
theorem Cx.Ok.eE{X:Cx}(ok:X.Ok)(E:Value->Shared->Prop):(X.eE E).Ok:=
 ⟨ok.mod,ok.kind,ok.glob,ok.blt,ok.above,ok.inj,ok.has,ok.vh,ok.hd,ok.frames,ok.xc,ok.FC,ok.bs,ok.lC,ok.kQ,ok.mT,ok.dU,ok.n0⟩
theorem Cx.Ok.cC{X:Cx}(ok:(X.eE E).Ok):X.Ok:=
 ⟨ok.mod,ok.kind,ok.glob,ok.blt,ok.above,ok.inj,ok.has,ok.vh,ok.hd,ok.frames,ok.xc,ok.FC,ok.bs,ok.lC,ok.kQ,ok.mT,ok.dU,ok.n0⟩
section
variable {X:Cx}{pins:List (Addr×Obj)}{σ:St}{H:Hp}{s:Shared}{E:Value->Shared->Prop}
theorem Inv.eE(I:Inv X pins σ H s)(E:Value->Shared->Prop):Inv (X.eE E) pins σ H s:=⟨I.ok.eE E,I.os,I.bare,I.base,I.loc,I.cell,I.free,I.dh,I.pin,I.bw,I.len⟩
theorem Inv.cC(I:Inv (X.eE E) pins σ H s):Inv X pins σ H s:=⟨I.ok.cC,I.os,I.bare,I.base,I.loc,I.cell,I.free,I.dh,I.pin,I.bw,I.len⟩
theorem SP.cC(h:SP (X.eE E) pins D f s'):SP X pins D f s':=by
 cases f with
 | next=>obtain ⟨aA,H',I,q⟩:=h;exact ⟨aA,H',I.cC,q⟩
 | brk=>obtain ⟨aA,H',I,q⟩:=h;exact ⟨aA,H',I.cC,q⟩
 | cont=>obtain ⟨aA,H',I,q⟩:=h;exact ⟨aA,H',I.cC,q⟩
 | ret u=>obtain ⟨v,aA,H',I,r,q⟩:=h;exact ⟨v,aA,H',I.cC,r,q⟩
theorem PE.mK(h:PE X.mK e t):PE X e t:=λpins s σ H Q I hw =>
 jX (h pins s σ H Q (I.eE _) hw) (λ_ _ ⟨v,H',I',r,q⟩=>⟨v,H',I'.cC,r,q⟩) λ_ _ z=>ip z
theorem PT.mK(h:PT X.mK e t):PT X e t:=λpins s σ H Q I hw =>
 jX (h pins s σ H Q (I.eE _) hw) (λ_ _ ⟨H',I',q⟩=>⟨H',I'.cC,q⟩) λ_ _ z=>ip z
theorem jE.mK{st:List Stmt}{t:TS}(h:jE X.mK st t):jE X st t:=λpins s σ H D I hw =>
 jX (h pins s σ H D (I.eE _) hw) (λ_ _ q=>q.cC) λ_ _ z=>ip z
end
section
variable {X:Cx}{st:Stmt}{rest:List Stmt}{t u:TS}{e:Expr}{te:TE}{pos:Pos}
def sG:TS:=λD σ H=>D.nx σ H
def zJ(t u:TS):TS:=λD σ H=>t { D with nx:=u D } σ H
theorem QH:jE X [] sG:=λ_ _ σ H _ I h=>yd ⟨σ,H,I,h⟩
theorem Ru(h1:PS X st t)(h2:jE X rest u):jE X (st::rest) (zJ t u):=by
 intro pins s σ H D I h
 refine wpAny_execs_cons (bu (h1 pins s σ H { D with nx:=u D } I h) λf s1 q=>?_)
 cases f with
 | next =>
  obtain ⟨aA,H',I',q⟩:=q
  exact h2 pins s1 aA H' D I' q
 | ret v=>exact q
 | brk=>exact q
 | cont=>exact q
theorem QI(h1:PS X st t):jE X [st] t:=by
 intro pins s σ H D I h
 refine wpAny_execs_cons (bu (h1 pins s σ H D I h) λf s1 q=>?_)
 cases f with
 | next=>exact yd q
 | ret v=>exact q
 | brk=>exact q
 | cont=>exact q
def Qd:TS:=λD σ H=>D.bk σ H
theorem Rr:PS X (.Break pos) Qd:=λ_ _ σ H _ I h=>wpAny_Break ⟨σ,H,I,h⟩
theorem Inv.quiet{pins:List (Addr×Obj)}{σ:St}{H:Hp}{s:Shared}(I:Inv X pins σ H s):interactive X.env=false:=by simp [interactive,I.ok.kind]
def sH(te:TE):TS:=λD σ H=>te σ H λ_ H1=>D.nx σ H1
theorem Hs(he:PE X e te)(hs:swapsWith e none pos.line X.env=pure false:=by rfl):PS X (.Expr e pos) (sH te):=by
 intro pins s σ H D I h
 exact wpAny_Expr_any (bu (he pins s σ H _ I h) λv s1 ⟨x,H1,I1,r1,q1⟩=>⟨σ,H1,I1,q1⟩) I.quiet hs
def zK(te:TE):TS:=λD σ H=>te σ H D.rt
theorem G3(he:PE X e te):PS X (.Return (some e) pos) (zK te):=by
 intro pins s σ H D I h
 exact wpAny_Return_some (bu (he pins s σ H _ I h) λv s1 ⟨x,H1,I1,r1,q1⟩=>⟨x,σ,H1,I1,r1,q1⟩)
def zP(c:TT)(t u:TS):TS:=λD σ H=>c σ H λb H1=>if b=true then t D σ H1 else u D σ H1
theorem tz(hc:PT X c tc)(ha:jE X a t)(hb:jE X b u):PS X (.If c a b pos) (zP tc t u):=by
 intro pins s σ H D I h
 refine wpAny_If (bu (hc pins s σ H _ I h) λd s1 ⟨H1,I1,q1⟩=>?_)
 cases d with
 | true=>exact ha pins s1 σ H1 D I1 q1
 | false=>exact hb pins s1 σ H1 D I1 q1
end
abbrev TG:=V->St->Hp->(St->Hp->Prop)->Prop
abbrev oW:=List V->St->Hp->(St->Hp->Prop)->Prop
def PG(X:Cx)(target:Expr)(t:TG):Prop:=
 ∀(pins:List (Addr×Obj)) (s:Shared) (σ:St) (H:Hp) (v:V) (u:Value) (Q:St->Hp->Prop),Inv X pins σ H s->RelV v u->t v σ H Q ->
  wpAny (model X.prog X.w) X.A (assign target X.env u) (λ_ s'=>∃aA H',Inv X pins aA H' s'/\Q aA H') X.xe s
def wV(X:Cx)(ts:List Expr)(t:oW):Prop:=
 ∀(pins:List (Addr×Obj)) (s:Shared) (σ:St) (H:Hp) (vs:List V) (us:List Value) (Q:St->Hp->Prop),Inv X pins σ H s->aq vs us->t vs σ H Q ->
  wpAny (model X.prog X.w) X.A (assignInOrder ((assignEach ts X.env).map (·.2)) us) (λ_ s'=>∃aA H',Inv X pins aA H' s'/\Q aA H') X.xe s
abbrev qF:=V->V->V->Hp->(Hp->Prop)->Prop
def wU(X:Cx)(t:qF):Prop:=
 ∀(pins:List (Addr×Obj)) (s:Shared) (σ:St) (H:Hp) (o i v:V) (ov iv u:Value) (Q:Hp->Prop),Inv X pins σ H s->RelV o ov->RelV i iv->RelV v u->t o i v H Q ->
  wpAny (model X.prog X.w) X.A (setItem ov iv u) (λ_ s'=>∃H',Inv X pins σ H' s'/\Q H') X.xe s
abbrev EC:=V->V->Hp->VK->Prop
def Jl(X:Cx)(op:Operator)(t:EC):Prop:=
 ∀(pins:List (Addr×Obj)) (s:Shared) (σ:St) (H:Hp) (x y:V) (v u:Value) (Q:VK),Inv X pins σ H s->RelV x v->RelV y u->t x y H Q ->
  wpAny (model X.prog X.w) X.A (inplaceOp op v u) (EP X pins σ Q) X.xe s
section
variable {X:Cx}{pos:Pos}
def GC(i:Nat):TG:=λv σ H Q=>Q (σ.set i (some v)) H
theorem QF(hN:X.N.Nodup)(hi:X.N[i]?=some x)(hx:Loc X.env.scope x)(hf:X.fn x=true\/X.env.scope.names.lookup x=some .local:=by first | exact .inl rfl | exact .inr rfl | assumption):PG X (.Name x pos) (GC i):=by
 intro pins s σ H v u Q I r h
 exact wpAny_assign_Name (Dd I hN hi hx r (λs' I'=>⟨_,H,I',h⟩) hf)
def Bf:oW:=λvs σ H Q=>vs=[]/\Q σ H
def uP(t:TG)(u:oW):oW:=λvs σ H Q=>∃v r,vs=v::r/\t v σ H λaA H'=>u r aA H' Q
theorem QG:wV X [] Bf:=by
 intro pins s σ H vs us Q I r h
 obtain ⟨e,h⟩:=h
 subst e
 cases r
 exact assignInOrder_nil ⟨σ,H,I,h⟩
theorem Rp{e:Expr}{es:List Expr}{t:TG}{u:oW}(h1:PG X e t)(h2:wV X es u)
  (hs:(assignEach (e::es) X.env).map (·.2)=assign e X.env::(assignEach es X.env).map (·.2):=by rfl):wV X (e::es) (uP t u):=by
 intro pins s σ H vs us Q I r h
 obtain ⟨v,vr,e1,h⟩:=h
 subst e1
 cases r with
 | cons r rr =>
  rw [hs]
  refine assignInOrder_cons (bu (h1 pins s σ H _ _ _ I r h) λ_ s1 ⟨ft,H1,I1,q1⟩=>?_)
  exact h2 pins s1 ft H1 _ _ Q I1 rr q1
def Be(K:aC)(n:Nat)(t:oW):TG:=λv σ H Q=>∃a xs,v=.ref a/\dv K H a xs/\xs.length=n/\t xs σ H Q
theorem Qk{es:List Expr}{k:Nat}{t:oW}{n:Nat}(hc:X.calm=true)(h:wV X es t)
  (hn:(assignEach es X.env).length=n:=by rfl)(xt:(assignEach es X.env).findIdx? (·.1)=none:=by rfl):PG X (.Tuple es k pos) (Be X.K n t):=by
 intro pins s σ H v u Q I r hw
 obtain ⟨a,xs,e1,hq,hl,hw⟩:=hw
 subst e1
 cases r
 obtain ⟨ao,rv,ht,hz⟩:=I.tuple hq
 refine assign_Tuple_tuple (I.ok.hd hc) ht (by simp [hn,<-hl,rv.length]) xt λh' hx=>?_
 have I1:Inv X pins σ H { s with heap:=h' }:=I.kept (t':=s.toks) λb o e=>hx b o (fH (cE e)) e
 exact h pins _ σ H xs _ Q I1 (by simpa using rv) hw
def bp(to ti:TE)(t:qF):TG:=λv σ H Q=>to σ H λo H1=>ti σ H1 λi H2=>t o i v H2 λH3=>Q σ H3
theorem Qj{o i:Expr}{to ti:TE}{t:qF}(ho:PE X o to)(hi:PE X i ti)(hs:wU X t)
  (ha:∀v,assign (.Subscript o i pos) X.env v=(do
   let ov <-holding [v] (eval o X.env)
   let iv <-holding [v,ov] (eval i X.env)
   standAt pos
   holding [v,ov,iv] (setItem ov iv v)
   release [v,ov,iv] []):=by intro _;rfl):PG X (.Subscript o i pos) (bp to ti t):=by
 intro pins s σ H v u Q I r h
 rw [ha]
 refine cn (vw (bu (ho pins s σ H _ I h) λov s1 ⟨x,H1,I1,r1,q1⟩=>?_))
 refine cn (vw (bu (hi pins s1 σ H1 _ I1 q1) λiv s2 ⟨y,H2,I2,r2,q2⟩=>?_))
 refine cn (BU (cn (vw (bu (hs pins s2 σ H2 x y v ov iv u _ I2 r1 r2 r q2) λ_ s3 ⟨H3,I3,q3⟩=>?_))))
 exact wpAny_release ⟨σ,H3,I3,q3⟩
def sJ(te:TE)(g:TG):TS:=λD σ H=>te σ H λx H1=>g x σ H1 D.nx
theorem Ql{tg e:Expr}{te:TE}{g:TG}(he:PE X e te)(hg:PG X tg g)(hs:swapsWithSole [tg] e pos.line X.env=pure false:=by rfl)(hw:swappedStores [tg] e X.env=pure none:=by rfl)
  (h1:(assignEach [tg] X.env).map (·.2)=[assign tg X.env]:=by rfl):PS X (.Assign [tg] e pos) (sJ te g):=by
 intro pins s σ H D I h
 refine wpAny_Assign_stores (bu (he pins s σ H _ I h) λv s1 ⟨x,H1,I1,r1,q1⟩=>?_) hs hw
 rw [h1]
 exact bu (hg pins s1 σ H1 x v _ I1 r1 q1) λ_ s2 q=>q
theorem CN(hN:X.N.Nodup)(hi:X.N[i]?=some x)(hx:Loc X.env.scope x)(he:PE X e te)(hs:swapsWith e (some (.Name x pos')) pos.line X.env=pure false:=by rfl)(hf:X.fn x=true\/X.env.scope.names.lookup x=some .local:=by first | exact .inl rfl | exact .inr rfl | assumption):
  PS X (.Assign [.Name x pos'] e pos) (sJ te (GC i)):=by
 intro pins s σ H D I h
 refine wpAny_Assign_Name (bu (he pins s σ H _ I h) λv s1 ⟨y,H1,I1,r1,q1⟩=>?_) hs
 exact Dd I1 hN hi hx r1 (λs2 I2=>⟨_,H1,I2,q1⟩) hf
def zS(i:Nat)(te:TE)(ti:EC):TS:=λD σ H=>∃x,σ[i]?=some (some x)/\te σ H λy H1=>ti x y H1 λz H2=>D.nx (σ.set i (some z)) H2
theorem Qm(hN:X.N.Nodup)(hi:X.N[i]?=some x)(hx:Loc X.env.scope x)(he:PE X e te)(ho:Jl X op ti)(hf:X.fn x=true\/X.env.scope.names.lookup x=some .local:=by first | exact .inl rfl | exact .inr rfl | assumption):
  PS X (.AugAssign (.Name x pos') op e pos) (zS i te ti):=by
 intro pins s σ H D I h
 obtain ⟨v,e1,h⟩:=h
 obtain ⟨m,hn,hl⟩:=I.loc
 have mF:fY X.env.scope x:=by rcases hx with k | k;exact .inl k;exact .inr (.inl k)
 obtain ⟨u,r,l⟩:=hl i x v hi e1 mF
 refine wpAny_AugAssign_Name ?_
 have go:wpAny (model X.prog X.w) X.A (eval e X.env) (λw jG=>wpAny (model X.prog X.w) X.A (inplaceOp op u w) (λr kF=>wpAny (model X.prog X.w) X.A (storeName X.env x r) (λ_=>SP X pins D .next) X.xe kF) X.xe jG) X.xe s:=by
  refine bu (he pins s σ H _ I h) λw s1 ⟨y,H1,I1,r1,q1⟩=>?_
  refine bu (ho pins s1 σ H1 v y u w _ I1 r r1 q1) λz s2 ⟨zv,H2,I2,r2,q2⟩=>?_
  exact Dd I2 hN hi hx r2 (λs3 I3=>⟨_,H2,I3,q2⟩) hf
 rcases l with ⟨hk,hm⟩ | ⟨hk,c,hc,dE⟩
 .exact wpAny_loadName_local I.ok.kind hk hn hm go
 .rcases hk with hk | hk
  .exact wpAny_loadName_cell I.ok.kind hk hc dE go
  .rcases hx with k | k
   .have:X.env.scope.names.lookup x=some .free:=hk
    rw [k] at this;cases this
   .have:X.env.scope.names.lookup x=some .free:=hk
    rw [k] at this;cases this
def MH(f:Int->Int->Int):EC:=λx y H Q=>∃i j,x=.int i/\y=.int j/\Q (.int (f i j)) H
theorem P7:Jl X .Add (MH λi j=>i+j):=by
 intro pins s σ H x y v u Q I r1 r2 h
 obtain ⟨i,j,e1,e2,q⟩:=h
 subst e1;subst e2
 obtain ⟨t,rfl⟩:=r1
 obtain ⟨t',rfl⟩:=r2
 exact iadd_int ⟨.int _,H,I.tok _,⟨_,rfl⟩,q⟩
end
section
variable {X:Cx}{pos:Pos}
def Qe(c:TT)(tb:TS):TS:=λD σ H=>∃W:Nat->St->Hp->Prop,(∃m,W m σ H)/\∀m σ H,W m σ H ->
 c σ H λb H1=>if b=true then ∃N:St->Hp->Prop,(∀aA H',N aA H'->∃m',m'<m/\W m' aA H')/\tb { D with nx:=N,ct:=N,bk:=D.nx } σ H1 else D.nx σ H1
theorem Rt(hp:PassesOwn (model X.prog X.w) X.A X.env X.xe)(hc:PT X c tc)(hb:jE X body tb):PS X (.While c body [] pos) (Qe tc tb):=by
 intro pins s σ H D I h
 obtain ⟨W,⟨m0,w0⟩,turn⟩:=h
 refine wpAny_While (codeAny_whileLoop (λn s'=>∃aA H',Inv X pins aA H' s'/\W n aA H') ?_ m0 ⟨σ,H,I,w0⟩)
 rintro n s1 ⟨ft,H1,I1,w1⟩
 refine qh hp (bu (hc pins s1 ft H1 _ I1 (turn n ft H1 w1)) λb s2 ⟨H2,I2,q2⟩=>?_)
 cases b with
 | true =>
  obtain ⟨N,hN,q2⟩:=q2
  rw [if_pos rfl]
  refine qh hp (bu (hb pins s2 ft H2 _ I2 q2) λf s3 q3=>?_)
  cases f with
  | next =>
   obtain ⟨fZ,H3,I3,n3⟩:=q3
   obtain ⟨m',hm,w3⟩:=hN fZ H3 n3
   exact ⟨m',hm,fZ,H3,I3,w3⟩
  | cont =>
   obtain ⟨fZ,H3,I3,n3⟩:=q3
   obtain ⟨m',hm,w3⟩:=hN fZ H3 n3
   exact ⟨m',hm,fZ,H3,I3,w3⟩
  | brk=>exact q3
  | ret v=>exact q3
 | false =>
  rw [if_neg lI]
  exact yd ⟨ft,H2,I2,q2⟩
end
structure It where
 go:Nat->Hp->Prop
 oZ:Nat->Hp->V->Hp->Prop
 stop:Nat->Hp->Prop
def eM(X:Cx)(pins:List (Addr×Obj))(H:Hp)(b:Addr):Prop:=
 H b=none/\b≠X.env.locals/\b∉X.fs/\(b∈X.ex\/X.bX.heap.objs.size<=b)/\(∀x c,X.env.cells.lookup x=some c->c≠b)/\∀p∈X.pn++pins,p.1≠b
theorem Inv.lr{X:Cx}{pins:List (Addr×Obj)}{σ:St}{H H':Hp}{s:Shared}{b:Addr}(I:Inv X pins σ H s)(hb:s.heap.objs.size<=b)(hn:H' b=none):eM X pins H' b:=by
 refine ⟨hn,BJ (gz I.lt hb),I.Am hb,.inr (et I.sz hb),λx c e z=>?_,λp hp z=>?_⟩
 .obtain ⟨v,q⟩:=I.cell x c e
  exact absurd (gz q.lt (by rw [z];exact hb)) (mZ _)
 .exact absurd (gz (cE (I.pin p hp).1) (by rw [z];exact hb)) (mZ _)
structure Turn(P:Program)(w:World)(K:aC)(tg:Expr)(J:It)(fp:List Addr)(it:Addr)(tn:Nat->Heap->Prop):Prop where
 mem:it∈fp
 obj:∀i h,tn i h->∀b∈fp,∃o,h.get? b=some o/\∀v,o.data≠.cell v
 keep:∀i h h',tn i h->(∀b∈fp,∀o,h.get? b=some o->h'.get? b=some o)->tn i h'
 item:∀(X:Cx),X.prog=P->X.w=w->X.K=K->X.calm=true->∀(i:Nat) (pins:List (Addr×Obj)) (s:Shared) (σ:St) (H:Hp) (E:Value->Shared->Prop),Inv X pins σ H s->(∀b∈fp,eM X pins H b)->tn i s.heap->J.go i H ->
  wpAny (model P w) X.A (pyNext (.ref it)) (λr s1=>∃u,r=some u /\
   wpAny (model P w) X.A (letOwnedTupleGo tg (.ref it) u) (λ_ s2=>∃x H',Inv X pins σ H' s2/\RelV x u/\J.oZ i H x H'/\tn (i+1) s2.heap/\∀b∈fp,H' b=none) E s1) E s
 done:∀(X:Cx),X.prog=P->X.w=w->X.K=K->X.calm=true->∀(i:Nat) (pins:List (Addr×Obj)) (s:Shared) (σ:St) (H:Hp) (E:Value->Shared->Prop),Inv X pins σ H s->(∀b∈fp,eM X pins H b)->tn i s.heap->J.stop i H ->
  wpAny (model P w) X.A (pyNext (.ref it)) (λr s1=>r=none/\Inv X pins σ H s1) E s
 self:∀(A:Around) (i:Nat) (s:Shared) (Q:Value->Shared->Prop) (E:Value->Shared->Prop),tn i s.heap->Q (.ref it) s->wpAny (model P w) A (pyIter (.ref it)) Q E s
abbrev TI:=St->Hp->(It->Hp->Prop)->Prop
def ED(X:Cx)(pins:List (Addr×Obj))(σ:St)(tg:Expr)(R:It->Hp->Prop)(Aw:Value)(s2:Shared):Prop:=
 ∃(it:Addr) (fp:List Addr) (tn:Nat->Heap->Prop) (J:It) (H':Hp),Aw=.ref it/\Inv X pins σ H' s2/\Turn X.prog X.w X.K tg J fp it tn/\tn 0 s2.heap/\(∀b∈fp,eM X pins H' b)/\R J H'
def PI(X:Cx)(tg iter:Expr)(wi:TI):Prop:=
 ∀(pins:List (Addr×Obj)) (s:Shared) (σ:St) (H:Hp) (R:It->Hp->Prop),Inv X pins σ H s->wi σ H R ->
  wpAny (model X.prog X.w) X.A (eval iter X.env) (λv s1=>wpAny (model X.prog X.w) X.A (pyIter v) (ED X pins σ tg R) X.xe s1) X.xe s
theorem yB(ho:s.heap.get? it=some o)(hc:o.cls=.type n)(hd:o.data=.fields vs)
  (hn:["enumerate","zip","dict_itemiterator","dict_reverseitemiterator","odict_iterator","itertools.zip_longest","itertools.pairwise"].contains n=false)(hQ:Q () s):wpAny M A (letOwnedTupleGo tg (.ref it) u) Q E s:=by
 unfold letOwnedTupleGo
 cases tg<;>first
  | exact eN hQ
  | (cases u<;>first
    | exact eN hQ
    | (refine cn (wpAny_load ho ?_)
       rw [hc,hd]
       show wpAny M A (if (["enumerate","zip","dict_itemiterator","dict_reverseitemiterator","odict_iterator","itertools.zip_longest","itertools.pairwise"].contains n&&vs[0]?==some (rawInt _))=true then _ else _) Q E s
       rw [if_neg (by intro h;rw [hn,Bool.false_and] at h;cases h)]
       exact eN hQ))
def wY(K:aC)(a:Addr):It:=
 ⟨λi H=>∃xs x,dg K H a xs/\xs[i]?=some x,λi H x H'=>H'=H/\∀xs,dg K H a xs->xs[i]?=some x,λi H=>∃xs,dg K H a xs/\xs.length<=i⟩
def wX(K:aC)(a:Addr):It:=
 ⟨λi H=>∃xs x,dv K H a xs/\xs[i]?=some x,λi H x H'=>H'=H/\∀xs,dv K H a xs->xs[i]?=some x,λi H=>∃xs,dv K H a xs/\xs.length<=i⟩
def jF(lo:Int)(n:Nat):It:=⟨λi _=>i<n,λi H x H'=>H'=H/\x=.int (lo+i),λi _=>n<=i⟩
theorem TJ{P:Program}{w:World}{K:aC}{tg:Expr}(a it:Addr):Turn P w K tg (wY K a) [it] it (λi h=>h.IsListIter it a i) where
 mem:=by simp
 obj:=λi h st b hb=>by
  have e:b=it:=by simpa using hb
  subst e
  obtain ⟨o,e,c,d⟩:=st
  exact ⟨o,e,λv z=>by rw [d] at z;cases z⟩
 keep:=λi h h' st k=>st.at λo e=>k it (by simp) o e
 item:=by
  intro X hP hw hK hc i pins s σ H E I hf st hg
  subst hP hw hK
  obtain ⟨xs,x,hq,hx⟩:=hg
  obtain ⟨ao,rv,p,hz⟩:=I.list hq
  obtain ⟨u,hu,ru⟩:=rv.get hx
  obtain ⟨f0,f1,f2,f3,f4,f5⟩:=hf it (by simp)
  refine wpAny_pyNext_list_item st p.isList (x:=u) (by simpa using hu) λh' aj sb=>?_
  have I1:Inv X pins σ H { s with heap:=h' }:=I.turned (t':=s.toks) (λb o hb e=>(sb.2 b hb).trans e) f0 f1 f3 f4 f5
  obtain ⟨o,e,c,d⟩:=id aj
  exact ⟨u,rfl,yB (s:={ s with heap:=h' }) e c d (by decide) ⟨x,H,I1,ru,⟨rfl,λys hy=>by rw [I.gH hy hq];exact hx⟩,aj,λb hb=>(hf b hb).1⟩⟩
 done:=by
  intro X hP hw hK hc i pins s σ H E I hf st hg
  subst hP hw hK
  obtain ⟨xs,hq,hx⟩:=hg
  obtain ⟨ao,rv,p,hz⟩:=I.list hq
  obtain ⟨f0,f1,f2,f3,f4,f5⟩:=hf it (by simp)
  have hl:=rv.length
  exact wpAny_pyNext_list_end (I.ok.hd hc) st p.isList (by simp;ext hx hl) λh' eb=>⟨rfl,I.turned (t':=s.toks) (λb o hb e=>eb b o hb e) f0 f1 f3 f4 f5⟩
 self:=λ_ _ _ _ _ st h=>wpAny_pyIter_listiter st h
theorem Tv{P:Program}{w:World}{K:aC}{tg:Expr}(a it:Addr):Turn P w K tg (wX K a) [it] it (λi h=>h.IsTupleIter it a i) where
 mem:=by simp
 obj:=λi h st b hb=>by
  have e:b=it:=by simpa using hb
  subst e
  obtain ⟨o,e,c,d⟩:=st
  exact ⟨o,e,λv z=>by rw [d] at z;cases z⟩
 keep:=λi h h' st k=>st.at λo e=>k it (by simp) o e
 item:=by
  intro X hP hw hK hc i pins s σ H E I hf st hg
  subst hP hw hK
  obtain ⟨xs,x,hq,hx⟩:=hg
  obtain ⟨ao,rv,p,hz⟩:=I.tuple hq
  obtain ⟨u,hu,ru⟩:=rv.get hx
  obtain ⟨f0,f1,f2,f3,f4,f5⟩:=hf it (by simp)
  refine wpAny_pyNext_tuple_item st (show s.heap.IsTuple a ao.toArray from p) (x:=u) (by simpa using hu) λh' aj sb=>?_
  have I1:Inv X pins σ H { s with heap:=h' }:=I.turned (t':=s.toks) (λb o hb e=>(sb.2 b hb).trans e) f0 f1 f3 f4 f5
  obtain ⟨o,e,c,d⟩:=id aj
  exact ⟨u,rfl,yB (s:={ s with heap:=h' }) e c d (by decide) ⟨x,H,I1,ru,⟨rfl,λys hy=>by rw [I.fR hy hq];exact hx⟩,aj,λb hb=>(hf b hb).1⟩⟩
 done:=by
  intro X hP hw hK hc i pins s σ H E I hf st hg
  subst hP hw hK
  obtain ⟨xs,hq,hx⟩:=hg
  obtain ⟨ao,rv,p,hz⟩:=I.tuple hq
  obtain ⟨f0,f1,f2,f3,f4,f5⟩:=hf it (by simp)
  have hl:=rv.length
  exact wpAny_pyNext_tuple_end (I.ok.hd hc) st (show s.heap.IsTuple a ao.toArray from p) (by simp;ext hx hl) λh' eb=>⟨rfl,I.turned (t':=s.toks) (λb o hb e=>eb b o hb e) f0 f1 f3 f4 f5⟩
 self:=λ_ _ _ _ _ st h=>wpAny_pyIter_tupleiter st h
theorem IY{P:Program}{w:World}{K:aC}{tg:Expr}(it:Addr)(lo:Int)(n:Nat):Turn P w K tg (jF lo n) [it] it (λi h=>IsRangeIter h it (lo+(i:Nat)*1) ((n:Int)-(i:Nat)) 1) where
 mem:=by simp
 obj:=λi h st b hb=>by
  have e:b=it:=by simpa using hb
  subst e
  exact ⟨_,st,λv z=>by
   have z':Data.fields _=Data.cell v:=z
   cases z'⟩
 keep:=λi h h' st k=>k it (by simp) _ st
 item:=by
  intro X hP hw hK hc i pins s σ H E I hf st hg
  subst hP hw hK
  obtain ⟨f0,f1,f2,f3,f4,f5⟩:=hf it (by simp)
  have W:=Walks.range (prog:=X.prog) (w:=X.w) (I.ok.hd hc) it lo 1 n
  refine W.item i s _ _ hg st λv h' tk hv aj kk=>?_
  obtain ⟨t,rfl⟩:=hv
  have I1:Inv X pins σ H { s with heap:=h',toks:=tk }:=I.turned (λb o hb e=>kk b o (by simpa using hb) e) f0 f1 f3 f4 f5
  refine ⟨_,rfl,yB (s:={ s with heap:=h',toks:=tk }) (n:="range_iterator") aj rfl rfl (by decide) ⟨.int (lo+i),H,I1,⟨t,?_⟩,⟨rfl,rfl⟩,aj,λb hb=>(hf b hb).1⟩⟩
  rw [mW]
 done:=by
  intro X hP hw hK hc i pins s σ H E I hf st hg
  subst hP hw hK
  obtain ⟨f0,f1,f2,f3,f4,f5⟩:=hf it (by simp)
  exact wpAny_pyNext_range_end (I.ok.hd hc) st (by have:n<=i:=hg;ext this) λh' eb=>⟨rfl,I.turned (t':=s.toks) (λb o hb e=>eb b o hb e) f0 f1 f3 f4 f5⟩
 self:=λ_ _ _ _ _ st h=>wpAny_pyIter_rangeiter st h
end L2
namespace L2
open PySem PySem.Spec PyProof.Rows
section
variable {X:Cx}{tg:Expr}
theorem Rv{pins:List (Addr×Obj)}{σ:St}{H:Hp}{s:Shared}{R:It->Hp->Prop}{E:Value->Shared->Prop}{lo hi:Int}{t u v:Tok}{tk:Nat}(I:Inv X pins σ H s)(h1:-(2^62)<=lo)(h2:lo<2^62)(h3:-(2^62)<=hi)(h4:hi<2^62)
  (q:R (jF lo (hi-lo).toNat) H):wpAny (model X.prog X.w) X.A (pyIter (.ref s.heap.objs.size)) (ED X pins σ tg R) E { s with heap:=s.heap.push { cls:=.type "range",data:=.fields #[.int lo t,.int hi u,.int 1 v] },toks:=tk }:=by
 refine wpAny_pyIter_range (BE ..) (small_one h1 h2 h3 h4) ?_
 have I1:Inv X pins σ H { s with heap:=s.heap.push { cls:=.type "range",data:=.fields #[.int lo t,.int hi u,.int 1 v] },toks:=tk }:=I.kept λb o e=>fT _ e
 refine ⟨(s.heap.push { cls:=.type "range",data:=.fields #[.int lo t,.int hi u,.int 1 v] }).objs.size,[(s.heap.push { cls:=.type "range",data:=.fields #[.int lo t,.int hi u,.int 1 v] }).objs.size],_,_,H,rfl,
  I1.kept (t':=tk) λb o e=>fT _ e,IY _ lo (hi-lo).toNat,?_,λb hb=>?_,q⟩
 .have e1:lo+((0:Nat):Int)*1=lo:=by simp
  have e2:(((hi-lo).toNat:Nat):Int)-((0:Nat):Int)=FY lo hi 1:=by rw [rangeSize_one];split<;>lia
  show IsRangeIter _ _ (lo+((0:Nat):Int)*1) ((((hi-lo).toNat:Nat):Int)-((0:Nat):Int)) 1
  rw [e1,e2]
  exact l9 _ rfl
 .have e:b=(s.heap.push { cls:=.type "range",data:=.fields #[.int lo t,.int hi u,.int 1 v] }).objs.size:=by simpa using hb
  subst e
  exact I1.lr (bj _) (I1.bw.fresh (bj _))
def ue(ta:TA):TI:=λσ H R=>ta σ H λvs H1=>∃j:Int,vs=[.int j] /\ -(2^62)<=j/\j<2^62/\R (jF 0 j.toNat) H1
theorem TM(hg:Gl X "range")(hm:X.mg "range" = none)(ha:PA X [a] ta)(hs:starEach [a] X.env=[(false,eval a X.env)]:=by rfl):PI X tg (.Call (.Name "range" p) [a] [] pos) (ue ta):=by
 intro pins s σ H R I h
 refine Call_ (rM I hg hm boot_range (yp (bu (ha pos pins s σ H _ I h) λus s1 ⟨vs,H1,I1,r1,q1⟩=>?_) hs rfl))
 obtain ⟨j,e,q1,q2,q⟩:=q1
 subst e
 cases r1 with
 | cons r rr =>
  cases rr
  obtain ⟨t,rfl⟩:=r
  exact call_range_1 (Rv I1 (by decide) (by decide) q1 q2 (by simpa using q))
def zQ(wi:TI)(g:TG)(tb:TS):TS:=λD σ H=>wi σ H λJ H1=>∃W:Nat->Nat->St->Hp->Prop,(∃m,W 0 m σ H1)/\∀i m σ H,W i m σ H ->
 (J.stop i H/\D.nx σ H)\/(J.go i H/\∃N:St->Hp->Prop,(∀aA H',N aA H'->∃m',m'<m/\W (i+1) m' aA H')/\∀x H',J.oZ i H x H'->g x σ H' λbW H2=>tb { D with nx:=N,ct:=N,bk:=D.nx } bW H2)
def nj(fp:List Addr)(h:Heap):List (Addr×Obj):=fp.filterMap λb=>(h.get? b).map λo=>(b,o)
theorem wL(hb:b∈fp)(e:h.get? b=some o):(b,o)∈nj fp h:=Gk.mpr ⟨b,hb,by rw [e];rfl⟩
theorem DJ(hp:p∈nj fp h):p.1∈fp/\h.get? p.1=some p.2:=by
 obtain ⟨b,hb,e⟩:=Gk.mp hp
 cases q:h.get? b with
 | none=>rw [q] at e;cases e
 | some o =>
  rw [q] at e
  have e':(b,o)=p:=bQ e
  subst e'
  exact ⟨hb,q⟩
theorem Inv.pinned{pins:List (Addr×Obj)}{σ:St}{H:Hp}{s:Shared}{fp:List Addr}(I:Inv X pins σ H s)(hf:∀b∈fp,eM X pins H b)(ho:∀b∈fp,∃o,s.heap.get? b=some o/\∀v,o.data≠.cell v):Inv X (pins++nj fp s.heap) σ H s:=
 I.dB λp hp=>(bR.mp hp).elim (λz=>I.pin p (er _ z)) λz=>by
  obtain ⟨hb,e⟩:=DJ z
  obtain ⟨f0,f1,f2,_⟩:=hf p.1 hb
  obtain ⟨o,e',d⟩:=ho p.1 hb
  rw [e] at e';cases e'
  exact ⟨e,f0,f1,f2,d⟩
theorem Inv.eR{pins pl:List (Addr×Obj)}{σ:St}{H:Hp}{s:Shared}(I:Inv X (pins++pl) σ H s):Inv X pins σ H s:=I.dB λp hp=>I.pin p (er _ (dX _ hp))
theorem CM(hp:PassesOwn (model X.prog X.w) X.A X.env X.xe)(hc:X.calm=true)(hi:PI X tg iter wi)(hg:PG X tg g)(hb:jE X body tb)
  (hs:∀x,foldedSetIterable iter X.env x=pure x:=by intro _;rfl):PS X (.For tg iter body [] pos) (zQ wi g tb):=by
 intro pins s σ H D I h
 refine wpAny_For (bu (hi pins s σ H _ I h) λv s1 h1=>bu h1 λAw s2 h2=>?_) hs
 obtain ⟨it,fp,tn,J,H2,e,I2,T,eG,f2,W,⟨m0,w0⟩,turn⟩:=h2
 subst e
 have o8:∀{H':Hp},(∀b∈fp,H' b=none)->∀b∈fp,eM X pins H' b:=λhn b hb=>⟨hn b hb,(f2 b hb).2⟩
 refine codeAny_forLoop_any (λn s'=>∃i aA H',Inv X pins aA H' s'/\tn i s'.heap/\(∀b∈fp,H' b=none)/\W i n aA H') ?_ m0 ⟨0,σ,H2,I2,eG,λb hb=>(f2 b hb).1,w0⟩
 rintro n s3 ⟨i,fZ,H3,I3,fC,uR,w3⟩
 rcases turn i n fZ H3 w3 with ⟨stop,qn⟩ | ⟨go,N,hN,step⟩
 .refine qh hp (bu (T.done X rfl rfl rfl hc i pins s3 fZ H3 X.xe I3 (o8 uR) fC stop) λr s4 ⟨hr,I4⟩=>?_)
  subst hr
  exact yd ⟨fZ,H3,I4,qn⟩
 .refine qh hp (bu (T.item X rfl rfl rfl hc i pins s3 fZ H3 X.xe I3 (o8 uR) fC go) λr s4 ⟨u,hr,h4⟩=>?_)
  subst hr
  refine qh hp (bu h4 λ_ s5 ⟨x,H5,I5,r5,y5,o9,Bi⟩=>?_)
  have EG:=I5.pinned (o8 Bi) (T.obj _ _ o9)
  refine qh hp (bu (hg _ s5 fZ H5 x u _ EG r5 (step x H5 y5)) λ_ s6 ⟨ig,H6,I6,q6⟩=>?_)
  refine qh hp (bu (hb _ s6 ig H6 _ I6 q6) λf s7 q7=>?_)
  have again:∀{kD:St} {H7:Hp},Inv X (pins++nj fp s5.heap) kD H7 s7->N kD H7->∃m,m<n/\∃i aA H',Inv X pins aA H' s7/\tn i s7.heap/\(∀b∈fp,H' b=none)/\W i m aA H':=λ{kD H7} I7 n7=>by
   obtain ⟨m',hm,w7⟩:=hN kD H7 n7
   refine ⟨m',hm,i+1,kD,H7,I7.eR,T.keep _ _ _ o9 λb hb o e=>(I7.pin (b,o) (er _ (er _ (wL hb e)))).1,λb hb=>?_,w7⟩
   obtain ⟨o,e,d⟩:=T.obj _ _ o9 b hb
   exact (I7.pin (b,o) (er _ (er _ (wL hb e)))).2.1
  cases f with
  | next=>obtain ⟨kD,H7,I7,n7⟩:=q7;exact again I7 n7
  | cont=>obtain ⟨kD,H7,I7,n7⟩:=q7;exact again I7 n7
  | brk=>obtain ⟨kD,H7,I7,q7⟩:=q7;exact ⟨kD,H7,I7.eR,q7⟩
  | ret v=>obtain ⟨x7,kD,H7,I7,r7,q7⟩:=q7;exact ⟨x7,kD,H7,I7.eR,r7,q7⟩
end
theorem RD{K:aC}{a:Addr}{xs:List V}{g:TG}{tb:TS}{D:Ends}{σ:St}{H:Hp}(Pv:Nat->St->Hp->Prop)(h0:Pv 0 σ H)(hl:∀i σ H,i<=xs.length->Pv i σ H->dg K H a xs)
  (hs:∀i x σ H,xs[i]?=some x->Pv i σ H->g x σ H λbW H2=>tb { D with nx:=Pv (i+1),ct:=Pv (i+1),bk:=D.nx } bW H2)(hd:∀σ H,Pv xs.length σ H->D.nx σ H):
  ∃W:Nat->Nat->St->Hp->Prop,(∃m,W 0 m σ H)/\∀i m σ H,W i m σ H ->
   ((wY K a).stop i H/\D.nx σ H)\/((wY K a).go i H/\∃N:St->Hp->Prop,(∀aA H',N aA H'->∃m',m'<m/\W (i+1) m' aA H')/\∀x H',(wY K a).oZ i H x H'->g x σ H' λbW H2=>tb { D with nx:=N,ct:=N,bk:=D.nx } bW H2):=by
 refine ⟨λi m σ H=>m=xs.length-i/\i<=xs.length/\Pv i σ H,⟨xs.length,by simp,oh _,h0⟩,?_⟩
 rintro i m σ H ⟨rfl,hi,p⟩
 have q:=hl i σ H hi p
 by_cases bx:i<xs.length
 .refine .inr ⟨⟨xs,xs[i],q,by simp [bx]⟩,Pv (i+1),λaA H' p'=>⟨xs.length-(i+1),by ext bx,rfl,bx,p'⟩,λx H' y=>?_⟩
  obtain ⟨e,y⟩:=y
  subst e
  exact hs i x σ _ (y xs q) p
 .have e:i=xs.length:=by ext hi bx
  subst e
  exact .inl ⟨⟨xs,q,bj _⟩,hd σ H p⟩
theorem Q0{K:aC}{a:Addr}{xs:List V}{g:TG}{tb:TS}{D:Ends}{σ:St}{H:Hp}(Pv:Nat->St->Hp->Prop)(h0:Pv 0 σ H)(hl:∀i σ H,i<=xs.length->Pv i σ H->dv K H a xs)
  (hs:∀i x σ H,xs[i]?=some x->Pv i σ H->g x σ H λbW H2=>tb { D with nx:=Pv (i+1),ct:=Pv (i+1),bk:=D.nx } bW H2)(hd:∀σ H,Pv xs.length σ H->D.nx σ H):
  ∃W:Nat->Nat->St->Hp->Prop,(∃m,W 0 m σ H)/\∀i m σ H,W i m σ H ->
   ((wX K a).stop i H/\D.nx σ H)\/((wX K a).go i H/\∃N:St->Hp->Prop,(∀aA H',N aA H'->∃m',m'<m/\W (i+1) m' aA H')/\∀x H',(wX K a).oZ i H x H'->g x σ H' λbW H2=>tb { D with nx:=N,ct:=N,bk:=D.nx } bW H2):=by
 refine ⟨λi m σ H=>m=xs.length-i/\i<=xs.length/\Pv i σ H,⟨xs.length,by simp,oh _,h0⟩,?_⟩
 rintro i m σ H ⟨rfl,hi,p⟩
 have q:=hl i σ H hi p
 by_cases bx:i<xs.length
 .refine .inr ⟨⟨xs,xs[i],q,by simp [bx]⟩,Pv (i+1),λaA H' p'=>⟨xs.length-(i+1),by ext bx,rfl,bx,p'⟩,λx H' y=>?_⟩
  obtain ⟨e,y⟩:=y
  subst e
  exact hs i x σ _ (y xs q) p
 .have e:i=xs.length:=by ext hi bx
  subst e
  exact .inl ⟨⟨xs,q,bj _⟩,hd σ H p⟩
theorem S7{lo:Int}{n:Nat}{g:TG}{tb:TS}{D:Ends}{σ:St}{H:Hp}(Pv:Nat->St->Hp->Prop)(h0:Pv 0 σ H)
  (hs:∀i σ H,i<n->Pv i σ H->g (.int (lo+i)) σ H λbW H2=>tb { D with nx:=Pv (i+1),ct:=Pv (i+1),bk:=D.nx } bW H2)(hd:∀σ H,Pv n σ H->D.nx σ H):
  ∃W:Nat->Nat->St->Hp->Prop,(∃m,W 0 m σ H)/\∀i m σ H,W i m σ H ->
   ((jF lo n).stop i H/\D.nx σ H)\/((jF lo n).go i H/\∃N:St->Hp->Prop,(∀aA H',N aA H'->∃m',m'<m/\W (i+1) m' aA H')/\∀x H',(jF lo n).oZ i H x H'->g x σ H' λbW H2=>tb { D with nx:=N,ct:=N,bk:=D.nx } bW H2):=by
 refine ⟨λi m σ H=>m=n-i/\i<=n/\Pv i σ H,⟨n,by simp,oh _,h0⟩,?_⟩
 rintro i m σ H ⟨rfl,hi,p⟩
 by_cases bx:i<n
 .refine .inr ⟨bx,Pv (i+1),λaA H' p'=>⟨n-(i+1),by ext bx,rfl,bx,p'⟩,λx H' y=>?_⟩
  obtain ⟨e,y⟩:=y
  subst e y
  exact hs i σ _ bx p
 .have e:i=n:=by ext hi bx
  subst e
  exact .inl ⟨bj _,hd σ H p⟩
end L2
namespace L2
open PySem PySem.Spec PyProof.Rows
abbrev R2:=V->V->Hp->VK->Prop
def fy(X:Cx)(f:Value->Value->Sem Value)(r:R2):Prop:=
 ∀(pins:List (Addr×Obj)) (s:Shared) (σ:St) (H:Hp) (x y:V) (v u:Value) (Q:VK),Inv X pins σ H s->RelV x v->RelV y u->r x y H Q ->
  wpAny (model X.prog X.w) X.A (f v u) (EP X pins σ Q) X.xe s
def EA(X:Cx)(f:Value->Sem Value)(r:V->Hp->VK->Prop):Prop:=
 ∀(pins:List (Addr×Obj)) (s:Shared) (σ:St) (H:Hp) (x:V) (v:Value) (Q:VK),Inv X pins σ H s->RelV x v->r x H Q ->
  wpAny (model X.prog X.w) X.A (f v) (EP X pins σ Q) X.xe s
def cj(X:Cx)(f:Value)(r:List V->Hp->VK->Prop):Prop:=
 ∀(pins:List (Addr×Obj)) (s:Shared) (σ:St) (H:Hp) (xs:List V) (us:List Value) (Q:VK),Inv X pins σ H s->aq xs us->r xs H Q ->
  wpAny (model X.prog X.w) X.A (call f us) (EP X pins σ Q) X.xe s
def EB(X:Cx)(r:V->Hp->(Bool->Hp->Prop)->Prop):Prop:=
 ∀(pins:List (Addr×Obj)) (s:Shared) (σ:St) (H:Hp) (x:V) (v:Value) (Q:Bool->Hp->Prop),Inv X pins σ H s->RelV x v->r x H Q ->
  wpAny (model X.prog X.w) X.A (truthy v) (TP X pins σ Q) X.xe s
def sE(r:R2)(ta tb:TE):TE:=λσ H Q=>ta σ H λx H1=>tb σ H1 λy H2=>r x y H2 Q
def Jw(r:V->Hp->VK->Prop)(ta:TE):TE:=λσ H Q=>ta σ H λx H1=>r x H1 Q
def rI(C:Int->Int->Prop)(g:Int->Int->V):R2:=λx y H Q=>∃i j,x=.int i/\y=.int j/\C i j/\Q (g i j) H
def pd(g:Int->Int->V):R2:=λx y H Q=>∃i j,x=.int i/\y=.int j/\Q (g i j) H
def rU(g:Int->V):V->Hp->VK->Prop:=λx H Q=>∃i,x=.int i/\Q (g i) H
section
variable {X:Cx}{a b c:Expr}{ta tb tc:TE}{pos:Pos}
theorem pZ(ha:PE X a ta)(hb:PE X b tb){pins:List (Addr×Obj)}{s:Shared}{σ:St}{H:Hp}{R:V->V->Hp->Prop}(I:Inv X pins σ H s)
  (h:ta σ H λx H1=>tb σ H1 λy H2=>R x y H2){Q:Value->Shared->Prop}{f:Value->Value->Sem Value}
  (hf:∀v u s2 x y H2,Inv X pins σ H2 s2->RelV x v->RelV y u->R x y H2->wpAny (model X.prog X.w) X.A (f v u) Q X.xe s2):
  wpAny (model X.prog X.w) X.A (eval a X.env) (λv aG=>wpAny (model X.prog X.w) X.A (eval b X.env) (λu jG=>wpAny (model X.prog X.w) X.A (f v u) Q X.xe jG) X.xe aG) X.xe s:=by
 refine bu (ha pins s σ H _ I h) λv s1 ⟨x,H1,I1,r1,q1⟩=>?_
 refine bu (hb pins s1 σ H1 _ I1 q1) λu s2 ⟨y,H2,I2,r2,q2⟩=>?_
 exact hf v u s2 x y H2 I2 r1 r2 q2
theorem tG(ho:fy X (binaryOp op) r)(ha:PE X a ta)(hb:PE X b tb):PE X (.BinOp a op b pos) (sE r ta tb):=by
 intro pins s σ H Q I h
 exact wpAny_BinOp (pZ ha hb I h λv u s2 x y H2 I2 rx ry q=>ho pins s2 σ H2 x y v u Q I2 rx ry q)
theorem tE(ho:EA X (unaryOp op) r)(ha:PE X a ta):PE X (.UnaryOp op a pos) (Jw r ta):=by
 intro pins s σ H Q I h
 exact UnaryOp_ (bu (ha pins s σ H _ I h) λv s1 ⟨x,H1,I1,r1,q1⟩=>ho pins s1 σ H1 x v Q I1 r1 q1)
theorem tO{f:Value->Value->Sem Value}{C:Int->Int->Prop}{g:Int->Int->Int}
  (rule:∀(i j:Int) (t u:Tok) (s:Shared) (Q:Value->Shared->Prop) (E:Value->Shared->Prop),C i j->Q (.int (g i j) s.toks) { s with toks:=s.toks+1 }->wpAny (model X.prog X.w) X.A (f (.int i t) (.int j u)) Q E s):
  fy X f (rI C λi j=>.int (g i j)):=by
 intro pins s σ H x y v u Q I rx ry h
 obtain ⟨i,j,rfl,rfl,hc,q⟩:=h
 obtain ⟨t,rfl⟩:=rx
 obtain ⟨t',rfl⟩:=ry
 exact rule i j t t' s _ _ hc ⟨.int (g i j),H,I.tok _,⟨_,rfl⟩,q⟩
theorem Ag{f:Value->Value->Sem Value}{g:Int->Int->Int}
  (rule:∀(i j:Int) (t u:Tok) (s:Shared) (Q:Value->Shared->Prop) (E:Value->Shared->Prop),Q (.int (g i j) s.toks) { s with toks:=s.toks+1 }->wpAny (model X.prog X.w) X.A (f (.int i t) (.int j u)) Q E s):
  fy X f (pd λi j=>.int (g i j)):=by
 intro pins s σ H x y v u Q I rx ry h
 obtain ⟨i,j,rfl,rfl,q⟩:=h
 obtain ⟨t,rfl⟩:=rx
 obtain ⟨t',rfl⟩:=ry
 exact rule i j t t' s _ _ ⟨.int (g i j),H,I.tok _,⟨_,rfl⟩,q⟩
theorem pj{f:Value->Value->Sem Value}{g:Int->Int->Bool}
  (rule:∀(i j:Int) (t u:Tok) (s:Shared) (Q:Value->Shared->Prop) (E:Value->Shared->Prop),Q (.bool (g i j)) s->wpAny (model X.prog X.w) X.A (f (.int i t) (.int j u)) Q E s):
  fy X f (pd λi j=>.bl (g i j)):=by
 intro pins s σ H x y v u Q I rx ry h
 obtain ⟨i,j,rfl,rfl,q⟩:=h
 obtain ⟨t,rfl⟩:=rx
 obtain ⟨t',rfl⟩:=ry
 exact rule i j t t' s _ _ ⟨.bl (g i j),H,I,rfl,q⟩
def w5(i j:Int):Prop:=(-(2^64)<i/\i<2^64)\/(-(2^64)<j/\j<2^64)
theorem w5.ok(h:w5 i j):IntMulOk i j:=by
 rcases h with ⟨h1,h2⟩ | ⟨h1,h2⟩
 .exact .of_left (xO h1 h2)
 .exact .of_right (xO h1 h2)
theorem ph:fy X (binaryOp .Add) (pd λi j=>.int (i+j)):=Ag λ_ _ _ _ _ _ _ q=>add_int q
theorem Jt{f:Value->Sem Value}{g:Int->Int}
  (rule:∀(i:Int) (t:Tok) (s:Shared) (Q:Value->Shared->Prop) (E:Value->Shared->Prop),Q (.int (g i) s.toks) { s with toks:=s.toks+1 }->wpAny (model X.prog X.w) X.A (f (.int i t)) Q E s):
  EA X f (rU λi=>.int (g i)):=by
 intro pins s σ H x v Q I rx h
 obtain ⟨i,rfl,q⟩:=h
 obtain ⟨t,rfl⟩:=rx
 exact rule i t s _ _ ⟨.int (g i),H,I.tok _,⟨_,rfl⟩,q⟩
theorem Qi:EA X (unaryOp .USub) (rU λi=>.int (-i)):=Jt λ_ _ _ _ _ q=>neg_int q
end
section
variable {X:Cx}{a b c:Expr}{ta tb tc:TE}{pos:Pos}
theorem P1{pins:List (Addr×Obj)}{σ:St}{H:Hp}{s:Shared}{Q:VK}{k k':Bool}(I:Inv X pins σ H s)(q:Q (.bl k) H)(e:k=k'):EP X pins σ Q (.bool k') s:=by
 subst e
 exact ⟨.bl k,H,I,rfl,q⟩
theorem tL:fy X (compareOp .Lt) (pd λi j=>.bl (decide (i<j))):=pj λ_ _ _ _ _ _ _ q=>lt_int q
theorem tM:fy X (compareOp .LtE) (pd λi j=>.bl (decide (i<=j))):=pj λ_ _ _ _ _ _ _ q=>le_int q
theorem tN:fy X (compareOp .Gt) (pd λi j=>.bl (decide (j<i))):=pj λ_ _ _ _ _ _ _ q=>gt_int q
theorem PC:fy X (compareOp .Is) (λx y H Q=>y=.aI/\Q (.bl (decide (x=.aI))) H):=by
 intro pins s σ H x y v u Q I rx ry h
 obtain ⟨rfl,q⟩:=h
 cases ry
 refine is_none_gen (P1 I q ?_)
 cases x<;>first
  | (cases rx;rfl)
  | (obtain ⟨t,rfl⟩:=rx;rfl)
theorem fy.or(h:fy X f r)(h':fy X f r'):fy X f (λx y H Q=>r x y H Q\/r' x y H Q):=by
 intro pins s σ H x y v u Q I rx ry q
 rcases q with q | q
 .exact h pins s σ H x y v u Q I rx ry q
 .exact h' pins s σ H x y v u Q I rx ry q
theorem G1(b:Expr)(h:op≠.In:=by decide)(h2:op≠.NotIn:=by decide):behindInMarks op b=false:=by
 have e1:(op==CmpOp.In)=false:=by cases op<;>first | rfl | exact absurd rfl h
 have e2:(op==CmpOp.NotIn)=false:=by cases op<;>first | rfl | exact absurd rfl h2
 cases b<;>simp [behindInMarks,e1,e2]
theorem b2i(ho:fy X (compareOp op) r)(ha:PE X a ta)(hb:PE X b tb)(hm:behindInMarks op b=false):PE X (.Compare a [op] [b] pos) (sE r ta tb):=by
 intro pins s σ H Q I h
 exact wpAny_Compare1 (pZ ha hb I h λv u s2 x y H2 I2 rx ry q=>ho pins s2 σ H2 x y v u Q I2 rx ry q) hm
def sD(t:TE):TT:=λσ H Q=>t σ H λx H'=>∃k,x=.bl k/\Q k H'
theorem QJ(ho:fy X (compareOp op) r)(ha:PE X a ta)(hb:PE X b tb)(hm:behindInMarks op b=false):PT X (.Compare a [op] [b] pos) (sD (sE r ta tb)):=by
 intro pins s σ H Q I h
 refine wpAny_isTrue_Compare1 (bu (ha pins s σ H _ I h) λv s1 ⟨x,H1,I1,r1,q1⟩=>bu (hb pins s1 σ H1 _ I1 q1) λu s2 ⟨y,H2,I2,r2,q2⟩ =>
  bu (ho pins s2 σ H2 x y v u _ I2 r1 r2 q2) λc s3 ⟨z,H3,I3,r3,k,e,q3⟩=>?_) hm
 subst e
 cases r3
 exact vo ⟨H3,I3,q3⟩
def qE(K:aC)(x:V)(H:Hp)(k:Bool):Prop:=
 match x with
 | .aI=>k=false
 | .bl b=>k=b
 | .int i=>k=(i != 0)
 | .str y=>y.length<=sizeLine/\k=((y.length:Int) != 0)
 | .vi y=>y.size<=sizeLine/\k=((y.size:Int) != 0)
 | .ref p=>(∃xs,dg K H p xs/\k=!xs.isEmpty)\/(∃xs,dv K H p xs/\k=!xs.isEmpty)\/∃bb,H p=some (.dK bb)/\k=!bb.isEmpty
 | _=>False
theorem Td{κ:Type}{bb:List (κ×V)}{vs:List (κ×Value)}(r:KV bb vs):(!vs.isEmpty)=!bb.isEmpty:=by
 cases r<;>rfl
theorem Iq(r:aq xs ao):(!ao.toArray.isEmpty)=!xs.isEmpty:=by
 cases r<;>simp
theorem rN:(sizeLine:Nat)<2^63:=by rw [il];decide
theorem Qg:EB X (λx H Q=>∃k,qE X.K x H k/\Q k H):=by
 intro pins s σ H x v Q I rx h
 obtain ⟨k,e,q⟩:=h
 have hl:=rN
 have hs:sizeLine=16777216:=il
 cases x with
 | aI =>
  cases rx
  have e':k=false:=e
  subst e'
  exact truthy_none ⟨H,I,q⟩
 | bl b =>
  cases rx
  have e':k=b:=e
  subst e'
  exact vo ⟨H,I,q⟩
 | int i =>
  obtain ⟨t,rfl⟩:=rx
  have e':k=(i != 0):=e
  subst e'
  exact PySem.P.truthy_int ⟨H,I,q⟩
 | str y =>
  obtain ⟨t,rfl⟩:=rx
  obtain ⟨hy,e'⟩:y.length<=sizeLine/\k=((y.length:Int) != 0):=e
  subst e'
  exact PySem.P.truthy_str (by ext hs hy) ⟨H,I.tok _,q⟩
 | vi y =>
  obtain ⟨t,rfl⟩:=rx
  obtain ⟨hy,e'⟩:y.size<=sizeLine/\k=((y.size:Int) != 0):=e
  subst e'
  exact PySem.W.truthy_bytes (et ‹_› (by decide)) ⟨H,I.tok _,q⟩
 | ref p =>
  cases rx
  have e':(∃xs,dg X.K H p xs/\k=!xs.isEmpty)\/(∃xs,dv X.K H p xs/\k=!xs.isEmpty)\/∃bb,H p=some (.dK bb)/\k=!bb.isEmpty:=e
  rcases e' with ⟨xs,hx,e'⟩ | ⟨xs,hx,e'⟩ | ⟨bb,hx,e'⟩
  .subst e'
   obtain ⟨ao,r,pl,hz⟩:=I.list hx
   have hlen:=r.length
   exact wpAny_truthy_list pl.isList (by simp only [di];ext hs hz hlen) ⟨H,I.tok _,by rw [Iq r];exact q⟩
  .subst e'
   obtain ⟨ao,r,pl,hz⟩:=I.tuple hx
   have hlen:=r.length
   exact truthy_tuple pl (by simp only [di];ext hs hz hlen) ⟨H,I.tok _,by rw [Iq r];exact q⟩
  .subst e'
   obtain ⟨hz,hS,vs,r,m⟩:bb.length<=sizeLine/\(p==sysModules)=false/\∃vs,KV bb vs/\s.heap.DictOf (C7 X.prog X.w) p vs:=I.bw p _ hx
   have hlen:bb.length=vs.length:=Paired.length r
   exact wpAny_truthy_dict hS m (by ext hs hz hlen) ⟨H,I.tok _,by rw [Td r];exact q⟩
 | _=>exact (show False from e).elim
theorem HF(ha:PE X a ta)(he:∀whole,isTrue a X.env whole=(do let v <-whole;standAt a.pos;holding [v] (truthy v))):
  PT X a (λσ H Q=>ta σ H λx H'=>∃k,qE X.K x H' k/\Q k H'):=by
 intro pins s σ H Q I h
 exact isTrue_plain (bu (ha pins s σ H _ I h) λv s1 ⟨x,H1,I1,r1,q1⟩=>Qg pins s1 σ H1 x v Q I1 r1 q1) (he _)
theorem iH:fy X (binaryOp .Add) (λx y H Q=>∃i j,x=.str i/\y=.str j/\i.length+j.length<=sizeLine/\Q (.str (i++j)) H):=by
 intro pins s σ H x y v u Q I rx ry h
 obtain ⟨i,j,rfl,rfl,hz,q⟩:=h
 obtain ⟨t,rfl⟩:=rx
 obtain ⟨t',rfl⟩:=ry
 exact add_str (λt' tk=>⟨.str (i++j),H,I.tok _,⟨_,rfl⟩,q⟩) hz
theorem vals1(r:aq [x] us):∃u,us=[u]/\RelV x u:=by
 cases r with
 | cons r1 r2=>cases r2;exact ⟨_,rfl,r1⟩
theorem vals2(r:aq [x,y] us):∃u w',us=[u,w']/\RelV x u/\RelV y w':=by
 cases r with
 | cons r1 r2 =>
  cases r2 with
  | cons r3 r4=>cases r4;exact ⟨_,_,rfl,r1,r3⟩
theorem SW(hc:X.calm=true):cj X (.builtin "max") (λxs H Q=>∃i j,xs=[.int i,.int j]/\Q (.int (if j>i then j else i)) H):=by
 intro pins s σ H xs us Q I r h
 obtain ⟨i,j,rfl,q⟩:=h
 obtain ⟨u,w',rfl,⟨t,rfl⟩,⟨t',rfl⟩⟩:=vals2 r
 refine max_two_ints (I.ok.hd hc) λh' tk k=>⟨_,H,I.kept k,?_,q⟩
 by_cases hj:j>i
 .rw [if_pos hj,if_pos hj];exact ⟨_,rfl⟩
 .rw [if_neg hj,if_neg hj];exact ⟨_,rfl⟩
theorem SX(hc:X.calm=true):cj X (.builtin "min") (λxs H Q=>∃i j,xs=[.int i,.int j]/\Q (.int (if j<i then j else i)) H):=by
 intro pins s σ H xs us Q I r h
 obtain ⟨i,j,rfl,q⟩:=h
 obtain ⟨u,w',rfl,⟨t,rfl⟩,⟨t',rfl⟩⟩:=vals2 r
 refine min_two_ints (I.ok.hd hc) λh' tk k=>⟨_,H,I.kept k,?_,q⟩
 by_cases hj:j<i
 .rw [if_pos hj,if_pos hj];exact ⟨_,rfl⟩
 .rw [if_neg hj,if_neg hj];exact ⟨_,rfl⟩
end
end L2
namespace L2
open PySem PySem.Spec PyProof.Rows
structure Ux(h:Heap)(x dx C:Addr)(mA:Str->Option Value):Prop where
 obj:h.get? x=some (FH C dx)
 ns:h.Ns1 dx mA
 ne:dx≠x
section
variable {prog:Program}{w:World}{A:Around}{E:Value->Shared->Prop}{s:Shared}{K:aC}{x dx C f:Addr}{mA:Str->Option Value}{name:Str}{v:Value}
end
theorem nG.none_of(r:nG none o):o=none:=by
 cases o with
 | none=>rfl
 | some u=>exact (show False from r).elim
section
variable {P:Program}{w:World}{H H':Hp}{h h':Heap}{a C dx:Addr}{fs Bh:List (Str×V)}
end
structure EH(K:aC)(C:Addr):Prop where
 pg:FK K C Str.empty=true
 hd:PySem.W.hasDictIn K C=true
 po:PySem.W.plainOver K C=true
 sa:vy K (.ref C) "__setattr__" = some (some (.builtin "object.__setattr__"))
theorem EH.get{K:aC}{C:Addr}(c:EH K C)(f:Str):FK K C f=true:=c.pg
structure WA(K:aC)(C:Addr)(f:Str)(v:V)(u:Value):Prop where
 at_:vy K (.ref C) f=some (some u)
 rel:RelV v u
 get:FN K u "__get__" = some none
 cp:PySem.W.copiedNames.contains f=false
structure Uy(K:aC)(C:Addr)(m:Str)(f:Addr):Prop where
 at_:vy K (.ref C) m=some (some (.ref f))
 fn:PySem.W.isFn K (.ref f)=true
 kp:qa K (.ref f)=true
section
variable {X:Cx}{pins:List (Addr×Obj)}{σ:St}{H:Hp}{s:Shared}{a C dx:Addr}{fs:List (Str×V)}{f:Str}{v:V}{A:Around}{E:Value->Shared->Prop}
end
section
variable {X:Cx}{o e value:Expr}{f:Str}{pos pos' Ju:Pos}{ta tv:TE}
end
section
variable {X:Cx}{pins:List (Addr×Obj)}{σ:St}{H:Hp}{s:Shared}{A:Around}{E:Value->Shared->Prop}{Q:Value->Shared->Prop}{c:Value}{b:Bool}
inductive fo (K:aC) (H:Hp):V->Value->Prop where
 | aI:fo K H .aI (.type "NoneType")
 | bl (x:Bool):fo K H (.bl x) (.type "bool")
 | int (i:Int):fo K H (.int i) (.type "int")
 | str (x:Str):fo K H (.str x) (.type "str")
 | uU (x:UInt64):fo K H (.uU x) (.type "float")
 | lst {a:Addr} {xs:List V} (e:H a=some (.lst xs)):fo K H (.ref a) (.type "list")
 | gx {a:Addr} {o:Obj} {xs:List V} (e:H a=some (.gx o (.lst xs))):fo K H (.ref a) (.type "list")
 | tup {a:Addr} {xs:List V} (e:H a=some (.tup xs)):fo K H (.ref a) (.type "tuple")
 | dK {a:Addr} {bb:List (Key×V)} (e:H a=some (.dK bb)):fo K H (.ref a) (.type "dict")
 | dT {a:Addr} {bb:List (List Key×V)} (e:H a=some (.dT bb)):fo K H (.ref a) (.type "dict")
 | ins {a C dx:Addr} {fs:List (Str×V)} (e:H a=some (.ins C dx fs)) (cl:EH K C) (ha:vy K (.ref C) "__class__" = some (some (.builtin "object.__class__")))
   (hn:FN K (.builtin "object.__class__") "__get__" = some (some (.builtin "getset_descriptor.__get__"))) (Vl:PySem.W.takesIn K (.builtin "object.__class__")=some true)
   (hm:PySem.W.mroIn K C (.type "object")=some true):fo K H (.ref a) (.ref C)
end
end L2
namespace L2
open PySem PySem.Spec PyProof.Rows
structure bH(k:Nat)(A:Around):Prop where
 hd:A.handled=none
 dp:A.depth+3*k+5<recursionLimit
 un:A.units+16*k+200<cLine
theorem bH.mono(r:bH k A)(h:j<=k):bH j A:=⟨r.hd,by have:=r.dp;ext h this,by have:=r.un;ext h this⟩
theorem bH.deeper(r:bH (k+1) A)(env:Env):bH k (A.deeper env):=
 ⟨r.hd,by have:=r.dp;show A.depth+1+3*k+5<_;ext this,by have:=r.un;show A.units+3+16*k+200<_;ext this⟩
theorem bH.in1(r:bH (k+1) A):bH k A.in1:=
 ⟨r.hd,by have:=r.dp;show A.depth+3*k+5<_;ext this,by have:=r.un;show A.units+1+16*k+200<_;ext this⟩
theorem Tf{A:Around}{kw:List (Str×Value)}:(A.under (.builtin "type.__call__" ⟨.ref C::us,kw⟩)).depth=A.depth+1:=by
 first | rfl | simp [BI,Code.weight,Code.isCreation,Code.isGuard,Code.isCaller,Code.frames,BH,guardIds]
theorem Tg{A:Around}{kw:List (Str×Value)}:(A.under (.builtin "type.__call__" ⟨.ref C::us,kw⟩)).units=A.units+1:=by
 first | rfl | simp [BI,Code.cUnits,Code.frames,BH]
theorem bH.make(r:bH (k+1) A)(C:Addr)(us:List Value)(kw:List (Str×Value)):bH k (A.under (.builtin "type.__call__" ⟨.ref C::us,kw⟩)):=
 ⟨r.hd,by have:=r.dp;rw [Tf];ext this,by have:=r.un;rw [Tg];ext this⟩
theorem bH.depth(r:bH k A):A.depth<recursionLimit:=by have:=r.dp;ext this
theorem bH.units(r:bH k A):A.units+64<cLine:=by have:=r.un;ext this
def zN:TA:=λ_ H Q=>Q [] H
def sI(ta:TE)(tr:TA):TA:=λσ H Q=>ta σ H λx H1=>tr σ H1 λxs H2=>Q (x::xs) H2
section
variable {X:Cx}{e:Expr}{es:List Expr}{te:TE}{t:TA}{pos:Pos}
theorem ni:PA X [] zN:=λ_ _ _ _ H Q I h=>Calls.spliced_nil ⟨[],H,I,.nil,h⟩
theorem my(ha:PE X e te)(hr:PA X es t)(hs:starEach (e::es) X.env=(false,eval e X.env)::starEach es X.env:=by rfl):PA X (e::es) (sI te t):=by
 intro pos pins s σ H Q I h
 rw [hs]
 show wpAny _ _ (spliced ((false,eval e X.env)::backTo pos (starEach es X.env))) _ _ s
 refine Calls.spliced_cons (bu (ha pins s σ H _ I h) λu s1 ⟨x,H1,I1,r1,q1⟩=>?_)
 exact bu (hr pos pins s1 σ H1 _ I1 q1) λus s2 ⟨xs,H2,I2,r2,q2⟩=>⟨x::xs,H2,I2,.cons r1 r2,q2⟩
def zI(t:TA):TE:=λσ H Q=>t σ H λxs H1=>xs.length<=sizeLine/\∀p,H1 p=none->Q (.ref p) (upd H1 p (.tup xs))
def zO(t:TA):TE:=λσ H Q=>t σ H λxs H1=>xs.length<=sizeLine/\∀p,H1 p=none->Q (.ref p) (upd H1 p (.lst xs))
theorem PO{x1}(h:PA X es t):PE X (.Tuple es x1 pos) (zI t):=by
 intro pins s σ H Q I hq
 refine wpAny_Tuple_spliced (bu (h pos pins s σ H _ I hq) λus s1 ⟨xs,H1,I1,r,z,q⟩=>⟨by rw [<-r.length];exact z,?_⟩)
 have hf:H1 s1.heap.objs.size=none:=I1.bw.fresh (bj _)
 refine ⟨.ref s1.heap.objs.size,upd H1 s1.heap.objs.size (.tup xs),I1.laid (t':=s1.toks) (λb u e=>fT _ e) (bj _) ?_,rfl,q _ hf⟩
 exact ⟨z,us,r,⟨_,l9 _ rfl,rfl,_,rfl⟩⟩
theorem PK(h:PA X es t):PE X (.List es pos) (zO t):=by
 intro pins s σ H Q I hq
 refine wpAny_List_spliced (bu (h pos pins s σ H _ I hq) λus s1 ⟨xs,H1,I1,r,z,q⟩=>⟨by rw [<-r.length];exact z,?_⟩)
 have hf:H1 s1.heap.objs.size=none:=I1.bw.fresh (bj _)
 refine ⟨.ref s1.heap.objs.size,upd H1 s1.heap.objs.size (.lst xs),I1.laid (t':=s1.toks) (λb u e=>fT _ e) (bj _) ?_,rfl,q _ hf⟩
 exact ⟨z,us,0,r,l9 _ rfl⟩
end
abbrev Sp:=List V->Hp->VK->XK->Prop
abbrev kf:=List Env->Hp->Shared->XK->Value->Shared->Prop
structure fQ(P:Program)(w:World)(K:aC)(mg:Str->Option Value)(base:Heap)(A:Around)(outer:List Env)(s:Shared)(H:Hp):Prop where
 frames:A.frames=some outer
 mod:Mod K mg base
 bs:∀b o,base.get? b=some o->s.heap.get? b=some o/\H b=none
 lC:base.objs.size<=s.heap.objs.size
 dU:s.heap.FunFrames base outer
 n0:∀b∈lq outer,H b=none
 bw:fq P w H s.heap
 bare:AllBare s.gens
def CE(outer:List Env)(P:Program)(w:World)(H:Hp)(s:Shared)(Q:VK)(u:Value)(s':Shared):Prop:=
 ∃v H',s'.os=s.os/\AllBare s'.gens/\Un (lq outer) [] H H' s.heap s'.heap/\fq P w H' s'.heap/\RelV v u/\Q v H'
def CR(CX:kf)(outer:List Env)(P:Program)(w:World)(H:Hp)(s:Shared)(Q:VK)(E:XK)(r:Result)(s':Shared):Prop:=
 match r with
 | .ok (.ret u)=>CE outer P w H s Q u s'
 | .ok _=>False
 | .error e=>CX outer H s E e s'
structure cu(P:Program)(w:World)(K:aC)(mg:Str->Option Value)(base:Heap)(CX:kf)(k:Nat)(f:Addr)(fd:FuncData)(ps:List Str)(sp:Sp):Prop where
 len:∀vs H Q E,sp vs H Q E->vs.length=ps.length
 run:∀(A:Around) (outer:List Env) (s:Shared) (H:Hp) (args:Args) (us:List Value) (vs:List V) (Q:VK) (E:XK),bH k A->fQ P w K mg base A outer s H->BindsTo s fd args (ps.zip us)->aq vs us->sp vs H Q E ->
  codeAny (model P w) A (.call (.ref f) args) (CR CX outer P w H s Q E) s
theorem cu.mono{P:Program}{w:World}{K:aC}{mg:Str->Option Value}{base:Heap}{CX:kf}{j k:Nat}{f:Addr}{fd:FuncData}{ps:List Str}{sp:Sp}(F:cu P w K mg base CX j f fd ps sp)(h:j<=k):
  cu P w K mg base CX k f fd ps sp:=⟨F.len,λA outer s H args us vs Q E hr=>F.run A outer s H args us vs Q E (hr.mono h)⟩
theorem cu.imp{P:Program}{w:World}{K:aC}{mg:Str->Option Value}{base:Heap}{CX:kf}{k:Nat}{f:Addr}{fd:FuncData}{ps:List Str}{sp EK:Sp}(F:cu P w K mg base CX k f fd ps sp)
  (h:∀vs H Q E,EK vs H Q E->sp vs H Q E):cu P w K mg base CX k f fd ps EK:=
 ⟨λvs H Q E q=>F.len vs H Q E (h _ _ _ _ q),λA outer s H args us vs Q E hr he hb hv hs=>F.run A outer s H args us vs Q E hr he hb hv (h _ _ _ _ hs)⟩
theorem fQ.make{P:Program}{w:World}{K:aC}{mg:Str->Option Value}{base:Heap}{A:Around}{outer:List Env}{s:Shared}{H:Hp}(e:fQ P w K mg base A outer s H)(C:Addr)(us:List Value)(kw:List (Str×Value)):
  fQ P w K mg base (A.under (.builtin "type.__call__" ⟨.ref C::us,kw⟩)) outer s H:=⟨by first | exact e.frames | (simpa [BI,Code.envs,BH,pushEnvs] using e.frames),e.mod,e.bs,e.lC,e.dU,e.n0,e.bw,e.bare⟩
theorem fQ.in1{P:Program}{w:World}{K:aC}{mg:Str->Option Value}{base:Heap}{A:Around}{outer:List Env}{s:Shared}{H:Hp}(e:fQ P w K mg base A outer s H):
  fQ P w K mg base A.in1 outer s H:=⟨e.frames,e.mod,e.bs,e.lC,e.dU,e.n0,e.bw,e.bare⟩
section
variable {X:Cx}{pins:List (Addr×Obj)}{σ:St}{H:Hp}{s s':Shared}
theorem Inv.ff(I:Inv X pins σ H s):fQ X.prog X.w X.K X.mg X.base X.A X.stack s H:=
 ⟨I.ok.frames,I.ok.mod,I.bs,et I.ok.lC I.sz,I.stack,I.jo,I.bw,I.bare⟩
theorem Inv.after(I:Inv X pins σ H s)(h:CE X.stack X.prog X.w H s Q u s'):EP X pins σ Q u s':=by
 obtain ⟨v,H',os,bare,un,bw,r,q⟩:=h
 obtain ⟨hh,g,d,t,KS⟩:=s'
 obtain rfl:KS=s.os:=os
 exact ⟨v,H',I.call (h':=hh) (g':=g) (d':=d) (t':=t) (ch:=[]) un bw bare (λb z=>absurd z (by simp)),r,q⟩
end
def GG(sp:Sp)(n8:List V)(E:XK)(t:TA):TE:=λσ H Q=>t σ H λvs H1=>sp (vs++n8) H1 Q E
def Binds(K:aC)(fd:FuncData)(ps:List Str)(ds:List Value):Prop:=
 ∀(s:Shared) (us:List Value),K.In s.heap->(us++ds).length=ps.length->BindsTo s fd ⟨us,[]⟩ (ps.zip (us++ds))
theorem Binds.all{K:aC}{fd:FuncData}{ps:List Str}(h:∀us:List Value,us.length=ps.length->bindArgs fd ⟨us,[]⟩=pure (ps.zip us)):Binds K fd ps []:=λs us _ hl=>by
 rw [lD] at hl ⊢
 exact .of_eq (h us hl)
def CG(CX:kf)(X:Cx)(E:XK):Prop:=∀(pins:List (Addr×Obj)) (σ:St) (H:Hp) (s:Shared) (e:Value) (s':Shared),Inv X pins σ H s->CX X.stack H s E e s'->X.xe e s'
section
variable {X:Cx}{CX:kf}{k:Nat}{f C:Addr}{fd:FuncData}{ps:List Str}{sp:Sp}{n8:List V}{ds:List Value}{E:XK}{x m:Str}{p pos apos:Pos}{e o:Expr}{es:List Expr}{ta:TE}{t:TA}
theorem Qq{pins:List (Addr×Obj)}{σ:St}{H:Hp}{s:Shared}{Q:VK}{us:List Value}{vs:List V}(F:cu X.prog X.w X.K X.mg X.base CX k f fd ps sp)(hr:bH k X.A)(hb:Binds X.K fd ps ds)(hd:aq n8 ds)(hx:CG CX X E)
  (I:Inv X pins σ H s)(r:aq vs us)(h:sp (vs++n8) H Q E):wpAny (model X.prog X.w) X.A (call (.ref f) us) (EP X pins σ Q) X.xe s:=by
 have r2:aq (vs++n8) (us++ds):=r.append hd
 have hl:(us++ds).length=ps.length:=by rw [<-r2.length];exact F.len _ _ _ _ h
 refine wpAny_call (codeAny_mono (F.run X.A X.stack s H ⟨us,[]⟩ (us++ds) (vs++n8) Q E hr I.ff (hb s us I.qU hl) r2 h) λr s' hq=>?_)
 cases r with
 | error e=>exact hx pins σ H s e s' I hq
 | ok fl =>
  cases fl with
  | ret u=>exact I.after hq
  | next=>exact ip hq
  | brk=>exact ip hq
  | cont=>exact ip hq
theorem QE(F:cu X.prog X.w X.K X.mg X.base CX k f fd ps sp)(hr:bH k X.A)(hg:Gl X x)(hm:X.mg x=some (.ref f))(hk:qa X.K (.ref f)=true)(hb:Binds X.K fd ps ds)(hd:aq n8 ds)(hx:CG CX X E)
  (ha:PA X (e::es) t)(lh:(x==("__debug__":Str))=false:=by decide)(he:starEach (e::es) X.env=(false,eval e X.env)::starEach es X.env:=by rfl)(ei:(backTo pos (starEach es X.env)).any (·.1)=false:=by rfl):
  PE X (.Call (.Name x p) (e::es) [] pos) (GG sp n8 E t):=by
 intro pins s σ H Q I h
 refine Ce (Qt I hg hm ?_ lh)
 refine PySem.W.callWith_K (h₀:=X.base) I.ok.mod.Ar hk (bu (ha pos pins s σ H _ I h) λus s1 ⟨vs,H1,I1,r,q⟩=>⟨I1.qU,?_⟩) he ei
 exact Qq F hr hb hd hx I1 r q
structure Mk(K:aC)(C f:Addr):Prop where
 makes:PySem.W.makesIn K C=true
 init:vy K (.ref C) "__init__" = some (some (.ref f))
 fn:PySem.W.isFn K (.ref f)=true
 kp:qa K (.ref C)=true
end
section
variable {X:Cx}{CX:kf}{k:Nat}{f C:Addr}{fd:FuncData}{ps ks:List Str}{sp:Sp}{E:XK}{x m:Str}{p pos apos L9:Pos}{e o:Expr}{es:List Expr}{Va:List Keyword}{te ta:TE}{t tk:TA}{nm:Option Str}
structure EF(K:aC)(fd:FuncData)(ps ks:List Str)(g:List Value->List Value->List Value)(gV:List V->List V->List V):Prop where
 to:∀(s:Shared) (us ws:List Value),K.In s.heap->(g us ws).length=ps.length->BindsTo s fd ⟨us,ks.zip ws⟩ (ps.zip (g us ws))
 rel:∀{vs:List V} {us:List Value} {zs:List V} {ws:List Value},aq vs us->aq zs ws->aq (gV vs zs) (g us ws)
variable {g:List Value->List Value->List Value}{gV:List V->List V->List V}
end
structure cM(N P:List Str)(sc:Scope):Prop where
 kind:sc.kind=.function
 co:sc.isCoroutine=false
 gen:sc.isGenerator=false
 nd:N.Nodup
 pre:N.take P.length=P
 par:∀x∈P,sc.names.lookup x=some .local\/sc.names.lookup x=some .cell
 pk:∀y∈sc.names,y.2≠.free
theorem Ik{kindOf:Str->Option NameKind}{x:Str}:∀{binds:List (Str×Value)} {m:Str->Option Value},(∀v,(x,v)∉binds)->bindL kindOf binds m x=m x
 | [],_,_=>rfl
 | (n,v)::r,m,h=>by
  unfold bindL
  rw [Ik λw hw=>h w (dj _ hw)]
  split
  .have:x≠n:=by rintro rfl;exact h v cP
   simp [this]
  .rfl
theorem Ii{kindOf:Str->Option NameKind}{x:Str}:∀{binds:List (Str×Value)} {m:Str->Option Value},(∀v,(x,v)∉binds)->bindC kindOf binds m x=m x
 | [],_,_=>rfl
 | (n,v)::r,m,h=>by
  unfold bindC
  rw [Ii λw hw=>h w (dj _ hw)]
  split
  .rfl
  .have:x≠n:=by rintro rfl;exact h v cP
   simp [this]
theorem Ij{kindOf:Str->Option NameKind}{x:Str}{v:Value}:∀{P:List Str} {vs:List Value} {i:Nat} {m:Str->Option Value},P.Nodup->P[i]?=some x->vs[i]?=some v->kindOf x=some .local ->
  bindL kindOf (P.zip vs) m x=some v
 | [],_,_,_,_,h,_,_=>by simp at h
 | _::_,[],_,_,_,_,h,_=>by simp at h
 | p::P,w::vs,0,m,nd,h1,h2,hk=>by
  simp at h1 h2;subst h1;subst h2
  show bindL kindOf ((p,w)::P.zip vs) m p=_
  unfold bindL
  rw [Ik λv hv=>(ot.mp nd).1 (yc hv).1,if_pos hk]
  simp
 | p::P,w::vs,i+1,m,nd,h1,h2,hk=>by
  show bindL kindOf ((p,w)::P.zip vs) m x=_
  unfold bindL
  exact Ij (i:=i) (ot.mp nd).2 (by simpa using h1) (by simpa using h2) hk
theorem Ih{kindOf:Str->Option NameKind}{x:Str}{v:Value}:∀{P:List Str} {vs:List Value} {i:Nat} {m:Str->Option Value},P.Nodup->P[i]?=some x->vs[i]?=some v->kindOf x≠some .local ->
  bindC kindOf (P.zip vs) m x=some v
 | [],_,_,_,_,h,_,_=>by simp at h
 | _::_,[],_,_,_,_,h,_=>by simp at h
 | p::P,w::vs,0,m,nd,h1,h2,hk=>by
  simp at h1 h2;subst h1;subst h2
  show bindC kindOf ((p,w)::P.zip vs) m p=_
  unfold bindC
  rw [Ii λv hv=>(ot.mp nd).1 (yc hv).1,if_neg hk]
  simp
 | p::P,w::vs,i+1,m,nd,h1,h2,hk=>by
  show bindC kindOf ((p,w)::P.zip vs) m x=_
  unfold bindC
  exact Ih (i:=i) (ot.mp nd).2 (by simpa using h1) (by simpa using h2) hk
def start(N:List Str)(vs:List V):St:=vs.map some++fV (N.length-vs.length) none
def iS(CX:kf)(P:Program)(w:World)(K:aC)(mg:Str->Option Value)(base:Heap)(N:List Str)(qual:Str)(scope:Scope)(f:Addr)(cd:Value)(A:Around)(outer:List Env)(s:Shared)(H:Hp)(E:XK):Cx where
 prog:=P
 w:=w
 K:=K
 mg:=mg
 base:=base
 A:=A.deeper (envOfC qual scope s.heap.objs.size f cd)
 N:=N
 bX:=s
 lQ:=H
 env:=envOfC qual scope s.heap.objs.size f cd
 outer:=outer
 stack:=envOfC qual scope s.heap.objs.size f cd::outer
 ex:=[]
 calm:=true
 fn:=λ_=>true
 pn:=[]
 xe:=λe s'=>wpAny (model P w) (A.deeper (envOfC qual scope s.heap.objs.size f cd)) (leaving (envOfC qual scope s.heap.objs.size f cd) e) (λ_ z8=>CX outer H s E e z8) (λe' z8=>CX outer H s E e' z8) s'
theorem HQ{sc:Scope}{n:Nat}{x:Str}(h:sc.names.lookup x=some .cell):∃c,(cellsFrom n sc.names []).lookup x=some c:=by
 have q:=FU sc.names n [] (.inl h)
 exact Option.isSome_iff_exists.mp q
theorem SI{CX:kf}{P:Program}{w:World}{K:aC}{mg:Str->Option Value}{base:Heap}{N ps:List Str}{qual:Str}{scope:Scope}{f:Addr}{cd:Value}{A:Around}{outer:List Env}{s s1:Shared}{H:Hp}{E:XK}{us:List Value}{vs:List V}
  (S:cM N ps scope)(hd:A.handled=none)(e0:fQ P w K mg base A outer s H)(hl:vs.length=ps.length)(r:aq vs us)
  (x:InCallC s s.heap.objs.size (bindL (envOfC qual scope s.heap.objs.size f cd).kindOf (ps.zip us) λ_=>none) (cellsFrom (s.heap.objs.size+1) scope.names []) (bindC (envOfC qual scope s.heap.objs.size f cd).kindOf (ps.zip us) λ_=>none) s1):
  Inv (iS CX P w K mg base N qual scope f cd A outer s H E) [] (start N vs) H s1:=by
 have ei:ps.length<=N.length:=by have:=congrArg ra S.pre;rw [iW] at this;ext this
 obtain ⟨h1,tk,rfl,hk⟩:=x.done
 have Ao:∀b:Addr,b∉(iS CX P w K mg base N qual scope f cd A outer s H E).ex:=λb z=>absurd (show b∈([]:List Addr) from z) (by simp)
 refine ⟨⟨e0.mod,S.kind,rfl,rfl,bj _,λy z c h1 h2=>?_,λy hy=>?_,λy c _ h=>?_,λ_=>hd,Around.frames_deeper e0.frames,.inr ⟨rfl,rfl⟩,λb z=>absurd z (Ao b),e0.bs,e0.lC,λb _ _=>Ao b,λb z=>absurd z (Ao b),e0.dU,e0.n0⟩,
  rfl,e0.bare,Un.kept hk,⟨_,x.toInCall.ns,λi y v h1 h2 h3=>?_⟩,λy c h=>⟨_,x.cell y c h⟩,e0.bw.fresh (bj _),λy c h=>?_,λp hp=>absurd (show p∈([]:List (Addr×Obj)) from hp) (by simp),e0.bw.kept hk,?_⟩
 .exact name_of_addr x.apart (rg h1) (rg h2)
 .have hy:scope.names.lookup y=some .cell\/scope.names.lookup y=some .free:=hy
  rcases hy with hy | hy
  .exact HQ hy
  .exact absurd rfl (S.pk _ (rg hy))
 .exact xN (x.above y c (rg h))
 .have hi:i<vs.length:=by
   unfold start at h2
   by_cases hi:i<vs.length
   .exact hi
   .rw [m5 (by simpa using hi)] at h2
    rw [yr] at h2
    split at h2<;>cases h2
  have ha:vs[i]?=some v:=by
   unfold start at h2
   rw [qd (by simpa using hi),rB] at h2
   cases e:vs[i]? with
   | none=>rw [e] at h2;cases h2
   | some a=>rw [e] at h2;cases h2;rfl
  obtain ⟨u,hu,rv⟩:=r.get ha
  have hp:ps[i]?=some y:=by
   rw [<-S.pre,List.getElem?_take_of_lt (by ext hl hi)];exact h1
  have E1:ps.Nodup:=by rw [<-S.pre];exact S.nd.sublist (List.take_sublist _ _)
  refine ⟨u,rv,?_⟩
  rcases S.par y (Gb hp) with k | k
  .exact .inl ⟨k,Ij E1 hp hu k⟩
  .obtain ⟨c,e⟩:=HQ (n:=s.heap.objs.size+1) k
   refine .inr ⟨.inl k,c,e,?_⟩
   have q:=x.cell y c e
   rw [Ih E1 hp hu (by show scope.names.lookup y≠_;rw [k];decide)] at q
   exact q
 .exact e0.bw.fresh (xN (x.above y c (rg h)))
 .unfold start
  show _=N.length
  rw [bP,bM,xZ]
  ext hl ei
theorem uT{CX:kf}{P:Program}{w:World}{K:aC}{mg:Str->Option Value}{base:Heap}{k:Nat}{f:Addr}{name qual:Str}{params:Arguments}{body:List Stmt}{scope:Scope}{dV kV doc pm cG ct oc:Value}{an od:Option Addr}
  {nS:Array (Option Value)}{N ps:List Str}{sp:Sp}(lk:K.lookup f=some ⟨oc,od,.func (gy name qual params body scope dV kV doc pm an cG ct),nS⟩)(cK:ym K cG qual=true)(S:cM N ps scope)
  (len:∀vs H Q E,sp vs H Q E->vs.length=ps.length)
  (cY:∀(A:Around) (outer:List Env) (s:Shared) (H:Hp) (vs:List V) (Q:VK) (E:XK),bH k (A.deeper (envOfC qual scope s.heap.objs.size f cG))->sp vs H Q E ->
   ∃t,jE (iS CX P w K mg base N qual scope f cG A outer s H E) body t/\t { nx:=λ_ H'=>Q .aI H',rt:=Q } (start N vs) H):
  cu P w K mg base CX (k+1) f (gy name qual params body scope dV kV doc pm an cG ct) ps sp:=by
 refine ⟨len,λA outer s H args us vs Q E hr e0 hb r lU=>?_⟩
 have hl:=len _ _ _ _ lU
 have KX:K.In s.heap:=e0.mod.Ar.keeps λb o e=>(e0.bs b o e).1
 have lim:s.heap.NoLimit:=e0.mod.nolimit.keeps λb o e=>(e0.bs b o e).1
 have uu:∀y∈ps.zip us,scope.names.lookup y.1=some .local\/(scope.names.lookup y.1=some .cell/\((cellsFrom (s.heap.objs.size+1) scope.names []).lookup y.1).isSome=true):=λ⟨n,v⟩ hy=>by
  rcases S.par n (yc hy).1 with q | q
  .exact .inl q
  .exact .inr ⟨q,FU _ _ _ (.inl q)⟩
 refine codeAny_call_function hr.depth (KX _ _ lk) rfl S.co S.gen rfl (PySem.W.codeRec_of KX cK) (hb _ _ _ _ ?_)
 refine wpAny_newFunctionEnv_cells S.kind uu λenv he s1 x=>?_
 subst he
 refine ⟨lim.keeps x.toInCall.keep,codeAny_func ?_⟩
 obtain ⟨t,ht,hq⟩:=cY A outer s H vs Q E (hr.deeper _) lU
 have I:Inv (iS CX P w K mg base N qual scope f cG A outer s H E) [] (start N vs) H s1:=SI S hr.hd e0 hl r x
 refine jX (ht [] s1 (start N vs) H _ I hq) (λfl s' hs=>?_) λe s' hs=>hs
 have fin:∀{aA:St} {H':Hp} {v:V} {u:Value},Inv (iS CX P w K mg base N qual scope f cG A outer s H E) [] aA H' s'->RelV v u->Q v H'->CE outer P w H s Q u s':=
  λ{aA H' v u} J rv q=>⟨v,H',J.os,J.bare,J.base,J.bw,rv,q⟩
 cases fl with
 | ret u =>
  obtain ⟨v,aA,H',J,rv,q⟩:=hs
  exact fin J rv q
 | next =>
  obtain ⟨aA,H',J,q⟩:=hs
  exact fin (v:=V.aI) (u:=iV) J rfl q
 | brk =>
  obtain ⟨_,_,_,q⟩:=hs
  exact ip q
 | cont =>
  obtain ⟨_,_,_,q⟩:=hs
  exact ip q
end L2
namespace L2
open PySem PySem.Spec PyProof.Rows
section
variable {X:Cx}{x:Str}{p pos:Pos}{e:Expr}{es:List Expr}{t:TA}{id T:String}{r:List V->Hp->VK->Prop}
def EJ(r:List V->Hp->VK->Prop)(t:TA):TE:=λσ H Q=>t σ H λvs H1=>r vs H1 Q
theorem zj(hc:cj X (.builtin id) r)(hg:Gl X x)(hm:X.mg x=none)(hv:bootBuiltins x=some (.builtin id))(ha:PA X (e::es) t)(hn:x ≠ "__name__":=by decide)(lh:(x==("__debug__":Str))=false:=by decide)
  (he:starEach (e::es) X.env=(false,eval e X.env)::starEach es X.env:=by rfl)(ei:(backTo pos (starEach es X.env)).any (·.1)=false:=by rfl):PE X (.Call (.Name x p) (e::es) [] pos) (EJ r t):=by
 intro pins s σ H Q I h
 refine Ce (rM I hg hm hv ?_ hn lh)
 exact PyProof.Rows.callWith_builtin1 (bu (ha pos pins s σ H _ I h) λus s1 ⟨vs,H1,I1,r1,q1⟩=>hc pins s1 σ H1 vs us Q I1 r1 q1) he ei
theorem DK(hc:cj X (.type T) r)(hg:Gl X x)(hm:X.mg x=none)(hv:bootBuiltins x=some (.type T))(ha:PA X (e::es) t)(hn:x ≠ "__name__":=by decide)(lh:(x==("__debug__":Str))=false:=by decide)
  (he:starEach (e::es) X.env=(false,eval e X.env)::starEach es X.env:=by rfl)(ei:(backTo pos (starEach es X.env)).any (·.1)=false:=by rfl):PE X (.Call (.Name x p) (e::es) [] pos) (EJ r t):=by
 intro pins s σ H Q I h
 refine Ce (rM I hg hm hv ?_ hn lh)
 exact yp (bu (ha pos pins s σ H _ I h) λus s1 ⟨vs,H1,I1,r1,q1⟩=>hc pins s1 σ H1 vs us Q I1 r1 q1) he ei
end
end L2
namespace HT
open PySem PyProof.Rows
section
open PySem.SeqAt
open PySem.AutoSeq1 (wpAny_loadPart')
open PySem.MeetsSeq PySem.MeetsSeq2 PySem.MeetsSeq3
end
section
variable {prog:Program}{w:World}{A:Around}{E:Value->Shared->Prop}{s:Shared}
theorem mV(ht:IsTup s.heap t vs.toArray)(hb:IsTup s.heap b ws.toArray)(hv:vs≠[])
  (h1:ws=[]->Q (.ref t) s)(h2:ws≠[]->Q (.ref s.heap.objs.size) { s with heap:=s.heap.push { cls:=.type "tuple",data:=.seq (vs++ws).toArray } })
  (hsz:vs.length+ws.length<=sizeLine):wpAny (model prog w) A (binaryOp .Add (.ref t) (.ref b)) Q E s:=by
 obtain ⟨⟨cls,dd,data,sl⟩,ho,hc,n,hd⟩:=id ht
 obtain ⟨⟨Bz,xH,data2,sR⟩,pJ,uE,n2,hd2⟩:=id hb
 simp only at hc hd uE hd2
 subst hc hd uE hd2
 have e:vs.toArray++ws.toArray=(vs++ws).toArray:=by simp
 by_cases hw:ws=[]
 .exact concat_meets ⟨_,ho,rfl⟩ ⟨_,pJ,rfl⟩ BO B2 Cc B4 (B6 _ _)
   (tuple_addW1 t b vs.toArray ws.toArray n n2 dd xH sl sR (by simpa using hv) (by simp [hw])) ⟨ho,pJ,h1 hw⟩
 .refine concat_meets ⟨_,ho,rfl⟩ ⟨_,pJ,rfl⟩ BO B2 Cc B4 (B6 _ _)
   (tuple_addW2 t b vs.toArray ws.toArray n n2 dd xH sl sR (by simpa using hv) (by simpa using hw) (by rw [di,di];exact hsz)) ⟨ho,pJ,?_⟩
  rw [e]
  exact h2 hw
def kG(n d:Nat):Option Int->Nat
 | none=>d
 | some v=>if v<0 then (v+(n:Int)).toNat else min v.toNat n
end
end HT
namespace L2
open PySem PySem.Spec PyProof.Rows
abbrev TO:=St->Hp->(Option Int->Hp->Prop)->Prop
section
variable {X:Cx}{e:Expr}{te:TE}{lo hi:Option Expr}{tl th:TO}{pos p2:Pos}
def zz(X:Cx)(r:V->Option Int->Option Int->Hp->VK->Prop):Prop:=
 ∀(pins:List (Addr×Obj)) (s:Shared) (σ:St) (H:Hp) (x:V) (v vl vu:Value) (lo hi:Option Int) (sl:Addr) (Q:VK),Inv X pins σ H s->RelV x v->s.heap.IsSliceOf sl vl vu .none->IsPart vl lo->IsPart vu hi->r x lo hi H Q ->
  ∃T id,typeLookup (.type T) "__getitem__" = pure (some (.builtin id))/\s.TypeIs v T/\wpAny (model X.prog X.w) X.A (getItem v (.ref sl)) (EP X pins σ Q) X.xe s
theorem zz.or(h:zz X r)(h':zz X r'):zz X (λx lo hi H Q=>r x lo hi H Q\/r' x lo hi H Q):=by
 intro pins s σ H x v vl vu lo hi sl Q I rx hs pl pu q
 rcases q with q | q
 .exact h pins s σ H x v vl vu lo hi sl Q I rx hs pl pu q
 .exact h' pins s σ H x v vl vu lo hi sl Q I rx hs pl pu q
def tw(K:aC):R2:=λx y H Q=>∃a b xs ys,x=.ref a/\y=.ref b/\dv K H a xs/\dv K H b ys/\xs≠[]/\xs.length+ys.length<=sizeLine /\
 (ys=[]->Q (.ref a) H)/\(ys≠[]->∀p,H p=none->Q (.ref p) (upd H p (.tup (xs++ys))))
theorem aq.c8(r:aq xs us):us=[]↔xs=[]:=by
 cases r with
 | nil=>simp
 | cons _ _=>simp
theorem mJ:fy X (binaryOp .Add) (tw X.K):=by
 intro pins s σ H x y v u Q I rx ry h
 obtain ⟨a,b,xs,ys,rfl,rfl,ha,hb,hx,hz,q1,q2⟩:=h
 cases rx
 cases ry
 obtain ⟨ao,r1,p1,_⟩:=I.tuple ha
 obtain ⟨cm,r2,p2,_⟩:=I.tuple hb
 refine HT.mV p1 p2 (λz=>hx (r1.c8.mp z)) (λz=>⟨.ref a,H,I,rfl,q1 (r2.c8.mp z)⟩) (λz=>?_) (by rw [<-r1.length,<-r2.length];exact hz)
 refine ⟨.ref s.heap.objs.size,_,I.laid (t':=s.toks) (o:=.tup (xs++ys)) (λb ob q=>fT _ q) (bj _) ?_,rfl,q2 (λw=>z (r2.c8.mpr w)) _ (I.bw.fresh (bj _))⟩
 exact ⟨by rw [bP];exact hz,_,r1.append r2,IsTup.new _ _⟩
end
end L2
namespace L2
open PySem PySem.Spec PyProof.Rows
def gg(n:Nat)(i:Int):Option Nat:=if 0<=i then (if i<n then some i.toNat else none) else if -(n:Int)<=i then some (i+n).toNat else none
def cW{α:Type}(xs:List α)(i:Int):Option α:=(gg xs.length i).bind λj=>xs[j]?
theorem G9(h:gg n i=some j):seqIndex? i n=some j/\j<n /\ -(n:Int)<=i/\i<n:=by
 unfold gg at h
 by_cases h0:0<=i
 .rw [if_pos h0] at h
  by_cases h1:i<n
  .rw [if_pos h1] at h
   have e:i.toNat=j:=bQ h
   exact ⟨by rw [seqIndex_of h0 h1,e],by ext h0 h1 e,by ext h0,h1⟩
  .rw [if_neg h1] at h;cases h
 .rw [if_neg h0] at h
  by_cases h1:-(n:Int)<=i
  .rw [if_pos h1] at h
   have e:(i+n).toNat=j:=bQ h
   exact ⟨by rw [seqIndex_neg (by ext h0) h1,e],by ext h0 h1 e,h1,by ext h0⟩
  .rw [if_neg h1] at h;cases h
theorem CO{α:Type}{xs:List α}{i:Int}{v:α}(h:cW xs i=some v):∃j,seqIndex? i xs.length=some j/\xs[j]?=some v/\j<xs.length /\ -(xs.length:Int)<=i/\i<xs.length:=by
 unfold cW at h
 cases e:gg xs.length i with
 | none=>rw [e] at h;cases h
 | some j =>
  rw [e] at h
  obtain ⟨h1,h2,h3,h4⟩:=G9 e
  exact ⟨j,h1,h,h2,h3,h4⟩
theorem cz{α:Type}{xs:List α}{j:Nat}{v:α}(h:xs[j]?=some v):cW xs (j:Int)=some v:=by
 have hj:j<xs.length:=(lK.mp h).1
 have e:gg xs.length (j:Int)=some j:=by
  unfold gg
  rw [if_pos (by ext),if_pos (by ext hj)];simp
 unfold cW;rw [e];exact h
theorem cZ{α:Type}(xs:List α)(v:α):cW (xs++[v]) (-1)=some v:=by
 have hl:(xs++[v]).length=xs.length+1:=by simp
 have e:gg (xs++[v]).length (-1)=some xs.length:=by
  unfold gg
  rw [hl,if_neg (by decide),if_pos (by ext)]
  congr 1
  ext
 unfold cW
 rw [e]
 show (xs++[v])[xs.length]?=some v
 simp
def Hk(b:Expr):Prop:=∀o i,subscripted b false o i=operate [o,i] (getItem o i)
def nI(X:Cx)(r:R2):Prop:=
 ∀(value slice:Expr) (pins:List (Addr×Obj)) (s:Shared) (σ:St) (H:Hp) (x y:V) (v u:Value) (Q:VK),Inv X pins σ H s->RelV x v->RelV y u->r x y H Q ->
  subscripted slice false v u=operate [v,u] (getItem v u)->wpAny (model X.prog X.w) X.A (subscriptTail value slice v u) (EP X pins σ Q) X.xe s
def sv(X:Cx)(id:String)(r:V->List V->Hp->VK->Prop):Prop:=
 ∀(pins:List (Addr×Obj)) (s:Shared) (σ:St) (H:Hp) (x:V) (xs:List V) (v:Value) (us:List Value) (Q:VK),Inv X pins σ H s->RelV x v->aq xs us->r x xs H Q ->
  wpAny (model X.prog X.w) X.A (call (.builtin id) (v::us)) (EP X pins σ Q) X.xe s
section
variable {X:Cx}{a b:Expr}{ta tb:TE}{pos:Pos}
theorem nI.or(h:nI X r)(h':nI X r'):nI X (λx y H Q=>r x y H Q\/r' x y H Q):=by
 intro value slice pins s σ H x y v u Q I rx ry q hs
 rcases q with q | q
 .exact h value slice pins s σ H x y v u Q I rx ry q hs
 .exact h' value slice pins s σ H x y v u Q I rx ry q hs
theorem sv.or{id:String}{r r':V->List V->Hp->VK->Prop}(h:sv X id r)(h':sv X id r'):sv X id (λx xs H Q=>r x xs H Q\/r' x xs H Q):=by
 intro pins s σ H x xs v us Q I rx rs q
 rcases q with q | q
 .exact h pins s σ H x xs v us Q I rx rs q
 .exact h' pins s σ H x xs v us Q I rx rs q
theorem tH(hr:nI X r)(ha:PE X a ta)(hb:PE X b tb)(hs:Hk b):PE X (.Subscript a b pos) (sE r ta tb):=by
 intro pins s σ H Q I h
 exact Subscript_ (pZ ha hb I h λv u s2 x y H2 I2 rx ry q=>hr a b pins s2 σ H2 x y v u Q I2 rx ry q (hs _ _))
def tu(K:aC):R2:=λx y H Q=>∃p xs i v,x=.ref p/\y=.int i/\dg K H p xs/\cW xs i=some v/\Q v H
def tm(K:aC):R2:=λx y H Q=>∃p xs i v,x=.ref p/\y=.int i/\dv K H p xs/\cW xs i=some v/\Q v H
def tq:R2:=λx y H Q=>∃z i c,x=.str z/\y=.int i/\z.length<=sizeLine/\cW z.cps.toList i=some c/\Q (.str ⟨#[c]⟩) H
theorem mN:nI X (tu X.K):=by
 intro value slice pins s σ H x y v u Q I rx ry h hs
 obtain ⟨p,xs,i,z,rfl,rfl,hq,he,q⟩:=h
 cases rx
 obtain ⟨t,rfl⟩:=ry
 obtain ⟨ao,r,pl,hz⟩:=I.list hq
 obtain ⟨j,h1,h2,h3,h4,h5⟩:=CO he
 obtain ⟨w,ew,sZ⟩:=r.get h2
 have hl:=r.length
 have hn:=rN
 have fin:EP X pins σ Q w s:=⟨z,H,I,sZ,q⟩
 by_cases h0:0<=i
 .have hj:i.toNat=j:=by
   rw [seqIndex_of h0 h5] at h1
   exact bQ h1
  exact item_listR pl.isList h0 (by ext hz h5 hn) (by rw [hj];simpa using ew) fin hs
 .have hj:(i+(ao.toArray.size:Int)).toNat=j:=by
   rw [seqIndex_neg (xK.mp ‹_›) h4] at h1
   rw [di,<-hl]
   exact bQ h1
  exact subscriptTail_builtinR (x:=w) pl.isList.typeIs slot_list_getitem.lookup
   (wpAny_getItem_list_neg (Q:=λr s'=>r=w/\EP X pins σ Q r s') pl.isList (xK.mp ‹_›) (by rw [di]<;>lia) (by lia) (by rw [hj];simpa using ew) ⟨rfl,fin⟩) hs
theorem pC:nI X (tm X.K):=by
 intro value slice pins s σ H x y v u Q I rx ry h hs
 obtain ⟨p,xs,i,z,rfl,rfl,hq,he,q⟩:=h
 cases rx
 obtain ⟨t,rfl⟩:=ry
 obtain ⟨ao,r,pl,hz⟩:=I.tuple hq
 obtain ⟨j,h1,h2,h3,h4,h5⟩:=CO he
 obtain ⟨w,ew,sZ⟩:=r.get h2
 have hl:=r.length
 have hn:=rN
 have fin:EP X pins σ Q w s:=⟨z,H,I,sZ,q⟩
 exact subscriptTail_builtinR (x:=w) pl.typeIs slot_tuple_getitem.lookup
  (getItem_tuple (j:=j) (Q:=λr s'=>r=w/\EP X pins σ Q r s') pl (by (clear he hs h1 h2 h5 ew;omega)) (by (clear he hs h1 h2 h4 ew;omega)) (by rw [di,<-hl];exact h1) (by simpa using ew) ⟨rfl,fin⟩) hs
theorem Qa:nI X tq:=by
 intro value slice pins s σ H x y v u Q I rx ry h hs
 obtain ⟨z,i,c,rfl,rfl,hz,he,q⟩:=h
 obtain ⟨t,rfl⟩:=rx
 obtain ⟨t',rfl⟩:=ry
 obtain ⟨j,h1,h2,h3,h4,h5⟩:=CO he
 have hl:z.cps.toList.length=z.length:=by simp [Str.length]
 rw [hl] at h1 h4 h5
 have hn:=rN
 exact tail_any (typeIs_str s z t) slot_str_getitem.lookup (getItem_str (c:=c) (by
  have e1:decide (i < -(2^63:Int))=false:=decide_eq_false (by lia)
  have e2:decide (i≥2^63)=false:=decide_eq_false (by lia)
  rw [e1,e2,Bool.or_false]) (by rw [h1];simpa using h2) ⟨.str ⟨#[c]⟩,H,I.tok _,⟨_,rfl⟩,q⟩) hs
def Kd(K:aC):R2:=λx y H Q=>tu K x y H Q\/tm K x y H Q\/tq x y H Q
theorem P':nI X (Kd X.K):=mN.or (pC.or Qa)
theorem Th(ao:List Value)(n j:Nat)(u:Value):gP (·.setIfInBounds j u) { cls:=.type "list",data:=.seq ao.toArray n }={ cls:=.type "list",data:=.seq (ao.set j u).toArray n }:=by
 simp [gP]
theorem Inv.lst{pins:List (Addr×Obj)}{σ:St}{H:Hp}{s:Shared}{p:Addr}{xs:List V}(I:Inv X pins σ H s)(h:H p=some (.lst xs)):
  ∃(ao:List Value) (n:Nat),aq xs ao/\s.heap.get? p=some { cls:=.type "list",data:=.seq ao.toArray n }/\xs.length<=sizeLine:=by
 obtain ⟨z,ao,n,r,e⟩:=I.bw p _ h
 exact ⟨ao,n,r,e,z⟩
theorem Inv.pz{pins:List (Addr×Obj)}{σ:St}{H:Hp}{s:Shared}{p:Addr}{xs ys:List V}{ao its':List Value}{n n':Nat}{f:Obj->Obj}(I:Inv X pins σ H s)(h:H p=some (.lst xs))
  (ho:s.heap.get? p=some { cls:=.type "list",data:=.seq ao.toArray n })(hf:f { cls:=.type "list",data:=.seq ao.toArray n }={ cls:=.type "list",data:=.seq its'.toArray n' })(r:aq ys its')(hz:ys.length<=sizeLine)(t:Nat):
  Inv X pins σ (upd H p (.lst ys)) { s with heap:=s.heap.update p f,toks:=t }:=by
 have e:(s.heap.update p f).get? p=some { cls:=.type "list",data:=.seq its'.toArray n' }:=by
  rw [Heap.get?_update_self f ho (by rw [hf]<;>rfl),hf]
 refine I.write (x:=p) (e:=p) (by rw [h];trivial) (.inl rfl) (λb u hb q=>(ya _ _ (km hb)).trans q) ⟨_,e⟩ ?_
 exact ⟨hz,its',n',r,e⟩
def tj:V->V->V->Hp->(Hp->Prop)->Prop:=λo i v H Q=>∃p xs k j,o=.ref p/\i=.int k/\H p=some (.lst xs)/\gg xs.length k=some j/\Q (upd H p (.lst (xs.set j v)))
theorem Rw:wU X tj:=by
 intro pins s σ H o i v ov iv u Q I ro ri rv h
 obtain ⟨p,xs,k,j,rfl,rfl,hp,hj,q⟩:=h
 cases ro
 obtain ⟨t,rfl⟩:=ri
 obtain ⟨ao,n,r,ho,hz⟩:=I.lst hp
 obtain ⟨h1,h2,h3,h4⟩:=G9 hj
 have hl:=r.length
 have hn:=rN
 have I':Inv X pins σ (upd H p (.lst (xs.set j v))) { s with heap:=s.heap.update p (gP (·.setIfInBounds j u)) }:=
  I.pz hp ho (Th ao n j u) (r.set rv j) (by rw [BL];exact hz) s.toks
 by_cases h0:0<=k
 .have hk:k.toNat=j:=by
   rw [seqIndex_of h0 h4] at h1
   exact bQ h1
  exact PySem.W.ki_setAt ho h0 (by lia) (by rw [di,<-hl];exact h4) (by rw [hk];exact ⟨_,I',q⟩)
 .have hk:(k+(ao.toArray.size:Int)).toNat=j:=by
   rw [seqIndex_neg (xK.mp ‹_›) h3] at h1
   rw [di,<-hl]
   exact bQ h1
  exact PySem.W.ki_setBack ho (xK.mp ‹_›) (by rw [di,<-hl];exact h3) (by lia) (by rw [hk];exact ⟨_,I',q⟩)
theorem T':cj X (.builtin "len") (λxs H Q=>∃p ys,xs=[.ref p]/\(dg X.K H p ys\/dv X.K H p ys)/\Q (.int ys.length) H):=by
 intro pins s σ H xs us Q I r h
 obtain ⟨p,ys,rfl,hq,q⟩:=h
 obtain ⟨u,rfl,rx⟩:=vals1 r
 cases rx
 have hn:=rN
 rcases hq with hq | hq
 .obtain ⟨ao,r',pl,hz⟩:=I.list hq
  have hlen:=r'.length
  exact Calls.call_len_list pl.isList (by simp only [di]<;>lia) ⟨.int ys.length,H,I.tok _,⟨s.toks+1,by rw [di,hlen]⟩,q⟩
 .obtain ⟨ao,r',pl,hz⟩:=I.tuple hq
  have hlen:=r'.length
  exact len_tuple pl (by simp only [di]<;>omega) ⟨.int ys.length,H,I.tok _,⟨s.toks+1,by rw [di,hlen]⟩,q⟩
theorem cj.or(h:cj X f r)(h':cj X f r'):cj X f (λxs H Q=>r xs H Q\/r' xs H Q):=by
 intro pins s σ H xs us Q I rs q
 rcases q with q | q
 .exact h pins s σ H xs us Q I rs q
 .exact h' pins s σ H xs us Q I rs q
theorem Ua:cj X (.type "list") (λxs H Q=>∃p ys,xs=[.ref p]/\(dg X.K H p ys\/dv X.K H p ys)/\∀l,H l=none->Q (.ref l) (upd H l (.lst ys))):=by
 intro pins s σ H xs us Q I r h
 obtain ⟨p,ys,rfl,hq,q⟩:=h
 obtain ⟨u,rfl,rx⟩:=vals1 r
 cases rx
 have fin:∀(ao:List Value),aq ys ao->ys.length<=sizeLine->∀(h':Heap) (c':Nat),(∀b o',s.heap.get? b=some o'->h'.get? b=some o') ->
   h'.get? s.heap.objs.size=some { cls:=.type "list",dict:=none,data:=.seq ao.toArray c',slots:=#[] }->EP X pins σ Q (.ref s.heap.objs.size) { s with heap:=h' }:=λao r' hz h' c' kp e =>
  ⟨.ref s.heap.objs.size,_,I.laid (t':=s.toks) kp (bj _) (show cf X.prog X.w _ h' _ (.lst ys) from ⟨hz,ao,c',r',e⟩),rfl,q _ (I.bw.fresh (bj _))⟩
 rcases hq with hq | hq
 .obtain ⟨ao,r',pl,hz⟩:=I.list hq
  have hlen:=r'.length
  obtain ⟨o,ho,hc,n,hd⟩:=pl.isList
  exact call_list_seq p (.inl rfl) ho hc hd (λh' c' kp e=>fin ao r' hz h' c' kp e) (by simp only [di]<;>omega)
 .obtain ⟨ao,r',pl,hz⟩:=I.tuple hq
  have hlen:=r'.length
  obtain ⟨o,ho,hc,n,hd⟩:=pl
  exact call_list_seq p (.inr rfl) ho hc hd (λh' c' kp e=>fin ao r' hz h' c' kp e) (by simp only [di]<;>omega)
theorem Ul:cj X (.type "tuple") (λxs H Q=>∃p ys,xs=[.ref p]/\((dg X.K H p ys/\∀l,H l=none->Q (.ref l) (upd H l (.tup ys)))\/(dv X.K H p ys/\Q (.ref p) H))):=by
 intro pins s σ H xs us Q I r h
 obtain ⟨p,ys,rfl,h⟩:=h
 obtain ⟨u,rfl,rx⟩:=vals1 r
 cases rx
 rcases h with ⟨hq,q⟩ | ⟨hq,q⟩
 .obtain ⟨ao,r',pl,hz⟩:=I.list hq
  have hlen:=r'.length
  refine call_tuple_list pl.isList (λh' kp=>?_) (by simp only [di]<;>omega)
  have I1:Inv X pins σ H { s with heap:=h' }:=I.kept (t':=s.toks) kp
  have I2:Inv X pins σ (upd H h'.objs.size (.tup ys)) { s with heap:=h'.push { cls:=.type "tuple",data:=.seq ao.toArray } }:=
   I1.laid (t':=s.toks) (λb o e=>fT _ e) (bj _) (show cf X.prog X.w _ _ _ (.tup ys) from ⟨hz,ao,r',IsTup.new _ _⟩)
  exact ⟨.ref h'.objs.size,_,I2,rfl,q _ (I1.bw.fresh (bj _))⟩
 .obtain ⟨ao,r',pl,hz⟩:=I.tuple hq
  exact call_tuple_same pl ⟨.ref p,H,I,rfl,q⟩
def zH(K:aC)(T:String)(x:V)(H:Hp):Prop:=match x with
 | .str _=>T = "str"
 | .int _=>T = "int"
 | .ref p=>(T = "list" /\ ∃xs,dg K H p xs)\/(T = "tuple" /\ ∃o,K.lookup p=some o/\o.cls=.type "tuple" /\ o.dict=none) \/
   (T = "dict" /\ ((∃bb,H p=some (.dK bb))\/∃bb,H p=some (.dT bb)))\/(T = "set" /\ ∃S n,H p=some (.set S n))
 | _=>False
theorem GJ{pins:List (Addr×Obj)}{σ:St}{H:Hp}{s:Shared}{T:String}{x:V}{v:Value}(I:Inv X pins σ H s)(r:RelV x v)(ty:zH X.K T x H):
  s.TypeIs v T/\∀a,v=.ref a->∃ob,s.heap.get? a=some ob/\ob.dict=none:=by
 cases x with
 | str z =>
  obtain ⟨t,rfl⟩:=r
  cases (show T = "str" from ty)
  exact ⟨typeIs_str s z t,λ_ e=>nomatch e⟩
 | int i =>
  obtain ⟨t,rfl⟩:=r
  cases (show T = "int" from ty)
  exact ⟨typeIs_int s i t,λ_ e=>nomatch e⟩
 | ref p =>
  cases r
  rcases ty with ⟨rfl,xs,hq⟩ | ⟨rfl,o,hk,hc,hd⟩ | ⟨rfl,hk⟩ | ⟨rfl,S,n,hk⟩
  .obtain ⟨ao,_,pl,_⟩:=I.list hq
   refine ⟨pl.isList.typeIs,λa e=>?_⟩
   cases e
   obtain ⟨o,n,e,c,hd,_⟩:=pl
   exact ⟨o,e,hd⟩
  .refine ⟨⟨o,I.qU p o hk,hc⟩,λa e=>?_⟩
   cases e
   exact ⟨o,I.qU _ o hk,hd⟩
  .have z:∃o,s.heap.get? p=some o/\o.ExactDict:=by
    rcases hk with ⟨bb,hk⟩ | ⟨bb,hk⟩
    .obtain ⟨_,_,_,_,o,_,_,e,ex,_⟩:=I.bw p _ hk
     exact ⟨o,e,ex⟩
    .obtain ⟨_,_,_,_,o,_,_,e,ex,_⟩:=I.bw p _ hk
     exact ⟨o,e,ex⟩
   obtain ⟨o,e,ex⟩:=z
   refine ⟨⟨o,e,ex.1⟩,λa e2=>?_⟩
   cases e2
   exact ⟨o,e,ex.2.1⟩
  .obtain ⟨o,_,_,_,e,ex,_⟩:=I.bw p _ hk
   refine ⟨⟨o,e,ex.1⟩,λa e2=>?_⟩
   cases e2
   exact ⟨o,e,ex.2.1⟩
 | _=>exact ip ty
def zR(K:aC)(T:String)(r:V->List V->Hp->VK->Prop)(to:TE):TE:=λσ H Q=>to σ H λx H1=>zH K T x H1/\r x [] H1 Q
def Jz(K:aC)(T:String)(r:V->List V->Hp->VK->Prop)(to:TE)(t:TA):TE:=λσ H Q=>to σ H λx H1=>zH K T x H1/\t σ H1 λxs H2=>r x xs H2 Q
variable {o e:Expr}{es:List Expr}{to:TE}{t:TA}{name:Str}{apos aV:Pos}{T id:String}{r:V->List V->Hp->VK->Prop}
theorem PH(pa:PlainAttrs T)(slot:Slot T name id)(pE:typeOf (.builtin id)=pure (.type "method_descriptor"))(hm:sv X id r)(ho:PE X o to)
  (cc:attributeBase o name X.env (eval o X.env)=eval o X.env:=by rfl)(bZ:(apos.endLine==aV.line)=true:=by rfl):PE X (.Call (.Attribute o name apos) [] [] aV) (zR X.K T r to):=by
 intro pins s σ H Q I h
 refine wpAny_Call_method0_late cc bZ (bu (ho pins s σ H _ I h) λv s1 ⟨x,H1,I1,r1,ty,q1⟩=>?_)
 obtain ⟨h1,h2⟩:=GJ I1 r1 ty
 exact ⟨T,id,pa,slot,pE,h1,h2,FT rfl (PySem.evalArgs_none (hm pins s1 σ H1 x [] v [] Q I1 r1 .nil q1))⟩
theorem Gx(pa:PlainAttrs T)(slot:Slot T name id)(pE:typeOf (.builtin id)=pure (.type "method_descriptor"))(hm:sv X id r)(ho:PE X o to)(ha:PA X (e::es) t)
  (cc:attributeBase o name X.env (eval o X.env)=eval o X.env:=by rfl)
  (gj:((backTo aV (starEach (e::es) X.env)).all (λx=>!x.1)&&(backToKw aV (keywordEach [] X.env)).all (λx=>x.1.isSome)
   && decide ((e::es).length+([]:List Keyword).length+(if ([]:List Keyword).isEmpty then 0 else 1)<30))=true:=by rfl)
  (bZ:(apos.endLine==aV.line)=true:=by rfl)(hs:starEach (e::es) X.env=(false,eval e X.env)::starEach es X.env:=by rfl)(pH:(backTo aV (starEach es X.env)).any (·.1)=false:=by rfl):
  PE X (.Call (.Attribute o name apos) (e::es) [] aV) (Jz X.K T r to t):=by
 intro pins s σ H Q I h
 refine wpAny_Call_method_late cc gj bZ rfl (bu (ho pins s σ H _ I h) λv s1 ⟨x,H1,I1,r1,ty,q1⟩=>?_)
 obtain ⟨h1,h2⟩:=GJ I1 r1 ty
 refine ⟨T,id,pa,slot,pE,h1,h2,?_⟩
 have hA:=ha aV pins s1 σ H1 _ I1 q1
 rw [hs] at hA ⊢
 refine FT (by show (false||(backTo aV (starEach es X.env)).any (·.1))=false;rw [pH]<;>rfl) (Calls.evalArgs_plain ?_)
 exact bu hA λus s2 ⟨vs,H2,I2,r2,q2⟩=>hm pins s2 σ H2 x vs v us Q I2 r1 r2 q2
end
end L2
namespace L2
open PySem PySem.Spec PyProof.Rows
def EE(X:Cx)(id:String)(r:V->List V->Hp->VK->Prop):Prop:=
 ∀(pins:List (Addr×Obj)) (s:Shared) (σ:St) (H:Hp) (x:V) (xs:List V) (v:Value) (us:List Value) (Q:VK),Inv X pins σ H s->RelV x v->aq xs us->r x xs H Q ->
  wpAny (model X.prog X.w) X.A (call (.builtin id) (v::us)) (EP X pins σ Q) X.xe s
theorem aq.one:∀{x:V} {us:List Value},aq [x] us->∃u,us=[u]/\RelV x u
 | _,_,.cons r .nil=>⟨_,rfl,r⟩
theorem aq.two:∀{x y:V} {us:List Value},aq [x,y] us->∃u v,us=[u,v]/\RelV x u/\RelV y v
 | _,_,_,.cons r (.cons q .nil)=>⟨_,_,rfl,r,q⟩
theorem aq.zero:∀{us:List Value},aq [] us->us=[]
 | _,.nil=>rfl
theorem aq.dropLast(h:aq xs us):aq xs.dropLast us.dropLast:=by
 induction h with
 | nil=>exact .nil
 | cons r t ih =>
  cases t with
  | nil=>exact .nil
  | cons q t'=>exact .cons r ih
theorem aq.eraseIdx:∀{xs:List V} {us:List Value} (i:Nat),aq xs us->aq (xs.eraseIdx i) (us.eraseIdx i)
 | _,_,_,.nil=>.nil
 | _,_,0,.cons _ t=>t
 | _,_,i+1,.cons r t=>.cons r (aq.eraseIdx i t)
theorem aq.reverse(h:aq xs us):aq xs.reverse us.reverse:=by
 induction h with
 | nil=>exact .nil
 | cons r t ih=>rw [List.reverse_cons,List.reverse_cons];exact aq.append ih (.cons r .nil)
theorem Tc{α:Type}(l:List α):l.eraseIdx (l.length-1)=l.dropLast:=by
 induction l with
 | nil=>rfl
 | cons a r ih =>
  cases r with
  | nil=>rfl
  | cons b r =>
   have e:(a::b::r).length-1=((b::r).length-1)+1:=by
    have h1:(a::b::r).length=r.length+2:=rfl
    have h2:(b::r).length=r.length+1:=rfl
    assumption
   rw [e,List.eraseIdx_cons_succ,ih]
   all_goals rfl
section
variable {X:Cx}{pins:List (Addr×Obj)}{σ:St}{H:Hp}{s:Shared}{l b:Addr}{xs ys zs:List V}
theorem Inv.pA{ao its':List Value}{n:Nat}{t':Nat}(I:Inv X pins σ H s)(hH:H l=some (.lst xs))
  (e:s.heap.get? l=some { cls:=.type "list",data:=.seq ao.toArray n })(hf:f ao.toArray=its'.toArray)(hv:aq ys its')(hz:ys.length<=sizeLine):
  Inv X pins σ (upd H l (.lst ys)) { s with heap:=s.heap.update l (gP f),toks:=t' }:=by
 have q:=PySem.IsL.update e f
 rw [hf] at q
 refine I.write (x:=l) (e:=l) (by rw [hH];exact trivial) (.inl rfl) (λb' u hb hu=>(ya s.heap (gP f) (km hb)).trans hu) ⟨_,q⟩ ?_
 exact ⟨hz,its',_,hv,q⟩
theorem Inv.Ap(I:Inv X pins σ H s)(hv:aq ys ao)(hz:ys.length<=sizeLine):
  Inv X pins σ (upd H s.heap.objs.size (.lst ys)) { s with heap:=s.heap.push { cls:=.type "list",data:=.seq ao.toArray },toks:=t' }:=
 I.laid (λ_ _ q=>fT _ q) (bj _) ⟨hz,ao,0,hv,l9 _ rfl⟩
theorem Inv.fresh(I:Inv X pins σ H s):H s.heap.objs.size=none:=I.bw.fresh (bj _)
theorem Inv.jJ(I:Inv X pins σ H s)(hH:H l=some (.lst xs)):xs.length<=sizeLine/\∃(ao:List Value) (n:Nat),aq xs ao/\xs.length=ao.length/\s.heap.get? l=some { cls:=.type "list",data:=.seq ao.toArray n }:=by
 obtain ⟨z,ao,n,r,e⟩:=I.bw l _ hH
 exact ⟨z,ao,n,r,r.length,e⟩
theorem Ri(h:n<=sizeLine):B5 n=false:=by
 unfold B5
 exact decide_eq_false (Nat.not_lt.mpr ‹_›)
end
section
variable {X:Cx}
def QM:V->List V->Hp->VK->Prop:=λx vs H Q=>∃l xs y,x=.ref l/\vs=[y]/\H l=some (.lst xs)/\xs.length<sizeLine/\Q .aI (upd H l (.lst (xs++[y])))
theorem SK:EE X "list.append" QM:=by
 intro pins s σ H x vs v us Q I rx rv h
 obtain ⟨l,xs,y,rfl,rfl,hH,hz,q⟩:=h
 cases rx
 obtain ⟨u,rfl,ru⟩:=rv.one
 obtain ⟨z,ao,n,r,hl,e⟩:=I.jJ hH
 refine call_meets FP ⟨_,e,rfl⟩ F.entry_list_append (F.args_list_append_2 _ _) (PySem.list_append l ao.toArray n u (by rw [di];lia)) ⟨e,?_⟩
 refine ⟨.aI,_,I.pA (its':=ao++[u]) hH e (by simp) (r.append (.cons ru .nil)) ?_,rfl,q⟩
 rw [bP,rk]
 assumption
def Q6:V->List V->Hp->VK->Prop:=λx vs H Q=>∃l b xs zs,x=.ref l/\vs=[.ref b]/\H l=some (.lst xs)/\H b=some (.lst zs)/\xs.length+zs.length<=sizeLine/\Q .aI (upd H l (.lst (xs++zs)))
theorem SM:EE X "list.extend" Q6:=by
 intro pins s σ H x vs v us Q I rx rv h
 obtain ⟨l,b,xs,zs,rfl,rfl,hH,hB,hz,q⟩:=h
 cases rx
 obtain ⟨u,rfl,ru⟩:=rv.one
 cases ru
 obtain ⟨z,ao,n,r,hl,e⟩:=I.jJ hH
 obtain ⟨z2,cm,n2,r2,qY,e2⟩:=I.jJ hB
 have hsz:ao.toArray.size+cm.toArray.size<=sizeLine:=by rw [di,di];lia
 have uq:¬(!ao.toArray.isEmpty&&B5 (ao.toArray.size+cm.toArray.size))=true:=by
  rw [Ri hsz,Bool.and_false]
  exact lI
 refine call_meets FO ⟨_,e,rfl⟩ F.entry_list_extend (F.args_list_extend_2 _ _)
  (AutoSeq1.list_extend_list_list_0 l ao.toArray n b cm.toArray n2 uq (by rw [di];exact Jp ‹_›) (et ‹_› (by decide))) ⟨e,e2,?_⟩
 refine ⟨.aI,_,I.pA (its':=ao++cm) hH e (by simp) (r.append r2) ?_,rfl,q⟩
 rw [bP]
 assumption
def Ab:V->List V->Hp->VK->Prop:=λx vs H Q=>∃l xs y,x=.ref l/\vs=[]/\H l=some (.lst xs)/\xs[xs.length-1]?=some y/\Q y (upd H l (.lst xs.dropLast))
theorem Px:EE X "list.pop" Ab:=by
 intro pins s σ H x vs v us Q I rx rv h
 obtain ⟨l,xs,y,rfl,rfl,hH,hy,q⟩:=h
 cases rx
 have MQ:=rv.zero
 subst MQ
 obtain ⟨z,ao,n,r,hl,e⟩:=I.jJ hH
 obtain ⟨u,hu,ru⟩:=r.get hy
 have MN:ao.toArray[ao.toArray.size-1]?=some u:=by
  show ao.toArray[ao.length-1]?=some u
  rw [<-om,<-hl]
  exact hu
 refine call_meets Gj ⟨_,e,rfl⟩ F.entry_list_pop (F.args_list_pop_1 _) (MeetsSeq.list_pop_last l ao.toArray n u MN (by rw [di];lia)) ⟨e,?_⟩
 refine ⟨y,_,I.pA (its':=ao.dropLast) hH e ?_ r.dropLast ?_,ru,q⟩
 .show ao.toArray.eraseIdxIfInBounds (ao.toArray.size-1)=ao.dropLast.toArray
  rw [di,List.eraseIdxIfInBounds_toArray,Tc]
 .rw [List.length_dropLast]
  exact Jo ‹_›
def Ac:R2:=λx y H Q=>∃l b xs zs,x=.ref l/\y=.ref b/\H l=some (.lst xs)/\H b=some (.lst zs)/\xs.length+zs.length<=sizeLine/\∀p,H p=none->Q (.ref p) (upd H p (.lst (xs++zs)))
theorem pf:fy X (binaryOp .Add) Ac:=by
 intro pins s σ H x y v u Q I rx ry h
 obtain ⟨l,b,xs,zs,rfl,rfl,hH,hB,hz,q⟩:=h
 cases rx
 cases ry
 obtain ⟨z,ao,n,r,hl,e⟩:=I.jJ hH
 obtain ⟨z2,cm,n2,r2,qY,e2⟩:=I.jJ hB
 refine PySem.P.add_list e e2 ?_ (by rw [di,di];omega)
 have ea:ao.toArray++cm.toArray=(ao++cm).toArray:=by simp
 rw [ea]
 exact ⟨.ref _,_,I.Ap (t':=s.toks) (r.append r2) (by rw [bP];assumption),rfl,q _ I.fresh⟩
end
section
variable {prog:Program}{w:World}{A:Around}{E:Value->Shared->Prop}{s:Shared}
end
section
variable {X:Cx}
end
end L2
namespace Jm
open PySem PySem.W PySem.Calls PyProof.Rows
theorem Ur:∀(ns:List Int) (vs:List Value),WellAll P h vs (ns.map WData.int)->IntsAre vs ns:=by
 intro ns
 induction ns with
 | nil =>
  intro vs w
  rw [vD] at w
  cases w
  exact .nil
 | cons n ns ih =>
  intro vs w
  rw [jV] at w
  cases w with
  | cons a b =>
   cases a
   exact .cons _ _ (ih _ b)
theorem Tw{l:OpenLaw}{n:Nat}(hn:l.most=some n){h:Heap}
  (e7:l.row.toRowW.claim.pre args=true)(AF:WellAll P h vals args):
  ∃a vs ns,vals=[dG a]/\args=[WData.list (ns.map WData.int)]/\h.get? a=some { cls:=.type "list",data:=.seq vs.toArray }/\IntsAre vs ns/\ns.length<=n:=by
 have MS:WShape.hasAll [] args [.list .int]=true:=(pre_splitW e7).1
 have hc:l.pre.holds [] { args:=args }=true:=(pre_splitW e7).2
 obtain ⟨d,r,rfl,h1,h2⟩:=hasAllW_cons MS
 obtain rfl:=hasAllW_nil h2
 obtain ⟨xs,rfl,h3⟩:=hasW_list h1
 obtain ⟨ns,rfl⟩:=items_int h3
 have hlen:ns.length<=n:=by
  unfold OpenLaw.pre at hc
  have h4:(WTm.not (.lt (.lit (.int (n:Int))) (.len (.arg 0)))).holds [] { args:=[.list (ns.map .int)] }=true:=by
   have h4:=(holds_andW hc).1
   rw [hn] at h4
   exact h4
  have h5:=condW_of h4 (w_not (w_lt w_lit (w_len_list (w_arg rfl))))
  rw [bM] at h5
  refine Nat.le_of_not_lt λq=>?_
  have q':(n:Int)<((ns.length:Nat):Int):=by exact Int.ofNat_lt.mpr ‹_›
  first
   | (rw [decide_eq_true q'] at h5;exact absurd h5 (by decide))
   | (simp at h5;omega)
 cases AF with
 | cons w1 w2 =>
  cases w2
  cases w1 with
  | list ho pO=>exact ⟨_,_,ns,rfl,rfl,ho,Ur ns _ pO,hlen⟩
theorem TQ(l:OpenLaw)(args:List WData):l.row.toRowW.claim.post args (.bool true) args=true:=
 postW_of (r:=l.row.toRowW) (X:=(true==true))
  (show WShape.has [] (.bool true) .bool=true by first | rfl | decide | simp [WShape.has,WShape.arms,WShape.armsAll])
  (show (WTm.eq .res (.lit (.bool true))).value [] { args:=args,res:=some (.bool true),after:=args }=some (.bool (true==true)) from w_eq_bool (w_res rfl) w_lit) rfl
theorem gR{l:OpenLaw}{n:Nat}{loose:List Str}{d:DefRec}
  (hn:l.most=some n)(uB:d.params.defaults=[])
  (call:∀(w:World) (bX aG:Shared) (mg mb:Str->Option Value) (fa:Addr) (o:Obj) (pm cd doc:Value) (a:Addr) (vs:List Value) (ns:List Int),
   Ground q loose [] XP w bX mg mb aG.heap->YP w aG.heap ->
   aG.heap.get? fa=some o->o.data=.func (docDef d.name d.params d.body d.scope pm cd doc)->aG.heap.CodeRec cd d.name->mg d.name=some (.ref fa) ->
   aG.heap.get? a=some { cls:=.type "list",data:=.seq vs.toArray }->IntsAre vs ns->ns.length<=n->aG.gens=#[] ->
   codeAny (model l.prog w) callerA (.call (.ref fa) ⟨[.ref a],[]⟩) (λr s'=>r=.ok (.ret (.bool true))/\OldK aG.heap s'.heap/\s'.os=aG.os/\AllBare s'.gens) aG):
  WalkO q loose XP YP l.row.toRowW d [] (λf vs=>BD f vs):=by
 intro w bX aG mg mb G Y fa o pm cd doc dV kV ho hd cK hD uo hg args vals as e7 M4 Vm AF Vn
 obtain rfl:dV=.none:=Dflts.none hD uB
 obtain rfl:kV=.none:=Dflts.noKw hD
 obtain ⟨a,vs,ns,rfl,rfl,pI,hints,hlen⟩:=Tw hn e7 AF
 refine enter_call (codeAny_mono (call w bX aG mg mb fa o pm cd doc a vs ns G Y ho (fd_plain hd) cK uo pI hints hlen hg) λr s' hq=>?_)
 obtain ⟨rfl,h2,h3,h4⟩:=hq
 exact ⟨.inl ⟨.bool true,.bool true,[],rfl,λ_=>rfl,.bool true,TQ l _,λ_=>⟨BR,λ_ hm=>(nomatch hm)⟩⟩,h2,h3,h4⟩
section
variable {prog:Program}{w:World}{A:Around}{E:Value->Shared->Prop}{s:Shared}{K:Frag}
def ledger(h:Heap)(L d:Addr):List (Addr×Obj):=(jv h.objs.size).filterMap λa=>if a=L\/a=d then none else (h.get? a).map λo=>(a,o)
end
end Jm
namespace L2
open PySem PySem.Spec PyProof.Rows
theorem Iz:∀{vs:List Value} {ns:List Int},IntsAre vs ns->aq (ns.map V.int) vs
 | _,_,.nil=>.nil
 | _,_,.cons n t h=>.cons ⟨t,rfl⟩ (Iz h)
theorem HW{α:Type}{c:Prop}[Decidable c]{a b:α}(h:(if c then some a else none)=some b):c/\a=b:=by
 by_cases hc:c
 .rw [if_pos hc] at h;exact ⟨hc,bQ h⟩
 .rw [if_neg hc] at h;cases h
def mM:Str:="dealt.<locals>.<lambda>"
def Tb(K:aC)(H:Hp):Prop:=∀c P,kq K "dealt" = some (c,P)->H P=some (.tab mM)
def yE(K:aC)(ts:List Addr):Bool:=match kq K "dealt" with
 | some (c,P)=>FJ K c P&&(K.lookup P).isNone&&ts.contains P
 | none=>true
theorem RI{P:Program}{w:World}{K:aC}{mg mb:Str->Option Value}{CX:kf}{k:Nat}{fa a:Addr}{fd:FuncData}{x:Str}{sp:Sp}{aG:Shared}{vs:List Value}{ns:List Int}{ts:List Addr}
  (KX:K.In aG.heap)(qX:aG.heap.Ns mainGlobals mg)(hb:aG.heap.Ns builtinsNs mb)(xD:∀x:Str,x ≠ "__name__" -> mb x=bootBuiltins x)(AX:aG.heap.NoLimit)(hg:aG.gens=#[])
  (Nk:∃bm ob,mg "__builtins__" = some (.ref bm)/\bm≠builtinsNs/\aG.heap.get? bm=some ob/\ob.cls=.type "module" /\ ob.dict=some builtinsNs/\ob.data=.plain)
  (hL:yE K ts=true)(A8:∀P∈ts,aG.heap.get? P=some (q8 #[]))
  (ha:aG.heap.get? a=some { cls:=.type "list",data:=.seq vs.toArray })(hi:IntsAre vs ns)(hl:ns.length<=sizeLine)(hr:bH k callerA)
  (F:∀base:Heap,K.In base->base.Ns mainGlobals mg->cu P w K mg base CX k fa fd [x] sp)(uG:∀(s:Shared) (u:Value),BindsTo s fd ⟨[u],[]⟩ [(x,u)])
  (lU:∀H:Hp,Tb K H->dg K H a (ns.map V.int)->sp [.ref a] H (λv H'=>v=.bl true/\Tb K H') λ_ _ _=>False)
  (Bc:∀H e s',CX [] H aG (λ_ _ _=>False) e s'->False):
  codeAny (model P w) callerA (.call (.ref fa) ⟨[.ref a],[]⟩) (λr s'=>r=.ok (.ret (.bool true))/\OldK aG.heap s'.heap/\s'.os=aG.os/\AllBare s'.gens) aG:=by
 have rv:=Iz hi
 have Aq:=hi.length
 have tabs:∀c P,kq K "dealt" = some (c,P)->FJ K c P=true/\K.lookup P=none/\aG.heap.get? P=some (q8 #[]):=λc P e=>by
  unfold yE at hL
  rw [e] at hL
  simp only [BN,Option.isNone_iff_eq_none,List.contains_iff_mem] at hL
  exact ⟨hL.1.1,hL.1.2,A8 P hL.2⟩
 have core:∀H:Hp,Tb K H->dg K H a (ns.map V.int)->fq P w H aG.heap->(∀b,H b≠none->(b=a/\∃o xs,H b=some (.gx o (.lst xs)))\/∃c,kq K "dealt" = some (c,b))->(H a≠none->K.lookup a=none) ->
   codeAny (model P w) callerA (.call (.ref fa) ⟨[.ref a],[]⟩) (λr s'=>r=.ok (.ret (.bool true))/\OldK aG.heap s'.heap/\s'.os=aG.os/\AllBare s'.gens) aG:=by
  intro H hO hS bw hA hK
  have gm:∀{b:Addr} {o:Obj},aG.heap.get? b=some o->H b=none->(gi aG.heap H).get? b=some o:=λe n=>RE e n
  have EW:∀{b:Addr} {o:Obj},aG.heap.get? b=some o->(∀xs n,o.data≠.seq xs n)->(∀xs,o.data=.fields xs->o.cls≠.none)->H b=none:=λ{b o} e d d2=>by
   cases q:H b with
   | none=>rfl
   | some u =>
    rcases hA b (by rw [q];simp) with ⟨e',_⟩ | ⟨c,e'⟩
    .subst e'
     rw [ha] at e;cases e
     exact absurd rfl (d _ _)
    .rw [(tabs c b e').2.2] at e;cases e
     exact absurd rfl (d2 _ rfl)
  have xh:∀{b:Addr} {m:Str->Option Value},aG.heap.Ns b m->(gi aG.heap H).Ns b m:=λ{b m} ⟨o,es,ep,e,d,r⟩=>⟨o,es,ep,gm e (EW e (λ_ _ z=>by rw [d] at z;cases z) λ_ z=>by rw [d] at z;cases z),d,r⟩
  have Fu:K.In (gi aG.heap H):=λb o e=>gm (KX b o e) (by
   cases q:H b with
   | none=>rfl
   | some u =>
    rcases hA b (by rw [q];simp) with ⟨e',_⟩ | ⟨c,e'⟩
    .subst e'
     rw [hK (by rw [q];simp)] at e;cases e
    .rw [(tabs c b e').2.1] at e;cases e)
  have hM:Mod K mg (gi aG.heap H):=⟨Fu,xh qX,⟨mb,xh hb,xD⟩,let ⟨mc,h1,h2⟩:=AX;⟨mc,xh h1,h2⟩,let ⟨bm,ob,b1,b2,b3,b4,b5,b6⟩:=Nk;⟨bm,ob,b1,b2,gm b3 (EW b3 (λ_ _ z=>by rw [b6] at z;cases z) λ_ z=>by rw [b6] at z;cases z),b4,b5,b6⟩⟩
  have e0:fQ P w K mg (gi aG.heap H) callerA [] aG H:=⟨rfl,hM,λb o e=>Qx e,Nat.le_of_eq (SH _ _),trivial,λb hb=>absurd (show b∈([]:List Addr) from hb) (by simp),bw,.of_eq hg⟩
  refine codeAny_mono ((F _ Fu (xh qX)).run callerA [] aG H ⟨[.ref a],[]⟩ [.ref a] [.ref a] _ _ hr e0 (uG aG (.ref a)) (.cons rfl .nil) (lU H hO hS)) λr s' h=>?_
  cases r with
  | error e=>exact (Bc H e s' h).elim
  | ok fl =>
   cases fl with
   | next=>exact ip h
   | brk=>exact ip h
   | cont=>exact ip h
   | ret u =>
    obtain ⟨v,H',os,bare,un,um,r',q,qT⟩:=h
    subst q
    obtain rfl:u=iU true:=r'
    have old:∀b o,aG.heap.get? b=some o->s'.heap.get? b=some o\/∃c ps,kq K "dealt" = some (c,b)/\s'.heap.get? b=some (q8 ps):=λb o e=>by
     cases q:H b with
     | none=>exact .inl (un.keep b o e q (by intro z;exact absurd (show b∈([]:List Addr) from z) (by simp)) (by simp))
     | some u =>
      rcases hA b (by rw [q];simp) with ⟨_,ob,xs,z⟩ | ⟨c,e'⟩
      .have z2:=un.dF b ob _ z
       obtain ⟨e1,_⟩:=bw b _ z
       obtain ⟨e2,_⟩:=um b _ z2
       rw [e] at e1;cases e1
       exact .inl e2
      .obtain ⟨ps,e2,_⟩:=um b _ (qT c b e')
       exact .inr ⟨c,ps,e',e2⟩
    refine ⟨rfl,⟨λb o e=>?_,λb o e=>?_⟩,os,bare⟩
    .rcases old b o e with z | ⟨c,ps,e',z⟩
     .exact .inl z
     .obtain ⟨t1,_,t3⟩:=tabs c b e'
      rw [t3] at e;cases e
      exact .inr (.inl ⟨((PySem.W.codeHd_of_K KX t1).tab t3).isCodeTable,rfl,#[],ps,rfl,by rw [Array.empty_append];exact z⟩)
    .rcases old b o e with z | ⟨c,ps,e',z⟩
     .exact ⟨o,z⟩
     .exact ⟨_,z⟩
 have EU:∀(H:Hp) (b:Addr),(∃c,kq K "dealt" = some (c,b))->cf P w H aG.heap b (.tab mM):=λH b ⟨c,e⟩=>⟨#[],(tabs c b e).2.2,trivial,λpos cv h=>by simp [codeAmong] at h⟩
 have EZ:∀c b,kq K "dealt" = some (c,b)->b≠a:=λc b e z=>by
  have:=(tabs c b e).2.2
  rw [z,ha] at this
  cases this
 cases hk:K.lookup a with
 | some o =>
  have e:=KX a o hk
  rw [ha] at e
  cases e
  refine core (λb=>if (kq K "dealt").map (·.2)=some b then some (.tab mM) else none) (λc b e=>if_pos (by rw [e];rfl)) (.inr ⟨_,vs.toArray,_,hk,rfl,rfl,rfl,by rw [di,Aq];exact hl,by simpa using rv⟩) (λb u z=>?_) (λb z=>?_) λz=>?_
  .obtain ⟨hc,rfl⟩:=(HW z)
   obtain ⟨⟨c,b'⟩,e,rfl⟩:=rm.mp hc
   exact EU _ _ ⟨c,e⟩
  .by_cases hc:(kq K "dealt").map (·.2)=some b
   .obtain ⟨⟨c,b'⟩,e,rfl⟩:=rm.mp hc
    exact .inr ⟨c,e⟩
   .exact absurd (if_neg hc) z
  .by_cases hc:(kq K "dealt").map (·.2)=some a
   .obtain ⟨⟨c,b'⟩,e,e2⟩:=rm.mp hc
    exact absurd e2 (EZ c b' e)
   .exact absurd (if_neg hc) z
 | none =>
  refine core (λb=>if b=a then some (.gx { cls:=.type "list",data:=.seq vs.toArray } (.lst (ns.map V.int))) else if (kq K "dealt").map (·.2)=some b then some (.tab mM) else none) (λc b e=>by show (if b=a then _ else _)=_;rw [if_neg (EZ c b e),if_pos (by rw [e];rfl)]) (.inl (.inr ⟨{ cls:=.type "list",data:=.seq vs.toArray },if_pos rfl⟩)) (λb u z=>?_) (λb z=>?_) λ_=>hk
  .by_cases hb:b=a
   .have z':=(if_pos hb).symm.trans z
    cases z'
    subst hb
    exact ⟨ha,by rw [bM];exact hl,vs,_,rv,ha⟩
   .obtain ⟨hc,rfl⟩:=HW ((if_neg hb).symm.trans z)
    obtain ⟨⟨c,b'⟩,e,rfl⟩:=rm.mp hc
    exact EU _ _ ⟨c,e⟩
  .by_cases hb:b=a
   .exact .inl ⟨hb,_,_,if_pos hb⟩
   .by_cases hc:(kq K "dealt").map (·.2)=some b
    .obtain ⟨⟨c,b'⟩,e,rfl⟩:=rm.mp hc
     exact .inr ⟨c,e⟩
    .exact absurd ((if_neg hb).trans (if_neg hc)) z
end L2
namespace L2
open PySem PySem.Spec PyProof.Rows
abbrev Wz{K:aC}{h:Heap}(_:K.In h):aC:=K
theorem mE{l:BK}{n k:Nat}{q:Program}{loose:List Str}{XP:(Str->Option Value)->Heap->Prop}{YP:World->Heap->Prop}{d:DefRec}{K:Params->aC}{CX:World->kf}{sp:World->Sp}{x:Str}{ts:List Addr}
  (hn:l.most=some n)(M0:n<=sizeLine)(uB:d.params.defaults=[])(hr:bH k callerA)
  (hY:∀(w:World) (h:Heap),YP w h->(K w.params).In h/\∀P∈ts,h.get? P=some (q8 #[]))(hL:∀w:World,yE (K w.params) ts=true)
  (F:∀(w:World) (mg:Str->Option Value) (fa:Addr) (h:Heap),(K w.params).In h->h.Ns mainGlobals mg->mg d.name=some (.ref fa) ->
   ∃fd:FuncData,(∀(s:Shared) (u:Value),BindsTo s fd ⟨[u],[]⟩ [(x,u)]) /\
    ∀base:Heap,(K w.params).In base->base.Ns mainGlobals mg->cu l.prog w (K w.params) mg base (CX w) k fa fd [x] (sp w))
  (lU:∀(w:World) (H:Hp) (a:Addr) (ns:List Int),ns.length<=n->Tb (K w.params) H->dg (K w.params) H a (ns.map V.int)->sp w [.ref a] H (λv H'=>v=.bl true/\Tb (K w.params) H') λ_ _ _=>False)
  (Bc:∀(w:World) (H:Hp) (s:Shared) (e:Value) (s':Shared),CX w [] H s (λ_ _ _=>False) e s'->False):
  PySem.W.WalkO q loose XP YP l.row.toRowW d [] (λf vs=>BD f vs):=by
 refine Jm.gR hn uB λw bX aG mg mb fa o pm cd doc a vs ns G Y ho hd cK uo pI hints hlen hg=>?_
 obtain ⟨KX,A8⟩:=hY w _ Y
 obtain ⟨fd,hb,hF⟩:=F w mg fa _ KX G.T.g uo
 exact RI KX G.T.g G.T.b G.T.builtins G.T.nolimit hg G.T.bmain (hL w) A8 pI hints (et hlen M0) hr hF hb (λH hO hS=>lU w H a ns hlen hO hS) λH e s'=>Bc w H aG e s'
end L2
namespace L2
open PySem PySem.Spec PyProof.Rows
def iD(s:Stmt):Arguments:=match s with
 | .FunctionDef _ a _ _ _ _ _ _ _ _=>a
 | _=>{ posonlyargs:=[],args:=[],vararg:=none,kwonlyargs:=[],kw_defaults:=[],kwarg:=none,defaults:=[] }
def fL(s:Stmt):List Stmt:=match s with
 | .FunctionDef _ _ b _ _ _ _ _ _ _=>b
 | _=>[]
def dI(s:Stmt):Scope:=match s with
 | .FunctionDef _ _ _ _ _ _ sc _ _ _=>sc
 | _=>{ kind:=.function,names:=[],isGenerator:=false,isCoroutine:=false }
abbrev jn:kf:=λ_ _ _ _ _ _=>False
abbrev E0:XK:=λ_ _ _=>False
theorem tJ:CG jn X E0:=λ_ _ _ _ _ _ _ h=>h.elim
structure oX(K:aC)(x qual:Str)(st:Stmt)(f:Addr)(fd:FuncData):Prop where
 ex:∃(oc:Value) (od:Option Addr) (kV doc pm:Value) (an:Option Addr) (cG ct:Value) (nS:Array (Option Value)),
  fd=gy x qual (iD st) (fL st) (dI st) .none kV doc pm an cG ct/\K.lookup f=some ⟨oc,od,.func fd,nS⟩/\ym K cG qual=true
 kp:qa K (.ref f)=true
section
variable {P:Program}{w:World}{K:aC}{mg:Str->Option Value}{base:Heap}
theorem oX.ok{x qual:Str}{st:Stmt}{f:Addr}{fd:FuncData}{N ps:List Str}{k:Nat}{sp:Sp}(F:oX K x qual st f fd)(S:cM N ps (dI st))(len:∀vs H Q E,sp vs H Q E->vs.length=ps.length)
  (cY:∀(cG:Value) (A:Around) (outer:List Env) (s:Shared) (H:Hp) (vs:List V) (Q:VK) (E:XK),bH k (A.deeper (envOfC qual (dI st) s.heap.objs.size f cG))->sp vs H Q E ->
   ∃t,jE (iS jn P w K mg base N qual (dI st) f cG A outer s H E).mK (fL st) t/\t { nx:=λ_ H'=>Q .aI H',rt:=Q } (start N vs) H):cu P w K mg base jn (k+1) f fd ps sp:=by
 obtain ⟨oc,od,kV,doc,pm,an,cG,ct,nS,rfl,lk,cK⟩:=F.ex
 refine uT lk cK S len λA outer s H vs Q E hr lU=>?_
 obtain ⟨t,h,q⟩:=cY cG A outer s H vs Q E hr lU
 exact ⟨t,h.mK,q⟩
theorem oX.binds{x qual:Str}{st:Stmt}{f:Addr}{fd:FuncData}{ps:List Str}(F:oX K x qual st f fd)
  (h:∀(kV doc pm:Value) (an:Option Addr) (cG ct:Value) (us:List Value),us.length=ps.length->bindArgs (gy x qual (iD st) (fL st) (dI st) .none kV doc pm an cG ct) ⟨us,[]⟩=pure (ps.zip us)):Binds K fd ps []:=by
 obtain ⟨oc,od,kV,doc,pm,an,cG,ct,nS,rfl,lk,cK⟩:=F.ex
 exact .all (h kV doc pm an cG ct)
theorem GU{x qual:Str}{st:Stmt}{f:Addr}{oc:Value}{od an:Option Addr}{nS:Array (Option Value)}{kV doc pm cG ct:Value}(l:K.lookup f=some ⟨oc,od,.func (gy x qual (iD st) (fL st) (dI st) .none kV doc pm an cG ct),nS⟩)
  (c:ym K cG qual=true)(k:qa K (.ref f)=true):oX K x qual st f (gy x qual (iD st) (fL st) (dI st) .none kV doc pm an cG ct):=⟨⟨oc,od,kV,doc,pm,an,cG,ct,nS,rfl,l,c⟩,k⟩
end
section
variable {X:Cx}
theorem pv(i:Nat){x:Str}{pos:Pos}(hN:X.N[i]?=some x:=by rfl)(hv:fY X.env.scope x:=by first | exact cw rfl | exact bo (cw rfl) | exact bo (bo rfl))(hd:(x==("__debug__":Str))=false:=by decide)
  (cK:(x==("__classdict__":Str))=false:=by decide):PE X (.Name x pos) (sC i):=oG hN hv hd cK
end
def ar(H H':Hp):Prop:=∀b o,H b=some o->H' b=some o
theorem ar.refl(H:Hp):ar H H:=λ_ _ h=>h
theorem ar.trans(a:ar H H1)(b:ar H1 H2):ar H H2:=λc o h=>b c o (a c o h)
theorem ar.free(e:ar H H')(h:H' l=Option.none):H l=Option.none:=by
 cases q:H l with
 | none=>rfl
 | some o =>
  rw [e l o q] at h
  cases h
theorem ar.seq{K:aC}{H H':Hp}{a:Addr}{xs:List V}(e:ar H H')(h:dg K H a xs):dg K H' a xs:=by
 rcases h with (h | ⟨o,h⟩) | h
 .exact .inl (.inl (e _ _ h))
 .exact .inl (.inr ⟨o,e _ _ h⟩)
 .exact .inr h
end L2
set_option maxHeartbeats 4000000
namespace DL
open PySem PySem.Spec PyProof.Rows L2
section
variable {prog:Program}{w:World}{A:Around}{E:Value->Shared->Prop}{s:Shared}
theorem RP{ws:List Value}(ht:IsTup s.heap t #[])(hb:IsTup s.heap b ws.toArray)(h1:Q (.ref b) s):wpAny (model prog w) A (binaryOp .Add (.ref t) (.ref b)) Q E s:=by
 obtain ⟨⟨cls,dd,data,sl⟩,ho,hc,n,hd⟩:=id ht
 obtain ⟨⟨Bz,xH,data2,sR⟩,pJ,uE,n2,hd2⟩:=id hb
 simp only at hc hd uE hd2
 subst hc hd uE hd2
 exact concat_meets ⟨_,ho,rfl⟩ ⟨_,pJ,rfl⟩ BO B2 Cc B4 (B6 _ _)
   (tuple_addW0 t b #[] ws.toArray n n2 dd xH sl sR rfl) ⟨ho,pJ,h1⟩
end
section
variable {X:Cx}
noncomputable def tx(K:aC):R2:=λx y H Q=>∃a b ys,x=.ref a/\y=.ref b/\dv K H a []/\dv K H b ys/\Q (.ref b) H
theorem QB:fy X (binaryOp .Add) (tx X.K):=by
 intro pins s σ H x y v u Q I rx ry h
 obtain ⟨a,b,ys,rfl,rfl,ha,hb,q1⟩:=h
 cases rx
 cases ry
 obtain ⟨ao,r1,p1,_⟩:=I.tuple ha
 obtain ⟨cm,r2,p2,_⟩:=I.tuple hb
 cases r1
 exact RP p1 p2 ⟨.ref b,H,I,rfl,q1⟩
end
end DL
namespace DL
open PySem PySem.Spec PyProof.Rows L2
inductive D where
 | aI | bl (b:Bool) | int (i:Int) | str (x:Str) | tup (ds:List D) | lst (ro:Bool) (ds:List D) | exc (n:Str) | eJ (fz:Bool) (bb:List (Int×Int))
 deriving Inhabited
inductive Sl where
 | no | sh (d:D) | ow (ds:List D) | dw (bb:List (Int×Int))
 deriving Inhabited
noncomputable abbrev En:=List Sl
noncomputable def Sl.d:Sl->D
 | .no=>.aI
 | .sh d=>d
 | .ow ds=>.lst false ds
 | .dw bb=>.eJ false bb
def By(p C:Addr)(h:Heap):Prop:=∃o,h.get? p=some o/\o.cls=.ref C
mutual
inductive Is (K:aC) (O:Addr->Prop) (H:Hp):V->D->Prop
 | aI:Is K O H .aI .aI
 | bl (b:Bool):Is K O H (.bl b) (.bl b)
 | int (i:Int):Is K O H (.int i) (.int i)
 | str (x:Str):Is K O H (.str x) (.str x)
 | tup {p:Addr} {xs:List V} {ds:List D} (ho:¬O p) (hp:Rd H p (.tup xs)) (hs:aH K O H xs ds):Is K O H (.ref p) (.tup ds)
 | jK {p:Addr} {xs:List V} {ds:List D} (hp:dv K (λ_=>none) p xs) (hs:aH K O H xs ds):Is K O H (.ref p) (.tup ds)
 | lst {p:Addr} {xs:List V} {ds:List D} (ho:¬O p) (hp:H p=some (.lst xs)) (hs:aH K O H xs ds):Is K O H (.ref p) (.lst false ds)
 | iG {p:Addr} {xs:List V} {ds:List D} (ho:¬O p) (hp:Rd H p (.lst xs)) (hs:aH K O H xs ds):Is K O H (.ref p) (.lst true ds)
 | iJ {p:Addr} {xs:List V} {ds:List D} (hp:dg K (λ_=>none) p xs) (hs:aH K O H xs ds):Is K O H (.ref p) (.lst true ds)
 | exc {p C:Addr} {n:Str} (ho:¬O p) (hn:ko K mainGlobals n=some (some (.ref C))) (hp:H p=some (.ext (By p C))):Is K O H (.ref p) (.exc n)
 | eJ {p:Addr} {bb:List (Int×Int)} (ho:¬O p) (hp:H p=some (.dK (bb.map λq=>(.inl q.1,.int q.2)))):Is K O H (.ref p) (.eJ false bb)
 | mU {p:Addr} {bb:List (Int×Int)} {o:Obj} (ho:¬O p) (hp:H p=some (.gx o (.dK (bb.map λq=>(.inl q.1,.int q.2))))):Is K O H (.ref p) (.eJ true bb)
inductive aH (K:aC) (O:Addr->Prop) (H:Hp):List V->List D->Prop
 | nil:aH K O H [] []
 | cons {x:V} {d:D} {xs:List V} {ds:List D} (h:Is K O H x d) (t:aH K O H xs ds):aH K O H (x::xs) (d::ds)
end
theorem G4{O:Addr->Prop}{H H':Hp}(hH:∀q u,H q=some u->¬O q->H' q=some u){p:Addr}{u:HO}(ho:¬O p)(h:Rd H p u):Rd H' p u:=by
 rcases h with h | ⟨o,h⟩
 .exact .inl (hH p u h ho)
 .exact .inr ⟨o,hH p _ h ho⟩
theorem Ht(h:Rd H p u):H p≠none:=by
 rcases h with h | ⟨o,h⟩<;>rw [h]<;>exact λz=>nomatch z
theorem wm{K:aC}{H:Hp}{p:Addr}{xs:List V}(h:dg K (λ_=>none) p xs):dg K H p xs:=by
 rcases h with (h | ⟨o,h⟩) | h
 .cases h
 .cases h
 .exact .inr h
theorem wo{K:aC}{H:Hp}{p:Addr}{xs:List V}(h:dv K (λ_=>none) p xs):dv K H p xs:=by
 rcases h with (h | ⟨o,h⟩) | h
 .cases h
 .cases h
 .exact .inr h
section
variable {K:aC}{O O':Addr->Prop}{H H':Hp}
mutual
theorem Is.map(hO:∀q,H q≠none->¬O q->¬O' q)(hH:∀q u,H q=some u->¬O q->H' q=some u):∀{v:V} {d:D},Is K O H v d->Is K O' H' v d
 | _,_,.aI=>.aI
 | _,_,.bl b=>.bl b
 | _,_,.int i=>.int i
 | _,_,.str x=>.str x
 | _,_,.tup ho hp hs=>.tup (hO _ (Ht hp) ho) (G4 hH ho hp) (aH.map hO hH hs)
 | _,_,.jK hp hs=>.jK hp (aH.map hO hH hs)
 | _,_,.lst ho hp hs=>.lst (hO _ (by rw [hp];exact λz=>nomatch z) ho) (hH _ _ hp ho) (aH.map hO hH hs)
 | _,_,.iG ho hp hs=>.iG (hO _ (Ht hp) ho) (G4 hH ho hp) (aH.map hO hH hs)
 | _,_,.iJ hp hs=>.iJ hp (aH.map hO hH hs)
 | _,_,.exc ho hn hp=>.exc (hO _ (by rw [hp];exact λz=>nomatch z) ho) hn (hH _ _ hp ho)
 | _,_,.eJ ho hp=>.eJ (hO _ (by rw [hp];exact λz=>nomatch z) ho) (hH _ _ hp ho)
 | _,_,.mU ho hp=>.mU (hO _ (by rw [hp];exact λz=>nomatch z) ho) (hH _ _ hp ho)
theorem aH.map(hO:∀q,H q≠none->¬O q->¬O' q)(hH:∀q u,H q=some u->¬O q->H' q=some u):∀{v:List V} {d:List D},aH K O H v d->aH K O' H' v d
 | _,_,.nil=>.nil
 | _,_,.cons h t=>.cons (Is.map hO hH h) (aH.map hO hH t)
end
theorem Is.grow(s:ar H H')(h:Is K O H v d):Is K O H' v d:=h.map (λ_ _ z=>z) λq u e _=>s q u e
theorem aH.grow(s:ar H H')(h:aH K O H v d):aH K O H' v d:=h.map (λ_ _ z=>z) λq u e _=>s q u e
theorem Is.less(hO:∀q,O' q->O q)(h:Is K O H v d):Is K O' H v d:=h.map (λ_ _ z w=>z (hO _ w)) λ_ _ e _=>e
theorem aH.less(hO:∀q,O' q->O q)(h:aH K O H v d):aH K O' H v d:=h.map (λ_ _ z w=>z (hO _ w)) λ_ _ e _=>e
theorem aH.length:∀{v:List V} {d:List D},aH K O H v d->v.length=d.length
 | _,_,.nil=>rfl
 | _,_,.cons _ t=>by rw [fS,fS,aH.length t]
theorem aH.append:∀{v w:List V} {d e:List D},aH K O H v d->aH K O H w e->aH K O H (v++w) (d++e)
 | _,_,_,_,.nil,s=>s
 | _,_,_,_,.cons h t,s=>.cons h (aH.append t s)
theorem aH.get:∀{v:List V} {ds:List D} {i:Nat} {d:D},aH K O H v ds->ds[i]?=some d->∃x,v[i]?=some x/\Is K O H x d
 | _,_,_,_,.nil,e=>by simp at e
 | _,_,0,_,.cons h _,e=>by simp at e;subst e;exact ⟨_,rfl,h⟩
 | _,_,i+1,d,.cons _ t,e=>by
  obtain ⟨u,h1,h2⟩:=aH.get (i:=i) (d:=d) t (by simpa using e)
  exact ⟨u,by simpa using h1,h2⟩
theorem aH.pS:∀{v:List V} {ds:List D} {i:Nat} {x:V},aH K O H v ds->v[i]?=some x->∃d,ds[i]?=some d/\Is K O H x d
 | _,_,_,_,.nil,e=>by simp at e
 | _,_,0,_,.cons h _,e=>by simp at e;subst e;exact ⟨_,rfl,h⟩
 | _,_,i+1,d,.cons _ t,e=>by
  obtain ⟨u,h1,h2⟩:=aH.pS (i:=i) (x:=d) t (by simpa using e)
  exact ⟨u,by simpa using h1,h2⟩
theorem aH.take:∀{v:List V} {d:List D} (n:Nat),aH K O H v d->aH K O H (v.take n) (d.take n)
 | _,_,0,_=>.nil
 | _,_,_+1,.nil=>.nil
 | _,_,n+1,.cons h t=>.cons h (aH.take n t)
theorem aH.drop:∀{v:List V} {d:List D} (n:Nat),aH K O H v d->aH K O H (v.drop n) (d.drop n)
 | _,_,0,h=>h
 | _,_,_+1,.nil=>.nil
 | _,_,n+1,.cons _ t=>aH.drop n t
theorem aH.set(h:Is K O H x d):∀{v:List V} {ds:List D} (n:Nat),aH K O H v ds->aH K O H (v.set n x) (ds.set n d)
 | _,_,_,.nil=>.nil
 | _,_,0,.cons _ t=>.cons h t
 | _,_,n+1,.cons h' t=>.cons h' (aH.set h n t)
theorem aH.cW(h:aH K O H v ds)(e:L2.cW ds i=some d):∃x,L2.cW v i=some x/\Is K O H x d:=by
 unfold L2.cW at e ⊢
 rw [h.length]
 cases q:gg ds.length i with
 | none=>rw [q] at e;cases e
 | some j =>
  rw [q] at e
  exact h.get e
theorem aH.dropLast(h:aH K O H v d):aH K O H v.dropLast d.dropLast:=by
 rw [Gf,Gf,h.length]
 exact h.take _
theorem aH.ints:∀(ns:List Int),aH K O H (ns.map V.int) (ns.map D.int)
 | []=>.nil
 | n::r=>.cons (.int n) (aH.ints r)
def Sq(K:aC)(H:Hp)(k:Bool)(p:Addr)(xs:List V):Prop:=if k=true then dg K H p xs else dv K H p xs
noncomputable def dk:D->Option (Bool×List D)
 | .tup ds=>some (false,ds)
 | .lst _ ds=>some (true,ds)
 | _=>none
theorem Is.seq(h:Is K O H v d)(e:dk d=some (k,ds)):∃p xs,v=.ref p/\Sq K H k p xs/\aH K O H xs ds:=by
 cases h with
 | tup ho hp hs=>cases e;exact ⟨_,_,rfl,.inl hp,hs⟩
 | jK hp hs=>cases e;exact ⟨_,_,rfl,wo hp,hs⟩
 | lst ho hp hs=>cases e;exact ⟨_,_,rfl,.inl (.inl hp),hs⟩
 | iG ho hp hs=>cases e;exact ⟨_,_,rfl,.inl hp,hs⟩
 | iJ hp hs=>cases e;exact ⟨_,_,rfl,wm hp,hs⟩
 | _=>cases e
end
theorem Sq.grow{K:aC}{H H':Hp}{k:Bool}{p:Addr}{xs:List V}(s:ar H H')(h:Sq K H k p xs):Sq K H' k p xs:=by
 cases k with
 | true =>
  rcases h with (h | ⟨o,h⟩) | h
  .exact .inl (.inl (s _ _ h))
  .exact .inl (.inr ⟨o,s _ _ h⟩)
  .exact .inr h
 | false =>
  rcases h with (h | ⟨o,h⟩) | h
  .exact .inl (.inl (s _ _ h))
  .exact .inl (.inr ⟨o,s _ _ h⟩)
  .exact .inr h
noncomputable def Sl.own:Sl->Prop
 | .ow _=>True
 | .dw _=>True
 | _=>False
noncomputable abbrev Bt(bb:List (Int×Int)):HO:=.dK (bb.map λq=>(.inl q.1,.int q.2))
def jm(σ:L2.St)(env:En)(p:Addr):Prop:=∃(i:Nat) (s:Sl),env[i]?=some s/\s.own/\σ[i]?=some (some (V.ref p))
abbrev OO(O:Addr->Prop)(σ:L2.St)(env:En)(q:Addr):Prop:=O q\/jm σ env q
theorem _root_.L2.Tb.grow{K:aC}{H H':Hp}(s:ar H H')(h:Tb K H):Tb K H':=λc P e=>s _ _ (h c P e)
def qI(K:aC)(O:Addr->Prop)(H:Hp):Prop:=(∀q,O q->H q≠none)/\Tb K H
theorem qI.grow{K:aC}{O:Addr->Prop}{H H':Hp}(s:ar H H')(h:qI K O H):qI K O H':=⟨λq hq hn=>h.1 q hq (s.free hn),h.2.grow s⟩
structure Rel(K:aC)(O:Addr->Prop)(B:Hp)(σ:L2.St)(H:Hp)(env:En):Prop where
 same:ar B H
 n9:qI K O B
 len:σ.length=env.length
 sh:∀(i:Nat) (d:D),env[i]?=some (Sl.sh d)->∃v,σ[i]?=some (some v)/\Is K (OO O σ env) H v d
 ow:∀(i:Nat) (ds:List D),env[i]?=some (Sl.ow ds)->∃p xs,σ[i]?=some (some (V.ref p))/\B p=none/\H p=some (.lst xs)/\aH K (OO O σ env) H xs ds
 dw:∀(i:Nat) (bb:List (Int×Int)),env[i]?=some (Sl.dw bb)->∃p,σ[i]?=some (some (V.ref p))/\B p=none/\H p=some (Bt bb)
 sep:∀(i j:Nat) (ds es:Sl) (p:Addr),env[i]?=some ds->env[j]?=some es->σ[i]?=some (some (V.ref p))->σ[j]?=some (some (V.ref p))->ds.own->es.own->i=j
noncomputable def Res(K:aC)(O:Addr->Prop)(B H:Hp)(v:V):Sl->Prop
 | .no=>False
 | .sh d=>Is K O H v d
 | .ow ds=>∃p xs,v=.ref p/\B p=none/\H p=some (.lst xs)/\aH K (λq=>O q\/q=p) H xs ds
 | .dw bb=>∃p,v=.ref p/\B p=none/\H p=some (Bt bb)
section
variable {K:aC}{O:Addr->Prop}{B H H' H1:Hp}{σ:L2.St}{env:En}{v:V}{r:Sl}
theorem Rel.ad(R:Rel K O B σ H env){i:Nat}{s:Sl}(h:env[i]?=some s)(ho:s.own):∃p u,σ[i]?=some (some (V.ref p))/\B p=none/\H p=some u:=by
 cases s with
 | ow ds=>obtain ⟨p,xs,e1,e2,e3,_⟩:=R.ow i ds h;exact ⟨p,_,e1,e2,e3⟩
 | dw bb=>obtain ⟨p,e1,e2,e3⟩:=R.dw i bb h;exact ⟨p,_,e1,e2,e3⟩
 | no=>exact ho.elim
 | sh d=>exact ho.elim
theorem Rel.oo(R:Rel K O B σ H env)(h:OO O σ env q):H q≠none:=by
 rcases h with h | ⟨i,s,h1,ho,h2⟩
 .intro z
  exact R.n9.1 q h (R.same.free z)
 .obtain ⟨p,u,e1,_,e3⟩:=R.ad h1 ho
  rw [h2] at e1
  cases e1
  rw [e3];exact λz=>nomatch z
theorem Rel.dm(R:Rel K O B σ H env):qI K (OO O σ env) H:=⟨λ_=>R.oo,R.n9.2.grow R.same⟩
theorem Rel.grow(R:Rel K O B σ H env)(s:ar H H'):Rel K O B σ H' env where
 same:=R.same.trans s
 n9:=R.n9
 len:=R.len
 sh:=λi d e=>let ⟨v,e1,h⟩:=R.sh i d e;⟨v,e1,h.grow s⟩
 ow:=λi ds e=>let ⟨p,xs,e1,e2,e3,h⟩:=R.ow i ds e;⟨p,xs,e1,e2,s _ _ e3,h.grow s⟩
 dw:=λi bb e=>let ⟨p,e1,e2,e3⟩:=R.dw i bb e;⟨p,e1,e2,s _ _ e3⟩
 sep:=R.sep
theorem Res.grow(s:ar H H')(h:Res K O B H v r):Res K O B H' v r:=by
 cases r with
 | no=>exact h
 | sh d=>exact Is.grow s h
 | ow ds=>obtain ⟨p,xs,e1,e2,e3,h⟩:=h;exact ⟨p,xs,e1,e2,s _ _ e3,h.grow s⟩
 | dw bb=>obtain ⟨p,e1,e2,e3⟩:=h;exact ⟨p,e1,e2,s _ _ e3⟩
theorem Res.from(s:ar H1 B)(h:Res K O B H v r):Res K O H1 H v r:=by
 cases r with
 | no=>exact h
 | sh d=>exact h
 | ow ds=>obtain ⟨p,xs,e1,e2,e3,h⟩:=h;exact ⟨p,xs,e1,s.free e2,e3,h⟩
 | dw bb=>obtain ⟨p,e1,e2,e3⟩:=h;exact ⟨p,e1,s.free e2,e3⟩
theorem Res.less(hO:∀q,O' q->O q)(h:Res K O B H v r):Res K O' B H v r:=by
 cases r with
 | no=>exact h
 | sh d=>exact Is.less hO h
 | ow ds=>obtain ⟨p,xs,e1,e2,e3,h⟩:=h;exact ⟨p,xs,e1,e2,e3,h.less λq z=>z.elim (λw=>.inl (hO _ w)) .inr⟩
 | dw bb=>exact h
theorem Res.is(hd:∀q,O q->B q≠none)(h:Res K O B H v r):Is K O H v r.d:=by
 cases r with
 | no=>exact h.elim
 | sh d=>exact h
 | ow ds =>
  obtain ⟨p,xs,rfl,e2,e3,h⟩:=h
  exact .lst (λz=>hd p z e2) e3 (h.less λ_=>.inl)
 | dw bb =>
  obtain ⟨p,rfl,e2,e3⟩:=h
  exact .eJ (λz=>hd p z e2) e3
end
def EV(X:Cx)(e:Expr)(f:En->Option Sl):Prop:=
 ∃t:TE,PE X e t/\∀(O:Addr->Prop) (B:Hp) (σ:L2.St) (H:Hp) (env:En) (r:Sl) (Q:VK),Rel X.K O B σ H env->f env=some r ->
  (∀v H',ar H H'->Res X.K (OO O σ env) H H' v r->Q v H')->t σ H Q
def BV(X:Cx)(e:Expr)(f:En->Option (Bool×List D)):Prop:=
 ∃t:TE,PE X e t/\∀(O:Addr->Prop) (B:Hp) (σ:L2.St) (H:Hp) (env:En) (k:Bool) (ds:List D) (Q:VK),Rel X.K O B σ H env->f env=some (k,ds) ->
  (∀p xs H',ar H H'->Sq X.K H' k p xs->aH X.K (OO O σ env) H' xs ds->Q (.ref p) H')->t σ H Q
def AV(X:Cx)(es:List Expr)(f:En->Option (List D)):Prop:=
 ∃t:TA,PA X es t/\∀(O:Addr->Prop) (B:Hp) (σ:L2.St) (H:Hp) (env:En) (ds:List D) (Q:List V->Hp->Prop),Rel X.K O B σ H env->f env=some ds ->
  (∀vs H',ar H H'->aH X.K (OO O σ env) H' vs ds->Q vs H')->t σ H Q
def TV(X:Cx)(e:Expr)(f:En->Option Bool):Prop:=
 ∃t:TT,PT X e t/\∀(O:Addr->Prop) (B:Hp) (σ:L2.St) (H:Hp) (env:En) (b:Bool) (Q:Bool->Hp->Prop),Rel X.K O B σ H env->f env=some b ->
  (∀H',ar H H'->Q b H')->t σ H Q
def WV(X:Cx)(e:Expr)(f:En->Option Bool):Prop:=
 ∃t:TT,PW X e t/\∀(O:Addr->Prop) (B:Hp) (σ:L2.St) (H:Hp) (env:En) (b:Bool) (Q:Bool->Hp->Prop),Rel X.K O B σ H env->f env=some b ->
  (∀H',ar H H'->Q b H')->t σ H Q
inductive Fl where
 | nx | bk | ct | rt (r:Sl)
def Gd(σ:L2.St)(env:En)(H:Hp)(aA:L2.St)(ai:En)(H':Hp):Prop:=∀q u,H q=some u->¬jm σ env q->H' q=some u/\¬jm aA ai q
theorem Gd.trans(a:Gd σ env H ft bG H1)(b:Gd ft bG H1 bW aZ H2):Gd σ env H bW aZ H2:=λq u e n =>
 let ⟨e1,n1⟩:=a q u e n
 b q u e1 n1
theorem Gd.from(s:ar H H1)(b:Gd σ env H1 aA ai H'):Gd σ env H aA ai H':=λq u e n=>b q u (s _ _ e) n
theorem Gd.refl(s:ar H H'):Gd σ env H σ env H':=λq u e n=>⟨s _ _ e,n⟩
noncomputable def cF(K:aC)(O:Addr->Prop)(B:Hp)(σ:L2.St)(H:Hp)(env:En)(D:Ends):Fl->En->Prop
 | .nx,ai=>∀aA H',Rel K O B aA H' ai->Gd σ env H aA ai H'->D.nx aA H'
 | .bk,ai=>∀aA H',Rel K O B aA H' ai->Gd σ env H aA ai H'->D.bk aA H'
 | .ct,ai=>∀aA H',Rel K O B aA H' ai->Gd σ env H aA ai H'->D.ct aA H'
 | .rt r,_=>∀v H',ar B H'->Res K O B H' v r->D.rt v H'
theorem cF.from{K:aC}{O:Addr->Prop}{B:Hp}{σ ft:L2.St}{H H1:Hp}{env bG:En}{D:Ends}{fl:Fl}{ai:En}(g:Gd σ env H ft bG H1)(h:cF K O B σ H env D fl ai):cF K O B ft H1 bG D fl ai:=by
 cases fl with
 | nx=>exact λaA H' R g'=>h aA H' R (g.trans g')
 | bk=>exact λaA H' R g'=>h aA H' R (g.trans g')
 | ct=>exact λaA H' R g'=>h aA H' R (g.trans g')
 | rt r=>exact h
noncomputable abbrev SF:=En->Option (Fl×En)
def SV(X:Cx)(st:Stmt)(F:SF):Prop:=
 ∃t:TS,PS X st t/\∀(O:Addr->Prop) (B:Hp) (σ:L2.St) (H:Hp) (env:En) (fl:Fl) (ai:En) (D:Ends),Rel X.K O B σ H env->F env=some (fl,ai)->cF X.K O B σ H env D fl ai->t D σ H
def jD(X:Cx)(st:List Stmt)(F:SF):Prop:=
 ∃t:TS,jE X st t/\∀(O:Addr->Prop) (B:Hp) (σ:L2.St) (H:Hp) (env:En) (fl:Fl) (ai:En) (D:Ends),Rel X.K O B σ H env->F env=some (fl,ai)->cF X.K O B σ H env D fl ai->t D σ H
section
variable {X:Cx}{a b c:Expr}{pos:Pos}{fa fb fc:En->Option Sl}
noncomputable def eC(d:D):En->Option Sl:=λ_=>some (.sh d)
theorem ag{i j pos}:EV X (.Constant (.int i) j pos) (eC (.int i)):=⟨_,PJ,λ_ _ _ _ _ _ _ _ e k=>by
 obtain rfl:=bQ e
 exact k _ _ (ar.refl _) (Is.int i)⟩
theorem m8{i j pos}:EV X (.Constant (.bool i) j pos) (eC (.bl i)):=⟨_,tI,λ_ _ _ _ _ _ _ _ e k=>by
 obtain rfl:=bQ e
 exact k _ _ (ar.refl _) (Is.bl i)⟩
theorem jA{j pos}:EV X (.Constant .none j pos) (eC .aI):=⟨_,PL,λ_ _ _ _ _ _ _ _ e k=>by
 obtain rfl:=bQ e
 exact k _ _ (ar.refl _) Is.aI⟩
noncomputable def xf:Option Sl->Option Sl
 | some (.sh d)=>some (.sh d)
 | _=>none
theorem Rx(h:xf o=some r):∃d,o=some (Sl.sh d)/\r=.sh d:=by
 cases o with
 | none=>cases h
 | some s=>cases s with
  | sh d=>cases h;exact ⟨d,rfl,rfl⟩
  | no=>cases h
  | ow ds=>cases h
  | dw ds=>cases h
noncomputable def eV(i:Nat):En->Option Sl:=λenv=>xf env[i]?
theorem P0(i:Nat)(hN:X.N[i]?=some x:=by rfl)(hv:fY X.env.scope x:=by first | exact cw rfl | exact bo (cw rfl) | exact bo (bo rfl))(hd:(x==("__debug__":Str))=false:=by decide)
  (cK:(x==("__classdict__":Str))=false:=by decide):EV X (.Name x pos) (eV i):=⟨_,oG hN hv hd cK,λO B σ H env r Q R e k=>by
 obtain ⟨d,e1,rfl⟩:=Rx e
 obtain ⟨v,e2,h⟩:=R.sh i d e1
 exact ⟨v,e2,k v H (ar.refl _) h⟩⟩
noncomputable def qP:Option Sl->Option (Bool×List D)
 | some (.sh d)=>dk d
 | some (.ow ds)=>some (true,ds)
 | _=>none
noncomputable def bV(i:Nat):En->Option (Bool×List D):=λenv=>qP env[i]?
theorem PQ(i:Nat)(hN:X.N[i]?=some x:=by rfl)(hv:fY X.env.scope x:=by first | exact cw rfl | exact bo (cw rfl) | exact bo (bo rfl))(hd:(x==("__debug__":Str))=false:=by decide)
  (cK:(x==("__classdict__":Str))=false:=by decide):BV X (.Name x pos) (bV i):=⟨_,oG hN hv hd cK,λO B σ H env k ds Q R e q=>by
 unfold bV at e
 cases h:env[i]? with
 | none=>rw [h] at e;cases e
 | some s =>
  rw [h] at e
  cases s with
  | no=>cases e
  | sh d =>
   obtain ⟨v,e2,hv⟩:=R.sh i d h
   obtain ⟨p,xs,rfl,h1,h2⟩:=hv.seq (show dk d=some (k,ds) from e)
   exact ⟨_,e2,q p xs H (ar.refl _) h1 h2⟩
  | dw es=>cases e
  | ow es =>
   obtain ⟨rfl,rfl⟩:true=k/\es=ds:=Prod.mk.inj (bQ e)
   obtain ⟨p,xs,e2,_,e3,h2⟩:=R.ow i es h
   exact ⟨_,e2,q p xs H (ar.refl _) (.inl (.inl e3)) h2⟩⟩
noncomputable def fv(f:En->Option Sl):En->Option (Bool×List D):=λenv=>(f env).bind λr=>dk r.d
theorem bind_some{α β:Type}{o:Option α}{f:α->Option β}{b:β}(h:o.bind f=some b):∃a,o=some a/\f a=some b:=by
 cases o with
 | none=>cases h
 | some a=>exact ⟨a,rfl,h⟩
theorem fW(h:EV X a fa):BV X a (fv fa):=by
 obtain ⟨t,ht,p⟩:=h
 refine ⟨t,ht,λO B σ H env k ds Q R e q=>?_⟩
 obtain ⟨r,e1,e2⟩:=bind_some e
 refine p O B σ H env r _ R e1 λv H' s h=>?_
 obtain ⟨p,xs,rfl,h1,h2⟩:=(h.is (λz=>R.oo)).seq e2
 exact q p xs H' s h1 h2
def ic(X:Cx)(f:Value->Value->Sem Value)(g:D->D->Option Sl):Prop:=
 ∃r:R2,fy X f r/\∀(O:Addr->Prop) (H:Hp) (x y:V) (a b:D) (s:Sl) (Q:VK),(∀q,O q->H q≠none)->Is X.K O H x a->Is X.K O H y b->g a b=some s ->
  (∀v H',ar H H'->Res X.K O H H' v s->Q v H')->r x y H Q
noncomputable def aa(g:D->D->Option Sl)(fa fb:En->Option Sl):En->Option Sl:=λenv=>(fa env).bind λx=>(fb env).bind λy=>g x.d y.d
theorem Dj(hg:∀(O:Addr->Prop) (H:Hp) (x y:V) (a b:D) (s:Sl) (Q:VK),(∀q,O q->H q≠none)->Is X.K O H x a->Is X.K O H y b->g a b=some s->(∀v H',ar H H'->Res X.K O H H' v s->Q v H')->r x y H Q)(pa:∀(O:Addr->Prop) (B:Hp) (σ:L2.St) (H:Hp) (env:En) (r:Sl) (Q:VK),Rel X.K O B σ H env->fa env=some r->(∀v H',ar H H'->Res X.K (OO O σ env) H H' v r->Q v H')->ta σ H Q)
  (pb:∀(O:Addr->Prop) (B:Hp) (σ:L2.St) (H:Hp) (env:En) (r:Sl) (Q:VK),Rel X.K O B σ H env->fb env=some r->(∀v H',ar H H'->Res X.K (OO O σ env) H H' v r->Q v H')->tb σ H Q)
  (O:Addr->Prop)(B:Hp)(σ:L2.St)(H:Hp)(env:En)(s:Sl)(Q:VK)(R:Rel X.K O B σ H env)(e:aa g fa fb env=some s)
  (k:∀v H',ar H H'->Res X.K (OO O σ env) H H' v s->Q v H'):sE r ta tb σ H Q:=by
 obtain ⟨x,e1,e⟩:=bind_some e
 obtain ⟨y,e2,e⟩:=bind_some e
 refine pa O B σ H env x _ R e1 λv H1 s1 h1=>?_
 refine pb O B σ H1 env y _ (R.grow s1) e2 λu H2 s2 h2=>?_
 have R2:=(R.grow s1).grow s2
 refine hg (OO O σ env) H2 v u x.d y.d s Q (λq=>R2.oo) ((h1.is λq=>R.oo).grow s2) (h2.is λq=>(R.grow s1).oo) e λw H3 s3 h3=>?_
 exact k w H3 ((s1.trans s2).trans s3) (h3.from (s1.trans s2))
theorem az(ho:ic X (binaryOp op) g)(ha:EV X a fa)(hb:EV X b fb):EV X (.BinOp a op b pos) (aa g fa fb):=by
 obtain ⟨r,hr,hg⟩:=ho
 obtain ⟨ta,pa,ka⟩:=ha
 obtain ⟨tb,pb,kb⟩:=hb
 exact ⟨_,tG hr pa pb,Dj hg ka kb⟩
theorem rJ(ho:ic X (compareOp op) g)(ha:EV X a fa)(hb:EV X b fb)(hm:behindInMarks op b=false:=by exact G1 _):EV X (.Compare a [op] [b] pos) (aa g fa fb):=by
 obtain ⟨r,hr,hg⟩:=ho
 obtain ⟨ta,pa,ka⟩:=ha
 obtain ⟨tb,pb,kb⟩:=hb
 exact ⟨_,b2i hr pa pb hm,Dj hg ka kb⟩
noncomputable def fw:Option Sl->Option Bool
 | some (.sh (.bl b))=>some b
 | _=>none
theorem wa{b:Bool}(h:fw o=some b):o=some (Sl.sh (.bl b)):=by
 cases o with
 | none=>cases h
 | some s=>cases s with
  | no=>cases h
  | ow ds=>cases h
  | dw ds=>cases h
  | sh d=>cases d<;>cases h;rfl
noncomputable def bf(f:En->Option Sl):En->Option Bool:=λenv=>fw (f env)
theorem qj{K:aC}{O:Addr->Prop}{H:Hp}{v:V}{b:Bool}(h:Is K O H v (.bl b)):v=.bl b:=by cases h;rfl
theorem iA{K:aC}{O:Addr->Prop}{H:Hp}{v:V}{b:Int}(h:Is K O H v (.int b)):v=.int b:=by cases h;rfl
theorem GX{K:aC}{O:Addr->Prop}{H:Hp}{v:V}(h:Is K O H v .aI):v=.aI:=by cases h;rfl
theorem Cw{K:aC}{O:Addr->Prop}{H:Hp}{v:V}{b:Str}(h:Is K O H v (.str b)):v=.str b:=by cases h;rfl
theorem bt(ho:ic X (compareOp op) g)(ha:EV X a fa)(hb:EV X b fb)(hm:behindInMarks op b=false:=by exact G1 _):TV X (.Compare a [op] [b] pos) (bf (aa g fa fb)):=by
 obtain ⟨r,hr,hg⟩:=ho
 obtain ⟨ta,pa,ka⟩:=ha
 obtain ⟨tb,pb,kb⟩:=hb
 refine ⟨_,QJ hr pa pb hm,λO B σ H env k Q R e q=>?_⟩
 exact Dj hg ka kb O B σ H env _ _ R (wa e) λv H' s h=>⟨k,qj h,q H' s⟩
noncomputable def fA:D->Option Bool
 | .aI=>some false
 | .bl b=>some b
 | .int i=>some (i != 0)
 | .str y=>if y.length<=16777216 then some ((y.length:Int) != 0) else none
 | .tup ds=>some (!ds.isEmpty)
 | .lst _ ds=>some (!ds.isEmpty)
 | .exc _=>none
 | .eJ _ _=>none
theorem aH.isEmpty{K:aC}{O:Addr->Prop}{H:Hp}{xs:List V}{ds:List D}(h:aH K O H xs ds):xs.isEmpty=ds.isEmpty:=by cases h<;>rfl
theorem Q4{K:aC}{O:Addr->Prop}{H:Hp}{v:V}{d:D}{b:Bool}(h:Is K O H v d)(e:fA d=some b):qE K v H b:=by
 cases h with
 | aI=>cases e;rfl
 | bl b=>cases e;rfl
 | int i=>cases e;rfl
 | str x =>
  unfold fA at e
  dsimp only at e
  by_cases hl:x.length<=16777216
  .rw [if_pos hl] at e;cases e;exact ⟨by rw [il];exact hl,rfl⟩
  .rw [if_neg hl] at e;cases e
 | tup ho hp hs=>cases e;exact .inr (.inl ⟨_,.inl hp,by rw [hs.isEmpty]⟩)
 | jK hp hs=>cases e;exact .inr (.inl ⟨_,wo hp,by rw [hs.isEmpty]⟩)
 | lst ho hp hs=>cases e;exact .inl ⟨_,.inl (.inl hp),by rw [hs.isEmpty]⟩
 | iG ho hp hs=>cases e;exact .inl ⟨_,.inl hp,by rw [hs.isEmpty]⟩
 | iJ hp hs=>cases e;exact .inl ⟨_,wm hp,by rw [hs.isEmpty]⟩
 | exc ho hn hp=>cases e
 | eJ ho hp=>cases e
 | mU ho hp=>cases e
noncomputable def eS(f:En->Option Sl):En->Option Bool:=λenv=>(f env).bind λr=>fA r.d
theorem oC(ha:EV X a fa)(he:∀whole,isTrue a X.env whole=(do let v <-whole;standAt a.pos;holding [v] (truthy v)):=by intro _;rfl):TV X a (eS fa):=by
 obtain ⟨ta,pa,ka⟩:=ha
 refine ⟨_,HF pa he,λO B σ H env k Q R e q=>?_⟩
 obtain ⟨r,e1,e2⟩:=bind_some e
 exact ka O B σ H env r _ R e1 λv H' s h=>⟨k,Q4 (h.is λq=>R.oo) e2,q H' s⟩
noncomputable def vS(f:En->Option (Bool×List D)):En->Option Bool:=λenv=>(f env).bind λr=>some (!r.2.isEmpty)
theorem Ho{fa:En->Option (Bool×List D)}(ha:BV X a fa)(he:∀whole,isTrue a X.env whole=(do let v <-whole;standAt a.pos;holding [v] (truthy v)):=by intro _;rfl):TV X a (vS fa):=by
 obtain ⟨ta,pa,ka⟩:=ha
 refine ⟨_,HF pa he,λO B σ H env k Q R e q=>?_⟩
 obtain ⟨⟨kk,ds⟩,e1,e2⟩:=bind_some e
 cases e2
 refine ka O B σ H env kk ds _ R e1 λp xs H' s h hs=>⟨_,?_,q H' s⟩
 cases kk with
 | true=>exact .inl ⟨xs,h,by rw [hs.isEmpty]⟩
 | false=>exact .inr (.inl ⟨xs,h,by rw [hs.isEmpty]⟩)
noncomputable def ku(f g:En->Option Bool):En->Option Bool:=λenv=>match f env with
 | some true=>g env
 | some false=>some false
 | none=>none
noncomputable def eT(f g:En->Option Bool):En->Option Bool:=λenv=>match f env with
 | some false=>g env
 | some true=>some true
 | none=>none
noncomputable def oA(f:En->Option Bool):En->Option Bool:=λenv=>(f env).map (!·)
variable {ga gb:En->Option Bool}{rest:List Expr}
theorem qr(ha:TV X a ga):WV X (.BoolOp .And [a] pos) ga:=let ⟨t,p,k⟩:=ha;⟨t,QL p,k⟩
theorem rQ(ha:TV X a ga):WV X (.BoolOp .Or [a] pos) ga:=let ⟨t,p,k⟩:=ha;⟨t,Qp p,k⟩
theorem qm(ha:TV X a ga)(hb:WV X (.BoolOp .And (b::rest) pos) gb):WV X (.BoolOp .And (a::b::rest) pos) (ku ga gb):=by
 obtain ⟨t,p,k⟩:=ha
 obtain ⟨u,p',k'⟩:=hb
 refine ⟨_,Qo p p',λO B σ H env d Q R e q=>?_⟩
 unfold ku at e
 cases h:ga env with
 | none=>rw [h] at e;cases e
 | some x =>
  rw [h] at e
  refine k O B σ H env x _ R h λH1 s1=>?_
  cases x with
  | true =>
   rw [if_pos rfl]
   exact k' O B σ H1 env d Q (R.grow s1) e λH2 s2=>q H2 (s1.trans s2)
  | false =>
   cases e
   rw [if_neg lI]
   exact q H1 s1
theorem rF(ha:TV X a ga)(hb:WV X (.BoolOp .Or (b::rest) pos) gb):WV X (.BoolOp .Or (a::b::rest) pos) (eT ga gb):=by
 obtain ⟨t,p,k⟩:=ha
 obtain ⟨u,p',k'⟩:=hb
 refine ⟨_,pw_or p p',λO B σ H env d Q R e q=>?_⟩
 unfold eT at e
 cases h:ga env with
 | none=>rw [h] at e;cases e
 | some x =>
  rw [h] at e
  refine k O B σ H env x _ R h λH1 s1=>?_
  cases x with
  | false =>
   rw [if_neg lI]
   exact k' O B σ H1 env d Q (R.grow s1) e λH2 s2=>q H2 (s1.trans s2)
  | true =>
   cases e
   rw [if_pos rfl]
   exact q H1 s1
theorem dM(h:WV X a ga):TV X a ga:=let ⟨t,p,k⟩:=h;⟨t,p.pt,k⟩
theorem v3(ha:TV X a ga):TV X (.UnaryOp .Not a pos) (oA ga):=by
 obtain ⟨t,p,k⟩:=ha
 refine ⟨_,Qn p,λO B σ H env d Q R e q=>?_⟩
 unfold oA at e
 cases h:ga env with
 | none=>rw [h] at e;cases e
 | some x =>
  rw [h] at e
  cases e
  exact k O B σ H env x _ R h λH1 s1=>q H1 s1
noncomputable def jO(f g:En->Option Sl):En->Option Sl:=λenv=>match fw (f env) with
 | some true=>g env
 | some false=>some (.sh (.bl false))
 | none=>none
noncomputable def u4(f g:En->Option Sl):En->Option Sl:=λenv=>match fw (f env) with
 | some false=>g env
 | some true=>some (.sh (.bl true))
 | none=>none
noncomputable def lz(f:En->Option Sl):En->Option Sl:=λenv=>(fw (f env)).map λb=>.sh (.bl !b)
theorem CB(h:EV X a fa):EV X (.BoolOp op [a] pos) fa:=let ⟨t,p,k⟩:=h;⟨t,PN p,k⟩
theorem GR(ha:EV X a fa)(hb:EV X (.BoolOp .And (b::rest) pos) fb):EV X (.BoolOp .And (a::b::rest) pos) (jO fa fb):=by
 obtain ⟨t,p,k⟩:=ha
 obtain ⟨u,p',k'⟩:=hb
 refine ⟨_,PF p p',λO B σ H env r Q R e q=>?_⟩
 unfold jO at e
 cases h:fw (fa env) with
 | none=>rw [h] at e;cases e
 | some x =>
  rw [h] at e
  refine k O B σ H env _ _ R (wa h) λv H1 s1 r1=>⟨x,qj r1,?_⟩
  cases x with
  | true =>
   rw [if_pos rfl]
   exact k' O B σ H1 env r Q (R.grow s1) e λv2 H2 s2 r2=>q v2 H2 (s1.trans s2) (r2.from s1)
  | false =>
   obtain rfl:=bQ e
   rw [if_neg lI]
   exact q _ H1 s1 (Is.bl false)
theorem uV(ha:EV X a fa)(hb:EV X (.BoolOp .Or (b::rest) pos) fb):EV X (.BoolOp .Or (a::b::rest) pos) (u4 fa fb):=by
 obtain ⟨t,p,k⟩:=ha
 obtain ⟨u,p',k'⟩:=hb
 refine ⟨_,tF p p',λO B σ H env r Q R e q=>?_⟩
 unfold u4 at e
 cases h:fw (fa env) with
 | none=>rw [h] at e;cases e
 | some x =>
  rw [h] at e
  refine k O B σ H env _ _ R (wa h) λv H1 s1 r1=>⟨x,qj r1,?_⟩
  cases x with
  | false =>
   rw [if_neg lI]
   exact k' O B σ H1 env r Q (R.grow s1) e λv2 H2 s2 r2=>q v2 H2 (s1.trans s2) (r2.from s1)
  | true =>
   obtain rfl:=bQ e
   rw [if_pos rfl]
   exact q _ H1 s1 (Is.bl true)
theorem PZ(ha:EV X a fa):EV X (.UnaryOp .Not a pos) (lz fa):=by
 obtain ⟨t,p,k⟩:=ha
 refine ⟨_,PM p,λO B σ H env r Q R e q=>?_⟩
 unfold lz at e
 cases h:fw (fa env) with
 | none=>rw [h] at e;cases e
 | some x =>
  rw [h] at e
  obtain rfl:=bQ e
  exact k O B σ H env _ _ R (wa h) λv H1 s1 r1=>⟨x,qj r1,q _ H1 s1 (Is.bl _)⟩
noncomputable def n6(c:En->Option Bool)(f g:En->Option Sl):En->Option Sl:=λenv=>match c env with
 | some true=>f env
 | some false=>g env
 | none=>none
theorem yA(hc:TV X c ga)(ha:EV X a fa)(hb:EV X b fb):EV X (.IfExp c a b pos) (n6 ga fa fb):=by
 obtain ⟨tc,pc,kc⟩:=hc
 obtain ⟨t,p,k⟩:=ha
 obtain ⟨u,p',k'⟩:=hb
 refine ⟨_,Ro pc p p',λO B σ H env r Q R e q=>?_⟩
 unfold n6 at e
 cases h:ga env with
 | none=>rw [h] at e;cases e
 | some x =>
  rw [h] at e
  refine kc O B σ H env x _ R h λH1 s1=>?_
  cases x with
  | true =>
   rw [if_pos rfl]
   exact k O B σ H1 env r Q (R.grow s1) e λv2 H2 s2 r2=>q v2 H2 (s1.trans s2) (r2.from s1)
  | false =>
   rw [if_neg lI]
   exact k' O B σ H1 env r Q (R.grow s1) e λv2 H2 s2 r2=>q v2 H2 (s1.trans s2) (r2.from s1)
noncomputable def pT:D->Option Sl
 | .int i=>some (.sh (.int (-i)))
 | _=>none
noncomputable def cL(f:En->Option Sl):En->Option Sl:=λenv=>(f env).bind λr=>pT r.d
theorem gU(ha:EV X a fa):EV X (.UnaryOp .USub a pos) (cL fa):=by
 obtain ⟨t,p,k⟩:=ha
 refine ⟨_,tE Qi p,λO B σ H env r Q R e q=>?_⟩
 obtain ⟨x,e1,e2⟩:=bind_some e
 refine k O B σ H env x _ R e1 λv H1 s1 r1=>?_
 have hi:=r1.is λq=>R.oo
 cases hd:x.d with
 | int i =>
  rw [hd] at hi e2
  obtain rfl:=iA hi
  obtain rfl:=bQ e2
  exact ⟨i,rfl,q _ H1 s1 (Is.int _)⟩
 | _=>rw [hd] at e2;cases e2
variable {e:Expr}{es:List Expr}
noncomputable def ae:En->Option (List D):=λ_=>some []
noncomputable def ab(f:En->Option Sl)(g:En->Option (List D)):En->Option (List D):=λenv=>(f env).bind λr=>(g env).bind λds=>some (r.d::ds)
theorem aB:AV X [] ae:=⟨_,ni,λO B σ H env ds Q R e q=>by
 obtain rfl:=bQ e
 exact q [] H (ar.refl _) .nil⟩
theorem ah(ha:EV X e fe)(hb:AV X es fs)(hs:starEach (e::es) X.env=(false,eval e X.env)::starEach es X.env:=by rfl):AV X (e::es) (ab fe fs):=by
 obtain ⟨t,p,k⟩:=ha
 obtain ⟨u,p',k'⟩:=hb
 refine ⟨_,my p p' hs,λO B σ H env ds Q R e q=>?_⟩
 obtain ⟨r,e1,e2⟩:=bind_some e
 obtain ⟨ej,e4,e3⟩:=bind_some e2
 obtain rfl:=bQ e3
 refine k O B σ H env r _ R e1 λv H1 s1 r1=>?_
 refine k' O B σ H1 env ej _ (R.grow s1) e4 λvs H2 s2 r2=>?_
 exact q _ H2 (s1.trans s2) (.cons ((r1.is λq=>R.oo).grow s2) r2)
theorem nu(h:H p=none)(o:HO):ar H (upd H p o):=λb u q=>by rw [dz (nC q h)];exact q
noncomputable def bg(f:En->Option (List D)):En->Option Sl:=λenv=>(f env).bind λds=>if ds.length<=16777216 then some (.sh (.tup ds)) else none
noncomputable def bO(f:En->Option (List D)):En->Option Sl:=λenv=>(f env).bind λds=>if ds.length<=16777216 then some (.ow ds) else none
theorem gW{α:Type}{c:Prop}[Decidable c]{x y:α}(h:(if c then some x else none)=some y):c/\x=y:=by
 by_cases hc:c
 .rw [if_pos hc] at h;exact ⟨hc,bQ h⟩
 .rw [if_neg hc] at h;cases h
theorem C8{K:aC}{O:Addr->Prop}{H:Hp}{p:Addr}{xs:List V}{ds:List D}(hO:∀q,O q->H q≠none)(hp:H p=none)(h:aH K O H xs ds):Res K O H (upd H p (.tup xs)) (.ref p) (.sh (.tup ds)):=
 Is.tup (λz=>hO p z hp) (.inl oP) (h.grow (nu hp _))
theorem yZ{K:aC}{O:Addr->Prop}{H:Hp}{p:Addr}{xs:List V}{ds:List D}(hp:H p=none)(h:aH K O H xs ds):Res K O H (upd H p (.lst xs)) (.ref p) (.ow ds):=
 ⟨p,xs,rfl,hp,oP,h.map (λq hq hn z=>z.elim hn λw=>hq (by rw [w];exact hp)) λq u e _=>nu hp _ q u e⟩
theorem eu{x1}(h:AV X es fs):EV X (.Tuple es x1 pos) (bg fs):=by
 obtain ⟨t,p,k⟩:=h
 refine ⟨_,PO p,λO B σ H env r Q R e q=>?_⟩
 obtain ⟨ds,e1,e2⟩:=bind_some e
 obtain ⟨hl,rfl⟩:=gW e2
 refine k O B σ H env ds _ R e1 λvs H1 s1 r1=>⟨by rw [r1.length,il];exact hl,λp hp=>?_⟩
 exact q _ _ (s1.trans (nu hp _)) ((C8 (O:=OO O σ env) (H:=H1) (λ_ z=>(R.grow s1).oo z) hp r1).from s1)
theorem gA(h:AV X es fs):EV X (.List es pos) (bO fs):=by
 obtain ⟨t,p,k⟩:=h
 refine ⟨_,PK p,λO B σ H env r Q R e q=>?_⟩
 obtain ⟨ds,e1,e2⟩:=bind_some e
 obtain ⟨hl,rfl⟩:=gW e2
 refine k O B σ H env ds _ R e1 λvs H1 s1 r1=>⟨by rw [r1.length,il];exact hl,λp hp=>?_⟩
 exact q _ _ (s1.trans (nu hp _)) ((yZ hp r1).from s1)
noncomputable def au(f:En->Option (Bool×List D))(g:En->Option Sl):En->Option Sl:=λenv=>(f env).bind λx=>(g env).bind λy=>match y.d with
 | .int i=>(cW x.2 i).map .sh
 | _=>none
theorem aw{fa:En->Option (Bool×List D)}(ha:BV X a fa)(hb:EV X b fb)(hs:Hk b:=by exact λ_ _=>rfl):EV X (.Subscript a b pos) (au fa fb):=by
 obtain ⟨t,p,k⟩:=ha
 obtain ⟨u,p',k'⟩:=hb
 refine ⟨_,tH P' p p' hs,λO B σ H env r Q R e q=>?_⟩
 obtain ⟨⟨kk,ds⟩,e1,e2⟩:=bind_some e
 obtain ⟨y,e2,e3⟩:=bind_some e2
 refine k O B σ H env kk ds _ R e1 λl xs H1 s1 hq hx=>?_
 refine k' O B σ H1 env y _ (R.grow s1) e2 λw H2 s2 r2=>?_
 have hi:=r2.is λq=>(R.grow s1).oo
 cases hd:y.d with
 | int i =>
  rw [hd] at hi e3
  obtain rfl:=iA hi
  dsimp only at e3
  cases h:cW ds i with
  | none=>rw [h] at e3;cases e3
  | some d =>
   rw [h] at e3
   obtain rfl:=bQ e3
   obtain ⟨v,h1,h2⟩:=(hx.grow s2).cW h
   have dq:=hq.grow s2
   have fin:=q v H2 (s1.trans s2) h2
   cases kk with
   | true=>exact .inl ⟨l,xs,i,v,rfl,rfl,dq,h1,fin⟩
   | false=>exact .inr (.inl ⟨l,xs,i,v,rfl,rfl,dq,h1,fin⟩)
 | _=>rw [hd] at e3;cases e3
end
noncomputable def LIM:Int:=10^250
theorem Qu(h1:-LIM<=j)(h2:j<=LIM):j.natAbs<2^900:=by
 have e:LIM<(2:Int)^900:=by unfold LIM;decide +kernel
 have e2:((2:Int)^900)=((2^900:Nat):Int):=by simp
 generalize (2^900:Nat)=m at *
 generalize LIM=l at *
 omega
theorem Ha(h1:-LIM<=j)(h2:j<=LIM):j.natAbs.log2<900:=by
 rcases Nat.eq_zero_or_pos j.natAbs with h0 | hp
 .rw [h0];decide
 .exact (Nat.log2_lt (BJ hp)).mpr (Qu h1 h2)
theorem Hy(h1:-LIM<=j)(h2:j<=LIM):F4 j<=900:=by
 have:=Ha h1 h2
 unfold F4
 split<;>lia
def MulC(i j:Int):Prop:=(-(2^64)<i/\i<2^64)\/(-(2^64)<j/\j<2^64)\/((-LIM<=i/\i<=LIM)/\(-LIM<=j/\j<=LIM))
noncomputable instance (i j:Int):Decidable (MulC i j):=by unfold MulC;infer_instance
theorem MulC.ok(h:MulC i j):IntMulOk i j:=by
 rcases h with ⟨h1,h2⟩ | ⟨h1,h2⟩ | ⟨⟨h1,h2⟩,h3,h4⟩
 .exact .of_left (xO h1 h2)
 .exact .of_right (xO h1 h2)
 .exact mulOk_of_bits (Hy h1 h2) (Hy h3 h4) (by decide)
def DivC(_ j:Int):Prop:=0<j/\j<=LIM
noncomputable instance (i j:Int):Decidable (DivC i j):=by unfold DivC;infer_instance
def nH(_ j:Int):Prop:=0<j
noncomputable instance (i j:Int):Decidable (nH i j):=by unfold nH;infer_instance
def PowC(i j:Int):Prop:=0<=j/\j<=1000000/\i.natAbs<2^64
noncomputable instance (i j:Int):Decidable (PowC i j):=by unfold PowC;infer_instance
noncomputable def gI(C:Int->Int->Prop)[∀i j,Decidable (C i j)](h:Int->Int->Int):D->D->Option Sl
 | .int i,.int j=>if C i j then some (.sh (.int (h i j))) else none
 | _,_=>none
noncomputable def gB(h:Int->Int->Bool):D->D->Option Sl
 | .int i,.int j=>some (.sh (.bl (h i j)))
 | _,_=>none
section
variable {X:Cx}
theorem vO{f:Value->Value->Sem Value}{C:Int->Int->Prop}[∀i j,Decidable (C i j)]{h:Int->Int->Int}(ho:fy X f (rI C λi j=>.int (h i j))):ic X f (gI C h):=by
 refine ⟨_,ho,λO H x y a b s Q hO hx hy e q=>?_⟩
 cases a with
 | int i=>cases b with
  | int j =>
   obtain ⟨hc,rfl⟩:=gW (show (if C i j then some (Sl.sh (.int (h i j))) else none)=some s from e)
   exact ⟨i,j,iA hx,iA hy,hc,q _ H (ar.refl _) (Is.int _)⟩
  | _=>cases e
 | _=>cases e
theorem Cm(ho:fy X f (pd λi j=>.bl (h i j))):ic X f (gB h):=by
 refine ⟨_,ho,λO H x y a b s Q hO hx hy e q=>?_⟩
 cases a with
 | int i=>cases b with
  | int j =>
   obtain rfl:=bQ (show some (Sl.sh (.bl (h i j)))=some s from e)
   exact ⟨i,j,iA hx,iA hy,q _ H (ar.refl _) (Is.bl _)⟩
  | _=>cases e
 | _=>cases e
noncomputable def e9:D->D->Option Sl:=gI MulC λi j=>i*j
noncomputable def bC:D->D->Option Sl:=gI DivC λi j=>i/j
noncomputable def aX:D->D->Option Sl:=gI nH λi j=>i%j
noncomputable def iP:D->D->Option Sl:=gI PowC λi j=>i^j.toNat
noncomputable def bp:D->D->Option Sl:=gI (λ_ _=>True) λi j=>i-j
noncomputable def gw:D->D->Option Sl:=gB λi j=>decide (i<j)
noncomputable def jM:D->D->Option Sl:=gB λi j=>decide (i<=j)
noncomputable def pU:D->D->Option Sl:=gB λi j=>decide (j<i)
noncomputable def NB:D->D->Option Sl:=gB λi j=>decide (j<=i)
theorem oF:ic X (binaryOp .Mult) e9:=vO (tO λ_ _ _ _ _ _ _ (hc:MulC _ _) q=>mul_int q hc.ok)
theorem dY:ic X (binaryOp .FloorDiv) bC:=vO (tO λi j _ _ _ _ _ (hc:DivC i j) q=>by
 have h1:(0:Int)<j:=hc.1
 have h2:=Ha (j:=j) (by have:(0:Int)<=LIM:=(by decide +kernel);ext h1 this) hc.2
 exact floordiv_int (by ext h1) (by rw [Int.fdiv_eq_ediv_of_nonneg i (by ext h1)];exact q) (.inl (PyProof.noPylong_of_log2 (et ‹_› (by decide)))))
theorem da:ic X (binaryOp .Mod) aX:=vO (tO λi j _ _ _ _ _ (hc:nH i j) q=>by
 have h1:(0:Int)<j:=hc
 exact mod_int' (by ext h1) (by rw [Int.fmod_eq_emod_of_nonneg i (by ext h1)];exact q))
theorem vU:ic X (binaryOp .Pow) iP:=vO (tO λ_ _ _ _ _ _ _ (hc:PowC _ _) q=>pow_int_small hc.1 hc.2.1 hc.2.2 q)
theorem eL:ic X (binaryOp .Sub) bp:=vO (tO λ_ _ _ _ _ _ _ _ q=>sub_int q)
theorem iu:ic X (compareOp .Lt) gw:=Cm tL
theorem m9:ic X (compareOp .LtE) jM:=Cm tM
theorem vN:ic X (compareOp .Gt) pU:=Cm tN
noncomputable def aO:D->D->Option Sl
 | .int i,.int j=>some (.sh (.int (i+j)))
 | .lst false a,.lst false b=>if a.length+b.length<=16777216 then some (.ow (a++b)) else none
 | .tup a,.tup b=>if a.length+b.length<=16777216 then some (.sh (.tup (a++b))) else none
 | .str a,.str b=>if a.length+b.length<=16777216 then some (.sh (.str (a++b))) else none
 | _,_=>none
theorem yH{K:aC}{O:Addr->Prop}{H:Hp}{v:V}{ds:List D}(h:Is K O H v (.tup ds)):∃p xs,v=.ref p/\dv K H p xs/\aH K O H xs ds:=by
 obtain ⟨p,xs,e,h1,h2⟩:=h.seq (k:=false) rfl
 exact ⟨p,xs,e,h1,h2⟩
theorem Cv{K:aC}{O:Addr->Prop}{H:Hp}{v:V}{ds:List D}(h:Is K O H v (.lst false ds)):∃p xs,v=.ref p/\¬O p/\H p=some (.lst xs)/\aH K O H xs ds:=by
 cases h with
 | lst ho hp hs=>exact ⟨_,_,rfl,ho,hp,hs⟩
theorem aH.c8{K:aC}{O:Addr->Prop}{H:Hp}{xs:List V}{ds:List D}(h:aH K O H xs ds):xs=[]↔ds=[]:=by cases h<;>simp
theorem HX{α:Type}{c:Prop}{d:Decidable c}{x y:α}(h:(@ite _ c d (some x) none)=some y):c/\x=y:=gW h
theorem c9:ic X (binaryOp .Add) aO:=by
 refine ⟨_,ph.or (pf.or (mJ.or (iH.or QB))),λO H x y a b s Q hO hx hy e q=>?_⟩
 cases a with
 | int i=>cases b with
  | int j =>
   obtain rfl:=bQ (show some (Sl.sh (.int (i+j)))=some s from e)
   exact .inl ⟨i,j,iA hx,iA hy,q _ H (ar.refl _) (Is.int _)⟩
  | _=>cases e
 | lst r a=>cases r with
  | true=>cases b<;>cases e
  | false=>cases b with
   | lst r b=>cases r with
    | true=>cases e
    | false =>
     obtain ⟨hl,rfl⟩:=gW (show (if a.length+b.length<=16777216 then some (Sl.ow (a++b)) else none)=some s from e)
     obtain ⟨p1,xs,rfl,_,h1,i1⟩:=Cv hx
     obtain ⟨p2,ys,rfl,_,h2,i2⟩:=Cv hy
     exact .inr (.inl ⟨p1,p2,xs,ys,rfl,rfl,h1,h2,by rw [i1.length,i2.length,il];exact hl,λp hp=>q _ _ (nu hp _) (yZ hp (i1.append i2))⟩)
   | _=>cases e
 | tup a=>cases b with
  | tup b =>
   obtain ⟨hl,rfl⟩:=HX (show (if a.length+b.length<=16777216 then some (Sl.sh (.tup (a++b))) else none)=some s from e)
   obtain ⟨p1,xs,rfl,h1,i1⟩:=yH hx
   obtain ⟨p2,ys,rfl,h2,i2⟩:=yH hy
   by_cases h0:a=[]
   .subst h0
    cases i1
    exact .inr (.inr (.inr (.inr ⟨p1,p2,ys,rfl,rfl,h1,h2,q _ H (ar.refl _) hy⟩)))
   refine .inr (.inr (.inl ⟨p1,p2,xs,ys,rfl,rfl,h1,h2,λz=>h0 (i1.c8.mp z),by rw [i1.length,i2.length,il];exact hl,λz=>?_,λz p hp=>q _ _ (nu hp _) (C8 hO hp (i1.append i2))⟩))
   have z':=i2.c8.mp z
   subst z'
   rw [lD] at q
   exact q _ H (ar.refl _) hx
  | _=>cases e
 | str a=>cases b with
  | str b =>
   obtain ⟨hl,rfl⟩:=gW (show (if a.length+b.length<=16777216 then some (Sl.sh (.str (a++b))) else none)=some s from e)
   exact .inr (.inr (.inr (.inl ⟨a,b,Cw hx,Cw hy,by rw [il];exact hl,q _ H (ar.refl _) (Is.str _)⟩)))
  | _=>cases e
 | _=>cases e
theorem map_some{α β:Type}{o:Option α}{f:α->β}{b:β}(h:o.map f=some b):∃a,o=some a/\f a=b:=by
 cases o with
 | none=>cases h
 | some a=>exact ⟨a,rfl,bQ h⟩
noncomputable def D.bY:D->Bool
 | .aI=>true
 | _=>false
theorem Q2{K:aC}{O:Addr->Prop}{H:Hp}{x:V}{a:D}(hx:Is K O H x a):decide (x=.aI)=a.bY:=by
 cases hx<;>simp [D.bY]
noncomputable def gK:D->D->Option Sl:=λa b=>if b.bY=true then some (.sh (.bl a.bY)) else none
noncomputable def uO:D->D->Option Sl:=λa b=>if b.bY=true then some (.sh (.bl !a.bY)) else none
theorem RF{b:D}(h:b.bY=true):b=.aI:=by cases b<;>first | rfl | cases h
theorem rO:ic X (compareOp .Is) gK:=by
 refine ⟨_,PC,λO H x y a b s Q hO hx hy e q=>?_⟩
 obtain ⟨hb,rfl⟩:=gW e
 rw [RF hb] at hy
 exact ⟨GX hy,by rw [Q2 hx];exact q _ H (ar.refl _) (Is.bl _)⟩
end
section
variable {X:Cx}{a b c:Expr}{pos p:Pos}{fa fb:En->Option Sl}{es:List Expr}{e:Expr}
def Cf(X:Cx)(f:Value)(g:List D->Option Sl):Prop:=
 ∃r:List V->Hp->VK->Prop,cj X f r/\∀(O:Addr->Prop) (H:Hp) (xs:List V) (ds:List D) (s:Sl) (Q:VK),(∀q,O q->H q≠none)->aH X.K O H xs ds->g ds=some s ->
  (∀v H',ar H H'->Res X.K O H H' v s->Q v H')->r xs H Q
noncomputable def nh(g:List D->Option Sl)(fs:En->Option (List D)):En->Option Sl:=λenv=>(fs env).bind g
theorem qp{id:String}{x:Str}{g:List D->Option Sl}{fs:En->Option (List D)}(hc:Cf X (.builtin id) g)(hg:Gl X x)(hm:X.mg x=none)(hv:bootBuiltins x=some (.builtin id))(ha:AV X (e::es) fs)(hn:x ≠ "__name__":=by decide)(lh:(x==("__debug__":Str))=false:=by decide)
  (he:starEach (e::es) X.env=(false,eval e X.env)::starEach es X.env:=by rfl)(ei:(backTo pos (starEach es X.env)).any (·.1)=false:=by rfl):
  EV X (.Call (.Name x p) (e::es) [] pos) (nh g fs):=by
 obtain ⟨r,hr,Nd⟩:=hc
 obtain ⟨t,pt,k⟩:=ha
 refine ⟨_,zj hr hg hm hv pt hn lh he ei,λO B σ H env s Q R e q=>?_⟩
 obtain ⟨ds,e1,e2⟩:=bind_some e
 refine k O B σ H env ds _ R e1 λvs H1 s1 r1=>?_
 exact Nd (OO O σ env) H1 vs ds s Q (λq=>(R.grow s1).oo) r1 e2 λv H2 s2 r2=>q v H2 (s1.trans s2) (r2.from s1)
noncomputable def rG:List D->Option Sl
 | [.int i,.int j]=>some (.sh (.int (if j<i then j else i)))
 | _=>none
noncomputable def qi:List D->Option Sl
 | [.int i,.int j]=>some (.sh (.int (if j>i then j else i)))
 | _=>none
theorem DE{K:aC}{O:Addr->Prop}{H:Hp}{xs:List V}{i j:Int}(h:aH K O H xs [.int i,.int j]):xs=[.int i,.int j]:=by
 cases h with
 | cons h t=>cases t with
  | cons h' t=>cases t;rw [iA h,iA h']
theorem yK{g:Int->Int->Option Sl}{ds:List D}{s:Sl}(e:(match ds with | [.int i,.int j]=>g i j | _=>none)=some s):∃i j,ds=[.int i,.int j]/\g i j=some s:=by
 split at e
 .exact ⟨_,_,rfl,e⟩
 .cases e
theorem CP(hc:X.calm=true):Cf X (.builtin "min") rG:=by
 refine ⟨_,SX hc,λO H xs ds s Q hO h e q=>?_⟩
 obtain ⟨i,j,rfl,e⟩:=yK (g:=λi j=>some (.sh (.int (if j<i then j else i)))) e
 obtain rfl:=bQ e
 exact ⟨i,j,DE h,q _ H (ar.refl _) (Is.int _)⟩
theorem yU(hc:X.calm=true):Cf X (.builtin "max") qi:=by
 refine ⟨_,SW hc,λO H xs ds s Q hO h e q=>?_⟩
 obtain ⟨i,j,rfl,e⟩:=yK (g:=λi j=>some (.sh (.int (if j>i then j else i)))) e
 obtain rfl:=bQ e
 exact ⟨i,j,DE h,q _ H (ar.refl _) (Is.int _)⟩
noncomputable def eI(f:En->Option (Bool×List D)):En->Option Sl:=λenv=>(f env).map λx=>.sh (.int x.2.length)
noncomputable def vQ(f:En->Option (Bool×List D)):En->Option Sl:=λenv=>(f env).map λx=>.ow x.2
noncomputable def oE(f:En->Option (Bool×List D)):En->Option Sl:=λenv=>(f env).bind λx=>if x.1=true then some (.sh (.tup x.2)) else none
variable {ba:En->Option (Bool×List D)}
theorem mi(hg:Gl X "len")(hm:X.mg "len" = none)(ha:BV X a ba)(hs:starEach [a] X.env=[(false,eval a X.env)]:=by rfl):EV X (.Call (.Name "len" p) [a] [] pos) (eI ba):=by
 obtain ⟨t,pt,k⟩:=ha
 refine ⟨_,zj T' hg hm PySem.boot_len (my pt ni hs) (by decide) (by decide) hs rfl,λO B σ H env s Q R e q=>?_⟩
 obtain ⟨⟨kk,ds⟩,e1,rfl⟩:=map_some e
 refine k O B σ H env kk ds _ R e1 λl xs H1 s1 hq hx=>⟨l,xs,rfl,?_,?_⟩
 .cases kk with
  | true=>exact .inl hq
  | false=>exact .inr hq
 .rw [hx.length]
  exact q _ H1 s1 (Is.int _)
theorem CU(hg:Gl X "list")(hm:X.mg "list" = none)(ha:BV X a ba)(hs:starEach [a] X.env=[(false,eval a X.env)]:=by rfl):EV X (.Call (.Name "list" p) [a] [] pos) (vQ ba):=by
 obtain ⟨t,pt,k⟩:=ha
 refine ⟨_,DK Ua hg hm (by decide +kernel) (my pt ni hs) (by decide) (by decide) hs rfl,λO B σ H env s Q R e q=>?_⟩
 obtain ⟨⟨kk,ds⟩,e1,rfl⟩:=map_some e
 refine k O B σ H env kk ds _ R e1 λl xs H1 s1 hq hx=>⟨l,xs,rfl,?_,λp hp=>?_⟩
 .cases kk with
  | true=>exact .inl hq
  | false=>exact .inr hq
 .exact q _ _ (s1.trans (nu hp _)) ((yZ hp hx).from s1)
theorem wb(hg:Gl X "tuple")(hm:X.mg "tuple" = none)(ha:BV X a ba)(hs:starEach [a] X.env=[(false,eval a X.env)]:=by rfl):EV X (.Call (.Name "tuple" p) [a] [] pos) (oE ba):=by
 obtain ⟨t,pt,k⟩:=ha
 refine ⟨_,DK Ul hg hm (by decide +kernel) (my pt ni hs) (by decide) (by decide) hs rfl,λO B σ H env s Q R e q=>?_⟩
 obtain ⟨⟨kk,ds⟩,e1,e2⟩:=bind_some e
 obtain ⟨h1,rfl⟩:=gW e2
 refine k O B σ H env kk ds _ R e1 λl xs H1 s1 hq hx=>⟨l,xs,rfl,?_⟩
 cases (show kk=true from h1)
 exact .inl ⟨hq,λp hp=>q _ _ (s1.trans (nu hp _)) ((C8 (O:=OO O σ env) (H:=H1) (λ_ z=>(R.grow s1).oo z) hp hx).from s1)⟩
end
section
variable {K:aC}{O:Addr->Prop}{B H H1:Hp}{σ:L2.St}{env:En}{v:V}{r:Sl}{i:Nat}
theorem QC(h:jm (σ.set i (some v)) (env.set i r) q):jm σ env q\/(r.own/\v=.ref q):=by
 obtain ⟨j,t,h1,ho,h2⟩:=h
 by_cases hj:i=j
 .subst hj
  rw [List.getElem?_set] at h1 h2
  rw [if_pos rfl] at h1 h2
  split at h1
  .cases h1
   split at h2
   .cases h2;exact .inr ⟨ho,rfl⟩
   .cases h2
  .cases h1
 .rw [fh hj] at h1 h2
  exact .inl ⟨j,t,h1,ho,h2⟩
theorem Res.fresh(h:Res K O B H v r)(ho:r.own):∃p,v=.ref p/\B p=none/\H p≠none:=by
 cases r with
 | no=>exact ho.elim
 | sh d=>exact ho.elim
 | ow ds=>obtain ⟨p,xs,e1,e2,e3,_⟩:=h;exact ⟨p,e1,e2,by rw [e3];exact λz=>nomatch z⟩
 | dw bb=>obtain ⟨p,e1,e2,e3⟩:=h;exact ⟨p,e1,e2,by rw [e3];exact λz=>nomatch z⟩
theorem Rel.set(R:Rel K O B σ H env)(s:ar H H1)(h:Res K (OO O σ env) H H1 v r)(hi:i<env.length):
  Rel K O B (σ.set i (some v)) H1 (env.set i r)/\Gd σ env H (σ.set i (some v)) (env.set i r) H1:=by
 have new:∀q,jm (σ.set i (some v)) (env.set i r) q->jm σ env q\/(H q=none/\r.own/\v=.ref q):=λq z=>by
  rcases QC z with z | ⟨ho,rfl⟩
  .exact .inl z
  .obtain ⟨p,e1,e2,_⟩:=h.fresh ho
   cases e1
   exact .inr ⟨e2,ho,rfl⟩
 have hO:∀q,H q≠none->¬OO O σ env q->¬OO O (σ.set i (some v)) (env.set i r) q:=λq hq hn z=>by
  rcases z with z | z
  .exact hn (.inl z)
  .rcases new q z with z | ⟨z,_⟩
   .exact hn (.inr z)
   .exact hq z
 have hH:∀q u,H q=some u->¬OO O σ env q->H1 q=some u:=λq u e _=>s q u e
 have kZ:i<σ.length:=by rw [R.len];exact hi
 refine ⟨⟨R.same.trans s,R.n9,by simp [R.len],λj d e=>?_,λj ds e=>?_,λj bb e=>?_,λj k ds es p e1 e2 e3 e4 o1 o2=>?_⟩,λq u e n=>⟨s q u e,λz=>?_⟩⟩
 .by_cases hj:i=j
  .subst hj
   rw [fU hi] at e
   cases e
   refine ⟨v,by rw [fU kZ],Is.less (O:=OO O σ env) (λq z=>z.elim .inl λz=>?_) h⟩
   rcases new q z with z | ⟨_,z,_⟩
   .exact .inr z
   .exact z.elim
  .rw [fh hj] at e
   obtain ⟨w,e1,h1⟩:=R.sh j d e
   exact ⟨w,by rw [fh hj];exact e1,h1.map hO hH⟩
 .by_cases hj:i=j
  .subst hj
   rw [fU hi] at e
   cases e
   obtain ⟨p,xs,rfl,e2,e3,h1⟩:=h
   refine ⟨p,xs,by rw [fU kZ],R.same.free e2,e3,h1.less λq z=>?_⟩
   rcases z with z | z
   .exact .inl (.inl z)
   .rcases new q z with z | ⟨_,_,z⟩
    .exact .inl (.inr z)
    .cases z;exact .inr rfl
  .rw [fh hj] at e
   obtain ⟨p,xs,e1,e2,e3,h1⟩:=R.ow j ds e
   exact ⟨p,xs,by rw [fh hj];exact e1,e2,s _ _ e3,h1.map hO hH⟩
 .by_cases hj:i=j
  .subst hj
   rw [fU hi] at e
   cases e
   obtain ⟨p,rfl,e2,e3⟩:=h
   exact ⟨p,by rw [fU kZ],R.same.free e2,e3⟩
  .rw [fh hj] at e
   obtain ⟨p,e1,e2,e3⟩:=R.dw j bb e
   exact ⟨p,by rw [fh hj];exact e1,e2,s _ _ e3⟩
 .have other:∀j t,j≠i->env[j]?=some t->t.own->σ[j]?=some (some (V.ref p))->r.own->v≠.ref p:=λj t hj e ho e' hr z=>by
   obtain ⟨p',rfl,e2,_⟩:=h.fresh hr
   cases z
   obtain ⟨p2,u,e5,_,e6⟩:=R.ad e ho
   rw [e'] at e5
   cases e5
   rw [e2] at e6
   cases e6
  by_cases hj:i=j
  .by_cases hk:i=k
   .rw [<-hj,<-hk]
   .subst hj
    rw [fU hi] at e1
    rw [fU kZ] at e3
    rw [fh hk] at e2 e4
    cases e1
    cases e3
    exact absurd rfl (other k es (km hk) e2 o2 e4 o1)
  .by_cases hk:i=k
   .subst hk
    rw [fU hi] at e2
    rw [fU kZ] at e4
    rw [fh hj] at e1 e3
    cases e2
    cases e4
    exact absurd rfl (other j ds (km hj) e1 o1 e3 o2)
   .rw [fh hj] at e1 e3
    rw [fh hk] at e2 e4
    exact R.sep j k ds es p e1 e2 e3 e4 o1 o2
 .rcases new q z with z | ⟨z,_⟩
  .exact n z
  .rw [e] at z;cases z
theorem Rel.Jq{p:Addr}{u':HO}{t t':Sl}(R:Rel K O B σ H env)(he:env[i]?=some t)(ho:t.own)(mP:t'.own)(hs:σ[i]?=some (some (V.ref p)))
  (hx:(∀ej,t'=.ow ej->∃f',u'=.lst f'/\aH K (OO O σ env) H f' ej)/\∀t6,t'=.dw t6->u'=Bt t6):
  Rel K O B σ (upd H p u') (env.set i t')/\Gd σ env H σ (env.set i t') (upd H p u'):=by
 have hi:i<env.length:=(lK.mp he).1
 have own:∀q,jm σ (env.set i t') q->jm σ env q:=λq ⟨j,es,e1,e3,e2⟩=>by
  by_cases hj:i=j
  .subst hj;exact ⟨i,t,he,ho,e2⟩
  .rw [fh hj] at e1;exact ⟨j,es,e1,e3,e2⟩
 have tK:jm σ env p:=⟨i,t,he,ho,hs⟩
 obtain ⟨p0,u0,f1,f2,f3⟩:=R.ad he ho
 rw [hs] at f1
 cases f1
 have hO:∀q,H q≠none->¬OO O σ env q->¬OO O σ (env.set i t') q:=λq _ hn z=>hn (z.elim .inl λz=>.inr (own q z))
 have hH:∀q u,H q=some u->¬OO O σ env q->upd H p u' q=some u:=λq u e n=>by
  rw [dz (λz=>n (.inr (by rw [z];exact tK)))]
  exact e
 refine ⟨⟨λq u e=>?_,R.n9,by simp [R.len],λj d e=>?_,λj es e=>?_,λj bb e=>?_,λj k es fs q e1 e2 e3 e4 o1 o2=>?_⟩,λq u e n=>⟨?_,λz=>n (own q z)⟩⟩
 .rw [dz (nC e f2)];exact R.same q u e
 .by_cases hj:i=j
  .subst hj;rw [fU hi] at e;cases e;exact mP.elim
  .rw [fh hj] at e
   obtain ⟨w,e1,h1⟩:=R.sh j d e
   exact ⟨w,e1,h1.map hO hH⟩
 .by_cases hj:i=j
  .subst hj
   rw [fU hi] at e
   cases e
   obtain ⟨f',hu,lS⟩:=hx.1 _ rfl
   exact ⟨p,f',hs,f2,by rw [oP,hu],lS.map hO hH⟩
  .rw [fh hj] at e
   obtain ⟨p2,zG,e1,e2,e3,h1⟩:=R.ow j es e
   refine ⟨p2,zG,e1,e2,?_,h1.map hO hH⟩
   rw [dz (λz=>hj (R.sep i j t _ p he e hs (by rw [e1,z]) ho trivial))]
   exact e3
 .by_cases hj:i=j
  .subst hj
   rw [fU hi] at e
   cases e
   exact ⟨p,hs,f2,by rw [oP,hx.2 _ rfl]⟩
  .rw [fh hj] at e
   obtain ⟨p2,e1,e2,e3⟩:=R.dw j bb e
   refine ⟨p2,e1,e2,?_⟩
   rw [dz (λz=>hj (R.sep i j t _ p he e hs (by rw [e1,z]) ho trivial))]
   exact e3
 .have fix:∀(j:Nat) (es:Sl),(env.set i t')[j]?=some es->es.own->∃gs:Sl,env[j]?=some gs/\gs.own:=λj es e o=>by
   by_cases hj:i=j
   .subst hj;exact ⟨t,he,ho⟩
   .rw [fh hj] at e;exact ⟨es,e,o⟩
  obtain ⟨g1,h1,q1⟩:=fix j es e1 o1
  obtain ⟨g2,h2,q2⟩:=fix k fs e2 o2
  exact R.sep j k g1 g2 q h1 h2 e3 e4 q1 q2
 .rw [dz (λz=>n (by rw [z];exact tK))];exact e
theorem Rel.wr(R:Rel K O B σ H env)(he:env[i]?=some (Sl.ow ds))(hs:σ[i]?=some (some (V.ref p)))(hx:aH K (OO O σ env) H f' ej):
  Rel K O B σ (upd H p (.lst f')) (env.set i (.ow ej))/\Gd σ env H σ (env.set i (.ow ej)) (upd H p (.lst f')):=
 R.Jq (t':=.ow ej) he trivial trivial hs (b83 (λ_ e=>by cases e;exact ⟨f',rfl,hx⟩) λ_ e=>nomatch e)
theorem Rel.uQ{t:Sl}(R:Rel K O B σ H env)(he:env[i]?=some t)(ho:t.own):Rel K O B σ H (env.set i (.sh t.d))/\Gd σ env H σ (env.set i (.sh t.d)) H:=by
 have hi:i<env.length:=(lK.mp he).1
 obtain ⟨p,u0,f1,f2,f3⟩:=R.ad he ho
 have own:∀q,jm σ (env.set i (.sh t.d)) q->jm σ env q/\q≠p:=λq ⟨j,es,e1,o,e2⟩=>by
  by_cases hj:i=j
  .subst hj;rw [fU hi] at e1;cases e1;exact o.elim
  .rw [fh hj] at e1
   exact ⟨⟨j,es,e1,o,e2⟩,λz=>hj (R.sep i j t es p he e1 f1 (by rw [e2,z]) ho o)⟩
 have less:∀q,OO O σ (env.set i (.sh t.d)) q->OO O σ env q:=λq z=>z.elim .inl λz=>.inr (own q z).1
 have np:¬OO O σ (env.set i (.sh t.d)) p:=λz=>z.elim (λz=>R.n9.1 p z f2) λz=>(own p z).2 rfl
 refine ⟨⟨R.same,R.n9,by simp [R.len],λj d e=>?_,λj es e=>?_,λj bb e=>?_,λj k es fs q e1 e2 e3 e4 o1 o2=>?_⟩,λq u e n=>⟨e,λz=>n (own q z).1⟩⟩
 .by_cases hj:i=j
  .subst hj
   rw [fU hi] at e
   cases e
   refine ⟨.ref p,f1,?_⟩
   cases t with
   | no=>exact ho.elim
   | sh d=>exact ho.elim
   | ow ds =>
    obtain ⟨p',xs,g1,g2,g3,g4⟩:=R.ow i ds he
    rw [f1] at g1;cases g1
    exact .lst np g3 (g4.less less)
   | dw bb =>
    obtain ⟨p',g1,g2,g3⟩:=R.dw i bb he
    rw [f1] at g1;cases g1
    exact .eJ np g3
  .rw [fh hj] at e
   obtain ⟨w,e1,h1⟩:=R.sh j d e
   exact ⟨w,e1,h1.less less⟩
 .by_cases hj:i=j
  .subst hj;rw [fU hi] at e;cases e
  .rw [fh hj] at e
   obtain ⟨p2,zG,e1,e2,e3,h1⟩:=R.ow j es e
   exact ⟨p2,zG,e1,e2,e3,h1.less less⟩
 .by_cases hj:i=j
  .subst hj;rw [fU hi] at e;cases e
  .rw [fh hj] at e
   exact R.dw j bb e
 .have fix:∀(j:Nat) (es:Sl),(env.set i (.sh t.d))[j]?=some es->es.own->env[j]?=some es:=λj es e o=>by
   by_cases hj:i=j
   .subst hj;rw [fU hi] at e;cases e;exact o.elim
   .rw [fh hj] at e;exact e
  exact R.sep j k es fs q (fix j es e1 o1) (fix k fs e2 o2) e3 e4 o1 o2
theorem Rel.gx{ds:List D}(R:Rel K O B σ H env)(he:env[i]?=some (Sl.ow ds)):Rel K O B σ H (env.set i (.sh (.lst false ds)))/\Gd σ env H σ (env.set i (.sh (.lst false ds))) H:=R.uQ he trivial
end
section
variable {X:Cx}{st:Stmt}{rest:List Stmt}{F G:SF}{a b c e:Expr}{fa:En->Option Sl}{ga:En->Option Bool}{pos:Pos}
noncomputable def bI:SF:=λenv=>some (.nx,env)
noncomputable def z4:SF:=λenv=>some (.bk,env)
noncomputable def Ka:SF:=λenv=>some (.ct,env)
noncomputable def ak(F G:SF):SF:=λenv=>match F env with
 | some (.nx,bG)=>G bG
 | r=>r
theorem cq:jD X [] bI:=⟨_,QH,λO B σ H env fl ai D R e q=>by
 cases (show some (Fl.nx,env)=some (fl,ai) from e)
 exact q σ H R (Gd.refl (ar.refl _))⟩
theorem aD(h:SV X st F):jD X [st] F:=let ⟨t,p,k⟩:=h;⟨t,QI p,k⟩
theorem aE(h:SV X st F)(h2:jD X rest G):jD X (st::rest) (ak F G):=by
 obtain ⟨t,p,k⟩:=h
 obtain ⟨u,p',k'⟩:=h2
 refine ⟨_,Ru p p',λO B σ H env fl ai D R e q=>?_⟩
 unfold ak at e
 cases hF:F env with
 | none=>rw [hF] at e;cases e
 | some x =>
  obtain ⟨f1,bG⟩:=x
  rw [hF] at e
  refine k O B σ H env f1 bG _ R hF ?_
  cases f1 with
  | nx=>exact λaA H' R' g'=>k' O B aA H' bG fl ai D R' e (q.from g')
  | bk=>cases e;exact q
  | ct=>cases e;exact q
  | rt r=>cases e;exact q
theorem Ry:SV X (.Break pos) z4:=⟨_,Rr,λO B σ H env fl ai D R e q=>by
 cases (show some (Fl.bk,env)=some (fl,ai) from e)
 exact q σ H R (Gd.refl (ar.refl _))⟩
noncomputable def br(c:En->Option Bool)(F G:SF):SF:=λenv=>match c env with
 | some true=>F env
 | some false=>G env
 | none=>none
theorem bL(hc:TV X c ga)(ha:jD X sa F)(hb:jD X sb G):SV X (.If c sa sb pos) (br ga F G):=by
 obtain ⟨tc,pc,kc⟩:=hc
 obtain ⟨t,p,k⟩:=ha
 obtain ⟨u,p',k'⟩:=hb
 refine ⟨_,tz pc p p',λO B σ H env fl ai D R e q=>?_⟩
 unfold br at e
 cases h:ga env with
 | none=>rw [h] at e;cases e
 | some x =>
  rw [h] at e
  refine kc O B σ H env x _ R h λH1 s1=>?_
  cases x with
  | true =>
   rw [if_pos rfl]
   exact k O B σ H1 env fl ai D (R.grow s1) e (q.from (Gd.refl s1))
  | false =>
   rw [if_neg lI]
   exact k' O B σ H1 env fl ai D (R.grow s1) e (q.from (Gd.refl s1))
noncomputable def av(f:En->Option Sl):SF:=λenv=>(f env).map λr=>(.rt r,env)
theorem bh(h:EV X e fa):SV X (.Return (some e) pos) (av fa):=by
 obtain ⟨t,p,k⟩:=h
 refine ⟨_,G3 p,λO B σ H env fl ai D R e q=>?_⟩
 obtain ⟨r,e1,e2⟩:=map_some e
 cases e2
 exact k O B σ H env r _ R e1 λv H1 s1 r1=>q v H1 (R.same.trans s1) ((r1.from R.same).less λq z=>.inl z)
noncomputable def sV:SF:=λenv=>some (.rt (.sh .aI),env)
noncomputable def mh(i:Nat):SF:=λenv=>match env[i]? with
 | some (.ow ds)=>some (.rt (.ow ds),env)
 | some (.dw ds)=>some (.rt (.dw ds),env)
 | some (.sh d)=>some (.rt (.sh d),env)
 | _=>none
theorem Rc(i:Nat){x:Str}{p2:Pos}(hN:X.N[i]?=some x:=by rfl)(hv:fY X.env.scope x:=by first | exact cw rfl | exact bo (cw rfl) | exact bo (bo rfl))(hd:(x==("__debug__":Str))=false:=by decide)
  (cK:(x==("__classdict__":Str))=false:=by decide):SV X (.Return (some (.Name x p2)) pos) (mh i):=by
 refine ⟨_,G3 (oG hN hv hd cK),λO B σ H env fl ai D R e q=>?_⟩
 unfold mh at e
 cases h:env[i]? with
 | none=>rw [h] at e;cases e
 | some s =>
  rw [h] at e
  cases s with
  | no=>cases e
  | sh d =>
   cases e
   obtain ⟨v,e2,hv⟩:=R.sh i d h
   exact ⟨v,e2,q v H R.same (Is.less (λq z=>.inl z) hv)⟩
  | ow ds =>
   cases e
   obtain ⟨p,xs,e1,e2,e3,h1⟩:=R.ow i ds h
   exact ⟨_,e1,q _ H R.same ⟨p,xs,rfl,e2,e3,h1.less λq z=>z.elim .inl λz=>.inr ⟨i,.ow ds,h,trivial,by rw [z];exact e1⟩⟩⟩
  | dw bb =>
   cases e
   obtain ⟨p,e1,e2,e3⟩:=R.dw i bb h
   exact ⟨_,e1,q _ H R.same ⟨p,rfl,e2,e3⟩⟩
noncomputable def de(i:Nat)(f:En->Option Sl):SF:=λenv=>(f env).bind λr=>if i<env.length then some (.nx,env.set i r) else none
theorem Qc(hN:X.N.Nodup)(hi:X.N[i]?=some x)(hx:Loc X.env.scope x)(he:EV X e fa)(hs:swapsWith e (some (.Name x pos')) pos.line X.env=pure false:=by rfl)(hf:X.fn x=true\/X.env.scope.names.lookup x=some .local:=by first | exact .inl rfl | exact .inr rfl | assumption):
  SV X (.Assign [.Name x pos'] e pos) (de i fa):=by
 obtain ⟨t,p,k⟩:=he
 refine ⟨_,CN hN hi hx p hs hf,λO B σ H env fl ai D R e q=>?_⟩
 obtain ⟨r,e1,e2⟩:=bind_some e
 obtain ⟨hl,e3⟩:=gW e2
 cases e3
 refine k O B σ H env r _ R e1 λv H1 s1 r1=>?_
 obtain ⟨R',g'⟩:=R.set s1 r1 hl
 exact q _ H1 R' g'
noncomputable def bJ(i:Nat)(f:En->Option Sl):SF:=λenv=>(f env).bind λr=>if i<env.length then some (.nx,env.set i (.sh r.d)) else none
theorem Q3(hN:X.N.Nodup)(hi:X.N[i]?=some x)(hx:Loc X.env.scope x)(he:EV X e fa)(hs:swapsWith e (some (.Name x pos')) pos.line X.env=pure false:=by rfl)(hf:X.fn x=true\/X.env.scope.names.lookup x=some .local:=by first | exact .inl rfl | exact .inr rfl | assumption):
  SV X (.Assign [.Name x pos'] e pos) (bJ i fa):=by
 obtain ⟨t,p,k⟩:=he
 refine ⟨_,CN hN hi hx p hs hf,λO B σ H env fl ai D R e q=>?_⟩
 obtain ⟨r,e1,e2⟩:=bind_some e
 obtain ⟨hl,e3⟩:=gW e2
 cases e3
 refine k O B σ H env r _ R e1 λv H1 s1 r1=>?_
 obtain ⟨R',g'⟩:=R.set (r:=.sh r.d) s1 (r1.is λq=>R.oo) hl
 exact q _ H1 R' g'
noncomputable def sX(f:En->Option Sl):SF:=λenv=>(f env).map λ_=>(.nx,env)
noncomputable def lj(i:Nat)(env:En):En:=match env[i]? with
 | some (.ow ds)=>env.set i (.sh (.lst false ds))
 | some (.dw ds)=>env.set i (.sh (.eJ false ds))
 | _=>env
noncomputable def kH(i:Nat)(F:SF):SF:=λenv=>F (lj i env)
theorem G7(i:Nat)(h:SV X st F):SV X st (kH i F):=by
 obtain ⟨t,p,k⟩:=h
 refine ⟨t,p,λO B σ H env fl ai D R e q=>?_⟩
 unfold kH lj at e
 cases h:env[i]? with
 | none=>rw [h] at e;exact k O B σ H env fl ai D R e q
 | some s =>
  rw [h] at e
  cases s with
  | no=>exact k O B σ H env fl ai D R e q
  | sh d=>exact k O B σ H env fl ai D R e q
  | ow ds =>
   obtain ⟨R',g'⟩:=R.gx h
   exact k O B σ H _ fl ai D R' e (q.from g')
  | dw ds =>
   obtain ⟨R',g'⟩:=R.uQ h trivial
   exact k O B σ H _ fl ai D R' e (q.from g')
noncomputable def cR(i:Nat)(f:En->Option Sl):SF:=λenv=>match env[i]? with
 | some (.ow ds)=>(f env).bind λr=>if ds.length<16777216 then some (.nx,env.set i (.ow (ds++[r.d]))) else none
 | _=>none
theorem TC{i:Nat}{x:Str}{p1 p2 aV:Pos}(ha:EV X e fa)(hN:X.N[i]?=some x:=by rfl)(hv:fY X.env.scope x:=by first | exact cw rfl | exact bo (cw rfl) | exact bo (bo rfl))(hd:(x==("__debug__":Str))=false:=by decide)
  (cK:(x==("__classdict__":Str))=false:=by decide)(hs:starEach [e] X.env=[(false,eval e X.env)]:=by rfl)
  (cc:attributeBase (.Name x p1) "append" X.env (eval (.Name x p1) X.env)=eval (.Name x p1) X.env:=by rfl)
  (gj:((backTo aV (starEach [e] X.env)).all (λx=>!x.1)&&(backToKw aV (keywordEach [] X.env)).all (λx=>x.1.isSome)
   && decide ([e].length+([]:List Keyword).length+(if ([]:List Keyword).isEmpty then 0 else 1)<30))=true:=by rfl)
  (bZ:(p2.endLine==aV.line)=true:=by rfl)
  (pF:swapsWith (.Call (.Attribute (.Name x p1) "append" p2) [e] [] aV) none pos.line X.env=pure false:=by rfl):
  SV X (.Expr (.Call (.Attribute (.Name x p1) "append" p2) [e] [] aV) pos) (cR i fa):=by
 obtain ⟨t,p,k⟩:=ha
 refine ⟨_,Hs (Gx B3 FP PySem.F.type_list_append SK (oG hN hv hd cK) (my p ni hs) cc gj bZ hs rfl) pF,λO B σ H env fl ai D R e q=>?_⟩
 unfold cR at e
 cases h:env[i]? with
 | none=>rw [h] at e;cases e
 | some s =>
  rw [h] at e
  cases s with
  | no=>cases e
  | sh d=>cases e
  | dw bb=>cases e
  | ow ds =>
   obtain ⟨r,e1,e2⟩:=bind_some e
   obtain ⟨hl,e3⟩:=gW e2
   cases e3
   obtain ⟨l,xs,f1,f2,f3,f4⟩:=R.ow i ds h
   refine ⟨_,f1,.inl ⟨rfl,_,dg.of f3⟩,?_⟩
   refine k O B σ H env r _ R e1 λv H1 s1 r1=>⟨l,xs,v,rfl,rfl,s1 _ _ f3,by rw [f4.length,il];exact hl,?_⟩
   obtain ⟨R',g'⟩:=(R.grow s1).wr h f1 ((f4.grow s1).append (.cons (r1.is λq=>R.oo) .nil))
   exact q _ _ R' (g'.from s1)
end
section
variable {X:Cx}{st:Stmt}{F:SF}{a b c e tg it:Expr}{fa:En->Option Sl}{ba:En->Option (Bool×List D)}{ga:En->Option Bool}{pos:Pos}
noncomputable abbrev GF:=D->En->Option En
def GV(X:Cx)(tg:Expr)(g:GF):Prop:=
 ∃t:TG,PG X tg t/\∀(O:Addr->Prop) (B:Hp) (σ:L2.St) (H:Hp) (env ai:En) (v:V) (d:D) (Q:L2.St->Hp->Prop),Rel X.K O B σ H env->Is X.K (OO O σ env) H v d->g d env=some ai ->
  (∀aA H',Rel X.K O B aA H' ai->Gd σ env H aA ai H'->Q aA H')->t v σ H Q
noncomputable def gN(i:Nat):GF:=λd env=>if i<env.length then some (env.set i (.sh d)) else none
theorem Q1(hN:X.N.Nodup)(hi:X.N[i]?=some x)(hx:Loc X.env.scope x)(hf:X.fn x=true\/X.env.scope.names.lookup x=some .local:=by first | exact .inl rfl | exact .inr rfl | assumption):GV X (.Name x pos) (gN i):=by
 refine ⟨_,QF hN hi hx hf,λO B σ H env ai v d Q R h e q=>?_⟩
 obtain ⟨hl,rfl⟩:=gW e
 obtain ⟨R',g'⟩:=R.set (r:=.sh d) (ar.refl _) h hl
 exact q _ H R' g'
noncomputable abbrev qH:=List D->En->Option En
def zD(X:Cx)(tg:List Expr)(g:qH):Prop:=
 ∃t:oW,wV X tg t/\∀(O:Addr->Prop) (B:Hp) (σ:L2.St) (H:Hp) (env ai:En) (v:List V) (d:List D) (Q:L2.St->Hp->Prop),Rel X.K O B σ H env->aH X.K (OO O σ env) H v d->g d env=some ai ->
  (∀aA H',Rel X.K O B aA H' ai->Gd σ env H aA ai H'->Q aA H')->t v σ H Q
noncomputable def yC:qH:=λds env=>match ds with
 | []=>some env
 | _::_=>none
noncomputable def mj(g:GF)(u:qH):qH:=λds env=>match ds with
 | d::r=>(g d env).bind (u r)
 | []=>none
theorem G8:zD X [] yC:=by
 refine ⟨_,QG,λO B σ H env ai v d Q R h e q=>?_⟩
 cases h with
 | nil=>cases e;exact ⟨rfl,q σ H R (Gd.refl (ar.refl _))⟩
 | cons _ _=>cases e
theorem Gd.xn{K:aC}{O:Addr->Prop}{σ aA:L2.St}{env ai:En}{H H':Hp}(g:Gd σ env H aA ai H'){v:List V}{d:List D}(h:aH K (OO O σ env) H v d):aH K (OO O aA ai) H' v d:=
 h.map (λq hq hn z=>by
  cases e:H q with
  | none=>exact hq e
  | some u =>
   obtain ⟨_,n'⟩:=g q u e λw=>hn (.inr w)
   exact z.elim (λw=>hn (.inl w)) n') λq u e n=>(g q u e λw=>n (.inr w)).1
theorem oN{es:List Expr}{g:GF}{u:qH}(h1:GV X e g)(h2:zD X es u)
  (hs:(assignEach (e::es) X.env).map (·.2)=assign e X.env::(assignEach es X.env).map (·.2):=by rfl):zD X (e::es) (mj g u):=by
 obtain ⟨t,p,k⟩:=h1
 obtain ⟨t',p',k'⟩:=h2
 refine ⟨_,Rp p p' hs,λO B σ H env ai v d Q R h e q=>?_⟩
 cases h with
 | nil=>cases e
 | cons h ht =>
  obtain ⟨bG,e1,e2⟩:=bind_some (show (g _ env).bind (u _)=some ai from e)
  refine ⟨_,_,rfl,k O B σ H env bG _ _ _ R h e1 λft H1 R1 g1=>?_⟩
  exact k' O B ft H1 bG ai _ _ Q R1 (g1.xn ht) e2 λbW H2 R2 g2=>q bW H2 R2 (g1.trans g2)
noncomputable def gT(n:Nat)(u:qH):GF:=λd env=>match d with
 | .tup ds=>if ds.length=n then u ds env else none
 | _=>none
theorem GW{es:List Expr}{k n:Nat}{u:qH}(hc:X.calm=true)(h:zD X es u)(hn:(assignEach es X.env).length=n:=by rfl)(xt:(assignEach es X.env).findIdx? (·.1)=none:=by rfl):GV X (.Tuple es k pos) (gT n u):=by
 obtain ⟨t,p,k'⟩:=h
 refine ⟨_,Qk hc p hn xt,λO B σ H env ai v d Q R h e q=>?_⟩
 cases d with
 | tup ds =>
  have e':(if ds.length=n then u ds env else none)=some ai:=e
  by_cases hl:ds.length=n
  .rw [if_pos hl] at e'
   obtain ⟨a,xs,rfl,h1,h2⟩:=yH h
   exact ⟨a,xs,rfl,h1,by rw [h2.length];exact hl,k' O B σ H env ai xs ds Q R h2 e' q⟩
  .rw [if_neg hl] at e';cases e'
 | _=>cases e
noncomputable def sY(f:En->Option Sl)(g:GF):SF:=λenv=>(f env).bind λr=>(g r.d env).map λai=>(.nx,ai)
noncomputable def forL(g:GF)(F:SF):List D->SF
 | [],env=>some (.nx,env)
 | d::ds,env=>match g d env with
  | none=>none
  | some bG=>match F bG with
   | some (.nx,aZ)=>forL g F ds aZ
   | some (.ct,aZ)=>forL g F ds aZ
   | some (.bk,aZ)=>some (.nx,aZ)
   | some (.rt r,aZ)=>some (.rt r,aZ)
   | none=>none
structure Left(K:aC)(O:Addr->Prop)(B:Hp)(mB:L2.St)(H0:Hp)(ff:En)(g:GF)(F:SF)(ds:List D)(fl:Fl)(ai:En)(i:Nat)(σ:L2.St)(H:Hp):Prop where
 ex:∃env,Rel K O B σ H env/\Gd mB ff H0 σ env H/\forL g F (ds.drop i) env=some (fl,ai)
theorem Dl{g:GF}{mG:TG}{tb:TS}{O:Addr->Prop}{B:Hp}{mB:L2.St}{H0:Hp}{ff ai:En}{fl:Fl}{D:Ends}{ds:List DL.D}{xs:List V}{i:Nat}{x:V}{σ:L2.St}{H:Hp}
  (kg:∀(O:Addr->Prop) (B:Hp) (σ:L2.St) (H:Hp) (env ai:En) (v:V) (d:DL.D) (Q:L2.St->Hp->Prop),Rel X.K O B σ H env->Is X.K (OO O σ env) H v d->g d env=some ai ->
   (∀aA H',Rel X.K O B aA H' ai->Gd σ env H aA ai H'->Q aA H')->mG v σ H Q)
  (kb:∀(O:Addr->Prop) (B:Hp) (σ:L2.St) (H:Hp) (env:En) (fl:Fl) (ai:En) (D:Ends),Rel X.K O B σ H env->F env=some (fl,ai)->cF X.K O B σ H env D fl ai->tb D σ H)
  (hx:aH X.K (OO O mB ff) H0 xs ds)(hi:xs[i]?=some x)(q:cF X.K O B mB H0 ff D fl ai)(h:Left X.K O B mB H0 ff g F ds fl ai i σ H):
  mG x σ H λbW H2=>tb { D with nx:=Left X.K O B mB H0 ff g F ds fl ai (i+1),ct:=Left X.K O B mB H0 ff g F ds fl ai (i+1),bk:=D.nx } bW H2:=by
 obtain ⟨env,R,gd,e⟩:=h
 obtain ⟨d,hd,_⟩:=hx.pS hi
 have AY:i<ds.length:=(lK.mp hd).1
 have uz:ds.drop i=d::ds.drop (i+1):=by
  rw [jx AY]
  rw [rf AY] at hd
  rw [bQ hd]
 obtain ⟨x',lS,MO⟩:=(gd.xn hx).get hd
 rw [hi] at lS
 cases lS
 rw [uz,forL] at e
 cases hg:g d env with
 | none=>rw [hg] at e;cases e
 | some bG =>
  rw [hg] at e
  refine kg O B σ H env bG x d _ R MO hg λft H1 R1 g1=>?_
  dsimp only at e
  cases hF:F bG with
  | none=>rw [hF] at e;cases e
  | some y =>
   obtain ⟨f2,aZ⟩:=y
   rw [hF] at e
   have go:=gd.trans g1
   refine kb O B ft H1 bG f2 aZ _ R1 hF ?_
   cases f2 with
   | nx=>exact λbW H2 R2 g2=>⟨aZ,R2,go.trans g2,e⟩
   | ct=>exact λbW H2 R2 g2=>⟨aZ,R2,go.trans g2,e⟩
   | bk=>cases e;exact λbW H2 R2 g2=>q bW H2 R2 (go.trans g2)
   | rt r=>cases e;exact q
theorem y6{D:Ends}{ds:List DL.D}{n:Nat}(hn:ds.length<=n)
  (q:cF X.K O B mB H0 ff D fl ai)(h:Left X.K O B mB H0 ff g F ds fl ai n σ H):D.nx σ H:=by
 obtain ⟨env,R,gd,e⟩:=h
 rw [mY hn,forL] at e
 cases e
 exact q σ H R gd
noncomputable def dQ(f:En->Option Sl)(g:GF)(F:SF):SF:=λenv=>(f env).bind λr=>(dk r.d).bind λx=>forL g F x.2 env
theorem Gd.sq{K:aC}{σ aA:L2.St}{env ai:En}{H H':Hp}(gd:Gd σ env H aA ai H'){k:Bool}{p:Addr}{xs:List V}(h:Sq K H k p xs)(hp:¬jm σ env p\/H p=none):Sq K H' k p xs:=by
 have rd:∀u,Rd H p u->Rd H' p u:=λu z=>by
  rcases z with z | ⟨o,z⟩
  .rcases hp with hp | hp
   .exact .inl (gd p _ z hp).1
   .rw [hp] at z;cases z
  .rcases hp with hp | hp
   .exact .inr ⟨o,(gd p _ z hp).1⟩
   .rw [hp] at z;cases z
 cases k with
 | true =>
  rcases h with h | h
  .exact .inl (rd _ h)
  .exact .inr h
 | false =>
  rcases h with h | h
  .exact .inl (rd _ h)
  .exact .inr h
theorem Is.sT{K:aC}{O:Addr->Prop}{H:Hp}{v:V}{d:D}{k:Bool}{ds:List D}(h:Is K O H v d)(e:dk d=some (k,ds)):∃p xs,v=.ref p/\Sq K H k p xs/\aH K O H xs ds/\(¬O p\/∀H',Sq K H' k p xs):=by
 cases h with
 | tup ho hp hs=>cases e;exact ⟨_,_,rfl,.inl hp,hs,.inl ho⟩
 | jK hp hs=>cases e;exact ⟨_,_,rfl,wo hp,hs,.inr λ_=>wo hp⟩
 | lst ho hp hs=>cases e;exact ⟨_,_,rfl,.inl (.inl hp),hs,.inl ho⟩
 | iG ho hp hs=>cases e;exact ⟨_,_,rfl,.inl hp,hs,.inl ho⟩
 | iJ hp hs=>cases e;exact ⟨_,_,rfl,wm hp,hs,.inr λ_=>wm hp⟩
 | _=>cases e
noncomputable def Ay(K:aC)(tl:TE):TI:=λσ H R=>tl σ H λx H1=>∃a,x=.ref a/\(((∃xs,dg K H1 a xs)/\R (wY K a) H1)\/((∃xs,dv K H1 a xs)/\R (wX K a) H1))
theorem G2(hl:PE X l tl):PI X tg l (Ay X.K tl):=by
 intro pins s σ H R I h
 refine bu (hl pins s σ H _ I h) λv s1 ⟨x,H1,I1,r1,q1⟩=>?_
 obtain ⟨a,e,q1⟩:=q1
 subst e
 cases r1
 rcases q1 with ⟨⟨xs,hq⟩,q⟩ | ⟨⟨xs,hq⟩,q⟩
 .obtain ⟨ao,rv,p,hz⟩:=I1.list hq
  refine wpAny_pyIter_list p.isList ?_
  refine ⟨s1.heap.objs.size,[s1.heap.objs.size],_,_,H1,rfl,I1.kept (t':=s1.toks) λb o e=>fT _ e,TJ a _,⟨_,l9 _ rfl,rfl,rfl⟩,λb hb=>?_,q⟩
  have e:b=s1.heap.objs.size:=by simpa using hb
  subst e
  exact I1.lr (bj _) (I1.bw.fresh (bj _))
 .obtain ⟨ao,rv,p,hz⟩:=I1.tuple hq
  refine wpAny_pyIter_tuple (show s1.heap.IsTuple a ao.toArray from p) ?_
  refine ⟨s1.heap.objs.size,[s1.heap.objs.size],_,_,H1,rfl,I1.kept (t':=s1.toks) λb o e=>fT _ e,Tv a _,⟨_,l9 _ rfl,rfl,rfl⟩,λb hb=>?_,q⟩
  have e:b=s1.heap.objs.size:=by simpa using hb
  subst e
  exact I1.lr (bj _) (I1.bw.fresh (bj _))
theorem ml(hp:PassesOwn (model X.prog X.w) X.A X.env X.xe)(hc:X.calm=true)(hi:EV X it fa)(hg:GV X tg g)(hb:jD X body F)
  (hs:∀x,foldedSetIterable it X.env x=pure x:=by intro _;rfl):SV X (.For tg it body [] pos) (dQ fa g F):=by
 obtain ⟨ti,pi,ki⟩:=hi
 obtain ⟨mG,pg,kg⟩:=hg
 obtain ⟨tb,pb,kb⟩:=hb
 refine ⟨_,CM hp hc (G2 pi) pg pb hs,λO B σ H env fl ai D R e q=>?_⟩
 obtain ⟨r,e1,e2⟩:=bind_some e
 obtain ⟨⟨k,ds⟩,e4,e5⟩:=bind_some e2
 refine ki O B σ H env r _ R e1 λv H1 s1 r1=>?_
 obtain ⟨p,xs,rfl,h1,h2,h3⟩:=(r1.is λq=>R.oo).sT e4
 refine ⟨p,rfl,?_⟩
 have q':cF X.K O B σ H1 env D fl ai:=q.from (Gd.refl s1)
 have keep:∀i bW H2,Left X.K O B σ H1 env g F ds fl ai i bW H2->Sq X.K H2 k p xs:=λi bW H2 L=>by
  rcases h3 with h3 | h3
  .obtain ⟨aZ,_,gd,_⟩:=L
   exact gd.sq h1 (.inl λz=>h3 (.inr z))
  .exact h3 H2
 cases k with
 | true =>
  refine .inl ⟨⟨xs,h1⟩,?_⟩
  exact RD (xs:=xs) (Left X.K O B σ H1 env g F ds fl ai) ⟨env,R.grow s1,Gd.refl (ar.refl _),e5⟩ (λi bW H2 _ L=>keep i bW H2 L) (λi x bW H2 hx L=>Dl kg kb h2 hx q' L) (λbW H2 L=>y6 (by rw [h2.length];exact bj _) q' L)
 | false =>
  refine .inr ⟨⟨xs,h1⟩,?_⟩
  exact Q0 (xs:=xs) (Left X.K O B σ H1 env g F ds fl ai) ⟨env,R.grow s1,Gd.refl (ar.refl _),e5⟩ (λi bW H2 _ L=>keep i bW H2 L) (λi x bW H2 hx L=>Dl kg kb h2 hx q' L) (λbW H2 L=>y6 (by rw [h2.length];exact bj _) q' L)
noncomputable def cS(lo:Int)(n:Nat):List D:=(jv n).map λ(k:Nat)=>D.int (lo+(k:Int))
def R62(i:Int):Prop:=-(2^62)<=i/\i<2^62
noncomputable instance (i:Int):Decidable (R62 i):=by unfold R62;infer_instance
noncomputable def mI:List D->Option (List D)
 | [.int j]=>if R62 j then some (cS 0 j.toNat) else none
 | _=>none
noncomputable def z9:List D->Option (List D)
 | [.int i,.int j]=>if R62 i/\R62 j then some (cS i (j-i).toNat) else none
 | _=>none
noncomputable def yw(h:List D->Option (List D))(f:En->Option (List D))(g:GF)(F:SF):SF:=λenv=>(f env).bind λds=>(h ds).bind λis=>forL g F is env
theorem Q7{K:aC}{O:Addr->Prop}{H:Hp}(lo:Int)(n:Nat):aH K O H ((jv n).map λ(k:Nat)=>V.int (lo+(k:Int))) (cS lo n):=by
 have h:=aH.ints (K:=K) (O:=O) (H:=H) ((jv n).map λ(k:Nat)=>lo+(k:Int))
 rw [iT,iT] at h
 exact h
theorem Hv{K:aC}{O:Addr->Prop}{H:Hp}{xs:List V}{i:Int}(h:aH K O H xs [.int i]):xs=[.int i]:=by
 cases h with
 | cons h t=>cases t;rw [iA h]
theorem QZ{tb:TS}{mG:TG}{g:GF}{lo:Int}{n:Nat}{O:Addr->Prop}{B:Hp}{σ:L2.St}{H:Hp}{env ai:En}{fl:Fl}{D:Ends}
  (kg:∀(O:Addr->Prop) (B:Hp) (σ:L2.St) (H:Hp) (env ai:En) (v:V) (d:DL.D) (Q:L2.St->Hp->Prop),Rel X.K O B σ H env->Is X.K (OO O σ env) H v d->g d env=some ai ->
   (∀aA H',Rel X.K O B aA H' ai->Gd σ env H aA ai H'->Q aA H')->mG v σ H Q)
  (kb:∀(O:Addr->Prop) (B:Hp) (σ:L2.St) (H:Hp) (env:En) (fl:Fl) (ai:En) (D:Ends),Rel X.K O B σ H env->F env=some (fl,ai)->cF X.K O B σ H env D fl ai->tb D σ H)
  (R:Rel X.K O B σ H env)(e:forL g F (cS lo n) env=some (fl,ai))(q:cF X.K O B σ H env D fl ai):
  ∃W:Nat->Nat->L2.St->Hp->Prop,(∃m,W 0 m σ H)/\∀i m σ H,W i m σ H ->
   ((jF lo n).stop i H/\D.nx σ H)\/((jF lo n).go i H/\∃N:L2.St->Hp->Prop,(∀aA H',N aA H'->∃m',m'<m/\W (i+1) m' aA H')/\∀x H',(jF lo n).oZ i H x H'->mG x σ H' λbW H2=>tb { D with nx:=N,ct:=N,bk:=D.nx } bW H2):=by
 refine S7 (Left X.K O B σ H env g F (cS lo n) fl ai) ⟨env,R,Gd.refl (ar.refl _),e⟩ (λi bW H2 hi L=>?_) (λbW H2 L=>y6 (by simp [cS]) q L)
 exact Dl kg kb (Q7 lo n) (by simp [hi]) q L
theorem Rz{body:List Stmt}{g:GF}{fs:En->Option (List D)}{p:Pos}(hp:PassesOwn (model X.prog X.w) X.A X.env X.xe)(hc:X.calm=true)(ux:Gl X "range")(hm:X.mg "range" = none)(ha:AV X [a] fs)(hg:GV X tg g)(hb:jD X body F)
  (h1:starEach [a] X.env=[(false,eval a X.env)]:=by rfl)(hs:∀x,foldedSetIterable (.Call (.Name "range" p) [a] [] pos) X.env x=pure x:=by intro _;rfl){Ae:Pos}:
  SV X (.For tg (.Call (.Name "range" p) [a] [] pos) body [] Ae) (yw mI fs g F):=by
 obtain ⟨ti,pi,ki⟩:=ha
 obtain ⟨mG,pg,kg⟩:=hg
 obtain ⟨tb,pb,kb⟩:=hb
 refine ⟨_,CM hp hc (TM ux hm pi h1) pg pb hs,λO B σ H env fl ai D R e q=>?_⟩
 obtain ⟨ds,e1,e2⟩:=bind_some e
 obtain ⟨is,e2,e3⟩:=bind_some e2
 refine ki O B σ H env ds _ R e1 λvs H1 s1 r1=>?_
 unfold mI at e2
 split at e2
 .obtain ⟨⟨h1,h2⟩,rfl⟩:=gW e2
  exact ⟨_,Hv r1,h1,h2,QZ kg kb (R.grow s1) e3 (q.from (Gd.refl s1))⟩
 .cases e2
noncomputable def mD(c:En->Option Bool)(F:SF):Nat->SF
 | 0,_=>none
 | n+1,env=>match c env with
  | none=>none
  | some false=>some (.nx,env)
  | some true=>match F env with
   | some (.nx,aZ)=>mD c F n aZ
   | some (.ct,aZ)=>mD c F n aZ
   | some (.bk,aZ)=>some (.nx,aZ)
   | some (.rt r,aZ)=>some (.rt r,aZ)
   | none=>none
noncomputable def vX(m:En->Nat)(c:En->Option Bool)(F:SF):SF:=λenv=>mD c F (m env) env
theorem De(m:En->Nat)(hp:PassesOwn (model X.prog X.w) X.A X.env X.xe)(hc:TV X c ga)(hb:jD X body F):SV X (.While c body [] pos) (vX m ga F):=by
 obtain ⟨tc,pc,kc⟩:=hc
 obtain ⟨tb,pb,kb⟩:=hb
 refine ⟨_,Rt hp pc pb,λO B σ H env fl ai D R e q=>?_⟩
 refine ⟨λn ft H1=>∃bG,Rel X.K O B ft H1 bG/\Gd σ env H ft bG H1/\mD ga F n bG=some (fl,ai),⟨m env,env,R,Gd.refl (ar.refl _),e⟩,?_⟩
 rintro n ft H1 ⟨bG,R1,g1,e1⟩
 cases n with
 | zero=>cases e1
 | succ n =>
  rw [mD] at e1
  cases h:ga bG with
  | none=>rw [h] at e1;cases e1
  | some x =>
   rw [h] at e1
   refine kc O B ft H1 bG x _ R1 h λH2 s2=>?_
   cases x with
   | false =>
    rw [if_neg lI]
    cases e1
    exact q ft H2 (R1.grow s2) (g1.trans (Gd.refl s2))
   | true =>
    rw [if_pos rfl]
    refine ⟨λaA H'=>∃aZ,Rel X.K O B aA H' aZ/\Gd σ env H aA aZ H'/\mD ga F n aZ=some (fl,ai),λaA H' ⟨aZ,a1,a2,a3⟩=>⟨n,vm n,aZ,a1,a2,a3⟩,?_⟩
    dsimp only at e1
    cases hF:F bG with
    | none=>rw [hF] at e1;cases e1
    | some y =>
     obtain ⟨f2,aZ⟩:=y
     rw [hF] at e1
     have go:=g1.trans (Gd.refl s2)
     refine kb O B ft H2 bG f2 aZ _ (R1.grow s2) hF ?_
     cases f2 with
     | nx=>exact λbW H3 R2 g2=>⟨aZ,R2,go.trans g2,e1⟩
     | ct=>exact λbW H3 R2 g2=>⟨aZ,R2,go.trans g2,e1⟩
     | bk=>cases e1;exact λbW H3 R2 g2=>q bW H3 R2 (go.trans g2)
     | rt r=>cases e1;exact q
end
noncomputable def nM(K:aC)(n:Nat)(φ:List D->Option Sl):Sp:=λvs H Q _=>∃(O:Addr->Prop) (ds:List D) (r:Sl),qI K O H/\aH K O H vs ds/\vs.length=n/\φ ds=some r /\
 ∀v H',ar H H'->Res K O H H' v r->Q v H'
noncomputable def lN(N:Nat)(ds:List D):En:=ds.map Sl.sh++fV (N-ds.length) Sl.no
noncomputable def aJ(F:SF)(N:Nat)(ds:List D):Option Sl:=match F (lN N ds) with
 | some (.rt r,_)=>some r
 | some (.nx,_)=>some (.sh .aI)
 | _=>none
theorem TU{K:aC}{O:Addr->Prop}{H:Hp}{N:List Str}{vs:List V}{ds:List D}(hO:qI K O H)(h:aH K O H vs ds):Rel K O H (start N vs) H (lN N.length ds):=by
 have hl:=h.length
 have xi:∀(i:Nat) (s:Sl),(lN N.length ds)[i]?=some s->s.own->False:=λi s e1 o=>by
  unfold lN at e1
  rw [Ga] at e1
  split at e1
  .rw [rB] at e1
   obtain ⟨d,_,e⟩:=map_some e1
   cases e
   exact o
  .rw [yr] at e1
   split at e1
   .cases e1;exact o
   .cases e1
 have no:∀p,¬jm (start N vs) (lN N.length ds) p:=λp ⟨i,es,e1,o,_⟩=>xi i es e1 o
 refine ⟨ar.refl _,hO,?_,λi d e=>?_,λi es e=>(xi i _ e trivial).elim,λi es e=>(xi i _ e trivial).elim,λi j es fs p e _ _ _ o _=>(xi i _ e o).elim⟩
 .simp [L2.start,lN,hl]
 .unfold lN at e
  rw [Ga] at e
  split at e
  .rename_i hi
   rw [bM] at hi
   rw [rB] at e
   obtain ⟨d',e1,e2⟩:=map_some e
   cases e2
   obtain ⟨x,hx,hd⟩:=h.get e1
   refine ⟨x,?_,hd.less λq z=>z.elim id λz=>(no q z).elim⟩
   unfold L2.start
   rw [qd (by rw [bM,hl];exact hi),rB,hx]
   rfl
  .rw [yr] at e
   split at e
   .cases e
   .cases e
section
variable {P:Program}{w:World}{K:aC}{mg:Str->Option Value}{base:Heap}
theorem Bl{x qual:Str}{st:Stmt}{f:Addr}{fd:FuncData}{N ps:List Str}{k:Nat}{F:SF}(Fn:oX K x qual st f fd)(S:cM N ps (dI st))
  (cY:∀(cG:Value) (A:Around) (outer:List Env) (s:Shared) (H:Hp) (E:XK),bH k (A.deeper (envOfC qual (dI st) s.heap.objs.size f cG)) ->
   jD (iS jn P w K mg base N qual (dI st) f cG A outer s H E).mK (fL st) F):cu P w K mg base jn (k+1) f fd ps (nM K ps.length (aJ F N.length)):=by
 refine Fn.ok S (λvs H Q E h=>?_) (λcG A outer s H vs Q E hr h=>?_)
 .obtain ⟨O,ds,r,_,_,hl,_⟩:=h
  exact hl
 obtain ⟨O,ds,r,hO,hi,hl,e,q⟩:=h
 obtain ⟨t,p,kk⟩:=cY cG A outer s H E hr
 refine ⟨t,p,?_⟩
 unfold aJ at e
 cases hF:F (lN N.length ds) with
 | none=>rw [hF] at e;cases e
 | some y =>
  obtain ⟨fl,ai⟩:=y
  rw [hF] at e
  refine kk O H (start N vs) H (lN N.length ds) fl ai _ (TU hO hi) hF ?_
  cases fl with
  | nx=>cases e;exact λaA H' R' _=>q .aI H' R'.same Is.aI
  | bk=>cases e
  | ct=>cases e
  | rt r=>cases e;exact λv H' s h=>q v H' s h
end
section
variable {X:Cx}{k:Nat}{f:Addr}{fd:FuncData}{ps:List Str}{φ:List D->Option Sl}{x:Str}{p pos:Pos}{e:Expr}{es:List Expr}{fs:En->Option (List D)}
noncomputable def aR(n:Nat)(φ:List D->Option Sl)(fs:En->Option (List D)):En->Option Sl:=λenv=>(fs env).bind λds=>if ds.length=n then φ ds else none
theorem SY(ka:∀(O:Addr->Prop) (B:Hp) (σ:L2.St) (H:Hp) (env:En) (ds:List D) (Q:List V->Hp->Prop),Rel X.K O B σ H env->fs env=some ds->(∀vs H',ar H H'->aH X.K (OO O σ env) H' vs ds->Q vs H')->t σ H Q)
  (O:Addr->Prop)(B:Hp)(σ:L2.St)(H:Hp)(env:En)(r:Sl)(Q:VK)(R:Rel X.K O B σ H env)(e:aR n φ fs env=some r)(q:∀v H',ar H H'->Res X.K (OO O σ env) H H' v r->Q v H'):GG (nM X.K n φ) [] E t σ H Q:=by
 obtain ⟨ds,e1,e2⟩:=bind_some e
 refine ka O B σ H env ds _ R e1 λvs H1 s1 r1=>?_
 by_cases hn:ds.length=n
 .rw [if_pos hn] at e2
  rw [lD]
  refine ⟨OO O σ env,ds,r,(R.grow s1).dm,r1,by rw [r1.length,hn],e2,λv H2 s2 r2=>q v H2 (s1.trans s2) (r2.from s1)⟩
 .rw [if_neg hn] at e2;cases e2
theorem QX(F:cu X.prog X.w X.K X.mg X.base jn k f fd ps (nM X.K ps.length φ))(hr:bH k X.A)(hg:Gl X x)(hm:X.mg x=some (.ref f))(hk:qa X.K (.ref f)=true)(hb:Binds X.K fd ps [])
  (ha:AV X (e::es) fs)(lh:(x==("__debug__":Str))=false:=by decide)(he:starEach (e::es) X.env=(false,eval e X.env)::starEach es X.env:=by rfl)(ei:(backTo pos (starEach es X.env)).any (·.1)=false:=by rfl):
  EV X (.Call (.Name x p) (e::es) [] pos) (aR ps.length φ fs):=by
 obtain ⟨t,pt,ka⟩:=ha
 exact ⟨_,QE F hr hg hm hk hb .nil tJ pt lh he ei,λO B σ H env r Q R e q=>SY ka O B σ H env r Q R e q⟩
end
noncomputable def spT(K:aC):Sp:=λvs H Q _=>∃(a:Addr) (ns:List Int),vs=[.ref a]/\dg K H a (ns.map V.int)/\ns.length<=63/\Tb K H/\∀H',ar H H'->Q (.bl true) H'
theorem Pw{P:Program}{w:World}{K:aC}{mg:Str->Option Value}{base:Heap}{k:Nat}{f:Addr}{fd:FuncData}{φ:List D->Option Sl}(F:cu P w K mg base jn k f fd ["script"] (nM K 1 φ))
  (h:∀ns:List Int,ns.length<=63->φ [.lst true (ns.map D.int)]=some (Sl.sh (.bl true))):cu P w K mg base jn k f fd ["script"] (spT K):=by
 refine F.imp λvs H Q E q=>?_
 obtain ⟨a,ns,rfl,hs,hl,tb,q⟩:=q
 refine ⟨λ_=>False,[.lst true (ns.map D.int)],_,⟨λ_ z=>z.elim,tb⟩,.cons ?_ .nil,rfl,h ns hl,λv H' sm r=>?_⟩
 .rcases hs with hs | hs
  .exact .iG id hs (aH.ints ns)
  .exact .iJ (.inr hs) (aH.ints ns)
 .have r':Is K (λ_=>False) H' v (.bl true):=r
  rw [qj r']
  exact q H' sm
theorem sy{l:BK}{q:Program}{loose:List Str}{XP:(Str->Option Value)->Heap->Prop}{YP:World->Heap->Prop}{d:DefRec}{K:Params->aC}{k:Nat}(hk:bH k callerA)(hn:l.most=some 63)(uB:d.params.defaults=[])
  {ts:List Addr}(hY:∀(w:World) (h:Heap),YP w h->(K w.params).In h/\∀P∈ts,h.get? P=some (q8 #[]))(hL:∀w:World,yE (K w.params) ts=true)
  (F:∀(w:World) (mg:Str->Option Value) (fa:Addr) (h:Heap),(K w.params).In h->h.Ns mainGlobals mg->mg d.name=some (.ref fa) ->
   ∃fd:FuncData,(∀(s:Shared) (u:Value),BindsTo s fd ⟨[u],[]⟩ [("script",u)])/\∀base:Heap,(K w.params).In base->base.Ns mainGlobals mg->cu l.prog w (K w.params) mg base jn k fa fd ["script"] (spT (K w.params))):
  PySem.W.WalkO q loose XP YP l.row.toRowW d [] (λf vs=>BD f vs):=
 L2.mE (n:=63) (k:=k) (x:="script") (CX:=λ_=>jn) (sp:=λw=>spT (K w.params)) hn (by decide) uB hk hY hL F (λw _ a ns hl tb hS=>⟨a,ns,rfl,hS,hl,tb,λ_ sm=>⟨rfl,tb.grow sm⟩⟩) λ_ _ _ _ _ z=>z
section
variable {X:Cx}{a:Expr}{pos p p2:Pos}{fa:En->Option Sl}
def ub(K:aC)(T:String)(x:V)(H:Hp)(b:Bool):Prop:=match x with
 | .aI=>b=false
 | .bl _=>b=(T == "bool" || T == "int")
 | .int _=>b=(T == "int")
 | .str _=>b=(T == "str")
 | .ref p=>(b=(T == "list")/\∃xs,dg K H p xs)\/(b=(T == "tuple")/\∃xs,dv K H p xs)
 | _=>False
theorem RO(hT:T = "int" \/ T = "bool" \/ T = "str" \/ T = "list" \/ T = "tuple"):
  cj X (.builtin "isinstance") (λxs H Q=>∃x b,xs=[x,.ty T]/\ub X.K T x H b/\Q (.bl b) H):=by
 intro pins s σ H xs us Q I r h
 obtain ⟨x,b,rfl,hx,q⟩:=h
 obtain ⟨u,w',rfl,r1,r2⟩:=vals2 r
 obtain rfl:w'=qb T:=r2
 have yes:∀{Tx:String},s.TypeIs u Tx->isSubtype (.type Tx) (.type T)=pure true->typeOf (.type T)=pure (.type "type")->Q (.bl true) H->wpAny (model X.prog X.w) X.A (call (.builtin "isinstance") [u,.type T]) (EP X pins σ Q) X.xe s:=λh1 h2 h3 hq =>
  qg (isinstance_true h3 h2) ⟨h1,⟨.bl true,H,I,rfl,hq⟩⟩
 have fin:Q (.bl false) H->EP X pins σ Q (.bool false) { s with toks:=s.toks+1 }:=λhq=>⟨.bl false,H,I.tok _,rfl,hq⟩
 have ty:typeOf (.type T)=pure (.type "type"):=by rcases hT with rfl | rfl | rfl | rfl | rfl<;>rfl
 cases x with
 | aI =>
  obtain rfl:u=iV:=r1
  obtain rfl:b=false:=hx
  refine qg (isinstance_false_none ?_ ty ?_) (fin q)
  .rcases hT with rfl | rfl | rfl | rfl | rfl<;>decide +kernel
  .rcases hT with rfl | rfl | rfl | rfl | rfl<;>rfl
 | bl k =>
  obtain rfl:u=iU k:=r1
  rcases hT with rfl | rfl | rfl | rfl | rfl
  .obtain rfl:b=true:=hx
   exact yes (Tx:="bool") rfl rfl ty q
  .obtain rfl:b=true:=hx
   exact yes (Tx:="bool") rfl rfl ty q
  all_goals
   obtain rfl:b=false:=hx
   exact qg (isinstance_false_bool (by decide +kernel) ty (by rfl)) (fin q)
 | int i =>
  obtain ⟨t,rfl⟩:=r1
  rcases hT with rfl | rfl | rfl | rfl | rfl
  .obtain rfl:b=true:=hx
   exact yes (Tx:="int") (typeIs_int s i t) rfl ty q
  all_goals
   obtain rfl:b=false:=hx
   exact qg (isinstance_false_int (by decide +kernel) ty (by rfl)) (fin q)
 | str z =>
  obtain ⟨t,rfl⟩:=r1
  rcases hT with rfl | rfl | rfl | rfl | rfl
  rotate_left 2
  .obtain rfl:b=true:=hx
   exact yes (Tx:="str") (typeIs_str s z t) rfl ty q
  all_goals
   obtain rfl:b=false:=hx
   exact qg (isinstance_false_str (by decide +kernel) ty (by rfl)) (fin q)
 | ref l =>
  cases r1
  rcases hx with ⟨rfl,xs,hq⟩ | ⟨rfl,xs,hq⟩
  .obtain ⟨ao,_,pl,_⟩:=I.list hq
   have pE:=pl.isList.typeIs
   obtain ⟨o,n,e,c,_,_⟩:=pl
   rcases hT with rfl | rfl | rfl | rfl | rfl
   rotate_left 3
   .exact yes (Tx:="list") pE rfl ty q
   all_goals exact qg (isinstance_false_list (by decide +kernel) ty (by rfl)) ⟨⟨o,e,c⟩,fin q⟩
  .obtain ⟨ao,_,pl,_⟩:=I.tuple hq
   have pE:=pl.typeIs
   obtain ⟨o,e,c,_⟩:=pl
   rcases hT with rfl | rfl | rfl | rfl | rfl
   rotate_left 4
   .exact yes (Tx:="tuple") pE rfl ty q
   all_goals exact qg (isinstance_false_tuple (by decide +kernel) ty (by rfl)) ⟨⟨o,e,c⟩,fin q⟩
 | _=>exact ip hx
noncomputable def aW(T:String):D->Bool
 | .aI=>false
 | .bl _=>(T == "bool" || T == "int")
 | .int _=>(T == "int")
 | .str _=>(T == "str")
 | .tup _=>(T == "tuple")
 | .lst _ _=>(T == "list")
 | .exc _=>false
 | .eJ _ _=>false
noncomputable def D.isExc:D->Bool
 | .exc _=>true
 | .eJ _ _=>true
 | _=>false
noncomputable def gh(T:String)(d:D):Option Sl:=if d.isExc=true then none else some (.sh (.bl (aW T d)))
theorem P9{K:aC}{O:Addr->Prop}{H:Hp}{T:String}{v:V}{d:D}(h:Is K O H v d)(ne:d.isExc=false):ub K T v H (aW T d):=by
 cases h with
 | aI=>rfl
 | bl b=>rfl
 | int i=>rfl
 | str x=>rfl
 | tup ho hp hs=>exact .inr ⟨rfl,_,.inl hp⟩
 | jK hp hs=>exact .inr ⟨rfl,_,wo hp⟩
 | lst ho hp hs=>exact .inl ⟨rfl,_,.inl (.inl hp)⟩
 | iG ho hp hs=>exact .inl ⟨rfl,_,.inl hp⟩
 | iJ hp hs=>exact .inl ⟨rfl,_,wm hp⟩
 | exc ho hn hp=>cases ne
 | eJ ho hp=>cases ne
 | mU ho hp=>cases ne
noncomputable def jN(T:String)(f:En->Option Sl):En->Option Sl:=λenv=>(f env).bind λr=>gh T r.d
theorem yN(hT:T = "int" \/ T = "bool" \/ T = "str" \/ T = "list" \/ T = "tuple")(hg:Gl X "isinstance")(hm:X.mg "isinstance" = none)(Nc:Gl X x)(M2:X.mg x=none)(hv:bootBuiltins x=some (.type T))(ha:EV X a fa)
  (hn:x ≠ "__name__":=by decide)(hd:(x==("__debug__":Str))=false:=by decide)
  (hs:starEach [a,.Name x p2] X.env=[(false,eval a X.env),(false,eval (.Name x p2) X.env)]:=by rfl)(eZ:starEach [.Name x p2] X.env=[(false,eval (.Name x p2) X.env)]:=by rfl):
  EV X (.Call (.Name "isinstance" p) [a,.Name x p2] [] pos) (jN T fa):=by
 obtain ⟨t,pt,k⟩:=ha
 refine ⟨_,zj (RO hT) hg hm (by decide +kernel) (my pt (my (QD (v:=.ty T) Nc M2 hv rfl hn hd) ni eZ) (by rw [hs,eZ])) (by decide) (by decide) (by rw [hs,eZ]) (by rw [eZ];rfl),λO B σ H env s Q R e q=>?_⟩
 obtain ⟨r,e1,e2⟩:=bind_some e
 unfold gh at e2
 split at e2
 .cases e2
 .rename_i ne
  cases e2
  exact k O B σ H env r _ R e1 λv H1 s1 r1=>⟨v,_,rfl,P9 (r1.is λq=>R.oo) (by simpa using ne),q _ H1 s1 (Is.bl _)⟩
end
section
variable {X:Cx}{a b c e:Expr}{fa fb:En->Option Sl}{pos:Pos}
noncomputable def iF(i:Nat)(f:En->Option Sl):SF:=λenv=>match env[i]? with
 | some (.ow ds)=>(f env).bind λr=>match r.d with
  | .lst false es=>if ds.length+es.length<=16777216 then some (.nx,env.set i (.ow (ds++es))) else none
  | _=>none
 | _=>none
theorem TF{i:Nat}{x:Str}{p1 p2 aV:Pos}(ha:EV X e fa)(hN:X.N[i]?=some x:=by rfl)(hv:fY X.env.scope x:=by first | exact cw rfl | exact bo (cw rfl) | exact bo (bo rfl))(hd:(x==("__debug__":Str))=false:=by decide)
  (cK:(x==("__classdict__":Str))=false:=by decide)(hs:starEach [e] X.env=[(false,eval e X.env)]:=by rfl)
  (cc:attributeBase (.Name x p1) "extend" X.env (eval (.Name x p1) X.env)=eval (.Name x p1) X.env:=by rfl)
  (gj:((backTo aV (starEach [e] X.env)).all (λx=>!x.1)&&(backToKw aV (keywordEach [] X.env)).all (λx=>x.1.isSome)
   && decide ([e].length+([]:List Keyword).length+(if ([]:List Keyword).isEmpty then 0 else 1)<30))=true:=by rfl)
  (bZ:(p2.endLine==aV.line)=true:=by rfl)
  (pF:swapsWith (.Call (.Attribute (.Name x p1) "extend" p2) [e] [] aV) none pos.line X.env=pure false:=by rfl):
  SV X (.Expr (.Call (.Attribute (.Name x p1) "extend" p2) [e] [] aV) pos) (iF i fa):=by
 obtain ⟨t,p,k⟩:=ha
 refine ⟨_,Hs (Gx B3 FO PySem.F.type_list_extend SM (oG hN hv hd cK) (my p ni hs) cc gj bZ hs rfl) pF,λO B σ H env fl ai D R e q=>?_⟩
 unfold iF at e
 cases h:env[i]? with
 | none=>rw [h] at e;cases e
 | some s =>
  rw [h] at e
  cases s with
  | no=>cases e
  | sh d=>cases e
  | dw ds=>cases e
  | ow ds =>
   obtain ⟨r,e1,e2⟩:=bind_some e
   obtain ⟨l,xs,f1,f2,f3,f4⟩:=R.ow i ds h
   refine ⟨_,f1,.inl ⟨rfl,_,dg.of f3⟩,?_⟩
   refine k O B σ H env r _ R e1 λv H1 s1 r1=>?_
   have hi:=r1.is λq=>R.oo
   cases hd:r.d with
   | lst ro es =>
    rw [hd] at hi e2
    cases ro with
    | true=>cases e2
    | false =>
     obtain ⟨hl,e3⟩:=gW (show (if ds.length+es.length<=16777216 then some (Fl.nx,env.set i (.ow (ds++es))) else none)=some (fl,ai) from e2)
     cases e3
     obtain ⟨b,zs,rfl,hb,g1,g2⟩:=Cv hi
     refine ⟨l,b,xs,zs,rfl,rfl,s1 _ _ f3,g1,by rw [f4.length,g2.length,il];exact hl,?_⟩
     obtain ⟨R',g'⟩:=(R.grow s1).wr h f1 ((f4.grow s1).append g2)
     exact q _ _ R' (g'.from s1)
   | _=>rw [hd] at e2;cases e2
noncomputable def iE(i j:Nat):SF:=λenv=>match env[j]? with
 | some (.ow ds)=>(ds[ds.length-1]?).bind λd=>if i<env.length/\i≠j then some (.nx,(env.set j (.ow ds.dropLast)).set i (.sh d)) else none
 | _=>none
theorem TH{i j:Nat}{x y:Str}{pos' p1 p2 aV:Pos}(hN:X.N.Nodup)(hi:X.N[i]?=some x)(hx:Loc X.env.scope x)
  (A9:X.N[j]?=some y:=by rfl)(hv:fY X.env.scope y:=by first | exact cw rfl | exact bo (cw rfl) | exact bo (bo rfl))(hd:(y==("__debug__":Str))=false:=by decide)
  (cK:(y==("__classdict__":Str))=false:=by decide)
  (cc:attributeBase (.Name y p1) "pop" X.env (eval (.Name y p1) X.env)=eval (.Name y p1) X.env:=by rfl)
  (bZ:(p2.endLine==aV.line)=true:=by rfl)
  (hs:swapsWith (.Call (.Attribute (.Name y p1) "pop" p2) [] [] aV) (some (.Name x pos')) pos.line X.env=pure false:=by rfl)(hf:X.fn x=true\/X.env.scope.names.lookup x=some .local:=by first | exact .inl rfl | exact .inr rfl | assumption):
  SV X (.Assign [.Name x pos'] (.Call (.Attribute (.Name y p1) "pop" p2) [] [] aV) pos) (iE i j):=by
 refine ⟨_,CN hN hi hx (PH B3 Gj PySem.F.type_list_pop Px (oG A9 hv hd cK) cc bZ) hs hf,λO B σ H env fl ai D R e q=>?_⟩
 unfold iE at e
 cases h:env[j]? with
 | none=>rw [h] at e;cases e
 | some s =>
  rw [h] at e
  cases s with
  | no=>cases e
  | sh d=>cases e
  | dw ds=>cases e
  | ow ds =>
   obtain ⟨d,e1,e2⟩:=bind_some e
   obtain ⟨⟨hl,dD⟩,e3⟩:=HX e2
   cases e3
   obtain ⟨l,xs,f1,f2,f3,f4⟩:=R.ow j ds h
   obtain ⟨v,uh,AJ⟩:=f4.get e1
   obtain ⟨R',g'⟩:=R.wr h f1 f4.dropLast
   refine ⟨_,f1,.inl ⟨rfl,_,dg.of f3⟩,l,xs,v,rfl,rfl,f3,by rw [f4.length];exact uh,?_⟩
   have AI:aH X.K (OO O σ (env.set j (.ow ds.dropLast))) (upd H l (.lst xs.dropLast)) [v] [d]:=g'.xn (.cons AJ .nil)
   cases AI with
   | cons AI _ =>
    obtain ⟨R2,g2⟩:=R'.set (r:=.sh d) (i:=i) (ar.refl _) AI (by simp;exact hl)
    exact q _ _ R2 (g'.trans g2)
noncomputable def rD(i:Nat)(f g:En->Option Sl):SF:=λenv=>match env[i]? with
 | some (.ow ds)=>(f env).bind λr=>(g env).bind λk=>match k.d with
  | .int n=>(gg ds.length n).bind λj=>some (.nx,env.set i (.ow (ds.set j r.d)))
  | _=>none
 | _=>none
theorem Rb{i:Nat}{x:Str}{p1 p2:Pos}(ha:EV X e fa)(hb:EV X b fb)(hN:X.N[i]?=some x:=by rfl)(hv:fY X.env.scope x:=by first | exact cw rfl | exact bo (cw rfl) | exact bo (bo rfl))(hd:(x==("__debug__":Str))=false:=by decide)
  (cK:(x==("__classdict__":Str))=false:=by decide)
  (kU:∀v,assign (.Subscript (.Name x p1) b p2) X.env v=(do
   let ov <-holding [v] (eval (.Name x p1) X.env)
   let iv <-holding [v,ov] (eval b X.env)
   standAt p2
   holding [v,ov,iv] (setItem ov iv v)
   release [v,ov,iv] []):=by intro _;rfl)
  (hs:swapsWithSole [.Subscript (.Name x p1) b p2] e pos.line X.env=pure false:=by rfl)(hw:swappedStores [.Subscript (.Name x p1) b p2] e X.env=pure none:=by rfl)
  (h1:(assignEach [.Subscript (.Name x p1) b p2] X.env).map (·.2)=[assign (.Subscript (.Name x p1) b p2) X.env]:=by rfl):
  SV X (.Assign [.Subscript (.Name x p1) b p2] e pos) (rD i fa fb):=by
 obtain ⟨t,p,k⟩:=ha
 obtain ⟨t',p',k'⟩:=hb
 refine ⟨_,Ql p (Qj (oG hN hv hd cK) p' Rw kU) hs hw h1,λO B σ H env fl ai D R e q=>?_⟩
 unfold rD at e
 cases h:env[i]? with
 | none=>rw [h] at e;cases e
 | some s =>
  rw [h] at e
  cases s with
  | no=>cases e
  | sh d=>cases e
  | dw ds=>cases e
  | ow ds =>
   obtain ⟨r,e1,e2⟩:=bind_some e
   obtain ⟨kk,e2,e3⟩:=bind_some e2
   obtain ⟨l,xs,f1,f2,f3,f4⟩:=R.ow i ds h
   refine k O B σ H env r _ R e1 λv H1 s1 r1=>⟨_,f1,?_⟩
   refine k' O B σ H1 env kk _ (R.grow s1) e2 λw H2 s2 r2=>?_
   have hi:=r2.is λq=>(R.grow s1).oo
   cases hd:kk.d with
   | int n =>
    rw [hd] at hi e3
    obtain rfl:=iA hi
    obtain ⟨j,e4,e5⟩:=bind_some (show (gg ds.length n).bind (λj=>some (Fl.nx,env.set i (.ow (ds.set j r.d))))=some (fl,ai) from e3)
    cases e5
    have nN:=s1.trans s2
    refine ⟨l,xs,n,j,rfl,rfl,nN _ _ f3,by rw [f4.length];exact e4,?_⟩
    obtain ⟨R',g'⟩:=(R.grow nN).wr h f1 ((f4.grow nN).set ((r1.is λq=>R.oo).grow s2) j)
    exact q _ _ R' (g'.from nN)
   | _=>rw [hd] at e3;cases e3
noncomputable def KR:En->Option (Option Int):=λ_=>some none
noncomputable def ES(f:En->Option Sl):En->Option (Option Int):=λenv=>(f env).bind λr=>match r.d with
 | .int i=>some (some i)
 | _=>none
noncomputable def cutD(xs:List D)(lo hi:Option Int):List D:=(xs.drop (HT.kG xs.length 0 lo)).take (HT.kG xs.length xs.length hi-HT.kG xs.length 0 lo)
noncomputable def FE(f:En->Option (Bool×List D))(lo hi:En->Option (Option Int)):En->Option Sl:=λenv=>(f env).bind λx=>(lo env).bind λl=>(hi env).bind λh =>
 if x.1=true then some (.ow (cutD x.2 l h)) else if ¬(HT.kG x.2.length 0 l=0/\HT.kG x.2.length x.2.length h=x.2.length) then some (.sh (.tup (cutD x.2 l h))) else none
noncomputable def uZ(f:En->Option Sl)(lo hi:En->Option (Option Int)):En->Option Sl:=λenv=>(f env).bind λx=>(lo env).bind λl=>(hi env).bind λh=>match x.d with
 | .tup ds=>some (.sh (.tup (cutD ds l h)))
 | _=>none
end
structure Def(K:aC)(mg:Str->Option Value)(x:Str)(st:Stmt)(ps:List Str)(f:Addr)(fd:FuncData):Prop where
 fn:oX K x x st f fd
 bd:Binds K fd ps []
 m:mg x=some (.ref f)
end DL
namespace DL
open PySem PySem.Spec PyProof.Rows L2
structure Fx(X:Cx)(N:List Str)(sc:Scope)(k:Nat)(full:Bool:=true):Prop where
 n:X.N=N
 sc:X.env.scope=sc
 calm:X.calm=true
 fn:full=true->∀x,X.fn x=true
 own:PassesOwn (model X.prog X.w) X.A X.env X.xe
 room:bH k X.A
 nd:N.Nodup
 top:full=true->X.stack=X.env::X.outer/\X.env.frame=some X.env.locals/\X.ex=[]
section
variable {X:Cx}{N:List Str}{sc:Scope}{k:Nat}{full:Bool}{pos p p1 p2 pos' aV:Pos}{e a b:Expr}{fa fb:En->Option Sl}
theorem Fx.mF(h:Fx X N sc k full)(hv:fY sc x):fY X.env.scope x:=by rw [h.sc];exact hv
theorem Fx.loc(h:Fx X N sc k full)(hv:Loc sc x):Loc X.env.scope x:=by rw [h.sc];exact hv
theorem Fx.ix(h:Fx X N sc k full){i:Nat}{x:Str}(hN:N[i]?=some x):X.N[i]?=some x:=by rw [h.n];exact hN
theorem Fx.qM(h:Fx X N sc k full)(hf:full=true\/sc.names.lookup x=some .local):X.fn x=true\/X.env.scope.names.lookup x=some .local:=hf.elim (λe=>.inl (h.fn e x)) λe=>.inr (by rw [h.sc];exact e)
theorem Fx.qR(h:Fx X N sc k full):X.N.Nodup:=by rw [h.n];exact h.nd
theorem Fx.g(h:Fx X N sc k full)(hg:sc.names.lookup x=some .globalImplicit:=by rfl):Gl X x:=by
 show X.env.kindOf x=some .globalImplicit
 unfold Env.kindOf
 rw [h.sc]
 exact hg
theorem Fx.v(h:Fx X N sc k full)(i:Nat)(hN:N[i]?=some x:=by rfl)(hv:fY sc x:=by first | exact cw rfl | exact bo (cw rfl) | exact bo (bo rfl))(hd:(x==("__debug__":Str))=false:=by rfl)
  (cK:(x==("__classdict__":Str))=false:=by rfl):EV X (.Name x pos) (eV i):=P0 i (h.ix hN) (h.mF hv) hd cK
theorem Fx.bv(h:Fx X N sc k full)(i:Nat)(hN:N[i]?=some x:=by rfl)(hv:fY sc x:=by first | exact cw rfl | exact bo (cw rfl) | exact bo (bo rfl))(hd:(x==("__debug__":Str))=false:=by rfl)
  (cK:(x==("__classdict__":Str))=false:=by rfl):BV X (.Name x pos) (bV i):=PQ i (h.ix hN) (h.mF hv) hd cK
theorem Fx.tg(h:Fx X N sc k full)(i:Nat)(hN:N[i]?=some x:=by rfl)(hv:Loc sc x:=by first | exact cw rfl | exact bo rfl)(hf:full=true\/sc.names.lookup x=some .local:=by first | exact cw rfl | exact bo rfl):GV X (.Name x pos) (gN i):=Q1 h.qR (h.ix hN) (h.loc hv) (h.qM hf)
theorem Fx.set(h:Fx X N sc k full)(i:Nat)(he:EV X e fa)(hN:N[i]?=some x:=by rfl)(hv:Loc sc x:=by first | exact cw rfl | exact bo rfl)
  (hs:swapsWith e (some (.Name x pos')) pos.line X.env=pure false:=by rfl)(hf:full=true\/sc.names.lookup x=some .local:=by first | exact cw rfl | exact bo rfl):SV X (.Assign [.Name x pos'] e pos) (de i fa):=Qc h.qR (h.ix hN) (h.loc hv) he hs (h.qM hf)
theorem Fx.aM(h:Fx X N sc k full)(i:Nat)(he:EV X e fa)(hN:N[i]?=some x:=by rfl)(hv:Loc sc x:=by first | exact cw rfl | exact bo rfl)
  (hs:swapsWith e (some (.Name x pos')) pos.line X.env=pure false:=by rfl)(hf:full=true\/sc.names.lookup x=some .local:=by first | exact cw rfl | exact bo rfl):SV X (.Assign [.Name x pos'] e pos) (bJ i fa):=Q3 h.qR (h.ix hN) (h.loc hv) he hs (h.qM hf)
theorem Fx.kK(h:Fx X N sc k full)(i:Nat)(hN:N[i]?=some x:=by rfl)(hv:fY sc x:=by first | exact cw rfl | exact bo (cw rfl) | exact bo (bo rfl))(hd:(x==("__debug__":Str))=false:=by rfl)
  (cK:(x==("__classdict__":Str))=false:=by rfl):SV X (.Return (some (.Name x p2)) pos) (mh i):=Rc i (h.ix hN) (h.mF hv) hd cK
theorem Fx.app(h:Fx X N sc k full)(i:Nat)(ha:EV X e fa)(hN:N[i]?=some x:=by rfl)(hv:fY sc x:=by first | exact cw rfl | exact bo (cw rfl) | exact bo (bo rfl))(hd:(x==("__debug__":Str))=false:=by rfl)
  (cK:(x==("__classdict__":Str))=false:=by rfl)(hs:starEach [e] X.env=[(false,eval e X.env)]:=by rfl)
  (cc:attributeBase (.Name x p1) "append" X.env (eval (.Name x p1) X.env)=eval (.Name x p1) X.env:=by rfl)
  (gj:((backTo aV (starEach [e] X.env)).all (λx=>!x.1)&&(backToKw aV (keywordEach [] X.env)).all (λx=>x.1.isSome)
   && decide ([e].length+([]:List Keyword).length+(if ([]:List Keyword).isEmpty then 0 else 1)<30))=true:=by rfl)
  (bZ:(p2.endLine==aV.line)=true:=by rfl)
  (pF:swapsWith (.Call (.Attribute (.Name x p1) "append" p2) [e] [] aV) none pos.line X.env=pure false:=by rfl):
  SV X (.Expr (.Call (.Attribute (.Name x p1) "append" p2) [e] [] aV) pos) (cR i fa):=TC ha (h.ix hN) (h.mF hv) hd cK hs cc gj bZ pF
theorem Fx.ext(h:Fx X N sc k full)(i:Nat)(ha:EV X e fa)(hN:N[i]?=some x:=by rfl)(hv:fY sc x:=by first | exact cw rfl | exact bo (cw rfl) | exact bo (bo rfl))(hd:(x==("__debug__":Str))=false:=by rfl)
  (cK:(x==("__classdict__":Str))=false:=by rfl)(hs:starEach [e] X.env=[(false,eval e X.env)]:=by rfl)
  (cc:attributeBase (.Name x p1) "extend" X.env (eval (.Name x p1) X.env)=eval (.Name x p1) X.env:=by rfl)
  (gj:((backTo aV (starEach [e] X.env)).all (λx=>!x.1)&&(backToKw aV (keywordEach [] X.env)).all (λx=>x.1.isSome)
   && decide ([e].length+([]:List Keyword).length+(if ([]:List Keyword).isEmpty then 0 else 1)<30))=true:=by rfl)
  (bZ:(p2.endLine==aV.line)=true:=by rfl)
  (pF:swapsWith (.Call (.Attribute (.Name x p1) "extend" p2) [e] [] aV) none pos.line X.env=pure false:=by rfl):
  SV X (.Expr (.Call (.Attribute (.Name x p1) "extend" p2) [e] [] aV) pos) (iF i fa):=TF ha (h.ix hN) (h.mF hv) hd cK hs cc gj bZ pF
theorem Fx.pop(h:Fx X N sc k full)(i j:Nat){x y:Str}(hN:N[i]?=some x:=by rfl)(hx:Loc sc x:=by first | exact cw rfl | exact bo rfl)(A9:N[j]?=some y:=by rfl)(hv:fY sc y:=by first | exact cw rfl | exact bo (cw rfl) | exact bo (bo rfl))
  (hd:(y==("__debug__":Str))=false:=by rfl)(cK:(y==("__classdict__":Str))=false:=by rfl)
  (cc:attributeBase (.Name y p1) "pop" X.env (eval (.Name y p1) X.env)=eval (.Name y p1) X.env:=by rfl)
  (bZ:(p2.endLine==aV.line)=true:=by rfl)
  (hs:swapsWith (.Call (.Attribute (.Name y p1) "pop" p2) [] [] aV) (some (.Name x pos')) pos.line X.env=pure false:=by rfl)(hf:full=true\/sc.names.lookup x=some .local:=by first | exact cw rfl | exact bo rfl):
  SV X (.Assign [.Name x pos'] (.Call (.Attribute (.Name y p1) "pop" p2) [] [] aV) pos) (iE i j):=TH h.qR (h.ix hN) (h.loc hx) (h.ix A9) (h.mF hv) hd cK cc bZ hs (h.qM hf)
theorem Fx.item(h:Fx X N sc k full)(i:Nat){x:Str}(ha:EV X e fa)(hb:EV X b fb)(hN:N[i]?=some x:=by rfl)(hv:fY sc x:=by first | exact cw rfl | exact bo (cw rfl) | exact bo (bo rfl))(hd:(x==("__debug__":Str))=false:=by rfl)
  (cK:(x==("__classdict__":Str))=false:=by rfl)
  (kU:∀v,assign (.Subscript (.Name x p1) b p2) X.env v=(do
   let ov <-holding [v] (eval (.Name x p1) X.env)
   let iv <-holding [v,ov] (eval b X.env)
   standAt p2
   holding [v,ov,iv] (setItem ov iv v)
   release [v,ov,iv] []):=by intro _;rfl)
  (hs:swapsWithSole [.Subscript (.Name x p1) b p2] e pos.line X.env=pure false:=by rfl)(hw:swappedStores [.Subscript (.Name x p1) b p2] e X.env=pure none:=by rfl)
  (h1:(assignEach [.Subscript (.Name x p1) b p2] X.env).map (·.2)=[assign (.Subscript (.Name x p1) b p2) X.env]:=by rfl):
  SV X (.Assign [.Subscript (.Name x p1) b p2] e pos) (rD i fa fb):=Rb ha hb (h.ix hN) (h.mF hv) hd cK kU hs hw h1
end
theorem t4{us:List Value}(h:us.length=0):us=[]:=by
 exact FX.mp h
theorem Gr{us:List Value}(h:us.length=1):∃a0,us=[a0]:=by
 cases us with
 | nil=>cases h
 | cons a r =>
  have:=t4 (us:=r) (by simpa using h)
  exact ⟨a,by rw [this]⟩
theorem Gu{us:List Value}(h:us.length=2):∃a0 a1,us=[a0,a1]:=by
 cases us with
 | nil=>cases h
 | cons a r =>
  have:=Gr (us:=r) (by simpa using h)
  obtain ⟨b0,e⟩:=this
  exact ⟨a,b0,by rw [e]⟩
theorem Gv{us:List Value}(h:us.length=3):∃a0 a1 a2,us=[a0,a1,a2]:=by
 cases us with
 | nil=>cases h
 | cons a r =>
  have:=Gu (us:=r) (by simpa using h)
  obtain ⟨b0,b1,e⟩:=this
  exact ⟨a,b0,b1,by rw [e]⟩
theorem tZ{us:List Value}(h:us.length=4):∃a0 a1 a2 a3,us=[a0,a1,a2,a3]:=by
 cases us with
 | nil=>cases h
 | cons a r =>
  have:=Gv (us:=r) (by simpa using h)
  obtain ⟨b0,b1,b2,e⟩:=this
  exact ⟨a,b0,b1,b2,by rw [e]⟩
section
variable {P:Program}{w:World}{K:aC}{mg:Str->Option Value}{base:Heap}
theorem Bk{x qual:Str}{st:Stmt}{f:Addr}{fd:FuncData}{N ps:List Str}{k:Nat}{F:SF}(Fn:oX K x qual st f fd)(S:cM N ps (dI st))
  (cY:∀X:Cx,X.prog=P->X.w=w->X.K=K->X.mg=mg->X.base=base->Fx X N (dI st) k->jD X (fL st) F):cu P w K mg base jn (k+1) f fd ps (nM K ps.length (aJ F N.length)):=
 Bl Fn S λcG A outer s H E hr=>cY _ rfl rfl rfl rfl rfl ⟨rfl,rfl,rfl,λ_ _=>rfl,FG,hr,S.nd,λ_=>⟨rfl,rfl,rfl⟩⟩
end
def Oz(P:Program)(w:World)(K:aC)(mg:Str->Option Value)(base:Heap)(x:Str)(st:Stmt)(ps:List Str)(j:Nat)(φ:List D->Option Sl):Prop:=∃f fd,Def K mg x st ps f fd/\cu P w K mg base jn j f fd ps (nM K ps.length φ)
inductive Sx:Cx->Program->World->aC->(Str->Option Value)->Heap->Prop
 | mk (X:Cx):Sx X X.prog X.w X.K X.mg X.base
theorem uS{P:Program}{w:World}{K:aC}{mg:Str->Option Value}{base:Heap}{x:Str}{st:Stmt}{f:Addr}{fd:FuncData}{N ps:List Str}{k:Nat}{F:SF}(D':Def K mg x st ps f fd)
  (cY:∀X:Cx,Sx X P w K mg base->Fx X N (dI st) k->jD X (fL st) F)(S:cM N ps (dI st):=by exact ⟨rfl,rfl,rfl,by decide +kernel,rfl,by decide +kernel,by decide +kernel⟩):cu P w K mg base jn (k+1) f fd ps (nM K ps.length (aJ F N.length)):=
 Bk D'.fn S λX e1 e2 e3 e4 e5=>by subst e1 e2 e3 e4 e5;exact cY X (.mk X)
theorem aU{P:Program}{w:World}{K:aC}{mg:Str->Option Value}{base:Heap}{x:Str}{st:Stmt}{f:Addr}{fd:FuncData}{N ps:List Str}{k:Nat}{F:SF}(D':Def K mg x st ps f fd)
  (cY:∀X:Cx,Sx X P w K mg base->Fx X N (dI st) k->jD X (fL st) F)(S:cM N ps (dI st):=by exact ⟨rfl,rfl,rfl,by decide +kernel,rfl,by decide +kernel,by decide +kernel⟩):Oz P w K mg base x st ps (k+1) (aJ F N.length):=
 ⟨f,fd,D',uS D' cY S⟩
theorem Ah{X X':Cx}{x:Str}{st:Stmt}{ps:List Str}{j:Nat}{φ:List D->Option Sl}(e1:X'.prog=X.prog)(e2:X'.w=X.w)(e3:X'.K=X.K)(e4:X'.mg=X.mg)(e5:X'.base=X.base)(O:Oz X.prog X.w X.K X.mg X.base x st ps j φ):Oz X'.prog X'.w X'.K X'.mg X'.base x st ps j φ:=by
 rw [e1,e2,e3,e4,e5];exact O
theorem Fx.cl{X:Cx}{N:List Str}{sc:Scope}{k j:Nat}{full:Bool}{x:Str}{st:Stmt}{ps:List Str}{φ:List D->Option Sl}{e:Expr}{es:List Expr}{fs:En->Option (List D)}{p pos:Pos}(h:Fx X N sc k full)(O:Oz X.prog X.w X.K X.mg X.base x st ps j φ)(ha:AV X (e::es) fs)(hj:j<=k:=by decide)(hg:sc.names.lookup x=some .globalImplicit:=by rfl)(lh:(x==("__debug__":Str))=false:=by decide)(he:starEach (e::es) X.env=(false,eval e X.env)::starEach es X.env:=by rfl)(ei:(backTo pos (starEach es X.env)).any (·.1)=false:=by rfl):
  EV X (.Call (.Name x p) (e::es) [] pos) (aR ps.length φ fs):=by
 obtain ⟨f,fd,D',F⟩:=O
 exact QX F (h.room.mono hj) (h.g hg) D'.m D'.fn.kp D'.bd ha lh he ei
structure FI(K:aC)(n:Str)(t:Stmt)(f:Addr)(od an:Option Addr)(sl:Array (Option Value))(oc kV dc pm cd ct:Value):Prop where
 a:ko K mainGlobals n=some (some (.ref f))
 l:K.lookup f=some ⟨oc,od,.func (gy n n (iD t) (fL t) (dI t) .none kV dc pm an cd ct),sl⟩
 c:ym K cd n=true
 k:qa K (.ref f)=true
section
variable {K:aC}{mg:Str->Option Value}{h:Heap}{n:Str}{t:Stmt}{f:Addr}{od an:Option Addr}{sl:Array (Option Value)}{oc kV dc pm cd ct:Value}{ps:List Str}
theorem xk(X:K.In h)(G:h.Ns mainGlobals mg)(i:FI K n t f od an sl oc kV dc pm cd ct)(hb:∀(kV doc pm:Value) (an:Option Addr) (cG ct:Value) (us:List Value),us.length=ps.length->bindArgs (gy n n (iD t) (fL t) (dI t) .none kV doc pm an cG ct) ⟨us,[]⟩=pure (ps.zip us)):Def K mg n t ps f (gy n n (iD t) (fL t) (dI t) .none kV dc pm an cd ct):=
 ⟨GU i.l i.c i.k,(GU i.l i.c i.k).binds hb,PySem.W.mg_of X G i.a⟩
theorem fD(X:K.In h)(G:h.Ns mainGlobals mg)(i:FI K n t f od an sl oc kV dc pm cd ct)(hb:∀(kV doc pm:Value) (an:Option Addr) (cG ct a0:Value),bindArgs (gy n n (iD t) (fL t) (dI t) .none kV doc pm an cG ct) ⟨[a0],[]⟩=pure (ps.zip [a0]):=by intros;rfl)(hl:ps.length=1:=by rfl):Def K mg n t ps f (gy n n (iD t) (fL t) (dI t) .none kV dc pm an cd ct):=
 xk X G i λ_ _ _ _ _ _ us hu=>by obtain ⟨_,rfl⟩:=Gr (hu.trans hl);exact hb ..
theorem ck(X:K.In h)(G:h.Ns mainGlobals mg)(i:FI K n t f od an sl oc kV dc pm cd ct)(hb:∀(kV doc pm:Value) (an:Option Addr) (cG ct a0 a1:Value),bindArgs (gy n n (iD t) (fL t) (dI t) .none kV doc pm an cG ct) ⟨[a0,a1],[]⟩=pure (ps.zip [a0,a1]):=by intros;rfl)(hl:ps.length=2:=by rfl):Def K mg n t ps f (gy n n (iD t) (fL t) (dI t) .none kV dc pm an cd ct):=
 xk X G i λ_ _ _ _ _ _ us hu=>by obtain ⟨_,_,rfl⟩:=Gu (hu.trans hl);exact hb ..
theorem kS(X:K.In h)(G:h.Ns mainGlobals mg)(i:FI K n t f od an sl oc kV dc pm cd ct)(hb:∀(kV doc pm:Value) (an:Option Addr) (cG ct a0 a1 a2:Value),bindArgs (gy n n (iD t) (fL t) (dI t) .none kV doc pm an cG ct) ⟨[a0,a1,a2],[]⟩=pure (ps.zip [a0,a1,a2]):=by intros;rfl)(hl:ps.length=3:=by rfl):Def K mg n t ps f (gy n n (iD t) (fL t) (dI t) .none kV dc pm an cd ct):=
 xk X G i λ_ _ _ _ _ _ us hu=>by obtain ⟨_,_,_,rfl⟩:=Gv (hu.trans hl);exact hb ..
theorem px(X:K.In h)(G:h.Ns mainGlobals mg)(i:FI K n t f od an sl oc kV dc pm cd ct)(hb:∀(kV doc pm:Value) (an:Option Addr) (cG ct a0 a1 a2 a3:Value),bindArgs (gy n n (iD t) (fL t) (dI t) .none kV doc pm an cG ct) ⟨[a0,a1,a2,a3],[]⟩=pure (ps.zip [a0,a1,a2,a3]):=by intros;rfl)(hl:ps.length=4:=by rfl):Def K mg n t ps f (gy n n (iD t) (fL t) (dI t) .none kV dc pm an cd ct):=
 xk X G i λ_ _ _ _ _ _ us hu=>by obtain ⟨_,_,_,_,rfl⟩:=tZ (hu.trans hl);exact hb ..
end
end DL
namespace DL
open PySem L2
theorem P4(i j:Int):bp (.int i) (.int j)=some (.sh (.int (i-j))):=rfl
end DL
namespace DL
open PySem PySem.Spec PyProof.Rows L2
def yM(K:aC)(O:Addr->Prop)(J:It)(H:Hp)(ds:List D):Prop:=
 ∀(O':Addr->Prop) (H2:Hp),(∀q u,H q=some u->¬O q->H2 q=some u/\¬O' q)->(∀q,O' q->H2 q≠none) ->
  ∀i:Nat,(∀d,ds[i]?=some d->J.go i H2/\∀x H3,J.oZ i H2 x H3->ar H2 H3/\Is K O' H3 x d)/\(ds.length<=i->J.stop i H2)
def IV(X:Cx)(tg it:Expr)(f:En->Option (List D)):Prop:=
 ∃wi:TI,PI X tg it wi/\∀(O:Addr->Prop) (B:Hp) (σ:L2.St) (H:Hp) (env:En) (ds:List D) (R:It->Hp->Prop),Rel X.K O B σ H env->f env=some ds ->
  (∀J H',ar H H'->yM X.K (OO O σ env) J H' ds->R J H')->wi σ H R
theorem Q9{K:aC}{O:Addr->Prop}{H H2:Hp}{k:Bool}{p:Addr}{xs:List V}(kp:∀q u,H q=some u->¬O q->H2 q=some u)(h:Sq K H k p xs)(hp:¬O p):Sq K H2 k p xs:=by
 cases k with
 | true =>
  rcases h with (h | ⟨o,h⟩) | h
  .exact .inl (.inl (kp _ _ h hp))
  .exact .inl (.inr ⟨o,kp _ _ h hp⟩)
  .exact .inr h
 | false =>
  rcases h with (h | ⟨o,h⟩) | h
  .exact .inl (.inl (kp _ _ h hp))
  .exact .inl (.inr ⟨o,kp _ _ h hp⟩)
  .exact .inr h
noncomputable def gL(f:En->Option Sl):En->Option (List D):=λenv=>(f env).bind λr=>(dk r.d).map (·.2)
section
variable {X:Cx}{tg it:Expr}{fa:En->Option Sl}
theorem vT(hi:EV X it fa):IV X tg it (gL fa):=by
 obtain ⟨ti,pi,ki⟩:=hi
 refine ⟨_,G2 pi,λO B σ H env ds R Rl e q=>?_⟩
 obtain ⟨r,e1,e2⟩:=bind_some e
 obtain ⟨⟨k,ej⟩,e4,e5⟩:=map_some e2
 cases e5
 refine ki O B σ H env r _ Rl e1 λv H1 s1 r1=>?_
 obtain ⟨p,xs,rfl,h1,h2,h3⟩:=(r1.is λq=>Rl.oo).sT e4
 refine ⟨p,rfl,?_⟩
 have key:∀(O':Addr->Prop) (H2:Hp),(∀q u,H1 q=some u->¬OO O σ env q->H2 q=some u/\¬O' q)->Sq X.K H2 k p xs/\aH X.K O' H2 xs ej:=λO' H2 kp=>by
  refine ⟨?_,h2.map (λq hq hn=>?_) λq u e n=>(kp q u e n).1⟩
  .rcases h3 with h3 | h3
   .exact Q9 (λq u e n=>(kp q u e n).1) h1 h3
   .exact h3 H2
  .cases e:H1 q with
   | none=>exact (hq e).elim
   | some u=>exact (kp q u e hn).2
 cases k with
 | true =>
  refine .inl ⟨⟨xs,h1⟩,q _ H1 s1 λO' H2 kp hO i=>⟨λd hd=>?_,λhl=>?_⟩⟩
  .obtain ⟨hq,hs⟩:=key O' H2 kp
   obtain ⟨x,hx,uC⟩:=hs.get hd
   refine ⟨⟨xs,x,hq,hx⟩,λy H3 hy=>?_⟩
   obtain ⟨rfl,hy⟩:=hy
   have:=hy xs hq
   rw [hx] at this
   cases this
   exact ⟨ar.refl _,uC⟩
  .obtain ⟨hq,hs⟩:=key O' H2 kp
   exact ⟨xs,hq,by rw [hs.length];exact hl⟩
 | false =>
  refine .inr ⟨⟨xs,h1⟩,q _ H1 s1 λO' H2 kp hO i=>⟨λd hd=>?_,λhl=>?_⟩⟩
  .obtain ⟨hq,hs⟩:=key O' H2 kp
   obtain ⟨x,hx,uC⟩:=hs.get hd
   refine ⟨⟨xs,x,hq,hx⟩,λy H3 hy=>?_⟩
   obtain ⟨rfl,hy⟩:=hy
   have:=hy xs hq
   rw [hx] at this
   cases this
   exact ⟨ar.refl _,uC⟩
  .obtain ⟨hq,hs⟩:=key O' H2 kp
   exact ⟨xs,hq,by rw [hs.length];exact hl⟩
theorem HG{K:aC}{O:Addr->Prop}{H:Hp}(lo:Int)(n:Nat):yM K O (jF lo n) H (cS lo n):=λO' H2 _ _ i=>by
 refine ⟨λd hd=>?_,λhl=>show n<=i by simpa [cS] using hl⟩
 unfold cS at hd
 rw [rB] at hd
 obtain ⟨k,hk,rfl⟩:=map_some hd
 obtain ⟨hi,rfl⟩:=lK.mp hk
 rw [List.length_range] at hi
 refine ⟨hi,λx H3 hy=>?_⟩
 obtain ⟨rfl,rfl⟩:=hy
 rw [List.getElem_range]
 exact ⟨ar.refl _,Is.int _⟩
noncomputable def lu(h:List D->Option (List D))(f:En->Option (List D)):En->Option (List D):=λenv=>(f env).bind h
noncomputable def Cs(f:En->Option (List D))(g:GF)(F:SF):SF:=λenv=>(f env).bind λds=>forL g F ds env
theorem Ra(hp:PassesOwn (model X.prog X.w) X.A X.env X.xe)(hc:X.calm=true)(hi:IV X tg it fi)(hg:GV X tg g)(hb:jD X body F)
  (hs:∀x,foldedSetIterable it X.env x=pure x:=by intro _;rfl):SV X (.For tg it body [] pos) (Cs fi g F):=by
 obtain ⟨wi,pi,ki⟩:=hi
 obtain ⟨mG,pg,kg⟩:=hg
 obtain ⟨tb,pb,kb⟩:=hb
 refine ⟨_,CM hp hc pi pg pb hs,λO B σ H env fl ai D R e q=>?_⟩
 obtain ⟨ds,e1,e2⟩:=bind_some e
 refine ki O B σ H env ds _ R e1 λJ H1 s1 wk=>?_
 have q':cF X.K O B σ H1 env D fl ai:=q.from (Gd.refl s1)
 refine ⟨λi m bW H2=>m=ds.length-i/\i<=ds.length/\Left X.K O B σ H1 env g F ds fl ai i bW H2,⟨ds.length,by simp,oh _,⟨env,R.grow s1,Gd.refl (ar.refl _),e2⟩⟩,?_⟩
 rintro i m bW H2 ⟨rfl,hi,L⟩
 obtain ⟨aZ,R2,gd,ee⟩:=id L
 have w:=wk (OO O bW aZ) H2 (λa u ea na=>by
  obtain ⟨h1,h2⟩:=gd a u ea λz=>na (.inr z)
  exact ⟨h1,λz=>z.elim (λz=>na (.inl z)) h2⟩) (λa=>R2.oo) i
 by_cases bx:i<ds.length
 .obtain ⟨go,yl⟩:=w.1 ds[i] (by simp [bx])
  refine .inr ⟨go,Left X.K O B σ H1 env g F ds fl ai (i+1),λaA H' p'=>⟨ds.length-(i+1),by ext bx,rfl,bx,p'⟩,λx H3 hy=>?_⟩
  obtain ⟨s3,hx⟩:=yl x H3 hy
  have uz:ds.drop i=ds[i]::ds.drop (i+1):=jx bx
  rw [uz,forL] at ee
  cases A0:g ds[i] aZ with
  | none=>rw [A0] at ee;cases ee
  | some iQ =>
   rw [A0] at ee
   refine kg O B bW H3 aZ iQ x ds[i] _ (R2.grow s3) hx A0 λJn H4 R4 g4=>?_
   dsimp only at ee
   cases hF:F iQ with
   | none=>rw [hF] at ee;cases ee
   | some y =>
    obtain ⟨f2,dW⟩:=y
    rw [hF] at ee
    have Bd:=gd.trans ((Gd.refl s3).trans g4)
    refine kb O B Jn H4 iQ f2 dW _ R4 hF ?_
    cases f2 with
    | nx=>exact λzE H5 R5 g5=>⟨dW,R5,Bd.trans g5,ee⟩
    | ct=>exact λzE H5 R5 g5=>⟨dW,R5,Bd.trans g5,ee⟩
    | bk=>cases ee;exact λzE H5 R5 g5=>q' zE H5 R5 (Bd.trans g5)
    | rt r=>cases ee;exact q'
 .exact .inl ⟨w.2 (by ext bx),y6 (by ext bx) q' L⟩
end
noncomputable def rl(bK sc:Scope):Scope:=
 { bK with names:=bK.names.map λ(n,k)=>if (k==.free&&sc.kind==.function&&sc.names.lookup n==some .cell) then (n,.cell) else (n,k) }
theorem DH{sc:Scope}:∀{names:List (Str×NameKind)} {x:Str} {k:NameKind},names.lookup x=some k ->
  (names.map λ(n,k)=>if (k==jU&&sc.kind==.function&&sc.names.lookup n==some .cell) then (n,p9) else (n,k)).lookup x=some (if (k==jU&&sc.kind==.function&&sc.names.lookup x==some .cell) then p9 else k)
 | [],_,_,h=>by simp at h
 | (n,k')::r,x,k,h=>by
  have ih:=@DH sc r x k
  show List.lookup x ((if (k'==jU&&sc.kind==.function&&sc.names.lookup n==some .cell)=true then (n,p9) else (n,k'))::_)=_
  cases hx:x==n with
  | true =>
   simp only [jW,hx] at h
   cases h
   have e:x=n:=by simpa using hx
   subst e
   split<;>simp [jW]
  | false =>
   simp only [jW,hx] at h
   split
   .simp only [jW,hx];exact ih h
   .simp only [jW,hx];exact ih h
theorem Te{sc:Scope}:∀{names:List (Str×NameKind)} {x:Str} {k:NameKind},
  (names.map λ(n,k)=>if (k==jU&&sc.kind==.function&&sc.names.lookup n==some .cell) then (n,p9) else (n,k)).lookup x=some k->∃k',names.lookup x=some k'/\k=if (k'==jU&&sc.kind==.function&&sc.names.lookup x==some .cell) then p9 else k'
 | names,x,k,h=>by
  cases e:names.lookup x with
  | some k'=>have:=DH (sc:=sc) e;rw [h] at this;exact ⟨k',rfl,bQ this⟩
  | none =>
   exfalso
   induction names with
   | nil=>simp at h
   | cons y r ih =>
    obtain ⟨n,k'⟩:=y
    have h':List.lookup x ((if (k'==jU&&sc.kind==.function&&sc.names.lookup n==some .cell)=true then (n,p9) else (n,k'))::(r.map λ(n,k)=>if (k==jU&&sc.kind==.function&&sc.names.lookup n==some .cell) then (n,p9) else (n,k)))=some k:=h
    cases hx:x==n with
    | true=>simp [jW,hx] at e
    | false =>
     simp only [jW,hx] at e
     apply ih _ e
     split at h'
     .simpa only [jW,hx] using h'
     .simpa only [jW,hx] using h'
noncomputable def dt(cells:List (Str×Addr)):List (Str×NameKind)->List (Str×Addr)->List (Str×Addr)
 | [],acc=>acc
 | (n,k)::r,acc=>dt cells r (if k==.free then (n,(cells.lookup n).getD 0)::acc else acc)
theorem DU:∀(names:List (Str×NameKind)) (acc:List (Str×Addr)),(∀y∈names,y.2=.free->∃c,env.cells.lookup y.1=some c) ->
  (forIn names acc λ(x:Str×NameKind) r=>(if (x.2==.free)=true then do let a <-cellOf env x.1;pure (me ((x.1,a)::r)) else pure (me r):Sem (ForInStep (List (Str×Addr)))))=pure (dt env.cells names acc)
 | [],acc,_=>rfl
 | (n,k)::r,acc,h=>by
  rw [List.forIn_cons]
  have hr:∀y∈r,y.2=.free->∃c,env.cells.lookup y.1=some c:=λy hy=>h y (dj _ hy)
  cases hk:k==jU with
  | true =>
   have ek:k=.free:=by simpa using hk
   obtain ⟨c,hc⟩:=h (n,k) cP ek
   replace hc:env.cells.lookup n=some c:=hc
   have Nj:cellOf env n=pure c:=by unfold cellOf;rw [hc]
   simp only [if_true]
   rw [Nj]
   simp only [pure_bind]
   rw [DU r _ hr]
   conv=>rhs;unfold dt
   rw [hk,hc]
   rfl
  | false =>
   simp only [vv,if_false,pure_bind]
   rw [DU r _ hr]
   conv=>rhs;unfold dt
   rw [hk]
   rfl
theorem Um(h:∀y∈sc.names,y.2=.free->∃c,env.cells.lookup y.1=some c):closureFor sc env=pure (dt env.cells sc.names []):=by
 unfold closureFor
 rw [<-DU sc.names [] h]
 show (forIn sc.names [] _ >>= λcs=>pure cs)=_
 rw [bind_pure]
theorem HR:∀(names:List (Str×NameKind)) (acc:List (Str×Addr)) {c:Addr},(dt cells names acc).lookup x=some c->acc.lookup x=some c\/((x,jU)∈names/\c=(cells.lookup x).getD 0)
 | [],acc,c,h=>.inl h
 | (n,k)::r,acc,c,h=>by
  unfold dt at h
  rcases HR r _ h with h1 | ⟨h,e⟩
  .clear h
   have h:=h1
   clear h1
   cases hk:k==jU with
   | false=>rw [hk] at h;exact .inl (by simpa using h)
   | true =>
    rw [hk] at h
    simp only [if_true] at h
    have ek:k=.free:=by simpa using hk
    cases hx:x==n with
    | true =>
     simp only [jW,hx] at h
     have e:x=n:=by simpa using hx
     subst e ek
     exact .inr ⟨cP,(bQ h).symm⟩
    | false =>
     simp only [jW,hx] at h
     exact .inl h
  .exact .inr ⟨dj _ h,e⟩
theorem Il:∀(names:List (Str×NameKind)) (acc:List (Str×Addr)),((∃c,acc.lookup x=some c)\/(x,jU)∈names)->∃c,(dt cells names acc).lookup x=some c
 | [],acc,h=>h.elim id λz=>nomatch z
 | (n,k)::r,acc,h=>by
  unfold dt
  refine Il r _ ?_
  cases hk:k==jU with
  | false =>
   rcases h with h | h
   .exact .inl (by simpa using h)
   .rcases cU.mp h with e | h
    .cases e;simp at hk
    .exact .inr h
  | true =>
   simp only [if_true]
   cases hx:x==n with
   | true=>exact .inl ⟨_,by simp only [jW,hx];rfl⟩
   | false =>
    rcases h with ⟨c,h⟩ | h
    .exact .inl ⟨c,by simp only [jW,hx];exact h⟩
    .rcases cU.mp h with e | h
     .cases e;simp at hx
     .exact .inr h
structure bS(N:List Str)(sc:Scope)(N':List Str)(caps:List Nat)(nt:Nat)(bK:Scope):Prop where
 kind:bK.kind=.function
 loc:∀y∈bK.names,y.2=.local->bK.names.lookup y.1=some .local
 kR:∀y∈bK.names,y.2≠.cell
 free:∀y∈bK.names,y.2=.free->sc.names.lookup y.1=some .cell\/sc.names.lookup y.1=some .free
 nd:N'.Nodup
 len:N'.length=nt+caps.length
 Pn:caps.map (λi=>N[i]?)=(N'.drop nt).map some
 fr:∀x∈N'.drop nt,bK.names.lookup x=some .free
theorem Ew{names:List (Str×NameKind)}{x:Str}(h:names.lookup x=some k):(x,k)∈names:=rg h
noncomputable def fF:List Nat->En->Option En
 | [],_=>some []
 | i::is,env=>match env[i]? with
  | some (.sh d)=>(fF is env).map (Sl.sh d::·)
  | _=>none
noncomputable def jy(g:GF)(fc:En->Option Bool)(fe:En->Option Sl):List D->En->Option (List D)
 | [],_=>some []
 | d::ds,e=>(g d e).bind λe1=>(fc e1).bind λb=>if b=true then (fe e1).bind λr=>(jy g fc fe ds e1).bind λrs=>some (r.d::rs) else jy g fc fe ds e1
noncomputable def iq(fi:En->Option (List D))(caps:List Nat)(nt:Nat)(g:GF)(fc:En->Option Bool)(fe:En->Option Sl):En->Option Sl:=λenv =>
 (fi env).bind λds=>(fF caps env).bind λcs=>if ds.length<=16777216 then (jy g fc fe ds (fV nt Sl.no++cs)).map Sl.ow else none
noncomputable def cT:List Nat->L2.St->L2.St
 | [],_=>[]
 | i::is,σ=>(σ[i]?).getD none::cT is σ
theorem Hd{K:aC}{O:Addr->Prop}{B:Hp}{σ:L2.St}{H:Hp}{env:En}(R:Rel K O B σ H env):∀{caps:List Nat} {cs:En},fF caps env=some cs->cs.length=caps.length/\(cT caps σ).length=caps.length /\
  ∀(j:Nat) (s:Sl),cs[j]?=some s->∃(d:D) (v:V) (i:Nat),s=Sl.sh d/\(cT caps σ)[j]?=some (some v)/\Is K (OO O σ env) H v d/\caps[j]?=some i/\σ[i]?=some (some v)
 | [],cs,e=>by cases e;exact ⟨rfl,rfl,λj s h=>by simp at h⟩
 | i::is,cs,e=>by
  unfold fF at e
  cases h:env[i]? with
  | none=>rw [h] at e;cases e
  | some s =>
   rw [h] at e
   cases s with
   | no=>cases e
   | ow ds=>cases e
   | dw ds=>cases e
   | sh d =>
    obtain ⟨Wc,e1,rfl⟩:=map_some (show (fF is env).map (Sl.sh d::·)=some cs from e)
    obtain ⟨l1,l2,ih⟩:=Hd R e1
    obtain ⟨v,hv,hi⟩:=R.sh i d h
    refine ⟨by simp [l1],by simp [cT,l2],λj s hj=>?_⟩
    cases j with
    | zero=>simp at hj;subst hj;exact ⟨d,v,i,rfl,by simp [cT,hv],hi,rfl,hv⟩
    | succ j =>
     obtain ⟨d',v',i',a1,a2,a3,a4,a5⟩:=ih j s (by simpa using hj)
     exact ⟨d',v',i',a1,by simpa [cT] using a2,a3,by simpa using a4,a5⟩
def zC(X:Cx)(ifs:List Expr)(f:En->Option Bool):Prop:=
 ∃t:TT,(∀(pins:List (Addr×Obj)) (s:Shared) (σ:L2.St) (H:Hp) (Q:Bool->Hp->Prop),Inv X pins σ H s->t σ H Q ->
   wpAny (model X.prog X.w) X.A (forIn ifs true λc r=>if r=true then do let ok <-isTrue c X.env (eval c X.env);pure (me ok) else pure (me r)) (TP X pins σ Q) X.xe s) /\
  ∀(O:Addr->Prop) (B:Hp) (σ:L2.St) (H:Hp) (env:En) (b:Bool) (Q:Bool->Hp->Prop),Rel X.K O B σ H env->f env=some b->(∀H',ar H H'->Q b H')->t σ H Q
noncomputable def oB:En->Option Bool:=λ_=>some true
theorem rL:zC X [] oB:=⟨λ_ H Q=>Q true H,λpins s σ H Q I h=>wpAny_tests_nil ⟨H,I,h⟩,λO B σ H env b Q R e q=>by cases e;exact q H (ar.refl _)⟩
section
variable {prog:Program}{w:World}{A:Around}{R:Result->Shared->Prop}{s:Shared}
theorem TY{elt target iter:Expr}{ifs:List Expr}{scope:Scope}{pos:Pos}{it acc:Value}{env:Env}(I:Nat->Shared->Prop){N:Value->Shared->Prop}(hN:∀x s',N x s'->False)
  (turn:∀n s,I n s->wpAny (model prog w) A (pyNext it) (λr aG=>match r with
   | none=>R (.ok .next) aG
   | some v=>wpAny (model prog w) A (letOwnedTupleGo target it v) (λ_ nL=>wpAny (model prog w) A (assign target env v) (λ_ jG =>
     wpAny (model prog w) A (forIn ifs true λc r=>if r=true then do let ok <-isTrue c env (eval c env);pure (me ok) else pure (me r)) (λok kF =>
      if ok=true then wpAny (model prog w) A (eval elt env) (λx sN =>
       wpAny (model prog w) A (call (.builtin "list.append") [acc,x]) (λ_ sM=>∃m,m<n/\I m sM) N sN) N kF
      else ∃m,m<n/\I m kF) N jG) N nL) N aG) N s)
  (n:Nat)(h:I n s):
  codeAny (model prog w) A (.compLoop (.ListComp elt [⟨target,iter,ifs,0⟩] scope pos) 0 it acc env) R s:=by
 refine codeAny_loop rfl I (λn s hI=>?_) n h
 show wpAny _ A ((compTurn (.ListComp elt [⟨target,iter,ifs,0⟩] scope pos) 0 it acc env).onRaise (λx=>do noteFrame x env;theTreesLotGoes x)) _ _ s
 refine wpAny_noted ?_
 rw [compTurn_list]
 have no:∀{P:Value->Shared->Prop} (x:Value) (s':Shared),N x s'->P x s':=λx s' z=>(hN x s' z).elim
 refine cn (BU (cn (jX (turn n s hI) (λr aG h₁=>?_) no)))
 cases r with
 | none=>exact eN h₁
 | some v =>
  refine cn (jX h₁ (λ_ nL ug=>?_) no)
  refine cn (jX ug (λ_ jG AB=>cn (jX AB (λok kF uf=>?_) no)) no)
  cases ok with
  | false=>exact eN ⟨rfl,uf⟩
  | true =>
   exact cn (cn (jX uf (λx sN AA=>cn (jX AA (λ_ sM Az=>eN (eN ⟨rfl,Az⟩)) no)) no))
end
section
variable {X:Cx}{N N':List Str}{sc bK:Scope}{k:Nat}{full:Bool}{elt iter tg:Expr}{ifs:List Expr}{pos:Pos}{fi:En->Option (List D)}{caps:List Nat}{nt:Nat}{g:GF}{fc:En->Option Bool}{fe:En->Option Sl}
noncomputable def oe(X:Cx)(N':List Str)(bK:Scope)(ex:List Addr)(s:Shared)(H:Hp):Cx where
 prog:=X.prog
 w:=X.w
 K:=X.K
 mg:=X.mg
 base:=X.base
 A:=X.A
 N:=N'
 bX:=s
 lQ:=H
 env:=compEnvC bK (dt X.env.cells bK.names []) s.heap.objs.size X.env
 outer:=X.stack
 stack:=X.stack
 ex:=ex
 fn:=λ_=>false
 calm:=true
 pn:=[]
 xe:=λ_ _=>False
theorem oD(C:bS N sc N' caps nt bK)(kj:X.env.scope=sc){pins:List (Addr×Obj)}{σ:L2.St}{H:Hp}{s:Shared}(I:Inv X pins σ H s){x:Str}{c:Addr}(h:(dt X.env.cells bK.names []).lookup x=some c):X.env.cells.lookup x=some c:=by
 rcases HR _ _ h with h | ⟨h,e⟩
 .simp at h
 .obtain ⟨c',nY⟩:=I.ok.has x (by
   show X.env.scope.names.lookup x=_\/X.env.scope.names.lookup x=_
   rw [kj]
   exact C.free _ h rfl)
  rw [nY] at e
  rw [e];exact nY
theorem GL(h:bK.names.lookup x=some .free):∃c,(dt X.env.cells bK.names []).lookup x=some c:=Il _ _ (.inr (Ew h))
theorem RN(C:bS N sc N' caps nt bK)(kj:X.env.scope=sc)(hc:X.calm=true){pins:List (Addr×Obj)}{σ:L2.St}{H:Hp}{s s3:Shared}{fp:List Addr}(I:Inv X pins σ H s)(I3:Inv X pins σ H s3)
  (hf:∀b∈fp,eM X pins H b)(uy:∀b∈fp,∃o,s3.heap.get? b=some o)(hs:s3.heap.objs.size=s.heap.objs.size+1):(oe X N' bK (s.heap.objs.size::fp) s3 H).Ok:=by
 have small:∀x c,X.env.cells.lookup x=some c->c<s.heap.objs.size:=λx c e=>by
  obtain ⟨v,z⟩:=I.cell x c e
  exact z.lt
 have kd:∀x,((oe X N' bK (s.heap.objs.size::fp) s3 H).env.kindOf x=some .cell\/(oe X N' bK (s.heap.objs.size::fp) s3 H).env.kindOf x=some .free)->bK.names.lookup x=some .free:=λx h=>by
  have h':∃k,(rl bK X.env.scope).names.lookup x=some k/\(k=.cell\/k=.free):=h.elim (λz=>⟨_,z,.inl rfl⟩) λz=>⟨_,z,.inr rfl⟩
  obtain ⟨k,e,hk⟩:=h'
  obtain ⟨k',e1,e2⟩:=Te e
  have nc:k'≠.cell:=C.kR _ (Ew e1)
  by_cases nX:(k'==jU&&X.env.scope.kind==.function&&X.env.scope.names.lookup x==some .cell)=true
  .have:k'=.free:=by
    have:=(BN _ _▸(BN _ _▸nX).1).1
    simpa using this
   rw [e1,this]
  .rw [if_neg nX] at e2
   subst e2
   rcases hk with rfl | rfl
   .exact (nc rfl).elim
   .exact e1
 refine ⟨I.ok.mod,C.kind,I.ok.glob,I.ok.blt,bj _,λx y c h1 h2=>I.ok.inj x y c (oD C kj I h1) (oD C kj I h2),λx h=>GL (kd x h),λ_ _ (z:false=true) _=>(nomatch z),λ_=>I.ok.hd hc,I.ok.frames,.inl rfl,λb hb=>⟨?_,λx c e=>?_⟩,λb o e=>?_,?_,λb o e hb=>?_,λb hb lY=>?_,I3.stack,λb hb=>I.jo b hb⟩
 .show b≠s3.heap.objs.size
  rcases cU.mp hb with rfl | hb
  .rw [hs];exact fH (vm _)
  .obtain ⟨o,e⟩:=uy b hb
   exact fH (cE e)
 .have e':=oD C kj I e
  rcases cU.mp hb with rfl | hb
  .exact fH (small x c e')
  .exact (hf b hb).2.2.2.2.1 x c e'
 .exact I3.bs b o e
 .exact et I.ok.lC I3.sz
 .have lt:b<X.base.objs.size:=cE e
  have h0:=I.ok.lC
  have h1:=I.sz
  rcases cU.mp hb with rfl | hb
  .exact absurd (gz lt (et h0 h1)) (mZ _)
  .rcases (hf b hb).2.2.2.1 with z | z
   .exact I.ok.kQ b o e z
   .exact absurd (gz lt (et h0 z)) (mZ _)
 .rcases cU.mp hb with rfl | hb
  .obtain ⟨_,o,ho,_⟩:=I.stack.mem lY
   exact absurd (cE ho) (mZ _)
  .rcases cU.mp (I.gc b lY) with z | z
   .exact (hf b hb).2.1 z
   .exact (hf b hb).2.2.1 z
theorem yP{α:Type}{n j:Nat}{x y:α}{l:List α}(h:(fV n x++l)[j]?=some y):y=x\/(n<=j/\l[j-n]?=some y):=by
 by_cases hj:j<n
 .rw [qd (by simpa using hj),yr,if_pos hj] at h
  exact .inl (bQ h).symm
 .rw [m5 (by simpa using hj),xZ] at h
  exact .inr ⟨by ext hj,h⟩
theorem SR(C:bS N sc N' caps nt bK)(kj:X.env.scope=sc)(hN:X.N=N)(hc:X.calm=true){pins:List (Addr×Obj)}{σ:L2.St}{H:Hp}{s s3 s4:Shared}{fp:List Addr}(I:Inv X pins σ H s)(I3:Inv X pins σ H s3)
  (hf:∀b∈fp,eM X pins H b)(uy:∀b∈fp,∃o,s3.heap.get? b=some o)(hs:s3.heap.objs.size=s.heap.objs.size+1)
  (MW:s4.os=s3.os)(hg:s4.gens=s3.gens)(hk:∀b o,s3.heap.get? b=some o->s4.heap.get? b=some o)(qX:s4.heap.Ns s3.heap.objs.size λ_=>none):
  Inv (oe X N' bK (s.heap.objs.size::fp) s3 H) [] (fV nt none++cT caps σ) H s4:=by
 have sl:∀(caps:List Nat) (σ:L2.St),(cT caps σ).length=caps.length:=λcaps σ=>by
  induction caps with
  | nil=>rfl
  | cons i r ih=>simp [cT,ih]
 have sg:∀(caps:List Nat) (σ:L2.St) (j:Nat) (v:V),(cT caps σ)[j]?=some (some v)->∃i,caps[j]?=some i/\σ[i]?=some (some v):=λcaps σ=>by
  induction caps with
  | nil=>intro j v h;simp [cT] at h
  | cons i r ih =>
   intro j v h
   cases j with
   | zero =>
    have h':(σ[i]?).getD none=some v:=by simpa [cT] using h
    refine ⟨i,rfl,?_⟩
    cases e:σ[i]? with
    | none=>rw [e] at h';cases h'
    | some o=>rw [e] at h';exact congrArg some h'
   | succ j =>
    obtain ⟨i',e1,e2⟩:=ih j v (by simpa [cT] using h)
    exact ⟨i',by simpa using e1,e2⟩
 refine ⟨RN C kj hc I I3 hf uy hs,MW,by rw [hg];exact I3.bare,Un.kept hk,⟨_,qX,λi x v h1 h2 h3=>?_⟩,λx c e=>?_,I3.bw.fresh (bj _),λx c e=>I3.dh x c (oD C kj I e),λp hp=>absurd (show p∈([]:List (Addr×Obj)) from hp) (by simp),I3.bw.kept hk,?_⟩
 .have h1:N'[i]?=some x:=h1
  rcases yP h2 with z | ⟨hi,h2⟩
  .cases z
  .obtain ⟨i',e1,e2⟩:=sg caps σ _ v h2
   have hd:(N'.drop nt)[i-nt]?=some x:=by rw [List.getElem?_drop,Nat.add_sub_cancel' hi];exact h1
   have hm:=congrArg (λl=>l[i-nt]?) C.Pn
   simp only [rB,e1,hd,vk] at hm
   have Nv:X.N[i']?=some x:=by rw [hN];exact bQ hm
   have A1:=C.fr x (Gb hd)
   have dE:=C.free _ (Ew A1) rfl
   obtain ⟨m,hn,hl⟩:=I3.loc
   obtain ⟨u,r,l⟩:=hl i' x v Nv e2 (by rw [kj];exact .inr dE)
   refine ⟨u,r,.inr ⟨?_,?_⟩⟩
   .have e:=DH (sc:=X.env.scope) A1
    show (rl bK X.env.scope).names.lookup x=_\/(rl bK X.env.scope).names.lookup x=_
    have e':(rl bK X.env.scope).names.lookup x=_:=e
    rw [e']
    split
    .exact .inl rfl
    .exact .inr rfl
   .rcases l with ⟨k,_⟩ | ⟨k,c,e,z⟩
    .exfalso
     have k:X.env.scope.names.lookup x=some .local:=k
     rw [kj] at k
     dsimp only at dE
     rw [k] at dE
     rcases dE with z | z<;>cases z
    .obtain ⟨c',nY⟩:=GL (X:=X) A1
     have:=oD C kj I nY
     rw [e] at this
     cases this
     exact ⟨c,nY,z.keeps hk⟩
 .obtain ⟨v,z⟩:=I3.cell x c (oD C kj I e)
  exact ⟨v,z.keeps hk⟩
 .show (fV nt none++cT caps σ).length=N'.length
  rw [bP,xZ,sl,C.len]
theorem S8(r:aq xs us):xs.length=us.length:=r.length
theorem SS{pins pl:List (Addr×Obj)}{σ aA:L2.St}{H2 H':Hp}{s2 s3 s1:Shared}{fp:List Addr}{h':Heap}{xs:List V}{ys:List Value}(I2:Inv X pins σ H2 s2)(pG:s3.os=s2.os)(uK:∀b o,s2.heap.get? b=some o->s3.heap.get? b=some o)
  (hsz:s3.heap.objs.size=s2.heap.objs.size+1)(f2:∀b∈fp,eM X pins H2 b)(I':Inv (oe X N' bK (s2.heap.objs.size::fp) s3 H2) pl aA H' s1)(sb:xM s3.heap.objs.size s1.heap h')
  (hn:H' s2.heap.objs.size=none)(hl:∃n,s1.heap.get? s2.heap.objs.size=some { cls:=.type "list",data:=.seq ys.toArray n })(hv:aq xs ys)(hz:xs.length<=sizeLine):
  Inv X pins σ (upd H' s2.heap.objs.size (.lst xs)) { s1 with heap:=h' }:=by
 have L7:∀b,b<s3.heap.objs.size->b≠s3.heap.objs.size:=λb h=>fH h
 have E2:∀b,b<s2.heap.objs.size->b≠s2.heap.objs.size:=λb h=>fH h
 have out:∀b o,s2.heap.get? b=some o->b∉fp->b∉s2.heap.objs.size::fp:=λb o e n z=>(cU.mp z).elim (E2 b (cE e)) n
 have hC:H' s3.heap.objs.size=none:=I'.free
 have up:∀b o,s2.heap.get? b=some o->∀o',s1.heap.get? b=some o'->h'.get? b=some o':=λb o e o' e'=>(sb.2 b (L7 b (cE (uK b o e)))).trans e'
 have nT:∀b u,H' b=some u->b≠s2.heap.objs.size:=λb u e z=>by rw [z,hn] at e;cases e
 have u:=I'.base
 refine I2.vg (s':={ s1 with heap:=h' }) (ch:=fp) (I'.os.trans pG) ⟨λb o e n hb hx=>?_,λb o e n hb hx=>?_,λb o e n hx=>?_,λb o e hx=>?_,λb zs e=>?_,λb o v e=>?_,λb ps e=>?_⟩ (λb v e=>?_) I'.bare (λb hb=>?_)
 .exact up b o e o (u.keep b o (uK b o e) n hb (out b o e hx))
 .obtain ⟨sl,e1⟩:=u.slot b o (uK b o e) n hb (out b o e hx)
  exact ⟨sl,up b o e _ e1⟩
 .rw [dz (E2 b (cE e))]
  exact u.free b o (uK b o e) n (out b o e hx)
 .obtain ⟨o',e1⟩:=u.there b o (uK b o e) (out b o e hx)
  exact ⟨o',up b o e _ e1⟩
 .have:=u.dN b zs e
  rw [dz (nT b _ this)];exact this
 .have:=u.dF b o v e
  rw [dz (nT b _ this)];exact this
 .obtain ⟨more,this⟩:=u.dO b ps e
  exact ⟨more,by rw [dz (nT b _ this)];exact this⟩
 .by_cases hb:b=s2.heap.objs.size
  .subst hb
   rw [oP] at e
   cases e
   obtain ⟨n,e1⟩:=hl
   exact ⟨hz,ys,n,hv,(sb.2 _ (by rw [hsz];exact fH (vm _))).trans e1⟩
  .rw [dz hb] at e
   refine (I'.bw b v e).jH (λc w hc q=>(sb.2 c ?_).trans q) (λc _ _ q=>by rw [dz (nT c _ q)];exact q) λc zs q=>by rw [dz (nT c _ q)];exact q
   rintro rfl
   rcases hc with z | z
   .rw [<-z,hC] at e;cases e
   .rw [hC] at z;cases z
 .obtain ⟨_,g1,_,g3,g4,g5⟩:=f2 b hb
  exact ⟨g3,g1,g4,g5⟩
theorem Im(h:Fx X N sc k full)(C:bS N sc N' caps nt bK){wi:TI}(pi:PI X tg iter wi)(ki:∀(O:Addr->Prop) (B:Hp) (σ:L2.St) (H:Hp) (env:En) (ds:List D) (R:It->Hp->Prop),Rel X.K O B σ H env->fi env=some ds->(∀J H',ar H H'->yM X.K (OO O σ env) J H' ds->R J H')->wi σ H R)
  (hb:∀X':Cx,X'.prog=X.prog->X'.w=X.w->X'.K=X.K->X'.mg=X.mg->X'.base=X.base->Fx X' N' (rl bK sc) k false->GV X' tg g/\zC X' ifs fc/\EV X' elt fe)
  (lY:∀x,foldedSetIterable iter X.env x=pure x){pins:List (Addr×Obj)}{s:Shared}{σ:L2.St}{H:Hp}(I:Inv X pins σ H s){O:Addr->Prop}{B:Hp}{env:En}{r:Sl}(R:Rel X.K O B σ H env)(e:iq fi caps nt g fc fe env=some r)
  {use:Option (Value->Sem Unit)}{QQ:Value->Shared->Prop}
  (fin:∀(C0 p:Addr) (H':Hp) (s':Shared),(∃m,s'.heap.Ns C0 m)->eM X pins H' C0->(∀h',xM C0 s'.heap h'->Inv X pins σ H' { s' with heap:=h' })->ar H H'->Res X.K (OO O σ env) H H' (.ref p) r ->
   compPost (model X.prog X.w) X.A X.xe use QQ (.ref p) C0 (.ok .next) s'):
  wpAny (model X.prog X.w) X.A (comprehension (.ListComp elt [⟨tg,iter,ifs,0⟩] bK pos) bK X.env (firstIterPos [⟨tg,iter,ifs,0⟩] pos) (newList []) (firstAsync [⟨tg,iter,ifs,0⟩]) (firstIter [⟨tg,iter,ifs,0⟩] X.env) use) QQ X.xe s:=by
 obtain ⟨ds,e1,e2⟩:=bind_some e
 obtain ⟨cs,e3,e4⟩:=bind_some e2
 by_cases hlen:ds.length<=16777216
 case neg=>rw [if_neg hlen] at e4;cases e4
 rw [if_pos hlen] at e4
 obtain ⟨rs,e5,rfl⟩:=map_some e4
 have uD:closureFor bK X.env=pure (dt X.env.cells bK.names []):=Um λy hy hf=>I.ok.has y.1 (by
  show X.env.scope.names.lookup y.1=_\/X.env.scope.names.lookup y.1=_
  rw [h.sc]
  exact C.free y hy hf)
 have MV:=pi pins s σ H (λJ H'=>ar H H'/\yM X.K (OO O σ env) J H' ds) I (ki O B σ H env ds _ R e1 λJ H' s' wk=>⟨s',wk⟩)
 refine wpAny_comprehension_free (use:=use) rfl lY uD C.kind C.loc (bu MV λxv s1 h1=>bu h1 λAw s2 h2=>?_)
 obtain ⟨it,fp,tn,J,H2,rfl,I2,T,eG,f2,nN,wk⟩:=h2
 refine wpAny_newObj_type (wpAny_newFunctionEnv C.kR (by intro y hy;simp at hy) (λh₁ iO iM=>?_) C.kind)
 dsimp only at iO iM ⊢
 generalize Bb:s2.heap.push { cls:=.type "list",dict:=none,data:=.seq ([]:List Value).toArray }=H3 at iO iM ⊢
 have hsz:H3.objs.size=s2.heap.objs.size+1:=by rw [<-Bb,Heap.size_push]
 have t9:∀b o,s2.heap.get? b=some o->H3.get? b=some o:=λb o e=>by rw [<-Bb];exact fT _ e
 have xm:∀b o,H3.get? b=some o->h₁.get? b=some o:=λb o e=>iM.extBut b o (fH (cE e)) (fT _ e)
 have I3:Inv X pins σ H2 { s2 with heap:=H3 }:=I2.kept (t':=s2.toks) t9
 have tQ:∀b∈fp,b<s2.heap.objs.size:=λb hb=>by obtain ⟨o,eo,_⟩:=T.obj 0 _ eG b hb;exact cE eo
 have nT:∀b∈fp,b≠s2.heap.objs.size:=λb hb=>fH (tQ b hb)
 have uy:∀b∈fp,∃o,H3.get? b=some o:=λb hb=>by obtain ⟨o,eo,_⟩:=T.obj 0 _ eG b hb;exact ⟨o,t9 b o eo⟩
 have R2:=R.grow nN
 obtain ⟨lc,ls,cg⟩:=Hd R2 e3
 generalize ik:oe X N' bK (s2.heap.objs.size::fp) { s2 with heap:=H3 } H2=X'
 have I4:∀t,Inv X' [] (fV nt none++cT caps σ) H2 { s2 with heap:=h₁,toks:=t }:=λt=>by
  rw [<-ik]
  exact SR (s3:={ s2 with heap:=H3 }) (s4:={ s2 with heap:=h₁,toks:=t }) C h.sc h.n h.calm I2 I3 f2 uy hsz rfl rfl xm (by simpa using iO)
 have hP:X'.prog=X.prog:=by rw [<-ik];rfl
 have hW:X'.w=X.w:=by rw [<-ik];rfl
 have hK:X'.K=X.K:=by rw [<-ik];rfl
 have hE:X'.env=compEnvC bK (dt X.env.cells bK.names []) H3.objs.size X.env:=by rw [<-ik];rfl
 have hA:X'.A=X.A:=by rw [<-ik];rfl
 have hx:X'.xe=λ_ _=>False:=by rw [<-ik];rfl
 have A5:X'.calm=true:=by rw [<-ik];rfl
 have jL:=hb X' hP hW hK (by rw [<-ik];rfl) (by rw [<-ik];rfl) ⟨by rw [<-ik];rfl,by rw [hE];show rl bK X.env.scope=_;rw [h.sc],A5,λz=>(nomatch z),by rw [hx];exact FG,by rw [hA];exact h.room,C.nd,λz=>(nomatch z)⟩
 obtain ⟨⟨mG,pg,kg⟩,⟨tc,pc,kc⟩,te,pe,ke⟩:=jL
 have Bj:∀{H':Hp} {pl:List (Addr×Obj)},(∀b∈fp,H' b=none)->(∀p∈pl,∀b∈fp,p.1≠b)->∀b∈fp,eM X' pl H' b:=λ{H' pl} hn ei b hb=>by
  obtain ⟨_,g1,g2,g3,g4,g5⟩:=f2 b hb
  rw [<-ik]
  refine ⟨hn b hb,fH (gz (tQ b hb) (by show s2.heap.objs.size<=H3.objs.size;rw [hsz];exact vj _)),λz=>?_,.inl (dj _ hb),λx c e=>g4 x c (oD C h.sc I2 e),λp hp=>ei p (by simpa [oe] using hp) b hb⟩
  rcases cU.mp (I2.gc b z) with z | z
  .exact g1 z
  .exact g2 z
 have R0:Rel X'.K (OO O σ env) H2 (fV nt none++cT caps σ) H2 (fV nt Sl.no++cs):=by
  have mL:∀(i:Nat) (es:Sl),(fV nt Sl.no++cs)[i]?=some es->es.own->False:=λi es e o=>by
   rcases yP e with z | ⟨_,z⟩
   .cases z;exact o
   .obtain ⟨d,_,_,z,_⟩:=cg _ _ z
    cases z;exact o
  have noOwn:∀p,¬jm (fV nt none++cT caps σ) (fV nt Sl.no++cs) p:=λp ⟨i,es,e,o,_⟩=>mL i es e o
  rw [hK]
  refine ⟨ar.refl _,R2.dm,by simp [lc,ls],λi d e=>?_,λi es e=>(mL i _ e trivial).elim,λi es e=>(mL i _ e trivial).elim,λi j es fs p e _ _ _ o=>(mL i es e o).elim⟩
  rcases yP e with z | ⟨hi,z⟩
  .cases z
  .obtain ⟨d',v,i',z1,z2,z3,_⟩:=cg _ _ z
   cases z1
   refine ⟨v,?_,z3.less λp hp=>hp.elim id λz=>(noOwn p z).elim⟩
   rw [m5 (by simpa using hi),xZ]
   exact z2
 have loop:∀t,codeAny (model X.prog X.w) X.A (.compLoop (.ListComp elt [⟨tg,iter,ifs,0⟩] bK pos) 0 (.ref it) (.ref s2.heap.objs.size) (compEnvC bK (dt X.env.cells bK.names []) H3.objs.size X.env))
   (compPost (model X.prog X.w) X.A X.xe use QQ (.ref s2.heap.objs.size) H3.objs.size) { s2 with heap:=h₁,toks:=t }:=λt=>by
  refine TY (N:=λ_ _=>False) (λn s'=>∃(i:Nat) (aA:L2.St) (H':Hp) (ai:En) (ys:List Value) (xs:List V) (nO xg:List D),n=ds.length-i/\i<=ds.length/\Inv X' [] aA H' s'/\tn i s'.heap/\(∀b∈fp,H' b=none)/\H' s2.heap.objs.size=none /\
    s'.heap.PlainList s2.heap.objs.size ys.toArray/\aq xs ys/\Rel X'.K (OO O σ env) H2 aA H' ai/\Gd (fV nt none++cT caps σ) (fV nt Sl.no++cs) H2 aA ai H' /\
    aH X'.K (OO (OO O σ env) aA ai) H' xs nO/\jy g fc fe (ds.drop i) ai=some xg/\nO++xg=rs/\nO.length<=i) (λ_ _ z=>z) ?_ ds.length
   ⟨0,_,H2,_,[],[],[],rs,by simp,oh _,I4 t,T.keep _ _ _ eG (λb _ o e=>xm b o (t9 b o e)),λb hb=>(f2 b hb).1,I2.bw.fresh (bj _),⟨_,xm _ _ (by rw [<-Bb];exact l9 _ rfl)⟩,.nil,R0,Gd.refl (ar.refl _),.nil,by simpa using e5,rfl,bj _⟩
  rintro n s3 ⟨i,fZ,sx,iQ,ys,xs,nO,xg,rfl,hi,J3,fC,uR,Nr,EM,vx,R3,Fz,uc,vf,xw,AL⟩
  have tD:Inv X' (nj [s2.heap.objs.size] s3.heap) fZ sx s3:=by
   refine J3.dB λp hp=>?_
   obtain ⟨hb,e⟩:=DJ hp
   have hb:p.1=s2.heap.objs.size:=by simpa using hb
   obtain ⟨n,en⟩:=EM
   rw [hb,en] at e
   refine ⟨by rw [hb,en];exact e,by rw [hb];exact Nr,?_,λz=>?_,λv z=>?_⟩
   .rw [hb,hE]
    show s2.heap.objs.size≠H3.objs.size
    rw [hsz]
    exact fH (vm _)
   .rw [hb,<-ik] at z
    obtain ⟨_,o,ho,_⟩:=I2.stack.mem z
    exact absurd (cE ho) (mZ _)
   .rw [<-bQ e] at z;cases z
  have apart:∀p∈nj [s2.heap.objs.size] s3.heap,∀b∈fp,p.1≠b:=λp hp b hb z=>by
   have e:p.1=s2.heap.objs.size:=by simpa using (DJ hp).1
   exact nT b hb (z.symm.trans e)
  have lL:∀{pl:List (Addr×Obj)} {aA:L2.St} {H':Hp} {s':Shared},Inv X' pl aA H' s'->(∀p∈nj [s2.heap.objs.size] s3.heap,p∈pl)->s'.heap.PlainList s2.heap.objs.size ys.toArray/\H' s2.heap.objs.size=none:=λ{pl aA H' s'} J kU=>by
   obtain ⟨n,en⟩:=EM
   obtain ⟨q1,q2,_⟩:=J.pin _ (er _ (kU _ (wL (fp:=[s2.heap.objs.size]) (by simp) en)))
   exact ⟨⟨n,q1⟩,q2⟩
  have w:=wk (OO (OO O σ env) fZ iQ) sx (λa u ea na=>by
   obtain ⟨h1,h2⟩:=Fz a u ea λ⟨i,es,e,o,_⟩=>by
    rcases yP e with z | ⟨_,z⟩
    .cases z;exact o
    .obtain ⟨d,_,_,z,_⟩:=cg _ _ z
     cases z;exact o
   exact ⟨h1,λz=>z.elim na h2⟩) (λa=>R3.oo) i
  by_cases bx:i<ds.length
  .obtain ⟨go,yl⟩:=w.1 ds[i] (by simp [bx])
   have uz:ds.drop i=ds[i]::ds.drop (i+1):=jx bx
   rw [uz,jy] at vf
   obtain ⟨dW,c1,c2⟩:=bind_some vf
   obtain ⟨b,c2,c3⟩:=bind_some c2
   have ti:=T.item X' hP hW hK A5 i _ s3 fZ sx (λ_ _=>False) tD (Bj uR apart) fC go
   rw [hA] at ti
   refine bu ti λr s4 ⟨u,hr,h4⟩=>?_
   subst hr
   refine bu h4 λ_ s5 ⟨x,H5,I5,r5,y5,o9,Bi⟩=>?_
   obtain ⟨z7,MP⟩:=yl x H5 y5
   have EG:=I5.pinned (Bj Bi apart) (T.obj _ _ o9)
   have nU:∀{aA:L2.St} {H':Hp} {s':Shared},Inv X' (nj [s2.heap.objs.size] s3.heap++nj fp s5.heap) aA H' s'->tn (i+1) s'.heap/\∀b∈fp,H' b=none:=λ{aA H' s'} J=>by
    refine ⟨T.keep _ _ _ o9 λb hb o e=>(J.pin (b,o) (er _ (er _ (wL hb e)))).1,λb hb=>?_⟩
    obtain ⟨o,e,_⟩:=T.obj _ _ o9 b hb
    exact (J.pin (b,o) (er _ (er _ (wL hb e)))).2.1
   have EN:=pg _ s5 fZ H5 x u _ EG r5 (kg (OO O σ env) H2 fZ H5 iQ dW x ds[i] (λig H6=>Rel X'.K (OO O σ env) H2 ig H6 dW/\Gd fZ iQ H5 ig dW H6) (R3.grow z7) (hK▸MP) c1 λig H6 R6 g6=>⟨R6,g6⟩)
   rw [hP,hW,hA,hE,hx] at EN
   refine bu EN λ_ s6 ⟨ig,H6,I6,R6,g6⟩=>?_
   have ER:=pc _ s6 ig H6 (λb' H'=>b'=b/\ar H6 H') I6 (kc (OO O σ env) H2 ig H6 dW b _ R6 c2 λH' s'=>⟨rfl,s'⟩)
   rw [hP,hW,hA,hE,hx] at ER
   refine bu ER λok s7 ⟨H7,I7,bw,z6⟩=>?_
   subst bw
   have R7:=R6.grow z6
   have Fy:=Fz.trans ((Gd.refl z7).trans (g6.trans (Gd.refl z6)))
   have E5:aH X'.K (OO (OO O σ env) ig dW) H7 xs nO:=((Gd.refl z7).trans (g6.trans (Gd.refl z6))).xn uc
   cases ok with
   | false =>
    rw [if_neg lI] at c3 ⊢
    obtain ⟨JB,ND⟩:=nU I7
    obtain ⟨KP,Nq⟩:=lL I7 λp hp=>dX _ hp
    exact ⟨ds.length-(i+1),by ext bx,i+1,ig,H7,dW,ys,xs,nO,xg,rfl,bx,I7.dB (λ_ z=>nomatch z),JB,ND,Nq,KP,vx,R7,Fy,E5,c3,xw,by ext AL⟩
   | true =>
    rw [if_pos rfl] at c3 ⊢
    obtain ⟨r,d3,d4⟩:=bind_some c3
    obtain ⟨Kb,d5,d6⟩:=bind_some d4
    clear c3 d4 vf
    obtain rfl:=bQ d6
    have EO:=pe _ s7 ig H7 (λv H'=>ar H7 H'/\Is X'.K (OO (OO O σ env) ig dW) H' v r.d) I7 (ke (OO O σ env) H2 ig H7 dW r _ R7 d3 λv H' s' rr=>⟨s',rr.is λp=>R7.oo⟩)
    rw [hP,hW,hA,hE,hx] at EO
    refine bu EO λy s8 ⟨v,H8,I8,ry,z5,hv⟩=>?_
    obtain ⟨JA,NC⟩:=nU I8
    obtain ⟨KO,Fs⟩:=lL I8 λp hp=>dX _ hp
    have MM:ys.length=nO.length:=by rw [<-S8 vx,uc.length]
    refine wpAny_list_append_plain (hsz:=by rw [di,MM,il];ext hlen AL bx) KO λh' KN EL=>?_
    have J8:Inv X' [] ig H8 s8:=I8.dB λ_ z=>nomatch z
    have J9:Inv X' [] ig H8 { s8 with heap:=h' }:=J8.turned (t':=s8.toks) (it:=s2.heap.objs.size) (λb o hb e=>(EL.2 b hb).trans e) Fs
     (by rw [hE];show s2.heap.objs.size≠H3.objs.size;rw [hsz];exact fH (vm _)) (.inl (by rw [<-ik];exact cP))
     (λx c e=>by
      rw [hE] at e
      obtain ⟨_,z⟩:=I2.cell x c (oD C h.sc I2 e)
      exact fH z.lt) (λp hp=>by rw [<-ik] at hp;exact absurd hp (by simp [oe]))
    refine ⟨ds.length-(i+1),by ext bx,i+1,ig,H8,dW,ys++[y],xs++[v],nO++[r.d],Kb,rfl,bx,J9,T.keep _ _ _ JA λb hb o e=>(EL.2 b (nT b hb)).trans e,NC,Fs,by simpa using KN,vx.append (.cons ry .nil),R7.grow z5,Fy.trans (Gd.refl z5),(E5.grow z5).append (.cons hv .nil),d5,by rw [<-xw];simp,by simp;assumption⟩
  .have AY:i=ds.length:=by ext hi bx
   have td:=T.done X' hP hW hK A5 i _ s3 fZ sx (λ_ _=>False) tD (Bj uR apart) fC (w.2 (by ext bx))
   rw [hA] at td
   refine bu td λr s4 ⟨hr,w4⟩=>?_
   subst hr
   obtain ⟨KQ,mR⟩:=lL w4 λp hp=>hp
   rw [mY (by ext bx),jy] at vf
   obtain rfl:=bQ vf
   rw [lD] at xw
   subst xw
   obtain ⟨m4,Fd,_⟩:=w4.loc
   rw [hE] at Fd
   obtain ⟨n4,NJ⟩:=KQ
   rw [<-ik] at w4
   have Fp:H2 s2.heap.objs.size=none:=I2.bw.fresh (bj _)
   have kl:s2.heap.objs.size<=H3.objs.size:=by rw [hsz];exact vj _
   have Ny:sx H3.objs.size=none:=w4.free
   have bz:H3.objs.size≠s2.heap.objs.size:=by rw [hsz];exact Nat.succ_ne_self _
   refine fin H3.objs.size s2.heap.objs.size (upd sx s2.heap.objs.size (.lst xs)) s4 ⟨m4,Fd⟩ (I2.lr kl (by rw [dz bz];exact Ny)) (λh' sb=>SS (s3:={ s2 with heap:=H3 }) (ys:=ys) I2 rfl t9 hsz f2 w4 sb mR ⟨n4,NJ⟩ vx (by rw [uc.length,il];ext hlen hi AL)) ?_ ⟨_,xs,rfl,nN.free Fp,oP,?_⟩
   .intro b o e
    have e2:=nN b o e
    rw [dz (nC e2 Fp)]
    exact R3.same b o e2
   .rw [hK] at uc
    refine uc.map (λp hp hn z=>hn (.inl (z.elim id λz=>?_))) λp u e _=>by rw [dz (nC e mR)];exact e
    rw [z,mR] at hp
    exact (hp rfl).elim
 exact codeAny_compStart_list (loop _) (T.self _ 0 _ _ _ (T.keep _ _ _ eG (λb _ o e=>xm b o (t9 b o e))) (loop _))
theorem v8(h:Fx X N sc k full)(C:bS N sc N' caps nt bK)(hi:IV X tg iter fi)
  (hb:∀X':Cx,X'.prog=X.prog->X'.w=X.w->X'.K=X.K->X'.mg=X.mg->X'.base=X.base->Fx X' N' (rl bK sc) k false->GV X' tg g/\zC X' ifs fc/\EV X' elt fe)
  (lY:∀x,foldedSetIterable iter X.env x=pure x:=by intro _;rfl):EV X (.ListComp elt [⟨tg,iter,ifs,0⟩] bK pos) (iq fi caps nt g fc fe):=by
 obtain ⟨wi,pi,ki⟩:=hi
 refine ⟨λσ H Q=>∃O B env r,Rel X.K O B σ H env/\iq fi caps nt g fc fe env=some r/\∀v H',ar H H'->Res X.K (OO O σ env) H H' v r->Q v H',?_,λO B σ H env r Q R e q=>⟨O,B,env,r,R,e,q⟩⟩
 rintro pins s σ H Q I ⟨O,B,env,r,R,e,q⟩
 rw [eval_ListComp]
 exact Im h C pi ki hb lY I R e (use:=none) λC0 p H' s' ⟨m,hn⟩ _ hI sm rr=>⟨m,hn,λh' sb=>⟨.ref p,H',hI h' sb,rfl,q _ H' sm rr⟩⟩
theorem Rf{i:Nat}{x:Str}{pos' sP:Pos}(b:Bool)(h:Fx X N sc k full)(C:bS N sc N' caps nt bK)(hi:IV X tg iter fi)
  (hb:∀X':Cx,X'.prog=X.prog->X'.w=X.w->X'.K=X.K->X'.mg=X.mg->X'.base=X.base->Fx X' N' (rl bK sc) k false->GV X' tg g/\zC X' ifs fc/\EV X' elt fe)
  (hN:N[i]?=some x:=by rfl)(hv:Loc sc x:=by first | exact cw rfl | exact bo rfl)(hf:full=true\/sc.names.lookup x=some .local:=by first | exact cw rfl | exact bo rfl)(h1:(sc.names.lookup x==some .local)=true:=by rfl)(h2:(pos'.line==pos.line)=true:=by rfl)(h3:(bK.names.any λ(n,k)=>n==x&&(k==.local||k==.cell))=false:=by rfl)
  (lY:∀x,foldedSetIterable iter X.env x=pure x:=by intro _;rfl):SV X (.Assign [.Name x pos'] (.ListComp elt [⟨tg,iter,ifs,0⟩] bK pos) sP) (bif b then de i (iq fi caps nt g fc fe) else bJ i (iq fi caps nt g fc fe)):=by
 obtain ⟨wi,pi,ki⟩:=hi
 refine ⟨λD σ H=>∃O B env fl ai,Rel X.K O B σ H env/\(bif b then de i (iq fi caps nt g fc fe) else bJ i (iq fi caps nt g fc fe)) env=some (fl,ai)/\cF X.K O B σ H env D fl ai,?_,λO B σ H env fl ai D R e q=>⟨O,B,env,fl,ai,R,e,q⟩⟩
 rintro pins s σ H D I ⟨O,B,env,fl,ai,R,e,q⟩
 obtain ⟨r,e1,hl,xC,t,rfl,ht⟩:∃r,iq fi caps nt g fc fe env=some r/\i<env.length/\fl=.nx/\∃t,ai=env.set i t/\(t=r\/t=.sh r.d):=by
  cases b with
  | true =>
   dsimp only [cond] at e
   obtain ⟨r,e1,e2⟩:=bind_some e
   obtain ⟨hl,e3⟩:=gW e2
   cases e3
   exact ⟨r,e1,hl,rfl,_,rfl,.inl rfl⟩
  | false =>
   dsimp only [cond] at e
   obtain ⟨r,e1,e2⟩:=bind_some e
   obtain ⟨hl,e3⟩:=gW e2
   cases e3
   exact ⟨r,e1,hl,rfl,_,rfl,.inr rfl⟩
 subst xC
 have hs:swapsWith (.ListComp elt [⟨tg,iter,ifs,0⟩] bK pos) (some (.Name x pos')) sP.line X.env=pure true:=by
  have hk:X.env.blockKind=.function:=by unfold Env.blockKind;rw [I.ok.kind];rfl
  have M9:X.env.kindOf x=sc.names.lookup x:=by unfold Env.kindOf;rw [h.sc]
  unfold swapsWith
  dsimp only
  rw [hk,M9,h1,show (pos'.line==(Expr.ListComp elt [⟨tg,iter,ifs,0⟩] bK pos).pos.line)=true from h2,h3]
  rfl
 rw [exec_Assign_Name_used _ _ _ _ hs]
 refine cn (BU (cn ?_))
 show wpAny _ _ (comprehension _ bK X.env _ (newList []) _ _ (some (assign (.Name x pos') X.env)) >>= λ_=>pure ()) _ _ _
 refine cn (Im h C pi ki hb lY I R e1 (use:=some (assign (.Name x pos') X.env)) λC0 p H' s' ⟨m,hn⟩ pM hI sm rr=>?_)
 have I':Inv X pins σ H' s':=hI s'.heap (Heap.SameBut.refl _ _)
 refine wpAny_assign_Name (ID (v:=.ref p) I' h.qR (h.ix hN) (h.loc hv) rfl (λs2 I2 ⟨a,sb,ha⟩=>?_) (h.qM hf))
 have Np:C0≠a:=λz=>by
  rcases ha with ha | ha
  .exact pM.2.1 (z.trans ha)
  .exact pM.2.2.2.2.1 x a ha z.symm
 obtain ⟨o,es,ep,ho,rest⟩:=hn
 refine ⟨m,⟨o,es,ep,(sb.2 C0 Np).trans ho,rest⟩,λh' J'=>?_⟩
 refine eN (eN ?_)
 have I3:Inv X pins (σ.set i (some (.ref p))) H' { s2 with heap:=h' }:=I2.turned (t':=s2.toks) (it:=C0) (λb o hb e=>(J'.2 b hb).trans e) pM.1 pM.2.1 pM.2.2.2.1 pM.2.2.2.2.1 pM.2.2.2.2.2
 have hr:Res X.K (OO O σ env) H H' (.ref p) t:=by
  rcases ht with rfl | rfl
  .exact rr
  .exact rr.is λq=>R.oo
 obtain ⟨R',g'⟩:=R.set sm hr hl
 exact ⟨_,H',I3,q _ H' R' g'⟩
end
end DL
namespace DL
open PySem PySem.Spec PyProof.Rows L2
section
variable {X:Cx}{pins:List (Addr×Obj)}{σ:L2.St}{H:Hp}{s:Shared}
end
noncomputable def jz:List D->Option (List Int)
 | []=>some []
 | .int i::ds=>(jz ds).map (i::·)
 | _::_=>none
noncomputable def eK:List D->Option (List Bool)
 | []=>some []
 | .bl i::ds=>(eK ds).map (i::·)
 | _::_=>none
theorem Io:∀(ns:List Int),jz (ns.map D.int)=some ns
 | []=>rfl
 | n::r=>by rw [jV,jz,Io r];rfl
theorem HP:∀(ns:List Bool),eK (ns.map D.bl)=some ns
 | []=>rfl
 | n::r=>by rw [jV,eK,HP r];rfl
section
variable {X:Cx}{a:Expr}{p pos:Pos}{ba:En->Option (Bool×List D)}
theorem TR(ns:List Bool):(jv ns.length).all (λi=>ns.getD i false)=ns.all id:=by
 rw [Bool.eq_iff_iff,BM,BM]
 constructor
 .intro h x hx
  obtain ⟨i,hi,rfl⟩:=md.mp hx
  have:=h i (yn.mpr hi)
  simpa [hi] using this
 .intro h i hi
  have hi:=yn.mp hi
  have:=h ns[i] (lH hi)
  simpa [hi] using this
noncomputable def tS:List Int->Int
 | []=>0
 | n::r=>r.foldl (λa b=>if b<a then b else a) n
noncomputable def tU:List Int->Int
 | []=>0
 | n::r=>r.foldl (λa b=>if b>a then b else a) n
noncomputable def uY(f:En->Option (Bool×List D)):En->Option Sl:=λenv=>(f env).bind λx=>(jz x.2).map λns=>.sh (.int ns.sum)
noncomputable def u9(f:En->Option (Bool×List D)):En->Option Sl:=λenv=>(f env).bind λx=>(eK x.2).map λns=>.sh (.bl (ns.all id))
noncomputable def u7(f:En->Option (Bool×List D)):En->Option Sl:=λenv=>(f env).bind λx=>(eK x.2).map λns=>.sh (.bl (ns.any id))
noncomputable def u5(f:En->Option (Bool×List D)):En->Option Sl:=λenv=>(f env).bind λx=>(jz x.2).bind λns=>if ns≠[] then some (.sh (.int (tS ns))) else none
noncomputable def u6(f:En->Option (Bool×List D)):En->Option Sl:=λenv=>(f env).bind λx=>(jz x.2).bind λns=>if ns≠[] then some (.sh (.int (tU ns))) else none
end
end DL
namespace DL
open PySem PySem.Spec PyProof.Rows L2
noncomputable def fI:List (Option Bool)->Option (List Bool)
 | []=>some []
 | some b::r=>(fI r).map (b::·)
 | none::_=>none
noncomputable def aQ:Nat->D->D->Option Bool
 | _,.int i,.int j=>some (decide (i=j))
 | _,.bl i,.bl j=>some (decide (i=j))
 | _,.str i,.str j=>some (decide (i=j))
 | _,.aI,.aI=>some true
 | _,.bl i,.int j=>some (decide ((if i then 1 else 0)=j))
 | _,.int i,.bl j=>some (decide (i=(if j then 1 else 0)))
 | n+1,.tup a,.tup b=>(fI (kn (aQ n) a b)).map λbs=>bs.all id&&decide (a.length=b.length)
 | n+1,.lst _ a,.lst _ b=>if a.length=b.length then (fI (kn (aQ n) a b)).map λbs=>bs.all id else some false
 | 0,.tup _,.tup _=>none
 | 0,.lst _ _,.lst _ _=>none
 | _,.exc _,_=>none
 | _,_,.exc _=>none
 | _,.eJ _ _,_=>none
 | _,_,.eJ _ _=>none
 | _,_,_=>some false
theorem v9:∀{os:List (Option Bool)} {bs:List Bool},fI os=some bs->os.length=bs.length/\∀(i:Nat) (b:Bool),bs[i]?=some b->os[i]?=some (some b)
 | [],bs,e=>by cases e;exact ⟨rfl,λi b h=>by simp at h⟩
 | some b::r,bs,e=>by
  obtain ⟨Wm,e1,rfl⟩:=map_some (show (fI r).map (b::·)=some bs from e)
  obtain ⟨l,ih⟩:=v9 e1
  refine ⟨by simp [l],λi c h=>?_⟩
  cases i with
  | zero=>simpa using h
  | succ i=>simpa using ih i c (by simpa using h)
 | none::_,bs,e=>by cases e
theorem all_range{bs:List Bool}{n:Nat}(h:bs.length=n):(jv n).all (λi=>bs.getD i false)=bs.all id:=by rw [<-h];exact TR bs
section
variable {X:Cx}{pins:List (Addr×Obj)}{σ:L2.St}{H:Hp}{s:Shared}{O O':Addr->Prop}
noncomputable def wZ(K:aC)(O:Addr->Prop)(H:Hp)(v:V):D->Prop
 | .aI=>v=.aI
 | .bl b=>v=.bl b
 | .int i=>v=.int i
 | .str x=>v=.str x
 | .tup ds=>∃p xs,v=.ref p/\dv K H p xs/\aH K O H xs ds
 | .lst _ ds=>∃p xs,v=.ref p/\dg K H p xs/\aH K O H xs ds
 | .exc _=>True
 | .eJ _ _=>True
theorem Is.kh{K:aC}{v:V}{d:D}(h:Is K O H v d):wZ K O H v d:=by
 cases d with
 | aI=>exact GX h
 | bl b=>exact qj h
 | int i=>exact iA h
 | str x=>exact Cw h
 | tup ds=>exact yH h
 | lst r ds =>
  obtain ⟨p,xs,e,h1,h2⟩:=h.seq (k:=true) (ds:=ds) rfl
  exact ⟨p,xs,e,h1,h2⟩
 | exc n=>trivial
 | eJ n m=>trivial
theorem zk(I:Inv X pins σ H s)(h:dv X.K H p xs)(h':dg X.K H p ys):False:=by
 obtain ⟨_,_,⟨o,e1,c1,_⟩,_⟩:=I.tuple h
 obtain ⟨_,_,⟨o',_,e2,c2,_⟩,_⟩:=I.list h'
 rw [e1] at e2
 cases e2
 rw [c1] at c2
 injection c2 with c3
 exact absurd c3 (by decide)
theorem zip_get{n:Nat}{i:Nat}{o:Option Bool}(h:(kn (aQ n) a b)[i]?=some o):∃x y,a[i]?=some x/\b[i]?=some y/\aQ n x y=o:=by
 rw [Ge] at h
 cases ha:a[i]? with
 | none=>rw [ha] at h;simp at h
 | some x =>
  cases hb:b[i]? with
  | none=>rw [ha,hb] at h;simp at h
  | some y=>rw [ha,hb] at h;exact ⟨x,y,rfl,rfl,by simpa using h⟩
theorem HU(I:Inv X pins σ H s):∀(n:Nat) {v:V} {d d':D} {b:Bool},Is X.K O H v d->Is X.K O' H v d'->aQ n d d'=some b->b=true:=by
 intro n
 induction n with
 | zero =>
  intro v d d' b h h' e
  have h:=h.kh
  have h':=h'.kh
  cases d<;>cases d'<;>simp only [wZ] at h h'<;>simp only [aQ,cV,reduceCtorEq] at e<;>first
   | (subst h;cases h';exact e.symm)
   | (subst h;cases h';rw [<-e];simp;done)
   | (subst h;cases h';done)
   | (subst h;obtain ⟨_,_,h',_⟩:=h';cases h';done)
   | (subst h';obtain ⟨_,_,h,_⟩:=h;cases h;done)
   | (obtain ⟨_,_,rfl,h,_⟩:=h;obtain ⟨_,_,hr,h',_⟩:=h';cases hr;first | exact (zk I h h').elim | exact (zk I h' h).elim)
 | succ n ih =>
  intro v d d' b h h' e
  have key:∀{xs:List V} {ds ej:List D} {bs:List Bool},aH X.K O H xs ds->aH X.K O' H xs ej->fI (kn (aQ n) ds ej)=some bs->bs.all id=true:=λ{xs ds ej bs} a1 a2 ea=>by
   obtain ⟨_,g⟩:=v9 ea
   rw [BM]
   intro c hc
   obtain ⟨i,hi,rfl⟩:=md.mp hc
   obtain ⟨x,y,ex,ey,NF⟩:=zip_get (g i _ (rf hi))
   obtain ⟨z,ez,iz⟩:=a1.get ex
   obtain ⟨z',FA,MG⟩:=a2.get ey
   rw [ez] at FA
   cases FA
   exact ih iz MG NF
  have h:=h.kh
  have h':=h'.kh
  cases d<;>cases d'<;>simp only [wZ] at h h'<;>simp only [aQ,cV,reduceCtorEq] at e<;>first
   | (subst h;cases h';exact e.symm)
   | (subst h;cases h';rw [<-e];simp;done)
   | (subst h;cases h';done)
   | (subst h;obtain ⟨_,_,h',_⟩:=h';cases h';done)
   | (subst h';obtain ⟨_,_,h,_⟩:=h;cases h;done)
   | (obtain ⟨_,_,rfl,h,_⟩:=h;obtain ⟨_,_,hr,h',_⟩:=h';cases hr;first | exact (zk I h h').elim | exact (zk I h' h).elim)
   | skip
  .obtain ⟨_,xs,rfl,h,a1⟩:=h
   obtain ⟨_,ys,hr,h',a2⟩:=h'
   cases hr
   cases I.fR h h'
   obtain ⟨bs,e1,rfl⟩:=map_some e
   rw [key a1 a2 e1,<-a1.length,<-a2.length]
   simp
  .obtain ⟨_,xs,rfl,h,a1⟩:=h
   obtain ⟨_,ys,hr,h',a2⟩:=h'
   cases hr
   cases I.gH h h'
   rw [if_pos (by rw [<-a1.length,<-a2.length])] at e
   obtain ⟨bs,e1,rfl⟩:=map_some e
   exact key a1 a2 e1
theorem Hr{xs:List V}{ao:List Value}{O:Addr->Prop}{K:aC}{ds:List D}(r:aq xs ao)(a:aH K O H xs ds){j:Nat}(h:j<ao.toArray.size):∃d v,ds[j]?=some d/\Is K O H v d/\RelV v ao.toArray[j]:=by
 have hj:j<ao.length:=by simpa using h
 have hl:=r.length
 obtain ⟨d,hd,hv⟩:=a.pS (i:=j) (x:=xs[j]'(by ext hj hl)) (rf (by ext hj hl))
 obtain ⟨u,hu,ru⟩:=r.get (i:=j) (x:=xs[j]'(by ext hj hl)) (rf (by ext hj hl))
 rw [rf hj] at hu
 refine ⟨d,_,hd,hv,?_⟩
 rw [List.getElem_toArray,bQ hu]
 exact ru
open PySem.SeqAt in
theorem GS(I:Inv X pins σ H s)(hu:A.units<cLine)(h:wZ X.K O H v d)(h':wZ X.K O' H v' d')(r:RelV v u)(r':RelV v' u')(e:aQ n d d'=some b)
  (hn:(∀a c,d=.tup a->d'=.tup c->False)/\∀a c r r',d=.lst r a->d'=.lst r' c->False):EqAt A s u u' b/\RcAt A s u u' b/\RcNeAt A s u u' (!b):=by
 cases d with
 | aI =>
  cases d' with
  | aI =>
   subst h;obtain rfl:u=iV:=r
   subst h';obtain rfl:u'=iV:=r'
   simp only [aQ,cV] at e
   subst e
   exact ⟨EqAt.same _,RcAt.none_none,RcNeAt.none_none⟩
  | bl k' =>
   subst h;obtain rfl:u=iV:=r
   subst h';obtain rfl:u'=iU k':=r'
   simp only [aQ,cV] at e
   subst e
   exact ⟨EqAt.none_bool k',RcAt.none_bool k',RcNeAt.none_bool k'⟩
  | int k' =>
   subst h;obtain rfl:u=iV:=r
   subst h';obtain ⟨t',rfl⟩:=r'
   simp only [aQ,cV] at e
   subst e
   exact ⟨EqAt.none_int k' t',RcAt.none_int k' t',RcNeAt.none_int k' t'⟩
  | str k' =>
   subst h;obtain rfl:u=iV:=r
   subst h';obtain ⟨t',rfl⟩:=r'
   simp only [aQ,cV] at e
   subst e
   exact ⟨EqAt.none_str k' t',RcAt.none_str k' t',RcNeAt.none_str k' t'⟩
  | tup ej =>
   subst h;obtain rfl:u=iV:=r
   obtain ⟨p',f',rfl,dq,_⟩:=h';obtain ⟨its',_,be,_⟩:=I.tuple dq;obtain rfl:u'=dG p':=r';replace be:s.heap.IsTuple p' its'.toArray:=be
   simp only [aQ,cV] at e
   subst e
   exact ⟨EqAt.none_tuple be hu,RcAt.none_tuple be hu,RcNeAt.none_tuple be hu⟩
  | lst kJ ej =>
   subst h;obtain rfl:u=iV:=r
   obtain ⟨p',f',rfl,dq,_⟩:=h';obtain ⟨its',_,be,_⟩:=I.list dq;obtain rfl:u'=dG p':=r';replace be:=be.isList
   simp only [aQ,cV] at e
   subst e
   exact ⟨EqAt.none_list be hu,RcAt.none_list be hu,RcNeAt.none_list be hu⟩
  | exc n'=>simp [aQ] at e
  | eJ n' m'=>simp [aQ] at e
 | bl k =>
  cases d' with
  | aI =>
   subst h;obtain rfl:u=iU k:=r
   subst h';obtain rfl:u'=iV:=r'
   simp only [aQ,cV] at e
   subst e
   exact ⟨EqAt.bool_none k,RcAt.bool_none k,RcNeAt.bool_none k⟩
  | bl k' =>
   subst h;obtain rfl:u=iU k:=r
   subst h';obtain rfl:u'=iU k':=r'
   simp only [aQ,cV] at e
   subst e
   exact ⟨EqAt.bool_bool k k',RcAt.bool_bool k k',RcNeAt.bool_bool k k'⟩
  | int k' =>
   subst h;obtain rfl:u=iU k:=r
   subst h';obtain ⟨t',rfl⟩:=r'
   simp only [aQ,cV] at e
   subst e
   exact ⟨EqAt.bool_int k k' t',RcAt.bool_int k k' t',RcNeAt.bool_int k k' t'⟩
  | str k' =>
   subst h;obtain rfl:u=iU k:=r
   subst h';obtain ⟨t',rfl⟩:=r'
   simp only [aQ,cV] at e
   subst e
   exact ⟨EqAt.bool_str k k' t',RcAt.bool_str k k' t',RcNeAt.bool_str k k' t'⟩
  | tup ej =>
   subst h;obtain rfl:u=iU k:=r
   obtain ⟨p',f',rfl,dq,_⟩:=h';obtain ⟨its',_,be,_⟩:=I.tuple dq;obtain rfl:u'=dG p':=r';replace be:s.heap.IsTuple p' its'.toArray:=be
   simp only [aQ,cV] at e
   subst e
   exact ⟨EqAt.bool_tuple k be hu,RcAt.bool_tuple k be hu,RcNeAt.bool_tuple k be hu⟩
  | lst kJ ej =>
   subst h;obtain rfl:u=iU k:=r
   obtain ⟨p',f',rfl,dq,_⟩:=h';obtain ⟨its',_,be,_⟩:=I.list dq;obtain rfl:u'=dG p':=r';replace be:=be.isList
   simp only [aQ,cV] at e
   subst e
   exact ⟨EqAt.bool_list k be hu,RcAt.bool_list k be hu,RcNeAt.bool_list k be hu⟩
  | exc n'=>simp [aQ] at e
  | eJ n' m'=>simp [aQ] at e
 | int k =>
  cases d' with
  | aI =>
   subst h;obtain ⟨t,rfl⟩:=r
   subst h';obtain rfl:u'=iV:=r'
   simp only [aQ,cV] at e
   subst e
   exact ⟨EqAt.int_none k t,RcAt.int_none k t,RcNeAt.int_none k t⟩
  | bl k' =>
   subst h;obtain ⟨t,rfl⟩:=r
   subst h';obtain rfl:u'=iU k':=r'
   simp only [aQ,cV] at e
   subst e
   exact ⟨EqAt.int_bool k t k',RcAt.int_bool k t k',RcNeAt.int_bool k t k'⟩
  | int k' =>
   subst h;obtain ⟨t,rfl⟩:=r
   subst h';obtain ⟨t',rfl⟩:=r'
   simp only [aQ,cV] at e
   subst e
   exact ⟨EqAt.int_int k t k' t',RcAt.int_int k t k' t',RcNeAt.int_int k t k' t'⟩
  | str k' =>
   subst h;obtain ⟨t,rfl⟩:=r
   subst h';obtain ⟨t',rfl⟩:=r'
   simp only [aQ,cV] at e
   subst e
   exact ⟨EqAt.int_str k t k' t',RcAt.int_str k t k' t',RcNeAt.int_str k t k' t'⟩
  | tup ej =>
   subst h;obtain ⟨t,rfl⟩:=r
   obtain ⟨p',f',rfl,dq,_⟩:=h';obtain ⟨its',_,be,_⟩:=I.tuple dq;obtain rfl:u'=dG p':=r';replace be:s.heap.IsTuple p' its'.toArray:=be
   simp only [aQ,cV] at e
   subst e
   exact ⟨EqAt.int_tuple k t be hu,RcAt.int_tuple k t be hu,RcNeAt.int_tuple k t be hu⟩
  | lst kJ ej =>
   subst h;obtain ⟨t,rfl⟩:=r
   obtain ⟨p',f',rfl,dq,_⟩:=h';obtain ⟨its',_,be,_⟩:=I.list dq;obtain rfl:u'=dG p':=r';replace be:=be.isList
   simp only [aQ,cV] at e
   subst e
   exact ⟨EqAt.int_list k t be hu,RcAt.int_list k t be hu,RcNeAt.int_list k t be hu⟩
  | exc n'=>simp [aQ] at e
  | eJ n' m'=>simp [aQ] at e
 | str k =>
  cases d' with
  | aI =>
   subst h;obtain ⟨t,rfl⟩:=r
   subst h';obtain rfl:u'=iV:=r'
   simp only [aQ,cV] at e
   subst e
   exact ⟨EqAt.str_none k t,RcAt.str_none k t,RcNeAt.str_none k t⟩
  | bl k' =>
   subst h;obtain ⟨t,rfl⟩:=r
   subst h';obtain rfl:u'=iU k':=r'
   simp only [aQ,cV] at e
   subst e
   exact ⟨EqAt.str_bool k t k',RcAt.str_bool k t k',RcNeAt.str_bool k t k'⟩
  | int k' =>
   subst h;obtain ⟨t,rfl⟩:=r
   subst h';obtain ⟨t',rfl⟩:=r'
   simp only [aQ,cV] at e
   subst e
   exact ⟨EqAt.str_int k t k' t',RcAt.str_int k t k' t',RcNeAt.str_int k t k' t'⟩
  | str k' =>
   subst h;obtain ⟨t,rfl⟩:=r
   subst h';obtain ⟨t',rfl⟩:=r'
   simp only [aQ,cV] at e
   subst e
   exact ⟨EqAt.str_str k t k' t',RcAt.str_str k t k' t',RcNeAt.str_str k t k' t'⟩
  | tup ej =>
   subst h;obtain ⟨t,rfl⟩:=r
   obtain ⟨p',f',rfl,dq,_⟩:=h';obtain ⟨its',_,be,_⟩:=I.tuple dq;obtain rfl:u'=dG p':=r';replace be:s.heap.IsTuple p' its'.toArray:=be
   simp only [aQ,cV] at e
   subst e
   exact ⟨EqAt.str_tuple k t be hu,RcAt.str_tuple k t be hu,RcNeAt.str_tuple k t be hu⟩
  | lst kJ ej =>
   subst h;obtain ⟨t,rfl⟩:=r
   obtain ⟨p',f',rfl,dq,_⟩:=h';obtain ⟨its',_,be,_⟩:=I.list dq;obtain rfl:u'=dG p':=r';replace be:=be.isList
   simp only [aQ,cV] at e
   subst e
   exact ⟨EqAt.str_list k t be hu,RcAt.str_list k t be hu,RcNeAt.str_list k t be hu⟩
  | exc n'=>simp [aQ] at e
  | eJ n' m'=>simp [aQ] at e
 | tup ds =>
  cases d' with
  | aI =>
   obtain ⟨p,xs,rfl,hq,_⟩:=h;obtain ⟨ao,_,pl,_⟩:=I.tuple hq;obtain rfl:u=dG p:=r;replace pl:s.heap.IsTuple p ao.toArray:=pl
   subst h';obtain rfl:u'=iV:=r'
   simp only [aQ,cV] at e
   subst e
   exact ⟨EqAt.tuple_none pl hu,RcAt.tuple_none pl hu,RcNeAt.tuple_none pl hu⟩
  | bl k' =>
   obtain ⟨p,xs,rfl,hq,_⟩:=h;obtain ⟨ao,_,pl,_⟩:=I.tuple hq;obtain rfl:u=dG p:=r;replace pl:s.heap.IsTuple p ao.toArray:=pl
   subst h';obtain rfl:u'=iU k':=r'
   simp only [aQ,cV] at e
   subst e
   exact ⟨EqAt.tuple_bool k' pl hu,RcAt.tuple_bool k' pl hu,RcNeAt.tuple_bool k' pl hu⟩
  | int k' =>
   obtain ⟨p,xs,rfl,hq,_⟩:=h;obtain ⟨ao,_,pl,_⟩:=I.tuple hq;obtain rfl:u=dG p:=r;replace pl:s.heap.IsTuple p ao.toArray:=pl
   subst h';obtain ⟨t',rfl⟩:=r'
   simp only [aQ,cV] at e
   subst e
   exact ⟨EqAt.tuple_int k' t' pl hu,RcAt.tuple_int k' t' pl hu,RcNeAt.tuple_int k' t' pl hu⟩
  | str k' =>
   obtain ⟨p,xs,rfl,hq,_⟩:=h;obtain ⟨ao,_,pl,_⟩:=I.tuple hq;obtain rfl:u=dG p:=r;replace pl:s.heap.IsTuple p ao.toArray:=pl
   subst h';obtain ⟨t',rfl⟩:=r'
   simp only [aQ,cV] at e
   subst e
   exact ⟨EqAt.tuple_str k' t' pl hu,RcAt.tuple_str k' t' pl hu,RcNeAt.tuple_str k' t' pl hu⟩
  | tup ej=>exact (hn.1 _ _ rfl rfl).elim
  | lst kJ ej =>
   obtain ⟨p,xs,rfl,hq,_⟩:=h;obtain ⟨ao,_,pl,_⟩:=I.tuple hq;obtain rfl:u=dG p:=r;replace pl:s.heap.IsTuple p ao.toArray:=pl
   obtain ⟨p',f',rfl,dq,_⟩:=h';obtain ⟨its',_,be,_⟩:=I.list dq;obtain rfl:u'=dG p':=r';replace be:=be.isList
   simp only [aQ,cV] at e
   subst e
   exact ⟨EqAt.tuple_list pl be hu,RcAt.tuple_list pl be hu,RcNeAt.tuple_list pl be hu⟩
  | exc n'=>simp [aQ] at e
  | eJ n' m'=>simp [aQ] at e
 | lst ro ds =>
  cases d' with
  | aI =>
   obtain ⟨p,xs,rfl,hq,_⟩:=h;obtain ⟨ao,_,pl,_⟩:=I.list hq;obtain rfl:u=dG p:=r;replace pl:=pl.isList
   subst h';obtain rfl:u'=iV:=r'
   simp only [aQ,cV] at e
   subst e
   exact ⟨EqAt.list_none pl hu,RcAt.list_none pl hu,RcNeAt.list_none pl hu⟩
  | bl k' =>
   obtain ⟨p,xs,rfl,hq,_⟩:=h;obtain ⟨ao,_,pl,_⟩:=I.list hq;obtain rfl:u=dG p:=r;replace pl:=pl.isList
   subst h';obtain rfl:u'=iU k':=r'
   simp only [aQ,cV] at e
   subst e
   exact ⟨EqAt.list_bool k' pl hu,RcAt.list_bool k' pl hu,RcNeAt.list_bool k' pl hu⟩
  | int k' =>
   obtain ⟨p,xs,rfl,hq,_⟩:=h;obtain ⟨ao,_,pl,_⟩:=I.list hq;obtain rfl:u=dG p:=r;replace pl:=pl.isList
   subst h';obtain ⟨t',rfl⟩:=r'
   simp only [aQ,cV] at e
   subst e
   exact ⟨EqAt.list_int k' t' pl hu,RcAt.list_int k' t' pl hu,RcNeAt.list_int k' t' pl hu⟩
  | str k' =>
   obtain ⟨p,xs,rfl,hq,_⟩:=h;obtain ⟨ao,_,pl,_⟩:=I.list hq;obtain rfl:u=dG p:=r;replace pl:=pl.isList
   subst h';obtain ⟨t',rfl⟩:=r'
   simp only [aQ,cV] at e
   subst e
   exact ⟨EqAt.list_str k' t' pl hu,RcAt.list_str k' t' pl hu,RcNeAt.list_str k' t' pl hu⟩
  | tup ej =>
   obtain ⟨p,xs,rfl,hq,_⟩:=h;obtain ⟨ao,_,pl,_⟩:=I.list hq;obtain rfl:u=dG p:=r;replace pl:=pl.isList
   obtain ⟨p',f',rfl,dq,_⟩:=h';obtain ⟨its',_,be,_⟩:=I.tuple dq;obtain rfl:u'=dG p':=r';replace be:s.heap.IsTuple p' its'.toArray:=be
   simp only [aQ,cV] at e
   subst e
   exact ⟨EqAt.list_tuple pl be hu,RcAt.list_tuple pl be hu,RcNeAt.list_tuple pl be hu⟩
  | lst kJ ej=>exact (hn.2 _ _ _ _ rfl rfl).elim
  | exc n'=>simp [aQ] at e
  | eJ n' m'=>simp [aQ] at e
 | exc n=>cases d'<;>simp [aQ] at e
 | eJ n m=>cases d'<;>simp [aQ] at e
open PySem.SeqAt in
theorem GQ(I:Inv X pins σ H s):∀(n:Nat) {A:Around} {u u':Value} {v v':V} {d d':D} {b:Bool},A.units+n<cLine->Is X.K O H v d->Is X.K O' H v' d'->RelV v u->RelV v' u'->aQ n d d'=some b ->
  EqAt A s u u' b/\RcAt A s u u' b/\RcNeAt A s u u' (!b):=by
 intro n
 induction n with
 | zero =>
  intro A u u' v v' d d' b hu h h' r r' e
  refine GS I ‹_› h.kh h'.kh r r' e ⟨?_,?_⟩
  .rintro a c rfl rfl;simp [aQ] at e
  .rintro a c ro kJ rfl rfl;simp [aQ] at e
 | succ n ih =>
  intro A u u' v v' d d' b hu h h' r r' e
  have elems:∀{xs ys:List V} {ao cm:List Value} {ds es:List D} {bs:List Bool},aq xs ao->aq ys cm->aH X.K O H xs ds->aH X.K O' H ys es->fI (kn (aQ n) ds es)=some bs ->
    ∀j (h1:j<ao.toArray.size) (h2:j<cm.toArray.size),EqAt A.in1 s ao.toArray[j] cm.toArray[j] (bs.getD j false):=λ{xs ys ao cm ds es bs} rx ry ax ay ea j h1 h2=>by
   obtain ⟨d1,v1,e1,i1,r1⟩:=Hr rx ax h1
   obtain ⟨d2,v2,e2,i2,r2⟩:=Hr ry ay h2
   obtain ⟨hl,g⟩:=v9 ea
   have hz:(kn (aQ n) ds es)[j]?=some (aQ n d1 d2):=by rw [Ge,e1,e2]
   have hj:j<bs.length:=by rw [<-hl];exact (lK.mp hz).1
   have:=g j bs[j] (rf hj)
   rw [hz] at this
   have e3:bs.getD j false=bs[j]:=by simp [hj]
   rw [e3]
   exact (ih (A:=A.in1) (by show A.units+1+n<_;ext hu) i1 i2 r1 r2 (bQ this)).1
  by_cases ht:∃a c,d=.tup a/\d'=.tup c
  .obtain ⟨ds,es,rfl,rfl⟩:=ht
   simp only [aQ] at e
   obtain ⟨bs,e1,rfl⟩:=map_some e
   obtain ⟨p,xs,rfl,hq,ax⟩:=h.kh
   obtain ⟨p',ys,rfl,dq,ay⟩:=h'.kh
   obtain ⟨ao,rx,pl,_⟩:=I.tuple hq
   obtain ⟨cm,ry,be,_⟩:=I.tuple dq
   obtain rfl:u=dG p:=r
   obtain rfl:u'=dG p':=r'
   have pl:s.heap.IsTuple p ao.toArray:=pl
   have be:s.heap.IsTuple p' cm.toArray:=be
   have hlen:bs.length=min ds.length es.length:=by rw [<-(v9 e1).1,F3]
   have l1:ao.toArray.size=ds.length:=by rw [di,<-rx.length,ax.length]
   have l2:cm.toArray.size=es.length:=by rw [di,<-ry.length,ay.length]
   have val:((jv (min ao.toArray.size cm.toArray.size)).all (λj=>bs.getD j false)&&ao.toArray.size==cm.toArray.size)=(bs.all id&&decide (ds.length=es.length)):=by
    rw [l1,l2,all_range hlen]
    rfl
   have rc:=RcAt.tuples pl be (by ext hu) (elems rx ry ax ay e1)
   have rn:=RcNeAt.tuples pl be (by ext hu) (elems rx ry ax ay e1)
   rw [val] at rc rn
   refine ⟨?_,rc,rn⟩
   by_cases hp:p=p'
   .subst hp
    have:=HU I (n+1) h h' (show aQ (n+1) (.tup ds) (.tup es)=some (bs.all id&&decide (ds.length=es.length)) by simp only [aQ];rw [e1];rfl)
    rw [this]
    exact EqAt.same _
   .exact .of_refs hp rc
  by_cases hl:∃a c ro kJ,d=.lst ro a/\d'=.lst kJ c
  .obtain ⟨ds,es,ro,kJ,rfl,rfl⟩:=hl
   have e0:=e
   simp only [aQ] at e
   obtain ⟨p,xs,rfl,hq,ax⟩:=h.kh
   obtain ⟨p',ys,rfl,dq,ay⟩:=h'.kh
   obtain ⟨ao,rx,pl,_⟩:=I.list hq
   obtain ⟨cm,ry,be,_⟩:=I.list dq
   obtain rfl:u=dG p:=r
   obtain rfl:u'=dG p':=r'
   have l1:ao.toArray.size=ds.length:=by rw [di,<-rx.length,ax.length]
   have l2:cm.toArray.size=es.length:=by rw [di,<-ry.length,ay.length]
   have fin:RcAt A s (.ref p) (.ref p') b->RcNeAt A s (.ref p) (.ref p') (!b)->EqAt A s (.ref p) (.ref p') b/\RcAt A s (.ref p) (.ref p') b/\RcNeAt A s (.ref p) (.ref p') (!b):=λrc rn=>by
    refine ⟨?_,rc,rn⟩
    by_cases hp:p=p'
    .subst hp
     rw [HU I (n+1) h h' e0]
     exact EqAt.same _
    .exact .of_refs hp rc
   by_cases hlen:ds.length=es.length
   .rw [if_pos hlen] at e
    obtain ⟨bs,e1,rfl⟩:=map_some e
    have uF:bs.length=ds.length:=by rw [<-(v9 e1).1,F3];ext hlen
    have rc:=RcAt.lists pl.isList be.isList (by ext l1 l2 hlen) (by ext hu) (elems rx ry ax ay e1)
    have rn:=RcNeAt.lists pl.isList be.isList (by ext l1 l2 hlen) (by ext hu) (elems rx ry ax ay e1)
    rw [l1,all_range uF] at rc rn
    exact fin rc rn
   .rw [if_neg hlen] at e
    cases e
    have bz:(ao.toArray.size != cm.toArray.size)=true:=by rw [l1,l2];simpa using hlen
    exact fin (RcAt.lists_lengths pl.isList be.isList bz (by ext hu)) (RcNeAt.lists_lengths pl.isList be.isList bz (by ext hu))
  refine GS I (by ext hu) h.kh h'.kh r r' e ⟨λa c e1 e2=>ht ⟨a,c,e1,e2⟩,λa c ro kJ e1 e2=>hl ⟨a,c,ro,kJ,e1,e2⟩⟩
noncomputable def aY:D->D->Option Sl:=λa b=>(aQ 8 a b).map λk=>.sh (.bl k)
noncomputable def dr:D->D->Option Sl:=λa b=>(aQ 8 a b).map λk=>.sh (.bl !k)
theorem dZ(hu:X.A.units+8<cLine):ic X (compareOp .Eq) aY:=by
 refine ⟨λx y H Q=>∃O O' a b k,Is X.K O H x a/\Is X.K O' H y b/\aQ 8 a b=some k/\Q (.bl k) H,?_,λO H x y a b s Q hO hx hy e q=>?_⟩
 .intro pins s σ H x y v u Q I rx ry h
  obtain ⟨O,O',a,b,k,hx,hy,e,q⟩:=h
  exact (GQ I 8 hu hx hy rx ry e).2.1 _ _ _ _ ⟨.bl k,H,I,rfl,q⟩
 .obtain ⟨k,e1,rfl⟩:=map_some e
  exact ⟨O,O,a,b,k,hx,hy,e1,q _ H (ar.refl _) (Is.bl _)⟩
theorem yJ(hu:X.A.units+8<cLine):ic X (compareOp .NotEq) dr:=by
 refine ⟨λx y H Q=>∃O O' a b k,Is X.K O H x a/\Is X.K O' H y b/\aQ 8 a b=some k/\Q (.bl !k) H,?_,λO H x y a b s Q hO hx hy e q=>?_⟩
 .intro pins s σ H x y v u Q I rx ry h
  obtain ⟨O,O',a,b,k,hx,hy,e,q⟩:=h
  exact (GQ I 8 hu hx hy rx ry e).2.2 _ _ _ _ ⟨.bl _,H,I,rfl,q⟩
 .obtain ⟨k,e1,rfl⟩:=map_some e
  exact ⟨O,O,a,b,k,hx,hy,e1,q _ H (ar.refl _) (Is.bl _)⟩
end
theorem Fx.u8{X:Cx}{N:List Str}{sc:Scope}{k:Nat}{full:Bool}(h:Fx X N sc k full):X.A.units+8<cLine:=by have:=h.room.un;ext this
theorem zF{X X':Cx}{x:Str}(e4:X'.mg=X.mg)(h:X.mg x=none):X'.mg x=none:=by rw [e4];exact h
end DL
namespace DL
open PySem PySem.Spec PyProof.Rows L2
theorem TK{P:Program}{w:World}{K:aC}{tg:Expr}(it:Addr)(lo:Int)(n:Nat):Turn P w K tg (jF lo n) [it] it (λi h=>IsLongIter h it (lo+(i:Nat)*1) ((n:Int)-(i:Nat)) 1) where
 mem:=by simp
 obj:=λi h st b hb=>by
  have e:b=it:=by simpa using hb
  subst e
  exact ⟨_,st,λv z=>by
   have z':Data.fields _=Data.cell v:=z
   cases z'⟩
 keep:=λi h h' st k=>k it (by simp) _ st
 item:=by
  intro X hP hw hK hc i pins s σ H E I hf st hg
  subst hP hw hK
  obtain ⟨f0,f1,f2,f3,f4,f5⟩:=hf it (by simp)
  have W:=Walks.longrange (prog:=X.prog) (w:=X.w) (I.ok.hd hc) it lo 1 n
  refine W.item i s _ _ hg st λv h' tk hv aj kk=>?_
  obtain ⟨t,rfl⟩:=hv
  have I1:Inv X pins σ H { s with heap:=h',toks:=tk }:=I.turned (λb o hb e=>kk b o (by simpa using hb) e) f0 f1 f3 f4 f5
  refine ⟨_,rfl,yB (s:={ s with heap:=h',toks:=tk }) (n:="longrange_iterator") aj rfl rfl (by decide) ⟨.int (lo+i),H,I1,⟨t,?_⟩,⟨rfl,rfl⟩,aj,λb hb=>(hf b hb).1⟩⟩
  rw [mW]
 done:=by
  intro X hP hw hK hc i pins s σ H E I hf st hg
  subst hP hw hK
  obtain ⟨f0,f1,f2,f3,f4,f5⟩:=hf it (by simp)
  exact wpAny_pyNext_long_end (I.ok.hd hc) st (by have:n<=i:=hg;ext this) λh' eb=>⟨rfl,I.turned (t':=s.toks) (λb o hb e=>eb b o hb e) f0 f1 f3 f4 f5⟩
 self:=λ_ _ _ _ _ st h=>wpAny_pyIter_longiter st h
section
variable {X:Cx}{tg:Expr}
theorem IA{pins:List (Addr×Obj)}{σ:L2.St}{H:Hp}{s:Shared}{R:It->Hp->Prop}{E:Value->Shared->Prop}{lo hi:Int}{t u v:Tok}{tk:Nat}(I:Inv X pins σ H s)
  (q:R (jF lo (hi-lo).toNat) H):wpAny (model X.prog X.w) X.A (pyIter (.ref s.heap.objs.size)) (ED X pins σ tg R) E { s with heap:=s.heap.push { cls:=.type "range",data:=.fields #[.int lo t,.int hi u,.int 1 v] },toks:=tk }:=by
 have I1:Inv X pins σ H { s with heap:=s.heap.push { cls:=.type "range",data:=.fields #[.int lo t,.int hi u,.int 1 v] },toks:=tk }:=I.kept λb o e=>fT _ e
 have e1:lo+((0:Nat):Int)*1=lo:=by simp
 have e2:(((hi-lo).toNat:Nat):Int)-((0:Nat):Int)=FY lo hi 1:=by rw [rangeSize_one];split<;>lia
 have fin:∀b∈[(s.heap.push { cls:=.type "range",data:=.fields #[.int lo t,.int hi u,.int 1 v] }).objs.size],eM X pins H b:=λb hb=>by
  have e:b=(s.heap.push { cls:=.type "range",data:=.fields #[.int lo t,.int hi u,.int 1 v] }).objs.size:=by simpa using hb
  subst e
  exact I1.lr (bj _) (I1.bw.fresh (bj _))
 by_cases E9:Builtin.Range.small lo hi 1=true
 .refine wpAny_pyIter_range (BE ..) E9 ?_
  refine ⟨_,[(s.heap.push { cls:=.type "range",data:=.fields #[.int lo t,.int hi u,.int 1 v] }).objs.size],_,_,H,rfl,I1.kept (t':=tk) λb o e=>fT _ e,IY _ lo (hi-lo).toNat,?_,fin,q⟩
  show IsRangeIter _ _ (lo+((0:Nat):Int)*1) ((((hi-lo).toNat:Nat):Int)-((0:Nat):Int)) 1
  rw [e1,e2]
  exact l9 _ rfl
 .refine wpAny_pyIter_longrange (BE ..) (by simpa using E9) ?_
  refine ⟨_,[(s.heap.push { cls:=.type "range",data:=.fields #[.int lo t,.int hi u,.int 1 v] }).objs.size],_,_,H,rfl,I1.kept (t':=tk) λb o e=>fT _ e,TK _ lo (hi-lo).toNat,?_,fin,q⟩
  show IsLongIter _ _ (lo+((0:Nat):Int)*1) ((((hi-lo).toNat:Nat):Int)-((0:Nat):Int)) 1
  rw [e1,e2]
  exact l9 _ rfl
noncomputable def P5(ta:TA):TI:=λσ H R=>ta σ H λvs H1=>∃j:Int,vs=[.int j]/\R (jF 0 j.toNat) H1
noncomputable def P6(ta:TA):TI:=λσ H R=>ta σ H λvs H1=>∃i j:Int,vs=[.int i,.int j]/\R (jF i (j-i).toNat) H1
theorem Tr(hg:Gl X "range")(hm:X.mg "range" = none)(ha:PA X [a] ta)(hs:starEach [a] X.env=[(false,eval a X.env)]:=by rfl):PI X tg (.Call (.Name "range" p) [a] [] pos) (P5 ta):=by
 intro pins s σ H R I h
 refine Call_ (rM I hg hm boot_range (yp (bu (ha pos pins s σ H _ I h) λus s1 ⟨vs,H1,I1,r1,q1⟩=>?_) hs rfl))
 obtain ⟨j,e,q⟩:=q1
 subst e
 cases r1 with
 | cons r rr =>
  cases rr
  obtain ⟨t,rfl⟩:=r
  exact call_range_1 (IA I1 (by simpa using q))
theorem Tt{a b:Expr}{ta:TA}{p pos:Pos}(hg:Gl X "range")(hm:X.mg "range" = none)(ha:PA X [a,b] ta)(hs:starEach [a,b] X.env=[(false,eval a X.env),(false,eval b X.env)]:=by rfl)(eZ:starEach [b] X.env=[(false,eval b X.env)]:=by rfl):
  PI X tg (.Call (.Name "range" p) [a,b] [] pos) (P6 ta):=by
 intro pins s σ H R I h
 refine Call_ (rM I hg hm boot_range (yp (bu (ha pos pins s σ H _ I h) λus s1 ⟨vs,H1,I1,r1,q1⟩=>?_) (by rw [hs,eZ]) (by rw [eZ];rfl)))
 obtain ⟨i,j,e,q⟩:=q1
 subst e
 cases r1 with
 | cons r rr =>
  cases rr with
  | cons r' rr =>
   cases rr
   obtain ⟨t,rfl⟩:=r
   obtain ⟨t',rfl⟩:=r'
   exact call_range_2 (IA I1 q)
noncomputable def yu:List D->Option (List D)
 | [.int j]=>some (cS 0 j.toNat)
 | _=>none
noncomputable def yv:List D->Option (List D)
 | [.int i,.int j]=>some (cS i (j-i).toNat)
 | _=>none
theorem RG(ux:Gl X "range")(hm:X.mg "range" = none)(ha:AV X [a] fs)(h1:starEach [a] X.env=[(false,eval a X.env)]:=by rfl):IV X tg (.Call (.Name "range" p) [a] [] pos) (lu yu fs):=by
 obtain ⟨ti,pi,ki⟩:=ha
 refine ⟨_,Tr ux hm pi h1,λO B σ H env ds R Rl e q=>?_⟩
 obtain ⟨as,e1,e2⟩:=bind_some e
 refine ki O B σ H env as _ Rl e1 λvs H1 s1 r1=>?_
 unfold yu at e2
 split at e2
 .cases e2
  exact ⟨_,Hv r1,q _ H1 s1 (HG _ _)⟩
 .cases e2
theorem RH{a b:Expr}{fs:En->Option (List D)}{p pos:Pos}(ux:Gl X "range")(hm:X.mg "range" = none)(ha:AV X [a,b] fs)(h1:starEach [a,b] X.env=[(false,eval a X.env),(false,eval b X.env)]:=by rfl)
  (h2:starEach [b] X.env=[(false,eval b X.env)]:=by rfl):IV X tg (.Call (.Name "range" p) [a,b] [] pos) (lu yv fs):=by
 obtain ⟨ti,pi,ki⟩:=ha
 refine ⟨_,Tt ux hm pi h1 h2,λO B σ H env ds R Rl e q=>?_⟩
 obtain ⟨as,e1,e2⟩:=bind_some e
 refine ki O B σ H env as _ Rl e1 λvs H1 s1 r1=>?_
 unfold yv at e2
 split at e2
 .cases e2
  exact ⟨_,_,DE r1,q _ H1 s1 (HG _ _)⟩
 .cases e2
end
end DL
namespace DL
open PySem PySem.Spec PyProof.Rows L2
def sW(b:Bool)(h:Heap)(it l:Addr)(k:Nat):Prop:=match b with
 | true=>h.IsListIter it l k
 | false=>h.IsTupleIter it l k
def qQ(b:Bool)(h:Heap)(l:Addr)(items:Array Value):Prop:=match b with
 | true=>h.IsList l items
 | false=>h.IsTuple l items
theorem sW.keep(x:sW b h it l k)(e:∀o,h.get? it=some o->h'.get? it=some o):sW b h' it l k:=by
 cases b with
 | true=>obtain ⟨o,ho,r⟩:=x;exact ⟨o,e _ ho,r⟩
 | false=>obtain ⟨o,ho,r⟩:=x;exact ⟨o,e _ ho,r⟩
theorem qQ.keep(x:qQ b h l items)(e:∀o,h.get? l=some o->h'.get? l=some o):qQ b h' l items:=by
 cases b with
 | true=>obtain ⟨o,ho,r⟩:=x;exact ⟨o,e _ ho,r⟩
 | false=>obtain ⟨o,ho,r⟩:=x;exact ⟨o,e _ ho,r⟩
theorem sW.lt(x:sW b h it l k):it<h.objs.size:=by
 cases b with
 | true=>obtain ⟨o,ho,r⟩:=x;exact cE ho
 | false=>obtain ⟨o,ho,r⟩:=x;exact cE ho
theorem qQ.lt(x:qQ b h l items):l<h.objs.size:=by
 cases b with
 | true=>obtain ⟨o,ho,r⟩:=x;exact cE ho
 | false=>obtain ⟨o,ho,r⟩:=x;exact cE ho
section
variable {prog:Program}{w:World}{A:Around}{E:Value->Shared->Prop}{s:Shared}
structure Wy(z TI TO i1 i2 l1 l2:Addr):Prop where
 a1:TI≠z
 a2:TO≠z
 a3:i1≠z
 a4:i2≠z
 a6:TO≠i1
 a7:TO≠i2
 a8:i1≠i2
 b1:l1≠z
 b2:l1≠TO
 b3:l1≠i1
 b4:l1≠i2
 c1:l2≠z
 c2:l2≠TO
 c3:l2≠i1
 c4:l2≠i2
end
end DL
namespace DL
open PySem PySem.Spec PyProof.Rows L2
section
variable {X:Cx}{pins:List (Addr×Obj)}{σ:L2.St}{H:Hp}{s:Shared}
theorem sO(I:Inv X pins σ H s)(h:Sq X.K H b l xs):∃ao:List Value,aq xs ao/\qQ b s.heap l ao.toArray:=by
 cases b with
 | true=>obtain ⟨ao,r,p,_⟩:=I.list h;exact ⟨ao,r,p.isList⟩
 | false=>obtain ⟨ao,r,p,_⟩:=I.tuple h;exact ⟨ao,r,p⟩
end
section
variable {prog:Program}{w:World}{A:Around}{E:Value->Shared->Prop}{s:Shared}
end
section
variable {X:Cx}{elts:List Expr}{kk:Nat}{tp:Pos}
noncomputable def kE(a b:List D):List D:=kn (λd e=>D.tup [d,e]) a b
noncomputable def mC:List D->Option (List D)
 | [a,b]=>(dk a).bind λp=>(dk b).map λq=>kE p.2 q.2
 | _=>none
end
end DL
namespace SO
section pure
variable {α:Type}
def c6(κ:α->Int)(l:List α):Prop:=l.Pairwise λx y=>κ x<κ y
structure Inv(κ:α->Int)(la lb out:List α)(ia ib:Nat):Prop where
 perm:out.Perm (la.take ia++lb.take ib)
 zU:c6 κ out
 lo:∀x∈out,(∀y∈la.drop ia,κ x<κ y)/\∀y∈lb.drop ib,κ x<κ y
variable {κ:α->Int}{la lb out:List α}{ia ib:Nat}
theorem Inv.sym(h:Inv κ la lb out ia ib):Inv κ lb la out ib ia:=⟨h.perm.trans vE,h.zU,λx hx=>⟨(h.lo x hx).2,(h.lo x hx).1⟩⟩
theorem rV(h:c6 κ l)(i:Nat):c6 κ (l.drop i):=h.sublist (List.drop_sublist ..)
theorem Dc(h:c6 κ l)(i:Nat):c6 κ (l.take i):=h.sublist (List.take_sublist ..)
theorem Dp(h:c6 κ l)(i:Nat):∀x∈l.take i,∀y∈l.drop i,κ x<κ y:=by
 have:c6 κ (l.take i++l.drop i):=by rw [kr];exact h
 exact (fG.mp this).2.2
theorem Inv.a(h:Inv κ la lb out ia ib)(sa:c6 κ la)(k:Nat)(hk:∀x∈(la.drop ia).take k,∀y∈lb.drop ib,κ x<κ y):Inv κ la lb (out++(la.drop ia).take k) (ia+k) ib:=by
 refine ⟨?_,fG.mpr ⟨h.zU,Dc (rV sa ia) k,λx hx y hy=>(h.lo x hx).1 y (rj hy)⟩,λx hx=>?_⟩
 .rw [List.take_add,dH]
  refine (h.perm.append_right _).trans ?_
  rw [dH]
  exact vE.append_left _
 .rw [<-List.drop_drop]
  rcases bR.mp hx with hx | hx
  .exact ⟨λy hy=>(h.lo x hx).1 y (rh hy),(h.lo x hx).2⟩
  .exact ⟨λy hy=>Dp (rV sa ia) k x hx y hy,hk x hx⟩
theorem Inv.b(h:Inv κ la lb out ia ib)(sb:c6 κ lb)(k:Nat)(hk:∀x∈(lb.drop ib).take k,∀y∈la.drop ia,κ x<κ y):Inv κ la lb (out++(lb.drop ib).take k) ia (ib+k):=(h.sym.a sb k hk).sym
theorem Inv.last(h:Inv κ la lb out ia ib)(sa:c6 κ la)(sb:c6 κ lb)(hm:∀x∈lb.drop ib,∀y∈la.drop ia,κ x<κ y):c6 κ (out++lb.drop ib++la.drop ia)/\(out++lb.drop ib++la.drop ia).Perm (la++lb):=by
 refine ⟨fG.mpr ⟨fG.mpr ⟨h.zU,rV sb ib,λx hx=>(h.lo x hx).2⟩,rV sa ia,λx hx y hy=>?_⟩,?_⟩
 .rcases bR.mp hx with hx | hx
  .exact (h.lo x hx).1 y hy
  .exact hm x hx y hy
 .have e:la++lb=(la.take ia++la.drop ia)++(lb.take ib++lb.drop ib):=by rw [kr,kr]
  rw [e,dH]
  refine (h.perm.append_right _).trans ?_
  simp only [dH]
  refine Ca _ ?_
  refine vE.trans ?_
  simp only [dH]
  refine (vE).trans ?_
  simp only [dH]
  refine Ca _ ?_
  exact BY _
theorem Inv.done(h:Inv κ la lb out ia ib)(sa:c6 κ la)(sb:c6 κ lb)(hm:∀x∈la.drop ia,∀y∈lb.drop ib,κ x<κ y):c6 κ (out++la.drop ia++lb.drop ib)/\(out++la.drop ia++lb.drop ib).Perm (la++lb):=
 have q:=h.sym.last sb sa hm
 ⟨q.1,q.2.trans vE⟩
theorem ud:Inv κ la lb [] 0 0:=⟨by simp,BR,λx hx=>nomatch hx⟩
theorem Pp(sa:c6 κ A)(sb:c6 κ B)(h1:∀x∈A.take k,∀y∈B,κ x<κ y)(h2:∀x∈B.drop m,∀y∈A,κ y<κ x)(sm:c6 κ M)(pm:M.Perm (A.drop k++B.take m)):
  c6 κ (A.take k++M++B.drop m)/\(A.take k++M++B.drop m).Perm (A++B):=by
 constructor
 .refine fG.mpr ⟨fG.mpr ⟨Dc sa k,sm,λx hx y hy=>?_⟩,rV sb m,λx hx y hy=>?_⟩
  .rcases bR.mp (pm.mem_iff.mp hy) with hy | hy
   .exact Dp sa k x hx y hy
   .exact h1 x hx y (rj hy)
  .rcases bR.mp hx with hx | hx
   .exact h1 x hx y (rh hy)
   .rcases bR.mp (pm.mem_iff.mp hx) with hx | hx
    .exact h2 y hy x (rh hx)
    .exact Dp sb m x hx y hy
 .have e:A++B=(A.take k++A.drop k)++(B.take m++B.drop m):=by rw [kr,kr]
  rw [e,dH]
  simp only [dH]
  refine Ca _ ?_
  rw [<-dH]
  exact pm.append_right _
theorem gk(m:List α):∀(xs:Array α) (o n:Nat) (k:Nat),o+n+m.length<=xs.size->((m.zipIdx n).foldl (λa p=>a.setIfInBounds (o+p.2) p.1) xs)[k]?=if o+n<=k/\k<o+n+m.length then m[k-(o+n)]? else xs[k]?:=by
 induction m with
 | nil=>intro xs o n k h;simp only [List.zipIdx_nil,List.foldl_nil,q9];rw [if_neg (by ext)]
 | cons x m ih =>
  intro xs o n k h
  simp only [fS] at h
  rw [List.zipIdx_cons,List.foldl_cons,ih _ o (n+1) k (by simp only [Array.size_setIfInBounds];ext h)]
  simp only [fS]
  by_cases c:o+(n+1)<=k/\k<o+(n+1)+m.length
  .rw [if_pos c,if_pos (by ext c),show k-(o+n)=(k-(o+(n+1)))+1 by ext c,List.getElem?_cons_succ]
  .rw [if_neg c,Array.getElem?_setIfInBounds]
   by_cases c2:o+n=k
   .subst c2
    rw [if_pos rfl,if_pos (by ext h),if_pos (by ext)]
    simp
   .rw [if_neg c2,if_neg (by ext c c2)]
theorem Tu{P A S m:List α}{xs:Array α}(e:xs.toList=P++A++S)(hl:m.length=A.length):(m.zipIdx.foldl (λa p=>a.setIfInBounds (P.length+p.2) p.1) xs).toList=P++m++S:=by
 have hs:xs.size=P.length+A.length+S.length:=by rw [<-gn,e];simp;ext
 refine List.ext_getElem? λk=>?_
 rw [om,gk m xs P.length 0 k (by ext hl hs),Nat.add_zero,<-om,e]
 by_cases h1:k<P.length
 .rw [if_neg (by ext h1),dH,dH,qd h1,qd h1]
 .by_cases h2:k<P.length+m.length
  .rw [if_pos ⟨by ext h1,h2⟩,dH,m5 (by ext h1),qd (by ext h1 h2)]
  .rw [if_neg (by ext h2),m5 (by simp;ext hl h2),m5 (by simp;ext h2)]
   simp [hl]
noncomputable def h9:Nat->List (List α)->List (Nat×Nat×Nat)->Prop
 | _,[],[]=>True
 | o,R::Rs,p::ps=>p.1=o/\p.2.1=R.length/\h9 (o+R.length) Rs ps
 | _,_,_=>False
theorem h9.len:∀{o:Nat} {Rs:List (List α)} {ps:List (Nat×Nat×Nat)},h9 o Rs ps->ps.length=Rs.length
 | _,[],[],_=>rfl
 | _,R::Rs,p::ps,h=>by simp [h.2.2.len]
theorem h9.app:∀{o:Nat} {Rs Ss:List (List α)} {ps qs:List (Nat×Nat×Nat)},h9 o Rs ps->h9 (o+Rs.flatten.length) Ss qs->h9 o (Rs++Ss) (ps++qs)
 | o,[],Ss,[],qs,_,h=>by simpa using h
 | o,R::Rs,Ss,p::ps,qs,h,k=>⟨h.1,h.2.1,h.2.2.app (by rw [yh,bP,<-B1] at k;exact k)⟩
theorem h9.split:∀{o:Nat} {Rs Ss:List (List α)} {ps:List (Nat×Nat×Nat)},h9 o (Rs++Ss) ps->h9 o Rs (ps.take Rs.length)/\h9 (o+Rs.flatten.length) Ss (ps.drop Rs.length)
 | o,[],Ss,ps,h=>⟨trivial,by simpa using h⟩
 | o,R::Rs,Ss,p::ps,h=>by
  obtain ⟨k1,k2⟩:=h9.split (Rs:=Rs) h.2.2
  refine ⟨⟨h.1,h.2.1,k1⟩,?_⟩
  rw [yh,bP,<-B1]
  exact k2
end pure
open PySem PyProof.Rows
noncomputable def a7p:Bool → Keyed → Array Keyed → Nat → Nat → Nat → StateT SortSt Sem (Option Nat):=sortPriv% PySem.Builtin.gallop
noncomputable def b0A:Array Keyed → Array Keyed → StateT SortSt Sem (Array Keyed):=sortPriv% PySem.Builtin.mergeLo
noncomputable def b0B:Array Keyed → Array Keyed → StateT SortSt Sem (Array Keyed):=sortPriv% PySem.Builtin.mergeHi
noncomputable def setG':Nat → StateT SortSt Sem Unit:=sortPriv% PySem.Builtin.setMinGallop
section
variable {prog:Program}{w:World}{A:Around}{E:Value->Shared->Prop}{s:Shared}
theorem rP{σ α:Type}{M:Model}{m:StateT σ Sem α}{Q:α->σ->Prop}{st:σ}(h:wpS M A E s m Q st):wpAny M A (m st) (λr s'=>s'=s/\Q r.1 r.2) E s:=h
structure Ask(prog:Program)(w:World)(s:Shared)(kd:SortKind)(κ:Keyed->Int)(C:Keyed->Prop):Prop where
 lt:∀{x y:Keyed},C x->C y->κ x≠κ y->∀{A:Around} {E:Value->Shared->Prop} {Q:Bool->Shared->Prop},Q (decide (κ x<κ y)) s->wpAny (model prog w) A (keyLt' kd x.1 y.1) Q E s
variable {kd:SortKind}{κ:Keyed->Int}{C:Keyed->Prop}
theorem tY(hk:Ask prog w s kd κ C){st:SortSt}{Q:Option Bool->SortSt->Prop}(hd:kindOf st=kd)(hx:C x)(hy:C y)(bz:κ x≠κ y)(h:Q (some (decide (κ x<κ y))) st):wpS (model prog w) A E s (lt' x y) Q st:=by
 rw [lt'_eq]
 refine aF (jT ?_)
 rw [hd]
 exact aF (wpS_lift (wpAny_attempt (hk.lt hx hy bz ⟨rfl,aP h⟩)))
theorem fj{Q:Keyed->SortSt->Prop}{st:SortSt}(hi:i<arr.size)(h:Q arr[i] st):wpS (model prog w) A E s (elem' arr i) Q st:=by
 rw [elem'_eq,getElem?_pos arr i hi]
 exact aP h
noncomputable def kv(κ:Keyed->Int)(arr:Array Keyed)(i:Nat):Int:=match arr[i]? with
 | some p=>κ p
 | none=>0
theorem fx(h:i<arr.size):kv κ arr i=κ arr[i]:=by unfold kv;rw [getElem?_pos arr i h]
theorem vK(h:xs[i]?=ys[j]?):kv κ xs i=kv κ ys j:=by unfold kv;rw [h]
theorem Po(hk:Ask prog w s kd κ C){st:SortSt}(hd:kindOf st=kd){Q:Option Bool->SortSt->Prop}(hC:C key)(hj:j<arr.size)(hx:C arr[j])(bz:κ arr[j]≠κ key)(h:Q (some (decide (kv κ arr j<κ key))) st):
  wpS (model prog w) A E s (elem' arr j >>= λx=>if left=true then lt' x key else lt' key x >>= λr=>pure (BC (λx=>!x) r)) Q st:=by
 refine aF (fj hj ?_)
 rw [fx hj] at h
 cases left with
 | true =>
  rw [if_pos rfl]
  exact tY hk hd hx hC bz h
 | false =>
  rw [if_neg (by decide)]
  refine aF (tY hk hd hC hx (km bz) (aP ?_))
  have e:(!decide (κ key<κ arr[j]))=decide (κ arr[j]<κ key):=by
   by_cases c:κ key<κ arr[j]
   .rw [decide_eq_true c,decide_eq_false (by ext hj c)];rfl
   .rw [decide_eq_false c,decide_eq_true (by ext hj bz c)];rfl
  rw [vk,e]
  exact h
theorem xF(hk:Ask prog w s kd κ C){st:SortSt}(hd:kindOf st=kd){Q:Option Nat->SortSt->Prop}(hC:C key)(hn:base+n<=arr.size)(hh:hint<n)
  (hA:∀j (h:j<arr.size),base<=j->j<base+n->C arr[j]/\κ arr[j]≠κ key)(hs:∀i j,i<j->j<n->kv κ arr (base+i)<kv κ arr (base+j))
  (h:∀k,k<=n->(∀i,i<k->kv κ arr (base+i)<κ key)->(∀i,k<=i->i<n->κ key<kv κ arr (base+i))->Q (some k) st):wpS (model prog w) A E s (a7p left key arr base n hint) Q st:=by
 have ask:∀i,i<n->∀{Q:Option Bool->SortSt->Prop},Q (some (decide (kv κ arr (base+i)<κ key))) st->wpS (model prog w) A E s (elem' arr (base+i) >>= λx=>if left=true then lt' x key else lt' key x >>= λr=>pure (BC (λx=>!x) r)) Q st:=λi hi Q hQ =>
  have hj:base+i<arr.size:=by ext hn hi
  Po hk hd hC hj (hA _ hj (by ext) (by ext hi)).1 (hA _ hj (by ext) (by ext hi)).2 hQ
 have ne:∀i,i<n->kv κ arr (base+i)≠κ key:=λi hi=>by
  have hj:base+i<arr.size:=by ext hn hi
  rw [fx hj]
  exact (hA _ hj (by ext) (by ext hi)).2
 have dn:∀i j,i<=j->j<n->kv κ arr (base+j)<κ key->kv κ arr (base+i)<κ key:=λi j h1 h2 h3=>by
  by_cases c:i=j
  .subst c;exact h3
  .have:=hs i j (by ext h1 c) h2;ext h3 this
 have up:∀i j,i<=j->j<n->κ key<kv κ arr (base+i)->κ key<kv κ arr (base+j):=λi j h1 h2 h3=>by
  by_cases c:i=j
  .subst c;exact h3
  .have:=hs i j (by ext h1 c) h2;ext h3 this
 unfold wpS
 wp_delta
 wp_delta
 wp_delta
 refine rP (Q:=Q) (aF (ask hint hh ?_))
 dsimp only
 have tail:∀lo hi:Nat,lo<=hi->hi<=n->(∀i,i<lo->kv κ arr (base+i)<κ key)->(∀i,hi<=i->i<n->κ key<kv κ arr (base+i)) ->
   wpS (model prog w) A E s (forIn [0:n] ((none,lo,hi):Option (Option Nat)×Nat×Nat) (λx q=>if q.2.1≥q.2.2 then pure (yk (none,q.2.1,q.2.2)) else
    (elem' arr (base+(q.2.1+(q.2.2-q.2.1)/2)) >>= λx=>if left=true then lt' x key else lt' key x >>= λr=>pure (BC (λx=>!x) r)) >>= λr=>match r with
     | some more=>if more=true then pure (me (none,q.2.1+(q.2.2-q.2.1)/2+1,q.2.2)) else pure (me (none,q.2.1,q.2.1+(q.2.2-q.2.1)/2))
     | x=>pure (yk (some none,q.2.1,q.2.2)))) (λq aj=>aj=st/\∃k,q.1=none/\q.2.2=k/\k<=n/\(∀i,i<k->kv κ arr (base+i)<κ key)/\∀i,k<=i->i<n->κ key<kv κ arr (base+i)) st:=λlo hi h1 h2 h3 h4=>by
  refine gO (λx q aj=>aj=st/\∃l r,q=(none,l,r)/\l<=r/\r<=n/\r-l<=n-x/\(∀i,i<l->kv κ arr (base+i)<κ key)/\∀i,r<=i->i<n->κ key<kv κ arr (base+i)) (λx q aj _ hx hI=>?_) (λq aj hI=>?_) ⟨rfl,lo,hi,rfl,h1,h2,by ext h2,h3,h4⟩
  .obtain ⟨rfl,l,r,rfl,j1,j2,j3,j4,j5⟩:=hI
   dsimp only
   by_cases c:l≥r
   .rw [if_pos c]
    obtain rfl:l=r:=by ext j1 c
    exact aP ⟨rfl,l,rfl,rfl,j2,j4,j5⟩
   .rw [if_neg c]
    refine aF (ask _ (by lia) ?_)
    dsimp only
    by_cases c2:kv κ arr (base+(l+(r-l)/2))<κ key
    .rw [if_pos (decide_eq_true c2)]
     exact aP ⟨rfl,_,_,rfl,by lia,‹_›,by ext j3,λi hi=>dn i _ (by ext hi) (by lia) c2,j5⟩
    .rw [if_neg (by simpa using c2)]
     have:=ne (l+(r-l)/2) (by lia)
     exact aP ⟨rfl,_,_,rfl,by ext,by lia,by lia,j4,λi hi h'=>up _ i hi h' (by ext c2 this)⟩
  .obtain ⟨rfl,l,r,rfl,j1,j2,j3,j4,j5⟩:=hI
   obtain rfl:l=r:=by ext j1 j3
   exact ⟨rfl,l,rfl,rfl,j2,j4,j5⟩
 by_cases c:kv κ arr (base+hint)<κ key
 .rw [if_pos (decide_eq_true c)]
  refine aF (gQ (gO (λx q aj=>aj=st/\∃l o,q=(none,l,o)/\l<o/\x+1<=o/\hint+l<n/\kv κ arr (base+(hint+l))<κ key) (Q:=λq aj=>aj=st/\∃l o,q=(none,l,o)/\l<o/\hint+l<n/\kv κ arr (base+(hint+l))<κ key/\(o<n-hint->κ key<kv κ arr (base+(hint+o)))) (λx q aj _ hx hI=>?_) (λq aj hI=>?_) ⟨rfl,0,1,rfl,by decide,by decide,‹_›,c⟩) λq aj hI=>?_)
  .obtain ⟨rfl,l,o,rfl,j1,j2,j3,j4⟩:=hI
   dsimp only
   by_cases c1:o≥n-hint
   .rw [if_pos c1]
    exact aP ⟨rfl,l,o,rfl,j1,j3,j4,λz=>absurd z (by ext c1)⟩
   .rw [if_neg c1]
    refine aF (ask (hint+o) (by ext c1) ?_)
    dsimp only
    by_cases c2:kv κ arr (base+(hint+o))<κ key
    .rw [if_neg (by simpa using c2)]
     exact aP ⟨rfl,o,2*o+1,rfl,by ext,by ext j2,by ext c1,c2⟩
    .rw [if_pos (by simpa using c2)]
     have:=ne (hint+o) (by ext c1)
     exact aP ⟨rfl,l,o,rfl,j1,j3,j4,λ_=>by ext c2 this⟩
  .obtain ⟨rfl,l,o,rfl,j1,j2,j3,j4⟩:=hI
   exact ⟨rfl,l,o,rfl,j1,j3,j4,λz=>absurd z (by ext j2)⟩
  .obtain ⟨rfl,l,o,rfl,j1,j3,j4,j5⟩:=hI
   dsimp only
   refine aF (gQ (tail (hint+l+1) (hint+min o (n-hint)) (by ext j1 j3) (by ext hh) (λi hi=>dn i _ (by ext hi) j3 j4) λi hi h'=>?_) λq aj hI=>?_)
   .by_cases c1:o<n-hint
    .exact up (hint+o) i (by ext hi c1) h' (j5 c1)
    .ext hi h' c1
   .obtain ⟨rfl,k,e1,rfl,k1,k2,k3⟩:=hI
    rw [e1]
    exact aP (h _ k1 k2 k3)
 .rw [if_neg (by simpa using c)]
  have c0:=ne hint hh
  refine aF (gQ (gO (λx q aj=>aj=st/\∃l o,q=(none,l,o)/\l<o/\x+1<=o/\l<=hint/\κ key<kv κ arr (base+(hint-l))) (Q:=λq aj=>aj=st/\∃l o,q=(none,l,o)/\l<o/\l<=hint/\κ key<kv κ arr (base+(hint-l))/\(o<hint+1->kv κ arr (base+(hint-o))<κ key)) (λx q aj _ hx hI=>?_) (λq aj hI=>?_) ⟨rfl,0,1,rfl,by decide,by decide,by ext,by rw [Nat.sub_zero];ext c c0⟩) λq aj hI=>?_)
  .obtain ⟨rfl,l,o,rfl,j1,j2,j3,j4⟩:=hI
   dsimp only
   by_cases c1:o≥hint+1
   .rw [if_pos c1]
    exact aP ⟨rfl,l,o,rfl,j1,j3,j4,λz=>absurd z (by ext c1)⟩
   .rw [if_neg c1]
    refine aF (ask (hint-o) (by ext hh) ?_)
    dsimp only
    by_cases c2:kv κ arr (base+(hint-o))<κ key
    .rw [if_pos (decide_eq_true c2)]
     exact aP ⟨rfl,l,o,rfl,j1,j3,j4,λ_=>c2⟩
    .rw [if_neg (by simpa using c2)]
     have:=ne (hint-o) (by ext hh)
     exact aP ⟨rfl,o,2*o+1,rfl,by ext,by ext j2,by ext c1,by ext c2 this⟩
  .obtain ⟨rfl,l,o,rfl,j1,j2,j3,j4⟩:=hI
   exact ⟨rfl,l,o,rfl,j1,j3,j4,λz=>absurd z (by ext hh j2)⟩
  .obtain ⟨rfl,l,o,rfl,j1,j3,j4,j5⟩:=hI
   dsimp only
   refine aF (gQ (tail (hint+1-min o (hint+1)) (hint-l) (by ext j1) (by ext hh) (λi hi=>?_) λi hi h'=>up _ i hi h' j4) λq aj hI=>?_)
   .by_cases c1:o<hint+1
    .exact dn i (hint-o) (by ext hi) (by ext hh) (j5 c1)
    .ext hi c1
   .obtain ⟨rfl,k,e1,rfl,k1,k2,k3⟩:=hI
    rw [e1]
    exact aP (h _ k1 k2 k3)
end
section
variable {κ:Keyed->Int}
theorem CW{a:Array Keyed}{i k:Nat}(h:x∈(a.toList.drop i).take k):∃j,∃hj:j<a.size,i<=j/\j<i+k/\x=a[j]:=by
 obtain ⟨n,hn,e⟩:=md.mp h
 simp only [iW,ou,gn] at hn
 refine ⟨i+n,by ext hn:1,by ext:1,by ext hn:1,?_⟩
 rw [<-e]
 simp
theorem wc{a:Array Keyed}{i:Nat}(h:x∈a.toList.drop i):∃j,∃hj:j<a.size,i<=j/\x=a[j]:=by
 obtain ⟨n,hn,e⟩:=md.mp h
 simp only [ou,gn] at hn
 refine ⟨i+n,by ext hn:1,by ext:1,?_⟩
 rw [<-e]
 simp
theorem dP(h:c6 κ a.toList)(h1:i<j)(h2:j<a.size):kv κ a i<kv κ a j:=by
 rw [fx (by ext h1 h2:1),fx h2]
 have:=vF.mp h i j (by simp;ext h1 h2:1) (by simpa using h2) h1
 simpa using this
theorem HH(a:Array Keyed)(i k:Nat):(a.extract i (i+k)).toList=(a.toList.drop i).take k:=by
 rw [xY,yt,Cd]
theorem zd(a:Array Keyed)(i:Nat):(a.extract i a.size).toList=a.toList.drop i:=by
 rw [xY,yt]
 exact Cb (by simp)
theorem C9{a:Array Keyed}{i:Nat}(h:i<a.size):(a.toList.drop i).take 1=[a[i]]:=by
 rw [jx (by simpa using h)]
 simp
end
noncomputable abbrev sg(st:SortSt)(g:Nat):SortSt:=xJ (kindOf st) (arrOf st) (pendingOf st) g (failedOf st)
section
variable {prog:Program}{w:World}{A:Around}{E:Value->Shared->Prop}{s:Shared}{kd:SortKind}{κ:Keyed->Int}{C:Keyed->Prop}
theorem yx{st:SortSt}{Q:Unit->SortSt->Prop}(h:Q () (sg st g)):wpS (model prog w) A E s (setG' g) Q st:=by
 show wpS _ _ _ _ (modify _) _ _
 exact l6 h
theorem rC{st:SortSt}{Q:Unit->SortSt->Prop}(h:Q () st):wpS (model prog w) A E s (liftM (rule t):StateT SortSt Sem Unit) Q st:=wpS_lift (wpAny_rule ⟨rfl,h⟩)
structure eD(κ:Keyed->Int)(C:Keyed->Prop)(a b:Array Keyed):Prop where
 sa:c6 κ a.toList
 sb:c6 κ b.toList
 ca:∀x∈a.toList,C x
 cb:∀x∈b.toList,C x
 ne:∀x∈a.toList,∀y∈b.toList,κ x≠κ y
variable {a b:Array Keyed}
theorem eD.xp(T:eD κ C a b)(h:i<a.size):C a[i]:=T.ca _ (by simp)
theorem eD.xo(T:eD κ C a b)(h:i<b.size):C b[i]:=T.cb _ (by simp)
theorem eD.qS(T:eD κ C a b)(hi:i<a.size)(hj:j<b.size):κ a[i]≠κ b[j]:=T.ne _ (by simp) _ (by simp)
theorem uN(hk:Ask prog w s kd κ C)(T:eD κ C a b){st:SortSt}(hd:kindOf st=kd){Q:Option Nat->SortSt->Prop}(hi:i<a.size)(hj:j<b.size)
  (h:∀k,i+k<=a.size->(∀x∈(a.toList.drop i).take k,∀y∈b.toList.drop j,κ x<κ y)->(∀y∈a.toList.drop (i+k),κ b[j]<κ y)->Q (some k) st):wpS (model prog w) A E s (a7p l b[j] a i (a.size-i) 0) Q st:=by
 refine xF hk hd (T.xo hj) (by ext hi) (by ext hi) (λn hn _ _=>⟨T.xp hn,T.qS hn hj⟩) (λx y h1 h2=>dP T.sa (by ext h1) (by ext h2)) λk k1 k2 k3=>h k (by ext hi k1) (λx hx y hy=>?_) λy hy=>?_
 .obtain ⟨n,hn,n1,n2,rfl⟩:=CW hx
  obtain ⟨m,hm,m1,rfl⟩:=wc hy
  have e:=k2 (n-i) (by ext n1 n2)
  rw [show i+(n-i)=n by ext n1,fx hn] at e
  by_cases c:j=m
  .subst c;exact e
  .have:=dP T.sb (show j<m by ext m1 c) hm
   rw [fx hj,fx hm] at this
   ext hn hm hj e this
 .obtain ⟨n,hn,n1,rfl⟩:=wc hy
  have e:=k3 (n-i) (by ext n1) (by ext hn n1)
  rw [show i+(n-i)=n by ext n1,fx hn] at e
  exact e
theorem eD.sym(T:eD κ C a b):eD κ C b a:=⟨T.sb,T.sa,T.cb,T.ca,λx hx y hy z=>T.ne y hy x hx z.symm⟩
theorem Inv.kN{out:Array Keyed}{ia ib:Nat}(h:Inv κ a.toList b.toList out.toList ia ib)(T:eD κ C a b)(hi:ia<a.size)(hk:∀y∈b.toList.drop ib,κ a[ia]<κ y):Inv κ a.toList b.toList (out.push a[ia]).toList (ia+1) ib:=by
 rw [rA,<-C9 hi]
 refine h.a T.sa 1 λx hx y hy=>?_
 rw [C9 hi,cH] at hx
 rw [hx]
 exact hk y hy
theorem Inv.kM{out:Array Keyed}{ia ib:Nat}(h:Inv κ a.toList b.toList out.toList ia ib)(T:eD κ C a b)(hi:ib<b.size)(hk:∀y∈a.toList.drop ia,κ b[ib]<κ y):Inv κ a.toList b.toList (out.push b[ib]).toList ia (ib+1):=(h.sym.kN T.sym hi hk).sym
theorem Inv.sU(h:Inv κ a.toList b.toList out.toList ia ib)(T:eD κ C a b)(k:Nat)(hk:∀x∈(a.toList.drop ia).take k,∀y∈b.toList.drop ib,κ x<κ y):Inv κ a.toList b.toList (out++a.extract ia (ia+k)).toList (ia+k) ib:=by
 rw [lJ,HH]
 exact h.a T.sa k hk
theorem Inv.z0(h:Inv κ a.toList b.toList out.toList ia ib)(T:eD κ C a b)(k:Nat)(hk:∀x∈(b.toList.drop ib).take k,∀y∈a.toList.drop ia,κ x<κ y):Inv κ a.toList b.toList (out++b.extract ib (ib+k)).toList ia (ib+k):=(h.sym.sU T.sym k hk).sym
theorem yY(T:eD κ C a b)(hi:i<a.size)(hj:j<b.size)(h:κ b[j]<κ a[i]):∀y∈a.toList.drop i,κ b[j]<κ y:=λy hy=>by
 obtain ⟨n,hn,n1,rfl⟩:=wc hy
 by_cases c:i=n
 .subst c;exact h
 .have:=dP T.sa (show i<n by ext n1 c) hn
  rw [fx hi,fx hn] at this
  ext hj hn hi h this
def Mg(κ:Keyed->Int)(a b r:Array Keyed):Prop:=c6 κ r.toList/\r.toList.Perm (a.toList++b.toList)
theorem Inv.eW(h:Inv κ a.toList b.toList out.toList ia ib)(T:eD κ C a b)(hm:ia=a.size\/ib=b.size):Mg κ a b (out++a.extract ia a.size++b.extract ib b.size):=by
 unfold Mg
 rw [lJ,lJ,zd,zd]
 refine h.done T.sa T.sb λx hx y hy=>?_
 obtain ⟨n,hn,n1,rfl⟩:=wc hx
 obtain ⟨m,hm,m1,rfl⟩:=wc hy
 lia
theorem Inv.gf(h:Inv κ a.toList b.toList out.toList ia ib)(T:eD κ C a b)(hm:∀x∈b.toList,∀y∈a.toList.drop (a.size-1),κ x<κ y)(hi:ia+1=a.size):Mg κ a b (out++b.extract ib b.size++a.extract ia a.size):=by
 unfold Mg
 rw [lJ,lJ,zd,zd]
 exact h.last T.sa T.sb λx hx y hy=>hm x (rh hx) y (by rw [<-hi];exact hy)
theorem yK{n:Nat}(h:2<=n)(h':¬n-1=1):2<=n-1:=by ext h h'
theorem Qh(h:¬m=1)(h':¬m=0):2<=m:=by ext h h'
theorem ua{β γ:Type}{M:Model}{c:γ->Prop}[∀v,Decidable (c v)]{x y:γ->StateT SortSt Sem β}{Q:β->SortSt->Prop}{st:SortSt}(u:γ->γ)(hx:∀v,x v=y (u v))(h:∀u,wpS M A E s (y u) Q st):∀v,wpS M A E s (if c v then x v else y v) Q st:=λv=>by
 rw [hx]
 split<;>exact h _
theorem yD{β γ δ:Type}{M:Model}{c:Prop}[Decidable c]{R:γ->δ->Prop}{x y:γ->δ->StateT SortSt Sem β}{Q:β->SortSt->Prop}{st:SortSt}(P:γ->δ->Prop)(hF:∀u v,P u v->wpS M A E s (y u v) Q st)
  (h1:∀u v,R u v->(∀u v,P u v->wpS M A E s (y u v) Q st)->c->wpS M A E s (x u v) Q st)(h2:∀u v,R u v->¬c->P u v):∀u v,R u v->wpS M A E s (if c then x u v else y u v) Q st:=λu v hR=>by
 by_cases hc:c
 .rw [if_pos hc];exact h1 u v hR hF hc
 .rw [if_neg hc];exact hF u v (h2 u v hR hc)
structure J(κ:Keyed->Int)(a b out:Array Keyed)(ia ib:Nat):Prop where
 inv:Inv κ a.toList b.toList out.toList ia ib
 la:ia+1<a.size
 lb:ib<b.size
theorem L4(hk:Ask prog w s kd κ C)(T:eD κ C a b){st:SortSt}(hd:kindOf st=kd){Q:Array Keyed->SortSt->Prop}(ha:0<a.size)(hb:0<b.size)(h0:κ b[0]<κ a[0])(hm:∀x∈b.toList,∀y∈a.toList.drop (a.size-1),κ x<κ y)
  (h:∀r g,Mg κ a b r->Q r (sg st g)):wpS (model prog w) A E s (b0A a b) Q st:=by
 unfold wpS
 wp_delta
 wp_delta
 wp_delta
 refine rP (Q:=Q) (aF (rC (aF (fj hb ?_))))
 dsimp only
 have i0:Inv κ a.toList b.toList (#[b[0]]:Array Keyed).toList 0 1:=(ud (κ:=κ) (la:=a.toList) (lb:=b.toList)).kM (out:=#[]) T hb (yY T ha hb h0)
 by_cases c1:1=b.size
 .rw [if_pos (by simpa using c1)]
  exact aP (h _ (gallopOf st) (i0.eW T (.inr c1)))
 rw [if_neg (by simpa using c1)]
 by_cases c2:0+1=a.size
 .rw [if_pos (by simpa using c2)]
  exact aP (h _ (gallopOf st) (i0.gf T hm c2))
 rw [if_neg (by simpa using c2)]
 refine aF (jT ?_)
 refine aF (gQ (gO (λx q aj=>(∃g,aj=sg st g)/\∃out ia ib mg,q=(none,out,ia,ib,mg)/\J κ a b out ia ib/\x+1<=ia+ib) (Q:=λq aj=>(∃g,aj=sg st g)/\∃r,q.1=some r/\Mg κ a b r) (λx q aj _ hx hI=>?_) (λq aj hI=>?_) ⟨⟨gallopOf st,rfl⟩,_,_,_,_,rfl,⟨i0,by ext ha c2,by ext hb c1⟩,by decide⟩) λq aj hI=>?_)
 .obtain ⟨⟨g,rfl⟩,out,ia,ib,mg,rfl,hJ,hp⟩:=hI
  dsimp only
  refine aF (gQ (gO (λx q aj=>(∃g,aj=sg st g)/\∃dR iL iK ac bc,q=(none,dR,iL,iK,ac,bc)/\J κ a b dR iL iK/\ia+ib+x<=iL+iK) (Q:=λq aj=>(∃g,aj=sg st g)/\((∃r,q.1=some r/\Mg κ a b r)\/∃dR iL iK ac bc,q=(none,dR,iL,iK,ac,bc)/\J κ a b dR iL iK/\ia+ib+1<=iL+iK)) (λx q aj _ hx hI=>?_) (λq aj hI=>?_) ⟨⟨_,rfl⟩,_,_,_,_,_,rfl,hJ,by ext⟩) λq aj hI=>?_)
  .obtain ⟨⟨g,rfl⟩,out,ia,ib,ac,bc,rfl,hJ,hp⟩:=hI
   dsimp only
   refine aF (fj hJ.lb (aF (fj (qf hJ.la) (aF (tY hk hd (T.xo hJ.lb) (T.xp _) (km (T.qS _ hJ.lb)) ?_)))))
   dsimp only
   have la:=hJ.la
   have lb:=hJ.lb
   by_cases c:κ b[ib]<κ a[ia]
   .rw [if_pos (decide_eq_true c)]
    refine aF (fj hJ.lb ?_)
    have i2:=hJ.inv.kM T hJ.lb (yY T (by ext la) lb c)
    by_cases d1:ib+1=b.size
    .rw [if_pos (by simpa using d1)]
     exact aP ⟨⟨_,rfl⟩,.inl ⟨_,rfl,i2.eW T (.inr d1)⟩⟩
    rw [if_neg (by simpa using d1)]
    by_cases d2:bc+1≥mg
    .rw [if_pos d2]
     exact aP ⟨⟨_,rfl⟩,.inr ⟨_,_,_,_,_,rfl,⟨i2,la,by ext lb d1⟩,by ext hp⟩⟩
    .rw [if_neg d2]
     exact aP ⟨⟨_,rfl⟩,_,_,_,_,_,rfl,⟨i2,la,by ext lb d1⟩,by ext hp⟩
   .rw [if_neg (by simpa using c)]
    refine aF (fj (qf hJ.la) ?_)
    have bz:=T.qS (qf hJ.la) hJ.lb
    have i2:=hJ.inv.kN T (qf hJ.la) (yY T.sym lb (by ext la) (by ext la lb ha hb c bz))
    by_cases d1:ia+1+1=a.size
    .rw [if_pos (by simpa using d1)]
     exact aP ⟨⟨_,rfl⟩,.inl ⟨_,rfl,i2.gf T hm d1⟩⟩
    rw [if_neg (by simpa using d1)]
    by_cases d2:ac+1≥mg
    .rw [if_pos d2]
     exact aP ⟨⟨_,rfl⟩,.inr ⟨_,_,_,_,_,rfl,⟨i2,by ext la d1,lb⟩,by ext hp⟩⟩
    .rw [if_neg d2]
     exact aP ⟨⟨_,rfl⟩,_,_,_,_,_,rfl,⟨i2,by ext la d1,lb⟩,by ext hp⟩
  .obtain ⟨hg,out,ia,ib,ac,bc,rfl,hJ,hp⟩:=hI
   exact ⟨hg,.inr ⟨_,_,_,_,_,rfl,hJ,by ext hb hp⟩⟩
  .obtain ⟨⟨g,rfl⟩,⟨r,e,hr⟩ | ⟨dR,iL,iK,ac,bc,rfl,A',AQ⟩⟩:=hI
   .obtain ⟨q1,q2⟩:=q
    dsimp only at e
    rw [e]
    exact aP ⟨⟨_,rfl⟩,_,rfl,hr⟩
   dsimp only
   refine aF (rC ?_)
   refine aF (gQ (gO (λx q aj=>(∃g,aj=sg st g)/\∃out ja jb mg ac bc,q=(none,out,ja,jb,mg,ac,bc)/\J κ a b out ja jb/\iL+iK<=ja+jb) (Q:=λq aj=>(∃g,aj=sg st g)/\((∃r,q.1=some r/\Mg κ a b r)\/∃out ja jb mg ac bc,q=(none,out,ja,jb,mg,ac,bc)/\J κ a b out ja jb/\iL+iK<=ja+jb)) (λx q aj _ hx hI=>?_) (λq aj hI=>?_) ⟨⟨_,rfl⟩,_,_,_,_,_,_,rfl,A',by ext⟩) λq aj hI=>?_)
   .obtain ⟨⟨g,rfl⟩,out,ja,jb,mg,ac,bc,rfl,hJ,hp⟩:=hI
    dsimp only
    have la:=hJ.la
    have lb:=hJ.lb
    revert mg
    refine ua (λmg=>mg-1) (λ_=>rfl) λmg=>?_
    refine aF (yx (aF (fj lb (aF ?_))))
    refine uN hk T ?_ (qf la) lb λk k1 k2 k3=>?_
    .exact hd
    dsimp only
    have hR:Inv κ a.toList b.toList out.toList ja jb/\(k=0->∀y∈a.toList.drop ja,κ b[jb]<κ y)/\(k=0->ja+1<a.size)/\iL+iK<=ja+jb/\ja+k<=a.size/\(∀x∈(a.toList.drop ja).take k,∀y∈b.toList.drop jb,κ x<κ y)/\∀y∈a.toList.drop (ja+k),κ b[jb]<κ y:=⟨hJ.inv,λz=>by rw [z] at k3;exact k3,λ_=>la,hp,k1,k2,k3⟩
    clear hJ la hp k1 k2 k3
    revert out ja
    refine yD (λo j=>Inv κ a.toList b.toList o.toList j jb/\j+1<a.size/\(∀y∈a.toList.drop j,κ b[jb]<κ y)/\iL+iK<=j+jb) ?_ (λout ja hR hF d0=>?_) λout ja hR d0=>⟨hR.1,hR.2.2.1 (qc d0),hR.2.1 (qc d0),hR.2.2.2.1⟩
    .rintro o j ⟨i1,hj,k3,hp⟩
     have xA:=qf hj
     refine aF (fj lb ?_)
     have i2:=i1.kM T lb k3
     by_cases d3:jb+1=b.size
     .rw [if_pos (by simpa using d3)]
      exact aP ⟨⟨_,rfl⟩,.inl ⟨_,rfl,i2.eW T (.inr d3)⟩⟩
     rw [if_neg (by simpa using d3)]
     have l2:jb+1<b.size:=vt lb d3
     refine aF (fj xA (aF ?_))
     refine uN hk T.sym ?_ l2 xA λm m1 m2 m3=>?_
     .exact hd
     dsimp only
     have hR:Inv κ a.toList b.toList (o.push b[jb]).toList j (jb+1)/\(m=0->∀y∈b.toList.drop (jb+1),κ a[j]<κ y)/\jb+1<b.size/\iL+iK<=j+(jb+1)/\jb+1+m<=b.size/\(∀x∈(b.toList.drop (jb+1)).take m,∀y∈a.toList.drop j,κ x<κ y)/\∀y∈b.toList.drop (jb+1+m),κ a[j]<κ y:=⟨i2,λz=>by rw [z] at m3;exact m3,l2,Nat.le_succ_of_le hp,m1,m2,m3⟩
     clear i2 l2 m1 m2 m3
     generalize o.push b[jb]=o2 at hR ⊢
     generalize jb+1=j2 at hR ⊢
     revert o2 j2
     refine yD (λp q=>Inv κ a.toList b.toList p.toList j q/\q<b.size/\(∀y∈b.toList.drop q,κ a[j]<κ y)/\iL+iK<=j+q) ?_ (λo2 j2 hR hF d4=>?_) λout ja hR d0=>⟨hR.1,hR.2.2.1,hR.2.1 (qc d0),hR.2.2.2.1⟩
     .rintro p q ⟨i3,hq,m3,hp⟩
      refine aF (fj xA ?_)
      have i4:=i3.kN T xA m3
      by_cases d6:j+1+1=a.size
      .rw [if_pos (by simpa using d6)]
       exact aP ⟨⟨_,rfl⟩,.inl ⟨_,rfl,i4.gf T hm d6⟩⟩
      rw [if_neg (by simpa using d6)]
      have hJ:J κ a b (p.push a[j]) (j+1) q:=⟨i4,vt hj d6,hq⟩
      have qW:iL+iK<=j+1+q:=et hp (B8 (vj j) q)
      by_cases d7:(decide (k<7)&&decide (m<7))=true
      .rw [if_pos d7]
       exact aP ⟨⟨_,rfl⟩,.inr ⟨_,_,_,_,_,_,rfl,hJ,qW⟩⟩
      .rw [if_neg d7]
       exact aP ⟨⟨_,rfl⟩,_,_,_,_,_,_,rfl,hJ,qW⟩
     .obtain ⟨i2,_,l2,hp,m1,m2,m3⟩:=hR
      have i3:=i2.z0 T m m2
      by_cases d5:j2+m=b.size
      .rw [if_pos (by simpa using d5)]
       exact aP ⟨⟨_,rfl⟩,.inl ⟨_,rfl,i3.eW T (.inr d5)⟩⟩
      rw [if_neg (by simpa using d5)]
      exact hF _ _ ⟨i3,vt m1 d5,m3,et hp (Nat.add_le_add_left (BP j2 m) j)⟩
    .obtain ⟨i0,_,la,hp,k1,k2,k3⟩:=hR
     have i1:=i0.sU T k k2
     by_cases d1:ja+k+1=a.size
     .rw [if_pos (by simpa using d1)]
      exact aP ⟨⟨_,rfl⟩,.inl ⟨_,rfl,i1.gf T hm d1⟩⟩
     rw [if_neg (by simpa using d1)]
     by_cases d2:ja+k=a.size
     .rw [if_pos (by simpa using d2)]
      exact aP ⟨⟨_,rfl⟩,.inl ⟨_,rfl,i1.eW T (.inl d2)⟩⟩
     rw [if_neg (by simpa using d2)]
     exact hF _ _ ⟨i1,vt (vt k1 d2) d1,k3,et hp (B8 (BP ja k) jb)⟩
   .obtain ⟨hg,out,ja,jb,mg,ac,bc,rfl,hJ,hp⟩:=hI
    exact ⟨hg,.inr ⟨_,_,_,_,_,_,rfl,hJ,‹_›⟩⟩
   .obtain ⟨⟨g,rfl⟩,⟨r,e,hr⟩ | ⟨out,ja,jb,mg,ac,bc,rfl,hJ,hp⟩⟩:=hI
    .obtain ⟨q1,q2⟩:=q
     dsimp only at e
     rw [e]
     exact aP ⟨⟨_,rfl⟩,_,rfl,hr⟩
    .dsimp only
     exact aF (yx (aP ⟨⟨_,rfl⟩,_,_,_,_,rfl,hJ,by lia⟩))
 .obtain ⟨_,out,ia,ib,mg,rfl,hJ,hp⟩:=hI
  have la:=hJ.la
  have lb:=hJ.lb
  ext _ hb hp la lb
 .obtain ⟨⟨g,rfl⟩,r,e,hr⟩:=hI
  rw [e]
  exact aP (h _ _ hr)
end
section
variable {prog:Program}{w:World}{A:Around}{E:Value->Shared->Prop}{s:Shared}{kd:SortKind}{κ:Keyed->Int}{C:Keyed->Prop}{a b:Array Keyed}
noncomputable def ng(κ:Keyed->Int)(x:Keyed):Int:=-κ x
theorem cJ:c6 (ng κ) l.reverse↔c6 κ l:=by
 unfold c6
 rw [List.pairwise_reverse]
 constructor<;>exact λh=>h.imp λz=>by unfold ng at *;ext z
theorem mf(l:List Keyed)(h:n<=l.length):l.reverse.drop (l.length-n)=(l.take n).reverse:=by
 rw [List.reverse_take]
theorem GH(l:List Keyed)(h:n<=l.length)(hk:k<=n):(l.reverse.drop (l.length-n)).take (n-k)=((l.take n).drop k).reverse:=by
 rw [mf l h,List.reverse_drop,iW,Nat.min_eq_left h]
theorem zc(a:Array Keyed)(n:Nat):(a.extract 0 n).toList=a.toList.take n:=by
 rw [xY,yt]
 rfl
theorem Dk(a:Array Keyed)(i n:Nat):(a.extract i n).toList=(a.toList.take n).drop i:=by
 rw [xY,yt,BX]
structure H(κ:Keyed->Int)(a b out:Array Keyed)(na nb:Nat):Prop where
 inv:Inv (ng κ) a.toList.reverse b.toList.reverse out.toList (a.toList.length-na) (b.toList.length-nb)
 la:na<=a.toList.length
 lb:nb<=b.toList.length
variable {out:Array Keyed}{na nb:Nat}
theorem H.sym(h:H κ a b out na nb):H κ b a out nb na:=⟨h.inv.sym,h.lb,h.la⟩
theorem H.seg(h:H κ a b out na nb)(T:eD κ C a b)(hk:k<=na)(hx:∀x∈(a.toList.take na).drop k,∀y∈b.toList.take nb,κ y<κ x):H κ a b (out++(a.extract k na).reverse) k nb:=by
 have la:=h.la
 refine ⟨?_,by ext hk la,h.lb⟩
 have i:=h.inv.a (cJ.mpr T.sa) (na-k) λx lS y hy=>?_
 .rw [GH _ h.la hk,show a.toList.length-na+(na-k)=a.toList.length-k by ext hk la] at i
  rw [lJ,xX,Dk]
  exact i
 .rw [GH _ h.la hk] at lS
  rw [mf _ h.lb] at hy
  have:=hx x (rq.mp lS) y (rq.mp hy)
  unfold ng
  ext this
theorem H.push(h:H κ a b out na nb)(T:eD κ C a b)(h0:0<na)(hn:na-1<a.size)(hx:∀y∈b.toList.take nb,κ y<κ a[na-1]):H κ a b (out.push a[na-1]) (na-1) nb:=by
 have la:=h.la
 rw [gn] at la
 have e:(a.toList.take na).drop (na-1)=[a[na-1]]:=by
  rw [BX,show na-(na-1)=1 by ext h0,C9 hn]
 have:=h.seg T (k:=na-1) (by ext) λx lS y hy=>by
  rw [e,cH] at lS
  rw [lS]
  exact hx y hy
 have e2:out++(a.extract (na-1) na).reverse=out.push a[na-1]:=by
  apply Array.toList_inj.mp
  rw [lJ,xX,Dk,e,rA]
  rfl
 rw [e2] at this
 exact this
theorem H.tT(h:H κ a b out na nb)(T:eD κ C a b)(hm:na=0\/nb=0):Mg κ a b (a.extract 0 na++b.extract 0 nb++out.reverse):=by
 have q:=h.inv.last (cJ.mpr T.sa) (cJ.mpr T.sb) λx hx y hy=>by
  rw [mf _ h.lb,rq] at hx
  rw [mf _ h.la,rq] at hy
  rcases hm with rfl | rfl
  .rw [List.take_zero] at hy;cases hy
  .rw [List.take_zero] at hx;cases hx
 have e:(a.extract 0 na++b.extract 0 nb++out.reverse).toList=(out.toList++b.toList.reverse.drop (b.toList.length-nb)++a.toList.reverse.drop (a.toList.length-na)).reverse:=by
  rw [mf _ h.lb,mf _ h.la,lJ,lJ,xX,zc,zc]
  simp
 unfold Mg
 rw [e]
 refine ⟨?_,?_⟩
 .have:=q.1
  rw [<-F9 (as:=out.toList++_++_)] at this
  exact cJ.mp this
 .refine (rz _).trans (q.2.trans ?_)
  exact (rz _).append (rz _)
theorem H.xl(h:H κ a b out na nb)(T:eD κ C a b)(hm:∀x∈b.toList.take nb,∀y∈a.toList,κ x<κ y):Mg κ a b (b.extract 0 nb++a.extract 0 na++out.reverse):=by
 have q:=h.inv.done (cJ.mpr T.sa) (cJ.mpr T.sb) λx hx y hy=>by
  rw [mf _ h.la,rq] at hx
  rw [mf _ h.lb,rq] at hy
  have:=hm y hy x (rj hx)
  unfold ng
  ext this
 have e:(b.extract 0 nb++a.extract 0 na++out.reverse).toList=(out.toList++a.toList.reverse.drop (a.toList.length-na)++b.toList.reverse.drop (b.toList.length-nb)).reverse:=by
  rw [mf _ h.lb,mf _ h.la,lJ,lJ,xX,zc,zc]
  simp
 unfold Mg
 rw [e]
 refine ⟨?_,?_⟩
 .have:=q.1
  rw [<-F9 (as:=out.toList++_++_)] at this
  exact cJ.mp this
 .refine (rz _).trans (q.2.trans ?_)
  exact (rz _).append (rz _)
theorem Cy(h:x∈a.toList.take n):∃j,∃hj:j<a.size,j<n/\x=a[j]:=by
 obtain ⟨j,hj,_,j2,e⟩:=CW (i:=0) (k:=n) (by rw [BW];exact h)
 exact ⟨j,hj,by ext j2,e⟩
theorem Ck(T:eD κ C a b)(hi:i<a.size)(hj:j<b.size)(h:κ b[j]<κ a[i]):∀y∈b.toList.take (j+1),κ y<κ a[i]:=λy hy=>by
 obtain ⟨m,hm,m1,rfl⟩:=Cy hy
 by_cases c:m=j
 .subst c;exact h
 .have:=dP T.sb (show m<j by ext m1 c) hj
  rw [fx hm,fx hj] at this
  ext hm hi hj h this
theorem uM(hk:Ask prog w s kd κ C)(T:eD κ C a b){st:SortSt}(hd:kindOf st=kd){Q:Option Nat->SortSt->Prop}(hn:n<=a.size)(h0:0<n)(hj:j<b.size)
  (h:∀k,k<=n->(∀x∈(a.toList.take n).drop k,∀y∈b.toList.take (j+1),κ y<κ x)->(∀y∈a.toList.take k,κ y<κ b[j])->Q (some k) st):wpS (model prog w) A E s (a7p l b[j] a 0 n (n-1)) Q st:=by
 refine xF hk hd (T.xo hj) (by ext hn) (by ext h0) (λn hn _ _=>⟨T.xp hn,T.qS hn hj⟩) (λx y h1 h2=>dP T.sa (by ext h1) (by ext hn h2)) λk k1 k2 k3=>h k ‹_› (λx hx=>?_) λy hy=>?_
 .rw [BX] at hx
  obtain ⟨m,hm,m1,m2,rfl⟩:=CW hx
  have e:=k3 m ‹_› (by ext k1 m2)
  rw [vC,fx hm] at e
  exact Ck T hm hj e
 .obtain ⟨m,hm,m1,rfl⟩:=Cy hy
  have e:=k2 m ‹_›
  rw [vC,fx hm] at e
  exact e
theorem L5(hk:Ask prog w s kd κ C)(T:eD κ C a b){st:SortSt}(hd:kindOf st=kd){Q:Array Keyed->SortSt->Prop}(ha:0<a.size)(hb:0<b.size)(h0:κ b[0]<κ a[0])(hm:∀x∈b.toList,κ x<κ a[a.size-1])
  (h:∀r g,Mg κ a b r->Q r (sg st g)):wpS (model prog w) A E s (b0B a b) Q st:=by
 unfold wpS
 wp_delta
 wp_delta
 wp_delta
 refine rP (Q:=Q) (aF (rC (aF (fj (show a.size-1<a.size by ext ha) ?_))))
 dsimp only
 have hz:H κ a b #[] a.size b.size:=⟨by rw [gn,gn,vB,vB];exact ud,by simp,by simp⟩
 have i0:H κ a b #[a[a.size-1]] (a.size-1) b.size:=hz.push T ha (by ext ha) λy hy=>hm y (rj hy)
 have hf:∀x∈b.toList.take 1,∀y∈a.toList,κ x<κ y:=λx hx y hy=>by
  obtain ⟨m,hm,m1,rfl⟩:=Cy hx
  obtain rfl:m=0:=by ext m1
  exact yY T ha hb h0 y (by rw [BW];exact hy)
 by_cases c1:a.size-1=0
 .rw [if_pos (by simpa using c1)]
  exact aP (h _ (gallopOf st) (i0.tT T (.inl c1)))
 rw [if_neg (by simpa using c1)]
 by_cases c2:b.size=1
 .rw [if_pos (by simpa using c2)]
  exact aP (h _ (gallopOf st) (i0.xl T (by rw [c2];exact hf)))
 rw [if_neg (by simpa using c2)]
 refine aF (jT ?_)
 refine aF (gQ (gO (λx q aj=>(∃g,aj=sg st g)/\∃na nb out mg,q=(none,na,nb,out,mg)/\H κ a b out na nb/\1<=na/\2<=nb/\na+nb+x+1<=a.size+b.size) (Q:=λq aj=>(∃g,aj=sg st g)/\∃r,q.1=some r/\Mg κ a b r) (λx q aj _ hx hI=>?_) (λq aj hI=>?_) ⟨⟨gallopOf st,rfl⟩,_,_,_,_,rfl,i0,by ext ha c1,by ext hb c2,by ext ha⟩) λq aj hI=>?_)
 .obtain ⟨⟨g,rfl⟩,na,nb,out,mg,rfl,hJ,ga,gb,hp⟩:=hI
  dsimp only
  refine aF (gQ (gO (λx q aj=>(∃g,aj=sg st g)/\∃jr jq dR ac bc,q=(none,jr,jq,dR,ac,bc)/\H κ a b dR jr jq/\1<=jr/\2<=jq/\jr+jq+x<=na+nb) (Q:=λq aj=>(∃g,aj=sg st g)/\((∃r,q.1=some r/\Mg κ a b r)\/∃jr jq dR ac bc,q=(none,jr,jq,dR,ac,bc)/\H κ a b dR jr jq/\1<=jr/\2<=jq/\jr+jq+1<=na+nb)) (λx q aj _ hx hI=>?_) (λq aj hI=>?_) ⟨⟨_,rfl⟩,_,_,_,_,_,rfl,hJ,ga,gb,by ext⟩) λq aj hI=>?_)
  .obtain ⟨⟨g,rfl⟩,na,nb,out,ac,bc,rfl,hJ,ga,gb,hp⟩:=hI
   dsimp only
   have la:=hJ.la
   have lb:=hJ.lb
   rw [gn] at la lb
   have xa:na-1<a.size:=by ext ga la
   have xb:nb-1<b.size:=by ext gb lb
   refine aF (fj xb (aF (fj xa (aF (tY hk hd (T.xo xb) (T.xp xa) (km (T.qS xa xb)) ?_)))))
   dsimp only
   by_cases c:κ b[nb-1]<κ a[na-1]
   .rw [if_pos (decide_eq_true c)]
    refine aF (fj xa ?_)
    have i2:=hJ.push T ‹_› xa (by have:=Ck T xa xb c;rw [show nb-1+1=nb by ext gb] at this;exact this)
    by_cases d1:na-1=0
    .rw [if_pos (by simpa using d1)]
     exact aP ⟨⟨_,rfl⟩,.inl ⟨_,rfl,i2.tT T (.inl d1)⟩⟩
    rw [if_neg (by simpa using d1)]
    by_cases d2:ac+1≥mg
    .rw [if_pos d2]
     exact aP ⟨⟨_,rfl⟩,.inr ⟨_,_,_,_,_,rfl,i2,by ext d1,‹_›,by ext hp d1⟩⟩
    .rw [if_neg d2]
     exact aP ⟨⟨_,rfl⟩,_,_,_,_,_,rfl,i2,by ext d1,‹_›,by ext hp d1⟩
   .rw [if_neg (by simpa using c)]
    refine aF (fj xb ?_)
    have bz:=T.qS xa xb
    have i2:=(hJ.sym.push T.sym (by ext gb) xb (by have:=Ck T.sym xb xa (by ext xa xb c bz);rw [show na-1+1=na by ext ga] at this;exact this)).sym
    by_cases d1:nb-1=1
    .rw [if_pos (by simpa using d1)]
     exact aP ⟨⟨_,rfl⟩,.inl ⟨_,rfl,i2.xl T (by rw [d1];exact hf)⟩⟩
    rw [if_neg (by simpa using d1)]
    by_cases d2:bc+1≥mg
    .rw [if_pos d2]
     exact aP ⟨⟨_,rfl⟩,.inr ⟨_,_,_,_,_,rfl,i2,‹_›,by ext gb d1,by ext gb hp⟩⟩
    .rw [if_neg d2]
     exact aP ⟨⟨_,rfl⟩,_,_,_,_,_,rfl,i2,‹_›,by ext gb d1,by ext gb hp⟩
  .obtain ⟨hg,na,nb,out,ac,bc,rfl,hJ,ga,gb,hp⟩:=hI
   exact ⟨hg,.inr ⟨_,_,_,_,_,rfl,hJ,ga,gb,by ext ha hb hp⟩⟩
  .obtain ⟨⟨g,rfl⟩,⟨r,e,hr⟩ | ⟨jr,jq,dR,ac,bc,rfl,A',NA,Nz,AQ⟩⟩:=hI
   .obtain ⟨q1,q2⟩:=q
    dsimp only at e
    rw [e]
    exact aP ⟨⟨_,rfl⟩,_,rfl,hr⟩
   dsimp only
   refine aF (rC ?_)
   refine aF (gQ (gO (λx q aj=>(∃g,aj=sg st g)/\∃ja jb out mg ac bc,q=(none,ja,jb,out,mg,ac,bc)/\H κ a b out ja jb/\1<=ja/\2<=jb/\ja+jb<=jr+jq) (Q:=λq aj=>(∃g,aj=sg st g)/\((∃r,q.1=some r/\Mg κ a b r)\/∃ja jb out mg ac bc,q=(none,ja,jb,out,mg,ac,bc)/\H κ a b out ja jb/\1<=ja/\2<=jb/\ja+jb<=jr+jq)) (λx q aj _ hx hI=>?_) (λq aj hI=>?_) ⟨⟨_,rfl⟩,_,_,_,_,_,_,rfl,A',NA,Nz,by ext⟩) λq aj hI=>?_)
   .obtain ⟨⟨g,rfl⟩,ja,jb,out,mg,ac,bc,rfl,hJ,ga,gb,hp⟩:=hI
    dsimp only
    have la:=hJ.la
    have lb:=hJ.lb
    rw [gn] at la lb
    have xb:jb-1<b.size:=by ext gb lb
    revert mg
    refine ua (λmg=>mg-1) (λ_=>rfl) λmg=>?_
    refine aF (yx (aF (fj xb (aF ?_))))
    refine uM hk T ?_ la ga xb λk k1 k2 k3=>?_
    .exact hd
    dsimp only
    have jj:jb-1+1=jb:=Nat.sub_add_cancel (Nat.le_of_succ_le gb)
    rw [jj] at k2
    have hR:H κ a b out ja jb/\(ja-k=0->1<=ja/\ja<=k)/\k<=ja/\(∀x∈(a.toList.take ja).drop k,∀y∈b.toList.take jb,κ y<κ x):=⟨hJ,λz=>⟨ga,Gc z⟩,k1,k2⟩
    have M8:k<=a.size:=et k1 la
    have MU:k+jb<=jr+jq:=et (B8 k1 jb) hp
    clear hJ k2 la ga hp k1
    generalize ja-k=cnt at hR ⊢
    revert out ja
    refine yD (λn o=>H κ a b o n jb/\n=k/\1<=n) ?_ (λja out hR hF d0=>?_) λja out hR d0=>⟨hR.1,Nat.le_antisymm (hR.2.1 (qc d0)).2 hR.2.2.1,(hR.2.1 (qc d0)).1⟩
    .rintro n o ⟨i1,rfl,hn⟩
     have xa:n-1<a.size:=gz (Nat.sub_lt hn Nat.one_pos) M8
     refine aF (fj xb ?_)
     have i2:=(i1.sym.push T.sym (Nat.lt_of_succ_le (Nat.le_of_succ_le gb)) xb k3).sym
     by_cases d3:jb-1=1
     .rw [if_pos (by simpa using d3)]
      exact aP ⟨⟨_,rfl⟩,.inl ⟨_,rfl,i2.xl T (by rw [d3];exact hf)⟩⟩
     rw [if_neg (by simpa using d3)]
     have g2:2<=jb-1:=yK gb d3
     have g3:jb-1<=b.size:=xN xb
     refine aF (fj xa (aF ?_))
     refine uM hk T.sym ?_ g3 (qf g2) xa λm m1 m2 m3=>?_
     .exact hd
     dsimp only
     rw [Nat.sub_add_cancel hn] at m2
     have hR:H κ a b (o.push b[jb-1]) n (jb-1)/\(jb-1-m=0->2<=jb-1/\jb-1<=m)/\m<=jb-1/\(∀x∈(b.toList.take (jb-1)).drop m,∀y∈a.toList.take n,κ y<κ x):=⟨i2,λz=>⟨g2,Gc z⟩,m1,m2⟩
     have Fb:n-1+m<=jr+jq:=et (Nat.add_le_add (Nat.sub_le n 1) (et m1 (Nat.sub_le jb 1))) MU
     clear i2 g2 g3 m1 m2
     generalize jb-1-m=Bx at hR ⊢
     generalize o.push b[jb-1]=o2 at hR ⊢
     generalize jb-1=j2 at hR ⊢
     revert o2 j2
     refine yD (λp q=>H κ a b p n q/\q=m/\2<=q) ?_ (λo2 j2 hR hF d4=>?_) λout ja hR d0=>⟨hR.1,Nat.le_antisymm (hR.2.1 (qc d0)).2 hR.2.2.1,(hR.2.1 (qc d0)).1⟩
     .rintro p q ⟨i3,rfl,hq⟩
      refine aF (fj xa ?_)
      have i4:=i3.push T hn xa m3
      by_cases d6:n-1=0
      .rw [if_pos (by simpa using d6)]
       exact aP ⟨⟨_,rfl⟩,.inl ⟨_,rfl,i4.tT T (.inl d6)⟩⟩
      rw [if_neg (by simpa using d6)]
      have h6:1<=n-1:=Nat.pos_of_ne_zero d6
      by_cases d7:(decide (cnt<7)&&decide (Bx<7))=true
      .rw [if_pos d7]
       exact aP ⟨⟨_,rfl⟩,.inr ⟨_,_,_,_,_,_,rfl,i4,h6,hq,Fb⟩⟩
      .rw [if_neg d7]
       exact aP ⟨⟨_,rfl⟩,_,_,_,_,_,_,rfl,i4,h6,hq,Fb⟩
     .obtain ⟨i2,_,m1,m2⟩:=hR
      have i3:=(i2.sym.seg T.sym m1 m2).sym
      by_cases d5:m=1
      .rw [if_pos (by simpa using d5)]
       exact aP ⟨⟨_,rfl⟩,.inl ⟨_,rfl,i3.xl T (by rw [d5];exact hf)⟩⟩
      rw [if_neg (by simpa using d5)]
      by_cases d8:m=0
      .rw [if_pos (by simpa using d8)]
       exact aP ⟨⟨_,rfl⟩,.inl ⟨_,rfl,i3.tT T (.inr d8)⟩⟩
      rw [if_neg (by simpa using d8)]
      exact hF _ _ ⟨i3,rfl,Qh d5 d8⟩
    .obtain ⟨hJ,_,k1,k2⟩:=hR
     have i1:=hJ.seg T k1 k2
     by_cases d1:k=0
     .rw [if_pos (by simpa using d1)]
      exact aP ⟨⟨_,rfl⟩,.inl ⟨_,rfl,i1.tT T (.inl d1)⟩⟩
     rw [if_neg (by simpa using d1)]
     exact hF _ _ ⟨i1,rfl,Nat.pos_of_ne_zero d1⟩
   .obtain ⟨hg,ja,jb,out,mg,ac,bc,rfl,hJ,ga,gb,hp⟩:=hI
    exact ⟨hg,.inr ⟨_,_,_,_,_,_,rfl,hJ,ga,gb,‹_›⟩⟩
   .obtain ⟨⟨g,rfl⟩,⟨r,e,hr⟩ | ⟨ja,jb,out,mg,ac,bc,rfl,hJ,ga,gb,hp⟩⟩:=hI
    .obtain ⟨q1,q2⟩:=q
     dsimp only at e
     rw [e]
     exact aP ⟨⟨_,rfl⟩,_,rfl,hr⟩
    .dsimp only
     exact aF (yx (aP ⟨⟨_,rfl⟩,_,_,_,_,rfl,hJ,ga,gb,by lia⟩))
 .obtain ⟨_,na,nb,out,mg,rfl,hJ,ga,gb,hp⟩:=hI
  ext _ hp
 .obtain ⟨⟨g,rfl⟩,r,e,hr⟩:=hI
  rw [e]
  exact aP (h _ _ hr)
end
section
variable {prog:Program}{w:World}{A:Around}{E:Value->Shared->Prop}{s:Shared}{kd:SortKind}{κ:Keyed->Int}{C:Keyed->Prop}
theorem Q5{σ:Type}{M:Model}{Q:PUnit->σ->Prop}{st aj:σ}(h:Q ⟨⟩ aj):wpS M A E s (set aj:StateT σ Sem PUnit) Q st:=by
 unfold wpS
 rw [StateT.run_set]
 exact eN ⟨rfl,h⟩
theorem G'(e:arr.toList=P++R++S)(h:i<R.length):kv κ arr (P.length+i)=κ R[i]:=by
 unfold kv
 have:arr[P.length+i]?=some R[i]:=by
  rw [<-om,e,dH,m5 (by ext),qd (by ext h)]
  simp [h]
 rw [this]
def oY(κ:Keyed->Int)(l:List Keyed):Prop:=(l.map κ).Nodup
theorem oY.ne{arr:Array Keyed}(h:oY κ arr.toList){i j:Nat}(hi:i<arr.size)(hj:j<arr.size)(dD:i≠j):κ arr[i]≠κ arr[j]:=λz=>by
 refine dD ((List.getElem_inj (h₀:=by simpa using hi) (h₁:=by simpa using hj) h).mp ?_)
 simpa using z
theorem oY.app(h:oY κ (l++m)):∀x∈l,∀y∈m,κ x≠κ y:=λx hx y hy z=>by
 unfold oY at h
 rw [fg,BQ] at h
 exact h.2.2 _ (cO.mpr ⟨x,hx,rfl⟩) _ (cO.mpr ⟨y,hy,rfl⟩) z
theorem yQ{R:List Keyed}(h:c6 κ R){i j:Nat}(dD:i<j)(hj:j<R.length):κ (R[i]'(by ext dD hj))<κ R[j]:=vF.mp h i j (by ext dD hj) hj dD
theorem L6(hk:Ask prog w s kd κ C){st:SortSt}(hd:kindOf st=kd)(hf:failedOf st=none){Q:Bool->SortSt->Prop}(e:(arrOf st).toList=P++R1++R2++S)(hC:∀x∈(arrOf st).toList,C x)(hD:oY κ (arrOf st).toList)
  (s1:c6 κ R1)(s2:c6 κ R2)(n1:R1≠[])(n2:R2≠[])(e1:(pendingOf st)[i]?=some (P.length,R1.length,pw))(e2:(pendingOf st)[i+1]?=some (P.length+R1.length,R2.length,p2))
  (h:∀aj R,kindOf aj=kd->failedOf aj=none->(arrOf aj).toList=P++R++S->c6 κ R->R.Perm (R1++R2)->pendingOf aj=((pendingOf st).setIfInBounds i (P.length,R1.length+R2.length,pw)).eraseIdxIfInBounds (i+1)->Q true aj):wpS (model prog w) A E s (mergeAt' i) Q st:=by
 have l1:=xW.mpr n1
 have l2:=xW.mpr n2
 have hz:(arrOf st).size=P.length+R1.length+R2.length+S.length:=by rw [<-gn,e];simp only [bP]
 have eA:(arrOf st).toList=P++R1++(R2++S):=by rw [e,dH]
 have eB:(arrOf st).toList=(P++R1)++R2++S:=e
 have lB:(P++R1).length=P.length+R1.length:=bP ..
 have kA:∀j (hj:j<R1.length),kv κ (arrOf st) (P.length+j)=κ R1[j]:=λj hj=>G' eA hj
 have kB:∀j (hj:j<R2.length),kv κ (arrOf st) (P.length+R1.length+j)=κ R2[j]:=λj hj=>by rw [<-lB];exact G' eB hj
 have b0:P.length+R1.length<(arrOf st).size:=by ext l2 hz:1
 have E3:κ (arrOf st)[P.length+R1.length]=κ R2[0]:=by rw [<-fx (κ:=κ) b0,<-kB 0 l2];rfl
 have aL:P.length+R1.length-1<(arrOf st).size:=by ext b0:1
 have E4:κ (arrOf st)[P.length+R1.length-1]=κ R1[R1.length-1]:=by rw [<-fx (κ:=κ) aL,<-kA _ (by ext l1:1)];congr 1;ext l1:1
 have xE:∀j (hj:j<(arrOf st).size),C (arrOf st)[j]:=λj hj=>hC _ (by simp)
 have z1:P.length+R1.length<=(arrOf st).size:=by ext b0:1
 have z2:P.length+R1.length+R2.length<=(arrOf st).size:=by ext hz:1
 have plain:(∀x∈R1,∀y∈R2,κ x<κ y)->c6 κ (R1++R2):=λz=>fG.mpr ⟨s1,s2,z⟩
 unfold wpS
 wp_delta
 wp_delta
 wp_delta
 refine rP (Q:=Q) (aF (jT ?_))
 rw [e1,e2]
 dsimp only
 refine aF (Q5 (aF (fj b0 (aF ?_))))
 refine xF hk ?_ (xE _ b0) z1 l1 (λj hj h1 h2=>⟨xE j hj,hD.ne hj b0 (by ext h2:1)⟩) (λx y hx hy=>by rw [kA _ (by ext hx hy:1),kA _ hy];exact yQ s1 hx hy) λk k1 k2 k3=>?_
 .exact hd
 dsimp only
 have c2:∀x∈R1.take k,∀y∈R2,κ x<κ y:=λx hx y hy=>by
  obtain ⟨j,hj,rfl⟩:=md.mp hx
  obtain ⟨m,hm,rfl⟩:=md.mp hy
  rw [iW] at hj
  have:=k2 j (by ext hj:1)
  rw [kA j (by ext hj:1),E3] at this
  rw [yg]
  by_cases c:m=0
  .subst c;exact this
  .have:=yQ s2 (show 0<m by ext c:1) hm
   lia
 by_cases d1:R1.length-k=0
 .rw [if_pos (by simpa using d1)]
  refine aP (h _ (R1++R2) hd hf (by show (arrOf st).toList=_;rw [e];simp) (plain ?_) (BY _) rfl)
  rw [Cb (by ext d1:1)] at c2
  exact c2
 rw [if_neg (by simpa using d1)]
 have ek:P.length+k+(R1.length-k)-1=P.length+R1.length-1:=by ext k1:1
 rw [ek]
 refine aF (fj aL (aF ?_))
 refine xF hk ?_ (xE _ aL) z2 (by ext l2:1) (λj hj h1 h2=>⟨xE j hj,hD.ne hj aL (by ext l1 h1:1)⟩) (λx y hx hy=>by rw [kB _ (by ext hx hy:1),kB _ hy];exact yQ s2 hx hy) λm m1 m2 m3=>?_
 .exact hd
 dsimp only
 have c3:∀x∈R2.drop m,∀y∈R1,κ y<κ x:=λx hx y hy=>by
  obtain ⟨j,hj,rfl⟩:=md.mp hx
  obtain ⟨n,hn,rfl⟩:=md.mp hy
  rw [ou] at hj
  have:=m3 (m+j) (by ext:1) (by ext hj:1)
  rw [kB _ (by ext hj:1),E4] at this
  rw [List.getElem_drop]
  by_cases c:n=R1.length-1
  .subst c;exact this
  .have:=yQ s1 (show n<R1.length-1 by ext hn c:1) (by ext l1:1)
   lia
 by_cases d2:m=0
 .rw [if_pos (by simpa using d2)]
  refine aP (h _ (R1++R2) hd hf (by show (arrOf st).toList=_;rw [e];simp) (plain λx hx y hy=>c3 y (by rw [d2];exact hy) x hx) (BY _) rfl)
 rw [if_neg (by simpa using d2)]
 have eX:((arrOf st).extract (P.length+k) (P.length+R1.length)).toList=R1.drop k:=by
  rw [Dk,eA,Gn (by simp),<-lB,List.take_length,List.drop_append,mY (by ext:1),B0]
  congr 1
  ext:1
 have eY:((arrOf st).extract (P.length+R1.length) (P.length+R1.length+m)).toList=R2.take m:=by
  rw [HH,eB,dH,<-lB,List.drop_append,List.drop_length,B0,vB,BW,Gn m1]
 have zX:((arrOf st).extract (P.length+k) (P.length+R1.length)).size=R1.length-k:=by rw [<-gn,eX,ou]
 have zY:((arrOf st).extract (P.length+R1.length) (P.length+R1.length+m)).size=m:=by rw [<-gn,eY,iW];ext m1:1
 have Nx:∀x∈R1,C x:=λx hx=>hC x (by rw [e];simp [hx])
 have Nw:∀x∈R2,C x:=λx hx=>hC x (by rw [e];simp [hx])
 have bz:∀x∈R1,∀y∈R2,κ x≠κ y:=λx hx y hy=>by
  rw [eA] at hD
  exact hD.app x (by simp [hx]) y (by simp [hy])
 have T:eD κ C ((arrOf st).extract (P.length+k) (P.length+R1.length)) ((arrOf st).extract (P.length+R1.length) (P.length+R1.length+m)):=by
  refine ⟨?_,?_,?_,?_,?_⟩
  .rw [eX];exact rV s1 k
  .rw [eY];exact Dc s2 m
  .rw [eX];exact λx hx=>Nx x (rh hx)
  .rw [eY];exact λx hx=>Nw x (rj hx)
  .rw [eX,eY];exact λx hx y hy=>bz x (rh hx) y (rj hy)
 have gX:∀j (hj:j<((arrOf st).extract (P.length+k) (P.length+R1.length)).size),κ ((arrOf st).extract (P.length+k) (P.length+R1.length))[j]=κ (R1[k+j]'(by ext zX hj:1)):=λj hj=>by
  rw [<-F8]
  simp only [eX,List.getElem_drop]
 have gY:∀j (hj:j<((arrOf st).extract (P.length+R1.length) (P.length+R1.length+m)).size),κ ((arrOf st).extract (P.length+R1.length) (P.length+R1.length+m))[j]=κ (R2[j]'(by ext m1 zY hj:1)):=λj hj=>by
  rw [<-F8]
  simp only [eY,yg]
 have pX:0<((arrOf st).extract (P.length+k) (P.length+R1.length)).size:=by ext d1 zX:1
 have pY:0<((arrOf st).extract (P.length+R1.length) (P.length+R1.length+m)).size:=by ext d2 zY:1
 have h0:κ ((arrOf st).extract (P.length+R1.length) (P.length+R1.length+m))[0]<κ ((arrOf st).extract (P.length+k) (P.length+R1.length))[0]:=by
  rw [gX 0 pX,gY 0 pY]
  have:=k3 k (bj _) (by ext zX pX:1)
  rw [kA k (by ext zX pX:1),E3] at this
  exact this
 have js:∀x∈((arrOf st).extract (P.length+R1.length) (P.length+R1.length+m)).toList,κ x<κ R1[R1.length-1]:=λx hx=>by
  rw [eY] at hx
  obtain ⟨j,hj,rfl⟩:=md.mp hx
  rw [iW] at hj
  have:=m2 j (by ext m1 zY hj:1)
  rw [kB j (by ext m1 zY hj:1),E4] at this
  rw [yg]
  exact this
 have rest:∀(r:Array Keyed) (g:Nat),Mg κ ((arrOf st).extract (P.length+k) (P.length+R1.length)) ((arrOf st).extract (P.length+R1.length) (P.length+R1.length+m)) r->Q true (xJ (kindOf st) (r.toList.zipIdx.foldl (λa x=>match x with | (p,j)=>a.setIfInBounds (P.length+k+j) p) (arrOf st)) (((pendingOf st).setIfInBounds i (P.length,R1.length+R2.length,pw)).eraseIdxIfInBounds (i+1)) g (failedOf st)):=λr g hM=>by
  unfold Mg at hM
  rw [eX,eY] at hM
  obtain ⟨q1,q2⟩:=Pp s1 s2 c2 c3 hM.1 hM.2
  refine h _ (R1.take k++r.toList++R2.drop m) hd hf ?_ q1 q2 rfl
  have hl:r.toList.length=(R1.drop k++R2.take m).length:=hM.2.length_eq
  have eP:(arrOf st).toList=(P++R1.take k)++(R1.drop k++R2.take m)++(R2.drop m++S):=by
   rw [e]
   have x1:R1=R1.take k++R1.drop k:=(kr ..).symm
   have x2:R2=R2.take m++R2.drop m:=(kr ..).symm
   generalize R1.take k=u at *
   generalize R1.drop k=u2 at *
   generalize R2.take m=v at *
   generalize R2.drop m=v2 at *
   rw [x1,x2]
   simp only [dH]
  have lP:(P++R1.take k).length=P.length+k:=by rw [bP,iW];ext hz lB k1:1
  have:=Tu eP hl
  rw [lP] at this
  show (r.toList.zipIdx.foldl (λa x=>a.setIfInBounds (P.length+k+x.2) x.1) (arrOf st)).toList=_
  rw [this]
  simp only [dH]
 by_cases d3:R1.length-k<=m
 .rw [if_pos d3]
  refine aF ?_
  refine L4 hk T ?_ pX pY h0 (λx hx y hy=>?_) λr g hM=>?_
  .exact hd
  .rw [eX,zX,List.drop_drop,show k+(R1.length-k-1)=R1.length-1 by ext l1 hz lB zX pX:1,jx (by ext l1 hz lB:1),show R1.length-1+1=R1.length by ext l1 hz lB:1,List.drop_length,cH] at hy
   rw [hy]
   exact js x hx
  .refine aF (l6 (aF (jT (aP ?_))))
   have:=rest r g hM
   show Q (failedOf st).isNone _
   rw [hf]
   exact this
 .rw [if_neg d3]
  refine aF ?_
  refine L5 hk T ?_ pX pY h0 (λx hx=>?_) λr g hM=>?_
  .exact hd
  .rw [gX _ (by ext zX pX:1)]
   have:=js x hx
   simp only [zX,show k+(R1.length-k-1)=R1.length-1 by ext l1 hz lB zX pX:1]
   exact this
  .refine aF (l6 (aF (jT (aP ?_))))
   have:=rest r g hM
   show Q (failedOf st).isNone _
   rw [hf]
   exact this
end
section
variable {prog:Program}{w:World}{A:Around}{E:Value->Shared->Prop}{s:Shared}{kd:SortKind}{κ:Keyed->Int}{C:Keyed->Prop}
structure Bs(κ:Keyed->Int)(C:Keyed->Prop)(kd:SortKind)(st:SortSt)(lo:Nat)(aj:SortSt):Prop where
 perm:(arrOf aj).Perm (arrOf st)
 ahead:∀k,k<lo->(arrOf aj)[k]?=(arrOf st)[k]?
 rest:aj=setArr st (arrOf aj)
theorem Bs.refl{st:SortSt}{lo:Nat}:Bs κ C kd st lo st:=⟨BZ _,λ_ _=>rfl,rfl⟩
theorem Bs.put{st aj:SortSt}{lo:Nat}(h:Bs κ C kd st lo aj){xs:Array Keyed}(hp:xs.Perm (arrOf aj))(ha:∀k,k<lo->xs[k]?=(arrOf aj)[k]?):Bs κ C kd st lo (setArr aj xs):=
 ⟨hp.trans h.perm,λk hk=>(ha k hk).trans (h.ahead k hk),by rw [h.rest]⟩
structure Al(κ:Keyed->Int)(C:Keyed->Prop)(kd:SortKind)(st:SortSt):Prop where
 kind:kindOf st=kd
 all:∀x∈(arrOf st).toList,C x
 dst:oY κ (arrOf st).toList
theorem Al.of{st aj:SortSt}(h:Al κ C kd st)(hp:(arrOf aj).Perm (arrOf st))(hk:kindOf aj=kd):Al κ C kd aj:=
 have p:=yo.mp hp
 ⟨hk,λx hx=>h.all x (p.mem_iff.mp hx),(p.map κ).nodup_iff.mpr h.dst⟩
theorem Al.bs{st aj:SortSt}{lo:Nat}(h:Al κ C kd st)(b:Bs κ C kd st lo aj):Al κ C kd aj:=h.of b.perm (by rw [b.rest];exact h.kind)
theorem Al.ne{st:SortSt}(h:Al κ C kd st)(hi:i<(arrOf st).size)(hj:j<(arrOf st).size)(dD:i≠j):kv κ (arrOf st) i≠kv κ (arrOf st) j:=by
 rw [fx hi,fx hj]
 exact h.dst.ne hi hj dD
theorem vL(hk:Ask prog w s kd κ C){st:SortSt}(hA:Al κ C kd st){Q:Option Bool->SortSt->Prop}(hi:i<(arrOf st).size)(hj:j<(arrOf st).size)(dD:i≠j)(h:Q (some (decide (kv κ (arrOf st) i<kv κ (arrOf st) j))) st):wpS (model prog w) A E s (ltAt' i j) Q st:=by
 rw [ltAt'_eq]
 refine aF (jT ?_)
 show wpS _ _ _ _ (do let p <-elem' (arrOf st) i;let q <-elem' (arrOf st) j;lt' p q) Q st
 refine aF (fj hi (aF (fj hj ?_)))
 rw [fx hi,fx hj] at h
 exact tY hk hA.kind (hA.all _ (by simp)) (hA.all _ (by simp)) (hA.dst.ne hi hj dD) h
def Up(κ:Keyed->Int)(xs:Array Keyed)(lo k:Nat):Prop:=∀i j,i<j->j<k->kv κ xs (lo+i)<kv κ xs (lo+j)
def Dn(κ:Keyed->Int)(xs:Array Keyed)(lo k:Nat):Prop:=∀i j,i<j->j<k->kv κ xs (lo+j)<kv κ xs (lo+i)
theorem Up.next{lo x:Nat}(h:Up κ xs lo x)(hx:1<=x)(hl:kv κ xs (lo+(x-1))<kv κ xs (lo+x)):Up κ xs lo (x+1):=λi j dD hj=>by
 by_cases c:j<x
 .exact h i j dD c
 .obtain rfl:j=x:=by ext hj c
  by_cases d:i=j-1
  .subst d;exact hl
  .have:=h i (j-1) (by ext dD d) (by ext hx);ext hl this
theorem Dn.next{lo x:Nat}(h:Dn κ xs lo x)(hx:1<=x)(hl:kv κ xs (lo+x)<kv κ xs (lo+(x-1))):Dn κ xs lo (x+1):=λi j dD hj=>by
 by_cases c:j<x
 .exact h i j dD c
 .obtain rfl:j=x:=by ext hj c
  by_cases d:i=j-1
  .subst d;exact hl
  .have:=h i (j-1) (by ext dD d) (by ext hx);ext hl this
theorem vI(hk:Ask prog w s kd κ C){st:SortSt}(hA:Al κ C kd st){lo a cD:Nat}{Q:Option (Option Nat)×Nat->SortSt->Prop}(hn:lo+cD<=(arrOf st).size)(ha:1<=a)(Fq:a<=cD)(hu:Up κ (arrOf st) lo a)
  (h:∀n,a<=n->n<=cD->Up κ (arrOf st) lo n->(n=cD\/n<cD/\kv κ (arrOf st) (lo+n)<kv κ (arrOf st) (lo+(n-1)))->Q (none,n) st):
  wpS (model prog w) A E s (forIn [a:cD] ((none,a):Option (Option Nat)×Nat) λ_ q=>ltAt' (lo+q.2) (lo+q.2-1) >>= λr=>match r with
   | some b=>if b=true then pure (yk (none,q.2)) else pure (me (none,q.2+1))
   | x=>pure (yk (some none,q.2))) Q st:=by
 refine gO (λx c aj=>aj=st/\c=(none,x)/\Up κ (arrOf st) lo x) (λx c aj h1 h2 hI=>?_) (λc aj hI=>?_) ⟨rfl,rfl,hu⟩
 .obtain ⟨rfl,rfl,ui⟩:=hI
  dsimp only
  rw [show lo+x-1=lo+(x-1) by ext ha h1]
  refine aF (vL hk hA (by ext h2 hn) (by ext h2 hn) (by ext ha h1) ?_)
  dsimp only
  by_cases c:kv κ (arrOf aj) (lo+x)<kv κ (arrOf aj) (lo+(x-1))
  .rw [if_pos (decide_eq_true c)]
   exact aP (h x h1 (by ext h2) ui (.inr ⟨h2,c⟩))
  .rw [if_neg (by simpa using c)]
   have:=hA.ne (i:=lo+x) (j:=lo+(x-1)) (by ext h2 hn) (by ext h2 hn) (by ext ha h1)
   exact aP ⟨rfl,rfl,ui.next (by ext ha h1) (by ext c this)⟩
 .obtain ⟨rfl,rfl,ui⟩:=hI
  rw [show max a cD=cD by ext Fq] at ui ⊢
  exact h cD Fq (bj _) ui (.inl rfl)
theorem GY{xs:Array Keyed}{lo n:Nat}(hn:lo+n<=xs.size)(k:Nat):kv κ (mirror xs lo (lo+n) ((lo+n-lo)/2)) (lo+k)=if k<n then kv κ xs (lo+(n-1-k)) else kv κ xs (lo+k):=by
 have e:=getElem?_mirror_all (i:=lo) hn (lo+k)
 by_cases h:k<n
 .rw [if_pos (by ext h),show lo+(lo+n)-1-(lo+k)=lo+(n-1-k) by ext h] at e
  rw [if_pos h];exact vK e
 .rw [if_neg (by ext h)] at e
  rw [if_neg h];exact vK e
theorem Bw(hk:Ask prog w s kd κ C){st:SortSt}(hA:Al κ C kd st){lo cD:Nat}{Q:Option Nat->SortSt->Prop}(hn:lo+cD<=(arrOf st).size)(h1:1<=cD)
  (h:∀m aj,Bs κ C kd st lo aj->1<=m->m<=cD->Up κ (arrOf aj) lo m->Q (some m) aj):wpS (model prog w) A E s (countRun' lo cD) Q st:=by
 unfold wpS
 wp_delta
 wp_delta
 wp_delta
 refine rP (Q:=Q) (aF ?_)
 refine vI hk hA hn (bj 1) h1 (λi j _ _=>by lia) λn n1 n2 hu AR=>?_
 dsimp only
 by_cases c1:n=cD
 .rw [if_pos (by simpa using c1)]
  exact aP (h n st Bs.refl n1 n2 hu)
 rw [if_neg (by simpa using c1)]
 have bx:kv κ (arrOf st) (lo+n)<kv κ (arrOf st) (lo+(n-1)):=by ext AR c1
 by_cases c2:n>1
 .rw [if_pos c2,show lo+n-1=lo+(n-1) by ext c2]
  refine aF (vL hk hA (by ext hn h1) (by ext hn n2 c2) (by ext c2) ?_)
  dsimp only
  have h0:=hu 0 (n-1) (by ext c2) (by ext c2)
  rw [Nat.add_zero] at h0
  rw [if_pos (decide_eq_true h0)]
  exact aP (h n st Bs.refl n1 n2 hu)
 rw [if_neg c2]
 obtain rfl:n=1:=by ext n1 c2
 refine aF (rC ?_)
 refine aF (gQ (gO (λx c aj=>aj=st/\c=(none,x,0)/\Dn κ (arrOf st) lo x) (Q:=λc aj=>aj=st/\∃x,c=(none,x,0)/\2<=x/\x<=cD/\Dn κ (arrOf st) lo x) (λx c aj g1 g2 hI=>?_) (λc aj hI=>?_) ⟨rfl,rfl,λi j dD hj=>?_⟩) λc aj hI=>?_)
 .obtain ⟨rfl,rfl,hs⟩:=hI
  dsimp only
  rw [show lo+x-1=lo+(x-1) by ext g1]
  have bz:=hA.ne (i:=lo+x) (j:=lo+(x-1)) (by ext g2 hn) (by ext g2 hn) (by ext g1)
  refine aF (vL hk hA (by ext g2 hn) (by ext g2 hn) (by ext g1) ?_)
  dsimp only
  by_cases c:kv κ (arrOf aj) (lo+x)<kv κ (arrOf aj) (lo+(x-1))
  .rw [if_pos (decide_eq_true c),if_neg (by decide)]
   exact aP ⟨rfl,rfl,hs.next (by ext g1) c⟩
  .rw [if_neg (by simpa using c)]
   refine aF (vL hk hA (by ext g2 hn) (by ext g2 hn) (by ext g1) ?_)
   dsimp only
   rw [if_pos (decide_eq_true (by ext bz c))]
   exact aP ⟨rfl,x,rfl,‹_›,by ext g2,hs⟩
 .obtain ⟨rfl,rfl,hs⟩:=hI
  rw [show max (1+1) cD=cD by ext c1 AR] at hs ⊢
  exact ⟨rfl,cD,rfl,by ext c1 AR,by ext,hs⟩
 .obtain ⟨rfl,rfl⟩:i=0/\j=1:=by ext dD hj
  exact bx
 .obtain ⟨rfl,x,rfl,x1,x2,hs⟩:=hI
  dsimp only
  rw [if_neg (by decide)]
  refine aF (wpS_reverse ?_)
  have hb:Bs κ C kd aj lo (setArr aj (mirror (arrOf aj) lo (lo+x) ((lo+x-lo)/2))):=Bs.refl.put (mirror_perm _ _ _ _) λk hk=>by
   have e:=getElem?_mirror_all (xs:=arrOf aj) (i:=lo) (j:=lo+x) (by ext hn x2) k
   rw [if_neg (by ext hk)] at e
   exact e
  refine aF ?_
  refine vI hk (hA.bs hb) ?_ (by ext x1) x2 (λi j dD hj=>?_) λm m1 m2 hm _=>aP (h m _ hb (by ext x1 m1) m2 hm)
  .show lo+cD<=(mirror (arrOf aj) lo (lo+x) ((lo+x-lo)/2)).size
   rw [mirror_size]
   exact hn
  .show kv κ (mirror (arrOf aj) lo (lo+x) ((lo+x-lo)/2)) (lo+i)<kv κ (mirror (arrOf aj) lo (lo+x) ((lo+x-lo)/2)) (lo+j)
   rw [GY (by ext hn x2),GY (by ext hn x2),if_pos (by ext dD hj),if_pos hj]
   exact hs _ _ (by ext dD hj) (by ext hj)
theorem BB(hk:Ask prog w s kd κ C){st:SortSt}(hA:Al κ C kd st){lo n ok:Nat}{Q:Bool->SortSt->Prop}(hn:lo+n<=(arrOf st).size)(bw:1<=ok)(MY:ok<=n)(hs:Up κ (arrOf st) lo ok)
  (h:∀aj,Bs κ C kd st lo aj->Up κ (arrOf aj) lo n->Q true aj):wpS (model prog w) A E s (binarySort' lo n ok) Q st:=by
 rw [binarySort'_eq]
 refine aF (gQ (gO (λk c aj=>c=(none,())/\Bs κ C kd st lo aj/\Up κ (arrOf aj) lo k) (Q:=λc aj=>c=(none,())/\Bs κ C kd st lo aj/\Up κ (arrOf aj) lo n) (λk c aj g1 g2 hI=>?_) (λc aj hI=>?_) ⟨rfl,Bs.refl,?_⟩) λc aj hI=>?_)
 .obtain ⟨rfl,pR,lV⟩:=hI
  have Fv:=hA.bs pR
  have hsz:(arrOf aj).size=(arrOf st).size:=pR.perm.size_eq
  refine aF (gQ (gO (λx c eG=>eG=aj/\∃l r,c=(none,l,r)/\l<=r/\r<=k/\r-l<=k-x/\(∀i,i<l->kv κ (arrOf aj) (lo+i)<kv κ (arrOf aj) (lo+k))/\∀i,r<=i->i<k->kv κ (arrOf aj) (lo+k)<kv κ (arrOf aj) (lo+i))
   (Q:=λc eG=>eG=aj/\∃l r,c=(none,l,r)/\l<=k/\(∀i,i<l->kv κ (arrOf aj) (lo+i)<kv κ (arrOf aj) (lo+k))/\∀i,l<=i->i<k->kv κ (arrOf aj) (lo+k)<kv κ (arrOf aj) (lo+i)) (λx c eG f1 f2 hJ=>?_) (λc eG hJ=>?_) ⟨rfl,0,k,rfl,by ext,by ext,by ext,λi z=>by contradiction,λi z1 z2=>by ext z1 z2⟩) λc eG hJ=>?_)
  .obtain ⟨rfl,l,r,rfl,j1,j2,j3,j4,j5⟩:=hJ
   dsimp only
   by_cases kl:l≥r
   .rw [if_pos kl]
    obtain rfl:l=r:=by ext j1 kl
    exact aP ⟨rfl,l,l,rfl,j2,j4,j5⟩
   .rw [if_neg kl]
    refine aF (vL hk Fv (by ext hn g2 hsz) (by lia) (by lia) ?_)
    dsimp only
    have bz:=Fv.ne (i:=lo+k) (j:=lo+(l+r)/2) (by ext hn g2 hsz) (by lia) (by lia)
    by_cases hl:kv κ (arrOf eG) (lo+k)<kv κ (arrOf eG) (lo+(l+r)/2)
    .rw [if_pos (decide_eq_true hl)]
     refine aP ⟨rfl,l,(l+r)/2,rfl,by lia,by lia,by lia,j4,λi z1 z2=>?_⟩
     by_cases hi:i=(l+r)/2
     .subst hi;exact hl
     .have:=lV ((l+r)/2) i (by ext z1 hi) z2;ext hl this
    .rw [if_neg (by simpa using hl)]
     refine aP ⟨rfl,(l+r)/2+1,r,rfl,by lia,‹_›,by lia,λi z1=>?_,j5⟩
     by_cases hi:i=(l+r)/2
     .subst hi;ext bz hl
     .have:=lV i ((l+r)/2) (by ext z1 hi) (by lia);ext hl this
  .obtain ⟨rfl,l,r,rfl,j1,j2,j3,j4,j5⟩:=hJ
   obtain rfl:l=r:=by ext j1 j3
   exact ⟨rfl,l,l,rfl,j2,j4,j5⟩
  .obtain ⟨rfl,l,r,rfl,j2,j4,j5⟩:=hJ
   show wpS _ _ _ _ (do moveDown' (lo+k) (lo+l);pure (me (none,()))) _ _
   rw [moveDown'_eq]
   have M7:lo+k<(arrOf eG).size:=by ext hn g2 hsz
   have xD:=getElem?_bubble M7 (lo+k-(lo+l)) (by ext)
   refine aF (l6 (aP ⟨rfl,pR.put (bubble_perm _ _ _) λq hq=>?_,λi j dD hj=>?_⟩))
   .have e:=xD q
    rw [if_neg (by ext hq),if_neg (by ext hq)] at e
    exact e
   have kb:∀m,kv κ (bubble (arrOf eG) (lo+k) (lo+k-(lo+l))) (lo+m)=if m=l then kv κ (arrOf eG) (lo+k) else if l<m/\m<=k then kv κ (arrOf eG) (lo+(m-1)) else kv κ (arrOf eG) (lo+m):=λm=>by
    have e:=xD (lo+m)
    by_cases c1:m=l
    .rw [if_pos (by ext j2 c1)] at e;rw [if_pos c1];exact vK e
    .rw [if_neg (by ext j2 c1)] at e;rw [if_neg c1]
     by_cases c2:l<m/\m<=k
     .rw [if_pos (by ext c2),show lo+m-1=lo+(m-1) by ext c2] at e;rw [if_pos c2];exact vK e
     .rw [if_neg (by ext c2)] at e;rw [if_neg c2];exact vK e
   show kv κ (bubble (arrOf eG) (lo+k) (lo+k-(lo+l))) (lo+i)<kv κ (bubble (arrOf eG) (lo+k) (lo+k-(lo+l))) (lo+j)
   rw [kb,kb]
   repeat' split
   all_goals first
    | (exfalso;lia)
    | exact j4 _ (by lia)
    | exact j5 _ (by lia) (by ext dD hj)
    | exact lV _ _ (by lia) (by lia)
 .obtain ⟨hc,pR,lV⟩:=hI
  rw [show max (max ok 1) n=n by ext bw MY] at lV
  exact ⟨hc,pR,lV⟩
 .rw [show max ok 1=ok by ext bw];exact hs
 .obtain ⟨rfl,pR,lV⟩:=hI
  exact aP (h aj pR lV)
end
section
variable {prog:Program}{w:World}{A:Around}{E:Value->Shared->Prop}{s:Shared}{kd:SortKind}{κ:Keyed->Int}{C:Keyed->Prop}
structure St(κ:Keyed->Int)(C:Keyed->Prop)(kd:SortKind)(a₀:Array Keyed)(st:SortSt)(Rs:List (List Keyed)):Prop where
 perm:(arrOf st).Perm a₀
 kind:kindOf st=kd
 failed:failedOf st=none
 pre:(arrOf st).toList.take Rs.flatten.length=Rs.flatten
 le:Rs.flatten.length<=a₀.size
 nR:h9 0 Rs (pendingOf st).toList
 run:∀R∈Rs,R≠[]/\c6 κ R
variable {a₀:Array Keyed}
structure Kn(κ:Keyed->Int)(C:Keyed->Prop)(a₀:Array Keyed):Prop where
 all:∀x∈a₀.toList,C x
 dst:oY κ a₀.toList
theorem St.al{st:SortSt}(h:St κ C kd a₀ st Rs)(k:Kn κ C a₀):Al κ C kd st:=
 have p:=yo.mp h.perm
 ⟨h.kind,λx hx=>k.all x (p.mem_iff.mp hx),(p.map κ).nodup_iff.mpr k.dst⟩
theorem St.cnt{st:SortSt}(h:St κ C kd a₀ st Rs):(pendingOf st).size=Rs.length:=by rw [<-gn];exact h.nR.len
theorem yy(hk:Ask prog w s kd κ C)(k:Kn κ C a₀){st:SortSt}(h:St κ C kd a₀ st (Xs++R1::R2::Ys))(hi:i=Xs.length){Q:Bool->SortSt->Prop}
  (hQ:∀aj R,St κ C kd a₀ aj (Xs++R::Ys)->(Xs++R::Ys).flatten.length=(Xs++R1::R2::Ys).flatten.length->(arrOf aj).toList.drop (Xs++R1::R2::Ys).flatten.length=(arrOf st).toList.drop (Xs++R1::R2::Ys).flatten.length->Q true aj):wpS (model prog w) A E s (mergeAt' i) Q st:=by
 have hz:(arrOf st).size=a₀.size:=h.perm.size_eq
 have eF:(Xs++R1::R2::Ys).flatten=Xs.flatten++R1++R2++Ys.flatten:=by simp
 have al:=h.al k
 have r1:=h.run R1 (by simp)
 have r2:=h.run R2 (by simp)
 obtain ⟨q1,q2⟩:=h.nR.split
 rw [vC] at q2
 have MT:=h.nR.len
 generalize hp:(pendingOf st).toList=ps at *
 obtain ⟨u,v,pv,e3⟩:∃u v pv,ps.drop Xs.length=u::v::pv:=by
  match hd:ps.drop Xs.length,q2 with
  | u::v::pv,_=>exact ⟨u,v,pv,rfl⟩
 rw [e3] at q2
 obtain ⟨u1,u2,v1,v2,q3⟩:=q2
 have Bq:ps=ps.take Xs.length++u::v::pv:=by rw [<-e3,kr]
 have lt:(ps.take Xs.length).length=Xs.length:=by rw [iW,MT,bP];ext
 have g1:(pendingOf st)[i]?=some (Xs.flatten.length,R1.length,u.2.2):=by
  rw [<-om,hp,Bq,m5 (by ext hi lt),lt,hi,vB]
  show some u=_
  rw [<-u1,<-u2]
 have g2:(pendingOf st)[i+1]?=some (Xs.flatten.length+R1.length,R2.length,v.2.2):=by
  rw [<-om,hp,Bq,m5 (by ext hi lt),lt,hi,Cd]
  show some v=_
  rw [<-v1,<-v2]
 have eA:(arrOf st).toList=Xs.flatten++R1++R2++(Ys.flatten++(arrOf st).toList.drop (Xs++R1::R2::Ys).flatten.length):=by
  have:=kr (Xs++R1::R2::Ys).flatten.length (arrOf st).toList
  rw [h.pre] at this
  rw [<-dH,<-eF]
  exact this.symm
 refine L6 hk h.kind h.failed eA al.all al.dst r1.2 r2.2 r1.1 r2.1 g1 g2 λaj R a1 a2 a3 a4 a5 a6=>?_
 have lR:R.length=R1.length+R2.length:=by rw [a5.length_eq,bP]
 have Br:(Xs++R::Ys).flatten=Xs.flatten++R++Ys.flatten:=by simp
 have lF:(Xs++R::Ys).flatten.length=(Xs++R1::R2::Ys).flatten.length:=by rw [eF,Br];simp only [bP];ext lR
 refine hQ aj R ⟨?_,a1,a2,?_,by rw [lF];exact h.le,?_,λS hS=>?_⟩ lF ?_
 .refine Array.Perm.trans (yo.mpr ?_) h.perm
  generalize (arrOf st).toList.drop (Xs++R1::R2::Ys).flatten.length=D at *
  rw [a3,eA]
  refine List.Perm.append_right _ ?_
  rw [dH Xs.flatten]
  exact a5.append_left _
 .rw [a3,Br,<-dH,List.take_left]
 .have e6:(pendingOf aj).toList=ps.take Xs.length++(Xs.flatten.length,R1.length+R2.length,u.2.2)::pv:=by
   rw [a6,Array.toList_eraseIdxIfInBounds,Array.toList_setIfInBounds,hp,hi]
   conv=>lhs;rw [Bq]
   rw [List.set_append_right _ _ (by ext lt),lt,vB,List.set_cons_zero,List.eraseIdx_append_of_length_le (by ext lt),lt,Cd]
   rfl
  rw [e6]
  refine q1.app ?_
  rw [vC]
  refine ⟨rfl,lR.symm,?_⟩
  rw [lR,<-B1]
  exact q3
 .rcases bR.mp hS with hS | hS
  .exact h.run S (dX _ hS)
  .rcases cU.mp hS with rfl | hS
   .refine ⟨λz=>?_,a4⟩
    rw [z] at lR
    have:=xW.mpr r1.1
    simp at lR
    ext lR this
   .exact h.run S (er _ (by simp [hS]))
 .generalize (arrOf st).toList.drop (Xs++R1::R2::Ys).flatten.length=D at *
  rw [<-lF,a3,Br,<-dH,List.drop_left]
theorem CI{Rs:List (List Keyed)}(h:2<=Rs.length):∃Xs R1 R2,Rs=Xs++R1::R2::[]/\Xs.length=Rs.length-2:=by
 refine ⟨Rs.take (Rs.length-2),Rs[Rs.length-2],Rs[Rs.length-1],?_,by rw [iW];ext:1⟩
 conv=>lhs;rw [<-kr (Rs.length-2) Rs]
 congr 1
 rw [jx (by ext h:1),jx (by ext h:1),mY (by ext:1)]
 simp only [show Rs.length-2+1=Rs.length-1 by ext h:1]
theorem Qb{Rs:List (List Keyed)}(h:3<=Rs.length):∃Xs R1 R2 R3,Rs=Xs++R1::R2::[R3]/\Xs.length=Rs.length-3:=by
 refine ⟨Rs.take (Rs.length-3),Rs[Rs.length-3],Rs[Rs.length-2],Rs[Rs.length-1],?_,by rw [iW];ext:1⟩
 conv=>lhs;rw [<-kr (Rs.length-3) Rs]
 congr 1
 rw [jx (by ext h:1),jx (by ext h:1),jx (by ext h:1),mY (by ext:1)]
 simp only [show Rs.length-3+1=Rs.length-2 by ext h:1,show Rs.length-2+1=Rs.length-1 by ext h:1]
theorem Hq{xs:Array Keyed}{lo n:Nat}(h:Up κ xs lo n)(hn:lo+n<=xs.size):c6 κ ((xs.toList.drop lo).take n):=by
 refine vF.mpr λi j hi hj dD=>?_
 simp only [iW,ou,gn] at hi hj
 have:=h i j dD (by ext hj:1)
 rw [fx (by ext hi:1),fx (by ext hj:1)] at this
 simpa using this
theorem TL{xs ys:Array Keyed}{n:Nat}(h:∀k,k<n->xs[k]?=ys[k]?):xs.toList.take n=ys.toList.take n:=by
 refine List.ext_getElem? λk=>?_
 rw [Gi,Gi,om,om]
 split
 .exact h k ‹_›
 .rfl
theorem RC{Rs:List (List Keyed)}(h:∀R∈Rs,R≠[]):Rs.length<=Rs.flatten.length:=by
 induction Rs with
 | nil=>exact bj _
 | cons R Rs ih =>
  have:=ih λS hS=>h S (by simp [hS])
  have:=xW.mpr (h R (by simp))
  rw [yh,bP,fS]
  lia
theorem St.push{st:SortSt}(h:St κ C kd a₀ st Rs){aj:SortSt}(e1:arrOf aj=arrOf st)(e2:kindOf aj=kindOf st)(e3:failedOf aj=failedOf st)(hq:h9 0 Rs q)(e4:(pendingOf aj).toList=q++[(Rs.flatten.length,n,0)])
  (hn:1<=n)(hl:Rs.flatten.length+n<=a₀.size)(hs:c6 κ (((arrOf st).toList.drop Rs.flatten.length).take n)):St κ C kd a₀ aj (Rs++[((arrOf st).toList.drop Rs.flatten.length).take n]):=by
 have hz:(arrOf st).toList.length=a₀.size:=by rw [gn];exact h.perm.size_eq
 have ln:(((arrOf st).toList.drop Rs.flatten.length).take n).length=n:=by rw [iW,ou];ext hl hz
 have eF:(Rs++[((arrOf st).toList.drop Rs.flatten.length).take n]).flatten=Rs.flatten++((arrOf st).toList.drop Rs.flatten.length).take n:=by simp
 have lF:(Rs++[((arrOf st).toList.drop Rs.flatten.length).take n]).flatten.length=Rs.flatten.length+n:=by rw [eF,bP,ln]
 refine ⟨by rw [e1];exact h.perm,by rw [e2];exact h.kind,by rw [e3];exact h.failed,?_,by rw [lF];exact hl,?_,λR hR=>?_⟩
 .rw [lF,e1,List.take_add,h.pre,eF]
 .rw [e4]
  refine hq.app ⟨?_,ln.symm,trivial⟩
  exact (vC _).symm
 .rcases bR.mp hR with hR | hR
  .exact h.run R hR
  .rw [cH.mp hR]
   refine ⟨λz=>?_,hs⟩
   rw [z] at ln
   simp at ln
   ext hn ln
theorem h9.mod{α:Type}(f:Nat×Nat×Nat->Nat×Nat×Nat)(hf:∀x,(f x).1=x.1/\(f x).2.1=x.2.1):∀{o:Nat} {Rs:List (List α)} {ps:List (Nat×Nat×Nat)} (i:Nat),h9 o Rs ps->h9 o Rs (ps.modify i f)
 | _,[],[],i,_=>by cases i<;>exact trivial
 | o,R::Rs,p::ps,0,h=>⟨by rw [(hf p).1];exact h.1,by rw [(hf p).2];exact h.2.1,h.2.2⟩
 | o,R::Rs,p::ps,i+1,h=>⟨h.1,h.2.1,h.2.2.mod f hf i⟩
theorem St.weigh{st:SortSt}(h:St κ C kd a₀ st Rs){aj:SortSt}(hb:Bs κ C kd st Rs.flatten.length aj):St κ C kd a₀ aj Rs:=
 ⟨hb.perm.trans h.perm,by rw [hb.rest];exact h.kind,by rw [hb.rest];exact h.failed,by rw [TL hb.ahead];exact h.pre,h.le,by rw [hb.rest];exact h.nR,h.run⟩
theorem tf(hk:Ask prog w s kd κ C)(k:Kn κ C a₀){st:SortSt}{Q:Unit->SortSt->Prop}(h:St κ C kd a₀ st [])(h2:2<=a₀.size)
  (hQ:∀aj,(arrOf aj).Perm a₀->failedOf aj=none->c6 κ (arrOf aj).toList->Q () aj):wpS (model prog w) A E s sortRuns' Q st:=by
 unfold wpS
 wp_delta
 wp_delta
 wp_delta
 refine rP (Q:=Q) (aF (jT ?_))
 dsimp only
 have hz:(arrOf st).size=a₀.size:=h.perm.size_eq
 simp only [hz]
 refine aF (gQ (gO (λx c aj=>∃Rs:List (List Keyed),c=(none,Rs.flatten.length)/\St κ C kd a₀ aj Rs/\x<=Rs.flatten.length) (Q:=λc aj=>∃Rs:List (List Keyed),c=(none,Rs.flatten.length)/\St κ C kd a₀ aj Rs/\Rs.flatten.length=a₀.size) (λx c aj _ hx hI=>?_) (λc aj hI=>?_) ⟨[],rfl,h,bj _⟩) λc aj hI=>?_)
 .obtain ⟨Rs,rfl,hS,hp⟩:=hI
  dsimp only
  have hle:=hS.le
  by_cases c1:Rs.flatten.length≥a₀.size
  .rw [if_pos c1]
   exact aP ⟨Rs,rfl,hS,by ext hle c1⟩
  rw [if_neg c1]
  have ML:(arrOf aj).size=a₀.size:=hS.perm.size_eq
  refine aF ?_
  refine Bw hk (hS.al k) (by ext c1 ML) (by ext c1) λm eG hb m1 m2 hu=>?_
  dsimp only
  have S2:=hS.weigh hb
  have AE:(arrOf eG).size=a₀.size:=S2.perm.size_eq
  generalize (sortPriv% PySem.Builtin.minRun) a₀.size a₀.size 0 = mr
  by_cases c2:m<mr
  .rw [if_pos c2]
   refine aF (rC (aF ?_))
   generalize hF:min (a₀.size-Rs.flatten.length) mr=n
   refine BB hk (S2.al k) (by ext c1 AE hF) m1 (by ext m2 c2 hF) hu λfC Nm AK=>?_
   rw [if_neg (by decide)]
   have S3:=S2.weigh Nm
   have n1:1<=n:=by ext m1 m2 c2 hF
   have n2:Rs.flatten.length+n<=a₀.size:=by ext c1 hF
   have AD:(arrOf fC).size=a₀.size:=S3.perm.size_eq
   have pG:=Hq AK (by ext n2 AD)
   have l3:(((arrOf fC).toList.drop Rs.flatten.length).take n).length=n:=by rw [iW,ou,gn];ext n2 AD
   refine aF (jT ?_)
   cases Nl:(pendingOf fC).back? with
   | none =>
    dsimp only
    refine aF (l6 (aP ⟨Rs++[((arrOf fC).toList.drop Rs.flatten.length).take n],?_,S3.push rfl rfl rfl S3.nR (rA ..) n1 n2 pG,?_⟩))
    .rw [oj,bP,oq,l3]
    .rw [oj,bP,oq,l3]
     ext hp n1
   | some p =>
    obtain ⟨s1,pq,p3⟩:=p
    dsimp only
    refine aF (gQ (gO (λx c aj=>c=(none,())/\∃Ts:List (List Keyed),St κ C kd a₀ aj Ts/\Ts.flatten.length=Rs.flatten.length/\(arrOf aj).toList.drop Rs.flatten.length=(arrOf fC).toList.drop Rs.flatten.length) (Q:=λc aj=>c=(none,())/\∃Ts:List (List Keyed),St κ C kd a₀ aj Ts/\Ts.flatten.length=Rs.flatten.length/\(arrOf aj).toList.drop Rs.flatten.length=(arrOf fC).toList.drop Rs.flatten.length) (λx c aj _ hx hI=>?_) (λc aj hI=>hI) ⟨rfl,Rs,S3,rfl,rfl⟩) λc aj hI=>?_)
    .obtain ⟨rfl,Ts,hT,hl,ha⟩:=hI
     refine aF (jT ?_)
     have hc:=hT.cnt
     simp only [hc]
     by_cases c3:Ts.length>1
     .rw [if_pos c3]
      cases hg:(pendingOf aj)[Ts.length-2]? with
      | none=>exact aP ⟨rfl,Ts,hT,hl,ha⟩
      | some p =>
       obtain ⟨p1,p2,p3⟩:=p
       dsimp only
       split
       .exact aP ⟨rfl,Ts,hT,hl,ha⟩
       .obtain ⟨Xs,R1,R2,rfl,hX⟩:=CI (Rs:=Ts) ‹_›
        refine aF ?_
        refine yy hk k hT hX.symm λqN R pP pL mR=>?_
        rw [if_neg (by decide)]
        exact aP ⟨rfl,_,pP,pL.trans hl,by rw [hl] at mR;exact mR.trans ha⟩
     .rw [if_neg c3]
      exact aP ⟨rfl,Ts,hT,hl,ha⟩
    .obtain ⟨rfl,Ts,hT,hl,ha⟩:=hI
     dsimp only
     refine aF (l6 (aF (l6 (aP ⟨Ts++[((arrOf aj).toList.drop Ts.flatten.length).take n],?_,hT.push rfl rfl rfl (hT.nR.mod (λx=>(x.1,x.2.1,power' a₀.size (2*s1+pq) (2*s1+pq+pq+n) a₀.size)) (λ_=>⟨rfl,rfl⟩) ((pendingOf aj).size-1)) (by rw [hl];exact (rA ..).trans (by rw [F2];rfl)) n1 (by ext n2 hl) (by rw [hl,ha];exact pG),?_⟩))))
     .rw [oj,bP,oq,hl,ha,l3]
     .rw [oj,bP,oq,hl,ha,l3]
      ext hp n1
  .rw [if_neg c2]
   obtain ⟨n,rfl⟩:∃n,n=m:=⟨_,rfl⟩
   obtain ⟨fC,rfl⟩:∃fC,fC=eG:=⟨_,rfl⟩
   have S3:=S2
   have AK:=hu
   have n1:1<=n:=by assumption
   have n2:Rs.flatten.length+n<=a₀.size:=by ext c1 m2
   have AD:(arrOf fC).size=a₀.size:=S3.perm.size_eq
   have pG:=Hq AK (by ext AE n2)
   have l3:(((arrOf fC).toList.drop Rs.flatten.length).take n).length=n:=by rw [iW,ou,gn];ext AE n2
   refine aF (jT ?_)
   cases Nl:(pendingOf fC).back? with
   | none =>
    dsimp only
    refine aF (l6 (aP ⟨Rs++[((arrOf fC).toList.drop Rs.flatten.length).take n],?_,S3.push rfl rfl rfl S3.nR (rA ..) n1 n2 pG,?_⟩))
    .rw [oj,bP,oq,l3]
    .rw [oj,bP,oq,l3]
     ext hp m1
   | some p =>
    obtain ⟨s1,pq,p3⟩:=p
    dsimp only
    refine aF (gQ (gO (λx c aj=>c=(none,())/\∃Ts:List (List Keyed),St κ C kd a₀ aj Ts/\Ts.flatten.length=Rs.flatten.length/\(arrOf aj).toList.drop Rs.flatten.length=(arrOf fC).toList.drop Rs.flatten.length) (Q:=λc aj=>c=(none,())/\∃Ts:List (List Keyed),St κ C kd a₀ aj Ts/\Ts.flatten.length=Rs.flatten.length/\(arrOf aj).toList.drop Rs.flatten.length=(arrOf fC).toList.drop Rs.flatten.length) (λx c aj _ hx hI=>?_) (λc aj hI=>hI) ⟨rfl,Rs,S3,rfl,rfl⟩) λc aj hI=>?_)
    .obtain ⟨rfl,Ts,hT,hl,ha⟩:=hI
     refine aF (jT ?_)
     have hc:=hT.cnt
     simp only [hc]
     by_cases c3:Ts.length>1
     .rw [if_pos c3]
      cases hg:(pendingOf aj)[Ts.length-2]? with
      | none=>exact aP ⟨rfl,Ts,hT,hl,ha⟩
      | some p =>
       obtain ⟨p1,p2,p3⟩:=p
       dsimp only
       split
       .exact aP ⟨rfl,Ts,hT,hl,ha⟩
       .obtain ⟨Xs,R1,R2,rfl,hX⟩:=CI (Rs:=Ts) ‹_›
        refine aF ?_
        refine yy hk k hT hX.symm λqN R pP pL mR=>?_
        rw [if_neg (by decide)]
        exact aP ⟨rfl,_,pP,pL.trans hl,by rw [hl] at mR;exact mR.trans ha⟩
     .rw [if_neg c3]
      exact aP ⟨rfl,Ts,hT,hl,ha⟩
    .obtain ⟨rfl,Ts,hT,hl,ha⟩:=hI
     dsimp only
     refine aF (l6 (aF (l6 (aP ⟨Ts++[((arrOf aj).toList.drop Ts.flatten.length).take n],?_,hT.push rfl rfl rfl (hT.nR.mod (λx=>(x.1,x.2.1,power' a₀.size (2*s1+pq) (2*s1+pq+pq+n) a₀.size)) (λ_=>⟨rfl,rfl⟩) ((pendingOf aj).size-1)) (by rw [hl];exact (rA ..).trans (by rw [F2];rfl)) n1 (by ext n2 hl) (by rw [hl,ha];exact pG),?_⟩))))
     .rw [oj,bP,oq,hl,ha,l3]
     .rw [oj,bP,oq,hl,ha,l3]
      ext hp m1
 .obtain ⟨Rs,rfl,hS,hp⟩:=hI
  have hle:=hS.le
  exact ⟨Rs,rfl,hS,by ext hp hle⟩
 .obtain ⟨Rs,rfl,hS,hp⟩:=hI
  dsimp only
  have hr:Rs.length<=a₀.size:=by rw [<-hp];exact RC λR hR=>(hS.run R hR).1
  refine aF (gQ (gO (λx c aj=>c=(none,())/\∃Rs:List (List Keyed),St κ C kd a₀ aj Rs/\Rs.flatten.length=a₀.size/\Rs.length<=max 1 (a₀.size-x)) (Q:=λc aj=>c=(none,())/\∃Rs:List (List Keyed),St κ C kd a₀ aj Rs/\Rs.flatten.length=a₀.size/\Rs.length<=1) (λx c aj _ hx hI=>?_) (λc aj hI=>?_) ⟨rfl,Rs,hS,hp,by ext hr⟩) λc aj hI=>?_)
  .obtain ⟨rfl,Rs,hS,hp,hl⟩:=hI
   refine aF (jT ?_)
   have hc:=hS.cnt
   simp only [hc]
   by_cases c1:Rs.length<=1
   .rw [if_pos c1]
    exact aP ⟨rfl,Rs,hS,hp,c1⟩
   rw [if_neg c1]
   refine aF ?_
   have key:∀j,(j=Rs.length-2\/(3<=Rs.length/\j=Rs.length-3))->∀{Q:Bool->SortSt->Prop},(∀aj Ts,St κ C kd a₀ aj Ts->Ts.flatten.length=Rs.flatten.length->Ts.length+1=Rs.length->Q true aj)->wpS (model prog w) A E s (mergeAt' j) Q aj:=λj hj Q hq=>by
    rcases hj with rfl | ⟨h3,rfl⟩
    .obtain ⟨Xs,R1,R2,rfl,hX⟩:=CI (Rs:=Rs) (by ext c1)
     exact yy hk k hS hX.symm λqN R pP pL _=>hq qN _ pP pL (by simp)
    .obtain ⟨Xs,R1,R2,R3,rfl,hX⟩:=Qb (Rs:=Rs) ‹_›
     exact yy hk k hS hX.symm λqN R pP pL _=>hq qN _ pP pL (by simp)
   refine key _ ?_ λqN Ts hT h1 h2=>?_
   .by_cases c2:Rs.length-2>0
    .rw [if_pos c2]
     split
     .exact .inr ⟨by ext c2,by ext⟩
     .exact .inl rfl
    .rw [if_neg c2]
     exact .inl rfl
   .rw [if_neg (by decide)]
    exact aP ⟨rfl,Ts,hT,by ext hp h1,by ext hl h2⟩
  .obtain ⟨rfl,Rs,hS,hp,hl⟩:=hI
   exact ⟨rfl,Rs,hS,hp,by ext hl⟩
  .obtain ⟨rfl,Rs,hS,hp,hl⟩:=hI
   refine aP (hQ _ hS.perm hS.failed ?_)
   have e:(arrOf aj).toList=Rs.flatten:=by
    have:=hS.pre
    rw [Cb (by rw [gn,hS.perm.size_eq];ext hp)] at this
    exact this
   rw [e]
   match Rs,hl,hS.run,hp with
   | [],_,_,hp=>exact BR
   | [R],_,hr,_ =>
    rw [yh,List.flatten_nil,lD]
    exact (hr R (by simp)).2
end
end SO
noncomputable def iY:Nat:=1600000
namespace TS
open PySem PyProof.Rows
noncomputable abbrev kTup:Bool → SortKind:=sortPriv% PySem.Builtin.KeyKind.tuples
theorem Qr(x y:Value):keyLt' (kTup true) x y=(do
  let us <-x9 x
  let vs <-x9 y
  for ((p,q),i) in (us.toList.zip vs.toList).zipIdx do
   if !(<-eqBool p q) then return <-oneLt' (true&&i==0) p q
  return decide (us.size<vs.size)):=rfl
section
variable {prog:Program}{w:World}{A:Around}{E:Value->Shared->Prop}{s:Shared}
theorem RL(hx:s.heap.get? x=some ox)(dx:ox.data=.seq (jw a t::us).toArray n)
  (hy:s.heap.get? y=some oy)(dy:oy.data=.seq (jw b u::vs).toArray m)(bz:a≠b)(h:Q (decide (a<b)) s):wpAny (model prog w) A (keyLt' (kTup true) (.ref x) (.ref y)) Q E s:=by
 rw [Qr]
 refine cn (xV hx dx (cn (xV hy dy ?_)))
 dsimp only
 rw [List.zip_cons_cons,List.zipIdx_cons,List.forIn_cons]
 refine cn (cn ?_)
 dsimp only
 refine cn (wpAny_eqBool_int ?_)
 rw [if_pos (by simp [bz])]
 exact cn (oneLt_int (eN (eN (eN h))))
noncomputable def kI(ky:Value->Int)(xs:Array Keyed)(i:Nat):Int:=match xs[i]? with
 | some p=>ky p.1
 | none=>0
structure TB(a₀:Array Keyed)(st:SortSt):Prop where
 perm:(arrOf st).Perm a₀
 kind:kindOf st=kTup true
 failed:failedOf st=none
 pend:pendingOf st=#[]
def wW(s:Shared)(ky:Value->Int)(a₀:Array Keyed):Prop:=∀p∈a₀.toList,∃x o t us n,p.1=.ref x/\s.heap.get? x=some o/\o.data=.seq (jw (ky p.1) t::us).toArray n
def qJ(ky:Value->Int)(a₀:Array Keyed):Prop:=(a₀.toList.map λp=>ky p.1).Nodup
variable {ky:Value->Int}{a₀:Array Keyed}
def zB(ky:Value->Int)(xs:Array Keyed)(k:Nat):Prop:=∀i j,i<j->j<k->kI ky xs i<kI ky xs j
theorem s9{st:SortSt}{Q:Unit->SortSt->Prop}(hk:wW s ky a₀)(hd:qJ ky a₀)(hB:TB a₀ st)(h2:2<=a₀.size)(e8:a₀.size<iY)
  (h:∀aj,(arrOf aj).Perm a₀->failedOf aj=none->zB ky (arrOf aj) a₀.size->Q () aj):wpS (model prog w) A E s sortRuns' Q st:=by
 refine SO.tf (kd:=kTup true) (κ:=λp=>ky p.1) (C:=λp=>∃x o t us n,p.1=.ref x/\s.heap.get? x=some o/\o.data=.seq (jw (ky p.1) t::us).toArray n) ⟨λ{x y} cx cy bz=>?_⟩ ⟨hk,hd⟩ ⟨hB.perm,hB.kind,hB.failed,rfl,oh _,by rw [hB.pend];trivial,λR hR=>nomatch hR⟩ h2 λaj p f i=>h aj p f λa b uI hb=>?_
 .obtain ⟨x1,o,t,us,n,e1,e2,e3⟩:=cx
  obtain ⟨y1,o',t',Uz,n',f1,f2,f3⟩:=cy
  intro A E Q hQ
  generalize ky x.1=kx at *
  generalize ky y.1=kz at *
  rw [e1,f1]
  exact RL e2 e3 f2 f3 bz hQ
 .exact SO.dP i uI (by rw [p.size_eq];exact hb)
def TupAt(s:Shared)(ky:Value->Int)(v:Value):Prop:=∃x o t us n,v=.ref x/\s.heap.get? x=some o/\o.cls=.type "tuple" /\ o.data=.seq (jw (ky v) t::us).toArray n
theorem P2(vs:List Value)(hv:∀v∈vs,TupAt s ky v)(h:∀ts:List Tok,ts.length=vs.length->Q (kn (λv t=>some (jw (ky v) t)) vs ts) s):wpAny (model prog w) A (vs.mapM firstOfTuple') Q E s:=by
 induction vs generalizing Q with
 | nil=>rw [List.mapM_nil];exact eN (h [] rfl)
 | cons v vs ih =>
  rw [List.mapM_cons]
  obtain ⟨x,o,t,us,n,e1,e2,e3,e4⟩:=hv v cP
  have ht:s.TypeIs v "tuple":=by rw [e1];exact ⟨o,e2,e3⟩
  have one:wpAny (model prog w) A (firstOfTuple' v) (λr s'=>s'=s/\r=some (jw (ky v) t)) E s:=by
   show wpAny _ _ (typeOf v >>= λT=>if (T != qb "tuple")=true then pure none else x9 v >>= λus=>pure us[0]?) _ _ _
   refine cn (wpAny_typeOf ht ?_)
   rw [if_neg (by simp)]
   have li:wpAny (model prog w) A (x9 (.ref x)) (λus s'=>wpAny (model prog w) A (pure us[0]?) (λr s'=>s'=s/\r=some (jw (ky v) t)) E s') E s:=xV e2 e4 (eN ⟨rfl,rfl⟩)
   rw [<-e1] at li
   exact cn li
  refine cn (jX one (λr s' hr=>?_) λ_ _ z=>z)
  obtain ⟨rfl,rfl⟩:=hr
  exact cn (ih (λu hu=>hv u (dj _ hu)) λts hl=>eN (h (t::ts) (by simp [hl])))
theorem t7(vs:List Value){Q:SortKind->Shared->Prop}(bz:vs≠[])(hv:∀v∈vs,TupAt s ky v)(h:Q (kTup true) s):wpAny (model prog w) A (keyKind' vs.toArray) Q E s:=by
 rw [keyKind'_eq,List.mapM_toArray,map_eq_pure_bind]
 refine cn (cn (P2 vs hv λts hl=>eN ?_))
 have hi:∀(us:List Value) (ts:List Tok),ts.length=us.length->(kn (λv t=>some (jw (ky v) t)) us ts).all (·.isSome)=true/\∃ws ns,(kn (λv t=>some (jw (ky v) t)) us ts).filterMap id=ws/\IntsAre ws ns/\ws.length=us.length:=λus=>by
  induction us with
  | nil=>intro ts _;exact ⟨by simp,[],[],by simp,.nil,rfl⟩
  | cons u us ih =>
   intro ts hl
   cases ts with
   | nil=>simp at hl
   | cons t ts =>
    obtain ⟨h1,ws,ns,h2,h3,h4⟩:=ih ts (by simpa using hl)
    exact ⟨by simpa using h1,_::ws,_::ns,by simp [h2],.cons (ky u) t h3,by simp [h4]⟩
 obtain ⟨h1,ws,ns,h2,h3,h4⟩:=hi vs ts hl
 rw [if_pos (by simpa using h1)]
 refine cn (wpAny_rule (cn ?_))
 have e:(kn (λv t=>some (jw (ky v) t)) vs ts).toArray.filterMap id=ws.toArray:=by simp [h2]
 rw [e,oneTypeOnly'_eq,List.mapM_toArray,mapM_typeOf_ints h3]
 have AU:ws≠[]:=λz=>by rw [z] at h4;exact bz (FX.mp h4.symm)
 cases ws with
 | nil=>exact absurd rfl AU
 | cons a ws =>
  simp only [map_pure,pure_bind]
  have pO:((mX (λ_=>qb "int") (a::ws)).toArray.all λx=>x==qb "int")=true:=by simp
  have h0:(mX (λ_=>qb "int") (a::ws)).toArray[0]?=some (qb "int"):=by simp
  rw [h0]
  simp only [pO,if_true]
  exact eN (eN h)
theorem PD{vs:List Value}{xs:Array Keyed}(hp:xs.Perm (pairsOf vs))(hi:zB ky xs (pairsOf vs).size):(xs.map (·.2)).toList.Perm vs/\(xs.map (·.2)).toList.Pairwise λx y=>ky x<ky y:=by
 have ei:=yo.mp hp
 have hz:(vs.zip vs).map (·.2)=vs:=by rw [List.map_snd_zip];exact bj _
 have kW:∀p∈xs.toList,p.1=p.2:=λp AQ=>by
  have:=ei.mem_iff.mp AQ
  rw [xQ] at this
  have key:∀(us:List Value) (p:Value×Value),p∈us.zip us->p.1=p.2:=λus=>by
   induction us with
   | nil=>intro p z;cases z
   | cons u us ih =>
    intro p z
    rcases cU.mp z with rfl | z
    .rfl
    .exact ih p z
  exact key vs p this
 rw [Array.toList_map]
 refine ⟨by have:=ei.map (·.2);rw [xQ,hz] at this;exact this,?_⟩
 rw [l7,vF]
 intro i j h1 h2 dD
 have hsz:xs.size=(pairsOf vs).size:=hp.size_eq
 have g:∀k (hk:k<xs.toList.length),kI ky xs k=ky (xs.toList[k]).2:=λk hk=>by
  have M':k<xs.size:=by simpa using hk
  unfold kI
  rw [getElem?_pos _ k M']
  have:=kW xs.toList[k] (lH hk)
  show ky (xs[k]).1=_
  rw [<-this]
  simp
 rw [<-g i h1,<-g j h2]
 exact hi i j dD (by rw [<-hsz];simpa using h2)
theorem sQ(ur:s.heap.get? l0=some (seqObj "list" vs.toArray n))(hv:∀v∈vs,TupAt s ky v)(hd:(vs.map ky).Nodup)(e8:vs.length<iY)
  (h:∀out:Array Value,out.toList.Perm vs->(out.toList.Pairwise λx y=>ky x<ky y)->P (.done (.ret .none)) { s with heap:=sortedHeap s.heap l0 vs out }):wpAny (model prog w) A (Builtin.«list.sort» ⟨[.ref l0],[]⟩) P E s:=by
 have bx:l0<s.heap.objs.size:=cE ur
 obtain ⟨k1,Fg⟩:∃k1,(s.heap.update l0 (gP λ_=>#[])).get? l0=some (seqObj "list" #[] k1):=⟨_,get?_update_seq ur λ_=>#[]⟩
 rw [list_sort_plain]
 have hZ:vs.length<=sizeLine:=by rw [il];unfold iY at e8;ext e8
 have Ft:vs.toArray.size<=sizeLine:=by rw [di];exact hZ
 have Nt:vs.toArray.toList.length<=sizeLine:=Ft
 refine cn (xV ur rfl (cn (listUpdate_at (hsz:=Ft) ur rfl (cn (seqEpoch_at Fg rfl (cn (wpAny_newTuple (hsz:=Nt) (cn (wpAny_newList (vw ?_))))))))))
 have M5:(((s.heap.update l0 (gP λ_=>#[])).push (seqObj "tuple" vs.toArray 0)).push (seqObj "list" #[] 0)).get? l0=some (seqObj "list" #[] k1):=fT _ (fT _ Fg)
 have up:∀b o,b≠l0->s.heap.get? b=some o->(((s.heap.update l0 (gP λ_=>#[])).push (seqObj "tuple" vs.toArray 0)).push (seqObj "list" #[] 0)).get? b=some o:=λb o hb e =>
  fT _ (fT _ ((ya _ _ (km hb)).trans e))
 have uh:∀v∈vs,TupAt { s with heap:=((s.heap.update l0 (gP λ_=>#[])).push (seqObj "tuple" vs.toArray 0)).push (seqObj "list" #[] 0) } ky v:=λv pD=>by
  obtain ⟨x,o,t,us,m,e1,e2,e3,e4⟩:=hv v pD
  have hx:x≠l0:=λz=>by
   rw [z,ur] at e2
   cases e2
   have:("list":String) = "tuple":=Value.type.inj e3
   exact absurd this (by decide)
  exact ⟨x,o,t,us,m,e1,up x o hx e2,e3,e4⟩
 dsimp only
 show wpAny _ _ _ _ _ { s with heap:=((s.heap.update l0 (gP λ_=>#[])).push (seqObj "tuple" vs.toArray 0)).push (seqObj "list" #[] 0) }
 generalize hS:({ s with heap:=((s.heap.update l0 (gP λ_=>#[])).push (seqObj "tuple" vs.toArray 0)).push (seqObj "list" #[] 0) }:Shared)=S at uh ⊢
 have Nu:S.heap=((s.heap.update l0 (gP λ_=>#[])).push (seqObj "tuple" vs.toArray 0)).push (seqObj "list" #[] 0):=by rw [<-hS]
 have qY:S.heap.get? l0=some (seqObj "list" #[] k1):=by rw [Nu];exact M5
 have ends:∀st:SortSt,(arrOf st).Perm (pairsOf vs)->failedOf st=none->zB ky (arrOf st) (pairsOf vs).size ->
   wpAny (model prog w) A (do
    let touched:=(<-seqEpoch l0) != k1
    Builtin.List.listUpdate (.ref l0) λ_=>(arrOf st).map (·.2)
    if let some e:=failedOf st then rule "list.sort.comparison-raised";throw e
    if touched then rule "list.sort.modified";raiseError "ValueError" "list modified during sort"
    ret .none) P E S:=λst hp hf hi=>by
  obtain ⟨o1,o2⟩:=PD hp hi
  refine cn (seqEpoch_at qY rfl (cn (listUpdate_at qY rfl ?_ (hsz2:=?_))))
  .rw [hf]
   simp only [bne_self_eq_false,vv,if_false]
   refine eN ?_
   have:=h _ o1 o2
   rw [<-hS]
   exact this
  .rw [Array.size_map,hp.size_eq,xU,il];unfold iY at e8;ext e8
 have uv:wW S ky (pairsOf vs):=λp hp=>by
  rw [xQ] at hp
  obtain ⟨x,o,t,us,m,e1,e2,e3,e4⟩:=uh p.1 (yc hp).1
  exact ⟨x,o,t,us,m,e1,e2,e4⟩
 have uA:qJ ky (pairsOf vs):=by
  unfold qJ
  rw [xQ,show (vs.zip vs).map (λp=>ky p.1)=((vs.zip vs).map (·.1)).map ky by rw [iT];rfl,List.map_fst_zip (bj _)]
  exact hd
 have hsz:vs.toArray.size=vs.length:=by simp
 by_cases h2:vs.toArray.size<2
 .rw [if_pos h2]
  refine cn (eN ?_)
  rw [if_pos h2,StateT.run_pure]
  refine cn (eN ?_)
  exact ends (xJ general' (pairsOf vs) #[] 7 none) (BZ _) rfl λi j dD hj=>by rw [xU] at hj;ext hsz h2 dD hj
 .rw [if_neg h2]
  refine cn (t7 vs (λz=>by rw [z] at hsz;simp at h2;simp [z] at h2) uh ?_)
  rw [if_neg h2]
  refine cn (jX (s9 (a₀:=pairsOf vs) (st:=xJ (kTup true) (pairsOf vs) #[] 7 none) (Q:=λ_ aj=>(arrOf aj).Perm (pairsOf vs)/\failedOf aj=none/\zB ky (arrOf aj) (pairsOf vs).size) uv uA ⟨BZ _,rfl,rfl,rfl⟩ (by rw [xU];ext hsz h2) (by rw [xU];exact e8) λaj a b c=>⟨a,b,c⟩) (λr s' hr=>?_) λ_ _ z=>z)
  obtain ⟨rfl,p1,p2,p3⟩:=hr
  exact ends r.2 p1 p2 p3
theorem mH(hl:s.heap.IsList l vs.toArray)(hv:∀v∈vs,TupAt s ky v)(hd:(vs.map ky).Nodup)(e8:vs.length<iY)
  (h:∀out:Array Value,out.toList.Perm vs->(out.toList.Pairwise λx y=>ky x<ky y)->Q (.ref (s.heap.objs.size+1)) { s with heap:=sortedAll s.heap vs out }):wpAny (model prog w) A (call (.builtin "sorted") [.ref l]) Q E s:=by
 refine Calls.call_function_entry kind_sorted plain_sorted entry_sorted (args_sorted1 _) ?_
 unfold Builtin.«sorted»
 have hZ:vs.length<=sizeLine:=by rw [il];unfold iY at e8;ext e8
 refine cn (m:=checkCount "sorted" 1 1 _) (eN (cn (collect_list (hsz:=hZ) hl (cn (wpAny_newList (hsz:=hZ) ?_)))))
 have z1:((s.heap.push (seqObj "list" #[] 0)).update s.heap.objs.size (gP (·++vs.toArray))).objs.size=s.heap.objs.size+1:=(Heap.size_update ..).trans (size_push' _ _)
 have z2:(((s.heap.push (seqObj "list" #[] 0)).update s.heap.objs.size (gP (·++vs.toArray))).push (seqObj "list" vs.toArray 0)).get? (s.heap.objs.size+1)=some (seqObj "list" vs.toArray 0):=by
  rw [<-z1]
  exact l9 _ rfl
 have up:∀b o,s.heap.get? b=some o->(((s.heap.push (seqObj "list" #[] 0)).update s.heap.objs.size (gP (·++vs.toArray))).push (seqObj "list" vs.toArray 0)).get? b=some o:=λb o e =>
  fT _ ((ya _ _ (BJ (cE e))).trans (fT _ e))
 show wpAny _ _ _ _ _ { s with heap:=((s.heap.push (seqObj "list" #[] 0)).update s.heap.objs.size (gP (·++vs.toArray))).push (seqObj "list" vs.toArray 0) }
 rw [z1]
 have AJ:∀v∈vs,TupAt { s with heap:=((s.heap.push (seqObj "list" #[] 0)).update s.heap.objs.size (gP (·++vs.toArray))).push (seqObj "list" vs.toArray 0) } ky v:=λv pD=>by
  obtain ⟨x,o,t,us,m,e1,e2,e3,e4⟩:=hv v pD
  exact ⟨x,o,t,us,m,e1,up x o e2,e3,e4⟩
 refine cn (vw (wpAny_call_entry slot_list_sort ⟨_,z2,rfl⟩ entry_list_sort (sQ z2 AJ hd e8 λout o1 o2=>⟨_,rfl,?_⟩) (args_list_sort _)))
 exact eN ⟨_,rfl,h out o1 o2⟩
end
end TS
namespace DL
open PySem PySem.Spec PyProof.Rows L2
theorem Ic{α β:Type}{f:α->β}{l:List β}{ts:List α}(h:l.Perm (ts.map f)):∃us:List α,us.Perm ts/\us.map f=l:=by
 generalize e:ts.map f=m at h
 induction h generalizing ts with
 | nil=>exact ⟨[],by rw [List.map_eq_nil_iff.mp e],rfl⟩
 | cons x _ ih =>
  cases ts with
  | nil=>cases e
  | cons t ts =>
   cases e
   obtain ⟨us,h1,h2⟩:=ih rfl
   exact ⟨t::us,h1.cons t,by rw [jV,h2]⟩
 | swap x y l =>
  match ts,e with
  | a::b::ts,e =>
   cases e
   exact ⟨b::a::ts,List.Perm.swap _ _ _,rfl⟩
 | trans _ _ MJ MI =>
  obtain ⟨us,h1,h2⟩:=MI e
  obtain ⟨ws,h3,h4⟩:=MJ h2
  exact ⟨ws,h3.trans h1,h4⟩
noncomputable def rK(s:Shared):Value->Int
 | .ref x=>match s.heap.get? x with
  | some o=>match o.data with
   | .seq xs _=>match xs[0]? with
    | some (jw a _)=>a
    | _=>0
   | _=>0
  | _=>0
 | _=>0
section
variable {X:Cx}
theorem TX:cj X (.builtin "sorted") (λxs H Q=>∃(p:Addr) (ts:List (Addr×Int×D)),xs=[.ref p]/\Sq X.K H true p (ts.map λt=>V.ref t.1)/\(∀t∈ts,∃zs,dv X.K H t.1 (.int t.2.1::zs))/\(ts.map (·.2.1)).Nodup/\ts.length<iY /\
  ∀(us:List (Addr×Int×D)) (a:Addr),us.Perm ts->(us.Pairwise λx y=>x.2.1<y.2.1)->H a=none->Q (.ref a) (upd H a (.lst (us.map λt=>V.ref t.1)))):=by
 intro pins s σ H xs vs Q I r h
 obtain ⟨p,ts,rfl,hq,E8,kX,e8,q⟩:=h
 obtain ⟨u,rfl,ru⟩:=r.one
 cases ru
 obtain ⟨ao,rv,pl⟩:=sO (b:=true) I hq
 have hits:ao=ts.map λt=>dG t.1:=by
  clear pl hq E8 kX e8 q
  induction ts generalizing ao with
  | nil=>cases rv;rfl
  | cons t ts ih =>
   cases rv with
   | cons a b =>
    cases a
    rw [jV,ih _ b]
 subst hits
 have xy:∀t∈ts,TS.TupAt s (rK s) (.ref t.1)/\rK s (.ref t.1)=t.2.1:=λt ht=>by
  obtain ⟨zs,hz⟩:=E8 t ht
  obtain ⟨ws,sZ,pt,_⟩:=I.tuple hz
  obtain ⟨o,ho,hc,n,hd⟩:=(show s.heap.IsTuple t.1 ws.toArray from pt)
  cases sZ with
  | cons a b =>
   obtain ⟨tk,rfl⟩:=a
   have e:rK s (.ref t.1)=t.2.1:=by
    unfold rK
    dsimp only
    rw [ho]
    dsimp only
    rw [hd]
    rfl
   exact ⟨⟨t.1,o,tk,_,n,rfl,ho,hc,by rw [e];exact hd⟩,e⟩
 have AW:(ts.map λt=>dG t.1).map (rK s)=ts.map (·.2.1):=by
  rw [iT]
  exact List.map_congr_left λt ht=>(xy t ht).2
 refine TS.mH (ky:=rK s) pl (λv hv=>?_) (by rw [AW];exact kX) (by rw [bM];exact e8) λout o1 o2=>?_
 .obtain ⟨t,ht,rfl⟩:=cO.mp hv
  exact (xy t ht).1
 .obtain ⟨us,u1,u2⟩:=Ic o1
  have u3:us.Pairwise λx y=>x.2.1<y.2.1:=by
   rw [<-u2,l7] at o2
   refine o2.imp_of_mem λ{x y} hx hy z=>?_
   rwa [(xy x (u1.subset hx)).2,(xy y (u1.subset hy)).2] at z
  obtain ⟨e,he⟩:=sortedAll_at s.heap (ts.map λt=>dG t.1) out
  have fr:H (s.heap.objs.size+1)=none:=I.bw.fresh (vj _)
  refine ⟨.ref (s.heap.objs.size+1),_,I.laid (o:=.lst (us.map λt=>V.ref t.1)) (t':=s.toks) (λb o e=>sortedAll_old e) (vj _) ⟨?_,out.toList,e,?_,?_⟩,rfl,q us _ u1 u3 fr⟩
  .rw [bM,u1.length_eq,il];unfold iY at e8;ext e8
  .rw [<-u2]
   clear u1 u3 u2
   induction us with
   | nil=>exact .nil
   | cons t us ih=>exact .cons rfl ih
  .simpa using he
noncomputable def t8:D->Option (Int×D)
 | .tup (.int k::ds)=>some (k,.tup (.int k::ds))
 | _=>none
noncomputable def vJ:List D->Option (List (Int×D))
 | []=>some []
 | d::ds=>(t8 d).bind λk=>(vJ ds).map λks=>k::ks
noncomputable def rE(ds:List D):Option (List D):=(vJ ds).bind λks=>if (ks.map (·.1)).Nodup/\ks.length<iY then some ((ks.mergeSort λa b=>decide (a.1<=b.1)).map (·.2)) else none
noncomputable def yV(f:En->Option Sl):En->Option Sl:=λenv=>(f env).bind λr=>match r.d with
 | .lst _ ds=>(rE ds).map Sl.ow
 | _=>none
theorem IP:∀{l m:List (Int×D)},l.Perm m->(l.map (·.1)).Nodup->(l.Pairwise λa b=>a.1<=b.1)->(m.Pairwise λa b=>a.1<=b.1)->l=m
 | [],m,h,_,_,_=>(List.nil_perm.mp h).symm
 | a::l,[],h,_,_,_=>by have:=h.length_eq;simp at this
 | a::l,b::m,h,hn,hl,hm=>by
  have uI:a=b:=by
   have h1:a∈b::m:=h.subset cP
   have h2:b∈a::l:=h.symm.subset cP
   have e:a.1=b.1:=by
    have k1:b.1<=a.1:=by
     rcases cU.mp h1 with z | z
     .rw [z];exact eQ _
     .exact (eO.mp hm).1 a z
    have k2:a.1<=b.1:=by
     rcases cU.mp h2 with z | z
     .rw [z];exact eQ _
     .exact (eO.mp hl).1 b z
    ext k1 k2
   rcases cU.mp h2 with z | z
   .exact z.symm
   .have:=(ot.mp hn).1
    exact absurd (cO.mpr ⟨b,z,e.symm⟩) this
  subst uI
  rw [IP (h.cons_inv) (ot.mp hn).2 (eO.mp hl).2 (eO.mp hm).2]
theorem S6(hg:Gl X "sorted")(hm:X.mg "sorted" = none)(he:EV X e fa)(hs:starEach [e] X.env=[(false,eval e X.env)]:=by rfl):EV X (.Call (.Name "sorted" p) [e] [] pos) (yV fa):=by
 obtain ⟨t,pt,k⟩:=he
 refine ⟨_,zj TX hg hm (by decide +kernel) (my pt ni hs) (by decide) (by decide) hs rfl,λO B σ H env s Q R e q=>?_⟩
 obtain ⟨r,e1,e2⟩:=bind_some e
 refine k O B σ H env r _ R e1 λv H1 s1 r1=>?_
 have hi:=r1.is λq=>R.oo
 cases hd:r.d with
 | lst b ds =>
  rw [hd] at e2 hi
  obtain ⟨rs,e3,rfl⟩:=map_some (show (rE ds).map Sl.ow=some s from e2)
  obtain ⟨ks,e4,e5⟩:=bind_some e3
  obtain ⟨⟨kX,e8⟩,rfl⟩:=gW e5
  obtain ⟨a,xs,rfl,h2,h3⟩:=hi.seq (k:=true) rfl
  have lay:∀{xs:List V} {ds:List D} {ks:List (Int×D)},aH X.K (OO O σ env) H1 xs ds->vJ ds=some ks->∃ts:List (Addr×Int×D),xs=ts.map (λt=>V.ref t.1)/\ks=ts.map (λt=>t.2)/\∀t∈ts,Is X.K (OO O σ env) H1 (.ref t.1) t.2.2/\∃zs,dv X.K H1 t.1 (.int t.2.1::zs):=λ{xs ds ks} hI=>by
   intro hk
   induction ds generalizing xs ks with
   | nil=>cases hI;cases hk;exact ⟨[],rfl,rfl,λ_ z=>nomatch z⟩
   | cons d ds ih =>
    cases hI with
    | cons i1 i2 =>
     rename_i x f'
     obtain ⟨kd,f1,f2⟩:=bind_some hk
     obtain ⟨Vb,f3,f4⟩:=map_some f2
     obtain ⟨ts,g1,g2,g3⟩:=ih i2 f3
     obtain ⟨kk,rest,rfl,rfl⟩:∃kk rest,d=.tup (.int kk::rest)/\kd=(kk,d):=by
      unfold t8 at f1
      split at f1
      .cases f1;exact ⟨_,_,rfl,rfl⟩
      .cases f1
     obtain ⟨ad,zs,rfl,hz,MK⟩:=i1.seq (k:=false) rfl
     cases MK with
     | cons z1 z2 =>
      obtain rfl:=iA z1
      refine ⟨(ad,kk,.tup (.int kk::rest))::ts,by rw [g1];rfl,by rw [<-f4,g2];rfl,λt ht=>?_⟩
      rcases cU.mp ht with rfl | ht
      .exact ⟨i1,_,hz⟩
      .exact g3 t ht
  obtain ⟨ts,rfl,rfl,g3⟩:=lay h3 e4
  rw [iT] at kX
  rw [bM] at e8
  refine ⟨a,ts,rfl,h2,λt ht=>(g3 t ht).2,kX,e8,λus c u1 u2 hc=>?_⟩
  have kW:us.map (λt=>t.2)=(ts.map λt=>t.2).mergeSort λa b=>decide (a.1<=b.1):=by
   refine IP ((u1.map _).trans (F1 _ _).symm) ?_ ?_ ?_
   .rw [iT];exact (u1.map _).nodup_iff.mpr kX
   .rw [l7];exact u2.imp λ{x y} z=>BG z
   .have:=FW (le:=λa b:Int×D=>decide (a.1<=b.1)) (λa b c h1 h2=>by simp at *;ext h1 h2) (λa b=>by simp;ext) (ts.map λt=>t.2)
    exact this.imp λ{x y} z=>by simpa using z
  rw [<-kW,iT] at q
  refine q _ _ (s1.trans (nu hc _)) ((yZ hc ?_).from s1)
  have conv:∀ws:List (Addr×Int×D),(∀t∈ws,Is X.K (OO O σ env) H1 (.ref t.1) t.2.2)->aH X.K (OO O σ env) H1 (ws.map λt=>V.ref t.1) (ws.map λt=>t.2.2):=λws=>by
   induction ws with
   | nil=>exact λ_=>.nil
   | cons w ws ih=>exact λhw=>.cons (hw w cP) (ih λz hz=>hw z (dj _ hz))
  exact conv us λt ht=>(g3 t (u1.subset ht)).1
 | _=>rw [hd] at e2;cases e2
theorem SU:cj X (.type "int") (λxs H Q=>∃b:Bool,xs=[.bl b]/\Q (.int (if b then 1 else 0)) H):=by
 intro pins s σ H xs vs Q I r h
 obtain ⟨b,rfl,q⟩:=h
 obtain ⟨u,rfl,ru⟩:=r.one
 cases ru
 exact call_int_bool ⟨.int _,H,I.tok _,⟨_,rfl⟩,q⟩
noncomputable def yF(f:En->Option Sl):En->Option Sl:=λenv=>(fw (f env)).map λb=>.sh (.int (if b then 1 else 0))
theorem QY(hg:Gl X "int")(hm:X.mg "int" = none)(he:EV X e fa)(hs:starEach [e] X.env=[(false,eval e X.env)]:=by rfl):EV X (.Call (.Name "int" p) [e] [] pos) (yF fa):=by
 obtain ⟨t,pt,k⟩:=he
 refine ⟨_,DK SU hg hm (by decide +kernel) (my pt ni hs) (by decide) (by decide) hs rfl,λO B σ H env s Q R e q=>?_⟩
 obtain ⟨b,e1,rfl⟩:=map_some e
 refine k O B σ H env _ _ R (wa e1) λv H1 s1 r1=>?_
 obtain rfl:=qj r1
 exact ⟨b,rfl,q _ H1 s1 (Is.int _)⟩
end
end DL
namespace DL
open PySem PySem.Spec PyProof.Rows L2
section
variable {X:Cx}{N:List Str}{sc:Scope}{k:Nat}{full:Bool}{pos pos' p1 p2 p3 p4:Pos}{e c:Expr}{fa:En->Option Sl}{ga:En->Option Bool}
noncomputable def gD(i:Nat)(f:En->Option Sl):SF:=λenv=>match env[i]? with
 | some (.sh (.int m))=>match f env with
  | some (.sh (.int n))=>some (.nx,env.set i (.sh (.int (m+n))))
  | _=>none
 | _=>none
theorem IB(h:gD i f env=some y):∃m n,env[i]?=some (.sh (.int m))/\f env=some (.sh (.int n))/\y=(.nx,env.set i (.sh (.int (m+n)))):=by
 unfold gD at h
 split at h
 .rename_i m e1
  split at h
  .rename_i n e2
   cases h
   exact ⟨m,n,e1,e2,rfl⟩
  .cases h
 .cases h
theorem Fx.aug(h:Fx X N sc k full)(i:Nat)(he:EV X e fa)(hN:N[i]?=some x:=by rfl)(hv:Loc sc x:=by first | exact cw rfl | exact bo rfl)
  (hf:full=true\/sc.names.lookup x=some .local:=by first | exact cw rfl | exact bo rfl):SV X (.AugAssign (.Name x pos') .Add e pos) (gD i fa):=by
 obtain ⟨t,p,kk⟩:=he
 refine ⟨_,Qm h.qR (h.ix hN) (h.loc hv) p P7 (h.qM hf),λO B σ H env fl ai D R e q=>?_⟩
 obtain ⟨m,n,hi,e1,e2⟩:=IB e
 cases e2
 obtain ⟨v,e3,hv⟩:=R.sh i _ hi
 obtain rfl:=iA hv
 refine ⟨_,e3,kk O B σ H env _ _ R e1 λv H1 s1 r1=>?_⟩
 obtain rfl:=iA r1
 refine ⟨m,n,rfl,rfl,?_⟩
 obtain ⟨R',g'⟩:=R.set (v:=.int (m+n)) (r:=.sh (.int (m+n))) s1 (Is.int (m+n)) (lK.mp hi).1
 exact q _ H1 R' g'
noncomputable def GI(i j:Nat)(c:En->Option Bool)(f:En->Option Sl):SF:=λenv=>match env[i]? with
 | some (.ow ds)=>forL (gN j) (br c (av f) bI) ds env
 | _=>none
end
end DL
namespace DL
open PySem L2
def Wo{α:Type}(o:Option α)(Q:α->Prop):Prop:=∃a,o=some a/\Q a
section
variable {α β:Type}
theorem a0f{a:α}{Q:α->Prop}:Wo (some a) Q↔Q a:=⟨λ⟨_,e,h⟩=>by cases e;exact h,λh=>⟨a,rfl,h⟩⟩
theorem a0p:Wo (none:Option α) Q↔False:=⟨λ⟨_,e,_⟩=>(nomatch e),ip⟩
theorem a0j{o:Option α}{f:α->Option β}{Q:β->Prop}:Wo (o.bind f) Q↔Wo o λa=>Wo (f a) Q:=by
 cases o with
 | none=>simp [Wo]
 | some a=>simp [Wo]
theorem a1p{o:Option α}{f:α->β}{Q:β->Prop}:Wo (o.map f) Q↔Wo o λa=>Q (f a):=by
 cases o with
 | none=>simp [Wo]
 | some a=>simp [Wo]
theorem fK{c:Prop}[Decidable c]{a:α}{Q:α->Prop}:Wo (if c then some a else none) Q↔c/\Q a:=by
 by_cases h:c
 .rw [if_pos h,a0f];exact ⟨λz=>⟨h,z⟩,λz=>z.2⟩
 .rw [if_neg h,a0p];exact ⟨ip,λz=>h z.1⟩
theorem Wo.mono{o:Option α}{P Q:α->Prop}(h:Wo o P)(k:∀a,P a->Q a):Wo o Q:=let ⟨a,e,p⟩:=h;⟨a,e,k a p⟩
theorem Wo.eq{o:Option α}{a:α}(h:Wo o λx=>x=a):o=some a:=let ⟨_,e,p⟩:=h;by rw [e,p]
theorem jB{o:Option α}{P Q:α->Prop}(k:∀a,P a↔Q a):Wo o P↔Wo o Q:=⟨λh=>h.mono λa=>(k a).mp,λh=>h.mono λa=>(k a).mpr⟩
end
noncomputable def jI(G:SF)(Q:Fl×En->Prop):Fl×En->Prop
 | (.nx,e)=>Wo (G e) Q
 | p=>Q p
theorem a8W:jI G Q (.nx,e)↔Wo (G e) Q:=df
theorem a8Y:jI G Q (.bk,e)↔Q (.bk,e):=df
theorem a8X:jI G Q (.ct,e)↔Q (.ct,e):=df
theorem a8V:jI G Q (.rt r,e)↔Q (.rt r,e):=df
theorem Wo_seq:Wo (ak F G env) Q↔Wo (F env) (jI G Q):=by
 unfold ak
 cases h:F env with
 | none=>simp [Wo]
 | some p =>
  obtain ⟨fl,e⟩:=p
  rw [a0f]
  cases fl with
  | nx=>exact df
  | bk=>rw [a8Y];exact a0f
  | ct=>rw [a8X];exact a0f
  | rt r=>rw [a8V];exact a0f
theorem a0N:Wo (br c F G env) Q↔Wo (c env) λb=>(b=true->Wo (F env) Q)/\(b=false->Wo (G env) Q):=by
 unfold br
 cases h:c env with
 | none=>simp [Wo]
 | some b=>cases b<;>simp [a0f]
theorem b3a:Wo (bI env) Q↔Q (.nx,env):=a0f
theorem Wo_bk:Wo (z4 env) Q↔Q (.bk,env):=a0f
theorem Wo_ct:Wo (Ka env) Q↔Q (.ct,env):=a0f
theorem b48:Wo (av f env) Q↔Wo (f env) λr=>Q (.rt r,env):=a1p
theorem b29:Wo (sV env) Q↔Q (.rt (.sh .aI),env):=a0f
theorem b47:Wo (de i f env) Q↔Wo (f env) λr=>i<env.length/\Q (.nx,env.set i r):=by
 unfold de;rw [a0j];simp only [fK]
theorem a9X:Wo (bJ i f env) Q↔Wo (f env) λr=>i<env.length/\Q (.nx,env.set i (.sh r.d)):=by
 unfold bJ;rw [a0j];simp only [fK]
theorem b3F{f:En->Option Sl}{env:En}{Q:Fl×En->Prop}:Wo (sX f env) Q↔Wo (f env) λ_=>Q (.nx,env):=a1p
noncomputable def gS:Option Sl->(Sl->Prop)->Prop
 | some (.sh d),Q=>Q (.sh d)
 | _,_=>False
theorem b2U:gS (some (.sh d)) Q↔Q (.sh d):=df
theorem b3s:Wo (eV i env) Q↔gS env[i]? Q:=by
 unfold eV
 cases env[i]? with
 | none=>simp [xf,gS,Wo]
 | some s=>cases s<;>simp [xf,gS,Wo]
theorem Wo_eC:Wo (eC d env) Q↔Q (.sh d):=a0f
theorem b5q:Wo (aa g fa fb env) Q↔Wo (fa env) λx=>Wo (fb env) λy=>Wo (g x.d y.d) Q:=by
 unfold aa;rw [a0j];simp only [a0j]
theorem b5c:Wo (cL f env) Q↔Wo (f env) λx=>Wo (pT x.d) Q:=a0j
theorem b3g:Wo (pT (.int i)) Q↔Q (.sh (.int (-i))):=a0f
theorem b3m:Wo (aO (.int i) (.int j)) Q↔Q (.sh (.int (i+j))):=a0f
theorem b3e:Wo (bp (.int i) (.int j)) Q↔Q (.sh (.int (i-j))):=by rw [P4,a0f]
theorem b3i:Wo (e9 (.int i) (.int j)) Q↔MulC i j/\Q (.sh (.int (i*j))):=fK
theorem b3l:Wo (bC (.int i) (.int j)) Q↔DivC i j/\Q (.sh (.int (i/j))):=fK
theorem b3j:Wo (aX (.int i) (.int j)) Q↔0<j/\Q (.sh (.int (i%j))):=fK
theorem b3f:Wo (iP (.int i) (.int j)) Q↔PowC i j/\Q (.sh (.int (i^j.toNat))):=fK
theorem b5f:Wo (gw (.int i) (.int j)) Q↔Q (.sh (.bl (decide (i<j)))):=a0f
theorem b5g:Wo (jM (.int i) (.int j)) Q↔Q (.sh (.bl (decide (i<=j)))):=a0f
theorem b5h:Wo (pU (.int i) (.int j)) Q↔Q (.sh (.bl (decide (j<i)))):=a0f
theorem b5i:Wo (NB (.int i) (.int j)) Q↔Q (.sh (.bl (decide (j<=i)))):=a0f
theorem b5j:Wo (aY (.int i) (.int j)) Q↔Q (.sh (.bl (decide (i=j)))):=a0f
theorem b5e:Wo (dr (.int i) (.int j)) Q↔Q (.sh (.bl (!decide (i=j)))):=a0f
theorem b3k:Wo (aY (.bl i) (.bl j)) Q↔Q (.sh (.bl (decide (i=j)))):=a0f
theorem b3h:Wo (dr (.bl i) (.bl j)) Q↔Q (.sh (.bl (!decide (i=j)))):=a0f
theorem b1n:Wo (aY (.int i) .aI) Q↔Q (.sh (.bl false)):=a0f
theorem b1k:Wo (dr (.int i) .aI) Q↔Q (.sh (.bl true)):=a0f
theorem b1m:Wo (aY .aI (.int i)) Q↔Q (.sh (.bl false)):=a0f
theorem b1j:Wo (dr .aI (.int i)) Q↔Q (.sh (.bl true)):=a0f
theorem b1l:Wo (aY .aI .aI) Q↔Q (.sh (.bl true)):=a0f
theorem b1i:Wo (dr .aI .aI) Q↔Q (.sh (.bl false)):=a0f
theorem b5d:Wo (gK a .aI) Q↔Q (.sh (.bl a.bY)):=a0f
theorem b3b:Wo (uO a .aI) Q↔Q (.sh (.bl (!a.bY))):=a0f
theorem b44:Wo (bf f env) Q↔Wo (f env) λr=>Wo (fw (some r)) Q:=by
 unfold bf
 cases f env with
 | none=>simp [fw,Wo]
 | some r=>rw [a0f]
theorem b5u:Wo (fw (some (.sh (.bl b)))) Q↔Q b:=a0f
theorem b23:Wo (eS f env) Q↔Wo (f env) λr=>Wo (fA r.d) Q:=a0j
theorem b22:Wo (fA (.bl b)) Q↔Q b:=a0f
theorem b21:Wo (fA (.int b)) Q↔Q (b != 0):=a0f
theorem b2Y:Wo (fA (.tup ds)) Q↔Q (!ds.isEmpty):=a0f
theorem b20:Wo (fA (.lst r ds)) Q↔Q (!ds.isEmpty):=a0f
theorem b2Z:Wo (fA .aI) Q↔Q false:=a0f
theorem b1c:Wo (vS f env) Q↔Wo (f env) λr=>Q (!r.2.isEmpty):=by
 unfold vS;rw [a0j];simp only [a0f]
theorem b25:Wo (ku f g env) Q↔Wo (f env) λb=>(b=true->Wo (g env) Q)/\(b=false->Q false):=by
 unfold ku
 cases f env with
 | none=>simp [Wo]
 | some b=>cases b<;>simp [a0f]
theorem b43:Wo (eT f g env) Q↔Wo (f env) λb=>(b=true->Q true)/\(b=false->Wo (g env) Q):=by
 unfold eT
 cases f env with
 | none=>simp [Wo]
 | some b=>cases b<;>simp [a0f]
theorem b24:Wo (oA f env) Q↔Wo (f env) λb=>Q (!b):=a1p
theorem b3D:Wo (jO f g env) Q↔Wo (f env) λr=>Wo (fw (some r)) λb=>(b=true->Wo (g env) Q)/\(b=false->Q (.sh (.bl false))):=by
 unfold jO
 cases f env with
 | none=>simp [Wo,fw]
 | some r =>
  rw [a0f]
  cases fw (some r) with
  | none=>simp [Wo]
  | some b=>cases b<;>simp [a0f]
theorem b5m:Wo (u4 f g env) Q↔Wo (f env) λr=>Wo (fw (some r)) λb=>(b=true->Q (.sh (.bl true)))/\(b=false->Wo (g env) Q):=by
 unfold u4
 cases f env with
 | none=>simp [Wo,fw]
 | some r =>
  rw [a0f]
  cases fw (some r) with
  | none=>simp [Wo]
  | some b=>cases b<;>simp [a0f]
theorem b3w:Wo (lz f env) Q↔Wo (f env) λr=>Wo (fw (some r)) λb=>Q (.sh (.bl !b)):=by
 unfold lz
 cases f env with
 | none=>simp [Wo,fw]
 | some r=>rw [a0f,a1p]
theorem b5o:Wo (n6 c f g env) Q↔Wo (c env) λb=>(b=true->Wo (f env) Q)/\(b=false->Wo (g env) Q):=by
 unfold n6
 cases c env with
 | none=>simp [Wo]
 | some b=>cases b<;>simp [a0f]
theorem b3L:Wo (ae env) Q↔Q []:=a0f
theorem b1y:Wo (ab f g env) Q↔Wo (f env) λr=>Wo (g env) λds=>Q (r.d::ds):=by
 unfold ab;rw [a0j];simp only [a0j,a0f]
theorem b3t:Wo (bg f env) Q↔Wo (f env) λds=>ds.length<=16777216/\Q (.sh (.tup ds)):=by
 unfold bg;rw [a0j];simp only [fK]
theorem b3z:Wo (bO f env) Q↔Wo (f env) λds=>ds.length<=16777216/\Q (.ow ds):=by
 unfold bO;rw [a0j];simp only [fK]
noncomputable def gp:Option Sl->(Bool×List D->Prop)->Prop
 | some (.sh (.tup ds)),Q=>Q (false,ds)
 | some (.sh (.lst _ ds)),Q=>Q (true,ds)
 | some (.ow ds),Q=>Q (true,ds)
 | _,_=>False
theorem b4Z:gp (some (.sh (.tup ds))) Q↔Q (false,ds):=df
theorem b41:gp (some (.sh (.lst r ds))) Q↔Q (true,ds):=df
theorem b40:gp (some (.ow ds)) Q↔Q (true,ds):=df
theorem Wo_bV:Wo (bV i env) Q↔gp env[i]? Q:=by
 unfold bV
 cases env[i]? with
 | none=>simp [qP,gp,Wo]
 | some s=>cases s with
  | no=>simp [qP,gp,Wo]
  | dw ds=>simp [qP,gp,Wo]
  | ow ds=>simp [qP,gp,Wo]
  | sh d=>cases d<;>simp [qP,gp,Wo,dk]
theorem b5r:Wo (fv f env) Q↔Wo (f env) λr=>Wo (dk r.d) Q:=a0j
theorem b45:Wo (dk (.tup ds)) Q↔Q (false,ds):=a0f
theorem b46:Wo (dk (.lst r ds)) Q↔Q (true,ds):=a0f
theorem b3A:Wo (eI f env) Q↔Wo (f env) λx=>Q (.sh (.int x.2.length)):=a1p
theorem b1r:Wo (vQ f env) Q↔Wo (f env) λx=>Q (.ow x.2):=a1p
theorem a90:Wo (oE f env) Q↔Wo (f env) λx=>x.1=true/\Q (.sh (.tup x.2)):=by
 unfold oE;rw [a0j];simp only [fK]
def Av(xs:List D)(d:D)(Q:Sl->Prop):Prop:=match d with
 | .int i=>Wo (cW xs i) λd=>Q (.sh d)
 | _=>False
theorem ixQ_i:Av xs (.int i) Q↔Wo (cW xs i) λd=>Q (.sh d):=df
theorem b5n:Wo (au f g env) Q↔Wo (f env) λx=>Wo (g env) λy=>Av x.2 y.d Q:=by
 unfold au
 rw [a0j]
 refine jB λx=>?_
 rw [a0j]
 refine jB λy=>?_
 unfold Av
 cases y.d<;>simp [a1p,a0p]
theorem cz{α:Type}{xs:List α}{n:Nat}:cW xs (n:Int)=xs[n]?:=by
 unfold cW gg
 rw [if_pos (by ext)]
 by_cases h:n<xs.length
 .rw [if_pos (by ext h)];simp
 .rw [if_neg (by ext h),List.getElem?_eq_none (by ext h)];rfl
theorem atI_0{α:Type}{x:α}{xs:List α}:cW (x::xs) 0=some x:=cz (n:=0)
theorem atI_1{α:Type}{x y:α}{xs:List α}:cW (x::y::xs) 1=some y:=cz (n:=1)
theorem atI_2{α:Type}{x y z:α}{xs:List α}:cW (x::y::z::xs) 2=some z:=cz (n:=2)
theorem atI_3{α:Type}{x y z u:α}{xs:List α}:cW (x::y::z::u::xs) 3=some u:=cz (n:=3)
theorem b1t:Wo (aR n φ fs env) Q↔Wo (fs env) λds=>ds.length=n/\Wo (φ ds) Q:=by
 unfold aR
 rw [a0j]
 have h:∀ds:List D,Wo (if ds.length=n then φ ds else none) Q↔ds.length=n/\Wo (φ ds) Q:=λds=>by
  by_cases h:ds.length=n<;>simp [h,a0p]
 simp only [h]
theorem a91:Wo (nh g fs env) Q↔Wo (fs env) λds=>Wo (g ds) Q:=a0j
theorem b1w:Wo (rG [.int i,.int j]) Q↔Q (.sh (.int (min i j))):=by
 have:(if j<i then j else i)=min i j:=by simp only [Int.min_def];split<;>split<;>lia
 unfold rG;rw [a0f,this]
theorem b1x:Wo (qi [.int i,.int j]) Q↔Q (.sh (.int (max i j))):=by
 have:(if j>i then j else i)=max i j:=by simp only [Int.max_def];split<;>split<;>lia
 unfold qi;rw [a0f,this]
theorem b3B:Wo (jN T f env) Q↔Wo (f env) λr=>Wo (gh T r.d) Q:=a0j
theorem b0M:Wo (gh T (.aI)) Q↔Q (.sh (.bl (aW T (.aI)))):=a0f
theorem b2B:Wo (gh T (.bl b)) Q↔Q (.sh (.bl (aW T (.bl b)))):=a0f
theorem b0O:Wo (gh T (.int i)) Q↔Q (.sh (.bl (aW T (.int i)))):=a0f
theorem b0L:Wo (gh T (.str x)) Q↔Q (.sh (.bl (aW T (.str x)))):=a0f
theorem b0K:Wo (gh T (.tup ds)) Q↔Q (.sh (.bl (aW T (.tup ds)))):=a0f
theorem b0N:Wo (gh T (.lst r ds)) Q↔Q (.sh (.bl (aW T (.lst r ds)))):=a0f
noncomputable def aK(Q:Sl->Prop):Fl×En->Prop
 | (.rt r,_)=>Q r
 | (.nx,_)=>Q (.sh .aI)
 | _=>False
theorem b2J:aK Q (.rt r,e)↔Q r:=df
theorem b2K:aK Q (.nx,e)↔Q (.sh .aI):=df
theorem cI:Wo (aJ F N ds) Q↔Wo (F (lN N ds)) (aK Q):=by
 unfold aJ
 cases F (lN N ds) with
 | none=>simp [Wo]
 | some p =>
  obtain ⟨fl,e⟩:=p
  rw [a0f]
  cases fl<;>simp [a0f,a0p,aK]
theorem a9Z:Wo (dQ f g F env) Q↔Wo (f env) λr=>Wo (dk r.d) λx=>Wo (forL g F x.2 env) Q:=by
 unfold dQ;rw [a0j];simp only [a0j]
theorem b3n:Wo (yw h f g F env) Q↔Wo (f env) λds=>Wo (h ds) λis=>Wo (forL g F is env) Q:=by
 unfold yw;rw [a0j];simp only [a0j]
theorem b27:Wo (mI [.int j]) Q↔R62 j/\Q (cS 0 j.toNat):=fK
theorem b26:Wo (z9 [.int i,.int j]) Q↔(R62 i/\R62 j)/\Q (cS i (j-i).toNat):=fK
noncomputable def m7(I:En->Prop)(Q:Fl×En->Prop):Fl×En->Prop
 | (.nx,e)=>I e
 | (.ct,e)=>I e
 | (.bk,e)=>Q (.nx,e)
 | (.rt r,e)=>Q (.rt r,e)
theorem b0b:m7 I Q (.nx,e)↔I e:=df
theorem b0c:m7 I Q (.ct,e)↔I e:=df
theorem b0d:m7 I Q (.bk,e)↔Q (.nx,e):=df
theorem b0a:m7 I Q (.rt r,e)↔Q (.rt r,e):=df
theorem mx{α:Type}(enc:α->D)(I:List α->En->Prop)(xs:List α)(turn:∀pre a post env,xs=pre++a::post->I pre env->Wo (g (enc a) env) λe=>Wo (F e) (m7 (I (pre++[a])) Q))
  (done:∀env,I xs env->Q (.nx,env)):∀{env:En},I [] env->Wo (forL g F (xs.map enc) env) Q:=by
 have key:∀(post pre:List α) (env:En),xs=pre++post->I pre env->Wo (forL g F (post.map enc) env) Q:=by
  intro post
  induction post with
  | nil =>
   intro pre env e h
   rw [lD] at e
   subst e
   exact ⟨_,rfl,done env h⟩
  | cons a post ih =>
   intro pre env e h
   obtain ⟨e1,h1,p,h2,h3⟩:=turn pre a post env e h
   rw [jV]
   unfold forL
   rw [h1]
   dsimp only
   rw [h2]
   obtain ⟨fl,e2⟩:=p
   cases fl with
   | nx=>exact ih (pre++[a]) e2 (by rw [e,dH];rfl) h3
   | ct=>exact ih (pre++[a]) e2 (by rw [e,dH];rfl) h3
   | bk=>exact ⟨_,rfl,h3⟩
   | rt r=>exact ⟨_,rfl,h3⟩
 exact λ{env} h=>key xs [] env rfl h
theorem Hu(lo:Int)(n:Nat)(I:Nat->En->Prop)(turn:∀(k:Nat) env,k<n->I k env->Wo (g (.int (lo+k)) env) λe=>Wo (F e) (m7 (I (k+1)) Q))
  (done:∀env,I n env->Q (.nx,env))(h:I 0 env):Wo (forL g F (cS lo n) env) Q:=by
 unfold cS
 refine mx (λ(k:Nat)=>D.int (lo+(k:Int))) (λpre env=>I pre.length env) (jv n) (λpre a post env e h=>?_) (λenv h=>done env (by simpa using h)) h
 have hl:=congrArg ra e
 have ha:(jv n)[pre.length]?=some a:=by rw [e];simp
 simp at hl
 rw [List.getElem?_range (by ext hl)] at ha
 cases ha
 simpa using turn pre.length env (by ext hl) h
theorem Wo_gN:Wo (gN i d env) Q↔i<env.length/\Q (env.set i (.sh d)):=fK
theorem Wo_gT:Wo (gT n u (.tup ds) env) Q↔ds.length=n/\Wo (u ds env) Q:=by
 unfold gT
 by_cases h:ds.length=n<;>simp [h,a0p]
theorem b1h:Wo (yC [] env) Q↔Q env:=a0f
theorem a9Y:Wo (mj g u (d::ds) env) Q↔Wo (g d env) λe=>Wo (u ds e) Q:=a0j
theorem b5t:Wo (sY f g env) Q↔Wo (f env) λr=>Wo (g r.d env) λe=>Q (.nx,e):=by
 unfold sY;rw [a0j];simp only [a1p]
noncomputable def bF:Option Sl->(List D->Prop)->Prop
 | some (.ow ds),Q=>Q ds
 | _,_=>False
theorem b42:bF (some (.ow ds)) Q↔Q ds:=df
theorem b5v:Wo (cR i f env) Q↔bF env[i]? λds=>Wo (f env) λr=>ds.length<16777216/\Q (.nx,env.set i (.ow (ds++[r.d]))):=by
 unfold cR
 cases env[i]? with
 | none=>simp [a0p,bF]
 | some s=>cases s with
  | no=>simp [a0p,bF]
  | dw d=>simp [a0p,bF]
  | sh d=>simp [a0p,bF]
  | ow ds=>dsimp only [bF];rw [a0j];simp only [fK]
def pV(env:En)(i:Nat)(ds:List D)(d:D)(Q:Fl×En->Prop):Prop:=match d with
 | .lst false es=>ds.length+es.length<=16777216/\Q (.nx,env.set i (.ow (ds++es)))
 | _=>False
theorem b4M:pV env i ds (.lst false es) Q↔ds.length+es.length<=16777216/\Q (.nx,env.set i (.ow (ds++es))):=df
theorem b5k:Wo (iF i f env) Q↔bF env[i]? λds=>Wo (f env) λr=>pV env i ds r.d Q:=by
 unfold iF
 cases env[i]? with
 | none=>simp [a0p,bF]
 | some s=>cases s with
  | no=>simp [a0p,bF]
  | dw d=>simp [a0p,bF]
  | sh d=>simp [a0p,bF]
  | ow ds =>
   dsimp only [bF];rw [a0j]
   refine jB λr=>?_
   unfold pV
   cases r.d with
   | lst ro es=>cases ro<;>simp [fK,a0p]
   | _=>simp [a0p]
theorem b49:Wo (iE i j env) Q↔bF env[j]? λds=>Wo ds[ds.length-1]? λd=>(i<env.length/\i≠j)/\Q (.nx,(env.set j (.ow ds.dropLast)).set i (.sh d)):=by
 unfold iE
 cases env[j]? with
 | none=>simp [a0p,bF]
 | some s=>cases s with
  | no=>simp [a0p,bF]
  | dw d=>simp [a0p,bF]
  | sh d=>simp [a0p,bF]
  | ow ds=>dsimp only [bF];rw [a0j];simp only [fK]
def Cp(env:En)(i:Nat)(ds:List D)(d:D)(k:D)(Q:Fl×En->Prop):Prop:=match k with
 | .int n=>Wo (gg ds.length n) λj=>Q (.nx,env.set i (.ow (ds.set j d)))
 | _=>False
theorem b2z:Cp env i ds d (.int n) Q↔Wo (gg ds.length n) λj=>Q (.nx,env.set i (.ow (ds.set j d))):=df
theorem b3c:Wo (rD i f g env) Q↔bF env[i]? λds=>Wo (f env) λr=>Wo (g env) λk=>Cp env i ds r.d k.d Q:=by
 unfold rD
 cases env[i]? with
 | none=>simp [a0p,bF]
 | some s=>cases s with
  | no=>simp [a0p,bF]
  | dw d=>simp [a0p,bF]
  | sh d=>simp [a0p,bF]
  | ow ds =>
   dsimp only [bF];rw [a0j]
   refine jB λr=>?_
   rw [a0j]
   refine jB λk=>?_
   unfold Cp
   cases k.d<;>simp [a0j,a0f,a0p]
theorem GK:Wo (kH i F env) Q↔Wo (F (lj i env)) Q:=df
theorem GB(h:env[i]?=some (.ow ds)):lj i env=env.set i (.sh (.lst false ds)):=by unfold lj;rw [h]
noncomputable def vP(env:En):Option Sl->(Fl×En->Prop)->Prop
 | some (.ow ds),Q=>Q (.rt (.ow ds),env)
 | some (.dw ds),Q=>Q (.rt (.dw ds),env)
 | some (.sh d),Q=>Q (.rt (.sh d),env)
 | _,_=>False
theorem b2W:vP env (some (.ow ds)) Q↔Q (.rt (.ow ds),env):=df
theorem b2V:vP env (some (.sh d)) Q↔Q (.rt (.sh d),env):=df
theorem b28:Wo (mh i env) Q↔vP env env[i]? Q:=by
 unfold mh
 cases env[i]? with
 | none=>simp [a0p,vP]
 | some s=>cases s<;>simp [a0p,a0f,vP]
theorem b5b:Wo (KR env) Q↔Q none:=a0f
def pQ(d:D)(Q:Option Int->Prop):Prop:=match d with
 | .int i=>Q (some i)
 | _=>False
theorem pQ_i:pQ (.int i) Q↔Q (some i):=df
theorem b5a:Wo (ES f env) Q↔Wo (f env) λr=>pQ r.d Q:=by
 unfold ES
 rw [a0j]
 refine jB λr=>?_
 unfold pQ
 cases r.d<;>simp [a0f,a0p]
theorem b5l:Wo (FE f lo hi env) Q↔Wo (f env) λx=>Wo (lo env) λl=>Wo (hi env) λh =>
  (x.1=true->Q (.ow (cutD x.2 l h)))/\(x.1=false->¬(HT.kG x.2.length 0 l=0/\HT.kG x.2.length x.2.length h=x.2.length)/\Q (.sh (.tup (cutD x.2 l h)))):=by
 unfold FE
 rw [a0j]
 simp only [a0j]
 have h:∀(x:Bool×List D) (l h:Option Int),Wo (if x.1=true then some (Sl.ow (cutD x.2 l h)) else if ¬(HT.kG x.2.length 0 l=0/\HT.kG x.2.length x.2.length h=x.2.length) then some (.sh (.tup (cutD x.2 l h))) else none) Q ↔
   (x.1=true->Q (.ow (cutD x.2 l h)))/\(x.1=false->¬(HT.kG x.2.length 0 l=0/\HT.kG x.2.length x.2.length h=x.2.length)/\Q (.sh (.tup (cutD x.2 l h)))):=λx l h=>by
  obtain ⟨k,ds⟩:=x
  cases k
  .simp only [vv,if_false,fK];simp
  .simp [a0f]
 simp only [h]
theorem Sl_sh:Sl.d (.sh d)=d:=rfl
theorem Sl_ow:Sl.d (.ow ds)=.lst false ds:=rfl
theorem b1q:Wo (aO (.lst false a) (.lst false b)) Q↔a.length+b.length<=16777216/\Q (.ow (a++b)):=fK
theorem b1o:Wo (aO (.tup a) (.tup b)) Q↔a.length+b.length<=16777216/\Q (.sh (.tup (a++b))):=fK
theorem b1p:Wo (aO (.str a) (.str b)) Q↔a.length+b.length<=16777216/\Q (.sh (.str (a++b))):=fK
theorem a7k :aW "int" .aI=false:=rfl
theorem a8u:aW "int" (.bl b)=true:=rfl
theorem a7m:aW "int" (.int i)=true:=rfl
theorem a7j:aW "int" (.str x)=false:=rfl
theorem a7i:aW "int" (.tup ds)=false:=rfl
theorem a7l:aW "int" (.lst r ds)=false:=rfl
theorem a6E :aW "bool" .aI=false:=rfl
theorem a7n:aW "bool" (.bl b)=true:=rfl
theorem a6G:aW "bool" (.int i)=false:=rfl
theorem a6D:aW "bool" (.str x)=false:=rfl
theorem a6C:aW "bool" (.tup ds)=false:=rfl
theorem a6F:aW "bool" (.lst r ds)=false:=rfl
theorem a7e :aW "str" .aI=false:=rfl
theorem a8t:aW "str" (.bl b)=false:=rfl
theorem a7g:aW "str" (.int i)=false:=rfl
theorem a7d:aW "str" (.str x)=true:=rfl
theorem a7c:aW "str" (.tup ds)=false:=rfl
theorem a7f:aW "str" (.lst r ds)=false:=rfl
theorem a6z :aW "list" .aI=false:=rfl
theorem a7h:aW "list" (.bl b)=false:=rfl
theorem a6B:aW "list" (.int i)=false:=rfl
theorem a6y:aW "list" (.str x)=false:=rfl
theorem a6x:aW "list" (.tup ds)=false:=rfl
theorem a6A:aW "list" (.lst r ds)=true:=rfl
theorem a5G :aW "tuple" .aI=false:=rfl
theorem a6w:aW "tuple" (.bl b)=false:=rfl
theorem a5I:aW "tuple" (.int i)=false:=rfl
theorem a5F:aW "tuple" (.str x)=false:=rfl
theorem a5E:aW "tuple" (.tup ds)=true:=rfl
theorem a5H:aW "tuple" (.lst r ds)=false:=rfl
theorem y2{α β:Type}{f:α->β}{xs:List α}{i:Int}(z:α)(h0:0<=i)(h:i<xs.length):cW (xs.map f) i=some (f (xs.getD i.toNat z)):=by
 unfold cW gg
 rw [bM,if_pos h0,if_pos h]
 have:i.toNat<xs.length:=by ext h0 h
 simp [this]
theorem a7z:Wo (forL g F [] env) Q↔Q (.nx,env):=a0f
theorem a6R:Wo (forL g F (d::ds) env) Q↔Wo (g d env) λe=>Wo (F e) (m7 (λe=>Wo (forL g F ds e) Q) Q):=by
 rw [forL]
 cases g d env with
 | none=>simp [a0p]
 | some e =>
  rw [a0f]
  dsimp only
  cases F e with
  | none=>simp [a0p]
  | some p =>
   obtain ⟨fl,e2⟩:=p
   rw [a0f]
   cases fl<;>simp [m7,a0f]
theorem a9u:D.bY .aI=true:=rfl
theorem b0Q:D.bY (.bl b)=false:=rfl
theorem a9w:D.bY (.int i)=false:=rfl
theorem a9t:D.bY (.str x)=false:=rfl
theorem a9s:D.bY (.tup ds)=false:=rfl
theorem a9v:D.bY (.lst r ds)=false:=rfl
theorem b3G:Wo (iq fi caps nt g fc fe env) Q↔Wo (fi env) λds=>Wo (fF caps env) λcs=>ds.length<=16777216/\Wo (jy g fc fe ds (fV nt Sl.no++cs)) λrs=>Q (.ow rs):=by
 unfold iq
 rw [a0j]
 refine jB λds=>?_
 rw [a0j]
 refine jB λcs=>?_
 by_cases h:ds.length<=16777216
 .rw [if_pos h,a1p];exact ⟨λz=>⟨h,z⟩,λz=>z.2⟩
 .rw [if_neg h,a0p];exact ⟨ip,λz=>h z.1⟩
theorem b3I:Wo (fF [] env) Q↔Q []:=a0f
theorem b3H:Wo (fF (i::is) env) Q↔gS env[i]? λs=>Wo (fF is env) λcs=>Q (s::cs):=by
 rw [fF]
 cases h:env[i]? with
 | none=>simp [a0p,gS]
 | some s=>cases s<;>simp [a0p,gS,a1p]
theorem rep0{l:En}:fV 0 Sl.no++l=l:=rfl
theorem rep1{l:En}:fV 1 Sl.no++l=Sl.no::l:=rfl
theorem rep2{l:En}:fV 2 Sl.no++l=Sl.no::Sl.no::l:=rfl
theorem rep3{l:En}:fV 3 Sl.no++l=Sl.no::Sl.no::Sl.no::l:=rfl
theorem rep4{l:En}:fV 4 Sl.no++l=Sl.no::Sl.no::Sl.no::Sl.no::l:=rfl
theorem b1b:Wo (oB env) Q↔Q true:=a0f
theorem b1u:Wo (jy g fc fe [] e) Q↔Q []:=a0f
theorem b1v:Wo (jy g fc fe (d::ds) e) Q↔Wo (g d e) λe1=>Wo (fc e1) λb =>
  (b=true->Wo (fe e1) λr=>Wo (jy g fc fe ds e1) λrs=>Q (r.d::rs))/\(b=false->Wo (jy g fc fe ds e1) Q):=by
 rw [jy,a0j]
 refine jB λe1=>?_
 rw [a0j]
 refine jB λb=>?_
 cases b
 .rw [if_neg lI];simp
 .rw [if_pos rfl,a0j];simp only [a0j,a0f];simp
theorem b3q:Wo (gL f env) Q↔Wo (f env) λr=>Wo (dk r.d) λx=>Q x.2:=by
 unfold gL;rw [a0j];simp only [a1p]
theorem b3r:Wo (lu h f env) Q↔Wo (f env) λds=>Wo (h ds) Q:=a0j
theorem b3p:Wo (Cs f g F env) Q↔Wo (f env) λds=>Wo (forL g F ds env) Q:=a0j
theorem qo{α:Type}(enc:α->D)(f:α->D)(P:En->Prop)(xs:List α)
  (h:∀a∈xs,∀e,P e->Wo (g (enc a) e) λe1=>P e1/\Wo (fc e1) λb=>b=true/\Wo (fe e1) λr=>r.d=f a):∀{e:En},P e->jy g fc fe (xs.map enc) e=some (xs.map f):=by
 induction xs with
 | nil=>intro e _;rfl
 | cons a xs ih =>
  intro e he
  obtain ⟨e1,g1,p1,b,c1,rfl,r,f1,f2⟩:=h a cP e he
  rw [jV,jy,g1,yf,c1,yf,if_pos rfl,f1,yf,ih (λb hb=>h b (dj _ hb)) p1,f2]
  rfl
theorem b3u:Wo (uY f env) Q↔Wo (f env) λx=>Wo (jz x.2) λns=>Q (.sh (.int ns.sum)):=by
 unfold uY;rw [a0j];simp only [a1p]
theorem b3E:Wo (u9 f env) Q↔Wo (f env) λx=>Wo (eK x.2) λns=>Q (.sh (.bl (ns.all id))):=by
 unfold u9;rw [a0j];simp only [a1p]
theorem b3C:Wo (u7 f env) Q↔Wo (f env) λx=>Wo (eK x.2) λns=>Q (.sh (.bl (ns.any id))):=by
 unfold u7;rw [a0j];simp only [a1p]
theorem b3x:Wo (u5 f env) Q↔Wo (f env) λx=>Wo (jz x.2) λns=>ns≠[]/\Q (.sh (.int (tS ns))):=by
 unfold u5;rw [a0j];simp only [a0j,fK]
theorem b3y:Wo (u6 f env) Q↔Wo (f env) λx=>Wo (jz x.2) λns=>ns≠[]/\Q (.sh (.int (tU ns))):=by
 unfold u6;rw [a0j];simp only [a0j,fK]
theorem b3d:Wo (jz (ns.map D.int)) Q↔Q ns:=by rw [Io,a0f]
theorem b5p:Wo (eK (ns.map D.bl)) Q↔Q ns:=by rw [HP,a0f]
theorem b1f:Wo (jz []) Q↔Q []:=a0f
theorem b1g:Wo (jz (.int i::ds)) Q↔Wo (jz ds) λns=>Q (i::ns):=by
 show Wo ((jz ds).map (i::·)) Q↔_
 rw [a1p]
theorem b3J:Wo (eK []) Q↔Q []:=a0f
theorem b3K:Wo (eK (.bl i::ds)) Q↔Wo (eK ds) λns=>Q (i::ns):=by
 show Wo ((eK ds).map (i::·)) Q↔_
 rw [a1p]
theorem HN{α:Type}[DecidableEq α]{n:Nat}{enc:α->D}(h:∀x y,aQ n (enc x) (enc y)=some (decide (x=y))):∀(xs ys:List α),∃bs,fI (kn (aQ n) (xs.map enc) (ys.map enc))=some bs/\(bs.all id&&decide (xs.length=ys.length))=decide (xs=ys)
 | [],[]=>⟨[],rfl,rfl⟩
 | [],y::ys=>⟨[],rfl,by simp⟩
 | x::xs,[]=>⟨[],rfl,by simp⟩
 | x::xs,y::ys=>by
  obtain ⟨bs,e,k⟩:=HN h xs ys
  refine ⟨decide (x=y)::bs,?_,?_⟩
  .simp only [jV,FR,h,fI,e,vk]
  .rw [List.all_cons,Bool.and_assoc]
   have:decide ((x::xs).length=(y::ys).length)=decide (xs.length=ys.length):=by simp
   rw [this,k]
   simp only [id,List.cons.injEq,Bool.decide_and]
theorem Hg{α:Type}[DecidableEq α]{n:Nat}{enc:α->D}(h:∀x y,aQ n (enc x) (enc y)=some (decide (x=y)))(xs ys:List α){r r':Bool}:aQ (n+1) (.lst r (xs.map enc)) (.lst r' (ys.map enc))=some (decide (xs=ys)):=by
 obtain ⟨bs,e,k⟩:=HN h xs ys
 simp only [aQ,bM]
 by_cases hl:xs.length=ys.length
 .rw [if_pos hl,e,<-k];simp [hl]
 .rw [if_neg hl]
  have:xs≠ys:=λz=>hl (by rw [z])
  simp [this]
theorem v5(P:D->Prop)(hi:i<env.length)
  (hc:Wo (c env) λb=>(b=true->Wo (f env) λr=>P r.d)/\(b=false->∃d,env[i]?=some (.sh d)/\P d))(h:∀d,P d->Q (.nx,env.set i (.sh d))):Wo (br c (bJ i f) bI env) Q:=by
 rw [a0N]
 refine hc.mono λb hb=>⟨λe=>?_,λe=>?_⟩
 .rw [a9X]
  exact (hb.1 e).mono λr hr=>⟨hi,h _ hr⟩
 .obtain ⟨d,e1,e2⟩:=hb.2 e
  rw [b3a]
  have:=h d e2
  rwa [show env.set i (.sh d)=env by
   obtain ⟨h1,h2⟩:=lK.mp e1
   rw [<-h2,List.set_getElem_self]] at this
theorem cZ{α:Type}{xs:List α}{x:α}:cW (xs++[x]) (-1)=some x:=by
 unfold cW gg
 rw [if_neg (by decide),if_pos (by rw [bP,rk];ext),bP,rk]
 have:(-1+((xs.length+1:Nat):Int)).toNat=xs.length:=by ext
 rw [this]
 simp
theorem wu(I:Nat->En->Prop)(turn:∀n env,I n env->Wo (c env) λb=>(b=true->Wo (F env) (m7 (λe=>∃m,m<n/\I m e) Q))/\(b=false->Q (.nx,env))):
  ∀(fuel n:Nat) {env:En},n<fuel->I n env->Wo (mD c F fuel env) Q
 | 0,n,env,h,_=>absurd h (Nat.not_lt_zero _)
 | fuel+1,n,env,h,hI=>by
  obtain ⟨b,e1,h1,h2⟩:=turn n env hI
  rw [mD,e1]
  cases b with
  | false=>exact ⟨_,rfl,h2 rfl⟩
  | true =>
   obtain ⟨⟨fl,e2⟩,e3,h3⟩:=h1 rfl
   dsimp only
   rw [e3]
   cases fl with
   | nx=>obtain ⟨m,hm,Ba⟩:=h3;exact wu I turn fuel m (by ext h hm) Ba
   | ct=>obtain ⟨m,hm,Ba⟩:=h3;exact wu I turn fuel m (by ext h hm) Ba
   | bk=>exact ⟨_,rfl,h3⟩
   | rt r=>exact ⟨_,rfl,h3⟩
theorem Di:Wo (vX m c F env) Q↔Wo (mD c F (m env) env) Q:=df
theorem b1e:Wo (yu [.int j]) Q↔Q (cS 0 j.toNat):=a0f
theorem b1d:Wo (yv [.int i,.int j]) Q↔Q (cS i (j-i).toNat):=a0f
def zW(d:D)(l h:Option Int)(Q:Sl->Prop):Prop:=match d with
 | .tup ds=>Q (.sh (.tup (cutD ds l h)))
 | _=>False
theorem slQ_t:zW (.tup ds) l h Q↔Q (.sh (.tup (cutD ds l h))):=df
theorem b3v:Wo (uZ f lo hi env) Q↔Wo (f env) λx=>Wo (lo env) λl=>Wo (hi env) λh=>zW x.d l h Q:=by
 unfold uZ
 simp only [a0j]
 refine jB λx=>jB λl=>jB λh=>?_
 unfold zW
 cases x.d<;>simp [a0f,a0p]
theorem b07:Wo (mC [.tup a,.tup b]) Q↔Q (kE a b):=a0f
theorem b08:Wo (mC [.tup a,.lst r b]) Q↔Q (kE a b):=a0f
theorem b09:Wo (mC [.lst r a,.tup b]) Q↔Q (kE a b):=a0f
theorem b1a:Wo (mC [.lst r a,.lst r' b]) Q↔Q (kE a b):=a0f
def vG(i:Nat)(env:En)(a b:Sl)(Q:Fl×En->Prop):Prop:=match a,b with
 | .sh (.int m),.sh (.int n)=>Q (.nx,env.set i (.sh (.int (m+n))))
 | _,_=>False
theorem b4Y:vG i env (.sh (.int m)) (.sh (.int n)) Q↔Q (.nx,env.set i (.sh (.int (m+n)))):=df
theorem b5s:Wo (gD i f env) Q↔gS env[i]? λa=>Wo (f env) λr=>vG i env a r Q:=by
 constructor
 .rintro ⟨y,e,h⟩
  obtain ⟨m,n,e1,e2,rfl⟩:=IB e
  rw [e1];exact ⟨_,e2,h⟩
 .intro h
  cases hi:env[i]? with
  | none=>rw [hi] at h;exact h.elim
  | some s =>
   rw [hi] at h
   cases s with
   | no=>exact h.elim
   | ow ds=>exact h.elim
   | dw ds=>exact h.elim
   | sh d =>
    obtain ⟨r,e1,h⟩:=h
    cases d with
    | int m =>
     cases r with
     | sh d2 =>
      cases d2 with
      | int n=>exact ⟨_,by unfold gD;rw [hi,e1],h⟩
      | _=>exact h.elim
     | _=>exact h.elim
    | _=>exact h.elim
theorem b3o:Wo (GI i j c f env) Q↔bF env[i]? λds=>Wo (forL (gN j) (br c (av f) bI) ds env) Q:=by
 unfold GI
 cases h:env[i]? with
 | none=>simp [a0p,bF]
 | some s=>cases s<;>simp [a0p,bF]
def zV(d:D)(Q:Sl->Prop):Prop:=match d with
 | .lst _ ds=>Wo (rE ds) λrs=>Q (.ow rs)
 | _=>False
theorem srQ_l:zV (.lst r ds) Q↔Wo (rE ds) λrs=>Q (.ow rs):=df
theorem a8C:Wo (yV f env) Q↔Wo (f env) λr=>zV r.d Q:=by
 unfold yV
 rw [a0j]
 refine jB λr=>?_
 cases r.d<;>simp [zV,a0p,a1p]
theorem b1s:Wo (yF f env) Q↔Wo (f env) λr=>Wo (fw (some r)) λb=>Q (.sh (.int (if b=true then 1 else 0))):=by
 unfold yF
 cases f env with
 | none=>simp [Wo,fw]
 | some r=>rw [a0f,a1p]
end DL
namespace DL
theorem vM(h1:-A<=a)(h2:a<=A)(h3:-B<=b)(h4:b<=B):-(A*B)<=a*b/\a*b<=A*B:=by
 have hA:0<=A:=by ext h1 h2
 have hB:0<=B:=by ext h3 h4
 have e1:(A-a)*(B+b)=A*B+A*b-a*B-a*b:=by grind
 have e2:(A+a)*(B-b)=A*B-A*b+a*B-a*b:=by grind
 have e3:(A-a)*(B-b)=A*B-A*b-a*B+a*b:=by grind
 have e4:(A+a)*(B+b)=A*B+A*b+a*B+a*b:=by grind
 have f1:=xP (show 0<=A-a by ext h2) (show 0<=B+b by ext h3)
 have f2:=xP (show 0<=A+a by ext h1) (show 0<=B-b by ext h4)
 have f3:=xP (show 0<=A-a by ext h2) (show 0<=B-b by ext h4)
 have f4:=xP (show 0<=A+a by ext h1) (show 0<=B+b by ext h3)
 ext e1 e2 e3 e4 f1 f2 f3 f4
theorem qq(h:-(10^250)<=i)(h2:i<=10^250)(h3:-(10^250)<=j)(h4:j<=10^250):MulC i j:=.inr (.inr ⟨⟨h,h2⟩,h3,h4⟩)
theorem kC(h:0<j)(h2:j<=10^250):DivC i j:=⟨h,h2⟩
theorem HV{a b:Int}(hb:0<b):a/b*b<=a/\a<(a/b+1)*b:=by
 have h1:=Int.emod_add_mul_ediv a b
 have h2:=yb a (Int.ne_of_gt hb)
 have h3:=yj a hb
 generalize a/b=q at *
 exact ⟨by grind,by grind⟩
end DL
namespace My
open PySem L2 DL
noncomputable def top(i:Nat):Stmt:=PySem.Challenge.pw_offerhouse_k30_whole_rows_of_deeds.main.body.getD i (.Pass ⟨0,0,0,0⟩)
noncomputable abbrev II:Stmt:=top 38
noncomputable abbrev DY{α:Type}(Y:Str->Stmt->List Str->α):α:=Y "_law_cost" II ["parts","x"]
noncomputable def DQ:SF:=
 (ak (dQ (eV 0) (gN 2)
 (br (ku (bf (aa jM (au (bV 2) (eC (.int 0))) (eV 1))) (bf (aa jM (eV 1) (au (bV 2) (eC (.int 1))))))
 (av (aa aO (au (bV 2) (eC (.int 2))) (aa e9 (au (bV 2) (eC (.int 3))) (aa bp (eV 1) (au (bV 2) (eC (.int 0))))))) bI))
 (av (eC .aI)))
noncomputable def ny:List D->Option Sl:=aJ DQ 3
theorem jf:Wo (ny [a0,a1]) Q↔Wo (DQ [.sh a0,.sh a1,.no]) (aK Q):=cI
noncomputable abbrev IU:Stmt:=top 3
noncomputable abbrev Dt{α:Type}(Y:Str->Stmt->List Str->α):α:=Y "line_at" IU ["line","low","x"]
noncomputable def Dz:SF:=
 (av (aa aO (au (bV 0) (eC (.int 0))) (aa e9 (au (bV 0) (eC (.int 1))) (aa bp (eV 2) (eV 1)))))
noncomputable def oS:List D->Option Sl:=aJ Dz 3
theorem j7:Wo (oS [a0,a1,a2]) Q↔Wo (Dz [.sh a0,.sh a1,.sh a2]) (aK Q):=cI
noncomputable abbrev IF:Stmt:=top 10
noncomputable abbrev DV{α:Type}(Y:Str->Stmt->List Str->α):α:=Y "drawn_to" IF ["row","x"]
noncomputable def DN:SF:=
 (av (aR 3 oS (ab (bg (ab (au (bV 0) (eC (.int 2))) (ab (au (bV 0) (eC (.int 3))) ae))) (ab (au (bV 0) (eC (.int 0))) (ab (eV 1) ae)))))
noncomputable def qA:List D->Option Sl:=aJ DN 2
theorem ji:Wo (qA [a0,a1]) Q↔Wo (DN [.sh a0,.sh a1]) (aK Q):=cI
noncomputable abbrev IL:Stmt:=top 15
noncomputable abbrev D1{α:Type}(Y:Str->Stmt->List Str->α):α:=Y "place_of" IL ["form","x"]
noncomputable def IS:En->Nat:=λ_=>1000000
noncomputable def DS:SF:=
 (ak (bJ 2 (eC (.int 0)))
 (ak (bJ 3 (eI (bV 0)))
 (ak (vX IS (bf (aa gw (eV 2) (eV 3)))
 (ak (bJ 4 (aa bC (aa aO (eV 2) (eV 3)) (eC (.int 2))))
 (br (bf (aa gw (au (fv (au (bV 0) (eV 4))) (eC (.int 1))) (eV 1)))
 (bJ 2 (aa aO (eV 4) (eC (.int 1)))) (bJ 3 (eV 4)))))
 (av (eV 2)))))
noncomputable def rZ:List D->Option Sl:=aJ DS 5
theorem jd:Wo (rZ [a0,a1]) Q↔Wo (DS [.sh a0,.sh a1,.no,.no,.no]) (aK Q):=cI
noncomputable abbrev Iw:Stmt:=top 14
noncomputable abbrev Dq{α:Type}(Y:Str->Stmt->List Str->α):α:=Y "cost_at" Iw ["form","x"]
noncomputable def Dw:SF:=
 (ak (bJ 2 (aR 2 rZ (ab (eV 0) (ab (eV 1) ae))))
 (ak (br (eT (bf (aa aY (eV 2) (eI (bV 0)))) (bf (aa gw (eV 1) (au (fv (au (bV 0) (eV 2))) (eC (.int 0))))))
 (av (eC .aI)) bI)
 (av (aR 2 qA (ab (au (bV 0) (eV 2)) (ab (eV 1) ae))))))
noncomputable def wG:List D->Option Sl:=aJ Dw 3
theorem j':Wo (wG [a0,a1]) Q↔Wo (Dw [.sh a0,.sh a1,.no]) (aK Q):=cI
noncomputable abbrev IK:Stmt:=top 40
noncomputable abbrev D0{α:Type}(Y:Str->Stmt->List Str->α):α:=Y "_law_line" IK ["cell"]
noncomputable def DR:SF:=
 (av (bg (ab (bg (ab (cL (eC (.int 30))) (ab (aa iP (eC (.int 10)) (eC (.int 31))) (ab (aa bp (aa aX (aa bC (eV 0) (eC (.int 8))) (eC (.int 19))) (eC (.int 9))) (ab (aa bp (aa aX (aa bC (eV 0) (eC (.int 152))) (eC (.int 3))) (eC (.int 1))) ae))))) ae)))
noncomputable def qw:List D->Option Sl:=aJ DR 1
theorem je:Wo (qw [a0]) Q↔Wo (DR [.sh a0]) (aK Q):=cI
noncomputable abbrev Jf:Stmt:=top 39
noncomputable abbrev Eh{α:Type}(Y:Str->Stmt->List Str->α):α:=Y "_law_thing" Jf ["cell"]
noncomputable def Ep:SF:=
 (ak (bJ 1 (aa aX (aa e9 (eV 0) (eC (.int 48271))) (eC (.int 1000003))))
 (ak (bJ 2 (aa bp (aa aX (eV 1) (eC (.int 21))) (eC (.int 12))))
 (ak (bJ 3 (aa aO (eV 2) (aa aX (aa bC (eV 1) (eC (.int 21))) (eC (.int 9)))))
 (ak (br (bf (aa aY (aa aX (aa bC (eV 1) (eC (.int 189))) (eC (.int 4))) (eC (.int 1))))
 (bJ 3 (aa aO (eV 2) (aa aX (aa bC (eV 0) (eC (.int 7))) (aa iP (eC (.int 10)) (eC (.int 30)))))) bI)
 (ak (bJ 4 (aa bp (aa aX (aa bC (eV 1) (eC (.int 756))) (eC (.int 5))) (eC (.int 2))))
 (ak (br (bf (aa aY (aa aX (aa bC (eV 1) (eC (.int 756))) (eC (.int 3))) (eC (.int 1))))
 (bJ 4 (aa bp (aa aX (aa bC (eV 0) (eC (.int 11))) (eC (.int 2001))) (eC (.int 1000)))) bI)
 (ak (br (bf (aa aY (eV 2) (eV 3)))
 (bJ 4 (eC (.int 0))) bI)
 (ak (de 5 (bO (ab (bg (ab (eV 2) (ab (eV 3) (ab (aa bp (aa aX (aa bC (eV 1) (eC (.int 1512))) (eC (.int 21))) (eC (.int 10))) (ab (eV 4) ae))))) ae)))
 (ak (br (bf (aa aY (aa aX (aa bC (eV 1) (eC (.int 31752))) (eC (.int 2))) (eC (.int 1))))
 (cR 5 (bg (ab (aa aO (eV 3) (eC (.int 2))) (ab (aa aO (eV 3) (eC (.int 4))) (ab (aa aX (aa bC (eV 1) (eC (.int 63504))) (eC (.int 9))) (ab (eC (.int 1)) ae)))))) bI)
 (av (oE (bV 5))))))))))))
noncomputable def sr:List D->Option Sl:=aJ Ep 6
theorem hG:Wo (sr [a0]) Q↔Wo (Ep [.sh a0,.no,.no,.no,.no,.no]) (aK Q):=cI
noncomputable abbrev IT:Stmt:=top 42
noncomputable abbrev Ds{α:Type}(Y:Str->Stmt->List Str->α):α:=Y "_law_put" IT ["cell","x","cost"]
noncomputable def Dy:SF:=
 (ak (bJ 3 (aa aX (eV 0) (eC (.int 8))))
 (ak (br (bf (aa gw (eV 3) (eC (.int 2))))
 (ak (bJ 4 (aR 2 ny (ab (aR 1 sr (ab (aa bC (eV 0) (eC (.int 8))) ae)) (ab (eV 1) ae))))
 (ak (br (eT (bf (aa gK (eV 2) (eC .aI))) (bf (aa gK (eV 4) (eC .aI))))
 (av (au (fv (bO (ab (eV 2) (ab (eV 4) ae)))) (yF (aa gK (eV 2) (eC .aI))))) bI)
 (av (nh rG (ab (eV 2) (ab (eV 4) ae)))))) bI)
 (ak (br (bf (aa aY (eV 3) (eC (.int 7))))
 (ak (bJ 5 (aa bp (aa aX (aa bC (eV 0) (eC (.int 8))) (eC (.int 9))) (eC (.int 4))))
 (ak (br (ku (bf (aa jM (eV 5) (eV 1))) (bf (aa jM (eV 1) (aa aO (aa aO (eV 5) (eC (.int 1))) (aa aX (aa bC (eV 0) (eC (.int 72))) (eC (.int 3)))))))
 (av (eC .aI)) bI)
 (av (eV 2)))) bI)
 (ak (br (bf (aa gK (eV 2) (eC .aI)))
 (av (eC .aI)) bI)
 (ak (br (bf (aa aY (eV 3) (eC (.int 4))))
 (av (aa e9 (eV 2) (au (fv (bO (ab (cL (eC (.int 1))) (ab (eC (.int 2)) ae)))) (aa aX (aa bC (eV 0) (eC (.int 8))) (eC (.int 2)))))) bI)
 (ak (br (bf (aa aY (eV 3) (eC (.int 5))))
 (av (aa bp (aa aO (eV 2) (aa aX (aa bC (eV 0) (eC (.int 8))) (eC (.int 21)))) (eC (.int 10)))) bI)
 (ak (bJ 4 (aR 2 ny (ab (aR 1 qw (ab (eV 0) ae)) (ab (eV 1) ae))))
 (ak (br (bf (aa gK (eV 4) (eC .aI)))
 (av (eC .aI)) bI)
 (ak (br (bf (aa aY (eV 3) (eC (.int 2))))
 (av (aa aO (eV 2) (eV 4))) bI)
 (av (nh qi (ab (eV 2) (ab (eV 4) ae)))))))))))))
noncomputable def wI:List D->Option Sl:=aJ Dy 6
theorem j8:Wo (wI [a0,a1,a2]) Q↔Wo (Dy [.sh a0,.sh a1,.sh a2,.no,.no,.no]) (aK Q):=cI
noncomputable abbrev Iy:Stmt:=top 43
noncomputable abbrev Dr{α:Type}(Y:Str->Stmt->List Str->α):α:=Y "_law_due" Iy ["cells","x"]
noncomputable def Dx:SF:=
 (ak (bJ 2 (eV 1))
 (ak (dQ (eV 0) (gN 3)
 (br (bf (aa aY (aa aX (eV 3) (eC (.int 8))) (eC (.int 6))))
 (bJ 2 (aa bp (eV 2) (aa bp (aa aX (aa bC (eV 3) (eC (.int 8))) (eC (.int 11))) (eC (.int 5))))) bI))
 (ak (bJ 4 (eC .aI))
 (ak (br (bf (aa aY (eV 2) (eC (.int 0))))
 (bJ 4 (eC (.int 0))) bI)
 (ak (dQ (eV 0) (gN 3)
 (br (bf (aa aY (aa aX (eV 3) (eC (.int 8))) (eC (.int 6))))
 (bJ 2 (aa bp (aa aO (eV 2) (aa aX (aa bC (eV 3) (eC (.int 8))) (eC (.int 11)))) (eC (.int 5)))) (bJ 4 (aR 3 wI (ab (eV 3) (ab (eV 2) (ab (eV 4) ae)))))))
 (av (eV 4)))))))
noncomputable def wH:List D->Option Sl:=aJ Dx 5
theorem j9:Wo (wH [a0,a1]) Q↔Wo (Dx [.sh a0,.sh a1,.no,.no,.no]) (aK Q):=cI
noncomputable abbrev IH:Stmt:=top 33
noncomputable abbrev DX{α:Type}(Y:Str->Stmt->List Str->α):α:=Y "_law_cell" IH ["script","k"]
noncomputable def DP:SF:=
 (ak (br (bf (aa gw (eV 1) (eI (bV 0))))
 (av (au (bV 0) (eV 1))) bI)
 (av (eC (.int 0))))
noncomputable def rY:List D->Option Sl:=aJ DP 2
theorem jg:Wo (rY [a0,a1]) Q↔Wo (DP [.sh a0,.sh a1]) (aK Q):=cI
noncomputable abbrev I9:Stmt:=top 35
noncomputable abbrev Ei{α:Type}(Y:Str->Stmt->List Str->α):α:=Y "_law_whole" I9 ["found"]
noncomputable def Er:SF:=
 (av (jO (jN "int" (eV 0)) (lz (jN "bool" (eV 0)))))
noncomputable def wz:List D->Option Sl:=aJ Er 1
theorem g9:Wo (wz [a0]) Q↔Wo (Er [.sh a0]) (aK Q):=cI
noncomputable abbrev Jj:Stmt:=top 36
noncomputable abbrev Ed{α:Type}(Y:Str->Stmt->List Str->α):α:=Y "_law_stretch" Jj ["part"]
noncomputable def D9:SF:=
 (ak (br (eT (oA (eS (jN "tuple" (eV 0)))) (bf (aa dr (eI (bV 0)) (eC (.int 4)))))
 (av (eC (.bl false))) bI)
 (ak (dQ (eV 0) (gN 1)
 (br (oA (eS (aR 1 wz (ab (eV 1) ae))))
 (av (eC (.bl false))) bI))
 (av (u4 (aa gw (au (bV 0) (eC (.int 0))) (au (bV 0) (eC (.int 1)))) (jO (aa aY (au (bV 0) (eC (.int 0))) (au (bV 0) (eC (.int 1)))) (aa aY (au (bV 0) (eC (.int 3))) (eC (.int 0))))))))
noncomputable def wM:List D->Option Sl:=aJ D9 2
theorem fN:Wo (wM [a0]) Q↔Wo (D9 [.sh a0,.no]) (aK Q):=cI
noncomputable abbrev Je:Stmt:=top 37
noncomputable abbrev Eg{α:Type}(Y:Str->Stmt->List Str->α):α:=Y "_law_canon" Je ["value"]
noncomputable def Eo:SF:=
 (ak (br (oA (eS (jN "tuple" (eV 0))))
 (av (eC (.bl false))) bI)
 (ak (yw mI (ab (eI (bV 0)) ae) (gN 1)
 (ak (br (oA (eS (aR 1 wM (ab (au (bV 0) (eV 1)) ae))))
 (av (eC (.bl false))) bI)
 (br (bf (aa pU (eV 1) (eC (.int 0))))
 (ak (bJ 2 (au (bV 0) (aa bp (eV 1) (eC (.int 1)))))
 (ak (br (bf (aa jM (au (fv (au (bV 0) (eV 1))) (eC (.int 0))) (au (bV 2) (eC (.int 1)))))
 (av (eC (.bl false))) bI)
 (ak (bJ 3 (aa aO (au (bV 2) (eC (.int 2))) (aa e9 (au (bV 2) (eC (.int 3))) (aa bp (au (fv (au (bV 0) (eV 1))) (eC (.int 0))) (au (bV 2) (eC (.int 0)))))))
 (br (ku (bf (aa aY (au (fv (au (bV 0) (eV 1))) (eC (.int 0))) (aa aO (au (bV 2) (eC (.int 1))) (eC (.int 1))))) (eT (bf (aa aY (au (bV 2) (eC (.int 0))) (au (bV 2) (eC (.int 1))))) (bf (aa aY (au (fv (au (bV 0) (eV 1))) (eC (.int 2))) (eV 3)))))
 (av (eC (.bl false))) bI)))) bI)))
 (av (eC (.bl true)))))
noncomputable def wy:List D->Option Sl:=aJ Eo 4
theorem hU:Wo (wy [a0]) Q↔Wo (Eo [.sh a0,.no,.no,.no]) (aK Q):=cI
noncomputable abbrev Jd:Stmt:=top 9
noncomputable abbrev Ef{α:Type}(Y:Str->Stmt->List Str->α):α:=Y "holds_one" Jd ["row"]
noncomputable def DM:SF:=
 (av (aa aY (au (bV 0) (eC (.int 0))) (au (bV 0) (eC (.int 1)))))
noncomputable def oU:List D->Option Sl:=aJ DM 1
theorem h8:Wo (oU [a0]) Q↔Wo (DM [.sh a0]) (aK Q):=cI
noncomputable abbrev HL:Stmt:=top 13
noncomputable abbrev C5{α:Type}(Y:Str->Stmt->List Str->α):α:=Y "plain" HL ["row"]
noncomputable def C1:SF:=
 (av (n6 (eS (aR 1 oU (ab (eV 0) ae))) (bg (ab (au (bV 0) (eC (.int 0))) (ab (au (bV 0) (eC (.int 1))) (ab (au (bV 0) (eC (.int 2))) (ab (eC (.int 0)) ae))))) (eV 0)))
noncomputable def nr:List D->Option Sl:=aJ C1 1
theorem nD:Wo (nr [a0]) Q↔Wo (C1 [.sh a0]) (aK Q):=cI
noncomputable abbrev Jh:Stmt:=top 12
noncomputable abbrev Eb{α:Type}(Y:Str->Stmt->List Str->α):α:=Y "laid_beside" Jh ["ahead","row"]
noncomputable def D7:SF:=
 (ak (bJ 2 (n6 (eS (aR 1 oU (ab (eV 0) ae))) (aa bp (au (bV 1) (eC (.int 2))) (au (bV 0) (eC (.int 2)))) (au (bV 0) (eC (.int 3)))))
 (ak (br (bf (aa dr (au (bV 1) (eC (.int 2))) (aR 3 oS (ab (bg (ab (au (bV 0) (eC (.int 2))) (ab (eV 2) ae))) (ab (au (bV 0) (eC (.int 0))) (ab (au (bV 1) (eC (.int 0))) ae))))))
 (av (bO (ab (eV 0) (ab (aR 1 nr (ab (eV 1) ae)) ae)))) bI)
 (ak (br (eT (eS (aR 1 oU (ab (eV 1) ae))) (bf (aa aY (au (bV 1) (eC (.int 3))) (eV 2))))
 (av (bO (ab (bg (ab (au (bV 0) (eC (.int 0))) (ab (au (bV 1) (eC (.int 1))) (ab (au (bV 0) (eC (.int 2))) (ab (eV 2) ae))))) ae))) bI)
 (ak (bJ 3 (aR 1 nr (ab (bg (ab (aa aO (au (bV 1) (eC (.int 0))) (eC (.int 1))) (ab (au (bV 1) (eC (.int 1))) (ab (aa aO (au (bV 1) (eC (.int 2))) (au (bV 1) (eC (.int 3)))) (ab (au (bV 1) (eC (.int 3))) ae))))) ae)))
 (av (bO (ab (bg (ab (au (bV 0) (eC (.int 0))) (ab (au (bV 1) (eC (.int 0))) (ab (au (bV 0) (eC (.int 2))) (ab (eV 2) ae))))) (ab (eV 3) ae))))))))
noncomputable def wN:List D->Option Sl:=aJ D7 4
theorem fP:Wo (wN [a0,a1]) Q↔Wo (D7 [.sh a0,.sh a1,.no,.no]) (aK Q):=cI
noncomputable abbrev Hm:Stmt:=top 11
noncomputable abbrev CK{α:Type}(Y:Str->Stmt->List Str->α):α:=Y "laid" Hm ["rows"]
noncomputable def CD:SF:=
 (ak (de 1 (bO ae))
 (ak (dQ (eV 0) (gN 2)
 (br (ku (vS (bV 1)) (bf (aa aY (aa aO (au (fv (au (bV 1) (cL (eC (.int 1))))) (eC (.int 1))) (eC (.int 1))) (au (bV 2) (eC (.int 0))))))
 (ak (iE 3 1)
 (iF 1 (aR 2 wN (ab (eV 3) (ab (eV 2) ae))))) (cR 1 (aR 1 nr (ab (eV 2) ae)))))
 (av (oE (bV 1)))))
noncomputable def mq:List D->Option Sl:=aJ CD 4
theorem qC:Wo (mq [a0]) Q↔Wo (CD [.sh a0,.no,.no,.no]) (aK Q):=cI
noncomputable abbrev G5:Stmt:=top 25
noncomputable abbrev Cq{α:Type}(Y:Str->Stmt->List Str->α):α:=Y "cut" G5 ["row","low","high"]
noncomputable def Cg:SF:=
 (av (bg (ab (eV 1) (ab (eV 2) (ab (aR 2 qA (ab (eV 0) (ab (eV 1) ae))) (ab (au (bV 0) (eC (.int 3))) ae))))))
noncomputable def rR:List D->Option Sl:=aJ Cg 3
theorem wR:Wo (rR [a0,a1,a2]) Q↔Wo (Cg [.sh a0,.sh a1,.sh a2]) (aK Q):=cI
noncomputable abbrev IW:Stmt:=top 27
noncomputable abbrev Du{α:Type}(Y:Str->Stmt->List Str->α):α:=Y "outside" IW ["form","spans"]
noncomputable def Iu:En->Nat:=λ_=>1000000
noncomputable def DA:SF:=
 (ak (de 2 (bO ae))
 (ak (bJ 3 (eC (.int 0)))
 (ak (dQ (eV 0) (gN 4)
 (ak (bJ 5 (au (bV 4) (eC (.int 0))))
 (ak (vX Iu (ku (bf (aa gw (eV 3) (eI (bV 1)))) (bf (aa jM (au (fv (au (bV 1) (eV 3))) (eC (.int 0))) (au (bV 4) (eC (.int 1))))))
 (ak (br (bf (aa gw (eV 5) (au (fv (au (bV 1) (eV 3))) (eC (.int 0)))))
 (cR 2 (aR 3 rR (ab (eV 4) (ab (eV 5) (ab (aa bp (au (fv (au (bV 1) (eV 3))) (eC (.int 0))) (eC (.int 1))) ae))))) bI)
 (ak (bJ 5 (nh qi (ab (eV 5) (ab (aa aO (au (fv (au (bV 1) (eV 3))) (eC (.int 1))) (eC (.int 1))) ae))))
 (ak (br (bf (aa pU (au (fv (au (bV 1) (eV 3))) (eC (.int 1))) (au (bV 4) (eC (.int 1)))))
 z4 bI)
 (gD 3 (eC (.int 1)))))))
 (br (bf (aa jM (eV 5) (au (bV 4) (eC (.int 1)))))
 (cR 2 (aR 3 rR (ab (eV 4) (ab (eV 5) (ab (au (bV 4) (eC (.int 1))) ae))))) bI))))
 (mh 2))))
noncomputable def oT:List D->Option Sl:=aJ DA 6
theorem j6:Wo (oT [a0,a1]) Q↔Wo (DA [.sh a0,.sh a1,.no,.no,.no,.no]) (aK Q):=cI
noncomputable abbrev IX:Stmt:=top 26
noncomputable abbrev Dv{α:Type}(Y:Str->Stmt->List Str->α):α:=Y "without" IX ["form","low","high"]
noncomputable def zh:SF:=
 (ak (br (bf (aa pU (eV 1) (eV 2)))
 (av (eV 0)) bI)
 (av (aR 1 mq (ab (aR 2 oT (ab (eV 0) (ab (bg (ab (bg (ab (eV 1) (ab (eV 2) ae))) ae)) ae))) ae))))
noncomputable def rW:List D->Option Sl:=aJ zh 3
theorem fX:Wo (rW [a0,a1,a2]) Q↔Wo (zh [.sh a0,.sh a1,.sh a2]) (aK Q):=cI
noncomputable abbrev Jb:Stmt:=top 24
noncomputable abbrev Ek{α:Type}(Y:Str->Stmt->List Str->α):α:=Y "moved_row" Jb ["row","count"]
noncomputable def Et:SF:=
 (av (bg (ab (aa aO (au (bV 0) (eC (.int 0))) (eV 1)) (ab (aa aO (au (bV 0) (eC (.int 1))) (eV 1)) (ab (au (bV 0) (eC (.int 2))) (ab (au (bV 0) (eC (.int 3))) ae))))))
noncomputable def wA:List D->Option Sl:=aJ Et 2
theorem g7:Wo (wA [a0,a1]) Q↔Wo (Et [.sh a0,.sh a1]) (aK Q):=cI
noncomputable abbrev HK:Stmt:=top 23
noncomputable abbrev C4{α:Type}(Y:Str->Stmt->List Str->α):α:=Y "moved" HK ["form","count"]
noncomputable def CZ:SF:=
 (av (oE (fv (iq (gL (eV 0)) [1] 1 (gN 0) oB (aR 2 wA (ab (eV 0) (ab (eV 1) ae)))))))
noncomputable def se:List D->Option Sl:=aJ CZ 2
theorem nE:Wo (se [a0,a1]) Q↔Wo (CZ [.sh a0,.sh a1]) (aK Q):=cI
noncomputable abbrev IC:Stmt:=top 22
noncomputable abbrev Df{α:Type}(Y:Str->Stmt->List Str->α):α:=Y "raised" IC ["form","price"]
noncomputable def Dh:SF:=
 (av (oE (fv (iq (gL (eV 0)) [1] 1 (gN 0) oB (bg (ab (au (bV 0) (eC (.int 0))) (ab (au (bV 0) (eC (.int 1))) (ab (aa aO (au (bV 0) (eC (.int 2))) (eV 1)) (ab (au (bV 0) (eC (.int 3))) ae)))))))))
noncomputable def r6:List D->Option Sl:=aJ Dh 2
theorem lO:Wo (r6 [a0,a1]) Q↔Wo (Dh [.sh a0,.sh a1]) (aK Q):=cI
noncomputable abbrev HM:Stmt:=top 21
noncomputable abbrev C6{α:Type}(Y:Str->Stmt->List Str->α):α:=Y "times" HM ["form","many"]
noncomputable def yR:SF:=
 (av (aR 1 mq (ab (iq (gL (eV 0)) [1] 1 (gN 0) oB (bg (ab (au (bV 0) (eC (.int 0))) (ab (au (bV 0) (eC (.int 1))) (ab (aa e9 (au (bV 0) (eC (.int 2))) (eV 1)) (ab (aa e9 (au (bV 0) (eC (.int 3))) (eV 1)) ae)))))) ae)))
noncomputable def mw:List D->Option Sl:=aJ yR 2
theorem jC:Wo (mw [a0,a1]) Q↔Wo (yR [.sh a0,.sh a1]) (aK Q):=cI
noncomputable abbrev I0:Stmt:=top 7
noncomputable abbrev D6{α:Type}(Y:Str->Stmt->List Str->α):α:=Y "stretch_on" I0 ["line","low","first","last"]
noncomputable def D4:SF:=
 (av (bg (ab (eV 2) (ab (eV 3) (ab (aR 3 oS (ab (eV 0) (ab (eV 1) (ab (eV 2) ae)))) (ab (au (bV 0) (eC (.int 1))) ae))))))
noncomputable def oR:List D->Option Sl:=aJ D4 4
theorem gr:Wo (oR [a0,a1,a2,a3]) Q↔Wo (D4 [.sh a0,.sh a1,.sh a2,.sh a3]) (aK Q):=cI
noncomputable abbrev Jg:Stmt:=top 5
noncomputable abbrev Ex{α:Type}(Y:Str->Stmt->List Str->α):α:=Y "span_or_none" Jg ["first","last"]
noncomputable def Ey:SF:=
 (av (n6 (bf (aa jM (eV 0) (eV 1))) (bg (ab (eV 0) (ab (eV 1) ae))) (eC .aI)))
noncomputable def si:List D->Option Sl:=aJ Ey 2
theorem fm:Wo (si [a0,a1]) Q↔Wo (Ey [.sh a0,.sh a1]) (aK Q):=cI
noncomputable abbrev GD:Stmt:=top 1
noncomputable abbrev o7{α:Type}(Y:Str->Stmt->List Str->α):α:=Y "up" GD ["a","b"]
noncomputable def qG:SF:=
 (av (cL (aa bC (cL (eV 0)) (eV 1))))
noncomputable def vV:List D->Option Sl:=aJ qG 2
theorem Ez:Wo (vV [a0,a1]) Q↔Wo (qG [.sh a0,.sh a1]) (aK Q):=cI
noncomputable abbrev Hl:Stmt:=top 2
noncomputable abbrev CJ{α:Type}(Y:Str->Stmt->List Str->α):α:=Y "down" Hl ["a","b"]
noncomputable def CC:SF:=
 (av (aa bC (eV 0) (eV 1)))
noncomputable def wj:List D->Option Sl:=aJ CC 2
theorem qD:Wo (wj [a0,a1]) Q↔Wo (CC [.sh a0,.sh a1]) (aK Q):=cI
noncomputable abbrev Jc:Stmt:=top 4
noncomputable abbrev El{α:Type}(Y:Str->Stmt->List Str->α):α:=Y "no_dearer" Jc ["one","other","low","high"]
noncomputable def Eu:SF:=
 (ak (bJ 4 (aa bp (au (bV 0) (eC (.int 0))) (au (bV 1) (eC (.int 0)))))
 (ak (bJ 5 (aa bp (au (bV 0) (eC (.int 1))) (au (bV 1) (eC (.int 1)))))
 (ak (br (bf (aa pU (eV 5) (eC (.int 0))))
 (av (aR 2 si (ab (eV 2) (ab (nh rG (ab (eV 3) (ab (aa aO (eV 2) (aR 2 wj (ab (cL (eV 4)) (ab (eV 5) ae)))) ae))) ae)))) bI)
 (ak (br (bf (aa gw (eV 5) (eC (.int 0))))
 (av (aR 2 si (ab (nh qi (ab (eV 2) (ab (aa aO (eV 2) (aR 2 vV (ab (eV 4) (ab (cL (eV 5)) ae)))) ae))) (ab (eV 3) ae)))) bI)
 (av (n6 (bf (aa pU (eV 4) (eC (.int 0)))) (eC .aI) (bg (ab (eV 2) (ab (eV 3) ae)))))))))
noncomputable def wB:List D->Option Sl:=aJ Eu 6
theorem g0:Wo (wB [a0,a1,a2,a3]) Q↔Wo (Eu [.sh a0,.sh a1,.sh a2,.sh a3,.no,.no]) (aK Q):=cI
noncomputable abbrev IZ:Stmt:=top 6
noncomputable abbrev D5{α:Type}(Y:Str->Stmt->List Str->α):α:=Y "lower_line" IZ ["one","other","low","high"]
noncomputable def Em:SF:=
 (ak (bJ 4 (aR 4 wB (ab (eV 0) (ab (eV 1) (ab (eV 2) (ab (eV 3) ae))))))
 (ak (br (bf (aa gK (eV 4) (eC .aI)))
 (av (bO (ab (aR 4 oR (ab (eV 1) (ab (eV 2) (ab (eV 2) (ab (eV 3) ae))))) ae))) bI)
 (ak (de 5 (bO ae))
 (ak (br (bf (aa gw (eV 2) (au (bV 4) (eC (.int 0)))))
 (cR 5 (aR 4 oR (ab (eV 1) (ab (eV 2) (ab (eV 2) (ab (aa bp (au (bV 4) (eC (.int 0))) (eC (.int 1))) ae)))))) bI)
 (ak (cR 5 (aR 4 oR (ab (eV 0) (ab (eV 2) (ab (au (bV 4) (eC (.int 0))) (ab (au (bV 4) (eC (.int 1))) ae))))))
 (ak (br (bf (aa gw (au (bV 4) (eC (.int 1))) (eV 3)))
 (cR 5 (aR 4 oR (ab (eV 1) (ab (eV 2) (ab (aa aO (au (bV 4) (eC (.int 1))) (eC (.int 1))) (ab (eV 3) ae)))))) bI)
 (mh 5)))))))
noncomputable def wD:List D->Option Sl:=aJ Em 6
theorem gu:Wo (wD [a0,a1,a2,a3]) Q↔Wo (Em [.sh a0,.sh a1,.sh a2,.sh a3,.no,.no]) (aK Q):=cI
noncomputable abbrev Ja:Stmt:=top 20
noncomputable abbrev Ej{α:Type}(Y:Str->Stmt->List Str->α):α:=Y "line_from" Ja ["row","low"]
noncomputable def Es:SF:=
 (av (bg (ab (aR 2 qA (ab (eV 0) (ab (eV 1) ae))) (ab (au (bV 0) (eC (.int 3))) ae))))
noncomputable def su:List D->Option Sl:=aJ Es 2
theorem g8:Wo (su [a0,a1]) Q↔Wo (Es [.sh a0,.sh a1]) (aK Q):=cI
noncomputable abbrev G6:Stmt:=top 19
noncomputable abbrev Cr{α:Type}(Y:Str->Stmt->List Str->α):α:=Y "met" G6 ["one","other"]
noncomputable def G0:En->Nat:=λ_=>1000000
noncomputable def Cj:SF:=
 (ak (de 2 (bO ae))
 (ak (bJ 3 (eC (.int 0)))
 (ak (bJ 4 (eC (.int 0)))
 (ak (vX G0 (ku (bf (aa gw (eV 3) (eI (bV 0)))) (bf (aa gw (eV 4) (eI (bV 1)))))
 (ak (bJ 5 (au (bV 0) (eV 3)))
 (ak (bJ 6 (au (bV 1) (eV 4)))
 (ak (bJ 7 (nh qi (ab (au (bV 5) (eC (.int 0))) (ab (au (bV 6) (eC (.int 0))) ae))))
 (ak (bJ 8 (nh rG (ab (au (bV 5) (eC (.int 1))) (ab (au (bV 6) (eC (.int 1))) ae))))
 (ak (br (bf (aa jM (eV 7) (eV 8)))
 (cR 2 (bg (ab (eV 7) (ab (eV 8) (ab (aR 2 su (ab (eV 5) (ab (eV 7) ae))) (ab (aR 2 su (ab (eV 6) (ab (eV 7) ae))) ae)))))) bI)
 (br (bf (aa gw (au (bV 5) (eC (.int 1))) (au (bV 6) (eC (.int 1)))))
 (gD 3 (eC (.int 1))) (gD 4 (eC (.int 1))))))))))
 (mh 2)))))
noncomputable def rS:List D->Option Sl:=aJ Cj 9
theorem wO:Wo (rS [a0,a1]) Q↔Wo (Cj [.sh a0,.sh a1,.no,.no,.no,.no,.no,.no,.no]) (aK Q):=cI
noncomputable abbrev Jk:Stmt:=top 30
noncomputable abbrev Ee{α:Type}(Y:Str->Stmt->List Str->α):α:=Y "lesser_rows" Jk ["one","other"]
noncomputable def Ea:SF:=
 (ak (de 2 (bO ae))
 (ak (dQ (aR 2 rS (ab (eV 0) (ab (eV 1) ae))) (gT 4 (mj (gN 3) (mj (gN 4) (mj (gN 5) (mj (gN 6) yC)))))
 (iF 2 (aR 4 wD (ab (eV 5) (ab (eV 6) (ab (eV 3) (ab (eV 4) ae)))))))
 (mh 2)))
noncomputable def sk:List D->Option Sl:=aJ Ea 7
theorem fM:Wo (sk [a0,a1]) Q↔Wo (Ea [.sh a0,.sh a1,.no,.no,.no,.no,.no]) (aK Q):=cI
noncomputable abbrev IG:Stmt:=top 31
noncomputable abbrev DW{α:Type}(Y:Str->Stmt->List Str->α):α:=Y "greatest" IG ["one","other"]
noncomputable def DO:SF:=
 (av (aR 2 mw (ab (aR 1 mq (ab (aR 2 sk (ab (aR 2 mw (ab (eV 0) (ab (cL (eC (.int 1))) ae))) (ab (aR 2 mw (ab (eV 1) (ab (cL (eC (.int 1))) ae))) ae))) ae)) (ab (cL (eC (.int 1))) ae))))
noncomputable def rX:List D->Option Sl:=aJ DO 2
theorem jh:Wo (rX [a0,a1]) Q↔Wo (DO [.sh a0,.sh a1]) (aK Q):=cI
noncomputable abbrev Hn:Stmt:=top 18
noncomputable abbrev CL{α:Type}(Y:Str->Stmt->List Str->α):α:=Y "plus" Hn ["one","other"]
noncomputable def CF:SF:=
 (av (aR 1 mq (ab (iq (gL (aR 2 rS (ab (eV 0) (ab (eV 1) ae)))) [] 4 (gT 4 (mj (gN 0) (mj (gN 1) (mj (gN 2) (mj (gN 3) yC))))) oB (bg (ab (eV 0) (ab (eV 1) (ab (aa aO (au (bV 2) (eC (.int 0))) (au (bV 3) (eC (.int 0)))) (ab (aa aO (au (bV 2) (eC (.int 1))) (au (bV 3) (eC (.int 1)))) ae)))))) ae)))
noncomputable def rT:List D->Option Sl:=aJ CF 2
theorem qB:Wo (rT [a0,a1]) Q↔Wo (CF [.sh a0,.sh a1]) (aK Q):=cI
noncomputable abbrev IM:Stmt:=top 16
noncomputable abbrev D2{α:Type}(Y:Str->Stmt->List Str->α):α:=Y "spans_of" IM ["form"]
noncomputable def DT:SF:=
 (ak (de 1 (bO ae))
 (ak (dQ (eV 0) (gN 2)
 (br (ku (vS (bV 1)) (bf (aa aY (aa aO (au (fv (au (bV 1) (cL (eC (.int 1))))) (eC (.int 1))) (eC (.int 1))) (au (bV 2) (eC (.int 0))))))
 (ak (iE 3 1)
 (cR 1 (bg (ab (au (bV 3) (eC (.int 0))) (ab (au (bV 2) (eC (.int 1))) ae))))) (cR 1 (bg (ab (au (bV 2) (eC (.int 0))) (ab (au (bV 2) (eC (.int 1))) ae))))))
 (av (oE (bV 1)))))
noncomputable def qx:List D->Option Sl:=aJ DT 4
theorem jc:Wo (qx [a0]) Q↔Wo (DT [.sh a0,.no,.no,.no]) (aK Q):=cI
noncomputable abbrev HJ:Stmt:=top 29
noncomputable abbrev C3{α:Type}(Y:Str->Stmt->List Str->α):α:=Y "least" HJ ["one","other"]
noncomputable def CY:SF:=
 (ak (bJ 2 (aa aO (aR 2 oT (ab (eV 0) (ab (aR 1 qx (ab (eV 1) ae)) ae))) (aR 2 oT (ab (eV 1) (ab (aR 1 qx (ab (eV 0) ae)) ae)))))
 (av (aR 1 mq (ab (yV (aa aO (aR 2 sk (ab (eV 0) (ab (eV 1) ae))) (eV 2))) ae))))
noncomputable def sd:List D->Option Sl:=aJ CY 3
theorem nF:Wo (sd [a0,a1]) Q↔Wo (CY [.sh a0,.sh a1,.no]) (aK Q):=cI
noncomputable abbrev IJ:Stmt:=top 41
noncomputable abbrev DZ{α:Type}(Y:Str->Stmt->List Str->α):α:=Y "_law_deed" IJ ["cell","form"]
noncomputable def nz:SF:=
 (ak (bJ 2 (aa aX (eV 0) (eC (.int 8))))
 (ak (br (bf (aa gw (eV 2) (eC (.int 2))))
 (av (aR 2 sd (ab (eV 1) (ab (aR 1 sr (ab (aa bC (eV 0) (eC (.int 8))) ae)) ae)))) bI)
 (ak (br (bf (aa aY (eV 2) (eC (.int 2))))
 (av (aR 2 rT (ab (eV 1) (ab (aR 1 qw (ab (eV 0) ae)) ae)))) bI)
 (ak (br (bf (aa aY (eV 2) (eC (.int 3))))
 (av (aR 2 rX (ab (eV 1) (ab (aR 1 qw (ab (eV 0) ae)) ae)))) bI)
 (ak (br (bf (aa aY (eV 2) (eC (.int 4))))
 (av (aR 2 mw (ab (eV 1) (ab (au (fv (bO (ab (cL (eC (.int 1))) (ab (eC (.int 2)) ae)))) (aa aX (aa bC (eV 0) (eC (.int 8))) (eC (.int 2)))) ae)))) bI)
 (ak (br (bf (aa aY (eV 2) (eC (.int 5))))
 (av (aR 2 r6 (ab (eV 1) (ab (aa bp (aa aX (aa bC (eV 0) (eC (.int 8))) (eC (.int 21))) (eC (.int 10))) ae)))) bI)
 (ak (br (bf (aa aY (eV 2) (eC (.int 6))))
 (av (aR 2 se (ab (eV 1) (ab (aa bp (aa aX (aa bC (eV 0) (eC (.int 8))) (eC (.int 11))) (eC (.int 5))) ae)))) bI)
 (ak (bJ 3 (aa bp (aa aX (aa bC (eV 0) (eC (.int 8))) (eC (.int 9))) (eC (.int 4))))
 (av (aR 3 rW (ab (eV 1) (ab (eV 3) (ab (aa aO (aa aO (eV 3) (eC (.int 1))) (aa aX (aa bC (eV 0) (eC (.int 72))) (eC (.int 3)))) ae)))))))))))))
noncomputable def wx:List D->Option Sl:=aJ nz 4
theorem bq:Wo (wx [a0,a1]) Q↔Wo (nz [.sh a0,.sh a1,.no,.no]) (aK Q):=cI
noncomputable abbrev Ji:Stmt:=top 34
noncomputable abbrev Ec{α:Type}(Y:Str->Stmt->List Str->α):α:=Y "_law_numbers" Ji ["script","start","most"]
noncomputable def D8:SF:=
 (ak (de 3 (bO ae))
 (ak (Cs (lu yv (ab (eV 1) (ab (eI (bV 0)) ae))) (gN 4)
 (br (bf (aa gw (eI (bV 3)) (eV 2)))
 (cR 3 (aa aX (au (bV 0) (eV 4)) (aa iP (eC (.int 10)) (eC (.int 45))))) (rD 3 (aa aX (aa aO (aa e9 (au (bV 3) (aa aX (eV 4) (eV 2))) (eC (.int 10007))) (au (bV 0) (eV 4))) (aa iP (eC (.int 10)) (eC (.int 45)))) (aa aX (eV 4) (eV 2)))))
 (mh 3)))
noncomputable def sj:List D->Option Sl:=aJ D8 5
theorem fO:Wo (sj [a0,a1,a2]) Q↔Wo (D8 [.sh a0,.sh a1,.sh a2,.no,.no]) (aK Q):=cI
noncomputable abbrev vY:Stmt:=top 44
noncomputable abbrev sA{α:Type}(Y:Str->Stmt->List Str->α):α:=Y "law" vY ["script"]
noncomputable def Ci:SF:=
 (ak (bJ 1 (aR 3 sj (ab (eV 0) (ab (eC (.int 3)) (ab (eC (.int 24)) ae)))))
 (ak (de 2 (bO (ab (bg (ab (bg (ab (eC (.int 0)) (ab (eC (.int 0)) (ab (eC (.int 0)) (ab (eC (.int 0)) ae))))) ae)) ae)))
 (ak (de 3 (bO (ab (vQ (fv (au (bV 2) (eC (.int 0))))) ae)))
 (ak (dQ (eV 1) (gN 4)
 (ak (cR 2 (aR 2 wx (ab (eV 4) (ab (au (bV 2) (cL (eC (.int 1)))) ae))))
 (ak (br (oA (eS (aR 1 wy (ab (au (bV 2) (cL (eC (.int 1)))) ae))))
 (av (eC (.bl false))) bI)
 (cR 3 (vQ (fv (au (bV 2) (cL (eC (.int 1))))))))))
 (ak (bJ 5 (iq (lu yu (ab (eC (.int 22)) ae)) [] 1 (gN 0) oB (aa bp (eV 0) (eC (.int 10)))))
 (ak (bJ 5 (aa aO (eV 5) (bO (ab (aa aX (aR 2 rY (ab (eV 0) (ab (eC (.int 1)) ae))) (aa iP (eC (.int 10)) (eC (.int 30)))) (ab (aa bp (aa aX (aR 2 rY (ab (eV 0) (ab (eC (.int 2)) ae))) (eC (.int 1000))) (eC (.int 500))) ae)))))
 (ak (dQ (eV 5) (gN 6)
 (ak (bJ 7 (aR 2 wH (ab (eV 1) (ab (eV 6) ae))))
 (br (eT (bf (aa dr (aR 2 wG (ab (au (bV 2) (cL (eC (.int 1)))) (ab (eV 6) ae))) (eV 7))) (bf (aa dr (aR 2 ny (ab (au (bV 2) (cL (eC (.int 1)))) (ab (eV 6) ae))) (eV 7))))
 (av (eC (.bl false))) bI)))
 (kH 3 (kH 2 (av (aa aY (iq (gL (eV 2)) [] 1 (gN 0) oB (vQ (bV 0))) (eV 3))))))))))))
noncomputable def yO:List D->Option Sl:=aJ Ci 8
theorem wQ:Wo (yO [a0]) Q↔Wo (Ci [.sh a0,.no,.no,.no,.no,.no,.no,.no]) (aK Q):=cI
section
variable {P:Program}{w:World}{K:aC}{mg:Str->Option Value}{base:Heap}
variable (z_max:mg "max" = none)
variable (z_min:mg "min" = none)
variable (z_tuple:mg "tuple" = none)
variable (z_len:mg "len" = none)
variable (z_sorted:mg "sorted" = none)
variable (z_range:mg "range" = none)
variable (z_isinstance:mg "isinstance" = none)
variable (z_bool:mg "bool" = none)
variable (z_int:mg "int" = none)
variable (z_list:mg "list" = none)
theorem Ug(D':DY (Def K mg) a d):DY (Oz P w K mg base) 1 ny:=aU (N:=["parts","x","part"]) D' λX r h=>by
 cases r
 exact (aE (ml h.own h.calm (h.v 0) (h.tg 2) (aD (bL (dM (qm (bt m9 (aw (h.bv 2) ag) (h.v 1)) (qr (bt m9 (h.v 1) (aw (h.bv 2) ag))))) (aD (bh (az c9 (aw (h.bv 2) ag) (az oF (aw (h.bv 2) ag) (az eL (h.v 1) (aw (h.bv 2) ag)))))) cq))) (aD (bh jA)))
variable (oK:DY (Oz P w K mg base) 1 ny)
theorem To(D':Dt (Def K mg) a d):Dt (Oz P w K mg base) 1 oS:=aU (N:=["line","low","x"]) D' λX r h=>by
 cases r
 exact (aD (bh (az c9 (aw (h.bv 0) ag) (az oF (aw (h.bv 0) ag) (az eL (h.v 2) (h.v 1))))))
variable (mv:Dt (Oz P w K mg base) 1 oS)
include mv in
theorem Uc(D':DV (Def K mg) a d):DV (Oz P w K mg base) 2 qA:=aU (N:=["row","x"]) D' λX r h=>by
 cases r
 exact (aD (bh (h.cl mv (ah (eu (ah (aw (h.bv 0) ag) (ah (aw (h.bv 0) ag) aB))) (ah (aw (h.bv 0) ag) (ah (h.v 1) aB))))))
variable (mz:DV (Oz P w K mg base) 2 qA)
include z_len in
theorem Uj(D':D1 (Def K mg) a d):D1 (Oz P w K mg base) 1 rZ:=aU (N:=["form","x","first","behind","middle"]) D' λX r h=>by
 cases r
 exact (aE (h.aM 2 ag) (aE (h.aM 3 (mi h.g z_len (h.bv 0))) (aE (De IS h.own (bt iu (h.v 2) (h.v 3)) (aE (h.aM 4 (az dY (az c9 (h.v 2) (h.v 3)) ag)) (aD (bL (bt iu (aw (fW (aw (h.bv 0) (h.v 4))) ag) (h.v 1)) (aD (h.aM 2 (az c9 (h.v 4) ag))) (aD (h.aM 3 (h.v 4))))))) (aD (bh (h.v 2))))))
variable (zt:D1 (Oz P w K mg base) 1 rZ)
include z_len mz zt in
theorem Ti(D':Dq (Def K mg) a d):Dq (Oz P w K mg base) 3 wG:=aU (N:=["form","x","place"]) D' λX r h=>by
 cases r
 exact (aE (h.aM 2 (h.cl zt (ah (h.v 0) (ah (h.v 1) aB)))) (aE (bL (dM (rF (bt (dZ h.u8) (h.v 2) (mi h.g z_len (h.bv 0))) (rQ (bt iu (h.v 1) (aw (fW (aw (h.bv 0) (h.v 2))) ag))))) (aD (bh jA)) cq) (aD (bh (h.cl mz (ah (aw (h.bv 0) (h.v 2)) (ah (h.v 1) aB)))))))
variable (zi:Dq (Oz P w K mg base) 3 wG)
theorem Ui(D':D0 (Def K mg) a d):D0 (Oz P w K mg base) 1 qw:=aU (N:=["cell"]) D' λX r h=>by
 cases r
 exact (aD (bh (eu (ah (eu (ah (gU ag) (ah (az vU ag ag) (ah (az eL (az da (az dY (h.v 0) ag) ag) ag) (ah (az eL (az da (az dY (h.v 0) ag) ag) ag) aB))))) aB))))
variable (oM:D0 (Oz P w K mg base) 1 qw)
include z_tuple in
theorem T2(D':Eh (Def K mg) a d):Eh (Oz P w K mg base) 1 sr:=aU (N:=["cell","m","low","high","step","told"]) D' λX r h=>by
 cases r
 exact (aE (h.aM 1 (az da (az oF (h.v 0) ag) ag)) (aE (h.aM 2 (az eL (az da (h.v 1) ag) ag)) (aE (h.aM 3 (az c9 (h.v 2) (az da (az dY (h.v 1) ag) ag))) (aE (bL (bt (dZ h.u8) (az da (az dY (h.v 1) ag) ag) ag) (aD (h.aM 3 (az c9 (h.v 2) (az da (az dY (h.v 0) ag) (az vU ag ag))))) cq) (aE (h.aM 4 (az eL (az da (az dY (h.v 1) ag) ag) ag)) (aE (bL (bt (dZ h.u8) (az da (az dY (h.v 1) ag) ag) ag) (aD (h.aM 4 (az eL (az da (az dY (h.v 0) ag) ag) ag))) cq) (aE (bL (bt (dZ h.u8) (h.v 2) (h.v 3)) (aD (h.aM 4 ag)) cq) (aE (h.set 5 (gA (ah (eu (ah (h.v 2) (ah (h.v 3) (ah (az eL (az da (az dY (h.v 1) ag) ag) ag) (ah (h.v 4) aB))))) aB))) (aE (bL (bt (dZ h.u8) (az da (az dY (h.v 1) ag) ag) ag) (aD (h.app 5 (eu (ah (az c9 (h.v 3) ag) (ah (az c9 (h.v 3) ag) (ah (az da (az dY (h.v 1) ag) ag) (ah ag aB))))))) cq) (aD (bh (wb h.g z_tuple (h.bv 5)))))))))))))
variable (qu:Eh (Oz P w K mg base) 1 sr)
include z_max z_min z_int oK oM qu in
theorem Tn(D':Ds (Def K mg) a d):Ds (Oz P w K mg base) 2 wI:=aU (N:=["cell","x","cost","way","other","low"]) D' λX r h=>by
 cases r
 exact (aE (h.aM 3 (az da (h.v 0) ag)) (aE (bL (bt iu (h.v 3) ag) (aE (h.aM 4 (h.cl oK (ah (h.cl qu (ah (az dY (h.v 0) ag) aB)) (ah (h.v 1) aB)))) (aE (bL (dM (rF (bt rO (h.v 2) jA) (rQ (bt rO (h.v 4) jA)))) (aD (bh (aw (fW (gA (ah (h.v 2) (ah (h.v 4) aB)))) (QY h.g z_int (rJ rO (h.v 2) jA))))) cq) (aD (bh (qp (CP h.calm) h.g z_min (by decide +kernel) (ah (h.v 2) (ah (h.v 4) aB))))))) cq) (aE (bL (bt (dZ h.u8) (h.v 3) ag) (aE (h.aM 5 (az eL (az da (az dY (h.v 0) ag) ag) ag)) (aE (bL (dM (qm (bt m9 (h.v 5) (h.v 1)) (qr (bt m9 (h.v 1) (az c9 (az c9 (h.v 5) ag) (az da (az dY (h.v 0) ag) ag)))))) (aD (bh jA)) cq) (aD (bh (h.v 2))))) cq) (aE (bL (bt rO (h.v 2) jA) (aD (bh jA)) cq) (aE (bL (bt (dZ h.u8) (h.v 3) ag) (aD (bh (az oF (h.v 2) (aw (fW (gA (ah (gU ag) (ah ag aB)))) (az da (az dY (h.v 0) ag) ag))))) cq) (aE (bL (bt (dZ h.u8) (h.v 3) ag) (aD (bh (az eL (az c9 (h.v 2) (az da (az dY (h.v 0) ag) ag)) ag))) cq) (aE (h.aM 4 (h.cl oK (ah (h.cl oM (ah (h.v 0) aB)) (ah (h.v 1) aB)))) (aE (bL (bt rO (h.v 4) jA) (aD (bh jA)) cq) (aE (bL (bt (dZ h.u8) (h.v 3) ag) (aD (bh (az c9 (h.v 2) (h.v 4)))) cq) (aD (bh (qp (yU h.calm) h.g z_max (by decide +kernel) (ah (h.v 2) (ah (h.v 4) aB))))))))))))))
variable (za:Ds (Oz P w K mg base) 2 wI)
include za in
theorem Tj(D':Dr (Def K mg) a d):Dr (Oz P w K mg base) 3 wH:=aU (N:=["cells","x","at","cell","cost"]) D' λX r h=>by
 cases r
 exact (aE (h.aM 2 (h.v 1)) (aE (ml h.own h.calm (h.v 0) (h.tg 3) (aD (bL (bt (dZ h.u8) (az da (h.v 3) ag) ag) (aD (h.aM 2 (az eL (h.v 2) (az eL (az da (az dY (h.v 3) ag) ag) ag)))) cq))) (aE (h.aM 4 jA) (aE (bL (bt (dZ h.u8) (h.v 2) ag) (aD (h.aM 4 ag)) cq) (aE (ml h.own h.calm (h.v 0) (h.tg 3) (aD (bL (bt (dZ h.u8) (az da (h.v 3) ag) ag) (aD (h.aM 2 (az eL (az c9 (h.v 2) (az da (az dY (h.v 3) ag) ag)) ag))) (aD (h.aM 4 (h.cl za (ah (h.v 3) (ah (h.v 2) (ah (h.v 4) aB))))))))) (aD (bh (h.v 4))))))))
variable (y':Dr (Oz P w K mg base) 3 wH)
include z_len in
theorem Ue(D':DX (Def K mg) a d):DX (Oz P w K mg base) 1 rY:=aU (N:=["script","k"]) D' λX r h=>by
 cases r
 exact (aE (bL (bt iu (h.v 1) (mi h.g z_len (h.bv 0))) (aD (bh (aw (h.bv 0) (h.v 1)))) cq) (aD (bh ag)))
variable (wJ:DX (Oz P w K mg base) 1 rY)
include z_isinstance z_bool z_int in
theorem T3(D':Ei (Def K mg) a d):Ei (Oz P w K mg base) 1 wz:=aU (N:=["found"]) D' λX r h=>by
 cases r
 exact (aD (bh (GR (yN (cw rfl) h.g z_isinstance h.g z_int (by decide +kernel) (h.v 0)) (CB (PZ (yN (bo (cw rfl)) h.g z_isinstance h.g z_bool (by decide +kernel) (h.v 0)))))))
variable (zm:Ei (Oz P w K mg base) 1 wz)
include z_tuple z_len z_isinstance zm in
theorem Uv(D':Ed (Def K mg) a d):Ed (Oz P w K mg base) 2 wM:=aU (N:=["part","number"]) D' λX r h=>by
 cases r
 exact (aE (bL (dM (rF (v3 (oC (yN (bo (bo (bo (bo rfl)))) h.g z_isinstance h.g z_tuple (by decide +kernel) (h.v 0)))) (rQ (bt (yJ h.u8) (mi h.g z_len (h.bv 0)) ag)))) (aD (bh m8)) cq) (aE (ml h.own h.calm (h.v 0) (h.tg 1) (aD (bL (v3 (oC (h.cl zm (ah (h.v 1) aB)))) (aD (bh m8)) cq))) (aD (bh (uV (rJ iu (aw (h.bv 0) ag) (aw (h.bv 0) ag)) (CB (GR (rJ (dZ h.u8) (aw (h.bv 0) ag) (aw (h.bv 0) ag)) (CB (rJ (dZ h.u8) (aw (h.bv 0) ag) ag)))))))))
variable (zy:Ed (Oz P w K mg base) 2 wM)
include z_tuple z_len z_range z_isinstance zy in
theorem T1(D':Eg (Def K mg) a d):Eg (Oz P w K mg base) 3 wy:=aU (N:=["value","k","ahead","on"]) D' λX r h=>by
 cases r
 exact (aE (bL (v3 (oC (yN (bo (bo (bo (bo rfl)))) h.g z_isinstance h.g z_tuple (by decide +kernel) (h.v 0)))) (aD (bh m8)) cq) (aE (Rz h.own h.calm h.g z_range (ah (mi h.g z_len (h.bv 0)) aB) (h.tg 1) (aE (bL (v3 (oC (h.cl zy (ah (aw (h.bv 0) (h.v 1)) aB)))) (aD (bh m8)) cq) (aD (bL (bt vN (h.v 1) ag) (aE (h.aM 2 (aw (h.bv 0) (az eL (h.v 1) ag))) (aE (bL (bt m9 (aw (fW (aw (h.bv 0) (h.v 1))) ag) (aw (h.bv 2) ag)) (aD (bh m8)) cq) (aE (h.aM 3 (az c9 (aw (h.bv 2) ag) (az oF (aw (h.bv 2) ag) (az eL (aw (fW (aw (h.bv 0) (h.v 1))) ag) (aw (h.bv 2) ag))))) (aD (bL (dM (qm (bt (dZ h.u8) (aw (fW (aw (h.bv 0) (h.v 1))) ag) (az c9 (aw (h.bv 2) ag) ag)) (qr (dM (rF (bt (dZ h.u8) (aw (h.bv 2) ag) (aw (h.bv 2) ag)) (rQ (bt (dZ h.u8) (aw (fW (aw (h.bv 0) (h.v 1))) ag) (h.v 3)))))))) (aD (bh m8)) cq))))) cq)))) (aD (bh m8))))
variable (zl:Eg (Oz P w K mg base) 3 wy)
theorem TZ(D':Ef (Def K mg) a d):Ef (Oz P w K mg base) 1 oU:=aU (N:=["row"]) D' λX r h=>by
 cases r
 exact (aD (bh (rJ (dZ h.u8) (aw (h.bv 0) ag) (aw (h.bv 0) ag))))
variable (oV:Ef (Oz P w K mg base) 1 oU)
include oV in
theorem Rm(D':C5 (Def K mg) a d):C5 (Oz P w K mg base) 2 nr:=aU (N:=["row"]) D' λX r h=>by
 cases r
 exact (aD (bh (yA (oC (h.cl oV (ah (h.v 0) aB))) (eu (ah (aw (h.bv 0) ag) (ah (aw (h.bv 0) ag) (ah (aw (h.bv 0) ag) (ah ag aB))))) (h.v 0))))
variable (oH:C5 (Oz P w K mg base) 2 nr)
include mv oV oH in
theorem Ut(D':Eb (Def K mg) a d):Eb (Oz P w K mg base) 3 wN:=aU (N:=["ahead","row","step","rest"]) D' λX r h=>by
 cases r
 exact (aE (h.aM 2 (yA (oC (h.cl oV (ah (h.v 0) aB))) (az eL (aw (h.bv 1) ag) (aw (h.bv 0) ag)) (aw (h.bv 0) ag))) (aE (bL (bt (yJ h.u8) (aw (h.bv 1) ag) (h.cl mv (ah (eu (ah (aw (h.bv 0) ag) (ah (h.v 2) aB))) (ah (aw (h.bv 0) ag) (ah (aw (h.bv 1) ag) aB))))) (aD (bh (gA (ah (h.v 0) (ah (h.cl oH (ah (h.v 1) aB)) aB))))) cq) (aE (bL (dM (rF (oC (h.cl oV (ah (h.v 1) aB))) (rQ (bt (dZ h.u8) (aw (h.bv 1) ag) (h.v 2))))) (aD (bh (gA (ah (eu (ah (aw (h.bv 0) ag) (ah (aw (h.bv 1) ag) (ah (aw (h.bv 0) ag) (ah (h.v 2) aB))))) aB)))) cq) (aE (h.aM 3 (h.cl oH (ah (eu (ah (az c9 (aw (h.bv 1) ag) ag) (ah (aw (h.bv 1) ag) (ah (az c9 (aw (h.bv 1) ag) (aw (h.bv 1) ag)) (ah (aw (h.bv 1) ag) aB))))) aB))) (aD (bh (gA (ah (eu (ah (aw (h.bv 0) ag) (ah (aw (h.bv 1) ag) (ah (aw (h.bv 0) ag) (ah (h.v 2) aB))))) (ah (h.v 3) aB)))))))))
variable (zw:Eb (Oz P w K mg base) 3 wN)
include z_tuple oH zw in
theorem Qz(D':CK (Def K mg) a d):CK (Oz P w K mg base) 4 mq:=aU (N:=["rows","made","row","ahead"]) D' λX r h=>by
 cases r
 exact (aE (h.set 1 (gA aB)) (aE (ml h.own h.calm (h.v 0) (h.tg 2) (aD (bL (dM (qm (Ho (h.bv 1)) (qr (bt (dZ h.u8) (az c9 (aw (fW (aw (h.bv 1) (gU ag))) ag) ag) (aw (h.bv 2) ag))))) (aE (h.pop 3 1) (aD (h.ext 1 (h.cl zw (ah (h.v 3) (ah (h.v 2) aB)))))) (aD (h.app 1 (h.cl oH (ah (h.v 2) aB))))))) (aD (bh (wb h.g z_tuple (h.bv 1))))))
variable (iy:CK (Oz P w K mg base) 4 mq)
include mz in
theorem Py(D':Cq (Def K mg) a d):Cq (Oz P w K mg base) 3 rR:=aU (N:=["row","low","high"]) D' λX r h=>by
 cases r
 exact (aD (bh (eu (ah (h.v 1) (ah (h.v 2) (ah (h.cl mz (ah (h.v 0) (ah (h.v 1) aB))) (ah (aw (h.bv 0) ag) aB)))))))
variable (vR:Cq (Oz P w K mg base) 3 rR)
include z_max z_len vR in
theorem Tp(D':Du (Def K mg) a d):Du (Oz P w K mg base) 4 oT:=aU (N:=["form","spans","rows","place","row","low"]) D' λX r h=>by
 cases r
 exact (aE (h.set 2 (gA aB)) (aE (h.aM 3 ag) (aE (ml h.own h.calm (h.v 0) (h.tg 4) (aE (h.aM 5 (aw (h.bv 4) ag)) (aE (De Iu h.own (dM (qm (bt iu (h.v 3) (mi h.g z_len (h.bv 1))) (qr (bt m9 (aw (fW (aw (h.bv 1) (h.v 3))) ag) (aw (h.bv 4) ag))))) (aE (bL (bt iu (h.v 5) (aw (fW (aw (h.bv 1) (h.v 3))) ag)) (aD (h.app 2 (h.cl vR (ah (h.v 4) (ah (h.v 5) (ah (az eL (aw (fW (aw (h.bv 1) (h.v 3))) ag) ag) aB)))))) cq) (aE (h.aM 5 (qp (yU h.calm) h.g z_max (by decide +kernel) (ah (h.v 5) (ah (az c9 (aw (fW (aw (h.bv 1) (h.v 3))) ag) ag) aB)))) (aE (bL (bt vN (aw (fW (aw (h.bv 1) (h.v 3))) ag) (aw (h.bv 4) ag)) (aD Ry) cq) (aD (h.aug 3 ag)))))) (aD (bL (bt m9 (h.v 5) (aw (h.bv 4) ag)) (aD (h.app 2 (h.cl vR (ah (h.v 4) (ah (h.v 5) (ah (aw (h.bv 4) ag) aB)))))) cq))))) (aD (h.kK 2)))))
variable (oJ:Du (Oz P w K mg base) 4 oT)
include iy oJ in
theorem Tq(D':Dv (Def K mg) a d):Dv (Oz P w K mg base) 5 rW:=aU (N:=["form","low","high"]) D' λX r h=>by
 cases r
 exact (aE (bL (bt vN (h.v 1) (h.v 2)) (aD (bh (h.v 0))) cq) (aD (bh (h.cl iy (ah (h.cl oJ (ah (h.v 0) (ah (eu (ah (eu (ah (h.v 1) (ah (h.v 2) aB))) aB)) aB))) aB)))))
variable (zb:Dv (Oz P w K mg base) 5 rW)
theorem T5(D':Ek (Def K mg) a d):Ek (Oz P w K mg base) 1 wA:=aU (N:=["row","count"]) D' λX r h=>by
 cases r
 exact (aD (bh (eu (ah (az c9 (aw (h.bv 0) ag) (h.v 1)) (ah (az c9 (aw (h.bv 0) ag) (h.v 1)) (ah (aw (h.bv 0) ag) (ah (aw (h.bv 0) ag) aB)))))))
variable (zo:Ek (Oz P w K mg base) 1 wA)
include z_tuple zo in
theorem Rk(D':C4 (Def K mg) a d):C4 (Oz P w K mg base) 2 se:=aU (N:=["form","count"]) D' λX r h=>by
 cases r
 exact (aD (bh (wb h.g z_tuple (fW (v8 (N':=["row","count"]) (caps:=[1]) (nt:=1) h ⟨rfl,by decide +kernel,by decide +kernel,by decide +kernel,by decide +kernel,rfl,rfl,by decide +kernel⟩ (vT (h.v 0)) (λX1 jS jR jQ iR jP h1=>⟨(h1.tg 0),rL,(h1.cl (Ah jS jR jQ iR jP zo) (ah (h1.v 0) (ah (h1.v 1) aB)))⟩))))))
variable (yT:C4 (Oz P w K mg base) 2 se)
include z_tuple in
theorem SN(D':Df (Def K mg) a d):Df (Oz P w K mg base) 1 r6:=aU (N:=["form","price"]) D' λX r h=>by
 cases r
 exact (aD (bh (wb h.g z_tuple (fW (v8 (N':=["row","price"]) (caps:=[1]) (nt:=1) h ⟨rfl,by decide +kernel,by decide +kernel,by decide +kernel,by decide +kernel,rfl,rfl,by decide +kernel⟩ (vT (h.v 0)) (λX1 jS jR jQ iR jP h1=>⟨(h1.tg 0),rL,(eu (ah (aw (h1.bv 0) ag) (ah (aw (h1.bv 0) ag) (ah (az c9 (aw (h1.bv 0) ag) (h1.v 1)) (ah (aw (h1.bv 0) ag) aB)))))⟩))))))
variable (y0:Df (Oz P w K mg base) 1 r6)
include iy in
theorem Rn(D':C6 (Def K mg) a d):C6 (Oz P w K mg base) 5 mw:=aU (N:=["form","many"]) D' λX r h=>by
 cases r
 exact (aD (bh (h.cl iy (ah (v8 (N':=["row","many"]) (caps:=[1]) (nt:=1) h ⟨rfl,by decide +kernel,by decide +kernel,by decide +kernel,by decide +kernel,rfl,rfl,by decide +kernel⟩ (vT (h.v 0)) (λX1 jS jR jQ iR jP h1=>⟨(h1.tg 0),rL,(eu (ah (aw (h1.bv 0) ag) (ah (aw (h1.bv 0) ag) (ah (az oF (aw (h1.bv 0) ag) (h1.v 1)) (ah (az oF (aw (h1.bv 0) ag) (h1.v 1)) aB)))))⟩)) aB))))
variable (nk:C6 (Oz P w K mg base) 5 mw)
include mv in
theorem Uk(D':D6 (Def K mg) a d):D6 (Oz P w K mg base) 2 oR:=aU (N:=["line","low","first","last"]) D' λX r h=>by
 cases r
 exact (aD (bh (eu (ah (h.v 2) (ah (h.v 3) (ah (h.cl mv (ah (h.v 0) (ah (h.v 1) (ah (h.v 2) aB)))) (ah (aw (h.bv 0) ag) aB)))))))
variable (qz:D6 (Oz P w K mg base) 2 oR)
theorem Us(D':Ex (Def K mg) a d):Ex (Oz P w K mg base) 1 si:=aU (N:=["first","last"]) D' λX r h=>by
 cases r
 exact (aD (bh (yA (bt m9 (h.v 0) (h.v 1)) (eu (ah (h.v 0) (ah (h.v 1) aB))) jA)))
variable (wC:Ex (Oz P w K mg base) 1 si)
theorem tP(D':o7 (Def K mg) a d):o7 (Oz P w K mg base) 1 vV:=aU (N:=["a","b"]) D' λX r h=>by
 cases r
 exact (aD (bh (gU (az dY (gU (h.v 0)) (h.v 1)))))
variable (O_up:o7 (Oz P w K mg base) 1 vV)
theorem Qy(D':CJ (Def K mg) a d):CJ (Oz P w K mg base) 1 wj:=aU (N:=["a","b"]) D' λX r h=>by
 cases r
 exact (aD (bh (az dY (h.v 0) (h.v 1))))
variable (yG:CJ (Oz P w K mg base) 1 wj)
include z_max z_min wC O_up yG in
theorem T6(D':El (Def K mg) a d):El (Oz P w K mg base) 2 wB:=aU (N:=["one","other","low","high","above","slope"]) D' λX r h=>by
 cases r
 exact (aE (h.aM 4 (az eL (aw (h.bv 0) ag) (aw (h.bv 1) ag))) (aE (h.aM 5 (az eL (aw (h.bv 0) ag) (aw (h.bv 1) ag))) (aE (bL (bt vN (h.v 5) ag) (aD (bh (h.cl wC (ah (h.v 2) (ah (qp (CP h.calm) h.g z_min (by decide +kernel) (ah (h.v 3) (ah (az c9 (h.v 2) (h.cl yG (ah (gU (h.v 4)) (ah (h.v 5) aB)))) aB))) aB))))) cq) (aE (bL (bt iu (h.v 5) ag) (aD (bh (h.cl wC (ah (qp (yU h.calm) h.g z_max (by decide +kernel) (ah (h.v 2) (ah (az c9 (h.v 2) (h.cl O_up (ah (h.v 4) (ah (gU (h.v 5)) aB)))) aB))) (ah (h.v 3) aB))))) cq) (aD (bh (yA (bt vN (h.v 4) ag) jA (eu (ah (h.v 2) (ah (h.v 3) aB))))))))))
variable (zp:El (Oz P w K mg base) 2 wB)
include qz zp in
theorem Uo(D':D5 (Def K mg) a d):D5 (Oz P w K mg base) 3 wD:=aU (N:=["one","other","low","high","span","rows"]) D' λX r h=>by
 cases r
 exact (aE (h.aM 4 (h.cl zp (ah (h.v 0) (ah (h.v 1) (ah (h.v 2) (ah (h.v 3) aB)))))) (aE (bL (bt rO (h.v 4) jA) (aD (bh (gA (ah (h.cl qz (ah (h.v 1) (ah (h.v 2) (ah (h.v 2) (ah (h.v 3) aB))))) aB)))) cq) (aE (h.set 5 (gA aB)) (aE (bL (bt iu (h.v 2) (aw (h.bv 4) ag)) (aD (h.app 5 (h.cl qz (ah (h.v 1) (ah (h.v 2) (ah (h.v 2) (ah (az eL (aw (h.bv 4) ag) ag) aB))))))) cq) (aE (h.app 5 (h.cl qz (ah (h.v 0) (ah (h.v 2) (ah (aw (h.bv 4) ag) (ah (aw (h.bv 4) ag) aB)))))) (aE (bL (bt iu (aw (h.bv 4) ag) (h.v 3)) (aD (h.app 5 (h.cl qz (ah (h.v 1) (ah (h.v 2) (ah (az c9 (aw (h.bv 4) ag) ag) (ah (h.v 3) aB))))))) cq) (aD (h.kK 5))))))))
variable (zu:D5 (Oz P w K mg base) 3 wD)
include mz in
theorem T4(D':Ej (Def K mg) a d):Ej (Oz P w K mg base) 3 su:=aU (N:=["row","low"]) D' λX r h=>by
 cases r
 exact (aD (bh (eu (ah (h.cl mz (ah (h.v 0) (ah (h.v 1) aB))) (ah (aw (h.bv 0) ag) aB)))))
variable (wF:Ej (Oz P w K mg base) 3 su)
include z_max z_min z_len wF in
theorem PB(D':Cr (Def K mg) a d):Cr (Oz P w K mg base) 4 rS:=aU (N:=["one","other","parts","first","second","mine","yours","low","high"]) D' λX r h=>by
 cases r
 exact (aE (h.set 2 (gA aB)) (aE (h.aM 3 ag) (aE (h.aM 4 ag) (aE (De G0 h.own (dM (qm (bt iu (h.v 3) (mi h.g z_len (h.bv 0))) (qr (bt iu (h.v 4) (mi h.g z_len (h.bv 1)))))) (aE (h.aM 5 (aw (h.bv 0) (h.v 3))) (aE (h.aM 6 (aw (h.bv 1) (h.v 4))) (aE (h.aM 7 (qp (yU h.calm) h.g z_max (by decide +kernel) (ah (aw (h.bv 5) ag) (ah (aw (h.bv 6) ag) aB)))) (aE (h.aM 8 (qp (CP h.calm) h.g z_min (by decide +kernel) (ah (aw (h.bv 5) ag) (ah (aw (h.bv 6) ag) aB)))) (aE (bL (bt m9 (h.v 7) (h.v 8)) (aD (h.app 2 (eu (ah (h.v 7) (ah (h.v 8) (ah (h.cl wF (ah (h.v 5) (ah (h.v 7) aB))) (ah (h.cl wF (ah (h.v 6) (ah (h.v 7) aB))) aB))))))) cq) (aD (bL (bt iu (aw (h.bv 5) ag) (aw (h.bv 6) ag)) (aD (h.aug 3 ag)) (aD (h.aug 4 ag)))))))))) (aD (h.kK 2))))))
variable (qk:Cr (Oz P w K mg base) 4 rS)
include zu qk in
theorem Uq(D':Ee (Def K mg) a d):Ee (Oz P w K mg base) 5 sk:=aU (N:=["one","other","rows","low","high","mine","yours"]) D' λX r h=>by
 cases r
 exact (aE (h.set 2 (gA aB)) (aE (ml h.own h.calm (h.cl qk (ah (h.v 0) (ah (h.v 1) aB))) (GW (n:=4) h.calm (oN (h.tg 3) (oN (h.tg 4) (oN (h.tg 5) (oN (h.tg 6) G8))))) (aD (h.ext 2 (h.cl zu (ah (h.v 5) (ah (h.v 6) (ah (h.v 3) (ah (h.v 4) aB)))))))) (aD (h.kK 2))))
variable (qy:Ee (Oz P w K mg base) 5 sk)
include iy nk qy in
theorem Ud(D':DW (Def K mg) a d):DW (Oz P w K mg base) 6 rX:=aU (N:=["one","other"]) D' λX r h=>by
 cases r
 exact (aD (bh (h.cl nk (ah (h.cl iy (ah (h.cl qy (ah (h.cl nk (ah (h.v 0) (ah (gU ag) aB))) (ah (h.cl nk (ah (h.v 1) (ah (gU ag) aB))) aB))) aB)) (ah (gU ag) aB)))))
variable (zq:DW (Oz P w K mg base) 6 rX)
include iy qk in
theorem QA(D':CL (Def K mg) a d):CL (Oz P w K mg base) 5 rT:=aU (N:=["one","other"]) D' λX r h=>by
 cases r
 exact (aD (bh (h.cl iy (ah (v8 (N':=["low","high","mine","yours"]) (caps:=[]) (nt:=4) h ⟨rfl,by decide +kernel,by decide +kernel,by decide +kernel,by decide +kernel,rfl,rfl,by decide +kernel⟩ (vT (h.cl qk (ah (h.v 0) (ah (h.v 1) aB)))) (λX1 jS jR jQ iR jP h1=>⟨(GW (n:=4) h1.calm (oN (h1.tg 0) (oN (h1.tg 1) (oN (h1.tg 2) (oN (h1.tg 3) G8))))),rL,(eu (ah (h1.v 0) (ah (h1.v 1) (ah (az c9 (aw (h1.bv 2) ag) (aw (h1.bv 3) ag)) (ah (az c9 (aw (h1.bv 2) ag) (aw (h1.bv 3) ag)) aB)))))⟩)) aB))))
variable (yL:CL (Oz P w K mg base) 5 rT)
include z_tuple in
theorem T8(D':D2 (Def K mg) a d):D2 (Oz P w K mg base) 1 qx:=aU (N:=["form","spans","row","ahead"]) D' λX r h=>by
 cases r
 exact (aE (h.set 1 (gA aB)) (aE (ml h.own h.calm (h.v 0) (h.tg 2) (aD (bL (dM (qm (Ho (h.bv 1)) (qr (bt (dZ h.u8) (az c9 (aw (fW (aw (h.bv 1) (gU ag))) ag) ag) (aw (h.bv 2) ag))))) (aE (h.pop 3 1) (aD (h.app 1 (eu (ah (aw (h.bv 3) ag) (ah (aw (h.bv 2) ag) aB)))))) (aD (h.app 1 (eu (ah (aw (h.bv 2) ag) (ah (aw (h.bv 2) ag) aB)))))))) (aD (bh (wb h.g z_tuple (h.bv 1))))))
variable (wK:D2 (Oz P w K mg base) 1 qx)
include z_sorted iy oJ qy wK in
theorem Rj(D':C3 (Def K mg) a d):C3 (Oz P w K mg base) 6 sd:=aU (N:=["one","other","alone"]) D' λX r h=>by
 cases r
 exact (aE (h.aM 2 (az c9 (h.cl oJ (ah (h.v 0) (ah (h.cl wK (ah (h.v 1) aB)) aB))) (h.cl oJ (ah (h.v 1) (ah (h.cl wK (ah (h.v 0) aB)) aB))))) (aD (bh (h.cl iy (ah (S6 h.g z_sorted (az c9 (h.cl qy (ah (h.v 0) (ah (h.v 1) aB))) (h.v 2))) aB)))))
variable (yS:C3 (Oz P w K mg base) 6 sd)
include oM qu zb yT y0 nk zq yL yS in
theorem Uh(D':DZ (Def K mg) a d):DZ (Oz P w K mg base) 7 wx:=aU (N:=["cell","form","way","low"]) D' λX r h=>by
 cases r
 exact (aE (h.aM 2 (az da (h.v 0) ag)) (aE (bL (bt iu (h.v 2) ag) (aD (bh (h.cl yS (ah (h.v 1) (ah (h.cl qu (ah (az dY (h.v 0) ag) aB)) aB))))) cq) (aE (bL (bt (dZ h.u8) (h.v 2) ag) (aD (bh (h.cl yL (ah (h.v 1) (ah (h.cl oM (ah (h.v 0) aB)) aB))))) cq) (aE (bL (bt (dZ h.u8) (h.v 2) ag) (aD (bh (h.cl zq (ah (h.v 1) (ah (h.cl oM (ah (h.v 0) aB)) aB))))) cq) (aE (bL (bt (dZ h.u8) (h.v 2) ag) (aD (bh (h.cl nk (ah (h.v 1) (ah (aw (fW (gA (ah (gU ag) (ah ag aB)))) (az da (az dY (h.v 0) ag) ag)) aB))))) cq) (aE (bL (bt (dZ h.u8) (h.v 2) ag) (aD (bh (h.cl y0 (ah (h.v 1) (ah (az eL (az da (az dY (h.v 0) ag) ag) ag) aB))))) cq) (aE (bL (bt (dZ h.u8) (h.v 2) ag) (aD (bh (h.cl yT (ah (h.v 1) (ah (az eL (az da (az dY (h.v 0) ag) ag) ag) aB))))) cq) (aE (h.aM 3 (az eL (az da (az dY (h.v 0) ag) ag) ag)) (aD (bh (h.cl zb (ah (h.v 1) (ah (h.v 3) (ah (az c9 (az c9 (h.v 3) ag) (az da (az dY (h.v 0) ag) ag)) aB))))))))))))))
variable (zr:DZ (Oz P w K mg base) 7 wx)
include z_len z_range in
theorem Uu(D':Ec (Def K mg) a d):Ec (Oz P w K mg base) 1 sj:=aU (N:=["script","start","most","told","k"]) D' λX r h=>by
 cases r
 exact (aE (h.set 3 (gA aB)) (aE (Ra h.own h.calm (RH h.g z_range (ah (h.v 1) (ah (mi h.g z_len (h.bv 0)) aB))) (h.tg 4) (aD (bL (bt iu (mi h.g z_len (h.bv 3)) (h.v 2)) (aD (h.app 3 (az da (aw (h.bv 0) (h.v 4)) (az vU ag ag)))) (aD (h.item 3 (az da (az c9 (az oF (aw (h.bv 3) (az da (h.v 4) (h.v 2))) ag) (aw (h.bv 0) (h.v 4))) (az vU ag ag)) (az da (h.v 4) (h.v 2))))))) (aD (h.kK 3))))
variable (zx:Ec (Oz P w K mg base) 1 sj)
include z_range z_list oK zi y' wJ zl zr zx in
theorem Pz(D':sA (Def K mg) a d):cu P w K mg base jn 8 a d ["script"] (nM K 1 yO):=uS (N:=["script","cells","forms","copies","cell","spots","x","due"]) D' λX r h=>by
 cases r
 exact (aE (h.aM 1 (h.cl zx (ah (h.v 0) (ah ag (ah ag aB))))) (aE (h.set 2 (gA (ah (eu (ah (eu (ah ag (ah ag (ah ag (ah ag aB))))) aB)) aB))) (aE (h.set 3 (gA (ah (CU h.g z_list (fW (aw (h.bv 2) ag))) aB))) (aE (ml h.own h.calm (h.v 1) (h.tg 4) (aE (h.app 2 (h.cl zr (ah (h.v 4) (ah (aw (h.bv 2) (gU ag)) aB)))) (aE (bL (v3 (oC (h.cl zl (ah (aw (h.bv 2) (gU ag)) aB)))) (aD (bh m8)) cq) (aD (h.app 3 (CU h.g z_list (fW (aw (h.bv 2) (gU ag))))))))) (aE (Rf (i:=5) false (N':=["k"]) (caps:=[]) (nt:=1) h ⟨rfl,by decide +kernel,by decide +kernel,by decide +kernel,by decide +kernel,rfl,rfl,by decide +kernel⟩ (RG h.g z_range (ah ag aB)) (λX1 jS jR jQ iR jP h1=>⟨(h1.tg 0),rL,(az eL (h1.v 0) ag)⟩)) (aE (h.aM 5 (az c9 (h.v 5) (gA (ah (az da (h.cl wJ (ah (h.v 0) (ah ag aB))) (az vU ag ag)) (ah (az eL (az da (h.cl wJ (ah (h.v 0) (ah ag aB))) ag) ag) aB))))) (aE (ml h.own h.calm (h.v 5) (h.tg 6) (aE (h.aM 7 (h.cl y' (ah (h.v 1) (ah (h.v 6) aB)))) (aD (bL (dM (rF (bt (yJ h.u8) (h.cl zi (ah (aw (h.bv 2) (gU ag)) (ah (h.v 6) aB))) (h.v 7)) (rQ (bt (yJ h.u8) (h.cl oK (ah (aw (h.bv 2) (gU ag)) (ah (h.v 6) aB))) (h.v 7))))) (aD (bh m8)) cq)))) (aD (G7 3 (G7 2 (bh (rJ (dZ h.u8) (v8 (N':=["form"]) (caps:=[]) (nt:=1) h ⟨rfl,by decide +kernel,by decide +kernel,by decide +kernel,by decide +kernel,rfl,rfl,by decide +kernel⟩ (vT (h.v 2)) (λX1 jS jR jQ iR jP h1=>⟨(h1.tg 0),rL,(CU h1.g (zF iR z_list) (h1.bv 0))⟩)) (h.v 3)))))))))))))
end
theorem all_mk{l:BK}{w:World}{K:aC}{h:Heap}{mg:Str->Option Value}{fa:Addr}(X:K.In h)(G:h.Ns mainGlobals mg)(Nf:mg "law" = some (.ref fa))
  (i1:FI K "_law_cost" II f1 U1 Wx UI U' Vk V3 UR Wl Wb)
  (i2:FI K "line_at" IU f2 U0 Ww sR U9 Vj V2 UQ Wk Wa)
  (i3:FI K "drawn_to" IF f3 UZ Wv UH U8 Vi V1 UP Wj V')
  (i4:FI K "place_of" IL f4 UY Wu UG U7 Vh V0 UO Wi V9)
  (i5:FI K "cost_at" Iw f5 UX Wt UE U6 Vg VZ UN Wh V8)
  (i6:FI K "_law_line" IK f6 UW Ws UD U5 Vf VY UM Wg V7)
  (i7:FI K "_law_thing" Jf f7 UU Wr UC U4 Ve VX UL Wf V6)
  (i8:FI K "_law_put" IT f8 UT Wq UB U3 Vd VW UK We V5)
  (i9:FI K "_law_due" Iy f9 US Wp UA U2 Vc VV UJ Wd V4)
  (i10:FI K "_law_cell" IH VU Lr SG J7 L0 MF Oe KL Pm OR)
  (i11:FI K "_law_whole" I9 VT Lq SE J6 LZ ME Od KJ Pl OQ)
  (i12:FI K "_law_stretch" Jj VS Lp SD J5 LY MD Oc KI Pk OP)
  (i13:FI K "_law_canon" Je VR Lo Sz J4 LX MC Ob KH Pj ON)
  (i14:FI K "holds_one" Jd VQ Ln Sy J2 LW MB Oa KG Ph OM)
  (i15:FI K "plain" HL VP Lm Sw J1 LV MA N9 KE Pg OL)
  (i16:FI K "laid_beside" Jh VO Ll Sv J0 LU Mz N8 KD Pf OK)
  (i17:FI K "laid" Hm VN Lj Su JZ LS Mx N7 KC Pe OJ)
  (i18:FI K "cut" G5 VM Li Sr JY LR Mw N6 KA Pd OI)
  (i19:FI K "outside" IW VL Lh So JX LQ Mv N5 Kz Pc OH)
  (i20:FI K "without" IX VJ Lf Sn JW LP Mu N4 Ky Pb OG)
  (i21:FI K "moved_row" Jb VI Le Sm JV LO Mt N3 Kx Pa OF)
  (i22:FI K "moved" HK VH Ld Sk JU LN Ms N2 Kw O9 OE)
  (i23:FI K "raised" IC VG Lc Sj JT LM Mr N1 Kv O8 OD)
  (i24:FI K "times" HM VF Lb Si JS LL Mq N0 Ku O7 OC)
  (i25:FI K "stretch_on" I0 VE La Sh JR LK Mp NZ Kt O6 OB)
  (i26:FI K "span_or_none" Jg VD K' Se JQ LJ Mo NY Ks O5 OA)
  (i27:FI K "up" GD VC K9 Sd JP LI Mn NX Kr O4 Oy)
  (i28:FI K "down" Hl VB K8 Sb JO LH Mm NW Kq O3 Ox)
  (i29:FI K "no_dearer" Jc VA K7 Sa JN LG Ml NV Kp O2 Ow)
  (i30:FI K "lower_line" IZ Vz K6 R9 JM LF Mj NU Ko O1 Ov)
  (i31:FI K "line_from" Ja Vy K5 R8 JL LD Mi NT Km O0 Ou)
  (i32:FI K "met" G6 Vx K4 RZ JK LC Mh NS Kl OZ Ot)
  (i33:FI K "lesser_rows" Jk Vw K3 RY JJ LB Mf NR Kk OY Oq)
  (i34:FI K "greatest" IG Vv K2 RX JI LA Me NQ Kj OX Oo)
  (i35:FI K "plus" Hn Vu K1 RW JH Lz Md NP Ki OW Om)
  (i36:FI K "spans_of" IM Vt K0 RV JG Ly Mc NO Kh OV Ol)
  (i37:FI K "least" HJ Vs KZ RU JF Lx Mb NN Kg OU Oj)
  (i38:FI K "_law_deed" IJ Vr KY RT JE Lw Ma NM Kf OT Oi)
  (i39:FI K "_law_numbers" Ji Vq KW RS JD Lv L' NL Ke OS Oh)
  (i40:FI K "law" vY Vp KU Ct JC Lu Au Bu Af BA Bv)
  (zmax:ko K mainGlobals "max" = some none)
  (zmin:ko K mainGlobals "min" = some none)
  (ztuple:ko K mainGlobals "tuple" = some none)
  (zlen:ko K mainGlobals "len" = some none)
  (zsorted:ko K mainGlobals "sorted" = some none)
  (zrange:ko K mainGlobals "range" = some none)
  (zisinstance:ko K mainGlobals "isinstance" = some none)
  (zbool:ko K mainGlobals "bool" = some none)
  (zint:ko K mainGlobals "int" = some none)
  (zlist:ko K mainGlobals "list" = some none)
  (fin:∀ns:List Int,ns.length<=63->yO [.lst true (ns.map D.int)]=some (.sh (.bl true))):
  ∃fd:FuncData,(∀(s:Shared) (v:Value),BindsTo s fd ⟨[v],[]⟩ [("script",v)])/\∀base:Heap,K.In base->base.Ns mainGlobals mg->cu l.prog w K mg base jn 8 fa fd ["script"] (spT K):=by
 have e:=Nf.symm.trans (PySem.W.mg_of X G i40.a)
 cases e
 have z_max:=l8 X G zmax
 have z_min:=l8 X G zmin
 have z_tuple:=l8 X G ztuple
 have z_len:=l8 X G zlen
 have z_sorted:=l8 X G zsorted
 have z_range:=l8 X G zrange
 have z_isinstance:=l8 X G zisinstance
 have z_bool:=l8 X G zbool
 have z_int:=l8 X G zint
 have z_list:=l8 X G zlist
 refine ⟨gy "law" "law" (iD vY) (fL vY) (dI vY) .none Au Bu Af Ct BA Bv,λs v=>.of_eq rfl,λbase _ _=>?_⟩
 have oK:=Ug (P:=l.prog) (w:=w) (base:=base) (ck X G i1)
 have mv:=To (P:=l.prog) (w:=w) (base:=base) (kS X G i2)
 have mz:=Uc mv (ck X G i3)
 have zt:=Uj (P:=l.prog) (w:=w) (base:=base) z_len (ck X G i4)
 have zi:=Ti z_len mz zt (ck X G i5)
 have oM:=Ui (P:=l.prog) (w:=w) (base:=base) (fD X G i6)
 have qu:=T2 (P:=l.prog) (w:=w) (base:=base) z_tuple (fD X G i7)
 have za:=Tn z_max z_min z_int oK oM qu (kS X G i8)
 have y':=Tj za (ck X G i9)
 have wJ:=Ue (P:=l.prog) (w:=w) (base:=base) z_len (ck X G i10)
 have zm:=T3 (P:=l.prog) (w:=w) (base:=base) z_isinstance z_bool z_int (fD X G i11)
 have zy:=Uv z_tuple z_len z_isinstance zm (fD X G i12)
 have zl:=T1 z_tuple z_len z_range z_isinstance zy (fD X G i13)
 have oV:=TZ (P:=l.prog) (w:=w) (base:=base) (fD X G i14)
 have oH:=Rm oV (fD X G i15)
 have zw:=Ut mv oV oH (ck X G i16)
 have iy:=Qz z_tuple oH zw (fD X G i17)
 have vR:=Py mz (kS X G i18)
 have oJ:=Tp z_max z_len vR (ck X G i19)
 have zb:=Tq iy oJ (kS X G i20)
 have zo:=T5 (P:=l.prog) (w:=w) (base:=base) (ck X G i21)
 have yT:=Rk z_tuple zo (ck X G i22)
 have y0:=SN (P:=l.prog) (w:=w) (base:=base) z_tuple (ck X G i23)
 have nk:=Rn iy (ck X G i24)
 have qz:=Uk mv (px X G i25)
 have wC:=Us (P:=l.prog) (w:=w) (base:=base) (ck X G i26)
 have O_up:=tP (P:=l.prog) (w:=w) (base:=base) (ck X G i27)
 have yG:=Qy (P:=l.prog) (w:=w) (base:=base) (ck X G i28)
 have zp:=T6 z_max z_min wC O_up yG (px X G i29)
 have zu:=Uo qz zp (px X G i30)
 have wF:=T4 mz (ck X G i31)
 have qk:=PB z_max z_min z_len wF (ck X G i32)
 have qy:=Uq zu qk (ck X G i33)
 have zq:=Ud iy nk qy (ck X G i34)
 have yL:=QA iy qk (ck X G i35)
 have wK:=T8 (P:=l.prog) (w:=w) (base:=base) z_tuple (fD X G i36)
 have yS:=Rj z_sorted iy oJ qy wK (ck X G i37)
 have zr:=Uh oM qu zb yT y0 nk zq yL yS (ck X G i38)
 have zx:=Uu (P:=l.prog) (w:=w) (base:=base) z_len z_range (kS X G i39)
 have O_law:=Pz z_range z_list oK zi y' wJ zl zr zx (fD X G i40)
 exact Pw O_law fin
end My
open PySem L2 DL
def vcNames:String:="a0f a0p a0j a1p a8W a8Y a8X a8V Wo_seq b3a Wo_bk Wo_ct b48 b29 b47 a9X b5s b4Y b3o b3F b2U b3s Wo_eC b5q b5c b3g b3m b3e b3i b3l b3j b3f b5f b5g b5h b5i b5j b5e b3k b3h b1n b1k b1m b1j b1l b1i b3G b3I b3H rep0 rep1 rep2 rep3 rep4 b1b b1u b1v b3q b3r b3p b3u b3E b3C b3x b3y b3d b5p b1f b1g b3J b3K b5d b3b a9u b0Q a9w a9t a9s a9v b44 b5u b23 b22 b21 b2Y b20 b2Z b1c b25 b43 b24 b3D b5m b3w b5o b3L b1y b3t b3z b4Z b41 b40 Wo_bV b5r b45 b46 b3A b1r a90 ixQ_i b5n atI_0 atI_1 atI_2 atI_3 b1t a91 b1w b1x b3B b2J b2K a9Z b3n a7z a6R b27 b26 b1e b1d b0b b0c b0d b0a Wo_gN Wo_gT b1h a9Y b5t b42 b5v b4M b5k b49 b2z b3c b2W b2V b28 b5b pQ_i b5a b5l b3v slQ_t b07 b08 b09 b1a srQ_l a8C b1s b1o b1q Sl_sh Sl_ow b1p List.getElem?_cons_zero List.getElem?_cons_succ List.set_cons_zero List.set_cons_succ List.length_cons List.length_nil a7k a8u a7m a7j a7i a7l a6E a7n a6G a6D a6C a6F a7e a8t a7g a7d a7c a7f a6z a7h a6B a6y a6x a6A a5G a6w a5I a5F a5E a5H decide_eq_true_eq decide_eq_false_iff_not Bool.not_eq_true' Bool.not_eq_false' Bool.not_true Bool.not_false true_and and_true forall_const Bool.true_eq_false Bool.false_eq_true false_implies reduceCtorEq implies_true true_implies Int.reduceToNat Nat.reduceAdd Nat.reduceLT Nat.reduceLeDiff Nat.reduceSub Int.reduceLT Int.reduceLE Int.reduceEq Int.cast_ofNat_Int not_true_eq_false not_false_eq_true"
local macro_rules | `(tactic| walk_at "vc")=>do
 let ls ← ((vcNames.splitOn " ") ++ ["a0N","b0M","b2B","b0O","b0L","b0K","b0N"]).toArray.mapM fun s=>`(Lean.Parser.Tactic.simpLemma| $(Lean.mkIdent s.toName):ident)
 `(tactic| first | simp only [$ls,*] | dsimp only | skip)
local macro_rules | `(tactic| walk_at "v1")=>do
 let ls ← (vcNames.splitOn " ").toArray.mapM fun s=>`(Lean.Parser.Tactic.simpLemma| $(Lean.mkIdent s.toName):ident)
 `(tactic| first | simp only [$ls,*] | dsimp only | skip)
local macro_rules | `(tactic| walk_at "sc")=>`(tactic| first | omega | (simp only [DivC,PowC,MulC,LIM,R62]; omega) | rfl | decide)
local macro_rules | `(tactic| walk_at "go")=>`(tactic| (walk_at "vc"; repeat' first | apply b83 | intro _); all_goals try (walk_at "sc"))
local macro_rules | `(tactic| walk_at "sp")=>`(tactic| (repeat' first | apply And.intro | intro _); all_goals first | (exfalso; omega) | walk_at "sc" | ((repeat apply Exists.intro); rfl) | skip)
local macro_rules | `(tactic| walk_at "st")=>`(tactic| repeat (refine And.intro ?_ ?_; · first | (simp only [DivC,PowC,MulC,LIM,R62]; omega) | omega))
namespace My
theorem yX(i:Int):wz [.int i]=some (.sh (.bl true)):=by
 refine Wo.eq (g9.mpr ?_)
 unfold Er
 walk_at "go"
theorem S0(ns:List Int)(hl:ns.length<=63)(start most:Int)(h0:0<=start)(h1:0<most)(h2:most<=1000)(h3:start<=1000){r:Bool}:∃l:List Int,sj [.lst r (ns.map D.int),.int start,.int most]=some (.ow (l.map D.int))/\(l.length:Int)<=most/\∀v∈l,0<=v/\v<10^45:=by
 have key:Wo (sj [.lst r (ns.map D.int),.int start,.int most]) λs=>∃l:List Int,s=.ow (l.map D.int)/\(l.length:Int)<=most/\∀v∈l,0<=v/\v<10^45:=by
  refine fO.mpr ?_
  unfold D8
  walk_at "vc"
  rw [bM]
  refine Hu _ _ (λk env=>∃x4,∃l:List Int,env=[.sh (.lst r (ns.map D.int)),.sh (.int start),.sh (.int most),.ow (l.map D.int),x4]/\(l.length:Int)<=most/\(l.length<most->l.length=k)/\∀v∈l,0<=v/\v<10^45) (λk env hk h=>?_) (λenv h=>?_) ⟨_,[],rfl,by simp;ext h1,λ_=>rfl,by simp⟩
  .obtain ⟨x4,l,rfl,hm,lW,hv⟩:=h
   walk_at "vc"
   rw [bM]
   refine ⟨λbx=>?_,λkl=>?_⟩
   .rw [y2 0 (by ext h0) (by ext hk)]
    walk_at "vc"
    generalize ns.getD _ 0=c
    refine ⟨by walk_at "sc",by decide,by ext h2 bx,?_⟩
    refine ⟨_,l++[c%10^45],by rw [fg];rfl,by simp;ext bx,λ_=>by simp;exact lW bx,λv pD=>?_⟩
    rcases bR.mp pD with h | h
    .exact hv v h
    .obtain rfl:=cH.mp h
     exact ⟨yb _ (by decide),yj _ (by decide)⟩
   .have m1:=yb (start+k) (show most≠0 by ext h1)
    have m2:=yj (start+k) h1
    have Fe:(l.length:Int)=most:=by ext hm kl
    rw [y2 0 m1 (by ext kl m2),y2 0 (by ext h0) (by ext hk)]
    walk_at "vc"
    generalize ns.getD _ 0=c
    generalize hx:l.getD _ 0=x
    generalize (start+(k:Int))%most=j at *
    have hj:gg (l.map D.int).length j=some j.toNat:=by
     unfold gg
     rw [if_pos m1,bM,if_pos (by ext kl m2)]
    rw [bM] at hj
    rw [hj]
    walk_at "vc"
    refine ⟨by ext h1,.inr (.inl (by decide)),by walk_at "sc",by decide,by ext h1,?_⟩
    refine ⟨_,l.set j.toNat ((x*10007+c)%10^45),by rw [List.map_set],by rw [BL];ext hm,λh=>absurd h (by rw [BL];ext kl),λv pD=>?_⟩
    rcases List.mem_or_eq_of_mem_set pD with h | h
    .exact hv v h
    .rw [h]
     exact ⟨yb _ (by decide),yj _ (by decide)⟩
  .obtain ⟨x4,l,rfl,hm,_,hv⟩:=h
   walk_at "vc"
   exact ⟨l,rfl,hm,hv⟩
 obtain ⟨s,e,l,rfl,h⟩:=key
 exact ⟨l,e,h⟩
noncomputable abbrev Row:=Int×Int×Int×Int
noncomputable def Row.d(r:Row):D:=.tup [.int r.1,.int r.2.1,.int r.2.2.1,.int r.2.2.2]
theorem c5(r:Row):Row.d r=.tup [.int r.1,.int r.2.1,.int r.2.2.1,.int r.2.2.2]:=rfl
noncomputable def Row.at(r:Row)(x:Int):Int:=r.2.2.1+r.2.2.2*(x-r.1)
def iX(r:Row):Prop:=r.1<=r.2.1/\(r.1=r.2.1->r.2.2.2=0)
def j0(a r:Row):Prop:=a.2.1<r.1/\(r.1=a.2.1+1->a.1<a.2.1/\r.2.2.1≠a.at r.1)
noncomputable def aS(R:Row->Row->Prop):List Row->Prop
 | a::b::rs=>R a b/\aS R (b::rs)
 | _=>True
theorem aS.snoc{R:Row->Row->Prop}{r:Row}:∀{rs:List Row},aS R rs->(∀a,rs.getLast?=some a->R a r)->aS R (rs++[r])
 | [],_,_=>trivial
 | [a],_,h=>⟨h a rfl,trivial⟩
 | a::b::rs,h,k=>⟨h.1,h.2.snoc (rs:=b::rs) λc hc=>k c (by simpa using hc)⟩
theorem aS.tail{R:Row->Row->Prop}{r:Row}{rs:List Row}(h:aS R (r::rs)):aS R rs:=by
 cases rs with
 | nil=>trivial
 | cons q rs=>exact h.2
def Canon(rs:List Row):Prop:=(∀r∈rs,iX r)/\aS j0 rs
def af(B:Int)(r:Row):Prop:=(-B<=r.1/\r.1<=B)/\(-B<=r.2.1/\r.2.1<=B)/\(-B<=r.2.2.1/\r.2.2.1<=B)/\(-B<=r.2.2.2/\r.2.2.2<=B)
noncomputable def look:List Row->Int->Option Int
 | [],_=>none
 | r::rs,x=>if r.1<=x/\x<=r.2.1 then some (r.at x) else look rs x
noncomputable def bN:Option Int->D
 | none=>.aI
 | some i=>.int i
def bU(rs:List Row):Prop:=(∀r∈rs,r.1<=r.2.1)/\rs.Pairwise λa b=>a.2.1<b.1
theorem Canon.cX:∀{rs:List Row},Canon rs->bU rs
 | [],_=>⟨λ_ z=>(nomatch z),.nil⟩
 | [r],h=>⟨λq hq=>(h.1 q hq).1,rp _ _⟩
 | r::q::rs,h=>by
  obtain ⟨i1,i2⟩:=Canon.cX (rs:=q::rs) ⟨λa ha=>h.1 a (dj _ ha),h.2.2⟩
  refine ⟨λa ha=>(h.1 a ha).1,eO.mpr ⟨λa ha=>?_,i2⟩⟩
  have h1:=h.2.1.1
  rcases cU.mp ha with rfl | ha
  .exact h1
  .have:=(eO.mp i2).1 a ha
   have:=i1 q cP
   lia
theorem DG{x:Int}{post:List Row}:∀{pre:List Row},(∀q∈pre,q.2.1<x)->look (pre++post) x=look post x
 | [],_=>rfl
 | r::pre,h=>by
  have:=h r cP
  rw [List.cons_append,look,if_neg (by ext this)]
  exact DG λq hq=>h q (dj _ hq)
theorem ze{x:Int}:∀{rs:List Row},(∀q∈rs,x<q.1\/q.2.1<x)->look rs x=none
 | [],_=>rfl
 | r::rs,h=>by
  have:=h r cP
  rw [look,if_neg (by ext this)]
  exact ze λq hq=>h q (dj _ hq)
theorem mn{x c:Int}:∀{rs:List Row},look rs x=some c->∃r∈rs,r.1<=x/\x<=r.2.1/\c=r.at x
 | [],h=>by cases h
 | r::rs,h=>by
  rw [look] at h
  split at h
  .exact ⟨r,cP,by lia,by lia,(bQ h).symm⟩
  .obtain ⟨q,hq,k⟩:=mn h
   exact ⟨q,dj _ hq,k⟩
theorem jZ{rs:List Row}(h:bU rs){r:Row}(hr:r∈rs){x:Int}(h1:r.1<=x)(h2:x<=r.2.1):look rs x=some (r.at x):=by
 obtain ⟨pre,post,rfl⟩:=List.append_of_mem hr
 rw [DG λq hq=>?_,look,if_pos ⟨h1,h2⟩]
 have:=(fG.mp h.2).2.2 q hq r cP
 ext h1 this
def Val(rs:List Row)(x c:Int):Prop:=∃r∈rs,r.1<=x/\x<=r.2.1/\c=r.at x
theorem oO{rs:List Row}(h:bU rs){x c:Int}:look rs x=some c↔Val rs x c:=
 ⟨mn,λ⟨r,hr,h1,h2,e⟩=>by rw [jZ h hr h1 h2,e]⟩
theorem Qv{rs qs:List Row}(h:bU rs)(k:bU qs){x:Int}(e:∀c,Val rs x c↔Val qs x c):look rs x=look qs x:=by
 cases h1:look rs x with
 | some c=>exact ((oO k).mpr ((e c).mp ((oO h).mp h1))).symm
 | none =>
  cases h2:look qs x with
  | none=>rfl
  | some c =>
   have:=(oO h).mpr ((e c).mpr ((oO k).mp h2))
   rw [h1] at this;cases this
theorem Val.app{rs qs:List Row}{x c:Int}:Val (rs++qs) x c↔Val rs x c\/Val qs x c:=by
 unfold Val
 constructor
 .rintro ⟨r,hr,h⟩
  rcases bR.mp hr with hr | hr
  .exact .inl ⟨r,hr,h⟩
  .exact .inr ⟨r,hr,h⟩
 .rintro (⟨r,hr,h⟩ | ⟨r,hr,h⟩)
  .exact ⟨r,dX _ hr,h⟩
  .exact ⟨r,er _ hr,h⟩
theorem Val.one{r:Row}{x c:Int}:Val [r] x c↔r.1<=x/\x<=r.2.1/\c=r.at x:=by
 unfold Val
 simp
theorem Val.two{r q:Row}{x c:Int}:Val [r,q] x c↔(r.1<=x/\x<=r.2.1/\c=r.at x)\/(q.1<=x/\x<=q.2.1/\c=q.at x):=by
 unfold Val
 simp
noncomputable def total(rs:List Row):Int:=(rs.map λr=>r.2.1-r.1+1).sum
theorem qv(rs qs:List Row):total (rs++qs)=total rs+total qs:=by unfold total;rw [fg,vz]
theorem aS.append{R:Row->Row->Prop}:∀{rs qs:List Row},aS R rs->aS R qs->(∀a b,rs.getLast?=some a->qs.head?=some b->R a b)->aS R (rs++qs)
 | [],_,_,h,_=>h
 | [a],[],_,_,_=>trivial
 | [a],b::qs,_,h,k=>⟨k a b rfl rfl,h⟩
 | a::b::rs,qs,h,h',k=>⟨h.1,aS.append (rs:=b::rs) h.2 h' λc d hc hd=>k c d (by simpa using hc) hd⟩
theorem aS.left{R:Row->Row->Prop}:∀{rs qs:List Row},aS R (rs++qs)->aS R rs
 | [],_,_=>trivial
 | [a],_,_=>trivial
 | a::b::rs,qs,h=>⟨h.1,aS.left (rs:=b::rs) h.2⟩
theorem aS.mid{R:Row->Row->Prop}{b:Row}:∀{rs:List Row},aS R (rs++[b])->∀a,rs.getLast?=some a->R a b
 | [],_,a,h=>by cases h
 | [a],h,c,hc=>by cases hc;exact h.1
 | a::c::rs,h,d,hd=>aS.mid (rs:=c::rs) h.2 d (by simpa using hd)
theorem aS.get{R:Row->Row->Prop}:∀{rs:List Row},aS R rs->∀(k:Nat) (h:k+1<rs.length),R (rs[k]'(by ext h:1)) rs[k+1]
 | [],_,k,h=>absurd h (by simp)
 | [a],_,k,h=>absurd h (by simp)
 | a::b::rs,h,0,_=>h.1
 | a::b::rs,h,k+1,hk=>aS.get (rs:=b::rs) h.2 k (by simpa using hk)
theorem y3{rs:List Row}{n:Nat}(h:n<rs.length):cW (rs.map Row.d) (n:Int)=some (Row.d rs[n]):=by
 rw [DL.cz];simp [h]
theorem af.mono{A B:Int}{r:Row}(h:af A r)(uI:A<=B):af B r:=by unfold af at *;ext h uI
theorem QW{n:Nat}(x y:Row):aQ (n+1) x.d y.d=some (decide (x=y)):=by
 obtain ⟨a,b,c,d⟩:=x
 obtain ⟨a',b',c',d'⟩:=y
 simp only [Row.d,aQ,FR,List.zipWith_nil_left,fI,vk,List.all_cons,List.all_nil,fS,q9,id]
 simp [Bool.and_assoc]
theorem CA{p s l x:Int}(h1:-(10^250)<=s)(h2:s<=10^250)(h3:-(10^250)<=x-l)(h4:x-l<=10^250):oS [.tup [.int p,.int s],.int l,.int x]=some (.sh (.int (p+s*(x-l)))):=by
 refine Wo.eq (j7.mpr ?_)
 unfold Dz
 walk_at "go"
theorem CS{r:Row}{x:Int}(h1:-(10^250)<=r.2.2.2)(h2:r.2.2.2<=10^250)(h3:-(10^250)<=x-r.1)(h4:x-r.1<=10^250):qA [r.d,.int x]=some (.sh (.int (r.at x))):=by
 refine Wo.eq (ji.mpr ?_)
 unfold DN
 rw [c5 r]
 walk_at "vc"
 rw [CA h1 h2 h3 h4]
 walk_at "vc"
 rfl
theorem PV{a b:Int}(h:0<b)(h2:b<=10^250):wj [.int a,.int b]=some (.sh (.int (a/b))):=by
 refine Wo.eq (qD.mpr ?_)
 unfold CC
 walk_at "go"
theorem Bo{a b:Int}(h:0<b)(h2:b<=10^250):vV [.int a,.int b]=some (.sh (.int (-(-a/b)))):=by
 refine Wo.eq (Ez.mpr ?_)
 unfold qG
 walk_at "go"
noncomputable def lx:Option (Int×Int)->D
 | none=>.aI
 | some (a,b)=>.tup [.int a,.int b]
noncomputable def qO(a b:Int):Option (Int×Int):=if a<=b then some (a,b) else none
theorem GA(a b:Int):si [.int a,.int b]=some (.sh (lx (qO a b))):=by
 refine Wo.eq (fm.mpr ?_)
 unfold Ey
 walk_at "go"
 all_goals simp [qO,lx, *]
noncomputable def nd(a s low high:Int):Option (Int×Int):=if 0<s then qO low (min high (low+(-a)/s)) else if s<0 then qO (max low (low + -((-a)/(-s)))) high else if 0<a then none else some (low,high)
theorem Bp{p1 s1 p2 s2 low high:Int}(h:-(10^250)<=s1-s2)(h2:s1-s2<=10^250):
  wB [.tup [.int p1,.int s1],.tup [.int p2,.int s2],.int low,.int high]=some (.sh (lx (nd (p1-p2) (s1-s2) low high))):=by
 refine Wo.eq (g0.mpr ?_)
 unfold Eu
 walk_at "vc"
 refine ⟨λhs=>?_,λhs=>⟨λeZ=>?_,λeZ=>⟨λha=>?_,λha=>?_⟩⟩⟩
 .rw [PV hs h2]
  walk_at "vc"
  rw [GA]
  walk_at "vc"
  rw [nd,if_pos hs]
 .rw [Bo (by ext eZ) (by ext h)]
  walk_at "vc"
  rw [GA]
  walk_at "vc"
  rw [nd,if_neg hs,if_pos eZ]
 .rw [nd,if_neg hs,if_neg eZ,if_pos ha];rfl
 .rw [nd,if_neg hs,if_neg eZ,if_neg ha];rfl
theorem Hb{a s low high:Int}(lX:low<=high):match nd a s low high with
  | none=>∀x,low<=x->x<=high->0<a+s*(x-low)
  | some (f,l)=>(low<=f/\f<=l/\l<=high/\(f=low\/l=high))/\∀x,low<=x->x<=high->(a+s*(x-low)<=0↔f<=x/\x<=l):=by
 unfold nd
 by_cases hs:0<s
 .rw [if_pos hs]
  obtain ⟨f1,f2⟩:=HV (a:=-a) hs
  generalize (-a)/s=q at *
  have key:∀x,a+s*(x-low)<=0↔x-low<=q:=λx=>by
   constructor
   .intro h
    rcases BF q (x-low) with h' | h'
    .have:=yq (show q+1<=x-low by ext h') (BG hs)
     grind
    .exact h'
   .intro h
    have:=yq h (BG hs)
    grind
  unfold qO
  by_cases hm:low<=min high (low+q)
  .rw [if_pos hm]
   refine ⟨⟨by ext,by ext hm,by ext,.inl rfl⟩,λx h1 h2=>?_⟩
   rw [key]
   ext h1 h2
  .rw [if_neg hm]
   intro x h1 h2
   have:=not_congr (key x)
   ext lX hm h1 this
 .rw [if_neg hs]
  by_cases eZ:s<0
  .rw [if_pos eZ]
   obtain ⟨f1,f2⟩:=HV (a:=-a) (b:=-s) (by ext eZ)
   generalize (-a)/(-s)=q at *
   have key:∀x,a+s*(x-low)<=0 ↔ -q<=x-low:=λx=>by
    constructor
    .intro h
     rcases BF (x-low) (-q) with h' | h'
     .have:=yq (show x-low+1 <= -q by ext h') (show 0 <= -s by ext eZ)
      grind
     .exact h'
    .intro h
     have:=yq h (show 0 <= -s by ext eZ)
     grind
   unfold qO
   by_cases hm:max low (low + -q)<=high
   .rw [if_pos hm]
    refine ⟨⟨by ext,by ext hm,by ext,.inr rfl⟩,λx h1 h2=>?_⟩
    rw [key]
    ext h1 h2
   .rw [if_neg hm]
    intro x h1 h2
    have:=not_congr (key x)
    ext lX hm h2 this
  .rw [if_neg eZ]
   have:s=0:=by ext hs eZ
   subst this
   by_cases ha:0<a
   .rw [if_pos ha];intro x _ _;ext ha
   .rw [if_neg ha];exact ⟨⟨by ext,by ext lX,by ext,.inl rfl⟩,λx h1 h2=>by ext ha h1 h2⟩
theorem yz{p s l f g:Int}(h1:-(10^250)<=s)(h2:s<=10^250)(h3:-(10^250)<=f-l)(h4:f-l<=10^250):oR [.tup [.int p,.int s],.int l,.int f,.int g]=some (.sh (.tup [.int f,.int g,.int (p+s*(f-l)),.int s])):=by
 refine Wo.eq (gr.mpr ?_)
 unfold D4
 walk_at "vc"
 rw [CA h1 h2 h3 h4]
 walk_at "go"
noncomputable def eU(p s l f g:Int):Row:=(f,g,p+s*(f-l),s)
noncomputable def kT(p1 s1 p2 s2 low high:Int):List Row:=match nd (p1-p2) (s1-s2) low high with
 | none=>[eU p2 s2 low low high]
 | some (f,l)=>(if low<f then [eU p2 s2 low low (f-1)] else [])++[eU p1 s1 low f l]++(if l<high then [eU p2 s2 low (l+1) high] else [])
theorem PX{p1 s1 p2 s2 low high:Int}(lX:low<=high)(hw:high-low<=10^200)(h1:-(10^200)<=s1)(h2:s1<=10^200)(h3:-(10^200)<=s2)(h4:s2<=10^200):
  wD [.tup [.int p1,.int s1],.tup [.int p2,.int s2],.int low,.int high]=some (.ow ((kT p1 s1 p2 s2 low high).map Row.d)):=by
 refine Wo.eq (gu.mpr ?_)
 unfold Em
 walk_at "vc"
 rw [Bp (by ext h1 h4) (by ext h2 h3)]
 have sp:=Hb (a:=p1-p2) (s:=s1-s2) (low:=low) (high:=high) lX
 unfold kT
 cases kX:nd (p1-p2) (s1-s2) low high with
 | none =>
  dsimp only [lx]
  walk_at "vc"
  rw [yz (by ext h3) (by ext h4) (by ext) (by ext)]
  walk_at "vc"
  rfl
 | some fl =>
  obtain ⟨f,l⟩:=fl
  rw [kX] at sp
  obtain ⟨⟨q1,q2,q3,q4⟩,q5⟩:=sp
  dsimp only [lx]
  walk_at "vc"
  rw [yz (by ext h3) (by ext h4) (by ext) (by ext),yz (by ext h1) (by ext h2) (by ext q1) (by ext hw q2 q3),yz (by ext h3) (by ext h4) (by ext q1 q2) (by ext hw q3)]
  walk_at "vc"
  refine ⟨λa=>?_,λa=>?_⟩<;>(repeat' first | apply b83 | intro _)<;>simp [*,Row.d,eU]
theorem Co(r:Row):oU [r.d]=some (.sh (.bl (decide (r.1=r.2.1)))):=by
 refine Wo.eq (h8.mpr ?_)
 unfold DM
 rw [c5 r]
 walk_at "go"
noncomputable def dJ(r:Row):Row:=if r.1=r.2.1 then (r.1,r.2.1,r.2.2.1,0) else r
theorem yW(r:Row):nr [r.d]=some (.sh (dJ r).d):=by
 refine Wo.eq (nD.mpr ?_)
 unfold C1
 walk_at "vc"
 rw [Co]
 walk_at "vc"
 unfold dJ
 refine ⟨λh=>?_,λh=>?_⟩
 .rw [if_pos h,c5]
  walk_at "vc"
  rfl
 .rw [if_neg h]
noncomputable def iw(a r:Row):Int:=if a.1=a.2.1 then r.2.2.1-a.2.2.1 else a.2.2.2
noncomputable def iC(a r:Row):List Row:=if r.2.2.1≠a.2.2.1+iw a r*(r.1-a.1) then [a,dJ r] else if r.1=r.2.1\/r.2.2.2=iw a r then [(a.1,r.2.1,a.2.2.1,iw a r)] else
 [(a.1,r.1,a.2.2.1,iw a r),dJ (r.1+1,r.2.1,r.2.2.1+r.2.2.2,r.2.2.2)]
theorem RQ{a r:Row}(ha:af (3*10^110) a)(hr:af (10^110) r):wN [a.d,r.d]=some (.ow ((iC a r).map Row.d)):=by
 refine Wo.eq (fP.mpr ?_)
 unfold D7
 walk_at "v1"
 rw [Co]
 unfold af at ha hr
 have xt:Wo (some (Sl.sh (D.bl (decide (a.1=a.2.1))))) λKc=>Wo (fA Kc.d) λb=>True:=⟨_,rfl,_,rfl,trivial⟩
 have xu:-(10^200)<=iw a r/\iw a r<=10^200:=by unfold iw;split<;>omega
 rw [c5 a,c5 r]
 walk_at "v1"
 have fin:∀{st:Int},st=iw a r->Wo (ak (br (bf (aa dr (au (bV 1) (eC (.int 2))) (aR 3 oS (ab (bg (ab (au (bV 0) (eC (.int 2))) (ab (eV 2) ae))) (ab (au (bV 0) (eC (.int 0))) (ab (au (bV 1) (eC (.int 0))) ae))))))
   (av (bO (ab (eV 0) (ab (aR 1 nr (ab (eV 1) ae)) ae)))) bI)
   (ak (br (eT (eS (aR 1 oU (ab (eV 1) ae))) (bf (aa aY (au (bV 1) (eC (.int 3))) (eV 2))))
   (av (bO (ab (bg (ab (au (bV 0) (eC (.int 0))) (ab (au (bV 1) (eC (.int 1))) (ab (au (bV 0) (eC (.int 2))) (ab (eV 2) ae))))) ae))) bI)
   (ak (bJ 3 (aR 1 nr (ab (bg (ab (aa aO (au (bV 1) (eC (.int 0))) (eC (.int 1))) (ab (au (bV 1) (eC (.int 1))) (ab (aa aO (au (bV 1) (eC (.int 2))) (au (bV 1) (eC (.int 3)))) (ab (au (bV 1) (eC (.int 3))) ae))))) ae)))
   (av (bO (ab (bg (ab (au (bV 0) (eC (.int 0))) (ab (au (bV 1) (eC (.int 0))) (ab (au (bV 0) (eC (.int 2))) (ab (eV 2) ae))))) (ab (eV 3) ae)))))) [.sh (.tup [.int a.1,.int a.2.1,.int a.2.2.1,.int a.2.2.2]),.sh (.tup [.int r.1,.int r.2.1,.int r.2.2.1,.int r.2.2.2]),.sh (.int st),.no])
   (aK λx=>x=.ow ((iC a r).map Row.d)):=by
  rintro st rfl
  walk_at "vc"
  rw [CA (by ext xu) (by ext xu) (by ext ha hr) (by ext ha hr),<-c5 r,yW,Co]
  have e2:=yW (r.1+1,r.2.1,r.2.2.1+r.2.2.2,r.2.2.2)
  rw [c5] at e2
  dsimp only at e2
  rw [e2]
  walk_at "vc"
  unfold iC
  refine ⟨λh=>?_,λh=>⟨λh1=>?_,λh1=>⟨λh2=>?_,λh2=>?_⟩⟩⟩
  .rw [if_pos h];rfl
  .rw [if_neg (by simpa using h),if_pos (.inl h1)];rfl
  .rw [if_neg (by simpa using h),if_pos (.inr h2)];rfl
  .rw [if_neg (by simpa using h),if_neg (by simp [h1,h2])];rfl
 refine ⟨λh=>?_,λh=>?_⟩
 .exact Wo_seq.mp (fin (by unfold iw;rw [if_pos h]))
 .exact Wo_seq.mp (fin (by unfold iw;rw [if_neg h]))
theorem Ig{a r:Row}(ha:iX a)(hr:r.1<=r.2.1)(hn:r.1=a.2.1+1):(∀q∈iC a r,iX q)/\aS j0 (iC a r)/\(∀x c,Val (iC a r) x c↔(a.1<=x/\x<=a.2.1/\c=a.at x)\/(r.1<=x/\x<=r.2.1/\c=r.at x)) /\
  total (iC a r)=(a.2.1-a.1+1)+(r.2.1-r.1+1)/\(∃q,(iC a r).head?=some q/\q.1=a.1/\q.2.2.1=a.2.2.1)/\(∃q,(iC a r).getLast?=some q/\q.2.1=r.2.1)/\(iC a r).length<=2:=by
 obtain ⟨a0,a1,a2,a3⟩:=a
 obtain ⟨r0,r1,r2,r3⟩:=r
 unfold iX at ha
 dsimp only at ha hr hn
 have ei:∀r:Row,r.1<=r.2.1->iX (dJ r)/\(dJ r).1=r.1/\(dJ r).2.1=r.2.1/\(dJ r).2.2.1=r.2.2.1/\∀x,r.1<=x->x<=r.2.1->(dJ r).at x=r.at x:=λr h=>by
  unfold dJ
  split
  .rename_i e
   refine ⟨⟨by dsimp only;ext h,λ_=>rfl⟩,rfl,rfl,rfl,λx h1 h2=>?_⟩
   have:x=r.1:=by ext e h1 h2
   unfold Row.at
   dsimp only
   rw [this];simp
  .rename_i e
   exact ⟨⟨h,λz=>absurd z e⟩,rfl,rfl,rfl,λ_ _ _=>rfl⟩
 generalize hs:iw (a0,a1,a2,a3) (r0,r1,r2,r3)=s
 have uj:a0=a1->s=r2-a2:=λe=>by rw [<-hs];unfold iw;dsimp only;rw [if_pos e]
 have eZ:a0≠a1->s=a3:=λe=>by rw [<-hs];unfold iw;dsimp only;rw [if_neg e]
 unfold iC
 dsimp only
 rw [hs]
 by_cases bz:r2≠a2+s*(r0-a0)
 .rw [if_pos bz]
  have Fw:a0≠a1:=λe=>bz (by rw [uj e,hn,<-e];grind)
  have hs:=eZ Fw
  obtain ⟨p1,p2,p3,p4,p5⟩:=ei (r0,r1,r2,r3) hr
  dsimp only at p2 p3 p4 p5
  refine ⟨λq hq=>?_,⟨⟨by rw [p2];dsimp only;ext hn,λ_=>⟨by dsimp only;ext ha Fw,?_⟩⟩,trivial⟩,λx c=>?_,?_,⟨_,rfl,rfl,rfl⟩,⟨_,rfl,p3⟩,by simp⟩
  .simp at hq
   rcases hq with rfl | rfl
   .exact ha
   .exact p1
  .rw [p4,p2]
   unfold Row.at
   dsimp only
   rw [<-hs];exact bz
  .rw [Val.two,p2,p3]
   constructor
   .rintro (h | ⟨h1,h2,h3⟩)
    .exact .inl h
    .exact .inr ⟨h1,h2,by rw [h3,p5 x h1 h2]⟩
   .rintro (h | ⟨h1,h2,h3⟩)
    .exact .inl h
    .exact .inr ⟨h1,h2,by rw [h3,p5 x h1 h2]⟩
  .unfold total
   simp [p2,p3]
 .have he:r2=a2+s*(r0-a0):=Classical.not_not.mp bz
  rw [if_neg bz]
  have va:∀x,a0<=x->x<=a1->a2+s*(x-a0)=a2+a3*(x-a0):=λx h1 h2=>by
   by_cases e:a0=a1
   .have:x=a0:=by ext h1 h2 e
    rw [this];simp
   .rw [eZ e]
  by_cases hj:r0=r1\/r3=s
  .rw [if_pos hj]
   have vr:∀x,r0<=x->x<=r1->a2+s*(x-a0)=r2+r3*(x-r0):=λx h1 h2=>by
    have e1:a2+s*(x-a0)=r2+s*(x-r0):=by rw [he];grind
    rw [e1]
    rcases hj with e | e
    .have:x=r0:=by ext h1 h2 e
     rw [this];simp
    .rw [e]
   refine ⟨λq hq=>?_,trivial,λx c=>?_,?_,⟨_,rfl,rfl,rfl⟩,⟨_,rfl,rfl⟩,by simp⟩
   .simp at hq
    subst hq
    exact ⟨by dsimp only;ext ha hr hn,λz=>by dsimp only at z;ext ha hr hn z⟩
   .rw [Val.one]
    unfold Row.at
    dsimp only
    constructor
    .rintro ⟨h1,h2,h3⟩
     by_cases hx:x<=a1
     .exact .inl ⟨h1,hx,by rw [h3];exact va x h1 hx⟩
     .exact .inr ⟨by ext hn hx,h2,by rw [h3];exact vr x (by ext hn hx) h2⟩
    .rintro (⟨h1,h2,h3⟩ | ⟨h1,h2,h3⟩)
     .exact ⟨h1,by ext hr hn h2,by rw [h3];exact (va x h1 h2).symm⟩
     .exact ⟨by ext ha hn h1,h2,by rw [h3];exact (vr x h1 h2).symm⟩
   .unfold total
    simp
    ext hn
  .rw [if_neg hj]
   have Nb:r0≠r1:=λe=>hj (.inl e)
   have Na:r3≠s:=λe=>hj (.inr e)
   obtain ⟨p1,p2,p3,p4,p5⟩:=ei (r0+1,r1,r2+r3,r3) (by dsimp only;ext hr Nb)
   dsimp only at p2 p3 p4 p5
   have vp:∀x,Row.at (r0+1,r1,r2+r3,r3) x=r2+r3*(x-r0):=λx=>by unfold Row.at;dsimp only;grind
   refine ⟨λq hq=>?_,⟨⟨by rw [p2];dsimp only;ext,λ_=>⟨by dsimp only;ext ha hn,?_⟩⟩,trivial⟩,λx c=>?_,?_,⟨_,rfl,rfl,rfl⟩,⟨_,rfl,p3⟩,by simp⟩
   .simp at hq
    rcases hq with rfl | rfl
    .exact ⟨by dsimp only;ext ha hn,λz=>by dsimp only at z;ext ha hn z⟩
    .exact p1
   .rw [p4,p2]
    unfold Row.at
    dsimp only
    have:a2+s*(r0+1-a0)=r2+s:=by rw [he];grind
    rw [this]
    ext Na
   .rw [Val.two,p2,p3]
    unfold Row.at at vp p5 ⊢
    dsimp only at vp p5 ⊢
    constructor
    .rintro (⟨h1,h2,h3⟩ | ⟨h1,h2,h3⟩)
     .by_cases hx:x<=a1
      .exact .inl ⟨h1,hx,by rw [h3];exact va x h1 hx⟩
      .have:x=r0:=by ext hn h2 hx
       exact .inr ⟨by ext hn hx,by ext hr h2,by rw [h3,this,<-he];simp⟩
     .refine .inr ⟨by ext h1,h2,?_⟩
      rw [p5 x h1 h2,vp] at h3
      exact h3
    .rintro (⟨h1,h2,h3⟩ | ⟨h1,h2,h3⟩)
     .exact .inl ⟨h1,by ext hn h2,by rw [h3];exact (va x h1 h2).symm⟩
     .by_cases hx:x=r0
      .exact .inl ⟨by ext ha hn hx,by ext hx,by rw [h3,hx,<-he];simp⟩
      .refine .inr ⟨by ext h1 hx,h2,?_⟩
       rw [p5 x (by ext h1 hx) h2,vp]
       exact h3
   .unfold total
    simp [p2,p3]
    ext hn
theorem SQ{a r:Row}(ha:af (3*10^110) a/\(-(2*10^110)<=a.2.2.1/\a.2.2.1<=2*10^110))(hr:af (10^110) r):∀q∈iC a r,af (3*10^110) q/\(-(2*10^110)<=q.2.2.1/\q.2.2.1<=2*10^110):=by
 unfold af at *
 have hs:-(3*10^110)<=iw a r/\iw a r<=3*10^110:=by unfold iw;split<;>omega
 have hp:∀z:Row,((dJ z).1=z.1/\(dJ z).2.1=z.2.1/\(dJ z).2.2.1=z.2.2.1/\((dJ z).2.2.2=z.2.2.2\/(dJ z).2.2.2=0)):=λz=>by unfold dJ;split<;>simp
 intro q hq
 unfold iC at hq
 split at hq
 .simp at hq
  rcases hq with rfl | rfl
  .exact ha
  .have:=hp r;ext hr this
 .split at hq
  .simp at hq
   subst hq
   dsimp only
   ext ha hr hs
  .simp at hq
   rcases hq with rfl | rfl
   .dsimp only;ext ha hr hs
   .have:=hp (r.1+1,r.2.1,r.2.2.1+r.2.2.2,r.2.2.2)
    dsimp only at this
    ext hr this
theorem Rq{r:Row}(h:r.1<=r.2.1):iX (dJ r)/\(dJ r).1=r.1/\(dJ r).2.1=r.2.1/\(dJ r).2.2.1=r.2.2.1/\∀x,r.1<=x->x<=r.2.1->(dJ r).at x=r.at x:=by
 unfold dJ
 split
 .rename_i e
  refine ⟨⟨by dsimp only;ext h,λ_=>rfl⟩,rfl,rfl,rfl,λx h1 h2=>?_⟩
  have:x=r.1:=by ext e h1 h2
  unfold Row.at
  dsimp only
  rw [this];simp
 .rename_i e
  exact ⟨⟨h,λz=>absurd z e⟩,rfl,rfl,rfl,λ_ _ _=>rfl⟩
structure Laid(pre ms:List Row):Prop where
 canon:Canon ms
 val:∀x c,Val ms x c↔Val pre x c
 total:total ms=total pre
 last:∀a r,ms.getLast?=some a->pre.getLast?=some r->a.2.1=r.2.1
 none:ms=[]↔pre=[]
 len:ms.length<=pre.length
 bd:∀q∈ms,af (3*10^110) q/\(-(2*10^110)<=q.2.2.1/\q.2.2.1<=2*10^110)
theorem Laid.append{pre ms:List Row}{r:Row}(h:Laid pre ms)(hr:r.1<=r.2.1)(hb:af (10^110) r)(hf:∀a,ms.getLast?=some a->a.2.1<r.1/\a.2.1+1≠r.1):Laid (pre++[r]) (ms++[dJ r]):=by
 obtain ⟨p1,p2,p3,p4,p5⟩:=Rq hr
 refine ⟨⟨λq hq=>?_,h.canon.2.snoc λa ha=>?_⟩,λx c=>?_,?_,λa q ha hq=>?_,by simp,by simp;exact h.len,λq hq=>?_⟩
 .rcases bR.mp hq with hq | hq
  .exact h.canon.1 q hq
  .rw [cH.mp hq];exact p1
 .have:=hf a ha
  exact ⟨by rw [p2];ext this,λz=>by rw [p2] at z;ext this z⟩
 .rw [Val.app,Val.app,h.val x c,Val.one,Val.one,p2,p3]
  constructor
  .rintro (h | ⟨h1,h2,h3⟩)
   .exact .inl h
   .exact .inr ⟨h1,h2,by rw [h3,p5 x h1 h2]⟩
  .rintro (h | ⟨h1,h2,h3⟩)
   .exact .inl h
   .exact .inr ⟨h1,h2,by rw [h3,p5 x h1 h2]⟩
 .rw [qv,qv,h.total]
  unfold My.total
  simp [p2,p3]
 .simp at ha hq
  subst ha hq
  exact p3
 .rcases bR.mp hq with hq | hq
  .exact h.bd q hq
  .rw [cH.mp hq]
   have:(dJ r).2.2.2=r.2.2.2\/(dJ r).2.2.2=0:=by unfold dJ;split<;>simp
   unfold af at *
   ext hb p2 p3 p4 this
theorem Laid.p6{pre ms:List Row}{a r:Row}(h:Laid pre (ms++[a]))(hr:r.1<=r.2.1)(hb:af (10^110) r)(hn:a.2.1+1=r.1):Laid (pre++[r]) (ms++iC a r):=by
 obtain ⟨b1,b2,b3,b4,⟨q1,b5,b6,b7⟩,⟨q2,b8,b9⟩,Rg⟩:=Ig (h.canon.1 a (by simp)) hr hn.symm
 have bz:iC a r≠[]:=λz=>by rw [z] at b5;cases b5
 refine ⟨⟨λq hq=>?_,h.canon.2.left.append b2 λc d hc hd=>?_⟩,λx c=>?_,?_,λc q hc hq=>?_,by simp [bz],?_,λq hq=>?_⟩
 .rcases bR.mp hq with hq | hq
  .exact h.canon.1 q (by simp [hq])
  .exact b1 q hq
 .rw [b5] at hd
  cases hd
  have:=h.canon.2.mid c hc
  unfold j0 at this ⊢
  rw [b6,b7]
  exact this
 .rw [Val.app,Val.app,Val.one,b3,<-h.val,Val.app,Val.one,or_assoc]
 .have e:=h.total
  rw [qv] at e
  rw [qv,qv,b4,<-e]
  unfold My.total
  simp
  ext
 .rw [List.getLast?_append,b8] at hc
  simp at hc hq
  subst hc hq
  exact b9
 .have:=h.len
  simp at this ⊢
  ext Rg this
 .rcases bR.mp hq with hq | hq
  .exact h.bd q (by simp [hq])
  .exact SQ (h.bd a (by simp)) hb q hq
theorem rH{rows:List Row}(ha:bU rows)(hb:∀r∈rows,af (10^110) r)(hl:rows.length<=8000000){ro:Bool}:∃fs:List Row,mq [.lst ro (rows.map Row.d)]=some (.sh (.tup (fs.map Row.d)))/\Laid rows fs:=by
 have key:Wo (mq [.lst ro (rows.map Row.d)]) λs=>∃fs:List Row,s=.sh (.tup (fs.map Row.d))/\Laid rows fs:=by
  refine qC.mpr ?_
  unfold CD
  walk_at "vc"
  refine mx Row.d (λpre env=>∃x2 x3,∃ms:List Row,env=[.sh (.lst ro (rows.map Row.d)),.ow (ms.map Row.d),x2,x3]/\Laid pre ms) rows (λpre r post env e h=>?_) (λenv h=>?_)
   ⟨_,_,[],rfl,⟨⟨λ_ z=>(nomatch z),trivial⟩,λ_ _=>df,rfl,λ_ _ z=>(nomatch z),df,bj _,λ_ z=>(nomatch z)⟩⟩
  .obtain ⟨x2,x3,ms,rfl,h⟩:=h
   have hr:r∈rows:=by rw [e];simp
   have nV:=ha.1 r hr
   have xx:=hb r hr
   have hlen:ms.length<=8000000:=et h.len (et (by rw [e];simp) hl)
   have e7:∀q,pre.getLast?=some q->q.2.1<r.1:=λq hq=>by
    have:=ha.2
    rw [e] at this
    exact (fG.mp this).2.2 q (F7 hq) r cP
   rcases B9 ms with rfl | ⟨ns,a,e2⟩
   .walk_at "vc"
    simp only [vD,List.isEmpty_nil,Bool.not_true,vv,false_implies,true_implies,true_and]
    rw [yW]
    walk_at "vc"
    have:=h.append nV xx (λ_ z=>nomatch z)
    exact ⟨_,_,[dJ r],rfl,this⟩
   .have e2:ms=ns++[a]:=by simpa using e2
    subst e2
    have uk:pre≠[]:=λz=>by have:=h.none.mpr z;simp at this
    obtain ⟨q,hq⟩:∃q,pre.getLast?=some q:=⟨pre.getLast uk,List.getLast?_eq_some_getLast uk⟩
    have js:=h.last a q (by simp) hq
    have bx:=e7 q hq
    walk_at "vc"
    have em:(mX Row.d (ns++[a])).isEmpty=false:=by simp
    rw [em,fg,jV,vD,DL.cZ,c5 a,c5 r]
    walk_at "vc"
    refine ⟨λhe=>?_,λhe=>?_⟩
    .have ed:(mX Row.d ns++[D.tup [D.int a.1,D.int a.2.1,D.int a.2.2.1,D.int a.2.2.2]])[(mX Row.d ns++[D.tup [D.int a.1,D.int a.2.1,D.int a.2.2.1,D.int a.2.2.2]]).length-1]?=some (D.tup [D.int a.1,D.int a.2.1,D.int a.2.2.1,D.int a.2.2.2]):=by simp
     rw [ed,F6]
     walk_at "vc"
     rw [<-c5 a,<-c5 r,RQ (h.bd a (by simp)).1 xx]
     walk_at "vc"
     have Vo:=(Ig (h.canon.1 a (by simp)) nV he.symm).2.2.2.2.2.2
     simp at hlen
     refine ⟨by decide,by simp;lia,_,_,ns++iC a r,by rw [fg],h.p6 nV xx he⟩
    .rw [<-c5 a,<-c5 r,yW]
     walk_at "vc"
     simp at hlen
     refine ⟨by simp;lia,_,_,ns++[a]++[dJ r],by rw [fg,fg];rfl,h.append nV xx λc hc=>?_⟩
     simp at hc
     subst hc
     exact ⟨by ext js bx,he⟩
  .obtain ⟨x2,x3,ms,rfl,h⟩:=h
   walk_at "vc"
   exact ⟨ms,rfl,h⟩
 obtain ⟨s,e,fs,rfl,h⟩:=key
 exact ⟨fs,e,h⟩
noncomputable def fap(a b:Row):Int:=if a.1≠b.1 then min a.1 b.1 else if a.2.2.1≠b.2.2.1 then a.1 else if a.2.2.2≠b.2.2.2 then a.1+1 else min a.2.1 b.2.1+1
noncomputable def fu:List Row->List Row->Option Int
 | [],[]=>none
 | [],b::_=>some b.1
 | a::_,[]=>some a.1
 | a::as,b::bs=>if a=b then fu as bs else some (fap a b)
theorem Canon.tail{r:Row}{rs:List Row}(h:Canon (r::rs)):Canon rs:=⟨λq hq=>h.1 q (dj _ hq),h.2.tail⟩
theorem gZ{r:Row}{rs:List Row}(h:Canon (r::rs)){y:Int}(hy:y<r.1):look (r::rs) y=none:=by
 have ha:=h.cX
 refine ze λq hq=>.inl ?_
 rcases cU.mp hq with rfl | hq
 .exact hy
 .have:=(eO.mp ha.2).1 q hq
  have:=ha.1 r cP
  lia
theorem gq{r:Row}{rs:List Row}{y:Int}(h1:r.1<=y)(h2:y<=r.2.1):look (r::rs) y=some (r.at y):=by
 rw [look,if_pos ⟨h1,h2⟩]
theorem wq{r:Row}{rs:List Row}{y:Int}(h:r.2.1<y):look (r::rs) y=look rs y:=by
 rw [look,if_neg (by ext h)]
theorem zf{r:Row}{rs:List Row}(h:Canon (r::rs)){y:Int}(hy:y<=r.2.1):look rs y=none:=by
 have ha:=h.cX
 refine ze λq hq=>.inl ?_
 have:=(eO.mp ha.2).1 q hq
 ext hy this
theorem H9{r:Row}{rs:List Row}(h:Canon (r::rs)):look (r::rs) (r.2.1+1)≠some (r.at (r.2.1+1))/\(r.1=r.2.1->look (r::rs) (r.2.1+1)=none):=by
 rw [wq (by ext)]
 cases rs with
 | nil=>exact ⟨λz=>(nomatch z),λ_=>rfl⟩
 | cons q qs =>
  have hf:j0 r q:=h.2.1
  have hq:=h.tail.1 q cP
  unfold j0 at hf
  unfold iX at hq
  by_cases hl:q.1=r.2.1+1
  .obtain ⟨g1,g2⟩:=hf.2 hl
   rw [gq (by ext hl) (by ext hq hl)]
   refine ⟨λz=>g2 ?_,λz=>absurd z (by ext g1)⟩
   have z:=bQ z
   rw [<-hl] at z
   rw [<-z]
   unfold Row.at
   rw [xT,vA,oi]
  .rw [gZ h.tail (by ext hf hl)]
   exact ⟨λz=>(nomatch z),λ_=>rfl⟩
theorem Q8{a b:Row}(h1:a.1=b.1)(h2:a.2.1=b.2.1)(h3:a.2.2.1=b.2.2.1)(h4:a.2.2.2=b.2.2.2):a=b:=xI h1 (xI h2 (xI h3 h4))
theorem RB{a b:Row}{as bs:List Row}(ha:Canon (a::as))(hb:Canon (b::bs))(bz:a≠b):look (a::as) (fap a b)≠look (b::bs) (fap a b)/\∀y,y<fap a b->look (a::as) y=look (b::bs) y:=by
 have oa:=ha.1 a cP
 have ob:=hb.1 b cP
 obtain ⟨na,L3⟩:=H9 ha
 obtain ⟨nb,L1⟩:=H9 hb
 unfold iX at oa ob
 unfold fap
 by_cases h1:a.1=b.1
 .rw [if_neg (by simpa using h1)]
  by_cases h2:a.2.2.1=b.2.2.1
  .rw [if_neg (by simpa using h2)]
   by_cases h3:a.2.2.2=b.2.2.2
   .rw [if_neg (by simpa using h3)]
    have xG:∀y,a.at y=b.at y:=λy=>by unfold Row.at;rw [h1,h2,h3]
    have h4:a.2.1≠b.2.1:=λz=>bz (Q8 h1 z h2 h3)
    rcases vq h4 with h | h
    .rw [show min a.2.1 b.2.1+1=a.2.1+1 by ext h]
     refine ⟨?_,λy hy=>?_⟩
     .rw [gq (r:=b) (by ext oa h1) (by ext h),<-xG]
      exact na
     .by_cases hl:y<a.1
      .rw [gZ ha hl,gZ hb (by ext h1 hl)]
      .rw [gq (r:=a) (by ext hl) (by ext hy),gq (r:=b) (by ext h1 hl) (by ext h hy),xG]
    .rw [show min a.2.1 b.2.1+1=b.2.1+1 by ext h]
     refine ⟨?_,λy hy=>?_⟩
     .rw [gq (r:=a) (by ext ob h1) (by ext h),xG]
      exact λz=>nb z.symm
     .by_cases hl:y<a.1
      .rw [gZ ha hl,gZ hb (by ext h1 hl)]
      .rw [gq (r:=a) (by ext hl) (by ext h hy),gq (r:=b) (by ext h1 hl) (by ext hy),xG]
   .rw [if_pos (by simpa using h3)]
    refine ⟨?_,λy hy=>?_⟩
    .by_cases sa:a.1=a.2.1
     .have xu:b.1<b.2.1:=by ext oa ob h3 sa
      have e:=L3 sa
      rw [<-sa] at e
      rw [e,gq (r:=b) (by ext h1) (by ext h1 xu)]
      exact λz=>(nomatch z)
     .by_cases sb:b.1=b.2.1
      .have e:=L1 sb
       rw [<-sb,<-h1] at e
       rw [e,gq (r:=a) (by ext) (by ext oa sa)]
       exact λz=>(nomatch z)
      .rw [gq (r:=a) (by ext) (by ext oa sa),gq (r:=b) (by ext h1) (by ext ob h1 sb)]
       intro z
       have z:=bQ z
       unfold Row.at at z
       rw [<-h1,show a.1+1-a.1=1 by ext,mW,mW] at z
       ext h2 h3 z
    .by_cases hl:y<a.1
     .rw [gZ ha hl,gZ hb (by ext h1 hl)]
     .have:y=a.1:=by ext hy hl
      subst this
      rw [gq (r:=a) (by ext) (by ext oa),gq (r:=b) (by ext h1) (by ext ob h1)]
      unfold Row.at
      rw [<-h1,h2]
      simp
  .rw [if_pos (by simpa using h2)]
   refine ⟨?_,λy hy=>by rw [gZ ha hy,gZ hb (by ext h1 hy)]⟩
   rw [gq (r:=a) (by ext) (by ext oa),gq (r:=b) (by ext h1) (by ext ob h1)]
   intro z
   have z:=bQ z
   unfold Row.at at z
   rw [<-h1,xT,vA,vA] at z
   ext h2 z
 .rw [if_pos (by simpa using h1)]
  rcases vq h1 with h | h
  .rw [show min a.1 b.1=a.1 by ext h]
   refine ⟨?_,λy hy=>by rw [gZ ha hy,gZ hb (by ext h hy)]⟩
   rw [gq (r:=a) (by ext) (by ext oa),gZ hb (by ext h)]
   exact λz=>(nomatch z)
  .rw [show min a.1 b.1=b.1 by ext h]
   refine ⟨?_,λy hy=>by rw [gZ ha (by ext h hy),gZ hb hy]⟩
   rw [gq (r:=b) (by ext) (by ext ob),gZ ha (by ext h)]
   exact λz=>(nomatch z)
theorem jt:∀{A B:List Row},fu A B=none↔A=B
 | [],[]=>by simp [fu]
 | [],b::_=>by simp [fu]
 | a::_,[]=>by simp [fu]
 | a::as,b::bs=>by
  unfold fu
  by_cases h:a=b
  .rw [if_pos h,jt,h];simp
  .rw [if_neg h];simp [h]
theorem Hi:∀{A B:List Row},Canon A->Canon B->∀{x:Int},fu A B=some x->look A x≠look B x/\∀y,y<x->look A y=look B y
 | [],[],_,_,x,h=>by cases h
 | [],b::bs,_,hb,x,h=>by
  obtain rfl:=bQ h
  have ob:=hb.1 b cP
  refine ⟨?_,λy hy=>by rw [gZ hb hy];rfl⟩
  rw [gq (eQ _) ob.1]
  exact λz=>(nomatch z)
 | a::as,[],ha,_,x,h=>by
  obtain rfl:=bQ h
  have oa:=ha.1 a cP
  refine ⟨?_,λy hy=>by rw [gZ ha hy];rfl⟩
  rw [gq (eQ _) oa.1]
  exact λz=>(nomatch z)
 | a::as,b::bs,ha,hb,x,h=>by
  unfold fu at h
  by_cases e:a=b
  .subst e
   rw [if_pos rfl] at h
   obtain ⟨h1,h2⟩:=Hi ha.tail hb.tail h
   have hx:a.2.1<x:=by
    rcases BF a.2.1 x with z | z
    .exact z
    .exact absurd (by rw [zf ha z,zf hb z]) h1
   refine ⟨by rw [wq hx,wq hx];exact h1,λy hy=>?_⟩
   by_cases hl:a.2.1<y
   .rw [wq hl,wq hl];exact h2 y hy
   .rw [look,look,zf ha (by ext hl),zf hb (by ext hl)]
  .rw [if_neg e] at h
   obtain rfl:=bQ h
   exact RB ha hb e
theorem S9{A B:List Row}(ha:Canon A)(hb:Canon B)(h:∀x,look A x=look B x):A=B:=by
 cases e:fu A B with
 | none=>exact jt.mp e
 | some x=>exact absurd (h x) (Hi ha hb e).1
structure Met where
 lo:Int
 hi:Int
 a:Row
 b:Row
noncomputable def aT:List Row->List Row->List Met
 | a::as,b::bs=>(if max a.1 b.1<=min a.2.1 b.2.1 then [⟨max a.1 b.1,min a.2.1 b.2.1,a,b⟩] else [])++(if a.2.1<b.2.1 then aT as (b::bs) else aT (a::as) bs)
 | _,_=>[]
termination_by as bs=>as.length+bs.length
theorem wg{bs:List Row}:aT [] bs=[]:=by rw [aT];simp
theorem wt{as:List Row}:aT as []=[]:=by rw [aT];simp
theorem r8{a b:Row}{as bs:List Row}:aT (a::as) (b::bs)=(if max a.1 b.1<=min a.2.1 b.2.1 then [⟨max a.1 b.1,min a.2.1 b.2.1,a,b⟩] else [])++(if a.2.1<b.2.1 then aT as (b::bs) else aT (a::as) bs):=by rw [aT]
theorem iB{m:Met}:∀{n:Nat} {A B:List Row},A.length+B.length<=n->m∈aT A B->m.a∈A/\m.b∈B/\m.lo=max m.a.1 m.b.1/\m.hi=min m.a.2.1 m.b.2.1/\m.lo<=m.hi
 | n,[],B,_,h=>by rw [wg] at h;cases h
 | n,a::as,[],_,h=>by rw [wt] at h;cases h
 | 0,a::as,b::bs,hn,_=>absurd hn (by simp)
 | n+1,a::as,b::bs,hn,h=>by
  rw [r8] at h
  rcases bR.mp h with h | h
  .split at h
   .simp at h;subst h;simp;lia
   .cases h
  .split at h
   .obtain ⟨h1,h2,h3⟩:=iB (n:=n) (by simp at hn ⊢;ext hn) h
    exact ⟨dj _ h1,h2,h3⟩
   .obtain ⟨h1,h2,h3⟩:=iB (n:=n) (by simp at hn ⊢;ext hn) h
    exact ⟨h1,dj _ h2,h3⟩
theorem wd:∀{n:Nat} {A B:List Row},A.length+B.length<=n->bU A->bU B->(aT A B).Pairwise λm k=>m.hi<k.lo
 | n,[],B,_,_,_=>by rw [wg];exact .nil
 | n,a::as,[],_,_,_=>by rw [wt];exact .nil
 | 0,a::as,b::bs,hn,_,_=>absurd hn (by simp)
 | n+1,a::as,b::bs,hn,ha,hb=>by
  have ta:bU as:=⟨λq hq=>ha.1 q (dj _ hq),(eO.mp ha.2).2⟩
  have tb:bU bs:=⟨λq hq=>hb.1 q (dj _ hq),(eO.mp hb.2).2⟩
  rw [r8]
  refine fG.mpr ⟨?_,?_,λm hm k hk=>?_⟩
  .split<;>simp
  .split
   .exact wd (n:=n) (by simp at hn ⊢;ext hn) ta hb
   .exact wd (n:=n) (by simp at hn ⊢;ext hn) ha tb
  .have em:m.hi=min a.2.1 b.2.1:=by
    split at hm
    .simp at hm;subst hm;rfl
    .cases hm
   split at hk
   .obtain ⟨h1,h2,h3,_⟩:=iB (bj _) hk
    have:=(eO.mp ha.2).1 _ h1
    ext em h3 this
   .obtain ⟨h1,h2,h3,_⟩:=iB (bj _) hk
    have:=(eO.mp hb.2).1 _ h2
    ext em h3 this
theorem y9{x:Int}{a' b':Row}:∀{n:Nat} {A B:List Row},A.length+B.length<=n->bU A->bU B->a'∈A->b'∈B->a'.1<=x->x<=a'.2.1->b'.1<=x->x<=b'.2.1->∃m∈aT A B,m.a=a'/\m.b=b'/\m.lo<=x/\x<=m.hi
 | n,[],B,_,_,_,h,_,_,_,_,_=>by cases h
 | n,a::as,[],_,_,_,_,h,_,_,_,_=>by cases h
 | 0,a::as,b::bs,hn,_,_,_,_,_,_,_,_=>absurd hn (by simp)
 | n+1,a::as,b::bs,hn,ha,hb,h1,h2,x1,x2,x3,x4=>by
  have ta:bU as:=⟨λq hq=>ha.1 q (dj _ hq),(eO.mp ha.2).2⟩
  have tb:bU bs:=⟨λq hq=>hb.1 q (dj _ hq),(eO.mp hb.2).2⟩
  rw [r8]
  by_cases hh:a'=a/\b'=b
  .obtain ⟨rfl,rfl⟩:=hh
   refine ⟨⟨max a'.1 b'.1,min a'.2.1 b'.2.1,a',b'⟩,?_,rfl,rfl,by dsimp only;ext x1 x3,by dsimp only;ext x2 x4⟩
   rw [if_pos (by ext x1 x2 x3 x4)];simp
  .have rest:∃m∈(if a.2.1<b.2.1 then aT as (b::bs) else aT (a::as) bs),m.a=a'/\m.b=b'/\m.lo<=x/\x<=m.hi:=by
    split
    .rename_i bx
     have mS:a'∈as:=by
      rcases cU.mp h1 with e | e
      .rcases cU.mp h2 with e2 | e2
       .exact absurd ⟨e,e2⟩ hh
       .have:=(eO.mp hb.2).1 _ e2
        subst e;ext _ x2 x3 this bx
      .exact e
     exact y9 (n:=n) (by simp at hn ⊢;ext hn) ta hb mS h2 x1 x2 x3 x4
    .rename_i bx
     have uL:b'∈bs:=by
      rcases cU.mp h2 with e | e
      .rcases cU.mp h1 with e2 | e2
       .exact absurd ⟨e2,e⟩ hh
       .have:=(eO.mp ha.2).1 _ e2
        subst e;ext _ x1 x4 this bx
      .exact e
     exact y9 (n:=n) (by simp at hn ⊢;ext hn) ha tb h1 uL x1 x2 x3 x4
   obtain ⟨m,hm,k⟩:=rest
   exact ⟨m,er _ hm,k⟩
theorem we:∀{n:Nat} {A B:List Row},A.length+B.length<=n->(aT A B).length<=A.length+B.length
 | n,[],B,_=>by rw [wg];simp
 | n,a::as,[],_=>by rw [wt];simp
 | 0,a::as,b::bs,hn=>absurd hn (by simp)
 | n+1,a::as,b::bs,hn=>by
  rw [r8,bP]
  have h1:(if max a.1 b.1<=min a.2.1 b.2.1 then [(⟨max a.1 b.1,min a.2.1 b.2.1,a,b⟩:Met)] else []).length<=1:=by split<;>simp
  by_cases hc:a.2.1<b.2.1
  .have:=we (n:=n) (A:=as) (B:=b::bs) (by simp at hn ⊢;ext hn)
   rw [if_pos hc]
   simp at this ⊢;ext h1 this
  .have:=we (n:=n) (A:=a::as) (B:=bs) (by simp at hn ⊢;ext hn)
   rw [if_neg hc]
   simp at this ⊢;ext h1 this
theorem Rh{A B:List Row}(ha:bU A)(hb:bU B)(g:Met->Row)(hg:∀m,(g m).1=m.lo/\(g m).2.1=m.hi)(f:Int->Int->Int)(hf:∀m∈aT A B,∀x,(g m).at x=f (m.a.at x) (m.b.at x)):
  bU ((aT A B).map g)/\∀x c,Val ((aT A B).map g) x c↔∃p q,Val A x p/\Val B x q/\c=f p q:=by
 refine ⟨⟨λr hr=>?_,?_⟩,λx c=>⟨λ⟨r,hr,h1,h2,h3⟩=>?_,λ⟨p,q,⟨a,A7,a1,a2,a3⟩,⟨b,gJ,b1,b2,b3⟩,e⟩=>?_⟩⟩
 .obtain ⟨m,hm,rfl⟩:=cO.mp hr
  have:=iB (bj _) hm
  have:=hg m
  lia
 .rw [l7]
  refine (wd (bj _) ha hb).imp λ{m k} h=>?_
  have:=hg m;have:=hg k;lia
 .obtain ⟨m,hm,rfl⟩:=cO.mp hr
  obtain ⟨k1,k2,k3,k4,k5⟩:=iB (bj _) hm
  obtain ⟨g1,g2⟩:=hg m
  rw [hf m hm] at h3
  exact ⟨_,_,⟨m.a,k1,by ext h1 k3 g1,by ext h2 k4 g2,rfl⟩,⟨m.b,k2,by ext h1 k3 g1,by ext h2 k4 g2,rfl⟩,h3⟩
 .obtain ⟨m,hm,rfl,rfl,m1,m2⟩:=y9 (x:=x) (bj _) ha hb A7 gJ a1 a2 b1 b2
  obtain ⟨g1,g2⟩:=hg m
  exact ⟨g m,cO.mpr ⟨m,hm,rfl⟩,by ext m1 g1,by ext m2 g2,by rw [hf m hm,e,a3,b3]⟩
theorem Cz(a b:Option Int):dr (bN a) (bN b)=some (.sh (.bl (decide (a≠b)))):=by
 cases a<;>cases b<;>simp [bN,dr,aQ]
theorem qt{rs:List Row}(h:bU rs){x:Int}{o:Option Int}(k:∀c,Val rs x c↔o=some c):look rs x=o:=by
 cases o with
 | some c=>exact (oO h).mpr ((k c).mpr rfl)
 | none =>
  cases e:look rs x with
  | none=>rfl
  | some c=>exact nomatch (k c).mp ((oO h).mp e)
theorem oQ{rs:List Row}(h:bU rs){x c:Int}:Val rs x c↔look rs x=some c:=(oO h).symm
theorem HA{A:List Row}(ha:bU A)(g:Row->Row)(hg:∀r,(g r).1=r.1/\(g r).2.1=r.2.1)(f:Int->Int)(hf:∀r x,(g r).at x=f (r.at x)):
  bU (A.map g)/\∀x c,Val (A.map g) x c↔(look A x).map f=some c:=by
 refine ⟨⟨λr hr=>?_,?_⟩,λx c=>?_⟩
 .obtain ⟨q,hq,rfl⟩:=cO.mp hr
  have:=hg q;have:=ha.1 q hq;lia
 .rw [l7]
  refine ha.2.imp λ{a b} h=>?_
  have:=hg a;have:=hg b;lia
 .constructor
  .rintro ⟨r,hr,h1,h2,h3⟩
   obtain ⟨q,hq,rfl⟩:=cO.mp hr
   have:=hg q
   rw [jZ ha hq (by ext h1 this) (by ext h2 this),h3,hf];rfl
  .intro h
   obtain ⟨p,e,rfl⟩:=rm.mp h
   obtain ⟨q,hq,h1,h2,rfl⟩:=mn e
   have:=hg q
   exact ⟨g q,cO.mpr ⟨q,hq,rfl⟩,by ext h1 this,by ext h2 this,by rw [hf]⟩
noncomputable def oz(r:Row)(x:Int):D:=.tup [.int (r.at x),.int r.2.2.2]
theorem yI(r:Row)(x:Int):oz r x=.tup [.int (r.at x),.int r.2.2.2]:=rfl
noncomputable def Met.d(m:Met):D:=.tup [.int m.lo,.int m.hi,oz m.a m.lo,oz m.b m.lo]
theorem Gw(m:Met):Met.d m=.tup [.int m.lo,.int m.hi,oz m.a m.lo,oz m.b m.lo]:=rfl
theorem GP{r:Row}{x:Int}(h1:-(10^250)<=r.2.2.2)(h2:r.2.2.2<=10^250)(h3:-(10^250)<=x-r.1)(h4:x-r.1<=10^250):su [r.d,.int x]=some (.sh (oz r x)):=by
 refine Wo.eq (g8.mpr ?_)
 unfold Es
 walk_at "vc"
 rw [CS h1 h2 h3 h4,c5]
 walk_at "vc"
 rfl
theorem Gz{A B:List Row}(ha:∀r∈A,af (10^200) r)(hb:∀r∈B,af (10^200) r)(l1:A.length<=400000)(l2:B.length<=400000):rS [.tup (A.map Row.d),.tup (B.map Row.d)]=some (.ow ((aT A B).map Met.d)):=by
 refine Wo.eq (wO.mpr ?_)
 unfold Cj
 walk_at "v1"
 rw [Di]
 refine wu (λn env=>∃x5 x6 x7 x8,∃(f s:Nat) (ms:List Met),env=[.sh (.tup (A.map Row.d)),.sh (.tup (B.map Row.d)),.ow (ms.map Met.d),.sh (.int f),.sh (.int s),x5,x6,x7,x8]/\n=(A.length-f)+(B.length-s)/\f<=A.length/\s<=B.length/\ms.length<=f+s/\ms++aT (A.drop f) (B.drop s)=aT A B) (λn env h=>?_) _ (A.length+B.length) (show A.length+B.length<1000000 by ext l1 l2) ⟨_,_,_,_,0,0,[],rfl,by simp,by simp,by simp,by simp,rfl⟩
 obtain ⟨x5,x6,x7,x8,f,s,ms,rfl,rfl,hf,hs,pK,e⟩:=h
 walk_at "v1"
 rw [bM,bM]
 refine ⟨λh1=>⟨λh2=>?_,λh2=>?_⟩,λh1=>?_⟩
 .have mS:f<A.length:=by ext h1
  have uL:s<B.length:=by ext h2
  have d1:A.drop f=A[f]::A.drop (f+1):=jx mS
  have d2:B.drop s=B[s]::B.drop (s+1):=jx uL
  have b1:=ha A[f] (lH mS)
  have b2:=hb B[s] (lH uL)
  rw [y3 mS,y3 uL]
  generalize A[f]=a at *
  generalize B[s]=b at *
  rw [d1,d2,r8] at e
  unfold af at b1 b2
  have ea:=GP (r:=a) (x:=max a.1 b.1) (by ext b1) (by ext b1) (by ext) (by ext b1 b2)
  have eb:=GP (r:=b) (x:=max a.1 b.1) (by ext b2) (by ext b2) (by ext) (by ext b1 b2)
  rw [c5] at ea eb
  rw [c5,c5]
  walk_at "v1"
  rw [a0N]
  walk_at "v1"
  rw [ea,eb]
  walk_at "v1"
  rw [bM]
  refine ⟨λhc=>⟨by ext l1 l2 pK h1 h2,?_⟩,λhc=>?_⟩
  .rw [if_pos hc] at e
   rw [a0N]
   walk_at "vc"
   refine ⟨λh3=>?_,λh3=>?_⟩
   .rw [if_pos h3,<-d2] at e
    exact ⟨(A.length-(f+1))+(B.length-s),by ext h1,_,_,_,_,f+1,s,ms++[⟨max a.1 b.1,min a.2.1 b.2.1,a,b⟩],by rw [fg];rfl,rfl,by ext h1,hs,by simp;ext pK,by rw [dH];exact e⟩
   .rw [if_neg h3,<-d1] at e
    exact ⟨(A.length-f)+(B.length-(s+1)),by ext h2,_,_,_,_,f,s+1,ms++[⟨max a.1 b.1,min a.2.1 b.2.1,a,b⟩],by rw [fg];rfl,rfl,hf,by ext h2,by simp;ext pK,by rw [dH];exact e⟩
  .rw [if_neg hc,B0] at e
   rw [a0N]
   walk_at "vc"
   refine ⟨λh3=>?_,λh3=>?_⟩
   .rw [if_pos h3,<-d2] at e
    exact ⟨(A.length-(f+1))+(B.length-s),by ext h1,_,_,_,_,f+1,s,ms,rfl,rfl,by ext h1,hs,by ext pK,e⟩
   .rw [if_neg h3,<-d1] at e
    exact ⟨(A.length-f)+(B.length-(s+1)),by ext h2,_,_,_,_,f,s+1,ms,rfl,rfl,hf,by ext h2,by ext pK,e⟩
 .have:B.drop s=[]:=mY (by ext h2)
  rw [this,wt,lD] at e
  rw [e]
 .have:A.drop f=[]:=mY (by ext h1)
  rw [this,wg,lD] at e
  rw [e]
theorem jY{r:Row}{x:Int}(hr:af (10^51) r)(h1:-(10^51)<=x)(h2:x<=10^51):-(10^104)<=r.at x/\r.at x<=10^104:=by
 unfold af at hr
 have hm:=vM (a:=r.2.2.2) (b:=x-r.1) (A:=10^51) (B:=10^52) (by ext hr) (by ext hr) (by ext hr h1) (by ext hr h2)
 have e:(10^51:Int)*10^52=10^103:=by decide +kernel
 rw [e] at hm
 unfold Row.at
 generalize r.2.2.2*(x-r.1)=z at *
 ext hr hm
noncomputable def m6:Option Int->Option Int->Option Int
 | some a,some b=>some (a+b)
 | _,_=>none
noncomputable def lM(m:Met):Row:=(m.lo,m.hi,m.a.at m.lo+m.b.at m.lo,m.a.2.2.2+m.b.2.2.2)
theorem TN{A B:List Row}(ha:bU A)(hb:bU B):bU ((aT A B).map lM)/\∀x c,Val ((aT A B).map lM) x c↔m6 (look A x) (look B x)=some c:=by
 obtain ⟨h1,h2⟩:=Rh ha hb lM (λm=>⟨rfl,rfl⟩) (·+·) λm _ x=>by unfold lM Row.at;dsimp only;grind
 refine ⟨h1,λx c=>?_⟩
 rw [h2]
 constructor
 .rintro ⟨p,q,k1,k2,rfl⟩
  rw [oQ ha] at k1
  rw [oQ hb] at k2
  rw [k1,k2];rfl
 .intro h
  cases e1:look A x with
  | none=>rw [e1] at h;cases h
  | some p =>
   cases e2:look B x with
   | none=>rw [e1,e2] at h;cases h
   | some q =>
    rw [e1,e2] at h
    exact ⟨p,q,(oQ ha).mpr e1,(oQ hb).mpr e2,(bQ h).symm⟩
theorem PY{A B:List Row}(ca:bU A)(cb:bU B)(ha:∀r∈A,af (10^51) r)(hb:∀r∈B,af (10^51) r\/r.2.2=(0,0)/\af (10^61) r)(l1:A.length<=10000)(l2:B.length<=10000):
  ∃fs:List Row,rT [.tup (A.map Row.d),.tup (B.map Row.d)]=some (.sh (.tup (fs.map Row.d)))/\Laid ((aT A B).map lM) fs/\(∀x,look fs x=m6 (look A x) (look B x))/\fs.length<=A.length+B.length:=by
 obtain ⟨p1,p2⟩:=TN ca cb
 have hlen:=we (A:=A) (B:=B) (bj _)
 have jL:∀r∈(aT A B).map lM,af (10^110) r:=λr hr=>by
  obtain ⟨m,hm,rfl⟩:=cO.mp hr
  obtain ⟨k1,k2,k3,k4,k5⟩:=iB (bj _) hm
  have q1:=ha _ k1
  have q2:=hb _ k2
  have hle:=ca.1 _ k1
  have nQ:=q1
  unfold af at nQ
  have r1:=jY q1 (x:=m.lo) (by ext k3 nQ) (by ext k4 k5 nQ)
  rcases q2 with q2 | ⟨q2,q3⟩
  .have kL:=q2
   unfold af at kL
   have r2:=jY q2 (x:=m.lo) (by ext k3 kL) (by ext k4 k5 kL)
   unfold lM af
   dsimp only
   ext k3 k4 nQ r1 kL r2
  .have z1:m.b.2.2.1=0:=congrArg Prod.fst q2
   have z2:m.b.2.2.2=0:=congrArg Prod.snd q2
   have z3:m.b.at m.lo=0:=by unfold Row.at;rw [z1,z2];simp
   unfold af at q3
   unfold lM af
   dsimp only
   rw [z2,z3]
   ext k3 k4 nQ r1 q3
 obtain ⟨fs,ef,L⟩:=rH p1 jL (by rw [bM];ext l1 l2 hlen) (ro:=false)
 refine ⟨fs,?_,L,λx=>qt L.canon.cX λc=>by rw [L.val,p2],by have:=L.len;rw [bM] at this;ext hlen this⟩
 refine Wo.eq (qB.mpr ?_)
 unfold CF
 walk_at "vc"
 rw [Gz (λr hr=>(ha r hr).mono (by decide)) (λr hr=>(hb r hr).elim (λz=>z.mono (by decide)) λz=>z.2.mono (by decide)) (by ext l1) (by ext l2)]
 walk_at "vc"
 rw [qo Met.d (λm=>(lM m).d) (λe=>∃x0 x1 x2 x3,e=[x0,x1,x2,x3]) (aT A B) (λm _ e he=>?_) ⟨_,_,_,_,rfl⟩]
 .rw [bM]
  walk_at "vc"
  rw [show (aT A B).map (λm=>(lM m).d)=((aT A B).map lM).map Row.d by rw [iT];rfl,ef]
  walk_at "vc"
  ext l1 l2 hlen
 .obtain ⟨x0,x1,x2,x3,rfl⟩:=he
  rw [Gw,yI,yI]
  walk_at "vc"
  exact ⟨⟨_,_,_,_,rfl⟩,rfl⟩
noncomputable def du(n:Int)(r:Row):Row:=(r.1,r.2.1,r.2.2.1*n,r.2.2.2*n)
theorem D3{A:List Row}(ha:bU A)(n:Int):bU (A.map (du n))/\∀x c,Val (A.map (du n)) x c↔(look A x).map (·*n)=some c:=
 HA ha (du n) (λ_=>⟨rfl,rfl⟩) (·*n) λr x=>by unfold du Row.at;dsimp only;grind
theorem QV{A:List Row}(ca:bU A)(ha:∀r∈A,af (10^51) r)(l1:A.length<=10000){n:Int}(n1:-(10^50)<=n)(n2:n<=10^50):
  ∃fs:List Row,mw [.tup (A.map Row.d),.int n]=some (.sh (.tup (fs.map Row.d)))/\Laid (A.map (du n)) fs/\(∀x,look fs x=(look A x).map (·*n))/\fs.length<=A.length:=by
 obtain ⟨p1,p2⟩:=D3 ca n
 have jL:∀r∈A.map (du n),af (10^110) r:=λr hr=>by
  obtain ⟨q,hq,rfl⟩:=cO.mp hr
  have hb:=ha q hq
  unfold af at hb
  have m1:=vM (a:=q.2.2.1) (b:=n) (A:=10^51) (B:=10^50) (by ext hb) (by ext hb) (by ext n1) (by ext n2)
  have m2:=vM (a:=q.2.2.2) (b:=n) (A:=10^51) (B:=10^50) (by ext hb) (by ext hb) (by ext n1) (by ext n2)
  have e:(10^51:Int)*10^50=10^101:=by decide +kernel
  rw [e] at m1 m2
  unfold du af
  dsimp only
  ext hb m1 m2
 obtain ⟨fs,ef,L⟩:=rH p1 jL (by rw [bM];ext l1) (ro:=false)
 refine ⟨fs,?_,L,λx=>qt L.canon.cX λc=>by rw [L.val,p2],by have:=L.len;rw [bM] at this;ext this⟩
 refine Wo.eq (jC.mpr ?_)
 unfold yR
 walk_at "vc"
 rw [qo Row.d (λr=>(du n r).d) (λe=>∃x0,e=[x0,.sh (.int n)]) A (λr hr e he=>?_) ⟨_,rfl⟩]
 .rw [bM]
  walk_at "vc"
  rw [show A.map (λr=>(du n r).d)=(A.map (du n)).map Row.d by rw [iT];rfl,ef]
  walk_at "vc"
  ext l1
 .obtain ⟨x0,rfl⟩:=he
  have hb:=ha r hr
  unfold af at hb
  rw [c5 r]
  walk_at "vc"
  exact ⟨⟨_,rfl⟩,qq (by ext hb) (by ext hb) (by ext n1) (by ext n2),qq (by ext hb) (by ext hb) (by ext n1) (by ext n2),rfl⟩
noncomputable abbrev Span:=Int×Int
def d9(ss:List Span)(x:Int):Prop:=∃s∈ss,s.1<=x/\x<=s.2
noncomputable def Span.d(s:Span):D:=.tup [.int s.1,.int s.2]
theorem CH(s:Span):Span.d s=.tup [.int s.1,.int s.2]:=rfl
structure aN(pre:List Row)(ss:List Span):Prop where
 ok:∀s∈ss,s.1<=s.2
 apart:ss.Pairwise λa b=>a.2+1<b.1
 l5:∀x,d9 ss x↔∃r∈pre,r.1<=x/\x<=r.2.1
 last:ss.getLast?.map (·.2)=pre.getLast?.map (·.2.1)
 head:ss.head?.map (·.1)=pre.head?.map (·.1)
 sum:(ss.map λs=>s.2-s.1+1).sum=total pre
 sub:∀r∈pre,∃s∈ss,s.1<=r.1/\r.2.1<=s.2
 len:ss.length<=pre.length
 ends:∀s∈ss,(∃r∈pre,r.1=s.1)/\∃r∈pre,r.2.1=s.2
theorem aN.nil:aN [] []:=⟨λ_ z=>(nomatch z),.nil,λx=>⟨λ⟨_,z,_⟩=>(nomatch z),λ⟨_,z,_⟩=>(nomatch z)⟩,rfl,rfl,rfl,λ_ z=>(nomatch z),bj _,λ_ z=>(nomatch z)⟩
theorem d9.app{a b:List Span}{x:Int}:d9 (a++b) x↔d9 a x\/d9 b x:=by
 unfold d9
 constructor
 .rintro ⟨s,hs,h⟩
  rcases bR.mp hs with hs | hs
  .exact .inl ⟨s,hs,h⟩
  .exact .inr ⟨s,hs,h⟩
 .rintro (⟨s,hs,h⟩ | ⟨s,hs,h⟩)
  .exact ⟨s,dX _ hs,h⟩
  .exact ⟨s,er _ hs,h⟩
theorem d9.one{s:Span}{x:Int}:d9 [s] x↔s.1<=x/\x<=s.2:=by unfold d9;simp
theorem Hh{pre:List Row}{r:Row}{x:Int}:(∃q∈pre++[r],q.1<=x/\x<=q.2.1)↔(∃q∈pre,q.1<=x/\x<=q.2.1)\/(r.1<=x/\x<=r.2.1):=by
 constructor
 .rintro ⟨q,hq,h⟩
  rcases bR.mp hq with hq | hq
  .exact .inl ⟨q,hq,h⟩
  .rw [cH.mp hq] at h;exact .inr h
 .rintro (⟨q,hq,h⟩ | h)
  .exact ⟨q,dX _ hq,h⟩
  .exact ⟨r,by simp,h⟩
theorem aN.more{pre:List Row}{ss:List Span}{r:Row}(h:aN pre ss)(hr:r.1<=r.2.1)(hf:∀a,ss.getLast?=some a->a.2+1<r.1):aN (pre++[r]) (ss++[(r.1,r.2.1)]):=by
 have hb:∀s∈ss,s.2+1<r.1:=λs hs=>by
  rcases B9 ss with rfl | ⟨ts,t,e⟩
  .cases hs
  .have e:ss=ts++[t]:=by simpa using e
   subst e
   have h1:=hf t (by simp)
   rcases bR.mp hs with hs | hs
   .have:=(fG.mp h.apart).2.2 s hs t (by simp)
    have:=h.ok t (by simp)
    omega
   .rw [cH.mp hs];exact h1
 refine ⟨λs hs=>?_,fG.mpr ⟨h.apart,rp _ _,λa ha b gJ=>?_⟩,λx=>?_,by simp,?_,?_,λq hq=>?_,by have:=h.len;simp;ext this,λs hs=>?_⟩
 .rcases bR.mp hs with hs | hs
  .exact h.ok s hs
  .rw [cH.mp hs];exact hr
 .rw [cH.mp gJ];exact hb a ha
 .rw [d9.app,d9.one,Hh,h.l5]
 .have:=h.head
  cases ss with
  | nil=>cases pre with
   | nil=>rfl
   | cons q qs=>simp at this
  | cons s ts=>cases pre with
   | nil=>simp at this
   | cons q qs=>simpa using this
 .rw [fg,vz,h.sum,qv];unfold total;simp
 .rcases bR.mp hq with hq | hq
  .obtain ⟨s,hs,k⟩:=h.sub q hq
   exact ⟨s,dX _ hs,k⟩
  .rw [cH.mp hq];exact ⟨_,er _ cP,eQ _,eQ _⟩
 .rcases bR.mp hs with hs | hs
  .obtain ⟨⟨a,ha,e1⟩,⟨b,hb,e2⟩⟩:=h.ends s hs
   exact ⟨⟨a,dX _ ha,e1⟩,⟨b,dX _ hb,e2⟩⟩
  .rw [cH.mp hs];exact ⟨⟨r,by simp,rfl⟩,⟨r,by simp,rfl⟩⟩
theorem aN.glue{pre:List Row}{ss:List Span}{s:Span}{r:Row}(h:aN pre (ss++[s]))(hr:r.1<=r.2.1)(hn:s.2+1=r.1):aN (pre++[r]) (ss++[(s.1,r.2.1)]):=by
 have hs:=h.ok s (by simp)
 have hp:=(fG.mp h.apart)
 refine ⟨λt ht=>?_,fG.mpr ⟨hp.1,rp _ _,λa ha b gJ=>?_⟩,λx=>?_,by simp,?_,?_,λq hq=>?_,by have:=h.len;simp at this ⊢;ext this,λt ht=>?_⟩
 .rcases bR.mp ht with ht | ht
  .exact h.ok t (by simp [ht])
  .rw [cH.mp ht];show s.1<=r.2.1;ext hr hn hs
 .rw [cH.mp gJ];exact hp.2.2 a ha s (by simp)
 .have:=h.l5 x
  rw [d9.app,d9.one] at this ⊢
  rw [Hh,<-this]
  dsimp only
  constructor
  .rintro (h | h)
   .exact .inl (.inl h)
   .by_cases hx:x<=s.2
    .exact .inl (.inr ⟨h.1,hx⟩)
    .exact .inr ⟨by ext hn hx,h.2⟩
  .rintro ((h | h) | h)
   .exact .inl h
   .exact .inr ⟨h.1,by ext hr hn h⟩
   .exact .inr ⟨by ext hn hs h,h.2⟩
 .have:=h.head
  cases pre with
  | nil=>cases ss<;>simp at this
  | cons q qs=>cases ss with
   | nil=>simpa using this
   | cons t ts=>simpa using this
 .have:=h.sum
  rw [fg,vz] at this ⊢
  rw [qv,<-this]
  unfold total
  simp
  ext hn
 .rcases bR.mp hq with hq | hq
  .obtain ⟨t,ht,k1,k2⟩:=h.sub q hq
   rcases bR.mp ht with ht | ht
   .exact ⟨t,dX _ ht,k1,k2⟩
   .rw [cH.mp ht] at k1 k2
    exact ⟨_,er _ cP,k1,by dsimp only;ext hr hn k2⟩
  .rw [cH.mp hq];exact ⟨_,er _ cP,by dsimp only;ext hn hs,eQ _⟩
 .rcases bR.mp ht with ht | ht
  .obtain ⟨⟨a,ha,e1⟩,⟨b,hb,e2⟩⟩:=h.ends t (by simp [ht])
   exact ⟨⟨a,dX _ ha,e1⟩,⟨b,dX _ hb,e2⟩⟩
  .rw [cH.mp ht]
   obtain ⟨⟨a,ha,e1⟩,_⟩:=h.ends s (by simp)
   exact ⟨⟨a,dX _ ha,e1⟩,⟨r,by simp,rfl⟩⟩
theorem He{rs:List Row}(ha:bU rs)(hl:rs.length<=8000000):∃ss:List Span,qx [.tup (rs.map Row.d)]=some (.sh (.tup (ss.map Span.d)))/\aN rs ss:=by
 have key:Wo (qx [.tup (rs.map Row.d)]) λs=>∃ss:List Span,s=.sh (.tup (ss.map Span.d))/\aN rs ss:=by
  refine jc.mpr ?_
  unfold DT
  walk_at "vc"
  refine mx Row.d (λpre env=>∃x2 x3,∃ss:List Span,env=[.sh (.tup (rs.map Row.d)),.ow (ss.map Span.d),x2,x3]/\aN pre ss) rs (λpre r post env e h=>?_) (λenv h=>?_) ⟨_,_,[],rfl,aN.nil⟩
  .obtain ⟨x2,x3,ss,rfl,h⟩:=h
   have hr:r∈rs:=by rw [e];simp
   have nV:=ha.1 r hr
   have hlen:ss.length<=8000000:=et h.len (et (by rw [e];simp) hl)
   rcases B9 ss with rfl | ⟨ts,a,e2⟩
   .rw [c5 r]
    walk_at "vc"
    simp only [vD,List.isEmpty_nil,Bool.not_true,vv,false_implies,true_implies,true_and]
    walk_at "vc"
    exact ⟨_,_,[(r.1,r.2.1)],rfl,h.more nV (λ_ z=>nomatch z)⟩
   .have e2:ss=ts++[a]:=by simpa using e2
    subst e2
    have bx:a.2<r.1:=by
     have kZ:=h.last
     cases hq:pre.getLast? with
     | none=>rw [hq] at kZ;simp at kZ
     | some q =>
      rw [hq] at kZ
      simp at kZ
      have:=ha.2
      rw [e] at this
      have:=(fG.mp this).2.2 q (F7 hq) r cP
      ext kZ this
    walk_at "vc"
    have em:(mX Span.d (ts++[a])).isEmpty=false:=by simp
    rw [em,fg,jV,vD,DL.cZ,CH a,c5 r]
    walk_at "vc"
    simp at hlen
    refine ⟨λhe=>?_,λhe=>?_⟩
    .have ed:(mX Span.d ts++[D.tup [D.int a.1,D.int a.2]])[(mX Span.d ts++[D.tup [D.int a.1,D.int a.2]]).length-1]?=some (D.tup [D.int a.1,D.int a.2]):=by simp
     rw [ed,F6]
     walk_at "vc"
     refine ⟨by decide,by simp;lia,_,_,ts++[(a.1,r.2.1)],by rw [fg];rfl,h.glue nV he⟩
    .refine ⟨by simp;lia,_,_,ts++[a]++[(r.1,r.2.1)],by rw [fg,fg];rfl,h.more nV λc hc=>?_⟩
     simp at hc
     subst hc
     ext bx he
  .obtain ⟨x2,x3,ss,rfl,h⟩:=h
   walk_at "vc"
   exact ⟨ss,rfl,h⟩
 obtain ⟨s,e,fs,rfl,h⟩:=key
 exact ⟨fs,e,h⟩
noncomputable def fE(r:Row)(lo hi:Int):Row:=(lo,hi,r.at lo,r.2.2.2)
theorem v7{r:Row}{lo hi x:Int}:(fE r lo hi).at x=r.at x:=by unfold fE Row.at;dsimp only;grind
def jl(ss:List Span):Prop:=(∀s∈ss,s.1<=s.2)/\ss.Pairwise λa b=>a.2<b.1
noncomputable def ir(r:Row)(low:Int):List Row:=if low<=r.2.1 then [fE r low r.2.1] else []
noncomputable def iZ(r:Row)(low to:Int):List Row:=if low<to then [fE r low (to-1)] else []
noncomputable def bD(r:Row)(low:Int):List Span->List Row×List Span
 | []=>(ir r low,[])
 | s::ss=>if s.1<=r.2.1 then
   (if s.2>r.2.1 then (iZ r low s.1++ir r (max low (s.2+1)),s::ss) else (iZ r low s.1++(bD r (max low (s.2+1)) ss).1,(bD r (max low (s.2+1)) ss).2))
  else (ir r low,s::ss)
noncomputable def bE:List Row->List Span->List Row
 | [],_=>[]
 | r::rs,ss=>(bD r r.1 ss).1++bE rs (bD r r.1 ss).2
theorem Ib{r:Row}:∀{ss:List Span} {low:Int},r.1<=low->jl ss ->
  (∀q∈(bD r low ss).1,low<=q.1/\q.1<=q.2.1/\q.2.1<=r.2.1/\∀x,q.at x=r.at x)/\((bD r low ss).1.Pairwise λa b=>a.2.1<b.1) /\
  (∀x,(∃q∈(bD r low ss).1,q.1<=x/\x<=q.2.1)↔low<=x/\x<=r.2.1/\¬d9 ss x)/\(bD r low ss).2 <:+ ss/\(∀x,r.2.1<x->(d9 ss x↔d9 (bD r low ss).2 x))/\(bD r low ss).1.length+(bD r low ss).2.length<=ss.length+1
 | [],low,hl,_=>by
  unfold bD ir
  dsimp only
  have hI:∀x,¬d9 [] x:=λx ⟨s,h,_⟩=>nomatch h
  split
  .refine ⟨λq hq=>?_,rp _ _,λx=>?_,qe _,λ_ _=>df,by simp⟩
   .simp at hq;subst hq;exact ⟨eQ _,by unfold fE;dsimp only;lia,eQ _,λx=>v7⟩
   .simp [fE,hI]
  .refine ⟨λq hq=>(nomatch hq),.nil,λx=>?_,qe _,λ_ _=>df,by simp⟩
   simp;lia
 | s::ss,low,hl,hs=>by
  have uj:=hs.1 s cP
  have ht:jl ss:=⟨λq hq=>hs.1 q (dj _ hq),(eO.mp hs.2).2⟩
  have hp:=(eO.mp hs.2).1
  have hI:∀x,d9 (s::ss) x↔(s.1<=x/\x<=s.2)\/d9 ss x:=λx=>by unfold d9;simp
  have k0:∀x,x<=s.2->¬d9 ss x:=λx hx ⟨t,MR,h1,h2⟩=>by have:=hp t MR;ext hx h1 this
  have lp:∀lo,(∀q∈ir r lo,q.1=lo/\q.2.1=r.2.1/\lo<=r.2.1/\∀x,q.at x=r.at x)/\(ir r lo).length<=1/\(∀x,(∃q∈ir r lo,q.1<=x/\x<=q.2.1)↔lo<=x/\x<=r.2.1):=λlo=>by
   unfold ir
   split
   .refine ⟨λq hq=>?_,by simp,λx=>by simp [fE]⟩
    simp at hq;subst hq;exact ⟨rfl,rfl,by assumption,λx=>v7⟩
   .exact ⟨λq hq=>(nomatch hq),by simp,λx=>by simp;lia⟩
  have fp:(∀q∈iZ r low s.1,q.1=low/\q.2.1=s.1-1/\low<s.1/\∀x,q.at x=r.at x)/\(iZ r low s.1).length<=1/\(∀x,(∃q∈iZ r low s.1,q.1<=x/\x<=q.2.1)↔low<=x/\x<s.1):=by
   unfold iZ
   split
   .refine ⟨λq hq=>?_,by simp,λx=>by simp [fE];ext⟩
    simp at hq;subst hq;exact ⟨rfl,rfl,by assumption,λx=>v7⟩
   .exact ⟨λq hq=>(nomatch hq),by simp,λx=>by simp;lia⟩
  have pw:∀(L:List Row),L.length<=1->L.Pairwise λa b=>a.2.1<b.1:=λL hL=>by
   match L,hL with
   | [],_=>exact .nil
   | [_],_=>exact rp _ _
  obtain ⟨f1,f2,f3⟩:=fp
  have app:∀(L M:List Row) x,(∃q∈L++M,q.1<=x/\x<=q.2.1)↔(∃q∈L,q.1<=x/\x<=q.2.1)\/(∃q∈M,q.1<=x/\x<=q.2.1):=λL M x=>by
   constructor
   .rintro ⟨q,hq,k⟩
    rcases bR.mp hq with h | h
    .exact .inl ⟨q,h,k⟩
    .exact .inr ⟨q,h,k⟩
   .rintro (⟨q,hq,k⟩ | ⟨q,hq,k⟩)
    .exact ⟨q,dX _ hq,k⟩
    .exact ⟨q,er _ hq,k⟩
  unfold bD
  by_cases c1:s.1<=r.2.1
  .rw [if_pos c1]
   by_cases c2:s.2>r.2.1
   .rw [if_pos c2]
    dsimp only
    obtain ⟨l1,l2,l3⟩:=lp (max low (s.2+1))
    refine ⟨λq hq=>?_,fG.mpr ⟨pw _ f2,pw _ l2,λa ha b hb=>?_⟩,λx=>?_,qe _,λ_ _=>df,?_⟩
    .rcases bR.mp hq with h | h
     .obtain ⟨e1,e2,e3,e4⟩:=f1 q h;exact ⟨by ext e1,by ext e1 e2 e3,by ext c1 e2,e4⟩
     .obtain ⟨e1,e2,e3,e4⟩:=l1 q h;ext _ c2 e3
    .obtain ⟨e1,e2,e3,e4⟩:=l1 b hb;ext c2 e3
    .rw [app,f3,l3,hI]
     have:=k0 x
     constructor
     .rintro (h | h)
      .exact ⟨by ext h,by ext c1 h,λz=>z.elim (by ext h) (this (by ext c1 c2 h))⟩
      .ext _ c2 h
     .intro ⟨h1,h2,h3⟩
      by_cases hx:x<s.1
      .exact .inl ⟨h1,hx⟩
      .exact absurd (.inl ⟨by ext hx,by ext c2 h2⟩) h3
    .have e:((iZ r low s.1++ir r (max low (s.2+1)))).length<=1:=by
      have:ir r (max low (s.2+1))=[]:=by unfold ir;rw [if_neg (by ext c2)]
      rw [this];simpa using f2
     simp at e ⊢;ext e
   .rw [if_neg c2]
    dsimp only
    obtain ⟨i1,i2,i3,i4,i5,i6⟩:=Ib (r:=r) (ss:=ss) (low:=max low (s.2+1)) (by ext hl) ht
    refine ⟨λq hq=>?_,fG.mpr ⟨pw _ f2,i2,λa ha b hb=>?_⟩,λx=>?_,i4.trans (List.suffix_cons _ _),λx hx=>?_,?_⟩
    .rcases bR.mp hq with h | h
     .obtain ⟨e1,e2,e3,e4⟩:=f1 q h;exact ⟨by ext e1,by ext e1 e2 e3,by ext c1 e2,e4⟩
     .obtain ⟨e1,e2,e3,e4⟩:=i1 q h;exact ⟨by ext e1,e2,e3,e4⟩
    .obtain ⟨e1,e2,e3,e4⟩:=f1 a ha;have g1:=(i1 b hb).1;show a.2.1<b.1;ext uj e2 g1
    .rw [app,f3,i3,hI]
     have:=k0 x
     constructor
     .rintro (h | ⟨h1,h2,h3⟩)
      .exact ⟨by ext h,by ext c1 h,λz=>z.elim (by ext h) (this (by ext uj h))⟩
      .exact ⟨by ext h1,h2,λz=>z.elim (by ext h1) h3⟩
     .intro ⟨h1,h2,h3⟩
      by_cases hx:x<s.1
      .exact .inl ⟨h1,hx⟩
      .have h4:¬x<=s.2:=λz=>h3 (.inl ⟨by ext hx,z⟩)
       exact .inr ⟨by ext h1 h4,h2,λz=>h3 (.inr z)⟩
    .rw [hI,<-i5 x hx]
     exact ⟨λz=>z.elim (by lia) id,.inr⟩
    .simp at i6 ⊢;ext f2 i6
  .rw [if_neg c1]
   dsimp only
   obtain ⟨l1,l2,l3⟩:=lp low
   refine ⟨λq hq=>?_,pw _ l2,λx=>?_,qe _,λ_ _=>df,by simp;ext l2⟩
   .obtain ⟨e1,e2,e3,e4⟩:=l1 q hq;exact ⟨by ext e1,by ext e1 e2 e3,by ext e2,e4⟩
   .rw [l3,hI]
    have:=k0 x
    constructor
    .intro h
     exact ⟨h.1,h.2,λz=>z.elim (by ext c1 h) (this (by ext uj c1 h))⟩
    .intro h;exact ⟨h.1,h.2.1⟩
theorem r9:∀{rs:List Row} {ss:List Span},bU rs->jl ss->bU (bE rs ss)/\(∀q∈bE rs ss,∃r∈rs,r.1<=q.1/\q.2.1<=r.2.1/\q.2.2.1=r.at q.1/\q.2.2.2=r.2.2.2)/\(∀x c,Val (bE rs ss) x c↔Val rs x c/\¬d9 ss x)/\(bE rs ss).length<=rs.length+ss.length
 | [],ss,_,_=>⟨⟨λ_ z=>(nomatch z),.nil⟩,λ_ z=>(nomatch z),λx c=>⟨λ⟨_,z,_⟩=>(nomatch z),λ⟨⟨_,z,_⟩,_⟩=>(nomatch z)⟩,by simp [bE]⟩
 | r::rs,ss,ha,hs=>by
  have ta:bU rs:=⟨λq hq=>ha.1 q (dj _ hq),(eO.mp ha.2).2⟩
  have hp:=(eO.mp ha.2).1
  obtain ⟨i1,i2,i3,i4,i5,i6⟩:=Ib (r:=r) (ss:=ss) (eQ _) hs
  unfold bE
  generalize (bD r r.1 ss).1=P at *
  generalize (bD r r.1 ss).2=tt at *
  have lV:jl tt:=⟨λq hq=>hs.1 q (i4.subset hq),hs.2.sublist i4.sublist⟩
  obtain ⟨j1,j2,j3,j4⟩:=r9 ta lV
  refine ⟨⟨λq hq=>?_,fG.mpr ⟨i2,j1.2,λa Nn b hb=>?_⟩⟩,λq hq=>?_,λx c=>?_,?_⟩
  .rcases bR.mp hq with h | h
   .exact (i1 q h).2.1
   .exact j1.1 q h
  .obtain ⟨q,hq,k1,k2,_⟩:=j2 b hb
   have:=hp q hq
   have:=i1 a Nn
   show a.2.1<b.1
   lia
  .rcases bR.mp hq with h | h
   .obtain ⟨k1,k2,k3,k4⟩:=i1 q h
    refine ⟨r,cP,k1,k3,?_,?_⟩
    .rw [<-k4];unfold Row.at;rw [xT,vA,oi]
    .have e1:=k4 q.1
     have e2:=k4 (q.1+1)
     unfold Row.at at e1 e2
     grind
   .obtain ⟨r',mO,k⟩:=j2 q h
    exact ⟨r',dj _ mO,k⟩
  .rw [Val.app,j3]
   have e0:Val (r::rs) x c↔(r.1<=x/\x<=r.2.1/\c=r.at x)\/Val rs x c:=by unfold Val;simp
   have eP:Val P x c↔(r.1<=x/\x<=r.2.1/\¬d9 ss x)/\c=r.at x:=by
    rw [<-i3 x]
    constructor
    .rintro ⟨q,hq,h1,h2,h3⟩
     exact ⟨⟨q,hq,h1,h2⟩,by rw [h3,(i1 q hq).2.2.2]⟩
    .rintro ⟨⟨q,hq,h1,h2⟩,h3⟩
     exact ⟨q,hq,h1,h2,by rw [h3,(i1 q hq).2.2.2]⟩
   rw [eP,e0]
   have t5:Val rs x c->r.2.1<x:=λ⟨q,hq,h1,_⟩=>by have:=hp q hq;ext h1 this
   constructor
   .rintro (⟨⟨h1,h2,h3⟩,h4⟩ | ⟨h1,h2⟩)
    .exact ⟨.inl ⟨h1,h2,h4⟩,h3⟩
    .exact ⟨.inr h1,λz=>h2 ((i5 x (t5 h1)).mp z)⟩
   .rintro ⟨⟨h1,h2,h3⟩ | h1,h4⟩
    .exact .inl ⟨⟨h1,h2,h4⟩,h3⟩
    .exact .inr ⟨h1,λz=>h4 ((i5 x (t5 h1)).mpr z)⟩
  .simp at i6 j4 ⊢;ext i6 j4
theorem Gy{r:Row}{lo hi:Int}(h1:-(10^250)<=r.2.2.2)(h2:r.2.2.2<=10^250)(h3:-(10^250)<=lo-r.1)(h4:lo-r.1<=10^250):rR [r.d,.int lo,.int hi]=some (.sh (fE r lo hi).d):=by
 refine Wo.eq (wR.mpr ?_)
 unfold Cg
 walk_at "vc"
 rw [CS h1 h2 h3 h4,c5]
 walk_at "vc"
 rfl
theorem RM{ss:List Span}{n:Nat}(h:n<ss.length):cW (ss.map Span.d) (n:Int)=some (Span.d ss[n]):=by
 rw [DL.cz];simp [h]
def w6(s:Span):Prop:=(-(10^200)<=s.1/\s.1<=10^200)/\(-(10^200)<=s.2/\s.2<=10^200)
theorem DD{rs:List Row}{ss:List Span}(hb:∀r∈rs,af (10^200) r)(hs:∀s∈ss,w6 s)(l1:rs.length<=400000)(l2:ss.length<=400000):oT [.tup (rs.map Row.d),.tup (ss.map Span.d)]=some (.ow ((bE rs ss).map Row.d)):=by
 refine Wo.eq (j6.mpr ?_)
 unfold DA
 walk_at "v1"
 refine mx Row.d (λpre env=>∃x4 x5,∃(done post:List Row) (pl:Nat),env=[.sh (.tup (rs.map Row.d)),.sh (.tup (ss.map Span.d)),.ow (done.map Row.d),.sh (.int pl),x4,x5]/\rs=pre++post/\pl<=ss.length/\done.length<=2*pre.length+pl/\done++bE post (ss.drop pl)=bE rs ss) rs (λpre r post env e h=>?_) (λenv h=>?_) ⟨_,_,[],rs,0,rfl,rfl,by simp,by simp,rfl⟩
 .obtain ⟨x4,x5,done,kO,pl,rfl,e0,ei,Fi,iN⟩:=h
  obtain rfl:kO=r::post:=FV (e0.symm.trans e)
  have e7:pre.length<=400000:=by have:=congrArg ra e;simp at this;ext l1 this
  have l4:=hb r (by rw [e];simp)
  unfold af at l4
  rw [c5 r]
  walk_at "v1"
  rw [Di,<-c5 r]
  refine Wo.mono (P:=λy=>y.1=.nx/\∃(d3:List Row) (p3:Nat) (lw:Int),y.2=[.sh (.tup (rs.map Row.d)),.sh (.tup (ss.map Span.d)),.ow (d3.map Row.d),.sh (.int p3),.sh r.d,.sh (.int lw)]/\p3<=ss.length/\d3.length<=2*pre.length+p3+1/\(-(10^200)<=lw/\lw<=10^200+1)/\d3++ir r lw=done++(bD r r.1 (ss.drop pl)).1/\ss.drop p3=(bD r r.1 (ss.drop pl)).2) ?_ (λy hy=>?_)
  .refine wu (λn env=>∃(d2:List Row) (p2:Nat) (lw:Int),env=[.sh (.tup (rs.map Row.d)),.sh (.tup (ss.map Span.d)),.ow (d2.map Row.d),.sh (.int p2),.sh r.d,.sh (.int lw)]/\n=ss.length-p2/\p2<=ss.length/\d2.length<=2*pre.length+p2/\(-(10^200)<=lw/\lw<=10^200+1)/\d2++(bD r lw (ss.drop p2)).1=done++(bD r r.1 (ss.drop pl)).1/\(bD r lw (ss.drop p2)).2=(bD r r.1 (ss.drop pl)).2) (λn env h=>?_) _ (ss.length-pl) (show ss.length-pl<1000000 by ext l2) ⟨done,pl,r.1,rfl,rfl,ei,Fi,by ext l4,rfl,rfl⟩
   obtain ⟨d2,p2,lw,rfl,rfl,AO,hd2,mQ,o1,o2⟩:=h
   have ly:=λhi=>Gy (r:=r) (lo:=lw) (hi:=hi) (by ext l4) (by ext l4) (by ext l4 mQ) (by ext l4 mQ)
   rw [c5] at ly ⊢
   walk_at "v1"
   rw [bM]
   refine ⟨λh1=>?_,λh1=>?_⟩
   .have mS:p2<ss.length:=by ext h1
    have dd:ss.drop p2=ss[p2]::ss.drop (p2+1):=jx mS
    have uF:=hs ss[p2] (lH mS)
    have uH:=RM mS
    rw [uH]
    generalize ss[p2]=s at *
    unfold w6 at uF
    rw [dd,bD] at o1 o2
    rw [CH]
    walk_at "v1"
    refine ⟨λh2=>?_,λh2=>?_⟩
    .rw [if_pos h2] at o1 o2
     walk_at "v1"
     rw [CH] at uH
     refine Wo.mono (P:=λy=>y=(.nx,[.sh (.tup (rs.map Row.d)),.sh (.tup (ss.map Span.d)),.ow ((d2++iZ r lw s.1).map Row.d),.sh (.int p2),.sh (.tup [.int r.1,.int r.2.1,.int r.2.2.1,.int r.2.2.2]),.sh (.int lw)])) ?_ (λy hy=>?_)
     .walk_at "vc"
      rw [uH]
      walk_at "vc"
      rw [ly]
      walk_at "vc"
      rw [bM]
      unfold iZ
      refine ⟨λh=>⟨by ext l2 e7 hd2 h1,?_⟩,λh=>?_⟩
      .rw [if_pos h,fg];rfl
      .rw [if_neg h,lD]
     .subst hy
      have xC:(iZ r lw s.1).length<=1:=by unfold iZ;split<;>simp
      walk_at "v1"
      rw [uH]
      walk_at "v1"
      rw [a0N]
      walk_at "vc"
      rw [uH]
      walk_at "vc"
      refine ⟨λh3=>?_,λh3=>?_⟩
      .rw [if_pos h3] at o1 o2
       exact ⟨d2++iZ r lw s.1,p2,max lw (s.2+1),rfl,AO,by simp;ext hd2 xC,by ext mQ uF,by rw [dH];exact o1,by rw [dd];exact o2⟩
      .rw [if_neg h3] at o1 o2
       exact ⟨ss.length-(p2+1),by ext h1,d2++iZ r lw s.1,p2+1,max lw (s.2+1),rfl,rfl,by ext h1,by simp;ext hd2 xC,by ext mQ uF,by rw [dH];exact o1,o2⟩
    .rw [if_neg h2] at o1 o2
     exact ⟨d2,p2,lw,rfl,AO,by ext hd2,mQ,o1,by rw [dd];exact o2⟩
   .have dd:ss.drop p2=[]:=mY (by ext h1)
    rw [dd,bD] at o1 o2
    exact ⟨d2,p2,lw,rfl,AO,by ext hd2,mQ,o1,by rw [dd];exact o2⟩
  .obtain ⟨fl,ai⟩:=y
   obtain ⟨h1,d3,p3,lw,h2,qW,A4,mQ,o1,o2⟩:=hy
   dsimp only at h1 h2
   subst h1 h2
   have ly:=Gy (r:=r) (lo:=lw) (hi:=r.2.1) (by ext l4) (by ext l4) (by ext l4 mQ) (by ext l4 mQ)
   rw [c5] at ly ⊢
   walk_at "vc"
   rw [ly]
   walk_at "vc"
   rw [bM]
   rw [bE,<-o2,<-dH,<-o1] at iN
   refine ⟨λh=>⟨by ext l2 e7 qW A4,_,_,d3++[fE r lw r.2.1],post,p3,by rw [fg];rfl,by rw [e];simp,qW,by simp;ext A4,?_⟩,λh=>⟨_,_,d3,post,p3,rfl,by rw [e];simp,qW,by simp;ext A4,?_⟩⟩
   .rw [ir,if_pos h] at iN
    exact iN
   .rw [ir,if_neg h,lD] at iN
    exact iN
 .obtain ⟨x4,x5,done,kO,pl,rfl,e0,ei,Fi,iN⟩:=h
  have:kO=[]:=by simpa using e0
  subst this
  walk_at "vc"
  rw [<-iN];simp [bE]
theorem dA{c:En->Option Bool}{F:SF}{env:En}{Q:Fl×En->Prop}(hc:Wo (c env) λb=>b=false)(h:Q (.nx,env)):Wo (br c F bI env) Q:=by
 rw [a0N]
 exact hc.mono λb hb=>⟨λz=>(by rw [hb] at z;cases z),λ_=>(by rw [b3a];exact h)⟩
theorem S5{A:List Row}(cA:Canon A)(ha:∀r∈A,af (10^51) r)(l1:A.length<=5000){lo hi:Int}(h1:-(10^60)<=lo/\lo<=10^60)(h2:-(10^60)<=hi/\hi<=10^60):
  ∃fs:List Row,rW [.tup (A.map Row.d),.int lo,.int hi]=some (.sh (.tup (fs.map Row.d)))/\Canon fs/\(∀r∈fs,af (10^111) r)/\(∀x,look fs x=if lo<=x/\x<=hi then none else look A x)/\fs.length<=A.length+1:=by
 by_cases lX:hi<lo
 .refine ⟨A,?_,cA,λr hr=>(ha r hr).mono (by decide),λx=>?_,by ext⟩
  .refine Wo.eq (fX.mpr ?_)
   unfold zh
   walk_at "vc"
   exact λz=>absurd lX z
  .rw [if_neg (by ext lX)]
 .have hs:jl [((lo,hi):Span)]:=⟨λs hs=>by rw [cH.mp hs];dsimp only;ext lX,rp _ _⟩
  obtain ⟨o1,o2,o3,o4⟩:=r9 cA.cX hs
  have jL:∀r∈bE A [(lo,hi)],af (10^110) r:=λq hq=>by
   obtain ⟨r,hr,k1,k2,k3,k4⟩:=o2 q hq
   have hb:=ha r hr
   have gJ:=hb
   unfold af at gJ
   have E':=o1.1 q hq
   have:=jY hb (x:=q.1) (by ext k1 gJ) (by ext k2 gJ E')
   unfold af
   rw [k3,k4]
   ext k1 k2 gJ E' this
  obtain ⟨fs,ef,L⟩:=rH o1 jL (by simp at o4;ext l1 o4) (ro:=false)
  have eo:=DD (rs:=A) (ss:=[(lo,hi)]) (λr hr=>(ha r hr).mono (by decide)) (λs hs=>by rw [cH.mp hs];unfold w6;dsimp only;ext h1 h2) (by ext l1) (by simp)
  refine ⟨fs,?_,L.canon,λr hr=>by have:=(L.bd r hr).1;unfold af at *;ext this,λx=>qt L.canon.cX λc=>?_,by have:=L.len;simp at o4;ext this o4⟩
  .refine Wo.eq (fX.mpr ?_)
   unfold zh
   have NI:oT [.tup (A.map Row.d),.tup [.tup [.int lo,.int hi]]]=some (.ow ((bE A [(lo,hi)]).map Row.d)):=eo
   walk_at "vc"
   rw [NI]
   walk_at "vc"
   rw [ef]
   walk_at "vc"
   exact λz=>absurd z lX
  .rw [L.val,o3,oQ cA.cX]
   have hI:d9 [((lo,hi):Span)] x↔lo<=x/\x<=hi:=by unfold d9;simp
   rw [hI]
   split
   .simp;omega
   .constructor
    .exact λz=>z.1
    .exact λz=>⟨z,by assumption⟩
noncomputable abbrev ie:=Int×Int
noncomputable def ie.at(l:ie)(low x:Int):Int:=l.1+l.2*(x-low)
noncomputable def c7:Int->List Row->Int->Prop
 | at_,[],e=>at_=e
 | at_,r::rs,e=>r.1=at_/\at_<=r.2.1/\c7 (r.2.1+1) rs e
theorem c7.le:∀{rs:List Row} {a e:Int},c7 a rs e->a<=e
 | [],_,_,h=>Int.le_of_eq h
 | r::rs,a,e,h=>by have:=h.2.2.le;have:=h.2.1;lia
theorem c7.mem:∀{rs:List Row} {a e:Int} {r:Row},c7 a rs e->r∈rs->a<=r.1/\r.1<=r.2.1/\r.2.1<e
 | [],_,_,_,_,h=>nomatch h
 | r::rs,a,e,q,h,k=>by
  obtain ⟨h1,h2,h3⟩:=h
  have:=h3.le
  rcases cU.mp k with rfl | k
  .ext h1 h2 this
  .have:=h3.mem k;ext h2 this
noncomputable def gE(l:ie)(low:Int)(r:Row):List Row:=kT r.2.2.1 r.2.2.2 (l.at low r.1) l.2 r.1 r.2.1
theorem QK{l:ie}{low:Int}{r:Row}(h:r.1<=r.2.1):c7 r.1 (gE l low r) (r.2.1+1)/\(∀q∈gE l low r,(q.2.2.2=r.2.2.2\/q.2.2.2=l.2)/\r.1<=q.1/\q.2.1<=r.2.1/\∀x,q.1<=x->x<=q.2.1->q.at x=min (r.at x) (l.at low x)) /\
  (gE l low r).length<=2/\((∀x,r.1<=x->x<=r.2.1->r.at x<=l.at low x)->(gE l low r).length=1)/\((∀x,r.1<=x->x<=r.2.1->l.at low x<r.at x)->(gE l low r).length=1):=by
 obtain ⟨f,g,c,s⟩:=r
 dsimp only at h
 have sp:=Hb (a:=c-l.at low f) (s:=s-l.2) (low:=f) (high:=g) h
 have gap:∀x,c-l.at low f+(s-l.2)*(x-f)=Row.at (f,g,c,s) x-l.at low x:=λx=>by unfold Row.at ie.at;dsimp only;grind
 have v1:∀a b x,Row.at (eU c s f a b) x=Row.at (f,g,c,s) x:=λa b x=>by unfold Row.at eU;dsimp only;grind
 have v2:∀a b x,Row.at (eU (l.at low f) l.2 f a b) x=l.at low x:=λa b x=>by unfold Row.at eU ie.at;dsimp only;grind
 simp only [gap] at sp
 unfold gE kT
 dsimp only
 cases kX:nd (c-l.at low f) (s-l.2) f g with
 | none =>
  rw [kX] at sp
  refine ⟨⟨rfl,h,rfl⟩,λq hq=>?_,by simp,λ_=>rfl,λ_=>rfl⟩
  obtain rfl:=cH.mp hq
  refine ⟨.inr rfl,eQ _,eQ _,λx h1 h2=>?_⟩
  rw [v2]
  have:=sp x h1 h2
  ext this
 | some fl =>
  obtain ⟨a,b⟩:=fl
  rw [kX] at sp
  obtain ⟨⟨q1,q2,q3,q4⟩,q5⟩:=sp
  have A:∀x,a<=x->x<=b->Row.at (eU c s f a b) x=min (Row.at (f,g,c,s) x) (l.at low x):=λx h1 h2=>by
   rw [v1];have:=(q5 x (by ext q1 h1) (by ext q3 h2)).mpr ⟨h1,h2⟩;ext this
  have B:∀a' b' x,f<=x->x<=g->¬(a<=x/\x<=b)->Row.at (eU (l.at low f) l.2 f a' b') x=min (Row.at (f,g,c,s) x) (l.at low x):=λa' b' x h1 h2 h3=>by
   rw [v2];have:=(not_congr (q5 x h1 h2)).mpr h3;ext this
  dsimp only
  by_cases hf:f<a
  .have hl:¬b<g:=by ext q4 hf
   rw [if_pos hf,if_neg hl]
   refine ⟨⟨rfl,by show f<=a-1;ext hf,⟨by show a=a-1+1;ext,by show a-1+1<=b;ext q2,by show b+1=g+1;ext q3 hl⟩⟩,λq hq=>?_,by simp,λz=>?_,λz=>?_⟩
   .simp at hq
    rcases hq with rfl | rfl
    .exact ⟨.inr rfl,eQ _,by show a-1<=g;ext q2 q3,λx h1 h2=>B _ _ x h1 (by have:x<=a-1:=h2;ext q2 q3 this) (by have:x<=a-1:=h2;ext this)⟩
    .exact ⟨.inl rfl,by show f<=a;ext q1,by show b<=g;ext q3,λx h1 h2=>A x h1 h2⟩
   .exfalso;have:=(not_congr (q5 f (by ext) (by ext h))).mpr (by ext hf);have:=z f (by ext) (by ext h);lia
   .exfalso;have:=(q5 a (by ext q1) (by ext q2 q3)).mpr (by ext q2);have:=z a (by ext q1) (by ext q2 q3);lia
  .have Ff:a=f:=by ext q1 hf
   rw [if_neg hf]
   by_cases hl:b<g
   .rw [if_pos hl]
    refine ⟨⟨Ff,by show f<=b;ext q1 q2,⟨rfl,by show b+1<=g;ext hl,rfl⟩⟩,λq hq=>?_,by simp,λz=>?_,λz=>?_⟩
    .simp at hq
     rcases hq with rfl | rfl
     .exact ⟨.inl rfl,by show f<=a;ext q1,by show b<=g;ext q3,λx h1 h2=>A x h1 h2⟩
     .exact ⟨.inr rfl,by show f<=b+1;ext q1 q2,eQ _,λx h1 h2=>B _ _ x (by have:b+1<=x:=h1;ext q1 q2 this) h2 (by have:b+1<=x:=h1;ext this)⟩
    .exfalso;have:=(not_congr (q5 g (by ext h) (by ext))).mpr (by ext hl);have:=z g (by ext h) (by ext);lia
    .exfalso;have:=(q5 a (by ext q1) (by ext h hf)).mpr (by ext q2);have:=z a (by ext q1) (by ext h hf);lia
   .rw [if_neg hl]
    refine ⟨⟨Ff,by show f<=b;ext h hl,by show b+1=g+1;ext q3 hl⟩,λq hq=>?_,by simp,λ_=>rfl,λ_=>rfl⟩
    simp at hq
    subst hq
    exact ⟨.inl rfl,by show f<=a;ext q1,by show b<=g;ext q3,λx h1 h2=>A x h1 h2⟩
theorem c7.l5:∀{rs:List Row} {a e x:Int},c7 a rs e->a<=x->x<e->∃q∈rs,q.1<=x/\x<=q.2.1
 | [],a,e,x,h,h1,h2=>by have:a=e:=h;ext _ h1 h2 this
 | r::rs,a,e,x,⟨h1,h2,h3⟩,k1,k2=>by
  by_cases hx:x<=r.2.1
  .exact ⟨r,cP,by ext h1 k1,hx⟩
  .obtain ⟨q,hq,k⟩:=h3.l5 (x:=x) (by ext hx) k2
   exact ⟨q,dj _ hq,k⟩
theorem c7.cX:∀{rs:List Row} {a e:Int},c7 a rs e->rs.Pairwise λp q=>p.2.1<q.1
 | [],_,_,_=>.nil
 | r::rs,a,e,⟨h1,h2,h3⟩=>eO.mpr ⟨λq hq=>by have:=h3.mem hq;ext this,h3.cX⟩
def gM(a b:Row):Prop:=a.2.1<b.1\/b.2.1<a.1
theorem HY:∀rs:List Row,vJ (rs.map Row.d)=some (rs.map λr=>(r.1,Row.d r))
 | []=>rfl
 | r::rs=>by
  rw [jV,vJ,HY rs]
  rfl
theorem Tz{rs:List Row}(hv:∀r∈rs,r.1<=r.2.1)(hd:rs.Pairwise gM)(e8:rs.length<iY):∃ts:List Row,rE (rs.map Row.d)=some (ts.map Row.d)/\bU ts/\(∀x c,Val ts x c↔Val rs x c)/\ts.Perm rs:=by
 have bz:(rs.map (·.1)).Nodup:=by
  rw [List.Nodup,l7]
  refine hd.imp_of_mem λ{a b} ha hb h=>?_
  have:=hv a ha;have:=hv b hb
  unfold gM at h
  lia
 obtain ⟨ts,t1,t2⟩:=Ic (F1 (rs.map λr=>(r.1,Row.d r)) λa b=>decide (a.1<=b.1))
 have hle:ts.Pairwise λa b=>a.1<=b.1:=by
  have:=FW (le:=λa b:Int×D=>decide (a.1<=b.1)) (λa b c h1 h2=>by simp at *;ext h1 h2) (λa b=>by simp;ext) (rs.map λr=>(r.1,Row.d r))
  rw [<-t2,l7] at this
  exact this.imp λ{x y} z=>by simpa using z
 have Ng:ts.Pairwise gM:=(t1.pairwise_iff (λ{a b} h=>by unfold gM at *;ext h)).mpr hd
 have AG:∀r∈ts,r.1<=r.2.1:=λr hr=>hv r (t1.subset hr)
 refine ⟨ts,?_,⟨AG,?_⟩,λx c=>?_,t1⟩
 .unfold rE
  rw [HY,yf,if_pos ⟨by rw [iT];exact bz,by rw [bM];exact e8⟩,<-t2,iT]
  rfl
 .refine (hle.and Ng).imp_of_mem λ{a b} ha hb h=>?_
  have:=AG a ha;have:=AG b hb
  obtain ⟨h1,h2⟩:=h
  unfold gM at h2
  ext this h1 h2
 .unfold Val
  exact ⟨λ⟨r,hr,k⟩=>⟨r,t1.subset hr,k⟩,λ⟨r,hr,k⟩=>⟨r,t1.symm.subset hr,k⟩⟩
noncomputable def dS(m:Met):List Row:=kT (m.a.at m.lo) m.a.2.2.2 (m.b.at m.lo) m.b.2.2.2 m.lo m.hi
theorem oI{m:Met}(h:m.lo<=m.hi):c7 m.lo (dS m) (m.hi+1)/\(∀q∈dS m,(q.2.2.2=m.a.2.2.2\/q.2.2.2=m.b.2.2.2)/\m.lo<=q.1/\q.2.1<=m.hi/\∀x,q.1<=x->x<=q.2.1->q.at x=min (m.a.at x) (m.b.at x))/\(dS m).length<=2:=by
 obtain ⟨h1,h2,h3,_⟩:=QK (l:=(m.b.at m.lo,m.b.2.2.2)) (low:=m.lo) (r:=(m.lo,m.hi,m.a.at m.lo,m.a.2.2.2)) h
 have e0:gE (m.b.at m.lo,m.b.2.2.2) m.lo (m.lo,m.hi,m.a.at m.lo,m.a.2.2.2)=dS m:=by
  unfold gE dS ie.at
  dsimp only
  rw [xT,vA,oi]
 rw [e0] at h1 h2 h3
 refine ⟨h1,λq hq=>?_,h3⟩
 obtain ⟨k1,k2,k3,k4⟩:=h2 q hq
 refine ⟨k1,k2,k3,λx x1 x2=>?_⟩
 rw [k4 x x1 x2]
 have e1:Row.at (m.lo,m.hi,m.a.at m.lo,m.a.2.2.2) x=m.a.at x:=v7 (r:=m.a) (lo:=m.lo) (hi:=m.hi)
 have e2:ie.at (m.b.at m.lo,m.b.2.2.2) m.lo x=m.b.at x:=v7 (r:=m.b) (lo:=m.lo) (hi:=m.hi)
 rw [e1,e2]
noncomputable def eH(A B:List Row):List Row:=(aT A B).flatMap dS
theorem y7{A B:List Row}{q:Row}(h:q∈eH A B):∃m∈aT A B,q∈dS m/\m.a∈A/\m.b∈B/\m.lo=max m.a.1 m.b.1/\m.hi=min m.a.2.1 m.b.2.1/\m.lo<=q.1/\q.1<=q.2.1/\q.2.1<=m.hi/\(q.2.2.2=m.a.2.2.2\/q.2.2.2=m.b.2.2.2)/\∀x,q.1<=x->x<=q.2.1->q.at x=min (m.a.at x) (m.b.at x):=by
 obtain ⟨m,hm,hq⟩:=ye.mp h
 obtain ⟨k1,k2,k3,k4,k5⟩:=iB (bj _) hm
 obtain ⟨c1,c2,_⟩:=oI k5
 have:=c1.mem hq
 obtain ⟨d1,d2,d3,d4⟩:=c2 q hq
 exact ⟨m,hm,hq,k1,k2,k3,k4,d2,this.2.1,d3,d1,d4⟩
theorem Hx{A B:List Row}(ha:bU A)(hb:bU B):bU (eH A B)/\∀x c,Val (eH A B) x c↔∃p q,look A x=some p/\look B x=some q/\c=min p q:=by
 refine ⟨⟨λq hq=>?_,?_⟩,λx c=>⟨λ⟨q,hq,h1,h2,h3⟩=>?_,λ⟨p,q,h1,h2,h3⟩=>?_⟩⟩
 .obtain ⟨m,_,_,_,_,_,_,_,k,_⟩:=y7 hq;exact k
 .unfold eH
  rw [List.pairwise_flatMap]
  refine ⟨λm hm=>?_,?_⟩
  .exact (oI (iB (bj _) hm).2.2.2.2).1.cX
  .refine (wd (bj _) ha hb).imp_of_mem λ{m k} hm hk h x hx y hy=>?_
   have c1:=(oI (iB (bj _) hm).2.2.2.2).1.mem hx
   have c2:=(oI (iB (bj _) hk).2.2.2.2).1.mem hy
   show x.2.1<y.1
   ext h c1 c2
 .obtain ⟨m,hm,_,k1,k2,k3,k4,k5,k6,k7,_,k8⟩:=y7 hq
  exact ⟨_,_,jZ ha k1 (by ext h1 k3 k5) (by ext h2 k4 k7),jZ hb k2 (by ext h1 k3 k5) (by ext h2 k4 k7),by rw [h3,k8 x h1 h2]⟩
 .obtain ⟨a,A7,a1,a2,rfl⟩:=mn h1
  obtain ⟨b,gJ,b1,b2,rfl⟩:=mn h2
  obtain ⟨m,hm,rfl,rfl,m1,m2⟩:=y9 (x:=x) (bj _) ha hb A7 gJ a1 a2 b1 b2
  obtain ⟨c1,c2,_⟩:=oI (iB (bj _) hm).2.2.2.2
  obtain ⟨q,hq,q1,q2⟩:=c1.l5 (x:=x) m1 (by ext m2)
  exact ⟨q,ye.mpr ⟨m,hm,hq⟩,q1,q2,by rw [h3,(c2 q hq).2.2.2 x q1 q2]⟩
theorem Hw(A B:List Row):(eH A B).length<=2*(aT A B).length:=by
 unfold eH
 have:∀ms:List Met,(∀m∈ms,m.lo<=m.hi)->(ms.flatMap dS).length<=2*ms.length:=λms=>by
  induction ms with
  | nil=>intro _;simp
  | cons m ms ih =>
   intro h
   have:=ih λk hk=>h k (dj _ hk)
   have:=(oI (h m cP)).2.2
   rw [vn,bP,fS]
   lia
 exact this _ λm hm=>(iB (bj _) hm).2.2.2.2
theorem DI:∀{n:Nat} {A B:List Row},A.length+B.length<=n->(aT A B).length=0\/(aT A B).length+1<=A.length+B.length
 | n,[],B,_=>by rw [wg];exact .inl rfl
 | n,a::as,[],_=>by rw [wt];exact .inl rfl
 | 0,a::as,b::bs,hn=>absurd hn (by simp)
 | n+1,a::as,b::bs,hn=>by
  rw [r8,bP]
  have h1:(if max a.1 b.1<=min a.2.1 b.2.1 then [(⟨max a.1 b.1,min a.2.1 b.2.1,a,b⟩:Met)] else []).length<=1:=by split<;>simp
  by_cases hc:a.2.1<b.2.1
  .have:=DI (n:=n) (A:=as) (B:=b::bs) (by simp at hn ⊢;ext hn)
   rw [if_pos hc]
   simp only [fS] at this ⊢;ext h1 this
  .have:=DI (n:=n) (A:=a::as) (B:=bs) (by simp at hn ⊢;ext hn)
   rw [if_neg hc]
   simp only [fS] at this ⊢;ext h1 this
theorem HS{A B:List Row}(ha:∀r∈A,af (10^110) r)(hb:∀r∈B,af (10^110) r)(l1:A.length<=400000)(l2:B.length<=400000):sk [.tup (A.map Row.d),.tup (B.map Row.d)]=some (.ow ((eH A B).map Row.d)):=by
 refine Wo.eq (fM.mpr ?_)
 unfold Ea
 walk_at "v1"
 rw [Gz (λr hr=>(ha r hr).mono (by decide)) (λr hr=>(hb r hr).mono (by decide)) (by ext l1) (by ext l2)]
 walk_at "v1"
 have pK:=we (A:=A) (B:=B) (bj _)
 refine mx Met.d (λpre env=>∃x3 x4 x5 x6,env=[.sh (.tup (A.map Row.d)),.sh (.tup (B.map Row.d)),.ow ((pre.flatMap dS).map Row.d),x3,x4,x5,x6]) (aT A B) (λpre m post env e h=>?_) (λenv h=>?_) ⟨_,_,_,_,rfl⟩
 .obtain ⟨x3,x4,x5,x6,rfl⟩:=h
  have hm:m∈aT A B:=by rw [e];simp
  obtain ⟨k1,k2,k3,k4,k5⟩:=iB (bj _) hm
  have b1:=ha _ k1
  have b2:=hb _ k2
  unfold af at b1 b2
  have ei:(pre.flatMap dS).length<=2*pre.length:=by
   have:∀ms:List Met,(∀m∈ms,m.lo<=m.hi)->(ms.flatMap dS).length<=2*ms.length:=λms=>by
    induction ms with
    | nil=>intro _;simp
    | cons m ms ih =>
     intro h
     have:=ih λk hk=>h k (dj _ hk)
     have:=(oI (h m cP)).2.2
     rw [vn,bP,fS]
     omega
   exact this _ λk hk=>(iB (A:=A) (B:=B) (bj _) (by rw [e];simp [hk])).2.2.2.2
  have AN:pre.length<=800000:=by have:=congrArg ra e;simp at this;ext l1 l2 pK this
  have el:=PX (p1:=m.a.at m.lo) (s1:=m.a.2.2.2) (p2:=m.b.at m.lo) (s2:=m.b.2.2.2) k5 (by ext k3 k4 b2) (by ext b1) (by ext b1) (by ext b2) (by ext b2)
  rw [Gw,yI,yI]
  walk_at "v1"
  rw [el]
  walk_at "v1"
  have qY:=(oI k5).2.2
  refine ⟨?_,.sh (.int m.lo),.sh (.int m.hi),.sh (oz m.a m.lo),.sh (oz m.b m.lo),?_⟩
  .rw [bM,bM]
   show (pre.flatMap dS).length+(dS m).length<=_
   ext ei AN qY
  .rw [List.flatMap_append,fg]
   simp only [vn,List.flatMap_nil,lD]
   rfl
 .obtain ⟨x3,x4,x5,x6,rfl⟩:=h
  walk_at "vc"
  rfl
theorem HD:∀{xs ys:List Int},xs.Nodup->xs ⊆ ys->xs.length<=ys.length
 | [],_,_,_=>oh _
 | x::xs,ys,h,s=>by
  obtain ⟨h1,h2⟩:=ot.mp h
  have hx:=s (cP ..)
  have k:=HD h2 (ys:=ys.erase x) λy hy=>by
   have:y≠x:=λz=>h1 (z▸hy)
   exact (F5 this).mpr (s (dj _ hy))
  rw [FZ hx] at k
  have:=FQ hx
  rw [fS]
  ext k this
theorem DF{r q:Row}{lo:Int}(h:q∈ir r lo):q.2.1=r.2.1:=by
 unfold ir at h
 split at h
 .rw [cH.mp h];rfl
 .exact absurd h lE
theorem Ip{r q:Row}{lo to:Int}(h:q∈iZ r lo to):q.2.1=to-1:=by
 unfold iZ at h
 split at h
 .rw [cH.mp h];rfl
 .exact absurd h lE
theorem HE{r q:Row}:∀{ss:List Span} {low:Int},(q∈(bD r low ss).1->q.2.1=r.2.1\/∃s∈ss,q.2.1=s.1-1)/\(bD r low ss).2 <:+ ss
 | [],low=>⟨λh=>.inl (DF h),qe _⟩
 | s::ss,low=>by
  unfold bD
  split
  .split
   .refine ⟨λh=>?_,qe _⟩
    rcases bR.mp h with h | h
    .exact .inr ⟨s,cP ..,Ip h⟩
    .exact .inl (DF h)
   .obtain ⟨i1,i2⟩:=HE (r:=r) (q:=q) (ss:=ss) (low:=max low (s.2+1))
    refine ⟨λh=>?_,i2.trans (List.suffix_cons _ _)⟩
    rcases bR.mp h with h | h
    .exact .inr ⟨s,cP ..,Ip h⟩
    .rcases i1 h with k | ⟨t,ht,k⟩
     .exact .inl k
     .exact .inr ⟨t,dj _ ht,k⟩
  .exact ⟨λh=>.inl (DF h),qe _⟩
theorem C'{q:Row}:∀{rs:List Row} {ss:List Span},q∈bE rs ss->(∃r∈rs,q.2.1=r.2.1)\/∃s∈ss,q.2.1=s.1-1
 | [],_,h=>absurd h lE
 | r::rs,ss,h=>by
  obtain ⟨i1,i2⟩:=HE (r:=r) (q:=q) (ss:=ss) (low:=r.1)
  rcases bR.mp (show q∈(bD r r.1 ss).1++bE rs (bD r r.1 ss).2 from h) with h | h
  .rcases i1 h with k | k
   .exact .inl ⟨r,cP ..,k⟩
   .exact .inr k
  .rcases C' h with ⟨z,hz,k⟩ | ⟨s,hs,k⟩
   .exact .inl ⟨z,dj _ hz,k⟩
   .exact .inr ⟨s,i2.subset hs,k⟩
theorem Qw{A B:List Row}(ca:bU A)(cb:bU B){sa sb:List Span}(SA:aN A sa)(SB:aN B sb):(aT A B).length+(bE A sb).length+(bE B sa).length<=2*(A.length+B.length):=by
 have vH:∀{L:List Row} {ss:List Span},aN L ss->jl ss:=λ{L ss} S=>⟨S.ok,S.apart.imp λ{a b} h=>by ext h⟩
 obtain ⟨a1,a2,a3,a4⟩:=r9 ca (vH SB)
 obtain ⟨b1,b2,b3,b4⟩:=r9 cb (vH SA)
 have mm:=λm (h:m∈aT A B)=>iB (A:=A) (B:=B) (bj _) h
 have ma:=wd (A:=A) (B:=B) (bj _) ca cb
 have key:=HD (xs:=(aT A B).map Met.hi++((bE A sb).map (λr=>r.2.1)++(bE B sa).map λr=>r.2.1)) (ys:=(A.map (λr=>r.2.1)++B.map λr=>r.2.1)++(A.map (λr=>r.1-1)++B.map λr=>r.1-1)) ?_ ?_
 .simp only [bP,bM] at key
  ext key
 .have cX:∀{L:List Row},bU L->(L.map λr=>r.2.1).Nodup:=λ{L} h=>by
   unfold List.Nodup
   rw [l7]
   refine h.2.imp_of_mem λ{x y} hx hy z e=>?_
   have:=h.1 y hy
   ext z e this
  refine BQ.mpr ⟨?_,BQ.mpr ⟨cX a1,cX b1,?_⟩,?_⟩
  .unfold List.Nodup
   rw [l7]
   refine ma.imp_of_mem λ{x y} hx hy z e=>?_
   have:=(mm y hy).2.2.2.2
   ext z e this
  .intro x hx y hy e
   obtain ⟨p,hp,rfl⟩:=cO.mp hx
   obtain ⟨q,hq,rfl⟩:=cO.mp hy
   have k1:=(a3 p.2.1 _).mp ⟨p,hp,a1.1 p hp,eQ _,rfl⟩
   have k2:=(b3 q.2.1 _).mp ⟨q,hq,b1.1 q hq,eQ _,rfl⟩
   obtain ⟨r,hr,r1,r2,_⟩:=k1.1
   exact k2.2 ((SA.l5 _).mpr ⟨r,hr,by ext e r1,by ext e r2⟩)
  .intro x hx y hy e
   obtain ⟨m,hm,rfl⟩:=cO.mp hx
   obtain ⟨i1,i2,i3,i4,i5⟩:=mm m hm
   rcases bR.mp hy with hy | hy
   .obtain ⟨q,hq,rfl⟩:=cO.mp hy
    have k2:=(a3 q.2.1 _).mp ⟨q,hq,a1.1 q hq,eQ _,rfl⟩
    exact k2.2 ((SB.l5 _).mpr ⟨m.b,i2,by ext i3 i5 e,by ext i4 e⟩)
   .obtain ⟨q,hq,rfl⟩:=cO.mp hy
    have k2:=(b3 q.2.1 _).mp ⟨q,hq,b1.1 q hq,eQ _,rfl⟩
    exact k2.2 ((SA.l5 _).mpr ⟨m.a,i1,by ext i3 i5 e,by ext i4 e⟩)
 .intro x hx
  have xq:∀{r:Row},(r∈A\/r∈B)->r.2.1∈(A.map (λr=>r.2.1)++B.map λr=>r.2.1)++(A.map (λr=>r.1-1)++B.map λr=>r.1-1):=λ{r} h=>by
   refine dX _ ?_
   rcases h with h | h
   .exact dX _ (cO.mpr ⟨r,h,rfl⟩)
   .exact er _ (cO.mpr ⟨r,h,rfl⟩)
  have E6:∀{r:Row},(r∈A\/r∈B)->r.1-1∈(A.map (λr=>r.2.1)++B.map λr=>r.2.1)++(A.map (λr=>r.1-1)++B.map λr=>r.1-1):=λ{r} h=>by
   refine er _ ?_
   rcases h with h | h
   .exact dX _ (cO.mpr ⟨r,h,rfl⟩)
   .exact er _ (cO.mpr ⟨r,h,rfl⟩)
  rcases bR.mp hx with hx | hx
  .obtain ⟨m,hm,rfl⟩:=cO.mp hx
   obtain ⟨i1,i2,i3,i4,i5⟩:=mm m hm
   by_cases c:m.a.2.1<=m.b.2.1
   .rw [show m.hi=m.a.2.1 by ext i4 c];exact xq (.inl i1)
   .rw [show m.hi=m.b.2.1 by ext i4 c];exact xq (.inr i2)
  .rcases bR.mp hx with hx | hx
   .obtain ⟨q,hq,rfl⟩:=cO.mp hx
    rcases C' hq with ⟨r,hr,k⟩ | ⟨s,hs,k⟩
    .rw [k];exact xq (.inl hr)
    .obtain ⟨⟨r1,h1,e1⟩,_⟩:=SB.ends s hs
     rw [k,show s.1=r1.1 by ext e1];exact E6 (.inr h1)
   .obtain ⟨q,hq,rfl⟩:=cO.mp hx
    rcases C' hq with ⟨r,hr,k⟩ | ⟨s,hs,k⟩
    .rw [k];exact xq (.inr hr)
    .obtain ⟨⟨r1,h1,e1⟩,_⟩:=SA.ends s hs
     rw [k,show s.1=r1.1 by ext e1];exact E6 (.inl h1)
noncomputable def dC:Option Int->Option Int->Option Int
 | some a,some b=>some (min a b)
 | some a,none=>some a
 | none,b=>b
theorem HI{A:List Row}(ha:bU A){x:Int}:(∃r∈A,r.1<=x/\x<=r.2.1)↔look A x≠none:=by
 constructor
 .rintro ⟨r,hr,h1,h2⟩
  rw [jZ ha hr h1 h2];exact λz=>nomatch z
 .intro h
  cases e:look A x with
  | none=>exact absurd e h
  | some c=>obtain ⟨r,hr,h1,h2,_⟩:=mn e;exact ⟨r,hr,h1,h2⟩
theorem QS{A B:List Row}{V C:Int}(ca:bU A)(cb:bU B)(ha:∀r∈A,af (10^110) r)(hb:∀r∈B,af (10^110) r)(hV:V<=10^110)(hC:C<=10^110)
  (va:∀x c,look A x=some c->(-V<=x/\x<=V)/\(-C<=c/\c<=C))(vb:∀x c,look B x=some c->(-V<=x/\x<=V)/\(-C<=c/\c<=C))(hl:4*(A.length+B.length)<=iY):
  ∃fs:List Row,sd [.tup (A.map Row.d),.tup (B.map Row.d)]=some (.sh (.tup (fs.map Row.d)))/\Canon fs/\(∀x,look fs x=dC (look A x) (look B x))/\fs.length<=3*(A.length+B.length):=by
 have hN:iY<=1600000/\0<iY:=by decide
 obtain ⟨sa,ea,SA⟩:=He ca (by ext hl hN)
 obtain ⟨sb,eb,SB⟩:=He cb (by ext hl hN)
 have FF:∀{L:List Row} {ss:List Span},aN L ss->(∀r∈L,af (10^110) r)->∀s∈ss,w6 s:=λ{L ss} S hL s hs=>by
  obtain ⟨⟨r1,h1,e1⟩,⟨r2,h2,e2⟩⟩:=S.ends s hs
  have k1:=hL r1 h1
  have k2:=hL r2 h2
  unfold af at k1 k2
  unfold w6
  ext e1 e2 k1 k2
 have vH:∀{L:List Row} {ss:List Span},aN L ss->jl ss:=λ{L ss} S=>⟨S.ok,S.apart.imp λ{a b} h=>by ext h⟩
 have oa:=DD (rs:=A) (ss:=sb) (λr hr=>(ha r hr).mono (by decide)) (FF SB hb) (by ext hl hN) (by have:=SB.len;ext hl hN this)
 have ob:=DD (rs:=B) (ss:=sa) (λr hr=>(hb r hr).mono (by decide)) (FF SA ha) (by ext hl hN) (by have:=SA.len;ext hl hN this)
 obtain ⟨a1,a2,a3,a4⟩:=r9 ca (vH SB)
 obtain ⟨b1,b2,b3,b4⟩:=r9 cb (vH SA)
 obtain ⟨c1,c2⟩:=Hx ca cb
 have la:=SA.len
 have lb:=SB.len
 have ll:=Hw A B
 have lm:=DI (A:=A) (B:=B) (bj _)
 have E7:∀x,d9 sa x↔look A x≠none:=λx=>(SA.l5 x).trans (HI ca)
 have Ax:∀x,d9 sb x↔look B x≠none:=λx=>(SB.l5 x).trans (HI cb)
 have EI:∀r∈eH A B++(bE A sb++bE B sa),r.1<=r.2.1:=λr hr=>by
  rcases bR.mp hr with h | h
  .exact c1.1 r h
  .exact (bR.mp h).elim (a1.1 r) (b1.1 r)
 have apart:∀{L M:List Row},(∀r∈L,r.1<=r.2.1)->(∀r∈M,r.1<=r.2.1)->(∀x c d,Val L x c->Val M x d->False)->∀a∈L,∀b∈M,gM a b:=λ{L M} hL hM hx a uJ b nZ=>by
  have h1:=hL a uJ
  have h2:=hM b nZ
  by_cases h:a.2.1<b.1\/b.2.1<a.1
  .exact h
  .exact (hx (max a.1 b.1) _ _ ⟨a,uJ,by ext,by ext h1 h,rfl⟩ ⟨b,nZ,by ext,by ext h2 h,rfl⟩).elim
 have own:∀{L:List Row},bU L->L.Pairwise gM:=λ{L} h=>h.2.imp λ{a b} z=>.inl z
 have A3:(eH A B++(bE A sb++bE B sa)).Pairwise gM:=by
  refine fG.mpr ⟨own c1,fG.mpr ⟨own a1,own b1,apart a1.1 b1.1 λx c d h1 h2=>?_⟩,λa uJ b nZ=>?_⟩
  .obtain ⟨k1,k2⟩:=(a3 x c).mp h1
   obtain ⟨k3,k4⟩:=(b3 x d).mp h2
   rw [Ax,oQ cb] at *
   exact k2 (by rw [k3];exact λz=>nomatch z)
  .rcases bR.mp nZ with nZ | nZ
   .refine apart c1.1 a1.1 (λx c d h1 h2=>?_) a uJ b nZ
    obtain ⟨p,q,k1,k2,_⟩:=(c2 x c).mp h1
    obtain ⟨_,k4⟩:=(a3 x d).mp h2
    exact k4 ((Ax x).mpr (by rw [k2];exact λz=>nomatch z))
   .refine apart c1.1 b1.1 (λx c d h1 h2=>?_) a uJ b nZ
    obtain ⟨p,q,k1,k2,_⟩:=(c2 x c).mp h1
    obtain ⟨_,k4⟩:=(b3 x d).mp h2
    exact k4 ((E7 x).mpr (by rw [k1];exact λz=>nomatch z))
 have mo:=Qw ca cb SA SB
 have e8:(eH A B++(bE A sb++bE B sa)).length<iY:=by
  rw [bP,bP]
  ext hl hN ll lm mo
 obtain ⟨ts,es,Og,Js,Ad⟩:=Tz EI A3 e8
 have AH:∀x c,Val (eH A B++(bE A sb++bE B sa)) x c↔dC (look A x) (look B x)=some c:=λx c=>by
  rw [Val.app,Val.app,c2,a3,b3,E7,Ax,oQ ca,oQ cb]
  cases look A x with
  | none=>cases look B x<;>simp [dC]
  | some a=>cases look B x<;>simp [dC,eq_comm]
 have jL:∀r∈ts,af (10^110) r:=λr hr=>by
  have mO:=Ad.subset hr
  have hle:=EI r mO
  rcases bR.mp mO with h | h
  .obtain ⟨m,_,_,k1,k2,k3,k4,k5,k6,k7,k8,k9⟩:=y7 h
   have q1:=ha _ k1
   have q2:=hb _ k2
   have v1:=va _ _ (jZ ca k1 (x:=r.1) (by ext k3 k5) (by ext hle k4 k7))
   have v2:=vb _ _ (jZ cb k2 (x:=r.1) (by ext k3 k5) (by ext hle k4 k7))
   have e1:r.at r.1=r.2.2.1:=by unfold Row.at;simp
   have e2:=k9 r.1 (eQ _) hle
   rw [e1] at e2
   unfold af at *
   ext hV hC hle k4 k7 k8 q1 q2 v1 v2 e2
  .have key:∀{L:List Row} {q:Row},bU L->(∀r∈L,af (10^110) r)->(∀x c,look L x=some c->(-V<=x/\x<=V)/\(-C<=c/\c<=C))->(∃r∈L,r.1<=q.1/\q.2.1<=r.2.1/\q.2.2.1=r.at q.1/\q.2.2.2=r.2.2.2)->q.1<=q.2.1->af (10^110) q:=λ{L q} hA hL hv ⟨z,hz,k1,k2,k3,k4⟩ hq=>by
    have q1:=hL z hz
    have v1:=hv _ _ (jZ hA hz (x:=q.1) (by ext k1) (by ext hq k2))
    unfold af at *
    rw [k3,k4]
    ext hC hq k1 k2 q1 v1
   rcases bR.mp h with h | h
   .exact key ca ha va (a2 r h) hle
   .exact key cb hb vb (b2 r h) hle
 obtain ⟨fs,ef,L⟩:=rH Og jL (by rw [Ad.length_eq];ext hN e8) (ro:=false)
 have lk:∀x,look fs x=dC (look A x) (look B x):=λx=>qt L.canon.cX λc=>by rw [L.val,Js,AH]
 refine ⟨fs,?_,L.canon,lk,?_⟩
 .refine Wo.eq (nF.mpr ?_)
  unfold CY
  walk_at "vc"
  rw [eb,ea]
  walk_at "vc"
  rw [oa,ob]
  walk_at "vc"
  rw [HS (λr hr=>(ha r hr).mono (by decide)) (λr hr=>(hb r hr).mono (by decide)) (by ext hl hN) (by ext hl hN)]
  walk_at "vc"
  rw [<-fg,<-fg,es]
  walk_at "vc"
  rw [ef]
  walk_at "vc"
  simp only [bM,bP]
  ext hl hN ll mo
 .have:=L.len
  have:=Ad.length_eq
  rw [bP,bP] at this
  lia
theorem HZ{g:Row->Row}(h:∀a b,j0 a b->j0 (g a) (g b)):∀{rs:List Row},aS j0 rs->aS j0 (rs.map g)
 | [],_=>trivial
 | [_],_=>trivial
 | a::b::rs,k=>⟨h a b k.1,HZ h (rs:=b::rs) k.2⟩
theorem DB{g:Row->Row}(h0:∀r,iX r->iX (g r))(h:∀a b,j0 a b->j0 (g a) (g b)){rs:List Row}(c:Canon rs):Canon (rs.map g):=
 ⟨λr hr=>by obtain ⟨q,hq,rfl⟩:=cO.mp hr;exact h0 q (c.1 q hq),HZ h c.2⟩
theorem y4{fs:List Row}(h:Canon fs){B C:Int}(hC:0<=C)(hb:∀x c,look fs x=some c->(-B<=x/\x<=B)/\(-C<=c/\c<=C)):∀r∈fs,(-B<=r.1/\r.1<=B)/\(-B<=r.2.1/\r.2.1<=B)/\(-C<=r.2.2.1/\r.2.2.1<=C)/\(-(2*C)<=r.2.2.2/\r.2.2.2<=2*C):=λr hr=>by
 have ok:=h.1 r hr
 unfold iX at ok
 have l1:=jZ h.cX hr (x:=r.1) (eQ _) ok.1
 have l2:=jZ h.cX hr (x:=r.2.1) ok.1 (eQ _)
 have b1:=hb _ _ l1
 have b2:=hb _ _ l2
 have e1:r.at r.1=r.2.2.1:=by unfold Row.at;simp
 rw [e1] at b1
 refine ⟨b1.1,b2.1,b1.2,?_⟩
 by_cases hs:r.1=r.2.1
 .rw [ok.2 hs];ext hC
 .have l3:=jZ h.cX hr (x:=r.1+1) (by ext) (by ext ok hs)
  have b3:=hb _ _ l3
  have e3:r.at (r.1+1)=r.2.2.1+r.2.2.2:=by unfold Row.at;rw [show r.1+1-r.1=1 by ext,mW]
  rw [e3] at b3
  ext b1 b3
theorem Hc{rs:List Row}{n:Nat}(h:n<rs.length):cW (rs.map Row.d) (n:Int)=some (Row.d rs[n]):=by
 rw [DL.cz];simp [h]
theorem QU{rs:List Row}(ha:bU rs)(hl:rs.length<=900000)(x:Int):∃n:Nat,rZ [.tup (rs.map Row.d),.int x]=some (.sh (.int n))/\n<=rs.length/\(∀i (h:i<rs.length),i<n->rs[i].2.1<x)/\(∀i (h:i<rs.length),n<=i->x<=rs[i].2.1):=by
 have mono:∀i j (hi:i<rs.length) (hj:j<rs.length),i<=j->rs[i].2.1<=rs[j].2.1:=λi j hi hj h=>by
  rcases Nat.lt_or_eq_of_le h with h | rfl
  .have:=(vF.mp ha.2) i j hi hj h
   have:=ha.1 _ (lH hj)
   lia
  .exact eQ _
 have key:Wo (rZ [.tup (rs.map Row.d),.int x]) λs=>∃n:Nat,s=.sh (.int n)/\n<=rs.length/\(∀i (h:i<rs.length),i<n->rs[i].2.1<x)/\(∀i (h:i<rs.length),n<=i->x<=rs[i].2.1):=by
  refine jd.mpr ?_
  unfold DS
  walk_at "vc"
  rw [bM,Di]
  refine wu (λm env=>∃x4,∃f b:Nat,env=[.sh (.tup (rs.map Row.d)),.sh (.int x),.sh (.int f),.sh (.int b),x4]/\m=b-f/\f<=b/\b<=rs.length/\(∀i (h:i<rs.length),i<f->rs[i].2.1<x)/\(∀i (h:i<rs.length),b<=i->x<=rs[i].2.1)) (λm env h=>?_) _ rs.length
   (show rs.length<1000000 by ext hl) ⟨_,0,rs.length,rfl,by simp,by simp,bj _,λi h z=>absurd z (Nat.not_lt_zero _),λi h z=>absurd h (by ext z)⟩
  obtain ⟨x4,f,b,rfl,rfl,h1,h2,h3,h4⟩:=h
  walk_at "vc"
  refine ⟨λbx=>?_,λkl=>⟨f,rfl,by ext h1 h2,h3,λi h z=>h4 i h (by ext kl z)⟩⟩
  have hm:((f:Int)+b)/2=(((f+b)/2:Nat):Int):=by lia
  have kY:(f+b)/2<rs.length:=by lia
  rw [hm,Hc kY,c5]
  walk_at "vc"
  refine ⟨by walk_at "sc",λhc=>?_,λhc=>?_⟩
  .exact ⟨b-((f+b)/2+1),by lia,_,(f+b)/2+1,b,rfl,rfl,by lia,h2,λi h z=>Int.lt_of_le_of_lt (mono i ((f+b)/2) h kY (by ext z)) hc,h4⟩
  .exact ⟨(f+b)/2-f,by lia,_,f,(f+b)/2,rfl,rfl,by lia,by ext kY,h3,λi h z=>Int.le_trans (by ext kY hc) (mono ((f+b)/2) i kY h z)⟩
 obtain ⟨s,e,n,rfl,h⟩:=key
 exact ⟨n,e,h⟩
theorem RR{rs:List Row}(ha:bU rs)(hl:rs.length<=900000)(hb:∀r∈rs,af (10^110) r){x:Int}(hx:-(10^110)<=x/\x<=10^110):wG [.tup (rs.map Row.d),.int x]=some (.sh (bN (look rs x))):=by
 refine Wo.eq (j'.mpr ?_)
 unfold Dw
 walk_at "vc"
 obtain ⟨n,en,hn,h1,h2⟩:=QU ha hl x
 rw [en]
 walk_at "vc"
 rw [bM]
 have split:rs=rs.take n++rs.drop n:=(kr n rs).symm
 have e7:∀q∈rs.take n,q.2.1<x:=λq hq=>by
  obtain ⟨i,hi,rfl⟩:=md.mp hq
  rw [iW] at hi
  rw [yg]
  exact h1 i (by ext hi) (by ext hi)
 have lk:look rs x=look (rs.drop n) x:=by
  have:=DG (x:=x) (post:=rs.drop n) e7
  rwa [<-split] at this
 refine ⟨λhe=>?_,λhe=>?_⟩
 .have:rs.drop n=[]:=mY (by ext he)
  rw [lk,this];rfl
 .have bx:n<rs.length:=by ext hn he
  have hd:rs.drop n=rs[n]::rs.drop (n+1):=jx bx
  have hr:=hb rs[n] (lH bx)
  have hle:=h2 n bx (bj _)
  unfold af at hr
  rw [Hc bx,c5]
  walk_at "vc"
  refine ⟨λxr=>?_,λxr=>?_⟩
  .rw [lk,ze];rfl
   intro q hq
   rw [hd] at hq
   rcases cU.mp hq with rfl | hq
   .exact .inl xr
   .have hp:=ha.2
    rw [split,hd] at hp
    have:=(eO.mp (fG.mp hp).2.1).1 q hq
    have:=ha.1 rs[n] (lH bx)
    exact .inl (by omega)
  .rw [<-c5,CS (by ext bx hr) (by ext bx hr) (by ext bx xr) (by ext bx hx hr)]
   walk_at "vc"
   rw [lk,hd,look,if_pos ⟨by ext bx xr,hle⟩]
   rfl
noncomputable def nq(n:Int)(r:Row):Row:=(r.1,r.2.1,r.2.2.1+n,r.2.2.2)
noncomputable def gC(n:Int)(r:Row):Row:=(r.1+n,r.2.1+n,r.2.2.1,r.2.2.2)
theorem Ie{n:Int}{r:Row}{x:Int}:(nq n r).at x=r.at x+n:=by unfold nq Row.at;dsimp only;ext
theorem HB{n:Int}{r:Row}{x:Int}:(gC n r).at (x+n)=r.at x:=by unfold gC Row.at;dsimp only;rw [show x+n-(r.1+n)=x-r.1 by ext]
theorem T7{n:Int}{rs:List Row}(c:Canon rs):Canon (rs.map (nq n)):=DB (g:=nq n) (λr h=>h) (λa b h=>⟨h.1,λz=>⟨(h.2 z).1,by rw [Ie];have:=(h.2 z).2;show b.2.2.1+n≠a.at b.1+n;ext this⟩⟩) c
theorem Ub{n:Int}{rs:List Row}(c:Canon rs):Canon (rs.map (gC n)):=DB (g:=gC n) (λr h=>⟨by have:=h.1;unfold gC;dsimp only;ext this,λz=>h.2 (by unfold gC at z;dsimp only at z;ext z)⟩) (λa b h=>⟨by have:=h.1;unfold gC;dsimp only;ext this,λz=>by
  have z':b.1=a.2.1+1:=by unfold gC at z;dsimp only at z;ext z
  obtain ⟨h1,h2⟩:=h.2 z'
  refine ⟨by unfold gC;dsimp only;ext h1,?_⟩
  rw [show (gC n b).1=b.1+n from rfl,HB]
  exact h2⟩) c
theorem T9{n:Int}{rs:List Row}(h:bU rs)(x:Int):look (rs.map (nq n)) x=(look rs x).map (·+n):=by
 obtain ⟨h1,h2⟩:=HA h (nq n) (λ_=>⟨rfl,rfl⟩) (·+n) λr x=>Ie
 exact qt h1 λc=>h2 x c
theorem Iv{n x:Int}:∀{rs:List Row},look (rs.map (gC n)) (x+n)=look rs x
 | []=>rfl
 | r::rs=>by
  rw [jV,look,look,HB,Iv (rs:=rs)]
  have:((gC n r).1<=x+n/\x+n<=(gC n r).2.1)↔(r.1<=x/\x<=r.2.1):=by unfold gC;dsimp only;ext
  simp only [this]
theorem RA{A:List Row}(hl:A.length<=900000)(n:Int):r6 [.tup (A.map Row.d),.int n]=some (.sh (.tup ((A.map (nq n)).map Row.d))):=by
 refine Wo.eq (lO.mpr ?_)
 unfold Dh
 walk_at "vc"
 rw [qo Row.d (λr=>(nq n r).d) (λe=>∃x0,e=[x0,.sh (.int n)]) A (λr hr e he=>?_) ⟨_,rfl⟩]
 .rw [bM,iT]
  walk_at "vc"
  exact ⟨by ext hl,rfl⟩
 .obtain ⟨x0,rfl⟩:=he
  rw [c5 r]
  walk_at "vc"
  exact ⟨⟨_,rfl⟩,rfl⟩
theorem Ta{r:Row}{n:Int}:wA [r.d,.int n]=some (.sh (gC n r).d):=by
 refine Wo.eq (g7.mpr ?_)
 unfold Et
 rw [c5 r]
 walk_at "vc"
 rfl
theorem QT{A:List Row}(hl:A.length<=900000)(n:Int):se [.tup (A.map Row.d),.int n]=some (.sh (.tup ((A.map (gC n)).map Row.d))):=by
 refine Wo.eq (nE.mpr ?_)
 unfold CZ
 walk_at "vc"
 rw [qo Row.d (λr=>(gC n r).d) (λe=>∃x0,e=[x0,.sh (.int n)]) A (λr hr e he=>?_) ⟨_,rfl⟩]
 .rw [bM,iT]
  walk_at "vc"
  exact ⟨by ext hl,rfl⟩
 .obtain ⟨x0,rfl⟩:=he
  walk_at "vc"
  rw [Ta]
  walk_at "vc"
  exact ⟨_,rfl⟩
noncomputable def gG:Option Int->Option Int->Option Int
 | some a,some b=>some (max a b)
 | _,_=>none
theorem GZ{A:List Row}(ha:∀r∈A,af (10^51) r){x c:Int}(h:look A x=some c):(-(10^51)<=x/\x<=10^51)/\(-(10^104)<=c/\c<=10^104):=by
 obtain ⟨r,hr,h1,h2,rfl⟩:=mn h
 have hb:=ha r hr
 have gJ:=hb
 unfold af at gJ
 exact ⟨by ext h1 h2 gJ,jY hb (by ext h1 gJ) (by ext h2 gJ)⟩
theorem zg{A:List Row}(c:Canon A):Canon (A.map (du (-1))):=by
 refine DB (g:=du (-1)) (λr h=>⟨h.1,λz=>?_⟩) (λa b h=>⟨h.1,λz=>⟨(h.2 z).1,?_⟩⟩) c
 .have:r.2.2.2=0:=h.2 z
  show r.2.2.2*(-1)=0
  rw [this];rfl
 .have e:(du (-1) a).at b.1=a.at b.1*(-1):=by unfold du Row.at;dsimp only;grind
  have k:=(h.2 z).2
  show b.2.2.1*(-1)≠(du (-1) a).at b.1
  rw [e]
  ext k
theorem Cn{A:List Row}(cA:Canon A)(ha:∀r∈A,af (10^109) r)(l1:A.length<=10000):mw [.tup (A.map Row.d),.int (-1)]=some (.sh (.tup ((A.map (du (-1))).map Row.d))):=by
 obtain ⟨p1,p2⟩:=D3 cA.cX (-1)
 have jL:∀r∈A.map (du (-1)),af (10^110) r:=λr hr=>by
  obtain ⟨q,hq,rfl⟩:=cO.mp hr
  have hb:=ha q hq
  unfold af at hb
  unfold du af
  dsimp only
  ext hb
 obtain ⟨fs,ef,L⟩:=rH p1 jL (by rw [bM];ext l1) (ro:=false)
 have lY:fs=A.map (du (-1)):=S9 L.canon (zg cA) λx=>Qv L.canon.cX p1 λc=>L.val x c
 rw [lY] at ef
 refine Wo.eq (jC.mpr ?_)
 unfold yR
 walk_at "vc"
 rw [qo Row.d (λr=>(du (-1) r).d) (λe=>∃x0,e=[x0,.sh (.int (-1))]) A (λr hr e he=>?_) ⟨_,rfl⟩]
 .rw [bM]
  walk_at "vc"
  rw [show A.map (λr=>(du (-1) r).d)=(A.map (du (-1))).map Row.d by rw [iT];rfl,ef]
  walk_at "vc"
  ext l1
 .obtain ⟨x0,rfl⟩:=he
  have hb:=ha r hr
  unfold af at hb
  rw [c5 r]
  walk_at "vc"
  exact ⟨⟨_,rfl⟩,qq (by ext hb) (by ext hb) (by ext) (by ext),qq (by ext hb) (by ext hb) (by ext) (by ext),rfl⟩
theorem Dm{A:List Row}(cA:Canon A)(x:Int):look (A.map (du (-1))) x=(look A x).map (·*(-1)):=by
 obtain ⟨p1,p2⟩:=D3 cA.cX (-1)
 exact qt p1 λc=>p2 x c
theorem S'{A B:List Row}(cA:Canon A)(cB:Canon B)(ha:∀r∈A,af (10^51) r)(hb:∀r∈B,af (10^51) r)(hl:A.length+B.length<=5000):
  ∃fs:List Row,rX [.tup (A.map Row.d),.tup (B.map Row.d)]=some (.sh (.tup (fs.map Row.d)))/\Canon fs/\(∀x,look fs x=gG (look A x) (look B x))/\(∀r∈fs,af (10^106) r)/\fs.length<=10000:=by
 have nb:∀{L:List Row},(∀r∈L,af (10^51) r)->∀r∈L.map (du (-1)),af (10^51) r:=λ{L} hL r hr=>by
  obtain ⟨q,hq,rfl⟩:=cO.mp hr
  have:=hL q hq
  unfold af at *
  unfold du
  dsimp only
  ext this
 have nA:=zg cA
 have nB:=zg cB
 have lA:(A.map (du (-1))).length=A.length:=bM ..
 have lB:(B.map (du (-1))).length=B.length:=bM ..
 have bA:=nb ha
 have bB:=nb hb
 have kA:=Dm cA
 have kB:=Dm cB
 have eA:=Cn cA (λr hr=>(ha r hr).mono (by decide)) (by ext hl)
 have eB:=Cn cB (λr hr=>(hb r hr).mono (by decide)) (by ext hl)
 generalize A.map (du (-1))=C at *
 generalize B.map (du (-1))=E at *
 obtain ⟨c1,c2⟩:=Hx nA.cX nB.cX
 have ll:=Hw C E
 have lm:=we (A:=C) (B:=E) (bj _)
 have jL:∀r∈eH C E,af (10^110) r:=λr hr=>by
  obtain ⟨m,_,_,k1,k2,k3,k4,k5,k6,k7,k8,k9⟩:=y7 hr
  have q1:=bA _ k1
  have q2:=bB _ k2
  have nQ:=q1
  have kL:=q2
  unfold af at nQ kL
  have v1:=jY q1 (x:=r.1) (by ext k3 k5 kL) (by ext k4 k6 k7 kL)
  have v2:=jY q2 (x:=r.1) (by ext k3 k5 kL) (by ext k4 k6 k7 kL)
  have e1:r.at r.1=r.2.2.1:=by unfold Row.at;simp
  have e2:=k9 r.1 (eQ _) k6
  rw [e1] at e2
  unfold af
  omega
 obtain ⟨gs,eg,G⟩:=rH c1 jL (by ext hl lA lB ll lm) (ro:=false)
 have L8:∀x,look gs x=(gG (look A x) (look B x)).map (·*(-1)):=λx=>qt G.canon.cX λc=>by
  rw [G.val,c2,kA,kB]
  cases look A x with
  | none=>simp [gG]
  | some a =>
   cases look B x with
   | none=>simp [gG]
   | some b =>
    simp only [gG,vk,cV]
    constructor
    .rintro ⟨p,q,h1,h2,h3⟩;ext h1 h2 h3
    .intro h;exact ⟨_,_,rfl,rfl,by ext h⟩
 have gb:=y4 G.canon (B:=10^51) (C:=10^104) (by decide) (λx c h=>by
  obtain ⟨p,q,k1,k2,k3⟩:=(c2 x c).mp ((G.val x c).mp ((oO G.canon.cX).mp h))
  have v1:=GZ bA k1
  have v2:=GZ bB k2
  ext k3 v1 v2)
 have Fh:∀r∈gs,af (10^106) r:=λr hr=>by have:=gb r hr;unfold af;ext this
 have xB:gs.length<=10000:=by have:=G.len;ext hl lA lB ll lm this
 refine ⟨gs.map (du (-1)),?_,zg G.canon,λx=>?_,λr hr=>?_,by rw [bM];exact xB⟩
 .refine Wo.eq (jh.mpr ?_)
  unfold DO
  walk_at "vc"
  rw [eA,eB]
  walk_at "vc"
  rw [HS (λr hr=>(bA r hr).mono (by decide)) (λr hr=>(bB r hr).mono (by decide)) (by ext hl lA) (by ext hl lB)]
  walk_at "vc"
  rw [eg]
  walk_at "vc"
  rw [Cn G.canon (λr hr=>(Fh r hr).mono (by decide)) (by ext xB)]
  walk_at "vc"
 .rw [Dm G.canon,L8]
  cases gG (look A x) (look B x) with
  | none=>rfl
  | some c=>simp
 .obtain ⟨q,hq,rfl⟩:=cO.mp hr
  have:=Fh q hq
  unfold af at *
  unfold du
  dsimp only
  ext this
noncomputable def cN(l:Int×Int)(x:Int):Int:=l.1+l.2*x
def jk(Ls:List (Int×Int))(h:Int->Option Int)(x:Int):Prop:=(h x=none/\h (x+1)=none)\/∃l∈Ls,h x=some (cN l x)/\h (x+1)=some (cN l (x+1))
def gv(l m:Int×Int)(x:Int):Prop:=(cN l x<=cN m x/\cN m (x+1)<=cN l (x+1))\/(cN m x<=cN l x/\cN l (x+1)<=cN m (x+1))
structure Str(Ls:List (Int×Int))(B:List Int)(h:Int->Option Int):Prop where
 sm:∀x,x∉B->jk Ls h x
 cl:∀l∈Ls,∀m∈Ls,l≠m->∀x,gv l m x->x∈B
theorem y8(l:Int×Int)(x:Int):cN l (x+1)=cN l x+l.2:=by unfold cN;rw [xS,mW];ext
theorem PR{l m:Int×Int}{x:Int}(h:cN l x=cN m x):gv l m x:=by
 unfold gv
 rw [y8,y8]
 rcases Int.le_total l.2 m.2 with k | k
 .right;ext h k
 .left;ext h k
noncomputable def q0(l m:Int×Int):Int:=if l.2<m.2 then (l.1-m.1)/(m.2-l.2) else (m.1-l.1)/(l.2-m.2)
noncomputable def ve(l m:Int×Int):List Int:=[q0 l m-1,q0 l m,q0 l m+1]
theorem QP{l m:Int×Int}(bz:l≠m){x:Int}(h:gv l m x):x∈ve l m:=by
 have hs:l.2≠m.2:=λe=>by
  unfold gv cN at h
  rw [e] at h
  exact bz (xI (by ext h) e)
 have key:∀{a d x:Int},0<d->d*x<=a->a<=d*(x+1)->x=a/d-1\/x=a/d\/x=a/d+1:=λ{a d x} hd h1 h2=>by
  have i1:x<=a/d:=(Int.le_ediv_iff_mul_le hd).mpr (by rw [Int.mul_comm];exact h1)
  have i2:a/d<=x+1:=by
   have:=Int.ediv_le_ediv hd h2
   rwa [Int.mul_ediv_cancel_left _ (by ext hd)] at this
  ext i1 i2
 have goal:∀{y:Int},(x=y-1\/x=y\/x=y+1)->y=q0 l m->x∈ve l m:=λ{y} k e=>by
  unfold ve
  rw [<-e]
  simp only [cU,lE,or_false]
  ext k
 have e1:(l.2-m.2)*x=l.2*x-m.2*x:=xR ..
 have e2:(l.2-m.2)*(x+1)=l.2*(x+1)-m.2*(x+1):=xR ..
 have e3:(m.2-l.2)*x=m.2*x-l.2*x:=xR ..
 have e4:(m.2-l.2)*(x+1)=m.2*(x+1)-l.2*(x+1):=xR ..
 have e5:(m.2-l.2)*(x+1)=(m.2-l.2)*x+(m.2-l.2):=by rw [xS,mW]
 have e6:(l.2-m.2)*(x+1)=(l.2-m.2)*x+(l.2-m.2):=by rw [xS,mW]
 unfold gv cN at h
 rcases vq hs with k | k
 .have hd:0<m.2-l.2:=by ext k
  refine goal (key hd (a:=l.1-m.1) (x:=x) ?_ ?_) ?_
  .ext h e3 e4 e5 k
  .ext h e3 e4 e5 k
  .unfold q0;rw [if_pos k]
 .have hd:0<l.2-m.2:=by ext k
  refine goal (key hd (a:=m.1-l.1) (x:=x) ?_ ?_) ?_
  .ext h e1 e3 e4 e5 k
  .ext h e2 e3 e4 e5 k
  .unfold q0;rw [if_neg (by ext k)]
theorem IE(r:Row)(x:Int):r.at (x+1)=r.at x+r.2.2.2:=by
 unfold Row.at
 rw [show x+1-r.1=(x-r.1)+1 by ext,xS,mW];ext
theorem IQ:∀{f:List Row},Canon f->∀{r q:Row},r∈f->q∈f->q.1<=r.2.1+1->r.2.1+1<=q.2.1->q.1=r.2.1+1/\j0 r q
 | [],_,r,q,hr,_,_,_=>by cases hr
 | [a],_,r,q,hr,hq,h1,h2=>by
  rw [cH.mp hr,cH.mp hq] at h2
  ext _ h2
 | a::b::f,c,r,q,hr,hq,h1,h2=>by
  have ct:Canon (b::f):=⟨λx hx=>c.1 x (dj _ hx),c.2.2⟩
  have as:=c.cX
  have pa:=(eO.mp as.2).1
  rcases cU.mp hr with rfl | mO
  .rcases cU.mp hq with rfl | dq
   .ext _ h2
   .have p1:=pa q dq
    have hb:q=b:=by
     rcases cU.mp dq with rfl | AM
     .rfl
     .have p2:=(eO.mp ct.cX.2).1 q AM
      have p3:=pa b (cP ..)
      have p4:=(c.1 b (by simp)).1
      ext _ h1 p2 p3 p4
    subst hb
    exact ⟨by ext h1 p1,c.2.1⟩
  .rcases cU.mp hq with rfl | dq
   .have:=pa r mO
    have:=(c.1 r hr).1
    omega
   .exact IQ ct mO dq h1 h2
theorem Str.ends{Ls:List (Int×Int)}{B:List Int}{f:List Row}(c:Canon f)(S:Str Ls B (look f)){r:Row}(hr:r∈f):r.2.1∈B\/r.2.1-1∈B:=by
 by_cases b1:r.2.1∈B
 .exact .inl b1
 by_cases b2:r.2.1-1∈B
 .exact .inr b2
 exfalso
 have ok:=(c.1 r hr).1
 have e0:=jZ c.cX hr ok (eQ _)
 rcases S.sm _ b1 with ⟨z,_⟩ | ⟨l,hl,l1,l2⟩
 .rw [e0] at z;cases z
 obtain ⟨q,hq,q1,q2,q3⟩:=mn l2
 obtain ⟨n1,n2⟩:=IQ c hr hq q1 q2
 obtain ⟨f1,f2⟩:=n2.2 n1
 have e1:=jZ c.cX hr (x:=r.2.1-1) (by ext f1) (by ext)
 rcases S.sm _ b2 with ⟨z,_⟩ | ⟨m,hm,m1,m2⟩
 .rw [e1] at z;cases z
 rw [show r.2.1-1+1=r.2.1 by ext] at m2
 have Fe:l=m:=by
  by_cases k:l=m
  .exact k
  .refine absurd (S.cl l hl m hm k _ (PR ?_)) b1
   rw [l1] at m2
   exact bQ m2
 subst Fe
 rw [e1] at m1
 rw [e0] at l1
 have i1:=bQ m1
 have i2:=bQ l1
 have i3:=IE r (r.2.1-1)
 have i4:=y8 l (r.2.1-1)
 have i5:=IE r r.2.1
 have i6:=y8 l r.2.1
 rw [show r.2.1-1+1=r.2.1 by ext] at i3 i4
 have i7:q.at q.1=q.2.2.1:=by unfold Row.at;simp
 rw [n1] at f2 i7
 ext q3 f2 i1 i2 i3 i4 i5 i6 i7
theorem Ia:∀{l m:List Int},l.Nodup->(∀x∈l,x∈m)->l.length<=m.length
 | [],_,_,_=>oh _
 | a::l,m,h,s=>by
  have ha:=s a (cP ..)
  have hn:=ot.mp h
  have:=Ia (m:=m.erase a) hn.2 λx hx=>(F5 (λe:x=a=>hn.1 (by rw [<-e];exact hx))).mpr (s x (dj _ hx))
  rw [FZ ha] at this
  have:=FQ ha
  rw [fS]
  omega
theorem Str.len{Ls:List (Int×Int)}{B:List Int}{f:List Row}(c:Canon f)(S:Str Ls B (look f)):f.length<=2*B.length:=by
 have nd:(f.map λr=>r.2.1).Nodup:=by
  refine l7.mpr ((c.cX.2.imp_of_mem (S:=λa b=>a.2.1≠b.2.1)) ?_)
  intro a b ha hb h
  have:=(c.1 b hb).1
  ext h this
 have:=Ia (m:=B++B.map (·+1)) nd λx hx=>by
  obtain ⟨r,hr,rfl⟩:=cO.mp hx
  rcases S.ends c hr with h | h
  .exact dX _ h
  .exact er _ (cO.mpr ⟨_,h,by ext⟩)
 rw [bM,bP,bM] at this
 ext this
theorem gv.symm{l m:Int×Int}{x:Int}(h:gv l m x):gv m l x:=Or.symm h
noncomputable def og(Ls Lg:List (Int×Int)):List Int:=Ls.flatMap λl=>Lg.flatMap λm=>ve l m
theorem QO(Ls Lg:List (Int×Int)):(og Ls Lg).length=3*(Ls.length*Lg.length):=by
 have inner:∀(l:Int×Int) (M:List (Int×Int)),(M.flatMap λm=>ve l m).length=3*M.length:=λl M=>by
  induction M with
  | nil=>rfl
  | cons m M ih=>rw [vn,bP,ih,fS];show 3+_=_;ext
 induction Ls with
 | nil=>simp [og]
 | cons l Ls ih =>
  unfold og at *
  rw [vn,bP,ih,inner,fS,Nat.add_mul,Nat.one_mul]
  ext
theorem CQ{Ls Lg:List (Int×Int)}{l m:Int×Int}(hl:l∈Ls)(hm:m∈Lg)(bz:l≠m){x:Int}(h:gv l m x):x∈og Ls Lg:=ye.mpr ⟨l,hl,ye.mpr ⟨m,hm,QP bz h⟩⟩
theorem Str.two{Ls Lg:List (Int×Int)}{B Bg:List Int}{f g h:Int->Option Int}(Sf:Str Ls B f)(Sg:Str Lg Bg g)(op:∀x,jk Ls f x->jk Lg g x->(∀l∈Ls,∀m∈Lg,l≠m->¬gv l m x)->jk (Ls++Lg) h x):Str (Ls++Lg) (B++Bg++og Ls Lg) h:=by
 refine ⟨λx hx=>?_,λl hl m hm bz x hc=>?_⟩
 .simp only [bR,not_or] at hx
  exact op x (Sf.sm x hx.1.1) (Sg.sm x hx.1.2) λl hl m hm bz hc=>hx.2 (CQ hl hm bz hc)
 .simp only [bR] at hl hm ⊢
  rcases hl with hl | hl<;>rcases hm with hm | hm
  .exact .inl (.inl (Sf.cl l hl m hm bz x hc))
  .exact .inr (CQ hl hm bz hc)
  .exact .inr (CQ hm hl (λe=>bz e.symm) hc.symm)
  .exact .inl (.inr (Sg.cl l hl m hm bz x hc))
theorem Str.min{Ls Lg:List (Int×Int)}{B Bg:List Int}{f g h:Int->Option Int}(Sf:Str Ls B f)(Sg:Str Lg Bg g)(hh:∀x,h x=dC (f x) (g x)):Str (Ls++Lg) (B++Bg++og Ls Lg) h:=by
 refine Sf.two Sg λx sf sg nc=>?_
 unfold jk
 rw [hh,hh]
 rcases sf with ⟨a1,a2⟩ | ⟨l,hl,a1,a2⟩<;>rcases sg with ⟨b1,b2⟩ | ⟨m,hm,b1,b2⟩<;>rw [a1,a2,b1,b2]
 .exact .inl ⟨rfl,rfl⟩
 .exact .inr ⟨m,er _ hm,rfl,rfl⟩
 .exact .inr ⟨l,dX _ hl,rfl,rfl⟩
 .right
  by_cases e:l=m
  .subst e
   exact ⟨l,dX _ hl,by simp [dC],by simp [dC]⟩
  .have:=nc l hl m hm e
   unfold gv at this
   rcases vq (a:=cN l x) (b:=cN m x) (by ext this) with k | k
   .exact ⟨l,dX _ hl,by simp only [dC];congr 1;ext k,by simp only [dC];congr 1;ext this k⟩
   .exact ⟨m,er _ hm,by simp only [dC];congr 1;ext k,by simp only [dC];congr 1;ext this k⟩
noncomputable def iI:Option Int->Option Int->Option Int
 | some a,some b=>some (max a b)
 | _,_=>none
theorem Str.max{Ls Lg:List (Int×Int)}{B Bg:List Int}{f g h:Int->Option Int}(Sf:Str Ls B f)(Sg:Str Lg Bg g)(hh:∀x,h x=iI (f x) (g x)):Str (Ls++Lg) (B++Bg++og Ls Lg) h:=by
 refine Sf.two Sg λx sf sg nc=>?_
 unfold jk
 rw [hh,hh]
 rcases sf with ⟨a1,a2⟩ | ⟨l,hl,a1,a2⟩<;>rcases sg with ⟨b1,b2⟩ | ⟨m,hm,b1,b2⟩<;>rw [a1,a2,b1,b2]
 .exact .inl ⟨rfl,rfl⟩
 .exact .inl ⟨rfl,rfl⟩
 .exact .inl ⟨rfl,rfl⟩
 .right
  by_cases e:l=m
  .subst e
   exact ⟨l,dX _ hl,by simp [iI],by simp [iI]⟩
  .have:=nc l hl m hm e
   unfold gv at this
   rcases vq (a:=cN l x) (b:=cN m x) (by ext this) with k | k
   .exact ⟨m,er _ hm,by simp only [iI];congr 1;ext k,by simp only [iI];congr 1;ext this k⟩
   .exact ⟨l,dX _ hl,by simp only [iI];congr 1;ext k,by simp only [iI];congr 1;ext this k⟩
theorem Str.map{Ls:List (Int×Int)}{B B':List Int}{f h:Int->Option Int}(S:Str Ls B f)(φ:Int×Int->Int×Int)(t:Int)(hB:∀x,x∈B->x+t∈B')(Ni:∀l m x,gv (φ l) (φ m) x->gv l m (x-t))(MX:∀x,x∉B'->jk Ls f (x-t)->jk (Ls.map φ) h x):Str (Ls.map φ) B' h:=by
 refine ⟨λx hx=>MX x hx (S.sm _ λz=>hx (by have:=hB _ z;rwa [yi] at this)),λl hl m hm bz x hc=>?_⟩
 obtain ⟨l',M6,rfl⟩:=cO.mp hl
 obtain ⟨m',M3,rfl⟩:=cO.mp hm
 have:=hB _ (S.cl l' M6 m' M3 (λe=>bz (e▸rfl)) _ (Ni l' m' x hc))
 rwa [yi] at this
theorem Str.times{Ls:List (Int×Int)}{B:List Int}{f h:Int->Option Int}(S:Str Ls B f){n:Int}(hn:n = -1\/n=2)(hh:∀x,h x=(f x).map (·*n)):Str (Ls.map λl=>(l.1*n,l.2*n)) B h:=by
 have e:∀(l:Int×Int) x,cN (l.1*n,l.2*n) x=cN l x*n:=λl x=>by unfold cN;rw [Int.add_mul,Int.mul_right_comm]
 refine S.map _ 0 (λx hx=>by rwa [oi]) (λl m x hc=>?_) λx _ sm=>?_
 .rw [rb]
  unfold gv at *
  simp only [e] at hc
  rcases hn with rfl | rfl<;>omega
 .rw [rb] at sm
  unfold jk at *
  rw [hh,hh]
  rcases sm with ⟨a,b⟩ | ⟨l,hl,a,b⟩<;>rw [a,b]
  .exact .inl ⟨rfl,rfl⟩
  .exact .inr ⟨_,cO.mpr ⟨l,hl,rfl⟩,by rw [e];rfl,by rw [e];rfl⟩
theorem Str.plus{Ls:List (Int×Int)}{B:List Int}{f h:Int->Option Int}(S:Str Ls B f){k:Int×Int}{lo hi:Int}(hh:∀x,h x=if lo<=x/\x<=hi then (f x).map (·+cN k x) else none):Str (Ls.map λl=>(l.1+k.1,l.2+k.2)) (B++[lo-1,hi]) h:=by
 have e:∀(l:Int×Int) x,cN (l.1+k.1,l.2+k.2) x=cN l x+cN k x:=λl x=>by unfold cN;rw [Int.add_mul];ext
 refine S.map _ 0 (λx hx=>by rw [oi];exact dX _ hx) (λl m x hc=>?_) λx hx sm=>?_
 .rw [rb]
  unfold gv at *
  simp only [e] at hc
  ext hc
 .rw [rb] at sm
  simp only [bR,cU,lE,or_false,not_or] at hx
  unfold jk at *
  rw [hh,hh]
  by_cases c:lo<=x/\x<=hi
  .rw [if_pos c,if_pos (by omega)]
   rcases sm with ⟨a,b⟩ | ⟨l,hl,a,b⟩<;>rw [a,b]
   .exact .inl ⟨rfl,rfl⟩
   .exact .inr ⟨_,cO.mpr ⟨l,hl,rfl⟩,by rw [e];rfl,by rw [e];rfl⟩
  .rw [if_neg c,if_neg (by omega)]
   exact .inl ⟨rfl,rfl⟩
theorem Str.move{Ls:List (Int×Int)}{B:List Int}{f h:Int->Option Int}(S:Str Ls B f){t:Int}(hh:∀x,h x=f (x-t)):Str (Ls.map λl=>(l.1-l.2*t,l.2)) (B.map (·+t)) h:=by
 have e:∀(l:Int×Int) x,cN (l.1-l.2*t,l.2) x=cN l (x-t):=λl x=>by unfold cN;dsimp only;rw [Int.mul_sub];ext
 refine S.map _ t (λx hx=>cO.mpr ⟨x,hx,rfl⟩) (λl m x hc=>?_) λx _ sm=>?_
 .unfold gv at *
  simp only [e] at hc
  rwa [show x+1-t=x-t+1 by ext] at hc
 .unfold jk at *
  rw [hh,hh,show x+1-t=x-t+1 by ext]
  rcases sm with ⟨a,b⟩ | ⟨l,hl,a,b⟩<;>rw [a,b]
  .exact .inl ⟨rfl,rfl⟩
  .exact .inr ⟨_,cO.mpr ⟨l,hl,rfl⟩,by rw [e],by rw [e,show x+1-t=x-t+1 by ext]⟩
theorem Str.without{Ls:List (Int×Int)}{B:List Int}{f h:Int->Option Int}(S:Str Ls B f){lo hi:Int}(hh:∀x,h x=if lo<=x/\x<=hi then none else f x):Str Ls (B++[lo-1,hi]) h:=by
 refine ⟨λx hx=>?_,λl hl m hm bz x hc=>dX _ (S.cl l hl m hm bz x hc)⟩
 simp only [bR,cU,lE,or_false,not_or] at hx
 have sm:=S.sm x hx.1
 unfold jk at *
 rw [hh,hh]
 by_cases c:lo<=x/\x<=hi
 .rw [if_pos c]
  by_cases d:x+1<=hi
  .rw [if_pos (by omega)];exact .inl ⟨rfl,rfl⟩
  .omega
 .rw [if_neg c,if_neg (by omega)]
  exact sm
theorem S4{r:Row}(h:iX r):wM [r.d]=some (.sh (.bl true)):=by
 refine Wo.eq (fN.mpr ?_)
 unfold D9
 rw [c5 r]
 unfold iX at h
 walk_at "vc"
 rw [yX,yX,yX,yX]
 walk_at "vc"
 refine λh1=>⟨λh2=>?_,λh2=>?_⟩
 .simp [h.2 h2]
 .ext _ h h1 h2
theorem QR{rs:List Row}(h:Canon rs)(hb:∀r∈rs,af (10^150) r)(hl:rs.length<=100000):wy [.tup (rs.map Row.d)]=some (.sh (.bl true)):=by
 refine Wo.eq (hU.mpr ?_)
 unfold Eo
 walk_at "vc"
 rw [bM]
 refine ⟨by walk_at "sc",?_⟩
 refine Hu _ _ (λ_ env=>∃x1 x2 x3,env=[.sh (.tup (rs.map Row.d)),x1,x2,x3]) (λk env hk h2=>?_) (λenv h2=>?_) ⟨_,_,_,rfl⟩
 .obtain ⟨x1,x2,x3,rfl⟩:=h2
  have hk:k<rs.length:=by ext hk
  have hr:=h.1 rs[k] (lH hk)
  walk_at "v1"
  rw [Int.zero_add,a0N]
  walk_at "vc"
  rw [y3 hk,a0f,S4 hr]
  walk_at "vc"
  refine ⟨λhp=>?_,λhp=>⟨_,_,_,rfl⟩⟩
  cases k with
  | zero=>exact absurd hp (by simp)
  | succ k =>
   have e1:((k+1:Nat):Int)-1=(k:Int):=by ext
   have hf:=h.2.get k hk
   have b1:=hb rs[k] (lH (by ext hk))
   have b2:=hb rs[k+1] (lH hk)
   rw [e1,y3 (show k<rs.length by ext hk)]
   generalize rs[k]=a at *
   generalize rs[k+1]=r at *
   unfold j0 Row.at at hf
   unfold af at b1 b2
   rw [c5 a,c5 r]
   walk_at "vc"
   refine ⟨λz=>absurd z (by ext hf),λ_=>⟨qq (by ext b1) (by ext b1) (by ext b1 b2) (by ext b1 b2),λz=>⟨λz2=>absurd (hf.2 z).1 (by ext z2),λz2=>⟨λz3=>absurd z3 (hf.2 z).2,λ_=>⟨_,_,_,rfl⟩⟩⟩,λ_=>⟨_,_,_,rfl⟩⟩⟩
 .obtain ⟨x1,x2,x3,rfl⟩:=h2
  walk_at "vc"
theorem GO(ns:List Int)(k:Int)(hk:0<=k){r:Bool}:rY [.lst r (ns.map D.int),.int k]=some (.sh (.int (ns.getD k.toNat 0))):=by
 refine Wo.eq (jg.mpr ?_)
 unfold DP
 walk_at "vc"
 rw [bM]
 refine ⟨λh=>?_,λh=>?_⟩
 .rw [y2 0 hk h]
  walk_at "vc"
 .have:ns.length<=k.toNat:=by ext h
  simp [this]
theorem DC{rs:List Row}{x:Int}(hb:∀r∈rs,af (10^120) r)(hx:-(10^120)<=x/\x<=10^120){d:D}(hd:d=.tup (rs.map Row.d)\/∃r,d=.lst r (rs.map Row.d)):ny [d,.int x]=some (.sh (bN (look rs x))):=by
 refine Wo.eq (jf.mpr ?_)
 unfold DQ
 have main:Wo (forL (gN 2) (br (ku (bf (aa jM (au (bV 2) (eC (.int 0))) (eV 1))) (bf (aa jM (eV 1) (au (bV 2) (eC (.int 1)))))) (av (aa aO (au (bV 2) (eC (.int 2))) (aa e9 (au (bV 2) (eC (.int 3))) (aa bp (eV 1) (au (bV 2) (eC (.int 0))))))) bI)
   (rs.map Row.d) [.sh d,.sh (.int x),.no]) (jI (av (eC .aI)) (aK λs=>s=.sh (bN (look rs x)))):=by
  refine mx Row.d (λpre env=>∃x2 rest,env=[.sh d,.sh (.int x),x2]/\rs=pre++rest/\look rs x=look rest x) rs (λpre r post env e h=>?_) (λenv h=>?_) ⟨_,rs,rfl,rfl,rfl⟩
  .obtain ⟨x2,rest,rfl,e2,lW⟩:=h
   obtain rfl:rest=r::post:=FV (e2.symm.trans e)
   have hr:=hb r (by rw [e];simp)
   unfold af at hr
   have hm:MulC r.2.2.2 (x-r.1):=qq (by ext hr) (by ext hr) (by ext hx hr) (by ext hx hr)
   rw [look] at lW
   rw [c5 r]
   walk_at "vc"
   refine ⟨λh1=>⟨λh2=>⟨hm,?_⟩,λh2=>?_⟩,λh1=>?_⟩
   .rw [lW,if_pos ⟨h1,h2⟩];rfl
   .rw [if_neg (by ext h2)] at lW
    exact ⟨_,post,rfl,by rw [e];simp,lW⟩
   .rw [if_neg (by ext h1)] at lW
    exact ⟨_,post,rfl,by rw [e];simp,lW⟩
  .obtain ⟨x2,rest,rfl,e2,lW⟩:=h
   have:rest=[]:=by simpa using e2
   subst this
   walk_at "vc"
   rw [lW];rfl
 rcases hd with rfl | ⟨r,rfl⟩
 .rw [Wo_seq,a9Z,b3s]
  exact ⟨_,rfl,main⟩
 .rw [Wo_seq,a9Z,b3s]
  exact ⟨_,rfl,main⟩
noncomputable def ij(c:Int):Int:=c*48271%1000003
noncomputable def cQ(c:Int):Int:=ij c%21-12
noncomputable def a9(c:Int):Int:=if ij c/189%4=1 then cQ c+c/7%10^30 else cQ c+ij c/21%9
noncomputable def fB(c:Int):Int:=if cQ c=a9 c then 0 else if ij c/756%3=1 then c/11%2001-1000 else ij c/756%5-2
noncomputable def nK(c:Int):Row:=(cQ c,a9 c,ij c/1512%21-10,fB c)
noncomputable def qL(c:Int):Row:=(a9 c+2,a9 c+4,ij c/63504%9,1)
noncomputable def fk(c:Int):List Row:=if ij c/31752%2=1 then [nK c,qL c] else [nK c]
theorem o5(c:Int):(-12<=cQ c/\cQ c<=8)/\(cQ c<=a9 c/\a9 c<=10^30+20)/\(-1000<=fB c/\fB c<=1000)/\(cQ c=a9 c->fB c=0):=by
 have h0:-12<=cQ c/\cQ c<=8:=by unfold cQ;omega
 have h1:cQ c<=a9 c/\a9 c<=10^30+20:=by unfold a9;split<;>omega
 refine ⟨h0,h1,?_,λe=>by unfold fB;rw [if_pos e]⟩
 unfold fB
 split
 .ext
 .split<;>omega
theorem Dg(c:Int):Canon (fk c):=by
 obtain ⟨h0,h1,h2,h3⟩:=o5 c
 have o1:iX (nK c):=⟨h1.1,h3⟩
 have o2:iX (qL c):=⟨by show a9 c+2<=a9 c+4;ext,λe=>by have e':a9 c+2=a9 c+4:=e;ext e'⟩
 unfold fk
 split
 .refine ⟨λr hr=>?_,⟨by show a9 c<a9 c+2;ext,λe=>by have e':a9 c+2=a9 c+1:=e;ext e'⟩,trivial⟩
  simp only [cU,lE,or_false] at hr
  rcases hr with rfl | rfl
  .exact o1
  .exact o2
 .exact ⟨λr hr=>by rw [cH.mp hr];exact o1,trivial⟩
theorem Hf(c:Int)(hc:0<=c/\c<10^45):sr [.int c]=some (.sh (.tup ((fk c).map Row.d))):=by
 refine Wo.eq (hG.mpr ?_)
 unfold Ep
 walk_at "v1"
 have hm:0<=ij c/\ij c<1000003:=by unfold ij;omega
 have dm:∀k:Int,(k=21\/k=189\/k=756\/k=1512\/k=31752\/k=63504)->DivC (ij c) k:=λk hk=>kC (by omega) (by omega)
 refine ⟨qq (by ext hc) (by ext hc) (by ext) (by ext),kC (by ext) (by ext),?_⟩
 rw [show c*48271%1000003=ij c from rfl,show ij c%21-12=cQ c from rfl]
 refine v5 (λd=>d=.int (a9 c)) (by simp) ?_ λd hd=>?_
 .walk_at "vc"
  refine ⟨dm 189 (by ext),λk=>⟨kC (by ext) (by ext),by decide,?_⟩,λk=>?_⟩
  .unfold a9;rw [if_pos k];exact ⟨by decide,rfl⟩
  .unfold a9;rw [if_neg k];exact ⟨_,rfl,rfl⟩
 subst hd
 walk_at "v1"
 refine ⟨dm 756 (by ext),?_⟩
 refine v5 (λd=>d=.int (if ij c/756%3=1 then c/11%2001-1000 else ij c/756%5-2)) (by simp) ?_ λd hd=>?_
 .walk_at "vc"
  refine ⟨dm 756 (by ext),λk=>⟨kC (by ext) (by ext),?_⟩,λk=>?_⟩
  .rw [if_pos k]
  .rw [if_neg k];exact ⟨_,rfl,rfl⟩
 subst hd
 walk_at "v1"
 refine v5 (λd=>d=.int (fB c)) (by simp) ?_ λd hd=>?_
 .walk_at "vc"
  refine ⟨λk=>?_,λk=>?_⟩
  .unfold fB;rw [if_pos k]
  .unfold fB;rw [if_neg k];exact ⟨_,rfl,rfl⟩
 subst hd
 walk_at "v1"
 refine ⟨dm 1512 (by ext),?_⟩
 rw [a0N]
 walk_at "v1"
 refine ⟨dm 31752 (by ext),λk=>?_,λk=>?_⟩
 .unfold fk
  rw [if_pos k]
  walk_at "v1"
  exact ⟨dm 63504 (by ext),rfl⟩
 .unfold fk
  rw [if_neg k]
  walk_at "v1"
  rfl
noncomputable def fJ(c:Int):List Row:=[(-30,10^31,c/8%19-9,c/152%3-1)]
theorem CT(c:Int)(hc:0<=c/\c<10^45):qw [.int c]=some (.sh (.tup ((fJ c).map Row.d))):=by
 refine Wo.eq (je.mpr ?_)
 unfold DR
 walk_at "vc"
 exact ⟨by decide,kC (by ext) (by ext),kC (by omega) (by omega),rfl⟩
noncomputable def nP(r:Row):Int×Int:=(r.2.2.1-r.2.2.2*r.1,r.2.2.2)
theorem vW(r:Row)(x:Int):r.at x=cN (nP r) x:=by unfold cN nP Row.at;dsimp only;rw [Int.mul_sub];ext
theorem Qf(c:Int):Str [nP (nK c)] [cQ c-1,a9 c,a9 c+1,a9 c+2,a9 c+3,a9 c+4] (look (fk c)):=by
 obtain ⟨_,h1,_⟩:=o5 c
 refine ⟨λx hx=>?_,λl hl m hm bz=>absurd ((cH.mp hl).trans (cH.mp hm).symm) bz⟩
 simp only [cU,lE,or_false,not_or] at hx
 have lk:∀y,(y<=a9 c\/a9 c+4<y)->look (fk c) y=if cQ c<=y/\y<=a9 c then some ((nK c).at y) else none:=λy hy=>by
  have q:¬((qL c).1<=y/\y<=(qL c).2.1):=by show ¬(a9 c+2<=y/\y<=a9 c+4);ext hy
  unfold fk
  split
  .rw [look,look,if_neg q,look];rfl
  .rw [look,look];rfl
 unfold jk
 rw [lk x (by ext hx),lk (x+1) (by ext hx)]
 by_cases k:cQ c<=x/\x<=a9 c
 .rw [if_pos k,if_pos (by ext hx k)]
  exact .inr ⟨_,cH.mpr rfl,by rw [vW],by rw [vW]⟩
 .rw [if_neg k,if_neg (by ext hx k)]
  exact .inl ⟨rfl,rfl⟩
theorem RK(c:Int):Str [nP (-30,10^31,c/8%19-9,c/152%3-1)] [-31,10^31] (look (fJ c)):=by
 refine ⟨λx hx=>?_,λl hl m hm bz=>absurd ((cH.mp hl).trans (cH.mp hm).symm) bz⟩
 simp only [cU,lE,or_false,not_or] at hx
 have lk:∀y,look (fJ c) y=if -30<=y/\y<=10^31 then some (Row.at (-30,10^31,c/8%19-9,c/152%3-1) y) else none:=λy=>by
  unfold fJ
  rw [look,look]
 unfold jk
 rw [lk,lk]
 by_cases k:-30<=x/\x<=10^31
 .rw [if_pos k,if_pos (by ext hx k)]
  exact .inr ⟨_,cH.mpr rfl,by rw [vW],by rw [vW]⟩
 .rw [if_neg k,if_neg (by ext hx k)]
  exact .inl ⟨rfl,rfl⟩
structure Fm(k:Nat)(f:List Row):Prop where
 canon:Canon f
 str:∃Ls B,Str Ls B (look f)/\Ls.length<=1+k/\B.length<=2+81*k
 val:∀x c,look f x=some c->(-(10^31+5*(k:Int))<=x/\x<=10^31+5*k)/\(-(10^36*3^k)<=c/\c<=10^36*3^k)
theorem gF{k:Nat}(h:k<=24):(1:Int)<=3^k/\(3:Int)^k<=10^12:=by
 have:∀k,k<25->(1:Int)<=3^k/\(3:Int)^k<=10^12:=by decide +kernel
 exact this k (Nat.lt_succ_of_le h)
theorem Fm.len{k:Nat}{f:List Row}(F:Fm k f)(h:k<=24):f.length<=4000:=by
 obtain ⟨Ls,B,S,_,l⟩:=F.str
 have:=S.len F.canon
 omega
theorem Fm.bd{k:Nat}{f:List Row}(F:Fm k f)(h:k<=24):∀r∈f,af (10^50) r:=λr hr=>by
 have p:=gF h
 have:=y4 F.canon (B:=2*10^31) (C:=10^48) (by decide) (λx c e=>by
  have:=F.val x c e
  generalize (3:Int)^k=t at *
  omega) r hr
 unfold af
 ext this
theorem Fm.zero:Fm 0 [(0,0,0,0)]:=by
 have lk:∀y,look [(0,0,0,0)] y=if 0<=y/\y<=0 then some (Row.at (0,0,0,0) y) else none:=λy=>by rw [look,look]
 refine ⟨⟨λr hr=>by rw [cH.mp hr];exact ⟨by decide,λ_=>rfl⟩,trivial⟩,⟨[(0,0)],[-1,0],⟨λx hx=>?_,λl hl m hm bz=>absurd ((cH.mp hl).trans (cH.mp hm).symm) bz⟩,by simp,by simp⟩,λx c e=>?_⟩
 .simp only [cU,lE,or_false,not_or] at hx
  left
  rw [lk,lk,if_neg (by ext hx),if_neg (by ext hx)]
  exact ⟨rfl,rfl⟩
 .rw [lk] at e
  split at e
  .cases e
   unfold Row.at
   dsimp only
   omega
  .cases e
theorem vZ{c x v:Int}(h:look (fk c) x=some v):(-12<=x/\x<=10^30+30)/\(-(10^34)<=v/\v<=10^34):=by
 obtain ⟨h0,h1,h2,_⟩:=o5 c
 obtain ⟨r,hr,k1,k2,rfl⟩:=mn h
 have mO:r=nK c\/r=qL c:=by
  unfold fk at hr
  split at hr
  .simpa using hr
  .exact .inl (by simpa using hr)
 rcases mO with rfl | rfl
 .have qV:cQ c<=x:=k1
  have pB:x<=a9 c:=k2
  have:=vM (a:=fB c) (b:=x-cQ c) (A:=1000) (B:=2*10^30) (by ext h2) (by ext h2) (by ext qV) (by ext h0 h1 pB)
  refine ⟨by ext h0 h1 qV pB,?_⟩
  unfold Row.at nK
  dsimp only
  omega
 .have qV:a9 c+2<=x:=k1
  have pB:x<=a9 c+4:=k2
  refine ⟨by ext h0 h1 qV pB,?_⟩
  unfold Row.at qL
  dsimp only
  omega
theorem GN{Ls:List (Int×Int)}{l:Int×Int}{k:Nat}(h:Ls.length<=1+k):(og Ls [l]).length<=3*(1+k):=by
 rw [QO,rk,Nat.mul_one]
 ext h
theorem ql(k:Nat):(3:Int)^(k+1)=3^k*3:=rfl
theorem Fm.least{k:Nat}{f:List Row}(F:Fm k f)(h:k<24)(c:Int):∃g:List Row,sd [.tup (f.map Row.d),.tup ((fk c).map Row.d)]=some (.sh (.tup (g.map Row.d)))/\Fm (k+1) g/\∀x,look g x=dC (look f x) (look (fk c) x):=by
 have p:=gF (k:=k) (by ext h)
 have lT:(fk c).length<=2:=by unfold fk;split<;>simp
 have lF:=F.len (by ext h)
 have bT:∀r∈fk c,af (10^110) r:=λr hr=>by
  have:=y4 (Dg c) (B:=2*10^30) (C:=10^34) (by decide) (λx v e=>by have:=vZ e;ext this) r hr
  unfold af
  ext this
 obtain ⟨g,e,cg,lk,_⟩:=QS (V:=2*10^31) (C:=10^48) F.canon.cX (Dg c).cX (λr hr=>(F.bd (by ext h) r hr).mono (by decide)) bT (by decide) (by decide) (λx v e=>by
  have:=F.val x v e
  generalize (3:Int)^k=t at *
  omega) (λx v e=>by have:=vZ e;ext this) (by unfold iY;omega)
 refine ⟨g,e,⟨cg,?_,λx v e=>?_⟩,lk⟩
 .obtain ⟨Ls,B,S,l1,l2⟩:=F.str
  refine ⟨_,_,S.min (Qf c) lk,by rw [bP,rk];ext l1,?_⟩
  have:=GN (l:=nP (nK c)) l1
  simp only [bP,fS,q9]
  ext h l2 this
 .rw [lk] at e
  rw [ql]
  cases hf:look f x with
  | none =>
   rw [hf] at e
   have:=vZ (c:=c) (x:=x) (v:=v) e
   generalize (3:Int)^k=t at *
   omega
  | some a =>
   have i1:=F.val x a hf
   rw [hf] at e
   cases ht:look (fk c) x with
   | none =>
    rw [ht] at e
    cases e
    generalize (3:Int)^k=t at *
    omega
   | some b =>
    have i2:=vZ ht
    rw [ht] at e
    cases e
    generalize (3:Int)^k=t at *
    omega
theorem Hz{c x v:Int}(h:look (fJ c) x=some v):(-30<=x/\x<=10^31)/\(-(2*10^31)<=v/\v<=2*10^31):=by
 obtain ⟨r,hr,k1,k2,rfl⟩:=mn h
 rw [cH.mp hr] at k1 k2 ⊢
 have qV:-30<=x:=k1
 have pB:x<=10^31:=k2
 have:=vM (a:=c/152%3-1) (b:=x - -30) (A:=1) (B:=10^31+30) (by omega) (by omega) (by ext k1) (by ext pB)
 refine ⟨⟨qV,pB⟩,?_⟩
 unfold Row.at
 dsimp only
 omega
theorem Ir(c:Int):Canon (fJ c):=⟨λr hr=>by rw [cH.mp hr];exact ⟨by show (-30:Int)<=10^31;decide,λe=>by have e':(-30:Int)=10^31:=e;ext e'⟩,trivial⟩
theorem CV(c:Int):∀r∈fJ c,af (10^50) r:=λr hr=>by
 rw [cH.mp hr]
 unfold af
 dsimp only
 omega
theorem SJ(c x:Int):look (fJ c) x=if -30<=x/\x<=10^31 then some (cN (nP (-30,10^31,c/8%19-9,c/152%3-1)) x) else none:=by
 unfold fJ
 rw [look,look,vW]
theorem Fm.plus{k:Nat}{f:List Row}(F:Fm k f)(h:k<24)(c:Int):∃g:List Row,rT [.tup (f.map Row.d),.tup ((fJ c).map Row.d)]=some (.sh (.tup (g.map Row.d)))/\Fm (k+1) g/\∀x,look g x=m6 (look f x) (look (fJ c) x):=by
 have p:=gF (k:=k) (by ext h)
 obtain ⟨g,e,L,lk,_⟩:=PY F.canon.cX (Ir c).cX (λr hr=>(F.bd (by ext h) r hr).mono (by decide)) (λr hr=>.inl ((CV c r hr).mono (by decide))) (by have:=F.len (by ext h);omega) (by show 1<=_;decide)
 refine ⟨g,e,⟨L.canon,?_,λx v e=>?_⟩,lk⟩
 .obtain ⟨Ls,B,S,l1,l2⟩:=F.str
  refine ⟨_,_,S.plus (h:=look g) (k:=nP (-30,10^31,c/8%19-9,c/152%3-1)) (lo:=-30) (hi:=10^31) (λx=>?_),by rw [bM];ext l1,by simp only [bP,fS,q9];ext l2⟩
  rw [lk,SJ]
  split
  .cases look f x<;>rfl
  .cases look f x<;>rfl
 .rw [lk] at e
  rw [ql]
  cases hf:look f x with
  | none=>rw [hf] at e;cases e
  | some a =>
   have i1:=F.val x a hf
   cases ht:look (fJ c) x with
   | none=>rw [hf,ht] at e;cases e
   | some b =>
    have i2:=Hz ht
    rw [hf,ht] at e
    cases e
    generalize (3:Int)^k=t at *
    omega
theorem Fm.great{k:Nat}{f:List Row}(F:Fm k f)(h:k<24)(c:Int):∃g:List Row,rX [.tup (f.map Row.d),.tup ((fJ c).map Row.d)]=some (.sh (.tup (g.map Row.d)))/\Fm (k+1) g/\∀x,look g x=gG (look f x) (look (fJ c) x):=by
 have p:=gF (k:=k) (by ext h)
 obtain ⟨g,e,cg,lk,_⟩:=S' F.canon (Ir c) (λr hr=>(F.bd (by ext h) r hr).mono (by decide)) (λr hr=>(CV c r hr).mono (by decide)) (by have:=F.len (by ext h);show _+1<=_;omega)
 refine ⟨g,e,⟨cg,?_,λx v e=>?_⟩,lk⟩
 .obtain ⟨Ls,B,S,l1,l2⟩:=F.str
  refine ⟨_,_,S.max (RK c) (h:=look g) (λx=>?_),by rw [bP,rk];ext l1,?_⟩
  .rw [lk]
   cases look f x<;>cases look (fJ c) x<;>rfl
  .have:=GN (l:=nP (-30,10^31,c/8%19-9,c/152%3-1)) l1
   simp only [bP,fS,q9]
   ext h l2 this
 .rw [lk] at e
  rw [ql]
  cases hf:look f x with
  | none=>rw [hf] at e;cases e
  | some a =>
   have i1:=F.val x a hf
   cases ht:look (fJ c) x with
   | none=>rw [hf,ht] at e;cases e
   | some b =>
    have i2:=Hz ht
    rw [hf,ht] at e
    cases e
    generalize (3:Int)^k=t at *
    omega
theorem Fm.times{k:Nat}{f:List Row}(F:Fm k f)(h:k<24){n:Int}(hn:n = -1\/n=2):∃g:List Row,mw [.tup (f.map Row.d),.int n]=some (.sh (.tup (g.map Row.d)))/\Fm (k+1) g/\∀x,look g x=(look f x).map (·*n):=by
 have p:=gF (k:=k) (by ext h)
 obtain ⟨g,e,L,lk,_⟩:=QV F.canon.cX (λr hr=>(F.bd (by ext h) r hr).mono (by decide)) (by have:=F.len (by ext h);omega) (n:=n) (by ext hn) (by ext hn)
 refine ⟨g,e,⟨L.canon,?_,λx v e=>?_⟩,lk⟩
 .obtain ⟨Ls,B,S,l1,l2⟩:=F.str
  exact ⟨_,_,S.times hn lk,by rw [bM];ext l1,by ext l2⟩
 .rw [lk] at e
  rw [ql]
  cases hf:look f x with
  | none=>rw [hf] at e;cases e
  | some a =>
   have i1:=F.val x a hf
   rw [hf] at e
   cases e
   generalize (3:Int)^k=t at *
   dsimp only
   rcases hn with rfl | rfl<;>omega
theorem Fm.without{k:Nat}{f:List Row}(F:Fm k f)(h:k<24){lo hi:Int}(h1:-100<=lo/\lo<=100)(h2:-100<=hi/\hi<=100):∃g:List Row,rW [.tup (f.map Row.d),.int lo,.int hi]=some (.sh (.tup (g.map Row.d)))/\Fm (k+1) g/\∀x,look g x=if lo<=x/\x<=hi then none else look f x:=by
 have p:=gF (k:=k) (by ext h)
 obtain ⟨g,e,cg,_,lk,_⟩:=S5 F.canon (λr hr=>(F.bd (by ext h) r hr).mono (by decide)) (by have:=F.len (by ext h);omega) (lo:=lo) (hi:=hi) (by ext h1) (by ext h2)
 refine ⟨g,e,⟨cg,?_,λx v e=>?_⟩,lk⟩
 .obtain ⟨Ls,B,S,l1,l2⟩:=F.str
  exact ⟨_,_,S.without lk,by ext l1,by simp only [bP,fS,q9];ext l2⟩
 .rw [lk] at e
  rw [ql]
  split at e
  .cases e
  .have i1:=F.val x v e
   generalize (3:Int)^k=t at *
   omega
theorem Fm.raise{k:Nat}{f:List Row}(F:Fm k f)(h:k<24){n:Int}(hn:-10<=n/\n<=10):∃g:List Row,r6 [.tup (f.map Row.d),.int n]=some (.sh (.tup (g.map Row.d)))/\Fm (k+1) g/\∀x,look g x=(look f x).map (·+n):=by
 have p:=gF (k:=k) (by ext h)
 have lk:=T9 (n:=n) F.canon.cX
 refine ⟨_,RA (by have:=F.len (by ext h);omega) n,⟨T7 F.canon,?_,λx v e=>?_⟩,lk⟩
 .obtain ⟨Ls,B,S,l1,l2⟩:=F.str
  have S1:Str (Ls.map λl=>(l.1+n,l.2+0)) B (look (f.map (nq n))):=by
   have e:∀(l:Int×Int) x,cN (l.1+n,l.2+0) x=cN l x+n:=λl x=>by unfold cN;dsimp only;rw [oi];ext
   refine S.map _ 0 (λx hx=>by rwa [oi]) (λl m x hc=>?_) λx _ sm=>?_
   .rw [rb]
    unfold gv at *
    simp only [e] at hc
    ext hc
   .rw [rb] at sm
    unfold jk at *
    rw [lk,lk]
    rcases sm with ⟨a,b⟩ | ⟨l,hl,a,b⟩<;>rw [a,b]
    .exact .inl ⟨rfl,rfl⟩
    .exact .inr ⟨_,cO.mpr ⟨l,hl,rfl⟩,by rw [e];rfl,by rw [e];rfl⟩
  exact ⟨_,_,S1,by rw [bM];ext l1,by ext l2⟩
 .rw [lk] at e
  rw [ql]
  cases hf:look f x with
  | none=>rw [hf] at e;cases e
  | some a =>
   have i1:=F.val x a hf
   rw [hf] at e
   cases e
   dsimp only
   generalize (3:Int)^k=t at *
   omega
theorem Fm.move{k:Nat}{f:List Row}(F:Fm k f)(h:k<24){n:Int}(hn:-5<=n/\n<=5):∃g:List Row,se [.tup (f.map Row.d),.int n]=some (.sh (.tup (g.map Row.d)))/\Fm (k+1) g/\∀x,look g x=look f (x-n):=by
 have p:=gF (k:=k) (by ext h)
 have lk:∀x,look (f.map (gC n)) x=look f (x-n):=λx=>by
  have:=Iv (n:=n) (x:=x-n) (rs:=f)
  rwa [yi] at this
 refine ⟨_,QT (by have:=F.len (by ext h);omega) n,⟨Ub F.canon,?_,λx v e=>?_⟩,lk⟩
 .obtain ⟨Ls,B,S,l1,l2⟩:=F.str
  exact ⟨_,_,S.move lk,by rw [bM];ext l1,by rw [bM];ext l2⟩
 .rw [lk] at e
  rw [ql]
  have i1:=F.val _ v e
  generalize (3:Int)^k=t at *
  omega
noncomputable def dd(c:Int)(h:Int->Option Int)(x:Int):Option Int:=
 if c%8<2 then dC (h x) (look (fk (c/8)) x) else if c%8=2 then m6 (h x) (look (fJ c) x) else if c%8=3 then gG (h x) (look (fJ c) x)
 else if c%8=4 then (h x).map (·*(if c/8%2=0 then -1 else 2)) else if c%8=5 then (h x).map (·+(c/8%21-10)) else if c%8=6 then h (x-(c/8%11-5))
 else if c/8%9-4<=x/\x<=c/8%9-4+1+c/72%3 then none else h x
theorem PU{k:Nat}{f:List Row}(F:Fm k f)(h:k<24){c:Int}(hc:0<=c/\c<10^45):∃g:List Row,wx [.int c,.tup (f.map Row.d)]=some (.sh (.tup (g.map Row.d)))/\Fm (k+1) g/\∀x,look g x=dd c (look f) x:=by
 have d8:DivC c 8:=kC (by ext) (by ext)
 by_cases h2:c%8<2
 .obtain ⟨g,e,G,lk⟩:=F.least h (c/8)
  refine ⟨g,Wo.eq (bq.mpr ?_),G,λx=>by rw [lk];unfold dd;rw [if_pos h2]⟩
  unfold nz
  walk_at "v1"
  rw [a0N]
  walk_at "v1"
  refine ⟨λ_=>⟨d8,?_⟩,λz=>absurd h2 z⟩
  rw [Hf (c/8) (by omega)]
  walk_at "v1"
  rw [e]
  walk_at "vc"
 by_cases h3:c%8=2
 .obtain ⟨g,e,G,lk⟩:=F.plus h c
  refine ⟨g,Wo.eq (bq.mpr ?_),G,λx=>by rw [lk];unfold dd;rw [if_neg h2,if_pos h3]⟩
  unfold nz
  walk_at "v1"
  refine dA (by walk_at "vc";ext h2) ?_
  walk_at "v1"
  rw [a0N]
  walk_at "v1"
  refine ⟨λ_=>?_,λz=>absurd h3 z⟩
  rw [CT c hc]
  walk_at "v1"
  rw [e]
  walk_at "vc"
 by_cases h4:c%8=3
 .obtain ⟨g,e,G,lk⟩:=F.great h c
  refine ⟨g,Wo.eq (bq.mpr ?_),G,λx=>by rw [lk];unfold dd;rw [if_neg h2,if_neg h3,if_pos h4]⟩
  unfold nz
  walk_at "v1"
  refine dA (by walk_at "vc";ext h2) ?_
  walk_at "v1"
  refine dA (by walk_at "vc";ext h3) ?_
  walk_at "v1"
  rw [a0N]
  walk_at "v1"
  refine ⟨λ_=>?_,λz=>absurd h4 z⟩
  rw [CT c hc]
  walk_at "v1"
  rw [e]
  walk_at "vc"
 by_cases h5:c%8=4
 .obtain ⟨g,e,G,lk⟩:=F.times h (n:=if c/8%2=0 then -1 else 2) (by split<;>simp)
  refine ⟨g,Wo.eq (bq.mpr ?_),G,λx=>by rw [lk];unfold dd;rw [if_neg h2,if_neg h3,if_neg h4,if_pos h5]⟩
  unfold nz
  walk_at "v1"
  refine dA (by walk_at "vc";ext h2) ?_
  walk_at "v1"
  refine dA (by walk_at "vc";ext h3) ?_
  walk_at "v1"
  refine dA (by walk_at "vc";ext h4) ?_
  walk_at "v1"
  rw [a0N]
  walk_at "v1"
  refine ⟨λ_=>?_,λz=>absurd h5 z⟩
  refine ⟨d8,?_⟩
  rcases (by omega:c/8%2=0\/c/8%2=1) with q | q
  .rw [q] at e ⊢
   rw [if_pos rfl] at e
   rw [show cW [D.int (-1),D.int 2] (0:Int)=some (.int (-1)) from rfl,a0f,e]
   walk_at "vc"
  .rw [q] at e ⊢
   rw [if_neg (by decide)] at e
   rw [show cW [D.int (-1),D.int 2] (1:Int)=some (.int 2) from rfl,a0f,e]
   walk_at "vc"
 by_cases h6:c%8=5
 .obtain ⟨g,e,G,lk⟩:=F.raise h (n:=c/8%21-10) (by omega)
  refine ⟨g,Wo.eq (bq.mpr ?_),G,λx=>by rw [lk];unfold dd;rw [if_neg h2,if_neg h3,if_neg h4,if_neg h5,if_pos h6]⟩
  unfold nz
  walk_at "v1"
  refine dA (by walk_at "vc";ext h2) ?_
  walk_at "v1"
  refine dA (by walk_at "vc";ext h3) ?_
  walk_at "v1"
  refine dA (by walk_at "vc";ext h4) ?_
  walk_at "v1"
  refine dA (by walk_at "vc";ext h5) ?_
  walk_at "v1"
  rw [a0N]
  walk_at "v1"
  refine ⟨λ_=>?_,λz=>absurd h6 z⟩
  refine ⟨d8,?_⟩
  rw [e]
  walk_at "vc"
 by_cases h7:c%8=6
 .obtain ⟨g,e,G,lk⟩:=F.move h (n:=c/8%11-5) (by omega)
  refine ⟨g,Wo.eq (bq.mpr ?_),G,λx=>by rw [lk];unfold dd;rw [if_neg h2,if_neg h3,if_neg h4,if_neg h5,if_neg h6,if_pos h7]⟩
  unfold nz
  walk_at "v1"
  refine dA (by walk_at "vc";ext h2) ?_
  walk_at "v1"
  refine dA (by walk_at "vc";ext h3) ?_
  walk_at "v1"
  refine dA (by walk_at "vc";ext h4) ?_
  walk_at "v1"
  refine dA (by walk_at "vc";ext h5) ?_
  walk_at "v1"
  refine dA (by walk_at "vc";ext h6) ?_
  walk_at "v1"
  rw [a0N]
  walk_at "v1"
  refine ⟨λ_=>?_,λz=>absurd h7 z⟩
  refine ⟨d8,?_⟩
  rw [e]
  walk_at "vc"
 obtain ⟨g,e,G,lk⟩:=F.without h (lo:=c/8%9-4) (hi:=c/8%9-4+1+c/72%3) (by omega) (by omega)
 refine ⟨g,Wo.eq (bq.mpr ?_),G,λx=>by rw [lk];unfold dd;rw [if_neg h2,if_neg h3,if_neg h4,if_neg h5,if_neg h6,if_neg h7]⟩
 unfold nz
 walk_at "v1"
 refine dA (by walk_at "vc";ext h2) ?_
 walk_at "v1"
 refine dA (by walk_at "vc";ext h3) ?_
 walk_at "v1"
 refine dA (by walk_at "vc";ext h4) ?_
 walk_at "v1"
 refine dA (by walk_at "vc";ext h5) ?_
 walk_at "v1"
 refine dA (by walk_at "vc";ext h6) ?_
 walk_at "v1"
 refine dA (by walk_at "vc";ext h7) ?_
 walk_at "v1"
 refine ⟨d8,kC (by ext) (by ext),?_⟩
 rw [e]
 walk_at "vc"
theorem vd{c:Int}(h:c%8≠6)(f:Int->Option Int)(x:Int):dd c f x=dd c (λ_=>f x) x:=by
 unfold dd
 simp only [h,if_false]
theorem RJ{c x:Int}(hx:-(10^40)<=x/\x<=10^40):ny [.tup ((fk c).map Row.d),.int x]=some (.sh (bN (look (fk c) x))):=
 DC (λr hr=>by
  have:=y4 (Dg c) (B:=2*10^30) (C:=10^34) (by decide) (λx v e=>by have:=vZ e;ext this) r hr
  unfold af
  ext this) (by ext hx) (.inl rfl)
theorem Qs{c x:Int}(hx:-(10^40)<=x/\x<=10^40):ny [.tup ((fJ c).map Row.d),.int x]=some (.sh (bN (look (fJ c) x))):=
 DC (λr hr=>(CV c r hr).mono (by decide)) (by ext hx) (.inl rfl)
theorem uW{c x:Int}(hc:0<=c/\c<10^45)(hx:-(10^40)<=x/\x<=10^40)(h6:c%8≠6)(o:Option Int):wI [.int c,.int x,bN o]=some (.sh (bN (dd c (λ_=>o) x))):=by
 have d8:DivC c 8:=kC (by ext) (by ext)
 refine Wo.eq (j8.mpr ?_)
 unfold Dy
 walk_at "v1"
 by_cases h2:c%8<2
 .rw [a0N]
  walk_at "v1"
  refine ⟨λ_=>⟨d8,?_⟩,λz=>absurd h2 z⟩
  rw [Hf (c/8) (by omega)]
  walk_at "v1"
  rw [RJ hx]
  walk_at "v1"
  unfold dd
  rw [if_pos h2]
  cases o with
  | none =>
   rw [show bN none=.aI from rfl,a0N]
   walk_at "v1"
   exact ⟨_,rfl,by cases look (fk (c/8)) x<;>rfl⟩
  | some a =>
   rw [show bN (some a)=.int a from rfl]
   cases look (fk (c/8)) x with
   | none =>
    rw [show bN none=.aI from rfl,a0N]
    walk_at "v1"
    exact ⟨_,rfl,rfl⟩
   | some b =>
    rw [show bN (some b)=.int b from rfl]
    refine dA ?_ ?_
    .walk_at "vc"
    walk_at "v1"
    rfl
 refine dA (by walk_at "vc";ext h2) ?_
 walk_at "v1"
 by_cases h7:c%8=7
 .rw [a0N]
  walk_at "v1"
  refine ⟨λ_=>⟨d8,?_⟩,λz=>absurd h7 z⟩
  unfold dd
  rw [if_neg h2,if_neg (by ext h7),if_neg (by ext h7),if_neg (by ext h7),if_neg (by ext h7),if_neg h6]
  rw [a0N]
  walk_at "v1"
  have Of:DivC c 72:=kC (by ext) (by ext)
  refine ⟨λk=>⟨Of,λk2=>?_,λk2=>?_⟩,λk=>?_⟩
  .rw [if_pos ⟨k,k2⟩];rfl
  .rw [if_neg (λz=>k2 z.2)]
  .rw [if_neg (λz=>k z.1)]
 refine dA (by walk_at "vc";ext h7) ?_
 walk_at "v1"
 cases o with
 | none =>
  rw [show bN none=.aI from rfl,a0N]
  walk_at "v1"
  have:dd c (λ_=>none) x=none:=by
   unfold dd
   rw [if_neg h2]
   split
   .rfl
   .split
    .rfl
    .split
     .rfl
     .split
      .rfl
      .split<;>rfl
  rw [this]
  rfl
 | some a =>
  rw [show bN (some a)=.int a from rfl]
  refine dA (by walk_at "vc") ?_
  walk_at "v1"
  by_cases h4:c%8=4
  .rw [a0N]
   walk_at "v1"
   refine ⟨λ_=>⟨d8,?_⟩,λz=>absurd h4 z⟩
   unfold dd
   rw [if_neg h2,if_neg (by ext h4),if_neg (by ext h4),if_pos h4]
   rcases (by omega:c/8%2=0\/c/8%2=1) with q | q
   .rw [q,show cW [D.int (-1),D.int 2] (0:Int)=some (.int (-1)) from rfl,a0f,if_pos rfl]
    walk_at "vc"
    exact ⟨.inr (.inl (by decide)),rfl⟩
   .rw [q,show cW [D.int (-1),D.int 2] (1:Int)=some (.int 2) from rfl,a0f,if_neg (by decide)]
    walk_at "vc"
    exact ⟨.inr (.inl (by decide)),rfl⟩
  refine dA (by walk_at "vc";ext h4) ?_
  walk_at "v1"
  by_cases h5:c%8=5
  .rw [a0N]
   walk_at "v1"
   refine ⟨λ_=>⟨d8,?_⟩,λz=>absurd h5 z⟩
   unfold dd
   rw [if_neg h2,if_neg (by ext h5),if_neg (by ext h5),if_neg h4,if_pos h5]
   show Sl.sh (D.int _)=Sl.sh (D.int (a+(c/8%21-10)))
   rw [Int.add_sub_assoc]
  refine dA (by walk_at "vc";ext h5) ?_
  walk_at "v1"
  rw [CT c hc]
  walk_at "v1"
  rw [Qs hx]
  walk_at "v1"
  cases hl:look (fJ c) x with
  | none =>
   rw [show bN none=.aI from rfl,a0N]
   walk_at "v1"
   unfold dd
   rw [if_neg h2,hl]
   split
   .rfl
   .rw [if_pos (by omega)];rfl
  | some b =>
   rw [show bN (some b)=.int b from rfl]
   refine dA (by walk_at "vc") ?_
   walk_at "v1"
   rw [a0N]
   walk_at "v1"
   unfold dd
   rw [if_neg h2,hl]
   refine ⟨λk=>?_,λk=>?_⟩
   .rw [if_pos k];rfl
   .rw [if_neg k,if_pos (by omega)];rfl
noncomputable def eh(c:Int):Int:=if c%8=6 then c/8%11-5 else 0
noncomputable def Lk(cs:List Int):Int->Option Int:=cs.foldl (λh c=>dd c h) (look [(0,0,0,0)])
theorem Hj(cs:List Int)(c:Int):Lk (cs++[c])=dd c (Lk cs):=by unfold Lk;rw [List.foldl_append];rfl
theorem sS(c:Int):-5<=eh c/\eh c<=5:=by unfold eh;split<;>omega
theorem C2:∀cs:List Int,-(5*(cs.length:Int))<=(cs.map eh).sum/\(cs.map eh).sum<=5*cs.length
 | []=>by decide
 | c::cs=>by
  have:=C2 cs
  have:=sS c
  rw [jV,List.sum_cons,fS]
  omega
theorem uX{cs:List Int}(hb:∀c∈cs,0<=c/\c<10^45)(hl:cs.length<=24){x:Int}(hx:-(10^39)<=x/\x<=10^39){r:Bool}:wH [.lst r (cs.map D.int),.int x]=some (.sh (bN (Lk cs x))):=by
 refine Wo.eq (j9.mpr ?_)
 unfold Dx
 walk_at "v1"
 refine mx D.int (λpre env=>∃x3,env=[.sh (.lst r (cs.map D.int)),.sh (.int x),.sh (.int (x-(pre.map eh).sum)),x3,.no]) cs (λpre c post env e h=>?_) (λenv h=>?_) ⟨_,by simp;rfl⟩
 .obtain ⟨x3,rfl⟩:=h
  have hc:=hb c (by rw [e];simp)
  have d8:DivC c 8:=kC (by ext) (by ext)
  walk_at "v1"
  refine v5 (λd=>d=.int (x-((pre++[c]).map eh).sum)) (by simp) ?_ λd hd=>?_
  .rw [fg,vz,Gh,Gg]
   walk_at "vc"
   refine ⟨λk=>⟨d8,?_⟩,λk=>⟨_,rfl,?_⟩⟩
   .unfold eh;rw [if_pos k];congr 1;ext
   .congr 1;rw [show eh c=0 by unfold eh;rw [if_neg k]];ext
  .subst hd
   exact ⟨_,rfl⟩
 .obtain ⟨x3,rfl⟩:=h
  walk_at "v1"
  have sb:=C2 cs
  have l0:∀y,look [(0,0,0,0)] y=if y=0 then some 0 else none:=λy=>by
   rw [look,look]
   by_cases k:y=0
   .subst k;rfl
   .rw [if_neg k,if_neg (by dsimp only;ext k)]
  refine v5 (λd=>d=bN (look [(0,0,0,0)] (x-(cs.map eh).sum))) (by simp) ?_ λd hd=>?_
  .rw [l0]
   walk_at "vc"
   exact ⟨λk=>by rw [if_pos k];rfl,λk=>⟨_,rfl,by rw [if_neg k];rfl⟩⟩
  subst hd
  walk_at "v1"
  refine mx D.int (λpre env=>∃x3,env=[.sh (.lst r (cs.map D.int)),.sh (.int x),.sh (.int (x-(cs.map eh).sum+(pre.map eh).sum)),x3,.sh (bN (Lk pre (x-(cs.map eh).sum+(pre.map eh).sum)))]) cs (λpre c post env e h=>?_) (λenv h=>?_) ⟨_,by simp [Lk];rfl⟩
  .obtain ⟨x3,rfl⟩:=h
   have hc:=hb c (by rw [e];simp)
   have d8:DivC c 8:=kC (by ext) (by ext)
   have pb:=C2 pre
   have pl:pre.length<=24:=by have:=congrArg ra e;rw [bP] at this;ext hl this
   rw [Hj,fg,vz,Gh,Gg]
   rw [<-Int.add_assoc]
   have hy:-(10^40)<=x-(cs.map eh).sum+(pre.map eh).sum/\x-(cs.map eh).sum+(pre.map eh).sum<=10^40:=by ext hl hx sb pb pl
   generalize x-(cs.map eh).sum+(pre.map eh).sum=y at *
   walk_at "v1"
   rw [a0N]
   walk_at "v1"
   refine ⟨λk=>⟨d8,?_⟩,λk=>?_⟩
   .have e1:y+eh c=y+c/8%11-5:=by unfold eh;rw [if_pos k];ext
    have e2:dd c (Lk pre) (y+eh c)=Lk pre y:=by
     unfold dd
     rw [if_neg (by ext k),if_neg (by ext k),if_neg (by ext k),if_neg (by ext k),if_neg (by ext k),if_pos k]
     congr 1
     ext e1
    rw [e2,e1]
    exact ⟨_,rfl⟩
   .have e1:eh c=0:=by unfold eh;rw [if_neg k]
    rw [e1,oi,vd k (Lk pre) y,uW hc hy k,a0f]
    exact ⟨_,rfl⟩
  .obtain ⟨x3,rfl⟩:=h
   walk_at "vc"
   rw [yi]
noncomputable def ju(F:List Row):D:=.tup (F.map Row.d)
noncomputable def n5(F:List Row):D:=.lst false (F.map Row.d)
theorem fin(ns:List Int)(qX:ns.length<=63):yO [.lst true (ns.map D.int)]=some (.sh (.bl true)):=by
 refine Wo.eq (wQ.mpr ?_)
 unfold Ci
 walk_at "v1"
 obtain ⟨cs,ec,Fj,Fo⟩:=S0 ns qX 3 24 (by decide) (by decide) (by decide) (by decide) (r:=true)
 rw [ec]
 walk_at "v1"
 generalize Nh:D.lst true (ns.map D.int)=dn
 refine mx D.int (λpre env=>∃x4,∃(Gs:List (List Row)) (f:List Row),env=[.sh dn,.sh (.lst false (cs.map D.int)),.ow ((Gs++[f]).map ju),.ow ((Gs++[f]).map n5),x4,.no,.no,.no]/\Gs.length=pre.length/\Fm pre.length f/\(∀x,look f x=Lk pre x)/\∀F∈Gs++[f],F.length<=4000) cs (λpre c post env e h=>?_) (λenv h=>?_) ⟨_,[],[(0,0,0,0)],rfl,rfl,Fm.zero,λ_=>rfl,λF hF=>by rw [cH.mp hF];decide⟩
 .obtain ⟨x4,Gs,f,rfl,hg,F,lk,ll⟩:=h
  have hc:=Fo c (by rw [e];simp)
  have pl:pre.length<24:=by have:=congrArg ra e;rw [bP,fS] at this;ext Fj this
  obtain ⟨g,eg,G,lg⟩:=PU F pl hc
  have lG:=G.len (by ext pl)
  have la:∀(L:List D) (d:D),cW (L++[d]) (-1)=some d:=λL d=>cZ
  have xB:((Gs++[f]).map ju).length<16777216:=by simp;ext hg pl
  have AZ:((Gs++[f]).map n5).length<16777216:=by simp;ext hg pl
  walk_at "v1"
  rw [show (Gs++[f]).map ju=Gs.map ju++[ju f] by simp,la,a0f,show ju f=.tup (f.map Row.d) from rfl,eg,a0f]
  refine ⟨by simpa using xB,?_⟩
  refine dA ?_ ?_
  .walk_at "v1"
   rw [la,a0f]
   rw [QR G.canon (λr hr=>(G.bd (by ext pl) r hr).mono (by decide)) (by lia)]
   walk_at "vc"
  walk_at "v1"
  rw [la,a0f]
  walk_at "v1"
  have hL:Lk pre=look f:=funext λx=>(lk x).symm
  refine ⟨AZ,_,Gs++[f],g,by simp [ju,n5];rfl,by simp [hg],by rw [bP];exact G,λx=>by rw [lg,Hj,hL],λF' hF=>?_⟩
  rcases bR.mp hF with hF | hF
  .exact ll F' hF
  .rw [cH.mp hF];exact lG
 .obtain ⟨x4,Gs,f,rfl,hg,F,lk,ll⟩:=h
  walk_at "v1"
  have hlen:cs.length<=24:=by ext Fj
  have FL:=F.len hlen
  have FB:=F.bd hlen
  have la:∀(L:List D) (d:D),cW (L++[d]) (-1)=some d:=λL d=>cZ
  unfold cS
  rw [qo (λ(k:Nat)=>D.int (0+(k:Int))) (λk=>.int (0+(k:Int)-10)) (λe=>∃j,e=[j]) (jv 22) (λk _ e he=>by
   obtain ⟨j,rfl⟩:=he
   walk_at "vc"
   exact ⟨_,rfl⟩) ⟨_,rfl⟩]
  refine ⟨by simp,?_⟩
  rw [a0f,<-Nh,GO _ _ (by decide),a0f]
  refine ⟨by decide,?_⟩
  walk_at "v1"
  rw [GO _ _ (by decide)]
  walk_at "v1"
  refine ⟨by decide,by simp,?_⟩
  obtain ⟨sp,NG,lU⟩:∃sp:List Int,(mX (λ(k:Nat)=>D.int (0+(k:Int)-10)) (jv 22)++[D.int (ns.getD 1 0%10^30),D.int (ns.getD 2 0%1000-500)])=sp.map D.int/\∀x∈sp,-(10^39)<=x/\x<=10^39:=by
   refine ⟨(jv 22).map (λ(k:Nat)=>0+(k:Int)-10)++[ns.getD 1 0%10^30,ns.getD 2 0%1000-500],by rw [fg,iT];rfl,λx hx=>?_⟩
   rcases bR.mp hx with hx | hx
   .obtain ⟨k,hk,rfl⟩:=cO.mp hx
    have:=yn.mp hk
    ext this
   .generalize ns.getD 1 0=a at hx
    generalize ns.getD 2 0=b at hx
    simp only [cU,lE,or_false] at hx
    lia
  rw [NG]
  have Cz:∀o:Option Int,dr (bN o) (bN o)=some (.sh (.bl false)):=λo=>by cases o<;>simp [bN,dr,aQ]
  generalize D.lst true (ns.map D.int)=NK
  refine mx D.int (λpre env=>∃x6 x7,env=[.sh NK,.sh (.lst false (cs.map D.int)),.ow ((Gs++[f]).map ju),.ow ((Gs++[f]).map n5),x4,.sh (.lst false (sp.map D.int)),x6,x7]) sp (λpre x post env e h=>?_) (λenv h=>?_) ⟨_,_,rfl⟩
  .obtain ⟨x6,x7,rfl⟩:=h
   have hx:=lU x (by rw [e];simp)
   have k1:=RR F.canon.cX (by lia) (λr hr=>(FB r hr).mono (by decide)) (x:=x) (by ext hx)
   have k2:=DC (rs:=f) (x:=x) (λr hr=>(FB r hr).mono (by decide)) (by ext hx) (.inl rfl)
   rw [lk] at k1 k2
   walk_at "v1"
   rw [uX Fo hlen hx]
   walk_at "v1"
   refine dA ?_ ⟨_,_,rfl⟩
   rw [show (Gs++[f]).map ju=Gs.map ju++[ju f] by simp]
   walk_at "v1"
   rw [la,a0f,show ju f=.tup (f.map Row.d) from rfl,k1]
   walk_at "v1"
   rw [Cz]
   walk_at "v1"
   rw [k2]
   walk_at "v1"
   rw [Cz]
   walk_at "vc"
  .obtain ⟨x6,x7,rfl⟩:=h
   rw [a8W,GK,GB (by rfl),GK,GB (by rfl)]
   walk_at "v1"
   refine ⟨by rw [bM,bP];simp;lia,?_⟩
   rw [qo ju n5 (λe=>∃j,e=[j]) (Gs++[f]) (λF' hF e he=>by
    obtain ⟨j,rfl⟩:=he
    have:=ll F' hF
    rw [show ju F'=.tup (F'.map Row.d) from rfl]
    walk_at "vc"
    exact ⟨⟨_,rfl⟩,rfl⟩) ⟨_,rfl⟩,a0f]
   have NH:∀A:List (List Row),aY (.lst false (A.map n5)) (.lst false (A.map n5))=some (.sh (.bl true)):=λA=>by
    unfold aY
    rw [Hg (enc:=n5) λx y=>Hg (λx y=>QW x y) x y]
    simp
   rw [NH]
   walk_at "vc"
end My
namespace PySem.W.Fast
theorem tw4506179611080678978:True:=trivial
theorem tw8178541767784304092:True:=trivial
theorem tw14731325015702678305:True:=trivial
theorem tw12030717319232969720:True:=trivial
theorem tw2843318201919564992:True:=trivial
theorem tw6000498648951812784:True:=trivial
theorem tw11253065079743765202:True:=trivial
theorem tw5422092562374392657:True:=trivial
theorem tw4305602416909438692:True:=trivial
theorem tw4665560368516788093:True:=trivial
theorem tw10850088768818434077:True:=trivial
theorem tw4628695775258742456:True:=trivial
theorem tw4447503371067808513:True:=trivial
theorem tw13353821451684745299:True:=trivial
theorem tw14723299930547154424:True:=trivial
theorem tw9924716033745976855:True:=trivial
theorem tw16551039966465060748:True:=trivial
theorem tw7609770930937486737:True:=trivial
theorem tw10165487477068093968:True:=trivial
theorem tw17209734670352486831:True:=trivial
theorem tw13118404736566494147:True:=trivial
theorem tw15100692899035515970:True:=trivial
theorem tw3408589907355693919:True:=trivial
theorem tw10268587112160132918:True:=trivial
theorem tw3906967370063214535:True:=trivial
theorem tw10006376744621563653:True:=trivial
theorem tw9206705172669255250:True:=trivial
theorem tw17632680082675445201:True:=trivial
theorem tw5217775274182237788:True:=trivial
theorem tw11280495536372270944:True:=trivial
theorem tw4721212020407092348:True:=trivial
theorem tw4468293633452926829:True:=trivial
theorem tw8765207205238198872:True:=trivial
theorem tw9400064007078504896:True:=trivial
theorem tw11587984597933888649:True:=trivial
theorem tw14084727780059209060:True:=trivial
theorem tw17800189849283036839:True:=trivial
theorem tw5931684242895510071:True:=trivial
theorem tw16128105830579866656:True:=trivial
theorem tw15476594195970444052:True:=trivial
theorem tw8001258592569390987:True:=trivial
theorem tw18238282000049687048:True:=trivial
theorem tw2953492107752256660:True:=trivial
theorem tw1896264730149661940:True:=trivial
theorem tw11851318385037281141:True:=trivial
theorem tw14968557260420045059:True:=trivial
theorem tw3211211687032610152:True:=trivial
theorem tw2157629624775637035:True:=trivial
theorem tw5349172183642550416:True:=trivial
theorem tw8561595489377822770:True:=trivial
theorem tw18257525813216506257:True:=trivial
theorem tw11654569542430646493:True:=trivial
theorem tw17944570765812539019:True:=trivial
theorem tw1103598650965269206:True:=trivial
theorem tw4962587529225325514:True:=trivial
theorem tw26827044575940934:True:=trivial
theorem tw1633682960023544946:True:=trivial
theorem tw12305721592061831728:True:=trivial
theorem tw10537566998893641963:True:=trivial
theorem tw9944773321842273661:True:=trivial
theorem tw15700448027538144325:True:=trivial
theorem tw14697425845989398659:True:=trivial
theorem tw7280013230666385821:True:=trivial
theorem tw6317173581521117223:True:=trivial
theorem tw2888756251419591244:True:=trivial
theorem tw4869041904194275992:True:=trivial
theorem tw16459352773837555433:True:=trivial
theorem tw16683730705688575502:True:=trivial
theorem tw11715476863910649810:True:=trivial
theorem tw17652537900824267750:True:=trivial
theorem tw17114968701384033497:True:=trivial
theorem tw2734281168812383478:True:=trivial
theorem tw8255314952116441480:True:=trivial
theorem tw15965877485565562481:True:=trivial
theorem tw14982586300667530797:True:=trivial
theorem tw17084079175374001391:True:=trivial
theorem tw3454001663318723421:True:=trivial
theorem tw10376432006290792891:True:=trivial
theorem tw3851135145953260998:True:=trivial
theorem tw17939170695323504713:True:=trivial
theorem tw16080019522826131281:True:=trivial
theorem tw4395523954661626989:True:=trivial
theorem tw4466740380911001746:True:=trivial
theorem tw14665426508640412086:True:=trivial
theorem tw3457623003014445134:True:=trivial
theorem tw8895996217509251115:True:=trivial
theorem tw16351635501687884058:True:=trivial
theorem tw8395182429317950375:True:=trivial
theorem tw3545187169598685228:True:=trivial
theorem tw16106465069347193177:True:=trivial
theorem tw14653654952607393239:True:=trivial
theorem tw928235223979059372:True:=trivial
theorem tw11597149211565682130:True:=trivial
theorem tw16140462697383941071:True:=trivial
theorem tw5350823767218075554:True:=trivial
theorem tw2757709289695551289:True:=trivial
theorem tw10214663155408847665:True:=trivial
theorem tw7550057074828806173:True:=trivial
theorem tw15109794907776902559:True:=trivial
theorem tw15921345257337127281:True:=trivial
theorem tw6952611407443218164:True:=trivial
theorem tw5158597297739776660:True:=trivial
theorem tw8086482839854070910:True:=trivial
theorem tw14821136974584627034:True:=trivial
theorem tw11838497554154353436:True:=trivial
theorem tw2984450177850911912:True:=trivial
theorem tw726346705739351152:True:=trivial
theorem tw5207710049340086644:True:=trivial
theorem tw12843278227651830570:True:=trivial
theorem tw4876526721594499076:True:=trivial
theorem tw16961126616492936471:True:=trivial
theorem tw15347863290048707281:True:=trivial
theorem tw16377020983763380238:True:=trivial
theorem tw1469338334789959200:True:=trivial
theorem tw137201467673873570:True:=trivial
theorem tw12207136130654075191:True:=trivial
theorem tw11180395350979353687:True:=trivial
theorem tw4595864828231742586:True:=trivial
theorem tw6349711406266484191:True:=trivial
theorem tw8425082107460893971:True:=trivial
theorem tw6007039317644965124:True:=trivial
theorem tw2176760412900228686:True:=trivial
theorem tw6265110602854846103:True:=trivial
theorem tw4187260781052698850:True:=trivial
theorem tw18383284915549559161:True:=trivial
theorem tw339031833112693864:True:=trivial
theorem tw11040608826560173072:True:=trivial
theorem tw16614397573133846129:True:=trivial
theorem tw16855267309092849923:True:=trivial
theorem tw6623111446250330820:True:=trivial
theorem tw9874226625650786868:True:=trivial
theorem tw16261818000420327830:True:=trivial
theorem tw11879754088108329392:True:=trivial
theorem tw2641088948338161468:True:=trivial
theorem tw17228116597250916907:True:=trivial
theorem tw10740127435910044015:True:=trivial
theorem tw10063553692405964688:True:=trivial
theorem tw15718821590437102235:True:=trivial
theorem tw14123643560944464650:True:=trivial
theorem tw17706457532574733577:True:=trivial
theorem tw11568880071981209385:True:=trivial
theorem tw2619794189711131077:True:=trivial
theorem tw9187936422067239502:True:=trivial
theorem tw9471534979768533795:True:=trivial
theorem tw13310338993420840343:True:=trivial
theorem tw12899218569205338471:True:=trivial
theorem tw8721501367998144288:True:=trivial
theorem tw4098102234435508091:True:=trivial
theorem tw17021849218158414813:True:=trivial
theorem tw7756895788422723059:True:=trivial
theorem tw2060086380125109987:True:=trivial
theorem tw6518900901187907363:True:=trivial
theorem tw3729769877803658624:True:=trivial
end PySem.W.Fast
open PySem PySem.W PyProof.Rows
set_option maxRecDepth 100000 in
set_option maxHeartbeats 0 in
theorem PySem.Challenge.cw_offerhouse_k30_whole_rows_of_deeds_holds : PySem.Challenge.rw_offerhouse_k30_whole_rows_of_deeds.Holds := by
  w_on; o_law; k_head; (case hw => w_witness2)
  k_fill
  refine DL.sy (l := PySem.Challenge.rw_offerhouse_k30_whole_rows_of_deeds) (k := 8) ⟨rfl, by decide, by decide⟩ rfl rfl (ts := []) (fun w h Y => ⟨PySem.W.kIn_of Y, fun _ z => nomatch z⟩) (fun w => by kernel_rfl) ?F
  case F =>
    intro w mg fa h KX G uo
    refine' My.all_mk KX G uo ?i1 ?i2 ?i3 ?i4 ?i5 ?i6 ?i7 ?i8 ?i9 ?i10 ?i11 ?i12 ?i13 ?i14 ?i15 ?i16 ?i17 ?i18 ?i19 ?i20 ?i21 ?i22 ?i23 ?i24 ?i25 ?i26 ?i27 ?i28 ?i29 ?i30 ?i31 ?i32 ?i33 ?i34 ?i35 ?i36 ?i37 ?i38 ?i39 ?i40 ?zmax ?zmin ?ztuple ?zlen ?zsorted ?zrange ?zisinstance ?zbool ?zint ?zlist ?fin
    (case i1 => constructor <;> k_is)
    (case i2 => constructor <;> k_is)
    (case i3 => constructor <;> k_is)
    (case i4 => constructor <;> k_is)
    (case i5 => constructor <;> k_is)
    (case i6 => constructor <;> k_is)
    (case i7 => constructor <;> k_is)
    (case i8 => constructor <;> k_is)
    (case i9 => constructor <;> k_is)
    (case i10 => constructor <;> k_is)
    (case i11 => constructor <;> k_is)
    (case i12 => constructor <;> k_is)
    (case i13 => constructor <;> k_is)
    (case i14 => constructor <;> k_is)
    (case i15 => constructor <;> k_is)
    (case i16 => constructor <;> k_is)
    (case i17 => constructor <;> k_is)
    (case i18 => constructor <;> k_is)
    (case i19 => constructor <;> k_is)
    (case i20 => constructor <;> k_is)
    (case i21 => constructor <;> k_is)
    (case i22 => constructor <;> k_is)
    (case i23 => constructor <;> k_is)
    (case i24 => constructor <;> k_is)
    (case i25 => constructor <;> k_is)
    (case i26 => constructor <;> k_is)
    (case i27 => constructor <;> k_is)
    (case i28 => constructor <;> k_is)
    (case i29 => constructor <;> k_is)
    (case i30 => constructor <;> k_is)
    (case i31 => constructor <;> k_is)
    (case i32 => constructor <;> k_is)
    (case i33 => constructor <;> k_is)
    (case i34 => constructor <;> k_is)
    (case i35 => constructor <;> k_is)
    (case i36 => constructor <;> k_is)
    (case i37 => constructor <;> k_is)
    (case i38 => constructor <;> k_is)
    (case i39 => constructor <;> k_is)
    (case i40 => constructor <;> k_is)
    (case zmax => k_is)
    (case zmin => k_is)
    (case ztuple => k_is)
    (case zlen => k_is)
    (case zsorted => k_is)
    (case zrange => k_is)
    (case zisinstance => k_is)
    (case zbool => k_is)
    (case zint => k_is)
    (case zlist => k_is)
    (case fin => exact My.fin)
