/- the proof's parts -/
import Derived.Test.YtpcgnjolfahacaaGreatPk08
set_option maxRecDepth 100000
set_option maxHeartbeats 40000000
set_option linter.unusedVariables false
set_option linter.unusedSimpArgs false
set_option linter.defProp false
namespace Go.Proofs.YtpcgnjolfahacaaGreat
open Go.RowKit Go.Proofs.Tryz
variable{A:List (Int×List Int)}{u:Nat}{z:TI}{e:TV}{w:TW}{g:TypeId}
def Mm(c:Bh)(v:Int)(B o:Nat)(t:TypeId)(g m:TV)(w:TW)(j:g.length=o)(b:Em c)(h:Mid w B t g c.cells m):Calls prog 238 #[.q B o,.i v] w fun e p=>e=.r (.tuple #[])/\Mid p B t g (En v c).cells m/\Gr B w p:=by
 obtain⟨s,z,A,J,C,l,f⟩:=h.sees j b;have K:=b.h;have L:¬(c.h:Int)<0:=Bd;have N:=f (o+19);unfold En;by_cases D:8<=c.h;·rw[Sp D];have G:(8:Int)<=(c.h:Int):=Bd;clear s z A C l f;go_in;go_wp2;refine tb (.tuple #[]) (by simp[results,results238,go_sem]) ?_;exact⟨rfl,h,Gr.refl _ _⟩
 rw[Pf D];have G:¬(8:Int)<=(c.h:Int):=Bd;have g2:c.h<8:=Bd;have O:=l c.h g2;have Q:=f (o+11+c.h);have F:=h.setSt j b g2 v;have I:=F.setH j ⟨b.lo,by simp[b.st],b.h⟩ ((c.h:Int)+1) (c.h+1) Fr;clear s z A C l f F;go_in;go_wp2
 go_region
 all_goals
  go_wp2;go_end0;exact⟨rfl,I.drewN _,(((Gr.refl _ _).setB _).setB _).drew⟩
def Jp(c:Bh)(B o:Nat)(t:TypeId)(f m:TV)(w:TW)(p:f.length=o)(g:Em c)(h:Mid w B t f c.cells m):Calls prog 240 #[.q B o] w fun e s=>e=.r (.i (Bw c).1)/\Mid s B t f (Bw c).2.cells m/\Gr B w s:=by
 obtain⟨v,z,A,j,C,b,l⟩:=h.sees p g;have D:=g.h;have I:=l (o+19);obtain⟨J,K,cn,L,N,F⟩:=c;unfold Bw;simp only at j D b ⊢;cases F with
 | zero =>
  rw[Sp rfl];clear v z A C b l;simp at j;go_in;go_wp2;go_ret;exact⟨rfl,h,Gr.refl _ _⟩
 | succ k =>
  rw[Pf Fr];have g2:k<8:=Bd;have O:=b k g2;have G:=h.setH p g (k:Int) k rfl;have e:k+1-1=k:=rfl;rw[e];clear e v z A C b l;simp at j;go_in;go_wp2;go_quiet (fail);go_wp2;go_ret;exact⟨rfl,G.drewN _,((Gr.refl _ _).setB _).drewN _⟩
def Bks(c:Bh)(n:Int)(B o:Nat)(t:TypeId)(s A:TV)(w:TW)(C:s.length=o)(D:Em c)(h:Mid w B t s c.cells A):Calls prog 239 #[.q B o,.i n] w fun e F=>e=.r (.i (Wq n c))/\F=w:=by
 obtain⟨f,g,j,l,b,m,p⟩:=h.sees C D;unfold Wq;by_cases v:n<0;·rw[Sp v];clear f g j l b m p;go_in;go_wp2;go_ret;exact⟨rfl,rfl⟩
 rw[Pf v];by_cases z:8<=n;·rw[Sp z];clear f g j l b m p;go_in;go_wp2;go_ret;exact⟨rfl,rfl⟩
 rw[Pf z];obtain⟨k,rfl⟩:=Bvk (show 0<=n by omega);have G:=b k Bd;rw[Bvn];clear f g j l b m p;go_in;go_wp2;go_ret;exact⟨rfl,rfl⟩
def Zk(c:Bh)(n v:Int)(B o:Nat)(t:TypeId)(g z:TV)(w:TW)(A:g.length=o)(C:Em c)(h:Mid w B t g c.cells z):Calls prog 130 #[.q B o,.i n,.i v] w fun e D=>e=.r (.tuple #[])/\Mid D B t g (Ff n v c).cells z/\Gr B w D:=by
 obtain⟨j,l,m,p,b,s,f⟩:=h.sees A C;unfold Ff;by_cases F:n<0;·rw[Sp F];clear j l m p b s f;go_in;go_wp2;go_end0;exact⟨rfl,h,Gr.refl _ _⟩
 rw[Pf F];by_cases G:8<=n;·rw[Sp G];clear j l m p b s f;go_in;go_wp2;go_end0;exact⟨rfl,h,Gr.refl _ _⟩
 rw[Pf G];obtain⟨k,rfl⟩:=Bvk (show 0<=n by omega);have J:=b k Bd;have K:=f (o+3+k);have I:=h.setLo A C (k:=k) Bd v;rw[Bvn];clear j l m p b s f;go_in;go_wp2;go_end0;exact⟨rfl,I,(Gr.refl _ _).setB _⟩
def Bm7(c:Bh)(v:Int)(n:Nat)(B o:Nat)(t:TypeId)(g l:TV)(w:TW)(b:g.length=o)(j:Em c)(h:Mid w B t g c.cells l):Calls prog 286 #[.q B o,.i v,.i (n:Int)] w fun e A=>e=.r (.tuple #[])/\Mid A B t g (P4 v n c).cells l/\Gr B w A:=by
 obtain⟨m,p,C,O,s,z,f⟩:=h.sees b j;have Q:=f (o+19);have I:=h.setH b j 0 0 rfl;have D:Em ⟨c.meth,c.pos,c.next,c.lo,c.st,0⟩:=⟨j.lo,j.st,Fr⟩
 have F:=Mm _ v B o t g l _ b D I;have J:=Bc F;clear F m p C s z f;go_in;go_wp2_with fail;refine Qm (Ba J) ?_;rintro V ⟨G,K⟩;obtain⟨m,p,C,L,s,z,f⟩:=G.sees b (Md D v);have Y:=f (o+2);have N:=G.setN b n;clear m p L s z f;go_wp2;go_end0;exact⟨rfl,N,(((Gr.refl _ _).setB _).trans K).setB _⟩
def Bkc(n:Int)(w:TW)(c:0<=n)(f:n<=255):Calls prog 237 #[.i n] w fun e b=>e=.r (.i (Nw n))/\b=w:=by
 unfold Nw;by_cases h:127<n;·rw[Sp h];go_in;go_wp2;go_ret;exact⟨rfl,rfl⟩
 rw[Pf h];go_in;go_wp2;go_ret;exact⟨rfl,rfl⟩
def Td(v:Int):wrap32 v=Gn v:=by unfold Gn wrap32;omega
def Yk(v:Int):wrap64 (Gn v)=Gn v:=by unfold Gn wrap64;omega
def Bff(op x y:Int)(w:TW):Calls prog 241 #[.i op,.i x,.i y] w fun e h=>e=.r (.tuple #[.i ((Iu op x y).getD 0),.bool (Iu op x y).isSome])/\h=w:=by
 unfold Iu;by_cases b:op=7;·rw[Sp b];subst b;go_in;go_wp2;go_ret2;exact⟨by simp[Yk,Td],rfl⟩
 rw[Pf b];by_cases c:op=8;·rw[Sp c];subst c;clear b;go_in;go_wp2;go_ret2;exact⟨by simp[Yk,Td],rfl⟩
 rw[Pf c];by_cases f:op=9;·rw[Sp f];subst f;clear b c;go_in;go_wp2;go_ret2;exact⟨by simp[Yk,Td],rfl⟩
 rw[Pf f];have j:(op==7)=false:=by simp[b]
 have l:(op==8)=false:=by simp[c]
 have m:(op==9)=false:=by simp[f]
 clear b c f;by_cases g:Gn y=0;·rw[Sp g];rw[<- Td]at g;go_in;go_wp2;go_ret2;exact⟨rfl,rfl⟩
 rw[Pf g];rw[<- Td]at g;have p:(wrap32 y==0)=false:=by simp[g]
 go_in;go_wp2;go_ret2;exact⟨by simp[Yk,Td],rfl⟩
def Bne(c:Bh)(p op n:Int)(B o:Nat)(t:TypeId)(b f:TV)(w:TW)(g:b.length=o)(j:Em c)(h:Mid w B t b c.cells f)(z:0<=op/\op<=6)(N:0<=n/\n<=255):Calls prog 188 #[.q B o,.agg #[.i p,.i op,.i n]] w fun e K=>e=.r (.tuple #[])/\Mid K B t b (J9 op n c).cells f/\Gr B w K:=by
 obtain⟨O,Q⟩:=N;have a1:=h.lt;rcases(show op=0\/op=1\/op=2\/op=3\/op=4\/op=5\/op=6 by omega) with rfl|rfl|rfl|rfl|rfl|rfl|rfl
 ·have F:=fun w=>Bkc n w O Q;have m:=Mm c (Nw n) B o t b f _ g j (h.alloc (O15 p 0 n));have e:J9 0 n c=En (Nw n) c:=rfl;rw[e];clear z e;go_in;go_wp2_with (first|(go_at_call 237;refine(F _).mono ?_;rintro e v ⟨rfl,rfl⟩)|(go_at_call 238;refine m.mono ?_;rintro e v ⟨rfl,s,l⟩))
  go_end0;exact⟨rfl,s,((Gr.refl _ _).alloc _).trans l⟩
 ·have m:=Mm c 0 B o t b f _ g j (h.alloc (O15 p 1 n));have e:J9 1 n c=En 0 c:=rfl;rw[e];clear z e;go_in;go_wp2_with (go_at_call 238;refine m.mono ?_;rintro e v ⟨rfl,s,l⟩)
  go_end0;exact⟨rfl,s,((Gr.refl _ _).alloc _).trans l⟩
 ·have F:=Bks c n B o t b f _ g j (h.alloc (O15 p 2 n));have m:=Mm c (Wq n c) B o t b f _ g j (h.alloc (O15 p 2 n));have e:J9 2 n c=En (Wq n c) c:=rfl;rw[e];clear z e;go_in;go_wp2_with (first|(go_at_call 239;refine F.mono ?_;rintro e v ⟨rfl,rfl⟩)|(go_at_call 238;refine m.mono ?_;rintro e v ⟨rfl,s,l⟩))
  go_end0;exact⟨rfl,s,((Gr.refl _ _).alloc _).trans l⟩
 ·have m:=Jp c B o t b f _ g j (h.alloc (O15 p 3 n));have A:=fun w h=>Zk (Bw c).2 n (Bw c).1 B o t b f w g (Fu j) h;have e:J9 3 n c=Ff n (Bw c).1 (Bw c).2:=rfl;rw[e];have V:=Bf w (O15 p 3 n);clear z e;go_in;go_wp2_with fail;refine Qm m ?_;rintro v ⟨s,l⟩;have Y:=l.own V Bd;have Z:=Bb Y 2;simp at Z;go_wp2_with fail;refine Qm (A _ s) ?_;rintro L ⟨C,D⟩;go_wp2;go_end0;exact⟨rfl,C,(((Gr.refl _ _).alloc _).trans l).trans D⟩
 ·have m:=Jp c B o t b f _ g j (h.alloc (O15 p 4 n));have e:J9 4 n c=(Bw c).2:=rfl;rw[e];clear z e;go_in;go_wp2_with fail;refine Qm m ?_;rintro v ⟨s,l⟩;go_wp2;go_end0;exact⟨rfl,s,((Gr.refl _ _).alloc _).trans l⟩
 ·have m:=Jp c B o t b f _ g j (h.alloc (O15 p 5 n));have A:=fun w h=>Mm (Bw c).2 (Bw c).1 B o t b f w g (Fu j) h;have G:=fun w h=>Mm (En (Bw c).1 (Bw c).2) (Bw c).1 B o t b f w g (Md (Fu j) _) h;have e:J9 5 n c=En (Bw c).1 (En (Bw c).1 (Bw c).2):=rfl;rw[e];clear z e;go_in;go_wp2_with fail;refine Qm m ?_;rintro v ⟨s,l⟩;go_wp2_with fail;refine Qm (A _ s) ?_;rintro L ⟨C,D⟩;go_wp2_with fail;refine Qm (G _ C) ?_;rintro w3 ⟨I,J⟩;go_wp2;go_end0;exact⟨rfl,I,((((Gr.refl _ _).alloc _).trans l).trans D).trans J⟩
 have m:=Jp c B o t b f _ g j (h.alloc (O15 p 6 n));have hQ:=fun w h=>Jp (Bw c).2 B o t b f w g (Fu j) h;have A:=fun w h=>Mm (Bw (Bw c).2).2 (Bw c).1 B o t b f w g (Fu (Fu j)) h;have G:=fun w h=>Mm (En (Bw c).1 (Bw (Bw c).2).2) (Bw (Bw c).2).1 B o t b f w g (Md (Fu (Fu j)) _) h;have e:J9 6 n c=En (Bw (Bw c).2).1 (En (Bw c).1 (Bw (Bw c).2).2):=rfl;rw[e];clear z e;go_in;go_wp2_with fail;refine Qm m ?_;rintro v ⟨s,l⟩;go_wp2_with fail;refine Qm (hQ _ s) ?_;rintro L ⟨C,D⟩;go_wp2_with fail;refine Qm (A _ C) ?_;rintro w3 ⟨I,J⟩;go_wp2_with fail;refine Qm (G _ I) ?_;rintro w4 ⟨h4,a0⟩;go_wp2;go_end0;exact⟨rfl,h4,(((((Gr.refl _ _).alloc _).trans l).trans D).trans J).trans a0⟩
def Bih(c:Bh)(p op n:Int)(B o:Nat)(t:TypeId)(v K:TV)(w:TW)(j:v.length=o)(z:Em c)(h:Mid w B t v c.cells K)(V:11<=op/\op<=14)(hn:0<=n):Calls prog 190 #[.q B o,.agg #[.i p,.i op,.i n]] w fun e w'=>e=.r (.tuple #[])/\Mid w' B t v (Hm op n c).cells K/\Gr B w w':=by
 have a3:=h.lt;obtain⟨k,rfl⟩:=Bvk hn;have A:∀op:Int,(w.alloc (O15 p op (k:Int))).heap[w.heap.size]?=_:=fun op=>Bf w (O15 p op (k:Int));rcases(show op=11\/op=12\/op=13\/op=14 by omega) with rfl|rfl|rfl|rfl
 ·have e:Hm 11 k c=Lu k c:=rfl;rw[e];have b:=h.alloc (O15 p 11 (k:Int));obtain⟨C,D,s2,F,G,I,l⟩:=h.sees j z;have f2:=l (o+2);have J:=(h.setN j k).alloc (O15 p 11 (k:Int));clear V e C D F G I l A;go_in;go_wp2;go_end0;exact⟨rfl,J,((Gr.refl _ _).setB _).alloc _⟩
 ·have m:=Jp c B o t v K _ j z (h.alloc (O15 p 12 (k:Int)));have L:=A 12;have s:=Fu z;have e:Hm 12 k c=if (Bw c).1=0 then Lu k (Bw c).2 else (Bw c).2:=rfl
  rw[e];clear e;generalize Bw c=r at *;obtain⟨x,c1⟩:=r;simp only at m s ⊢;clear V A;by_cases f:x=0;·rw[Sp f];subst f;go_in;go_wp2_with fail;refine Qm m ?_;rintro N ⟨b,g⟩;have O:=g.own L Bd;have Q:=Bb O 2;simp at Q;obtain⟨C,D,s2,F,G,I,l⟩:=b.sees j s;have f2:=l (o+2);have J:=b.setN j k;clear C D F G I l;go_wp2;go_end0;exact⟨rfl,J,(((Gr.refl _ _).alloc _).trans g).setB _⟩
  rw[Pf f];have a2:(x==0)=false:=by simp[f]
  clear f;go_in;go_wp2_with fail;refine Qm m ?_;rintro N ⟨b,g⟩;go_wp2;go_end0;exact⟨rfl,b,((Gr.refl _ _).alloc _).trans g⟩
 ·have m:=Jp c B o t v K _ j z (h.alloc (O15 p 13 (k:Int)));have L:=A 13;have s:=Fu z;have Y:=fun w h=>Jp (Bw c).2 B o t v K w j s h;have a1:=Fu s;have e:Hm 13 k c=if (Bw (Bw c).2).1<(Bw c).1 then Lu k (Bw (Bw c).2).2 else (Bw (Bw c).2).2:=rfl
  rw[e];generalize Bw c=r at *;obtain⟨y,c1⟩:=r;simp only at m s Y a1 ⊢;generalize Bw c1=r at *;obtain⟨x,c2⟩:=r;simp only at Y a1 ⊢;clear V A e;by_cases f:x<y;·rw[Sp f];go_in;go_wp2_with fail;refine Qm m ?_;rintro N ⟨b,g⟩;go_wp2_with fail;refine Qm (Y _ b) ?_;rintro w2 ⟨Z,a0⟩;have O:=a0.own (g.own L Bd) Bd;have Q:=Bb O 2;simp at Q;obtain⟨C,D,s2,F,G,I,l⟩:=Z.sees j a1;have f2:=l (o+2);have J:=Z.setN j k;clear C D F G I l;go_wp2;go_end0;exact⟨rfl,J,((((Gr.refl _ _).alloc _).trans g).trans a0).setB _⟩
  rw[Pf f];go_in;go_wp2_with fail;refine Qm m ?_;rintro N ⟨b,g⟩;go_wp2_with fail;refine Qm (Y _ b) ?_;rintro w2 ⟨Z,a0⟩;go_wp2;go_end0;exact⟨rfl,Z,(((Gr.refl _ _).alloc _).trans g).trans a0⟩
 have m:=Jp c B o t v K _ j z (h.alloc (O15 p 14 (k:Int)));have L:=A 14;have s:=Fu z;have e:Hm 14 k c=if (Bw c).1=0 then Lu k (Bw c).2 else (Bw c).2:=rfl
 rw[e];clear e;generalize Bw c=r at *;obtain⟨x,c1⟩:=r;simp only at m s ⊢;clear V A;by_cases f:x=0;·rw[Sp f];subst f;go_in;go_wp2_with fail;refine Qm m ?_;rintro N ⟨b,g⟩;have O:=g.own L Bd;have Q:=Bb O 2;simp at Q;obtain⟨C,D,s2,F,G,I,l⟩:=b.sees j s;have f2:=l (o+2);have J:=b.setN j k;clear C D F G I l;go_wp2;go_end0;exact⟨rfl,J,(((Gr.refl _ _).alloc _).trans g).setB _⟩
 rw[Pf f];have a2:(x==0)=false:=by simp[f]
 clear f;go_in;go_wp2_with fail;refine Qm m ?_;rintro N ⟨b,g⟩;go_wp2;go_end0;exact⟨rfl,b,((Gr.refl _ _).alloc _).trans g⟩
def Bsk(n:Nat)(j:n<=1000)(w:TW):(Instr.makeSlice 26 (.i (n:Int)) (.i (n:Int))).run prog w=.ok (.s (.p w.heap.size) n n) (w.alloc (.cells (List.replicate n (Value.int .i64 0)).toArray 3)):=by
 obtain⟨b,c,f,g,h⟩:=Bv4 Tryz.infoInt;have:=run_make w 26 3 b _ Bxs c f .i64 .i64 (n:Int) (n:Int) Bd (Byo _) (by rw[h];omega) Bd;rw[g]at this;have e:madeCells (Value.int .i64 0).cells (n*1)=(List.replicate n (Value.int .i64 0)).toArray:=by
  apply Array.ext
  ·simp[madeCells]
  intro i l m;simp[madeCells,Value.cells,Nat.mod_one]
 rw[Bvn,e]at this;exact this
def Bd2:∀(k:Nat) (c:Bh),D6 (k+1) c=((Bw (D6 k c).2).1::(D6 k c).1,(Bw (D6 k c).2).2)
 | 0,c=>by simp[D6]
 | k+1,c=>by
  have h:=Bd2 k (Bw c).2;rw[D6,h,D6];simp
def Bqr{n:Nat}(c:z.length=n)(f:n<=1000){j:Nat}(e:u<=j)(h:w.heap[j]?=some (.cells (z.map (Value.int .i64)).toArray 3 (0,0))):Du w u (.s (.p j) n n) z:=by
 refine⟨Fr,.inr ⟨j,n,_,by rw[c],e,h,Bd,Mc,by simp[c],?_⟩⟩;simp only[B06];rw[Bv0 Fr]
def Br6{k:Nat}{i v:TX}:((List.replicate (k+1) i++e).toArray).setIfInBounds k v=(List.replicate k i++(v::e)).toArray:=by
 rw[Bzw]
 congr 1
 rw[Bzd,Bwe,Bw1 _ _ Fr];simp
def Btx{k:Nat}{i:TX}:((List.replicate (k+1) i++e).toArray)[k]?=some i:=by
 rw[Byh,Bvy Fr];simp
def Bid(c:Bh)(la:TA)(n lc:Nat)(B o:Nat)(t:TypeId)(b f:TV)(w:TW)(ho:b.length=o)(hf:Em c)(J:n<=1000)(h:Mid w B t b c.cells f):Calls prog 248 #[.q B o,.s la n lc] w fun e m=>e=.r (.s (.p w.heap.size) n n)/\Du m w.heap.size (.s (.p w.heap.size) n n) (D6 n c).1/\Mid m B t b (D6 n c).2.cells f/\Gr B w m:=by
 have K:=fun w=>Bsk n J w;have a4:=h.lt;have a3:w.heap.size≠B:=Bd;have v:=h.alloc (.cells (List.replicate n (Value.int .i64 0)).toArray 3);have z:=Bf w (.cells (List.replicate n (Value.int .i64 0)).toArray 3);have g:=fun j w h=>Jp (D6 j c).2 B o t b f w ho (Bc6 j hf) h;have L:=fun j=>Bd2 j c;have N:=fun j=>Vz j c;have O:=Bc g;have Q:=Bc L;have V:=Bc N;clear g L N h;go_in;go_wp2
 go_loopw [6] (fun i wr=>∃(k j:Nat),k+j=n/\i=.i ((k:Int)-1)/\wr.heap[w.heap.size]?=some (.cells (List.replicate k (Value.int .i64 0)++(D6 j c).1.map (Value.int .i64)).toArray 3 (0,0))/\Mid wr B t b (D6 j c).2.cells f/\Gr B w wr)
  (fun i _=>(intOf i+1).toNat)
 case atStart=>exact⟨n,0,Bd,rfl,by simpa[D6] using z,v,(Gr.refl _ _).alloc _⟩
 case round=>
  obtain⟨k,j,a5,rfl,A,C,D⟩:=hrel;cases k with
  | zero =>
   have hj:j=n:=Bd;subst hj;clear K v z;go_wp2;go_ret;refine⟨rfl,Bqr (Ba V j) J (Wf _) (by simpa using A),C,D⟩
  | succ k =>
   have g:=Ba O j _ C;have e1:((k+1:Nat):Int)-1=(k:Int):=Bd;have a6:=D.size;clear K v z C;go_wp2_with fail;refine Qm g ?_;rintro w1 ⟨Y,F⟩;have l:=F.own A a3;have G:=Bq (i:=k) l (.i (Bw (D6 j c).2).1);rw[Br6]at G;have y0:=Bb l k;have y1:=Bj l k;rw[Btx]at y0;have a7:(k:Int)<(n:Int):=Bd;have Z:Mid (w1.setCell (.a w.heap.size k) (.i (Bw (D6 j c).2).1)) B t b (Bw (D6 j c).2).2.cells f:=by
    unfold Mid;rw[Bvg _ _ _ _ (by simpa using (show B≠w.heap.size by omega))];exact Y
   have HG:=Bc (D.trans F);have a0:=Ba Q j;have I:=Bc a0;have a1:=Bc Z;have a2:=Bc G;clear g O Q V Y F A l Z a0 G;generalize Bw (D6 j c).2=pv at *;obtain⟨x,c2⟩:=pv;simp only at I a1 a2 ⊢;go_wp2;go_roundw
   case rel=>exact⟨k,j+1,Bd,rfl,by rw[Ba I];exact Ba a2,by rw[Ba I];exact Ba a1,(Ba HG).set (.inl (Wf _)) _⟩
   case measure=>simp[intOf]
def Tryz.infoCall:(prog.info? 152).map (·.size)=some 20:=Le
def Bd0{s:Nat}{v:TW}(b:Below u v w)(f:u<=s)(c:Array Value):Below u v (w.setRow s c) :=
 ⟨b.os,b.tape,b.output,by rw[B0l];exact b.size,fun k e=>(Bz5 w s k c Bd).trans (b.block k e)⟩
def Bi9{G b:Array Value}(c:w.heap[u]?=some (.cells G g (0,0))):(w.setRow u b).heap[u]?=some (.cells b g (0,0)):=B05 w u G b g (0,0) c
def Btw{k:Nat}{G:Array Value}(h:k≠u):(w.setRow u G).heap[k]?=w.heap[k]?:=Bz5 w u k G h
theorem Ai{w:World}{a:Option Addr}{n j:Nat}{z:List Int}(h:Du w u (.slice a n j) z)(p:0<z.length):∃g,a=some ⟨g,0,none⟩/\g<w.heap.size/\∀k (e:k<z.length),w.cell? ⟨g,k,none⟩=some (.int .i64 z[k]):=by
 obtain⟨q,⟨_,s⟩|⟨g,t,v,f,_,i,A,_,B,m⟩⟩:=h
 ·omega
 simp only[Value.slice.injEq]at f;refine⟨g,f.1,Pk i,fun k e=>?_⟩;have:=congrArg (·[k]?) m;simp only[Bww,B06,Sp e,Bv8,Ws e,Option.map_some]at this;rw[Bb i];simpa using this
def Bq1(k:Nat)(c:Bh):La k [] c=c:=rfl
def Bat(m:Int)(I:TA)(vc:Nat)(b:TI)(bb:Nat)(w:TW)(hl:b.length<=1000)(hv:Du w bb (.s I b.length vc) b):Calls prog 84 #[.i m,.s I b.length vc] w fun e w'=>e=.r (.agg (Cn m b).cells.toArray)/\Bl w w':=by
 have J:Bl w (((w.alloc (O29 0 0 0 0 0 0 0 0 0 0 0 0 0 0 0 0 0 0 0 0)).alloc (O29 0 0 0 0 0 0 0 0 0 0 0 0 0 0 0 0 0 0 0 0)).setRow (w.heap.size+1) #[.i m,.i 0,.i 0,.i 0,.i 0,.i 0,.i 0,.i 0,.i 0,.i 0,.i 0,.i 0,.i 0,.i 0,.i 0,.i 0,.i 0,.i 0,.i 0,.i 0]):=Bd0 (Bx _ _ _) Bd _;have K:(((w.alloc (O29 0 0 0 0 0 0 0 0 0 0 0 0 0 0 0 0 0 0 0 0)).alloc (O29 0 0 0 0 0 0 0 0 0 0 0 0 0 0 0 0 0 0 0 0)).setRow (w.heap.size+1) #[.i m,.i 0,.i 0,.i 0,.i 0,.i 0,.i 0,.i 0,.i 0,.i 0,.i 0,.i 0,.i 0,.i 0,.i 0,.i 0,.i 0,.i 0,.i 0,.i 0]).heap[w.heap.size]?=some (O29 0 0 0 0 0 0 0 0 0 0 0 0 0 0 0 0 0 0 0 0):=(Btw Bd).trans (Cb _ _ _);have L:Mid (((w.alloc (O29 0 0 0 0 0 0 0 0 0 0 0 0 0 0 0 0 0 0 0 0)).alloc (O29 0 0 0 0 0 0 0 0 0 0 0 0 0 0 0 0 0 0 0 0)).setRow (w.heap.size+1) #[.i m,.i 0,.i 0,.i 0,.i 0,.i 0,.i 0,.i 0,.i 0,.i 0,.i 0,.i 0,.i 0,.i 0,.i 0,.i 0,.i 0,.i 0,.i 0,.i 0]) (w.heap.size+1) 152 [] (⟨m,0,0,Iz,Iz,0⟩:Bh).cells []:=Bi9 (Bv _ _ _);have l:Hid (La 0 (b.drop 0) ⟨m,0,0,Iz,Iz,0⟩=Cn m b):=rfl;generalize Cn m b=N at *;have A:=fun c n v wr h t=>Zk c n v (w.heap.size+1) 0 152 [] [] wr rfl t h;go_in;go_wp2_with (refine wpList_store_row Hd 152 (.tmp 5) (.tmp 9) Hd (w.heap.size+1) #[.i m,.i 0,.i 0,.i 0,.i 0,.i 0,.i 0,.i 0,.i 0,.i 0,.i 0,.i 0,.i 0,.i 0,.i 0,.i 0,.i 0,.i 0,.i 0,.i 0] Hd Hd 152 _ (Bv w _ _) Tryz.infoCall Hd (by simp[Value.oneCell']) ?_)
 generalize (((w.alloc (O29 0 0 0 0 0 0 0 0 0 0 0 0 0 0 0 0 0 0 0 0)).alloc (O29 0 0 0 0 0 0 0 0 0 0 0 0 0 0 0 0 0 0 0 0)).setRow (w.heap.size+1) #[.i m,.i 0,.i 0,.i 0,.i 0,.i 0,.i 0,.i 0,.i 0,.i 0,.i 0,.i 0,.i 0,.i 0,.i 0,.i 0,.i 0,.i 0,.i 0,.i 0])=w1 at *
 go_loopw [12] (fun i wr=>∃(k:Nat) (c:Bh),k<=b.length/\i=.i (k:Int)/\Hid (La k (b.drop k) c=N)/\Em c/\Mid wr (w.heap.size+1) 152 [] c.cells []/\wr.heap[w.heap.size]?=some (O29 0 0 0 0 0 0 0 0 0 0 0 0 0 0 0 0 0 0 0 0)/\Bl w wr)
  (fun i _=>b.length-(intOf i).toNat)
 case atStart=>exact⟨0,_,Bd,rfl,l,Bi2 m,L,K,J⟩
 case round=>
  clear l L K J;obtain⟨k,c,hk,rfl,l,t,z,B,f⟩:=hrel;by_cases O:k<b.length
  ·obtain⟨g,hg,a1,Q⟩:=Ai hv Bd;have V:=Q k O;have y1:wr.C g k (.i b[k]):=(f.cell (p:=.a g k) a1).trans V;have Y:=A c (k:Int) b[k] wr z t;have a2:=Wz t (k:Int) b[k];have Z:b.drop k=b[k]::b.drop (k+1):=by rw[Wr O]
   have a3:Hid (La (k+1) (b.drop (k+1)) (Ff (k:Int) b[k] c)=N):=by
    have:=Ba l;rw[Z]at this;exact this
   have b1:(k:Int)<(b.length:Int):=Bd;have a4:=f.size;generalize b[k]=x at *;subst hg;clear l Z V Q A z;go_wp2_with fail;refine Qm Y ?_;rintro w2 ⟨h2,q⟩;have a5:=q.own B Bd;have a6:Bl w w2:=⟨(World.grownBy.os q).trans f.os,(World.grownBy.tape q).trans f.tape,(World.grownBy.output q).trans f.output,Bvv f.size q.size,fun j hj=>(q.blk (Bvm hj a4) Bd).trans (f.block j hj)⟩;clear q Y;go_wp2;go_roundw
   case rel=>exact⟨k+1,_,Bd,Lt,a3,a2,h2,a5,a6⟩
   case measure=>simp[intOf];omega
  have a7:k=b.length:=Bd;subst a7;have D:=Ba l;rw[List.drop_length,Bq1]at D;have a8:wr.heap[w.heap.size+1]?=some (.cells c.cells.toArray 152 (0,0)):=by
   have:=z;unfold Mid at this;simpa using this
  have F:(prog.info? 152).map (·.size)=some c.cells.toArray.size:=by rw[Tryz.infoCall];simp[t.len]
  have hz:20=c.cells.toArray.size:=by simp[t.len]
  have a9:=Bya (Ph c);have HN:=Bc D;clear D l A z;generalize a0:c.cells.toArray=G at *;have b0:=Bc a0;clear a0;go_wp2_with (first|(refine Bwd Hd 152 (.tmp 5) Hd (w.heap.size+1) Hd 152 G (0,0) _ a8 Byy Hd F ?_)|(refine wpList_store_row Hd 152 (.tmp 4) (.tmp 21) Hd w.heap.size G Hd Hd 152 _ B F hz a9 ?_))
  refine Bwy (results_cell_row results84 _ _ w.heap.size 152 G (0,0) _ Hd (Bi9 B) Byy Hd F) rfl ?_;exact⟨by rw[<- Ba b0,Ba HN],Bd0 f (Wf _) _⟩
def ocells:List (Int × List Int)->TV->List Value
 | x::r,v::vs=>.int .i64 x.1::v::ocells r vs
 | _,_=>[]
def Bcb:∀(l:List (Int×List Int)) (b:TV),b.length=l.length->(ocells l b).length=l.length*2
 | [],[],_=>rfl
 | [],_::_,h=>by simp at h
 | _::_,[],h=>by simp at h
 | x::r,v::b,h=>by simp only[ocells,Bvo];rw[Bcb r b (by simpa using h)];omega
def Bec:∀(l:List (Int×List Int)) (c:TV),c.length=l.length->∀i,i<l.length->(ocells l c)[i*2]?=some (.i (l.getD i (0,[])).1)/\(ocells l c)[i*2+1]?=some (c.getD i (.s none 0 0))
 | [],_,_,i,h=>by simp at h
 | x::r,[],h,_,_=>by simp at h
 | x::r,v::c,h,0,_=>⟨rfl,rfl⟩
 | x::r,v::c,h,i+1,hi=>by
  obtain⟨a,b⟩:=Bec r c (by simpa using h) i (by simpa using hi);rw[show (i+1)*2=i*2+1+1 by omega,ocells];exact⟨by simpa using a,by simpa using b⟩
def Ys:∀(l:List (Int×List Int)) (b:TV),b.length=l.length->∀(x:Int×List Int) (v:TX),ocells (l++[x]) (b++[v])=ocells l b++[.i x.1,v]
 | [],[],_,_,_=>rfl
 | [],_::_,h,_,_=>by simp at h
 | _::_,[],h,_,_=>by simp at h
 | y::r,u::b,h,x,v=>by simp only[Bws,ocells];rw[Ys r b (by simpa using h)]
def Bca:∀(l:List (Int×List Int)) (b:TV),b.length=l.length->∀(i:Nat) (c:Int) (e:TI) (v:TX),(l.getD i (0,[])).1=c->i<l.length->(ocells l b).set (i*2+1) v=ocells (l.set i (c,e)) (b.set i v)
 | [],_,_,i,_,_,_,_,h=>by simp at h
 | x::r,[],h,_,_,_,_,_,_=>by simp at h
 | x::r,u::b,_,0,c,e,v,hc,_=>by
  have:x.1=c:=hc;simp[ocells,this]
 | x::r,u::b,h,i+1,c,e,v,hc,hi=>by
  rw[show (i+1)*2+1=(i*2+1)+1+1 by omega];simp only[ocells,Bwf];rw[Bca r b (by simpa using h) i c e v (by simpa using hc) (by simpa using hi)]
def Bas:∀(l c:List (Int×List Int)) (b:TV),l.map Prod.fst=c.map Prod.fst->ocells l b=ocells c b
 | [],[],_,_=>rfl
 | [],_::_,_,h=>by simp at h
 | _::_,[],_,h=>by simp at h
 | x::r,y::q,[],_=>rfl
 | x::r,y::q,v::b,h=>by
  simp only[Bwm,List.cons.injEq]at h;simp only[ocells];rw[h.1,Bas r q b h.2]
structure Cv where
 B:Nat
 ob:Nat
 w0:World
 wE:World
 ca:Option Addr
 cn:Nat
 cc:Nat
 ma:Option Addr
 mc:Nat
 tg:Nat
 tc:Nat
 ya:Option Addr
 yc:Nat
 bm:Nat
 bf:Nat
 T:List Int
 lf:List (Value × List (Int × Int))
 lms:List (Rd.Mth × Eh)
 entry:Int
 ia:Option Addr
 ic:Nat
 ins:List Int
 room:Int
 depth:Int
 fuel:Int
def Cv.E (k:Cv):Ds:=⟨k.T,k.lf.map Prod.snd,k.lms.map Prod.fst,k.ins,k.room,k.depth⟩
def Jk (w:TW)(a:TA)(l:TI):Prop:=∀i,i<l.length->∃g o,a=some ⟨g,o,none⟩/\g<w.heap.size/\w.cell? ⟨g,o+i,none⟩=some (.int .i64 (l.getD i 0))
def Jk.below{b:TW}{a:TA}(h:Jk w a z)(c:Bl w b):Jk b a z:=fun i j=>by
 obtain⟨g,o,e,f,m⟩:=h i j;exact⟨g,o,e,Bvm f c.size,by rw[c.cell (p:=.a g (o+i)) f];exact m⟩
structure Cv.Ok(k:Cv):Prop where
 tr:Dl k.w0 k.tg k.T
 tl:k.T.length<=1000
 fl:Np k.w0 k.bf (.slice k.ya k.lf.length k.yc) k.lf
 f14:k.lf.length<=14
 ff:∀p∈k.lf,p.2.length<=10
 ms:Eb k.wE k.bm (.slice k.ma k.lms.length k.mc) k.lms
 ml:k.lms.length<=1000
 cd:∀p∈k.lms,p.1.code.length<=1000/\∀x∈p.1.code,0<=x/\x<=255
 ps:∀p∈k.lms,p.1.params.length<=10
 hn:∀p∈k.lms,p.1.handlers.length<=1000/\∀h∈p.1.handlers,0<=h.target/\h.target<=1000
 ins:Jk k.wE k.ia k.ins
 il:k.ins.length<=1000
 dep:1<=k.depth/\k.depth<=12
 rm:0<=k.room/\k.room<=30
 fu:0<=k.fuel/\k.fuel<=3000
 tB:k.tg≠k.B/\k.tg≠k.ob
 fB:∀j,(Value.slice k.ya k.lf.length k.yc).ownBlock=some j->j≠k.B/\j≠k.ob
 fy:∀p∈k.lf,∀j,p.1.ownBlock=some j->j≠k.B/\j≠k.ob
 sz:k.wE.heap.size<=k.w0.heap.size
 Bs:k.B<k.w0.heap.size/\k.ob<k.w0.heap.size/\k.wE.heap.size<=k.B/\k.wE.heap.size<=k.ob
structure Dh where
 oa:Option Addr
 oc:Nat
 wa:Option Addr
 wc:Nat
 xa:Option Addr
 xc:Nat
 ov:List Value
def Jr (k:Cv)(read ol:Nat)(v:Dh):List Value :=
 [.slice k.ca k.cn k.cc,.slice k.ma k.lms.length k.mc,.slice (some ⟨k.tg,0,none⟩) k.T.length k.tc,.slice k.ya k.lf.length k.yc,.int .i64 k.entry,.slice k.ia k.ins.length k.ic,.int .i64 k.room,.int .i64 k.depth,.int .i64 k.fuel,.int .i64 (read:Int),.slice v.oa ol v.oc,.int .i64 k.room]
def Hp (v:Dh)(wl xl:Nat)(ended:Bool)(status value:Int)(steps:Nat):List Value :=
 [.slice v.wa wl v.wc,.bool ended,.slice v.xa xl v.xc,.int .i64 status,.int .i64 value,.int .i64 (steps:Int)]
def Jc(k:Cv)(r o:Nat)(v:Dh):(Jr k r o v).length=12:=rfl
def M4(v:Dh)(b c:Nat)(e:Bool)(s x:Int)(f:Nat):(Hp v b c e s x f).length=6:=rfl
structure Dw(k:Cv)(O:List (Int × List Int))(W:List Bh)(X:List Int)(v:Dh)(w:World):Prop where
 objs:w.ownsRow k.wE.heap.size 215 2 (.slice v.oa O.length v.oc) O.length (ocells O v.ov)
 ovl:v.ov.length=O.length
 obk:∀j,(Value.slice v.oa O.length v.oc).ownBlock=some j->j=k.ob\/k.w0.heap.size<=j
 flds:∀i,i<O.length->Du w k.w0.heap.size (v.ov.getD i (.slice none 0 0)) (O.getD i (0,[])).2
 wait:w.ownsRow k.w0.heap.size 152 20 (.slice v.wa W.length v.wc) W.length (W.flatMap Bh.cells)
 wwf:∀c∈W,Em c
 out:Du w k.w0.heap.size (.slice v.xa X.length v.xc) X
 nd:((Value.slice v.xa X.length v.xc::v.ov).filterMap Value.ownBlock).Nodup
 keep:∀j,j<k.w0.heap.size->j≠k.B->j≠k.ob->w.heap[j]?=k.w0.heap[j]?
 low:Below k.wE.heap.size k.wE w
 szs:k.w0.heap.size<=w.heap.size
structure Bz(k:Cv)(S:Bo)(v:Dh)(w:World):Prop where
 blk:Mid w k.B 156 (Jr k S.read S.objs.length v) S.now.cells (Hp v S.wait.length S.out.length S.ended S.status S.value S.steps)
 wf:Em S.now
 rows:Dw k S.objs S.wait S.out v w
def Gd{s j n:Nat}{i:TX}{cs:TV}{B:Nat}{p:Nat×Nat}(h:w.ownsRow u s j i n e)(q:w.heap[B]?=some (.cells cs.toArray g p))(v:s≠g):∀c,i.ownBlock=some c->c≠B:=by
 intro c l z;obtain⟨_,⟨rfl,_⟩|⟨f,A,C,rfl,_,m,_⟩⟩:=h
 ·simp[Value.ownBlock]at l
 simp only[Value.ownBlock,Option.some.injEq]at l;subst l z;rw[q]at m;simp only[Option.some.injEq,Obj.cells.injEq]at m;exact v m.2.1.symm
def Gs{b:TW}{s j n:Nat}{i:TX}(h:w.ownsRow u s j i n e)(m:∀c,i.ownBlock=some c->b.heap[c]?=w.heap[c]?):b.ownsRow u s j i n e:=by
 obtain⟨f,p|⟨g,q,t,l,v,z,r⟩⟩:=h
 ·exact⟨f,.inl p⟩
 exact⟨f,.inr ⟨g,q,t,l,v,(m g (by rw[l];rfl)).trans z,r⟩⟩
def Dw.gr{k:Cv}{q:List Bh}{v:Dh}{b:TW}(h:Dw k A q z v w)(F:k.Ok)(G:w.heap[k.B]?=some (.cells e.toArray 156 (0,0)))(g:Gr k.B w b):Dw k A q z v b:=by
 have m:∀{c f s n:Nat}{u:TX}{t:TV},w.ownsRow c f s u n t->f≠156->b.ownsRow c f s u n t:=fun p I =>
  Gs p (fun j l=>g.blk (p.lt j l).2 (Gd p G I j l))
 refine⟨m h.objs Ck,h.ovl,h.obk,fun i J=>m (h.flds i J) Ck,m h.wait Ck,h.wwf,m h.out Ck,h.nd,fun j C D K=>?_,?_,Bvv h.szs g.size⟩
 ·rw[g.blk (Bvm C h.szs) D];exact h.keep j C D K
 exact⟨(World.grownBy.os g).trans h.low.os,(World.grownBy.tape g).trans h.low.tape,(World.grownBy.output g).trans h.low.output,Bvv h.low.size g.size,
  fun j l=>(g.blk (Bvm l h.low.size) (by have:=F.Bs;omega)).trans (h.low.block j l)⟩
def Bz.now{k:Cv}{S:Bo}{v:Dh}{b:TW}(h:Bz k S v w)(e:k.Ok)(f:Gr k.B w b){c:Bh}(g:Em c) (i:Mid b k.B 156 (Jr k S.read S.objs.length v) c.cells (Hp v S.wait.length S.out.length S.ended S.status S.value S.steps)):Bz k (S.withNow c) v b :=
 ⟨i,g,h.rows.gr e h.blk f⟩
structure Btj(k:Cv)(S:Bo)(v:Dh)(w:World):Prop where
 c0:w.cell? ⟨k.B,0,none⟩=some (.slice k.ca k.cn k.cc)
 c1:w.cell? ⟨k.B,1,none⟩=some (.slice k.ma k.lms.length k.mc)
 c2:w.cell? ⟨k.B,2,none⟩=some (.slice (some ⟨k.tg,0,none⟩) k.T.length k.tc)
 c3:w.cell? ⟨k.B,3,none⟩=some (.slice k.ya k.lf.length k.yc)
 c4:w.cell? ⟨k.B,4,none⟩=some (.int .i64 k.entry)
 c5:w.cell? ⟨k.B,5,none⟩=some (.slice k.ia k.ins.length k.ic)
 c6:w.cell? ⟨k.B,6,none⟩=some (.int .i64 k.room)
 c7:w.cell? ⟨k.B,7,none⟩=some (.int .i64 k.depth)
 c8:w.cell? ⟨k.B,8,none⟩=some (.int .i64 k.fuel)
 c9:w.cell? ⟨k.B,9,none⟩=some (.int .i64 (S.read:Int))
 c10:w.cell? ⟨k.B,10,none⟩=some (.slice v.oa S.objs.length v.oc)
 c11:w.cell? ⟨k.B,11,none⟩=some (.int .i64 k.room)
 c12:w.cell? ⟨k.B,12,none⟩=some (.int .i64 S.now.meth)
 c13:w.cell? ⟨k.B,13,none⟩=some (.int .i64 (S.now.pos:Int))
 c14:w.cell? ⟨k.B,14,none⟩=some (.int .i64 (S.now.next:Int))
 c32:w.cell? ⟨k.B,32,none⟩=some (.slice v.wa S.wait.length v.wc)
 c33:w.cell? ⟨k.B,33,none⟩=some (.bool S.ended)
 c34:w.cell? ⟨k.B,34,none⟩=some (.slice v.xa S.out.length v.xc)
 c35:w.cell? ⟨k.B,35,none⟩=some (.int .i64 S.status)
 c36:w.cell? ⟨k.B,36,none⟩=some (.int .i64 S.value)
 c37:w.cell? ⟨k.B,37,none⟩=some (.int .i64 (S.steps:Int))
 fr:∀j,w.frozen? ⟨k.B,j,none⟩=false
def Mid.tail{T b:TV}(h:Mid w u g e T b):Mid w u g (e++T) b []:=by
 unfold Mid at h ⊢;rw[h];simp
def Mid.untail{T b:TV}(h:Mid w u g (e++T) b []):Mid w u g e T b:=by
 unfold Mid at h ⊢;rw[h];simp
def Mid.front{T b:TV}(h:Mid w u g e T b):Mid w u g [] e (T++b):=by
 unfold Mid at h ⊢;rw[h];simp
def Mid.unfront{T b:TV}(h:Mid w u g [] e (T++b)):Mid w u g e T b:=by
 unfold Mid at h ⊢;rw[h];simp
def Bz.sees{k:Cv}{S:Bo}{v:Dh}(h:Bz k S v w):Btj k S v w:=by
 have f:=h.blk.front;have g:=h.blk.tail;have i:(Jr k S.read S.objs.length v++S.now.cells).length=32:=by rw[Up,Jc,h.wf.len]
 have b:∀j,j<12->w.cell? (.a k.B j)=(Jr k S.read S.objs.length v)[j]?:=fun j c=>by
  have:=f.cell (o:=0) (j:=j) rfl (by rw[Jc];exact c);rw[Bvp]at this;exact this
 have tl:∀j,j<6->w.cell? (.a k.B (32+j))=(Hp v S.wait.length S.out.length S.ended S.status S.value S.steps)[j]?:=fun j c=>g.cell i (by rw[M4];exact c);have e:=h.blk.sees (o:=12) rfl h.wf;exact⟨b 0 Bd,b 1 Bd,b 2 Bd,b 3 Bd,b 4 Bd,b 5 Bd,b 6 Bd,b 7 Bd,b 8 Bd,b 9 Bd,b 10 Bd,b 11 Bd,e.m,e.p,e.n,
  tl 0 Bd,tl 1 Bd,tl 2 Bd,tl 3 Bd,tl 4 Bd,tl 5 Bd,fun j=>h.blk.free j⟩
def Bz.setPost{k:Cv}{S:Bo}{v:Dh}(h:Bz k S v w)(f:k.Ok){j:Nat}(g:j<6)(u:TX){b:Bo}{c:Dh}(e:b.now=S.now) (i:Jr k b.read b.objs.length c=Jr k S.read S.objs.length v)(l:(Hp v S.wait.length S.out.length S.ended S.status S.value S.steps).set j u=Hp c b.wait.length b.out.length b.ended b.status b.value b.steps) (m:Dw k b.objs b.wait b.out c w):Bz k b c (w.setCell (.a k.B (32+j)) u):=by
 have p:(Jr k S.read S.objs.length v++S.now.cells).length=32:=by rw[Up,Jc,h.wf.len]
 refine⟨?_,by rw[e];exact h.wf,m.gr f h.blk ((Gr.refl _ _).setB _)⟩;rw[i,e,<- l];exact(h.blk.tail.set p (by rw[M4];exact g) u).untail
def Bz.setPre{k:Cv}{S:Bo}{v:Dh}(h:Bz k S v w)(f:k.Ok){j:Nat}(g:j<12)(u:TX){b:Bo}{c:Dh}(e:b.now=S.now) (i:(Jr k S.read S.objs.length v).set j u=Jr k b.read b.objs.length c)(l:Hp c b.wait.length b.out.length b.ended b.status b.value b.steps=Hp v S.wait.length S.out.length S.ended S.status S.value S.steps) (m:Dw k b.objs b.wait b.out c w):Bz k b c (w.setCell (.a k.B j) u):=by
 refine⟨?_,by rw[e];exact h.wf,m.gr f h.blk ((Gr.refl _ _).setB _)⟩;have:=h.blk.front.set (o:=0) (j:=j) rfl (by rw[Jc];exact g) u;rw[Bvp]at this;rw[<- i,e,l];exact this.unfront
def Bot{k:Cv}{T:TV}{f:Bh}(g:Mid w k.B 156 e f.cells T)(i:e.length=12)(l:Em f)(m:k.Ok){j:Nat}(p:j<12)(u:TX){b:Bo}{c:Dh}(h:b.now=f) (q:e.set j u=Jr k b.read b.objs.length c)(s:Hp c b.wait.length b.out.length b.ended b.status b.value b.steps=T)(t:Dw k b.objs b.wait b.out c w):Bz k b c (w.setCell (.a k.B j) u):=by
 refine⟨?_,by rw[h];exact l,t.gr m g ((Gr.refl _ _).setB _)⟩;have:=g.front.set (o:=0) (j:=j) rfl (by rw[i];exact p) u;rw[Bvp]at this;rw[<- q,h,s];exact this.unfront
def Ve{k:Cv}{T:TV}{b:Bh}(c:Mid w k.B 156 e b.cells T)(h:e.length=12)(s:T.length=6)(f:Em b)(i:k.Ok){j:Nat}(t:j<6)(u:TX){S':Bo}{v':Dh}(g:S'.now=b) (l:Jr k S'.read S'.objs.length v'=e)(m:T.set j u=Hp v' S'.wait.length S'.out.length S'.ended S'.status S'.value S'.steps)(p:Dw k S'.objs S'.wait S'.out v' w):Bz k S' v' (w.setCell (.a k.B (32+j)) u):=by
 refine⟨?_,by rw[g];exact f,p.gr i c ((Gr.refl _ _).setB _)⟩;have q:(e++b.cells).length=32:=by rw[Up,h,f.len]
 rw[l,g,<- m];exact(c.tail.set q Bd u).untail
def Bz.gr{k:Cv}{S:Bo}{v:Dh}{b:TW}(h:Bz k S v w)(e:k.Ok)(c:Bl w b):Bz k S v b :=
 h.now e (Gr.of_below (Gr.refl _ _) c) h.wf (h.blk.below c)
def Dw.tree{k:Cv}{c:List Bh}{v:Dh}(h:Dw k A c z v w)(b:k.Ok):Dl w k.tg k.T:=by
 have e:=h.keep k.tg b.tr.1 b.tB.1 b.tB.2;exact⟨Bvm b.tr.1 h.szs,fun i f=>by rw[Bvj (a:=⟨k.tg,i,none⟩) e];exact b.tr.2 i f⟩
def Dw.mths{k:Cv}{b:List Bh}{v:Dh}(h:Dw k A b z v w)(c:k.Ok):Eb w k.bm (.s k.ma k.lms.length k.mc) k.lms :=
 c.ms.kp (Kp.of_below (e:=none) h.low) Ck Ck Ck Ck Ck
def Dw.ints{k:Cv}{b:List Bh}{v:Dh}(h:Dw k A b z v w)(c:k.Ok):Jk w k.ia k.ins:=c.ins.below h.low
def Bbj(k:Cv)(S:Bo)(v:Dh)(b x:Int)(w:TW)(f:k.Ok)(h:Bz k S v w):Calls prog 85 #[.q k.B 0,.i b,.i x] w fun e m=>e=.r (.tuple #[])/\Bz k (S.fin b x) v m:=by
 obtain⟨p,s,t,z,A,C,D,F,G,I,J,K,L,N,O,Q,a0,V,a1,a2,Y,c⟩:=h.sees;have a3:=c 33;have a4:=c 35;have a5:=c 36;have g:Bz k ⟨S.read,S.objs,S.now,S.wait,S.ended,S.out,b,S.value,S.steps⟩ v (w.setCell (.a k.B 35) (.i b)):=h.setPost f (j:=3) Bd _ rfl rfl rfl h.rows;have l:Bz k ⟨S.read,S.objs,S.now,S.wait,S.ended,S.out,b,x,S.steps⟩ v ((w.setCell (.a k.B 35) (.i b)).setCell (.a k.B 36) (.i x)):=g.setPost f (j:=4) Bd _ rfl rfl rfl g.rows;have Z:Bz k (S.fin b x) v (((w.setCell (.a k.B 35) (.i b)).setCell (.a k.B 36) (.i x)).setCell (.a k.B 33) (.bool true)):=l.setPost f (j:=1) Bd _ rfl rfl rfl l.rows;clear p s t z A C D F G I J K L N O Q V Y c g l;go_in;go_wp2;go_end0;exact⟨rfl,Z⟩
def Bed(w:TW)(b:Nat):(⟨0,0,none,0,0,0,0,0,0,none,0,0,none,0,0,none,0,0⟩:PM).is Eu w b :=
 ⟨rfl,rfl,rfl,rfl,rfl,rfl,rfl,Bvl _ _ _ _,rfl,Bvl _ _ _ _,rfl,Bvl _ _ _ _,rfl,[],rfl,Bvl _ _ _ _,fun p c=>by simp at c⟩
def Re(k:Cv)(S:Bo)(v:Dh)(n:Int)(w:TW)(Y:k.Ok)(h:Bz k S v w):Calls prog 131 #[.q k.B 0,.i n] w fun e Z=>∃m:PM,e=.returned m.val/\m.is (k.E.meth n) Z k.bm/\Bl w Z:=by
 obtain⟨c0,c1,c2,c3,c4,c5,c6,c7,c8,c9,a1,a2,a3,a4,a5,a6,a7,a8,a9,b0,b1,fr⟩:=h.sees;have b:=h.rows.mths Y;have b2:=Y.ml;have b3:=h.blk.lt;clear c0 c2 c3 c4 c5 c6 c7 c8 c9 a1 a2 a3 a4 a5 a6 a7 a8 a9 b0 b1 fr;unfold Ds.meth;have a0:k.E.ms.length=k.lms.length:=by simp[Cv.E]
 rw[a0];by_cases c:n<0;·rw[Sp c];clear b h;go_in;go_wp2;refine tb (.agg #[.i 0,.i 0,.s none 0 0,.i 0,.i 0,.i 0,.i 0,.s none 0 0,.s none 0 0,.s none 0 0]) (by simp[results,B0i,go_sem]) ?_;exact⟨_,rfl,Bed _ _,by repeat (first|exact Vm _ _|refine Bwu ?_ Fr _|refine Bvq ?_ Fr _)⟩
 rw[Pf c];by_cases f:(k.lms.length:Int)<=n;·rw[Sp f];clear b h;go_in;go_wp2;refine tb (.agg #[.i 0,.i 0,.s none 0 0,.i 0,.i 0,.i 0,.i 0,.s none 0 0,.s none 0 0,.s none 0 0]) (by simp[results,B0i,go_sem]) ?_;exact⟨_,rfl,Bed _ _,by repeat (first|exact Vm _ _|refine Bwu ?_ Fr _|refine Bvq ?_ Fr _)⟩
 rw[Pf f];obtain⟨i,rfl⟩:=Bvk (show 0<=n by omega);have hi:i<k.lms.length:=Bd;have e:k.E.ms.getD (i:Int).toNat Eu=k.lms[i].1:=by
  rw[Bvn,Th];simp[Cv.E,hi]
 rw[e];obtain⟨q,g,hg,b4,Et,hq⟩:=b.mth hi;obtain⟨y0,y1,y2,y3,y4,y5,y6,y7,y8,y9⟩:=Ub Et;rw[hg]at c1;have b5:(i:Int)<(k.lms.length:Int):=Bd;generalize k.lms[i]=x at *;obtain⟨j,l,p,t,z,A,C,D,F,G,I,J,K,L,N,O,Q,V⟩:=q;simp only at y0 y1 y2 y3 y4 y5 y6 y7 y8 y9;clear Et b h c f e hg a0;go_in;go_wp2;refine tb (.agg #[.i j,.i l,.s p t z,.i A,.i C,.i D,.i F,.s G I J,.s K L N,.s O Q V]) (by simp[results,B0i,go_sem]) ?_;have hb:Bl w (w.alloc (O18 j l p t z A C D F G I J K L N O Q V)):=QN _;exact⟨⟨j,l,p,t,z,A,C,D,F,G,I,J,K,L,N,O,Q,V⟩,rfl,hq.below hb,hb⟩
def Bla{α β:Type}{f:α->Option β}:∀{l:List α},(l.filterMap f).Nodup->∀{i j:Nat}{a b:α}{g:β},i≠j->l[i]?=some a->l[j]?=some b->f a=some g->f b≠some g
 | [],_,i,_,_,_,_,_,h,_,_=>by simp at h
 | x::r,hn,i,j,a,b,g,hij,hi,hj,ha=>by
  intro m;have s:(r.filterMap f).Nodup:=by
   cases e:f x with
   | none=>rw[Bxv e]at hn;exact hn
   | some y=>rw[Bw8 e]at hn;exact(List.nodup_cons.1 hn).2
  have p:∀{q:Nat}{c:α},f x=some g->r[q]?=some c->f c=some g->False:=fun {q c} e t v=>by
   rw[Bw8 e]at hn;exact(List.nodup_cons.1 hn).1 (List.mem_filterMap.2 ⟨c,Bwv t,v⟩)
  cases i with
  | zero =>
   cases j with
   | zero=>exact hij rfl
   | succ j =>
    simp only[Bxq,Option.some.injEq]at hi;subst hi;exact p ha (by simpa using hj) m
  | succ i =>
   cases j with
   | zero =>
    simp only[Bxq,Option.some.injEq]at hj;subst hj;exact p m (by simpa using hi) ha
   | succ j=>exact Bla s (i:=i) (j:=j) Bd (by simpa using hi) (by simpa using hj) ha m
theorem Dw.obj{k:Cv}{l:List Bh}{z:List Int}{v:Dh}{w:World}(h:Dw k A l z v w)(m:u<A.length):∃g,v.oa=some ⟨g,0,none⟩/\g<w.heap.size/\w.cell? ⟨g,u*2,none⟩=some (.int .i64 (A.getD u (0,[])).1)/\w.cell? ⟨g,u*2+1,none⟩=some (v.ov.getD u (.slice none 0 0))/\∀j,w.frozen? ⟨g,j,none⟩=false:=by
 obtain⟨g,e,p,_,f⟩:=Cf h.objs Bd;obtain⟨a,b⟩:=Bec A v.ov h.ovl u m;have s:=Bcb A v.ov h.ovl;refine⟨g,e,p,by rw[f _ Bd];exact a,by rw[f _ Bd];exact b,?_⟩;intro j;obtain⟨_,⟨c,t⟩|⟨B,C,D,c,_,q,_⟩⟩:=h.objs
 ·omega
 rw[e]at c;simp only[Value.slice.injEq,Option.some.injEq,Addr.mk.injEq,Bwb]at c;obtain⟨rfl,_⟩:=c;exact Bj q j
def Dw.flds_ne{k:Cv}{b:List Bh}{v:Dh}(h:Dw k A b z v w){i j:Nat}{g:Nat}(c:i<A.length)(f:j<A.length)(m:i≠j) (l:(v.ov.getD i (.s none 0 0)).ownBlock=some g):(v.ov.getD j (.s none 0 0)).ownBlock≠some g:=by
 have p:=h.ovl;have e:∀q,q<A.length->(Value.slice v.xa z.length v.xc::v.ov)[q+1]?=some (v.ov.getD q (.s none 0 0)):=fun q t=>by
  rw[Bwi,Th,Ws Bd];rfl
 exact Bla h.nd (i:=i+1) (j:=j+1) Bd (e i c) (e j f) l
def Dw.out_ne{k:Cv}{b:List Bh}{v:Dh}(h:Dw k A b z v w){i:Nat}{g:Nat}(f:i<A.length) (c:(v.ov.getD i (.s none 0 0)).ownBlock=some g):(Value.slice v.xa z.length v.xc).ownBlock≠some g:=by
 have l:=h.ovl;have e:(Value.slice v.xa z.length v.xc::v.ov)[i+1]?=some (v.ov.getD i (.s none 0 0)):=by
  rw[Bwi,Th,Ws Bd];rfl
 exact Bla h.nd (i:=i+1) (j:=0) Bd e rfl c
def Bbi(k:Cv)(S:Bo)(v:Dh)(r:Int)(w:TW)(h:Bz k S v w):Calls prog 284 #[.q k.B 10,.i r] w fun e c=>e=.r (.bool (Nl r S.objs))/\c=w:=by
 have g:=h.sees.c10;unfold Nl;by_cases f:1<=r
 ·by_cases b:r<=(S.objs.length:Int);·clear h;go_in;go_wp2;go_ret;exact⟨by simp[f,b],rfl⟩
  clear h;go_in;go_wp2;go_ret;exact⟨by simp[b],rfl⟩
 clear h;go_in;go_wp2;go_ret;exact⟨Fm,rfl⟩
def Yt{r:Int}:Nl r A=true<->∃i:Nat,i<A.length/\r=(i:Int)+1:=by
 unfold Nl;rw[Bwk,Bwp,Bwp]
 constructor
 ·intro ⟨a,b⟩;exact⟨(r-1).toNat,Bd,Bd⟩
 rintro ⟨i,a,rfl⟩;omega
def V5(k:Cv)(S:Bo)(v:Dh)(r:Int)(w:TW)(h:Bz k S v w):Calls prog 250 #[.q k.B 10,.i r] w fun e j=>e=.r (.i (Id r S.objs))/\j=w:=by
 have c:=Bbi k S v r w h;have l:=h.sees.c10;unfold Id;cases b:Nl r S.objs with
 | false =>
  rw[b]at c;rw[Pf Fr];clear h b;go_in;go_wp2_with fail;refine Qm c ?_;rintro m rfl;go_wp2;go_ret;exact⟨rfl,rfl⟩
 | true =>
  rw[b]at c;rw[Sp rfl];obtain⟨i,p,rfl⟩:=Yt.1 b;unfold Mv;have e:((i:Int)+1-1).toNat=i:=Bd;rw[e];obtain⟨g,f,A,C,s,t⟩:=h.rows.obj p;rw[f]at l;have D:(i:Int)<(S.objs.length:Int):=Bd;have F:S.objs.length<=9223372036854775807:=by
   obtain⟨_,⟨_,G⟩|⟨_,I,_,_,_,_,J,z,_⟩⟩:=h.rows.objs
   ·omega
   unfold maxLen at z;omega
  clear h b e t s f;generalize (S.objs.getD i (0,[])).1=K at *;go_in;go_wp2_with fail;refine Qm c ?_;rintro m rfl;go_wp2;go_ret;exact⟨rfl,rfl⟩
def Zm(k:Cv)(S:Bo)(v:Dh)(r s:Int)(w:TW)(h:Bz k S v w):Calls prog 302 #[.q k.B 10,.i r,.i s] w fun e t=>e=.r (.bool (Jm r s S.objs))/\t=w:=by
 have c:=Bbi k S v r w h;have z:=h.sees.c10;unfold Jm;cases b:Nl r S.objs with
 | false =>
  rw[b]at c;rw[Bx0];clear h b;go_in;go_wp2_with fail;refine Qm c ?_;rintro f rfl;go_wp2;go_ret;exact⟨rfl,rfl⟩
 | true =>
  rw[b]at c;rw[Bxn];by_cases j:0<=s
  ·obtain⟨i,l,rfl⟩:=Yt.1 b;unfold Mv;have e:((i:Int)+1-1).toNat=i:=Bd;rw[e,Bxp j,Bxn];obtain⟨g,m,G,A,C,D⟩:=h.rows.obj l;rw[m]at z;have I:(i:Int)<(S.objs.length:Int):=Bd;have J:S.objs.length<=9223372036854775807:=by
    obtain⟨_,⟨_,K⟩|⟨_,L,_,_,_,_,N,F,_⟩⟩:=h.rows.objs
    ·omega
    unfold maxLen at F;omega
   obtain⟨O,Q,p⟩:=Bg (h.rows.flds i l);rw[p]at C;clear h b e D A m p;generalize (S.objs.getD i (0,[])).2=V at *;go_in;go_wp2_with fail;refine Qm c ?_;rintro f rfl;go_wp2;go_ret;exact⟨rfl,rfl⟩
  rw[Bwx j,Bx0];clear h b;go_in;go_wp2_with fail;refine Qm c ?_;rintro f rfl;go_wp2;go_ret;exact⟨rfl,rfl⟩
def Ak{r B:Int}:Jm r B A=true<->∃i j:Nat,i<A.length/\r=(i:Int)+1/\B=(j:Int)/\j<(A.getD i (0,[])).2.length:=by
 unfold Jm;rw[Bwk,Yt,Bwk,Bwp,Bwp]
 constructor
 ·rintro ⟨⟨i,b,rfl⟩,f,c⟩;have e:((i:Int)+1-1).toNat=i:=Bd;unfold Mv at c;rw[e]at c;exact⟨i,B.toNat,b,rfl,Bd,Bd⟩
 rintro ⟨i,j,b,rfl,rfl,g⟩;have e:((i:Int)+1-1).toNat=i:=Bd;refine⟨⟨i,b,rfl⟩,Bd,?_⟩;unfold Mv;rw[e];omega
def Dw.ol{k:Cv}{b:List Bh}{v:Dh}(h:Dw k A b z v w):A.length<=9223372036854775807:=by
 obtain⟨_,⟨_,e⟩|⟨_,f,_,_,_,_,g,c,_⟩⟩:=h.objs
 ·omega
 unfold maxLen at c;omega
def Bgo(i:Nat)(l:List (Int×List Int)):Mv ((i:Int)+1) l=l.getD i (0,[]):=by
 unfold Mv;rw[show ((i:Int)+1-1).toNat=i by omega]
def Bqe(k:Cv)(S:Bo)(v:Dh)(r s:Int)(w:TW)(h:Bz k S v w):Calls prog 282 #[.q k.B 10,.i r,.i s] w fun e A=>e=.r (.i (Vr r s S.objs))/\A=w:=by
 have c:=Zm k S v r s w h;have C:=h.sees.c10;unfold Vr;cases b:Jm r s S.objs with
 | false =>
  rw[b]at c;rw[Pf Fr];clear h b;go_in;go_wp2_with fail;refine Qm c ?_;rintro D rfl;go_wp2;go_ret;exact⟨rfl,rfl⟩
 | true =>
  rw[b]at c;rw[Sp rfl];obtain⟨i,j,l,rfl,rfl,m⟩:=Ak.1 b;rw[Bgo,Bvn];obtain⟨g,p,L,F,G,I⟩:=h.rows.obj l;rw[p]at C;have N:(i:Int)<(S.objs.length:Int):=Bd;have O:=h.rows.ol;have f:=h.rows.flds i l;obtain⟨Q,V,t⟩:=Bg f;rw[t]at G f;obtain⟨Y,J,Z,z⟩:=Ai f Bd;have z0:=z j m;have e:(S.objs.getD i (0,[])).2.getD j 0=(S.objs.getD i (0,[])).2[j]:=by rw[Th,Ws m];rfl
  rw[e];have a0:(j:Int)<((S.objs.getD i (0,[])).2.length:Int):=Bd;clear h b I F p t f z e;generalize (S.objs.getD i (0,[])).2=K at *;generalize K[j]=x at *;subst J;go_in;go_wp2_with fail;refine Qm c ?_;rintro D rfl;go_wp2;go_ret;exact⟨rfl,rfl⟩
def Bg1{g n K j:Nat}(h:Du w u (.s (.p g) n K) z)(B:j<z.length)(x:Int):Du (w.setCell (.a g j) (.i x)) u (.s (.p g) n K) (z.set j x)/\w.frozen? (.a g j)=false:=by
 obtain⟨C,⟨e,D⟩|⟨F,G,I,e,q,f,t,v,A,m⟩⟩:=h
 ·simp at e
 simp only[Value.slice.injEq,Option.some.injEq,Addr.mk.injEq,Bwb]at e;obtain⟨rfl,rfl,rfl⟩:=e;refine⟨⟨Fr,.inr ⟨g,K,_,Fr,q,Bq f _,by simpa using t,v,by simpa using A,?_⟩⟩,Bj f j⟩;simp only[B06]at m ⊢;rw[Bv7,Byj,<- m,Byn,Bzv]
def Dw.putF{k:Cv}{O:List Bh}{v:Dh}(h:Dw k A O z v w)(Z:k.Ok){f j n c:Nat}(m:u<A.length)(hj:f<(A.getD u (0,[])).2.length) (B:v.ov.getD u (.s none 0 0)=.s (.p j) n c)(x:Int):Dw k (A.set u ((A.getD u (0,[])).1,(A.getD u (0,[])).2.set f x)) O z v (w.setCell (.a j f) (.i x)):=by
 have t:=h.flds u m;have C:(v.ov.getD u (.s none 0 0)).ownBlock=some j:=by rw[B];rfl
 have a2:=(t.lt j C).1;have a3:=(t.lt j C).2;have J:∃Q:TV,w.heap[j]?=some (.cells Q.toArray 3 (0,0)):=by
  rw[B]at t;obtain⟨_,⟨D,_⟩|⟨g',a4,a0,D,_,hg,_⟩⟩:=t
  ·simp at D
  simp only[Value.slice.injEq,Option.some.injEq,Addr.mk.injEq,Bwb]at D;obtain⟨rfl,_⟩:=D;exact⟨a0.toList,by simpa using hg⟩
 obtain⟨Q,J⟩:=J;have V:∀q,q≠j->(w.setCell (.a j f) (.i x)).heap[q]?=w.heap[q]?:=fun q l=>Bvg _ _ _ _ (by simpa using l);have F:∀{b e G n:Nat}{g:TX}{I:TV},w.ownsRow b e G g n I->g.ownBlock≠some j->(w.setCell (.a j f) (.i x)).ownsRow b e G g n I:=fun K L=>Gs K (fun q l=>V q (fun e=>L (e▸l)));have Y:∀{b e G n:Nat}{g:TX}{I:TV},w.ownsRow b e G g n I->e≠3->g.ownBlock≠some j:=fun K he L=>Gd K J he j L rfl;have a1:(A.set u ((A.getD u (0,[])).1,(A.getD u (0,[])).2.set f x)).map Prod.fst=A.map Prod.fst:=by
  rw[Byj];apply Bzy;intro q;rw[Bxi];by_cases e:u=q;·subst e;rw[Sp rfl,Sp (by simpa using m),Bv8,Th,Ws m];rfl
  rw[Pf e]
 have hB:=Z.Bs;refine⟨?_,by rw[Bv7];exact h.ovl,by rw[Bv7];exact h.obk,fun q l=>?_,F h.wait (Y h.wait Ck),h.wwf,F h.out (h.out_ne m C),h.nd,fun q h1 h2 h3=>?_,?_,?_⟩
 ·rw[Bv7,Bas _ _ _ a1];exact F h.objs (Y h.objs Ck)
 ·rw[Bv7]at l;by_cases e:q=u
  ·subst e;have N:(A.set q ((A.getD q (0,[])).1,(A.getD q (0,[])).2.set f x)).getD q (0,[])=((A.getD q (0,[])).1,(A.getD q (0,[])).2.set f x):=by
    rw[Th,Bx2 m];rfl
   rw[N,B];rw[B]at t;exact(Bg1 t hj x).1
  have N:(A.set u ((A.getD u (0,[])).1,(A.getD u (0,[])).2.set f x)).getD q (0,[])=A.getD q (0,[]):=by
   rw[Th,Bxw Bd,<- Th]
  rw[N];exact F (h.flds q l) (h.flds_ne m l Bd C)
 ·rw[V q Bd];exact h.keep q h1 h2 h3
 ·exact h.low.setCell Fm _
 simp[World.setCell];exact h.szs
def Bp9(k:Cv)(S:Bo)(v:Dh)(r s x:Int)(w:TW)(A:k.Ok)(h:Bz k S v w):Calls prog 283 #[.q k.B 10,.i r,.i s,.i x] w fun e I=>e=.r (.tuple #[])/\Bz k (S.withObjs (Tt r s x S.objs)) v I:=by
 have c:=Zm k S v r s w h;have J:=h.sees.c10;unfold Tt;cases b:Jm r s S.objs with
 | false =>
  rw[b]at c;rw[Pf Fr];clear b;go_in;go_wp2_with fail;refine Qm c ?_;rintro K rfl;go_wp2;go_end0;exact⟨rfl,h⟩
 | true =>
  rw[b]at c;rw[Sp rfl];obtain⟨i,j,t,rfl,rfl,z⟩:=Ak.1 b;rw[Bgo,Bvn,show ((i:Int)+1-1).toNat=i by omega];obtain⟨g,C,a0,L,N,O⟩:=h.rows.obj t;rw[C]at J;have a1:(i:Int)<(S.objs.length:Int):=Bd;have hl:=h.rows.ol;have f:=h.rows.flds i t;obtain⟨fa,fc,l⟩:=Bg f;have m:=f;rw[l]at N m;obtain⟨p,Q,a2,D⟩:=Ai m Bd;have z0:=D j z;have a3:(j:Int)<((S.objs.getD i (0,[])).2.length:Int):=Bd;subst Q;have zf:=(Bg1 m z x).2;have F:=h.rows.putF A t z l x;have V:p≠k.B:=by
   have Y:(v.ov.getD i (.s none 0 0)).ownBlock=some p:=by rw[l];rfl
   have:=(f.lt p Y).1;have:=A.Bs;omega
  have G:Bz k (S.withObjs (S.objs.set i ((S.objs.getD i (0,[])).1,(S.objs.getD i (0,[])).2.set j x))) v (w.setCell (.a p j) (.i x)):=by
   refine⟨?_,h.wf,F⟩;have b:=h.blk;unfold Mid at b ⊢;rw[Bvg _ _ _ _ (by simpa using Bxc V)];simpa[Bo.withObjs] using b
  have Z:=Bc G;clear b O L C l f m D F G h;generalize (S.objs.getD i (0,[])).2=fs at *;generalize fs[j]=x0 at *;go_in;go_wp2_with fail;refine Qm c ?_;rintro K rfl;go_wp2;go_end0;exact⟨rfl,Ba Z⟩
def Bh8{c j n g m f:Nat}(h:w.ownsRow u c j (.s (.p g) n m) n e)(i:TX):(w.setCell (.a g f) i).ownsRow u c j (.s (.p g) n m) n (e.set f i):=by
 obtain⟨q,⟨l,D⟩|⟨F,G,I,l,t,v,z,A,B,C⟩⟩:=h
 ·simp at l
 simp only[Value.slice.injEq,Option.some.injEq,Addr.mk.injEq,Bwb,Byl]at l;obtain⟨rfl,rfl⟩:=l;refine⟨by simpa using q,.inr ⟨g,m,_,rfl,t,Bq v _,z,A,by simpa using B,?_⟩⟩;rw[<- C,Byn,Bzv]
def Bhe{α β:Type}{f:α->Option β}:∀(l:List α) (i:Nat) (y:α),(l.filterMap f).Nodup->(∀g,f y=some g->∀u∈l,f u≠some g)->((l.set i y).filterMap f).Nodup
 | [],_,_,h,_=>h
 | x::r,0,y,h,hy=>by
  rw[Byw];have p:(r.filterMap f).Nodup:=by
   cases c:f x with
   | none=>rw[Bxv c]at h;exact h
   | some z=>rw[Bw8 c]at h;exact(List.nodup_cons.1 h).2
  cases j:f y with
  | none=>rw[Bxv j];exact p
  | some g =>
   rw[Bw8 j];refine List.nodup_cons.2 ⟨fun m=>?_,p⟩;obtain⟨u,b,e⟩:=List.mem_filterMap.1 m;exact hy g j u (by simp[b]) e
 | x::r,i+1,y,h,hy=>by
  rw[Bwf];have q:∀g,f y=some g->∀u∈r,f u≠some g:=fun g s u b=>hy g s u (by simp[b]);cases c:f x with
  | none =>
   rw[Bxv c]at h ⊢;exact Bhe r i y h q
  | some z =>
   rw[Bw8 c]at h ⊢;obtain⟨t,v⟩:=List.nodup_cons.1 h;refine List.nodup_cons.2 ⟨fun m=>?_,Bhe r i y v q⟩;obtain⟨u,b,e⟩:=List.mem_filterMap.1 m;rcases Bw6 b with b|rfl
   ·exact t (List.mem_filterMap.2 ⟨u,b,e⟩)
   exact hy z e x Fr c
def Dh.setO(v:Dh)(i:Nat)(u:TX):Dh:=⟨v.oa,v.oc,v.wa,v.wc,v.xa,v.xc,v.ov.set i u⟩
def Dw.setF{k:Cv}{F:List Bh}{v:Dh}(h:Dw k A F z v w)(O:k.Ok){g:Nat}(G:u<A.length)(j:v.oa=some ⟨g,0,none⟩){i:TX}{C:TI} (Q:Du w k.w0.heap.size i C)(V:∀q,i.ownBlock=some q->∀x∈(Value.slice v.xa z.length v.xc::v.ov),x.ownBlock≠some q):Dw k (A.set u ((A.getD u (0,[])).1,C)) F z (v.setO u i) (w.setCell (.a g (u*2+1)) i):=by
 have m:=h.objs;rw[j]at m;have ho:(Value.slice (.p g) A.length v.oc).ownBlock=some g:=rfl;have D:∃I:TV,w.heap[g]?=some (.cells I.toArray 215 (0,0)):=by
  obtain⟨_,⟨t,_⟩|⟨g',a0,Y,t,_,j,_⟩⟩:=m
  ·simp at t
  simp only[Value.slice.injEq,Option.some.injEq,Addr.mk.injEq,Bwb]at t;obtain⟨rfl,_⟩:=t;exact⟨Y.toList,by simpa using j⟩
 obtain⟨I,D⟩:=D;have J:∀q,q≠g->(w.setCell (.a g (u*2+1)) i).heap[q]?=w.heap[q]?:=fun q c=>Bvg _ _ _ _ (by simpa using c);have B:∀{b e K n:Nat}{x:TX}{L:TV},w.ownsRow b e K x n L->e≠215->(w.setCell (.a g (u*2+1)) i).ownsRow b e K x n L:=fun N Z=>Gs N (fun q c=>J q (Gd N D Z q c));have hB:=O.Bs;have a1:=h.obk g (by rw[j];rfl);have a2:=h.ovl;have a3:=(m.lt g rfl).1;refine⟨?_,by simp[Dh.setO,h.ovl],by rw[Bv7];exact h.obk,fun q c=>?_,B h.wait Ck,h.wwf,B h.out Ck,?_,fun q h1 h2 h3=>?_,?_,?_⟩
 ·rw[Bv7];show (w.setCell (.a g (u*2+1)) i).ownsRow _ _ 2 (.s v.oa _ v.oc) _ (ocells _ (v.ov.set u i));rw[<- Bca A v.ov h.ovl u _ C i rfl G,j];exact Bh8 m i
 ·rw[Bv7]at c;show Du _ _ ((v.ov.set u i).getD q (.s none 0 0)) _;by_cases e:q=u;·subst e;rw[Th,Bx2 Bd,Th,Bx2 G];exact B Q Ck
  rw[Th,Bxw Bd,<- Th,Th (l:=A.set u _),Bxw Bd,<- Th];exact B (h.flds q c) Ck
 ·have:=Bhe (f:=Value.ownBlock) (Value.slice v.xa z.length v.xc::v.ov) (u+1) i h.nd V;rw[Bwf]at this;exact this
 ·rw[J q Bd];exact h.keep q h1 h2 h3
 ·exact h.low.setCell Fm _
 simp[World.setCell];exact h.szs
def Bp6(k:Cv)(S:Bo)(v:Dh)(r:Int)(f:TA)(j:Nat)(b:TI)(w:TW)(F:k.Ok)(h:Bz k S v w)(p:Du w k.w0.heap.size (.s f b.length j) b) (t:∀q,(Value.slice f b.length j).ownBlock=some q->∀x∈(Value.slice v.xa S.out.length v.xc::v.ov),x.ownBlock≠some q):Calls prog 280 #[.q k.B 10,.i r,.s f b.length j] w fun e G=>e=.r (.tuple #[])/\∃I,Bz k (S.withObjs (Tq r b S.objs)) I G:=by
 have l:=Bbi k S v r w h;have J:=h.sees.c10;unfold Tq;cases c:Nl r S.objs with
 | false =>
  rw[c]at l;rw[Pf Fr];clear c p t;go_in;go_wp2_with fail;refine Qm l ?_;rintro K rfl;go_wp2;go_end0;exact⟨rfl,v,h⟩
 | true =>
  rw[c]at l;rw[Sp rfl];obtain⟨i,z,rfl⟩:=Yt.1 c;rw[Bgo,show ((i:Int)+1-1).toNat=i by omega];obtain⟨g,m,Q,L,V,A⟩:=h.rows.obj z;have C:=h.rows.setF F z m p t;have Y:(i:Int)<(S.objs.length:Int):=Bd;have Z:=h.rows.ol;have a0:=A (i*2+1);have N:g≠k.B:=by
   have:=Gd h.rows.objs h.blk Ck g (by rw[m];rfl);exact this
  rw[m]at J;have D:Bz k (S.withObjs (S.objs.set i ((S.objs.getD i (0,[])).1,b))) (v.setO i (.s f b.length j)) (w.setCell (.a g (i*2+1)) (.s f b.length j)):=by
   refine⟨?_,h.wf,C⟩;have c:=h.blk;unfold Mid at c ⊢;rw[Bvg _ _ _ _ (by simpa using Bxc N)];simpa[Bo.withObjs,Jr,Hp,Dh.setO] using c
  have O:=Bc D;generalize v.ov.getD i (.s none 0 0)=a1 at *;clear c A L m C D h p t;go_in;go_wp2_with fail;refine Qm l ?_;rintro K rfl;go_wp2;go_end0;exact⟨rfl,_,Ba O⟩
def Tryz.infoObj:(prog.info? 215).map (fun i=>(i.zero,i.size,i.bytes))=some (some (.agg #[.i 0,.s none 0 0]),2,32):=Le
def Bz.drewN{k:Cv}{S:Bo}{v:Dh}(h:Bz k S v w)(b:k.Ok)(n:Nat):Bz k S v (w.drewN n):=h.gr b ⟨rfl,rfl,rfl,Wf _,fun _ _=>rfl⟩
def Bz.drew{k:Cv}{S:Bo}{v:Dh}(h:Bz k S v w)(b:k.Ok):Bz k S v w.drew:=h.gr b ⟨rfl,rfl,rfl,Wf _,fun _ _=>rfl⟩
def Dw.addO{k:Cv}{L:List Bh}{v:Dh}{b:TW}(h:Dw k A L z v w)(Y:k.Ok)(N:w.heap[k.B]?=some (.cells e.toArray 156 (0,0))){c:Int}{F:TA} (Z:b.ownsRow k.wE.heap.size 215 2 (.s F (A.length+1) u) (A.length+1) (ocells A v.ov++[.i c,.s none 0 0]))(p:w.grownBy b (Value.slice v.oa A.length v.oc).ownBlock) (a0:(Value.slice F (A.length+1) u).ownBlock=(Value.slice v.oa A.length v.oc).ownBlock\/(Value.slice F (A.length+1) u).ownBlock=some w.heap.size):Dw k (A++[(c,[])]) L z ⟨F,u,v.wa,v.wc,v.xa,v.xc,v.ov++[.s none 0 0]⟩ b/\b.heap[k.B]?=w.heap[k.B]?:=by
 have G:=h.objs;have a1:∀g,(Value.slice v.oa A.length v.oc).ownBlock=some g->∃e:TV,w.heap[g]?=some (.cells e.toArray 215 (0,0)):=fun g C=>by
  obtain⟨_,⟨I,_⟩|⟨g',a5,a2,I,_,p,_⟩⟩:=G
  ·rw[I]at C;simp[Value.ownBlock]at C
  rw[I]at C;simp only[Value.ownBlock,Option.some.injEq]at C;subst C;exact⟨a2.toList,by simpa using p⟩
 have J:∀{f m O n:Nat}{x:TX}{Q:TV},w.ownsRow f m O x n Q->m≠215->b.ownsRow f m O x n Q:=fun K he=>Gs K (fun q t=>p.block q (K.lt q t).2 (fun m=>by
  obtain⟨e,hc⟩:=a1 q m.symm;exact Gd K hc he q t rfl))
 have a6:=Y.Bs;have a3:=h.ovl;have a4:b.heap[k.B]?=w.heap[k.B]?:=p.block k.B (Pk N) (fun m=>Gd G N Ck k.B m.symm rfl);refine⟨⟨?_,by simp[h.ovl],fun j D=>?_,fun q t=>?_,J h.wait Ck,h.wwf,J h.out Ck,?_,fun q V h2 h3=>?_,?_,Bvv h.szs p.size⟩,a4⟩
 ·rw[Up,Bw0,Ys _ _ h.ovl];exact Z
 ·rw[Up,Bw0]at D;rcases a0 with m|m
  ·rw[m]at D;exact h.obk j D
  rw[m]at D;have:w.heap.size=j:=by simpa using D
  exact .inr (by rw[<- this];exact h.szs)
 ·rw[Up,Bw0]at t;by_cases m:q<A.length;·show Du _ _ ((v.ov++[Value.slice none 0 0]).getD q _) _;rw[Th,Bvy Bd,<- Th,Th (l:=A++_),Bvy m,<- Th];exact J (h.flds q m) Ck
  have eq:q=A.length:=Bd;subst eq;show Du _ _ ((v.ov++[Value.slice none 0 0]).getD _ _) _;rw[Th,Bvt Bd,Th (l:=A++_),Bvt Bd,a3];simp only[Byx,Bxq,Bz7];exact Bvl _ _ _ _
 ·have m:(Value.slice v.xa z.length v.xc::(v.ov++[.s none 0 0])).filterMap Value.ownBlock=(Value.slice v.xa z.length v.xc::v.ov).filterMap Value.ownBlock:=by
   rw[<- Bws,List.filterMap_append];simp[Value.ownBlock]
  rw[m];exact h.nd
 ·rw[p.block q (Bvm V h.szs) (fun m=>by rcases h.obk q m.symm with e'|e'<;>omega)];exact h.keep q V h2 h3
 exact⟨p.os.trans h.low.os,p.tape.trans h.low.tape,p.output.trans h.low.output,Bvv h.low.size p.size,
  fun q t=>(p.block q (Bvm t h.low.size) (fun m=>by have:=(G.lt q m.symm).1;omega)).trans (h.low.block q t)⟩
def Bgv(k:Cv)(S:Bo)(v:Dh)(c:Int)(w:TW)(b:k.Ok)(h:Bz k S v w)(g:S.objs.length<=1000)(j:k.room<=(S.objs.length:Int)-5):Calls prog 278 #[.q k.B 10,.i c] w fun e f=>e=.r (.tuple #[.i 0,.bool false])/\Bz k S v f:=by
 have l:=h.sees.c10;have m:=h.sees.c11;obtain⟨p,s⟩:=b.rm;go_in;go_wp2;go_quiet (fail);go_wp2;go_ret2;exact⟨rfl,h.drewN b _⟩
def Bqm(k:Cv)(S:Bo)(v:Dh)(f:Int)(w:TW)(b:k.Ok)(h:Bz k S v w)(a1:S.objs.length<=1000)(hr:¬k.room<=(S.objs.length:Int)-5):Calls prog 278 #[.q k.B 10,.i f] w fun e J=>e=.r (.tuple #[.i ((S.objs.length:Int)+1),.bool true])/\∃p,Bz k (S.withObjs (S.objs++[(f,[])])) p J:=by
 have a2:=h.sees.c10;have a3:=h.sees.c11;have a4:=h.sees.fr 10;obtain⟨r0,r1⟩:=b.rm;obtain⟨K,L,N,O,Q⟩:=Bv4 Tryz.infoObj;have a5:=h.rows.low.size;have t:Hid (Bz k S v w):=h;have V:=h.rows.objs;clear h;go_in;go_wp2;go_quiet (fail);rename_i nq;have l:=(Ba t).drewN b nq;have z:=l.rows.objs;have A:=Bc l;clear l V;go_wp2_with (at_builtin;refine Bxg _ rfl _ _ 146 rfl k.wE.heap.size 215 K _ 2 32 underlying146 L N O Q rfl Ck _ _ _ rfl (z.alloc _) ⟨w.heap.size,0,none⟩ 1 1 [.i f,.s none 0 0] rfl rfl ?c1 ?c2 ?c3 ?c4 ?c5 ?_)
 case c1=>exact Dv _ _ _ _ rfl
 case c2=>intro u C;simp at C;rcases C with rfl|rfl<;>rfl
 case c3=>unfold maxLen;omega
 case c4=>omega
 case c5=>simp;omega
 intro p Y m D _ F;obtain⟨Z,oc,rfl⟩:=Bg m;have c:=(Ba A).gr b (QN (O30 f none 0 0));obtain⟨G,I⟩:=c.rows.addO b c.blk m D (by simpa using F);have g:Mid Y k.B 156 (Jr k S.read S.objs.length v) S.now.cells (Hp v S.wait.length S.out.length S.ended S.status S.value S.steps):=I.trans c.blk;have a0:=g.front.cell (o:=0) (j:=10) rfl (by rw[Jc];omega);have a6:=g.free 10;have HM:=Bc g;have HR:=Bc G;have HW:=Bc c.wf;simp[Jr]at a0;clear g G c A t m D F I z;go_wp2;go_ret2;refine⟨rfl,⟨Z,oc,v.wa,v.wc,v.xa,v.xc,v.ov++[.s none 0 0]⟩,?_⟩;exact Bot (Ba HM) (Jc _ _ _ _) (Ba HW) b Bd _ rfl (by simp[Jr,Bo.withObjs]) rfl (Ba HR)
def Bis(c:Int)(w:TW)(f:0<=c)(g:c<=100):Calls prog 277 #[.i c] w fun e b=>e=.r (.i (c-2+1))/\b=w:=by
 go_in;go_wp2;go_ret;exact⟨rfl,rfl⟩
def Yl:∀(W:List Bh),(∀c∈W,Em c)->(W.flatMap Bh.cells).length=W.length*20
 | [],_=>rfl
 | c::r,h=>by
  rw[Bwj,Up,Yl r (fun x b=>h x (by simp[b])),(h c Fr).len,Bvo];omega
def Bp4{c j n m f:Nat}{a:TA}{T:TV}(h:w.ownsRow u c j (.s a n f) n (e++T))(i:e.length=m*j)(p:m<=n)(C:0<n):w.ownsRow u c j (.s a m f) m e:=by
 obtain⟨D,⟨l,F⟩|⟨g,G,q,l,t,v,I,z,A,B⟩⟩:=h
 ·omega
 simp only[Value.slice.injEq,Byl]at l;obtain⟨rfl,rfl⟩:=l;refine⟨i,.inr ⟨g,f,q,rfl,t,v,Bd,z,A,?_⟩⟩;have:=congrArg (List.take (m*j)) B;rw[Bxu,Bx5 (Bze _ p),<- i,List.take_left]at this;rw[<- i];exact this
def Dw.last{k:Cv}{W:List Bh}{c:Bh}{v:Dh}(h:Dw k A (W++[c]) z v w):∃g,v.wa=some ⟨g,0,none⟩/\g<w.heap.size/\w.rangeAt g (W.length*20) c.cells/\W.length<v.wc/\v.wc<=maxLen:=by
 have b:=h.wait;obtain⟨g,l,m,_,p⟩:=Cf b Fr;have e:=Yl W (fun x q=>h.wwf x (by simp[q]));refine⟨g,l,m,fun j u f=>?_,?_⟩
 ·have C:=(List.getElem?_eq_some_iff.1 f).1;rw[p _ (by rw[Bwl,Up,e];simp;omega),Bwl,Bvt Bd,e,show W.length*20+j-W.length*20=j by omega];simpa using f
 obtain⟨_,⟨_,s⟩|⟨D,F,G,i,_,_,t,B,_⟩⟩:=b
 ·simp at s
 simp only[Value.slice.injEq]at i;obtain⟨_,_,rfl⟩:=i;simp at t;exact⟨Bd,B⟩
def Dw.drop{k:Cv}{W:List Bh}{c:Bh}{v:Dh}(h:Dw k A (W++[c]) z v w):Dw k A W z v w:=by
 refine⟨h.objs,h.ovl,h.obk,h.flds,?_,fun x b=>h.wwf x (by simp[b]),h.out,h.nd,h.keep,h.low,h.szs⟩;have e:=h.wait;rw[Bwl]at e;exact Bp4 e (Yl W (fun x b=>h.wwf x (by simp[b]))) Fr Fr
def Bgu(k:Cv)(S:Bo)(v:Dh)(w:TW)(h:Bz k S v w)(b:S.wait=[]):Calls prog 252 #[.q k.B 0] w fun e f=>e=.r (.bool false)/\Bz k S v f:=by
 have c:=h.sees.c32;rw[b]at c;simp at c;clear b;go_in;go_wp2;go_ret;exact⟨rfl,h⟩
def Ad(k:Cv)(S:Bo)(v:Dh)(W:List Bh)(c:Bh)(w:TW)(A:k.Ok)(h:Bz k S v w)(m:S.wait=W++[c]):Calls prog 252 #[.q k.B 0] w fun e J=>e=.r (.bool true)/\Bz k ⟨S.read,S.objs,c,W,S.ended,S.out,S.status,S.value,S.steps⟩ v J:=by
 have p:=h.sees.c32;have f:=h.rows;rw[m]at p f;obtain⟨g,t,a0,K,a1,L⟩:=f.last;have b:Em c:=f.wwf c Fr;have C:=f.drop;have z:=h.blk;have N:S.wait.length=W.length+1:=by rw[m];simp
 rw[N]at z;have i:=So c.cells _ S.now.cells _ w (by rw[h.wf.len,b.len]) z;rw[Jc]at i;have D:=T7 k.B c.cells 12 w;have F:=C.gr A h.blk D;have O:w.there k.B 12 c.cells.toArray.size:=h.blk.there (o:=12) rfl (by rw[h.wf.len];simp[b.len]);have Q:(prog.info? 152).map (·.size)=some c.cells.toArray.size:=by rw[Tryz.infoCall];simp[b.len]
 have V:(prog.info? 152).map (·.size)=some c.cells.length:=by rw[Tryz.infoCall];simp[b.len]
 have Y:=Bya (Ph c);have l:=Ve (j:=0) (S':=⟨S.read,S.objs,c,W,S.ended,S.out,S.status,S.value,S.steps⟩) (v':=v) i (Jc _ _ _ _) (M4 _ _ _ _ _ _ _) b A Bd (.s v.wa W.length v.wc) rfl rfl rfl F;have G:=i.tail.cell (o:=32) (j:=0) (by rw[Up,Jc,b.len]) (by rw[M4];omega);have zf:=i.free 32;have I:(Hp v (W.length+1) S.out.length S.ended S.status S.value S.steps)[0]?=some (.s v.wa (W.length+1) v.wc):=rfl;rw[I,t]at G;rw[t]at p l;simp only[Up,Bw0,Bzg]at p G l;have Z:=Bc l;have a2:v.wc<=9223372036854775807:=by unfold maxLen at L;omega
 clear i D F l z f C m t I h;go_in;go_wp2_with (first|(refine wpList_load_mid Hd 152 (.tmp 18) Hd g (W.length*20) Hd c.cells _ K Byy Hd V ?_)|(refine wpList_store_mid Hd 152 (.tmp 21) (.tmp 19) Hd k.B 12 c.cells.toArray Hd Hd O Q Y ?_))
 go_ret;exact⟨rfl,Ba Z⟩
def Aw (r:Option Nat):Int:=match r with
 | none=>0
 | some t=>(t:Int)
def Bib(k:Cv)(S:Bo)(v:Dh)(G:Int)(w:TW)(ok:k.Ok)(h:Bz k S v w)(hH:(k.E.meth S.now.meth).handlers.length<=1000/\∀x∈(k.E.meth S.now.meth).handlers,0<=x.target):Calls prog 285 #[.q k.B 0,.i G] w fun e I=>e=.r (.tuple #[.i (Aw (k.E.target G S.now)),.bool (k.E.target G S.now).isSome])/\Bl w I:=by
 have hm:=Re k S v S.now.meth w ok h;have d4:=h.sees.c12;have b6:=h.sees.c13;have c2:=h.sees.c2;have c3:=h.sees.c3;have hT:=h.rows.tree ok;have a6:=h.blk.lt;have b7:=ok.tl;unfold Ds.target;have eT:k.E.T=k.T:=rfl;rw[eT];generalize k.E.meth S.now.meth=M at *;generalize f:Hy k.T G S.now.pos M.handlers=r;have Z:Hid (Hy k.T G S.now.pos (M.handlers.drop 0)=r):=f;obtain⟨d5,b8⟩:=hH;have HM:=Bc hm;clear hm h f eT;go_in;go_wp2_with fail;refine(Ba HM).mono ?_;rintro e w1 ⟨m,rfl,hM,b9⟩;have b2:=hM.hs;have b4:=hM.hl;obtain⟨m1,m2,m3,m4,m5,m6,m7,m8,m9,ma,mb,mc,md,me,mf,mg,mh,mi⟩:=m;simp only at b2 b4;subst b4;simp only[PM.val];have c0:∀w:TW,(Instr.field 133 (.agg #[.i m1,.i m2,.s m3 m4 m5,.i m6,.i m7,.i m8,.i m9,.s ma mb mc,.s md M.handlers.length mf,.s mg mh mi]) 7).run prog w=.ok (.s md M.handlers.length mf) w:=fun _=>Le;clear HM hM;go_wp2;clear c0
 go_loopw [17] (fun i wr=>∃q:Nat,q<=M.handlers.length/\i=.i (q:Int)/\Hid (Hy k.T G S.now.pos (M.handlers.drop q)=r)/\Bl w1 wr)
  (fun i _=>M.handlers.length-(intOf i).toNat)
 case atStart=>exact⟨0,Bd,rfl,Z,Vm _ _⟩
 case round=>
  obtain⟨q,hq,rfl,Z,N⟩:=hrel;have O:=QB b9 N;by_cases z:q<M.handlers.length
  ·obtain⟨g,hg,a7,_,a4⟩:=Cf b2 Bd;have y0:=(N.cell (p:=.a g (q*4+0)) a7).trans ((a4 _ (De M.handlers q z 0 Bd).2).trans (De M.handlers q z 0 Bd).1);have y1:=(N.cell (p:=.a g (q*4+1)) a7).trans ((a4 _ (De M.handlers q z 1 Bd).2).trans (De M.handlers q z 1 Bd).1);have y2:=(N.cell (p:=.a g (q*4+2)) a7).trans ((a4 _ (De M.handlers q z 2 Bd).2).trans (De M.handlers q z 2 Bd).1);have y3:=(N.cell (p:=.a g (q*4+3)) a7).trans ((a4 _ (De M.handlers q z 3 Bd).2).trans (De M.handlers q z 3 Bd).1);have c1:=b8 _ (Bvh z);have hd:M.handlers.drop q=M.handlers[q]::M.handlers.drop (q+1):=by rw[Wr z]
   have f:=Ba Z;rw[hd,Hy]at f;generalize M.handlers[q]=x at *;obtain⟨A,D,l,t⟩:=x;simp only at y0 y1 y2 y3 c1 f;have d2:=(O.cell (p:=.a k.B 2) a6).trans c2;have d3:=(O.cell (p:=.a k.B 3) a6).trans c3;have c4:=(O.cell (p:=.a k.B 13) a6).trans b6;have a8:k.B<wr.heap.size:=Bvm a6 O.size;have c5:=hT.below O;have a9:=fun w=>Y4 ⟨A,D,l,t⟩ (S.now.pos:Int) w;have b0:=fun w hT=>N1 (ya:=k.ya) (yn:=k.lf.length) (yc:=k.yc) k.T k.tg k.tc G t w b7 hT;have qb:(q:Int)<(M.handlers.length:Int):=Bd;have c6:=N.alloc N.size (O19 A D l t);have CH:=Bf wr (O19 A D l t);subst hg;simp at y0 y1 y2 y3;clear a4 hd Z b2;have j:=Pk CH;obtain⟨Q,V,L,Y⟩:=cl4 CH;have a0:Bl wr (wr.alloc (O19 A D l t)):=QN _;have e2:=(a0.cell (p:=.a k.B 2) a8).trans d2;have e3:=(a0.cell (p:=.a k.B 3) a8).trans d3;have a1:=(a0.cell (p:=.a k.B 13) a8).trans c4;have c7:=c5.below a0;have J:k.B<(wr.alloc (O19 A D l t)).heap.size:=Bvm a8 a0.size;have b5:=QB O a0;have b1:Hid (Bl w1 (wr.alloc (O19 A D l t))):=c6;generalize c8:El ⟨A,D,l,t⟩ (S.now.pos:Int)=CV at *;generalize c9:Tr.within k.T G t=WI at *;clear c8 c9;have a2:=Bc (fun (_:Unit)=>f);clear f;go_wp2;generalize (wr.alloc (O19 A D l t))=wA at *;simp at Q V L Y;refine Bvz (S:=(fun I=>I.C wr.heap.size 0 (.i A)/\I.C wr.heap.size 1 (.i D)/\I.C wr.heap.size 2 (.i l)/\I.C wr.heap.size 3 (.i t)/\I.C k.B 13 (.i (S.now.pos:Int))/\I.C k.B 2 (.s (.p k.tg) k.T.length k.tc)/\I.C k.B 3 (.s k.ya k.lf.length k.yc))) Le ⟨Q,V,L,Y,a1,e2,e3⟩ (fun b=>?_);refine tq 0 (.agg #[.i A,.i D,.i l,.i t]) b ?_;refine tq 1 (.q k.B 0) b ?_;refine tq 2 (.q k.B 0) b ?_;refine tq 3 (.q k.B 12) b ?_;refine tq 4 (.q k.B 13) b ?_;refine tq 5 (.i (S.now.pos:Int)) b ?_;refine tr 6 fun K hK=>?_;go_simp;refine Qm (a9 _) ?_;intro w7 c
   try dsimp only
   clear b;refine hK.out _ _ ⟨QC c j Q,QC c j V,QC c j L,QC c j Y,QC c J a1,QC c J e2,QC c J e3⟩ (fun b=>?_);clear hK K
   try simp only[QX]
   have f:=Ba a2 ();clear a2;cases CV with
   | false =>
    rw[Bx0,Pf Fr]at f;have a3:=Bc f;clear f b0;refine tq 7 (.bool false) b ?_;refine tn 8 undef b ?_;refine tn 9 undef b ?_;refine tn 10 undef b ?_;refine tn 11 undef b ?_;refine tn 12 undef b ?_;refine tn 13 undef b ?_;refine tn 14 undef b ?_;refine tn 15 undef b ?_;refine tq 16 (.bool false) b ?_;refine Bv9 Le ?_ _;have a5:=(Ba b1).drew.trans (c.mono (Ba b1).size);clear b Q V L Y e2 e3 a1 a9;go_wp2;go_roundw
    case rel=>exact⟨q+1,Bd,Lt,a3,a5⟩
    case measure=>simp[intOf];omega
   | true =>
    rw[Bxn]at f;have a2:=Bc (fun (_:Unit)=>f);clear f;refine tq 7 (.bool true) b ?_;refine tq 8 (.q k.B 0) b ?_;refine tq 9 (.q k.B 0) b ?_;refine tq 10 (.q k.B 2) b ?_;refine tq 11 (.agg #[.s (.p k.tg) k.T.length k.tc,.s k.ya k.lf.length k.yc]) b ?_;refine tq 12 (.i G) b ?_;refine tq 13 (.q wr.heap.size 3) b ?_;refine tq 14 (.i t) b ?_;refine tr 15 fun K hK=>?_;go_simp;refine Qm (b0 _ ((show Dl wA.drew k.tg k.T from c7).below c)) ?_;intro w8 F
    try dsimp only
    clear b;refine hK.out _ _ ⟨QC F (QL c j) (QC c j Q),QC F (QL c j) (QC c j V),QC F (QL c j) (QC c j L),QC F (QL c j) (QC c j Y),QC F (QL c J) (QC c J a1),QC F (QL c J) (QC c J e2),QC F (QL c J) (QC c J e3)⟩ (fun b=>?_);clear hK K
    try simp only[QX]
    refine tq 16 (.bool WI) b ?_;refine Bv9 Le ?_ _;have f:=Ba a2 ();cases WI with
    | false =>
     rw[Pf Fr]at f;have a3:=Bc f;have a5:=(Ba b1).drew.trans (c.mono (Ba b1).size);have b3:=QB a5 F;clear b Q V L Y e2 e3 a1 a9 b0 f a2;go_wp2;go_roundw
     case rel=>exact⟨q+1,Bd,Lt,a3,b3⟩
     case measure=>simp[intOf];omega
    | true =>
     rw[Sp rfl]at f;have a3:Hid (Aw r=l/\r.isSome=true):=by
      unfold Hid;rw[<- f];exact⟨by show ((l.toNat:Nat):Int)=l;omega,rfl⟩
     have a5:=b5.drew.trans (c.mono b5.size);have b3:=QB a5 F;have d6:=QC F (QL c j) (QC c j L);clear b Q V L Y e2 e3 a1 a9 b0 f a2;go_wp2;go_ret2;refine⟨?_,b3⟩;rw[(Ba a3).1,(Ba a3).2];rfl
  have d0:q=M.handlers.length:=Bd;subst d0;have f:=Ba Z;rw[List.drop_length]at f;have d1:r=none:=f.symm;clear f Z;subst d1;go_wp2;go_ret2;exact⟨rfl,O⟩
def Cv.Ok.hm{k:Cv}(g:k.Ok)(n:Int):(k.E.meth n).handlers.length<=1000/\∀x∈(k.E.meth n).handlers,0<=x.target:=by
 unfold Ds.meth
 split
 ·exact⟨by simp[Eu],fun x c=>by simp[Eu]at c⟩
 split
 ·exact⟨by simp[Eu],fun x c=>by simp[Eu]at c⟩
 rename_i h i;have j:k.E.ms.length=k.lms.length:=by simp[Cv.E]
 have f:n.toNat<k.lms.length:=Bd;have e:k.E.ms.getD n.toNat Eu=k.lms[n.toNat].1:=by
  rw[Th];simp[Cv.E,f]
 rw[e];obtain⟨a,b⟩:=g.hn _ (Bvh f);exact⟨a,fun x c=>(b x c).1⟩
def Blw (k:Cv)(w:TW):Nat:=match w.cell? ⟨k.B,32,none⟩ with
 | some (.slice _ n _)=>n
 | _=>0
def Bz.wl{k:Cv}{S:Bo}{v:Dh}(h:Bz k S v w):Blw k w=S.wait.length:=by
 unfold Blw;rw[h.sees.c32]
def Blx:TX->Nat
 | .bool true=>1
 | _=>0
def Bcc(k:Cv)(S:Bo)(v:Dh)(o:Int)(w:TW)(s:k.Ok)(h:Bz k S v w):Calls prog 253 #[.q k.B 0,.i o] w fun e w'=>e=.r (.tuple #[])/\∃j,Bz k (M8 k.E o S) j w':=by
 have V:=V5 k S v o w h;unfold M8;generalize Id o S.objs=C at *;generalize Y:Jx k.E o C (S.wait.length+1) S=R;have l:=Bc Y;have Z:=fun S v w h=>Bib k S v C w s h (s.hm S.now.meth);have HT:=Bc Z;have m:=Bc h;clear Y Z h;go_in;go_wp2_with fail;refine Qm V ?_;rintro w1 rfl;go_wp2
 go_loopw [5] (fun b wr=>∃(f:Bo) (j:Dh),Hid (Bz k f j wr)/\((b=.bool true/\Hid (Jx k.E o C (f.wait.length+1) f=R))\/(b=.bool false/\Hid (f.fin 2 C=R))))
  (fun b wr=>Blx b*(1+Blw k wr))
 case atStart=>exact⟨S,v,m,.inl ⟨rfl,l⟩⟩
 case round=>
  clear l m V;obtain⟨f,j,m,⟨rfl,l⟩|⟨rfl,l⟩⟩:=hrel
  ·have z:=Ba m;have G:=Ba HT f j wr z;have g:=Ba l;rw[Jx]at g;have a0:=z.wl;cases L:k.E.target C f.now with
   | some t =>
    rw[L]at G g;simp only at g;have A:=Bc g;clear g l m;go_wp2_with fail;refine Qm G ?_;intro N I;have p:=z.gr s I;have a1:=Bm7 f.now o t k.B 12 156 _ _ N rfl p.wf p.blk;simp only[Aw,Option.isSome];go_wp2_with fail;refine Qm a1 ?_;rintro w3 ⟨h3,a2⟩;have D:=p.now s a2 (Br4 p.wf o t) h3;go_wp2;refine tb (.tuple #[]) (by simp[results,results253,go_sem]) ?_;exact⟨rfl,j,by rw[<- Ba A];exact D⟩
   | none =>
    rw[L]at G g;simp only at g;have z:=Ba m;cases F:f.wait.getLast? with
    | none =>
     rw[F]at g;simp only at g;have J:f.wait=[]:=by simpa using F
     have A:=Bc g;have K:=fun w h=>Bgu k f j w h J;clear g l m L F;go_wp2_with fail;refine Qm G ?_;intro N I;have p:=z.gr s I;simp only[Aw,Option.isSome];go_wp2_with fail;refine Qm (K _ p) ?_;intro w3 D;have O:=Bc D;go_wp2;go_roundw
     case rel=>exact⟨f,j,O,.inr ⟨rfl,A⟩⟩
     case measure=>simp[Blx];omega
    | some c =>
     rw[F]at g;simp only at g;have J:f.wait=f.wait.dropLast++[c]:=by
      have:=List.getLast?_eq_some_iff.1 F;obtain⟨ys,e⟩:=this;rw[e];simp
     have Q:f.wait.length=f.wait.dropLast.length+1:=by
      conv=>lhs;rw[J]
      simp
     rw[Q]at g;have A:=Bc g;have K:=fun w h=>Ad k f j _ c w s h J;generalize f.wait.dropLast=W at *;have HL:=Bc Q;clear g l m L F J Q;go_wp2_with fail;refine Qm G ?_;intro N I;have p:=z.gr s I;simp only[Aw,Option.isSome];go_wp2_with fail;refine Qm (K _ p) ?_;intro w3 D;have a3:=D.wl;have O:=Bc D;go_wp2;go_roundw
     case rel=>exact⟨_,j,O,.inl ⟨rfl,A⟩⟩
     case measure=>
      have:=Ba HL;simp[Blx,a0,a3];omega
  have z:=Ba m;have K:=Bbj k f j 2 C wr s z;have A:=l;clear l m HT;go_wp2_with fail;refine Qm K ?_;intro N p;go_wp2;go_end0;exact⟨rfl,j,by rw[<- Ba A];exact p⟩
def Il(k:Cv)(S:Bo)(v:Dh)(b:Int)(w:TW)(f:k.Ok)(h:Bz k S v w)(g:0<=b)(j:b<=100):Calls prog 242 #[.q k.B 0,.i b] w fun e l=>e=.r (.tuple #[])/\∃c,Bz k (Fw k.E b S) c l:=by
 have m:=Bis b w g j;have p:=Bcc k S v (b-2+1) w f h;unfold Fw;generalize M8 k.E (b-2+1) S=R at *;generalize b-2+1=o at *;clear h;go_in;go_wp2_with fail;refine Qm m ?_;rintro t rfl;go_wp2_with fail;refine Qm p ?_;rintro z ⟨c,s⟩;go_wp2;go_end0;exact⟨rfl,c,s⟩
def Pb(k:Cv)(S:Bo)(v:Dh)(w:TW)(b:k.Ok)(h:Bz k S v w):Calls prog 240 #[.q k.B 12] w fun e c=>e=.r (.i S.top)/\Bz k S.popped v c :=
 (Jp S.now k.B 12 156 _ _ w rfl h.wf h.blk).mono fun _ _ ⟨f,g,j⟩=>⟨f,h.now b j (Fu h.wf) g⟩
def Pa(k:Cv)(S:Bo)(v:Dh)(x:Int)(w:TW)(b:k.Ok)(h:Bz k S v w):Calls prog 238 #[.q k.B 12,.i x] w fun e c=>e=.r (.tuple #[])/\Bz k (S.push x) v c :=
 (Mm S.now x k.B 12 156 _ _ w rfl h.wf h.blk).mono fun _ _ ⟨f,g,j⟩=>⟨f,h.now b j (Md h.wf x) g⟩
def Dw.addX{k:Cv}{J:List Bh}{v:Dh}{b:TW}(h:Dw k A J z v w)(K:k.Ok)(L:w.heap[k.B]?=some (.cells e.toArray 156 (0,0))){x:Int}{l:TA} (ho:b.ownsRow k.w0.heap.size 3 1 (.s l (z.length+1) u) (z.length+1) (z.map (Value.int .i64)++[.i x]))(p:w.grownBy b (Value.slice v.xa z.length v.xc).ownBlock) (a0:(Value.slice l (z.length+1) u).ownBlock=(Value.slice v.xa z.length v.xc).ownBlock\/(Value.slice l (z.length+1) u).ownBlock=some w.heap.size):Dw k A J (z++[x]) ⟨v.oa,v.oc,v.wa,v.wc,l,u,v.ov⟩ b/\b.heap[k.B]?=w.heap[k.B]?:=by
 have D:=h.out;have a1:∀g,(Value.slice v.xa z.length v.xc).ownBlock=some g->∃e:TV,w.heap[g]?=some (.cells e.toArray 3 (0,0)):=fun g C=>by
  obtain⟨_,⟨G,_⟩|⟨g',a6,a2,G,_,p,_⟩⟩:=D
  ·rw[G]at C;simp[Value.ownBlock]at C
  rw[G]at C;simp only[Value.ownBlock,Option.some.injEq]at C;subst C;exact⟨a2.toList,by simpa using p⟩
 have N:∀{c f O n:Nat}{x:TX}{Q:TV},w.ownsRow c f O x n Q->f≠3->b.ownsRow c f O x n Q:=fun I he=>Gs I (fun q t=>p.block q (I.lt q t).2 (fun f=>by
  obtain⟨e,hc⟩:=a1 q f.symm;exact Gd I hc he q t rfl))
 have a7:=K.Bs;have a8:=h.ovl;have a3:b.heap[k.B]?=w.heap[k.B]?:=p.block k.B (Pk L) (fun f=>Gd D L Ck k.B f.symm rfl);refine⟨⟨N h.objs Ck,h.ovl,h.obk,fun q t=>?_,N h.wait Ck,h.wwf,?_,?_,fun q V h2 h3=>?_,?_,Bvv h.szs p.size⟩,a3⟩
 ·exact Gs (h.flds q t) (fun j Y=>p.block j ((h.flds q t).lt j Y).2 (fun f=>h.out_ne t Y f.symm))
 ·unfold Du;rw[Up,Bw0,Bvx];exact ho
 ·rw[Up,Bw0];rcases a0 with f|f
  ·have:(Value.slice l (z.length+1) u::v.ov).filterMap Value.ownBlock=(Value.slice v.xa z.length v.xc::v.ov).filterMap Value.ownBlock:=by
    simp only[List.filterMap_cons,f]
   show ((Value.slice l (z.length+1) u::v.ov).filterMap Value.ownBlock).Nodup;rw[this];exact h.nd
  show ((Value.slice l (z.length+1) u::v.ov).filterMap Value.ownBlock).Nodup;rw[Bw8 f];have F:=h.nd;refine List.nodup_cons.2 ⟨fun hm=>?_,?_⟩
  ·obtain⟨m,hu,a4⟩:=List.mem_filterMap.1 hm;obtain⟨i,hi,rfl⟩:=B02 hu;have a5:i<A.length:=Bd;have e2:v.ov.getD i (.s none 0 0)=v.ov[i]:=by rw[Th,Ws hi];rfl
   have:=((h.flds i a5).lt w.heap.size (by rw[e2];exact a4)).2;omega
  cases Z:(Value.slice v.xa z.length v.xc).ownBlock with
  | none=>rw[Bxv Z]at F;exact F
  | some y=>rw[Bw8 Z]at F;exact(List.nodup_cons.1 F).2
 ·rw[p.block q (Bvm V h.szs) (fun f=>by have:=(D.lt q f.symm).1;omega)];exact h.keep q V h2 h3
 exact⟨p.os.trans h.low.os,p.tape.trans h.low.tape,p.output.trans h.low.output,Bvv h.low.size p.size,
  fun q t=>(p.block q (Bvm t h.low.size) (fun f=>by have:=(D.lt q f.symm).1;have:=K.sz;omega)).trans (h.low.block q t)⟩
def Bqa(k:Cv)(S:Bo)(v:Dh)(w:TW)(f:k.Ok)(h:Bz k S v w)(a3:S.out.length<=100000):Calls prog 197 #[.q k.B 0] w fun e Y=>e=.r (.tuple #[])/\∃z,Bz k (Yb S) z Y:=by
 have A:=Pb k S v w f h;obtain⟨Z,hi,a0,a1,a2⟩:=Bv4 Tryz.infoInt;have e:Yb S=⟨S.popped.read,S.popped.objs,S.popped.now,S.popped.wait,S.popped.ended,S.out++[S.top],S.popped.status,S.popped.value,S.popped.steps⟩:=rfl;rw[e];generalize S.top=x at *;clear h e;go_in;go_wp2_with fail;refine Qm A ?_;intro g b;have a4:g.C k.B 34 (.s v.xa S.out.length v.xc):=b.sees.c34;have a5:=b.sees.fr 34;have a6:=b.rows.szs;have D:g.ownsRow k.w0.heap.size 3 1 (.s v.xa S.out.length v.xc) S.out.length (S.out.map (Value.int .i64)):=b.rows.out;have F:=Bc b;clear b A;go_wp2_with (at_builtin;refine Bxg _ rfl _ _ 26 rfl k.w0.heap.size 3 Z _ 1 8 Bxs hi a0 a1 a2 rfl Ck _ _ _ rfl (D.alloc _) ⟨g.heap.size,0,none⟩ 1 1 [.i x] rfl rfl ?c1 ?c2 ?c3 ?c4 ?c5 ?_)
 case c1=>exact Dv _ _ _ _ rfl
 case c2=>intro u G;simp at G;subst G;rfl
 case c3=>unfold maxLen;omega
 case c4=>omega
 case c5=>simp;omega
 intro z w2 m I _ J;obtain⟨p,t,rfl⟩:=Bg m;have c:=(Ba F).gr f (QN (O4 x));have K:(Value.slice p (S.out.length+1) t).ownBlock=(Value.slice v.xa S.out.length v.xc).ownBlock\/(Value.slice p (S.out.length+1) t).ownBlock=some (g.alloc (O4 x)).heap.size:=by simpa using J
 obtain⟨L,N⟩:=c.rows.addX f c.blk m I K;have l:Mid w2 k.B 156 (Jr k S.popped.read S.popped.objs.length v) S.popped.now.cells (Hp v S.popped.wait.length S.popped.out.length S.popped.ended S.popped.status S.popped.value S.popped.steps):=N.trans c.blk;have O:(Jr k S.popped.read S.popped.objs.length v++S.popped.now.cells).length=32:=by rw[Up,Jc,c.wf.len]
 have Q:=l.tail.cell (j:=2) O (by rw[M4];omega);have a7:=l.free 34;have V:(Hp v S.popped.wait.length S.popped.out.length S.popped.ended S.popped.status S.popped.value S.popped.steps)[2]?=some (.s v.xa S.out.length v.xc):=rfl;rw[V]at Q;simp only[Nat.reduceAdd]at Q;have HM:=Bc l;have HR:=Bc L;have HW:=Bc c.wf;clear l L c F m I J K N D V O;go_wp2;go_end0;refine⟨rfl,⟨v.oa,v.oc,v.wa,v.wc,p,t,v.ov⟩,?_⟩;exact Ve (j:=2) (Ba HM) (Jc _ _ _ _) (M4 _ _ _ _ _ _ _) (Ba HW) f Bd _ rfl rfl (by simp[Hp,Bo.popped,Bo.withNow]) (Ba HR)
def Bsl(k:Cv)(S:Bo)(v:Dh)(w:TW)(b:k.Ok)(h:Bz k S v w)(K:S.read<=100000):Calls prog 196 #[.q k.B 0] w fun e A=>e=.r (.tuple #[])/\Bz k (Ta k.E S) v A:=by
 have L:=h.sees.c9;have C:=h.sees.c5;have N:=h.sees.fr 9;have O:=b.il;have l:=h.rows.ints b;unfold Ta;have m:k.E.ins=k.ins:=rfl;rw[m];have Q:decide ((0:Int)<=(S.read:Int))=true:=Fr;by_cases c:S.read<k.ins.length
 ·rw[Sp c];obtain⟨g,o,D,V,Y⟩:=l S.read c;have F:decide ((S.read:Int)<(k.ins.length:Int))=true:=by simpa using c
  have G:decide (S.read<k.ins.length)=true:=by simpa using c
  have I:(S.read:Int)<(k.ins.length:Int):=Bd;rw[D]at C;generalize k.ins.getD S.read 0=x at *;have t:∀n,Bz k ⟨S.read+1,S.objs,S.now,S.wait,S.ended,S.out,S.status,S.value,S.steps⟩ v ((w.drewN n).setCell (.a k.B 9) (.i ((S.read:Int)+1))):=fun n=>(h.drewN b n).setPre b (j:=9) Bd _ rfl rfl rfl (h.drewN b n).rows;have f:∀n,_:=fun n=>Pa k _ v x _ b (t n);have p:=Bc f;clear h l m t f;go_in;go_wp2;go_quiet (fail);go_wp2;go_quiet (fail);go_wp2_with fail;refine Qm (Ba p _) ?_;intro J s;go_wp2;go_end0;exact⟨rfl,s⟩
 rw[Pf c];have F:decide ((S.read:Int)<(k.ins.length:Int))=false:=by simpa using c
 have G:decide (S.read<k.ins.length)=false:=by simpa using c
 have I:¬(S.read:Int)<(k.ins.length:Int):=Bd;have f:∀z,_:=fun z=>Pa k _ v 0 _ b (h.drewN b z);have p:=Bc f;clear h l m f;go_in;go_wp2;go_quiet (fail);go_wp2_with fail;refine Qm (Ba p _) ?_;intro J s;go_wp2;go_end0;exact⟨rfl,s⟩
def Bic(k:Cv)(S:Bo)(v:Dh)(op:Int)(w:TW)(c:k.Ok)(h:Bz k S v w):Calls prog 189 #[.q k.B 0,.i op] w fun e t=>e=.r (.tuple #[])/\∃g,Bz k (Nx k.E op S) g t:=by
 have p:=Pb k S v w c h;have s:=fun w h=>Pb k S.popped v w c h;have b:=fun w=>Bff op S.popped.top S.top w;have A:=fun x w h=>Pa k S.popped.popped v x w c h;have C:=fun w h=>Il k S.popped.popped v 2 w c h Bd Bd;unfold Nx;generalize S.popped.top=x at *;generalize S.top=y at *;clear h;cases f:Iu op x y with
 | none =>
  rw[f]at b;simp only[Option.getD_none,Bzp]at b;clear f;go_in;go_wp2_with fail;refine Qm p ?_;intro D j;go_wp2_with fail;refine Qm (s _ j) ?_;intro F l;go_wp2_with fail;refine Qm (b _) ?_;rintro G rfl;go_wp2_with fail;refine Qm (C _ l) ?_;rintro I ⟨g,m⟩;go_wp2;refine tb (.tuple #[]) (by simp[results,results189,go_sem]) ?_;exact⟨rfl,g,m⟩
 | some z =>
  rw[f]at b;simp only[Bz7,Option.isSome_some]at b;clear f;go_in;go_wp2_with fail;refine Qm p ?_;intro D j;go_wp2_with fail;refine Qm (s _ j) ?_;intro F l;go_wp2_with fail;refine Qm (b _) ?_;rintro G rfl;go_wp2_with fail;refine Qm (A z _ l) ?_;intro I m;go_wp2;go_end0;exact⟨rfl,v,m⟩
def Bcd(k:Cv)(S:Bo)(v:Dh)(w:TW)(f:k.Ok)(h:Bz k S v w):Calls prog 195 #[.q k.B 0] w fun e l=>e=.r (.tuple #[])/\∃b,Bz k (Jw k.E S) b l:=by
 have j:=Pb k S v w f h;have m:=fun w h=>Il k S.popped v 3 w f h Bd Bd;have p:=fun w h=>Bcc k S.popped v S.top w f h;unfold Jw;generalize S.top=x at *;clear h;by_cases c:x=0;·rw[Sp c];subst c;go_in;go_wp2_with fail;refine Qm j ?_;intro s g;go_wp2_with fail;refine Qm (m _ g) ?_;rintro t ⟨b,i⟩;go_wp2;refine tb (.tuple #[]) (by simp[results,results195,go_sem]) ?_;exact⟨rfl,b,i⟩
 rw[Pf c];have z:(x==0)=false:=by simp[c]
 clear c;go_in;go_wp2_with fail;refine Qm j ?_;intro s g;go_wp2_with fail;refine Qm (p _ g) ?_;rintro t ⟨b,i⟩;go_wp2;go_end0;exact⟨rfl,b,i⟩
def Big(k:Cv)(S:Bo)(v:Dh)(c:Int)(w:TW)(f:k.Ok)(h:Bz k S v w)(s:S.objs.length<=1000):Calls prog 243 #[.q k.B 0,.i c] w fun e A=>e=.r (.tuple #[])/\∃g,Bz k (Ny k.E c S) g A:=by
 unfold Ny;have t:k.E.room=k.room:=rfl;rw[t];clear t;by_cases b:k.room<=(S.objs.length:Int)-5;·rw[Sp b];have j:=Bgv k S v c w f h s b;have l:=fun w h=>Il k S v 5 w f h Bd Bd;clear h b;go_in;go_wp2_with fail;refine Qm j ?_;intro C m;go_wp2_with fail;refine Qm (l _ m) ?_;rintro D ⟨g,p⟩;go_wp2;refine tb (.tuple #[]) (by simp[results,results243,go_sem]) ?_;exact⟨rfl,g,p⟩
 rw[Pf b];have j:=Bqm k S v c w f h s b;have l:=fun v w h=>Pa k (S.withObjs (S.objs++[(c,[])])) v ((S.objs.length:Int)+1) w f h;clear h b;go_in;go_wp2_with fail;refine Qm j ?_;rintro C ⟨z,m⟩;go_wp2_with fail;refine Qm (l z _ m) ?_;intro D p;go_wp2;go_end0;exact⟨rfl,z,p⟩
def TyR.at2{b:TW}{i:TX}{q:TP}(h:TyR w i q)(m:∀j,i.ownBlock=some j->b.heap[j]?=w.heap[j]?):TyR b i q:=by
 rcases h with h|⟨g,o,c,p,f,s,t,z,A⟩
 ·exact .inl h
 have e:=m g (by rw[f];rfl);exact .inr ⟨g,o,c,p,f,e.trans s,t,z,fun j x B=>by rw[Bvj (a:=⟨g,o+j,none⟩) e];exact A j x B⟩
def TyR.blk_lt{i:TX}{q:TP}(h:TyR w i q)(b:i.ownBlock=some u):u<w.heap.size:=by
 rcases h with ⟨rfl,_⟩|⟨g,o,c,m,e,f,_⟩
 ·simp[Value.ownBlock]at b
 rw[e]at b;simp only[Value.ownBlock,Option.some.injEq]at b;rw[<- b];exact Pk f
def Dw.fldsIn{k:Cv}{g:List Bh}{v:Dh}(h:Dw k A g z v w)(e:k.Ok):Np w k.bf (.s k.ya k.lf.length k.yc) k.lf:=by
 obtain⟨a,b⟩:=e.fl;refine⟨Gs a (fun j c=>h.keep j (a.lt j c).2 (e.fB j c).1 (e.fB j c).2),fun p f=>(b p f).at2 (fun j c=>?_)⟩;obtain⟨x,y⟩:=e.fy p f j c;exact h.keep j ((b p f).blk_lt c) x y
def Bgk(n:Int):∀(b:List (List (Int×Int))) (c f:Int),(∀l∈b,l.length<=10)->0<=c->(Ec n b c f).1<=c+b.length/\-1<=(Ec n b c f).1/\0<=(Ec n b c f).2/\(Ec n b c f).2<=10
 | [],c,f,_,hc=>by simp[Ec];omega
 | l::r,c,f,h,hc=>by
  unfold Ec;have i:=h l Fr
  split
  ·rename_i e;obtain⟨j,m⟩:=e;simp only[Bvo];omega
  have:=Bgk n r (c+1) (f+(l.length:Int)) (fun x g=>h x (by simp[g])) Bd;simp only[Bvo];omega
def Bdt(T:TI)(j m:Nat)(l:List (Value×List (Int×Int)))(z:Nat)(ya:TA)(yc:Nat)(n:Int)(w:TW)(Q:l.length<=14)(V:T.length<=1000)(Y:0<=n/\n<=100000)(t:∀p∈l,p.2.length<=10)(Z:Dl w j T)(hF:Np w z (.s ya l.length yc) l):Calls prog 281 #[.agg #[.s (.p j) T.length m,.s ya l.length yc],.i n] w fun e b=>e=.r (.i (Je T (l.map Prod.snd) n))/\Bl w b:=by
 have C:=fun b (h:Bl w b)=>Bea (aa:=some ⟨j,0,none⟩) (an:=T.length) (ac:=m) l z ya yc n b Bd Y (fun p f=>by have:=t p f;omega) (hF.below h);have D:=fun c b (h:Bl w b)=>Bjc (aa:=some ⟨j,0,none⟩) (an:=T.length) (ac:=m) l z ya yc c b Bd (hF.below h);have F:=fun c b (h:Bl w b)=>Wc T j m l z ya yc c b Q V (fun p f=>by have:=t p f;omega) (Z.below h) (hF.below h);have J:=Bgk n (l.map Prod.snd) 0 0 (fun x hx=>by obtain⟨p,f,rfl⟩:=List.mem_map.1 hx;exact t p f) Bd;have G:∀c,(Dq T (l.map Prod.snd) c).length<=1000*14:=fun c=>by
  have:=Oh T (l.map Prod.snd) c (fun p f=>by obtain⟨q,hq,rfl⟩:=List.mem_map.1 f;have:=t q hq;omega) (l.map Prod.snd).length;unfold Dq;rw[Bvr]at this ⊢;omega
 have I:∀c,(Nh (l.map Prod.snd) c).length<=10:=fun c=>by
  unfold Nh
  split
  ·simp
  rw[Th];cases hg:(l.map Prod.snd)[c.toNat]? with
  | none=>simp
  | some x =>
   obtain⟨p,f,rfl⟩:=List.mem_map.1 (Bwv hg);exact t p f
 unfold Je;generalize Ec n (l.map Prod.snd) 0 0=oo at *;obtain⟨g,oi⟩:=oo;simp only at C J ⊢;obtain⟨-,b1,b2,b3⟩:=J;have A:Bl w (w.alloc (O2 (.p j) T.length m ya l.length yc)):=QN _;have a0:=Bf w (O2 (.p j) T.length m ya l.length yc);by_cases v:g = -1;·rw[Sp v];subst v;clear D F G I;go_in;go_wp2_with fail;refine Qb (C _ A) A ?_;intro w1 K B;go_wp2;go_ret;exact⟨rfl,B⟩
 rw[Pf v];have a5:(g == -1)=false:=by simp[v]
 have a6:=G g;have a7:=I g;have a1:=F g;have a2:=D g;clear v G I F D;generalize Dq T (l.map Prod.snd) g=FA at *;generalize Nh (l.map Prod.snd) g=FO at *;go_in;go_wp2_with fail;refine Qb (C _ A) A ?_;intro w1 K B;have L:=stay K a0;obtain⟨t0,t1⟩:=cl2 L;simp at t0 t1;go_wp2_with fail;refine(a1 _ B).mono ?_;rintro e w2 ⟨xa,xc,rfl,-,N⟩;have O:=QB B N;have C2:=stay N L;obtain⟨u0,u1⟩:=cl2 C2;simp at u0 u1;go_wp2_with fail;refine(a2 _ O).mono ?_;rintro e w3 ⟨za,zc,rfl,-,a3⟩;have a4:=QB O a3;go_wp2;go_ret;exact⟨rfl,a4⟩
def Bnj(k:Cv)(S:Bo)(v:Dh)(m:Int)(w:TW)(g:k.Ok)(h:Bz k S v w):Calls prog 247 #[.q k.B 0,.i m] w fun e L=>e=.r (.tuple #[])/\∃s,Bz k (Sk k.E m S) s L:=by
 have t:=Pb k S v w g h;have p:=fun w h=>V5 k S.popped v S.top w h;have z:=fun w h=>Pa k S.popped v S.top w g h;have j:=fun w h=>Il k S.popped v 4 w g h Bd Bd;have N:=g.tl;unfold Sk;have F:k.E.T=k.T:=rfl;have G:S.popped.objs=S.objs:=rfl;rw[F];rw[G]at p;generalize S.top=x at *;generalize Id x S.objs=c at *;have A:=fun w j=>N1 (ya:=k.ya) (yn:=k.lf.length) (yc:=k.yc) k.T k.tg k.tc c m w N j;clear h F G;by_cases l:x=0;·rw[Sp l];subst l;clear A j;go_in;go_wp2_with fail;refine Qm t ?_;intro I f;go_wp2_with fail;refine Qm (p _ f) ?_;rintro J rfl;go_wp2_with fail;refine Qm (z _ f) ?_;intro K O;go_wp2;go_end0;exact⟨rfl,v,O⟩
 rw[Pf l];have Z:(x != 0)=true:=by simp[l]
 clear l;generalize Tr.within k.T c m=b at *;cases b with
 | true =>
  rw[Sp rfl];clear j;go_in;go_wp2_with fail;refine Qm t ?_;intro I f;go_wp2_with fail;refine Qm (p _ f) ?_;rintro J rfl;have Q:=f.sees.c2;have V:=f.sees.c3;go_wp2_with fail;refine Qm (A _ (f.rows.tree g)) ?_;intro K C;go_wp2_with fail;refine Qm (z _ (f.gr g C)) ?_;intro Y D;go_wp2;go_end0;exact⟨rfl,v,D⟩
 | false =>
  rw[Pf Fr];clear z;go_in;go_wp2_with fail;refine Qm t ?_;intro I f;go_wp2_with fail;refine Qm (p _ f) ?_;rintro J rfl;have Q:=f.sees.c2;have V:=f.sees.c3;go_wp2_with fail;refine Qm (A _ (f.rows.tree g)) ?_;intro K C;go_wp2_with fail;refine Qm (j _ (f.gr g C)) ?_;rintro Y ⟨s,D⟩;go_wp2;refine tb (.tuple #[]) (by simp[results,results247,go_sem]) ?_;exact⟨rfl,s,D⟩
def Bfl(k:Cv)(S:Bo)(v:Dh)(n:Int)(w:TW)(b:k.Ok)(h:Bz k S v w)(G:0<=n/\n<=100000):Calls prog 245 #[.q k.B 0,.i n] w fun e I=>e=.r (.tuple #[])/\∃l,Bz k (Lp k.E n S) l I:=by
 have p:=Pb k S v w b h;have g:=fun w h=>Il k S.popped v 3 w b h Bd Bd;have t:=fun w g hF=>Bdt k.T k.tg k.tc k.lf k.bf k.ya k.yc n w b.f14 b.tl G b.ff g hF;have j:=fun s w h=>Bqe k S.popped v S.top s w h;have z:=fun x w h=>Pa k S.popped v x w b h;unfold Lp;have A:Je k.E.T k.E.FL n=Je k.T (k.lf.map Prod.snd) n:=rfl;have C:S.popped.objs=S.objs:=rfl;rw[A];rw[C]at j;generalize S.top=x at *;generalize Je k.T (k.lf.map Prod.snd) n=D at *;clear h A C;by_cases f:x=0;·rw[Sp f];subst f;clear t j z;go_in;go_wp2_with fail;refine Qm p ?_;intro J c;go_wp2_with fail;refine Qm (g _ c) ?_;rintro K ⟨l,m⟩;go_wp2;refine tb (.tuple #[]) (by simp[results,results245,go_sem]) ?_;exact⟨rfl,l,m⟩
 rw[Pf f];have N:(x==0)=false:=by simp[f]
 clear f g;have L:=j D;clear j;generalize Vr x D S.objs=y at *;go_in;go_wp2_with fail;refine Qm p ?_;intro J c;have O:=c.sees.c2;have Q:=c.sees.c3;go_wp2_with fail;refine Qm (t _ (c.rows.tree b) (c.rows.fldsIn b)) ?_;intro V F;go_wp2_with fail;refine Qm (L _ (c.gr b F)) ?_;rintro Y rfl;go_wp2_with fail;refine Qm (z _ _ (c.gr b F)) ?_;intro K m;go_wp2;go_end0;exact⟨rfl,v,m⟩
def Bfg(k:Cv)(S:Bo)(v:Dh)(n:Int)(w:TW)(b:k.Ok)(h:Bz k S v w)(F:0<=n/\n<=100000):Calls prog 246 #[.q k.B 0,.i n] w fun e G=>e=.r (.tuple #[])/\∃l,Bz k (Lo k.E n S) l G:=by
 have t:=Pb k S v w b h;have z:=fun w h=>Pb k S.popped v w b h;have g:=fun w h=>Il k S.popped.popped v 3 w b h Bd Bd;have A:=fun w g hF=>Bdt k.T k.tg k.tc k.lf k.bf k.ya k.yc n w b.f14 b.tl F b.ff g hF;have j:=fun s w h=>Bp9 k S.popped.popped v S.popped.top s S.top w b h;unfold Lo;have C:Je k.E.T k.E.FL n=Je k.T (k.lf.map Prod.snd) n:=rfl;have D:S.popped.popped.objs=S.objs:=rfl;rw[C];rw[D]at j;generalize S.popped.top=x at *;generalize S.top=y at *;generalize Je k.T (k.lf.map Prod.snd) n=I at *;clear h C D;by_cases f:x=0;·rw[Sp f];subst f;clear A j;go_in;go_wp2_with fail;refine Qm t ?_;intro J m;go_wp2_with fail;refine Qm (z _ m) ?_;intro K c;go_wp2_with fail;refine Qm (g _ c) ?_;rintro L ⟨l,p⟩;go_wp2;refine tb (.tuple #[]) (by simp[results,results246,go_sem]) ?_;exact⟨rfl,l,p⟩
 rw[Pf f];have Q:(x==0)=false:=by simp[f]
 clear f g;have N:=j I;clear j;go_in;go_wp2_with fail;refine Qm t ?_;intro J m;go_wp2_with fail;refine Qm (z _ m) ?_;intro K c;have V:=c.sees.c2;have Y:=c.sees.c3;go_wp2_with fail;refine Qm (A _ (c.rows.tree b) (c.rows.fldsIn b)) ?_;intro Z O;go_wp2_with fail;refine Qm (N _ (c.gr b O)) ?_;intro L p;go_wp2;go_end0;exact⟨rfl,v,p⟩
structure Tv(k:Cv)(S:Bo)(v:Dh)(w:World)(g n:Nat)(l:List Int):Prop where
 ints:Du w k.w0.heap.size (.slice (some ⟨g,0,none⟩) n n) l
 ne:∀x∈(Value.slice v.xa S.out.length v.xc::v.ov),x.ownBlock≠some g
 nB:g≠k.B
 len:l.length=n
def Ae(k:Cv)(S:Bo)(v:Dh)(f:TA)(n g:Nat)(w:TW)(m:k.Ok)(h:Bz k S v w)(t:n<=1000):Calls prog 248 #[.q k.B 12,.s f n g] w fun e b=>e=.r (.s (.p w.heap.size) n n)/\Tv k S v b w.heap.size n (I8 n S)/\Bz k (Gj n S) v b/\Gr k.B w b:=by
 refine(Bid S.now f n g k.B 12 156 _ _ w rfl h.wf t h.blk).mono fun e b ⟨z,A,C,j⟩=>⟨z,⟨D8 A h.rows.szs,?_,?_,Vz n S.now⟩,h.now m j (Bc6 n h.wf) C,j⟩
 ·intro x c l;rcases List.mem_cons.1 c with rfl|c
  ·have:=(h.rows.out.lt _ l).2;omega
  obtain⟨i,D,rfl⟩:=B02 c;have F:i<S.objs.length:=by have:=h.rows.ovl;omega
  have G:v.ov.getD i (.s none 0 0)=v.ov[i]:=by rw[Th,Ws D];rfl
  have:=((h.rows.flds i F).lt _ (by rw[G];exact l)).2;omega
 have:=h.blk.lt;omega
def Tv.gr{k:Cv}{S:Bo}{v:Dh}{b:TW}{n:Nat}(h:Tv k S v w u n z)(e:Gr k.B w b):Tv k S v b u n z :=
 ⟨Gs h.ints (fun j c=>by
  have:u=j:=by simpa[Value.ownBlock] using c
  exact e.blk (h.ints.lt j c).2 (by rw[<- this];exact h.nB)),h.ne,h.nB,h.len⟩
def Bc7(k:Cv)(S:Bo)(v:Dh)(c:Int)(w:TW)(b:k.Ok)(h:Bz k S v w):Calls prog 244 #[.q k.B 0,.i c] w fun e Q=>e=.r (.tuple #[])/\∃z,Bz k (Nk k.E c S) z Q:=by
 have c2:=h.sees.c2;have c3:=h.sees.c3;have hF:=Wc k.T k.tg k.tc k.lf k.bf k.ya k.yc c w b.f14 b.tl (fun p j=>by have:=b.ff p j;omega) (h.rows.tree b) (h.rows.fldsIn b);have a9:(Dq k.T (k.lf.map Prod.snd) c).length<=140:=by
  have:=Oh k.T (k.lf.map Prod.snd) c (fun p j=>by obtain⟨q,A,rfl⟩:=List.mem_map.1 j;have:=b.ff q A;omega);have V:∀d,d<=14->(Fb k.T (k.lf.map Prod.snd) c d).length<=10*d:=by
   intro d hd;clear this
   induction d with
   | zero=>simp[Fb]
   | succ d ih =>
    rw[Fb,Up];have F:=ih Bd;have l:(if Tr.within k.T c (d:Int)=true then (k.lf.map Prod.snd).getD d [] else []).length<=10:=by
     split
     ·rw[Th];cases Y:(k.lf.map Prod.snd)[d]? with
      | none=>simp
      | some x =>
       obtain⟨p,j,rfl⟩:=List.mem_map.1 (Bwv Y);exact b.ff p j
     simp
    omega
  have:=V (k.lf.map Prod.snd).length (by rw[Bvr];exact b.f14);unfold Dq;rw[Bvr]at this ⊢;have:=b.f14;omega
 unfold Nk;have G:Dq k.E.T k.E.FL c=Dq k.T (k.lf.map Prod.snd) c:=rfl;rw[G];generalize Dq k.T (k.lf.map Prod.snd) c=f at *;have Z:=fun w la lc h=>Ae k S v la f.length lc w b h Bd;have HA:=Bc h;clear h G;generalize a0:I8 f.length S=t at *;have I:(Gj f.length S).popped.objs=S.objs:=rfl;rw[<- I];have eX:(Gj f.length S).out=S.out:=rfl;generalize a1:Gj f.length S=g at *;clear a0 a1 I;generalize J:g.top=r at *;have a2:=Bc J;clear J;have a3:=fun fa fc w h C m=>Bp6 k g.popped v r fa fc t w b h C m;go_in;go_wp2_with fail;refine hF.mono ?_;rintro e D ⟨xa,xc,rfl,-,a4⟩;have F:=(Ba HA).gr b a4;go_wp2_with fail;refine Qm (Z _ _ _ F) ?_;rintro w2 ⟨m,l,-⟩;have a5:=Jp g.now k.B 12 156 _ _ w2 rfl l.wf l.blk;go_wp2_with fail;refine Qm a5 ?_;rintro K ⟨a6,L⟩;have h3:Bz k g.popped v K:=l.now b L (Fu l.wf) a6;have a7:=m.gr L;have N:=m.len;have C:Du K k.w0.heap.size (.s (.p D.heap.size) t.length f.length) t:=by rw[N];exact a7.ints
 have a8:∀q,(Value.slice (.p D.heap.size) t.length f.length).ownBlock=some q->∀x∈(Value.slice v.xa g.popped.out.length v.xc::v.ov),x.ownBlock≠some q:=fun q A x hx=>by
  have:D.heap.size=q:=by simpa[Value.ownBlock] using A
  rw[<- this];exact m.ne x (by rw[<- eX];exact hx)
 have O:=a3 _ _ _ h3 C a8;rw[N]at O;have e5:(Bw g.now).1=r:=Ba a2;rw[e5];go_wp2_with fail;refine Qm O ?_;rintro w4 ⟨z,h4⟩;go_wp2;go_end0;exact⟨rfl,z,h4⟩
def Bfm(k:Cv)(S:Bo)(v:Dh)(w:TW)(h:Bz k S v w)(b:S.wait=[]):Calls prog 252 #[.q k.B 0] w fun e f=>e=.r (.bool false)/\f=w:=by
 have c:=h.sees.c32;rw[b]at c;simp at c;clear b;go_in;go_wp2;go_ret;exact⟨rfl,rfl⟩
def Bfk(k:Cv)(S:Bo)(v:Dh)(w:TW)(l:k.Ok)(h:Bz k S v w):Calls prog 194 #[.q k.B 0] w fun e w'=>e=.r (.tuple #[])/\∃v',Bz k (Ki k.E S) v' w':=by
 have hm:=Re k S v S.now.meth w l h;have b3:=h.sees.c12;have HP:Hid (∀w,Bz k S v w->Calls prog 240 #[.q k.B 12] w fun e w'=>e=.r (.i S.top)/\Bz k S.popped v w'/\Gr k.B w w'):=fun w h =>
  (Jp S.now k.B 12 156 _ _ w rfl h.wf h.blk).mono fun e w' ⟨he,j,hg⟩=>⟨he,h.now l hg (Fu h.wf) j,hg⟩
 have HA:=Bc h;unfold Ki;generalize k.E.meth S.now.meth=M at *;have a8:=fun S w h z=>Bfm k S v w h z;have a9:=fun S W c w h z=>Ad k S v W c w l h z;have hF:=fun S x w h=>Bbj k S v 0 x w l h;have hU:=fun S x w h=>Pa k S v x w l h;have C:=Bc hm;have a4:=Bc a8;have b0:=Bc a9;have HF:=Bc hF;have HU:=Bc hU;clear hm h a8 a9 hF hU;have ew:S.popped.wait=S.wait:=rfl;by_cases D:M.result.1=0
 ·rw[Sp D];unfold Lq;cases z:S.wait.getLast? with
  | none =>
   have F:S.wait=[]:=by simpa using z
   simp only;have e:(if M.result.1=1 then (0:Int) else 0)=0:=by split<;>rfl
   rw[e];clear e z;go_in;go_wp2_with fail;refine(Ba C).mono ?_;rintro e p ⟨m,rfl,j,t⟩;have f:=j.r1;have g:=(Ba HA).gr l t;obtain⟨I,J,K,L,N,A,b,O,Q,V,Y,Z,md,me,mf,mg,mh,mi⟩:=m;simp only at f;rw[D]at f;subst f;simp only[PM.val];have a2:∀w:TW,(Instr.field 133 (.agg #[.i I,.i J,.s K L N,.i 0,.i b,.i O,.i Q,.s V Y Z,.s md me mf,.s mg mh mi]) 3).run prog w=.ok (.agg #[.i 0,.i b]) w:=fun _=>Le;have G:=g.gr l (QN (O7 0 b));have hK:=Bf p (O7 0 b);have a0:p.heap.size≠k.B:=by have:=g.blk.lt;omega
   clear j t g C;have y0:=Bb hK 0;simp at y0;go_wp2_with fail;refine Qm (Ba a4 _ _ G F) ?_;rintro w3 rfl;go_wp2_with fail;refine Qm (Ba HF _ _ _ G) ?_;intro w4 h4;go_wp2;go_end0;exact⟨rfl,v,h4⟩
  | some c =>
   have F:S.wait=S.wait.dropLast++[c]:=by
    obtain⟨ys,e⟩:=List.getLast?_eq_some_iff.1 z;rw[e];simp
   simp only;rw[Sp D];generalize S.wait.dropLast=W at *;have a5:=Bc F;clear z F;go_in;go_wp2_with fail;refine(Ba C).mono ?_;rintro e p ⟨m,rfl,j,t⟩;have f:=j.r1;have g:=(Ba HA).gr l t;obtain⟨I,J,K,L,N,A,b,O,Q,V,Y,Z,md,me,mf,mg,mh,mi⟩:=m;simp only at f;rw[D]at f;subst f;simp only[PM.val];have a2:∀w:TW,(Instr.field 133 (.agg #[.i I,.i J,.s K L N,.i 0,.i b,.i O,.i Q,.s V Y Z,.s md me mf,.s mg mh mi]) 3).run prog w=.ok (.agg #[.i 0,.i b]) w:=fun _=>Le;have G:=g.gr l (QN (O7 0 b));have hK:=Bf p (O7 0 b);have a0:p.heap.size≠k.B:=by have:=g.blk.lt;omega
   clear j t g C;go_wp2_with fail;refine Qm (Ba b0 _ _ _ _ G (Ba a5)) ?_;intro w3 h3;go_wp2;go_end0;exact⟨rfl,v,h3⟩
 rw[Pf D];have a6:(M.result.1 != 0)=true:=by simpa using D
 unfold Lq;rw[ew];cases z:S.wait.getLast? with
 | none =>
  have F:S.popped.wait=[]:=by rw[ew];simpa using z
  simp only;clear z;by_cases a1:M.result.1=1
  ·rw[Sp a1];have b1:=Bc a1;clear D a1;go_in;go_wp2_with fail;refine(Ba C).mono ?_;rintro e p ⟨m,rfl,j,t⟩;have f:=j.r1;have g:=(Ba HA).gr l t;obtain⟨I,J,K,L,N,A,b,O,Q,V,Y,Z,md,me,mf,mg,mh,mi⟩:=m;simp only at f;rw[Ba b1]at f a6;subst f;simp only[PM.val];have a2:∀w:TW,(Instr.field 133 (.agg #[.i I,.i J,.s K L N,.i 1,.i b,.i O,.i Q,.s V Y Z,.s md me mf,.s mg mh mi]) 3).run prog w=.ok (.agg #[.i 1,.i b]) w:=fun _=>Le;have G:=g.gr l (QN (O7 1 b));have hK:=Bf p (O7 1 b);have a0:p.heap.size≠k.B:=by have:=g.blk.lt;omega
   clear j t g C;go_wp2_with fail;refine Qm (Ba HP _ G) ?_;rintro w3 ⟨h3,a3⟩;have a7:=a3.own hK a0;have y0:=Bb a7 0;simp at y0;go_wp2_with fail;refine Qm (Ba a4 _ _ h3 F) ?_;rintro w4 rfl;go_wp2_with fail;refine Qm (Ba HF _ _ _ h3) ?_;intro w5 h5;go_wp2;go_end0;exact⟨rfl,v,h5⟩
  rw[Pf a1];have b2:(M.result.1==1)=false:=by simpa using a1
  clear D a1;go_in;go_wp2_with fail;refine(Ba C).mono ?_;rintro e p ⟨m,rfl,j,t⟩;have f:=j.r1;have g:=(Ba HA).gr l t;obtain⟨I,J,K,L,N,A,b,O,Q,V,Y,Z,md,me,mf,mg,mh,mi⟩:=m;simp only at f;rw[<- f]at a6 b2;clear f;simp only[PM.val];have a2:∀w:TW,(Instr.field 133 (.agg #[.i I,.i J,.s K L N,.i A,.i b,.i O,.i Q,.s V Y Z,.s md me mf,.s mg mh mi]) 3).run prog w=.ok (.agg #[.i A,.i b]) w:=fun _=>Le;have G:=g.gr l (QN (O7 A b));have hK:=Bf p (O7 A b);have a0:p.heap.size≠k.B:=by have:=g.blk.lt;omega
  clear j t g C;go_wp2_with fail;refine Qm (Ba HP _ G) ?_;rintro w3 ⟨h3,a3⟩;have a7:=a3.own hK a0;have y0:=Bb a7 0;simp at y0;go_wp2_with fail;refine Qm (Ba a4 _ _ h3 F) ?_;rintro w4 rfl;go_wp2_with fail;refine Qm (Ba HF _ _ _ h3) ?_;intro w5 h5;go_wp2;go_end0;exact⟨rfl,v,h5⟩
 | some c =>
  have F:S.popped.wait=S.wait.dropLast++[c]:=by
   obtain⟨ys,e⟩:=List.getLast?_eq_some_iff.1 z;rw[ew,e];simp
  simp only;rw[Pf D];generalize S.wait.dropLast=W at *;have a5:=Bc F;clear z F D;go_in;go_wp2_with fail;refine(Ba C).mono ?_;rintro e p ⟨m,rfl,j,t⟩;have f:=j.r1;have g:=(Ba HA).gr l t;obtain⟨I,J,K,L,N,A,b,O,Q,V,Y,Z,md,me,mf,mg,mh,mi⟩:=m;simp only at f;rw[<- f]at a6;clear f;simp only[PM.val];have a2:∀w:TW,(Instr.field 133 (.agg #[.i I,.i J,.s K L N,.i A,.i b,.i O,.i Q,.s V Y Z,.s md me mf,.s mg mh mi]) 3).run prog w=.ok (.agg #[.i A,.i b]) w:=fun _=>Le;have G:=g.gr l (QN (O7 A b));have hK:=Bf p (O7 A b);have a0:p.heap.size≠k.B:=by have:=g.blk.lt;omega
  clear j t g C;go_wp2_with fail;refine Qm (Ba HP _ G) ?_;rintro w3 ⟨h3,a3⟩;go_wp2_with fail;refine Qm (Ba b0 _ _ _ _ h3 (Ba a5)) ?_;intro w4 h4;go_wp2_with fail;refine Qm (Ba HU _ S.top _ h4) ?_;intro w5 h5;go_wp2;go_end0;exact⟨rfl,v,h5⟩
def Tryz.infoCall3:(prog.info? 152).map (fun i=>(i.zero,i.size,i.bytes))=some (some (.agg #[.i 0,.i 0,.i 0,.i 0,.i 0,.i 0,.i 0,.i 0,.i 0,.i 0,.i 0,.i 0,.i 0,.i 0,.i 0,.i 0,.i 0,.i 0,.i 0,.i 0]),20,160):=Le
def Bqd(b c e f g h i j l m q t v z A B C D F G:TX)(w:TW):(Instr.buildSlice 154 1 #[(0,.agg #[b,c,e,f,g,h,i,j,l,m,q,t,v,z,A,B,C,D,F,G])]).run prog w=.ok (.s (.p w.heap.size) 1 1) (w.alloc (.cells #[b,c,e,f,g,h,i,j,l,m,q,t,v,z,A,B,C,D,F,G] 152)):=Le
def Bvc(c:Array Value)(h:c.size=20):∃b e f g i j m p q s t v z A B C D F G I,c = #[b,e,f,g,i,j,m,p,q,s,t,v,z,A,B,C,D,F,G,I]:=by
 obtain⟨l⟩:=c;have J:l.length=20:=h
 match l,J with
 | [b,e,f,g,i,j,m,p,q,s,t,v,z,A,B,C,D,F,G,I],_=>exact⟨b,e,f,g,i,j,m,p,q,s,t,v,z,A,B,C,D,F,G,I,rfl⟩
def Bnf(c:Array Value)(h:c.size=20)(w:TW):(Instr.buildSlice 154 1 #[(0,.agg c)]).run prog w=.ok (.s (.p w.heap.size) 1 1) (w.alloc (.cells c 152)):=by
 obtain⟨b,e,f,g,i,j,l,m,q,t,v,z,A,B,C,D,F,G,I,J,rfl⟩:=Bvc c h;exact Bqd _ _ _ _ _ _ _ _ _ _ _ _ _ _ _ _ _ _ _ _ w
def Bdz(c:w.heap[u]?=some (.cells e.toArray g (0,0))):∀j b,e[j]?=some b->w.cell? ((⟨u,0,none⟩:Addr).add j)=some b:=fun j b f=>by
 rw[Addr.add_mid,Bvp,Bb c];simpa using f
def Bam{b:Array Oper}{o:Oper}{a:Act}{K:Act->TW->Prop}{Q:Exit->Act->TW->Prop}{E:Prop}(e:o.guard=none)(x:Operand)(f:o.op=.buildSlice 154 1 #[(0,x)]) (c:Array Value)(g:c.size=20)(i:a.eval x=.agg c)(h:K (a.put o.dst (.s (.p w.heap.size) 1 1)) (w.alloc (.cells c 152))):if Region.wanted o (yielded b a.tmps)=true then Oper.wp prog o a w K Q else E:=by
 have j:Region.wanted o (yielded b a.tmps)=true:=by simp[Region.wanted,e]
 rw[Sp j];have l:=Bnf c g w;unfold Oper.wp execOp;simp only[f,List.map_toArray,Bwm,Byz,i,B03,l,Bzz,B04];exact h
def Dw.addW{k:Cv}{W:List Bh}{v:Dh}{b:TW}(h:Dw k A W z v w)(J:k.Ok)(K:w.heap[k.B]?=some (.cells e.toArray 156 (0,0))){c:Bh}(D:Em c){l:TA}{wc:Nat} (Q:b.ownsRow k.w0.heap.size 152 20 (.s l (W.length+1) wc) (W.length+1) (W.flatMap Bh.cells++c.cells))(j:w.grownBy b (Value.slice v.wa W.length v.wc).ownBlock):Dw k A (W++[c]) z ⟨v.oa,v.oc,l,wc,v.xa,v.xc,v.ov⟩ b/\b.heap[k.B]?=w.heap[k.B]?:=by
 have C:=h.wait;have V:∀g,(Value.slice v.wa W.length v.wc).ownBlock=some g->∃e:TV,w.heap[g]?=some (.cells e.toArray 152 (0,0)):=fun g p=>by
  obtain⟨_,⟨F,_⟩|⟨g',a1,Y,F,_,j,_⟩⟩:=C
  ·rw[F]at p;simp[Value.ownBlock]at p
  rw[F]at p;simp only[Value.ownBlock,Option.some.injEq]at p;subst p;exact⟨Y.toList,by simpa using j⟩
 have G:∀{f i L n:Nat}{x:TX}{N:TV},w.ownsRow f i L x n N->i≠152->b.ownsRow f i L x n N:=fun I Z=>Gs I (fun q m=>j.block q (I.lt q m).2 (fun i=>by
  obtain⟨e,D⟩:=V q i.symm;exact Gd I D Z q m rfl))
 have a2:=J.Bs;have a0:b.heap[k.B]?=w.heap[k.B]?:=j.block k.B (Pk K) (fun i=>Gd C K Ck k.B i.symm rfl);refine⟨⟨G h.objs Ck,h.ovl,h.obk,fun q m=>G (h.flds q m) Ck,?_,fun x t=>?_,G h.out Ck,h.nd,fun q O h2 h3=>?_,?_,Bvv h.szs j.size⟩,a0⟩
 ·rw[Up,Bw0,Bwl];simpa using Q
 ·rcases List.mem_append.1 t with t|t
  ·exact h.wwf x t
  rw[List.mem_singleton.1 t];exact D
 ·rw[j.block q (Bvm O h.szs) (fun i=>by have:=(C.lt q i.symm).1;omega)];exact h.keep q O h2 h3
 exact⟨j.os.trans h.low.os,j.tape.trans h.low.tape,j.output.trans h.low.output,Bvv h.low.size j.size,
  fun q m=>(j.block q (Bvm m h.low.size) (fun i=>by have:=(C.lt q i.symm).1;have:=J.sz;omega)).trans (h.low.block q m)⟩
def Bfh(k:Cv)(S:Bo)(v:Dh)(m:Int)(x:TX)(w:TW)(f:k.Ok)(h:Bz k S v w)(j:∃a n c,x=.s a n c)(z:S.wait.length<=1000)(A:k.depth<=(S.wait.length:Int)+1):Calls prog 249 #[.q k.B 0,.i m,x] w fun e l=>e=.r (.tuple #[])/\∃b,Bz k (Fw k.E 6 S) b l:=by
 obtain⟨C,D,F,rfl⟩:=j;have G:=h.sees.c32;have I:=h.sees.c7;have g:∀n,_:=fun n=>Il k S v 6 _ f (h.drewN f n) Bd Bd;have p:=Bc g;clear h g;go_in;go_wp2;go_quiet (fail);go_wp2_with fail;refine Qm (Ba p _) ?_;rintro J ⟨b,t⟩;go_wp2;refine tb (.tuple #[]) (by simp[results,results249,go_sem]) ?_;exact⟨rfl,b,t⟩
def Bfi(k:Cv)(S:Bo)(v:Dh)(m:Int)(l:TA)(p I:Nat)(c:TI)(w:TW)(A:k.Ok)(h:Bz k S v w)(O:Du w I (.s l c.length p) c)(c0:c.length<=1000)(a6:∀j,(Value.slice l c.length p).ownBlock=some j->j≠k.B/\(Value.slice v.wa S.wait.length v.wc).ownBlock≠some j)(hw:S.wait.length<=1000)(hd:¬k.depth<=(S.wait.length:Int)+1):Calls prog 249 #[.q k.B 0,.i m,.s l c.length p] w fun e Z=>e=.r (.tuple #[])/\∃v',Bz k (S.opened (Cn m c)) v' Z:=by
 have c1:=h.sees.c32;have c7:=h.sees.c7;obtain⟨i0,hi,c2,c3,c4⟩:=Bv4 Tryz.infoCall3;have D:=h.wf;have a0:S.now.cells.toArray.size=20:=by simp[D.len]
 have c5:(prog.info? 152).map (·.size)=some S.now.cells.length:=by rw[Tryz.infoCall];simp[D.len]
 have d5:=fun w=>Bnf S.now.cells.toArray a0 w;have HA:Hid (∀n,Bz k S v (w.drewN n)):=fun n=>h.drewN A n;have HX:=Bc O;have a7:=Bc a6;have a8:=fun w O=>Bat m l p c I w c0 O;have a9:=Bc a8;clear h O a6 a8;go_in;go_wp2;go_quiet (fail);rename_i nq;have t:=Ba HA nq;have F:(w.drewN nq).rangeAt k.B 12 S.now.cells:=t.blk.range rfl;have c6:=t.sees.c32;have a1:=t.rows.wait;have Q:Hid (Du (w.drewN nq) I (.s l c.length p) c):=Ba HX;have H1:=Bc t;have d6:=t.rows.szs;have d7:=t.blk.lt;clear HX HA t c1 c7;generalize w.drewN nq=wd at *;go_wp2;refine Bvz (S:=(fun Z=>Z.rangeAt k.B 12 S.now.cells)) Le F (fun b=>?_);refine tq 0 (.q k.B 0) b ?_;refine tq 1 (.q k.B 0) b ?_;refine tq 2 (.q k.B 0) b ?_;refine tq 3 (.q k.B 32) b ?_;refine tq 5 (.q k.B 0) b ?_;refine tq 6 (.q k.B 0) b ?_;refine tq 7 (.q k.B 12) b ?_;refine Byf (i:=8) (oi:=⟨_,_,_,_,_,_⟩) (v:=.agg S.now.cells.toArray) rfl Le Le Le (fun _ _ _ h=>h) (yieldsIf_load_mid Hd 152 (.tmp 27) Hd k.B 12 Hd S.now.cells _ (fun _ hS=>hS) Byy Hd c5) b ?_
 try simp only[QX]
 refine Bw7 (rs:=[4,9]) Le Fr ?_;refine Bv3 (o:=⟨_,_,_,_,_,_⟩) rfl (fun K f=>?_) (Bv3 (o:=⟨_,_,_,_,_,_⟩) rfl (fun K f=>?_) Bw2);go_simp;clear b;refine f.out _ _ F (fun b=>?_);clear f K
 try simp only[QX]
 refine tr 9 fun K f=>?_;refine Bam Hd _ Hd S.now.cells.toArray a0 Hd ?_;clear b;refine f.out _ _ (Bzj F _) (fun b=>?_);clear f K
 try simp only[QX]
 rotate_left
 refine Bam Hd _ Hd S.now.cells.toArray a0 Hd ?_;clear b;refine f.out _ _ (Bzj F _) (fun b=>?_);clear f K
 try simp only[QX]
 refine tr 4 fun K f=>?_;go_simp;clear b;refine f.out _ _ (Bzj F _) (fun b=>?_);clear f K
 try simp only[QX]
 all_goals
  refine tr 10 fun K f=>?_;refine Kn Hd _ _ _ Hd k.w0.heap.size 152 i0 _ 20 160 underlying154 hi c2 c3 c4 rfl Bd _ _ _ Hd (Gs a1 (fun j z=>Bvu _ _ _ (a1.lt j z).2)) ⟨wd.heap.size,0,none⟩ 1 1 S.now.cells Hd (by simp[D.len]) (Bdz (Bf wd.drew (.cells S.now.cells.toArray 152))) (Ph S.now) Mc Bd Fm ?_;intro v' g a2 a3 c8;obtain⟨J,L,rfl⟩:=Bg a2;have b0:Bl wd (wd.drew.alloc (.cells S.now.cells.toArray 152)):=(Vm _ _).drew.alloc (Wf _) _;have V:=(Ba H1).gr A b0;obtain⟨b1,b2⟩:=V.rows.addW A V.blk D a2 a3;have N:=(show Mid g k.B 156 _ _ _ from b2.trans V.blk);have b3:g.rangeAt k.B 12 S.now.cells:=N.range rfl;have z0:=N.tail.cell (o:=32) (j:=0) (by rw[Up,Jc,D.len]) (by rw[M4];omega);have zf:=N.free 32;have d8:g.C k.B 32 (.s v.wa S.wait.length v.wc):=z0;have b4:Du g I (.s l c.length p) c:=Gs (Ba Q) (fun j z=>(a3.block j (by have:=((Ba Q).lt j z).2;simp;omega) (fun e=>(Ba a7 j z).2 e.symm)).trans (Bvu _ _ _ ((Ba Q).lt j z).2));have a4:Bz k ⟨S.read,S.objs,S.now,S.wait++[S.now],S.ended,S.out,S.status,S.value,S.steps⟩ ⟨v.oa,v.oc,J,L,v.xa,v.xc,v.ov⟩ (g.setCell (.a k.B 32) (.s J (S.wait.length+1) L)):=Ve (j:=0) N (Jc _ _ _ _) (M4 _ _ _ _ _ _ _) D A Bd _ rfl rfl (by simp[Hp]) b1;have b5:Du (g.setCell (.a k.B 32) (.s J (S.wait.length+1) L)) I (.s l c.length p) c:=Gs b4 (fun j z=>Bvg _ _ _ _ (by simpa using (Ba a7 j z).1));have b6:=Bc a4;have b7:=Bc b5;have b8:(g.setCell (.a k.B 32) (.s J (S.wait.length+1) L)).rangeAt k.B 12 S.now.cells:=a4.blk.range rfl;clear a2 a3 c8 b0 V b1 b2 N z0 b4 a4 b5 b;refine f.out _ _ b3 (fun b=>?_);clear f K
  try simp only[QX]
  refine tq 11 (.q k.B 0) b ?_;refine tq 12 (.q k.B 32) b ?_;refine tr 13 fun K f=>?_;go_simp;clear b;refine f.out _ _ b8 (fun b=>?_);clear f K
  try simp only[QX]
  refine Bv9 Le ?_ _;clear F b3 b8 c6 a1 H1 Q;generalize c9:g.setCell (.a k.B 32) (.s J (S.wait.length+1) L)=w3 at *;clear c9;go_wp2_with fail;refine Qm (Ba a9 _ (Ba b7)) ?_;intro w4 d0;have G:=(Ba b6).gr A d0;have Y:=Sq m c;have d1:w4.there k.B 12 (Cn m c).cells.toArray.size:=G.blk.there (o:=12) rfl (by rw[G.wf.len];simp[Y.len]);have d2:(prog.info? 152).map (·.size)=some (Cn m c).cells.toArray.size:=by rw[Tryz.infoCall];simp[Y.len]
  have d3:=Bya (Ph (Cn m c));have a5:=So (Cn m c).cells _ _ _ w4 (by rw[G.wf.len,Y.len]) G.blk;rw[Jc]at a5;have b9:=G.now A (T7 k.B (Cn m c).cells 12 w4) Y a5;have d4:=Bc b9;clear b9 a5 G b6 b7 a9;go_wp2_with (refine wpList_store_mid Hd 152 (.tmp 38) (.tmp 36) Hd k.B 12 (Cn m c).cells.toArray Hd Hd d1 d2 d3 ?_)
  go_end0;exact⟨rfl,_,Ba d4⟩
def Cv.Ok.pm{k:Cv}(c:k.Ok)(n:Int):(k.E.meth n).params.length<=10:=by
 unfold Ds.meth
 split
 ·simp[Eu]
 split
 ·simp[Eu]
 rename_i f g;have h:k.E.ms.length=k.lms.length:=by simp[Cv.E]
 have b:n.toNat<k.lms.length:=Bd;have e:k.E.ms.getD n.toNat Eu=k.lms[n.toNat].1:=by
  rw[Th];simp[Cv.E,b]
 rw[e];exact c.ps _ (Bvh b)
def Bee(k:Cv)(S:Bo)(v:Dh)(m:Int)(g:TA)(l:Nat)(b:TI)(w:TW)(z:k.Ok)(h:Bz k S v w)(p:Du w k.w0.heap.size (.s g b.length l) b)(F:b.length<=1000)(A:S.wait.length<=1000):Calls prog 249 #[.q k.B 0,.i m,.s g b.length l] w fun e G=>e=.r (.tuple #[])/\∃I,Bz k (Hz k.E m b S) I G:=by
 unfold Hz;have J:k.E.depth=k.depth:=rfl;rw[J];by_cases f:k.depth<=(S.wait.length:Int)+1;·rw[Sp f];exact Bfh k S v m _ w z h ⟨_,_,_,rfl⟩ A f
 rw[Pf f];refine Bfi k S v m g l _ b w z h p F (fun j C=>⟨Gd p h.blk Ck j C,fun c=>?_⟩) A f;obtain⟨_,⟨t,_⟩|⟨D,O,K,t,_,L,_⟩⟩:=h.rows.wait
 ·rw[t]at c;simp[Value.ownBlock]at c
 rw[t]at c;simp only[Value.ownBlock,Option.some.injEq]at c;subst c;have N:w.heap[D]?=some (.cells K.toList.toArray 152 (0,0)):=by simpa using L
 exact Gd p N Ck D C rfl
def Bnk(k:Cv)(S:Bo)(v:Dh)(n:Int)(w:TW)(c:k.Ok)(h:Bz k S v w)(hw:S.wait.length<=1000):Calls prog 192 #[.q k.B 0,.i n] w fun e b=>e=.r (.tuple #[])/\∃f,Bz k (Vs k.E n S) f b:=by
 have hm:=Re k S v n w c h;have a7:=c.pm n;unfold Vs;generalize k.E.meth n=M at *;have HO:Hid (∀w l t,Bz k (Gj M.params.length S) v w->Du w k.w0.heap.size (.s l M.params.length t) (I8 M.params.length S)->Calls prog 249 #[.q k.B 0,.i n,.s l M.params.length t] w fun e b=>e=.r (.tuple #[])/\∃f,Bz k (Hz k.E n (I8 M.params.length S) (Gj M.params.length S)) f b):=by
  intro w l t h hx;have hl:(I8 M.params.length S).length=M.params.length:=Vz _ _;have:=Bee k (Gj M.params.length S) v n l t (I8 M.params.length S) w c h (by rw[hl];exact hx) Bd hw;rw[hl]at this;exact this
 have a2:Hid (∀w A D,Bz k S v w->Calls prog 248 #[.q k.B 12,.s A M.params.length D] w fun e b=>e=.r (.s (.p w.heap.size) M.params.length M.params.length)/\Tv k S v b w.heap.size M.params.length (I8 M.params.length S)/\Bz k (Gj M.params.length S) v b/\Gr k.B w b):=by
  intro w A D h;exact Ae k S v A M.params.length D w c h Bd
 have HA:=Bc h;have HM:=Bc hm;have a8:=h.blk.lt;clear h hm;go_in;go_wp2_with fail;refine(Ba HM).mono ?_;rintro e z ⟨m,rfl,hM,a0⟩;have F:=(Ba HA).gr c a0;have a1:=hM.pl;obtain⟨G,I,g,m4,j,J,K,L,N,O,Q,V,Y,Z,mf,mg,mh,mi⟩:=m;simp only at a1;subst a1;simp only[PM.val];have h2:=F.gr c (QN (O18 G I g M.params.length j J K L N O Q V Y Z mf mg mh mi));have CQ:=Bf z (O18 G I g M.params.length j J K L N O Q V Y Z mf mg mh mi);have a3:z.heap.size≠k.B:=by have:=F.blk.lt;omega
 have q2:=(Bb CQ 2).trans (show _=some (.s g M.params.length j) from rfl);have H2:=Bc h2;clear HM hM a0 F h2 HA;go_wp2;generalize z.alloc (O18 G I g M.params.length j J K L N O Q V Y Z mf mg mh mi)=wA at *
 go_region_held3 (fun b=>b.C z.heap.size 2 (.s g M.params.length j))
  (first|exact q2|exact(Bb (a4.own (show wA.drew.heap[_]?=_ from CQ) a3) 2).trans rfl)
  (first|(go_at_call 248;refine(Ba a2 _ _ _ ((Ba H2).drew c)).mono ?_;rintro e w7 ⟨rfl,a5,a6,a4⟩))
 clear q2 CQ;go_wp2_with fail;refine Qm (Ba HO _ _ _ a6 a5.ints) ?_;rintro w8 ⟨f,h8⟩;go_wp2;go_end0;exact⟨rfl,f,h8⟩
end Go.Proofs.YtpcgnjolfahacaaGreat
