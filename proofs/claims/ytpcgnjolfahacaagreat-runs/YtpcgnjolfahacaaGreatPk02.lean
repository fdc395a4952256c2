/- the proof's parts -/
import Derived.Test.YtpcgnjolfahacaaGreatPk01
set_option maxRecDepth 100000
set_option maxHeartbeats 40000000
set_option linter.unusedVariables false
set_option linter.unusedSimpArgs false
set_option linter.defProp false
namespace Go.Proofs.YtpcgnjolfahacaaGreat
open Go.RowKit Go.Proofs.Tryz
structure RMV where
 cl:Int
 nm:Int
 pa:Option Addr
 pl:Nat
 pc:Nat
 r1:Int
 r2:Int
 lo:Int
 st:Int
 code:ByteArray
 ha:Option Addr
 hl:Nat
 hc:Nat
 ma:Option Addr
 ml:Nat
 mc:Nat
 mAt:Int
 fin:Int
def RMV.val(m:RMV):Value:=.agg #[.int .i64 m.cl,.int .i64 m.nm,.slice m.pa m.pl m.pc,.int .i64 m.r1,.int .i64 m.r2,.int .i64 m.lo,.int .i64 m.st,.string m.code,.slice m.ha m.hl m.hc,.slice m.ma m.ml m.mc,.int .i64 m.mAt,.int .i64 m.fin]
def RMV.obj(m:RMV):Obj:=.cells #[.int .i64 m.cl,.int .i64 m.nm,.slice m.pa m.pl m.pc,.int .i64 m.r1,.int .i64 m.r2,.int .i64 m.lo,.int .i64 m.st,.string m.code,.slice m.ha m.hl m.hc,.slice m.ma m.ml m.mc,.int .i64 m.mAt,.int .i64 m.fin] 109 (0,0)
def Ca (s:ByteArray):List Int:=s.data.toList.map fun c=>(c.toNat:Int)
def He(s:ByteArray):(Ca s).length=s.size:=by simp[Ca]
def Kq(s:ByteArray)(p:Nat)(h:p<s.size):(Ca s).getD p 0=(s[p].toNat:Int):=by
 have b:p<s.data.toList.length:=by simpa using h
 simp[Ca,Vm,h];rfl
def Blj(op:Int)(w:TW):Calls prog 139 #[.i op] w fun e b=>e=.r (.i (Cd.wd op:Int))/\b=w:=by
 unfold Cd.wd;by_cases h:op=0\/op=2\/op=3\/(11<=op/\op<=21)
 ·rw[Th h];have c:op=0\/op=2\/op=3\/op=11\/op=12\/op=13\/op=14\/op=15\/op=16\/op=17\/op=18\/op=19\/op=20\/op=21:=Ck;rcases c with rfl|rfl|rfl|rfl|rfl|rfl|rfl|rfl|rfl|rfl|rfl|rfl|rfl|rfl
  all_goals
   go_in;go_wp2;go_ret;exact⟨rfl,rfl⟩
 rw[Pk h];have f:(op==0)=false:=Fr;have g:(op==2)=false:=Fr;have j:(op==3)=false:=Fr;have l:(op==11)=false:=Fr;have m:(op==12)=false:=Fr;have p:(op==13)=false:=Fr;have q:(op==14)=false:=Fr;have s:(op==15)=false:=Fr;have t:(op==16)=false:=Fr;have v:(op==17)=false:=Fr;have z:(op==18)=false:=Fr;have A:(op==19)=false:=Fr;have B:(op==20)=false:=Fr;have C:(op==21)=false:=Fr;go_in;go_wp2;go_ret;exact⟨rfl,rfl⟩
def Lz(m:RMV)(p:Nat)(w:TW)(f:p<m.code.size)(g:m.code.size<=100000):Calls prog 94 #[m.val,.i (p:Int)] w fun e h=>e=.r (.i ((p+Cd.wd ((Ca m.code).getD p 0):Nat):Int))/\Bl w h:=by
 rw[Kq _ _ f];obtain⟨q,s,t,v,z,A,B,C,D,b,F,G,I,J,K,L,N,O⟩:=m;simp only[RMV.val]at f g ⊢;have Q:=Cd.wd_bd ((b[p].toNat:Int));generalize j:Cd.wd ((b[p].toNat:Int))=d at *;have l:=Bc j;have V:(p:Int)<(b.size:Int):=Ck;have Y:∀c:UInt8,IntKind.i64.wrap (c.toNat:Int)=(c.toNat:Int):=fun c=>Cx _ Ck (by have:=c.toNat_lt;omega);go_in;go_wp2_with (go_at_call 139;refine(Blj _ _).mono ?_;rw[Ba l];rintro e Z ⟨rfl,rfl⟩)
 go_ret;exact⟨Hd,QN _⟩
def Mz(m:RMV)(p:Nat)(w:TW)(c:p<m.code.size)(f:m.code.size<=100000):Calls prog 100 #[m.val,.i (p:Int)] w fun e g=>e=.r (.i (Rf.at' m.code.data.toList ((p:Int)+1)))/\Bl w g:=by
 obtain⟨q,s,t,v,z,A,B,C,D,b,F,G,I,J,K,L,N,O⟩:=m;simp only[RMV.val]at c f ⊢;generalize h:Rf.at' b.data.toList ((p:Int)+1)=r;have j:=Bc h;have l:b.size<=maxLen:=Pf;go_in;go_wp2_with (go_at_call 135;refine(Ge b ((p:Int)+1) _ l).mono ?_;rw[Ba j];rintro e Q ⟨rfl,rfl⟩)
 go_ret;exact⟨rfl,QN _⟩
def Ro(m:RMV)(g:Int)(w:TW)(t:m.code.size<=100000):Calls prog 96 #[m.val,.i g] w fun e I=>e=.r (.bool (Cd.begB (Ca m.code) g))/\Bl w I:=by
 have z:=fun p w J=>Lz m p w J t;have A:Bl w (w.alloc m.obj):=QN _;have B:=Be w m.obj;unfold Cd.begB Cd.places;generalize f:(Cd.starts (Ca m.code) (Ca m.code).length 0).any (fun p=>(p:Int)==g)=r;have h:=Bc f;have C:=He m.code;obtain⟨K,L,N,O,Q,V,Y,Z,st,b,ha,a0,hc,ma,ml,mc,a1,a2⟩:=m;simp only[RMV.val,RMV.obj]at z A B t C h ⊢;have HN:=Bc z;have HL:=Bc C;go_in;go_wp2
 go_loopw [5] (fun v wr=>∃p k:Nat,v=.i (p:Int)/\(Ca b).length<=p+k/\p<=200000/\Hid ((Cd.starts (Ca b) k p).any (fun p=>(p:Int)==g)=r)/\Bl w wr /\
   wr.heap[w.heap.size]?=some (O12 K L N O Q V Y Z st b ha a0 hc ma ml mc a1 a2))
  (fun v _=>b.size-(intOf v).toNat)
 case atStart=>exact⟨0,_,rfl,Ck,Ck,h,A,B⟩
 case round=>
  obtain⟨p,k,rfl,hk,b2,h,q,D⟩:=hrel;obtain⟨c0,c1,c2,c3,c4,c5,c6,c7,c8,c9,a3,a4⟩:=El D;simp at c0 c1 c2 c3 c4 c5 c6 c7 c8 c9 a3 a4;have a5:=q.size;by_cases a6:p<b.size
  ·obtain⟨j,rfl,hj,a7⟩:=Cd.starts_go (c:=Ca b) (k:=k) (p:=p) Ck hk;have f:=Ba h;rw[a7,Buj]at f;have a8:(p:Int)<(b.size:Int):=Ck;by_cases F:(p:Int)=g
   ·have s:((p:Int)==g)=true:=by simp[F]
    have l:Hid (r=true):=by unfold Hid;rw[<- f,s];rfl
    go_wp2;go_ret;exact⟨by rw[Ba l];rfl,q⟩
   have s:((p:Int)==g)=false:=by simp[F]
   rw[s,Bool.false_or]at f;have b3:=Cd.wd_bd ((Ca b).getD p 0);have hn:=Ba HN p wr a6;generalize Cd.wd ((Ca b).getD p 0)=d at *;have l:=Bc f;have a9:=Bc hn;go_wp2_with fail;refine Qm (Ba a9) ?_;intro w1 G;have b0:=q.trans (G.mono a5);have b1:=stay G D;go_wp2;go_roundw
   case rel=>exact⟨p+d,j,rfl,hj,Ck,l,b0,b1⟩
   case measure=>simp[intOf];omega
  have f:=Ba h;rw[Cd.starts_end Ck]at f;have l:=Bc f;have a8:¬(p:Int)<(b.size:Int):=Ck;go_wp2;go_ret;exact⟨by rw[<- Ba l];rfl,q⟩
def Beo(m:RMV)(w:TW)(D:m.code.size<=100000):Calls prog 93 #[m.val] w fun e Q=>e=.r (.i (Cd.unread (Ca m.code)))/\Bl w Q:=by
 have F:=fun p w V=>Lz m p w V D;have G:Bl w (w.alloc m.obj):=QN _;have I:=Be w m.obj;unfold Cd.unread Cd.places;generalize f:Cd.first (Cd.noRead (Ca m.code)) (Cd.starts (Ca m.code) (Ca m.code).length 0)=r
 have l:=Bc f;have A:=He m.code;obtain⟨Y,Z,pa,pl,pc,r1,r2,lo,st,b,ha,a0,hc,ma,ml,mc,a1,a2⟩:=m;simp only[RMV.val,RMV.obj]at F G I D A l ⊢;have HN:=Bc F;have HL:=Bc A;go_in;go_wp2
 go_loopw [3] (fun v wr=>∃p k:Nat,v=.i (p:Int)/\(Ca b).length<=p+k/\p<=200000/\Hid (Cd.first (Cd.noRead (Ca b)) (Cd.starts (Ca b) k p)=r)/\Bl w wr /\
   wr.heap[w.heap.size]?=some (O12 Y Z pa pl pc r1 r2 lo st b ha a0 hc ma ml mc a1 a2))
  (fun v _=>b.size-(intOf v).toNat)
 case atStart=>exact⟨0,_,rfl,Ck,Ck,l,G,I⟩
 case round=>
  obtain⟨p,k,rfl,hk,b5,l,q,t⟩:=hrel;obtain⟨c0,c1,c2,c3,c4,c5,c6,c7,c8,c9,a3,a4⟩:=El t;simp at c0 c1 c2 c3 c4 c5 c6 c7 c8 c9 a3 a4;have B:=q.size;by_cases J:p<b.size
  ·obtain⟨j,rfl,hj,a5⟩:=Cd.starts_go (c:=Ca b) (k:=k) (p:=p) Ck hk;have f:=Ba l;rw[a5,Cd.first]at f
   have a6:(p:Int)<(b.size:Int):=Ck;have b6:=Cd.wd_bd ((Ca b).getD p 0);have hn:=fun w=>Ba HN p w J;have a7:Cd.noRead (Ca b) p=(decide (25<b[p].toNat)||decide (b.size<p+Cd.wd ((Ca b).getD p 0))):=by
    unfold Cd.noRead;rw[Kq b p J,A]
    congr 1
    simp only[decide_eq_decide];omega
   rw[a7]at f;generalize Cd.wd ((Ca b).getD p 0)=d at *;have z:=Bc hn;by_cases K:25<b[p].toNat
   ·have a8:(25:Int)<(b[p].toNat:Int):=Ck;have h:Hid ((p:Int)=r):=by unfold Hid;rw[<- f];simp[K]
    go_wp2_with fail;refine Qm (Ba z _) ?_;intro L g;have s:=q.trans (g.mono B);have C:=Bb (stay g t) 7;simp at C;go_wp2;go_ret;exact⟨by rw[<- Ba h];rfl,s⟩
   have a8:¬(25:Int)<(b[p].toNat:Int):=Ck;by_cases N:b.size<p+d
   ·have a9:(b.size:Int)<((p+d:Nat):Int):=Ck;have h:Hid ((p:Int)=r):=by unfold Hid;rw[<- f];simp[N]
    go_wp2_with fail;refine Qm (Ba z _) ?_;intro L g;have s:=q.trans (g.mono B);have C:=Bb (stay g t) 7;simp at C;go_wp2;go_ret;exact⟨by rw[<- Ba h];rfl,s⟩
   have a9:¬(b.size:Int)<((p+d:Nat):Int):=Ck;have h:Hid (Cd.first (Cd.noRead (Ca b)) (Cd.starts (Ca b) j (p+d))=r):=by unfold Hid;rw[<- f];simp[K,N]
   go_wp2_with fail;refine Qm (Ba z _) ?_;intro L g;have s:=q.trans (g.mono B);have O:=stay g t;obtain⟨e0,e1,e2,e3,e4,e5,e6,e7,e8,e9,b0,b1⟩:=El O;simp at e0 e1 e2 e3 e4 e5 e6 e7 e8 e9 b0 b1;go_wp2_with fail;refine Qb (Ba z _) s ?_;intro w2 b2 b3;have b4:=stay b2 O;go_wp2;go_roundw
   case rel=>exact⟨p+d,j,rfl,hj,Ck,h,b3,b4⟩
   case measure=>simp[intOf];omega
  have f:=Ba l;rw[Cd.starts_end Ck]at f;have h:=Bc f;have a6:¬(p:Int)<(b.size:Int):=Ck;go_wp2;go_ret;exact⟨by rw[<- Ba h];rfl,q⟩
def Jm(l:TP):(Bp l).length=l.length*2:=by
 induction l with
 | nil=>rfl
 | cons x r ih=>simp[Bp]at ih ⊢;omega
def Ib(l r:TP):Bp (l++r)=Bp l++Bp r:=by simp[Bp]
def Sg(l:TP):∀u∈Bp l,u.oneCell'=true:=by
 intro u b;simp only[Bp,List.mem_flatMap,Bub,Buh,Bv8]at b;obtain⟨x,_,rfl|rfl⟩:=b<;>rfl
def Bia{w:TW}{z:Array Oper}{A:List Oper}{o:Oper}{a:Act}{Q:Exit->Act->TW->Prop}(B:o.guard=none)(s x:Operand) (C:o.op=.call { callee:=.builtin .append,args:=#[s,x],argTypes:=#[105,105] }) (c N:Nat)(v:TX)(e b:TP)(l:TA)(m vc:Nat)(D:a.eval s=v)(q:w.ownsRow c 31 2 v e.length (Bp e))(F:a.eval x=.s l m vc)(O:Cq w N (.s l m vc) b) (h1:e.length+b.length<=100000)(V:c<=w.heap.size) (h:∀i f,f.ownsRow c 31 2 i (e++b).length (Bp (e++b))->w.grownBy f v.ownBlock->wpList prog z Q A (a.put o.dst i) f):wpList prog z Q (o::A) a w:=by
 obtain⟨G,I,Y,Z,a0⟩:=Bsa Tryz.infoType;obtain⟨hl,⟨t,hn⟩|⟨g,J,a6,t,hb,hg,a7,hm,a8,a1⟩⟩:=O
 ·have a2:b=[]:=Bso hn;subst a2;refine Bwp B s x _ C c 31 G 2 Bsk I v _ _ D q (F.trans t) ?_;exact h v w (by simpa using q) (World.grownBy.refl _ _)
 have a3:(Value.slice l m vc)=.s (.p g) b.length J:=t;refine Br3 w B s x _ C c 31 G _ 2 16 Bsk I Y Z a0 rfl Ck v _ _ D q ⟨g,0,none⟩ b.length J (Bp b) (F.trans a3) (Jm b) ?_ (Sg b) Pf Ck V ?_
 ·intro j u K;have L:j<(Bp b).length:=(List.getElem?_eq_some_iff.1 K).1;rw[Bvc,Brz,Bb hg,<- K,<- a1,Bs0,Th (by rw[hl]at L;exact L)];simp
 intro i f a4 a5 _;exact h i f (by rw[Ws,Ib];exact a4) a5
def Rf.allTo(T:TI)(cs:List Rd.Cls)(c:Int):Nat->List (Int × Int)
 | 0=>[]
 | d+1=>Rf.allTo T cs c d++(if Tr.rbel T c (d:Int)=true then (cs.getD d ⟨0,[]⟩).fields else [])
def Rf.all(T:TI)(cs:List Rd.Cls)(c:Nat):List (Int × Int):=Rf.allTo T cs (c:Int) (c+1)
def W3(T:TI)(b:List Rd.Cls)(c:Int)(e:∀p∈b,p.fields.length<=1000)(d:Nat):(Rf.allTo T b c d).length<=1000*d:=by
 induction d with
 | zero=>simp[Rf.allTo]
 | succ k ih =>
  rw[Rf.allTo,Ws];have:(b.getD k ⟨0,[]⟩).fields.length<=1000:=by
   rw[Vm];rcases h:b[k]? with _|x
   ·simp
   simp;exact e x (Bs6 h)
  split
  ·omega
  rw[Bs2];omega
def Yq(A m:TA)(h q t D:Nat)(l:List (Rd.Cls×Value))(c:Nat)(w:TW)(hl:l.length<=13)(b9:c<l.length)(a0:∀p∈l,p.1.fields.length<=1000)(hc:Hm w D (.s A l.length h) l):Calls prog 201 #[.agg #[.s A l.length h,.s m q t],.i (c:Int)] w fun e w' => ∃F vc,e=.r (.s F (Rf.all (Ct l) (l.map Prod.fst) c).length vc)/\Cq w' w.heap.size (.s F (Rf.all (Ct l) (l.map Prod.fst) c).length vc) (Rf.all (Ct l) (l.map Prod.fst) c)/\Bl w w':=by
 have a4:=fun d=>W3 (Ct l) (l.map Prod.fst) (c:Int) (by intro p hp;obtain⟨x,hx,rfl⟩:=List.mem_map.1 hp;exact a0 x hx) d;have a5:Below (w.heap.size+1) (w.alloc (O11 A l.length h m q t)) (w.alloc (O11 A l.length h m q t)):=Brm _ _;unfold Rf.all;go_in;go_wp2
 go_loopw [5,6] (fun v i wr=>∃d:Nat,d<=c+1/\i=.i (d:Int)/\wr.ownsRow (w.heap.size+1) 31 2 v (Rf.allTo (Ct l) (l.map Prod.fst) (c:Int) d).length (Bp (Rf.allTo (Ct l) (l.map Prod.fst) (c:Int) d)) /\
   Below (w.heap.size+1) (w.alloc (O11 A l.length h m q t)) wr)
  (fun _ i _=>c+1-(intOf i).toNat)
 case atStart=>exact⟨0,Ck,rfl,Brw _ _ _ _,a5⟩
 case round=>
  obtain⟨d,hd,rfl,G,B⟩:=hrel;obtain⟨F,vc,rfl⟩:=Bh G;have a6:=B.size;simp at a6;have hB:Bl w wr:=(QN _).trans (B.mono Ck);have F0:=(B.block w.heap.size Ck).trans (Be w _);obtain⟨x0,x1⟩:=cl2 F0;simp at x0 x1;have N:=hc.kp (Kp.of_below (e:=none) hB) Fm Fm;have c0:=a4 d;by_cases c3:d<=c
  ·have I:d<l.length:=Ck;have a7:(d:Int)<=(c:Int):=Ck;have c4:(d:Int)<(l.length:Int):=Ck;have O:Rf.allTo (Ct l) (l.map Prod.fst) (c:Int) (d+1)=Rf.allTo (Ct l) (l.map Prod.fst) (c:Int) d++(if Tr.rbel (Ct l) (c:Int) (d:Int)=true then l[d].1.fields else []):=by
    rw[Rf.allTo]
    congr 2
    simp[Vm,I]
   obtain⟨g,hg,a8,_,a9⟩:=Cf N.1 Ck;obtain⟨e1,e2,e3⟩:=Nm l d I;have Q:=N.2 _ (Brn I);have c5:=a0 _ (Brn I);obtain⟨V,Y,hu⟩:=Bh Q;rw[hu]at Q;generalize c6:l[d].1.fields=z at *;generalize c7:Rf.allTo (Ct l) (l.map Prod.fst) (c:Int) d=J at *;generalize hb:Tr.rbel (Ct l) (c:Int) (d:Int)=b at O;have HB:=Bc hb;have a3:=Bc N;have b0:=Bc a9;have b1:Hid ((Jt l)[d*2+1]?=some (.s V z.length Y)):=by unfold Hid;rw[e2,hu]
   have b2:=Bc e3;subst hg;cases b with
   | false =>
    have Z:Hid (Rf.allTo (Ct l) (l.map Prod.fst) (c:Int) (d+1)=J):=by unfold Hid;rw[O];simp
    go_wp2_with fail;refine(J9 (.p g) m h q t D l (c:Int) (d:Int) wr Ck (Ba a3)).mono ?_;rw[Ba HB];rintro e w1 ⟨rfl,f⟩;have K:=B.trans (f.mono Ck);have L:=Dc G (Kp.of_below (e:=none) f) Fm;go_wp2;go_roundw
    case rel=>exact⟨d+1,Ck,Mg,by rw[Ba Z];exact L,K⟩
    case measure=>simp[intOf];omega
   | true =>
    have Z:Hid (Rf.allTo (Ct l) (l.map Prod.fst) (c:Int) (d+1)=J++z):=by unfold Hid;rw[O];simp
    go_wp2_with fail;refine(J9 (.p g) m h q t D l (c:Int) (d:Int) wr Ck (Ba a3)).mono ?_;rw[Ba HB];rintro e w1 ⟨rfl,f⟩;have K:=B.trans (f.mono Ck);have L:=Dc G (Kp.of_below (e:=none) f) Fm;have b3:=Q.kp (Kp.of_below (e:=none) f) Fm;have F1:=stay f F0;have y0:=Bb F1 0;have z1:w1.C g (d*2+1) (.s V z.length Y):=QC f a8 ((Ba b0 _ (Ba b2)).trans (Ba b1));have b4:=K.size;simp at y0 b4;have b5:J.length+z.length<=100000:=Ck;go_wp2_with (at_builtin;refine Bia rfl _ _ rfl (w.heap.size+1) D _ J z V z.length Y rfl L rfl b3 b5 Ck ?_)
    intro v' w2 b6 b7;have b8:=K.grown b7 Ck (fun j hj=>(L.lt j hj).1);go_wp2;go_roundw
    case rel=>exact⟨d+1,Ck,Mg,by rw[Ba Z,Ws];exact b6,b8⟩
    case measure=>simp[intOf];omega
  obtain rfl:d=c+1:=Ck;have a7:¬((c+1:Nat):Int)<=(c:Int):=Ck;go_wp2;go_ret;exact⟨F,vc,rfl,D6 G Ck,hB⟩
def Tryz.infoField:(prog.info? 235).map (fun i=>(i.zero,i.size,i.bytes))=some (some (.agg #[.i 0,.i 0,.i 0,.i 0]),4,32):=Lt
structure Rf.Fld where
 owner:Int
 slot:Int
 t:Int × Int
def Lk (l:List Rf.Fld):List Value:=l.flatMap fun x=>[.int .i64 x.owner,.int .i64 x.slot,.int .i64 x.t.1,.int .i64 x.t.2]
def Bfg(l:List Rf.Fld)(x:Rf.Fld):Lk (l++[x])=Lk l++[.i x.owner,.i x.slot,.i x.t.1,.i x.t.2]:=by simp[Lk]
def Rf.ownTo(c base:Int)(own:TP):Nat->List Rf.Fld
 | 0=>[]
 | k+1=>Rf.ownTo c base own k++[⟨c,base+(k:Int),own.getD k (0,0)⟩]
def Rf.ownOf(T:TI)(cs:List Rd.Cls)(c:Nat):List Rf.Fld :=
 Rf.ownTo (c:Int) (((Rf.all T cs c).length:Int)-(((cs.getD c ⟨0,[]⟩).fields.length:Nat):Int)) (cs.getD c ⟨0,[]⟩).fields (cs.getD c ⟨0,[]⟩).fields.length
def Rf.fieldsTo(T:TI)(cs:List Rd.Cls):Nat->List Rf.Fld
 | 0=>[]
 | j+1=>Rf.fieldsTo T cs j++Rf.ownOf T cs (7+j)
def Na(c b:Int)(own:TP)(k:Nat):(Rf.ownTo c b own k).length=k:=by
 induction k with
 | zero=>rfl
 | succ j ih=>simp[Rf.ownTo,ih]
def Bea(T:TI)(b:List Rd.Cls)(c:∀p∈b,p.fields.length<=1000)(j:Nat):(Rf.fieldsTo T b j).length<=1000*j:=by
 induction j with
 | zero=>simp[Rf.fieldsTo]
 | succ k ih =>
  rw[Rf.fieldsTo,Ws,Rf.ownOf,Na];have:(b.getD (7+k) ⟨0,[]⟩).fields.length<=1000:=by
   rw[Vm];rcases h:b[7+k]? with _|x
   ·simp
   simp;exact c x (Bs6 h)
  omega
def N6(F B:TA)(c1 C c2 O:Nat)(l:List (Rd.Cls×Value))(w:TW)(hl:l.length<=13)(f5:7<=l.length)(Q:∀p∈l,p.1.fields.length<=1000)(V:Hm w O (.s F l.length c1) l):Calls prog 140 #[.agg #[.s F l.length c1,.s B C c2]] w fun e w' => ∃L vc,e=.r (.s L (Rf.fieldsTo (Ct l) (l.map Prod.fst) (l.length-7)).length vc)/\w'.ownsRow w.heap.size 235 4 (.s L (Rf.fieldsTo (Ct l) (l.map Prod.fst) (l.length-7)).length vc) (Rf.fieldsTo (Ct l) (l.map Prod.fst) (l.length-7)).length (Lk (Rf.fieldsTo (Ct l) (l.map Prod.fst) (l.length-7)))/\Bl w w':=by
 have a5:∀p∈l.map Prod.fst,p.fields.length<=1000:=by intro p hp;obtain⟨x,hx,rfl⟩:=List.mem_map.1 hp;exact Q x hx
 have b8:=fun j=>Bea (Ct l) (l.map Prod.fst) a5 j;have b9:=fun (c:Nat) d=>W3 (Ct l) (l.map Prod.fst) (c:Int) a5 d;obtain⟨i0,hi,c0,c6,c7⟩:=Bsa Tryz.infoField;have a6:Below (w.heap.size+1) (w.alloc (O11 F l.length c1 B C c2)) (w.alloc (O11 F l.length c1 B C c2)):=Brm _ _;go_in;go_wp2
 go_loopw [3,4] (fun v i wr=>∃j:Nat,7+j<=l.length/\i=.i (7+(j:Int))/\wr.ownsRow (w.heap.size+1) 235 4 v (Rf.fieldsTo (Ct l) (l.map Prod.fst) j).length (Lk (Rf.fieldsTo (Ct l) (l.map Prod.fst) j)) /\
   Below (w.heap.size+1) (w.alloc (O11 F l.length c1 B C c2)) wr)
  (fun _ i _=>l.length-(intOf i).toNat)
 case atStart=>exact⟨0,Ck,rfl,Brw _ _ _ _,a6⟩
 case round=>
  clear a6;obtain⟨j,hj,rfl,m,z⟩:=hrel;obtain⟨L,vc,rfl⟩:=Bh m;have c8:=z.size;simp at c8;have Y:Bl w wr:=(QN _).trans (z.mono Ck);have G:=(z.block w.heap.size Ck).trans (Be w _);obtain⟨x0,x1⟩:=cl2 G;simp at x0 x1;by_cases I:7+j<l.length
  ·have N:=V.kp (Kp.of_below (e:=none) Y) Fm Fm;have c9:(7:Int)+(j:Int)<(l.length:Int):=Ck;obtain⟨g,hg,f6,_,a7⟩:=Cf N.1 Ck;obtain⟨e1,e2,e3⟩:=Nm l (7+j) I;have y1:=(a7 _ e3).trans e2;have A:=N.2 _ (Brn I);have f7:=Q _ (Brn I);obtain⟨ua,uc,J⟩:=Bh A;rw[J]at A y1;have f8:=b8 j;have a8:=b9 (7+j) (7+j+1);have a9:Rf.fieldsTo (Ct l) (l.map Prod.fst) (j+1)=Rf.fieldsTo (Ct l) (l.map Prod.fst) j++Rf.ownTo ((7+j:Nat):Int) (((Rf.all (Ct l) (l.map Prod.fst) (7+j)).length:Int)-((l[7+j].1.fields.length:Nat):Int)) l[7+j].1.fields l[7+j].1.fields.length:=by
    rw[Rf.fieldsTo,Rf.ownOf];have:(l.map Prod.fst).getD (7+j) ⟨0,[]⟩=l[7+j].1:=by simp[Vm,I]
    rw[this]
   generalize d0:l[7+j].1.fields=f at *;generalize d1:Rf.fieldsTo (Ct l) (l.map Prod.fst) j=D at *;have it:((7:Int)+(j:Int)).toNat=7+j:=Ck;have f9:0<=(7:Int)+(j:Int):=Ck;have b0:=Bc N;have Z:=fun w1 d2=>Yq F B c1 C c2 O l (7+j) w1 hl I Q d2;rw[show ((7+j:Nat):Int)=7+(j:Int) by omega]at Z;have g0:(Rf.all (Ct l) (l.map Prod.fst) (7+j)).length<=1000*(7+j+1):=a8;generalize d3:Rf.all (Ct l) (l.map Prod.fst) (7+j)=h at *;have HA:=Bc Z;have HS:=Bc a9;clear N a7 e1 e2 e3 J d0 d1 Z d3 a8 a9;subst hg;go_wp2_with fail;refine(Ba HA _ (Ba b0)).mono ?_;rintro e w1 ⟨la,lc,rfl,_,K⟩;have b1:=z.trans (K.mono Ck);have b2:=Dc m (Kp.of_below (e:=none) K) Fm;have b3:=A.kp (Kp.of_below (e:=none) K) Fm;have F1:=stay K G;clear K z m Y G x0 x1 b0 HA A y1;go_wp2
   rename World=>w1
   go_loopw [3,7] (fun v i wr=>∃k:Nat,k<=f.length/\i=.i (k:Int)/\wr.ownsRow (w.heap.size+1) 235 4 v (D++Rf.ownTo (7+(j:Int)) ((h.length:Int)-(f.length:Int)) f k).length (Lk (D++Rf.ownTo (7+(j:Int)) ((h.length:Int)-(f.length:Int)) f k)) /\
     Cq wr O (.s ua f.length uc) f/\wr.heap[w.heap.size]?=some (O11 (.p g) l.length c1 B C c2)/\Below (w.heap.size+1) (w.alloc (O11 (.p g) l.length c1 B C c2)) wr)
    (fun _ i _=>f.length-(intOf i).toNat)
   case atStart=>exact⟨0,Ck,rfl,by simpa[Rf.ownTo] using b2,b3,F1,b1⟩
   case round=>
    clear b2 b3 F1 b1;obtain⟨k,hk,rfl,m,A,G,z⟩:=hrel;obtain⟨g1,g3,rfl⟩:=Bh m;have d4:=z.size;simp at d4;have a0:(Rf.ownTo (7+(j:Int)) ((h.length:Int)-(f.length:Int)) f k).length=k:=Na _ _ _ _;by_cases b4:k<f.length
    ·obtain⟨g2,d5,g4,_,a3⟩:=Cf A Ck;obtain⟨t1,t2,t3⟩:=Fu f k b4;have u0:=(a3 (k*2) Ck).trans t1;have u1:=(a3 (k*2+1) Ck).trans t2;have b5:Rf.ownTo (7+(j:Int)) ((h.length:Int)-(f.length:Int)) f (k+1)=Rf.ownTo (7+(j:Int)) ((h.length:Int)-(f.length:Int)) f k++[⟨7+(j:Int),(h.length:Int)-(f.length:Int)+(k:Int),(f[k].1,f[k].2)⟩]:=by
      rw[Rf.ownTo];simp[Vm,b4]
     generalize d6:f[k].1=f1 at *;generalize d7:f[k].2=f2 at *;have d8:=Bc b5;have g5:(k:Int)<(f.length:Int):=Ck;have g6:(D++Rf.ownTo (7+(j:Int)) ((h.length:Int)-(f.length:Int)) f k).length<=20000:=by rw[Ws,a0];omega
     generalize b6:D++Rf.ownTo (7+(j:Int)) ((h.length:Int)-(f.length:Int)) f k=xs at *;have d9:=Bc b6;clear b5 a3 t1 t2 t3 d6 d7 b6 a0;subst d5;go_wp2_with (at_builtin;refine Br3 _ rfl _ _ 230 rfl (w.heap.size+1) 235 i0 _ 4 32 underlying230 hi c0 c6 c7 rfl Fm _ _ _ rfl (m.alloc _) ⟨wr.heap.size,0,none⟩ 1 1 [.i (7+(j:Int)),.i ((h.length:Int)-(f.length:Int)+(k:Int)),.i f1,.i f2] rfl rfl ?c1 ?c2 ?c3 ?c4 ?c5 ?_)
     case c1=>exact Dh _ _ _ _ rfl
     case c2=>intro u J;simp at J;rcases J with rfl|rfl|rfl|rfl<;>rfl
     case c3=>unfold maxLen;omega
     case c4=>omega
     case c5=>simp;omega
     intro v' w2 b7 a4 _;have hK:=(Kp.alloc (e:=some 235) (b:=0) wr (O13 (7+(j:Int)) ((h.length:Int)-(f.length:Int)+(k:Int)) f1 f2)).trans (Kp.of_grown a4 (m.alloc _));have f0:=A.kp (e:=some 235) (fun q cs t hq V ht=>hK q cs t (Bsb _) V ht) Fm;have F2:=hK _ _ _ (Bsb _) G Fm;have f3:=(z.alloc Ck _).grown a4 Fr (fun j hj=>(m.lt j hj).1);have f4:w2.ownsRow (w.heap.size+1) 235 4 v' (D++Rf.ownTo (7+(j:Int)) ((h.length:Int)-(f.length:Int)) f (k+1)).length (Lk (D++Rf.ownTo (7+(j:Int)) ((h.length:Int)-(f.length:Int)) f (k+1))):=by
      rw[Ba d8,<- Bsi,Ba d9,Bfg,Ws];exact b7
     clear a4 m b7 z A G hK;go_wp2;go_roundw
     case rel=>exact⟨k+1,Ck,Mg,f4,f0,F2,f3⟩
     case measure=>simp[intOf];omega
    obtain rfl:k=f.length:=Ck;have HF:Hid (Rf.fieldsTo (Ct l) (l.map Prod.fst) (j+1)=D++Rf.ownTo (7+(j:Int)) ((h.length:Int)-(f.length:Int)) f f.length):=by
     unfold Hid;rw[Ba HS,show ((7+j:Nat):Int)=7+(j:Int) by omega]
    clear HS a0;go_wp2;go_roundw
    case rel=>exact⟨j+1,Ck,Mg,by rw[Ba HF];exact m,z⟩
    case measure=>simp[intOf];omega
  obtain rfl:j=l.length-7:=Ck;have c9:¬(7:Int)+((l.length-7:Nat):Int)<(l.length:Int):=Ck;go_wp2;go_ret;exact⟨L,vc,rfl,D6 m Ck,Y⟩
def Nk{α:Type}(f:α->TV)(n:Nat)(b:∀x,(f x).length=n)(l:List α)(k:Nat)(c:k<l.length)(j:Nat)(e:j<n):(l.flatMap f)[k*n+j]?=(f l[k])[j]?:=by
 induction l generalizing k with
 | nil=>simp at c
 | cons x r ih =>
  rw[Bsz];cases k with
  | zero =>
   rw[Br6 (by rw[b];omega)];simp
  | succ i =>
   rw[Br0 (by rw[b,Bvd];omega),b,show (i+1)*n+j-n=i*n+j by rw[Bvd];omega];simpa using ih i (by simpa using c)
def Kx{α:Type}(f:α->TV)(n:Nat)(b:∀x,(f x).length=n)(l:List α):(l.flatMap f).length=l.length*n:=by
 induction l with
 | nil=>simp
 | cons x r ih=>rw[Bsz,Ws,b,ih,Br7,Bvd];omega
def Av(l:List (Rf.Mth×K0))(k:Nat)(b:k<l.length)(j:Nat)(c:j<12):(Oh l)[k*12+j]?=(Ly l[k].1 l[k].2)[j]?/\k*12+j<(Oh l).length:=by
 refine⟨Nk (fun x:Rf.Mth×K0=>Ly x.1 x.2) 12 (fun _=>rfl) l k b j c,?_⟩;unfold Oh;rw[Kx (fun x:Rf.Mth×K0=>Ly x.1 x.2) 12 (fun _=>rfl) l];omega
def Cd.argB(T:TI)(nf:Int)(ow:TI)(lo:Int)(c:TI)(op n:Int):Bool :=
 if op=2\/op=3 then decide (n<lo)
 else if 11<=op/\op<=14 then Cd.begB c n
 else if op=15\/op=16\/op=19 then Tr.hasB T n
 else if op=17\/op=18 then decide (n<nf)
 else if op=20 then decide (n<(ow.length:Int))&&(ow.getD n.toNat 0==255)
 else if op=21 then decide (n<(ow.length:Int))&&(ow.getD n.toNat 0 != 255)
 else true
structure RFl where
 a1:Option Addr
 c1:Nat
 a2:Option Addr
 c2:Nat
 bb:Nat
 l:List (Rd.Cls × Value)
 ms:List (Rf.Mth × K0)
def RFl.val(f:RFl):Value:=.agg #[.slice f.a1 f.l.length f.c1,.slice f.a2 f.ms.length f.c2]
def RFl.ok(f:RFl)(w:TW):Prop:=f.l.length<=13/\7<=f.l.length/\f.ms.length<=6/\(∀p∈f.l,p.1.fields.length<=1000)/\Hm w f.bb (.slice f.a1 f.l.length f.c1) f.l/\Ks w f.bb (.slice f.a2 f.ms.length f.c2) f.ms
def RFl.ok.below{f:RFl}{w s:TW}(h:f.ok w)(b:Bl w s):f.ok s :=
 ⟨h.1,h.2.1,h.2.2.1,h.2.2.2.1,h.2.2.2.2.1.kp (Kp.of_below (e:=none) b) Fm Fm,h.2.2.2.2.2.kp (Kp.of_below (e:=none) b) Fm Fm Fm Fm⟩
def RFl.T(f:RFl):List Int:=Ct f.l
def RFl.fields(f:RFl):List Rf.Fld:=Rf.fieldsTo (Ct f.l) (f.l.map Prod.fst) (f.l.length-7)
def RFl.owners(f:RFl):List Int:=f.ms.map fun x=>x.1.m.cl
def Bmd(f:RFl)(m:RMV)(p:Nat)(w:TW)(hf:f.ok w)(hp:p<m.code.size)(hs:m.code.size<=100000)(hr:p+Cd.wd ((Ca m.code).getD p 0)<=m.code.size):Calls prog 95 #[f.val,m.val,.i (p:Int)] w fun e w' => e=.r (.bool (Cd.argB f.T (f.fields.length:Int) f.owners m.lo (Ca m.code) ((Ca m.code).getD p 0) (Rf.at' m.code.data.toList ((p:Int)+1))))/\Bl w w':=by
 have hN:2<=Cd.wd ((Ca m.code).getD p 0)->0<=Rf.at' m.code.data.toList ((p:Int)+1):=by
  intro h;have:Rf.at' m.code.data.toList ((p+1:Nat):Int)=_:=Ry (s:=m.code) (i:=p+1) Ck;rw[show ((p:Int)+1)=((p+1:Nat):Int) by omega,this];omega
 rw[Kq _ _ hp]at hN hr ⊢;have a6:=fun w=>Mz m p w hp hs;have a7:=fun x w=>Ro m x w hs;have a0:=fun x w=>L9 f.T f.a1 f.a2 f.c1 f.ms.length f.c2 x w;have a3:=fun w (h:f.ok w)=>N6 f.a1 f.a2 f.c1 f.ms.length f.c2 f.bb f.l w h.1 h.2.1 h.2.2.2.1 h.2.2.2.2.1;have b2:f.T.length=f.l.length:=Jn _;rw[b2]at a0;have b3:=hf;obtain⟨F,G,I,J,K,l,j⟩:=f;obtain⟨cl,nm,pa,pl,pc,r1,r2,lo,st,g,ha,hl,hc,ma,ml,mc,d3,d4⟩:=m;simp only[RMV.val,RFl.val]at hp hs hN hr a6 a7 a0 a3 ⊢;have b4:(RFl.mk F G I J K l j).fields=Rf.fieldsTo (Ct l) (l.map Prod.fst) (l.length-7):=rfl;rw[<- b4]at a3;generalize (RFl.mk F G I J K l j).fields=b5 at *;generalize (RFl.mk F G I J K l j).T=T at *;generalize b9:Rf.at' g.data.toList ((p:Int)+1)=n at *;have b6:(RFl.mk F G I J K l j).owners.length=j.length:=by simp[RFl.owners]
 generalize A:(RFl.mk F G I J K l j).owners=ow at *;generalize t:Cd.argB T (b5.length:Int) ow lo (Ca g) (g[p].toNat:Int) n=R;have d5:(p:Int)<(g.size:Int):=Ck;have d6:∀c:UInt8,IntKind.i64.wrap (c.toNat:Int)=(c.toNat:Int):=fun c=>Cx _ Ck (by have:=c.toNat_lt;omega);have c0:=Bc a6;have c3:=Bc a7;have c4:=Bc a0;have c5:=Bc a3;have a8:=Bc b3;have b7:Hid (2<=Cd.wd (g[p].toNat:Int)->0<=n):=hN;have b8:=Bc A;have a4:=Bc b6;clear b9 b4 a6 a7 a0 a3 b3 hf hN hr A b6 b2;go_in;go_wp2_with fail;refine Qm (Ba c0 _) ?_;intro w1 a5;have z:=(Bu w _ _).trans (a5.mono Fr);have CF:=stay a5 (Cb w _ _);have CM:=stay a5 (Bx w _ _);obtain⟨m0,m1,m2,m3,m4,m5,m6,m7,m8,m9,c6,c7⟩:=El CM;obtain⟨f0,f1⟩:=cl2 CF;simp at f0 f1 m0 m1 m2 m3 m4 m5 m6 m7 m8 m9 c6 c7;have lF:=Sp CF;have lM:=Sp CM;clear a5;by_cases b:(g[p].toNat:Int)=2\/(g[p].toNat:Int)=3
 ·rcases b with b|b
  all_goals
   have v:Hid (R=decide (n<lo)):=by unfold Hid;rw[<- t];unfold Cd.argB;rw[b];simp
   clear t;go_wp2;go_ret;exact⟨by rw[Ba v];rfl,z⟩
 have n2:((g[p].toNat:Int)==2)=false:=Fr;have n3:((g[p].toNat:Int)==3)=false:=Fr;have i2:=b;clear b;by_cases b:(g[p].toNat:Int)=11\/(g[p].toNat:Int)=12\/(g[p].toNat:Int)=13\/(g[p].toNat:Int)=14
 ·rcases b with b|b|b|b
  all_goals
   have v:Hid (R=Cd.begB (Ca g) n):=by unfold Hid;rw[<- t];unfold Cd.argB;rw[b];simp
   clear t;go_wp2_with fail;refine Qm (Ba c3 n _) ?_;intro w2 L;go_wp2;go_ret;exact⟨by rw[Ba v];rfl,QB z L⟩
 have d7:((g[p].toNat:Int)==11)=false:=Fr;have d8:((g[p].toNat:Int)==12)=false:=Fr;have d9:((g[p].toNat:Int)==13)=false:=Fr;have f2:((g[p].toNat:Int)==14)=false:=Fr;have c8:=b;clear b;by_cases b:(g[p].toNat:Int)=15\/(g[p].toNat:Int)=16\/(g[p].toNat:Int)=19
 ·rcases b with b|b|b
  all_goals
   have v:Hid (R=Tr.hasB T n):=by unfold Hid;rw[<- t];unfold Cd.argB;rw[b];simp
   clear t;go_wp2_with fail;refine Qm (Ba c4 n _) ?_;intro w2 L;go_wp2;go_ret;exact⟨by rw[Ba v];rfl,QB z L⟩
 have f3:((g[p].toNat:Int)==15)=false:=Fr;have f4:((g[p].toNat:Int)==16)=false:=Fr;have f5:((g[p].toNat:Int)==19)=false:=Fr;have c9:=b;clear b;by_cases b:(g[p].toNat:Int)=17\/(g[p].toNat:Int)=18
 ·rcases b with b|b
  all_goals
   have v:Hid (R=decide (n<(b5.length:Int))):=by unfold Hid;rw[<- t];unfold Cd.argB;rw[b];simp
   clear t;go_wp2_with fail;refine(Ba c5 _ ((Ba a8).below z)).mono ?_;rintro e w2 ⟨va,vc,rfl,_,L⟩;go_wp2;go_ret;exact⟨by rw[Ba v];rfl,QB z L⟩
 have f6:((g[p].toNat:Int)==17)=false:=Fr;have f7:((g[p].toNat:Int)==18)=false:=Fr;have d0:=b;clear b;by_cases b:(g[p].toNat:Int)=20
 ·have a9:0<=n:=(Ba b7) (by rw[b];decide);by_cases N:n<(j.length:Int)
  ·obtain⟨q,hq⟩:=Brp a9;subst hq;have O:q<j.length:=Ck;obtain⟨Q,V⟩:=Av j q O 0 Ck;obtain⟨Y,Z,b0,_,B⟩:=Cf (Ba a8).2.2.2.2.2.1 Mc;simp only at Z B;have D:=(B _ V).trans Q;simp[Ly]at D;have A:ow.getD q 0=j[q].1.m.cl:=by rw[<- Ba b8];simp[RFl.owners,Vm,O]
   have v:Hid (R=(j[q].1.m.cl==255)):=by unfold Hid;rw[<- t];unfold Cd.argB;rw[b];simp[N,Ba a4,-List.getD_eq_getElem?_getD];rw[A]
   generalize j[q].1.m.cl=b1 at *;have lq:Y<w.heap.size:=b0;clear t A Q V B;subst Z;have y1:w1.C Y (q*12) (.i b1):=QC z lq D;clear D;go_wp2;go_ret;exact⟨by rw[Ba v];rfl,z⟩
  have v:Hid (R=false):=by unfold Hid;rw[<- t];unfold Cd.argB;rw[b];simp[N,Ba a4]
  clear t;go_wp2;go_ret;exact⟨by rw[Ba v];rfl,z⟩
 have f8:((g[p].toNat:Int)==20)=false:=Fr;have d1:=b;clear b;by_cases b:(g[p].toNat:Int)=21
 ·have a9:0<=n:=(Ba b7) (by rw[b];decide);by_cases N:n<(j.length:Int)
  ·obtain⟨q,hq⟩:=Brp a9;subst hq;have O:q<j.length:=Ck;obtain⟨Q,V⟩:=Av j q O 0 Ck;obtain⟨Y,Z,b0,_,B⟩:=Cf (Ba a8).2.2.2.2.2.1 Mc;simp only at Z B;have D:=(B _ V).trans Q;simp[Ly]at D;have A:ow.getD q 0=j[q].1.m.cl:=by rw[<- Ba b8];simp[RFl.owners,Vm,O]
   have v:Hid (R=(j[q].1.m.cl != 255)):=by unfold Hid;rw[<- t];unfold Cd.argB;rw[b];simp[N,Ba a4,-List.getD_eq_getElem?_getD];rw[A]
   generalize j[q].1.m.cl=b1 at *;have lq:Y<w.heap.size:=b0;clear t A Q V B;subst Z;have y1:w1.C Y (q*12) (.i b1):=QC z lq D;clear D;go_wp2;go_ret;exact⟨by rw[Ba v];rfl,z⟩
  have v:Hid (R=false):=by unfold Hid;rw[<- t];unfold Cd.argB;rw[b];simp[N,Ba a4]
  clear t;go_wp2;go_ret;exact⟨by rw[Ba v];rfl,z⟩
 have f9:((g[p].toNat:Int)==21)=false:=Fr;have d2:=b;clear b;have v:Hid (R=true):=by
  unfold Hid;rw[<- t];unfold Cd.argB;rw[Pk Ck,Pk Ck,Pk Ck,Pk Ck,Pk Ck,Pk Ck]
 clear t i2 c8 c9 d0 d1 d2;go_wp2;go_ret;exact⟨by rw[Ba v];rfl,z⟩
def Cd.nAt(c:TI)(p:Nat):Int:=if p+1<c.length then c.getD (p+1) 0 else -1
def Bqc(s:ByteArray)(p:Nat):Rf.at' s.data.toList ((p:Int)+1)=Cd.nAt (Ca s) p:=by
 unfold Cd.nAt;rw[He];by_cases h:p+1<s.size;·rw[Th h,Kq _ _ h];have:Rf.at' s.data.toList ((p+1:Nat):Int)=_:=Ry (s:=s) (i:=p+1) h;rw[show ((p:Int)+1)=((p+1:Nat):Int) by omega,this]
 rw[Pk h];exact Rf.at_out Fr
def Cd.argAt(T:TI)(nf:Int)(ow:TI)(lo:Int)(c:TI)(p:Nat):Bool:=Cd.argB T nf ow lo c (c.getD p 0) (Cd.nAt c p)
def Cd.badArg(T:TI)(nf:Int)(ow:TI)(lo:Int)(c:TI)(p:Nat):Bool:=!Cd.argAt T nf ow lo c p
def Cd.badCode(T:TI)(nf:Int)(ow:TI)(lo:Int)(c:TI):Int :=
 if 0<=Cd.unread c then Cd.unread c else Cd.first (Cd.badArg T nf ow lo c) (Cd.places c)
def Bbk{f:Nat->Bool}{u:Nat}{r:List Nat}(h:Cd.first f (u::r)<0):f u=false/\Cd.first f r<0:=by
 rw[Cd.first]at h
 by_cases b:f u=true;·rw[Th b]at h;omega
 rw[Pk b]at h;exact⟨by simpa using b,h⟩
def Bc0(f:RFl)(m:RMV)(w:TW)(Q:f.ok w)(L:m.code.size<=100000):Calls prog 58 #[f.val,m.val] w fun e s => e=.r (.i (Cd.badCode f.T (f.fields.length:Int) f.owners m.lo (Ca m.code)))/\Bl w s:=by
 unfold Cd.badCode;have V:=fun w=>Beo m w L;have Y:=fun p w Z=>Lz m p w Z L;have hA:=fun p w (h:f.ok w) Z g=>Bmd f m p w h Z L g;have hl:=He m.code;generalize f.T=T at *;generalize (f.fields.length:Int)=t at *;generalize f.owners=z at *;have a0:∀p w,f.ok w->p<m.code.size->Cd.noRead (Ca m.code) p=false->Calls prog 95 #[f.val,m.val,.i (p:Int)] w fun e s=>e=.r (.bool (Cd.argAt T t z m.lo (Ca m.code) p))/\Bl w s:=by
  intro p w h1 h2 h3;unfold Cd.argAt;rw[<- Bqc];refine hA p w h1 h2 ?_;simp only[Cd.noRead,Bty,Bti]at h3;omega
 clear hA;have N:=Bu w (O11 f.a1 f.l.length f.c1 f.a2 f.ms.length f.c2) m.obj;have a3:=Cb w (O11 f.a1 f.l.length f.c1 f.a2 f.ms.length f.c2) m.obj;have a4:=Bx w (O11 f.a1 f.l.length f.c1 f.a2 f.ms.length f.c2) m.obj;have c6:=Bc Q;have q:Cd.unread (Ca m.code)=Cd.first (Cd.noRead (Ca m.code)) (Cd.starts (Ca m.code) (Ca m.code).length 0):=rfl
 unfold Cd.places;generalize hu:Cd.unread (Ca m.code)=u at *;have a6:∀s,Bl w s->f.ok s:=fun s hb=>Q.below hb;clear Q;obtain⟨c7,c8,c9,d0,bb,l,ms⟩:=f;obtain⟨cl,nm,pa,pl,pc,r1,r2,B,st,b,ha,d1,hc,ma,ml,mc,d2,d3⟩:=m;simp only[RMV.val,RMV.obj,RFl.val]at L V Y a0 hl N a3 a4 q ⊢;have HU:=Bc V;have HN:=Bc Y;have HA:=Bc a0;have d4:=Bc a6;clear V Y a0 a6 hu c6;by_cases a7:0<=u;·rw[Th a7];clear q;go_in;go_wp2_with fail;refine Qm (Ba HU _) ?_;intro w1 D;go_wp2;go_ret;exact⟨rfl,N.trans (D.mono Fr)⟩
 rw[Pk a7];generalize g:Cd.first (Cd.badArg T t z B (Ca b)) (Cd.starts (Ca b) (Ca b).length 0)=r
 have C:=Bc g;have F:Hid (Cd.first (Cd.noRead (Ca b)) (Cd.starts (Ca b) (Ca b).length 0)<0):=by unfold Hid;rw[<- q];omega
 clear g q;go_in;go_wp2_with fail;refine Qm (Ba HU _) ?_;intro w1 D;have a8:=N.trans (D.mono Fr);have a9:=stay D a3;have b0:=stay D a4;clear D N a3 a4 HU;go_wp2
 go_loopw [6] (fun v wr=>∃p k:Nat,v=.i (p:Int)/\(Ca b).length<=p+k/\p<=200000/\Hid (Cd.first (Cd.badArg T t z B (Ca b)) (Cd.starts (Ca b) k p)=r)/\Hid (Cd.first (Cd.noRead (Ca b)) (Cd.starts (Ca b) k p)<0)/\Bl w wr /\
   wr.heap[w.heap.size]?=some (O11 c7 l.length c8 c9 ms.length d0) /\
   wr.heap[w.heap.size+1]?=some (O12 cl nm pa pl pc r1 r2 B st b ha d1 hc ma ml mc d2 d3))
  (fun v _=>b.size-(intOf v).toNat)
 case atStart=>exact⟨0,_,rfl,Ck,Ck,C,F,a8,a9,b0⟩
 case round=>
  clear a8 a9 b0 C F;obtain⟨p,k,rfl,hk,f4,C,F,G,CF,CM⟩:=hrel;obtain⟨m0,m1,m2,m3,m4,m5,m6,m7,m8,m9,b1,b2⟩:=El CM;simp at m0 m1 m2 m3 m4 m5 m6 m7 m8 m9 b1 b2;obtain⟨f0,f1⟩:=cl2 CF;simp at f0 f1;have b3:=G.size;by_cases b4:p<b.size
  ·obtain⟨j,rfl,hj,b5⟩:=Cd.starts_go (c:=Ca b) (k:=k) (p:=p) Ck hk;have g:=Ba C;have q:=Ba F;rw[b5]at g q;obtain⟨b6,b7⟩:=Bbk q;rw[Cd.first]at g
   have d5:(p:Int)<(b.size:Int):=Ck;have f5:=Cd.wd_bd ((Ca b).getD p 0);have hn:=fun w=>Ba HN p w b4;have b8:=Ba HA p wr (Ba d4 _ G) b4 b6;have b9:Cd.badArg T t z B (Ca b) p = !Cd.argAt T t z B (Ca b) p:=rfl;rw[b9]at g;generalize Cd.wd ((Ca b).getD p 0)=d at *;generalize Cd.argAt T t z B (Ca b) p=A at *;have d6:=Bc hn;have c0:=Bc b8;have d7:=Bc b7;clear hn b8 b5 C F q b6 b7 b9;cases A with
   | false =>
    have J:Hid ((p:Int)=r):=by unfold Hid;rw[<- g];simp
    clear g;go_wp2_with fail;refine Qm (Ba c0) ?_;intro w2 I;have K:=G.trans (I.mono b3);go_wp2;go_ret;exact⟨by rw[<- Ba J];rfl,K⟩
   | true =>
    have J:Hid (Cd.first (Cd.badArg T t z B (Ca b)) (Cd.starts (Ca b) j (p+d))=r):=by unfold Hid;rw[<- g];simp
    clear g;go_wp2_with fail;refine Qm (Ba c0) ?_;intro w2 I;have K:=G.trans (I.mono b3);have c3:=stay I CF;have a5:=stay I CM;obtain⟨k0,k1,k2,k3,k4,k5,k6,k7,k8,k9,c4,c5⟩:=El a5;simp at k0 k1 k2 k3 k4 k5 k6 k7 k8 k9 c4 c5;have d8:=K.size;clear I G CF CM f0 f1 m0 m1 m2 m3 m4 m5 m6 m7 m8 m9 b1 b2;go_wp2_with fail;refine Qm (Ba d6 _) ?_;intro w3 O;have d9:=K.trans (O.mono d8);have f2:=stay O c3;have f3:=stay O a5;clear O K c3 a5 k0 k1 k2 k3 k4 k5 k6 k7 k8 k9 c4 c5;go_wp2;go_roundw
    case rel=>exact⟨p+d,j,rfl,hj,Ck,J,d7,d9,f2,f3⟩
    case measure=>simp[intOf];omega
  have g:=Ba C;rw[Cd.starts_end Ck]at g;have J:=Bc g;have d5:¬(p:Int)<(b.size:Int):=Ck;clear g C F;go_wp2;go_ret;exact⟨by rw[<- Ba J];rfl,G⟩
def Cd.hndBad(T:TI)(c:TI)(x:Rd.Hnd):Bool :=
 decide (x.til<=x.frm) || !Cd.begB c x.frm || !Cd.begB c x.target || (!Cd.begB c x.til&&(x.til != (c.length:Int))) || !Tr.hasB T x.cl || !Tr.rbel T x.cl 1
def Cd.firstIx{α:Type}(f:α->Bool):Nat->List α->Int
 | _,[]=>-1
 | k,x::r=>if f x=true then (k:Int) else Cd.firstIx f (k+1) r
def Db(l:List Rd.Hnd)(k:Nat)(b:k<l.length)(j:Nat)(c:j<4):(Ev l)[k*4+j]?=[Value.int .i64 l[k].frm,.i l[k].til,.i l[k].target,.i l[k].cl][j]?/\k*4+j<(Ev l).length:=by
 refine⟨Nk (fun x:Rd.Hnd=>[Value.int .i64 x.frm,.i x.til,.i x.target,.i x.cl]) 4 (fun _=>rfl) l k b j c,?_⟩;unfold Ev;rw[Kx (fun x:Rd.Hnd=>[Value.int .i64 x.frm,.i x.til,.i x.target,.i x.cl]) 4 (fun _=>rfl) l];omega
def Zn(f:RFl)(m:RMV)(b:List Rd.Hnd)(w:TW)(hf:f.ok w)(d9:m.code.size<=100000)(f2:m.hl=b.length)(i0:b.length<=1000)(hh:Iz w f.bb (.s m.ha m.hl m.hc) b):Calls prog 59 #[f.val,m.val] w fun e w' => e=.r (.i (Cd.firstIx (Cd.hndBad f.T (Ca m.code)) 0 b))/\Bl w w':=by
 have c5:=fun x w=>Ro m x w d9;have b2:=fun x w=>L9 f.T f.a1 f.a2 f.c1 f.ms.length f.c2 x w;have b3:=fun x y w (h:f.ok w)=>J9 f.a1 f.a2 f.c1 f.ms.length f.c2 f.bb f.l x y w (by have:=h.1;omega) h.2.2.2.2.1;have f3:f.T.length=f.l.length:=Jn _;rw[f3]at b2;have f4:Ct f.l=f.T:=rfl;rw[f4]at b3;have hl:=He m.code;have a8:=Bu w (O11 f.a1 f.l.length f.c1 f.a2 f.ms.length f.c2) m.obj;have a9:=Cb w (O11 f.a1 f.l.length f.c1 f.a2 f.ms.length f.c2) m.obj;have b0:=Bx w (O11 f.a1 f.l.length f.c1 f.a2 f.ms.length f.c2) m.obj;have f5:∀w',Bl w w'->f.ok w':=fun w' hb=>hf.below hb;have c6:∀w',Bl w w'->Iz w' f.bb (.s m.ha m.hl m.hc) b:=fun w' hb=>hh.kp (Kp.of_below (e:=none) hb) Fm;generalize f.T=T at *;generalize hr:Cd.firstIx (Cd.hndBad T (Ca m.code)) 0 b=r;have HR:Hid (Cd.firstIx (Cd.hndBad T (Ca m.code)) 0 (b.drop 0)=r):=hr;clear hr hf hh;obtain⟨g7,g8,g9,h0,bb,l,ms⟩:=f;obtain⟨cl,nm,pa,pl,pc,r1,r2,lo,st,p,ha,i1,hc,ma,ml,mc,h3,h4⟩:=m;simp only at f2;subst f2;simp only[RMV.val,RMV.obj,RFl.val]at d9 c5 b2 b3 hl a8 a9 b0 c6 HR ⊢;have c7:=Bc c5;have h5:=Bc b2;have h6:=Bc b3;have h7:=Bc f5;have f6:=Bc c6;clear c5 b2 b3 f5 c6 f3 f4;go_in;go_wp2
 go_loopw [5] (fun v wr=>∃k:Nat,k<=b.length/\v=.i (k:Int)/\Hid (Cd.firstIx (Cd.hndBad T (Ca p)) k (b.drop k)=r)/\Bl w wr /\
   wr.heap[w.heap.size]?=some (O11 g7 l.length g8 g9 ms.length h0) /\
   wr.heap[w.heap.size+1]?=some (O12 cl nm pa pl pc r1 r2 lo st p ha b.length hc ma ml mc h3 h4))
  (fun v _=>b.length-(intOf v).toNat)
 case atStart=>exact⟨0,Ck,rfl,HR,a8,a9,b0⟩
 case round=>
  clear a8 a9 b0 HR;obtain⟨k,hk,rfl,HR,hB,CF,CM⟩:=hrel;obtain⟨q,t,z,F,G,I,J,L,N,O,Q,V⟩:=El CM;simp at q t z F G I J L N O Q V;obtain⟨Y,Z⟩:=cl2 CF;simp at Y Z;have h8:=hB.size;have lF:=Sp CF;have lM:=Sp CM;by_cases a6:k<b.length
  ·obtain⟨g,hg,i2,_,b1⟩:=Cf (Ba f6 _ hB) Ck;have y0:=(b1 _ (Db b k a6 0 Ck).2).trans (Db b k a6 0 Ck).1;have y1:=(b1 _ (Db b k a6 1 Ck).2).trans (Db b k a6 1 Ck).1;have y2:=(b1 _ (Db b k a6 2 Ck).2).trans (Db b k a6 2 Ck).1;have y3:=(b1 _ (Db b k a6 3 Ck).2).trans (Db b k a6 3 Ck).1;have hd:b.drop k=b[k]::b.drop (k+1):=Brj a6;have hr:=Ba HR;rw[hd,Cd.firstIx]at hr;generalize b[k]=x at *;obtain⟨a0,a3,a7,a4⟩:=x;simp at y0 y1 y2 y3;have f7:Cd.hndBad T (Ca p) ⟨a0,a3,a7,a4⟩=(decide (a3<=a0) || !Cd.begB (Ca p) a0 || !Cd.begB (Ca p) a7||(!Cd.begB (Ca p) a3&&(a3 != (p.size:Int))) || !Tr.hasB T a4 || !Tr.rbel T a4 1):=by
    unfold Cd.hndBad;rw[hl]
   rw[f7]at hr;have f8:=fun w=>Ba c7 a0 w;have f9:=fun w=>Ba c7 a3 w;have g0:=fun w=>Ba c7 a7 w;have g1:=fun w=>Ba h5 a4 w;have g2:=fun w h=>Ba h6 a4 1 w h;generalize Cd.begB (Ca p) a0=A at *;generalize Cd.begB (Ca p) a3=B at *;generalize Cd.begB (Ca p) a7=C at *;generalize Tr.hasB T a4=K at *;generalize Tr.rbel T a4 1=D at *;have HA:=Bc f8;have HB:=Bc f9;have HC:=Bc g0;have HK:=Bc g1;have HD:=Bc g2;have j:=Bc hr;have h9:(k:Int)<(b.length:Int):=Ck;clear f8 f9 g0 g1 g2 hr f7 hd b1 HR f6;subst hg;have CX:=Be wr (O14 a0 a3 a7 a4);have a8:=hB.alloc h8 (O14 a0 a3 a7 a4);have a9:=Bg CF (O14 a0 a3 a7 a4);have b0:=Bg CM (O14 a0 a3 a7 a4);have lx:wr.heap.size<(wr.alloc (O14 a0 a3 a7 a4)).heap.size:=Hd;go_wp2_with fail;refine Qb (Ba HA _) a8 ?_;intro w1 b4 g3;have c8:=stay b4 a9;have c9:=stay b4 b0;have b5:=stay b4 CX;clear q t z F G I J L N O Q V Y Z y0 y1 y2 y3 b4 CF CM hB;obtain⟨q,t,z,F,G,I,J,L,N,O,Q,V⟩:=El c9;simp at q t z F G I J L N O Q V;obtain⟨Y,Z⟩:=cl2 c8;obtain⟨y0,y1,y2,y3⟩:=cl4 b5;simp at Y Z y0 y1 y2 y3;have i3:=Sp b5;go_wp2_with fail;refine Qb (Ba HB _) g3 ?_;intro w2 b6 g4;have d0:=stay b6 c8;have d1:=stay b6 c9;have b7:=stay b6 b5;clear q t z F G I J L N O Q V Y Z y0 y1 y2 y3 b6 c8 c9 b5 g3;obtain⟨q,t,z,F,G,I,J,L,N,O,Q,V⟩:=El d1;simp at q t z F G I J L N O Q V;obtain⟨Y,Z⟩:=cl2 d0;obtain⟨y0,y1,y2,y3⟩:=cl4 b7;simp at Y Z y0 y1 y2 y3;have i4:=Sp b7;go_wp2_with fail;refine Qb (Ba HC _) g4 ?_;intro w3 b8 g5;have d2:=stay b8 d0;have d3:=stay b8 d1;have b9:=stay b8 b7;clear q t z F G I J L N O Q V Y Z y0 y1 y2 y3 b8 d0 d1 b7 g4;obtain⟨q,t,z,F,G,I,J,L,N,O,Q,V⟩:=El d3;simp at q t z F G I J L N O Q V;obtain⟨Y,Z⟩:=cl2 d2;obtain⟨y0,y1,y2,y3⟩:=cl4 b9;simp at Y Z y0 y1 y2 y3;have i5:=Sp b9;go_wp2_with fail;refine Qb (Ba HK _) g5 ?_;intro w4 c0 d4;have d5:=stay c0 d2;have d6:=stay c0 d3;have c3:=stay c0 b9;clear q t z F G I J L N O Q V Y Z y0 y1 y2 y3 c0 d2 d3 b9 g5;obtain⟨q,t,z,F,G,I,J,L,N,O,Q,V⟩:=El d6;simp at q t z F G I J L N O Q V;obtain⟨Y,Z⟩:=cl2 d5;obtain⟨y0,y1,y2,y3⟩:=cl4 c3;simp at Y Z y0 y1 y2 y3;have i6:=Sp c3;go_wp2_with fail;refine Qb (Ba HD _ (Ba h7 _ d4)) d4 ?_;intro w5 c4 a5;have d7:=stay c4 d5;have d8:=stay c4 d6;have g6:=stay c4 c3;clear q t z F G I J L N O Q V Y Z y0 y1 y2 y3 c4 d5 d6 c3 d4;obtain⟨q,t,z,F,G,I,J,L,N,O,Q,V⟩:=El d8;simp at q t z F G I J L N O Q V;obtain⟨Y,Z⟩:=cl2 d7;obtain⟨y0,y1,y2,y3⟩:=cl4 g6;simp at Y Z y0 y1 y2 y3;have i7:=Sp g6;by_cases h1:a3<=a0
   ·have c:Hid ((k:Int)=r):=by unfold Hid;rw[<- Ba j];simp[h1]
    clear j;go_wp2;go_ret;exact⟨by rw[<- Ba c];rfl,a5⟩
   cases A with
   | false =>
    have c:Hid ((k:Int)=r):=by unfold Hid;rw[<- Ba j];simp
    clear j;go_wp2;go_ret;exact⟨by rw[<- Ba c];rfl,a5⟩
   | true =>
    cases C with
    | false =>
     have c:Hid ((k:Int)=r):=by unfold Hid;rw[<- Ba j];simp
     clear j;go_wp2;go_ret;exact⟨by rw[<- Ba c];rfl,a5⟩
    | true =>
     cases B with
     | true =>
      cases K with
      | false =>
       have c:Hid ((k:Int)=r):=by unfold Hid;rw[<- Ba j];simp[h1]
       clear j;go_wp2;go_ret;exact⟨by rw[<- Ba c];rfl,a5⟩
      | true =>
       cases D with
       | false =>
        have c:Hid ((k:Int)=r):=by unfold Hid;rw[<- Ba j];simp[h1]
        clear j;go_wp2;go_ret;exact⟨by rw[<- Ba c];rfl,a5⟩
       | true =>
        have c:Hid (Cd.firstIx (Cd.hndBad T (Ca p)) (k+1) (b.drop (k+1))=r):=by unfold Hid;rw[<- Ba j];simp[h1]
        clear j;go_wp2;go_roundw
        case rel=>exact⟨k+1,Ck,Mg,c,a5,d7,d8⟩
        case measure=>simp[intOf];omega
     | false =>
      by_cases h2:a3=(p.size:Int)
      ·cases K with
       | false =>
        have c:Hid ((k:Int)=r):=by unfold Hid;rw[<- Ba j];simp[h2,show ¬((p.size:Int)<=a0) from by omega]
        clear j;go_wp2;go_ret;exact⟨by rw[<- Ba c];rfl,a5⟩
       | true =>
        cases D with
        | false =>
         have c:Hid ((k:Int)=r):=by unfold Hid;rw[<- Ba j];simp[h2,show ¬((p.size:Int)<=a0) from by omega]
         clear j;go_wp2;go_ret;exact⟨by rw[<- Ba c];rfl,a5⟩
        | true =>
         have c:Hid (Cd.firstIx (Cd.hndBad T (Ca p)) (k+1) (b.drop (k+1))=r):=by unfold Hid;rw[<- Ba j];simp[h2,show ¬((p.size:Int)<=a0) from by omega]
         clear j;go_wp2;go_roundw
         case rel=>exact⟨k+1,Ck,Mg,c,a5,d7,d8⟩
         case measure=>simp[intOf];omega
      have c:Hid ((k:Int)=r):=by unfold Hid;rw[<- Ba j];simp[h2]
      clear j;go_wp2;go_ret;exact⟨by rw[<- Ba c];rfl,a5⟩
  have hf:r = -1:=by rw[<- Ba HR,Brq Ck];rfl
  have c:=Bc hf;have h9:¬(k:Int)<(b.length:Int):=Ck;clear hf HR;go_wp2;go_ret;exact⟨by rw[Ba c];rfl,hB⟩
def Ty{z:TI}{k b t:Nat}(h:t∈Cd.starts z k b):t<z.length:=by
 induction k generalizing b with
 | zero=>simp[Cd.starts]at h
 | succ j ih =>
  unfold Cd.starts at h;by_cases e:b<z.length
  ·rw[Th e]at h;rcases List.mem_cons.1 h with rfl|h
   ·exact e
   exact ih h
  rw[Pk e]at h;simp at h
def Mr{c:TI}{n:Int}(h:Cd.begB c n=true):0<=n/\n<(c.length:Int):=by
 unfold Cd.begB Cd.places at h;rw[Bu9]at h;obtain⟨p,b,e⟩:=h;have:=Ty b;simp at e;omega
def Cd.framed(T c:TI)(k n:Int):Bool :=
 if k=0\/k=1\/k=2 then n==0 else if k=3 then Tr.hasB T n else if k=4 then Cd.begB c n&&(c.getD n.toNat 0==15) else false
def Beq(f:RFl)(m:RMV)(k n:Int)(w:TW)(G:m.code.size<=100000):Calls prog 97 #[f.val,m.val,.agg #[.i k,.i n]] w fun e N => e=.r (.bool (Cd.framed f.T (Ca m.code) k n))/\Bl w N:=by
 have B:=fun w=>Ro m n w G;have z:=fun w=>L9 f.T f.a1 f.a2 f.c1 f.ms.length f.c2 n w;have I:f.T.length=f.l.length:=Jn _;rw[I]at z;have q:=fun h=>Mr (c:=Ca m.code) (n:=n) h;have C:=fun p D=>Kq m.code p D;rw[He]at q;generalize f.T=T at *;generalize g:Cd.framed T (Ca m.code) k n=R;unfold Cd.framed at g;obtain⟨a0,a3,a4,a5,bb,l,ms⟩:=f;obtain⟨cl,nm,pa,pl,pc,r1,r2,lo,st,F,ha,a6,hc,ma,ml,mc,a7,a8⟩:=m;simp only[RMV.val,RFl.val]at G B z q C g ⊢;generalize Cd.begB (Ca F) n=b at *;have J:=Bc B;have O:=Bc z;have Q:=Bc C;clear B z I C;by_cases s:k=0\/k=1\/k=2
 ·rw[Th s]at g;have j:=Bc g;clear g q;rcases s with rfl|rfl|rfl
  all_goals
   go_in;go_wp2;go_ret;exact⟨by rw[<- Ba j];rfl,Em _ _ _ _⟩
 rw[Pk s]at g;by_cases v:k=3;·rw[Th v]at g;subst v;have j:=Bc g;clear g q s;go_in;go_wp2_with fail;refine Qm (Ba O _) ?_;intro K t;go_wp2;go_ret;exact⟨by rw[<- Ba j];rfl,(Em _ _ _ _).trans (t.mono Fr)⟩
 rw[Pk v]at g;by_cases A:k=4
 ·rw[Th A]at g;subst A;cases b with
  | false =>
   have j:=Bc g;clear g q s v;go_in;go_wp2_with fail;refine Qm (Ba J _) ?_;intro K t;go_wp2;go_ret;exact⟨by rw[<- Ba j];rfl,(Em _ _ _ _).trans (t.mono Fr)⟩
  | true =>
   obtain⟨L,V⟩:=q rfl;obtain⟨p,D⟩:=Brp L;subst D;have Y:p<F.size:=Ck;have a9:(p:Int)<(F.size:Int):=Ck;rw[Brx,Ba Q p Y]at g;have j:=Bc g;clear g q s v L V;go_in;go_wp2_with fail;refine Qm (Ba J _) ?_;intro K t;have Z:=stay t (Nz w _ _ _).2.1;have CT:=stay t (Nz w _ _ _).2.2;have m7:=Bb Z 7;have t1:=Bb CT 1;simp at m7 t1;go_wp2;go_ret;exact⟨by rw[<- Ba j];rfl,(Em _ _ _ _).trans (t.mono Fr)⟩
 rw[Pk A]at g;have j:=Bc g;have n0:(k==0)=false:=Fr;have n1:(k==1)=false:=Fr;have n2:(k==2)=false:=Fr;have n3:(k==3)=false:=Fr;have n4:(k==4)=false:=Fr;clear g q s v A;go_in;go_wp2;go_ret;exact⟨by rw[<- Ba j];rfl,Em _ _ _ _⟩
def Cd.frAll(T c:TI)(l:TP):Bool:=l.all fun t=>Cd.framed T c t.1 t.2
def Cd.mapsBad(T c:TI):Nat->Int->List Rd.Mp->Int
 | _,_,[]=>-1
 | i,last,x::r=>if Cd.begB c x.place=false then (i:Int) else if x.place<=last then (i:Int) else if Cd.frAll T c x.locals=false then (i:Int) else if Cd.frAll T c x.stack=false then (i:Int) else Cd.mapsBad T c (i+1) x.place r
def Eh(l:List (Rd.Mp×Value×Value))(k:Nat)(b:k<l.length)(j:Nat)(c:j<3):(Rt l)[k*3+j]?=[Value.int .i64 l[k].1.place,l[k].2.1,l[k].2.2][j]?/\k*3+j<(Rt l).length:=by
 refine⟨Nk (fun x:Rd.Mp×Value×Value=>[Value.int .i64 x.1.place,x.2.1,x.2.2]) 3 (fun _=>rfl) l k b j c,?_⟩;unfold Rt;rw[Kx (fun x:Rd.Mp×Value×Value=>[Value.int .i64 x.1.place,x.2.1,x.2.2]) 3 (fun _=>rfl) l];omega
def Bet(f:RFl)(m:RMV)(h:List (Rd.Mp×Value×Value))(w:TW)(f6:m.code.size<=100000)(h0:m.ml=h.length)(i5:h.length<=1000)(h1:∀p∈h,p.1.locals.length<=1000/\p.1.stack.length<=1000)(hh:K4 w f.bb (.s m.ma m.ml m.mc) h):Calls prog 60 #[f.val,m.val] w fun e b => e=.r (.i (Cd.mapsBad f.T (Ca m.code) 0 (-1) (h.map Prod.fst)))/\Bl w b:=by
 have f7:=fun x w=>Ro m x w f6;have f8:=fun k n w=>Beq f m k n w f6;have f9:=Bu w (O11 f.a1 f.l.length f.c1 f.a2 f.ms.length f.c2) m.obj;have b7:=Cb w (O11 f.a1 f.l.length f.c1 f.a2 f.ms.length f.c2) m.obj;have b8:=Bx w (O11 f.a1 f.l.length f.c1 f.a2 f.ms.length f.c2) m.obj;have g0:∀b,Bl w b->K4 b f.bb (.s m.ma m.ml m.mc) h:=fun b hb=>hh.kp (Kp.of_below (e:=none) hb) Fm Fm;generalize f.T=T at *;generalize hr:Cd.mapsBad T (Ca m.code) 0 (-1) (h.map Prod.fst)=r;have HR:Hid (Cd.mapsBad T (Ca m.code) 0 (-1) ((h.map Prod.fst).drop 0)=r):=hr;clear hr hh;obtain⟨c3,c4,c5,c6,bb,l,ms⟩:=f;obtain⟨cl,nm,pa,pl,pc,r1,r2,lo,st,D,ha,c7,hc,ma,ml,mc,c8,c9⟩:=m;simp only at h0;subst h0;simp only[RMV.val,RMV.obj,RFl.val]at f6 f7 f8 f9 b7 b8 g0 HR ⊢;have h9:=Bc f7;have h2:=Bc f8;have h3:=Bc g0;have h4:=Bc h1;clear f7 f8 g0 h1;go_in;go_wp2
 go_loopw [5,6] (fun u v wr=>∃(k:Nat) (d8:Int),k<=h.length/\v=.i (k:Int)/\u=.i d8/\Hid (Cd.mapsBad T (Ca D) k d8 ((h.map Prod.fst).drop k)=r)/\Bl w wr /\
   wr.heap[w.heap.size]?=some (O11 c3 l.length c4 c5 ms.length c6)/\wr.heap[w.heap.size+1]?=some (O12 cl nm pa pl pc r1 r2 lo st D ha c7 hc ma h.length mc c8 c9))
  (fun _ v _=>h.length-(intOf v).toNat)
 case atStart=>exact⟨0,-1,Ck,rfl,rfl,HR,f9,b7,b8⟩
 case round=>
  clear f9 b7 b8 HR;obtain⟨k,d8,hk,rfl,rfl,HR,hB,F,G⟩:=hrel;obtain⟨J,K,L,N,O,Q,V,Y,m8,m9,a0,a3⟩:=El G;simp at J K L N O Q V Y m8 m9 a0 a3;obtain⟨f0,f1⟩:=cl2 F;simp at f0 f1;have d0:=hB.size;have lF:=Sp F;have j:=Sp G;by_cases a7:k<h.length
  ·have g1:=Ba h3 _ hB;obtain⟨g,hg,i6,_,d9⟩:=Cf g1.1 Ck;have y0:=(d9 _ (Eh h k a7 0 Ck).2).trans (Eh h k a7 0 Ck).1;have y1:=(d9 _ (Eh h k a7 1 Ck).2).trans (Eh h k a7 1 Ck).1;have y2:=(d9 _ (Eh h k a7 2 Ck).2).trans (Eh h k a7 2 Ck).1;obtain⟨f2,f3⟩:=g1.2 _ (Brn a7);obtain⟨i0,i1⟩:=Ba h4 _ (Brn a7);have hd:(h.map Prod.fst).drop k=h[k].1::(h.map Prod.fst).drop (k+1):=by
    rw[Brj (by simpa using a7)];simp
   have hr:=Ba HR;rw[hd,Cd.mapsBad]at hr;generalize h[k]=x at *;obtain⟨⟨a4,z,A⟩,v1,v2⟩:=x;simp only at y0 y1 y2 f2 f3 i0 i1 hr;obtain⟨b1,a9,rfl⟩:=Bh f2;obtain⟨b2,b0,rfl⟩:=Bh f3;simp at y0 y1 y2;have h5:=fun w=>Ba h9 a4 w;generalize Cd.begB (Ca D) a4=B at *;have HB:=Bc h5;have i2:Hid (∀b,Bl wr b->Cq b bb (.s b1 z.length a9) z):=fun b hb=>f2.kp (Kp.of_below (e:=none) hb) Fm;have i3:Hid (∀b,Bl wr b->Cq b bb (.s b2 A.length b0) A):=fun b hb=>f3.kp (Kp.of_below (e:=none) hb) Fm;generalize a5:Cd.frAll T (Ca D) z=LA at *;generalize h6:Cd.frAll T (Ca D) A=SA at *;have b3:Hid (Cd.frAll T (Ca D) (z.drop 0)=LA):=a5;have b4:Hid (Cd.frAll T (Ca D) (A.drop 0)=SA):=h6;have b9:=Bc hr;have i4:(k:Int)<(h.length:Int):=Ck;clear h5 hr hd d9 HR h3 a5 h6 f2 f3 g1 h4;subst hg;have I:=Be wr (O9 a4 b1 z.length a9 b2 A.length b0);have h7:Bl wr (wr.alloc (O9 a4 b1 z.length a9 b2 A.length b0)):=QN _;have b7:=Bg F (O9 a4 b1 z.length a9 b2 A.length b0);have b8:=Bg G (O9 a4 b1 z.length a9 b2 A.length b0)
   rename World=>w1
   go_wp2_with fail;refine Qm (Ba HB _) ?_;intro w2 d1;have b5:Bl w1 w2:=h7.trans (d1.mono Hd);have d2:=stay d1 b7;have d3:=stay d1 b8;have c0:=stay d1 I;clear J K L N O Q V Y m8 m9 a0 a3 f0 f1 y0 y1 y2 d1 F G b7 b8 I h7;obtain⟨x0,x1,x2⟩:=cl3 c0;simp at x0 x1 x2;cases B with
   | false =>
    have HF:Hid ((k:Int)=r):=by unfold Hid;rw[<- Ba b9];simp
    clear b9;go_wp2;go_ret;exact⟨by rw[<- Ba HF];rfl,hB.trans (b5.mono d0)⟩
   | true =>
    by_cases h8:a4<=d8
    ·have HF:Hid ((k:Int)=r):=by unfold Hid;rw[<- Ba b9];simp[h8]
     clear b9;go_wp2;go_ret;exact⟨by rw[<- Ba HF];rfl,hB.trans (b5.mono d0)⟩
    have g3:Hid ((if LA=false then (k:Int) else if SA=false then (k:Int) else Cd.mapsBad T (Ca D) (k+1) a4 ((h.map Prod.fst).drop (k+1)))=r):=by unfold Hid;rw[<- Ba b9];simp[h8]
    clear b9;go_wp2
    go_loopw [9] (fun v wr=>∃q:Nat,q<=z.length/\v=.i (q:Int)/\Hid (Cd.frAll T (Ca D) (z.drop q)=LA)/\Bl w1 wr /\
      wr.heap[w.heap.size]?=some (O11 c3 l.length c4 c5 ms.length c6)/\wr.heap[w.heap.size+1]?=some (O12 cl nm pa pl pc r1 r2 lo st D ha c7 hc (.p g) h.length mc c8 c9)/\wr.heap[w1.heap.size]?=some (O9 a4 b1 z.length a9 b2 A.length b0))
     (fun v _=>z.length-(intOf v).toNat)
    case atStart=>exact⟨0,Ck,rfl,b3,b5,d2,d3,c0⟩
    case round=>
     clear b3 b5 d2 d3 c0 x0 x1 x2;obtain⟨q,hq,rfl,b3,a6,F,G,I⟩:=hrel;obtain⟨J,K,L,N,O,Q,V,Y,m8,m9,a0,a3⟩:=El G;simp at J K L N O Q V Y m8 m9 a0 a3;obtain⟨f0,f1⟩:=cl2 F;obtain⟨x0,x1,x2⟩:=cl3 I;simp at f0 f1 x0 x1 x2;have f4:=Sp F;have f5:=Sp G;have lX:=Sp I;by_cases d4:q<z.length
     ·obtain⟨g2,g4,g5,_,b6⟩:=Cf (Ba i2 _ a6) Ck;obtain⟨e1,e2,e3⟩:=Fu z q d4;have u0:=(b6 (q*2) Ck).trans e1;have u1:=(b6 (q*2+1) Ck).trans e2;have d5:z.drop q=z[q]::z.drop (q+1):=Brj d4;have hA:=Ba b3;unfold Cd.frAll at hA;rw[d5,Bw3]at hA;generalize z[q]=t at *;obtain⟨t1,t2⟩:=t;simp only at u0 u1 hA;have d6:=fun w=>Ba h2 t1 t2 w;generalize Cd.framed T (Ca D) t1 t2=Z at *;have HZ:=Bc d6;have a8:=Bc hA;have qb:(q:Int)<(z.length:Int):=Ck;clear d6 hA d5 e1 e2 e3 b6 b3;subst g4;have lF:w.heap.size<wr.heap.size:=f4;have j:w.heap.size+1<wr.heap.size:=f5;have lG:g2<wr.heap.size:=g5;go_wp2
      go_region_held3 (fun b=>b.C w.heap.size 0 (.s c3 l.length c4)/\b.C w.heap.size 1 (.s c5 ms.length c6)/\b.C (w.heap.size+1) 0 (.i cl)/\b.C (w.heap.size+1) 1 (.i nm)/\b.C (w.heap.size+1) 2 (.s pa pl pc)/\b.C (w.heap.size+1) 3 (.i r1)/\b.C (w.heap.size+1) 4 (.i r2)/\b.C (w.heap.size+1) 5 (.i lo)/\b.C (w.heap.size+1) 6 (.i st)/\b.C (w.heap.size+1) 7 (.string D)/\b.C (w.heap.size+1) 8 (.s ha c7 hc)/\b.C (w.heap.size+1) 9 (.s (.p g) h.length mc)/\b.C (w.heap.size+1) 10 (.i c8)/\b.C (w.heap.size+1) 11 (.i c9)/\b.C w1.heap.size 1 (.s (.p g2) z.length a9)/\b.C g2 (q*2) (.i t1)/\b.C g2 (q*2+1) (.i t2))
       (first|exact⟨f0,f1,J,K,L,N,O,Q,V,Y,m8,m9,a0,a3,x1,u0,u1⟩|exact⟨QC c lF f0,QC c lF f1,QC c j J,QC c j K,QC c j L,QC c j N,QC c j O,QC c j Q,QC c j V,QC c j Y,QC c j m8,QC c j m9,QC c j a0,QC c j a3,QC c lX x1,QC c lG u0,QC c lG u1⟩)
       (first|(go_at_call 97;refine(Ba HZ _).mono ?_;rintro e w7 ⟨rfl,c⟩))
      have d7:Bl w1 w7:=a6.drew.trans (c.mono a6.size);have g6:=stay c (show (wr.drew).heap[w.heap.size]?=_ from F);have g7:=stay c (show (wr.drew).heap[w.heap.size+1]?=_ from G);have g8:=stay c (show (wr.drew).heap[w1.heap.size]?=_ from I);clear c J K L N O Q V Y m8 m9 a0 a3 f0 f1 x0 x1 x2 u0 u1 F G I a6 lF j lG;cases Z with
      | false =>
       have a5:LA=false:=by rw[<- Ba a8];simp
       have HF:Hid ((k:Int)=r):=by unfold Hid;rw[<- Ba g3,a5];simp
       clear a8;go_wp2;go_ret;exact⟨by rw[<- Ba HF];rfl,hB.trans (d7.mono d0)⟩
      | true =>
       have HG:Hid (Cd.frAll T (Ca D) (z.drop (q+1))=LA):=by unfold Hid Cd.frAll;rw[<- Ba a8];simp
       clear a8;go_wp2;go_roundw
       case rel=>exact⟨q+1,Ck,Mg,HG,d7,g6,g7,g8⟩
       case measure=>simp[intOf];omega
     have a5:LA=true:=by rw[<- Ba b3,Brq Ck];rfl
     have qb:¬(q:Int)<(z.length:Int):=Ck;clear b3;have g9:Hid ((if SA=false then (k:Int) else Cd.mapsBad T (Ca D) (k+1) a4 ((h.map Prod.fst).drop (k+1)))=r):=by unfold Hid;rw[<- Ba g3,a5];simp
     have b5:=a6;have d2:=F;have d3:=G;have c0:=I;clear g3 a5 a6 F G I J K L N O Q V Y m8 m9 a0 a3 f0 f1 f4 f5 lX;go_wp2
     go_loopw [11] (fun v wr=>∃q:Nat,q<=A.length/\v=.i (q:Int)/\Hid (Cd.frAll T (Ca D) (A.drop q)=SA)/\Bl w1 wr /\
       wr.heap[w.heap.size]?=some (O11 c3 l.length c4 c5 ms.length c6)/\wr.heap[w.heap.size+1]?=some (O12 cl nm pa pl pc r1 r2 lo st D ha c7 hc (.p g) h.length mc c8 c9)/\wr.heap[w1.heap.size]?=some (O9 a4 b1 z.length a9 b2 A.length b0))
      (fun v _=>A.length-(intOf v).toNat)
     case atStart=>exact⟨0,Ck,rfl,b4,b5,d2,d3,c0⟩
     case round=>
      clear b4 b5 d2 d3 c0 x0 x1 x2;obtain⟨q,hq,rfl,b4,a6,F,G,I⟩:=hrel;obtain⟨J,K,L,N,O,Q,V,Y,m8,m9,a0,a3⟩:=El G;simp at J K L N O Q V Y m8 m9 a0 a3;obtain⟨f0,f1⟩:=cl2 F;obtain⟨x0,x1,x2⟩:=cl3 I;simp at f0 f1 x0 x1 x2;have f4:=Sp F;have f5:=Sp G;have lX:=Sp I;by_cases d4:q<A.length
      ·obtain⟨g2,g4,g5,_,b6⟩:=Cf (Ba i3 _ a6) Ck;obtain⟨e1,e2,e3⟩:=Fu A q d4;have u0:=(b6 (q*2) Ck).trans e1;have u1:=(b6 (q*2+1) Ck).trans e2;have d5:A.drop q=A[q]::A.drop (q+1):=Brj d4;have hA:=Ba b4;unfold Cd.frAll at hA;rw[d5,Bw3]at hA;generalize A[q]=t at *;obtain⟨t1,t2⟩:=t;simp only at u0 u1 hA;have d6:=fun w=>Ba h2 t1 t2 w;generalize Cd.framed T (Ca D) t1 t2=Z at *;have HZ:=Bc d6;have a8:=Bc hA;have qb:(q:Int)<(A.length:Int):=Ck;clear d6 hA d5 e1 e2 e3 b6 b4;subst g4;have lF:w.heap.size<wr.heap.size:=f4;have j:w.heap.size+1<wr.heap.size:=f5;have lG:g2<wr.heap.size:=g5;go_wp2
       go_region_held3 (fun b=>b.C w.heap.size 0 (.s c3 l.length c4)/\b.C w.heap.size 1 (.s c5 ms.length c6)/\b.C (w.heap.size+1) 0 (.i cl)/\b.C (w.heap.size+1) 1 (.i nm)/\b.C (w.heap.size+1) 2 (.s pa pl pc)/\b.C (w.heap.size+1) 3 (.i r1)/\b.C (w.heap.size+1) 4 (.i r2)/\b.C (w.heap.size+1) 5 (.i lo)/\b.C (w.heap.size+1) 6 (.i st)/\b.C (w.heap.size+1) 7 (.string D)/\b.C (w.heap.size+1) 8 (.s ha c7 hc)/\b.C (w.heap.size+1) 9 (.s (.p g) h.length mc)/\b.C (w.heap.size+1) 10 (.i c8)/\b.C (w.heap.size+1) 11 (.i c9)/\b.C w1.heap.size 2 (.s (.p g2) A.length b0)/\b.C g2 (q*2) (.i t1)/\b.C g2 (q*2+1) (.i t2))
        (first|exact⟨f0,f1,J,K,L,N,O,Q,V,Y,m8,m9,a0,a3,x2,u0,u1⟩|exact⟨QC c lF f0,QC c lF f1,QC c j J,QC c j K,QC c j L,QC c j N,QC c j O,QC c j Q,QC c j V,QC c j Y,QC c j m8,QC c j m9,QC c j a0,QC c j a3,QC c lX x2,QC c lG u0,QC c lG u1⟩)
        (first|(go_at_call 97;refine(Ba HZ _).mono ?_;rintro e w7 ⟨rfl,c⟩))
       have d7:Bl w1 w7:=a6.drew.trans (c.mono a6.size);have g6:=stay c (show (wr.drew).heap[w.heap.size]?=_ from F);have g7:=stay c (show (wr.drew).heap[w.heap.size+1]?=_ from G);have g8:=stay c (show (wr.drew).heap[w1.heap.size]?=_ from I);clear c J K L N O Q V Y m8 m9 a0 a3 f0 f1 x0 x1 x2 u0 u1 F G I a6 lF j lG;cases Z with
       | false =>
        have a5:SA=false:=by rw[<- Ba a8];simp
        have HF:Hid ((k:Int)=r):=by unfold Hid;rw[<- Ba g9,a5];simp
        clear a8;go_wp2;go_ret;exact⟨by rw[<- Ba HF];rfl,hB.trans (d7.mono d0)⟩
       | true =>
        have HG:Hid (Cd.frAll T (Ca D) (A.drop (q+1))=SA):=by unfold Hid Cd.frAll;rw[<- Ba a8];simp
        clear a8;go_wp2;go_roundw
        case rel=>exact⟨q+1,Ck,Mg,HG,d7,g6,g7,g8⟩
        case measure=>simp[intOf];omega
      have a5:SA=true:=by rw[<- Ba b4,Brq Ck];rfl
      have qb:¬(q:Int)<(A.length:Int):=Ck;clear b4;have HG:Hid (Cd.mapsBad T (Ca D) (k+1) a4 ((h.map Prod.fst).drop (k+1))=r):=by unfold Hid;rw[<- Ba g9,a5];simp
      clear g9 a5;go_wp2;go_roundw
      case rel=>exact⟨k+1,_,Ck,Mg,rfl,HG,hB.trans (a6.mono d0),F,G⟩
      case measure=>simp[intOf];omega
  have hf:r = -1:=by rw[<- Ba HR,Brq Fr];rfl
  have HF:=Bc hf;have i4:¬(k:Int)<(h.length:Int):=Ck;clear hf HR;go_wp2;go_ret;exact⟨by rw[Ba HF];rfl,hB⟩
def Tj{α:Type}[DecidableEq α]{a b:List α}{k:Nat}(c:k<a.length)(e:k<b.length):decide (a.drop k=b.drop k)=(decide (a[k]=b[k])&&decide (a.drop (k+1)=b.drop (k+1))):=by
 rw[Brj c,Brj e];simp only[List.cons.injEq];exact Bool.decide_and _ _
def Bjd(b c:TP)(C D:TA)(F G b1 b2:Nat)(w:TW)(ha:Cq w b1 (.s C b.length F) b)(hb:Cq w b2 (.s D c.length G) c)(hl:b.length<=1000)(a6:c.length<=1000):Calls prog 92 #[.s C b.length F,.s D c.length G] w fun e w'=>e=.r (.bool (decide (b=c)))/\Bl w w':=by
 by_cases t:b.length=c.length
 ·generalize f:decide (b=c)=r;have j:Hid (decide (b.drop 0=c.drop 0)=r):=f;clear f;have a3:((b.length:Int) != (c.length:Int))=false:=Fr;have I:=Bc t;clear t;go_in;go_wp2
  go_loopw [5] (fun v wr=>∃k:Nat,k<=b.length/\v=.i (k:Int)/\Hid (decide (b.drop k=c.drop k)=r)/\Bl w wr)
   (fun v _=>b.length-(intOf v).toNat)
  case atStart=>exact⟨0,Ck,rfl,j,Brm _ _⟩
  case round=>
   clear j;obtain⟨k,hk,rfl,j,l⟩:=hrel;by_cases J:k<b.length
   ·have K:k<c.length:=by have:=Ba I;omega
    obtain⟨g,hg,a7,_,A⟩:=Cf (ha.kp (Kp.of_below (e:=none) l) Fm) Ck;obtain⟨g2,a4,a8,_,B⟩:=Cf (hb.kp (Kp.of_below (e:=none) l) Fm) Ck;obtain⟨L,N,t3⟩:=Fu b k J;obtain⟨O,Q,s3⟩:=Fu c k K;have u0:=(A (k*2) Ck).trans L;have u1:=(A (k*2+1) Ck).trans N;have v0:=(B (k*2) Ck).trans O;have v1:=(B (k*2+1) Ck).trans Q;have f:=Ba j;rw[Tj J K]at f;generalize b[k]=x at *;generalize c[k]=y at *;obtain⟨V,Y⟩:=x;obtain⟨Z,y2⟩:=y;simp only[Prod.mk.injEq]at u0 u1 v0 v1 f;have a5:(k:Int)<(b.length:Int):=Ck;have a9:(k:Int)<(c.length:Int):=Ck;have z:=Bc f;clear f j A B L N t3 O Q s3;subst hg a4;by_cases p:V=Z/\Y=y2
    ·obtain⟨rfl,rfl⟩:=p;have m:Hid (decide (b.drop (k+1)=c.drop (k+1))=r):=by unfold Hid;rw[<- Ba z];simp
     clear z;go_wp2
     go_region
     all_goals
      go_wp2;go_roundw
      case rel=>exact⟨k+1,Ck,Mg,m,l.drew⟩
      case measure=>simp[intOf];omega
    have q:r=false:=by rw[<- Ba z];simp[p]
    have m:=Bc q;clear z q;by_cases h1:V=Z
    ·subst h1;have h2:¬Y=y2:=fun h=>p ⟨rfl,h⟩;clear p;go_wp2
     go_region
     all_goals
      go_wp2;go_ret;exact⟨by rw[Ba m];rfl,l.drew⟩
    clear p;go_wp2
    go_region
    all_goals
     go_wp2;go_ret;exact⟨by rw[Ba m];rfl,l.drew⟩
   have q:r=true:=by
    rw[<- Ba j,Brq Ck,Brq (by have:=Ba I;omega)];rfl
   have m:=Bc q;have a5:¬(k:Int)<(b.length:Int):=Ck;clear q j;go_wp2;go_ret;exact⟨by rw[Ba m];rfl,l⟩
 have a0:b≠c:=fun h=>t (by rw[h]);have hd:decide (b=c)=false:=by simp[a0]
 rw[hd];have a3:((b.length:Int) != (c.length:Int))=true:=Fr;clear t a0;go_in;go_wp2;go_ret;exact⟨rfl,Brm _ _⟩
def RMV.list(m:RMV):List Value:=[.int .i64 m.cl,.int .i64 m.nm,.slice m.pa m.pl m.pc,.int .i64 m.r1,.int .i64 m.r2,.int .i64 m.lo,.int .i64 m.st,.string m.code,.slice m.ha m.hl m.hc,.slice m.ma m.ml m.mc,.int .i64 m.mAt,.int .i64 m.fin]
structure RMV.is(m:RMV)(x:Rf.Mth)(w:World)(bb:Nat):Prop where
 cl:m.cl=x.m.cl
 nm:m.nm=x.m.name
 r1:m.r1=x.m.result.1
 r2:m.r2=x.m.result.2
 lo:m.lo=x.m.locals
 st:m.st=x.m.stack
 mAt:m.mAt=x.mapsAt
 fin:m.fin=x.fin
 pl:m.pl=x.m.params.length
 ps:Cq w bb (.slice m.pa m.pl m.pc) x.m.params
 code:Ca m.code=x.m.code
 hl:m.hl=x.m.handlers.length
 hs:Iz w bb (.slice m.ha m.hl m.hc) x.m.handlers
 ml:m.ml=x.m.maps.length
 mp:Blf w bb (.slice m.ma m.ml m.mc) x.m.maps
def RMV.is.below{m:RMV}{x:Rf.Mth}{w s:TW}{u:Nat}(h:m.is x w u)(b:Bl w s):m.is x s u:=by
 obtain⟨c,f,g,i,j,p,q,t,v,z,A,B,C,D,l,F,G⟩:=h;exact⟨c,f,g,i,j,p,q,t,v,z.kp (Kp.of_below (e:=none) b) Fm,A,B,C.kp (Kp.of_below (e:=none) b) Fm,D,l,F,G.kp (Kp.of_below (e:=none) b) Fm Fm⟩
theorem RFl.mth{f:RFl}{w:World}(z:f.ok w){k:Nat}(l:k<f.ms.length):∃(m:RMV) (g:Nat),f.a2=some ⟨g,0,none⟩/\g<w.heap.size/\(∀j v,m.list[j]?=some v->w.cell? ⟨g,k*12+j,none⟩=some v)/\m.is f.ms[k].1 w f.bb:=by
 obtain⟨A,B⟩:=z.2.2.2.2.2;obtain⟨g,C,D,_,F⟩:=Cf A Ck;obtain⟨b,p,c,e,q,h⟩:=B _ (Brn l);have s:=fun j i=>Av f.ms k l j i;generalize f.ms[k]=x at *;obtain⟨x,u⟩:=x;obtain⟨Z,G,uh,um⟩:=u;simp only at b p c h s;obtain⟨I,J,rfl⟩:=Bh b;obtain⟨K,L,rfl⟩:=Bh c;obtain⟨N,O,rfl⟩:=Bh h.1;have Q:e.length=x.m.maps.length:=by rw[<- q];simp
 refine⟨⟨x.m.cl,x.m.name,I,x.m.params.length,J,x.m.result.1,x.m.result.2,x.m.locals,x.m.stack,G,K,x.m.handlers.length,L,N,e.length,O,x.mapsAt,x.fin⟩,g,C,D,?_,⟨rfl,rfl,rfl,rfl,rfl,rfl,rfl,rfl,rfl,b,p,rfl,c,Q,e,q,h⟩⟩;intro j v t;have i:j<12:=by
  have:=(List.getElem?_eq_some_iff.1 t).1;simpa[RMV.list] using this
 obtain⟨V,Y⟩:=s j i;rw[F _ Y,V,<- t];rfl
def Mi (T:TI)(cl nm r1 r2:Int)(ps:TP)(k i:Nat)(x:Rd.Mth):Bool :=
 if x.name≠nm then false else if x.cl=255 then false else if x.cl=cl then decide (i<k)
 else Tr.rbel T cl x.cl&&(!decide (x.params=ps) || !decide (x.result=(r1,r2)))
def Im (T:TI)(cl nm r1 r2:Int)(ps:TP)(k:Nat):Nat->List Rd.Mth->Bool
 | _,[]=>true
 | i,x::r=>if Mi T cl nm r1 r2 ps k i x=true then false else Im T cl nm r1 r2 ps k (i+1) r
def Vf (T:TI)(cl nm r1 r2:Int):Bool :=
 (if cl=255 then !decide (nm=0) else (!Tr.hasB T cl || decide (cl<7))) || (!Tr.plainB T r1 r2 && !decide ((r1,r2)=(0,0)))
def Lv (cl lo:Int)(ps:TP):Bool:=decide (lo<(ps.length:Int)) || (!decide (cl=255)&&decide (lo=(ps.length:Int)))
def On (T:TI)(ms:List Rd.Mth)(k:Nat)(cl nm r1 r2 lo:Int)(ps:TP):Bool :=
 if Vf T cl nm r1 r2=true then false else if Tr.allPlainB T ps=false then false else if Lv cl lo ps=true then false
 else if cl=255 then true else Im T cl nm r1 r2 ps k 0 ms
def Oe{m:RMV}{w:TW}{u k:Nat}(h:∀j v,m.list[j]?=some v->w.C u (k*12+j) v):w.C u (k*12) (.i m.cl)/\w.C u (k*12+1) (.i m.nm)/\w.C u (k*12+2) (.s m.pa m.pl m.pc)/\w.C u (k*12+3) (.i m.r1)/\w.C u (k*12+4) (.i m.r2)/\w.C u (k*12+5) (.i m.lo)/\w.C u (k*12+6) (.i m.st)/\w.C u (k*12+7) (.string m.code)/\w.C u (k*12+8) (.s m.ha m.hl m.hc)/\w.C u (k*12+9) (.s m.ma m.ml m.mc)/\w.C u (k*12+10) (.i m.mAt)/\w.C u (k*12+11) (.i m.fin) :=
 ⟨h 0 _ rfl,h 1 _ rfl,h 2 _ rfl,h 3 _ rfl,h 4 _ rfl,h 5 _ rfl,h 6 _ rfl,h 7 _ rfl,h 8 _ rfl,h 9 _ rfl,h 10 _ rfl,h 11 _ rfl⟩
def Bjj(f:RFl)(k:Nat)(w:TW)(hf:f.ok w)(hk:k<f.ms.length)(h1:∀p∈f.ms,p.1.m.params.length<=1000):Calls prog 57 #[f.val,.i (k:Int)] w fun e z => e=.r (.bool (On f.T (f.ms.map fun p=>p.1.m) k f.ms[k].1.m.cl f.ms[k].1.m.name f.ms[k].1.m.result.1 f.ms[k].1.m.result.2 f.ms[k].1.m.locals f.ms[k].1.m.params))/\Bl w z:=by
 obtain⟨m,g,hg,q2,h2,o1⟩:=RFl.mth hf hk;have k5:=h1 _ (Brn hk);have o2:f.ms.length<=6:=hf.2.2.1;replace h2:=Oe h2;obtain⟨d1,d2,d3,d4,k6,-,-,-,d5,k7,-,-,-,-,-⟩:=o1;rw[<- d1,<- d2,<- d3,<- d4,<- k6];generalize f.ms[k].1.m.params=b at *;have h3:=fun x w=>L9 f.T f.a1 f.a2 f.c1 f.ms.length f.c2 x w;have d6:=fun x y w=>Vo f.T f.a1 f.a2 f.c1 f.ms.length f.c2 x y w;have h4:=fun x y w (h:f.ok w)=>J9 f.a1 f.a2 f.c1 f.ms.length f.c2 f.bb f.l x y w (by have:=h.1;omega) h.2.2.2.2.1;have k8:f.T.length=f.l.length:=Jn _;rw[k8]at h3 d6;have k9:Ct f.l=f.T:=rfl;rw[k9]at h4;have l0:∀z,Bl w z->f.ok z:=fun z hb=>hf.below hb;have j1:∀z i (hi:i<f.ms.length),Bl w z->∃(m:RMV) (g:Nat),f.a2=some ⟨g,0,none⟩/\g<z.heap.size/\(∀j v,m.list[j]?=some v->z.C g (i*12+j) v)/\m.is f.ms[i].1 z f.bb:=fun z i hi hb=>RFl.mth (hf.below hb) hi;have j2:∀z,Bl w z->Cq z f.bb (.s m.pa m.pl m.pc) b:=fun z hb=>k7.kp (Kp.of_below (e:=none) hb) Fm;generalize f.T=T at *;clear hf k7 d1 d2 d3 d4 k6 k8 k9;obtain⟨b3,b4,q3,b5,bb,l,c⟩:=f;obtain⟨D,nm,pa,pl,pc,A,B,lo,st,c6,ha,hl,hc,ma,ml,mc,c7,c8⟩:=m;simp only at d5 hg hk;subst d5 hg;simp only[RFl.val]at h3 d6 h4 h2 j2 k5 h1 j1 o2 ⊢;obtain⟨y0,y1,y2,y3,y4,y5,y6,y7,y8,y9,o3,o4⟩:=h2;have q4:(k:Int)<(c.length:Int):=Ck;have l1:=fun w=>h3 D w;have l2:=fun w=>d6 A B w;generalize G:On T (c.map fun p=>p.1.m) k D nm A B lo b=R;unfold On Vf at G;generalize Tr.hasB T D=K at *;generalize Tr.plainB T A B=P at *;have o5:=Bc l1;have o6:=Bc l2;have l3:=Bc d6;have o7:=Bc h4;have o8:=Bc l0;have o9:=Bc j1;have j3:=Bc j2;have p0:=Bc h1;clear l1 l2 h3 d6 h4 l0 j1 j2 h1;have l4:=Bu w (O11 b3 l.length b4 (.p g) c.length b5) (O12 D nm pa b.length pc A B lo st c6 ha hl hc ma ml mc c7 c8);have l5:=Cb w (O11 b3 l.length b4 (.p g) c.length b5) (O12 D nm pa b.length pc A B lo st c6 ha hl hc ma ml mc c7 c8);have l6:=Bx w (O11 b3 l.length b4 (.p g) c.length b5) (O12 D nm pa b.length pc A B lo st c6 ha hl hc ma ml mc c7 c8);go_in;go_wp2_with fail;refine Qm (Ba o5 _) ?_;intro w1 h5;have l7:=l4.trans (h5.mono Fr);have j4:=stay h5 l5;have d7:=stay h5 l6;clear h5 l4 l5 l6 y0 y1 y2 y3 y4 y5 y6 y7 y8 y9 o3 o4;obtain⟨N,O⟩:=cl2 j4;obtain⟨m0,m1⟩:=cl2 d7;have I:=Bb d7 3;have J:=Bb d7 4;simp at N O m0 m1 I J;go_wp2_with fail;refine Qb (Ba o6 _) l7 ?_;intro w2 j5 b0;have d8:=stay j5 j4;have d9:=stay j5 d7;clear j5 l7 j4 d7 N O m0 m1 I J;obtain⟨m0,m1,Q,I,J,m5,m6,m7,m8,m9,a4,a5⟩:=El d9;simp at m0 m1 Q I J m5 m6 m7 m8 m9 a4 a5;obtain⟨N,O⟩:=cl2 d8;simp at N O;by_cases a7:D=255
 ·subst a7;by_cases l8:nm=0
  ·subst l8;obtain hg|⟨rfl,hg⟩:(P=true\/P=false/\A=0/\B=0)\/(P=false/\¬(A=0/\B=0)):=by cases P<;>simp<;>omega
   ·rcases hg with rfl|⟨rfl,e1,e2⟩
    all_goals
     generalize f2:Tr.allPlainB T b=AP at G;have a3:Hid (Tr.allPlainB T (b.drop 0)=AP):=f2;clear f2;have b9:Hid ((if AP=false then false else if Lv 255 lo b=true then false else if (255:Int)=255 then true else Im T 255 0 A B b k 0 (c.map fun p=>p.1.m))=R):=by
      unfold Hid;rw[<- G]
      first|(simp ;done)|simp[e1,e2]
     try (have z1:(A==0)=true:=by simp[e1];have z2:(B==0)=true:=by simp[e2];clear e1 e2)
     clear G;go_wp2
     go_loopw [9] (fun v wr=>∃q:Nat,q<=b.length/\v=.i (q:Int)/\Hid (Tr.allPlainB T (b.drop q)=AP)/\Bl w wr/\wr.heap[w.heap.size]?=some (O11 b3 l.length b4 (.p g) c.length b5)/\wr.heap[w.heap.size+1]?=some (O12 255 0 pa b.length pc A B lo st c6 ha hl hc ma ml mc c7 c8))
      (fun v _=>b.length-(intOf v).toNat)
     case atStart=>exact⟨0,Ck,rfl,a3,b0,d8,d9⟩
     case round=>
      clear a3 b0 d8 d9 N O m0 m1 Q I J m5 m6 m7 m8 m9 a4 a5;obtain⟨q,hq,rfl,a3,L,CF,CM⟩:=hrel;obtain⟨m0,m1,Q,I,J,m5,m6,m7,m8,m9,a4,a5⟩:=El CM;simp at m0 m1 Q I J m5 m6 m7 m8 m9 a4 a5;obtain⟨N,O⟩:=cl2 CF;simp at N O;have lF:w.heap.size<wr.heap.size:=Sp CF;have lM:w.heap.size+1<wr.heap.size:=Sp CM;have c0:=L.size;by_cases f3:q<b.length
      ·obtain⟨g2,j6,j7,_,c3⟩:=Cf (Ba j3 _ L) Ck;obtain⟨e1,e2,e3⟩:=Fu b q f3;have u0:=(c3 (q*2) Ck).trans e1;have u1:=(c3 (q*2+1) Ck).trans e2;have f4:b.drop q=b[q]::b.drop (q+1):=Brj f3;have hA:=Ba a3;rw[f4,Of]at hA;generalize b[q]=t at *;obtain⟨t1,t2⟩:=t;simp only at u0 u1 hA;have f5:=fun w=>Ba l3 t1 t2 w;generalize Tr.plainB T t1 t2=Z at *;have HZ:=Bc f5;have b2:=Bc hA;have qb:(q:Int)<(b.length:Int):=Ck;have lG:g2<wr.heap.size:=j7;clear f5 hA f4 e1 e2 e3 c3 a3;subst j6;go_wp2
       go_region_held3 (fun z=>z.C w.heap.size 0 (.s b3 l.length b4)/\z.C w.heap.size 1 (.s (.p g) c.length b5)/\z.C (w.heap.size+1) 2 (.s (.p g2) b.length pc)/\z.C g2 (q*2) (.i t1)/\z.C g2 (q*2+1) (.i t2))
        (first|exact⟨N,O,Q,u0,u1⟩|exact⟨QC V lF N,QC V lF O,QC V lM Q,QC V lG u0,QC V lG u1⟩)
        (first|(go_at_call 90;refine(Ba HZ _).mono ?_;rintro e w7 ⟨rfl,V⟩))
       have f6:Bl w w7:=L.drew.trans (V.mono c0);have j8:=stay V (show (wr.drew).heap[w.heap.size]?=_ from CF);have j9:=stay V (show (wr.drew).heap[w.heap.size+1]?=_ from CM);clear V m0 m1 Q I J m5 m6 m7 m8 m9 a4 a5 N O u0 u1 CF CM L lF lM lG;cases Z with
       | false =>
        have b1:AP=false:=by rw[<- Ba b2];simp
        have F:Hid (R=false):=by unfold Hid;rw[<- Ba b9,b1];simp
        clear b2 b1;go_wp2;go_ret;exact⟨by rw[Ba F];rfl,f6⟩
       | true =>
        have HG:Hid (Tr.allPlainB T (b.drop (q+1))=AP):=by unfold Hid;rw[<- Ba b2];simp
        clear b2;go_wp2;go_roundw
        case rel=>exact⟨q+1,Ck,Mg,HG,f6,j8,j9⟩
        case measure=>simp[intOf];omega
      have b1:AP=true:=by rw[<- Ba a3,Brq Ck];rfl
      have qb:¬(q:Int)<(b.length:Int):=Ck;have a6:=Ba b9;rw[b1,Pk Hd]at a6;clear a3 b1 b9;by_cases f7:lo<(b.length:Int)
      ·have F:Hid (R=false):=by unfold Hid;rw[<- a6];simp[Lv,f7]
       clear a6;go_wp2;go_ret;exact⟨by rw[Ba F];rfl,L⟩
      have F:Hid (R=true):=by unfold Hid;rw[<- a6];simp[Lv,f7]
      clear a6;go_wp2
      go_loopw [11] (fun v p1=>v=.i 0/\p1=wr) (fun _ _=>0)
      case atStart=>exact⟨rfl,rfl⟩
      case round=>
       obtain⟨rfl,rfl⟩:=hrel;go_wp2;go_ret;exact⟨by rw[Ba F];rfl,L⟩
   by_cases f8:A=0
   ·subst f8;have k0:¬B=0:=fun h=>hg ⟨rfl,h⟩;clear hg;have F:Hid (R=false):=by unfold Hid;rw[<- G];simp[k0]
    clear G;go_wp2;go_ret;exact⟨by rw[Ba F];rfl,b0⟩
   clear hg;have F:Hid (R=false):=by unfold Hid;rw[<- G];simp[f8]
   clear G;go_wp2;go_ret;exact⟨by rw[Ba F];rfl,b0⟩
  have F:Hid (R=false):=by unfold Hid;rw[<- G];simp[l8]
  clear G;go_wp2;go_ret;exact⟨by rw[Ba F];rfl,b0⟩
 have q5:(D != 255)=true:=by simp[a7]
 cases K with
 | false =>
  have F:Hid (R=false):=by unfold Hid;rw[<- G];simp[a7]
  clear G;go_wp2;go_ret;exact⟨by rw[Ba F];rfl,b0⟩
 | true =>
  by_cases h7:D<7
  ·have F:Hid (R=false):=by unfold Hid;rw[<- G];simp[a7,h7]
   clear G;go_wp2;go_ret;exact⟨by rw[Ba F];rfl,b0⟩
  obtain hg|⟨rfl,hg⟩:(P=true\/P=false/\A=0/\B=0)\/(P=false/\¬(A=0/\B=0)):=by cases P<;>simp<;>omega
  ·rcases hg with rfl|⟨rfl,e1,e2⟩
   all_goals
    generalize f2:Tr.allPlainB T b=AP at G;have a3:Hid (Tr.allPlainB T (b.drop 0)=AP):=f2;clear f2;have b9:Hid ((if AP=false then false else if Lv D lo b=true then false else if D=255 then true else Im T D nm A B b k 0 (c.map fun p=>p.1.m))=R):=by
     unfold Hid;rw[<- G]
     first|(simp[a7,h7];done)|simp[a7,h7,e1,e2]
    try (have z1:(A==0)=true:=by simp[e1];have z2:(B==0)=true:=by simp[e2];clear e1 e2)
    clear G;go_wp2
    go_loopw [9] (fun v wr=>∃q:Nat,q<=b.length/\v=.i (q:Int)/\Hid (Tr.allPlainB T (b.drop q)=AP)/\Bl w wr/\wr.heap[w.heap.size]?=some (O11 b3 l.length b4 (.p g) c.length b5)/\wr.heap[w.heap.size+1]?=some (O12 D nm pa b.length pc A B lo st c6 ha hl hc ma ml mc c7 c8))
     (fun v _=>b.length-(intOf v).toNat)
    case atStart=>exact⟨0,Ck,rfl,a3,b0,d8,d9⟩
    case round=>
     clear a3 b0 d8 d9 N O m0 m1 Q I J m5 m6 m7 m8 m9 a4 a5;obtain⟨q,hq,rfl,a3,L,CF,CM⟩:=hrel;obtain⟨m0,m1,Q,I,J,m5,m6,m7,m8,m9,a4,a5⟩:=El CM;simp at m0 m1 Q I J m5 m6 m7 m8 m9 a4 a5;obtain⟨N,O⟩:=cl2 CF;simp at N O;have lF:w.heap.size<wr.heap.size:=Sp CF;have lM:w.heap.size+1<wr.heap.size:=Sp CM;have c0:=L.size;by_cases f3:q<b.length
     ·obtain⟨g2,j6,j7,_,c3⟩:=Cf (Ba j3 _ L) Ck;obtain⟨e1,e2,e3⟩:=Fu b q f3;have u0:=(c3 (q*2) Ck).trans e1;have u1:=(c3 (q*2+1) Ck).trans e2;have f4:b.drop q=b[q]::b.drop (q+1):=Brj f3;have hA:=Ba a3;rw[f4,Of]at hA;generalize b[q]=t at *;obtain⟨t1,t2⟩:=t;simp only at u0 u1 hA;have f5:=fun w=>Ba l3 t1 t2 w;generalize Tr.plainB T t1 t2=Z at *;have HZ:=Bc f5;have b2:=Bc hA;have qb:(q:Int)<(b.length:Int):=Ck;have lG:g2<wr.heap.size:=j7;clear f5 hA f4 e1 e2 e3 c3 a3;subst j6;go_wp2
      go_region_held3 (fun z=>z.C w.heap.size 0 (.s b3 l.length b4)/\z.C w.heap.size 1 (.s (.p g) c.length b5)/\z.C (w.heap.size+1) 2 (.s (.p g2) b.length pc)/\z.C g2 (q*2) (.i t1)/\z.C g2 (q*2+1) (.i t2))
       (first|exact⟨N,O,Q,u0,u1⟩|exact⟨QC V lF N,QC V lF O,QC V lM Q,QC V lG u0,QC V lG u1⟩)
       (first|(go_at_call 90;refine(Ba HZ _).mono ?_;rintro e w7 ⟨rfl,V⟩))
      have f6:Bl w w7:=L.drew.trans (V.mono c0);have j8:=stay V (show (wr.drew).heap[w.heap.size]?=_ from CF);have j9:=stay V (show (wr.drew).heap[w.heap.size+1]?=_ from CM);clear V m0 m1 Q I J m5 m6 m7 m8 m9 a4 a5 N O u0 u1 CF CM L lF lM lG;cases Z with
      | false =>
       have b1:AP=false:=by rw[<- Ba b2];simp
       have F:Hid (R=false):=by unfold Hid;rw[<- Ba b9,b1];simp
       clear b2 b1;go_wp2;go_ret;exact⟨by rw[Ba F];rfl,f6⟩
      | true =>
       have HG:Hid (Tr.allPlainB T (b.drop (q+1))=AP):=by unfold Hid;rw[<- Ba b2];simp
       clear b2;go_wp2;go_roundw
       case rel=>exact⟨q+1,Ck,Mg,HG,f6,j8,j9⟩
       case measure=>simp[intOf];omega
     have b1:AP=true:=by rw[<- Ba a3,Brq Ck];rfl
     have qb:¬(q:Int)<(b.length:Int):=Ck;have a6:=Ba b9;rw[b1,Pk Hd]at a6;clear a3 b1 b9;by_cases f7:lo<(b.length:Int)
     ·have F:Hid (R=false):=by unfold Hid;rw[<- a6];simp[Lv,f7]
      clear a6;go_wp2;go_ret;exact⟨by rw[Ba F];rfl,L⟩
     by_cases l9:lo=(b.length:Int)
     ·have F:Hid (R=false):=by unfold Hid;rw[<- a6];simp[Lv,l9,a7]
      clear a6;go_wp2;go_ret;exact⟨by rw[Ba F];rfl,L⟩
     have HL:Hid (Im T D nm A B b k 0 ((c.map fun p=>p.1.m).drop 0)=R):=by unfold Hid;rw[<- a6];simp[Lv,f7,l9,a7]
     clear a6;go_wp2
     go_loopw [11] (fun v wr=>∃i:Nat,i<=c.length/\v=.i (i:Int)/\Hid (Im T D nm A B b k i ((c.map fun p=>p.1.m).drop i)=R)/\Bl w wr/\wr.heap[w.heap.size]?=some (O11 b3 l.length b4 (.p g) c.length b5)/\wr.heap[w.heap.size+1]?=some (O12 D nm pa b.length pc A B lo st c6 ha hl hc ma ml mc c7 c8))
      (fun v _=>c.length-(intOf v).toNat)
     case atStart=>exact⟨0,Ck,rfl,HL,L,CF,CM⟩
     case round=>
      clear HL L CF CM N O m0 m1 Q I J m5 m6 m7 m8 m9 a4 a5 lF lM c0;obtain⟨i,hi,rfl,HL,L,CF,CM⟩:=hrel;obtain⟨m0,m1,Q,I,J,m5,m6,m7,m8,m9,a4,a5⟩:=El CM;simp at m0 m1 Q I J m5 m6 m7 m8 m9 a4 a5;obtain⟨N,O⟩:=cl2 CF;simp at N O;have lF:w.heap.size<wr.heap.size:=Sp CF;have lM:w.heap.size+1<wr.heap.size:=Sp CM;have c0:=L.size;by_cases k1:i<c.length
      ·obtain⟨mx,gx,k2,q6,h6,p2⟩:=Ba o9 wr i k1 L;have p3:=Ba p0 _ (Brn k1);have hd:(c.map fun p=>p.1.m).drop i=c[i].1.m::(c.map fun p=>p.1.m).drop (i+1):=by
        rw[Brj (by simpa using k1)];simp
       have hr:=Ba HL;rw[hd,Im,Mi]at hr;obtain⟨d1,d2,d3,d4,-,-,-,-,d5,k3,-,-,-,-,-⟩:=p2;have n0:c[i].1.m.result=(mx.r1,mx.r2):=by rw[d3,d4]
       rw[<- d1,<- d2,n0]at hr;replace h6:=Oe h6;generalize c[i].1.m.params=b6 at *;obtain⟨a8,c4,c9,q7,d0,f9,g0,h8,h9,i0,i1,i2,i3,i4,i5,i6,i7,i8⟩:=mx;simp only at d5 k2;subst d5;obtain rfl:g=gx:=by simpa using k2
       simp only at hr h6 k3;obtain⟨z0,z1,z2,z3,z4,z5,z6,z7,z8,z9,p4,p5⟩:=h6;have ib:(i:Int)<(c.length:Int):=Ck;have p6:=Bc k3;have n1:=fun w h=>Ba o7 D a8 w h;generalize Tr.rbel T D a8=U at *;have HU:=Bc n1;have a0:=Bc hr;have CX:=Be wr (O12 a8 c4 c9 b6.length d0 f9 g0 h8 h9 i0 i1 i2 i3 i4 i5 i6 i7 i8);have c5:=L.alloc c0 (O12 a8 c4 c9 b6.length d0 f9 g0 h8 h9 i0 i1 i2 i3 i4 i5 i6 i7 i8);have g1:=Bg CF (O12 a8 c4 c9 b6.length d0 f9 g0 h8 h9 i0 i1 i2 i3 i4 i5 i6 i7 i8);have g3:=Bg CM (O12 a8 c4 c9 b6.length d0 f9 g0 h8 h9 i0 i1 i2 i3 i4 i5 i6 i7 i8);clear hd hr k3 d1 d2 d3 d4 n0 HL k2 n1;by_cases a9:c4=nm
       ·have p7:(c4 != nm)=false:=by simp[a9]
        by_cases b7:a8=255
        ·have p8:(a8==255)=true:=by simp[b7]
         have Y:Hid (Im T D nm A B b k (i+1) ((c.map fun p=>p.1.m).drop (i+1))=R):=by unfold Hid;rw[<- Ba a0];simp[a9,b7]
         clear a9 b7;clear a0;go_wp2;go_roundw
         case rel=>exact⟨i+1,Ck,Mg,Y,c5,g1,g3⟩
         case measure=>simp[intOf];omega
        have p8:(a8==255)=false:=by simp[b7]
        by_cases b8:a8=D
        ·have p9:(a8==D)=true:=by simp[b8]
         by_cases n2:i<k
         ·have q0:(i:Int)<(k:Int):=Ck;have Y:Hid (R=false):=by unfold Hid;rw[<- Ba a0];simp[a9,b8,n2,a7]
          clear a9 b7 b8;clear a0;go_wp2;go_ret;exact⟨by rw[Ba Y];rfl,c5⟩
         have q0:¬(i:Int)<(k:Int):=Ck;have Y:Hid (Im T D nm A B b k (i+1) ((c.map fun p=>p.1.m).drop (i+1))=R):=by unfold Hid;rw[<- Ba a0];simp[a9,b8,n2,a7]
         clear a9 b7 b8;clear a0;go_wp2;go_roundw
         case rel=>exact⟨i+1,Ck,Mg,Y,c5,g1,g3⟩
         case measure=>simp[intOf];omega
        have p9:(a8==D)=false:=by simp[b8]
        have g4:=Bc a9;have g5:=Bc b7;have g6:=Bc b8;clear a9 b7 b8;go_wp2_with fail;refine Qb (Ba HU _ (Ba o8 _ c5)) c5 ?_;intro w3 g7 k4;have n3:=stay g7 g1;have g8:=stay g7 g3;have g9:=stay g7 CX;have n4:Cq w3 bb (.s c9 b6.length d0) b6:=(Ba p6).kp (Kp.of_below (e:=none) ((QN _).trans (g7.mono Hd))) Fm;have n5:=Ba j3 _ k4;clear g7 c5 CF CM g1 g3 CX L N O m0 m1 Q I J m5 m6 m7 m8 m9 a4 a5 z0 z1 z2 z3 z4 z5 z6 z7 z8 z9 p4 p5 lF lM c0;have Q:=Bb g8 2;have I:=Bb g8 3;have J:=Bb g8 4;have x2:=Bb g9 2;have x3:=Bb g9 3;have x4:=Bb g9 4;simp at Q I J x2 x3 x4;have n6:=Bjd b6 b c9 pa d0 pc bb bb w3 n4 n5 p3 k5;generalize decide (b6=b)=SM at *;have q1:=Bc n6;clear n6 n4 n5;go_wp2_with fail;refine Qb (Ba q1) k4 ?_;intro w4 i9 h0;have n7:=stay i9 n3;have j0:=stay i9 g8;have n8:=stay i9 g9;clear i9 k4 n3 g8 g9 Q I J x2 x3 x4;have I:=Bb j0 3;have J:=Bb j0 4;have x3:=Bb n8 3;have x4:=Bb n8 4;simp at I J x3 x4;cases U with
        | false =>
         have Y:Hid (Im T D nm A B b k (i+1) ((c.map fun p=>p.1.m).drop (i+1))=R):=by unfold Hid;rw[<- Ba a0];simp[Ba g4,Ba g5,Ba g6]
         clear a0;go_wp2;go_roundw
         case rel=>exact⟨i+1,Ck,Mg,Y,h0,n7,j0⟩
         case measure=>simp[intOf];omega
        | true =>
         cases SM with
         | false =>
          have Y:Hid (R=false):=by unfold Hid;rw[<- Ba a0];simp[Ba g4,Ba g5,Ba g6]
          clear a0;go_wp2;go_ret;exact⟨by rw[Ba Y];rfl,h0⟩
         | true =>
          by_cases n9:f9=A
          ·by_cases o0:g0=B
           ·have Y:Hid (Im T D nm A B b k (i+1) ((c.map fun p=>p.1.m).drop (i+1))=R):=by unfold Hid;rw[<- Ba a0];simp[Ba g4,Ba g5,Ba g6,n9,o0]
            clear a0;go_wp2;go_roundw
            case rel=>exact⟨i+1,Ck,Mg,Y,h0,n7,j0⟩
            case measure=>simp[intOf];omega
           have Y:Hid (R=false):=by unfold Hid;rw[<- Ba a0];simp[Ba g4,Ba g5,Ba g6,o0]
           clear a0;go_wp2;go_ret;exact⟨by rw[Ba Y];rfl,h0⟩
          have Y:Hid (R=false):=by unfold Hid;rw[<- Ba a0];simp[Ba g4,Ba g5,Ba g6,n9]
          clear a0;go_wp2;go_ret;exact⟨by rw[Ba Y];rfl,h0⟩
       have p7:(c4 != nm)=true:=by simp[a9]
       have Y:Hid (Im T D nm A B b k (i+1) ((c.map fun p=>p.1.m).drop (i+1))=R):=by unfold Hid;rw[<- Ba a0];simp[a9]
       clear a9;clear a0;go_wp2;go_roundw
       case rel=>exact⟨i+1,Ck,Mg,Y,c5,g1,g3⟩
       case measure=>simp[intOf];omega
      have Y:Hid (R=true):=by unfold Hid;rw[<- Ba HL,Brq Fr];rfl
      have ib:¬(i:Int)<(c.length:Int):=Ck;clear HL;go_wp2;go_ret;exact⟨by rw[Ba Y];rfl,L⟩
  by_cases f8:A=0
  ·subst f8;have k0:¬B=0:=fun h=>hg ⟨rfl,h⟩;clear hg;have F:Hid (R=false):=by unfold Hid;rw[<- G];simp[a7,h7,k0]
   clear G;go_wp2;go_ret;exact⟨by rw[Ba F];rfl,b0⟩
  clear hg;have F:Hid (R=false):=by unfold Hid;rw[<- G];simp[a7,h7,f8]
  clear G;go_wp2;go_ret;exact⟨by rw[Ba F];rfl,b0⟩
structure Rf.MBd(x:Rf.Mth):Prop where
 ps:x.m.params.length<=1000
 code:x.m.code.length<=100000
 hs:x.m.handlers.length<=1000
 mp:x.m.maps.length<=1000
 fr:∀p∈x.m.maps,p.locals.length<=1000/\p.stack.length<=1000
def Bct{α:Type}(P:α->Prop)(f:Int->α×Int)(h:∀i,P (f i).1)(n:Nat)(i:Int):(∀x∈(Rf.rep f n i).1,P x)/\(Rf.rep f n i).1.length<=n:=by
 induction n with
 | zero=>simp[Rf.rep]
 | succ k ih =>
  unfold Rf.rep
  split
  ·simp
  split
  ·simp
  refine⟨?_,by simp;exact ih.2⟩;intro x b;simp only[Bs1,Bth]at b;rcases b with b|b
  ·exact ih.1 x b
  rw[b];exact h _
def Bhy(s:TB)(i:Int)(n:Nat):(Rf.codeTo s i n).length=n:=by
 induction n with
 | zero=>rfl
 | succ k ih=>simp[Rf.codeTo,ih]
def Bm8(s:TB)(i:Int):(Rf.hnds s i).1.length<=1000:=by
 unfold Rf.hnds;have b:=Rf.cnt_bd s i 0 4 Ck
 split
 ·simp
 split
 ·simp
 simp only;rw[Bbf];omega
def Bjy(s:TB)(i L H:Int)(c:L<=8)(b:-1<=H)(e:H<=8):(Rf.mps s i L H).1.length<=1000/\∀p∈(Rf.mps s i L H).1,p.locals.length<=1000/\p.stack.length<=1000:=by
 unfold Rf.mps;have f:=Rf.cnt_bd s i 0 64 Ck
 split
 ·simp
 have:=Bct (fun p:Rd.Mp=>p.locals.length<=1000/\p.stack.length<=1000) (Rf.mp s L H) (fun j=>by
  unfold Rf.mp;have g:=Rf.cnt_bd s (j+1+2*L) 0 H b
  split
  ·simp
  simp only;rw[Mx,Mx];omega) (Rf.cnt s i 0 64).toNat (i+1)
 exact⟨Ck,this.1⟩
def Bqf(s:TB)(i:Int):Rf.MBd (Rf.mth s i).1:=by
 have none:Rf.MBd ⟨⟨0,0,[],(0,0),0,0,[],[],[]⟩,0,0⟩:=⟨Hd,Hd,Hd,Hd,Hd⟩;unfold Rf.mth;have e:=Rf.cnt_bd s (i+2) 0 4 Ck;have c:=Rf.cnt_bd s (i+3+2*Rf.cnt s (i+2) 0 4+2) 0 8 Ck;have b:=Rf.cnt_bd s (i+3+2*Rf.cnt s (i+2) 0 4+3) 0 8 Ck;have f:=Rf.cnt_bd s (i+3+2*Rf.cnt s (i+2) 0 4+4) 1 120 Ck;dsimp only
 split
 ·exact none
 split
 ·exact none
 split
 ·exact none
 split
 ·exact none
 split
 ·exact none
 split
 ·exact none
 exact⟨by simp only;rw[Mx];omega,by simp only;rw[Bhy];omega,Bm8 s _,(Bjy s _ _ _ c.2 b.1 b.2).1,(Bjy s _ _ _ c.2 b.1 b.2).2⟩
def Baa(s:TB):(Rf.fil s).2.1.length<=6/\∀x∈(Rf.fil s).2.1,Rf.MBd x:=by
 unfold Rf.fil
 split
 ·simp
 split
 ·simp
 split
 ·simp
 dsimp only
 split
 ·simp
 split
 ·simp
 split
 ·simp
 have b:=Rf.cnt_bd s (Rf.rep (Rf.cls s) (Rf.cnt s 2 0 6).toNat 3).2 1 6 Ck;have:=Bct Rf.MBd (Rf.mth s) (Bqf s) (Rf.cnt s (Rf.rep (Rf.cls s) (Rf.cnt s 2 0 6).toNat 3).2 1 6).toNat ((Rf.rep (Rf.cls s) (Rf.cnt s 2 0 6).toNat 3).2+1);exact⟨Mc,this.1⟩
def Hv (T:TI)(ms:List Rd.Mth)(k:Nat)(m:Rd.Mth):Bool:=On T ms k m.cl m.name m.result.1 m.result.2 m.locals m.params
def Gt (T:TI)(ms:List Rd.Mth):Nat->List Rd.Mth->Int
 | _,[]=>-1
 | k,m::r=>if Hv T ms k m=false then (k:Int) else Gt T ms (k+1) r
def Mu (T:TI)(nf:Int)(ow:TI)(m:Rd.Mth):Int × Int :=
 if 0<=Cd.badCode T nf ow m.locals m.code then (5,Cd.badCode T nf ow m.locals m.code)
 else if 0<=Cd.firstIx (Cd.hndBad T m.code) 0 m.handlers then (6,Cd.firstIx (Cd.hndBad T m.code) 0 m.handlers)
 else if 0<=Cd.mapsBad T m.code 0 (-1) m.maps then (7,Cd.mapsBad T m.code 0 (-1) m.maps)
 else (0,0)
def Je (T:TI)(nf:Int)(ow:TI):Nat->List Rd.Mth->Int × Int × Int
 | _,[]=>(0,0,0)
 | k,m::r=>if (Mu T nf ow m).1≠0 then ((Mu T nf ow m).1,(k:Int),(Mu T nf ow m).2) else Je T nf ow (k+1) r
def Rg (T:TI)(nf:Int)(ms:List Rd.Mth):Int × Int × Int :=
 if 0<=Gt T ms 0 ms then (4,Gt T ms 0 ms,0) else Je T nf (ms.map Rd.Mth.cl) 0 ms
def Rf.nf(s:TB):Int:=((Rf.fieldsTo (Tr.tree (Rf.fil s).1) (Rf.given++(Rf.fil s).1) (Rf.fil s).1.length).length:Int)
def Rf.formed(s:TB):Int × Int × Int :=
 if (Rf.classed s).1≠0 then ((Rf.classed s).1,(Rf.classed s).2,0) else Rg (Tr.tree (Rf.fil s).1) (Rf.nf s) ((Rf.fil s).2.1.map Rf.Mth.m)
def Yz (s:TB)(w:TW)(e:Ending)(w':TW):Prop :=
 ∃a1 n1 c1 a2 n2 c2,e=.returned (.tuple #[.agg #[.slice a1 n1 c1,.slice a2 n2 c2],.int .i64 (Rf.formed s).1,.int .i64 (Rf.formed s).2.1,.int .i64 (Rf.formed s).2.2]) /\
  ((Rf.formed s).1=0->∃l1 l2,l1.map Prod.fst=Rf.given++(Rf.fil s).1/\Hm w' w.heap.size (.slice a1 n1 c1) l1/\l2.map Prod.fst=(Rf.fil s).2.1/\Ks w' w.heap.size (.slice a2 n2 c2) l2)/\Below w.heap.size w w'
def Xr(s:ByteArray)(w:TW)(hs:s.size<=maxLen):Calls prog 22 #[.string s] w fun e L=>Yz s.data.toList w e L:=by
 have f5:=fun w=>Bcx s w hs;have h3:=fun f a4=>Kk f (Rf.fil s.data.toList).1 a4;have Y:=Ac s.data.toList;have Z:=Baa s.data.toList;unfold Ow at f5;unfold Yz Rf.formed Rf.nf;generalize Rf.classed s.data.toList=C at *;generalize Rf.fil s.data.toList=l at *;have f6:=Bc f5;clear f5;have f7:=Be w (O11 none 0 0 none 0 0);have f8:Bl w (w.alloc (O11 none 0 0 none 0 0)):=QN _;by_cases h0:C.1=0
 ·rw[Pk (fun h=>h h0)];have k3:(C.1 != 0)=false:=by simp[h0]
  have H0:=Bc h0;clear h0;generalize hF:Rg (Tr.tree l.1) ((Rf.fieldsTo (Tr.tree l.1) (Rf.given++l.1) l.1.length).length:Int) (l.2.1.map Rf.Mth.m)=F;have HF:=Bc hF;have h4:=Bc h3;have h8:=Bc Y;have h9:=Bc Z;clear hF h3 Y Z;go_in;go_wp2_with fail;refine(Ba f6 _).mono ?_;rintro e Q ⟨z,n1,B,q,n2,D,rfl,i0,Y⟩;obtain⟨f,b,a4,c3,a8,c4⟩:=i0 (Ba H0);obtain⟨xa,xc,b1⟩:=Bh c3.1;simp only[Value.slice.injEq]at b1;obtain⟨rfl,rfl,rfl⟩:=b1;obtain⟨xa,xc,b1⟩:=Bh c4.1;simp only[Value.slice.injEq]at b1;obtain⟨rfl,rfl,rfl⟩:=b1;obtain⟨f9,_,k4⟩:=Ba h4 f a4;have g0:=Ba h8;have g1:=Ba h9;have k5:b.length<=6:=by
   have:(b.map Prod.fst).length<=6:=by rw[a8];exact g1.1
   simpa using this
  -- the file as the functions take it
  have c5:(RFl.mk z B q D (w.alloc (O11 none 0 0 none 0 0)).heap.size f b).ok Q:=by
   refine⟨by simp only;have:=g0.1;omega,Mc,k5,?_,c3,c4⟩;intro p hp;have k6:p.1∈Rf.given++l.1:=by rw[<- a4];exact Bsc hp
   rcases List.mem_append.1 k6 with h|h
   ·simp[Rf.given]at h;rcases h with h|h | h<;>(rw[h];simp)
   exact g0.2 _ h
  have g2:∀p∈b,Rf.MBd p.1:=fun p hp=>g1.2 _ (by rw[<- a8];exact Bsc hp);have i1:(RFl.mk z B q D (w.alloc (O11 none 0 0 none 0 0)).heap.size f b).fields=Rf.fieldsTo (Tr.tree l.1) (Rf.given++l.1) l.1.length:=by
   simp only[RFl.fields];rw[f9,a4,show f.length-7=l.1.length by omega]
  have b2:(RFl.mk z B q D (w.alloc (O11 none 0 0 none 0 0)).heap.size f b).T=Tr.tree l.1:=f9;have i2:(RFl.mk z B q D (w.alloc (O11 none 0 0 none 0 0)).heap.size f b).owners=(l.2.1.map Rf.Mth.m).map Rd.Mth.cl:=by
   simp only[RFl.owners];rw[<- a8];simp
  have g3:l.2.1.map Rf.Mth.m=b.map fun p=>p.1.m:=by rw[<- a8];simp
  have i3:∀(k:Nat) (L:TW) (hk:k<b.length),Bl Q L->Calls prog 57 #[.agg #[.s z f.length B,.s q b.length D],.i (k:Int)] L fun e K=>e=.r (.bool (Hv (Tr.tree l.1) (b.map fun p=>p.1.m) k b[k].1.m))/\Bl L K:=by
   intro k L hk hb;have:=Bjj (RFl.mk z B q D (w.alloc (O11 none 0 0 none 0 0)).heap.size f b) k L (c5.below hb) hk (fun p hp=>(g2 p hp).ps);rw[b2]at this;exact this
  have i4:∀(k:Nat) (L:TW) (hk:k<b.length),Bl Q L->∃(m:RMV) (g:Nat),q=some ⟨g,0,none⟩/\g<L.heap.size/\(∀j v,m.list[j]?=some v->L.C g (k*12+j) v) /\
    ∀K,Bl L K ->
     (Calls prog 58 #[.agg #[.s z f.length B,.s q b.length D],m.val] K fun e w3=>e=.r (.i (Cd.badCode (Tr.tree l.1) ((Rf.fieldsTo (Tr.tree l.1) (Rf.given++l.1) l.1.length).length:Int) ((b.map fun p=>p.1.m).map Rd.Mth.cl) b[k].1.m.locals b[k].1.m.code))/\Bl K w3) /\
     (Calls prog 59 #[.agg #[.s z f.length B,.s q b.length D],m.val] K fun e w3=>e=.r (.i (Cd.firstIx (Cd.hndBad (Tr.tree l.1) b[k].1.m.code) 0 b[k].1.m.handlers))/\Bl K w3) /\
     (Calls prog 60 #[.agg #[.s z f.length B,.s q b.length D],m.val] K fun e w3=>e=.r (.i (Cd.mapsBad (Tr.tree l.1) b[k].1.m.code 0 (-1) b[k].1.m.maps))/\Bl K w3):=by
   intro k L hk hb;obtain⟨m,g,hg,i5,a9,c6⟩:=RFl.mth (c5.below hb) (k:=k) hk;refine⟨m,g,hg,i5,a9,fun K Z=>?_⟩;have c7:=g2 _ (Brn hk);have b3:=c6.below Z;have i6:=c5.below (QB hb Z);have g4:m.code.size<=100000:=by
    rw[<- He,c6.code];exact c7.code
   have i7:=c6.lo;have c8:=c6.code;simp only at i7 c8;refine⟨?_,?_,?_⟩
   ·have:=Bc0 (RFl.mk z B q D (w.alloc (O11 none 0 0 none 0 0)).heap.size f b) m K i6 g4;rw[b2,i1,i2,i7,c8,g3]at this;exact this
   ·have:=Zn (RFl.mk z B q D (w.alloc (O11 none 0 0 none 0 0)).heap.size f b) m b[k].1.m.handlers K i6 g4 b3.hl c7.hs b3.hs;rw[b2,c8]at this;exact this
   obtain⟨lm,g5,k7⟩:=b3.mp;have i8:m.ml=lm.length:=by rw[b3.ml,<- g5];simp
   have:=Bet (RFl.mk z B q D (w.alloc (O11 none 0 0 none 0 0)).heap.size f b) m lm K g4 i8 (by rw[<- i8,b3.ml];exact c7.mp) (fun p hp=>c7.fr _ (by rw[<- g5];exact Bsc hp)) k7;rw[b2,c8,g5]at this;exact this
  have hF:=Ba HF;rw[g3]at hF;clear c5 g2 i1 b2 i2 g3 f9 k4 h4 h8 h9 g0 g1 i0 f6 HF;generalize ((Rf.fieldsTo (Tr.tree l.1) (Rf.given++l.1) l.1.length).length:Int)=nf at *;generalize Tr.tree l.1=T at *;unfold Rg at hF;generalize k8:(b.map fun p=>p.1.m).map Rd.Mth.cl=ow at *;clear k8;have a0:=f8.trans (Y.mono Hd);have i9:=Bg (stay Y f7) (O11 z f.length B q b.length D);have j0:=Be Q (O11 z f.length B q b.length D);have j1:Bl Q (Q.alloc (O11 z f.length B q b.length D)):=QN _;have a5:=a0.size;generalize j2:Gt T (b.map fun p=>p.1.m) 0 (b.map fun p=>p.1.m)=hr at hF;have a6:Hid (Gt T (b.map fun p=>p.1.m) 0 ((b.map fun p=>p.1.m).drop 0)=hr):=j2;have g6:=Bc hF;have j3:=Bc i3;have k9:=Bc i4;have l0:=Bc c3;have l3:=Bc c4;have l4:=Bc a4;have l5:=Bc a8;clear j2 hF i3 i4 c3 c4 a4 a8 Y f8 f7;go_wp2
  go_loopw [9] (fun v wr=>∃k:Nat,k<=b.length/\v=.i (k:Int)/\Hid (Gt T (b.map fun p=>p.1.m) k ((b.map fun p=>p.1.m).drop k)=hr)/\Bl Q wr/\wr.heap[w.heap.size]?=some (O11 none 0 0 none 0 0)/\wr.heap[Q.heap.size]?=some (O11 z f.length B q b.length D))
   (fun v _=>b.length-(intOf v).toNat)
  case atStart=>exact⟨0,Ck,rfl,a6,j1,i9,j0⟩
  case round=>
   clear a6 j1 i9 j0;obtain⟨k,hk,rfl,a6,I,c,V⟩:=hrel;obtain⟨N,O⟩:=cl2 V;simp at N O;by_cases b4:k<b.length
   ·have hd:(b.map fun p=>p.1.m).drop k=b[k].1.m::(b.map fun p=>p.1.m).drop (k+1):=by
     rw[Brj (by simpa using b4)];simp
    have hq:=Ba a6;rw[hd,Gt]at hq;have hh:=Ba j3 k wr b4 I;generalize Hv T (b.map fun p=>p.1.m) k b[k].1.m=A at *;have HH:=Bc hh;have HQ:=Bc hq;have kb:(k:Int)<(b.length:Int):=Ck;clear hd hq hh a6;go_wp2_with fail;refine Qb (Ba HH) I ?_;intro K Z b5;have b6:=stay Z V;have b0:=stay Z c;clear Z I V c N O;cases A with
    | true =>
     have HG:Hid (Gt T (b.map fun p=>p.1.m) (k+1) ((b.map fun p=>p.1.m).drop (k+1))=hr):=by unfold Hid;rw[<- Ba HQ];simp
     clear HQ;go_wp2;go_roundw
     case rel=>exact⟨k+1,Ck,Mg,HG,b5,b0,b6⟩
     case measure=>simp[intOf];omega
    | false =>
     have j4:hr=(k:Int):=by rw[<- Ba HQ];simp
     have HE:Hid (F=(4,(k:Int),0)):=by unfold Hid;rw[<- Ba g6,j4,Th Ck]
     have c:=b0;have a3:=a0.trans (b5.mono a5);clear HQ j4 b0 b6;obtain⟨G,t⟩:=cl2 c;obtain⟨q0,q1⟩:=fr2 c;have lr:=Sp c;simp at G t;go_wp2_with fail;refine tb (.tuple #[.agg #[.s none 0 0,.s none 0 0],.i 4,.i (k:Int),.i 0]) (by simp[results,Bur,go_sem,G,t]) ?_;rw[Ba HE];exact⟨none,0,0,none,0,0,rfl,fun h=>absurd h Hd,(a3.setCell Hd _).setCell Hd _⟩
   have j5:hr = -1:=by rw[<- Ba a6,Brq Fr];rfl
   have a7:Hid (Je T nf ow 0 ((b.map fun p=>p.1.m).drop 0)=F):=by unfold Hid;rw[<- Ba g6,j5];simp
   have kb:¬(k:Int)<(b.length:Int):=Ck;have b0:=c;have b6:=V;have b5:=I;clear j5 a6 g6 j3 c V I hk;go_wp2
   go_loopw [11] (fun v wr=>∃k:Nat,k<=b.length/\v=.i (k:Int)/\Hid (Je T nf ow k ((b.map fun p=>p.1.m).drop k)=F)/\Bl Q wr/\wr.heap[w.heap.size]?=some (O11 none 0 0 none 0 0)/\wr.heap[Q.heap.size]?=some (O11 z f.length B q b.length D))
    (fun v _=>b.length-(intOf v).toNat)
   case atStart=>exact⟨0,Ck,rfl,a7,b5,b0,b6⟩
   case round=>
    clear a7 b5 b0 b6 N O kb;obtain⟨k,hk,rfl,a7,I,c,V⟩:=hrel;obtain⟨N,O⟩:=cl2 V;simp at N O;have lF:=Sp V;have lR:=Sp c;have c9:=I.size;by_cases b4:k<b.length
    ·obtain⟨m,g,hg,i5,a9,g7⟩:=Ba k9 k wr b4 I;replace a9:=Oe a9;have hd:(b.map fun p=>p.1.m).drop k=b[k].1.m::(b.map fun p=>p.1.m).drop (k+1):=by
      rw[Brj (by simpa using b4)];simp
     have hq:=Ba a7;rw[hd,Je,Mu]at hq;generalize Cd.badCode T nf ow b[k].1.m.locals b[k].1.m.code=bc at *;generalize Cd.firstIx (Cd.hndBad T b[k].1.m.code) 0 b[k].1.m.handlers=bh at *;generalize Cd.mapsBad T b[k].1.m.code 0 (-1) b[k].1.m.maps=J at *;obtain⟨cl,nm,pa,pl,pc,t,r2,lo,st,d0,ha,hl,hc,ma,ml,mc,d1,d2⟩:=m;simp only[RMV.val]at a9 g7;obtain⟨y0,y1,y2,y3,y4,y5,y6,y7,y8,y9,l6,l7⟩:=a9;have kb:(k:Int)<(b.length:Int):=Ck;have g8:=Bc g7;have HQ:=Bc hq;have g9:Bl wr (wr.alloc (O12 cl nm pa pl pc t r2 lo st d0 ha hl hc ma ml mc d1 d2)):=QN _;have j6:=Be wr (O12 cl nm pa pl pc t r2 lo st d0 ha hl hc ma ml mc d1 d2);have j7:=Bg V (O12 cl nm pa pl pc t r2 lo st d0 ha hl hc ma ml mc d1 d2);have j8:=Bg c (O12 cl nm pa pl pc t r2 lo st d0 ha hl hc ma ml mc d1 d2);clear hd hq g7 a7;subst hg;go_wp2_with fail;refine(Ba g8 _ g9).1.mono ?_;rintro e w3 ⟨rfl,b7⟩;have d3:=g9.trans (b7.mono Hd);have d4:=stay b7 j6;have d5:=stay b7 j7;have d6:=stay b7 j8;clear b7 g9 j6 j7 j8 V c N O y0 y1 y2 y3 y4 y5 y6 y7 y8 y9 l6 l7;have j9:=a0.trans ((I.trans (d3.mono c9)).mono a5);by_cases h5:0<=bc
     ·have HE:Hid (F=(5,(k:Int),bc)):=by unfold Hid;rw[<- Ba HQ];simp[h5]
      have c:=d6;have a3:=j9;clear HQ d6 d5 d4;obtain⟨G,t⟩:=cl2 c;obtain⟨q0,q1⟩:=fr2 c;have lr:=Sp c;simp at G t;go_wp2_with fail;refine tb (.tuple #[.agg #[.s none 0 0,.s none 0 0],.i 5,.i (k:Int),.i bc]) (by simp[results,Bur,go_sem,G,t]) ?_;rw[Ba HE];exact⟨none,0,0,none,0,0,rfl,fun h=>absurd h Hd,(a3.setCell Hd _).setCell Hd _⟩
     have d7:Hid ((if (if 0<=bh then ((6:Int),bh) else if 0<=J then (7,J) else (0,0)).1≠0 then ((if 0<=bh then ((6:Int),bh) else if 0<=J then (7,J) else (0,0)).1,(k:Int),(if 0<=bh then ((6:Int),bh) else if 0<=J then (7,J) else (0,0)).2) else Je T nf ow (k+1) ((b.map fun p=>p.1.m).drop (k+1)))=F):=by
      unfold Hid;have:=Ba HQ;rw[Pk h5]at this;exact this
     obtain⟨m0,m1,m2,m3,m4,m5,m6,m7,m8,m9,b8,b9⟩:=El d4;simp at m0 m1 m2 m3 m4 m5 m6 m7 m8 m9 b8 b9;obtain⟨N,O⟩:=cl2 d5;simp at N O;clear HQ;go_wp2_with fail;refine(Ba g8 _ d3).2.1.mono ?_;rintro e w4 ⟨rfl,c0⟩;have d8:=QB d3 c0;have h1:=stay c0 d4;have d9:=stay c0 d5;have f2:=stay c0 d6;clear c0 d3 d4 d5 d6 N O m0 m1 m2 m3 m4 m5 m6 m7 m8 m9 b8 b9 j9;have k0:=a0.trans ((I.trans (d8.mono c9)).mono a5);by_cases h6:0<=bh
     ·have HE:Hid (F=(6,(k:Int),bh)):=by unfold Hid;rw[<- Ba d7];simp[h6]
      have c:=f2;have a3:=k0;clear d7 f2 d9 h1;obtain⟨G,t⟩:=cl2 c;obtain⟨q0,q1⟩:=fr2 c;have lr:=Sp c;simp at G t;go_wp2_with fail;refine tb (.tuple #[.agg #[.s none 0 0,.s none 0 0],.i 6,.i (k:Int),.i bh]) (by simp[results,Bur,go_sem,G,t]) ?_;rw[Ba HE];exact⟨none,0,0,none,0,0,rfl,fun h=>absurd h Hd,(a3.setCell Hd _).setCell Hd _⟩
     have f3:Hid ((if (if 0<=J then ((7:Int),J) else (0,0)).1≠0 then ((if 0<=J then ((7:Int),J) else (0,0)).1,(k:Int),(if 0<=J then ((7:Int),J) else (0,0)).2) else Je T nf ow (k+1) ((b.map fun p=>p.1.m).drop (k+1)))=F):=by
      unfold Hid;have:=Ba d7;rw[Pk h6]at this;exact this
     obtain⟨m0,m1,m2,m3,m4,m5,m6,m7,m8,m9,b8,b9⟩:=El h1;simp at m0 m1 m2 m3 m4 m5 m6 m7 m8 m9 b8 b9;obtain⟨N,O⟩:=cl2 d9;simp at N O;clear d7;go_wp2_with fail;refine(Ba g8 _ d8).2.2.mono ?_;rintro e w5 ⟨rfl,f4⟩;have k1:=QB d8 f4;have k2:=stay f4 d9;have h2:=stay f4 f2;clear f4 d8 h1 d9 f2 N O m0 m1 m2 m3 m4 m5 m6 m7 m8 m9 b8 b9 k0;by_cases h7:0<=J
     ·have HE:Hid (F=(7,(k:Int),J)):=by unfold Hid;rw[<- Ba f3];simp[h7]
      have c:=h2;have a3:=a0.trans ((I.trans (k1.mono c9)).mono a5);clear f3 h2 k2;obtain⟨G,t⟩:=cl2 c;obtain⟨q0,q1⟩:=fr2 c;have lr:=Sp c;simp at G t;go_wp2_with fail;refine tb (.tuple #[.agg #[.s none 0 0,.s none 0 0],.i 7,.i (k:Int),.i J]) (by simp[results,Bur,go_sem,G,t]) ?_;rw[Ba HE];exact⟨none,0,0,none,0,0,rfl,fun h=>absurd h Hd,(a3.setCell Hd _).setCell Hd _⟩
     have HG:Hid (Je T nf ow (k+1) ((b.map fun p=>p.1.m).drop (k+1))=F):=by unfold Hid;rw[<- Ba f3];simp[h7]
     have l8:=I.trans (k1.mono c9);clear f3;go_wp2;go_roundw
     case rel=>exact⟨k+1,Ck,Mg,HG,l8,h2,k2⟩
     case measure=>simp[intOf];omega
    have HE:Hid (F=(0,0,0)):=by unfold Hid;rw[<- Ba a7,Brq Fr];rfl
    have kb:¬(k:Int)<(b.length:Int):=Ck;have a3:=a0.trans (I.mono a5);obtain⟨G,t⟩:=cl2 c;obtain⟨q0,q1⟩:=fr2 c;simp at G t;clear a7;go_wp2_with fail;refine tb (.tuple #[.agg #[.s z f.length B,.s q b.length D],.i 0,.i 0,.i 0]) (by simp[results,Bur,go_sem,G,t]) ?_;rw[Ba HE];refine⟨z,f.length,B,q,b.length,D,rfl,fun _=>⟨f,Ba l4,?_,b,Ba l5,?_⟩,(a3.setCell Hd _).setCell Hd _⟩
    ·exact(((Ba l0).kp (Kp.of_below (e:=none) I) Fm Fm).kp (Kp.set2 c _ _) Fm Fm).mono Hd
    exact(((Ba l3).kp (Kp.of_below (e:=none) I) Fm Fm Fm Fm).kp (Kp.set2 c _ _) Fm Fm Fm Fm).mono Hd
 rw[Th h0];have k3:(C.1 != 0)=true:=by simp[h0]
 have H0:=Bc h0;clear h0;go_in;go_wp2_with fail;refine(Ba f6 _).mono ?_;rintro e Q ⟨z,n1,B,q,n2,D,rfl,_,Y⟩;have a0:=f8.trans (Y.mono Hd);have R1:=Bg (stay Y f7) (O11 z n1 B q n2 D);obtain⟨G,t⟩:=cl2 R1;obtain⟨N,O⟩:=fr2 R1;have lr:=Sp R1;have a5:=a0.size;simp at G t lr;go_wp2_with fail;refine tb (.tuple #[.agg #[.s none 0 0,.s none 0 0],.i C.1,.i C.2,.i 0]) (by simp[results,Bur,go_sem,G,t]) ?_;exact⟨none,0,0,none,0,0,rfl,fun h=>absurd h (Ba H0),((a0.alloc a5 _).setCell Hd _).setCell Hd _⟩
structure Cd.Ins where
 place:Int
 op:Int
 n:Int
def Cd.insAt(c:TI)(p:Nat):Cd.Ins:=⟨(p:Int),c.getD p 0,if Cd.wd (c.getD p 0)=2 then c.getD (p+1) 0 else 0⟩
def Kj (l:List Cd.Ins):List Value:=l.flatMap fun x=>[.int .i64 x.place,.int .i64 x.op,.int .i64 x.n]
def Bfc(l:List Cd.Ins)(x:Cd.Ins):Kj (l++[x])=Kj l++[.i x.place,.i x.op,.i x.n]:=by simp[Kj]
def Jz (w:TW)(b:Nat)(v:TX)(l:List Cd.Ins):Prop:=w.ownsRow b 219 3 v l.length (Kj l)
def Jz.kp{e:Option TypeId}{u:Nat}{l:TX}{c:List Cd.Ins}{w s:TW}(h:Jz w u l c)(f:Kp e u w s)(g:some 219≠e):Jz s u l c:=Dc h f g
def Tryz.infoIns:(prog.info? 219).map (fun i=>(i.zero,i.size,i.bytes))=some (some (.agg #[.i 0,.i 0,.i 0]),3,24):=Lt
def Wu(l:List Cd.Ins)(k:Nat)(h:k<l.length):(Kj l)[k*3]?=some (.i l[k].place)/\(Kj l)[k*3+1]?=some (.i l[k].op)/\(Kj l)[k*3+2]?=some (.i l[k].n)/\k*3+2<(Kj l).length:=by
 induction l generalizing k with
 | nil=>simp at h
 | cons x r ih =>
  have e:Kj (x::r)=.i x.place::.i x.op::.i x.n::Kj r:=by simp[Kj]
  cases k with
  | zero=>rw[e];simp
  | succ j =>
   obtain⟨p,q,z,y⟩:=ih j (by simpa using h);rw[e,show (j+1)*3=j*3+1+1+1 by omega];refine⟨by simpa using p,by simpa using q,by simpa using z,Fr⟩
def Bdz(op:Int)(w:TW):Calls prog 217 #[.i op] w fun e b=>e=.r (.bool (Cd.wd op==2))/\b=w:=by
 unfold Cd.wd;by_cases h:op=0\/op=2\/op=3\/(11<=op/\op<=21)
 ·rw[Th h];have c:op=0\/op=2\/op=3\/op=11\/op=12\/op=13\/op=14\/op=15\/op=16\/op=17\/op=18\/op=19\/op=20\/op=21:=Ck;rcases c with rfl|rfl|rfl|rfl|rfl|rfl|rfl|rfl|rfl|rfl|rfl|rfl|rfl|rfl
  all_goals
   go_in;go_wp2;go_ret;exact⟨rfl,rfl⟩
 rw[Pk h];have f:(op==0)=false:=Fr;have g:(op==2)=false:=Fr;have j:(op==3)=false:=Fr;have l:(op==11)=false:=Fr;have m:(op==12)=false:=Fr;have p:(op==13)=false:=Fr;have q:(op==14)=false:=Fr;have s:(op==15)=false:=Fr;have t:(op==16)=false:=Fr;have v:(op==17)=false:=Fr;have z:(op==18)=false:=Fr;have A:(op==19)=false:=Fr;have B:(op==20)=false:=Fr;have C:(op==21)=false:=Fr;go_in;go_wp2;go_ret;exact⟨rfl,rfl⟩
def W1(p:Nat)(op n:Int)(w:TW)(g:p<=100000):Calls prog 164 #[.agg #[.i (p:Int),.i op,.i n]] w fun e c=>e=.r (.i ((p+Cd.wd op:Nat):Int))/\Bl w c:=by
 have b:=fun w=>Bdz op w;rcases(show Cd.wd op=1\/Cd.wd op=2 by have:=Cd.wd_bd op;omega) with h|h
 all_goals
  rw[h]at b ⊢;have f:=Bc b;go_in;go_wp2_with fail;refine Qm (Ba f _) ?_;rintro j rfl;go_wp2;go_ret;exact⟨Hd,QN _⟩
def Cd.findAt(place:Int):List Cd.Ins->Option Cd.Ins
 | []=>none
 | x::r=>if x.place=place then some x else Cd.findAt place r
def Cd.orZero:Option Cd.Ins->Cd.Ins
 | some x=>x
 | none=>⟨0,0,0⟩
def Bac(l:List Cd.Ins)(a:TA)(G Y:Nat)(b:Int)(w:TW)(hl:l.length<=100000)(Z:Jz w Y (.s a l.length G) l):Calls prog 287 #[.s a l.length G,.i b] w fun e w' => e=.r (.tuple #[.agg #[.i (Cd.orZero (Cd.findAt b l)).place,.i (Cd.orZero (Cd.findAt b l)).op,.i (Cd.orZero (Cd.findAt b l)).n],.bool (Cd.findAt b l).isSome])/\Bl w w':=by
 generalize f:Cd.findAt b l=r;have h:Hid (Cd.findAt b (l.drop 0)=r):=f;clear f;have I:Bl w (w.alloc (O15 0 0 0)):=QN _;have J:=Be w (O15 0 0 0);go_in;go_wp2
 go_loopw [10] (fun v wr=>∃k:Nat,k<=l.length/\v=.i (k:Int)/\Hid (Cd.findAt b (l.drop k)=r)/\Bl w wr/\wr.heap[w.heap.size]?=some (O15 0 0 0))
  (fun v _=>l.length-(intOf v).toNat)
 case atStart=>exact⟨0,Ck,rfl,h,I,J⟩
 case round=>
  clear I J h;obtain⟨k,hk,rfl,h,p,j⟩:=hrel;have a0:=p.size;by_cases K:k<l.length
  ·obtain⟨g,hg,a4,_,D⟩:=Cf (Z.kp (Kp.of_below (e:=none) p) Fm) Ck;obtain⟨L,N,O,t4⟩:=Wu l k K;have u0:=(D (k*3) Ck).trans L;have u1:=(D (k*3+1) Ck).trans N;have u2:=(D (k*3+2) Ck).trans O;have Q:l.drop k=l[k]::l.drop (k+1):=Brj K;have f:=Ba h;rw[Q,Cd.findAt]at f;generalize l[k]=x at *;obtain⟨c,q,t⟩:=x;simp only at u0 u1 u2 f;have kb:(k:Int)<(l.length:Int):=Ck;have CX:=Be wr (O15 c q t);have a1:=Bg j (O15 c q t);have a2:=p.alloc a0 (O15 c q t);have F:=Bc f;clear Q f h D L N O t4;subst hg;by_cases m:c=b
   ·have a3:(c==b)=true:=by simp[m]
    have z:Hid (r=some ⟨c,q,t⟩):=by unfold Hid;rw[<- Ba F,Th m]
    obtain⟨A,B,C⟩:=cl3 j;obtain⟨q0,q1,q2⟩:=fr3 j;have lr:=Sp j;simp at A B C;clear m F;go_wp2_with fail;refine tb (.tuple #[.agg #[.i c,.i q,.i t],.bool true]) (by simp[results,results287,go_sem,A,B,C,lr]) ?_;rw[Ba z];exact⟨rfl,by repeat (first|refine Bry ?_ Hd _|refine Bs4 ?_ (by first|omega|(simp;omega)) _|exact p)⟩
   have a3:(c==b)=false:=by simp[m]
   have z:Hid (Cd.findAt b (l.drop (k+1))=r):=by unfold Hid;rw[<- Ba F,Pk m]
   clear m F;go_wp2;go_roundw
   case rel=>exact⟨k+1,Ck,Mg,z,a2,a1⟩
   case measure=>simp[intOf];omega
  have V:r=none:=by rw[<- Ba h,Brq Ck];rfl
  have z:=Bc V;obtain⟨A,B,C⟩:=cl3 j;obtain⟨q0,q1,q2⟩:=fr3 j;have kb:¬(k:Int)<(l.length:Int):=Ck;simp at A B C;clear V h;go_wp2_with fail;refine tb (.tuple #[.agg #[.i 0,.i 0,.i 0],.bool false]) (by simp[results,results287,go_sem,A,B,C]) ?_;rw[Ba z];exact⟨rfl,((p.setCell Hd _).setCell Hd _).setCell Hd _⟩
def Uo(l:List Cd.Ins)(a:TA)(c f:Nat)(b:Int)(w:TW)(h:l.length<=100000)(j:Jz w f (.s a l.length c) l):Calls prog 255 #[.s a l.length c,.i b] w fun e m=>e=.r (.bool (Cd.findAt b l).isSome)/\Bl w m:=by
 have p:=Bac l a c f b w h j;generalize Cd.findAt b l=r at *;have q:=Bc p;go_in;go_wp2_with fail;refine Qm (Ba q) ?_;intro t g;go_wp2;go_ret;exact⟨rfl,g.alloc g.size _⟩
def Bh5(l:List Cd.Ins)(a:TA)(f g:Nat)(b:Int)(w:TW)(j:l.length<=100000)(m:Jz w g (.s a l.length f) l):Calls prog 304 #[.s a l.length f,.i b] w fun e p=>e=.r (.bool ((Cd.findAt b l).isSome&&((Cd.orZero (Cd.findAt b l)).op==15)))/\Bl w p:=by
 have q:=Bac l a f g b w j m;generalize Cd.findAt b l=r at *;have h:=Bc q;cases r with
 | none =>
  go_in;go_wp2_with fail;refine Qm (Ba h) ?_;intro t c;go_wp2;go_ret;exact⟨rfl,c.alloc c.size _⟩
 | some x =>
  go_in;go_wp2_with fail;refine Qm (Ba h) ?_;intro t c;go_wp2;go_ret;exact⟨rfl,c.alloc c.size _⟩
end Go.Proofs.YtpcgnjolfahacaaGreat
