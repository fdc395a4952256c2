/- the proof's parts -/
import Derived.Test.YtpcgnjolfahacaaGreatPk04
set_option maxRecDepth 100000
set_option maxHeartbeats 40000000
set_option linter.unusedVariables false
set_option linter.unusedSimpArgs false
set_option linter.defProp false
namespace Go.Proofs.YtpcgnjolfahacaaGreat
open Go.RowKit Go.Proofs.Tryz
def Yr(w:TW):Calls prog 166 #[] w fun e b=>e=.r (.agg #[.i 0,.i 0])/\Bl w b:=by
 go_in;go_wp2;refine tb (.agg #[.i 0,.i 0]) (by simp[results,results166,go_sem]) ?_;exact⟨rfl,by repeat (first|refine Bvq ?_ Fr _|refine Bwu ?_ Fr _|exact Vm _ _)⟩
def N3(w:TW)(B k:Nat)(c:BnC)(v:FrV)(b:Ea)(h:Eo w B k c v b):Calls prog 265 #[.q k 0] w fun e Q=>e=.r (.agg #[.i (Bi b).1.1,.i (Bi b).1.2])/\∃V,Eo Q B k c V (Bi b).2/\Bn k w v Q V:=by
 have Y:=h.alloc (O7 0 0);have Z:=(Bn.refl k w v).alloc (O7 0 0);have b5:=h.k_lt;have a0:=h.B_le;have a7:=h.new (Wf _);have RA:=Bf w (O7 0 0);obtain⟨j,l,z,sa,sn,sc⟩:=v;obtain⟨D,f,I⟩:=b;obtain⟨xa,xc,a1⟩:=Bg h.st;simp only[Value.slice.injEq]at a1;obtain⟨rfl,a8,rfl⟩:=a1;subst a8;have A:=h.blk;have c3:=Bb A 3;have c5:=Bb A 5;have f5:=Bj A 5;have f3:=Bj A 3;simp at c3 c5;have C:=h.st;have a9:=h.sl;simp only at C a9;by_cases hz:f.length=0
 ·have e:Bi ⟨D,f,I⟩=((0,0),⟨D,f,true⟩):=by unfold Bi;rw[Sp hz]
  rw[e];have b6:(f.length:Int)=0:=Bd;have a2:=(h.brk).alloc (O7 0 0);have a3:=((Bn.refl k w ⟨j,l,z,sa,f.length,sc⟩).brk).alloc (O7 0 0);have J:=Bf (w.setCell (.a k 5) (.bool true)) (O7 0 0);have a4:(w.setCell (.a k 5) (.bool true)).heap.size=w.heap.size:=by simp[World.setCell]
  rw[a4]at J;clear e C A a4;go_in;go_wp2_with fail;refine Qm (Yr _) ?_;intro w1 F;have b0:=a2.below F;have a5:=a3.trans (Bn.of_below _ F);have K:=stay F J;obtain⟨r0,r1⟩:=cl2 K;obtain⟨q0,q1⟩:=fr2 K;have lr:=Pk K;have b7:=a5.bel.size;simp at r0 r1;clear F Y a2 Z a3 RA J;have a6:FrV.free ⟨j,l,z,sa,f.length,sc⟩ k w.heap.size:=a7;go_wp2;refine tb (.agg #[.i 0,.i 0]) (by simp[results,results265,go_sem,r0,r1]) ?_;exact⟨rfl,_,(b0.setF a6 a0 _).setF a6 a0 _,(a5.setF (Wf _) _).setF (Wf _) _⟩
 obtain⟨m,G⟩:∃m,f.length=m+1:=⟨f.length-1,Bd⟩;have e:Bi ⟨D,f,I⟩=(f.getD m (0,0),⟨D,f.take m,I⟩):=by unfold Bi;rw[Pf hz];simp only[G,Bzr]
 rw[e];obtain⟨g,hg,b8,_,L⟩:=Cf C Bd;obtain⟨t1,t2,t3⟩:=Gc f m Bd;have y0:=(L (m*2) Bd).trans t1;have y1:=(L (m*2+1) Bd).trans t2;have e2:f.getD m (0,0)=f[m]:=by simp[Th,G]
 rw[e2];generalize f[m]=t at *;obtain⟨b1,b2⟩:=t;simp only at y0 y1 ⊢;subst hg;have N:=h.nk.2;have O:=h.ns;simp only[G]at N O;have hS:=h.setS (sa:=some ⟨g,0,none⟩) (sn:=m) (sc:=sc) (Bpj C Bd) Fm N O;have GS:=(Bn.refl k w ⟨j,l,z,some ⟨g,0,none⟩,f.length,sc⟩).setK (i:=3) (v2:=⟨j,l,z,some ⟨g,0,none⟩,m,sc⟩) (.s (.p g) m sc) rfl rfl;obtain⟨-,b3,b4⟩:=(TyR.of_tys C).cap;simp only at b3 b4;have kb:(m:Int)<(f.length:Int):=Bd;have kw:IntKind.i64.wrap ((f.length:Int)-1)=(m:Int):=by rw[Eg _ Bd (by unfold maxLen at *;omega)];omega
 have kc:(m:Int)<=(sc:Int):=Bd;have km:m<=sc:=Bd;clear e e2 Y Z RA L t1 t2 t3 N O G;go_in;go_wp2;refine tb (.agg #[.i b1,.i b2]) (by simp[results,results265,go_sem]) ?_;exact⟨rfl,⟨j,l,z,some ⟨g,0,none⟩,m,sc⟩,(hS.alloc _).alloc _,(GS.alloc _).alloc _⟩
def Pc(w:TW)(B k:Nat)(c:BnC)(v:FrV)(b:Ea)(g l:Int)(h:Eo w B k c v b)(a8:b.st.length<5000):Calls prog 266 #[.q k 0,.agg #[.i g,.i l]] w fun e G=>e=.r (.tuple #[])/\∃I,Eo G B k c I (Es c.hi (g,l) b)/\Bn k w v G I:=by
 have t:=h.alloc (O7 g l);have GA:=(Bn.refl k w v).alloc (O7 g l);have b0:=h.k_lt;have b1:=h.B_le;obtain⟨la,ln,lc,L,sn,N⟩:=v;obtain⟨lo,st,br⟩:=b;obtain⟨xa,xc,a7⟩:=Bg h.st;simp only[Value.slice.injEq]at a7;obtain⟨rfl,a9,rfl⟩:=a7;subst a9;have V:=Bb t.blk 3;have Y:=Bb t.blk 4;have c5:=Bb t.blk 5;have f5:=Bj t.blk 5;have f3:=Bj t.blk 3;have PA:=Bf w (O7 g l);obtain⟨p0,p1⟩:=cl2 PA;simp at V Y c5 p0 p1;obtain⟨Z,hi,a0,a1,a2⟩:=Bv4 Tryz.infoType;simp only at a8;have a3:(w.alloc (O7 g l)).ownsRow B 31 2 (.s L st.length N) st.length (Bu st):=t.st;have a4:=h.nk.2;unfold Es;by_cases hz:c.hi<=(st.length:Int)
 ·rw[Sp hz];go_in;go_wp2
  go_region_held3 (fun G=>G.C k 3 (.s L st.length N)/\G.C k 4 (.i c.hi)) (exact⟨V,Y⟩) (fail)
  go_wp2;refine tb (.tuple #[]) (by simp[results,results266,go_sem]) ?_;exact⟨rfl,_,(h.brk.alloc _).drew,(((Bn.refl k w ⟨la,ln,lc,L,st.length,N⟩).brk).alloc _).drew⟩
 rw[Pf hz];have a5:∀j u,[Value.int .i64 g,.i l][j]?=some u->((w.alloc (O7 g l)).alloc (O7 g l)).drew.drew.cell? ((⟨w.heap.size+1,0,none⟩:Addr).add j)=some u:=by
  intro j u hu;exact Dv (w.alloc (O7 g l)) [.i g,.i l] 31 (w.heap.size+1) Fr j u hu
 have a6:∀D F J,J.ownsRow B 31 2 (.s D (st.length+1) F) (st.length+1) (Bu st++[.i g,.i l])->World.grownBy ((w.alloc (O7 g l)).alloc (O7 g l)).drew.drew J (Value.slice L st.length N).ownBlock ->
   ((Value.slice D (st.length+1) F).ownBlock=(Value.slice L st.length N).ownBlock\/(Value.slice D (st.length+1) F).ownBlock=some ((w.alloc (O7 g l)).alloc (O7 g l)).drew.drew.heap.size)->∃I,Eo (J.setCell (.a k 3) (.s D (st.length+1) F)) B k c I ⟨lo,st++[(g,l)],br⟩/\Bn k w ⟨la,ln,lc,L,st.length,N⟩ (J.setCell (.a k 3) (.s D (st.length+1) F)) I:=by
  intro D F J z A O;have hG:=((t.alloc (O7 g l)).drew.drew).grown (st:=st++[(g,l)]) A (by unfold Dp;rw[Ml,Up];exact z) Fm O;exact⟨_,hG.1,(((GA.alloc (O7 g l)).drew.drew).trans hG.2)⟩
 go_in;go_wp2
 go_region_held3 (fun G=>G.C k 3 (.s L st.length N)/\G.C k 4 (.i c.hi)) (exact⟨V,Y⟩) (fail)
 go_wp2
 -- MOVES
 refine Bvz (S:=fun _=>True) Le trivial (fun m=>?_);refine tq 0 (.q k 0) m ?_;refine tq 1 (.q k 0) m ?_;refine tq 2 (.q k 0) m ?_;refine tq 3 (.q k 3) m ?_;refine Bw7 (rs:=[4,5]) Le Fr ?_;refine Bv3 (o:=⟨_,_,_,_,_,_⟩) rfl (fun K f=>?_) (Bv3 (o:=⟨_,_,_,_,_,_⟩) rfl (fun K f=>?_) Bw2)
 ·go_simp;refine f.out _ _ trivial (fun m=>?_);clear f K
  try simp only[QX]
  refine tr 5 fun K f=>?_;go_simp;refine f.out _ _ trivial (fun m=>?_);clear f K
  try simp only[QX]
  refine tr 6 fun K f=>?_;go_simp;refine f.out _ _ trivial (fun m=>?_);clear f K
  try simp only[QX]
  refine tr 7 fun K f=>?_;refine Kn Hd _ _ _ Hd B 31 Z _ 2 16 Bwq hi a0 a1 a2 rfl Bd _ _ _ Hd ((a3.alloc (O7 g l)).drew.drew) ⟨w.heap.size+1,0,none⟩ 1 1 [.i g,.i l] Hd Hd a5 (by simp[Value.oneCell']) Mc Bd Fm ?_;intro I J z A O;obtain⟨D,F,rfl⟩:=Bg z;have p:=(A.block k Fm (fun e=>a4 e.symm)).trans (Bk t.blk (O7 g l));have Q:=Bb p 3;have f2:=Bj p 3;have l2:=Pk p;simp at Q;refine f.out _ _ trivial (fun m=>?_);clear f K
  try simp only[QX]
  refine tq 8 (.q k 0) m ?_;refine tq 9 (.q k 3) m ?_;refine tr 10 fun K f=>?_;go_simp;refine f.out _ _ trivial (fun m=>?_);clear f K
  try simp only[QX]
  refine Bv9 Le ?_ _;go_wp2;go_end0;exact⟨rfl,a6 _ _ _ z A O⟩
 ·go_simp;refine f.out _ _ trivial (fun m=>?_);clear f K
  try simp only[QX]
  refine Bw7 (rs:=[4,6]) Le Fr ?_;refine Bv3 (o:=⟨_,_,_,_,_,_⟩) rfl (fun K f=>?_) (Bv3 (o:=⟨_,_,_,_,_,_⟩) rfl (fun K f=>?_) Bw2)
  ·go_simp;refine f.out _ _ trivial (fun m=>?_);clear f K
   try simp only[QX]
   refine tr 6 fun K f=>?_;go_simp;refine f.out _ _ trivial (fun m=>?_);clear f K
   try simp only[QX]
   refine tr 7 fun K f=>?_;refine Kn Hd _ _ _ Hd B 31 Z _ 2 16 Bwq hi a0 a1 a2 rfl Bd _ _ _ Hd ((a3.alloc (O7 g l)).drew.drew) ⟨w.heap.size+1,0,none⟩ 1 1 [.i g,.i l] Hd Hd a5 (by simp[Value.oneCell']) Mc Bd Fm ?_;intro I J z A O;obtain⟨D,F,rfl⟩:=Bg z;have p:=(A.block k Fm (fun e=>a4 e.symm)).trans (Bk t.blk (O7 g l));have Q:=Bb p 3;have f2:=Bj p 3;have l2:=Pk p;simp at Q;refine f.out _ _ trivial (fun m=>?_);clear f K
   try simp only[QX]
   refine tq 8 (.q k 0) m ?_;refine tq 9 (.q k 3) m ?_;refine tr 10 fun K f=>?_;go_simp;refine f.out _ _ trivial (fun m=>?_);clear f K
   try simp only[QX]
   refine Bv9 Le ?_ _;go_wp2;go_end0;exact⟨rfl,a6 _ _ _ z A O⟩
  go_simp;refine f.out _ _ trivial (fun m=>?_);clear f K
  try simp only[QX]
  refine tr 4 fun K f=>?_;go_simp;refine f.out _ _ trivial (fun m=>?_);clear f K
  try simp only[QX]
  refine tr 7 fun K f=>?_;refine Kn Hd _ _ _ Hd B 31 Z _ 2 16 Bwq hi a0 a1 a2 rfl Bd _ _ _ Hd ((a3.alloc (O7 g l)).drew.drew) ⟨w.heap.size+1,0,none⟩ 1 1 [.i g,.i l] Hd Hd a5 (by simp[Value.oneCell']) Mc Bd Fm ?_;intro I J z A O;obtain⟨D,F,rfl⟩:=Bg z;have p:=(A.block k Fm (fun e=>a4 e.symm)).trans (Bk t.blk (O7 g l));have Q:=Bb p 3;have f2:=Bj p 3;have l2:=Pk p;simp at Q;refine f.out _ _ trivial (fun m=>?_);clear f K
  try simp only[QX]
  refine tq 8 (.q k 0) m ?_;refine tq 9 (.q k 3) m ?_;refine tr 10 fun K f=>?_;go_simp;refine f.out _ _ trivial (fun m=>?_);clear f K
  try simp only[QX]
  refine Bv9 Le ?_ _;go_wp2;go_end0;exact⟨rfl,a6 _ _ _ z A O⟩
 -- END
def TyF (w:TW)(k:Nat)(v:FrV)(a:TA)(n cp:Nat)(l:TP):Prop:=TyR w (.slice a n cp) l/\∀g o,a=some ⟨g,o,none⟩->v.free k g
def TyF.bn{w b:TW}{k n j:Nat}{v m:FrV}{a:TA}{q:TP}(h:TyF w k v a n j q)(z:Bn k w v b m):TyF b k m a n j q:=by
 obtain⟨i|⟨g,o,c,A,p,s,i,B,C⟩,D⟩:=h
 ·refine⟨.inl i,fun g o e=>?_⟩;have:=i.1;simp only[Value.slice.injEq]at this;rw[this.1]at e;cases e
 simp only[Value.slice.injEq]at p;obtain⟨rfl,rfl,rfl⟩:=p;have F:=D g o rfl;obtain⟨t,G⟩:=z.blk g (Pk s) F;refine⟨.inr ⟨g,o,j,A,rfl,t.trans s,i,B,fun f x I=>?_⟩,fun J K e=>?_⟩
 ·rw[Bvj (a:=⟨g,o+f,none⟩) t];exact C f x I
 simp only[Option.some.injEq,Addr.mk.injEq,Bwb]at e;rw[<- e.1];exact G
def Bby(T:TI)(l:TP):∀(k:Nat) (b:Ea),(Gf T l k b).st.length<=b.st.length
 | 0,b=>Wf _
 | k+1,b=>by
  unfold Gf;refine Bvv (Bby T l k _) ?_;rw[(Bhh _ _ _ _).2.1];unfold Bi
  split<;>simp
def T6(w:TW)(B k:Nat)(c:BnC)(v:FrV)(b:Ea)(a:TA)(n cp:Nat)(l:TP)(h:Eo w B k c v b)(hl:TyF w k v a n cp l)(c1:l.length<=20000):Calls prog 271 #[.q k 0,.s a n cp] w fun e F=>e=.r (.tuple #[])/\∃L,Eo F B k c L (Gu c.T l b)/\Bn k w v F L:=by
 unfold Gu;generalize hR:Gf c.T l l.length b=R;have J:=Bc hR;clear hR;obtain⟨hn,-,-⟩:=hl.1.cap;subst hn;go_in;go_wp2
 go_loopw [4] (fun s wr=>∃(m:Nat) (L:FrV) (b':Ea),m<=l.length/\s=.i ((m:Int)-1)/\Hid (Gf c.T l m b'=R)/\Eo wr B k c L b'/\Bn k w v wr L)
  (fun s _=>(intOf s+1).toNat)
 case atStart=>exact⟨l.length,v,b,Wf _,Lt,J,h,Bn.refl _ _ _⟩
 case round=>
  clear J h;obtain⟨m,v1,V,hm,rfl,J,h,hG⟩:=hrel;cases m with
  | zero =>
   have HE:Hid (V=R):=Ba J;clear J;go_wp2;go_end0;obtain rfl:=Ba HE;exact⟨rfl,v1,h,hG⟩
  | succ m =>
   have D:=Ba J;rw[Gf]at D;have a2:=N3 wr B k c v1 V h;have a3:=hl.bn hG;have c2:=h.k_lt;have c3:=h.sl;have b6:(0:Int)<=((m+1:Nat):Int)-1:=Bd;have a4:((m+1:Nat):Int)-1=(m:Int):=Bd;rw[a4];generalize b7:(Bi V).1=t at *;obtain⟨f,j⟩:=t;generalize b8:(Bi V).2=I at *;have b9:=Bc a2;have a5:=Bc D;clear a2 D J b7 b8 b6 a4;go_wp2_with fail;refine Qm (Ba b9) ?_;rintro z ⟨v2,h2,a0⟩;have a6:=(a3.bn a0);obtain⟨g,o,rfl,a7,a8⟩:=a6.1.at Bd;obtain⟨y0,y1⟩:=a8 m Bd;have hx:l.getD m (0,0)=l[m]:=by simp[Th,show m<l.length by omega]
   have D:=Ba a5;rw[hx]at D;generalize l[m]=x at *;obtain⟨N,O⟩:=x;simp only at y0 y1;have K:=h2.alloc (O7 f j);have a9:=(hG.trans a0).alloc (O7 f j);have Y:=Bf z (O7 f j);have p0:(z.alloc (O7 f j)).C z.heap.size 0 (.i f):=(Bb Y 0).trans rfl;have p1:(z.alloc (O7 f j)).C z.heap.size 1 (.i j):=(Bb Y 1).trans rfl;have Z:=Bb K.blk 0;have k1:=Bb K.blk 1;have lT:=Pk Y;have lK:=K.k_lt;simp at Z k1;have z0:=(Bwg z (O7 f j) ⟨g,o+m*2,none⟩ a7).trans y0;have z1:=(Bwg z (O7 f j) ⟨g,o+m*2+1,none⟩ a7).trans y1;have lg:g<(z.alloc (O7 f j)).heap.size:=Fm;have b0:=Km (ya:=c.ya) (yn:=c.yn) (yc:=c.yc) c.T c.tg c.tc f j N O (z.alloc (O7 f j)).drew K.tl K.drew.tr;have b3:Wo c.T (f,j) (N,O) I=if Tr.fitsB c.T f j N O=true then I else ⟨I.lo,I.st,true⟩:=rfl
   rw[b3]at D;generalize Tr.fitsB c.T f j N O=A at *;have b4:=Bc b0;have kb:(m:Int)<(l.length:Int):=Bd;have c4:(0:Int)<=(m:Int):=Bd;clear a8 hx a3 a5 b0 b3 y0 y1 a6 a0 h2;go_wp2
   go_region_held3 (fun F=>F.C k 0 (.s (.p c.tg) c.T.length c.tc)/\F.C k 1 (.s c.ya c.yn c.yc)/\F.C z.heap.size 0 (.i f)/\F.C z.heap.size 1 (.i j)/\F.C g (o+m*2) (.i N)/\F.C g (o+m*2+1) (.i O))
    (first|exact⟨Z,k1,p0,p1,z0,z1⟩|exact⟨QC G lK Z,QC G lK k1,QC G lT p0,QC G lT p1,QC G lg z0,QC G lg z1⟩)
    (first|(go_at_call 118;refine(Ba b4).mono ?_;rintro e w7 ⟨rfl,G⟩))
   have Q:=K.drew.below G;have b5:=a9.drew.trans (Bn.of_below _ G);have c5:=Bb Q.blk 5;have f5:=Bj Q.blk 5;have c6:=Q.k_lt;simp at c5;clear G Z k1 p0 p1 z0 z1 lK lT lg Y K a9 b4;cases A with
   | true =>
    have a1:Hid (Gf c.T l m I=R):=by unfold Hid;rw[<- D];rfl
    clear D;go_wp2;go_roundw
    case rel=>exact⟨m,v2,I,Bd,Lt,a1,Q,b5⟩
    case measure=>simp[intOf]
   | false =>
    have a1:Hid (Gf c.T l m ⟨I.lo,I.st,true⟩=R):=by unfold Hid;rw[<- D];rfl
    clear D;have h8:=Q.brk;have c0:=b5.brk;go_wp2;go_roundw
    case rel=>exact⟨m,v2,_,Bd,Lt,a1,h8,c0⟩
    case measure=>simp[intOf]
def Bgx(w:TW)(B k:Nat)(c:BnC)(v:FrV)(b:Ea)(a:TA)(n F:Nat)(l:TP)(h:Eo w B k c v b)(G:TyF w k v a n F l)(a4:b.st.length+l.length<=4000):Calls prog 273 #[.q k 0,.s a n F] w fun e I=>e=.r (.tuple #[])/\∃j,Eo I B k c j (Hf c.hi l b)/\Bn k w v I j:=by
 generalize J:Hf c.hi l b=R;have f:Hid (Hf c.hi (l.drop 0) b=R):=J;clear J;obtain⟨Y,-,-⟩:=G.1.cap;subst Y;go_in;go_wp2
 go_loopw [8] (fun s wr=>∃(m:Nat) (j:FrV) (A:Ea),m<=l.length/\s=.i (m:Int)/\A.st.length<=b.st.length+m/\Hid (Hf c.hi (l.drop m) A=R)/\Eo wr B k c j A/\Bn k w v wr j)
  (fun s _=>l.length-(intOf s).toNat)
 case atStart=>exact⟨0,v,b,Bd,rfl,Bd,f,h,Bn.refl _ _ _⟩
 case round=>
  clear f h;obtain⟨m,K,z,hm,rfl,a5,f,h,C⟩:=hrel;by_cases L:m<l.length
  ·have Z:=G.bn C;obtain⟨g,o,rfl,a6,N⟩:=Z.1.at Bd;obtain⟨y0,y1⟩:=N m L;have O:l.drop m=l[m]::l.drop (m+1):=Wr L;have D:=Ba f;rw[O,Hf]at D;generalize l[m]=x at *;obtain⟨p,t⟩:=x;simp only at y0 y1;have h2:=h.alloc (O7 p t);have a0:=C.alloc (O7 p t);have Q:=Pc _ B k c K z p t h2 Bd;have a7:(Es c.hi (p,t) z).st.length<=b.st.length+(m+1):=by unfold Es;split<;>simp<;>omega
   generalize Es c.hi (p,t) z=V at *;have a1:=Bc Q;have a2:Hid (Hf c.hi (l.drop (m+1)) V=R):=D;have kb:(m:Int)<(l.length:Int):=Bd;clear Q D f O N;go_wp2_with fail;refine Qm (Ba a1) ?_;rintro w1 ⟨v2,h3,a3⟩;go_wp2;go_roundw
   case rel=>exact⟨m+1,v2,V,Bd,Lt,Bd,a2,h3,a0.trans a3⟩
   case measure=>simp[intOf];omega
  have HE:Hid (z=R):=by unfold Hid;rw[<- Ba f,Bvi Bd,Hf]
  have kb:¬(m:Int)<(l.length:Int):=Bd;clear f;go_wp2;go_end0;obtain rfl:=Ba HE;exact⟨rfl,K,h,C⟩
def Bqn(w:TW)(B k:Nat)(c:BnC)(v:FrV)(b:Ea)(n:Nat)(h:Eo w B k c v b)(N:b.st.length<5000):Calls prog 263 #[.q k 0,.i (n:Int)] w fun e F=>e=.r (.tuple #[])/\∃G,Eo F B k c G (X8 c.hi (n:Int) b)/\Bn k w v F G:=by
 have j:=fun O Q=>Pc w B k c v b O Q h N;have l:=h.blk;have a4:=h.k_lt;have z:=h.lo;obtain⟨la,ln,lc,sa,sn,sc⟩:=v;obtain⟨f,V,Y⟩:=b;obtain⟨xa,xc,I⟩:=Bg h.lo;simp only[Value.slice.injEq]at I;obtain⟨rfl,Z,rfl⟩:=I;subst Z;have c2:=Bb l 2;have c5:=Bb l 5;have f5:=Bj l 5;simp at c2 c5;unfold X8;simp only;rw[Pf Bd,Bvn];have a5:¬(n:Int)<0:=Bd;have a0:=h.ll;simp only at a0 z;by_cases s:(f.length:Int)<=(n:Int);·rw[Sp s];clear j l z;go_in;go_wp2;refine tb (.tuple #[]) (by simp[results,results263,go_sem]) ?_;exact⟨rfl,_,h.brk,(Bn.refl _ _ _).brk⟩
 rw[Pf s];have J:n<f.length:=Bd;have a6:(n:Int)<(f.length:Int):=Bd;obtain⟨g,hg,a7,_,t⟩:=Cf z Bd;obtain⟨A,C,K⟩:=Gc f n J;have y0:=(t (n*2) Bd).trans A;have y1:=(t (n*2+1) Bd).trans C;have D:f.getD n (0,0)=f[n]:=by simp[Th,J]
 rw[D];generalize f[n]=x at *;obtain⟨p,L⟩:=x;simp only at y0 y1 ⊢;subst hg;by_cases m:p=0
 ·rw[Sp m];have a1:(p==0)=true:=by simp[m]
  clear m j l t A C K D s;go_in;go_wp2;refine tb (.tuple #[]) (by simp[results,results263,go_sem]) ?_;exact⟨rfl,_,h.brk,(Bn.refl _ _ _).brk⟩
 rw[Pf m];have a1:(p==0)=false:=by simp[m]
 have j:=j p L;generalize Es c.hi (p,L) ⟨f,V,Y⟩=b2 at *;have a2:=Bc j;clear m j l t A C K D s;go_in;go_wp2_with fail;refine Qm (Ba a2) ?_;rintro w1 ⟨v2,h3,a3⟩;go_wp2;go_end0;exact⟨rfl,v2,h3,a3⟩
def Eo.setLo{w:TW}{u k:Nat}{c:BnC}{v:FrV}{b:Ea}(h:Eo w u k c v b){g ln lc q:Nat}(z:v.lv=.s (.p g) ln lc)(I:q<b.lo.length)(f l:Int):Eo ((w.setCell (.a g (q*2)) (.i f)).setCell (.a g (q*2+1)) (.i l)) u k c v ⟨b.lo.set q (f,l),b.st,b.br⟩/\Bn k w v ((w.setCell (.a g (q*2)) (.i f)).setCell (.a g (q*2+1)) (.i l)) v:=by
 have t:v.lv.ownBlock=some g:=by rw[z];rfl
 have J:k≠g:=fun e=>h.nk.1 (e▸t);have K:v.sv.ownBlock≠some g:=h.ns g t;have C:u<=g:=(h.lo.lt g t).1;have A:∀j,j≠g->((w.setCell (.a g (q*2)) (.i f)).setCell (.a g (q*2+1)) (.i l)).heap[j]?=w.heap[j]?:=fun j m=>(Dm m).trans (Dm m);have D:=h.lo;rw[z]at D;obtain⟨O,F,-,-,-,-,-,-,L⟩:=Xo D I f l;simp only[Option.some.injEq,Addr.mk.injEq,Bwb]at F;subst F;have N:Below u w ((w.setCell (.a g (q*2)) (.i f)).setCell (.a g (q*2+1)) (.i l)):=((Vm u w).setCell (by simpa using C) _).setCell (by simpa using C) _;refine⟨⟨(A k J).trans h.blk,by rw[z];exact L,Ko h.st (fun j m=>A j (fun e=>K (e▸m))),h.nk,h.ns,h.hB,Ow h.tr h.tB N,h.tB,h.tl,by simpa using h.ll,h.sl⟩,?_⟩;exact⟨((Vm 0 w).setCell Fr _).setCell Fr _,fun j m G=>⟨A j (fun e=>G.2.1 (e▸t)),G⟩⟩
def Eo.setSt{w:TW}{u k:Nat}{c:BnC}{v:FrV}{b:Ea}(h:Eo w u k c v b){g K I q:Nat}(z:v.sv=.s (.p g) K I)(J:q<b.st.length)(f l:Int):Eo ((w.setCell (.a g (q*2)) (.i f)).setCell (.a g (q*2+1)) (.i l)) u k c v ⟨b.lo,b.st.set q (f,l),b.br⟩/\Bn k w v ((w.setCell (.a g (q*2)) (.i f)).setCell (.a g (q*2+1)) (.i l)) v:=by
 have t:v.sv.ownBlock=some g:=by rw[z];rfl
 have L:k≠g:=fun e=>h.nk.2 (e▸t);have N:v.lv.ownBlock≠some g:=fun e=>h.ns g e t;have C:u<=g:=(h.st.lt g t).1;have A:∀j,j≠g->((w.setCell (.a g (q*2)) (.i f)).setCell (.a g (q*2+1)) (.i l)).heap[j]?=w.heap[j]?:=fun j m=>(Dm m).trans (Dm m);have D:=h.st;rw[z]at D;obtain⟨V,F,-,-,-,-,-,-,O⟩:=Xo D J f l;simp only[Option.some.injEq,Addr.mk.injEq,Bwb]at F;subst F;have Q:Below u w ((w.setCell (.a g (q*2)) (.i f)).setCell (.a g (q*2+1)) (.i l)):=((Vm u w).setCell (by simpa using C) _).setCell (by simpa using C) _;refine⟨⟨(A k L).trans h.blk,Ko h.lo (fun j m=>A j (fun e=>N (e▸m))),by rw[z];exact O,h.nk,h.ns,h.hB,Ow h.tr h.tB Q,h.tB,h.tl,h.ll,by simpa using h.sl⟩,?_⟩;exact⟨((Vm 0 w).setCell Fr _).setCell Fr _,fun j m G=>⟨A j (fun e=>G.2.2 (e▸t)),G⟩⟩
def Dp.alloc'{w:TW}{u:Nat}{i:TX}{q:TP}(h:Dp w u i q)(o:Obj):Dp (w.alloc o) u i q:=Ko h (fun j c=>Bvu _ _ _ (h.lt j c).2)
def Bmk(w:TW)(B k:Nat)(c:BnC)(v:FrV)(b:Ea)(n:Nat)(h:Eo w B k c v b)(hn:n<=100000):Calls prog 264 #[.q k 0,.i (n:Int)] w fun e z=>e=.r (.tuple #[])/\∃O,Eo z B k c O (Wn (n:Int) b)/\Bn k w v z O:=by
 have G:=N3 w B k c v b h;have Q:=Bi5 b;unfold Wn;rw[Pf Bd,Bvn];rw[<- Q];generalize Bi b=a2 at *;obtain⟨⟨f,j⟩,t⟩:=a2;simp only at G ⊢;have V:=Bc G;have a5:¬(n:Int)<0:=Bd;clear G Q h;by_cases I:(t.lo.length:Int)<=(n:Int);·rw[Sp I];go_in;go_wp2_with fail;refine Qm (Ba V) ?_;rintro m ⟨J,l,A⟩;obtain⟨la,ln,lc,sa,sn,sc⟩:=J;obtain⟨xa,xc,D⟩:=Bg l.lo;simp only[Value.slice.injEq]at D;obtain⟨rfl,K,rfl⟩:=D;subst K;have Y:=l.alloc (O7 f j);have a3:=A.alloc (O7 f j);have L:=Bb l.blk 2;have N:=Bb l.blk 5;have f5:=Bj l.blk 5;have lk:=l.k_lt;have a4:=l.ll;simp at L N;go_wp2;refine tb (.tuple #[]) (by simp[results,results264,go_sem]) ?_;exact⟨rfl,_,l.brk.alloc _,A.brk.alloc _⟩
 rw[Pf I];have Z:n<t.lo.length:=Bd;have a6:(n:Int)<(t.lo.length:Int):=Bd;clear I;go_in;go_wp2_with fail;refine Qm (Ba V) ?_;rintro m ⟨J,l,A⟩;obtain⟨la,ln,lc,sa,sn,sc⟩:=J;obtain⟨xa,xc,D⟩:=Bg l.lo;simp only[Value.slice.injEq]at D;obtain⟨rfl,K,rfl⟩:=D;subst K;have Y:=l.alloc (O7 f j);have a3:=A.alloc (O7 f j);have L:=Bb l.blk 2;have N:=Bb l.blk 5;have f5:=Bj l.blk 5;have lk:=l.k_lt;have a4:=l.ll;simp at L N;obtain⟨g,hg,a7,_,y0,y1,z0,z1,-⟩:=Xo l.lo Z f j;subst hg;have hS:=l.setLo (g:=g) (ln:=t.lo.length) (lc:=lc) (q:=n) rfl Z f j;have a0:=hS.1.alloc (O7 f j);have a1:((m.setCell (.a g (n*2)) (.i f)).setCell (.a g (n*2+1)) (.i j)).heap.size=m.heap.size:=by simp[World.setCell]
 have F:=Bf ((m.setCell (.a g (n*2)) (.i f)).setCell (.a g (n*2+1)) (.i j)) (O7 f j);rw[a1]at F;have s0:(((m.setCell (.a g (n*2)) (.i f)).setCell (.a g (n*2+1)) (.i j)).alloc (O7 f j)).C m.heap.size 0 (.i f):=(Bb F 0).trans rfl;have s1:(((m.setCell (.a g (n*2)) (.i f)).setCell (.a g (n*2+1)) (.i j)).alloc (O7 f j)).C m.heap.size 1 (.i j):=(Bb F 1).trans rfl;have s2:(((m.setCell (.a g (n*2)) (.i f)).setCell (.a g (n*2+1)) (.i j)).alloc (O7 f j)).C k 2 (.s (.p g) t.lo.length lc):=(Bb a0.blk 2).trans rfl;clear a1 F;have a8:g≠k:=fun e=>l.nk.1 (by rw[e];rfl);have a9:g<m.heap.size:=(l.lo.lt g rfl).2;have TA:=Bf m (O7 f j);have p0:(m.alloc (O7 f j)).C m.heap.size 0 (.i f):=(Bb TA 0).trans rfl;have p1:(m.alloc (O7 f j)).C m.heap.size 1 (.i j):=(Bb TA 1).trans rfl;have d2:(m.alloc (O7 f j)).C k 2 (.s (.p g) t.lo.length lc):=(Bb Y.blk 2).trans rfl;go_wp2
 go_region_held3 (fun z=>z.C k 2 (.s (.p g) t.lo.length lc)/\z.C m.heap.size 0 (.i f)/\z.C m.heap.size 1 (.i j))
  (first|exact⟨d2,p0,p1⟩|exact⟨s2,s0,s1⟩)
  (fail)
 go_wp2;go_end0;exact⟨rfl,_,a0.drew,(((A.trans hS.2).alloc _).drew)⟩
def Ic (a b:Int × Int)(l:TP)(m:Nat):List (Int × Int):=Er a b (l.take m)++l.drop m
def Bd7(a b:Int×Int)(l:TP):Ic a b l 0=l:=by simp[Ic,Er]
def Bgi(a b:Int×Int)(l:TP):Ic a b l l.length=Er a b l:=by simp[Ic]
def Bbf(a b:Int×Int)(l:TP)(m:Nat):(Ic a b l m).length=l.length:=by
 simp only[Ic,Up,Kb,Bxf,List.length_drop];omega
def Bbg(a b:Int×Int)(l:TP)(m:Nat)(c:m<l.length)(h:m<(Ic a b l m).length):(Ic a b l m)[m]=l[m]:=by
 have e:(Er a b (l.take m)).length=m:=by rw[Kb];simp;omega
 simp only[Ic];rw[List.getElem_append_right Bd];simp[e]
def Z4(a b:Int×Int)(l:TP)(m:Nat)(c:m<l.length):Ic a b l (m+1)=(Ic a b l m).set m (if l[m]=a then b else l[m]):=by
 have e:(Er a b (l.take m)).length=m:=by rw[Kb];simp;omega
 simp only[Ic];rw[Bhw a b l m c,Bw1 _ _ Bd,e,Byx,Bwe,Wr c];rfl
def Bd8(a b:Int×Int)(l:TP)(m:Nat)(c:m<l.length)(h:l[m]≠a):Ic a b l (m+1)=Ic a b l m:=by
 rw[Z4 a b l m c,Pf h];have e:m<(Ic a b l m).length:=by rw[Bbf];exact c
 conv=>lhs;arg 3;rw[<- Bbg a b l m c e]
 exact List.set_getElem_self e
def Bct(w:TW)(B k:Nat)(c:BnC)(v:FrV)(b:Ea)(F G f j:Int)(h:Eo w B k c v b):Calls prog 267 #[.q k 0,.agg #[.i F,.i G],.agg #[.i f,.i j]] w fun e N=>e=.r (.tuple #[])/\∃v',Eo N B k c v' (Mt (F,G) (f,j) b)/\Bn k w v N v':=by
 obtain⟨A,D,br⟩:=b;unfold Mt;simp only;obtain⟨la,ln,O,sa,sn,Q⟩:=v;obtain⟨xa,xc,b0⟩:=Bg h.lo;simp only[Value.slice.injEq]at b0;obtain⟨rfl,b2,rfl⟩:=b0;subst b2;obtain⟨xa,xc,b0⟩:=Bg h.st;simp only[Value.slice.injEq]at b0;obtain⟨rfl,b2,rfl⟩:=b0;subst b2;have h0:=(h.alloc (O7 F G)).alloc (O7 f j);have G0:=((Bn.refl k w ⟨la,A.length,O,sa,D.length,Q⟩).alloc (O7 F G)).alloc (O7 f j);have O0:=Cb w (O7 F G) (O7 f j);have N0:=Bv w (O7 F G) (O7 f j);have b5:=h.ll;have b6:=h.sl;have c5:=h.k_lt;have b7:∀g,la=some ⟨g,0,none⟩->g<w.heap.size:=fun g e=>(h.lo.lt g (by subst e;rfl)).2;have b8:∀g,sa=some ⟨g,0,none⟩->g<w.heap.size:=fun g e=>(h.st.lt g (by subst e;rfl)).2;have c2:=Bb h0.blk 2;simp at c2;simp only at b5 b6;go_in;go_wp2
 go_loopw [15] (fun s wr=>∃m:Nat,m<=A.length/\s=.i (m:Int)/\Eo wr B k c ⟨la,A.length,O,sa,D.length,Q⟩ ⟨Ic (F,G) (f,j) A m,D,br⟩/\Bn k w ⟨la,A.length,O,sa,D.length,Q⟩ wr ⟨la,A.length,O,sa,D.length,Q⟩/\wr.heap[w.heap.size]?=some (O7 F G)/\wr.heap[w.heap.size+1]?=some (O7 f j))
  (fun s _=>A.length-(intOf s).toNat)
 case atStart=>exact⟨0,Bd,rfl,by rw[Bd7];exact h0,G0,O0,N0⟩
 case round=>
  clear h0 G0 O0 N0 c2;obtain⟨m,hm,rfl,z,V,J,I⟩:=hrel;have lO:=Pk J;have lN:=Pk I;by_cases Y:m<A.length
  ·have a5:m<(Ic (F,G) (f,j) A m).length:=by rw[Bbf];exact Y
   have Z:=Bbg (F,G) (f,j) A m Y a5;have K:=Z4 (F,G) (f,j) A m Y;have L:=Bd8 (F,G) (f,j) A m Y;obtain⟨g,hg,b9,c0,y0,y1,z0,z1,-⟩:=Xo z.lo a5 f j;subst hg;have c1:=b7 g rfl;rw[Z]at y0 y1;generalize A[m]=x at *;obtain⟨l,t⟩:=x;simp only at y0 y1;have d2:=Bb z.blk 2;have lK:=z.k_lt;obtain⟨o0,o1⟩:=cl2 J;obtain⟨q0,q1⟩:=cl2 I;simp at d2 o0 o1 q0 q1;have kb:(m:Int)<(A.length:Int):=Bd;by_cases a3:l=F
   ·subst a3;by_cases a4:t=G
    ·subst a4;rw[Sp rfl]at K;have hS:=z.setLo (g:=g) (q:=m) rfl a5 f j;rw[<- K]at hS;have b1:=hS.1.alloc (O7 l t);have b3:((wr.setCell (.a g (m*2)) (.i f)).setCell (.a g (m*2+1)) (.i j)).heap.size=wr.heap.size:=by simp[World.setCell]
     have b4:((wr.setCell (.a g (m*2)) (.i f)).setCell (.a g (m*2+1)) (.i j)).heap[w.heap.size]?=_:=((Dm Bd).trans (Dm Bd)).trans J;have a6:((wr.setCell (.a g (m*2)) (.i f)).setCell (.a g (m*2+1)) (.i j)).heap[w.heap.size+1]?=_:=((Dm Bd).trans (Dm Bd)).trans I;have a0:(wr.alloc (O7 l t)).C (w.heap.size+1) 0 (.i f):=(Bb (Bk I (O7 l t)) 0).trans rfl;have a1:(wr.alloc (O7 l t)).C (w.heap.size+1) 1 (.i j):=(Bb (Bk I (O7 l t)) 1).trans rfl;have a2:(wr.alloc (O7 l t)).C k 2 (.s (.p g) A.length O):=(Bb (z.alloc (O7 l t)).blk 2).trans rfl;have s0:(((wr.setCell (.a g (m*2)) (.i f)).setCell (.a g (m*2+1)) (.i j)).alloc (O7 l t)).C (w.heap.size+1) 0 (.i f):=(Bb (Bk a6 (O7 l t)) 0).trans rfl;have s1:(((wr.setCell (.a g (m*2)) (.i f)).setCell (.a g (m*2+1)) (.i j)).alloc (O7 l t)).C (w.heap.size+1) 1 (.i j):=(Bb (Bk a6 (O7 l t)) 1).trans rfl;have s2:(((wr.setCell (.a g (m*2)) (.i f)).setCell (.a g (m*2+1)) (.i j)).alloc (O7 l t)).C k 2 (.s (.p g) A.length O):=(Bb b1.blk 2).trans rfl;clear K L Z b3;go_wp2
     go_region_held3 (fun N=>N.C k 2 (.s (.p g) A.length O)/\N.C (w.heap.size+1) 0 (.i f)/\N.C (w.heap.size+1) 1 (.i j)) (first|exact⟨a2,a0,a1⟩|exact⟨s2,s0,s1⟩) (fail)
     go_wp2;go_roundw
     case rel=>exact⟨m+1,Bd,Lt,b1.drew,(((V.trans hS.2).alloc _).drew),Bk b4 _,Bk a6 _⟩
     case measure=>simp[intOf];omega
    have c3:(t==G)=false:=by simp[a4]
    rw[<- L (by simp;exact a4)]at z;have a7:=z.alloc (O7 l t);have a8:=Bk J (O7 l t);have a9:=Bk I (O7 l t);clear K L Z a4;go_wp2;go_roundw
    case rel=>exact⟨m+1,Bd,Lt,a7,V.alloc _,a8,a9⟩
    case measure=>simp[intOf];omega
   have c4:(l==F)=false:=by simp[a3]
   rw[<- L (by simp;intro e;exact absurd e a3)]at z;have a7:=z.alloc (O7 l t);have a8:=Bk J (O7 l t);have a9:=Bk I (O7 l t);clear K L Z a3;go_wp2;go_roundw
   case rel=>exact⟨m+1,Bd,Lt,a7,V.alloc _,a8,a9⟩
   case measure=>simp[intOf];omega
  obtain rfl:m=A.length:=Bd;rw[Bgi]at z;have kb:¬(A.length:Int)<(A.length:Int):=Bd;have c2:=Bb z.blk 3;simp at c2;have h0:=z;have G0:=V;have O0:=J;have N0:=I;clear z V J I lO lN;go_wp2
  go_loopw [36] (fun s wr=>∃m:Nat,m<=D.length/\s=.i (m:Int)/\Eo wr B k c ⟨la,A.length,O,sa,D.length,Q⟩ ⟨Er (F,G) (f,j) A,Ic (F,G) (f,j) D m,br⟩/\Bn k w ⟨la,A.length,O,sa,D.length,Q⟩ wr ⟨la,A.length,O,sa,D.length,Q⟩/\wr.heap[w.heap.size]?=some (O7 F G)/\wr.heap[w.heap.size+1]?=some (O7 f j))
   (fun s _=>D.length-(intOf s).toNat)
  case atStart=>exact⟨0,Bd,rfl,by rw[Bd7];exact h0,G0,O0,N0⟩
  case round=>
   clear h0 G0 O0 N0 c2;obtain⟨m,hm,rfl,z,V,J,I⟩:=hrel;have lO:=Pk J;have lN:=Pk I;by_cases Y:m<D.length
   ·have a5:m<(Ic (F,G) (f,j) D m).length:=by rw[Bbf];exact Y
    have Z:=Bbg (F,G) (f,j) D m Y a5;have K:=Z4 (F,G) (f,j) D m Y;have L:=Bd8 (F,G) (f,j) D m Y;obtain⟨g,hg,b9,c0,y0,y1,z0,z1,-⟩:=Xo z.st a5 f j;subst hg;have c1:=b8 g rfl;rw[Z]at y0 y1;generalize D[m]=x at *;obtain⟨l,t⟩:=x;simp only at y0 y1;have d2:=Bb z.blk 3;have lK:=z.k_lt;obtain⟨o0,o1⟩:=cl2 J;obtain⟨q0,q1⟩:=cl2 I;simp at d2 o0 o1 q0 q1;have kb:(m:Int)<(D.length:Int):=Bd;by_cases a3:l=F
    ·subst a3;by_cases a4:t=G
     ·subst a4;rw[Sp rfl]at K;have hS:=z.setSt (g:=g) (q:=m) rfl a5 f j;rw[<- K]at hS;have b1:=hS.1.alloc (O7 l t);have b3:((wr.setCell (.a g (m*2)) (.i f)).setCell (.a g (m*2+1)) (.i j)).heap.size=wr.heap.size:=by simp[World.setCell]
      have b4:((wr.setCell (.a g (m*2)) (.i f)).setCell (.a g (m*2+1)) (.i j)).heap[w.heap.size]?=_:=((Dm Bd).trans (Dm Bd)).trans J;have a6:((wr.setCell (.a g (m*2)) (.i f)).setCell (.a g (m*2+1)) (.i j)).heap[w.heap.size+1]?=_:=((Dm Bd).trans (Dm Bd)).trans I;have a0:(wr.alloc (O7 l t)).C (w.heap.size+1) 0 (.i f):=(Bb (Bk I (O7 l t)) 0).trans rfl;have a1:(wr.alloc (O7 l t)).C (w.heap.size+1) 1 (.i j):=(Bb (Bk I (O7 l t)) 1).trans rfl;have a2:(wr.alloc (O7 l t)).C k 3 (.s (.p g) D.length Q):=(Bb (z.alloc (O7 l t)).blk 3).trans rfl;have s0:(((wr.setCell (.a g (m*2)) (.i f)).setCell (.a g (m*2+1)) (.i j)).alloc (O7 l t)).C (w.heap.size+1) 0 (.i f):=(Bb (Bk a6 (O7 l t)) 0).trans rfl;have s1:(((wr.setCell (.a g (m*2)) (.i f)).setCell (.a g (m*2+1)) (.i j)).alloc (O7 l t)).C (w.heap.size+1) 1 (.i j):=(Bb (Bk a6 (O7 l t)) 1).trans rfl;have s2:(((wr.setCell (.a g (m*2)) (.i f)).setCell (.a g (m*2+1)) (.i j)).alloc (O7 l t)).C k 3 (.s (.p g) D.length Q):=(Bb b1.blk 3).trans rfl;clear K L Z b3;go_wp2
      go_region_held3 (fun N=>N.C k 3 (.s (.p g) D.length Q)/\N.C (w.heap.size+1) 0 (.i f)/\N.C (w.heap.size+1) 1 (.i j)) (first|exact⟨a2,a0,a1⟩|exact⟨s2,s0,s1⟩) (fail)
      go_wp2;go_roundw
      case rel=>exact⟨m+1,Bd,Lt,b1.drew,(((V.trans hS.2).alloc _).drew),Bk b4 _,Bk a6 _⟩
      case measure=>simp[intOf];omega
     have c3:(t==G)=false:=by simp[a4]
     rw[<- L (by simp;exact a4)]at z;have a7:=z.alloc (O7 l t);have a8:=Bk J (O7 l t);have a9:=Bk I (O7 l t);clear K L Z a4;go_wp2;go_roundw
     case rel=>exact⟨m+1,Bd,Lt,a7,V.alloc _,a8,a9⟩
     case measure=>simp[intOf];omega
    have c4:(l==F)=false:=by simp[a3]
    rw[<- L (by simp;intro e;exact absurd e a3)]at z;have a7:=z.alloc (O7 l t);have a8:=Bk J (O7 l t);have a9:=Bk I (O7 l t);clear K L Z a3;go_wp2;go_roundw
    case rel=>exact⟨m+1,Bd,Lt,a7,V.alloc _,a8,a9⟩
    case measure=>simp[intOf];omega
   obtain rfl:m=D.length:=Bd;rw[Bgi]at z;have kb:¬(D.length:Int)<(D.length:Int):=Bd;clear lO lN;go_wp2;go_end0;exact⟨rfl,_,z,V⟩
def Blm(w:TW)(B k:Nat)(c:BnC)(v:FrV)(b:Ea)(h:Eo w B k c v b):Calls prog 274 #[.q k 0] w fun e p=>∃u:FrV,e=.r (.tuple #[u.val,.bool (Fo b).isSome])/\(∀y,Fo b=some y->u=v/\y=⟨b.lo,b.st⟩)/\Eo p B k c v b/\Bn k w v p v:=by
 have L:=h.k_lt;have N:=h.B_le;have O:=h.new (Wf _);have z:=Bb h.blk 2;have A:=Bb h.blk 3;have D:=Bb h.blk 5;simp at z A D;obtain⟨Q,V,F⟩:=b;obtain⟨f,g,i,j,l,m⟩:=v;simp only at z A D;have Y:=Bf w (O24 none 0 0 none 0 0);cases F with
 | true =>
  rw[Xx rfl];go_in;go_wp2;refine tb (.tuple #[.agg #[.s none 0 0,.s none 0 0],.bool false]) (by simp[results,results274,go_sem]) ?_;exact⟨⟨none,0,0,none,0,0⟩,rfl,fun y t=>by simp at t,h.alloc _,(Bn.refl _ _ _).alloc _⟩
 | false =>
  rw[Bt6 rfl];have G:(w.alloc (O24 none 0 0 none 0 0)).C k 2 (.s f g i):=(Bb (h.alloc (O24 none 0 0 none 0 0)).blk 2).trans rfl;have I:(w.alloc (O24 none 0 0 none 0 0)).C k 3 (.s j l m):=(Bb (h.alloc (O24 none 0 0 none 0 0)).blk 3).trans rfl;have J:(w.alloc (O24 f g i j l m)).C k 2 (.s f g i):=(Bb (h.alloc (O24 f g i j l m)).blk 2).trans rfl;have K:(w.alloc (O24 f g i j l m)).C k 3 (.s j l m):=(Bb (h.alloc (O24 f g i j l m)).blk 3).trans rfl;go_in;go_wp2
  go_region_held3 (fun p=>p.C k 2 (.s f g i)/\p.C k 3 (.s j l m)) (first|exact⟨G,I⟩|exact⟨J,K⟩) (fail)
  go_wp2;refine tb (.tuple #[.agg #[.s f g i,.s j l m],.bool true]) (by simp[results,results274,go_sem]) ?_;exact⟨⟨f,g,i,j,l,m⟩,rfl,fun y t=>⟨rfl,(Option.some.inj t).symm⟩,(h.alloc _).drew,((Bn.refl _ _ _).alloc _).drew⟩
def Bco(l:TP)(a:TA)(n c:Nat)(w:TW)(p:l.length<=10000)(h:TyR w (.s a n c) l):Calls prog 289 #[.s a n c] w fun e f=>∃b vc,e=.r (.s b l.length vc)/\Dp f w.heap.size (.s b l.length vc) l/\Bl w f:=by
 go_in;go_wp2_with (at_builtin;refine Pv rfl _ _ rfl w.heap.size _ [] l a n c rfl (Bvl _ _ _ _) rfl h Fm (Wf _) ?_)
 intro q t g i;obtain⟨b,vc,rfl⟩:=Bg g;go_wp2;go_ret;exact⟨b,vc,rfl,g,(Vm _ _).grown i (Wf _) (fun j m=>by cases m)⟩
theorem Br1{w:World}{u s:Nat}{l b c e:Option Addr}{j K f h i m p q:Nat}{g z:TypeId}(t:w.heap[u]?=some (.cells #[.slice l j K,.slice b f h] g (0,0)))(v:w.heap[s]?=some (.cells #[.slice c i m,.slice e p q] z (0,0))):w.cell? ⟨u,0,none⟩=some (.slice l j K)/\w.cell? ⟨u,1,none⟩=some (.slice b f h)/\w.cell? ⟨s,0,none⟩=some (.slice c i m)/\w.cell? ⟨s,1,none⟩=some (.slice e p q):=by
 refine⟨?_,?_,?_,?_⟩
 ·rw[Bb t];rfl
 ·rw[Bb t];rfl
 ·rw[Bb v];rfl
 rw[Bb v];rfl
def Ti{u s j n:Nat}{g:TypeId}{i:TX}{e:TV}{w:TW}(h:w.ownsRow u g j i n e)(m:s<=u):w.ownsRow s g j i n e:=by
 obtain⟨l,p|⟨f,q,z,a,c,d,r⟩⟩:=h
 ·exact⟨l,.inl p⟩
 exact⟨l,.inr ⟨f,q,z,a,Bvv m c,d,r⟩⟩
def Bhp(c:BnC)(v:FrV)(x:Be)(w:TW)(D:v.is x w):Calls prog 262 #[.agg #[.s (.p c.tg) c.T.length c.tc,.s c.ya c.yn c.yc],v.val,.i c.hi] w fun e b=>∃u:FrV, e=.r (.agg #[.s (.p c.tg) c.T.length c.tc,.s c.ya c.yn c.yc,.s u.la u.ln u.lc,.s u.sa u.sn u.sc,.i c.hi,.bool false])/\Dp b w.heap.size u.lv x.locals/\Dp b w.heap.size u.sv x.stack/\(∀j,u.lv.ownBlock=some j->u.sv.ownBlock≠some j)/\Bl w b:=by
 have a0:=fun b (h:Bl w b)=>Bco x.locals v.la v.ln v.lc b (by have:=D.hl;omega) (D.lo.below h);have a1:=fun b (h:Bl w b)=>Bco x.stack v.sa v.sn v.sc b (by have:=D.hs;omega) (D.st.below h);obtain⟨m,q,t,z,A,B⟩:=v;simp only[FrV.val]at a0 a1 ⊢;have b2:=Bc a0;have b3:=Bc a1;clear a0 a1 D;have I:=Is w (O2 (.p c.tg) c.T.length c.tc c.ya c.yn c.yc) (O24 m q t z A B) (O23 none 0 0 none 0 0 none 0 0 none 0 0 0 false);obtain⟨J,K,Z0⟩:=W8 w (O2 (.p c.tg) c.T.length c.tc c.ya c.yn c.yc) (O24 m q t z A B) (O23 none 0 0 none 0 0 none 0 0 none 0 0 0 false);have t0:(((w.alloc (O2 (.p c.tg) c.T.length c.tc c.ya c.yn c.yc)).alloc (O24 m q t z A B)).alloc (O23 none 0 0 none 0 0 none 0 0 none 0 0 0 false)).C w.heap.size 0 (.s (.p c.tg) c.T.length c.tc):=(Bb J 0).trans rfl;have t1:(((w.alloc (O2 (.p c.tg) c.T.length c.tc c.ya c.yn c.yc)).alloc (O24 m q t z A B)).alloc (O23 none 0 0 none 0 0 none 0 0 none 0 0 0 false)).C w.heap.size 1 (.s c.ya c.yn c.yc):=(Bb J 1).trans rfl;have x0:(((w.alloc (O2 (.p c.tg) c.T.length c.tc c.ya c.yn c.yc)).alloc (O24 m q t z A B)).alloc (O23 none 0 0 none 0 0 none 0 0 none 0 0 0 false)).C (w.heap.size+1) 0 (.s m q t):=(Bb K 0).trans rfl;have x1:(((w.alloc (O2 (.p c.tg) c.T.length c.tc c.ya c.yn c.yc)).alloc (O24 m q t z A B)).alloc (O23 none 0 0 none 0 0 none 0 0 none 0 0 0 false)).C (w.heap.size+1) 1 (.s z A B):=(Bb K 1).trans rfl;have lT:=Pk J;have lX:=Pk K;go_in;go_wp2
 go_region_held3 (fun b=>b.C w.heap.size 0 (.s (.p c.tg) c.T.length c.tc)/\b.C w.heap.size 1 (.s c.ya c.yn c.yc)/\b.C (w.heap.size+1) 0 (.s m q t)/\b.C (w.heap.size+1) 1 (.s z A B))
  (exact Br1 (by repeat (first|(with_reducible refine(Dm Bd).trans ?_)|(with_reducible refine stay L ?_)|(with_reducible refine stay F ?_)|exact J)) (by repeat (first|(with_reducible refine(Dm Bd).trans ?_)|(with_reducible refine stay L ?_)|(with_reducible refine stay F ?_)|exact K)))
  (first|(go_at_call 289;refine(Ba b2 _ (by first|exact I.drew|exact a2)).mono ?_;rintro e w5 ⟨a3,a4,rfl,a9,L⟩;have a5:Bl w w5:=(fun G=>Below.trans G (L.mono (Below.size G))) (by first|exact I.drew|exact a2);have f:=stay L (by first|exact Z0|exact g);have N:=Bb f 0;have q0:=Bj f 0;have O:=Bb f 1;have q1:=Bj f 1;have Q:=Bb f 2;have q2:=Bj f 2;have V:=Bb f 3;have q3:=Bj f 3;have Y:=Bb f 4;have q4:=Bj f 4;have Z:=Bb f 5;have q5:=Bj f 5;simp at N O Q V Y Z)|(go_at_call 289;refine(Ba b3 _ (by first|exact I.drew|exact a5)).mono ?_;rintro e w6 ⟨a6,a7,rfl,b0,F⟩;have a2:Bl w w6:=(fun G=>Below.trans G (F.mono (Below.size G))) (by first|exact I.drew|exact a5);have g:=stay F (by first|exact Z0|exact f);have N:=Bb g 0;have q0:=Bj g 0;have O:=Bb g 1;have q1:=Bj g 1;have Q:=Bb g 2;have q2:=Bj g 2;have V:=Bb g 3;have q3:=Bj g 3;have Y:=Bb g 4;have q4:=Bj g 4;have Z:=Bb g 5;have q5:=Bj g 5;simp at N O Q V Y Z))
 have a8:∀j,(Value.slice a3 x.locals.length a4).ownBlock=some j->w.heap.size+3<=j/\j<w5.heap.size:=fun j l=>by
  have:=a9.lt j l;simp at this;omega
 have b1:∀j,(Value.slice a6 x.stack.length a7).ownBlock=some j->w5.heap.size<=j:=fun j l=>(b0.lt j l).1;have b4:=a5.size;have lZ:=Pk f;have lr:=Pk g;go_wp2_with fail;refine tb (.agg #[.s (.p c.tg) c.T.length c.tc,.s c.ya c.yn c.yc,.s a3 x.locals.length a4,.s a6 x.stack.length a7,.i c.hi,.bool false]) (by simp[results,results262,go_sem,N,O,Q,V,Y,Z]) ?_;refine⟨⟨a3,x.locals.length,a4,a6,x.stack.length,a7⟩,rfl,?_,?_,fun j l b5=>?_,?_⟩
 ·refine Ko (Ti (Ko a9 (fun j l=>F.block j (a8 j l).2)) Fm) (fun j l=>?_);have:=a8 j l
  repeat (with_reducible refine(Dm Bd).trans ?_)
  rfl
 ·refine Ko (Ti b0 b4) (fun j l=>?_);have:=b1 j l
  repeat (with_reducible refine(Dm Bd).trans ?_)
  rfl
 ·have:=a8 j l;have:=b1 j b5;omega
 repeat (with_reducible refine Bvq ?_ Fm _)
 exact a2
def Vb(w:TW):Calls prog 291 #[] w fun e b=>e=.r (.agg #[.i 1,.i 0])/\Bl w b:=by
 go_in;go_wp2;refine tb (.agg #[.i 1,.i 0]) (by simp[results,results291,go_sem]) ?_;exact⟨rfl,by repeat (first|refine Bvq ?_ Fr _|refine Bwu ?_ Fr _|exact Vm _ _)⟩
def Bmy(w:TW):Calls prog 295 #[] w fun e b=>e=.r (.agg #[.i 2,.i 0])/\Bl w b:=by
 go_in;go_wp2;refine tb (.agg #[.i 2,.i 0]) (by simp[results,results295,go_sem]) ?_;exact⟨rfl,by repeat (first|refine Bvq ?_ Fr _|refine Bwu ?_ Fr _|exact Vm _ _)⟩
def N6(c:Int)(w:TW):Calls prog 165 #[.i c] w fun e b=>e=.r (.agg #[.i 3,.i c])/\Bl w b:=by
 go_in;go_wp2;refine tb (.agg #[.i 3,.i c]) (by simp[results,results165,go_sem]) ?_;exact⟨rfl,by repeat (first|refine Bvq ?_ Fr _|refine Bwu ?_ Fr _|exact Vm _ _)⟩
def Bge(c:Int)(w:TW):Calls prog 268 #[.i c] w fun e b=>e=.r (.agg #[.i 4,.i c])/\Bl w b:=by
 go_in;go_wp2;refine tb (.agg #[.i 4,.i c]) (by simp[results,results268,go_sem]) ?_;exact⟨rfl,by repeat (first|refine Bvq ?_ Fr _|refine Bwu ?_ Fr _|exact Vm _ _)⟩
def Blu (a:TA)(n B:Nat):Prop:=∀g o,a=some ⟨g,o,none⟩->n<=g\/g<B
def Bb7(m:PM)(w:TW):Calls prog 294 #[m.val] w fun e i=>∃a c,e=.r (.s a (Ei (m.r1,m.r2)).length c)/\TyR i (.s a (Ei (m.r1,m.r2)).length c) (Ei (m.r1,m.r2))/\Blu a w.heap.size 0/\Bl w i:=by
 obtain⟨j,l,p,q,t,b,f,v,z,A,cn,B,C,D,F,G,I,J⟩:=m;simp only[PM.val];unfold Ei;by_cases h:b=0;·subst h;simp only[By3];go_in;go_wp2;go_ret;exact⟨none,0,rfl,TyR.nil _,fun g o e=>(by cases e),QN _⟩
 have N:(b==0)=false:=by simp[h]
 simp only[h,Bxk];have K:=Bx w (O18 j l p q t b f v z A cn B C D F G I J) (O7 b f);have L:=TyR.new1 (w.alloc (O18 j l p q t b f v z A cn B C D F G I J)) b f;clear h;go_in;go_wp2;go_ret;exact⟨some ⟨w.heap.size+1,0,none⟩,1,rfl,by simpa using L,fun g o e=>(by simp at e;omega),K⟩
structure Ru(b:PBd)(w:World)(bb:Nat)(lm:List (Rd.Mth × Eh))(fl:List (Value × List (Int × Int))):Prop where
 ml:b.fl2=lm.length
 m6:lm.length<=1000
 ms:Eb w bb (.slice b.fa2 b.fl2 b.fc2) lm
 yl:b.yn=fl.length
 y14:fl.length<=14
 yf:∀p∈fl,p.2.length<=1000
 fs:Np w bb (.slice b.ya b.yn b.yc) fl
 tl:b.T.length<=1000
 tr:Dl w b.tg b.T
 ll:b.L.length<=100000
 ins:Hs w bb (.slice b.la b.L.length b.lc) b.L
def Ru.below{c:PBd}{w b:TW}{u:Nat}{L:List (Rd.Mth×Eh)}{g:List (Value×List (Int×Int))}(h:Ru c w u L g)(f:Bl w b):Ru c b u L g :=
 ⟨h.ml,h.m6,h.ms.kp (Kp.of_below (e:=none) f) Ck Ck Ck Ck Ck,h.yl,h.y14,h.yf,h.fs.below f,h.tl,h.tr.below f,h.ll,h.ins.kp (Kp.of_below (e:=none) f) Ck⟩
theorem Eb.mth2{w:World}{u:Nat}{a:Option Addr}{n j:Nat}{L:List (Rd.Mth×Eh)}(h:Eb w u (.slice a n j) L){k:Nat}(A:k<L.length):∃(m:PM) (g:Nat),a=some ⟨g,0,none⟩/\g<w.heap.size/\(∀e v,m.list[e]?=some v->w.cell? ⟨g,k*10+e,none⟩=some v)/\m.is L[k].1 w u/\(.slice m.pa m.pl m.pc:Value)=L[k].2.params:=by
 obtain⟨B,I⟩:=h;obtain⟨xa,xc,C⟩:=Bg B;simp only[Value.slice.injEq]at C;obtain⟨rfl,rfl,rfl⟩:=C;obtain⟨g,J,K,_,N⟩:=Cf B Bd;obtain⟨i,p,q,s,D,t⟩:=I _ (Bvh A);have F:=fun e z=>Bp7 L k A e z;generalize L[k]=x at *;obtain⟨x,f⟩:=x;obtain⟨up,uc,uh,um⟩:=f;simp only at i p q t F;obtain⟨O,Q,rfl⟩:=Bg i;obtain⟨V,Y,rfl⟩:=Bg p;obtain⟨Z,a0,rfl⟩:=Bg q;obtain⟨ma,mc,rfl⟩:=Bg t.1;have a1:s.length=x.maps.length:=by rw[<- D];simp
 refine⟨⟨x.cl,x.name,O,x.params.length,Q,x.result.1,x.result.2,x.locals,x.stack,V,x.code.length,Y,Z,x.handlers.length,a0,ma,s.length,mc⟩,g,J,K,?_,⟨rfl,rfl,rfl,rfl,rfl,rfl,rfl,i,rfl,p,rfl,q,a1,s,D,t⟩,rfl⟩;intro e v G;have z:e<10:=by
  have:=(List.getElem?_eq_some_iff.1 G).1;simpa[PM.list] using this
 obtain⟨e1,e2⟩:=F e z;rw[N _ e2,e1,<- G];rfl
def Bb6(b:PBd)(j:Nat)(c:List (Rd.Mth×Eh))(fl:List (Value×List (Int×Int)))(n:Nat)(w:TW)(h:Ru b w j c fl)(hn:n<c.length):Calls prog 293 #[b.val,.i (n:Int)] w fun e l=>∃m:PM,e=.returned m.val/\m.is c[n].1 l j/\(.s m.pa m.pl m.pc:TX)=c[n].2.params/\Bl w l:=by
 obtain⟨q,g,p,a1,Et,hq,f⟩:=h.ms.mth2 hn;obtain⟨y0,y1,y2,y3,y4,y5,y6,y7,y8,y9⟩:=Ub Et;have t:=h.ml;have v:=h.yl;obtain⟨a2,a3,a4,a5,a6,a7,tg,tc,ya,yn,yc,cl,nm,pa,pl,pc,r1,r2,lo,st,ca,cn,cc,ha,hl,hc,ma,ml,mc,la,lc,T,L⟩:=b;simp only at t v p;subst t v p;simp only[PBd.val];generalize c[n]=x at *;have kb:(n:Int)<(c.length:Int):=Bd;have a8:¬(n:Int)<0:=Bd;obtain⟨z,A,B,C,D,F,G,I,J,K,N,O,Q,V,Y,Z,qh,qi⟩:=q;simp only at y0 y1 y2 y3 y4 y5 y6 y7 y8 y9 f;have a0:=Bc f;clear Et h f;go_in;go_wp2;refine tb (.agg #[.i z,.i A,.s B C D,.i F,.i G,.i I,.i J,.s K N O,.s Q V Y,.s Z qh qi]) (by simp[results,results293,go_sem]) ?_;exact⟨⟨z,A,B,C,D,F,G,I,J,K,N,O,Q,V,Y,Z,qh,qi⟩,rfl,hq.below (Bx _ _ _),Ba a0,Bx _ _ _⟩
def Ld (L:List Cd.Ins)(c place:Int):Bool:=(Cd.findAt place L).isSome&&((Cd.orZero (Cd.findAt place L)).op==15)&&((Cd.orZero (Cd.findAt place L)).n==c)
def Bkn(b:PBd)(s:Nat)(z:List (Rd.Mth×Eh))(A:List (Value×List (Int×Int)))(j c:Int)(w:TW)(h:Ru b w s z A):Calls prog 290 #[b.val,.i j,.i c] w fun e l=>e=.r (.bool (Ld b.L c j))/\Bl w l:=by
 have p:=fun l (B:Bl w l)=>Bdi b.L b.la b.lc s j l h.ll (h.below B).ins;unfold Ld;generalize Cd.findAt j b.L=r at *;obtain⟨D,F,G,I,J,K,N,O,ya,yn,yc,Q,V,Y,Z,pc,r1,r2,lo,st,ca,cn,cc,ha,hl,hc,ma,ml,mc,la,lc,T,L⟩:=b;simp only[PBd.val]at p ⊢;have m:=Bc p;clear p h;cases r with
 | none =>
  go_in;go_wp2_with fail;refine Qm (Ba m _ (QN _)) ?_;intro t g;have f:=((Vm w.heap.size w).alloc (Wf _) _).trans (g.mono Fr);go_wp2;go_ret;exact⟨rfl,f.alloc f.size _⟩
 | some x =>
  obtain⟨xp,v,xn⟩:=x;simp only[Cd.orZero]at m ⊢;by_cases q:v=15;·subst q;go_in;go_wp2_with fail;refine Qm (Ba m _ (QN _)) ?_;intro t g;have f:=((Vm w.heap.size w).alloc (Wf _) _).trans (g.mono Fr);go_wp2;go_ret;exact⟨Fr,f.alloc f.size _⟩
  have C:(v==15)=false:=by simp[q]
  clear q;rw[C];go_in;go_wp2_with fail;refine Qm (Ba m _ (QN _)) ?_;intro t g;have f:=((Vm w.heap.size w).alloc (Wf _) _).trans (g.mono Fr);go_wp2;go_ret;exact⟨rfl,f.alloc f.size _⟩
def Ij (fs:List (List (Int × Int)))(ms:List Rd.Mth)(res:Int × Int)(op n:Int):List (Int × Int) :=
 if op=7\/op=8\/op=9\/op=10\/op=13 then [(1,0),(1,0)] else if op=12\/op=25 then [(1,0)] else if op=14\/op=19 then [(3,0)]
 else if op=17 then [(3,(Lf fs n).1)] else if op=18 then [(3,(Lf fs n).1),(Lf fs n).2]
 else if op=20 then (ms.getD n.toNat ⟨0,0,[],(0,0),0,0,[],[],[]⟩).params else if op=21 then (3,(ms.getD n.toNat ⟨0,0,[],(0,0),0,0,[],[],[]⟩).cl)::(ms.getD n.toNat ⟨0,0,[],(0,0),0,0,[],[],[]⟩).params
 else if op=22 then Ei res else if op=23 then [(3,1)] else []
def Hj (fs:List (List (Int × Int)))(ms:List Rd.Mth)(op n:Int):List (Int × Int) :=
 if op=0\/op=24\/op=7\/op=8\/op=9\/op=10 then [(1,0)] else if op=1 then [(2,0)] else if op=17 then [(Lf fs n).2]
 else if op=19 then [(3,n)] else if op=20\/op=21 then Ei (ms.getD n.toNat ⟨0,0,[],(0,0),0,0,[],[],[]⟩).result else []
def Bkj(b:PBd)(bb B:Nat)(f:List (Rd.Mth×Eh))(K:List (Value×List (Int×Int)))(pp op:Int)(n:Nat)(w:TW)(h:Ru b w bb f K)(hn:n<=100000)(hB:∀p∈f,∀g,p.2.params.ownBlock=some g->g<B)(a0:∀p∈f,p.1.params.length<=1000) (b6:op=20\/op=21->n<f.length):Calls prog 270 #[b.val,.agg #[.i pp,.i op,.i (n:Int)]] w fun e I=>∃a c,e=.r (.s a (Ij (K.map Prod.snd) (f.map Prod.fst) (b.r1,b.r2) op (n:Int)).length c)/\TyR I (.s a (Ij (K.map Prod.snd) (f.map Prod.fst) (b.r1,b.r2) op (n:Int)).length c) (Ij (K.map Prod.snd) (f.map Prod.fst) (b.r1,b.r2) op (n:Int))/\Blu a w.heap.size B/\Bl w I:=by
 have a4:=fun I (hb:Bl w I)=>Bew (aa:=some ⟨b.tg,0,none⟩) (an:=b.T.length) (ac:=b.tc) K bb b.ya b.yc (n:Int) I (by have:=h.y14;omega) ⟨Bd,Bd⟩ h.yf (by have:=(h.below hb).fs;rw[h.yl]at this;exact this);have a7:=fun (A:n<f.length) I (hb:Bl w I)=>Bb6 b bb f K n I (h.below hb) A;have a8:=fun (m:PM) I=>Bb7 m I;have b7:=h.ml;have b8:=h.yl;have c6:=h.ms;obtain⟨a9,b0,b1,b2,f3,b3,tg,tc,ya,yn,yc,cl,nm,pa,pl,pc,r1,r2,lo,st,ca,cn,cc,ha,A,hc,ma,ml,mc,la,lc,T,L⟩:=b;simp only at b7 b8 c6;subst b7 b8;simp only[PBd.val,PM.val]at a4 a7 a8 ⊢;generalize a5:Ij (K.map Prod.snd) (f.map Prod.fst) (r1,r2) op (n:Int)=R;unfold Ij at a5;have a2:∀A:n<f.length,(f.map Prod.fst).getD ((n:Nat):Int).toNat ⟨0,0,[],(0,0),0,0,[],[],[]⟩=f[n].1:=fun A=>by simp[Th,A]
 generalize Lf (K.map Prod.snd) (n:Int)=FD at *;obtain⟨fo,Y,Z⟩:=FD;simp only at a4 a5;have V:=Bc a5;have b9:=Bc a4;have c0:=Bc a7;have c7:=Bc a8;have c1:=Bc a2;have c8:=Bc hB;have c2:=Bc a0;have c3:=Bc b6;clear a4 a7 a8 a5 h a2 hB a0 b6;have F:=Bx w (O25 a9 b0 b1 b2 f.length b3 (.p tg) T.length tc ya K.length yc cl nm pa pl pc r1 r2 lo st ca cn cc ha A hc ma ml mc la L.length lc) (O15 pp op (n:Int));have U0:=Cb w (O25 a9 b0 b1 b2 f.length b3 (.p tg) T.length tc ya K.length yc cl nm pa pl pc r1 r2 lo st ca cn cc ha A hc ma ml mc la L.length lc) (O15 pp op (n:Int));have I0:=Bv w (O25 a9 b0 b1 b2 f.length b3 (.p tg) T.length tc ya K.length yc cl nm pa pl pc r1 r2 lo st ca cn cc ha A hc ma ml mc la L.length lc) (O15 pp op (n:Int));by_cases l:op=7\/op=8\/op=9\/op=10\/op=13
 ·rcases l with rfl|rfl|rfl|rfl|rfl
  all_goals
   have z:Hid (R=[(1,0),(1,0)]):=by unfold Hid;rw[<- Ba V];simp
   go_in;go_wp2_with fail;refine Qb (Vb _) F ?_;intro v N t;have G:=t.size;go_wp2_with fail;refine Qm (Vb _) ?_;intro J D;have O:=t.trans (D.mono G);have a1:=O.size;have Q:=O.alloc a1 (O22 1 0 1 0);go_wp2;go_ret;rw[Ba z];exact⟨some ⟨J.heap.size,0,none⟩,2,rfl,TyR.new2 J _ _ _ _,fun g o e=>(by simp at e;omega),Q⟩
 have n7:(op==7)=false:=Fm;have n8:(op==8)=false:=Fm;have n9:(op==9)=false:=Fm;have f4:(op==10)=false:=Fm;have f5:(op==13)=false:=Fm;have i7:¬(op=7\/op=8\/op=9\/op=10\/op=13):=l;clear l;by_cases l:op=12\/op=25
 ·rcases l with rfl|rfl
  all_goals
   have z:Hid (R=[(1,0)]):=by unfold Hid;rw[<- Ba V];simp
   go_in;go_wp2_with fail;refine Qb (Vb _) F ?_;intro v N t;have G:=t.size;have Q:=t.alloc G (O7 1 0);go_wp2;go_ret;rw[Ba z];exact⟨some ⟨v.heap.size,0,none⟩,1,rfl,TyR.new1 v _ _,fun g o e=>(by simp at e;omega),Q⟩
 have f6:(op==12)=false:=Fm;have f7:(op==25)=false:=Fm;have c9:¬(op=12\/op=25):=l;clear l;by_cases l:op=14\/op=19
 ·rcases l with rfl|rfl
  all_goals
   have z:Hid (R=[(3,0)]):=by unfold Hid;rw[<- Ba V];simp
   go_in;go_wp2_with fail;refine Qb (N6 0 _) F ?_;intro v N t;have G:=t.size;have Q:=t.alloc G (O7 3 0);go_wp2;go_ret;rw[Ba z];exact⟨some ⟨v.heap.size,0,none⟩,1,rfl,TyR.new1 v _ _,fun g o e=>(by simp at e;omega),Q⟩
 have f8:(op==14)=false:=Fm;have f9:(op==19)=false:=Fm;have d0:¬(op=14\/op=19):=l;clear l;by_cases l:op=17
 ·subst l;have z:Hid (R=[(3,fo)]):=by unfold Hid;rw[<- Ba V];simp
  go_in;go_wp2_with fail;refine Qb (Ba b9 _ F) F ?_;intro v N t;have G:=t.size;go_wp2_with fail;refine Qm (N6 fo _) ?_;intro J D;have O:=(t.alloc G (O7 Y Z)).trans (D.mono Fm);have a1:=O.size;have Q:=O.alloc a1 (O7 3 fo);go_wp2;go_ret;rw[Ba z];exact⟨some ⟨J.heap.size,0,none⟩,1,rfl,TyR.new1 J _ _,fun g o e=>(by simp at e;omega),Q⟩
 have g0:(op==17)=false:=Fm;have d1:¬(op=17):=l;clear l;by_cases l:op=18
 ·subst l;have z:Hid (R=[(3,fo),(Y,Z)]):=by unfold Hid;rw[<- Ba V];simp
  go_in;go_wp2_with fail;refine Qb (Ba b9 _ F) F ?_;intro v N t;have G:=t.size;have TA:=Bf v (O7 Y Z);have p0:(v.alloc (O7 Y Z)).C v.heap.size 0 (.i Y):=(Bb TA 0).trans rfl;have p1:(v.alloc (O7 Y Z)).C v.heap.size 1 (.i Z):=(Bb TA 1).trans rfl;have lT:=Pk TA;go_wp2
  go_region_held3 (fun I=>I.C v.heap.size 0 (.i Y)/\I.C v.heap.size 1 (.i Z)) (first|exact⟨p0,p1⟩|exact⟨QC D lT p0,QC D lT p1⟩|exact⟨QA (QL D lT) (QC D lT p0),QA (QL D lT) (QC D lT p1)⟩) (first|(go_at_call 165;refine(N6 fo _).mono ?_;rintro e J ⟨rfl,D⟩))
  have O:=(t.alloc G (O7 Y Z)).drew.trans (D.mono Fm);have a1:=O.size;have Q:=O.alloc a1 (O22 3 fo Y Z);go_wp2;go_ret;rw[Ba z];exact⟨some ⟨J.heap.size,0,none⟩,2,rfl,TyR.new2 J _ _ _ _,fun g o e=>(by simp at e;omega),Q⟩
 have g1:(op==18)=false:=Fm;have d2:¬(op=18):=l;clear l;by_cases l:op=20
 ·subst l;have A:=Ba c3 Fr;have a2:=Ba c1 A;have d3:=Ba c2 f[n] (Bvh A);have z:Hid (R=f[n].1.params):=by unfold Hid;rw[<- Ba V];rw[a2];simp
  go_in;go_wp2_with fail;refine(Ba c0 A _ F).mono ?_;rintro e v ⟨q,rfl,hq,a6,N⟩;have t:=QB F N;have G:=t.size;have a0:=TyR.of_tys hq.ps;have a3:=hq.pl;have b4:=fun g=>Ba c8 f[n] (Bvh A) g;rw[<- a6]at b4;obtain⟨q1,q2,q3,q4,q5,q6,q7,q8,q9,qa,qb,qc,qd,qe,qf,qg,qh,qi⟩:=q;simp only at a0 b4 a3;subst a3;clear hq a6;have g2:∀w:TW,(Instr.field 133 (.agg #[.i q1,.i q2,.s q3 f[n].1.params.length q5,.i q6,.i q7,.i q8,.i q9,.s qa qb qc,.s qd qe qf,.s qg qh qi]) 2).run prog w=.ok (.s q3 f[n].1.params.length q5) w:=fun _=>Le;go_wp2;go_ret;rw[Ba z];exact⟨q3,q5,rfl,a0,fun g o e=>(by subst e;exact Or.inr (b4 g rfl)),t⟩
 have g3:(op==20)=false:=Fm;have d4:¬(op=20):=l;clear l;by_cases l:op=21
 ·subst l;have A:=Ba c3 Fr;have a2:=Ba c1 A;have d3:=Ba c2 f[n] (Bvh A);have z:Hid (R=(3,f[n].1.cl)::f[n].1.params):=by unfold Hid;rw[<- Ba V];rw[a2];simp
  go_in;go_wp2_with fail;refine(Ba c0 A _ F).mono ?_;rintro e v ⟨q,rfl,hq,a6,N⟩;have t:=QB F N;have G:=t.size;have a0:=TyR.of_tys hq.ps;have a3:=hq.pl;have c4:=hq.cl;obtain⟨q1,q2,q3,q4,q5,q6,q7,q8,q9,qa,qb,qc,qd,qe,qf,qg,qh,qi⟩:=q;simp only at a0 a3 c4;subst a3 c4;have MA:=Bf v (O18 f[n].1.cl q2 q3 f[n].1.params.length q5 q6 q7 q8 q9 qa qb qc qd qe qf qg qh qi);have ma:=Bb MA 0;have mb:=Bb MA 2;have lM:=Pk MA;simp at ma mb;clear hq a6;go_wp2_with fail;refine Qm (N6 _ _) ?_;intro J D;have O:=(t.alloc G (O18 f[n].1.cl q2 q3 f[n].1.params.length q5 q6 q7 q8 q9 qa qb qc qd qe qf qg qh qi)).trans (D.mono Fm);have a1:=O.size;have M2:=stay D MA;have mc:=Bb M2 2;have g4:=Pk M2;simp at mc;have d5:=((a0.below (QN (O18 f[n].1.cl q2 q3 f[n].1.params.length q5 q6 q7 q8 q9 qa qb qc qd qe qf qg qh qi))).below D).below (QN (O7 3 f[n].1.cl));have c5:(J.alloc (O7 3 f[n].1.cl)).ownsRow w.heap.size 31 2 (.s (.p J.heap.size) 1 1) [((3:Int),f[n].1.cl)].length (Bu [((3:Int),f[n].1.cl)]):=⟨rfl,.inr ⟨J.heap.size,1,_,rfl,a1,Bf J _,Fr,Mc,rfl,rfl⟩⟩;go_wp2_with (at_builtin;refine Pv rfl _ _ rfl w.heap.size _ [((3:Int),f[n].1.cl)] f[n].1.params q3 f[n].1.params.length q5 rfl c5 rfl d5 Fm Fm ?_)
  intro v' w3 b5 d6;obtain⟨va,vc,rfl⟩:=Bg b5;have d7:=(O.alloc a1 (O7 3 f[n].1.cl)).grown d6 Fm (fun j hj=>(c5.lt j hj).1);have d8:=fun j hj=>(b5.lt j hj).1;go_wp2;go_ret;rw[Ba z];exact⟨va,vc,Fr,by simpa using Sc b5 Fr,fun g o e=>(by subst e;exact Or.inl (d8 g rfl)),d7⟩
 have g5:(op==21)=false:=Fm;have d9:¬(op=21):=l;clear l;by_cases l:op=22
 ·subst l;have z:Hid (R=Ei (r1,r2)):=by unfold Hid;rw[<- Ba V];simp
  go_in;go_wp2_with fail;refine(Ba c7 ⟨cl,nm,pa,pl,pc,r1,r2,lo,st,ca,cn,cc,ha,A,hc,ma,ml,mc⟩ _).mono ?_;rintro e v ⟨a,c,rfl,ht,f0,N⟩;have t:=QB F N;go_wp2;go_ret;rw[Ba z];exact⟨a,c,rfl,ht,fun g o e=>(by have:=f0 g o e;simp at this;omega),t⟩
 have g6:(op==22)=false:=Fm;have f1:¬(op=22):=l;clear l;by_cases l:op=23
 ·subst l;have z:Hid (R=[(3,1)]):=by unfold Hid;rw[<- Ba V];simp
  go_in;go_wp2_with fail;refine Qb (N6 1 _) F ?_;intro v N t;have G:=t.size;have Q:=t.alloc G (O7 3 1);go_wp2;go_ret;rw[Ba z];exact⟨some ⟨v.heap.size,0,none⟩,1,rfl,TyR.new1 v _ _,fun g o e=>(by simp at e;omega),Q⟩
 have g7:(op==23)=false:=Fm;have f2:¬(op=23):=l;clear l;have z:Hid (R=[]):=by unfold Hid;rw[<- Ba V];simp[i7,c9,d0,d1,d2,d4,d9,f1,f2]
 go_in;go_wp2;go_ret;rw[Ba z];exact⟨none,0,rfl,TyR.nil _,fun g o e=>(by cases e),F⟩
def Bh6(b:PBd)(Z B:Nat)(f:List (Rd.Mth×Eh))(z:List (Value×List (Int×Int)))(Q op:Int)(n:Nat)(w:TW)(h:Ru b w Z f z)(hn:n<=100000)(hB:∀p∈f,∀g,p.2.params.ownBlock=some g->g<B)(a9:∀p∈f,p.1.params.length<=1000) (b0:op=20\/op=21->n<f.length):Calls prog 272 #[b.val,.agg #[.i Q,.i op,.i (n:Int)]] w fun e C=>∃a c,e=.r (.s a (Hj (z.map Prod.snd) (f.map Prod.fst) op (n:Int)).length c)/\TyR C (.s a (Hj (z.map Prod.snd) (f.map Prod.fst) op (n:Int)).length c) (Hj (z.map Prod.snd) (f.map Prod.fst) op (n:Int))/\Blu a w.heap.size B/\Bl w C:=by
 have V:=fun C (hb:Bl w C)=>Bew (aa:=some ⟨b.tg,0,none⟩) (an:=b.T.length) (ac:=b.tc) z Z b.ya b.yc (n:Int) C (by have:=h.y14;omega) ⟨Bd,Bd⟩ h.yf (by have:=(h.below hb).fs;rw[h.yl]at this;exact this);have a0:=fun (t:n<f.length) C (hb:Bl w C)=>Bb6 b Z f z n C (h.below hb) t;have a1:=fun (m:PM) C=>Bb7 m C;have b1:=h.ml;have b2:=h.yl;have b4:=h.ms;obtain⟨a2,a3,a4,a5,d0,a6,tg,tc,ya,yn,yc,cl,nm,pa,pl,pc,r1,r2,lo,st,ca,cn,cc,ha,t,hc,ma,ml,mc,la,lc,T,L⟩:=b;simp only at b1 b2 b4;subst b1 b2;simp only[PBd.val,PM.val]at V a0 a1 ⊢;generalize Y:Hj (z.map Prod.snd) (f.map Prod.fst) op (n:Int)=R;unfold Hj at Y;have J:∀t:n<f.length,(f.map Prod.fst).getD ((n:Nat):Int).toNat ⟨0,0,[],(0,0),0,0,[],[],[]⟩=f[n].1:=fun t=>by simp[Th,t]
 generalize Lf (z.map Prod.snd) (n:Int)=FD at *;obtain⟨fo,K,N⟩:=FD;simp only at V Y;have I:=Bc Y;have b5:=Bc V;have b6:=Bc a0;have b7:=Bc a1;have b8:=Bc J;have d1:=Bc hB;have b9:=Bc a9;have c0:=Bc b0;clear V a0 a1 Y h J hB a9 b0;have F:=Bx w (O25 a2 a3 a4 a5 f.length a6 (.p tg) T.length tc ya z.length yc cl nm pa pl pc r1 r2 lo st ca cn cc ha t hc ma ml mc la L.length lc) (O15 Q op (n:Int));have U0:=Cb w (O25 a2 a3 a4 a5 f.length a6 (.p tg) T.length tc ya z.length yc cl nm pa pl pc r1 r2 lo st ca cn cc ha t hc ma ml mc la L.length lc) (O15 Q op (n:Int));have I0:=Bv w (O25 a2 a3 a4 a5 f.length a6 (.p tg) T.length tc ya z.length yc cl nm pa pl pc r1 r2 lo st ca cn cc ha t hc ma ml mc la L.length lc) (O15 Q op (n:Int));by_cases j:op=0\/op=24\/op=7\/op=8\/op=9\/op=10
 ·rcases j with rfl|rfl|rfl|rfl|rfl|rfl
  all_goals
   have A:Hid (R=[(1,0)]):=by unfold Hid;rw[<- Ba I];simp
   go_in;go_wp2_with fail;refine Qb (Vb _) F ?_;intro v O l;have D:=l.size;have G:=l.alloc D (O7 1 0);go_wp2;go_ret;rw[Ba A];exact⟨some ⟨v.heap.size,0,none⟩,1,rfl,TyR.new1 v _ _,fun g o e=>(by simp at e;omega),G⟩
 have n0:(op==0)=false:=Fm;have d2:(op==24)=false:=Fm;have n7:(op==7)=false:=Fm;have n8:(op==8)=false:=Fm;have n9:(op==9)=false:=Fm;have d3:(op==10)=false:=Fm;have i0:¬(op=0\/op=24\/op=7\/op=8\/op=9\/op=10):=j;clear j;by_cases j:op=1
 ·subst j;have A:Hid (R=[(2,0)]):=by unfold Hid;rw[<- Ba I];simp
  go_in;go_wp2_with fail;refine Qb (Bmy _) F ?_;intro v O l;have D:=l.size;have G:=l.alloc D (O7 2 0);go_wp2;go_ret;rw[Ba A];exact⟨some ⟨v.heap.size,0,none⟩,1,rfl,TyR.new1 v _ _,fun g o e=>(by simp at e;omega),G⟩
 have n1:(op==1)=false:=Fm;have i1:¬(op=1):=j;clear j;by_cases j:op=17
 ·subst j;have A:Hid (R=[(K,N)]):=by unfold Hid;rw[<- Ba I];simp
  go_in;go_wp2_with fail;refine Qb (Ba b5 _ F) F ?_;intro v O l;have D:=l.size;have G:=(l.alloc D (O7 K N)).alloc Fm (O7 K N);go_wp2;go_ret;rw[Ba A];exact⟨some ⟨v.heap.size+1,0,none⟩,1,rfl,by simpa using TyR.new1 (v.alloc (O7 K N)) K N,fun g o e=>(by simp at e;omega),G⟩
 have d4:(op==17)=false:=Fm;have c1:¬(op=17):=j;clear j;by_cases j:op=19
 ·subst j;have A:Hid (R=[(3,(n:Int))]):=by unfold Hid;rw[<- Ba I];simp
  go_in;go_wp2_with fail;refine Qb (N6 (n:Int) _) F ?_;intro v O l;have D:=l.size;have G:=l.alloc D (O7 3 (n:Int));go_wp2;go_ret;rw[Ba A];exact⟨some ⟨v.heap.size,0,none⟩,1,rfl,TyR.new1 v _ _,fun g o e=>(by simp at e;omega),G⟩
 have d5:(op==19)=false:=Fm;have c2:¬(op=19):=j;clear j;by_cases j:op=20\/op=21
 ·rcases j with rfl|rfl
  all_goals
   have t:=Ba c0 Fr;have J:=Ba b8 t;have c3:=Ba b9 f[n] (Bvh t);have A:Hid (R=Ei f[n].1.result):=by unfold Hid;rw[<- Ba I];rw[J];simp
   go_in;go_wp2_with fail;refine(Ba b6 t _ F).mono ?_;rintro e v ⟨q,rfl,hq,c4,O⟩;have l:=QB F O;have D:=l.size;have a7:=hq.r1;have a8:=hq.r2;obtain⟨q1,q2,q3,q4,q5,q6,q7,q8,q9,qa,qb,qc,qd,qe,qf,qg,qh,qi⟩:=q;simp only at a7 a8;have b3:Ei f[n].1.result=Ei (q6,q7):=by rw[a7,a8]
   have c5:=Bc b3;clear hq c4 a7 a8 b3 J c3;go_wp2_with fail;refine(Ba b7 ⟨q1,q2,q3,q4,q5,q6,q7,q8,q9,qa,qb,qc,qd,qe,qf,qg,qh,qi⟩ _).mono ?_;rintro e w2 ⟨a,c,rfl,ht,c6,c7⟩;have c8:=(l.alloc D (O18 q1 q2 q3 q4 q5 q6 q7 q8 q9 qa qb qc qd qe qf qg qh qi)).trans (c7.mono Fm);go_wp2;go_ret;rw[Ba A,Ba c5];exact⟨a,c,rfl,ht,fun g o e=>(by have:=c6 g o e;simp at this;omega),c8⟩
 have d6:(op==20)=false:=Fm;have d7:(op==21)=false:=Fm;have c9:¬(op=20\/op=21):=j;clear j;have A:Hid (R=[]):=by unfold Hid;rw[<- Ba I];simp[i0,i1,c1,c2,c9]
 go_in;go_wp2;go_ret;rw[Ba A];exact⟨none,0,rfl,TyR.nil _,fun g o e=>(by cases e),F⟩
def Bp0(b:PBd)(bb k:Nat)(lm:List (Rd.Mth×Eh))(B:List (Value×List (Int×Int)))(c:BnC)(v:FrV)(q:Ea)(n:Nat)(l w:TW)(D:Ru b l bb lm B)(hw:Bl l w)(h:Eo w l.heap.size k c v q):Calls prog 269 #[b.val,.q k 0,.i (n:Int)] w fun e j=>e=.r (.tuple #[])/\∃v',Eo j l.heap.size k c v' (Au c.T (Dq b.T (B.map Prod.snd) (n:Int)) (Ld b.L (n:Int)) (n:Int) q)/\Bn k w v j v':=by
 have b6:=fun j (hb:Bl l j)=>Wc b.T b.tg b.tc B bb b.ya b.yc (n:Int) j D.y14 D.tl D.yf (D.below hb).tr (by have:=(D.below hb).fs;rw[D.yl]at this;exact this);have a6:=fun c7 j (hb:Bl l j)=>Bkn b bb lm B c7 (n:Int) j (D.below hb);have d3:(Dq b.T (B.map Prod.snd) (n:Int)).length<=14000:=by
  unfold Dq;have:=Oh b.T (B.map Prod.snd) (n:Int) (fun p hp=>by obtain⟨x,hx,rfl⟩:=List.mem_map.1 hp;exact D.yf x hx) (B.map Prod.snd).length;have d8:=D.y14;rw[Bvr]at this ⊢;omega
 have c8:=D.ml;have c9:=D.yl;obtain⟨a7,a8,a9,b0,d9,b1,tg,tc,ya,yn,yc,cl,nm,pa,pl,pc,r1,r2,lo,st,ca,cn,cc,ha,hl,hc,ma,ml,mc,la,lc,T,L⟩:=b;simp only at c8 c9;subst c8 c9;simp only[PBd.val]at b6 a6 d3 ⊢;unfold Au;generalize Dq T (B.map Prod.snd) (n:Int)=A at *;have O:∀c7 j,Bl l j->_:=a6;generalize d4:Ld L (n:Int)=d6 at *;have b7:=Bc b6;have b2:=Bc a6;clear b6 a6 O D d4;have K:=h.alloc (O25 a7 a8 a9 b0 lm.length b1 (.p tg) T.length tc ya B.length yc cl nm pa pl pc r1 r2 lo st ca cn cc ha hl hc ma ml mc la L.length lc);have GA:=(Bn.refl k w v).alloc (O25 a7 a8 a9 b0 lm.length b1 (.p tg) T.length tc ya B.length yc cl nm pa pl pc r1 r2 lo st ca cn cc ha hl hc ma ml mc la L.length lc);have UA:=Bf w (O25 a7 a8 a9 b0 lm.length b1 (.p tg) T.length tc ya B.length yc cl nm pa pl pc r1 r2 lo st ca cn cc ha hl hc ma ml mc la L.length lc);have N:v.free k w.heap.size:=h.new (Wf _);have a4:=hw.alloc (by exact hw.size) (O25 a7 a8 a9 b0 lm.length b1 (.p tg) T.length tc ya B.length yc cl nm pa pl pc r1 r2 lo st ca cn cc ha hl hc ma ml mc la L.length lc);have f0:=h.k_lt;generalize d0:Bi (Gu c.T A q)=d7;have b8:=Bc d0;obtain⟨⟨t1,m⟩,q2⟩:=d7;simp only;clear d0;unfold Tm;by_cases b3:t1=4
 ·subst b3;rw[Pf (show ¬((4:Int),m).1≠4 by simp)];have O:=fun j hb=>Ba b2 m j hb;cases b4:d6 m with
  | false =>
   rw[Sp rfl];rw[b4]at O;have HI:=Bc O;clear O b4 b2;go_in;go_wp2_with fail;refine(Ba b7 _ a4).mono ?_;rintro e Q ⟨V,Y,rfl,F,s⟩;have Z:=K.below s;have G1:=GA.trans (Bn.of_below v s);have G:=stay s UA;have a0:TyF Q k v V A.length Y A:=⟨Sc F rfl,fun g o e=>(by subst e;exact K.new (F.lt g rfl).1)⟩;have l1:=Pk G;clear s F;go_wp2_with fail;refine Qm (T6 Q l.heap.size k c v q V A.length Y A Z a0 Bd) ?_;rintro w2 ⟨v2,h2,t⟩;have I:=t.stay N G;have J:=t.free N l1;have l2:=Pk I;go_wp2_with fail;refine(N3 w2 l.heap.size k c v2 _ h2).mono ?_;rw[Ba b8];rintro e w3 ⟨rfl,v3,f,z⟩;simp only at f;have U3:=z.stay J I;have d1:=z.free J l2;have a1:=(G1.trans t).trans z;have a2:=hw.trans (a1.low h);have b5:=a2.size;have b9:=f.new (Wf _);have c5:=Bb f.blk 5;have f5:=Bj f.blk 5;have d2:=f.k_lt;simp at c5;clear G I N J G1 t z Z h2 K GA UA a4 a0 l1 l2;obtain⟨m0,m1,m2,m3,m4,m5,m6,m7,m8,m9,c0,c1,c2,c3,c4⟩:=Wg U3;simp at m0 m1 m2 m3 m4 m5 m6 m7 m8 m9 c0 c1 c2 c3 c4;have lU:=Pk U3;have c6:=a2.alloc b5 (O7 4 m);go_wp2_with fail;refine Qm (Ba HI _ c6) ?_;intro w4 a3;have h4:=(f.alloc (O7 4 m)).below a3;have G4:=(a1.alloc (O7 4 m)).trans (Bn.of_below _ a3);have d5:=Bb h4.blk 5;have e5:=Bj h4.blk 5;have f1:=h4.k_lt;simp at d5;go_wp2;refine tb (.tuple #[]) (by simp[results,results269,go_sem]) ?_;exact⟨rfl,_,h4.brk,G4.brk⟩
  | true =>
   rw[Pf Fr];rw[b4]at O;have HI:=Bc O;clear O b4 b2;go_in;go_wp2_with fail;refine(Ba b7 _ a4).mono ?_;rintro e Q ⟨V,Y,rfl,F,s⟩;have Z:=K.below s;have G1:=GA.trans (Bn.of_below v s);have G:=stay s UA;have a0:TyF Q k v V A.length Y A:=⟨Sc F rfl,fun g o e=>(by subst e;exact K.new (F.lt g rfl).1)⟩;have l1:=Pk G;clear s F;go_wp2_with fail;refine Qm (T6 Q l.heap.size k c v q V A.length Y A Z a0 Bd) ?_;rintro w2 ⟨v2,h2,t⟩;have I:=t.stay N G;have J:=t.free N l1;have l2:=Pk I;go_wp2_with fail;refine(N3 w2 l.heap.size k c v2 _ h2).mono ?_;rw[Ba b8];rintro e w3 ⟨rfl,v3,f,z⟩;simp only at f;have U3:=z.stay J I;have d1:=z.free J l2;have a1:=(G1.trans t).trans z;have a2:=hw.trans (a1.low h);have b5:=a2.size;have b9:=f.new (Wf _);have c5:=Bb f.blk 5;have f5:=Bj f.blk 5;have d2:=f.k_lt;simp at c5;clear G I N J G1 t z Z h2 K GA UA a4 a0 l1 l2;obtain⟨m0,m1,m2,m3,m4,m5,m6,m7,m8,m9,c0,c1,c2,c3,c4⟩:=Wg U3;simp at m0 m1 m2 m3 m4 m5 m6 m7 m8 m9 c0 c1 c2 c3 c4;have lU:=Pk U3;have c6:=a2.alloc b5 (O7 4 m);have XA:=Bf w3 (O7 4 m);go_wp2_with fail;refine Qm (Ba HI _ c6) ?_;intro w4 a3;have h4:=(f.alloc (O7 4 m)).below a3;have G4:=(a1.alloc (O7 4 m)).trans (Bn.of_below _ a3);have X4:=stay a3 XA;have p0:w4.C w3.heap.size 0 (.i 4):=(Bb X4 0).trans rfl;have p1:w4.C w3.heap.size 1 (.i m):=(Bb X4 1).trans rfl;have lX:=Pk X4;clear a3;go_wp2
   go_region_held3 (fun j=>j.C w3.heap.size 0 (.i 4)/\j.C w3.heap.size 1 (.i m)) (first|exact⟨p0,p1⟩|exact⟨QC a5 lX p0,QC a5 lX p1⟩|exact⟨(Bb X6 0).trans rfl,(Bb X6 1).trans rfl⟩) (first|(go_at_call 165;refine(N6 (n:Int) _).mono ?_;rintro e w5 ⟨rfl,a5⟩)|(go_at_call 267;refine Qm (Bct w5 l.heap.size k c v3 q2 4 m 3 (n:Int) (h4.drew.below a5)) ?_;rintro w6 ⟨v6,h6,G6⟩;have X6:=G6.stay b9 (stay a5 (show w4.drew.heap[w3.heap.size]?=_ from X4))))
   go_wp2;go_end0;exact⟨rfl,v6,h6,(G4.drew.trans (Bn.of_below _ a5)).trans G6⟩
 rw[Sp (show (t1,m).1≠4 from b3)];have f2:(t1 != 4)=true:=by simp[b3]
 clear b3 b2;go_in;go_wp2_with fail;refine(Ba b7 _ a4).mono ?_;rintro e Q ⟨V,Y,rfl,F,s⟩;have Z:=K.below s;have G1:=GA.trans (Bn.of_below v s);have G:=stay s UA;have a0:TyF Q k v V A.length Y A:=⟨Sc F rfl,fun g o e=>(by subst e;exact K.new (F.lt g rfl).1)⟩;have l1:=Pk G;clear s F;go_wp2_with fail;refine Qm (T6 Q l.heap.size k c v q V A.length Y A Z a0 Bd) ?_;rintro w2 ⟨v2,h2,t⟩;have I:=t.stay N G;have J:=t.free N l1;have l2:=Pk I;go_wp2_with fail;refine(N3 w2 l.heap.size k c v2 _ h2).mono ?_;rw[Ba b8];rintro e w3 ⟨rfl,v3,f,z⟩;simp only at f;have U3:=z.stay J I;have d1:=z.free J l2;have a1:=(G1.trans t).trans z;have a2:=hw.trans (a1.low h);have b5:=a2.size;have b9:=f.new (Wf _);have c5:=Bb f.blk 5;have f5:=Bj f.blk 5;have d2:=f.k_lt;simp at c5;clear G I N J G1 t z Z h2 K GA UA a4 a0 l1 l2;go_wp2;refine tb (.tuple #[]) (by simp[results,results269,go_sem]) ?_;exact⟨rfl,_,f.brk.alloc _,a1.brk.alloc _⟩
def Bki(c:List (List (Int×Int)))(b:List Rd.Mth)(e:∀m∈b,m.params.length<=1000)(f:Int×Int)(op n:Int):(Ij c b f op n).length<=1001:=by
 have g:(b.getD n.toNat ⟨0,0,[],(0,0),0,0,[],[],[]⟩).params.length<=1000:=by
  rw[Th];rcases h:b[n.toNat]? with _|x
  ·simp
  simp;exact e x (Bwv h)
 unfold Ij Ei
 repeat' split
 all_goals first|(simp;done)|(simp only[Bvo];omega)|omega
def Eo.frame{w:TW}{u k:Nat}{c:BnC}{v:FrV}{b:Ea}(h:Eo w u k c v b):v.is ⟨b.lo,b.st⟩ w:=⟨TyR.of_tys h.lo,TyR.of_tys h.st,by have:=h.ll;simp only;omega,h.sl⟩
def Bba(b:Ea):(Bi b).2.st.length<=b.st.length:=by unfold Bi;split<;>simp
def Bej(c:Int)(t:Int×Int)(b:Ea):(Es c t b).st.length<=b.st.length+1:=by unfold Es;split<;>simp
def Bh5(b:List (List (Int×Int)))(c:List Rd.Mth)(op n:Int):(Hj b c op n).length<=1:=by
 unfold Hj Ei
 repeat' split
 all_goals simp
def Bh7(b:PBd)(bb:Nat)(G:List (Rd.Mth×Eh))(A:List (Value×List (Int×Int)))(pp op:Int)(n:Nat)(v:FrV)(x:Be)(w:TW)(hR:Ru b w bb G A)(hx:v.is x w)(hn:n<=100000)(g2:x.locals.length<=1000)(g3:x.stack.length<=1000) (b4:∀p∈G,p.1.params.length<=1000)(c5:op=20\/op=21->n<G.length):Calls prog 221 #[b.val,.agg #[.i pp,.i op,.i (n:Int)],v.val] w fun e Z=>∃u:FrV, e=.r (.tuple #[u.val,.bool (Nv b.T b.st (Ij (A.map Prod.snd) (G.map Prod.fst) (b.r1,b.r2) op (n:Int)) (Hj (A.map Prod.snd) (G.map Prod.fst) op (n:Int)) (Dq b.T (A.map Prod.snd) (n:Int)) (Ld b.L (n:Int)) pp op (n:Int) x).isSome])/\(∀y,Nv b.T b.st (Ij (A.map Prod.snd) (G.map Prod.fst) (b.r1,b.r2) op (n:Int)) (Hj (A.map Prod.snd) (G.map Prod.fst) op (n:Int)) (Dq b.T (A.map Prod.snd) (n:Int)) (Ld b.L (n:Int)) pp op (n:Int) x=some y->u.is y Z)/\Bl w Z:=by
 have c6:∀p∈G,∀g,p.2.params.ownBlock=some g->g<w.heap.size:=fun p hp g hg=>((hR.ms.2 p hp).1.lt g hg).2;have c7:=fun Z (hb:Bl w Z)=>Bkj b bb w.heap.size G A pp op n Z (hR.below hb) hn c6 b4 c5;have c8:=fun Z (hb:Bl w Z)=>Bh6 b bb w.heap.size G A pp op n Z (hR.below hb) hn c6 b4 c5;have c9:=fun k c v q Z (hb:Bl w Z) hq=>Bp0 b bb k G A c v q n w Z hR hb hq;have a8:=fun c Z (h:Bl w Z)=>Bhp c v x Z (hx.below h);have f0:=hR.ml;have f1:=hR.yl;have d0:=hR.tr;have f2:=hR.tl;generalize b5:Nv b.T b.st (Ij (A.map Prod.snd) (G.map Prod.fst) (b.r1,b.r2) op (n:Int)) (Hj (A.map Prod.snd) (G.map Prod.fst) op (n:Int)) (Dq b.T (A.map Prod.snd) (n:Int)) (Ld b.L (n:Int)) pp op (n:Int) x=PB;unfold Nv Zd at b5;have j3:(Ij (A.map Prod.snd) (G.map Prod.fst) (b.r1,b.r2) op (n:Int)).length<=1001:=Bki _ _ (fun m hm=>by obtain⟨p,hp,rfl⟩:=List.mem_map.1 hm;exact b4 p hp) _ _ _;have j4:(Hj (A.map Prod.snd) (G.map Prod.fst) op (n:Int)).length<=1:=Bh5 _ _ _ _;generalize Ij (A.map Prod.snd) (G.map Prod.fst) (b.r1,b.r2) op (n:Int)=tk at *;generalize Hj (A.map Prod.snd) (G.map Prod.fst) op (n:Int)=lv at *;generalize Dq b.T (A.map Prod.snd) (n:Int)=g4 at *;generalize Ld b.L (n:Int)=g5 at *;obtain⟨f3,f4,f5,f6,j5,f7,tg,tc,ya,yn,yc,cl,nm,pa,pl,pc,r1,r2,lo,F,ca,cn,cc,ha,hl,hc,ma,ml,mc,la,lc,T,L⟩:=b;obtain⟨xa,xn,xc,za,zn,zc⟩:=v;simp only at f0 f1 d0 f2 b5;subst f0 f1;simp only[PBd.val,FrV.val]at c7 c8 c9 a8 ⊢;have a8:=fun Z h=>a8 ⟨tg,tc,ya,A.length,yc,F,T⟩ Z h;simp only at a8;have g6:=Bc c7;have g7:=Bc c8;have g8:=Bc c9;have g9:=Bc a8;have a5:=Bc b5;clear c7 c8 c9 a8 c6 hR hx b4 c5 b5;have d1:=Mq w (O25 f3 f4 f5 f6 G.length f7 (.p tg) T.length tc ya A.length yc cl nm pa pl pc r1 r2 lo F ca cn cc ha hl hc ma ml mc la L.length lc) (O15 pp op (n:Int)) (O24 xa xn xc za zn zc) (O24 none 0 0 none 0 0);obtain⟨J,I0,X0,R0⟩:=J2 w (O25 f3 f4 f5 f6 G.length f7 (.p tg) T.length tc ya A.length yc cl nm pa pl pc r1 r2 lo F ca cn cc ha hl hc ma ml mc la L.length lc) (O15 pp op (n:Int)) (O24 xa xn xc za zn zc) (O24 none 0 0 none 0 0);have d2:=d1.size;go_in;go_wp2_with fail;refine(Ba g9 _ d1).mono ?_;rintro e w1 ⟨v1,rfl,d3,d4,f8,D⟩;obtain⟨K,N,vc,O,Q,V⟩:=v1;have d5:=d1.trans (D.mono d2);have f9:=d5.size;have lR:=Pk (stay D R0);have d6:∀j,(Value.slice K N vc).ownBlock=some j->w.heap.size+4<=j/\j<w1.heap.size:=fun j hj=>by have:=d3.lt j hj;simp at this;omega
 have d7:∀j,(Value.slice O Q V).ownBlock=some j->w.heap.size+4<=j/\j<w1.heap.size:=fun j hj=>by have:=d4.lt j hj;simp at this;omega
 have hA:Eo (w1.alloc (O23 (.p tg) T.length tc ya A.length yc K N vc O Q V F false)) w.heap.size w1.heap.size ⟨tg,tc,ya,A.length,yc,F,T⟩ ⟨K,N,vc,O,Q,V⟩ ⟨x.locals,x.stack,false⟩:=⟨Bf w1 _,Ti (Dp.alloc' d3 _) d2,Ti (Dp.alloc' d4 _) d2,⟨fun e=>by have:=(d6 _ e).2;omega,fun e=>by have:=(d7 _ e).2;omega⟩,f8,f9,(d0.below d5).below (QN _),d0.1,f2,g2,Ls⟩;have b6:=d5.alloc f9 (O23 (.p tg) T.length tc ya A.length yc K N vc O Q V F false);have fr:∀j,j<w.heap.size+4->FrV.free ⟨K,N,vc,O,Q,V⟩ w1.heap.size j:=fun j hj=>⟨Bd,fun e=>by have:=(d6 _ e).1;omega,fun e=>by have:=(d7 _ e).1;omega⟩;have t:=fr w.heap.size Bd;have z:=fr (w.heap.size+1) Bd;have l:=fr (w.heap.size+1+1+1) Bd;have U1:=Bk (stay D J) (O23 (.p tg) T.length tc ya A.length yc K N vc O Q V F false);have I1:=Bk (stay D I0) (O23 (.p tg) T.length tc ya A.length yc K N vc O Q V F false);have R1:=Bk (stay D R0) (O23 (.p tg) T.length tc ya A.length yc K N vc O Q V F false);have G1:=Bn.refl w1.heap.size (w1.alloc (O23 (.p tg) T.length tc ya A.length yc K N vc O Q V F false)) ⟨K,N,vc,O,Q,V⟩;have i0:=Bb (stay D I0) 0;have i1:=Bb (stay D I0) 1;have i2:=Bb (stay D I0) 2;have j6:=Pk (stay D I0);simp at i0 i1 i2;have m0:=Bb (stay D J) 0;have m1:=Bb (stay D J) 1;have m2:=Bb (stay D J) 2;have m3:=Bb (stay D J) 3;have m4:=Bb (stay D J) 4;have m5:=Bb (stay D J) 5;have m6:=Bb (stay D J) 6;have m7:=Bb (stay D J) 7;have m8:=Bb (stay D J) 8;have m9:=Bb (stay D J) 9;have b7:=Bb (stay D J) 10;have b8:=Bb (stay D J) 11;have b9:=Bb (stay D J) 12;have c0:=Bb (stay D J) 13;have c1:=Bb (stay D J) 14;have j7:=Pk (stay D J);simp at m0 m1 m2 m3 m4 m5 m6 m7 m8 m9 b7 b8 b9 c0 c1;clear d6 d7 fr d3 d4 f8 D;by_cases B:op=2
 case' pos =>
  subst B;have a3:PB=Fo (X8 F (n:Int) ⟨x.locals,x.stack,false⟩):=by rw[<- Ba a5];simp
  go_wp2_with fail;refine(Bqn (w1.alloc (O23 (.p tg) T.length tc ya A.length yc K N vc O Q V F false)) _ _ _ _ _ n hA (by first|omega|(simp only;omega))).mono ?_
  rintro e w2 ⟨rfl,v2,Y,f⟩;have G2:=G1.trans f;have U2:=f.stay t U1;have I2:=f.stay z I1;have R2:=f.stay l R1;replace t:=f.free t (Pk U1);replace z:=f.free z (Pk I1);replace l:=f.free l (Pk R1);have hE:=Y;have GE:=G2;have RE:=R2
 rotate_left
 have n2:(op==2)=false:=Fm;have o2:=B;clear B;by_cases B:op=3
 case' pos =>
  subst B;have a3:PB=Fo (Wn (n:Int) ⟨x.locals,x.stack,false⟩):=by rw[<- Ba a5];simp
  go_wp2_with fail;refine Qm (Bmk (w1.alloc (O23 (.p tg) T.length tc ya A.length yc K N vc O Q V F false)) _ _ _ _ _ n hA hn) ?_;rintro w2 ⟨v2,Y,f⟩;have G2:=G1.trans f;have U2:=f.stay t U1;have I2:=f.stay z I1;have R2:=f.stay l R1;replace t:=f.free t (Pk U1);replace z:=f.free z (Pk I1);replace l:=f.free l (Pk R1);have hE:=Y;have GE:=G2;have RE:=R2
 rotate_left
 have n3:(op==3)=false:=Fm;have o3:=B;clear B;by_cases B:op=4
 case' pos =>
  subst B;have a3:PB=Fo ((Bi ⟨x.locals,x.stack,false⟩).2):=by rw[<- Ba a5];simp
  go_wp2_with fail;refine Qm (N3 (w1.alloc (O23 (.p tg) T.length tc ya A.length yc K N vc O Q V F false)) _ _ _ _ _ hA) ?_;rintro w2 ⟨v2,Y,f⟩;have G2:=G1.trans f;have U2:=f.stay t U1;have I2:=f.stay z I1;have R2:=f.stay l R1;replace t:=f.free t (Pk U1);replace z:=f.free z (Pk I1);replace l:=f.free l (Pk R1);have hE:=Y;have GE:=G2;have RE:=R2
 rotate_left
 have n4:(op==4)=false:=Fm;have o4:=B;clear B;by_cases B:op=5
 case' pos =>
  subst B;have a3:PB=Fo (Es F (Bi ⟨x.locals,x.stack,false⟩).1 (Es F (Bi ⟨x.locals,x.stack,false⟩).1 (Bi ⟨x.locals,x.stack,false⟩).2)):=by rw[<- Ba a5];simp[Bht]
  go_wp2_with fail;refine Qm (N3 (w1.alloc (O23 (.p tg) T.length tc ya A.length yc K N vc O Q V F false)) _ _ _ _ _ hA) ?_;rintro w2 ⟨v2,Y,f⟩;have G2:=G1.trans f;have U2:=f.stay t U1;have I2:=f.stay z I1;have R2:=f.stay l R1;replace t:=f.free t (Pk U1);replace z:=f.free z (Pk I1);replace l:=f.free l (Pk R1);have d8:=Bba ⟨x.locals,x.stack,false⟩;simp only at d8;have a1:=Y.new (Wf _);have A0:=Bf w2 (O7 (Bi ⟨x.locals,x.stack,false⟩).1.1 (Bi ⟨x.locals,x.stack,false⟩).1.2);have h3:=Y.alloc (O7 (Bi ⟨x.locals,x.stack,false⟩).1.1 (Bi ⟨x.locals,x.stack,false⟩).1.2);have G3:=G2.alloc (O7 (Bi ⟨x.locals,x.stack,false⟩).1.1 (Bi ⟨x.locals,x.stack,false⟩).1.2);have U3:=Bk U2 (O7 (Bi ⟨x.locals,x.stack,false⟩).1.1 (Bi ⟨x.locals,x.stack,false⟩).1.2);have I3:=Bk I2 (O7 (Bi ⟨x.locals,x.stack,false⟩).1.1 (Bi ⟨x.locals,x.stack,false⟩).1.2);have R3:=Bk R2 (O7 (Bi ⟨x.locals,x.stack,false⟩).1.1 (Bi ⟨x.locals,x.stack,false⟩).1.2);go_wp2_with fail;refine Qm (Pc _ _ _ _ _ _ (Bi ⟨x.locals,x.stack,false⟩).1.1 (Bi ⟨x.locals,x.stack,false⟩).1.2 h3 Bd) ?_;rintro w4 ⟨v4,h4,C⟩;have G4:=G3.trans C;have U4:=C.stay t U3;have I4:=C.stay z I3;have R4:=C.stay l R3;replace t:=C.free t (Pk U3);replace z:=C.free z (Pk I3);replace l:=C.free l (Pk R3);have A4:=C.stay a1 A0;replace a1:=C.free a1 (Pk A0);obtain⟨y0,y1⟩:=cl2 A4;have ly:=Pk A4;simp at y0 y1;have h0:=Bej F ((Bi ⟨x.locals,x.stack,false⟩).1.1,(Bi ⟨x.locals,x.stack,false⟩).1.2) (Bi ⟨x.locals,x.stack,false⟩).2;go_wp2_with fail;refine(Pc _ _ _ _ _ _ (Bi ⟨x.locals,x.stack,false⟩).1.1 (Bi ⟨x.locals,x.stack,false⟩).1.2 h4 (by first|omega|(simp only;omega))).mono ?_
  rintro e w5 ⟨rfl,v5,h5,a0⟩;have G5:=G4.trans a0;have U5:=a0.stay t U4;have I5:=a0.stay z I4;have R5:=a0.stay l R4;replace t:=a0.free t (Pk U4);replace z:=a0.free z (Pk I4);replace l:=a0.free l (Pk R4);have hE:=h5;have GE:=G5;have RE:=R5
 rotate_left
 have n5:(op==5)=false:=Fm;have o5:=B;clear B;by_cases B:op=6
 case' pos =>
  subst B;have a3:PB=Fo (Es F (Bi (Bi ⟨x.locals,x.stack,false⟩).2).1 (Es F (Bi ⟨x.locals,x.stack,false⟩).1 (Bi (Bi ⟨x.locals,x.stack,false⟩).2).2)):=by rw[<- Ba a5];simp[Bdm]
  go_wp2_with fail;refine Qm (N3 (w1.alloc (O23 (.p tg) T.length tc ya A.length yc K N vc O Q V F false)) _ _ _ _ _ hA) ?_;rintro w2 ⟨v2,Y,f⟩;have G2:=G1.trans f;have U2:=f.stay t U1;have I2:=f.stay z I1;have R2:=f.stay l R1;replace t:=f.free t (Pk U1);replace z:=f.free z (Pk I1);replace l:=f.free l (Pk R1);have d8:=Bba ⟨x.locals,x.stack,false⟩;simp only at d8;have a1:=Y.new (Wf _);have A0:=Bf w2 (O7 (Bi ⟨x.locals,x.stack,false⟩).1.1 (Bi ⟨x.locals,x.stack,false⟩).1.2);have h3:=Y.alloc (O7 (Bi ⟨x.locals,x.stack,false⟩).1.1 (Bi ⟨x.locals,x.stack,false⟩).1.2);have G3:=G2.alloc (O7 (Bi ⟨x.locals,x.stack,false⟩).1.1 (Bi ⟨x.locals,x.stack,false⟩).1.2);have U3:=Bk U2 (O7 (Bi ⟨x.locals,x.stack,false⟩).1.1 (Bi ⟨x.locals,x.stack,false⟩).1.2);have I3:=Bk I2 (O7 (Bi ⟨x.locals,x.stack,false⟩).1.1 (Bi ⟨x.locals,x.stack,false⟩).1.2);have R3:=Bk R2 (O7 (Bi ⟨x.locals,x.stack,false⟩).1.1 (Bi ⟨x.locals,x.stack,false⟩).1.2);go_wp2_with fail;refine Qm (N3 _ _ _ _ _ _ h3) ?_;rintro w4 ⟨v4,h4,C⟩;have G4:=G3.trans C;have U4:=C.stay t U3;have I4:=C.stay z I3;have R4:=C.stay l R3;replace t:=C.free t (Pk U3);replace z:=C.free z (Pk I3);replace l:=C.free l (Pk R3);have A4:=C.stay a1 A0;replace a1:=C.free a1 (Pk A0);have h0:=Bba (Bi ⟨x.locals,x.stack,false⟩).2;have d9:=h4.new (Wf _);have C0:=Bf w4 (O7 (Bi (Bi ⟨x.locals,x.stack,false⟩).2).1.1 (Bi (Bi ⟨x.locals,x.stack,false⟩).2).1.2);have h5:=h4.alloc (O7 (Bi (Bi ⟨x.locals,x.stack,false⟩).2).1.1 (Bi (Bi ⟨x.locals,x.stack,false⟩).2).1.2);have G5:=G4.alloc (O7 (Bi (Bi ⟨x.locals,x.stack,false⟩).2).1.1 (Bi (Bi ⟨x.locals,x.stack,false⟩).2).1.2);have U5:=Bk U4 (O7 (Bi (Bi ⟨x.locals,x.stack,false⟩).2).1.1 (Bi (Bi ⟨x.locals,x.stack,false⟩).2).1.2);have I5:=Bk I4 (O7 (Bi (Bi ⟨x.locals,x.stack,false⟩).2).1.1 (Bi (Bi ⟨x.locals,x.stack,false⟩).2).1.2);have R5:=Bk R4 (O7 (Bi (Bi ⟨x.locals,x.stack,false⟩).2).1.1 (Bi (Bi ⟨x.locals,x.stack,false⟩).2).1.2);have A9:=Bk A4 (O7 (Bi (Bi ⟨x.locals,x.stack,false⟩).2).1.1 (Bi (Bi ⟨x.locals,x.stack,false⟩).2).1.2);obtain⟨y0,y1⟩:=cl2 A9;have ly:=Pk A9;simp at y0 y1;go_wp2_with fail;refine Qm (Pc _ _ _ _ _ _ (Bi ⟨x.locals,x.stack,false⟩).1.1 (Bi ⟨x.locals,x.stack,false⟩).1.2 h5 Bd) ?_;rintro w6 ⟨v6,h6,I⟩;have G6:=G5.trans I;have U6:=I.stay t U5;have I6:=I.stay z I5;have R6:=I.stay l R5;replace t:=I.free t (Pk U5);replace z:=I.free z (Pk I5);replace l:=I.free l (Pk R5);have A6:=I.stay a1 A9;replace a1:=I.free a1 (Pk A9);have C6:=I.stay d9 C0;replace d9:=I.free d9 (Pk C0);clear y0 y1 ly;obtain⟨y0,y1⟩:=cl2 C6;have ly:=Pk C6;simp at y0 y1;have j8:=Bej F ((Bi ⟨x.locals,x.stack,false⟩).1.1,(Bi ⟨x.locals,x.stack,false⟩).1.2) (Bi (Bi ⟨x.locals,x.stack,false⟩).2).2;go_wp2_with fail;refine(Pc _ _ _ _ _ _ (Bi (Bi ⟨x.locals,x.stack,false⟩).2).1.1 (Bi (Bi ⟨x.locals,x.stack,false⟩).2).1.2 h6 (by first|omega|(simp only;omega))).mono ?_
  rintro e w7 ⟨rfl,v7,h7,a6⟩;have G7:=G6.trans a6;have U7:=a6.stay t U6;have I7:=a6.stay z I6;have R7:=a6.stay l R6;replace t:=a6.free t (Pk U6);replace z:=a6.free z (Pk I6);replace l:=a6.free l (Pk R6);have hE:=h7;have GE:=G7;have RE:=R7
 rotate_left
 have n6:(op==6)=false:=Fm;have o6:=B;clear B;by_cases B:op=15
 case' pos =>
  subst B;have a3:PB=Fo (Es F (4,pp) (Mt (4,pp) (0,0) ⟨x.locals,x.stack,false⟩)):=by rw[<- Ba a5];simp
  go_wp2_with fail;refine Qm (Bge pp _) ?_;intro w2 a9;have Y:=hA.below a9;have G2:=G1.trans (Bn.of_below _ a9);have U2:=stay a9 U1;have I2:=stay a9 I1;have R2:=stay a9 R1;go_wp2_with fail;refine Qm (Yr _) ?_;intro w3 b0;have h3:=Y.below b0;have G3:=G2.trans (Bn.of_below _ b0);have U3:=stay b0 U2;have I3:=stay b0 I2;have R3:=stay b0 R2;go_wp2_with fail;refine Qm (Bct _ _ _ _ _ _ 4 pp 0 0 h3) ?_;rintro w4 ⟨v4,h4,C⟩;have G4:=G3.trans C;have U4:=C.stay t U3;have I4:=C.stay z I3;have R4:=C.stay l R3;replace t:=C.free t (Pk U3);replace z:=C.free z (Pk I3);replace l:=C.free l (Pk R3);obtain⟨j0,j1,j2⟩:=cl3 I4;have lj:=Pk I4;simp at j0 j1 j2;go_wp2_with fail;refine Qm (Bge pp _) ?_;intro w5 b1;have h5:=h4.below b1;have G5:=G4.trans (Bn.of_below _ b1);have U5:=stay b1 U4;have I5:=stay b1 I4;have R5:=stay b1 R4;go_wp2_with fail;refine Qm (Pc _ _ _ _ _ _ 4 pp h5 (by simp[Mt,Kb];omega)) ?_;rintro w6 ⟨v6,h6,I⟩;have G6:=G5.trans I;have U6:=I.stay t U5;have I6:=I.stay z I5;have R6:=I.stay l R5;replace t:=I.free t (Pk U5);replace z:=I.free z (Pk I5);replace l:=I.free l (Pk R5);have hE:=h6;have GE:=G6;have RE:=R6
 rotate_left
 have j9:(op==15)=false:=Fm;have h1:=B;clear B;by_cases B:op=16
 case' pos =>
  subst B;have a3:PB=Fo (Au T g4 g5 (n:Int) ⟨x.locals,x.stack,false⟩):=by rw[<- Ba a5];simp
  go_wp2_with fail;refine Qm (Ba g8 _ _ _ _ (w1.alloc (O23 (.p tg) T.length tc ya A.length yc K N vc O Q V F false)) b6 hA) ?_;rintro w2 ⟨v2,Y,f⟩;have G2:=G1.trans f;have U2:=f.stay t U1;have I2:=f.stay z I1;have R2:=f.stay l R1;replace t:=f.free t (Pk U1);replace z:=f.free z (Pk I1);replace l:=f.free l (Pk R1);have hE:=Y;have GE:=G2;have RE:=R2
 rotate_left
 have k0:(op==16)=false:=Fm;have h8:=B;clear B
 case' neg =>
  have a3:PB=Fo (Hf F lv (Gu T tk ⟨x.locals,x.stack,false⟩)):=by rw[<- Ba a5];simp[o2,o3,o4,o5,o6,h1,h8]
  go_wp2_with fail;refine(Ba g6 _ b6).mono ?_;rintro e w2 ⟨a2,c2,rfl,h9,i3,b2⟩;have i4:TyF w2 w1.heap.size ⟨K,N,vc,O,Q,V⟩ a2 tk.length c2 tk:=⟨h9,fun g o e=>(i3 g o e).elim (fun hg=>hA.new hg) (fun hg=>hA.low hg)⟩;have Y:=hA.below b2;have G2:=G1.trans (Bn.of_below _ b2);have U2:=stay b2 U1;have I2:=stay b2 I1;have R2:=stay b2 R1;go_wp2_with fail;refine Qm (T6 _ _ _ _ _ _ a2 tk.length c2 tk Y i4 Bd) ?_;rintro w3 ⟨v3,h3,a7⟩;have G3:=G2.trans a7;have U3:=a7.stay t U2;have I3:=a7.stay z I2;have R3:=a7.stay l R2;replace t:=a7.free t (Pk U2);replace z:=a7.free z (Pk I2);replace l:=a7.free l (Pk R2);clear m0 m1 m2 m3 m4 m5 m6 m7 m8 m9 b7 b8 b9 c0 c1 i0 i1 i2;obtain⟨m0,m1,m2,m3,m4,m5,m6,m7,m8,m9,b7,b8,b9,c0,c1⟩:=Wg U3;have G:=Pk U3;simp at m0 m1 m2 m3 m4 m5 m6 m7 m8 m9 b7 b8 b9 c0 c1;obtain⟨j0,j1,j2⟩:=cl3 I3;have lj:=Pk I3;simp at j0 j1 j2;have i5:=b6.trans (G3.low hA);go_wp2_with fail;refine(Ba g7 _ i5).mono ?_;rintro e w4 ⟨a4,c4,rfl,i6,i7,b3⟩;have i8:TyF w4 w1.heap.size v3 a4 lv.length c4 lv:=⟨i6,fun g o e=>(i7 g o e).elim (fun hg=>h3.new hg) (fun hg=>h3.low hg)⟩;have h4:=h3.below b3;have G4:=G3.trans (Bn.of_below _ b3);have U4:=stay b3 U3;have I4:=stay b3 I3;have R4:=stay b3 R3;have k1:(Gu T tk ⟨x.locals,x.stack,false⟩).st.length<=1000:=Bvv (Bby _ _ _ _) g3;go_wp2_with fail;refine(Bgx _ _ _ _ _ _ a4 lv.length c4 lv h4 i8 (by first|omega|(simp only;omega))).mono ?_
  rintro e w5 ⟨rfl,v5,h5,a0⟩;have G5:=G4.trans a0;have U5:=a0.stay t U4;have I5:=a0.stay z I4;have R5:=a0.stay l R4;replace t:=a0.free t (Pk U4);replace z:=a0.free z (Pk I4);replace l:=a0.free l (Pk R4);have hE:=h5;have GE:=G5;have RE:=R5
 all_goals
  go_wp2_with fail;refine(Blm _ _ _ _ _ _ hE).mono ?_;rintro e k2 ⟨u,rfl,hu,i9,g0⟩;obtain⟨ua,un,uc,da,dn,dc⟩:=u;have c3:=g0.stay l RE;obtain⟨z0,z1⟩:=cl2 c3;obtain⟨q0,q1⟩:=fr2 c3;have lr:=Pk c3;simp at z0 z1;have g1:=b6.trans ((GE.trans g0).low hA);have k3:=g1.size;simp only[FrV.val];go_wp2_with fail;refine tb (.tuple #[.agg #[.s ua un uc,.s da dn dc],.bool PB.isSome]) (by simp[results,results221,go_sem,z0,z1,lr,a3]) ?_;refine⟨⟨ua,un,uc,da,dn,dc⟩,rfl,fun y hy=>?_,(g1.setCell Fm _).setCell Fm _⟩;rw[a3]at hy;obtain⟨e1,rfl⟩:=hu y hy;rw[e1];exact i9.frame.set2 c3 _ _
variable {ya:Option Addr}{yn yc:Nat}
def Mu (T:TI)(a b:TP):Bool:=if a.length=b.length then Ee T a b else false
def Hx (T:TI)(x y:Be):Bool:=Mu T x.locals y.locals&&Mu T x.stack y.stack
def Bcy(T:TI)(m z:Nat)(a b:TP)(aa ab:TA)(an ac bn bc:Nat)(w:TW)(hl:T.length<=1000)(hT:Dl w m T)(ha:TyR w (.s aa an ac) a)(hb:TyR w (.s ab bn bc) b)(b3:a.length<=10000)(b4:b.length<=10000):Calls prog 218 #[.agg #[.s (.p m) T.length z,.s ya yn yc],.s aa an ac,.s ab bn bc] w fun e q=>e=.r (.bool (Mu T a b))/\Bl w q:=by
 obtain⟨e1,-,-⟩:=ha.cap;obtain⟨e2,-,-⟩:=hb.cap;subst e1 e2;unfold Mu;have I:Bl w (w.alloc (O2 (.p m) T.length z ya yn yc)):=QN _;have T0:=Bf w (O2 (.p m) T.length z ya yn yc);by_cases h:a.length=b.length
 ·rw[Sp h];generalize j:Ee T a b=r;have B:Hid (Ee T (a.drop 0) (b.drop 0)=r):=j;have a9:((a.length:Int) != (b.length:Int))=false:=by simp[h]
  have b0:=Bc h;clear j h;go_in;go_wp2
  go_loopw [16] (fun v wr=>∃k:Nat,k<=a.length/\v=.i (k:Int)/\Hid (Ee T (a.drop k) (b.drop k)=r)/\Bl w wr/\wr.heap[w.heap.size]?=some (O2 (.p m) T.length z ya yn yc))
   (fun v _=>a.length-(intOf v).toNat)
  case atStart=>exact⟨0,Bd,rfl,B,I,T0⟩
  case round=>
   clear B I T0;obtain⟨k,hk,rfl,B,D,F⟩:=hrel;have b1:=D.size;have h:=Ba b0;by_cases a0:k<a.length
   ·have a1:k<b.length:=Bd;obtain⟨g,o,rfl,hg,a2⟩:=(ha.below D).at Bd;obtain⟨g2,G,rfl,a3,a4⟩:=(hb.below D).at Bd;obtain⟨x0,x1⟩:=a2 k a0;obtain⟨J,K⟩:=a4 k a1;have a5:a.drop k=a[k]::a.drop (k+1):=Wr a0;have a6:b.drop k=b[k]::b.drop (k+1):=Wr a1;have j:=Ba B;rw[a5,a6,Ee]at j;generalize a[k]=s at *;generalize b[k]=t at *;obtain⟨c,f⟩:=s;obtain⟨L,N⟩:=t;simp only at x0 x1 J K j;have O:(wr.alloc (O7 c f)).C w.heap.size 0 (.s (.p m) T.length z):=(Bb (Bk F (O7 c f)) 0).trans rfl;have Q:(wr.alloc (O7 c f)).C w.heap.size 1 (.s ya yn yc):=(Bb (Bk F (O7 c f)) 1).trans rfl;have V:(wr.alloc (O7 c f)).C wr.heap.size 0 (.i c):=(Bb (Bf wr (O7 c f)) 0).trans rfl;have Y:(wr.alloc (O7 c f)).C wr.heap.size 1 (.i f):=(Bb (Bf wr (O7 c f)) 1).trans rfl;have Z:=(Bwg wr (O7 c f) ⟨g2,G+k*2,none⟩ a3).trans J;have z1:=(Bwg wr (O7 c f) ⟨g2,G+k*2+1,none⟩ a3).trans K;have lF:=Pk (Bk F (O7 c f));have lP:=Pk (Bf wr (O7 c f));have lG:g2<(wr.alloc (O7 c f)).heap.size:=Fm;have a7:=(D.alloc b1 (O7 c f)).drew;have hc:=Km (ya:=ya) (yn:=yn) (yc:=yc) T m z c f L N _ hl (hT.below a7);generalize Tr.fitsB T c f L N=A at *;have HC:=Bc hc;have kb:(k:Int)<(a.length:Int):=Bd;have b5:(k:Int)<(b.length:Int):=Bd;clear a2 a4 a5 a6 hc B h;go_wp2
    go_region_held3 (fun q=>q.C w.heap.size 0 (.s (.p m) T.length z)/\q.C w.heap.size 1 (.s ya yn yc)/\q.C wr.heap.size 0 (.i c)/\q.C wr.heap.size 1 (.i f)/\q.C g2 (G+k*2) (.i L)/\q.C g2 (G+k*2+1) (.i N))
     (first|exact⟨O,Q,V,Y,Z,z1⟩|exact⟨QC l lF O,QC l lF Q,QC l lP V,QC l lP Y,QC l lG Z,QC l lG z1⟩)
     (first|(go_at_call 118;refine(Ba HC).mono ?_;rintro e w7 ⟨rfl,l⟩))
    have a8:=QB a7 l;have b2:=stay l (show (wr.alloc (O7 c f)).drew.heap[w.heap.size]?=_ from Bk F (O7 c f));clear l x0 x1 J K Z z1 O Q V Y HC;cases A with
    | true =>
     have HG:Hid (Ee T (a.drop (k+1)) (b.drop (k+1))=r):=by unfold Hid;rw[<- j];simp
     clear j;go_wp2;go_roundw
     case rel=>exact⟨k+1,Bd,Lt,HG,a8,b2⟩
     case measure=>simp[intOf];omega
    | false =>
     have HE:Hid (r=false):=by unfold Hid;rw[<- j];simp
     clear j;go_wp2;go_ret;exact⟨by rw[Ba HE];rfl,a8⟩
   have HE:Hid (r=true):=by unfold Hid;rw[<- Ba B,Bvi (show b.length<=k by omega),Ee]
   have kb:¬(k:Int)<(a.length:Int):=Bd;clear B h;go_wp2;go_ret;exact⟨by rw[Ba HE];rfl,D⟩
 rw[Pf h];have a9:((a.length:Int) != (b.length:Int))=true:=Fm;clear h;go_in;go_wp2;go_ret;exact⟨rfl,I⟩
def Bd5(T:TI)(f g:Nat)(u v:FrV)(x y:Be)(w:TW)(t:T.length<=1000)(z:Dl w f T)(i:u.is x w)(j:v.is y w):Calls prog 167 #[u.val,.agg #[.s (.p f) T.length g,.s ya yn yc],v.val] w fun e b=>e=.r (.bool (Hx T x y))/\Bl w b:=by
 have m:=fun b (h:Bl w b)=>Bcy (ya:=ya) (yn:=yn) (yc:=yc) T f g x.locals y.locals u.la v.la u.ln u.lc v.ln v.lc b t (z.below h) (i.lo.below h) (j.lo.below h) (by have:=i.hl;omega) (by have:=j.hl;omega);have q:=fun b (h:Bl w b)=>Bcy (ya:=ya) (yn:=yn) (yc:=yc) T f g x.stack y.stack u.sa v.sa u.sn u.sc v.sn v.sc b t (z.below h) (i.st.below h) (j.st.below h) (by have:=i.hs;omega) (by have:=j.hs;omega);unfold Hx;generalize Mu T x.locals y.locals=P at *;generalize Mu T x.stack y.stack=Q at *;obtain⟨A,B,C,D,F,G⟩:=u;obtain⟨I,J,K,L,N,O⟩:=v;simp only[FrV.val]at m q ⊢;have V:=Bc m;have H2:=Bc q;clear m q i j;have l:=Is w (O24 A B C D F G) (O2 (.p f) T.length g ya yn yc) (O24 I J K L N O);obtain⟨A0,Y,B0⟩:=W8 w (O24 A B C D F G) (O2 (.p f) T.length g ya yn yc) (O24 I J K L N O);cases P with
 | false =>
  go_in;go_wp2_with fail;refine Qm (Ba V _ l) ?_;intro w1 c;go_wp2;go_ret;exact⟨rfl,QB l c⟩
 | true =>
  go_in;go_wp2_with fail;refine Qb (Ba V _ l) l ?_;intro w1 c Z;have a1:=Bb (stay c A0) 1;have t0:=Bb (stay c Y) 0;have t1:=Bb (stay c Y) 1;have b1:=Bb (stay c B0) 1;simp at a1 t0 t1 b1;clear c;go_wp2_with fail;refine Qm (Ba H2 _ Z) ?_;intro w2 a0;go_wp2;go_ret;exact⟨rfl,QB Z a0⟩
def Bkw(m:Int)(v:FrV)(w:TW):Calls prog 233 #[.agg #[.i m,.s v.la v.ln v.lc,.s v.sa v.sn v.sc]] w fun e b=>e=.returned v.val/\Bl w b:=by
 obtain⟨c,f,g,h,j,l⟩:=v;simp only[FrV.val];go_in;go_wp2;refine tb (.agg #[.s c f g,.s h j l]) (by simp[results,results233,go_sem]) ?_;exact⟨rfl,Bx _ _ _⟩
def Bcq(c:Int)(v:FrV)(x:Be)(w:TW)(D:v.is x w):Calls prog 261 #[v.val,.i c] w fun e m=>∃u:FrV,e=.returned u.val/\u.is ⟨x.locals,[(3,c)]⟩ m/\Bl w m:=by
 obtain⟨b,f,g,q,t,z⟩:=v;have F:=D.lo;have V:=D.hl;simp only[FrV.val]at F ⊢;clear D;have Y:=Bx w (O24 b f g q t z) (O24 none 0 0 none 0 0);have G:=Cb w (O24 b f g q t z) (O24 none 0 0 none 0 0);have I:=Bv w (O24 b f g q t z) (O24 none 0 0 none 0 0);have A:((w.alloc (O24 b f g q t z)).alloc (O24 none 0 0 none 0 0)).C w.heap.size 0 (.s b f g):=(Bb G 0).trans rfl;have B:=Pk G;have lR:=Pk I;go_in;go_wp2
 go_region_held3 (fun m=>m.C w.heap.size 0 (.s b f g))
  (first|exact A|exact QC j B A|exact QA (QL j B) (QC j B A)|exact(Bwg _ _ _ (by have:=j.size;simp at this ⊢;omega)).trans ((B0a _ _ _ _ (by (try simp)<;>omega)).trans ((B0a _ _ _ _ (by (try simp)<;>omega)).trans (QC j B A))))
  (first|(go_at_call 165;refine Qm (N6 c _) ?_;intro h j;have l:=stay j (show _=_ from I);have J:=Bb l 0;have K:=Bb l 1;have q0:=Bj l 0;have q1:=Bj l 1;have Z:=Pk l;simp at J K))
 have L:=Y.drew.trans (j.mono Fm);have a1:=L.size;have N:((h.setCell (.a (w.heap.size+1) 0) (.s b f g)).setCell (.a (w.heap.size+1) 1) (.s (.p h.heap.size) 1 1)).heap.size=h.heap.size:=by simp[World.setCell]
 have O:=TyR.new1 ((h.setCell (.a (w.heap.size+1) 0) (.s b f g)).setCell (.a (w.heap.size+1) 1) (.s (.p h.heap.size) 1 1)) 3 c;rw[N]at O;have Q:=((L.setCell (p:=.a (w.heap.size+1) 0) Fr (.s b f g)).setCell (p:=.a (w.heap.size+1) 1) Fr (.s (.p h.heap.size) 1 1)).alloc (by rw[N];exact a1) (O7 3 c);go_wp2_with fail;refine tb (.agg #[.s b f g,.s (.p h.heap.size) 1 1]) (by simp[results,results261,go_sem,J,K,Z]) ?_;exact⟨⟨b,f,g,some ⟨h.heap.size,0,none⟩,1,1⟩,rfl,⟨F.below Q,O,V,Fr⟩,Q⟩
def El (h:Rd.Hnd)(p:Int):Bool:=decide (h.frm<=p)&&decide (p<h.til)
def Y4(h:Rd.Hnd)(p:Int)(w:TW):Calls prog 260 #[.agg #[.i h.frm,.i h.til,.i h.target,.i h.cl],.i p] w fun e c=>e=.r (.bool (El h p))/\Bl w c:=by
 obtain⟨f,g,l,m⟩:=h;unfold El;by_cases j:f<=p
 ·by_cases b:p<g;·go_in;go_wp2;go_ret;exact⟨by simp[j,b],QN _⟩
  go_in;go_wp2;go_ret;exact⟨by simp[b],QN _⟩
 go_in;go_wp2;go_ret;exact⟨Fm,QN _⟩
def Baz(op:Int)(w:TW):Calls prog 222 #[.i op] w fun e b=>e=.r (.bool (Dx op))/\b=w:=by
 unfold Dx;by_cases h:op=11\/op=12\/op=13\/op=14
 ·rw[Bxp h];rcases h with rfl|rfl|rfl|rfl
  all_goals
   go_in;go_wp2;go_ret;exact⟨rfl,rfl⟩
 rw[Bwx h];have c:(op==11)=false:=Fm;have f:(op==12)=false:=Fm;have g:(op==13)=false:=Fm;have j:(op==14)=false:=Fm;clear h;go_in;go_wp2;go_ret;exact⟨rfl,rfl⟩
def Yw(op:Int)(w:TW):Calls prog 187 #[.i op] w fun e b=>e=.r (.bool (Dz op))/\b=w:=by
 unfold Dz;by_cases h:op=11\/op=22\/op=23
 ·rw[Bwx (fun g=>g h)];rcases h with rfl|rfl|rfl
  all_goals
   go_in;go_wp2;go_ret;exact⟨rfl,rfl⟩
 rw[Bxp h];have c:(op==11)=false:=Fm;have f:(op==22)=false:=Fm;have j:(op==23)=false:=Fm;clear h;go_in;go_wp2;go_ret;exact⟨rfl,rfl⟩
def Bb5(m:PM)(c:TP)(f:Nat)(w:TW)(c7:m.lo=(f:Int))(d6:f<=1000)(b1:TyR w (.s m.pa m.pl m.pc) c)(d7:c.length<=1000):Calls prog 110 #[m.val] w fun e w'=>∃v:FrV,e=.returned v.val/\v.is (Pp m.cl c f) w'/\Bl w w':=by
 obtain⟨i0,hi,b2,b3,b4⟩:=Bv4 Tryz.infoType;obtain⟨p,nm,I,J,K,r1,r2,lo,st,ca,cn,cc,ha,hl,hc,ma,ml,mc⟩:=m;simp only[PM.val]at c7 b1 ⊢;subst c7;have c8:=fun w=>N6 p w;have d2:=Bc c8;clear c8;have a0:=Bx w (O18 p nm I J K r1 r2 (f:Int) st ca cn cc ha hl hc ma ml mc) (O24 none 0 0 none 0 0);have C0:=Cb w (O18 p nm I J K r1 r2 (f:Int) st ca cn cc ha hl hc ma ml mc) (O24 none 0 0 none 0 0);have D0:=Bv w (O18 p nm I J K r1 r2 (f:Int) st ca cn cc ha hl hc ma ml mc) (O24 none 0 0 none 0 0);unfold Pp;generalize hO:Kv p c=O;unfold Kv at hO
 -- what follows the head, for either head
 by_cases h1:p=255
 ·subst h1;rw[Sp rfl,Bx4]at hO;subst hO;go_in;go_wp2_with (at_builtin;refine Pv rfl _ _ rfl (w.heap.size+1+1) _ [] c I J K rfl (Bvl _ _ _ _) rfl (b1.below a0) Fm Fr ?_)
  intro v' w1 a1 C;have L:=a0.grown C Fm (fun j D=>by simp[Value.ownBlock]at D);have C1:=(C.block _ (Pk C0) (by simp[Value.ownBlock])).trans C0;have D1:=(C.block _ (Pk D0) (by simp[Value.ownBlock])).trans D0;clear C C0 D0 a0;have b5:=L.size;have a2:w1.ownsRow (w.heap.size+1+1) 31 2 v' (c++List.replicate 0 ((0:Int),(0:Int))).length (Bu (c++List.replicate 0 ((0:Int),(0:Int)))):=by simpa using a1
  go_wp2
  go_loopw [3] (fun v wr=>∃q:Nat,q<=f-c.length/\wr.ownsRow (w.heap.size+1+1) 31 2 v (c.length+q) (Bu (c++List.replicate q ((0:Int),(0:Int))))/\Bl w wr/\wr.heap[w.heap.size]?=some (O18 255 nm I J K r1 r2 (f:Int) st ca cn cc ha hl hc ma ml mc)/\wr.heap[w.heap.size+1]?=some (O24 none 0 0 none 0 0))
   (fun v _=>f-lenOf v)
  case atStart=>exact⟨0,Bd,by simpa using a2,L,C1,D1⟩
  case round=>
   clear a1 a2 L C1 D1 b5;obtain⟨q,hq,h,z,t,l⟩:=hrel;have N:=z.size;have lC:=Pk t;have lD:=Pk l;obtain⟨Q,V,rfl⟩:=Bg h;have x5:=Bb t 5;simp at x5;by_cases d3:c.length+q<f
   ·have kb:((c.length+q:Nat):Int)<(f:Int):=Bd;have HD:Hid (c++List.replicate (q+1) ((0:Int),(0:Int))=c++List.replicate q ((0:Int),(0:Int))++[((0:Int),(0:Int))]):=by unfold Hid;rw[Bzd,Bwe]
    go_wp2_with fail;refine Qm (Yr _) ?_;intro wt A;replace h:=Cx h (Kp.of_below (e:=none) A) Ck;replace z:=z.trans (A.mono N);replace t:=stay A t;replace l:=stay A l;replace N:=z.size;replace lC:=Pk t;replace lD:=Pk l;clear A x5;go_wp2_with (at_builtin;refine Bvw _ rfl _ _ 105 rfl (w.heap.size+1+1) 31 i0 _ 2 16 Bwq hi b2 b3 b4 rfl Ck _ _ _ rfl (h.alloc _) ⟨wt.heap.size,0,none⟩ 1 1 [.i 0,.i 0] rfl rfl ?c1 ?c2 ?c3 ?c4 ?c5 ?_)
    case c1=>exact Dv _ _ _ _ rfl
    case c2=>intro u G;simp at G;subst G;rfl
    case c3=>unfold maxLen;omega
    case c4=>omega
    case c5=>simp;omega
    intro v2 w2 Y F _;have b6:=(z.alloc N (O7 0 0)).grown F Fm (fun j D=>by have:=(h.lt j D).1;omega);have C2:=(F.block _ (Pk (Bk t (O7 0 0))) (fun B=>by have:=(h.lt _ B.symm).1;omega)).trans (Bk t (O7 0 0));have D2:=(F.block _ (Pk (Bk l (O7 0 0))) (fun B=>by have:=(h.lt _ B.symm).1;omega)).trans (Bk l (O7 0 0));obtain⟨b7,b8,rfl⟩:=Bg Y;have Z:w2.ownsRow (w.heap.size+1+1) 31 2 (.s b7 (c.length+q+1) b8) (c.length+(q+1)) (Bu (c++List.replicate (q+1) ((0:Int),(0:Int)))):=by rw[Ba HD,Ml];exact Y
    clear F h Y z t l;go_wp2;go_roundw
    case rel=>exact⟨q+1,Bd,Z,b6,C2,D2⟩
    case measure=>simp[lenOf];omega
   have kb:¬((c.length+q:Nat):Int)<(f:Int):=Bd;have eq:f-c.length=q:=Bd;obtain⟨z0,z1⟩:=cl2 l;obtain⟨q0,q1⟩:=fr2 l;simp at z0 z1;have b9:=(Kp.set_lo (e:=none) (b:=w.heap.size+1+1) (i:=0) (g:=w.heap.size+1) (w:=wr) Bd (.s Q (c.length+q) V)).trans (Kp.set_lo (i:=1) (g:=w.heap.size+1) Bd (.s none 0 0));have Z:=Cx h b9 Ck;have a3:=Bc eq;clear eq;go_wp2_with fail;refine tb (.agg #[.s Q (c.length+q) V,.s none 0 0]) (by simp[results,results110,go_sem,z0,z1]) ?_;refine⟨⟨Q,c.length+q,V,none,0,0⟩,rfl,⟨?_,TyR.nil _,?_,Bv5 _⟩,(z.setCell Fr _).setCell Fr _⟩
   ·rw[Ba a3];exact Sc Z Fr
   rw[Ba a3];simp;omega
 have d8:(p != 255)=true:=by simpa using h1
 rw[Pf h1]at hO;clear h1;go_in;go_wp2_with fail;refine Qb (Ba d2 _) a0 ?_;intro w0 c0 c6;have a4:=stay c0 C0;have a7:=stay c0 D0;have d4:=c6.size;have d9:=Pk a7;have x2:=Bb a4 2;have f0:=Pk a4;simp at x2;go_wp2_with (at_builtin;refine Bvw _ rfl _ _ 105 rfl (w.heap.size+1+1) 31 i0 _ 2 16 Bwq hi b2 b3 b4 rfl Ck _ _ _ rfl (Bvl _ _ _ _) ⟨w0.heap.size,0,none⟩ 1 1 [.i 3,.i p] rfl rfl ?c1 ?c2 ?c3 ?c4 ?c5 ?_)
 case c1=>exact Dv _ _ _ _ rfl
 case c2=>intro u G;simp at G;rcases G with rfl|rfl<;>rfl
 case c3=>unfold maxLen;omega
 case c4=>omega
 case c5=>simp;omega
 intro v0 d5 c9 a8 _;have a9:=(c6.alloc d4 (O7 3 p)).grown a8 Fm (fun j D=>by simp[Value.ownBlock]at D);have a5:=(a8.block _ (Pk (Bk a4 (O7 3 p))) (by simp[Value.ownBlock])).trans (Bk a4 (O7 3 p));have b0:=(a8.block _ (Pk (Bk a7 (O7 3 p))) (by simp[Value.ownBlock])).trans (Bk a7 (O7 3 p));have a6:d5.ownsRow (w.heap.size+1+1) 31 2 v0 ([((3:Int),p)]:TP).length (Bu [((3:Int),p)]):=by simpa[Bu] using c9
 have f1:=a9.size;have f2:=Pk b0;have f3:=Pk a5;have d0:=Bb a5 2;simp at d0;clear a8 c9 C0 D0 a0 c0 a4 a7 c6 x2;go_wp2_with (at_builtin;refine Pv rfl _ _ rfl (w.heap.size+1+1) _ [(3,p)] c I J K rfl a6 rfl (b1.below a9) Fm Bd ?_)
 intro v' w1 a1 C;have L:=a9.grown C Bd (fun j D=>by have:=(a6.lt j D).1;omega);have C1:=(C.block _ (Pk a5) (fun B=>by have:=(a6.lt _ B.symm).1;omega)).trans a5;have D1:=(C.block _ (Pk b0) (fun B=>by have:=(a6.lt _ B.symm).1;omega)).trans b0;have d1:([((3:Int),p)]++c).length<=1001:=Fm;have a2:w1.ownsRow (w.heap.size+1+1) 31 2 v' O.length (Bu O):=a1;rw[hO]at d1;have f4:=d1;clear C a5 b0 a9 a6 a1 hO d0;have b5:=L.size;go_wp2
 go_loopw [3] (fun v wr=>∃q:Nat,q<=f-O.length/\wr.ownsRow (w.heap.size+1+1) 31 2 v (O.length+q) (Bu (O++List.replicate q ((0:Int),(0:Int))))/\Bl w wr/\wr.heap[w.heap.size]?=some (O18 p nm I J K r1 r2 (f:Int) st ca cn cc ha hl hc ma ml mc)/\wr.heap[w.heap.size+1]?=some (O24 none 0 0 none 0 0))
  (fun v _=>f-lenOf v)
 case atStart=>exact⟨0,Bd,by simpa using a2,L,C1,D1⟩
 case round=>
  clear a2 L C1 D1 b5;obtain⟨q,hq,h,z,t,l⟩:=hrel;have N:=z.size;have lC:=Pk t;have lD:=Pk l;obtain⟨Q,V,rfl⟩:=Bg h;have x5:=Bb t 5;simp at x5;by_cases d3:O.length+q<f
  ·have kb:((O.length+q:Nat):Int)<(f:Int):=Bd;have HD:Hid (O++List.replicate (q+1) ((0:Int),(0:Int))=O++List.replicate q ((0:Int),(0:Int))++[((0:Int),(0:Int))]):=by unfold Hid;rw[Bzd,Bwe]
   go_wp2_with fail;refine Qm (Yr _) ?_;intro wt A;replace h:=Cx h (Kp.of_below (e:=none) A) Ck;replace z:=z.trans (A.mono N);replace t:=stay A t;replace l:=stay A l;replace N:=z.size;replace lC:=Pk t;replace lD:=Pk l;clear A x5;go_wp2_with (at_builtin;refine Bvw _ rfl _ _ 105 rfl (w.heap.size+1+1) 31 i0 _ 2 16 Bwq hi b2 b3 b4 rfl Ck _ _ _ rfl (h.alloc _) ⟨wt.heap.size,0,none⟩ 1 1 [.i 0,.i 0] rfl rfl ?c1 ?c2 ?c3 ?c4 ?c5 ?_)
   case c1=>exact Dv _ _ _ _ rfl
   case c2=>intro u G;simp at G;subst G;rfl
   case c3=>unfold maxLen;omega
   case c4=>omega
   case c5=>simp;omega
   intro v2 w2 Y F _;have b6:=(z.alloc N (O7 0 0)).grown F Fm (fun j D=>by have:=(h.lt j D).1;omega);have C2:=(F.block _ (Pk (Bk t (O7 0 0))) (fun B=>by have:=(h.lt _ B.symm).1;omega)).trans (Bk t (O7 0 0));have D2:=(F.block _ (Pk (Bk l (O7 0 0))) (fun B=>by have:=(h.lt _ B.symm).1;omega)).trans (Bk l (O7 0 0));obtain⟨b7,b8,rfl⟩:=Bg Y;have Z:w2.ownsRow (w.heap.size+1+1) 31 2 (.s b7 (O.length+q+1) b8) (O.length+(q+1)) (Bu (O++List.replicate (q+1) ((0:Int),(0:Int)))):=by rw[Ba HD,Ml];exact Y
   clear F h Y z t l;go_wp2;go_roundw
   case rel=>exact⟨q+1,Bd,Z,b6,C2,D2⟩
   case measure=>simp[lenOf];omega
  have kb:¬((O.length+q:Nat):Int)<(f:Int):=Bd;have eq:f-O.length=q:=Bd;obtain⟨z0,z1⟩:=cl2 l;obtain⟨q0,q1⟩:=fr2 l;simp at z0 z1;have b9:=(Kp.set_lo (e:=none) (b:=w.heap.size+1+1) (i:=0) (g:=w.heap.size+1) (w:=wr) Bd (.s Q (O.length+q) V)).trans (Kp.set_lo (i:=1) (g:=w.heap.size+1) Bd (.s none 0 0));have Z:=Cx h b9 Ck;have a3:=Bc eq;clear eq;go_wp2_with fail;refine tb (.agg #[.s Q (O.length+q) V,.s none 0 0]) (by simp[results,results110,go_sem,z0,z1]) ?_;refine⟨⟨Q,O.length+q,V,none,0,0⟩,rfl,⟨?_,TyR.nil _,?_,Bv5 _⟩,(z.setCell Fr _).setCell Fr _⟩
  ·rw[Ba a3];exact Sc Z Fr
  rw[Ba a3];simp;omega
def PBd.pval(b:PBd):Value:=.agg #[.slice (some ⟨b.tg,0,none⟩) b.T.length b.tc,.slice b.ya b.yn b.yc,.int .i64 b.cl,.int .i64 b.nm,.slice b.pa b.pl b.pc,.int .i64 b.r1,.int .i64 b.r2,.int .i64 b.lo,.int .i64 b.st,.slice b.ca b.cn b.cc,.slice b.ha b.hl b.hc,.slice b.ma b.ml b.mc,.slice b.la b.L.length b.lc,
 .slice b.fa1 b.fl1 b.fc1,.slice b.fa2 b.fl2 b.fc2,.slice (some ⟨b.tg,0,none⟩) b.T.length b.tc,.slice b.ya b.yn b.yc,.int .i64 b.cl,.int .i64 b.nm,.slice b.pa b.pl b.pc,.int .i64 b.r1,.int .i64 b.r2,.int .i64 b.lo,.int .i64 b.st,.slice b.ca b.cn b.cc,.slice b.ha b.hl b.hc,.slice b.ma b.ml b.mc,.slice b.la b.L.length b.lc]
def Tryz.infoPass:(prog.info? 212).map (·.size)=some 28:=Le
def Ri (b:PBd)(mp:Int->Option Be)(w:TW):Prop:=∀q w',Below w.heap.size w w'->Calls Tryz.prog 185 #[b.pval,.int .i64 q] w' fun e w''=>∃u:FrV,e=.returned (.tuple #[u.val,.bool (mp q).isSome])/\u.is (Ef (mp q)) w''/\Below w'.heap.size w' w''
def Ri.below{c:PBd}{mp:Int->Option Be}{w b:TW}(h:Ri c mp w)(e:Bl w b):Ri c mp b:=fun q f g=>h q f (e.trans (g.mono e.size))
def Bkk(b:PBd)(c:List (Rd.Mp×Value×Value))(bb:Nat)(p:Int)(w:TW)(a6:b.ml=c.length)(c8:c.length<=1000)(a7:∀q∈c,q.1.locals.length<=5000/\q.1.stack.length<=5000)(hh:Ob w bb (.s b.ma b.ml b.mc) c):Calls prog 185 #[b.pval,.i p] w fun e F=>∃v:FrV,e=.r (.tuple #[v.val,.bool (Ka p (c.map Prod.fst)).isSome])/\v.is (Ef (Ka p (c.map Prod.fst))) F/\Bl w F:=by
 generalize f:Ka p (c.map Prod.fst)=r;have D:Hid (Ka p ((c.map Prod.fst).drop 0)=r):=f;obtain⟨a8,a9,b0,b1,b2,b3,O,Q,ya,yn,yc,V,Y,Z,pl,pc,r1,r2,lo,st,ca,cn,cc,ha,hl,hc,I,ml,J,la,lc,T,L⟩:=b;simp only at a6 hh;subst a6;simp only[PBd.pval];have c1:Hid (∀F,Bl w F->Ob F bb (.s I c.length J) c):=fun F h=>hh.kp (Kp.of_below (e:=none) h) Ck Ck;have c2:=Bc a7;clear f hh a7;have b4:=Bx w ((O26 (.p O) T.length Q ya yn yc V Y Z pl pc r1 r2 lo st ca cn cc ha hl hc I c.length J la L.length lc a8 a9 b0 b1 b2 b3 (.p O) T.length Q ya yn yc V Y Z pl pc r1 r2 lo st ca cn cc ha hl hc I c.length J la L.length lc)) (O24 none 0 0 none 0 0);have R0:=Bv w ((O26 (.p O) T.length Q ya yn yc V Y Z pl pc r1 r2 lo st ca cn cc ha hl hc I c.length J la L.length lc a8 a9 b0 b1 b2 b3 (.p O) T.length Q ya yn yc V Y Z pl pc r1 r2 lo st ca cn cc ha hl hc I c.length J la L.length lc)) (O24 none 0 0 none 0 0);go_in;go_wp2
 go_loopw [12] (fun v wr=>∃k:Nat,k<=c.length/\v=.i (k:Int)/\Hid (Ka p ((c.map Prod.fst).drop k)=r)/\Bl w wr/\wr.heap[w.heap.size+1]?=some (O24 none 0 0 none 0 0))
  (fun v _=>c.length-(intOf v).toNat)
 case atStart=>exact⟨0,Bd,rfl,D,b4,R0⟩
 case round=>
  clear D b4 R0;obtain⟨k,hk,rfl,D,hB,CR⟩:=hrel;have c3:=hB.size;have lR:=Pk CR;by_cases j:k<c.length
  ·have b5:=Ba c1 _ hB;obtain⟨g,hg,c9,_,a0⟩:=Cf b5.1 Bd;have y0:=(a0 _ (Ge c k j 0 Bd).2).trans (Ge c k j 0 Bd).1;have y1:=(a0 _ (Ge c k j 1 Bd).2).trans (Ge c k j 1 Bd).1;have y2:=(a0 _ (Ge c k j 2 Bd).2).trans (Ge c k j 2 Bd).1;obtain⟨a3,a4⟩:=b5.2 _ (Bvh j);obtain⟨b6,b7⟩:=Ba c2 _ (Bvh j);have hd:(c.map Prod.fst).drop k=c[k].1::(c.map Prod.fst).drop (k+1):=by rw[Wr (by simpa using j)];simp
   have f:=Ba D;rw[hd,Ka]at f;generalize c[k]=x at *;obtain⟨⟨l,m,t⟩,v1,v2⟩:=x;simp only at y0 y1 y2 a3 a4 b6 b7 f;obtain⟨z,A,rfl⟩:=Bg a3;obtain⟨B,C,rfl⟩:=Bg a4;simp at y0 y1 y2;subst hg;have kb:(k:Int)<(c.length:Int):=Bd;have b8:=hB.alloc c3 (O17 l z m.length A B t.length C);have b9:=Bk CR (O17 l z m.length A B t.length C);clear a0 hd D;by_cases G:l=p
   ·rw[Sp G]at f;have c4:(l==p)=true:=by simp[G]
    have HE:=Bc f;have a5:=Bkw l ⟨z,m.length,A,B,t.length,C⟩ (wr.alloc (O17 l z m.length A B t.length C));simp only[FrV.val]at a5;have c5:=Bc a5;clear f G a5;go_wp2_with fail;refine Qm (Ba c5) ?_;intro w1 a1;have a2:=stay a1 b9;obtain⟨K,N⟩:=cl2 a2;obtain⟨q0,q1⟩:=fr2 a2;have lr:=Pk a2;simp at K N;have c0:=QB b8 a1;have d0:=c0.size;have c6:=(TyR.of_tys a3).below ((QN (O17 l z m.length A B t.length C)).trans (a1.mono Fr));have c7:=(TyR.of_tys a4).below ((QN (O17 l z m.length A B t.length C)).trans (a1.mono Fr));go_wp2_with fail;obtain rfl:=Ba HE;refine tb (.tuple #[.agg #[.s z m.length A,.s B t.length C],.bool true]) (by simp[results,results185,go_sem,K,N]) ?_;exact⟨⟨z,m.length,A,B,t.length,C⟩,rfl,FrV.is.set2 ⟨c6,c7,b6,b7⟩ a2 _ _,(c0.setCell Fr _).setCell Fr _⟩
   rw[Pf G]at f;have c4:(l==p)=false:=by simp[G]
   have HG:Hid (Ka p ((c.map Prod.fst).drop (k+1))=r):=f;clear f G;go_wp2;go_roundw
   case rel=>exact⟨k+1,Bd,Lt,HG,b8,b9⟩
   case measure=>simp[intOf];omega
  have HE:Hid (none=r):=by unfold Hid;rw[<- Ba D,Bvi Fm,Ka]
  have kb:¬(k:Int)<(c.length:Int):=Bd;obtain⟨K,N⟩:=cl2 CR;obtain⟨q0,q1⟩:=fr2 CR;simp at K N;clear D;go_wp2_with fail;obtain rfl:=Ba HE;refine tb (.tuple #[.agg #[.s none 0 0,.s none 0 0],.bool false]) (by simp[results,results185,go_sem,K,N]) ?_;exact⟨⟨none,0,0,none,0,0⟩,rfl,⟨TyR.nil _,TyR.nil _,by simp[Ef],by simp[Ef]⟩,(hB.setCell Fr _).setCell Fr _⟩
def Iv (T:TI)(mp:Int->Option Be)(x:Be)(q:Int):Bool:=!(mp q).isSome || Hx T x (Ef (mp q))
def J8 (T:TI)(mp:Int->Option Be)(x:Be)(q:Int):Int:=if (mp q).isSome=false then 8 else if Iv T mp x q=false then 9 else 0
def To (T:TI)(mp:Int->Option Be)(len:Int)(x:Be)(q:Int):Int:=if len<=q then 11 else if Iv T mp x q=false then 9 else 0
def Xl(b:PBd)(mp:Int->Option Be)(v:FrV)(x:Be)(q:Int)(w:TW)(hl:b.T.length<=1000)(hT:Dl w b.tg b.T)(hM:Ri b mp w)(hv:v.is x w):Calls prog 184 #[b.pval,v.val,.i q] w fun e f=>e=.r (.bool (Iv b.T mp x q))/\Bl w f:=by
 have a2:=fun f h=>hM q f h;have a3:=fun (u:FrV) y f (h:Bl w f) hu=>Bd5 (ya:=b.ya) (yn:=b.yn) (yc:=b.yc) b.T b.tg b.tc v u x y f hl (hT.below h) (hv.below h) hu;unfold Iv;generalize mp q=M at *;obtain⟨a4,a5,a6,a7,a8,a9,g,j,ya,yn,yc,l,m,s,t,A,B,C,D,F,G,cn,I,J,K,N,O,Q,V,Y,Z,T,L⟩:=b;obtain⟨xa,xn,xc,za,zn,zc⟩:=v;simp only[PBd.pval,FrV.val]at a2 a3 ⊢;have HM:=Bc a2;have b1:=Bc a3;clear a2 a3 hM hT hv;have a1:=Bx w ((O26 (.p g) T.length j ya yn yc l m s t A B C D F G cn I J K N O Q V Y L.length Z a4 a5 a6 a7 a8 a9 (.p g) T.length j ya yn yc l m s t A B C D F G cn I J K N O Q V Y L.length Z)) (O24 xa xn xc za zn zc);have P0:=Cb w ((O26 (.p g) T.length j ya yn yc l m s t A B C D F G cn I J K N O Q V Y L.length Z a4 a5 a6 a7 a8 a9 (.p g) T.length j ya yn yc l m s t A B C D F G cn I J K N O Q V Y L.length Z)) (O24 xa xn xc za zn zc);have X0:=Bv w ((O26 (.p g) T.length j ya yn yc l m s t A B C D F G cn I J K N O Q V Y L.length Z a4 a5 a6 a7 a8 a9 (.p g) T.length j ya yn yc l m s t A B C D F G cn I J K N O Q V Y L.length Z)) (O24 xa xn xc za zn zc);cases M with
 | none =>
  go_in;go_wp2_with (refine Bwd Hd 212 (.tmp 3) Hd w.heap.size Hd 212 _ (0,0) _ P0 Bv2 Hd Tryz.infoPass ?_)
  refine(Ba HM _ a1).mono ?_;rintro e w1 ⟨u,rfl,hu,c⟩;obtain⟨ua,un,uc,va,vn,vc⟩:=u;have a0:=QB a1 c;go_wp2;go_ret;exact⟨rfl,a0.alloc a0.size _⟩
 | some z =>
  go_in;go_wp2_with (refine Bwd Hd 212 (.tmp 3) Hd w.heap.size Hd 212 _ (0,0) _ P0 Bv2 Hd Tryz.infoPass ?_)
  refine(Ba HM _ a1).mono ?_;rintro e w1 ⟨u,rfl,hu,c⟩;obtain⟨ua,un,uc,va,vn,vc⟩:=u;have a0:=QB a1 c;have b2:=a0.size;have b0:=a0.alloc b2 (O24 ua un uc va vn vc);have hf:=Ba b1 ⟨ua,un,uc,va,vn,vc⟩ _ _ b0 (hu.below (QN (O24 ua un uc va vn vc)));simp only at hf;have HF:=Bc hf;have p0:=Bb (stay c P0) 0;have p1:=Bb (stay c P0) 1;have x0:=Bb (stay c X0) 0;have x1:=Bb (stay c X0) 1;have lP:=Pk (stay c P0);have lX:=Pk (stay c X0);simp at p0 p1 x0 x1;clear hf c P0 X0;go_wp2_with fail;refine Qm (Ba HF) ?_;intro w2 b3;go_wp2;go_ret;exact⟨Fr,QB b0 b3⟩
def Bgz(b:PBd)(mp:Int->Option Be)(v:FrV)(x:Be)(q:Int)(w:TW)(hl:b.T.length<=1000)(hT:Dl w b.tg b.T)(hM:Ri b mp w)(hv:v.is x w):Calls prog 235 #[b.pval,v.val,.i q] w fun e f=>e=.r (.i (J8 b.T mp x q))/\Bl w f:=by
 have a2:=fun f h=>hM q f h;have a3:=fun f (h:Bl w f)=>Xl b mp v x q f hl (hT.below h) (hM.below h) (hv.below h);unfold J8;generalize Iv b.T mp x q=FA at *;generalize mp q=M at *;obtain⟨a4,a5,a6,a7,a8,a9,g,j,ya,yn,yc,l,m,s,t,A,B,C,D,F,G,cn,I,J,K,N,O,Q,V,Y,Z,T,L⟩:=b;obtain⟨xa,xn,xc,za,zn,zc⟩:=v;simp only[PBd.pval,FrV.val]at a2 a3 ⊢;have HM:=Bc a2;have b1:=Bc a3;clear a2 a3 hM hT hv;have a1:=Bx w ((O26 (.p g) T.length j ya yn yc l m s t A B C D F G cn I J K N O Q V Y L.length Z a4 a5 a6 a7 a8 a9 (.p g) T.length j ya yn yc l m s t A B C D F G cn I J K N O Q V Y L.length Z)) (O24 xa xn xc za zn zc);have P0:=Cb w ((O26 (.p g) T.length j ya yn yc l m s t A B C D F G cn I J K N O Q V Y L.length Z a4 a5 a6 a7 a8 a9 (.p g) T.length j ya yn yc l m s t A B C D F G cn I J K N O Q V Y L.length Z)) (O24 xa xn xc za zn zc);have X0:=Bv w ((O26 (.p g) T.length j ya yn yc l m s t A B C D F G cn I J K N O Q V Y L.length Z a4 a5 a6 a7 a8 a9 (.p g) T.length j ya yn yc l m s t A B C D F G cn I J K N O Q V Y L.length Z)) (O24 xa xn xc za zn zc);cases M with
 | none =>
  go_in;go_wp2_with (refine Bwd Hd 212 (.tmp 3) Hd w.heap.size Hd 212 _ (0,0) _ P0 Bv2 Hd Tryz.infoPass ?_)
  refine(Ba HM _ a1).mono ?_;rintro e w1 ⟨u,rfl,hu,c⟩;obtain⟨ua,un,uc,va,vn,vc⟩:=u;have a0:=QB a1 c;go_wp2;go_ret;exact⟨rfl,a0.alloc a0.size _⟩
 | some z =>
  rw[Pf Fr];cases FA
  all_goals
   go_in;go_wp2_with (refine Bwd Hd 212 (.tmp 3) Hd w.heap.size Hd 212 _ (0,0) _ P0 Bv2 Hd Tryz.infoPass ?_)
   refine(Ba HM _ a1).mono ?_;rintro e w1 ⟨u,rfl,hu,c⟩;obtain⟨ua,un,uc,va,vn,vc⟩:=u;have a0:=QB a1 c;have b2:=a0.size;have b0:=a0.alloc b2 (O24 ua un uc va vn vc);have P1:=stay c P0;have x0:=Bb (stay c X0) 0;have x1:=Bb (stay c X0) 1;have lP:=Pk P1;have lX:=Pk (stay c X0);simp at x0 x1;have P2:=Bk P1 (O24 ua un uc va vn vc);clear c P0 X0;go_wp2_with (refine Bwd Hd 212 (.tmp 3) Hd w.heap.size Hd 212 _ (0,0) _ P2 Bv2 Hd Tryz.infoPass ?_)
   refine Qm (Ba b1 _ b0) ?_;intro w2 b3;go_wp2;go_ret;exact⟨rfl,QB b0 b3⟩
def Bqx(b:PBd)(mp:Int->Option Be)(v:FrV)(x:Be)(q:Int)(w:TW)(hl:b.T.length<=1000)(hT:Dl w b.tg b.T)(hM:Ri b mp w)(hv:v.is x w):Calls prog 236 #[b.pval,v.val,.i q] w fun e c=>e=.r (.i (To b.T mp (b.cn:Int) x q))/\Bl w c:=by
 have Y:=fun c (h:Bl w c)=>Xl b mp v x q c hl (hT.below h) (hM.below h) (hv.below h);unfold To;generalize Iv b.T mp x q=FA at *;obtain⟨a0,a1,a2,a3,a4,a5,f,g,ya,yn,yc,j,l,m,s,t,z,A,B,C,D,cn,F,G,I,J,K,N,O,Q,V,T,L⟩:=b;obtain⟨xa,xn,xc,za,zn,zc⟩:=v;simp only[PBd.pval,FrV.val]at Y ⊢;have a6:=Bc Y;clear Y hM hT hv;have Z:=Bx w ((O26 (.p f) T.length g ya yn yc j l m s t z A B C D cn F G I J K N O Q L.length V a0 a1 a2 a3 a4 a5 (.p f) T.length g ya yn yc j l m s t z A B C D cn F G I J K N O Q L.length V)) (O24 xa xn xc za zn zc);have P0:=Cb w ((O26 (.p f) T.length g ya yn yc j l m s t z A B C D cn F G I J K N O Q L.length V a0 a1 a2 a3 a4 a5 (.p f) T.length g ya yn yc j l m s t z A B C D cn F G I J K N O Q L.length V)) (O24 xa xn xc za zn zc);by_cases hq:(cn:Int)<=q;·rw[Sp hq];go_in;go_wp2;go_ret;exact⟨rfl,Z⟩
 rw[Pf hq];have a8:q<(cn:Int):=Bd
 cases FA
 all_goals
  go_in;go_wp2_with (refine Bwd Hd 212 (.tmp 3) Hd w.heap.size Hd 212 _ (0,0) _ P0 Bv2 Hd Tryz.infoPass ?_)
  refine Qm (Ba a6 _ Z) ?_;intro w2 a7;go_wp2;go_ret;exact⟨rfl,QB Z a7⟩
end Go.Proofs.YtpcgnjolfahacaaGreat
