/- the proof's parts -/
import Derived.Test.YtpcgnjolfahacaaGreatPk07
set_option maxRecDepth 100000
set_option maxHeartbeats 40000000
set_option linter.unusedVariables false
set_option linter.unusedSimpArgs false
set_option linter.defProp false
namespace Go.Proofs.YtpcgnjolfahacaaGreat
open Go.RowKit Go.Proofs.Tryz
variable{u:Nat}{w:TW}{g:TypeId}
abbrev Dr:Obj:=.cells #[.slice none 0 0,.slice none 0 0,.int .i64 0,.int .i64 0,.slice none 0 0,.int .i64 0,.int .i64 0,.int .i64 0,.int .i64 0,.slice none 0 0,.slice none 0 0,.slice none 0 0,.slice none 0 0,.slice none 0 0,.slice none 0 0,.slice none 0 0,.slice none 0 0,.int .i64 0,.int .i64 0,.slice none 0 0,.int .i64 0,.int .i64 0,.int .i64 0,.int .i64 0,.slice none 0 0,.slice none 0 0,.slice none 0 0,.slice none 0 0,.slice none 0 0,.bool false] 187
abbrev B07(fa1 fa2:Option Addr)(fl1 fc1 fl2 fc2 tg tc:Nat)(ya:Option Addr)(yn yc:Nat)(cl nm:Int)(pa:Option Addr)(pl pc:Nat)(r1 r2 lo st:Int)(ca:Option Addr)(n cc:Nat)(ha:Option Addr)(hl hc:Nat)(ma:Option Addr)(ml mc:Nat)(la:Option Addr)(lc tn rn G:Nat):Array Value:=#[.slice (some ⟨tg,0,none⟩) tn tc,.slice ya yn yc,.int .i64 cl,.int .i64 nm,.slice pa pl pc,.int .i64 r1,.int .i64 r2,.int .i64 lo,.int .i64 st,.slice ca n cc,.slice ha hl hc,.slice ma ml mc,.slice la rn lc,.slice fa1 fl1 fc1,.slice fa2 fl2 fc2,.slice (some ⟨tg,0,none⟩) tn tc,.slice ya yn yc,.int .i64 cl,.int .i64 nm,.slice pa pl pc,.int .i64 r1,.int .i64 r2,.int .i64 lo,.int .i64 st,.slice ca n cc,.slice ha hl hc,.slice ma ml mc,.slice la rn lc,.slice (some ⟨G,0,none⟩) n n,.bool false]
def Tryz.infoSearch:(prog.info? 187).map (·.size)=some 30:=Le
def Uu{k:Nat}{G e:Array Value}{c:TypeId}(h:w.heap[k]?=some (.cells G g (0,0)))(b:w.heap[k]?=some (.cells e c (0,0)))(f:g≠c):False:=by
 rw[h]at b;simp only[Option.some.injEq,Obj.cells.injEq]at b;exact f b.2.1
def Z8{b:TW}{S s:Nat}{f:PBd}{j:Nat}{Y:Bt}{K q m:Nat}{i:TX}{e:TV}(h:w.ownsRow K g q i m e)(z:Ed w S s f j Y)(B:Lw S s w b)(C:g≠187)(D:g≠260):b.ownsRow K g q i m e:=by
 obtain⟨A,F|⟨l,I,J,a,c,d,r⟩⟩:=h
 ·exact⟨A,.inl F⟩
 obtain⟨N,L,_⟩:=z.spt;exact⟨A,.inr ⟨l,I,J,a,c,B.stay d (fun p=>by subst p;exact Uu d z.blk C) (fun p=>by subst p;exact Uu d L D),r⟩⟩
def TyR.uniq{a:TA}{n c:Nat}{l p:TP}(h:TyR w (.s a n c) l)(e:TyR w (.s a n c) p):l=p:=by
 obtain⟨I,-,-⟩:=h.cap;obtain⟨J,-,-⟩:=e.cap;have m:l.length=p.length:=Bd;by_cases q:l.length=0;·rw[Bwc q,Bwc (l:=p) Bd]
 obtain⟨g,o,t,_,v⟩:=h.at Bd;obtain⟨K,L,b,_,z⟩:=e.at Bd;rw[t]at b;simp only[Option.some.injEq,Addr.mk.injEq,Bwb]at b;obtain⟨rfl,rfl⟩:=b;refine Bz4 m (fun i A B=>?_);obtain⟨C,D⟩:=v i A;obtain⟨F,G⟩:=z i B;have f:=C.symm.trans F;have j:=D.symm.trans G;simp only[Option.some.injEq,Value.int.injEq,Byl]at f j;exact Bxd f j
def Ed.uniq{S s:Nat}{b:PBd}{j:Nat}{Y t:Bt}(h:Ed w S s b j Y)(D:Ed w S s b j t):Y=t:=by
 have e:=h.blk.symm.trans D.blk;simp only[Option.some.injEq,Obj.cells.injEq,Array.mk.injEq,List.cons.injEq,Value.slice.injEq,Value.bool.injEq,Byl,Bwb]at e;obtain⟨F,I⟩:=e;obtain⟨z,J⟩:=Y;obtain⟨A,a0⟩:=t;simp only at F I;subst I
 congr 1
 refine Bz4 F (fun i K L=>?_);obtain⟨v,B,x0,x1,N,O,Q⟩:=h.at (i:=i) K;obtain⟨v',C,m,q,f,g,l⟩:=D.at (i:=i) L;have a1:(⟨z,J⟩:Bt).at i=z[i]:=by unfold Bt.at;rw[Th,Ws K];rfl
 have a2:(⟨A,J⟩:Bt).at i=A[i]:=by unfold Bt.at;rw[Th,Ws L];rfl
 rw[a1]at B N O Q;rw[a2]at C f g l;rw[x0]at m;rw[x1]at q;rw[N]at f;rw[O]at g;rw[Q]at l;simp only[Option.some.injEq,Value.slice.injEq,Value.bool.injEq]at m q f g l;obtain⟨la,ln,lc,sa,sn,sc⟩:=v;obtain⟨a3,a4,a5,a6,a7,a8⟩:=v';simp only at m q;obtain⟨rfl,rfl,rfl⟩:=m;obtain⟨rfl,rfl,rfl⟩:=q;have V:=B.lo.uniq C.lo;have Z:=B.st.uniq C.st;generalize z[i]=p at *;generalize A[i]=p' at *;obtain⟨⟨pl,ps⟩,a,c,d⟩:=p;obtain⟨⟨a9,b0⟩,a',c',d'⟩:=p';simp only at V Z f g l;subst V Z f g l;rfl
def Btm(f:Bt->Nat)(S G:Nat)(b:PBd)(g:Nat):∃M:TX->TW->Nat,(∀w t,Ed w S G b g t->M (.bool true) w=f t+1)/\∀w,M (.bool false) w=0:=by
 have i:∀(v:TX) (w:TW),∃n:Nat,(∀t,Ed w S G b g t->v=.bool true->n=f t+1)/\(v=.bool false->n=0):=fun v w=>by
  by_cases j:v=.bool true
  ·by_cases h:∃t,Ed w S G b g t;·obtain⟨t,c⟩:=h;exact⟨f t+1,fun m l _=>by rw[c.uniq l],fun e=>by rw[j]at e;simp at e⟩
   exact⟨0,fun t c _=>absurd ⟨t,c⟩ h,fun _=>rfl⟩
  exact⟨0,fun _ _ e=>absurd e j,fun _=>rfl⟩
 exact⟨fun v w=>Classical.choose (i v w),fun w t c=>(B0r (i (.bool true) w)).1 t c rfl,fun w=>(B0r (i (.bool false) w)).2 rfl⟩
def Bnt(Q V:TA)(Y Z a0 a1 I J:Nat)(ya:TA)(yn yc:Nat)(T:TI)(m:PM)(x:Rd.Mth)(bm:Nat)(x0:Be)(lk:Cd.Ins->Be->Bt->Bt)(OK:Bt->Prop)(mu:Bt->Nat)(done:Bt->Bt)(w:TW) (hl:T.length<=1000)(hT:Dl w I T)(hm:m.is x w bm)(c2:x.code.length<=1000)(d9:∀y∈x.code,0<=y) (f0:∀B,Bl w B->Calls prog 110 #[m.val] B fun e b4=>∃u:FrV,e=.returned u.val/\u.is x0 b4/\Bl B b4) (h0:OK (D9 T m.st x0 0 ⟨List.replicate x.code.length Jz,false⟩)) (f1:∀t,OK t->done t=if ((Ct lk (Cd.readL x.code) false t).2 && !(Ct lk (Cd.readL x.code) false t).1.hop)=true then done (Ct lk (Cd.readL x.code) false t).1 else (Ct lk (Cd.readL x.code) false t).1) (b0:∀t,OK t->((Ct lk (Cd.readL x.code) false t).2 && !(Ct lk (Cd.readL x.code) false t).1.hop)=true->mu (Ct lk (Cd.readL x.code) false t).1<mu t) (f2:∀D F bb S G t B,Bl w B->w.heap.size<=S->w.heap.size<=G->Hs B bb (.s D (Cd.readL x.code).length F) (Cd.readL x.code)->OK t->Ed B S G ⟨Q,Y,Z,V,a0,a1,I,J,ya,yn,yc,m.cl,m.nm,m.pa,m.pl,m.pc,m.r1,m.r2,m.lo,m.st,m.ca,x.code.length,m.cc,m.ha,m.hl,m.hc,m.ma,m.ml,m.mc,D,F,T,Cd.readL x.code⟩ x.code.length t->Calls prog 112 #[.q S 0] B fun e b4=>e=.r (.bool ((Ct lk (Cd.readL x.code) false t).2 && !(Ct lk (Cd.readL x.code) false t).1.hop))/\Ed b4 S G ⟨Q,Y,Z,V,a0,a1,I,J,ya,yn,yc,m.cl,m.nm,m.pa,m.pl,m.pc,m.r1,m.r2,m.lo,m.st,m.ca,x.code.length,m.cc,m.ha,m.hl,m.hc,m.ma,m.ml,m.mc,D,F,T,Cd.readL x.code⟩ x.code.length (Ct lk (Cd.readL x.code) false t).1/\OK (Ct lk (Cd.readL x.code) false t).1/\Lw S G B b4):Calls prog 70 #[.agg #[.s Q Y Z,.s V a0 a1],.agg #[.s (.p I) T.length J,.s ya yn yc],m.val] w fun e B=>∃a n c,e=.r (.tuple #[.s a n c,.bool (!(done (D9 T m.st x0 0 ⟨List.replicate x.code.length Jz,false⟩)).hop)])/\((done (D9 T m.st x0 0 ⟨List.replicate x.code.length Jz,false⟩)).hop=false->∃ms,ms.map Prod.fst=Fp 0 (done (D9 T m.st x0 0 ⟨List.replicate x.code.length Jz,false⟩)).sp/\Sz B w.heap.size (.s a n c) ms)/\Bl w B:=by
 have h6:=hm.cn;obtain⟨cl,nm,pa,pl,pc,r1,r2,lo,L,N,cn,O,ha,a3,hc,ma,ml,mc⟩:=m;simp only[PM.val,FrV.val]at *;subst h6;have c3:=fun B (h:Bl w B)=>Ap x.code N O bm B c2 d9 (hm.below h).code;have j4:=fun B=>Bqb x.code.length c2 B;have c4:=fun D F B=>Bgh ⟨Q,Y,Z,V,a0,a1,I,J,ya,yn,yc,cl,nm,pa,pl,pc,r1,r2,lo,L,N,x.code.length,O,ha,a3,hc,ma,ml,mc,D,F,T,Cd.readL x.code⟩ B;have c5:=fun D F S G s v y B h7 h hv=>Za ⟨Q,Y,Z,V,a0,a1,I,J,ya,yn,yc,cl,nm,pa,pl,pc,r1,r2,lo,L,N,x.code.length,O,ha,a3,hc,ma,ml,mc,D,F,T,Cd.readL x.code⟩ S G x.code.length s v y 0 B hl h7 h hv;simp only[PBd.val]at c4 c5 c3;generalize hR:done (D9 T L x0 0 ⟨List.replicate x.code.length Jz,false⟩)=R;have HR:=Bc hR;have f3:=Bc c4;have h8:=Bc c3;have f4:=Bc c5;have f5:=Bc f0;have h9:=Bc f2;have i0:=Bc f1;have i1:=Bc b0;have H0:=Bc h0;clear hR c4 c3 c5 f0 f2 f1 b0 h0 hm d9 hl;have c6:=Is w (O1 Q Y Z V a0 a1) (O2 (.p I) T.length J ya yn yc) (O18 cl nm pa pl pc r1 r2 lo L N x.code.length O ha a3 hc ma ml mc);obtain⟨F0,T0,M0⟩:=W8 w (O1 Q Y Z V a0 a1) (O2 (.p I) T.length J ya yn yc) (O18 cl nm pa pl pc r1 r2 lo L N x.code.length O ha a3 hc ma ml mc);go_in;go_wp2_with fail;refine(Ba h8 _ c6).mono ?_;rintro e f ⟨D,F,rfl,f6,b5⟩;obtain⟨bb,f7⟩:∃bb,Hs f bb (.s D (Cd.readL x.code).length F) (Cd.readL x.code):=⟨_,f6⟩;clear f6;have c7:=QB c6 b5;have b6:=stay b5 F0;have b7:=stay b5 T0;have b1:=stay b5 M0;have l:Bl f f.drew:=(Vm _ _).drew;have b2:=Bc (Ba f3 D F);clear F0 T0 M0 c6 b5 f3
 go_upto_region 2 with fail
 go_cut [11] from 12 (fun i2 wx=>∃S G,i2=.q S 0/\wx.heap[S]?=some (O27 (.p I) T.length J ya yn yc cl nm pa pl pc r1 r2 lo L N x.code.length O ha a3 hc ma ml mc D (Cd.readL x.code).length F Q Y Z V a0 a1 (.p I) T.length J ya yn yc cl nm pa pl pc r1 r2 lo L N x.code.length O ha a3 hc ma ml mc D (Cd.readL x.code).length F (.p G) x.code.length x.code.length false)/\wx.heap[G]?=some (.cells (Dg x.code.length) 260 (0,0))/\S≠G/\f.heap.size<=S/\f.heap.size<=G/\Bl f wx)
 case first=>
  go_wp2;have ST:=fun B (h:Bl f B)=>Ek (stay h b6) (stay h b7) (stay h b1);refine Bvz (S:=(fun B=>(B.C w.heap.size 0 (.s Q Y Z)/\B.C w.heap.size 1 (.s V a0 a1))/\(B.C (w.heap.size+1) 0 (.s (.p I) T.length J)/\B.C (w.heap.size+1) 1 (.s ya yn yc))/\B.C (w.heap.size+1+1) 0 (.i cl)/\B.C (w.heap.size+1+1) 1 (.i nm)/\B.C (w.heap.size+1+1) 2 (.s pa pl pc)/\B.C (w.heap.size+1+1) 3 (.i r1)/\B.C (w.heap.size+1+1) 4 (.i r2)/\B.C (w.heap.size+1+1) 5 (.i lo)/\B.C (w.heap.size+1+1) 6 (.i L)/\B.C (w.heap.size+1+1) 7 (.s N x.code.length O)/\B.C (w.heap.size+1+1) 8 (.s ha a3 hc)/\B.C (w.heap.size+1+1) 9 (.s ma ml mc))) Le (Ek b6 b7 b1) (fun j=>?_);refine tq 0 (.agg #[.s (.p I) T.length J,.s ya yn yc]) j ?_;refine tq 1 (.agg #[.i cl,.i nm,.s pa pl pc,.i r1,.i r2,.i lo,.i L,.s N x.code.length O,.s ha a3 hc,.s ma ml mc]) j ?_;refine tq 2 (.s D (Cd.readL x.code).length F) j ?_;refine tq 3 (.agg #[.s Q Y Z,.s V a0 a1]) j ?_;refine tq 4 (.agg #[.s (.p I) T.length J,.s ya yn yc]) j ?_;refine tq 5 (.agg #[.i cl,.i nm,.s pa pl pc,.i r1,.i r2,.i lo,.i L,.s N x.code.length O,.s ha a3 hc,.s ma ml mc]) j ?_;refine tq 6 (.s D (Cd.readL x.code).length F) j ?_;refine tq 8 (.q (w.heap.size+1+1) 7) j ?_;refine tq 9 (.s N x.code.length O) j ?_;refine tq 10 (.i (x.code.length:Int)) j ?_;refine Bw7 (rs:=[7,11,13]) Le Fr ?_;refine Bv3 (o:=⟨_,_,_,_,_,_⟩) rfl (fun K z=>?_) (Bv3 (o:=⟨_,_,_,_,_,_⟩) rfl (fun K z=>?_) (Bv3 (o:=⟨_,_,_,_,_,_⟩) rfl (fun K z=>?_) Bw2));go_simp;refine Qm (Ba b2 _) ?_;intro g a4;have A:Bl f g:=(l).trans (a4.mono (l).size)
  try dsimp only
  clear j;refine z.out _ _ (ST _ (A)) (fun j=>?_);clear z K
  try simp only[QX]
  refine Bw7 (rs:=[11,13]) Le Fr ?_;refine Bv3 (o:=⟨_,_,_,_,_,_⟩) rfl (fun K z=>?_) (Bv3 (o:=⟨_,_,_,_,_,_⟩) rfl (fun K z=>?_) Bw2);go_simp;clear j;refine z.out _ _ (ST _ ((A).alloc (A).size (.cells (Dg x.code.length) 260))) (fun j=>?_);clear z K
  try simp only[QX]
  refine tq 12 (.agg (B07 Q V Y Z a0 a1 I J ya yn yc cl nm pa pl pc r1 r2 lo L N x.code.length O ha a3 hc ma ml mc D F T.length (Cd.readL x.code).length (g.heap.size))) j ?_;refine tr 13 fun K z=>?_;go_simp;clear j;refine z.out _ _ (ST _ (((A).alloc (A).size (.cells (Dg x.code.length) 260)).alloc ((A).alloc (A).size (.cells (Dg x.code.length) 260)).size Dr)) (fun j=>?_);clear z K
  try simp only[QX]
  have a2:(((((g).alloc (.cells (Dg x.code.length) 260))).alloc Dr)).heap[g.heap.size+1]?=some Dr:=Bv g (.cells (Dg x.code.length) 260) Dr;have a5:(((((g).alloc (.cells (Dg x.code.length) 260))).alloc Dr)).heap[g.heap.size]?=some (.cells (Dg x.code.length) 260 (0,0)):=Bk (Bf g (.cells (Dg x.code.length) 260)) _;have a6:g.heap.size+1≠g.heap.size:=fun e=>by rw[e]at a2;exact Uu a2 a5 Ck
  have a7:Bl f (((((g).alloc (.cells (Dg x.code.length) 260))).alloc Dr)):=((A).alloc (A).size (.cells (Dg x.code.length) 260)).alloc ((A).alloc (A).size (.cells (Dg x.code.length) 260)).size Dr;have a8:f.heap.size<=g.heap.size+1:=by have:=((A).alloc (A).size (.cells (Dg x.code.length) 260)).size;(try simp at this ⊢)<;>(try omega)
  have b3:f.heap.size<=g.heap.size:=(A).size
  rotate_left
  go_simp;clear j;refine z.out _ _ (ST _ ((A).alloc (A).size Dr)) (fun j=>?_);clear z K
  try simp only[QX]
  refine tr 11 fun K z=>?_;go_simp;clear j;refine z.out _ _ (ST _ (((A).alloc (A).size Dr).alloc ((A).alloc (A).size Dr).size (.cells (Dg x.code.length) 260))) (fun j=>?_);clear z K
  try simp only[QX]
  refine tq 12 (.agg (B07 Q V Y Z a0 a1 I J ya yn yc cl nm pa pl pc r1 r2 lo L N x.code.length O ha a3 hc ma ml mc D F T.length (Cd.readL x.code).length (g.heap.size+1))) j ?_;have a2:(((((g).alloc Dr)).alloc (.cells (Dg x.code.length) 260))).heap[g.heap.size]?=some Dr:=Bk (Bf g Dr) _;have a5:(((((g).alloc Dr)).alloc (.cells (Dg x.code.length) 260))).heap[g.heap.size+1]?=some (.cells (Dg x.code.length) 260 (0,0)):=Bv g Dr (.cells (Dg x.code.length) 260);have a6:g.heap.size≠g.heap.size+1:=fun e=>by rw[e]at a2;exact Uu a2 a5 Ck
  have a7:Bl f (((((g).alloc Dr)).alloc (.cells (Dg x.code.length) 260))):=((A).alloc (A).size Dr).alloc ((A).alloc (A).size Dr).size (.cells (Dg x.code.length) 260);have a8:f.heap.size<=g.heap.size:=(A).size;have b3:f.heap.size<=g.heap.size+1:=by have:=((A).alloc (A).size Dr).size;(try simp at this ⊢)<;>(try omega)
  rotate_left
  go_simp;clear j;refine z.out _ _ (ST _ ((l).alloc (l).size (.cells (Dg x.code.length) 260))) (fun j=>?_);clear z K
  try simp only[QX]
  refine Bw7 (rs:=[7,13]) Le Fr ?_;refine Bv3 (o:=⟨_,_,_,_,_,_⟩) rfl (fun K z=>?_) (Bv3 (o:=⟨_,_,_,_,_,_⟩) rfl (fun K z=>?_) Bw2);go_simp;refine Qm (Ba b2 _) ?_;intro g a4;have A:Bl f g:=((l).alloc (l).size (.cells (Dg x.code.length) 260)).trans (a4.mono ((l).alloc (l).size (.cells (Dg x.code.length) 260)).size)
  try dsimp only
  clear j;refine z.out _ _ (ST _ (A)) (fun j=>?_);clear z K
  try simp only[QX]
  refine tq 12 (.agg (B07 Q V Y Z a0 a1 I J ya yn yc cl nm pa pl pc r1 r2 lo L N x.code.length O ha a3 hc ma ml mc D F T.length (Cd.readL x.code).length (f.heap.size))) j ?_;refine tr 13 fun K z=>?_;go_simp;clear j;refine z.out _ _ (ST _ ((A).alloc (A).size Dr)) (fun j=>?_);clear z K
  try simp only[QX]
  have a2:(((g).alloc Dr)).heap[g.heap.size]?=some Dr:=Bf g Dr;have a5:(((g).alloc Dr)).heap[f.heap.size]?=some (.cells (Dg x.code.length) 260 (0,0)):=Bk (stay a4 (Bf f.drew (.cells (Dg x.code.length) 260))) _;have a6:g.heap.size≠f.heap.size:=fun e=>by rw[e]at a2;exact Uu a2 a5 Ck
  have a7:Bl f (((g).alloc Dr)):=(A).alloc (A).size Dr;have a8:f.heap.size<=g.heap.size:=(A).size;have b3:f.heap.size<=f.heap.size:=(l).size
  rotate_left
  go_simp;clear j;refine z.out _ _ (ST _ (((l).alloc (l).size (.cells (Dg x.code.length) 260)).alloc ((l).alloc (l).size (.cells (Dg x.code.length) 260)).size Dr)) (fun j=>?_);clear z K
  try simp only[QX]
  refine tr 7 fun K z=>?_;go_simp;refine Qm (Ba b2 _) ?_;intro g a4;have A:Bl f g:=(((l).alloc (l).size (.cells (Dg x.code.length) 260)).alloc ((l).alloc (l).size (.cells (Dg x.code.length) 260)).size Dr).trans (a4.mono (((l).alloc (l).size (.cells (Dg x.code.length) 260)).alloc ((l).alloc (l).size (.cells (Dg x.code.length) 260)).size Dr).size)
  try dsimp only
  clear j;refine z.out _ _ (ST _ (A)) (fun j=>?_);clear z K
  try simp only[QX]
  refine tq 12 (.agg (B07 Q V Y Z a0 a1 I J ya yn yc cl nm pa pl pc r1 r2 lo L N x.code.length O ha a3 hc ma ml mc D F T.length (Cd.readL x.code).length (f.heap.size))) j ?_;have a2:(g).heap[f.heap.size+1]?=some Dr:=stay a4 (Bv f.drew (.cells (Dg x.code.length) 260) Dr);have a5:(g).heap[f.heap.size]?=some (.cells (Dg x.code.length) 260 (0,0)):=stay a4 (Bk (Bf f.drew (.cells (Dg x.code.length) 260)) _);have a6:f.heap.size+1≠f.heap.size:=fun e=>by rw[e]at a2;exact Uu a2 a5 Ck
  have a7:Bl f (g):=A;have a8:f.heap.size<=f.heap.size+1:=by have:=((l).alloc (l).size (.cells (Dg x.code.length) 260)).size;(try simp at this ⊢)<;>(try omega)
  have b3:f.heap.size<=f.heap.size:=(l).size
  rotate_left
  go_simp;clear j;refine z.out _ _ (ST _ ((l).alloc (l).size Dr)) (fun j=>?_);clear z K
  try simp only[QX]
  refine Bw7 (rs:=[7,11]) Le Fr ?_;refine Bv3 (o:=⟨_,_,_,_,_,_⟩) rfl (fun K z=>?_) (Bv3 (o:=⟨_,_,_,_,_,_⟩) rfl (fun K z=>?_) Bw2);go_simp;refine Qm (Ba b2 _) ?_;intro g a4;have A:Bl f g:=((l).alloc (l).size Dr).trans (a4.mono ((l).alloc (l).size Dr).size)
  try dsimp only
  clear j;refine z.out _ _ (ST _ (A)) (fun j=>?_);clear z K
  try simp only[QX]
  refine tr 11 fun K z=>?_;go_simp;clear j;refine z.out _ _ (ST _ ((A).alloc (A).size (.cells (Dg x.code.length) 260))) (fun j=>?_);clear z K
  try simp only[QX]
  refine tq 12 (.agg (B07 Q V Y Z a0 a1 I J ya yn yc cl nm pa pl pc r1 r2 lo L N x.code.length O ha a3 hc ma ml mc D F T.length (Cd.readL x.code).length (g.heap.size))) j ?_;have a2:(((g).alloc (.cells (Dg x.code.length) 260))).heap[f.heap.size]?=some Dr:=Bk (stay a4 (Bf f.drew Dr)) _;have a5:(((g).alloc (.cells (Dg x.code.length) 260))).heap[g.heap.size]?=some (.cells (Dg x.code.length) 260 (0,0)):=Bf g (.cells (Dg x.code.length) 260);have a6:f.heap.size≠g.heap.size:=fun e=>by rw[e]at a2;exact Uu a2 a5 Ck
  have a7:Bl f (((g).alloc (.cells (Dg x.code.length) 260))):=(A).alloc (A).size (.cells (Dg x.code.length) 260);have a8:f.heap.size<=f.heap.size:=(l).size;have b3:f.heap.size<=g.heap.size:=(A).size
  rotate_left
  go_simp;clear j;refine z.out _ _ (ST _ (((l).alloc (l).size Dr).alloc ((l).alloc (l).size Dr).size (.cells (Dg x.code.length) 260))) (fun j=>?_);clear z K
  try simp only[QX]
  refine tr 7 fun K z=>?_;go_simp;refine Qm (Ba b2 _) ?_;intro g a4;have A:Bl f g:=(((l).alloc (l).size Dr).alloc ((l).alloc (l).size Dr).size (.cells (Dg x.code.length) 260)).trans (a4.mono (((l).alloc (l).size Dr).alloc ((l).alloc (l).size Dr).size (.cells (Dg x.code.length) 260)).size)
  try dsimp only
  clear j;refine z.out _ _ (ST _ (A)) (fun j=>?_);clear z K
  try simp only[QX]
  refine tq 12 (.agg (B07 Q V Y Z a0 a1 I J ya yn yc cl nm pa pl pc r1 r2 lo L N x.code.length O ha a3 hc ma ml mc D F T.length (Cd.readL x.code).length (f.heap.size+1))) j ?_;have a2:(g).heap[f.heap.size]?=some Dr:=stay a4 (Bk (Bf f.drew Dr) _);have a5:(g).heap[f.heap.size+1]?=some (.cells (Dg x.code.length) 260 (0,0)):=stay a4 (Bv f.drew Dr (.cells (Dg x.code.length) 260));have a6:f.heap.size≠f.heap.size+1:=fun e=>by rw[e]at a2;exact Uu a2 a5 Ck
  have a7:Bl f (g):=A;have a8:f.heap.size<=f.heap.size:=(l).size;have b3:f.heap.size<=f.heap.size+1:=by have:=((l).alloc (l).size Dr).size;(try simp at this ⊢)<;>(try omega)
  rotate_left
  all_goals
   refine tr 14 fun K z=>?_;refine Fv Hd 187 _ _ Hd _ _ Hd Hd 187 _ a2 (by exact Tryz.infoSearch) Hd (by simp[Value.oneCell']) ?_;clear j;refine z.out _ _ (Ek ((Ce (by have:=Pk b6;omega)).trans (stay a7 b6)) ((Ce (by have:=Pk b7;omega)).trans (stay a7 b7)) ((Ce (by have:=Pk b1;omega)).trans (stay a7 b1))) (fun j=>?_);clear z K
   try simp only[Act.put]
   refine Bv9 Le ?_ _;go_wp2
   go_meet
   case rel=>exact⟨_,_,rfl,Li a2,(Ce (fun e=>a6 e.symm)).trans a5,a6,a8,b3,Nt a7 a8 _⟩
 case rest=>
  obtain⟨S,G,rfl,hS,hG,a6,j5,j6,b8⟩:=hcut;have f8:=QB c7 b8;have j7:=c7.size;have L3:=Ed.made (b:=⟨Q,Y,Z,V,a0,a1,I,J,ya,yn,yc,cl,nm,pa,pl,pc,r1,r2,lo,L,N,x.code.length,O,ha,a3,hc,ma,ml,mc,D,F,T,Cd.readL x.code⟩) hS hG a6 c2;have c8:=stay b8 b1;have f9:=f7.kp (Kp.of_below (e:=none) b8) Ck;have c9:w.heap.size<=S:=Bd;have d0:w.heap.size<=G:=Bd;clear hS hG b6 b7 b1 l b2 c7 b8 f7 a6;obtain⟨m0,m1,m2,m3,m4,m5,m6,m7,m8,m9⟩:=N7 c8;have lM:=Pk c8;simp at m0 m1 m2 m3 m4 m5 m6 m7 m8 m9;go_wp2_with fail;refine(Ba f5 _ f8).mono ?_;rintro e w4 ⟨u,rfl,g0,d1⟩;obtain⟨ua,un,uc,va,vn,vc⟩:=u;have b9:Bl wc (w4.alloc (O24 ua un uc va vn vc)):=d1.alloc d1.size _;have L4:=L3.below b9;have d2:=QB f8 b9;have g1:=f9.kp (Kp.of_below (e:=none) b9) Ck;have g2:=g0.below (QN (O24 ua un uc va vn vc));have d3:=Bf w4 (O24 ua un uc va vn vc);have d4:=Ba f4 D F S G _ ⟨ua,un,uc,va,vn,vc⟩ x0 _ (hT.below d2) L4 g2;simp only[FrV.val]at d4;have g3:=Bc d4;obtain⟨c0,c1⟩:=cl2 d3;have lC:=Pk d3;simp at c0 c1;clear d4 L3 c8 f9 g0 d1 b9 m0 m1 m2 m3 m4 m5 m6 m7 m8 m9 lM;go_wp2_with fail;refine Qm (Ba g3) ?_;rintro g ⟨L5,K5⟩;have g4:Hs g bb (.s D (Cd.readL x.code).length F) (Cd.readL x.code):=Z8 g1 L4 K5 Ck Ck;have g5:=d2.trans (K5.below c9 d0 d2.size);clear L4 K5 g1 g2 d3 c0 c1 lC g3 f4 f5;generalize D9 T L x0 0 ⟨List.replicate x.code.length Jz,false⟩=t0 at *;obtain⟨ME,g6,g7⟩:=Btm mu S G ⟨Q,Y,Z,V,a0,a1,I,J,ya,yn,yc,cl,nm,pa,pl,pc,r1,r2,lo,L,N,x.code.length,O,ha,a3,hc,ma,ml,mc,D,F,T,Cd.readL x.code⟩ x.code.length;have g8:=Bc g6;have i3:=Bc g7;clear g6 g7;go_wp2
  go_loopw [13] (fun d5 wr=>∃(t:Bt) (ag:Bool),d5=.bool ag/\Hid (OK t)/\Hid ((if ag=true then done t else t)=R) /\
    Ed wr S G ⟨Q,Y,Z,V,a0,a1,I,J,ya,yn,yc,cl,nm,pa,pl,pc,r1,r2,lo,L,N,x.code.length,O,ha,a3,hc,ma,ml,mc,D,F,T,Cd.readL x.code⟩ x.code.length t/\Hs wr bb (.s D (Cd.readL x.code).length F) (Cd.readL x.code)/\Bl w wr/\True)
   (fun d5 wr=>ME d5 wr)
  case atStart=>exact⟨t0,true,rfl,H0,by unfold Hid;rw[Sp rfl];exact Ba HR,L5,g4,g5,trivial⟩
  case round=>
   clear L5 g4 g5 H0 HR;obtain⟨t,ag,rfl,HO,HT,L6,d6,a9,-⟩:=hrel;cases ag with
   | true =>
    have d7:=Ba h9 D F bb S G t _ a9 c9 d0 d6 (Ba HO) L6;have g9:=Ba i0 t (Ba HO);have b0:=Ba i1 t (Ba HO);have h1:=Ba g8 _ _ L6;have hr:=Ba HT;rw[Sp rfl,g9]at hr;generalize hP:Ct lk (Cd.readL x.code) false t=P at *;obtain⟨P1,P2⟩:=P;simp only at d7 hr b0;generalize (P2 && !P1.hop)=ag at *;have i4:=Bc d7;have i5:Hid ((if ag=true then done P1 else P1)=R):=hr
    have i6:=Bc b0;have i7:=Bc h1;clear d7 g9 b0 hr hP HT h1;go_wp2_with fail;refine Qm (Ba i4) ?_;rintro w7 ⟨L7,h2,K7⟩;have i8:Hs w7 bb (.s D (Cd.readL x.code).length F) (Cd.readL x.code):=Z8 d6 L6 K7 Ck Ck;have i9:=a9.trans (K7.below c9 d0 a9.size);have j0:=Bc h2;clear L6 d6 a9 K7 HO h2;go_wp2;go_roundw
    case rel=>exact⟨P1,ag,rfl,j0,i5,L7,i8,i9,trivial⟩
    case measure=>
     rw[Ba i7];cases ag with
     | false=>rw[Ba i3];omega
     | true=>rw[Ba g8 _ _ L7];have:=Ba i6 rfl;omega
   | false =>
    have hr:t=R:=by have:=Ba HT;simpa using this
    subst hr;have d8:=Bb L6.blk 29;have j8:=Pk L6.blk;simp at d8;clear HT;cases hh:t.hop with
    | true =>
     rw[hh]at d8;have HH:=Bc hh;clear hh;go_wp2;refine tb (.tuple #[.s none 0 0,.bool false]) (by simp[results,results70,go_sem]) ?_;exact⟨none,0,0,by rw[Ba HH];rfl,fun h=>(by rw[Ba HH]at h;cases h),a9⟩
    | false =>
     rw[hh]at d8;have HH:=Bc hh;have h3:=Bnr _ S G _ t _ L6;have j1:=Bc h3;clear hh h3;go_wp2_with fail;refine(Ba j1).mono ?_;rintro e w8 ⟨a,n,c,ms,rfl,j2,h4,j3⟩;go_wp2;refine tb (.tuple #[.s a n c,.bool true]) (by simp[results,results70,go_sem]) ?_;have h5:=a9.size;exact⟨a,n,c,by rw[Ba HH];rfl,fun _=>⟨ms,j2,D8 h4.1 h5,h4.2⟩,a9.trans (j3.mono h5)⟩
def TyR.wg{n:Nat}{b:TW}{i:TX}{q:TP}(h:TyR w i q)(p:WG n w b):TyR b i q:=by
 rcases h with h|⟨g,o,c,e,s,f,t,z,A⟩
 ·exact .inl h
 have m:=p.kp g e _ f Ck Ck;refine .inr ⟨g,o,c,e,s,m,t,z,fun j x B=>?_⟩;rw[Bb m,<- Bb f];exact A j x B
def Sz.wg{n s:Nat}{i:TX}{l:List (Rd.Mp×Value×Value)}{b:TW}(h:Sz w s i l)(c:WG n w b):Sz b s i l :=
 ⟨Lx h.1 c Ck Ck,fun p e=>⟨(h.2 p e).1.wg c,(h.2 p e).2.wg c⟩⟩
def Bag(n B:Nat)(l:TB)(b:TP)(a:TA)(m c:Nat)(w:TW)(hl:l.length+2*b.length<=100000)(Y:J7 w n B l)(A:TyR w (.s a m c) b):Calls prog 72 #[.q B 0,.s a m c] w fun e C=>e=.r (.tuple #[])/\J7 C n B (l++Fh b)/\WG n w C:=by
 obtain⟨Z,-,-⟩:=A.cap;subst Z;go_in;go_wp2
 go_loopw [8] (fun v wr=>∃k:Nat,k<=b.length/\v=.i (k:Int)/\J7 wr n B (l++Fh (b.take k))/\WG n w wr)
  (fun v _=>b.length-(intOf v).toNat)
 case atStart=>exact⟨0,Bd,rfl,by simpa[Fh] using Y,WG.refl n w⟩
 case round=>
  obtain⟨k,hk,rfl,f,h⟩:=hrel;have a2:=f.lt;by_cases D:k<b.length
  ·obtain⟨g,o,hg,a3,F⟩:=(A.wg h).at Bd;obtain⟨G,I⟩:=F k D;have J:b.take (k+1)=b.take k++[b[k]]:=by rw[Bvs D]
   have K:(b.take k).length=k:=Fm;generalize b[k]=t at *;obtain⟨j,p⟩:=t;simp only at G I;have z:=Kf (b.take k);rw[K]at z;have HD:Hid (l++Fh (b.take (k+1))=l++Fh (b.take k)++N8 (j,p)):=by unfold Hid;rw[J];simp[Fh]
   have a0:(l++Fh (b.take k)).length+2<=100000:=by rw[Up,z];omega
   generalize l++Fh (b.take k)=L at *;have N:=f.alloc (O7 j p);have O:=h.alloc Bd (O7 j p);clear F J K z;subst hg;go_wp2_with fail;refine Qm (Bc3 n B L j p _ a0 N) ?_;rintro w2 ⟨Q,V⟩;have a1:=O.trans V;rw[<- Ba HD]at Q;clear G I V O h N f;go_wp2;go_roundw
   case rel=>exact⟨k+1,Bd,Lt,Q,a1⟩
   case measure=>simp[intOf];omega
  have e:b.take k=b:=Bv0 Bd;rw[e]at f;go_wp2;go_end0;exact⟨rfl,f,h⟩
def Bjw(n B b:Nat)(l:TB)(f:List (Rd.Mp×Value×Value))(a:TA)(m c:Nat)(w:TW)(hl:l.length+(Uw (f.map Prod.fst)).length<=100000)(hW:J7 w n B l)(V:Sz w b (.s a m c) f):Calls prog 116 #[.q B 0,.s a m c] w fun e w'=>e=.r (.tuple #[])/\J7 w' n B (l++Uw (f.map Prod.fst))/\WG n w w':=by
 obtain⟨xa,xc,a4⟩:=Bg V.1;simp only[Value.slice.injEq]at a4;obtain⟨rfl,b8,rfl⟩:=a4;subst b8;unfold Uw at hl ⊢;rw[Bvo]at hl;rw[Bvr];have c1:f.length<=100000:=by
  have:∀r:List (Rd.Mp×Value×Value),r.length<=((r.map Prod.fst).flatMap Lk).length:=by
   intro r
   induction r with
   | nil=>simp
   | cons x r ih=>simp only[Bwm,Bwj,Up,Bvo,Lk];omega
  have:=this f;omega
 generalize a5:Cm (f.length:Int)=C;have b9:=Bc a5;clear a5;go_in
 (go_wp2_with fail);refine Qm (Gg n B l (f.length:Int) _ Bd hW) ?_;rintro w1 ⟨A,a6⟩
 rw[Ba b9]at A;go_wp2
 go_loopw [12] (fun v wr=>∃k:Nat,k<=f.length/\v=.i (k:Int)/\J7 wr n B (l++[C]++((f.take k).map Prod.fst).flatMap Lk)/\WG n w wr)
  (fun v _=>f.length-(intOf v).toNat)
 case atStart=>exact⟨0,Bd,rfl,by simpa using A,a6⟩
 case round=>
  clear A a6;obtain⟨k,hk,rfl,D,F⟩:=hrel;have c4:=D.lt;by_cases j:k<f.length
  ·obtain⟨g,hg,c5,c0,G⟩:=Cf (Lx V.1 F Ck Ck) Bd;have x0:=(G _ (Vl f k j 0 Bd).2).trans (Vl f k j 0 Bd).1;have x1:=(G _ (Vl f k j 1 Bd).2).trans (Vl f k j 1 Bd).1;have x2:=(G _ (Vl f k j 2 Bd).2).trans (Vl f k j 2 Bd).1;have hd:f.take (k+1)=f.take k++[f[k]]:=by rw[Bvs j]
   have a7:=Bls f k j;have a8:=V.2 _ (Bvh j);generalize f[k]=t at *;obtain⟨⟨z,p,h⟩,u2,u3⟩:=t;simp at x0 x1 x2;simp only at a8;obtain⟨a9,b1⟩:=a8;obtain⟨I,J,rfl⟩:=a9.shape;obtain⟨K,N,rfl⟩:=b1.shape;simp only[Lk,Bvo,Up,Kf]at a7;have HD:Hid (l++[C]++((f.take (k+1)).map Prod.fst).flatMap Lk=l++[C]++((f.take k).map Prod.fst).flatMap Lk++[Cm z]++Fh p++[Cm (h.length:Int)]++Fh h):=by unfold Hid;rw[hd];simp[Lk]
   have c6:(l++[C]++((f.take k).map Prod.fst).flatMap Lk).length+1+2*p.length+1+2*h.length<=100000:=by rw[Up,Up];simp only[Bvo,Bwn];omega
   generalize l++[C]++((f.take k).map Prod.fst).flatMap Lk=L at *;have A:=D.alloc (O17 z I p.length J K h.length N);have C1:=Bf wr (O17 z I p.length J K h.length N);have b2:=F.alloc Bd (O17 z I p.length J K h.length N);clear G hd c0 a7;subst hg
   (go_wp2_with fail);refine Qm (Gg n B L z _ Bd A) ?_;rintro w2 ⟨b3,Y⟩
   have O:=Y.kp _ _ _ C1 Ck Ck;have Z:=b2.trans Y;have y1:=Bb O 1;have l2:=Pk O;simp at y1;go_wp2_with fail;refine Qm (Bag n B (L++[Cm z]) p I p.length J _ Fm b3 (a9.wg Z)) ?_;rintro w3 ⟨b4,a0⟩;have Q:=a0.kp _ _ _ O Ck Ck;have G3:=Z.trans a0;have y2:=Bb Q 2;have l3:=Pk Q;simp at y2
   (go_wp2_with fail);refine Qm (Gg n B (L++[Cm z]++Fh p) (h.length:Int) _ (by simp only[Up,Kf,Bvo,Bwn];omega) b4) ?_;rintro w4 ⟨b5,a1⟩
   have C4:=a1.kp _ _ _ Q Ck Ck;have G4:=G3.trans a1;have z2:=Bb C4 2;have l4:=Pk C4;simp at z2;go_wp2_with fail;refine Qm (Bag n B (L++[Cm z]++Fh p++[Cm (h.length:Int)]) h K h.length N _ (by simp only[Up,Kf,Bvo,Bwn];omega) b5 (b1.wg G4)) ?_;rintro w5 ⟨b6,b7⟩;have G5:=G4.trans b7;rw[<- Ba HD]at b6;clear x0 x1 x2 y1 y2 z2 l2 l3 l4 C1 O Q C4 Y a0 a1 b7 b2 F A b3 b4 b5 D Z G3 G4;go_wp2;go_roundw
   case rel=>exact⟨k+1,Bd,Lt,b6,G5⟩
   case measure=>simp[intOf];omega
  have e:f.take k=f:=Bv0 Bd;rw[e]at D;go_wp2;go_end0;exact⟨rfl,by simpa using D,F⟩
structure PM.isR(m:PM)(x:Rd.Mth)(w:World)(bb:Nat):Prop where
 cl:m.cl=x.cl
 nm:m.nm=x.name
 r1:m.r1=x.result.1
 r2:m.r2=x.result.2
 lo:m.lo=x.locals
 st:m.st=x.stack
 pl:m.pl=x.params.length
 ps:Dp w bb (.slice m.pa m.pl m.pc) x.params
 cn:m.cn=x.code.length
 code:Du w bb (.slice m.ca m.cn m.cc) x.code
 hl:m.hl=x.handlers.length
 hs:J5 w bb (.slice m.ha m.hl m.hc) x.handlers
 ml:m.ml=x.maps.length
 mp:∃l,l.map Prod.fst=x.maps/\Sz w bb (.slice m.ma m.ml m.mc) l
def PM.isR.below{m:PM}{x:Rd.Mth}{f:TW}(h:m.isR x w u)(g:Bl w f):m.isR x f u:=by
 obtain⟨i,j,p,q,s,t,v,z,A,B,C,D,F,l,G,I⟩:=h;have c:=Kp.of_below (e:=none) (b:=u) g;exact⟨i,j,p,q,s,t,v,z.kp c Ck,A,B.kp c Ck,C,D.kp c Ck,F,l,G,I.below g⟩
def Bfs(n B Z:Nat)(l:TB)(m:PM)(x:Rd.Mth)(w:TW)(hl:l.length+(Ks x).length<=100000)(hW:J7 w n B l)(hm:m.isR x w Z):Calls prog 73 #[.q B 0,m.val] w fun e w'=>e=.r (.tuple #[])/\J7 w' n B (l++Ks x)/\WG n w w':=by
 rw[Bcz]at hl;generalize C:l++Ks x=R;unfold Ks Bdk at C;obtain⟨e1,e2,e3,e4,e5,e6,e7,a2,e8,a3,e9,b3,c8,lm,b4,b5⟩:=hm;have b6:x.result=(m.r1,m.r2):=by rw[e3,e4]
 rw[b6,<- e1,<- e2,<- e5,<- e6]at C;rw[<- b4]at C hl;generalize x.params=c at *;generalize x.code=b at *;generalize x.handlers=z at *;clear b6 e1 e2 e3 e4 e5 e6 c8 b4 x;obtain⟨f,h,F,pl,G,j,p,s,A,ca,cn,cc,I,f6,J,K,N,O⟩:=m;simp only at C a2 a3 b3 b5 e7 e8 e9;simp only[PM.val];subst e7 e8 e9;have HR:=Bc C;clear C;have f7:=hW.lt;have tl:=Kf c;have f8:(N8 (j,p)).length=2:=rfl;have C0:=Bf w (O18 f h F c.length G j p s A ca b.length cc I z.length J K N O);have G0:=(WG.refl n w).alloc Bd (O18 f h F c.length G j p s A ca b.length cc I z.length J K N O);have b7:=hW.alloc (O18 f h F c.length G j p s A ca b.length cc I z.length J K N O);go_in
 (go_wp2_with fail);refine Qm (Gg n B l f _ Bd b7) ?_;rintro w1 ⟨b8,a4⟩
 have C1:=a4.kp _ _ _ C0 Ck Ck;have G1:=G0.trans a4;have d1:=Pk C1;have y1:=Bb C1 1;simp at y1;clear b7 hW
 (go_wp2_with fail);refine Qm (Gg n B (l++[Cm f]) h _ (by (simp;omega)) b8) ?_;rintro w2 ⟨b9,a5⟩
 have C2:=a5.kp _ _ _ C1 Ck Ck;have G2:=G1.trans a5;have d2:=Pk C2;have y2:=Bb C2 2;simp at y2;clear y1 b8 d1
 (go_wp2_with fail);refine Qm (Gg n B (l++[Cm f]++[Cm h]) (c.length:Int) _ (by (simp;omega)) b9) ?_;rintro w3 ⟨c0,a6⟩
 have C3:=a6.kp _ _ _ C2 Ck Ck;have G3:=G2.trans a6;have d3:=Pk C3;have y3:=Bb C3 2;simp at y3;clear y2 b9 d2;go_wp2_with fail;refine Qm (Bbt n B Z (l++[Cm f]++[Cm h]++[Cm (c.length:Int)]) c F c.length G _ (by (simp;omega)) c0 (Lx a2 G3 Ck Ck)) ?_;rintro w4 ⟨c1,a7⟩;have Q:=a7.kp _ _ _ C3 Ck Ck;have G4:=G3.trans a7;have d4:=Pk Q;have y4:=Bb Q 3;have y5:=Bb Q 4;simp at y4 y5;clear y3 c0 d3 a2;go_wp2_with fail;refine Qm (Bc3 n B (l++[Cm f]++[Cm h]++[Cm (c.length:Int)]++Fh c) j p _ (by (simp;omega)) c1) ?_;rintro w5 ⟨c2,a8⟩;have C5:=a8.kp _ _ _ Q Ck Ck;have G5:=G4.trans a8;have d5:=Pk C5;have y6:=Bb C5 5;simp at y6;clear y4 y5 c1 d4
 (go_wp2_with fail);refine Qm (Gg n B (l++[Cm f]++[Cm h]++[Cm (c.length:Int)]++Fh c++N8 (j,p)) s _ (by (simp;omega)) c2) ?_;rintro w6 ⟨c3,a9⟩
 have C6:=a9.kp _ _ _ C5 Ck Ck;have G6:=G5.trans a9;have d6:=Pk C6;have y7:=Bb C6 6;simp at y7;clear y6 c2 d5
 (go_wp2_with fail);refine Qm (Gg n B (l++[Cm f]++[Cm h]++[Cm (c.length:Int)]++Fh c++N8 (j,p)++[Cm s]) A _ (by (simp;omega)) c3) ?_;rintro w7 ⟨c4,b0⟩
 have C7:=b0.kp _ _ _ C6 Ck Ck;have G7:=G6.trans b0;have d7:=Pk C7;have y8:=Bb C7 7;simp at y8;clear y7 c3 d6;have c9:=Lx a3 G7 Ck Ck;have f9:b.length<=100000:=Bd
 (go_wp2_with fail);refine Qm (Gg n B (l++[Cm f]++[Cm h]++[Cm (c.length:Int)]++Fh c++N8 (j,p)++[Cm s]++[Cm A]) (b.length:Int) _ (by (simp;omega)) c4) ?_;rintro w8 ⟨c5,b1⟩
 have C8:=b1.kp _ _ _ C7 Ck Ck;have G8:=G7.trans b1;have d8:=Pk C8;have y9:=Bb C8 7;simp at y9;clear y8 c4 d7 G0 G1 G2 G3 G4 G5 G6 G7 C0 C1 C2 C3 Q C5 C6 C7 a4 a5 a6 a7 a8 a9 b0 b1 c9;have g0:(l++[Cm f]++[Cm h]++[Cm (c.length:Int)]++Fh c++N8 (j,p)++[Cm s]++[Cm A]++[Cm (b.length:Int)]).length+b.length+(Pw z).length+(Uw (lm.map Prod.fst)).length<=100000:=by (simp;omega)
 have d0:Hid ((l++[Cm f]++[Cm h]++[Cm (c.length:Int)]++Fh c++N8 (j,p)++[Cm s]++[Cm A]++[Cm (b.length:Int)])++b.map Cm++Pw z++Uw (lm.map Prod.fst)=R):=by
  unfold Hid;rw[<- Ba HR];simp
 clear HR;generalize (l++[Cm f]++[Cm h]++[Cm (c.length:Int)]++Fh c++N8 (j,p)++[Cm s]++[Cm A]++[Cm (b.length:Int)])=L at *;go_wp2
 go_loopw [43] (fun v wr=>∃k:Nat,k<=b.length/\v=.i (k:Int)/\J7 wr n B (L++(b.take k).map Cm)/\WG n w wr/\wr.heap[w.heap.size]?=some (O18 f h F c.length G j p s A ca b.length cc I z.length J K N O))
  (fun v _=>b.length-(intOf v).toNat)
 case atStart=>exact⟨0,Bd,rfl,by simpa using c5,G8,C8⟩
 case round=>
  clear c5 G8 C8 d8;obtain⟨k,hk,rfl,a0,V,Y⟩:=hrel;have dC:=Pk Y;by_cases b2:k<b.length
  ·obtain⟨g,hg,g1,f0,c6⟩:=Cf (Lx a3 V Ck Ck) Bd;have x0:=c6 k (by simpa using b2);rw[Bv8,Ws b2]at x0;have hd:b.take (k+1)=b.take k++[b[k]]:=by rw[Bvs b2]
   have c7:(b.take k).length=k:=Fm;generalize b[k]=t at *;simp at x0;have HD:Hid (L++(b.take (k+1)).map Cm=L++(b.take k).map Cm++[Cm t]):=by unfold Hid;rw[hd];simp
   have f1:(L++(b.take k).map Cm).length<=100000:=by rw[Up,Bvr,c7];omega
   generalize L++(b.take k).map Cm=LK at *;clear c6 hd f0 c7 y9;subst hg;go_wp2_with fail;refine Qm (Gg n B LK t _ f1 a0) ?_;rintro w9 ⟨a1,D⟩;have f2:=V.trans D;have f3:=D.kp _ _ _ Y Ck Ck;rw[<- Ba HD]at a1;clear x0 D V a0 Y;go_wp2;go_roundw
   case rel=>exact⟨k+1,Bd,Lt,a1,f2,f3⟩
   case measure=>simp[intOf];omega
  have e:b.take k=b:=Bv0 Bd;rw[e]at a0;have z7:=Bb Y 8;simp at z7;go_wp2_with fail;refine Qm (Be7 n B Z (L++b.map Cm) z I z.length J _ (by (simp;omega)) a0 (Lx b3 V Ck Ck)) ?_;rintro w9 ⟨a1,D⟩;have G9:=V.trans D;have C9:=D.kp _ _ _ Y Ck Ck;have z8:=Bb C9 9;have d9:=Pk C9;simp at z8;go_wp2_with fail;refine Qm (Bjw n B Z (L++b.map Cm++Pw z) lm K N O _ (by (simp;omega)) a1 (b5.wg G9)) ?_;rintro g2 ⟨f4,f5⟩;go_wp2;go_end0;exact⟨rfl,by rw[<- Ba d0];exact f4,G9.trans f5⟩
def Sy (w:TW)(b:Nat)(m:Rd.Mth)(u:Eh):Prop :=
 Dp w b u.params m.params/\Du w b u.code m.code/\J5 w b u.handlers m.handlers/\∃l,l.map Prod.fst=m.maps/\Sz w b u.maps l
def Uk (w:TW)(b:Nat)(v:TX)(l:List (Rd.Mth × Eh)):Prop :=
 w.ownsRow b 133 10 v l.length (Kw l)/\∀p∈l,Sy w b p.1 p.2
def Sy.wg{n s:Nat}{F:Rd.Mth}{u:Eh}{b:TW}(h:Sy w s F u)(e:WG n w b):Sy b s F u:=by
 obtain⟨a,c,d,q,g,f⟩:=h;exact⟨Lx a e Ck Ck,Lx c e Ck Ck,Lx d e Ck Ck,q,g,f.wg e⟩
def Uk.wg{n s:Nat}{i:TX}{L:List (Rd.Mth×Eh)}{b:TW}(h:Uk w s i L)(c:WG n w b):Uk b s i L :=
 ⟨Lx h.1 c Ck Ck,fun p e=>(h.2 p e).wg c⟩
theorem Uk.mth{w:World}{a:Option Addr}{n j:Nat}{L:List (Rd.Mth×Eh)}(h:Uk w u (.slice a n j) L){k:Nat}(A:k<L.length):∃(m:PM) (g:Nat),a=some ⟨g,0,none⟩/\g<w.heap.size/\(∀e v,m.list[e]?=some v->w.cell? ⟨g,k*10+e,none⟩=some v)/\m.isR L[k].1 w u:=by
 obtain⟨B,I⟩:=h;obtain⟨xa,xc,C⟩:=Bg B;simp only[Value.slice.injEq]at C;obtain⟨rfl,rfl,rfl⟩:=C;obtain⟨g,J,K,_,N⟩:=Cf B Bd;obtain⟨i,p,q,s,D,t⟩:=I _ (Bvh A);have F:=fun e z=>Bp7 L k A e z;generalize L[k]=x at *;obtain⟨x,f⟩:=x;obtain⟨up,uc,uh,um⟩:=f;simp only at i p q t F;obtain⟨O,Q,rfl⟩:=Bg i;obtain⟨V,Y,rfl⟩:=Bg p;obtain⟨Z,a0,rfl⟩:=Bg q;obtain⟨ma,mc,rfl⟩:=Bg t.1;have a1:s.length=x.maps.length:=by rw[<- D];simp
 refine⟨⟨x.cl,x.name,O,x.params.length,Q,x.result.1,x.result.2,x.locals,x.stack,V,x.code.length,Y,Z,x.handlers.length,a0,ma,s.length,mc⟩,g,J,K,?_,⟨rfl,rfl,rfl,rfl,rfl,rfl,rfl,i,rfl,p,rfl,q,a1,s,D,t⟩⟩;intro e v G;have z:e<10:=by
  have:=(List.getElem?_eq_some_iff.1 G).1;simpa[PM.list] using this
 obtain⟨e1,e2⟩:=F e z;rw[N _ e2,e1,<- G];rfl
def Blr(L N:TA)(O Q bm:Nat)(b:List (Rd.Cls×Value))(c:List (Rd.Mth×Eh))(w:TW)(hl:(Ux ⟨b.map Prod.fst,c.map Prod.fst⟩).length<=100000) (f7:b.length<=1000)(f8:c.length<=1000)(d9:Ex w bm (.s L b.length O) b)(f0:Uk w bm (.s N c.length Q) c):Calls prog 47 #[.agg #[.s L b.length O,.s N c.length Q]] w fun e w'=>e=.r (.string ⟨(Ux ⟨b.map Prod.fst,c.map Prod.fst⟩).toArray⟩)/\Bl w w':=by
 generalize hR:Ux ⟨b.map Prod.fst,c.map Prod.fst⟩=R at *;unfold Ux Bbq at hR;simp only[Bvr,List.flatMap_map]at hR;generalize B:b.flatMap (fun p=>Nf p.1)=CB at *;generalize hM:c.flatMap (fun p=>Ks p.1)=MB at *;have HR:=Bc hR;have f1:R.length=4+CB.length+MB.length:=by rw[<- hR];simp;omega
 have HC:=Bc B;have HM:=Bc hM;clear hR B hM;have C0:=Cb w (O1 L b.length O N c.length Q) (O21 none 0 0);have D0:=Bv w (O1 L b.length O N c.length Q) (O21 none 0 0);have G0:=((WG.refl w.heap.size w).alloc (Wf _) (O1 L b.length O N c.length Q)).alloc Fr (O21 none 0 0);have b1:J7 ((w.alloc (O1 L b.length O N c.length Q)).alloc (O21 none 0 0)) w.heap.size (w.heap.size+1) []:=⟨_,D0,Bd,Bvl _ _ _ _⟩;clear D0;go_in
 (go_wp2_with fail);refine Qm (Gg w.heap.size (w.heap.size+1) [] 83 _ Fr b1) ?_;rintro w1 ⟨G,a6⟩
 have C1:=a6.kp _ _ _ C0 Ck Ck;have I:=G0.trans a6;clear b1 a6
 (go_wp2_with fail);refine Qm (Gg w.heap.size (w.heap.size+1) ([]++[Cm 83]) 77 _ Fr G) ?_;rintro w2 ⟨J,f⟩
 have V:=f.kp _ _ _ C1 Ck Ck;have G2:=I.trans f;have K:=Bb V 0;have d2:=Pk V;simp at K;clear G f
 (go_wp2_with fail);refine Qm (Gg w.heap.size (w.heap.size+1) ([]++[Cm 83]++[Cm 77]) (b.length:Int) _ Fr J) ?_;rintro w3 ⟨a2,C⟩
 have Y:=C.kp _ _ _ V Ck Ck;have G3:=G2.trans C;have x1:=Bb Y 0;have d3:=Pk Y;simp at x1;clear J C K C0 C1 V G0 I G2 d2;have HL:Hid ([]++[Cm 83]++[Cm 77]++[Cm (b.length:Int)]=[83,77,Cm (b.length:Int)]):=by unfold Hid;simp[Cm]
 generalize b2:[]++[Cm 83]++[Cm 77]++[Cm (b.length:Int)]=z at *;have f2:z.length=3:=by rw[<- b2];simp
 clear b2;go_wp2
 go_loopw [17] (fun v wr=>∃k:Nat,k<=b.length/\v=.i (k:Int)/\J7 wr w.heap.size (w.heap.size+1) (z++(b.take k).flatMap (fun p=>Nf p.1))/\WG w.heap.size w wr/\wr.heap[w.heap.size]?=some (O1 L b.length O N c.length Q))
  (fun v _=>b.length-(intOf v).toNat)
 case atStart=>exact⟨0,Bd,rfl,by simpa using a2,G3,Y⟩
 case round=>
  clear a2 G3 Y d3 x1;obtain⟨k,hk,rfl,l,A,B⟩:=hrel;have dC:=Pk B;have b3:=l.lt;by_cases D:k<b.length
  ·have a7:=d9.wg A;obtain⟨g,hg,b4,a8,a1⟩:=Cf a7.1 Bd;obtain⟨e1,e2,e3⟩:=Ns b k D;have K:=a1 (k*2) Bd;have x1:=a1 (k*2+1) Bd;rw[e1]at K;rw[e2]at x1;have a4:=a7.2 _ (Bvh D);have hd:b.take (k+1)=b.take k++[b[k]]:=by rw[Bvs D]
   have Z:=Zp (fun p:Rd.Cls×Value=>Nf p.1) b k D;rw[Ba HC]at Z;generalize b[k]=t at *;obtain⟨⟨F,m⟩,u⟩:=t;simp only at K x1 a4;obtain⟨ua,uc,rfl⟩:=Bg a4;simp only[Nf,Bvo,Kf]at Z;have HD:Hid (z++(b.take (k+1)).flatMap (fun p=>Nf p.1)=z++(b.take k).flatMap (fun p=>Nf p.1)++[Cm F]++[Cm (m.length:Int)]++Fh m):=by unfold Hid;rw[hd];simp[Nf]
   have b5:(z++(b.take k).flatMap (fun p=>Nf p.1)).length+2+2*m.length<=100000:=by rw[Up];simp only[Nf];omega
   generalize z++(b.take k).flatMap (fun p=>Nf p.1)=LK at *;have G:=l.alloc (O5 F ua m.length uc);have K1:=Bf wr (O5 F ua m.length uc);have I:=A.alloc Bd (O5 F ua m.length uc);have b6:=(WG.refl w.heap.size wr).alloc Bd (O5 F ua m.length uc);have C1:=Bk B (O5 F ua m.length uc);clear a1 e1 e2 e3 hd Z a8;subst hg
   (go_wp2_with fail);refine Qm (Gg w.heap.size (w.heap.size+1) LK F _ Bd G) ?_;rintro w2 ⟨J,f⟩
   have K2:=f.kp _ _ _ K1 Ck Ck;have V:=f.kp _ _ _ C1 Ck Ck;have y1:=Bb K2 1;have l2:=Pk K2;simp at y1
   (go_wp2_with fail);refine Qm (Gg w.heap.size (w.heap.size+1) (LK++[Cm F]) (m.length:Int) _ (by (simp;omega)) J) ?_;rintro w3 ⟨a2,C⟩
   have K3:=C.kp _ _ _ K2 Ck Ck;have Y:=C.kp _ _ _ V Ck Ck;have z1:=Bb K3 1;have l3:=Pk K3;simp at z1;have b7:=(b6.trans f).trans C;go_wp2_with fail;refine Qm (Bbt w.heap.size (w.heap.size+1) bm (LK++[Cm F]++[Cm (m.length:Int)]) m ua m.length uc _ (by (simp;omega)) a2 (Lx a4 b7 Ck Ck)) ?_;rintro w4 ⟨a3,a0⟩;have C4:=a0.kp _ _ _ Y Ck Ck;have G4:=((I.trans f).trans C).trans a0;rw[<- Ba HD]at a3;clear K x1 y1 z1 l2 l3 K1 K2 K3 C1 V Y f C a0 I b6 b7 A G J a2 l B a7 a4;go_wp2;go_roundw
   case rel=>exact⟨k+1,Bd,Lt,a3,G4,C4⟩
   case measure=>simp[intOf];omega
  have e:b.take k=b:=Bv0 Bd;rw[e,Ba HC]at l;have z1:=Bb B 1;simp at z1
  (go_wp2_with fail);refine Qm (Gg w.heap.size (w.heap.size+1) (z++CB) (c.length:Int) _ (by (simp;omega)) l) ?_;rintro w4 ⟨a3,a0⟩
  have C4:=a0.kp _ _ _ B Ck Ck;have G4:=A.trans a0;have y1:=Bb C4 1;have d4:=Pk C4;simp at y1;clear l A B a0 z1 dC b3;have f3:Hid (z++CB++[Cm (c.length:Int)]++MB=R):=by unfold Hid;rw[<- Ba HR,Ba HL]
  have f9:(z++CB++[Cm (c.length:Int)]).length=4+CB.length:=by simp[f2];omega
  generalize z++CB++[Cm (c.length:Int)]=L1 at *;go_wp2
  go_loopw [39] (fun v wr=>∃k:Nat,k<=c.length/\v=.i (k:Int)/\J7 wr w.heap.size (w.heap.size+1) (L1++(c.take k).flatMap (fun p=>Ks p.1))/\WG w.heap.size w wr)
   (fun v _=>c.length-(intOf v).toNat)
  case atStart=>exact⟨0,Bd,rfl,by simpa using a3,G4⟩
  case round=>
   clear a3 G4 C4 d4 y1 e hk D;obtain⟨q,hk,rfl,l,A⟩:=hrel;have b3:=l.lt;by_cases D:q<c.length
   ·obtain⟨o,g,hg,b4,a5,a9⟩:=(f0.wg A).mth D;replace a5:=Ub a5;have hd:c.take (q+1)=c.take q++[c[q]]:=by rw[Bvs D]
    have Z:=Zp (fun p:Rd.Mth×Eh=>Ks p.1) c q D;rw[Ba HM]at Z;generalize c[q]=t at *;obtain⟨y,u⟩:=t;simp only at Z a9;have HD:Hid (L1++(c.take (q+1)).flatMap (fun p=>Ks p.1)=L1++(c.take q).flatMap (fun p=>Ks p.1)++Ks y):=by unfold Hid;rw[hd];simp
    have b5:(L1++(c.take q).flatMap (fun p=>Ks p.1)).length+(Ks y).length<=100000:=by rw[Up];omega
    generalize L1++(c.take q).flatMap (fun p=>Ks p.1)=LK at *;have HC:=fun w' f4 (h:Below _ _ w')=>Bfs w.heap.size (w.heap.size+1) bm LK o y w' b5 f4 (a9.below h);clear hd Z a9;obtain⟨b8,b9,c0,c1,c2,c3,c4,c5,c6,c7,c8,c9,d0,d1,d5,d6,d7,d8⟩:=o;simp only[PM.val]at a5 HC;obtain⟨y0,y1,y2,y3,y4,y5,y6,y7,y8,y9⟩:=a5;have G:=l.alloc (O18 b8 b9 c0 c1 c2 c3 c4 c5 c6 c7 c8 c9 d0 d1 d5 d6 d7 d8);have I:=A.alloc Bd (O18 b8 b9 c0 c1 c2 c3 c4 c5 c6 c7 c8 c9 d0 d1 d5 d6 d7 d8);have hc:=HC _ G (QN _);have f5:=Bc hc;clear hc HC;subst hg;go_wp2_with fail;refine Qm (Ba f5) ?_;rintro w2 ⟨J,f⟩;have G2:=I.trans f;rw[<- Ba HD]at J;clear y0 y1 y2 y3 y4 y5 y6 y7 y8 y9 f I A G l;go_wp2;go_roundw
    case rel=>exact⟨q+1,Bd,Lt,J,G2⟩
    case measure=>simp[intOf];omega
   have e:c.take q=c:=Bv0 Bd;rw[e,Ba HM,Ba f3]at l;obtain⟨v,hb,_,b0⟩:=l;obtain⟨va,vc,rfl⟩:=Bg b0;obtain⟨g,hg,b4,a8,a1⟩:=Cf b0 Bd;subst hg;have hk:(convert 120 9 (.s (.p g) R.length vc)).run prog wr=.ok (.string ⟨R.toArray⟩) wr:=by
    refine run_convert_bytes_back (P:=prog) _ _ _ 5 _ vc R underlying120 underlying5 underlying9 ?_;intro j hj;have f6:(⟨g,0,none⟩:Addr).add j=⟨g,j,none⟩:=by unfold Addr.add;split<;>simp_all
    rw[f6,a1 j (by simpa[Ui] using hj)];simp[Ui,hj]
   have K:=Bb hb 0;have dB:=Pk hb;simp at K;clear a1 a8 b0;clear f1;go_wp2;go_ret;exact⟨rfl,A.bel⟩
def Rd.Mth.withMaps(m:Rd.Mth)(mp:List Rd.Mp):Rd.Mth:=⟨m.cl,m.name,m.params,m.result,m.locals,m.stack,m.code,m.handlers,mp⟩
def Fz (FM:Rd.Mth->Option (List Rd.Mp)):List Rd.Mth->Option (List Rd.Mth)
 | []=>some []
 | m::r=>match FM m with
  | none=>none
  | some mp=>(Fz FM r).map (m.withMaps mp :: ·)
def Na (FM:Rd.Mth->Option (List Rd.Mp)):Nat->List Rd.Mth->Int
 | _,[]=>0
 | k,m::r=>if (FM m).isSome=true then Na FM (k+1) r else (k:Int)
def TyR.kp0{b:TW}{i:TX}{q:TP}{O:Option TypeId}(h:TyR w i q)(s:Kp O 0 w b)(t:some 31≠O):TyR b i q:=by
 rcases h with h|⟨g,o,c,f,z,m,A,B,C⟩
 ·exact .inl h
 have p:=s g f _ (Bv5 _) m t;refine .inr ⟨g,o,c,f,z,p,A,B,fun j x D=>?_⟩;rw[Bb p,<- Bb m];exact C j x D
def Kp.up{b:TW}{O:Option TypeId}(f:Kp O 0 w b)(c:Nat):Kp O c w b:=fun k g t _ h i=>f k g t (Bv5 _) h i
def Sy.kp{F:Rd.Mth}{g:Eh}{b:TW}(h:Sy w u F g){e:Option TypeId}(i:Kp e 0 w b)(j:some 31≠e)(s:some 3≠e)(t:some 267≠e)(v:some 266≠e):Sy b u F g:=by
 obtain⟨a,c,d,q,z,f⟩:=h;exact⟨a.kp (i.up u) j,c.kp (i.up u) s,d.kp (i.up u) t,q,z,Cx f.1 (i.up u) v,fun p l=>⟨(f.2 p l).1.kp0 i j,(f.2 p l).2.kp0 i j⟩⟩
def Sy.below{F:Rd.Mth}{c:Eh}{b:TW}(h:Sy w u F c)(f:Bl w b):Sy b u F c :=
 h.kp (Kp.of_below (e:=none) f) Ck Ck Ck Ck
def Brp(N a2:TA)(O Q a3 V:Nat)(a5:List (Rd.Cls×Value))(f:List (Rd.Mth×Eh))(B:Rd.Mth->Option (List Rd.Mp))(w:TW)(j8:V<=w.heap.size)(h6:a5.length<=6)(f0:Ex w V (.s N O Q) a5)(j9:f.length<=1000)(f2:Eb w V (.s a2 f.length a3) f) (f3:∀p∈f,∀(Z tc:Nat) (ya:TA) (yn yc:Nat) (m:PM) j,Bl w j->Dl j Z (Tr.tree (a5.map Prod.fst))->j.ownsRow w.heap.size 105 1 (.s ya yn yc) (7+a5.length) (Tr.fvals a5)->m.is p.1 j V->Calls prog 70 #[.agg #[.s N O Q,.s a2 f.length a3],.agg #[.s (.p Z) (Tr.tree (a5.map Prod.fst)).length tc,.s ya yn yc],m.val] j fun e f4=>∃a n c,e=.r (.tuple #[.s a n c,.bool (B p.1).isSome])/\(∀mp,B p.1=some mp->∃ms,ms.map Prod.fst=mp/\Sz f4 j.heap.size (.s a n c) ms)/\Bl j f4):Calls prog 46 #[.agg #[.s N O Q,.s a2 f.length a3]] w fun e j=>∃ga gn gc t hn A,e=.r (.tuple #[.agg #[.s ga gn gc,.s t hn A],.i (Na B 0 (f.map Prod.fst)),.bool (Fz B (f.map Prod.fst)).isSome])/\(∀r,Fz B (f.map Prod.fst)=some r->ga=N/\gn=O/\gc=Q/\∃l,l.map Prod.fst=r/\Uk j V (.s t hn A) l)/\Bl w j:=by
 obtain⟨j0,hj,h7,h8,h9⟩:=Bv4 Tryz.infoMethod;have f5:=fun j (h:Bl w j)=>Sn N a2 O Q f.length a3 V a5 j h6 (f0.kp (Kp.of_below (e:=none) h) Ck Ck);have i0:Hid (∀j,Bl w j->Eb j V (.s a2 f.length a3) f):=fun j h=>f2.kp (Kp.of_below (e:=none) h) Ck Ck Ck Ck Ck;generalize f6:Fz B (f.map Prod.fst)=R1;generalize f7:Na B 0 (f.map Prod.fst)=R2;have a7:Hid ((Fz B ((f.map Prod.fst).drop 0)).map ([] ++ ·)=R1):=by unfold Hid;rw[<- f6];simp
 have a8:Hid (Na B 0 ((f.map Prod.fst).drop 0)=R2):=f7;have i1:=Bc f5;have i2:=Bc f3;clear f5 f3 f6 f7 f0 f2;have f8:=Bx w (O1 N O Q a2 f.length a3) (O1 none 0 0 none 0 0);have F0:=Cb w (O1 N O Q a2 f.length a3) (O1 none 0 0 none 0 0);have Z0:=Bv w (O1 N O Q a2 f.length a3) (O1 none 0 0 none 0 0);have f9:((w.alloc (O1 N O Q a2 f.length a3)).alloc (O1 none 0 0 none 0 0)).heap.size=w.heap.size+2:=Fr;go_in;go_wp2_with fail;refine(Ba i1 _ f8).mono ?_;rintro e w1 ⟨Z,tc,ya,yn,yc,rfl,g0,g1,i3,b2⟩;generalize Tr.tree (a5.map Prod.fst)=T at *;have c1:=QB f8 b2;have g2:=c1.size;have lZ:=Pk (stay b2 Z0);have F1:=Bk (stay b2 F0) (O2 (.p Z) T.length tc ya yn yc);have Z1:=Bk (stay b2 Z0) (O2 (.p Z) T.length tc ya yn yc);have T1:=Bf w1 (O2 (.p Z) T.length tc ya yn yc);have a9:=c1.alloc g2 (O2 (.p Z) T.length tc ya yn yc);have i4:=g0.below (QN (O2 (.p Z) T.length tc ya yn yc));have i5:=Ti (Cx g1 (Kp.of_below (e:=none) (QN (O2 (.p Z) T.length tc ya yn yc))) Ck) (show w.heap.size<=_ by rw[f9];omega);clear b2 F0 Z0 g0 g1 i3 lZ f9
 go_upto_region 2 with fail
 generalize w1.alloc (O2 (.p Z) T.length tc ya yn yc)=W1 at *;have f1:=Bb F1 1;have k0:=Pk F1;simp at f1;go_wp2
 go_loopw [6,16] (fun v s wr=>∃(q:Nat) (l:List (Rd.Mth×Eh)),q<=f.length/\s=.i (q:Int)/\l.length=q/\Hid ((Fz B ((f.map Prod.fst).drop q)).map (l.map Prod.fst ++ ·)=R1)/\Hid (Na B q ((f.map Prod.fst).drop q)=R2) /\
   wr.ownsRow W1.heap.size 133 10 v q (Kw l)/\Hid (∀p∈l,Sy wr V p.1 p.2)/\Bl W1 wr)
  (fun _ s _=>f.length-(intOf s).toNat)
 case atStart=>exact⟨0,[],Bd,rfl,rfl,a7,a8,Bvl _ _ _ _,(fun p Y=>by simp at Y),Vm _ _⟩
 case round=>
  clear a7 a8 f1 c1 g2;obtain⟨q,l,hq,rfl,g3,a7,a8,b5,HL,a4⟩:=hrel;have hB:=QB a9 a4;have CF:=stay a4 F1;have CZ:=stay a4 Z1;have CT:=stay a4 T1;have g4:=i4.below a4;have g5:=Cx i5 (Kp.of_below (e:=none) a4) Ck;have i6:=a4.size;have g6:=hB.size;obtain⟨xa,xc,rfl⟩:=Bg b5;by_cases c2:q<f.length
  ·obtain⟨m,g,hg,k2,Et,hm,-⟩:=(Ba i0 _ hB).mth2 c2;obtain⟨y0,y1,y2,y3,y4,y5,y6,y7,y8,y9⟩:=Ub Et;have hd:(f.map Prod.fst).drop q=f[q].1::(f.map Prod.fst).drop (q+1):=by rw[Wr (by simpa using c2)];simp
   have c3:=Ba a7;have c4:=Ba a8;rw[hd,Fz]at c3;rw[hd,Na]at c4;have g7:=fun Z tc ya yn yc m j=>Ba i2 f[q] (Bvh c2) Z tc ya yn yc m j;generalize f[q].1=x at *;have kb:(q:Int)<(f.length:Int):=Bd;have a6:=hm;obtain⟨cl,nm,C,D,F,r1,r2,lo,st,G,cn,I,t,J,A,ma,ml,mc⟩:=m;simp only at y0 y1 y2 y3 y4 y5 y6 y7 y8 y9;have c5:=hB.alloc g6 (O18 cl nm C D F r1 r2 lo st G cn I t J A ma ml mc);have b3:Bl wr (wr.alloc (O18 cl nm C D F r1 r2 lo st G cn I t J A ma ml mc)):=QN _;have hf:=g7 Z tc ya yn yc ⟨cl,nm,C,D,F,r1,r2,lo,st,G,cn,I,t,J,A,ma,ml,mc⟩ _ c5 (g4.below b3) (Cx g5 (Kp.of_below (e:=none) b3) Ck) (hm.below b3);simp only[PM.val]at hf;generalize k4:B x=fm at *;have HF:=Bc hf;have c6:=Bk CF (O18 cl nm C D F r1 r2 lo st G cn I t J A ma ml mc);have g8:=Bk CZ (O18 cl nm C D F r1 r2 lo st G cn I t J A ma ml mc);have c7:=Bk CT (O18 cl nm C D F r1 r2 lo st G cn I t J A ma ml mc);have g9:=Bf wr (O18 cl nm C D F r1 r2 lo st G cn I t J A ma ml mc);obtain⟨a0,a1⟩:=cl2 c6;obtain⟨t0,t1⟩:=cl2 c7;have lF:=Pk c6;have lT:=Pk c7;simp at a0 a1 t0 t1;have b6:=Bc c3;have b7:=Bc c4;clear hf g7 hd Et a7 a8 c3 c4;cases fm with
   | none =>
    have e1:R1=none:=by rw[<- Ba b6];rfl
    have e2:R2=(q:Int):=by rw[<- Ba b7];rfl
    have b4:=Bc e1;have c8:=Bc e2;clear e1 e2 b6 b7;subst hg;go_wp2_with fail;refine(Ba HF).mono ?_;rintro e w2 ⟨K,L,vc,rfl,-,b0⟩;have a9:=QB c5 b0;have c9:=stay b0 g8;obtain⟨z0,z1⟩:=cl2 c9;obtain⟨q0,q1⟩:=fr2 c9;have i7:=Pk c9;simp at z0 z1;go_wp2;refine tb (.tuple #[.agg #[.s none 0 0,.s none 0 0],.i (q:Int),.bool false]) (by simp[results,results46,go_sem,z0,z1]) ?_;refine⟨none,0,0,none,0,0,by rw[Ba b4,Ba c8];rfl,fun r hr=>(by rw[Ba b4]at hr;cases hr),?_⟩;exact(a9.setCell Fr _).setCell Fr _
   | some mp =>
    have h0:Hid ((Fz B ((f.map Prod.fst).drop (q+1))).map ((l.map Prod.fst++[x.withMaps mp]) ++ ·)=R1):=by
     unfold Hid;rw[<- Ba b6];cases Fz B ((f.map Prod.fst).drop (q+1)) with
     | none=>rfl
     | some r=>simp
    have i8:Hid (Na B (q+1) ((f.map Prod.fst).drop (q+1))=R2):=by unfold Hid;rw[<- Ba b7,Sp Fr]
    clear b6 b7;subst hg;go_wp2_with fail;refine(Ba HF).mono ?_;rintro e w2 ⟨K,L,vc,rfl,h1,b0⟩;obtain⟨ms,i9,b8⟩:=h1 mp rfl;have d0:Bl wr w2:=QB b3 b0;have a9:=hB.trans (d0.mono g6);have k5:=a9.size;have b1:=stay b0 g9;have m9:=Bb b1 9;have q9:=Bj b1 9;have lM:=Pk b1;simp at m9;have b9:Bl wr (w2.setCell (.a wr.heap.size 9) (.s K L vc)):=d0.setCell Fr _;have k3:=Kp.set (b:=0) (i:=9) b1 (.s K L vc);have d6:(w2.setCell (.a wr.heap.size 9) (.s K L vc)).heap[wr.heap.size]?=some (O18 cl nm C D F r1 r2 lo st G cn I t J A K L vc):=by rw[Bq b1];rfl
    have h2:Sy (w2.setCell (.a wr.heap.size 9) (.s K L vc)) V (x.withMaps mp) ⟨.s C D F,.s G cn I,.s t J A,.s K L vc⟩:=by
     have h3:=a6.below b9;exact⟨h3.ps,h3.code,h3.hs,ms,i9,D8 (Cx b8.1 (k3.up _) Ck) Fm,fun p Y=>⟨(b8.2 p Y).1.kp0 k3 Ck,(b8.2 p Y).2.kp0 k3 Ck⟩⟩
    have Et:Ly (x.withMaps mp) ⟨.s C D F,.s G cn I,.s t J A,.s K L vc⟩=[.i cl,.i nm,.s C D F,.i r1,.i r2,.i lo,.i st,.s G cn I,.s t J A,.s K L vc]:=by
     have e1:=a6.cl;have e2:=a6.nm;have e3:=a6.r1;have e4:=a6.r2;have e5:=a6.lo;have e6:=a6.st;simp only at e1 e2 e3 e4 e5 e6;simp[Ly,Rd.Mth.withMaps,e1,e2,e3,e4,e5,e6]
    have j1:=Bc Et;have c0:=Cx b5 (Kp.of_below (e:=none) b9) Ck;have h4:Hid (∀p∈l++[(x.withMaps mp,(⟨.s C D F,.s G cn I,.s t J A,.s K L vc⟩:Eh))],Sy (w2.setCell (.a wr.heap.size 9) (.s K L vc)) V p.1 p.2):=fun p Y=>by
     rcases List.mem_append.1 Y with Y|Y
     ·exact(Ba HL p Y).below b9
     rw[List.mem_singleton.1 Y];exact h2
    have d7:=a4.trans (b9.mono i6);clear Et b5 HL g4 g5 hB a4 b3 c5 c6 g8 c7 g9 CF CZ CT a0 a1 t0 t1 lF lT a6 hm h2 b8 h1 k3 a9 d0 b0 HF
    go_upto_region 10 with fail
    clear m9 q9 lM b1;generalize w2.setCell (.a wr.heap.size 9) (.s K L vc)=w3 at *;obtain⟨m0,m1,m2,m3,m4,m5,m6,m7,m8,m9⟩:=N7 d6;have lM:=Pk d6;have j2:=d7.size;simp at m0 m1 m2 m3 m4 m5 m6 m7 m8 m9;go_wp2_with (at_builtin;refine Bvw _ rfl _ _ 82 rfl W1.heap.size 133 j0 _ 10 144 underlying82 hj h7 h8 h9 rfl Ck _ _ _ rfl (c0.alloc _) ⟨w3.heap.size,0,none⟩ 1 1 [.i cl,.i nm,.s C D F,.i r1,.i r2,.i lo,.i st,.s G cn I,.s t J A,.s K L vc] rfl rfl ?d1 ?d2 ?d3 ?d4 ?d5 ?_)
    case d1=>exact Dv _ _ _ _ Fr
    case d2=>intro u hu;simp at hu;rcases hu with rfl|rfl|rfl|rfl|rfl|rfl|rfl|rfl|rfl|rfl<;>rfl
    case d3=>unfold maxLen;omega
    case d4=>omega
    case d5=>simp;omega
    intro v' w4 h5 d8 _;have j3:=(d7.alloc j2 _).grown d8 Fm (fun z hz=>(c0.lt z hz).1);have hK:=(Kp.alloc (e:=some 133) (b:=0) _ _).trans (Kp.of_grown d8 (c0.alloc _));have j4:Hid (∀p∈l++[(x.withMaps mp,(⟨.s C D F,.s G cn I,.s t J A,.s K L vc⟩:Eh))],Sy w4 V p.1 p.2):=fun p Y=>(Ba h4 p Y).kp hK Ck Ck Ck Ck;have j5:w4.ownsRow W1.heap.size 133 10 v' (q+1) (Kw (l++[(x.withMaps mp,(⟨.s C D F,.s G cn I,.s t J A,.s K L vc⟩:Eh))])):=by rw[Ac,Ba j1];exact h5
    have j6:Hid ((Fz B ((f.map Prod.fst).drop (q+1))).map ((l++[(x.withMaps mp,(⟨.s C D F,.s G cn I,.s t J A,.s K L vc⟩:Eh))]).map Prod.fst ++ ·)=R1):=by unfold Hid;rw[<- Ba h0];simp
    clear d8 hK c0 h5 h4 d7 d6 m0 m1 m2 m3 m4 m5 m6 m7 m8 m9 lM h0;go_wp2;go_roundw
    case rel=>exact⟨q+1,_,Bd,Lt,by simp[g3],j6,i8,j5,j4,j3⟩
    case measure=>simp[intOf];omega
  have kb:¬(q:Int)<(f.length:Int):=Bd;have e1:R1=some (l.map Prod.fst):=by rw[<- Ba a7,Bvi Fm];simp[Fz]
  have e2:R2=0:=by rw[<- Ba a8,Bvi Fm];rfl
  have b4:=Bc e1;have c8:=Bc e2;have a0:=Bb CF 0;obtain⟨z0,z1⟩:=cl2 CZ;obtain⟨q0,q1⟩:=fr2 CZ;have lF:=Pk CF;have i7:=Pk CZ;simp at a0 z0 z1;have d9:Uk wr V (.s xa q xc) l:=⟨by rw[g3];exact D8 b5 (by have:=a9.size;omega),Ba HL⟩;have k1:=(Kp.set (b:=0) (i:=0) CZ (.s N O Q)).trans (Kp.set (i:=1) (Bq (i:=0) CZ (.s N O Q)) (.s xa q xc));have j7:Uk ((wr.setCell (.a (w.heap.size+1) 0) (.s N O Q)).setCell (.a (w.heap.size+1) 1) (.s xa q xc)) V (.s xa q xc) l:=⟨Cx d9.1 (k1.up V) Ck,fun p Y=>(d9.2 p Y).kp k1 Ck Ck Ck Ck⟩;clear e1 e2 a7 a8 d9 k1;go_wp2;refine tb (.tuple #[.agg #[.s N O Q,.s xa q xc],.i 0,.bool true]) (by simp[results,results46,go_sem,z0,z1]) ?_;exact⟨N,O,Q,xa,q,xc,by rw[Ba b4,Ba c8];rfl,fun r hr=>⟨rfl,rfl,rfl,l,by rw[Ba b4]at hr;exact Option.some.inj hr,j7⟩,(hB.setCell Fr _).setCell Fr _⟩
def Xc (cs:List Rd.Cls)(ms:List Rd.Mth)(m:Rd.Mth)(t:Bt):Prop:=(Ep cs ms m).Ok t/\t.sp.length=m.code.length
def Brt{t:List Rd.Cls}{m:List Rd.Mth}(k:Jj t m){F:Rd.Mth}(e:F∈m)(q:0<F.code.length){i:Cd.Ins}(f:i∈Cd.readL F.code){Y:Bt}(b:Xc t m F Y)(B:i.place<(Y.sp.length:Int))(g:(Y.at i.place.toNat).ri=true):J1 (Tr.tree t) F (Y.at i.place.toNat).fr/\Xc t m F (Gx (Ep t m F) (Dt t m F) i (Y.at i.place.toNat).fr (Y.calm i.place.toNat)):=by
 have s:=Wd k e q;obtain⟨h,_⟩:=Y0 k e;obtain⟨p,v⟩:=h i f;have c:i.place.toNat<Y.sp.length:=by have:=v.pl;omega
 have j:=(b.1 _ (Jf c)).1 ((b.1 _ (Jf c)).2 g);obtain⟨z,A,_⟩:=Vh (K:=0) b.1 c g;have l:=Bdb s h i f _ _ j z;exact⟨j,l.ok,l.len.trans (A.trans b.2)⟩
def Bio{t:List Rd.Cls}{m:List Rd.Mth}(k:Jj t m){F:Rd.Mth}(D:F∈m)(hc:0<F.code.length){lcs:List (Rd.Cls×Value)}{lms:List (Rd.Mth×Eh)}{b:PBd}{bm Q:Nat}{v:TW} (a2:∀f,Bl v f->Hs f Q (.s b.la b.L.length b.lc) b.L->Uj t m lcs lms b F bm f){S K C:Nat}(hS:v.heap.size<=S)(hG:v.heap.size<=K){Y:Bt}(ht:Xc t m F Y)(V:Bl v w)(Z:Hs w Q (.s b.la b.L.length b.lc) b.L)(h:Ed w S K b C Y):Calls prog 112 #[.q S 0] w fun e f=>e=.r (.bool ((Ct (Gx (Ep t m F) (Dt t m F)) (Cd.readL F.code) false Y).2 && !(Ct (Gx (Ep t m F) (Dt t m F)) (Cd.readL F.code) false Y).1.hop))/\Ed f S K b C (Ct (Gx (Ep t m F) (Dt t m F)) (Cd.readL F.code) false Y).1/\Xc t m F (Ct (Gx (Ep t m F) (Dt t m F)) (Cd.readL F.code) false Y).1/\Lw S K w f:=by
 have g:=k.mt F D;have z:=a2 w V Z;have eL:=z.L;have eT:=z.T;have a5:b.st=F.stack:=z.is.st;have a6:b.hl=F.handlers.length:=z.is.hl;have a7:(Cd.readL F.code).length<=100000:=by rw[<- eL];exact z.ru.ll
 have a9:=g.bd.hs;have b0:=g.bd.code;refine Bmu b S K C Q (Cd.readL F.code) _ (Xc t m F) Y w eL a7 h ht (fun i A=>?_) (fun f I=>?_) (fun i A l a0 hl hr=>(Brt k D hc A a0 hl hr).2) (fun i A l a0 hl hr c f I J hv=>?_)
 ·obtain⟨p,N⟩:=(Y0 k D).1 i A;have:=N.pl;omega
 ·have:=Z8 Z h I Ck Ck;rw[<- eL];exact this
 obtain⟨hx,_⟩:=Brt k D hc A a0 hl hr;rw[Bb1 g]at A;obtain⟨p,N,rfl⟩:=List.mem_map.1 A;have b1:p<F.code.length:=Ur N;have a8:=Z8 Z h I Ck Ck;have a3:=V.trans (I.below hS hG V.size);have a1:∀j,Lw S K f j->Uj t m lcs lms b F bm j:=fun j B=>a2 j (a3.trans (B.below hS hG a3.size)) (Z8 a8 J B Ck Ck);have e1:((Cd.insAt F.code p).place).toNat=p:=by show ((p:Int)).toNat=p;omega
 rw[e1]at J hv hx ⊢;have hT:∀j,Lw S K f j->Dl j b.tg b.T:=fun j B=>(a1 j B).ru.tr;have hH:=fun j (O:Bl f j)=>Bnq b S K C F.handlers bm (p:Int) (l.calm p) c (l.at p).fr j z.ru.tl (fun w4 k4=>hT w4 ((Dd O).trans k4)) a6 Bd (fun w4 k4=>(a1 w4 ((Dd O).trans k4)).is.hs) (J.below O) (hv.below O);have:=Bns b S K C p (Cd.insAt F.code p).op (Cd.insAt F.code p).n (l.calm p) _ (Dt t m F (Cd.insAt F.code p) (l.at p).fr) c f z.ru.tl hT Bd J hH (fun j B=>Zz (a1 j B) p c (l.at p).fr N (hv.lw B) hx);rw[eT,a5]at this;have el:=Bk0 (Tr.tree t) F.stack F.handlers (Dt t m F) (Cd.insAt F.code p) (l.at p).fr (l.calm p);show Calls prog 169 _ f fun e a4=>e=.r (.tuple #[])/\Ed a4 S K b C (Mj (Tr.tree t) F.stack F.handlers (Dt t m F) (Cd.insAt F.code p) (l.at p).fr (l.calm p))/\Lw S K f a4;rw[el];exact this
def Bk1{t:List Rd.Cls}{m:List Rd.Mth}(k:Jj t m){l Z:TA}{c1 j bm:Nat}{lcs:List (Rd.Cls×Value)}{lms:List (Rd.Mth×Eh)}(ec:lcs.map Prod.fst=t)(b1:Ex w bm (.s l u c1) lcs)(em:lms.map Prod.fst=m)(b2:Eb w bm (.s Z lms.length j) lms) {x:Rd.Mth}(I:x∈m)(hc:0<x.code.length){tg tc:Nat}{ya:TA}{yn yc:Nat}{f:PM}{b:TW}(hb:Bl w b)(a0:Dl b tg (Tr.tree t)){b0:Nat}(a3:b.ownsRow b0 105 1 (.s ya yn yc) (7+lcs.length) (Tr.fvals lcs))(O:f.is x b bm):Calls prog 70 #[.agg #[.s l u c1,.s Z lms.length j],.agg #[.s (.p tg) (Tr.tree t).length tc,.s ya yn yc],f.val] b fun e J=>∃a n c,e=.r (.tuple #[.s a n c,.bool (Gw t m x).isSome])/\(∀mp,Gw t m x=some mp->∃v,v.map Prod.fst=mp/\Sz J b.heap.size (.s a n c) v)/\Bl b J:=by
 have g:=k.mt x I;have L:=Wd k I hc;obtain⟨hL,hA⟩:=Y0 k I;have c0:=Ix t;have c3:=k.l6;have c4:=k.m6;have c5:lcs.length=t.length:=by rw[<- ec];simp
 have c6:lms.length=m.length:=by rw[<- em];simp
 have c7:=g.bd.code;have c8:=g.rd.lo;have a4:=O.st;have a5:∀i∈Cd.readL x.code,0<=i.place:=fun i hi=>by obtain⟨p,hp⟩:=hL i hi;have:=hp.pl;omega
 have i0:=Bjl (Ep t m x);have il:(Nm (Ep t m x)).sp.length=(Ep t m x).n:=by simp[Nm]
 have ca:=Uh L i0 il (x:=(Ep t m x).x0) ⟨L.x0.lo,L.x0.tl,L.x0.ts⟩ 0;have h0:Xc t m x (D9 (Tr.tree t) f.st (Fk x) 0 ⟨List.replicate x.code.length Jz,false⟩):=by
  rw[a4];exact⟨ca.up.ok,ca.up.len.trans il⟩
 have a6:=Bdb L hL;have b3:∀z,Xc t m x z->Io (Tr.tree t) x.locals.toNat x.stack (Yj x.code) (Rv (Tr.tree t) x.locals.toNat x.stack) z (Ct (Gx (Ep t m x) (Dt t m x)) (Cd.readL x.code) false z).1/\((Ct (Gx (Ep t m x) (Dt t m x)) (Cd.readL x.code) false z).2=true->false=false->Mx (Tr.tree t) (Rv (Tr.tree t) x.locals.toNat x.stack) (Ct (Gx (Ep t m x) (Dt t m x)) (Cd.readL x.code) false z).1<Mx (Tr.tree t) (Rv (Tr.tree t) x.locals.toNat x.stack) z):=fun z C=>Xu (Cd.readL x.code) a5 a6 false C.1;have b4:=fun D (h:Bl b D)=>(show Calls prog 110 #[f.val] D fun e J=>∃A:FrV,e=.returned A.val/\A.is (Fk x) J/\Bl D J from by
  have F:=O.below h;have:=Bb5 f x.params x.locals.toNat D (by rw[F.lo];omega) Bd (TyR.of_tys F.ps) (by have:=g.bd.ps;omega);rw[F.cl]at this;exact this)
 have b5:=Bnt l Z u c1 lms.length j tg tc ya yn yc (Tr.tree t) f x bm (Fk x) (Gx (Ep t m x) (Dt t m x)) (Xc t m x) (Mx (Tr.tree t) (Rv (Tr.tree t) x.locals.toNat x.stack)) (Ye (Tr.tree t) (Rv (Tr.tree t) x.locals.toNat x.stack) (Gx (Ep t m x) (Dt t m x)) (Cd.readL x.code)) b Bd a0 O Bd g.bd.code0 b4 h0
  (fun z C=>by
   have:=Boj (K:=Rv (Tr.tree t) x.locals.toNat x.stack) a5 a6 C.1;refine this.trans ?_;have b6:((Ct (Gx (Ep t m x) (Dt t m x)) (Cd.readL x.code) false z).2=true/\(Ct (Gx (Ep t m x) (Dt t m x)) (Cd.readL x.code) false z).1.hop=false)<->((Ct (Gx (Ep t m x) (Dt t m x)) (Cd.readL x.code) false z).2 && !(Ct (Gx (Ep t m x) (Dt t m x)) (Cd.readL x.code) false z).1.hop)=true:=Fr;simp only[b6];rfl)
  (fun z C h=>(b3 z C).2 (by simp at h;exact h.1) rfl)
  (fun la lc bb S G z D b7 hS hG hI C b8=>by
   refine Bio (lcs:=lcs) (lms:=lms) (bm:=bm) k I hc (fun w3 Q b9=>?_) hS hG C b7 hI b8;have a7:=QB hb Q;obtain⟨c9,d0,a8⟩:=Bg a3;simp only[Value.slice.injEq]at a8;refine⟨k,ec,em,I,rfl,rfl,⟨rfl,Bd,?_,(by rw[Wb];exact a8.2.1),(by rw[Wb];omega),?_,⟨?_,?_⟩,(by show (Tr.tree t).length<=1000;omega),a0.below Q,?_,D8 b9 (Bv5 _)⟩,?_⟩
   ·exact(b2.kp (Kp.of_below (e:=none) a7) Ck Ck Ck Ck Ck).mono (Bv5 _)
   ·intro q B;unfold Kg at B;rcases List.mem_append.1 B with B|B
    ·rw[(List.mem_replicate.1 B).2];simp
    obtain⟨c,V,rfl⟩:=List.mem_map.1 B;exact k.fn c.1 (by rw[<- ec];exact List.mem_map.2 ⟨c,V,rfl⟩)
   ·rw[Bhf,Wb];exact D8 (Cx a3 (Kp.of_below (e:=none) Q) Ck) (Bv5 _)
   ·intro q B;unfold Kg at B;rcases List.mem_append.1 B with B|B
    ·rw[(List.mem_replicate.1 B).2];exact TyR.nil _
    obtain⟨c,V,rfl⟩:=List.mem_map.1 B;exact TyR.of_tys ((b1.kp (Kp.of_below (e:=none) a7) Ck Ck).2 c V)
   ·show (Cd.readL x.code).length<=100000;rw[Vy g.unread];have:=Aj x.code;omega
   have Y:=O.below Q;have a9:=Y.cn;obtain⟨cl,nm,pa,pl,pc,r1,r2,lo,st,ca,cn,cc,ha,d1,V,ma,ml,mc⟩:=f;simp only at a9;subst a9;exact Y)
 refine b5.mono ?_;rintro e D ⟨a,n,c,rfl,F,Y⟩;rw[a4]at F ⊢;change (Ja t m x).hop=false->∃v,v.map Prod.fst=Fp 0 (Ja t m x).sp/\Sz D b.heap.size (.s a n c) v at F;refine⟨a,n,c,?_,fun mp N=>?_,Y⟩
 ·show Ending.returned (.tuple #[.s a n c,.bool (!(Ja t m x).hop)])=_;unfold Gw;cases (Ja t m x).hop<;>rfl
 unfold Gw at N;by_cases hh:(Ja t m x).hop=true;·rw[Sp hh]at N;cases N
 rw[Pf hh]at N;cases N;exact F (by simpa using hh)
def Bk3{t:List Rd.Cls}{m:List Rd.Mth}(k:Jj t m)(I:∀b∈m,0<b.code.length){a1 a2:TA}{n1 c1 n2 c2 bm:Nat}{lcs:List (Rd.Cls×Value)}{lms:List (Rd.Mth×Eh)}(J:bm<=w.heap.size)(f:lcs.map Prod.fst=t)(j:Ex w bm (.s a1 n1 c1) lcs)(c:lms.map Prod.fst=m)(g:Eb w bm (.s a2 n2 c2) lms):Calls prog 46 #[.agg #[.s a1 n1 c1,.s a2 n2 c2]] w fun e h=>∃q v z A B C,e=.r (.tuple #[.agg #[.s q v z,.s A B C],.i (Na (Gw t m) 0 m),.bool (Fz (Gw t m) m).isSome])/\(∀r,Fz (Gw t m) m=some r->q=a1/\v=n1/\z=c1/\∃l,l.map Prod.fst=r/\Uk h bm (.s A B C) l)/\Bl w h:=by
 obtain⟨Q,V,D⟩:=Bg g.1;simp only[Value.slice.injEq]at D;obtain⟨rfl,rfl,rfl⟩:=D;have Y:lcs.length=t.length:=by rw[<- f];simp
 have Z:lms.length=m.length:=by rw[<- c];simp
 have a0:=k.l6;have a3:=k.m6;have:=Brp a1 a2 n1 c1 c2 bm lcs lms (Gw t m) w J Bd j Bd g (fun p K tg tc ya yn yc b h L F N O=>by
  have G:p.1∈m:=by rw[<- c];exact List.mem_map.2 ⟨p,K,rfl⟩
  rw[f]at F ⊢;exact Bk1 k f j c g G (I _ G) L F N O)
 rw[c]at this;exact this
def Yv:∀(l:List Od) (k:Nat) (q:Rd.Mp),q∈Fp k l->∃i p,l[i]?=some p/\p.wa=true/\q=⟨((k+i:Nat):Int),p.fr.locals,p.fr.stack⟩
 | [],_,_,h=>by simp[Fp]at h
 | p::r,k,q,h=>by
  unfold Fp at h;by_cases b:p.wa=true
  ·rw[Sp b]at h;rcases List.mem_cons.1 h with rfl|h
   ·exact⟨0,p,rfl,b,rfl⟩
   obtain⟨i,c,e,f,g⟩:=Yv r (k+1) q h;exact⟨i+1,c,e,f,by rw[g,show k+1+i=k+(i+1) by omega]⟩
  rw[Pf b]at h;obtain⟨i,c,e,f,g⟩:=Yv r (k+1) q h;exact⟨i+1,c,e,f,by rw[g,show k+1+i=k+(i+1) by omega]⟩
def Bcf:∀(l:List Od) (k:Nat),(Fp k l).length<=l.length
 | [],_=>Wf _
 | p::r,k=>by
  have:=Bcf r (k+1);unfold Fp
  split<;>simp<;>omega
def Be8{E:Df}(g:E.Good){b:Cd.Ins->Be->Option Be}{L:List Cd.Ins}(l:∀i∈L,∃p,Po E b i p)(m:∀p∈E.ps,∃i∈L,i.place=(p:Int))(s:(Fq E b L).hop=false){q:Nat}(t:((Fq E b L).at q).wa=true):((Fq E b L).at q).st=true/\E.I ((Fq E b L).at q).fr:=by
 obtain⟨v,_,A,_⟩:=Bck g l m;obtain⟨B,_,C⟩:=A s;obtain⟨p,D,hF,G⟩:=(C q).1 t;have J:∃z,(Fq E b L).F q=some z:=by
  cases e:(Fq E b L).F p with
  | none=>exact absurd e hF
  | some x =>
   have f:=B.sat p D x e;rcases G with ⟨h,K,N,rfl⟩|⟨O,rfl⟩
   ·obtain⟨_,_,_,⟨z,c,_⟩,_⟩:=f.go _ _ _ (.hnd h K N);exact⟨z,c⟩
   obtain⟨y,Q⟩:=f.rl;obtain⟨_,_,_,⟨z,c,_⟩,_⟩:=f.go _ _ _ (.jmp y Q O);exact⟨z,c⟩
 obtain⟨z,c⟩:=J;obtain⟨j,_⟩:=Ol.1 c;exact⟨j,Ov v j⟩
def Bik{t:List Rd.Cls}{m:List Rd.Mth}(k:Jj t m){F:Rd.Mth}(c:F∈m)(v:0<F.code.length){mp:List Rd.Mp}(h:Gw t m F=some mp):mp.length<=F.code.length/\∀q∈mp,0<=q.place/\q.place<(F.code.length:Int)/\J1 (Tr.tree t) F ⟨q.locals,q.stack⟩:=by
 have e:=Wd k c v;obtain⟨f,g⟩:=Y0 k c;unfold Gw at h;by_cases b:(Ja t m F).hop=true;·rw[Sp b]at h;cases h
 rw[Pf b]at h;cases h;have C:(Ja t m F).sp.length=F.code.length:=(Bck e f g).2.1;refine⟨by have:=Bcf (Ja t m F).sp 0;omega,fun q z=>?_⟩;obtain⟨i,p,j,A,rfl⟩:=Yv _ _ _ z;have D:i<(Ja t m F).sp.length:=(List.getElem?_eq_some_iff.1 j).1;have l:(Ja t m F).at i=p:=by unfold Bt.at;rw[Th,j];rfl
 have B:=Be8 e f g (show (Ja t m F).hop=false by simpa using b) (q:=i) (by show ((Ja t m F).at i).wa=true;rw[l];exact A);have s:J1 (Tr.tree t) F ((Ja t m F).at i).fr:=B.2;rw[l]at s;exact⟨Ls,Ls,s⟩
def Yz{c:Rd.Mth->Option (List Rd.Mp)}:∀(l r:List Rd.Mth),Fz c l=some r->r.length=l.length/\∀y∈r,∃m∈l,∃mp,c m=some mp/\y=m.withMaps mp
 | [],r,h=>by cases h;exact⟨rfl,fun y b=>by simp at b⟩
 | m::l,r,h=>by
  unfold Fz at h;cases e:c m with
  | none=>rw[e]at h;cases h
  | some mp =>
   rw[e]at h;simp only at h;cases f:Fz c l with
   | none=>rw[f]at h;cases h
   | some r' =>
    rw[f]at h;cases h;obtain⟨g,i⟩:=Yz l r' f;refine⟨by simp[g],fun y b=>?_⟩;rcases List.mem_cons.1 b with rfl|b
    ·exact⟨m,Fr,mp,e,rfl⟩
    obtain⟨j,p,q⟩:=i y b;exact⟨j,by simp[p],q⟩
def Yd (s:TB):List UInt8 × Int × Int :=
 if (Rf.formed s).1≠0 then ([],(Rf.formed s).1,(Rf.formed s).2.1)
 else match Fz (Gw (Rd.read s).1.classes (Rd.read s).1.methods) (Rd.read s).1.methods with
  | none=>([],10,Na (Gw (Rd.read s).1.classes (Rd.read s).1.methods) 0 (Rd.read s).1.methods)
  | some r=>(Ux ⟨(Rd.read s).1.classes,r⟩,0,0)
def Ba0{D:TB}(h:(Rf.formed D).1=0):(Rd.read D).2=0:=by
 rw[<- M3]at h;unfold Ft at h;by_cases b:(Rd.read D).2≠0;·rw[Sp b]at h;exact absurd h b
 simpa using b
def Bmx(s:ByteArray)(h:(Rf.formed s.data.toList).1=0){r:List Rd.Mth}(i:Fz (Gw (Rd.read s.data.toList).1.classes (Rd.read s.data.toList).1.methods) (Rd.read s.data.toList).1.methods=some r):(Ux ⟨(Rd.read s.data.toList).1.classes,r⟩).length<=100000:=by
 obtain⟨k,_,_⟩:=Ke _ h;have j:=Zy _ (Ba0 h);obtain⟨v,l⟩:=Vx s.data.toList;obtain⟨z,p⟩:=Xt s.data.toList;generalize (Rd.read s.data.toList).1=f at *;obtain⟨A,J⟩:=f;simp only at k j v l z p i ⊢;obtain⟨K,B⟩:=Yz _ _ i;unfold Ux Bbq;simp only[Up,Bvo,Bwn];have L:=Bdg Nf 2002 A (fun x e=>by have:=p x e;simp only[Nf,Bvo,Kf];omega);have N:=Bdg Ks 5000 r (fun x e=>by
  obtain⟨m,c,mp,C,rfl⟩:=B x e;obtain⟨O,D⟩:=Bik k c (j m c) C;have b:=l m c;have Q:=b.ps;have g2:=b.code;have g3:=b.hs;have g:=k.mt m c;have g4:=g.rd.lo;have g5:=g.rd.st;have V:=Bdg Lk 34 mp (fun q F=>by
   obtain⟨_,_,t⟩:=D q F;have G:=t.lo;have I:=t.hi;simp only at G I;simp only[Lk,Bvo,Up,Kf];omega)
  rw[Bcz];simp only[Rd.Mth.withMaps,Pw,Uw,Bvo,As];omega)
 omega
def Bi1(s:ByteArray)(w:TW)(hs:s.size<=maxLen):Calls prog 14 #[.string s] w fun e w'=>e=.r (.tuple #[.string ⟨(Yd s.data.toList).1.toArray⟩,.i (Yd s.data.toList).2.1,.i (Yd s.data.toList).2.2])/\Bl w w':=by
 have J:=fun w=>Bdy s w hs;have b0:=M3 s.data.toList;have K:=fun h r hr=>Bmx s h (r:=r) hr;have L:=fun h=>Ke s.data.toList h;have N:=fun h=>Zy s.data.toList (Ba0 h);obtain⟨b5,-⟩:=Vx s.data.toList;obtain⟨b6,-⟩:=Xt s.data.toList;rw[b0]at J;unfold Yd;generalize Rf.formed s.data.toList=P at *;generalize Rd.read s.data.toList=q at *;obtain⟨O,f,m⟩:=P;obtain⟨⟨Q,V⟩,er⟩:=q;simp only at J K L N b5 b6 ⊢;have a4:=Bc J;clear J b0;by_cases h1:O=0
 ·subst h1;rw[Pf Fr];obtain⟨k,-,-⟩:=L rfl;have b1:=N rfl;have b2:=K rfl;have b3:=fun (a1 a2:TA) (n1 c1 n2 c2 bm:Nat) (lcs:List (Rd.Cls×Value)) (lms:List (Rd.Mth×Eh)) (w':TW) b7 ec b8 em b9=>Bk3 (a1:=a1) (a2:=a2) (n1:=n1) (c1:=c1) (n2:=n2) (c2:=c2) (bm:=bm) (lcs:=lcs) (lms:=lms) (w:=w') k b1 b7 ec b8 em b9;generalize hF:Fz (Gw Q V) V=FL at *;generalize Na (Gw Q V) 0 V=WH at *;have b4:=Bc b3;have c0:=Bc b2;clear L N K b2 b3 k b1;cases FL with
  | none =>
   simp only;go_in;go_wp2_with fail;refine(Ba a4 _).mono ?_;rintro e g ⟨a1,n1,c1,a2,n2,c2,rfl,t,b⟩;obtain⟨lcs,lms,v,z,a5,A⟩:=t trivial;clear t;have B:=b.size;have C:=(b.alloc B (O1 a1 n1 c1 a2 n2 c2)).alloc Fm (O8 0 f m);have c:Kp none w.heap.size g ((g.alloc (O1 a1 n1 c1 a2 n2 c2)).alloc (O8 0 f m)):=(Kp.alloc _ _).trans (Kp.alloc _ _);have j:=z.kp c Ck Ck;have D:=A.kp c Ck Ck Ck Ck Ck;have a6:=Bc (Ba b4 a1 a2 n1 c1 n2 c2 w.heap.size lcs lms _ Fm v j a5 D);clear z A c j D;go_wp2_with fail;refine(Ba a6).mono ?_;rintro e Y ⟨Z,gn,gc,ha,hn,hc,rfl,-,F⟩;have G:=QB C F;go_wp2;refine tb (.tuple #[.string ⟨#[]⟩,.i 10,.i WH]) (by simp[results,B0s,go_sem]) ?_;exact⟨rfl,G.alloc G.size _⟩
  | some r =>
   simp only;have c3:=Ba c0 r rfl;have e1:=(Yz _ _ hF).1;go_in;go_wp2_with fail;refine(Ba a4 _).mono ?_;rintro e g ⟨a1,n1,c1,a2,n2,c2,rfl,t,b⟩;obtain⟨lcs,lms,v,z,a5,A⟩:=t trivial;clear t;have B:=b.size;have C:=(b.alloc B (O1 a1 n1 c1 a2 n2 c2)).alloc Fm (O8 0 f m);have c:Kp none w.heap.size g ((g.alloc (O1 a1 n1 c1 a2 n2 c2)).alloc (O8 0 f m)):=(Kp.alloc _ _).trans (Kp.alloc _ _);have j:=z.kp c Ck Ck;have D:=A.kp c Ck Ck Ck Ck Ck;have a6:=Bc (Ba b4 a1 a2 n1 c1 n2 c2 w.heap.size lcs lms _ Fm v j a5 D);clear z A c D;go_wp2_with fail;refine(Ba a6).mono ?_;rintro e Y ⟨Z,gn,gc,ha,hn,hc,rfl,c4,F⟩;obtain⟨rfl,rfl,rfl,l,hl,a0⟩:=c4 r rfl;have G:=QB C F;have c5:=G.size;have a7:=j.kp (Kp.of_below (e:=none) F) Ck Ck;obtain⟨xa,xc,I⟩:=Bg a7.1;simp only[Value.slice.injEq]at I;obtain⟨rfl,rfl,rfl⟩:=I;obtain⟨xa,xc,I⟩:=Bg a0.1;simp only[Value.slice.injEq]at I;obtain⟨rfl,rfl,rfl⟩:=I;have c8:lcs.length<=6:=by have:=congrArg List.length v;simp at this;omega
   have c9:l.length<=6:=by have:=congrArg List.length hl;simp at this;omega
   have a3:Bl Y (Y.alloc (O1 Z lcs.length gc ha l.length hc)):=QN _;have a8:(⟨lcs.map Prod.fst,l.map Prod.fst⟩:Rd.Fil)=⟨Q,r⟩:=by rw[v,hl]
   have a9:=Blr Z ha gc hc w.heap.size lcs l (Y.alloc (O1 Z lcs.length gc ha l.length hc)) (by rw[a8];exact c3) Bd Bd (a7.kp (Kp.of_below (e:=none) a3) Ck Ck) ⟨Cx a0.1 (Kp.of_below (e:=none) a3) Ck,fun p hp=>(a0.2 p hp).below a3⟩;rw[a8]at a9;have c6:=Bc a9;clear a9 a8 j a7 a0 F a3;go_wp2_with fail;refine Qm (Ba c6) ?_;intro w3 c7;go_wp2;refine tb (.tuple #[.string ⟨(Ux ⟨Q,r⟩).toArray⟩,.i 0,.i 0]) (by simp[results,B0s,go_sem]) ?_;exact⟨rfl,(G.alloc c5 _).trans (c7.mono Fm)⟩
 rw[Sp h1];have d0:(O != 0)=true:=by simpa using h1
 clear L N K;simp only;go_in;go_wp2_with fail;refine(Ba a4 _).mono ?_;rintro e g ⟨a1,n1,c1,a2,n2,c2,rfl,-,b⟩;have B:=b.size;have C:=(b.alloc B (O1 a1 n1 c1 a2 n2 c2)).alloc Fm (O8 O f m);go_wp2;go_quiet (fail);go_wp2;refine tb (.tuple #[.string ⟨#[]⟩,.i O,.i f]) (by simp[results,B0s,go_sem]) ?_;exact⟨rfl,Cy C⟩
def By (n:Int):Prop:=0<=n/\n<=255
def TyB (t:Int × Int):Prop:=By t.1/\By t.2
structure Blz(c:Rd.Cls):Prop where
 ab:By c.above
 fl:c.fields.length<=4
 ty:∀t∈c.fields,TyB t
structure Bux(h:Rd.Hnd):Prop where
 fr:By h.frm
 tl:By h.til
 tg:By h.target
 cl:By h.cl
structure MpB(lo hi:Int)(m:Rd.Mp):Prop where
 pl:By m.place
 lo:(m.locals.length:Int)=lo
 hi:(m.stack.length:Int)<=hi
 tl:∀t∈m.locals,TyB t
 ts:∀t∈m.stack,TyB t
structure Blv(m:Rd.Mth):Prop where
 cl:By m.cl
 nm:By m.name
 pl:m.params.length<=4
 ps:∀t∈m.params,TyB t
 rs:TyB m.result
 lo:0<=m.locals/\m.locals<=8
 st:0<=m.stack/\m.stack<=8
 c1:1<=m.code.length
 c2:m.code.length<=120
 cb:∀x∈m.code,By x
 h4:m.handlers.length<=4
 hb:∀h∈m.handlers,Bux h
 m6:m.maps.length<=64
 mb:∀q∈m.maps,MpB m.locals m.stack q
structure Brq(f:Rd.Fil):Prop where
 c6:f.classes.length<=6
 cb:∀c∈f.classes,Blz c
 m1:1<=f.methods.length
 m6:f.methods.length<=6
 mb:∀m∈f.methods,Blv m
def A5{α:Type}{f:Rd.St->α×Rd.St}{P:α->Prop}(h:∀t,P (f t).1):∀(n:Nat) (t:Rd.St),∀x∈(Rd.rep f n t).1,P x
 | 0,_,x,b=>by simp[Rd.rep]at b
 | n+1,t,x,b=>by
  unfold Rd.rep at b;simp only at b;rcases List.mem_append.1 b with b|b
  ·exact A5 h n t x b
  rw[List.mem_singleton.1 b];exact h _
def Btt(s:TB)(t:Rd.St):TyB (Rd.ty s t).1:=⟨Rd.nx_bd s _,Rd.nx_bd s _⟩
def Bfp(s:TB)(n:Nat)(t:Rd.St):∀x∈(Rd.tys s n t).1,TyB x:=A5 (Btt s) n t
def Bva(s:TB)(t:Rd.St):Blz (Rd.cls s t).1:=by
 refine⟨Rd.nx_bd s _,?_,Bfp s _ _⟩;simp only[Rd.cls,Rd.tys,Rd.rep_len];have:=Rd.cn_bd s 0 4 (Rd.nx s t).2 Bd;omega
def Bu8(s:TB)(t:Rd.St):Bux (Rd.hnd s t).1:=⟨Rd.nx_bd s _,Rd.nx_bd s _,Rd.nx_bd s _,Rd.nx_bd s _⟩
def Bvf(s:TB)(L H:Int)(c:0<=L)(b:0<=H)(t:Rd.St):MpB L H (Rd.mp s L H t).1:=by
 refine⟨Rd.nx_bd s _,?_,?_,Bfp s _ _,Bfp s _ _⟩
 ·simp only[Rd.mp,Rd.tys,Rd.rep_len];omega
 simp only[Rd.mp,Rd.tys,Rd.rep_len];have:=Rd.cn_bd s 0 H (Rd.rep (Rd.ty s) L.toNat (Rd.nx s t).2).2 b;omega
def Bu4(s:TB)(t:Rd.St)(h:(Rd.mth s t).2.bad=false):Blv (Rd.mth s t).1:=by
 have c:=Bgq s t h;unfold Rd.mth at c ⊢;simp only at c ⊢;refine⟨Rd.nx_bd s _,Rd.nx_bd s _,?_,Bfp s _ _,Btt s _,Rd.cn_bd s _ _ _ Bd,Rd.cn_bd s _ _ _ Bd,c,?_,A5 (Rd.nx_bd s) _ _,?_,A5 (Bu8 s) _ _,?_,A5 (Bvf s _ _ (Rd.cn_bd s _ _ _ Bd).1 (Rd.cn_bd s _ _ _ Bd).1) _ _⟩
 ·simp only[Rd.tys,Rd.rep_len];have:=Rd.cn_bd s 0 4 (Rd.nx s (Rd.nx s t).2).2 Bd;omega
 ·simp only[Rd.codes,Rd.rep_len];have b:=Rd.cn_bd s 1 120;generalize (Rd.cn s 0 8 _).2=u;have:=b u Bd;omega
 ·simp only[Rd.hnds,Rd.rep_len];have b:=Rd.cn_bd s 0 4;generalize (Rd.codes s _).2=u;have:=b u Bd;omega
 simp only[Rd.mps,Rd.rep_len];have b:=Rd.cn_bd s 0 64;generalize (Rd.hnds s _).2=u;have:=b u Bd;omega
def Brs(s:TB):∀(n:Nat) (t:Rd.St),(Rd.rep (Rd.mth s) n t).2.bad=false->∀m∈(Rd.rep (Rd.mth s) n t).1,Blv m
 | 0,_,_,m,b=>by simp[Rd.rep]at b
 | n+1,t,h,m,b=>by
  unfold Rd.rep at h b;simp only at h b;rcases List.mem_append.1 b with b|b
  ·refine Brs s n t ?_ m b;cases c:(Rd.rep (Rd.mth s) n t).2.bad with
   | false=>rfl
   | true=>rw[Bda s _ c]at h;cases h
  rw[List.mem_singleton.1 b];exact Bu4 s _ h
def Buq(s:TB)(a b:Int)(t:Rd.St)(h:(Rd.cn s a b t).2.bad=false):a<=(Rd.cn s a b t).1:=by
 unfold Rd.cn at h ⊢
 split at h
 ·cases h
 split at h
 ·cases h
 next h1 h2=>rw[Pf h1,Pf h2];omega
def Btz(s:TB)(h:(Rd.read s).2=0):Brq (Rd.read s).1:=by
 unfold Rd.read at h ⊢;by_cases g:15000<s.length;·rw[Sp g]at h;simp at h
 rw[Pf g]at h ⊢;by_cases e:(Rd.fil s ⟨0,false⟩).2.bad=true\/(Rd.fil s ⟨0,false⟩).2.pos≠s.length;·rw[Sp e]at h;simp at h
 rw[Pf e];have b:(Rd.fil s ⟨0,false⟩).2.bad=false:=by
  cases b:(Rd.fil s ⟨0,false⟩).2.bad with
  | false=>rfl
  | true=>exact absurd (.inl b) e
 unfold Rd.fil at b ⊢;simp only at b ⊢;generalize Rd.ex s 77 (Rd.ex s 83 ⟨0,false⟩)=u at *;have q:=Rd.cn_bd s 0 6 u Bd;generalize Rd.cn s 0 6 u=n at *;have i:∀c∈(Rd.rep (Rd.cls s) n.1.toNat n.2).1,Blz c:=A5 (Bva s) _ _;have t:(Rd.rep (Rd.cls s) n.1.toNat n.2).1.length=n.1.toNat:=Rd.rep_len _ _ _;generalize Rd.rep (Rd.cls s) n.1.toNat n.2=f at *;have v:=Rd.cn_bd s 1 6 f.2 Bd;have j:=Buq s 1 6 f.2;generalize Rd.cn s 1 6 f.2=m at *;have l:m.2.bad=false:=by
  cases p:m.2.bad with
  | false=>rfl
  | true=>rw[Tj (Bda s) _ _ p]at b;cases b
 have z:=j l;refine⟨Ls,i,?_,?_,Brs s _ _ b⟩
 ·simp only[Rd.rep_len];omega
 simp only[Rd.rep_len];omega
def Zv(c:TI):∀(k b:Nat),c.length<=b+k->∀(d r:List Nat) (p:Nat),Cd.starts c k b=d++p::r->p+Cd.wd (c.getD p 0)<c.length->∃g,r=(p+Cd.wd (c.getD p 0))::g
 | 0,b,_,d,r,p,h,_=>by simp[Cd.starts]at h
 | k+1,b,hk,d,r,p,h,hl=>by
  unfold Cd.starts at h;by_cases f:b<c.length
  ·rw[Sp f]at h;have i:=Cd.wd_bd (c.getD b 0);cases d with
   | nil =>
    simp only[Bx4,List.cons.injEq]at h;obtain⟨rfl,rfl⟩:=h;obtain⟨j,rfl⟩:∃j,k=j+1:=⟨k-1,Bd⟩;unfold Cd.starts;rw[Sp hl];exact⟨_,rfl⟩
   | cons e d =>
    simp only[Bws,List.cons.injEq]at h;exact Zv c k _ Bd d r p h.2 hl
  rw[Pf f]at h;simp at h
def Bgg{z:TI}{d r:List Nat}(h:Cd.places z=d++u::r)(b:u+Cd.wd (z.getD u 0)<z.length):∃e,r=(u+Cd.wd (z.getD u 0))::e:=Zv z z.length 0 Bd d r u h b
def Uz{T:TI}{mp:Int->Option Be}{p:Int}{lo:TP}:∀{hs:List Rd.Hnd},Kk T mp p lo hs=0<->∀h∈hs,El h p=true->∃z,mp h.target=some z/\Dk T ⟨lo,[(3,h.cl)]⟩ z=true
 | []=>by simp[Kk]
 | h::r=>by
  have i:=Uz (T:=T) (mp:=mp) (p:=p) (lo:=lo) (hs:=r);unfold Kk;have j:El h p=true<->h.frm<=p/\p<h.til:=by unfold El;simp
  by_cases m:p<h.frm
  ·rw[Sp m,i]
   constructor
   ·intro g x b c;rcases List.mem_cons.1 b with rfl|b
    ·have:=(j.1 c).1;omega
    exact g x b c
   exact fun g x b=>g x (by simp[b])
  rw[Pf m];by_cases q:h.til<=p
  ·rw[Sp q,i]
   constructor
   ·intro g x b c;rcases List.mem_cons.1 b with rfl|b
    ·have:=(j.1 c).2;omega
    exact g x b c
   exact fun g x b=>g x (by simp[b])
  rw[Pf q];have c:El h p=true:=j.2 ⟨Bd,Bd⟩;cases l:mp h.target with
  | none =>
   simp only[Bzp,By3]
   constructor
   ·intro g;omega
   intro g;obtain⟨z,e,_⟩:=g h Fr c;rw[l]at e;cases e
  | some z =>
   rw[Pf (show ¬(some z).isSome=false by simp),show Ef (some z)=z from rfl];by_cases f:Dk T ⟨lo,[(3,h.cl)]⟩ z=true
   ·rw[Pf (show ¬Dk T ⟨lo,[(3,h.cl)]⟩ z=false by rw[f];simp),i]
    constructor
    ·intro g x b s;rcases List.mem_cons.1 b with rfl|b
     ·exact⟨z,l,f⟩
     exact g x b s
    exact fun g x b=>g x (by simp[b])
   rw[Sp (show Dk T ⟨lo,[(3,h.cl)]⟩ z=false by simpa using f)]
   constructor
   ·intro g;omega
   intro g;obtain⟨v,e,t⟩:=g h Fr c;rw[l]at e;cases e;exact absurd t f
def Bnp{z:TI}{mp:Int->Option Be}{H:Int}{R:Option Be}{op n p t:Int}:Nq z mp H R op n p t=0 <-> H=0/\∃y,R=some y/\(Dx op=true->∃c,mp n=some c/\Dk z y c=true)/\(Dz op=true->p<t/\∀c,mp p=some c->Dk z y c=true):=by
 unfold Nq;by_cases i:H=0
 ·rw[Pf (fun g=>g i)];cases R with
  | none=>simp
  | some y =>
   rw[Pf (show ¬(some y).isSome=false by simp),show Ef (some y)=y from rfl]
   constructor
   ·intro h;refine⟨i,y,rfl,?_,?_⟩
    ·intro j;by_cases m:(mp n).isSome=false;·rw[Sp ⟨j,m⟩]at h;omega
     rw[Pf (fun g=>m g.2)]at h;cases f:mp n with
     | none=>rw[f]at m;simp at m
     | some c =>
      rw[f,show Ef (some c)=c from rfl]at h;by_cases l:Dk z y c=false;·rw[Sp ⟨j,l⟩]at h;omega
      exact⟨c,rfl,by simpa using l⟩
    intro q
    split at h
    ·omega
    split at h
    ·omega
    rw[Pf (by rw[q];simp)]at h
    split at h
    ·omega
    next v =>
    refine⟨Bd,fun c f=>?_⟩;rw[f,show Ef (some c)=c from rfl]at h;by_cases l:Dk z y c=false;·rw[Sp ⟨rfl,l⟩]at h;omega
    simpa using l
   rintro ⟨-,B,e,j,q⟩;cases e;rw[Pf (by
    rintro ⟨a,b⟩;obtain⟨c,f,_⟩:=j a;rw[f]at b;simp at b),Pf (by
    rintro ⟨a,b⟩;obtain⟨c,f,A⟩:=j a;rw[f,show Ef (some c)=c from rfl,A]at b;cases b)]
   by_cases s:Dz op=true
   ·obtain⟨v,f⟩:=q s;rw[Pf (by rw[s];simp),Pf Bd,Pf (by
     rintro ⟨a,b⟩;obtain⟨c,e⟩:=Option.isSome_iff_exists.1 a;rw[e,show Ef (some c)=c from rfl,f c e]at b;cases b)]
   rw[Sp (by simpa using s)]
 rw[Sp i]
 constructor
 ·intro h;exact absurd h i
 intro h;exact absurd h.1 i
def V6{ah:Nat->Option Be}{lk:Nat->Be->Int}:∀{l:List Nat},(Lm ah lk l).1=0<->∀p∈l,∀x,ah p=some x->lk p x=0
 | []=>by simp[Lm]
 | p::r=>by
  have i:=V6 (ah:=ah) (lk:=lk) (l:=r);unfold Lm;cases c:ah p with
  | none =>
   simp only;rw[i]
   constructor
   ·intro g q b x e;rcases List.mem_cons.1 b with rfl|b
    ·rw[c]at e;cases e
    exact g q b x e
   exact fun g q b=>g q (by simp[b])
  | some x =>
   simp only;by_cases h:lk p x=0
   ·rw[Pf (fun g=>g h),i]
    constructor
    ·intro g q b y f;rcases List.mem_cons.1 b with rfl|b
     ·rw[c]at f;cases f;exact h
     exact g q b y f
    exact fun g q b=>g q (by simp[b])
   rw[Sp h]
   constructor
   ·intro g;exact absurd g h
   intro g;exact absurd (g p Fr x c) h
def Us{t:List Rd.Cls}{m:List Rd.Mth}{F:Rd.Mth}{d r:List Nat}(h:Cd.places F.code=d++u::r):Jh t m F u=(Fj F (u:Int)).or (d.foldl (fun o p=>Mk (fun p=>Fj F (p:Int)) (Fn t m F) (fun p=>Dz (F.code.getD p 0)) p o) (some (Fk F))):=by
 have b:=Bd4 F.code;unfold Jh;rw[h]at b ⊢;exact Ar _ _ _ u r d _ (fun p c=>(List.pairwise_append.1 b).2.2 p c u Fr)
def Bil{t:List Rd.Cls}{m:List Rd.Mth}{F:Rd.Mth}(b:0<F.code.length):Jh t m F 0=(Fj F 0).or (some (Fk F)):=by
 obtain⟨r,c⟩:∃r,Cd.places F.code=[]++0::r:=by
  unfold Cd.places;cases e:F.code.length with
  | zero=>omega
  | succ n =>
   unfold Cd.starts;rw[Sp b];exact⟨_,rfl⟩
 rw[Us c];rfl
def Bim{t:List Rd.Cls}{m:List Rd.Mth}{F:Rd.Mth}(b:u∈Cd.places F.code)(c:u+Cd.wd (F.code.getD u 0)<F.code.length):Jh t m F (u+Cd.wd (F.code.getD u 0))=(Fj F ((u+Cd.wd (F.code.getD u 0):Nat):Int)).or ((Jh t m F u).bind fun x=>(Fn t m F u x).bind fun z=>if Dz (F.code.getD u 0)=true then some z else none):=by
 obtain⟨d,r,h⟩:=Bzs b;obtain⟨e,rfl⟩:=Bgg h c;rw[Us (d:=d++[u]) (r:=e) (by rw[h];simp),Us h,List.foldl_append];rfl
def Wt (cs:List Rd.Cls)(ms:List Rd.Mth)(m:Rd.Mth)(q:Nat):Option Be:=if q∈Cd.places m.code then Jh cs ms m q else none
def Ut{t:List Rd.Cls}{m:List Rd.Mth}{F:Rd.Mth}(h:u∈Cd.places F.code):Wt t m F u=Jh t m F u:=Sp h
def Vd{t:List Rd.Cls}{m:List Rd.Mth}{F:Rd.Mth}(h:u∈Cd.places F.code){U:Be}(b:Fj F (u:Int)=some U):Jh t m F u=some U:=by
 obtain⟨d,r,h⟩:=Bzs h;rw[Us h,b];rfl
def Bqk{t:List Rd.Cls}{m:List Rd.Mth}(k:Jj t m){F:Rd.Mth}(s:F∈m){q:Nat}(C:q∈Cd.places F.code){x:Be}(h:Jh t m F q=some x):J1 (Tr.tree t) F x:=by
 have g:=k.mt F s;obtain⟨d,r,A⟩:=Bzs C;rw[Us A]at h;have D:∀(d:List Nat) (o:Option Be),(∀p∈d,p∈Cd.places F.code)->(∀y,o=some y->J1 (Tr.tree t) F y)->∀y,d.foldl (fun o p=>Mk (fun p=>Fj F (p:Int)) (Fn t m F) (fun p=>Dz (F.code.getD p 0)) p o) o=some y->J1 (Tr.tree t) F y:=by
  intro d
  induction d with
  | nil=>intro o _ i y f;exact i y f
  | cons p d ih =>
   intro o B i y f;refine ih _ (fun p j=>B p (by simp[j])) (fun z b=>?_) y f;unfold Mk at b;simp only at b;cases e:(Fj F (p:Int)).or o with
   | none=>rw[e]at b;cases b
   | some u =>
    rw[e]at b;simp only[Bx1]at b;have G:J1 (Tr.tree t) F u:=by
     cases c:Fj F (p:Int) with
     | none=>rw[c]at e;exact i u e
     | some v=>rw[c]at e;cases e;exact Vc g c
    cases l:Fn t m F p u with
    | none=>rw[l]at b;cases b
    | some v =>
     rw[l]at b;simp only[Bx1]at b
     split at b
     ·cases b;exact Un k s (B p Fr) G l
     cases b
 cases c:Fj F (q:Int) with
 | none =>
  rw[c]at h;exact D d _ (fun p j=>by rw[A];simp[j]) (fun y f=>by cases f;exact Vj g) x h
 | some v=>rw[c]at h;cases h;exact Vc g c
def Bhn{t:List Rd.Cls}{m:List Rd.Mth}{F:Rd.Mth}:(Kj t m F).1=0<->(∀z,Fj F 0=some z->Dk (Tr.tree t) (Fk F) z=true)/\∀p∈Cd.places F.code,∀x,Jh t m F p=some x->Tz t m F p x=0:=by
 unfold Kj Vi;cases c:Fj F 0 with
 | none =>
  rw[Pf Fr,V6];simp
 | some z =>
  rw[show Ef (some z)=z from rfl];by_cases b:Dk (Tr.tree t) (Fk F) z=true
  ·rw[Pf (fun g=>by rw[b]at g;cases g.2),V6]
   constructor
   ·intro h;exact⟨fun f e=>by cases e;exact b,h⟩
   intro h;exact h.2
  rw[Sp ⟨rfl,by simpa using b⟩]
  constructor
  ·intro h;simp at h
  intro h;exact absurd (h.1 z rfl) b
def Biu{t:List Rd.Cls}{m:List Rd.Mth}(k:Jj t m){F:Rd.Mth}(N:F∈m)(O:0<F.code.length)(h:(Kj t m F).1=0):Tc (Ep t m F) (Wt t m F)/\∀p∈Cd.places F.code,Wt t m F p≠none->∀q,Bc2 (Ep t m F) p q->∃z,Fj F (q:Int)=some z/\Wt t m F q=some z:=by
 have g:=k.mt F N;have J:=Wd k N O;have hT:Tr.Ok (Tr.tree t):=k.ok;obtain⟨h0,h1⟩:=Bhn.1 h;have Q:∀{x y:Be},J1 (Tr.tree t) F x->J1 (Tr.tree t) F y->Dk (Tr.tree t) x y=true->Ew (Tr.tree t) x y:=fun f G V=>Bbm.1 (by rw[<- V8 hT (Nb f) (Nb G)];exact V);have lk:∀p∈Cd.places F.code,∀x,Jh t m F p=some x->_:=fun p l x f=>Bnp.1 (show Nq _ _ _ _ _ _ _ _=0 from h1 p l x f);have a5:∀p x,Wt t m F p=some x->J1 (Tr.tree t) F x:=by
  intro p x f;unfold Wt at f;by_cases l:p∈Cd.places F.code;·rw[Sp l]at f;exact Bqk k N l f
  rw[Pf l]at f;cases f
 have hI:∀{i:Rd.Hnd}{x:Be}{z:Be},i∈F.handlers->J1 (Tr.tree t) F x->J1 (Tr.tree t) F z->Dk (Tr.tree t) ⟨x.locals,[(3,i.cl)]⟩ z=true->Ew (Tr.tree t) (Gp x i) z:=by
  intro i x z v f A V;refine Bbm.1 ?_;rw[<- V8 hT ?_ (Nb A)]
  ·exact V
  refine⟨fun c Y=>(f.tl c Y).1,fun c Y=>?_⟩;have:c=(3,i.cl):=by simpa[Gp] using Y
  rw[this];exact(J.hnd i v).2.2.2
 refine⟨⟨a5,?_,?_⟩,?_⟩
 ·have A:=Xh O;rw[Ut A,Bil O];cases e:Fj F 0 with
  | none=>exact⟨_,rfl,.refl _ _⟩
  | some z=>exact⟨z,rfl,Q (Vj g) (Vc g e) (h0 z e)⟩
 ·intro p l x f;have K:p∈Cd.places F.code:=l;have hP:=a5 p x f;rw[Ut K]at f;obtain⟨Z,y,I,a3,a4⟩:=lk p K x f;have G:=Un k N K hP I;refine⟨⟨y,I⟩,?_⟩;intro q u b hg;cases hg using Fc.el with
  | hnd i v a0 =>
   obtain⟨z,j,B⟩:=Uz.1 Z i v a0;have C:=J.hnd i v;have s:((i.target.toNat:Nat):Int)=i.target:=Bd;have A:=Vc g j;have hl:=hI v hP A B;refine⟨C.1,C.2.1,?_,⟨z,?_,hl⟩,fun _=>trivial⟩
   ·have:=hl.st.len;have:=A.hi;show ((Gp x i).stack.length:Int)<=F.stack;omega
   rw[Ut C.2.2.1];exact Vd C.2.2.1 (by rw[s];exact j)
  | jmp u hu L =>
   have:u=y:=by have:=hu.symm.trans I;cases this;rfl
   subst this;obtain⟨z,j,B⟩:=a3 L;have D:=J.tgt p l L;have s:((((Ep t m F).ar p).toNat:Nat):Int)=(Ep t m F).ar p:=Bd;have A:=Vc g j;refine⟨D.1,D.2.1,G.hi,⟨z,?_,Q G A B⟩,fun _=>trivial⟩;rw[Ut D.2.2];exact Vd D.2.2 (by rw[s];exact j)
  | nxt u hu hgo =>
   have:u=y:=by have:=hu.symm.trans I;cases this;rfl
   subst this;obtain⟨j,B⟩:=a4 hgo;have hn:p+Cd.wd (F.code.getD p 0)<F.code.length:=Bd;have s:((Ep t m F).nx p).toNat=p+Cd.wd (F.code.getD p 0):=by
    show ((p:Int)+(Cd.wd (F.code.getD p 0):Int)).toNat=_;omega
   have a7:=Bap K hn;have a6:(Ep t m F).nx p=((p+Cd.wd (F.code.getD p 0):Nat):Int):=by
    show (p:Int)+(Cd.wd (F.code.getD p 0):Int)=_;omega
   have a8:Dz (F.code.getD p 0)=true:=hgo;refine⟨by rw[a6];omega,by rw[a6];exact j,G.hi,?_,fun h=>(by cases h)⟩;rw[s,Ut a7,Bim K hn,f];simp only[Bx1];have a9:Fn t m F p x=some u:=I;rw[a9,Bx1,Sp a8];cases e:Fj F ((p+Cd.wd (F.code.getD p 0):Nat):Int) with
   | none=>exact⟨u,rfl,.refl _ _⟩
   | some z=>exact⟨z,rfl,Q G (Vc g e) (B z e)⟩
 intro p l b0 q ha;cases f:Wt t m F p with
 | none=>exact absurd f b0
 | some x =>
  rw[Ut l]at f;obtain⟨Z,y,I,a3,a4⟩:=lk p l x f;rcases ha with ⟨i,v,a0,rfl⟩|⟨L,rfl⟩
  ·obtain⟨z,j,B⟩:=Uz.1 Z i v a0;have C:=J.hnd i v;have s:((i.target.toNat:Nat):Int)=i.target:=Bd;refine⟨z,by rw[s];exact j,?_⟩;rw[Ut C.2.2.1];exact Vd C.2.2.1 (by rw[s];exact j)
  obtain⟨z,j,B⟩:=a3 L;have D:=J.tgt p l L;have s:((((Ep t m F).ar p).toNat:Nat):Int)=(Ep t m F).ar p:=Bd;refine⟨z,by rw[s];exact j,?_⟩;rw[Ut D.2.2];exact Vd D.2.2 (by rw[s];exact j)
def Bbs:ByteArray:=⟨#[83,77,0,1,255,0,0,0,0,1,2,19,24,3,0,2,0,25,2,0,0,1,8,5,3,0,12,18,11,3,22,0,0]⟩
def P9:ByteArray:=⟨#[83,77,0,1,255,0,0,0,0,1,2,19,24,3,0,2,0,25,2,0,0,1,8,5,3,0,12,18,11,3,22,0,2,3,1,0,0,18,1,0,0]⟩
def Bes:(Gq P9.data.toList).1=0:=by decide +kernel
def Bqz:Yd Bbs.data.toList=(P9.data.toList,0,0):=by decide +kernel
def Bvb(b:ByteArray):(⟨b.data.toList.toArray⟩:ByteArray)=b:=by cases b;simp
structure Bh where
 meth:Int
 pos:Nat
 next:Nat
 lo:List Int
 st:List Int
 h:Nat
def Iz:List Int:=[0,0,0,0,0,0,0,0]
def En (v:Int)(c:Bh):Bh:=if 8<=c.h then c else ⟨c.meth,c.pos,c.next,c.lo,c.st.set c.h v,c.h+1⟩
def Bw (c:Bh):Int × Bh:=if c.h=0 then (0,c) else (c.st.getD (c.h-1) 0,⟨c.meth,c.pos,c.next,c.lo,c.st,c.h-1⟩)
def D6:Nat->Bh->List Int × Bh
 | 0,c=>([],c)
 | k+1,c=>((D6 k (Bw c).2).1++[(Bw c).1],(D6 k (Bw c).2).2)
def Wq (n:Int)(c:Bh):Int:=if n<0 then 0 else if 8<=n then 0 else c.lo.getD n.toNat 0
def Ff (n v:Int)(c:Bh):Bh:=if n<0 then c else if 8<=n then c else ⟨c.meth,c.pos,c.next,c.lo.set n.toNat v,c.st,c.h⟩
def P4 (o:Int)(t:Nat)(c:Bh):Bh:=⟨c.meth,c.pos,t,c.lo,c.st.set 0 o,1⟩
def La:Nat->TI->Bh->Bh
 | _,[],c=>c
 | i,v::r,c=>La (i+1) r (Ff (i:Int) v c)
def Cn (m:Int)(vs:TI):Bh:=La 0 vs ⟨m,0,0,Iz,Iz,0⟩
def Nw (b:Int):Int:=if 127<b then b-256 else b
def Gn (v:Int):Int:=(v+2147483648) % 4294967296-2147483648
def Iu (op x y:Int):Option Int :=
 if op=7 then some (Gn (Gn x+Gn y)) else if op=8 then some (Gn (Gn x-Gn y)) else if op=9 then some (Gn (Gn x*Gn y))
 else if Gn y=0 then none else some (Gn ((Gn x).tdiv (Gn y)))
def J9 (op n:Int)(c:Bh):Bh :=
 if op=0 then En (Nw n) c
 else if op=1 then En 0 c
 else if op=2 then En (Wq n c) c
 else if op=3 then Ff n (Bw c).1 (Bw c).2
 else if op=4 then (Bw c).2
 else if op=5 then En (Bw c).1 (En (Bw c).1 (Bw c).2)
 else if op=6 then En (Bw (Bw c).2).1 (En (Bw c).1 (Bw (Bw c).2).2)
 else c
def Lu (t:Nat)(c:Bh):Bh:=⟨c.meth,c.pos,t,c.lo,c.st,c.h⟩
def Hm (op n:Int)(c:Bh):Bh :=
 if op=12 then (if (Bw c).1=0 then Lu n.toNat (Bw c).2 else (Bw c).2)
 else if op=13 then (if (Bw (Bw c).2).1<(Bw c).1 then Lu n.toNat (Bw (Bw c).2).2 else (Bw (Bw c).2).2)
 else if op=14 then (if (Bw c).1=0 then Lu n.toNat (Bw c).2 else (Bw c).2)
 else Lu n.toNat c
structure Ds where
 T:List Int
 FL:List (List (Int × Int))
 ms:List Rd.Mth
 ins:List Int
 room:Int
 depth:Int
structure Bo where
 read:Nat
 objs:List (Int × List Int)
 now:Bh
 wait:List Bh
 ended:Bool
 out:List Int
 status:Int
 value:Int
 steps:Nat
def Bo.withNow(S:Bo)(c:Bh):Bo:=⟨S.read,S.objs,c,S.wait,S.ended,S.out,S.status,S.value,S.steps⟩
def Bo.withObjs(S:Bo)(l:List (Int × List Int)):Bo:=⟨S.read,l,S.now,S.wait,S.ended,S.out,S.status,S.value,S.steps⟩
def Bo.opened(S:Bo)(c:Bh):Bo:=⟨S.read,S.objs,c,S.wait++[S.now],S.ended,S.out,S.status,S.value,S.steps⟩
def Bo.fin(S:Bo)(st v:Int):Bo:=⟨S.read,S.objs,S.now,S.wait,true,S.out,st,v,S.steps⟩
def Bo.push(S:Bo)(v:Int):Bo:=S.withNow (En v S.now)
def Bo.popped(S:Bo):Bo:=S.withNow (Bw S.now).2
def Bo.top(S:Bo):Int:=(Bw S.now).1
def Eu:Rd.Mth:=⟨0,0,[],(0,0),0,0,[],[],[]⟩
def Ds.meth(E:Ds)(n:Int):Rd.Mth:=if n<0 then Eu else if (E.ms.length:Int)<=n then Eu else E.ms.getD n.toNat Eu
def Nl (r:Int)(l:List (Int × List Int)):Bool:=decide (1<=r)&&decide (r<=(l.length:Int))
def Mv (r:Int)(l:List (Int × List Int)):Int × List Int:=l.getD (r-1).toNat (0,[])
def Id (r:Int)(l:List (Int × List Int)):Int:=if Nl r l=true then (Mv r l).1 else 0
def Jm (r s:Int)(l:List (Int × List Int)):Bool:=Nl r l&&(decide (0<=s)&&decide (s<((Mv r l).2.length:Int)))
def Vr (r s:Int)(l:List (Int × List Int)):Int:=if Jm r s l=true then (Mv r l).2.getD s.toNat 0 else 0
def Tt (r s v:Int)(l:List (Int × List Int)):List (Int × List Int):=if Jm r s l=true then l.set (r-1).toNat ((Mv r l).1,(Mv r l).2.set s.toNat v) else l
def Tq (r:Int)(fs:TI)(l:List (Int × List Int)):List (Int × List Int):=if Nl r l=true then l.set (r-1).toNat ((Mv r l).1,fs) else l
def Je (T:TI)(FL:List (List (Int × Int)))(n:Int):Int :=
 if (Ec n FL 0 0).1 = -1 then -1 else ((Dq T FL (Ec n FL 0 0).1).length:Int)-((Nh FL (Ec n FL 0 0).1).length:Int)+(Ec n FL 0 0).2
def Hy (T:TI)(cl:Int)(pos:Nat):List Rd.Hnd->Option Nat
 | []=>none
 | h::r=>if (El h (pos:Int)&&Tr.within T cl h.cl)=true then some h.target.toNat else Hy T cl pos r
def Ds.target(E:Ds)(cl:Int)(c:Bh):Option Nat:=Hy E.T cl c.pos (E.meth c.meth).handlers
def Jx (E:Ds)(o cl:Int):Nat->Bo->Bo
 | 0,S=>S
 | k+1,S=>match E.target cl S.now with
  | some t=>S.withNow (P4 o t S.now)
  | none=>match S.wait.getLast? with
   | none=>S.fin 2 cl
   | some c=>Jx E o cl k ⟨S.read,S.objs,c,S.wait.dropLast,S.ended,S.out,S.status,S.value,S.steps⟩
def M8 (E:Ds)(o:Int)(S:Bo):Bo:=Jx E o (Id o S.objs) (S.wait.length+1) S
def Fw (E:Ds)(cl:Int)(S:Bo):Bo:=M8 E (cl-2+1) S
def Hz (E:Ds)(m:Int)(vs:TI)(S:Bo):Bo :=
 if E.depth<=(S.wait.length:Int)+1 then Fw E 6 S else S.opened (Cn m vs)
def Gj (k:Nat)(S:Bo):Bo:=S.withNow (D6 k S.now).2
def I8 (k:Nat)(S:Bo):List Int:=(D6 k S.now).1
def Vs (E:Ds)(n:Int)(S:Bo):Bo:=Hz E n (I8 (E.meth n).params.length S) (Gj (E.meth n).params.length S)
def Hl (T:TI)(cl name:Int):List Rd.Mth->Int->Int->Int->Int
 | [],_,found,_=>found
 | m::r,i,found,high=>if (m.name==name&&(decide (high<=m.cl)&&Tr.within T cl m.cl))=true then Hl T cl name r (i+1) i m.cl else Hl T cl name r (i+1) found high
def Ds.nearest(E:Ds)(cl name:Int):Int:=Hl E.T cl name E.ms 0 0 0
def Pm (E:Ds)(name o:Int)(vs:TI)(S:Bo):Bo :=
 if o=0 then Fw E 3 S else Hz E (E.nearest (Id o S.objs) name) (o::vs) S
def Sj (E:Ds)(n:Int)(S:Bo):Bo :=
 Pm E (E.meth n).name (Gj (E.meth n).params.length S).top (I8 (E.meth n).params.length S) (Gj (E.meth n).params.length S).popped
def Lq (res:Int × Int)(v:Int)(S:Bo):Bo:=match S.wait.getLast? with
 | none=>S.fin 0 (if res.1=1 then v else 0)
 | some c=>⟨S.read,S.objs,(if res.1=0 then c else En v c),S.wait.dropLast,S.ended,S.out,S.status,S.value,S.steps⟩
def Ki (E:Ds)(S:Bo):Bo :=
 if (E.meth S.now.meth).result.1=0 then Lq (E.meth S.now.meth).result 0 S else Lq (E.meth S.now.meth).result S.top S.popped
def Jw (E:Ds)(S:Bo):Bo:=if S.top=0 then Fw E 3 S.popped else M8 E S.top S.popped
def Ta (E:Ds)(S:Bo):Bo :=
 if S.read<E.ins.length then (⟨S.read+1,S.objs,S.now,S.wait,S.ended,S.out,S.status,S.value,S.steps⟩:Bo).push (E.ins.getD S.read 0) else S.push 0
def Yb (S:Bo):Bo:=⟨S.read,S.objs,(Bw S.now).2,S.wait,S.ended,S.out++[S.top],S.status,S.value,S.steps⟩
def Nx (E:Ds)(op:Int)(S:Bo):Bo:=match Iu op S.popped.top S.top with
 | none=>Fw E 2 S.popped.popped
 | some z=>S.popped.popped.push z
def Ny (E:Ds)(cl:Int)(S:Bo):Bo :=
 if E.room<=(S.objs.length:Int)-5 then Fw E 5 S else (S.withObjs (S.objs++[(cl,[])])).push ((S.objs.length:Int)+1)
def Nk (E:Ds)(cl:Int)(S:Bo):Bo :=
 (Gj (Dq E.T E.FL cl).length S).popped.withObjs (Tq (Gj (Dq E.T E.FL cl).length S).top (I8 (Dq E.T E.FL cl).length S) S.objs)
def Lp (E:Ds)(n:Int)(S:Bo):Bo:=if S.top=0 then Fw E 3 S.popped else S.popped.push (Vr S.top (Je E.T E.FL n) S.objs)
def Lo (E:Ds)(n:Int)(S:Bo):Bo :=
 if S.popped.top=0 then Fw E 3 S.popped.popped else S.popped.popped.withObjs (Tt S.popped.top (Je E.T E.FL n) S.top S.objs)
def Sk (E:Ds)(cl:Int)(S:Bo):Bo :=
 if S.top=0 then S.popped.push S.top else if Tr.within E.T (Id S.top S.objs) cl=true then S.popped.push S.top else Fw E 4 S.popped
def Ci (E:Ds)(op n:Int)(S:Bo):Bo :=
 if op<=6 then S.withNow (J9 op n S.now)
 else if op<=10 then Nx E op S
 else if op<=14 then S.withNow (Hm op n S.now)
 else if op=15 then Ny E n S
 else if op=16 then Nk E n S
 else if op=17 then Lp E n S
 else if op=18 then Lo E n S
 else if op=19 then Sk E n S
 else if op=20 then Vs E n S
 else if op=21 then Sj E n S
 else if op=22 then Ki E S
 else if op=23 then Jw E S
 else if op=24 then Ta E S
 else if op=25 then Yb S
 else S
def Fy (E:Ds)(c:Bh):Cd.Ins:=Cd.orZero (Cd.one (E.meth c.meth).code c.next)
def Oc (E:Ds)(S:Bo):Bo :=
 ⟨S.read,S.objs,⟨S.now.meth,S.now.next,(Fy E S.now).place.toNat+Cd.wd (Fy E S.now).op,S.now.lo,S.now.st,S.now.h⟩,S.wait,S.ended,S.out,S.status,S.value,S.steps+1⟩
def Hh (E:Ds)(S:Bo):Bo:=Ci E (Fy E S.now).op (Fy E S.now).n (Oc E S)
def P8 (E:Ds)(fuel:Nat):Nat->Bo->Bo
 | 0,S=>S
 | k+1,S=>if S.ended=true then S else if fuel<=S.steps then S.fin 1 0 else P8 E fuel k (Hh E S)
def Gv (entry:Int):Bo:=⟨0,[(2,[]),(3,[]),(4,[]),(5,[]),(6,[])],Cn entry [],[],false,[],0,0,0⟩
def Rj (E:Ds)(fuel:Nat)(entry:Int):Bo:=P8 E fuel (fuel+2) (Gv entry)
structure Bjv(S R:Bo):Prop where
 steps:R.steps=S.steps
 out:R.out=S.out\/∃v,R.out=S.out++[v]
 fin:S.ended=false->R.ended=true->R.status=0\/R.status=2
structure Cp(S R:Bo):Prop where
 steps:R.steps=S.steps
 out:R.out=S.out
 fin:S.ended=false->R.ended=true->R.status=0\/R.status=2
def Cp.mild{S R:Bo}(h:Cp S R):Bjv S R:=⟨h.steps,.inl h.out,h.fin⟩
def Cp.refl(S:Bo):Cp S S:=⟨rfl,rfl,fun c b=>by rw[c]at b;cases b⟩
def Cp.same{S R:Bo}(c:R.steps=S.steps)(e:R.out=S.out)(f:R.ended=S.ended):Cp S R:=⟨c,e,fun a b=>by rw[f,a]at b;cases b⟩
def Cp.then{S R Q:Bo}(c:R.steps=S.steps)(e:R.out=S.out)(f:R.ended=S.ended)(h:Cp R Q):Cp S Q :=
 ⟨h.steps.trans c,h.out.trans e,fun a b=>h.fin (f.trans a) b⟩
def Baj(E:Ds)(o b:Int):∀(k:Nat) (S:Bo),Cp S (Jx E o b k S)
 | 0,S=>Cp.refl S
 | k+1,S=>by
  unfold Jx;cases E.target b S.now with
  | some t=>exact Cp.same rfl rfl rfl
  | none =>
   cases S.wait.getLast? with
   | none=>exact⟨rfl,rfl,fun _ _=>.inr rfl⟩
   | some c=>exact Cp.then (R:=⟨S.read,S.objs,c,S.wait.dropLast,S.ended,S.out,S.status,S.value,S.steps⟩) rfl rfl rfl (Baj E o b k _)
def Bbx(E:Ds)(o:Int)(S:Bo):Cp S (M8 E o S):=Baj _ _ _ _ _
def Mo(E:Ds)(b:Int)(S:Bo):Cp S (Fw E b S):=Bbx _ _ _
def Zj(E:Ds)(m:Int)(b:TI)(S:Bo):Cp S (Hz E m b S):=by
 unfold Hz
 split
 ·exact Mo _ _ _
 exact Cp.same rfl rfl rfl
def Ba7(r:Int×Int)(v:Int)(S:Bo):Cp S (Lq r v S):=by
 unfold Lq;cases S.wait.getLast? with
 | none=>exact⟨rfl,rfl,fun _ _=>.inl rfl⟩
 | some c=>exact Cp.same rfl rfl rfl
def Brh(E:Ds)(op n:Int)(S:Bo):Bjv S (Ci E op n S):=by
 unfold Ci;by_cases c:op<=6;·rw[Sp c];exact Cp.mild (Cp.same rfl rfl rfl)
 rw[Pf c];by_cases e:op<=10
 ·rw[Sp e];unfold Nx;cases Iu op S.popped.top S.top with
  | none=>exact Cp.mild (Cp.then (R:=S.popped.popped) rfl rfl rfl (Mo _ _ _))
  | some z=>exact Cp.mild (Cp.same rfl rfl rfl)
 rw[Pf e];by_cases f:op<=14;·rw[Sp f];exact Cp.mild (Cp.same rfl rfl rfl)
 rw[Pf f];by_cases g:op=15
 ·rw[Sp g];unfold Ny
  split
  ·exact Cp.mild (Mo _ _ _)
  exact Cp.mild (Cp.same rfl rfl rfl)
 rw[Pf g];by_cases h:op=16;·rw[Sp h];exact Cp.mild (Cp.same rfl rfl rfl)
 rw[Pf h];by_cases i:op=17
 ·rw[Sp i];unfold Lp
  split
  ·exact Cp.mild (Cp.then (R:=S.popped) rfl rfl rfl (Mo _ _ _))
  exact Cp.mild (Cp.same rfl rfl rfl)
 rw[Pf i];by_cases j:op=18
 ·rw[Sp j];unfold Lo
  split
  ·exact Cp.mild (Cp.then (R:=S.popped.popped) rfl rfl rfl (Mo _ _ _))
  exact Cp.mild (Cp.same rfl rfl rfl)
 rw[Pf j];by_cases l:op=19
 ·rw[Sp l];unfold Sk
  split
  ·exact Cp.mild (Cp.same rfl rfl rfl)
  split
  ·exact Cp.mild (Cp.same rfl rfl rfl)
  exact Cp.mild (Cp.then (R:=S.popped) rfl rfl rfl (Mo _ _ _))
 rw[Pf l];by_cases m:op=20;·rw[Sp m];exact Cp.mild (Cp.then (R:=Gj (E.meth n).params.length S) rfl rfl rfl (Zj _ _ _ _))
 rw[Pf m];by_cases p:op=21
 ·rw[Sp p];refine Cp.mild (Cp.then (R:=(Gj (E.meth n).params.length S).popped) rfl rfl rfl ?_);unfold Sj Pm
  split
  ·exact Mo _ _ _
  exact Zj _ _ _ _
 rw[Pf p];by_cases q:op=22
 ·rw[Sp q];unfold Ki
  split
  ·exact Cp.mild (Ba7 _ _ _)
  exact Cp.mild (Cp.then (R:=S.popped) rfl rfl rfl (Ba7 _ _ _))
 rw[Pf q];by_cases s:op=23
 ·rw[Sp s];unfold Jw
  split
  ·exact Cp.mild (Cp.then (R:=S.popped) rfl rfl rfl (Mo _ _ _))
  exact Cp.mild (Cp.then (R:=S.popped) rfl rfl rfl (Bbx _ _ _))
 rw[Pf s];by_cases t:op=24
 ·rw[Sp t];unfold Ta
  split
  ·exact Cp.mild (Cp.same rfl rfl rfl)
  exact Cp.mild (Cp.same rfl rfl rfl)
 rw[Pf t];by_cases v:op=25;·rw[Sp v];exact⟨rfl,.inr ⟨_,rfl⟩,fun a b=>by rw[show (Yb S).ended=S.ended from rfl,a]at b;cases b⟩
 rw[Pf v];exact Cp.mild (Cp.refl S)
def Um(E:Ds)(S:Bo):(Hh E S).steps=S.steps+1/\((Hh E S).out=S.out\/∃v,(Hh E S).out=S.out++[v])/\(S.ended=false->(Hh E S).ended=true->(Hh E S).status=0\/(Hh E S).status=2):=by
 have h:=Brh E (Fy E S.now).op (Fy E S.now).n (Oc E S);exact⟨h.steps,h.out,h.fin⟩
def Ji (E:Ds):Nat->Bo->Bo
 | 0,S=>S
 | k+1,S=>if S.ended=true then S else Ji E k (Hh E S)
def Pn (R:Bo):Bo:=if R.ended=true then R else R.fin 1 0
def Ah(E:Ds)(k:Nat){S:Bo}(h:S.ended=true):Ji E k S=S:=by cases k<;>simp[Ji,h]
def Bny(E:Ds):∀(a b:Nat) (S:Bo),Ji E (a+b) S=Ji E b (Ji E a S)
 | 0,b,S=>by rw[Bvp];rfl
 | a+1,b,S=>by
  rw[show a+1+b=a+b+1 by omega,Ji,Ji];by_cases h:S.ended=true;·rw[Sp h,Sp h,Ah E b h]
  rw[Pf h,Pf h,Bny E a b]
def Bjh(E:Ds)(f:Nat):∀(d k:Nat) (S:Bo),S.steps+d=f->d+2<=k->P8 E f k S=Pn (Ji E d S)
 | d,0,S,_,hk=>Bd
 | d,k+1,S,hd,hk=>by
  unfold P8;by_cases h:S.ended=true;·rw[Sp h,Ah E d h];unfold Pn;rw[Sp h]
  rw[Pf h];cases d with
  | zero=>rw[Sp Bd];unfold Pn;rw[Ji,Pf h]
  | succ e =>
   rw[Pf Bd,Ji,Pf h];exact Bjh E f e k _ (by rw[(Um E S).1];omega) Bd
def Bmo(E:Ds)(f:Nat)(b:Int):Rj E f b=Pn (Ji E f (Gv b)):=by
 have:(Gv b).steps=0:=rfl;exact Bjh E f f (f+2) _ (by rw[this];omega) Bd
structure Btk(k:Nat)(S R:Bo):Prop where
 le:R.steps<=S.steps+k
 ge:S.steps<=R.steps
 on:R.ended=false->R.steps=S.steps+k
 out:∃l,R.out=S.out++l/\S.steps+l.length<=R.steps
 fin:S.ended=false->R.ended=true->(R.status=0\/R.status=2)/\S.steps<R.steps
def Bdd(E:Ds):∀(k:Nat) (S:Bo),Btk k S (Ji E k S)
 | 0,S=>⟨Wf _,Wf _,fun _=>rfl,⟨[],by simp[Ji],by simp[Ji]⟩,fun a b=>by rw[show Ji E 0 S=S from rfl,a]at b;cases b⟩
 | k+1,S=>by
  unfold Ji;by_cases h:S.ended=true;·rw[Sp h];exact⟨Bd,Wf _,fun a=>(by rw[a]at h;cases h),⟨[],Fr,Fr⟩,fun a=>(by rw[a]at h;cases h)⟩
  rw[Pf h];have i:S.ended=false:=by simpa using h
  obtain⟨p,j,m⟩:=Um E S;have g:=Bdd E k (Hh E S);have q:=g.le;have s:=g.ge;refine⟨Bd,Bd,fun a=>by have:=g.on a;omega,?_,fun _ b=>⟨?_,Bd⟩⟩
  ·obtain⟨l,f,t⟩:=g.out;rcases j with e|⟨v,e⟩
   ·exact⟨l,by rw[f,e],Bd⟩
   exact⟨v::l,by rw[f,e];simp,by simp only[Bvo];omega⟩
  by_cases c:(Hh E S).ended=true;·rw[Ah E k c];exact m i c
  exact(g.fin (by simpa using c) b).1
def further(E:Ds)(f d:Nat)(c:Int)(A B:Bo)(e:Rj E f c=A)(i:Rj E (f+d) c=B):A.steps<=f/\B.steps<=f+d/\A.steps<=B.steps/\A.out.length<=A.steps/\((A.status=1/\(∃l,B.out=A.out++l)/\A.steps=f/\A.value=0)\/(A=B/\0<A.steps/\(A.status=0\/A.status=2))):=by
 rw[Bmo]at e i;rw[Bny]at i;have g:=Bdd E f (Gv c);have g2:=Bdd E d (Ji E f (Gv c));have z:(Gv c).steps=0:=rfl;have m:(Gv c).out=[]:=rfl;have p:(Gv c).ended=false:=rfl;generalize Ji E f (Gv c)=R at *;have v:=g.le;have C:=g2.le;have D:=g.ge;have F:=g2.ge;obtain⟨l,j,G⟩:=g.out;rw[m,Bx4]at j;unfold Pn at e i;by_cases h:R.ended=true;·rw[Sp h]at e;subst e;rw[Ah E d h,Sp h]at i;subst i;obtain⟨a,b⟩:=g.fin p h;exact⟨Bd,Bd,Bd,by rw[j];omega,.inr ⟨rfl,Bd,a⟩⟩
 rw[Pf h]at e;subst e;have I:R.steps=0+f:=by have:=g.on (by simpa using h);omega
 obtain⟨q,s,J⟩:=g2.out;have t:B.steps=(Ji E d R).steps/\B.out=(Ji E d R).out:=by
  rw[<- i];split<;>exact⟨rfl,rfl⟩
 refine⟨by show R.steps<=f;omega,Bd,by show R.steps<=B.steps;omega,by show R.out.length<=R.steps;rw[j];omega,.inl ⟨rfl,⟨q,?_⟩,by show R.steps=f;omega,rfl⟩⟩;rw[t.2,s];rfl
def Mid (w:TW)(B:Nat)(t:TypeId)(pre mid post:TV):Prop:=w.heap[B]?=some (.cells (pre++(mid++post)).toArray t (0,0))
def Mid.cell{o j:Nat}{e T b:TV}(h:Mid w u g e T b)(f:e.length=o)(c:j<T.length):w.cell? (.a u (o+j))=T[j]?:=by
 rw[Bb h,Byh,Bvt Bd,show o+j-e.length=j by omega,Bvy c]
def Mid.free{e T b:TV}(h:Mid w u g e T b)(j:Nat):w.frozen? (.a u j)=false:=Bj h j
def Mid.set{o j:Nat}{e T c:TV}(h:Mid w u g e T c)(i:e.length=o)(f:j<T.length)(b:TX):Mid (w.setCell (.a u (o+j)) b) u g e (T.set j b) c:=by
 unfold Mid at h ⊢;rw[Bq h]
 congr 2
 rw[Bzw,Bw1 _ _ Bd,show o+j-e.length=j by omega,Bx7 _ _ f]
def Mid.range{o:Nat}{e T c:TV}(h:Mid w u g e T c)(f:e.length=o):w.rangeAt u o T:=fun j v b=>by
 rw[h.cell f (List.getElem?_eq_some_iff.1 b).1];exact b
def Mid.there{o n:Nat}{e T b:TV}(h:Mid w u g e T b)(c:e.length=o)(f:T.length=n):w.there u o n:=fun j i=>by
 refine⟨?_,h.free _⟩;rw[h.cell c Bd,Ws Bd];rfl
def Mid.lt{e T b:TV}(h:Mid w u g e T b):u<w.heap.size:=Pk h
def Mid.below{b:TW}{e T c:TV}(h:Mid w u g e T c)(f:Bl w b):Mid b u g e T c:=by
 unfold Mid;rw[f.block u h.lt];exact h
def Mid.alloc{e T b:TV}(h:Mid w u g e T b)(x:Obj):Mid (w.alloc x) u g e T b:=by
 unfold Mid;rw[Bvu w x u h.lt];exact h
def Mid.drewN{e T b:TV}(h:Mid w u g e T b)(n:Nat):Mid (w.drewN n) u g e T b:=h
def So:∀(f b e c:TV) (w:TW),e.length=f.length->Mid w u g b e c->Mid (w.setCells u b.length f) u g b f c
 | [],b,e,c,w,hl,h=>by
  obtain rfl:e=[]:=Bwc (by simpa using hl);exact h
 | v::r,b,[],c,w,hl,h=>by simp at hl
 | v::r,b,x::q,c,w,hl,h=>by
  rw[World.setCells];have l:Mid (w.setCell (.a u b.length) v) u g b (v::q) c:=h.set (o:=b.length) (j:=0) rfl Fr v;have m:Mid (w.setCell (.a u b.length) v) u g (b++[v]) q c:=by
   unfold Mid at l ⊢;rw[l];simp
  have i:=So r (b++[v]) q c _ (by simpa using hl) m;rw[Up,Bw0]at i;unfold Mid at i ⊢;rw[i];simp
def Gr.setB{s:Nat}{a b:TW}(h:Gr u a b)(c:TX):Gr u a (b.setCell (.a u s) c):=h.set (.inr rfl) c
def T7(B:Nat):∀(b:TV) (o:Nat) (w:TW),Gr B w (w.setCells B o b)
 | [],_,w=>Gr.refl B w
 | v::r,o,w=>by
  rw[World.setCells];exact((Gr.refl B w).set (.inr rfl) v).trans (T7 B r (o+1) _)
def Bh.cells(c:Bh):List Value:=.int .i64 c.meth :: .int .i64 (c.pos:Int) :: .int .i64 (c.next:Int)::(c.lo.map (Value.int .i64)++(c.st.map (Value.int .i64)++[.int .i64 (c.h:Int)]))
structure Em(c:Bh):Prop where
 lo:c.lo.length=8
 st:c.st.length=8
 h:c.h<=8
def Em.len{c:Bh}(h:Em c):c.cells.length=20:=by simp[Bh.cells,h.lo,h.st]
def Ph(c:Bh):∀v∈c.cells,v.oneCell'=true:=by
 intro v b;simp only[Bh.cells,Bxy,Bwt,List.mem_map,Bx9,Bz2]at b;rcases b with rfl|rfl|rfl|⟨x,_,rfl⟩|⟨x,_,rfl⟩|rfl<;>rfl
def Bq9{c:Bh}(b:Em c){k:Nat}(e:k<8):c.cells[3+k]?=some (.i (c.lo.getD k 0)):=by
 have h:=b.lo;rw[Bh.cells,show 3+k=k+1+1+1 by omega,Bwi,Bwi,Bwi,Bvy Fm,Bv8,Th,Ws Bd];rfl
def Bq8{c:Bh}(b:Em c){k:Nat}(e:k<8):c.cells[11+k]?=some (.i (c.st.getD k 0)):=by
 have h:=b.lo;have f:=b.st;rw[Bh.cells,show 11+k=8+k+1+1+1 by omega,Bwi,Bwi,Bwi,Bvt Fm,Bvr,h,show 8+k-8=k by omega,
  Bvy Fm,Bv8,Th,Ws Bd]
 rfl
def Bs6{c:Bh}(b:Em c):c.cells[19]?=some (.i (c.h:Int)):=by
 have h:=b.lo;have e:=b.st;rw[Bh.cells,Bwi,Bwi,Bwi,Bvt Fm,Bvr,h,Bvt Fm,Bvr,e];rfl
def Biw{c:Bh}(b:Em c){k:Nat}(e:k<8)(v:Int):c.cells.set (3+k) (.i v)=(⟨c.meth,c.pos,c.next,c.lo.set k v,c.st,c.h⟩:Bh).cells:=by
 have h:=b.lo;rw[Bh.cells,show 3+k=k+1+1+1 by omega,Bwf,Bwf,Bwf,Bx7 _ _ Fm,<- Byj];rfl
def Biv{c:Bh}(b:Em c){k:Nat}(e:k<8)(v:Int):c.cells.set (11+k) (.i v)=(⟨c.meth,c.pos,c.next,c.lo,c.st.set k v,c.h⟩:Bh).cells:=by
 have h:=b.lo;have f:=b.st;rw[Bh.cells,show 11+k=8+k+1+1+1 by omega,Bwf,Bwf,Bwf,Bw1 _ _ Fm,Bvr,h,show 8+k-8=k by omega,
  Bx7 _ _ Fm,<- Byj]
 rfl
def Blh{c:Bh}(b:Em c)(n:Nat):c.cells.set 19 (.i (n:Int))=(⟨c.meth,c.pos,c.next,c.lo,c.st,n⟩:Bh).cells:=by
 have h:=b.lo;have e:=b.st;rw[Bh.cells,Bwf,Bwf,Bwf,Bw1 _ _ Fm,Bvr,h,Bw1 _ _ Fm,Bvr,e];rfl
structure Brr(w:World)(B o:Nat)(c:Bh):Prop where
 m:w.cell? ⟨B,o,none⟩=some (.int .i64 c.meth)
 p:w.cell? ⟨B,o+1,none⟩=some (.int .i64 (c.pos:Int))
 n:w.cell? ⟨B,o+2,none⟩=some (.int .i64 (c.next:Int))
 h:w.cell? ⟨B,o+19,none⟩=some (.int .i64 (c.h:Int))
 lo:∀k,k<8->w.cell? ⟨B,o+3+k,none⟩=some (.int .i64 (c.lo.getD k 0))
 st:∀k,k<8->w.cell? ⟨B,o+11+k,none⟩=some (.int .i64 (c.st.getD k 0))
 fr:∀j,w.frozen? ⟨B,j,none⟩=false
def Mid.sees{o:Nat}{e T:TV}{c:Bh}(h:Mid w u g e c.cells T)(b:e.length=o)(f:Em c):Brr w u o c:=by
 have l:=f.len;refine⟨?_,?_,?_,?_,fun k i=>?_,fun k i=>?_,fun j=>h.free j⟩
 ·have:=h.cell b (j:=0) Bd;rw[Bzg]at this;rw[this];rfl
 ·rw[h.cell b (j:=1) Bd];rfl
 ·rw[h.cell b (j:=2) Bd];rfl
 ·rw[h.cell b (j:=19) Bd];exact Bs6 f
 ·rw[Byc,h.cell b (j:=3+k) Bd];exact Bq9 f i
 rw[Byc,h.cell b (j:=11+k) Bd];exact Bq8 f i
def Mid.setLo{o k:Nat}{e T:TV}{c:Bh}(h:Mid w u g e c.cells T)(f:e.length=o)(b:Em c)(j:k<8)(v:Int):Mid (w.setCell (.a u (o+3+k)) (.i v)) u g e (⟨c.meth,c.pos,c.next,c.lo.set k v,c.st,c.h⟩:Bh).cells T:=by
 have l:=b.len;rw[<- Biw b j,Byc];exact h.set f Bd _
def Mid.setSt{o k:Nat}{e T:TV}{c:Bh}(h:Mid w u g e c.cells T)(f:e.length=o)(b:Em c)(j:k<8)(v:Int):Mid (w.setCell (.a u (o+11+k)) (.i v)) u g e (⟨c.meth,c.pos,c.next,c.lo,c.st.set k v,c.h⟩:Bh).cells T:=by
 have l:=b.len;rw[<- Biv b j,Byc];exact h.set f Bd _
def Mid.setH{o:Nat}{e T:TV}{c:Bh}(h:Mid w u g e c.cells T)(f:e.length=o)(b:Em c)(z:Int)(n:Nat)(j:z=n):Mid (w.setCell (.a u (o+19)) (.i z)) u g e (⟨c.meth,c.pos,c.next,c.lo,c.st,n⟩:Bh).cells T:=by
 have l:=b.len;rw[<- Blh b,j];exact h.set f Bd _
def Mid.setP{o:Nat}{e T:TV}{c:Bh}(h:Mid w u g e c.cells T)(b:e.length=o)(n:Nat):Mid (w.setCell (.a u (o+1)) (.i (n:Int))) u g e (⟨c.meth,n,c.next,c.lo,c.st,c.h⟩:Bh).cells T:=h.set b (j:=1) (by simp[Bh.cells]) _
def Mid.setN{o:Nat}{e T:TV}{c:Bh}(h:Mid w u g e c.cells T)(b:e.length=o)(n:Nat):Mid (w.setCell (.a u (o+2)) (.i (n:Int))) u g e (⟨c.meth,c.pos,n,c.lo,c.st,c.h⟩:Bh).cells T:=h.set b (j:=2) (by simp[Bh.cells]) _
def Md{c:Bh}(h:Em c)(v:Int):Em (En v c):=by
 unfold En
 split
 ·exact h
 exact⟨h.lo,by simp[h.st],by have:=h.h;simp;omega⟩
def Fu{c:Bh}(h:Em c):Em (Bw c).2:=by
 unfold Bw
 split
 ·exact h
 exact⟨h.lo,h.st,by have:=h.h;simp;omega⟩
def Wz{c:Bh}(h:Em c)(n v:Int):Em (Ff n v c):=by
 unfold Ff
 split
 ·exact h
 split
 ·exact h
 exact⟨by simp[h.lo],h.st,h.h⟩
def Bae{c:Bh}(h:Em c)(n:Nat):Em (Lu n c):=⟨h.lo,h.st,h.h⟩
def Br4{c:Bh}(h:Em c)(v:Int)(n:Nat):Em (P4 v n c):=⟨h.lo,by simp[P4,h.st],by simp[P4]⟩
def Bc6:∀(k:Nat) {c:Bh},Em c->Em (D6 k c).2
 | 0,_,h=>h
 | k+1,_,h=>Bc6 k (Fu h)
def Vz:∀(k:Nat) (c:Bh),(D6 k c).1.length=k
 | 0,_=>rfl
 | k+1,c=>by simp[D6,Vz k]
def Bjo:∀(l:TI) (i:Nat) {c:Bh},Em c->Em (La i l c)
 | [],_,_,h=>h
 | v::r,i,_,h=>Bjo r (i+1) (Wz h i v)
def Bi2(m:Int):Em ⟨m,0,0,Iz,Iz,0⟩:=⟨rfl,rfl,Fr⟩
def Sq(m:Int)(b:TI):Em (Cn m b):=Bjo b 0 (Bi2 m)
def Bsi{c:Bh}(h:Em c)(op n:Int):Em (J9 op n c):=by
 unfold J9;by_cases b:op=0;·rw[Sp b];exact Md h _
 rw[Pf b];by_cases e:op=1;·rw[Sp e];exact Md h _
 rw[Pf e];by_cases f:op=2;·rw[Sp f];exact Md h _
 rw[Pf f];by_cases g:op=3;·rw[Sp g];exact Wz (Fu h) _ _
 rw[Pf g];by_cases i:op=4;·rw[Sp i];exact Fu h
 rw[Pf i];by_cases j:op=5;·rw[Sp j];exact Md (Md (Fu h) _) _
 rw[Pf j];by_cases l:op=6;·rw[Sp l];exact Md (Md (Fu (Fu h)) _) _
 rw[Pf l];exact h
def Boo{c:Bh}(h:Em c)(op n:Int):Em (Hm op n c):=by
 unfold Hm;by_cases b:op=12
 ·rw[Sp b]
  split
  ·exact Bae (Fu h) _
  exact Fu h
 rw[Pf b];by_cases e:op=13
 ·rw[Sp e]
  split
  ·exact Bae (Fu (Fu h)) _
  exact Fu (Fu h)
 rw[Pf e];by_cases f:op=14
 ·rw[Sp f]
  split
  ·exact Bae (Fu h) _
  exact Fu h
 rw[Pf f];exact Bae h _
end Go.Proofs.YtpcgnjolfahacaaGreat
