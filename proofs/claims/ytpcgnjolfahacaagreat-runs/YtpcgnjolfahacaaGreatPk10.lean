/- the proof's parts -/
import Derived.Test.YtpcgnjolfahacaaGreatPk09
set_option maxRecDepth 100000
set_option maxHeartbeats 40000000
set_option linter.unusedVariables false
set_option linter.unusedSimpArgs false
set_option linter.defProp false
namespace Go.Proofs.YtpcgnjolfahacaaGreat
open Go.RowKit Go.Proofs.Tryz
def Bw.other{k:Cw}{S:Bo}{v:Dd}{w:TW}(h:Bw k S v w)(p:k.Ok){u:Nat}{cs:TV}(z:w.heap[u]?=some (.cells cs.toArray 219 (0,0)))(G:k.w0.heap.size<=u)(i:Nat)(c:TX):Bw k S v (w.setCell (.a u i) c):=by
 have I:=p.Bs;have J:=p.sz;have m:∀q,q≠u->(w.setCell (.a u i) c).heap[q]?=w.heap[q]?:=fun q j=>Brk _ _ _ _ (by simpa using j);have l:∀{b e s n:Nat}{x:TX}{t:TV},w.ownsRow b e s x n t->e≠219->(w.setCell (.a u i) c).ownsRow b e s x n t:=fun f A=>Fz f (fun q j=>m q (Fl f z A q j));have f:=h.rows;refine⟨(m k.B Ck).trans h.blk,h.wf,⟨l f.objs Fm,f.ovl,f.obk,fun q j=>l (f.flds q j) Fm,l f.wait Fm,f.wwf,l f.out Fm,f.nd,fun q C D F=>?_,f.low.setCell Fr _,by simp[World.setCell];exact f.szs⟩⟩;rw[m q Ck];exact f.keep q C D F
def Bjw(k:Cw)(S:Bo)(v:Dd)(w:TW)(f:k.Ok)(h:Bw k S v w)(hF:Ar S)(c3:S.now.next<=2000)(c6:S.steps<=100000)(F:0<=(Fg k.E S.now).op/\(Fg k.E S.now).op<=25/\0<=(Fg k.E S.now).n/\(Fg k.E S.now).n<=255):Calls prog 86 #[.q k.B 0] w fun e A=>e=.r (.tuple #[])/\∃I,Bw k (Gk k.E S) I A:=by
 have c7:=h.sees.c37;have c8:=h.sees.fr 37;have N:Bw k ⟨S.read,S.objs,S.now,S.wait,S.ended,S.out,S.status,S.value,S.steps+1⟩ v (w.setCell (.a k.B 37) (.i ((S.steps:Int)+1))):=h.setPost f (j:=5) Ck _ rfl rfl (by simp[Gy]) h.rows;have c9:(w.setCell (.a k.B 37) (.i ((S.steps:Int)+1))).C k.B 12 (.i S.now.meth):=N.sees.c12;have hm:=N8 k _ v S.now.meth _ f N;obtain⟨b0,b1⟩:=f.cm S.now.meth;have eS:Gk k.E S=Ch k.E (Fg k.E S.now).op (Fg k.E S.now).n (Mh k.E S):=rfl;rw[eS];have eB:Mh k.E S=(⟨S.read,S.objs,S.now,S.wait,S.ended,S.out,S.status,S.value,S.steps+1⟩:Bo).withNow ⟨S.now.meth,S.now.next,(Fg k.E S.now).place.toNat+Cd.wd (Fg k.E S.now).op,S.now.lo,S.now.st,S.now.h⟩:=rfl
 have eO:Fg k.E S.now=Cd.orZero (Cd.one (k.E.meth S.now.meth).code S.now.next):=rfl
 rw[eO]at F eB ⊢;generalize k.E.meth S.now.meth=M at *;have a1:Hid (∀w O Q bb,Bw k ⟨S.read,S.objs,S.now,S.wait,S.ended,S.out,S.status,S.value,S.steps+1⟩ v w->De w bb (.s O M.code.length Q) M.code->Calls prog 132 #[.q k.B 12,.s O M.code.length Q] w fun e A=>e=.r (.agg #[.i (Cd.orZero (Cd.one M.code S.now.next)).place,.i (Cd.orZero (Cd.one M.code S.now.next)).op,.i (Cd.orZero (Cd.one M.code S.now.next)).n]) /\
   Bw k (Mh k.E S) v A/\Gr k.B w A):=by
  intro w O Q bb h hi;refine(Bhh S.now M.code O Q bb k.B 12 156 _ _ w rfl h.wf h.blk b0 (fun x hx=>(b1 x hx).1) hi c3).mono fun e A ⟨he,J,hg⟩=>⟨he,?_,hg⟩;rw[eB];exact h.now f hg ⟨h.wf.lo,h.wf.st,h.wf.h⟩ J
 have b2:Ar (Mh k.E S):=⟨hF.ob,hF.wt,hF.rd,hF.ou⟩;generalize Mh k.E S=S1 at *;generalize Cd.orZero (Cd.one M.code S.now.next)=c4 at *
 obtain⟨t,op,n⟩:=c4;simp only at F a1 ⊢;have b3:=fun w h=>Boz k S1 v t op n w f h ⟨F.1,F.2.1⟩ F.2.2 b2;have HD:=Bc b3;have HM:=Bc hm;have H1:=Bc N;have d0:=h.blk.lt;clear h N hm b3 eS eB eO hF b2 F b0 b1;go_in;go_wp2_with fail;refine(Ba HM).mono ?_;rintro e z ⟨m,rfl,J,b4⟩;have h2:=(Ba H1).gr f b4;have b5:=J.cn;have a2:=J.code;obtain⟨m1,m2,m3,m4,m5,m6,m7,m8,m9,l,mb,p,md,me,mf,mg,mh,mi⟩:=m;simp only at b5 a2;subst b5;simp only[PM.val];have a3:Bl z (z.alloc (O18 m1 m2 m3 m4 m5 m6 m7 m8 m9 l M.code.length p md me mf mg mh mi)):=QN _;have h3:=h2.gr f a3;have b6:=a2.kp (Kp.of_below (e:=none) a3) Fm;have V:=Be z (O18 m1 m2 m3 m4 m5 m6 m7 m8 m9 l M.code.length p md me mf mg mh mi);have b7:z.heap.size≠k.B:=by have:=h2.blk.lt;omega
 have q7:=(Bb V 7).trans (show _=some (.s l M.code.length p) from rfl);have lQ:=Sp V;have Y:=Bc h3;have b8:=Bc b6;clear HM J b4 h2 H1 h3 a2 b6 a3;go_wp2;generalize z.alloc (O18 m1 m2 m3 m4 m5 m6 m7 m8 m9 l M.code.length p md me mf mg mh mi)=g at *;refine Br4 (S:=(fun A=>A.C z.heap.size 7 (.s l M.code.length p))) Lt q7 (fun b=>?_);refine tq 0 (.q k.B 0) b ?_;refine tq 1 (.q k.B 0) b ?_;refine tq 2 (.q k.B 12) b ?_;refine tq 3 (.q z.heap.size 7) b ?_;refine tq 4 (.s l M.code.length p) b ?_;refine Brv (rs:=[5,6]) Lt Hd ?_;refine Bri (o:=⟨_,_,_,_,_,_⟩) rfl (fun K c=>?_) (Bri (o:=⟨_,_,_,_,_,_⟩) rfl (fun K c=>?_) Bro)
 ·go_simp;refine Qm (Ba a1 _ _ _ _ ((Ba Y).drew f) (show De g.drew _ _ _ from Ba b8)) ?_;rintro w7 ⟨Z,a0⟩;have G:=a0.own (show g.drew.heap[_]?=_ from V) b7;have p7:=(Bb G 7).trans (show _=some (.s l M.code.length p) from rfl);have c5:=Bg G (O15 0 0 0);have p8:=(Bb c5 7).trans (show _=some (.s l M.code.length p) from rfl);have a4:=Bg G (O15 t op n);have L:=(Bb a4 7).trans (show _=some (.s l M.code.length p) from rfl);have a5:=Z.gr f (QN (O15 t op n))
  try dsimp only
  clear b;refine c.out _ _ p7 (fun b=>?_);clear c K
  try simp only[QX]
  refine tr 6 fun K c=>?_;go_simp;clear b;refine c.out _ _ p8 (fun b=>?_);clear c K
  try simp only[QX]
  refine tr 7 fun K c=>?_;go_simp;clear b;refine c.out _ _ (by first|exact L | simpa using L) (fun b=>?_)
  clear c K
  try simp only[QX]
  refine Bsg Lt ?_ _;clear b;go_wp2_with fail;refine Qm (Ba HD _ a5) ?_;rintro w9 ⟨I,h9⟩;go_wp2;go_end0;exact⟨rfl,I,h9⟩
 go_simp;have a6:Bl g (g.drew.alloc (O15 0 0 0)):=(Brm _ _).drew.alloc (Bru _) _;have b9:=stay a6 V;have p7:=(Bb b9 7).trans (show _=some (.s l M.code.length p) from rfl);have hZ:(g.drew.alloc (O15 0 0 0)).heap[g.heap.size]?=_:=Be g.drew (O15 0 0 0);clear b;refine c.out _ _ p7 (fun b=>?_);clear c K
 try simp only[QX]
 refine tr 5 fun K c=>?_;go_simp;refine Qm (Ba a1 _ _ _ _ ((Ba Y).gr f a6) ((Ba b8).kp (Kp.of_below (e:=none) a6) Fm)) ?_;rintro w7 ⟨Z,a0⟩;have G:=a0.own b9 b7;have p8:=(Bb G 7).trans (show _=some (.s l M.code.length p) from rfl);have D:=a0.own hZ (by have:=(Ba Y).blk.lt;show g.heap.size≠k.B;omega);have d1:=Sp D;have y0:=(Bb D 0).trans (show _=some (.i 0) from rfl);have y1:=(Bb D 1).trans (show _=some (.i 0) from rfl);have y2:=(Bb D 2).trans (show _=some (.i 0) from rfl);obtain⟨x0,x1,x2⟩:=fr3 D
 try dsimp only
 clear b;refine c.out _ _ p8 (fun b=>?_);clear c K
 try simp only[QX]
 refine tr 7 fun K c=>?_;go_simp;have a7:k.w0.heap.size<=g.heap.size:=(Ba Y).rows.szs;have c0:=Z.other f (cs:=[.i 0,.i 0,.i 0]) D a7 0 (.i t);have a8:=Bt (i:=0) D (.i t);have c1:=c0.other f (cs:=[.i t,.i 0,.i 0]) a8 a7 1 (.i op);have c2:=Bt (i:=1) a8 (.i op);have a5:=c1.other f (cs:=[.i t,.i op,.i 0]) c2 a7 2 (.i n);have a9:z.heap.size≠g.heap.size:=Ck;have a4:=((Brk _ ⟨g.heap.size,2,none⟩ (.i n) _ a9).trans ((Brk _ ⟨g.heap.size,1,none⟩ (.i op) _ a9).trans ((Brk w7 ⟨g.heap.size,0,none⟩ (.i t) _ a9).trans G)));have L:=(Bb a4 7).trans (show _=some (.s l M.code.length p) from rfl);clear c0 c1 a8 c2 Z;clear b;refine c.out _ _ (by first|exact L | simpa using L) (fun b=>?_)
 clear c K
 try simp only[QX]
 refine Bsg Lt ?_ _;clear b;go_wp2_with fail;refine Qm (Ba HD _ a5) ?_;rintro w9 ⟨I,h9⟩;go_wp2;go_end0;exact⟨rfl,I,h9⟩
def Pp:Nat->List (Int × List Int)
 | 0=>[]
 | j+1=>Pp j++[((j:Int)+2,[])]
def Og:Nat->List Value
 | 0=>[]
 | j+1=>Og j++[.slice none 0 0]
def Bkk:∀j,(Pp j).length=j
 | 0=>rfl
 | j+1=>by simp[Pp,Bkk j]
def Bju:∀j,(Og j).length=j
 | 0=>rfl
 | j+1=>by simp[Og,Bju j]
def Be1(h:Int)(w:TW):Calls prog 83 #[.i h] w fun e N=>∃f g,e=.r (.agg #[.s f 5 g,.i h])/\N.ownsRow w.heap.size 215 2 (.s f 5 g) 5 (ocells (Pp 5) (Og 5))/\Bl w N:=by
 obtain⟨i0,hi,a1,a2,a3⟩:=Bsa Tryz.infoObj;have O:=Bu w (O28 none 0 0 0) (O28 none 0 0 h);have Q:=Cb w (O28 none 0 0 0) (O28 none 0 0 h);have V:=Bx w (O28 none 0 0 0) (O28 none 0 0 h);go_in;go_wp2
 go_loopw [4] (fun c wr=>∃(j:Nat) (f:TA) (g:Nat),j<=5/\c=.i ((j:Int)+2)/\wr.ownsRow (w.heap.size+2) 215 2 (.s f j g) j (ocells (Pp j) (Og j))/\wr.heap[w.heap.size+1]?=some (O28 f j g h)/\wr.heap[w.heap.size]?=some (O28 none 0 0 0)/\Bl w wr)
  (fun c _=>7-(intOf c).toNat)
 case atStart=>exact⟨0,none,0,Ck,rfl,Brw _ _ _ _,V,Q,O⟩
 case round=>
  clear O Q V;obtain⟨j,f,g,hj,rfl,m,t,B,l⟩:=hrel;have y0:=(Bb t 0).trans (show _=some (.s f j g) from rfl);have y1:=(Bb t 1).trans (show _=some (.i h) from rfl);have f0:=Bk t 0;have lH:=Sp t;have a9:=l.size;by_cases b0:j<5
  ·go_wp2_with (at_builtin;refine Btl _ rfl _ _ 146 rfl (w.heap.size+2) 215 i0 _ 2 32 underlying146 hi a1 a2 a3 rfl Fm _ _ _ rfl (m.alloc _) ⟨wr.heap.size,0,none⟩ 1 1 [.i ((j:Int)+2),.s none 0 0] rfl rfl ?c1 ?c2 ?c3 ?c4 ?c5 ?_)
   case c1=>exact Dh _ _ _ _ rfl
   case c2=>intro u Y;simp at Y;rcases Y with rfl|rfl<;>rfl
   case c3=>unfold maxLen;omega
   case c4=>omega
   case c5=>simp;omega
   intro v' D J C _ a4;obtain⟨v,z,rfl⟩:=Bh J;have G:∀q,q<w.heap.size+2->D.heap[q]?=wr.heap[q]?:=fun q A=>(C.block q Fr (fun e=>by have:=(m.lt q e.symm).1;omega)).trans (Br2 _ _ _ Ck);have I:=(G _ Ck).trans t;have Z:=(G _ Ck).trans B;have a0:Bl w D:=⟨C.os.trans l.os,C.tape.trans l.tape,C.output.trans l.output,Br5 l.size (Br5 Hd C.size),fun q A=>(G q Ck).trans (l.block q A)⟩;have x0:=(Bb I 0).trans (show _=some (.s f j g) from rfl);have g0:=Bk I 0;have b1:=Sp I;have K:D.ownsRow (w.heap.size+2) 215 2 (.s v (j+1) z) (j+1) (ocells (Pp (j+1)) (Og (j+1))):=by
    rw[Pp,Og,Vs _ _ (by rw[Bkk,Bju])];exact J
   have a5:=Bt (i:=0) I (.s v (j+1) z);have F:(D.setCell (.a (w.heap.size+1) 0) (.s v (j+1) z)).ownsRow (w.heap.size+2) 215 2 (.s v (j+1) z) (j+1) (ocells (Pp (j+1)) (Og (j+1))):=Fz K (fun q A=>Brk _ _ _ _ (by have:=(K.lt q A).1;simp;omega));have a6:(D.setCell (.a (w.heap.size+1) 0) (.s v (j+1) z)).heap[w.heap.size]?=_:=(Brk _ _ _ _ Hd).trans Z;have a7:=Bc (a0.setCell (p:=.a (w.heap.size+1) 0) Hd (.s v (j+1) z));have L:=Bc F;clear J C a4 G K F m l t B a0 Z;go_wp2;go_roundw
   case rel=>exact⟨j+1,v,z,Ck,Mg,Ba L,a5,a6,Ba a7⟩
   case measure=>simp[intOf];omega
  have a8:j=5:=Ck;subst a8;obtain⟨r0,r1⟩:=cl2 B;obtain⟨q0,q1⟩:=fr2 B;have lR:=Sp B;simp at r0 r1;have F:∀a b,((wr.setCell (.a w.heap.size 0) a).setCell (.a w.heap.size 1) b).ownsRow w.heap.size 215 2 (.s f 5 g) 5 (ocells (Pp 5) (Og 5)):=fun a b=>D6 (Fz m (fun q A=>(Brk _ _ _ _ (by have:=(m.lt q A).1;simp;omega)).trans (Brk _ _ _ _ (by have:=(m.lt q A).1;simp;omega)))) Ck;have L:=Bc F;clear m F t B;go_wp2;refine tb (.agg #[.s f 5 g,.i h]) (by simp[results,results83,go_sem,r0,r1]) ?_;exact⟨f,g,rfl,Ba L _ _,(l.setCell Hd _).setCell Hd _⟩
def Tryz.infoMach:(prog.info? 156).map (·.size)=some 38:=Lt
def Bmr(b c e f g h j l m p q t v z A B C D F G I J K L N O Q V Y Z b9:TX)(w:TW):(Instr.build 156 #[(0,.agg #[b,c]),(1,.agg #[e,f]),(2,.agg #[g,h,j,l,m]),(4,.agg #[p,q]),(5,.agg #[t,v,z,A,B,C,D,F,G,I,J,K,L,N,O,Q,V,Y,Z,b9])]).run prog w=.ok (.agg #[b,c,e,f,g,h,j,l,m,.i 0,p,q,t,v,z,A,B,C,D,F,G,I,J,K,L,N,O,Q,V,Y,Z,b9,.s none 0 0,.bool false,.s none 0 0,.i 0,.i 0,.i 0]) w:=Lt
def Id (p0 p1 p2 p3 p4 p5 p6 p7 p8 p9 p10:TX)(c:TV):List Value:=[p0,p1,p2,p3,p4,p5,p6,p7,p8,.int .i64 0,p9,p10]++(c++[.slice none 0 0,.bool false,.slice none 0 0,.int .i64 0,.int .i64 0,.int .i64 0])
def Bql(b e f g i j l m p q s:TX)(c:TV)(h:c.length=20)(w:TW):(Instr.build 156 #[(0,.agg #[b,e]),(1,.agg #[f,g]),(2,.agg #[i,j,l,m,p]),(4,.agg #[q,s]),(5,.agg c.toArray)]).run prog w=.ok (.agg (Id b e f g i j l m p q s c).toArray) w:=by
 match c,h with
 | [a0,a1,a2,a3,a4,a5,a6,a7,a8,a9,b0,b1,b2,b3,b4,b5,b6,b7,b8,b9],_=>exact Bmr _ _ _ _ _ _ _ _ _ _ _ _ _ _ _ _ _ _ _ _ _ _ _ _ _ _ _ _ _ _ _ w
def Od{t:Array Oper}{S:TW->Prop}{op:Oper}{a:Act}(D:Region.wanted op (yielded t a.tmps)=true)(v z A B C:Operand)(F:op.op=.build 156 #[(0,v),(1,z),(2,A),(4,B),(5,C)]) (b e f g i j l m p q s:TX)(c:TV)(h:c.length=20)(G:a.eval v=.agg #[b,e])(I:a.eval z=.agg #[f,g])(J:a.eval A=.agg #[i,j,l,m,p])(K:a.eval B=.agg #[q,s])(L:a.eval C=.agg c.toArray):YieldsIf prog t S op (.agg (Id b e f g i j l m p q s c).toArray) a :=
 .inl ⟨D,fun w _=>by
  unfold execOp;simp only[F,List.map_toArray,Bsw,Buu,G,I,J,K,L,Bw4,Bql b e f g i j l m p q s c h w,Bv2,Bw5]⟩
def Np:Obj:=.cells (Id (.slice none 0 0) (.slice none 0 0) (.slice none 0 0) (.slice none 0 0) (.int .i64 0) (.slice none 0 0) (.int .i64 0) (.int .i64 0) (.int .i64 0) (.slice none 0 0) (.int .i64 0) (⟨0,0,0,Ig,Ig,0⟩:Bi).cells).toArray 156 (0,0)
def Bby(w:TW):(Instr.alloc 156 true (.tuple #[])).run prog w=.ok (.q w.heap.size 0) (w.alloc Np):=Lt
def Nx{b:Array Oper}{o:Oper}{a:Act}{w:TW}{K:Act->TW->Prop}{Q:Exit->Act->TW->Prop}{E:Prop}(c:o.guard=none)(e:o.op=.alloc 156) (h:K (a.put o.dst (.q w.heap.size 0)) (w.alloc Np)):if Region.wanted o (yielded b a.tmps)=true then Oper.wp prog o a w K Q else E:=by
 have f:Region.wanted o (yielded b a.tmps)=true:=by simp[Region.wanted,c]
 rw[Th f];unfold Oper.wp execOp;simp only[e,Bw4,Bby,Bv2,Bw5];exact h
structure Ix where
 fa:Option Addr
 fn:Nat
 fc:Nat
 ma:Option Addr
 mc:Nat
 entry:Int
 ia:Option Addr
 ic:Nat
 ins:List Int
 room:Int
 depth:Int
 fuel:Int
 lcs:List (Rd.Cls × Value)
 lms:List (Rd.Mth × Ex)
def Ix.cells(p:Ix)(tg tc:Nat)(ya:TA)(yn yc:Nat)(oa:TA)(oc:Nat)(c:TV):List Value :=
 Id (.slice p.fa p.fn p.fc) (.slice p.ma p.lms.length p.mc) (.slice (some ⟨tg,0,none⟩) (Tr.tree (p.lcs.map Prod.fst)).length tc) (.slice ya yn yc) (.int .i64 p.entry) (.slice p.ia p.ins.length p.ic) (.int .i64 p.room) (.int .i64 p.depth) (.int .i64 p.fuel) (.slice oa 5 oc) (.int .i64 p.room) c
def Y0 (p:Ix)(w wx:TW)(B:Nat):Prop:=∃tg tc ya yc oa oc,
 wx.heap[B]?=some (.cells (p.cells tg tc ya (7+p.lcs.length) yc oa oc (Cn p.entry []).cells).toArray 156 (0,0))/\Dy wx tg (Tr.tree (p.lcs.map Prod.fst))/\tg≠B /\
 wx.ownsRow w.heap.size 105 1 (.slice ya (7+p.lcs.length) yc) (7+p.lcs.length) (Tr.fvals p.lcs)/\wx.ownsRow w.heap.size 215 2 (.slice oa 5 oc) 5 (ocells (Pp 5) (Og 5)) /\
 wx.heap[w.heap.size+1]?=some (O29 p.entry p.ia p.ins.length p.ic p.room p.depth p.fuel)/\wx.heap[w.heap.size+2]?=some (O30 none 0 0 0 0 0)/\Below w.heap.size w wx/\w.heap.size+2<B
theorem Bgb{w:World}{u b t:Nat}{l v:Value}(f:w.cell? ⟨u,t,none⟩=some l)(c:w.cell? ⟨b,t,none⟩=some v)(j:l≠v):u≠b:=fun e=>by
 subst e;rw[f]at c;exact j (by simpa using c)
def Vy{p:Ix}{w wd c:TW}{u b tc yn yc h:Nat}{ya l:TA}(z:wd.heap[w.heap.size+1]?=some (O29 p.entry p.ia p.ins.length p.ic p.room p.depth p.fuel))(A:wd.heap[w.heap.size+2]?=some (O30 none 0 0 0 0 0))(J:Bl w wd)(m:Bl wd c)(D:c.heap[u]?=some Np)(K:w.heap.size+2<u) (q:Dy c b (Tr.tree (p.lcs.map Prod.fst)))(t:c.ownsRow w.heap.size 105 1 (.s ya yn yc) (7+p.lcs.length) (Tr.fvals p.lcs))(F:c.ownsRow w.heap.size 215 2 (.s l 5 h) 5 (ocells (Pp 5) (Og 5))):Y0 p w (c.setRow u (p.cells b tc ya yn yc l h (Cn p.entry []).cells).toArray) u:=by
 obtain⟨Q,V,G⟩:=Bh t;simp only[Value.slice.injEq]at G;obtain⟨rfl,rfl,rfl⟩:=G;have g:=QB J m;have f:∀j,j≠u->(c.setRow u (p.cells b tc ya (7+p.lcs.length) yc l h (Cn p.entry []).cells).toArray).heap[j]?=c.heap[j]?:=fun j e=>Dm e;have L:0<(Tr.tree (p.lcs.map Prod.fst)).length:=by rw[Ie];omega
 have N:c.C u 0 (.s none 0 0):=(Bb D 0).trans rfl;have I:b≠u:=Bgb (q.2 0 L) N Hd;have v:c.heap[u]?=some (.cells (Id (.s none 0 0) (.s none 0 0) (.s none 0 0) (.s none 0 0) (.i 0) (.s none 0 0) (.i 0) (.i 0) (.i 0) (.s none 0 0) (.i 0) (⟨0,0,0,Ig,Ig,0⟩:Bi).cells).toArray 156 (0,0)):=D;refine⟨b,tc,ya,yc,l,h,Vl v,⟨by rw[Bwq];exact q.1,fun i O=>(Brr (a:=⟨b,i,none⟩) (f b I)).trans (q.2 i O)⟩,I,Fz t (fun j e=>f j (Fl t v Fm j e)),Fz F (fun j e=>f j (Fl F v Fm j e)),
  (f _ Ck).trans ((m.block _ (Sp z)).trans z),(f _ Ck).trans ((m.block _ (Sp A)).trans A),?_,K⟩
 exact⟨g.os,g.tape,g.output,by rw[Bwq];exact g.size,fun j e=>(f j Ck).trans (g.block j e)⟩
def Ix.E (p:Ix):Dn:=⟨Tr.tree (p.lcs.map Prod.fst),(Ka p.lcs).map Prod.snd,p.lms.map Prod.fst,p.ins,p.room,p.depth⟩
structure Ix.Good(p:Ix)(w:World)(bc bm:Nat):Prop where
 cs:Fh w bc (.slice p.fa p.fn p.fc) p.lcs
 c6:p.lcs.length<=6
 ff:∀q∈p.lcs,q.1.fields.length<=10
 ms:Eb w bm (.slice p.ma p.lms.length p.mc) p.lms
 ml:p.lms.length<=1000
 cd:∀q∈p.lms,q.1.code.length<=1000/\∀x∈q.1.code,0<=x/\x<=255
 ps:∀q∈p.lms,q.1.params.length<=10
 hn:∀q∈p.lms,q.1.handlers.length<=1000/\∀h∈q.1.handlers,0<=h.target/\h.target<=1000
 ins:Ft w p.ia p.ins
 il:p.ins.length<=1000
 dep:1<=p.depth/\p.depth<=12
 rm:0<=p.room/\p.room<=30
 fu:0<=p.fuel/\p.fuel<=3000
theorem Bno{p:Ix}{w s:World}{u b t:Nat}(f:p.Good w b t)(h:Y0 p w s u):∃(k:Cw) (v:Dd),k.Ok/\k.B=u/\k.wE=w/\k.w0=s/\k.E=p.E/\k.fuel=p.fuel/\Bw k (Gb p.entry) v s/\s.heap[w.heap.size+1]?=some (O29 p.entry p.ia p.ins.length p.ic p.room p.depth p.fuel)/\s.heap[w.heap.size+2]?=some (O30 none 0 0 0 0 0)/\k.ob≠w.heap.size+1/\k.ob≠w.heap.size+2/\w.heap.size+2<u:=by
 obtain⟨K,tc,ya,yc,L,N,C,O,a0,a1,D,Q,V,F,a2⟩:=h;obtain⟨l,Y,a3,a4,a5⟩:=Cf D Ck;have z:∃cs:List Value,s.heap[l]?=some (.cells cs.toArray 215 (0,0)):=by
  obtain⟨_,⟨_,hn⟩|⟨g',b0,a6,G,_,a7,_⟩⟩:=D
  ·omega
  rw[Y]at G;simp only[Value.slice.injEq,Option.some.injEq,Addr.mk.injEq,Br8]at G;obtain⟨rfl,_⟩:=G;exact⟨a6.toList,by simpa using a7⟩
 obtain⟨b1,z⟩:=z;have b2:(Tr.tree (p.lcs.map Prod.fst)).length=7+p.lcs.length:=by rw[Ie,Br1]
 have b3:=f.c6;have a8:s.cell? ⟨l,0,none⟩=some (.int .i64 2):=by rw[a5 0 Fm];rfl
 have a9:s.cell? ⟨K,0,none⟩=some (.int .i64 (-1)):=by rw[O.2 0 Ck];rfl
 have Z:=Aa p.lcs;have I:∀q∈Ka p.lcs,TyR w q.1 q.2/\q.2.length<=10:=by
  intro q g;unfold Ka at g;rcases List.mem_append.1 g with g|g
  ·obtain⟨_,rfl⟩:=List.mem_replicate.1 g;exact⟨TyR.nil _,Hd⟩
  obtain⟨x,hx,rfl⟩:=List.mem_map.1 g;exact⟨TyR.of_tys (f.cs.2 x hx),f.ff x hx⟩
 have J:s.ownsRow w.heap.size 105 1 (.slice ya (Ka p.lcs).length yc) (Ka p.lcs).length ((Ka p.lcs).map Prod.fst):=by rw[Bku,Z];exact a1
 refine⟨⟨u,l,s,w,p.fa,p.fn,p.fc,p.ma,p.mc,K,tc,ya,yc,t,w.heap.size,Tr.tree (p.lcs.map Prod.fst),Ka p.lcs,p.lms,p.entry,p.ia,p.ic,p.ins,p.room,p.depth,p.fuel⟩,⟨L,N,none,0,none,0,Og 5⟩,?_,rfl,rfl,rfl,rfl,rfl,?_,Q,V,?_,?_,a2⟩
 ·exact⟨O,by show (Tr.tree _).length<=1000;omega,⟨J,fun q g=>(I q g).1.below F⟩,by show (Ka p.lcs).length<=14;omega,fun q g=>(I q g).2,f.ms,f.ml,f.cd,f.ps,f.hn,f.ins,f.il,f.dep,f.rm,f.fu,
   ⟨a0,Bgb a9 a8 Hd⟩,fun j m=>⟨Fl J C Fm j m,Fl J z Fm j m⟩,
   fun q g j m=>by have:=(I q g).1.blk_lt m;exact⟨by show j≠u;omega,by show j≠l;omega⟩,F.size,⟨Sp C,a3,by show w.heap.size<=u;omega,a4⟩⟩
 ·refine⟨?_,Ph _ _,⟨?_,rfl,fun j m=>?_,fun i hi=>?_,Brw _ _ _ _,fun c hc=>by simp[Gb]at hc,Brw _ _ _ _,(show ([]:List Nat).Nodup from List.nodup_nil),fun _ _ _ _=>rfl,F,Bru _⟩⟩
  ·unfold Mid;rw[C];simp only[Ix.cells,Id,Iv,Gy,Gb,Z];rfl
  ·exact D
  ·have:some l=some j:=by rw[<- m];show _=(Value.slice L _ N).ownBlock;rw[Y];rfl
   exact .inl (by simpa using this.symm)
  have b4:i<5:=hi;have:i=0\/i=1\/i=2\/i=3\/i=4:=Ck;rcases this with rfl|rfl|rfl|rfl|rfl<;>exact Brw _ _ _ _
 ·intro e;have A:s.heap[l]?=_:=z;rw[show l=w.heap.size+1 from e,Q]at A;simp at A
 intro e;have A:s.heap[l]?=_:=z;rw[show l=w.heap.size+2 from e,V]at A;simp at A
def Rb (E:Dn)(f:Nat)(S R:Bo):Prop:=(S.ended=true->S=R)/\(S.ended=false->S.steps<=f/\Et E S/\S.out.length<=S.steps/\Nr (In E (f-S.steps) S)=R)
def Bm3{E:Dn}{u:Nat}{S R:Bo}(h:Rb E u S R)(c:S.ended=false)(e:u<=S.steps):S.fin 1 0=R:=by
 obtain⟨g,i,j,b⟩:=h.2 c;rw[show u-S.steps=0 by omega]at b;unfold Nr In at b;rw[Pk (by rw[c];simp)]at b;exact b
def Bka{E:Dn}(g:E.Small){u:Nat}{S R:Bo}(h:Rb E u S R)(c:S.ended=false)(l:¬u<=S.steps):Rb E u (Gk E S) R:=by
 obtain⟨m,i,p,b⟩:=h.2 c;obtain⟨q,j,s⟩:=Rr E S;rw[show u-S.steps=(u-(Gk E S).steps)+1 by omega,In,Pk (by rw[c];simp)]at b;refine⟨fun e=>?_,fun e=>⟨Ck,Bft g i,?_,b⟩⟩
 ·rw[Wr E _ e]at b;unfold Nr at b;rw[Th e]at b;exact b
 rcases j with e|⟨x,e⟩
 ·rw[e];omega
 rw[e];simp;omega
def Cw.Ok.hb{k:Cw}(c:k.Ok)(n:Int):∀x∈(k.E.meth n).handlers,0<=x.target/\x.target<=1000:=by
 unfold Dn.meth
 split
 ·simp[Ef]
 split
 ·simp[Ef]
 rename_i f g;have h:k.E.ms.length=k.lms.length:=by simp[Cw.E]
 have b:n.toNat<k.lms.length:=Ck;have e:k.E.ms.getD n.toNat Ef=k.lms[n.toNat].1:=by
  rw[Vm];simp[Cw.E,b]
 rw[e];exact(c.hn _ (Brn b)).2
def Bii (k:Cw)(f:Nat)(w:TW):Nat:=match w.cell? ⟨k.B,33,none⟩ with
 | some (.bool true)=>0
 | _=>match w.cell? ⟨k.B,37,none⟩ with
  | some (.int _ n)=>f-n.toNat+1
  | _=>0
def Bw.mr{k:Cw}{S:Bo}{v:Dd}{w:TW}(h:Bw k S v w)(f:Nat):Bii k f w=if S.ended=true then 0 else f-S.steps+1:=by
 unfold Bii;rw[h.sees.c33,h.sees.c37];cases S.ended<;>simp
def Bmo(p:Ix)(bc bm:Nat)(w:TW)(hg:p.Good w bc bm)(R:Bo)(hR:Oc p.E p.fuel.toNat p.entry=R):Calls prog 55 #[.agg #[.s p.fa p.fn p.fc,.s p.ma p.lms.length p.mc],.agg #[.i p.entry,.s p.ia p.ins.length p.ic,.i p.room,.i p.depth,.i p.fuel]] w fun e w' => ∃xa xc,e=.r (.agg #[.s xa R.out.length xc,.i R.status,.i R.value,.i (R.steps:Int)])/\De w' w.heap.size (.s xa R.out.length xc) R.out/\Bl w w':=by
 have a5:Bl w (((w.alloc (O1 p.fa p.fn p.fc p.ma p.lms.length p.mc)).alloc (O29 p.entry p.ia p.ins.length p.ic p.room p.depth p.fuel)).alloc (O30 none 0 0 0 0 0)):=(((QN _).alloc Hd _).alloc Fr _);have CF:(((w.alloc (O1 p.fa p.fn p.fc p.ma p.lms.length p.mc)).alloc (O29 p.entry p.ia p.ins.length p.ic p.room p.depth p.fuel)).alloc (O30 none 0 0 0 0 0)).heap[w.heap.size]?=some (O1 p.fa p.fn p.fc p.ma p.lms.length p.mc):=Bg (Cb w _ _) _;have CS:(((w.alloc (O1 p.fa p.fn p.fc p.ma p.lms.length p.mc)).alloc (O29 p.entry p.ia p.ins.length p.ic p.room p.depth p.fuel)).alloc (O30 none 0 0 0 0 0)).heap[w.heap.size+1]?=some (O29 p.entry p.ia p.ins.length p.ic p.room p.depth p.fuel):=Bg (Bx w _ _) _;have CR:(((w.alloc (O1 p.fa p.fn p.fc p.ma p.lms.length p.mc)).alloc (O29 p.entry p.ia p.ins.length p.ic p.room p.depth p.fuel)).alloc (O30 none 0 0 0 0 0)).heap[w.heap.size+2]?=some (O30 none 0 0 0 0 0):=by
  have:=Be ((w.alloc (O1 p.fa p.fn p.fc p.ma p.lms.length p.mc)).alloc (O29 p.entry p.ia p.ins.length p.ic p.room p.depth p.fuel)) (O30 none 0 0 0 0 0);simpa using this
 have d8:=fun W (hb:Bl w W)=>Sf p.fa p.ma p.fn p.fc p.lms.length p.mc bc p.lcs W hg.c6 (hg.cs.kp (Kp.of_below (e:=none) hb) Fm Fm);have HG:=Bc hg;have d9:=Bc hR;have a4:(Cn p.entry []).cells.length=20:=(Ph p.entry []).len;have f2:=fun W=>Xw p.entry none 0 [] 0 W Hd (Brw W 0 3 1);have f3:=fun W=>Be1 p.room W;have HT:Hid (∀W,Bl w W->Calls prog 69 #[.agg #[.s p.fa p.fn p.fc,.s p.ma p.lms.length p.mc]] W fun e w'=>∃g h8 ya yn yc,e=.r (.agg #[.s (.p g) (Tr.tree (p.lcs.map Prod.fst)).length h8,.s ya yn yc])/\Dy w' g (Tr.tree (p.lcs.map Prod.fst))/\w'.ownsRow W.heap.size 105 1 (.s ya yn yc) (7+p.lcs.length) (Tr.fvals p.lcs)/\W.heap.size<=g/\Bl W w'):=d8;have HH:=Bc f3;have HC:=Bc f2;have c2:∀I tc ya yn yc F G,(prog.info? 156).map (·.size)=some (p.cells I tc ya yn yc F G (Cn p.entry []).cells).toArray.size:=fun I tc ya yn yc F G=>by rw[Tryz.infoMach];simp[Ix.cells,Id,a4]
 have c3:∀I tc ya yn yc F G,(p.cells I tc ya yn yc F G (Cn p.entry []).cells).toArray.all (·.oneCell')=true:=fun I tc ya yn yc F G=>Bui (fun u hu=>by
  simp only[Ix.cells,Id,Bs1,Bub,Buh,Bv8]at hu;rcases hu with (rfl|rfl|rfl|rfl|rfl|rfl|rfl|rfl|rfl|rfl|rfl|rfl)|hu|rfl|rfl|rfl|rfl|rfl|rfl
  all_goals first|rfl|exact Nl _ _ hu)
 clear hg hR d8 f2 f3;go_in
 go_upto_region 1 with fail
 generalize h9:((w.alloc (O1 p.fa p.fn p.fc p.ma p.lms.length p.mc)).alloc (O29 p.entry p.ia p.ins.length p.ic p.room p.depth p.fuel)).alloc (O30 none 0 0 0 0 0)=wd at *;clear h9
 go_cut [5] from 17 (fun s5 wx=>∃B,s5=.q B 0/\Y0 p w wx B)
 case first=>
  have O:=(Bb CF 0).trans (show _=some (.s p.fa p.fn p.fc) from rfl);have Q:=(Bb CF 1).trans (show _=some (.s p.ma p.lms.length p.mc) from rfl);have V:=(Bb CS 0).trans (show _=some (.i p.entry) from rfl);have Y:=(Bb CS 1).trans (show _=some (.s p.ia p.ins.length p.ic) from rfl);have Z:=(Bb CS 2).trans (show _=some (.i p.room) from rfl);have s3:=(Bb CS 3).trans (show _=some (.i p.depth) from rfl);have L:=(Bb CS 4).trans (show _=some (.i p.fuel) from rfl);have A:=Sp CF;have f:=Sp CS;have lR:=Sp CR;have b1:=a5.size;have c4:Bl wd wd.drew:=(Brm _ _).drew;go_wp2;refine Br4 (S:=(fun w'=>w'.C w.heap.size 0 (.s p.fa p.fn p.fc)/\w'.C w.heap.size 1 (.s p.ma p.lms.length p.mc)/\w'.C (w.heap.size+1) 0 (.i p.entry)/\w'.C (w.heap.size+1) 1 (.s p.ia p.ins.length p.ic)/\w'.C (w.heap.size+1) 2 (.i p.room)/\w'.C (w.heap.size+1) 3 (.i p.depth)/\w'.C (w.heap.size+1) 4 (.i p.fuel))) Lt ⟨O,Q,V,Y,Z,s3,L⟩ (fun t=>?_);refine tq 0 (.agg #[.s p.fa p.fn p.fc,.s p.ma p.lms.length p.mc]) t ?_;refine tq 1 (.agg #[.s p.fa p.fn p.fc,.s p.ma p.lms.length p.mc]) t ?_;refine tq 3 (.agg #[.i p.entry,.s p.ia p.ins.length p.ic,.i p.room,.i p.depth,.i p.fuel]) t ?_;refine tq 4 (.q (w.heap.size+1) 2) t ?_;refine tq 5 (.i p.room) t ?_;refine tq 7 (.q (w.heap.size+1) 0) t ?_;refine tq 8 (.i p.entry) t ?_;refine Brv (rs:=[2,11]) Lt Hd ?_;refine Bri (o:=⟨_,_,_,_,_,_⟩) rfl (fun K m=>?_) (Bri (o:=⟨_,_,_,_,_,_⟩) rfl (fun K m=>?_) Bro)
  ·go_simp;refine(Ba HT _ (a5.trans (c4.mono b1))).mono ?_;rintro e u1 ⟨I,tc,ya,yn,yc,rfl,f4,c5,-,i0⟩;have f5:=D6 (base':=w.heap.size) c5 (Br5 b1 c4.size);clear c5
   try dsimp only
   have J:=QB c4 i0;clear t;refine m.out _ _ ⟨QC J A O,QC J A Q,QC J f V,QC J f Y,QC J f Z,QC J f s3,QC J f L⟩ (fun t=>?_);clear m K
   try simp only[QX]
   refine Brv (rs:=[6,11]) Lt Hd ?_;refine Bri (o:=⟨_,_,_,_,_,_⟩) rfl (fun K m=>?_) (Bri (o:=⟨_,_,_,_,_,_⟩) rfl (fun K m=>?_) Bro)
   ·go_simp;refine(Ba HH _).mono ?_;rintro e u2 ⟨F,G,rfl,a6,b9⟩;have f6:=D6 (base':=w.heap.size) a6 (Br5 b1 J.size);clear a6
    try dsimp only
    have D:=QB J b9;have c0:=f4.below b9;have c1:=Dc f5 (Kp.of_below (e:=none) b9) Fm;clear t;refine m.out _ _ ⟨QC D A O,QC D A Q,QC D f V,QC D f Y,QC D f Z,QC D f s3,QC D f L⟩ (fun t=>?_);clear m K
    try simp only[QX]
    refine Brv (rs:=[9,11]) Lt Hd ?_;refine Bri (o:=⟨_,_,_,_,_,_⟩) rfl (fun K m=>?_) (Bri (o:=⟨_,_,_,_,_,_⟩) rfl (fun K m=>?_) Bro)
    ·go_simp;refine Qm (Ba HC _) ?_;intro u3 a2
     try dsimp only
     have z:=QB D a2;have b2:=c0.below a2;have b3:=Dc c1 (Kp.of_below (e:=none) a2) Fm;have b4:=Dc f6 (Kp.of_below (e:=none) a2) Fm;clear t;refine m.out _ _ ⟨QC z A O,QC z A Q,QC z f V,QC z f Y,QC z f Z,QC z f s3,QC z f L⟩ (fun t=>?_);clear m K
     try simp only[QX]
     refine Bun (i:=10) (oi:=⟨_,_,_,_,_,_⟩) (v:=.agg (p.cells I tc ya yn yc F G (Cn p.entry []).cells).toArray) rfl Lt Lt Lt (fun _ _ _ h=>h) (Od Ls _ _ _ _ _ Ls _ _ _ _ _ _ _ _ _ _ _ (Cn p.entry []).cells a4 Ls Ls Ls Ls Ls) t ?_
     try simp only[QX]
     refine tr 11 fun K m=>?_;refine Nx Ls Ls ?_;have a1:Bl u3 (u3.alloc Np):=QN _;have l:=QB z a1;have a3:=Be u3 Np;have a7:w.heap.size+2<u3.heap.size:=Brs lR z.size;have b5:=b2.below a1;have b6:=Dc b3 (Kp.of_below (e:=none) a1) Fm;have b7:=Dc b4 (Kp.of_below (e:=none) a1) Fm;clear t;refine m.out _ _ ⟨QC l A O,QC l A Q,QC l f V,QC l f Y,QC l f Z,QC l f s3,QC l f L⟩ (fun t=>?_);clear m K
     try simp only[QX]
     refine tr 12 fun K m=>?_;refine Kg Ls 156 _ _ Ls u3.heap.size (p.cells I tc ya yn yc F G (Cn p.entry []).cells).toArray Ls Ls 156 _ a3 (c2 I tc ya yn yc F G) (by simp[Ix.cells,Id,a4];rfl) (c3 I tc ya yn yc F G) ?_;have b8:=Vy (tc:=tc) CS CR a5 l a3 a7 b5 b6 b7;clear t;refine m.out _ _ ⟨(Brr (a:=⟨w.heap.size,0,none⟩) (Dm (by have:=a7;show w.heap.size≠_;omega))).trans (QC l A O),(Brr (a:=⟨w.heap.size,1,none⟩) (Dm (by have:=a7;show w.heap.size≠_;omega))).trans (QC l A Q),(Brr (a:=⟨w.heap.size+1,0,none⟩) (Dm (by have:=a7;show w.heap.size+1≠_;omega))).trans (QC l f V),(Brr (a:=⟨w.heap.size+1,1,none⟩) (Dm (by have:=a7;show w.heap.size+1≠_;omega))).trans (QC l f Y),(Brr (a:=⟨w.heap.size+1,2,none⟩) (Dm (by have:=a7;show w.heap.size+1≠_;omega))).trans (QC l f Z),(Brr (a:=⟨w.heap.size+1,3,none⟩) (Dm (by have:=a7;show w.heap.size+1≠_;omega))).trans (QC l f s3),(Brr (a:=⟨w.heap.size+1,4,none⟩) (Dm (by have:=a7;show w.heap.size+1≠_;omega))).trans (QC l f L)⟩ (fun t=>?_);clear m K
     try simp only[Act.put]
     refine Bsg Lt ?_ _;go_wp2
     go_meet
     case rel=>exact⟨_,rfl,b8⟩
    refine Nx Ls Ls ?_;have a1:Bl u2 (u2.alloc Np):=QN _;have z:=QB D a1;have c7:=Be u2 Np;have a8:w.heap.size+2<u2.heap.size:=Brs lR D.size;have b2:=c0.below a1;have b3:=Dc c1 (Kp.of_below (e:=none) a1) Fm;have b4:=Dc f6 (Kp.of_below (e:=none) a1) Fm;clear t;refine m.out _ _ ⟨QC z A O,QC z A Q,QC z f V,QC z f Y,QC z f Z,QC z f s3,QC z f L⟩ (fun t=>?_);clear m K
    try simp only[QX]
    refine tr 9 fun K m=>?_;go_simp;refine Qm (Ba HC _) ?_;intro u4 a0
    try dsimp only
    have l:=QB z a0;have a3:=stay a0 c7;have b5:=b2.below a0;have b6:=Dc b3 (Kp.of_below (e:=none) a0) Fm;have b7:=Dc b4 (Kp.of_below (e:=none) a0) Fm;clear t;refine m.out _ _ ⟨QC l A O,QC l A Q,QC l f V,QC l f Y,QC l f Z,QC l f s3,QC l f L⟩ (fun t=>?_);clear m K
    try simp only[QX]
    refine Bun (i:=10) (oi:=⟨_,_,_,_,_,_⟩) (v:=.agg (p.cells I tc ya yn yc F G (Cn p.entry []).cells).toArray) rfl Lt Lt Lt (fun _ _ _ h=>h) (Od Ls _ _ _ _ _ Ls _ _ _ _ _ _ _ _ _ _ _ (Cn p.entry []).cells a4 Ls Ls Ls Ls Ls) t ?_
    try simp only[QX]
    refine tr 12 fun K m=>?_;refine Kg Ls 156 _ _ Ls u2.heap.size (p.cells I tc ya yn yc F G (Cn p.entry []).cells).toArray Ls Ls 156 _ a3 (c2 I tc ya yn yc F G) (by simp[Ix.cells,Id,a4];rfl) (c3 I tc ya yn yc F G) ?_;have b8:=Vy (tc:=tc) CS CR a5 l a3 a8 b5 b6 b7;clear t;refine m.out _ _ ⟨(Brr (a:=⟨w.heap.size,0,none⟩) (Dm (by have:=a8;show w.heap.size≠_;omega))).trans (QC l A O),(Brr (a:=⟨w.heap.size,1,none⟩) (Dm (by have:=a8;show w.heap.size≠_;omega))).trans (QC l A Q),(Brr (a:=⟨w.heap.size+1,0,none⟩) (Dm (by have:=a8;show w.heap.size+1≠_;omega))).trans (QC l f V),(Brr (a:=⟨w.heap.size+1,1,none⟩) (Dm (by have:=a8;show w.heap.size+1≠_;omega))).trans (QC l f Y),(Brr (a:=⟨w.heap.size+1,2,none⟩) (Dm (by have:=a8;show w.heap.size+1≠_;omega))).trans (QC l f Z),(Brr (a:=⟨w.heap.size+1,3,none⟩) (Dm (by have:=a8;show w.heap.size+1≠_;omega))).trans (QC l f s3),(Brr (a:=⟨w.heap.size+1,4,none⟩) (Dm (by have:=a8;show w.heap.size+1≠_;omega))).trans (QC l f L)⟩ (fun t=>?_);clear m K
    try simp only[Act.put]
    refine Bsg Lt ?_ _;go_wp2
    go_meet
    case rel=>exact⟨_,rfl,b8⟩
   refine Nx Ls Ls ?_;have a1:Bl u1 (u1.alloc Np):=QN _;have D:=QB J a1;have d2:=Be u1 Np;have a9:w.heap.size+2<u1.heap.size:=Brs lR J.size;have c0:=f4.below a1;have c1:=Dc f5 (Kp.of_below (e:=none) a1) Fm;clear t;refine m.out _ _ ⟨QC D A O,QC D A Q,QC D f V,QC D f Y,QC D f Z,QC D f s3,QC D f L⟩ (fun t=>?_);clear m K
   try simp only[QX]
   refine tr 6 fun K m=>?_;go_simp;refine(Ba HH _).mono ?_;rintro e u3 ⟨F,G,rfl,a6,a2⟩;have b4:=D6 (base':=w.heap.size) a6 (Br5 b1 D.size);clear a6
   try dsimp only
   have z:=QB D a2;have c7:=stay a2 d2;have b2:=c0.below a2;have b3:=Dc c1 (Kp.of_below (e:=none) a2) Fm;clear t;refine m.out _ _ ⟨QC z A O,QC z A Q,QC z f V,QC z f Y,QC z f Z,QC z f s3,QC z f L⟩ (fun t=>?_);clear m K
   try simp only[QX]
   refine tr 9 fun K m=>?_;go_simp;refine Qm (Ba HC _) ?_;intro u4 a0
   try dsimp only
   have l:=QB z a0;have a3:=stay a0 c7;have b5:=b2.below a0;have b6:=Dc b3 (Kp.of_below (e:=none) a0) Fm;have b7:=Dc b4 (Kp.of_below (e:=none) a0) Fm;clear t;refine m.out _ _ ⟨QC l A O,QC l A Q,QC l f V,QC l f Y,QC l f Z,QC l f s3,QC l f L⟩ (fun t=>?_);clear m K
   try simp only[QX]
   refine Bun (i:=10) (oi:=⟨_,_,_,_,_,_⟩) (v:=.agg (p.cells I tc ya yn yc F G (Cn p.entry []).cells).toArray) rfl Lt Lt Lt (fun _ _ _ h=>h) (Od Ls _ _ _ _ _ Ls _ _ _ _ _ _ _ _ _ _ _ (Cn p.entry []).cells a4 Ls Ls Ls Ls Ls) t ?_
   try simp only[QX]
   refine tr 12 fun K m=>?_;refine Kg Ls 156 _ _ Ls u1.heap.size (p.cells I tc ya yn yc F G (Cn p.entry []).cells).toArray Ls Ls 156 _ a3 (c2 I tc ya yn yc F G) (by simp[Ix.cells,Id,a4];rfl) (c3 I tc ya yn yc F G) ?_;have b8:=Vy (tc:=tc) CS CR a5 l a3 a9 b5 b6 b7;clear t;refine m.out _ _ ⟨(Brr (a:=⟨w.heap.size,0,none⟩) (Dm (by have:=a9;show w.heap.size≠_;omega))).trans (QC l A O),(Brr (a:=⟨w.heap.size,1,none⟩) (Dm (by have:=a9;show w.heap.size≠_;omega))).trans (QC l A Q),(Brr (a:=⟨w.heap.size+1,0,none⟩) (Dm (by have:=a9;show w.heap.size+1≠_;omega))).trans (QC l f V),(Brr (a:=⟨w.heap.size+1,1,none⟩) (Dm (by have:=a9;show w.heap.size+1≠_;omega))).trans (QC l f Y),(Brr (a:=⟨w.heap.size+1,2,none⟩) (Dm (by have:=a9;show w.heap.size+1≠_;omega))).trans (QC l f Z),(Brr (a:=⟨w.heap.size+1,3,none⟩) (Dm (by have:=a9;show w.heap.size+1≠_;omega))).trans (QC l f s3),(Brr (a:=⟨w.heap.size+1,4,none⟩) (Dm (by have:=a9;show w.heap.size+1≠_;omega))).trans (QC l f L)⟩ (fun t=>?_);clear m K
   try simp only[Act.put]
   refine Bsg Lt ?_ _;go_wp2
   go_meet
   case rel=>exact⟨_,rfl,b8⟩
  refine Nx Ls Ls ?_;have a1:Bl wd.drew (wd.drew.alloc Np):=QN _;have J:=QB c4 a1;have i1:=Be wd.drew Np;have b0:w.heap.size+2<wd.drew.heap.size:=Brs lR c4.size;clear t;refine m.out _ _ ⟨QC J A O,QC J A Q,QC J f V,QC J f Y,QC J f Z,QC J f s3,QC J f L⟩ (fun t=>?_);clear m K
  try simp only[QX]
  refine tr 2 fun K m=>?_;go_simp;refine(Ba HT _ (a5.trans (J.mono b1))).mono ?_;rintro e u2 ⟨I,tc,ya,yn,yc,rfl,c0,c5,-,b9⟩;have c1:=D6 (base':=w.heap.size) c5 (Br5 b1 J.size);clear c5
  try dsimp only
  have D:=QB J b9;have d2:=stay b9 i1;clear t;refine m.out _ _ ⟨QC D A O,QC D A Q,QC D f V,QC D f Y,QC D f Z,QC D f s3,QC D f L⟩ (fun t=>?_);clear m K
  try simp only[QX]
  refine tr 6 fun K m=>?_;go_simp;refine(Ba HH _).mono ?_;rintro e u3 ⟨F,G,rfl,a6,a2⟩;have b4:=D6 (base':=w.heap.size) a6 (Br5 b1 D.size);clear a6
  try dsimp only
  have z:=QB D a2;have c7:=stay a2 d2;have b2:=c0.below a2;have b3:=Dc c1 (Kp.of_below (e:=none) a2) Fm;clear t;refine m.out _ _ ⟨QC z A O,QC z A Q,QC z f V,QC z f Y,QC z f Z,QC z f s3,QC z f L⟩ (fun t=>?_);clear m K
  try simp only[QX]
  refine tr 9 fun K m=>?_;go_simp;refine Qm (Ba HC _) ?_;intro u4 a0
  try dsimp only
  have l:=QB z a0;have a3:=stay a0 c7;have b5:=b2.below a0;have b6:=Dc b3 (Kp.of_below (e:=none) a0) Fm;have b7:=Dc b4 (Kp.of_below (e:=none) a0) Fm;clear t;refine m.out _ _ ⟨QC l A O,QC l A Q,QC l f V,QC l f Y,QC l f Z,QC l f s3,QC l f L⟩ (fun t=>?_);clear m K
  try simp only[QX]
  refine Bun (i:=10) (oi:=⟨_,_,_,_,_,_⟩) (v:=.agg (p.cells I tc ya yn yc F G (Cn p.entry []).cells).toArray) rfl Lt Lt Lt (fun _ _ _ h=>h) (Od Ls _ _ _ _ _ Ls _ _ _ _ _ _ _ _ _ _ _ (Cn p.entry []).cells a4 Ls Ls Ls Ls Ls) t ?_
  try simp only[QX]
  refine tr 12 fun K m=>?_;refine Kg Ls 156 _ _ Ls wd.drew.heap.size (p.cells I tc ya yn yc F G (Cn p.entry []).cells).toArray Ls Ls 156 _ a3 (c2 I tc ya yn yc F G) (by simp[Ix.cells,Id,a4];rfl) (c3 I tc ya yn yc F G) ?_;have b8:=Vy (tc:=tc) CS CR a5 l a3 b0 b5 b6 b7;clear t;refine m.out _ _ ⟨(Brr (a:=⟨w.heap.size,0,none⟩) (Dm (by have:=b0;show w.heap.size≠_;omega))).trans (QC l A O),(Brr (a:=⟨w.heap.size,1,none⟩) (Dm (by have:=b0;show w.heap.size≠_;omega))).trans (QC l A Q),(Brr (a:=⟨w.heap.size+1,0,none⟩) (Dm (by have:=b0;show w.heap.size+1≠_;omega))).trans (QC l f V),(Brr (a:=⟨w.heap.size+1,1,none⟩) (Dm (by have:=b0;show w.heap.size+1≠_;omega))).trans (QC l f Y),(Brr (a:=⟨w.heap.size+1,2,none⟩) (Dm (by have:=b0;show w.heap.size+1≠_;omega))).trans (QC l f Z),(Brr (a:=⟨w.heap.size+1,3,none⟩) (Dm (by have:=b0;show w.heap.size+1≠_;omega))).trans (QC l f s3),(Brr (a:=⟨w.heap.size+1,4,none⟩) (Dm (by have:=b0;show w.heap.size+1≠_;omega))).trans (QC l f L)⟩ (fun t=>?_);clear m K
  try simp only[Act.put]
  refine Bsg Lt ?_ _;go_wp2
  go_meet
  case rel=>exact⟨_,rfl,b8⟩
 case rest=>
  obtain⟨B,rfl,f7⟩:=hcut;clear CF CS CR a5 HT HH HC c2 c3;obtain⟨k,v0,ok,rfl,f8,c8,f9,g0,N,hS,d3,g1,g2,g3⟩:=Bno (Ba HG) f7;have hR:=Ba d9;rw[Bja,<- f9]at hR;have g4:k.E.Small:=⟨fun n=>(ok.cm n).2,fun n=>(ok.cm n).1,fun n=>ok.hb n,by show k.room<=30;exact ok.rm.2,by show k.depth<=12;exact ok.dep.2⟩;have d4:=ok.fu;rw[g0]at d4;obtain⟨fu,g5⟩:=Brp d4.1;have i6:fu<=3000:=Ck;have eF:p.fuel.toNat=fu:=Ck;rw[eF]at hR;have HR:Hid (Rb k.E fu (Gb p.entry) R):=⟨fun h=>(by cases h),fun _=>⟨by show (0:Nat)<=fu;omega,Bcq _ _,by show (0:Nat)<=0;omega,hR⟩⟩;have HE:=Bc g4;rw[g5]at hS;have g6:w.heap.size+1<k.w0.heap.size:=by rw[c8];exact Sp hS
  have g7:w.heap.size+2<k.w0.heap.size:=by rw[c8];exact Sp d3
  have HS:Hid (∀S v wr,Bw k S v wr->wr.heap[w.heap.size+1]?=some (O29 p.entry p.ia p.ins.length p.ic p.room p.depth (fu:Int))/\wr.heap[w.heap.size+2]?=some (O30 none 0 0 0 0 0)):=fun S v wr h=>⟨(h.rows.keep _ g6 Ck (Btj g1)).trans (by rw[c8];exact hS),(h.rows.keep _ g7 Ck (Btj g2)).trans (by rw[c8];exact d3)⟩;have d1:Hid (w.heap.size<=k.w0.heap.size/\k.wE=w):=⟨Ck,f8⟩;have HA:=Bc N;have i7:w.heap.size+2≠k.B:=Ck;have i8:w.heap.size+2<k.B:=g3;have g8:=fun S v w h=>Yv k S v 1 0 w ok h;have g9:Hid (∀S v wr,Bw k S v wr->Et k.E S->S.out.length<=S.steps->S.steps<=3000->Calls prog 86 #[.q k.B 0] wr fun e w'=>e=.r (.tuple #[])/\∃v',Bw k (Gk k.E S) v' w'):=fun S v wr h hb h1 h2=>by
   obtain⟨o1,o2,o3,o4,_,_⟩:=Bdd (Ba HE) S.now;have i9:=hb.ob;have j0:=hb.wt;have j1:=hb.rd;have j2:k.E.ins.length<=1000:=ok.il;exact Bjw k S v wr ok h ⟨Ck,Ck,Ck,Ck⟩ hb.nx Ck ⟨o1,o2,o3,o4⟩
  have h0:=Bc g8;clear HG d9 f7 hR g4 hS d3 f8 c8 f9 g0 N d4 g5 eF g1 g2 g6 g7 g8 g3 a4;go_wp2
  go_loopw [17] (fun _ wr=>∃(S:Bo) (v:Dd),Hid (Bw k S v wr)/\Hid (Rb k.E fu S R))
   (fun _ wr=>Bii k fu wr)
  case atStart=>exact⟨_,_,HA,HR⟩
  case round=>
   clear HA HR;obtain⟨S,v,HA,HL⟩:=hrel;have N:=Ba HA;have hL:=Ba HL;obtain⟨bS,bR⟩:=Ba HS S v wr N;have h3:=N.sees.c33;have j3:=N.sees.c37;have L:=(Bb bS 4).trans (show _=some (.i (fu:Int)) from rfl);have c9:=N.mr fu;cases he:S.ended with
   | true =>
    have i2:=hL.1 he;subst i2;rw[he]at h3;have j4:=N.sees.c34;have j5:=N.sees.c35;have j6:=N.sees.c36;obtain⟨y0,y1,y2,y3⟩:=cl4 bR;obtain⟨z0,z1,z2,z3⟩:=fr4 bR;have lR:=Sp bR;simp at y0 y1 y2 y3;have h4:=N.rows.low;rw[(Ba d1).2]at h4;have h5:=D6 (base':=w.heap.size) N.rows.out (Ba d1).1;have d0:∀j,(Value.slice v.xa S.out.length v.xc).ownBlock=some j->j≠w.heap.size+2:=fun j hj e=>by
     have:=(N.rows.out.lt j hj).1;have:=(Ba d1).1;rw[e]at hj;exact Fl N.rows.out (cs:=[.s none 0 0,.i 0,.i 0,.i 0]) bR Fm _ hj rfl
    have h6:∀a b c d,((((wr.setCell (.a (w.heap.size+2) 0) a).setCell (.a (w.heap.size+2) 1) b).setCell (.a (w.heap.size+2) 2) c).setCell (.a (w.heap.size+2) 3) d).ownsRow w.heap.size 3 1 (.s v.xa S.out.length v.xc) S.out.length (S.out.map (Value.int .i64)):=fun a b c d=>Fz h5 (fun j hj=>by
     rw[Brk _ _ _ _ (by simpa using d0 j hj),Brk _ _ _ _ (by simpa using d0 j hj),Brk _ _ _ _ (by simpa using d0 j hj),Brk _ _ _ _ (by simpa using d0 j hj)])
    have i3:=Bc h6;clear hL HL HA c9 h5 d0 h6 N HS g9 h0 HE d1 bR bS;go_wp2;refine tb (.agg #[.s v.xa S.out.length v.xc,.i S.status,.i S.value,.i (S.steps:Int)]) (by simp[results,results55,go_sem,y0,y1,y2,y3]) ?_;exact⟨v.xa,v.xc,rfl,Ba i3 _ _ _ _,(((h4.setCell (by show w.heap.size<=w.heap.size+2;omega) _).setCell (by show w.heap.size<=w.heap.size+2;omega) _).setCell (by show w.heap.size<=w.heap.size+2;omega) _).setCell (by show w.heap.size<=w.heap.size+2;omega) _⟩
   | false =>
    rw[he]at h3 c9;rw[Pk Hd]at c9;obtain⟨l1,l2,l3,l4⟩:=hL.2 he;by_cases hf:fu<=S.steps
    ·have hE:=Bm3 hL he hf;have i4:(fu:Int)<=(S.steps:Int):=Ck;have hC:=Ba h0 S v wr N;have d5:Hid (Rb k.E fu (S.fin 1 0) R):=⟨fun _=>hE,fun h=>(by cases h)⟩;clear hL HL HA N l4 hE;go_wp2_with fail;refine Qm hC ?_;intro w2 h2;have d6:=h2.mr fu;have d7:=Bc h2;clear h2;go_wp2;go_roundw
     case rel=>exact⟨_,v,d7,d5⟩
     case measure=>rw[d6,c9];simp[Bo.fin]
    have i4:¬(fu:Int)<=(S.steps:Int):=Ck;have d5:Hid (Rb k.E fu (Gk k.E S) R):=Bka (Ba HE) hL he hf;have hC:=Ba g9 S v wr N l2 l3 Ck;have h7:=(Rr k.E S).1;have i5:=Bc h7;clear hL HL HA N l4 h7;go_wp2_with fail;refine Qm hC ?_;rintro w2 ⟨v2,h2⟩;have d6:=h2.mr fu;have d7:=Bc h2;clear h2;go_wp2;go_roundw
    case rel=>exact⟨_,v2,d7,d5⟩
    case measure=>
     rw[d6,c9,Ba i5]
     split<;>omega
def K7 (m:Rd.Mth):Bool:=decide (m.cl=255)&&decide (m.params.length=0)
def Jp (ms:List Rd.Mth)(n:Int):Bool:=if n<0 then false else if (ms.length:Int)<=n then false else K7 (ms.getD n.toNat Ef)
def Ii:TI->Bool
 | []=>true
 | n::l=>if n < -2147483648 then false else if 2147483647<n then false else Ii l
def Iw (l:TI):Bool:=if 20<l.length then false else Ii l
def Gl (ms:List Rd.Mth)(e:Int)(l:TI)(h d f:Int):Int :=
 if Jp ms e=false then 12 else if h<0 then 13 else if 30<h then 13 else if d<1 then 13 else if 12<d then 13 else if f<0 then 13 else if 3000<f then 13 else if Iw l=false then 13 else 0
def Bb8(G j:TA)(I J l K:Nat)(b:List (Rd.Mth×Ex))(n:Int)(w:TW)(a0:b.length<=1000)(L:∀q∈b,q.1.params.length<=1000)(p:Eb w K (.s j b.length l) b):Calls prog 81 #[.agg #[.s G I J,.s j b.length l],.i n] w fun e N=>e=.r (.bool (Jp (b.map Prod.fst) n))/\Bl w N:=by
 unfold Jp;rw[Br1];by_cases t:n<0;·rw[Th t];go_in;go_wp2;go_ret;exact⟨rfl,QN _⟩
 rw[Pk t];by_cases v:(b.length:Int)<=n;·rw[Th v];go_in;go_wp2;go_ret;exact⟨rfl,QN _⟩
 rw[Pk v];obtain⟨q,rfl⟩:=Brp (show 0<=n by omega);have c:q<b.length:=Ck;obtain⟨m,g,O,a1,f,Q⟩:=p.mth c;have z:(b.map Prod.fst).getD (Int.toNat (q:Int)) Ef=b[q].1:=by simp[Vm,c]
 rw[z];have a2:=L _ (Brn c);obtain⟨A,V,Y,Z,i5,i6,h,-⟩:=Q;generalize b[q].1=M at *;have y0:=f 0 (.i M.cl) (by rw[<- A];rfl);have y2:=f 2 (.s m.pa M.params.length m.pc) (by first|(rw[<- h];rfl)|(rw[h];rfl)|rfl)
 rw[Bvh]at y0;unfold K7;generalize M.cl=B at *;generalize M.params.length=C at *;have kb:(q:Int)<(b.length:Int):=Ck;clear f p z A V Y Z i5 i6 h;subst O;by_cases D:B=255
 ·subst D;by_cases F:C=0;·subst F;go_in;go_wp2;go_ret;exact⟨Ls,QN _⟩
  have a3:((C:Int)==0)=false:=by simpa using F
  go_in;go_wp2;go_ret;exact⟨Hd,QN _⟩
 have a4:(B==255)=false:=by simpa using D
 go_in;go_wp2;go_ret;exact⟨Hd,QN _⟩
def Be5(l:TI)(a:TA)(c:Nat)(w:TW)(I:l.length<=maxLen)(m:Ft w a l):Calls prog 82 #[.s a l.length c] w fun e B=>e=.r (.bool (Iw l))/\B=w:=by
 unfold Iw;by_cases p:20<l.length;·rw[Th p];have C:(20:Int)<(l.length:Int):=Ck;go_in;go_wp2;go_ret;exact⟨rfl,rfl⟩
 rw[Pk p];have C:¬(20:Int)<(l.length:Int):=Ck;generalize b:Ii l=r;have f:Hid (Ii (l.drop 0)=r):=b;clear b;have q:=Bc m;clear m;go_in;go_wp2
 go_loopw [10] (fun v wr=>∃k:Nat,k<=l.length/\v=.i (k:Int)/\Hid (Ii (l.drop k)=r)/\wr=w)
  (fun v _=>l.length-(intOf v).toNat)
 case atStart=>exact⟨0,Ck,rfl,f,rfl⟩
 case round=>
  clear f;obtain⟨k,J,rfl,f,rfl⟩:=hrel;by_cases j:k<l.length
  ·obtain⟨g,o,D,K,F⟩:=Ba q k j;have b:=Ba f;rw[Brj j,Ii]at b;have t:l.getD k 0=l[k]:=by simp[Vm,j]
   rw[t]at F;generalize l[k]=x at *;have G:(k:Int)<(l.length:Int):=Ck;clear f q t;subst D;by_cases z:x < -2147483648;·rw[Th z]at b;have h:=Bc b;clear b;go_wp2;go_ret;exact⟨by rw[<- Ba h];rfl,rfl⟩
   rw[Pk z]at b;by_cases A:2147483647<x;·rw[Th A]at b;have h:=Bc b;clear b;go_wp2;go_ret;exact⟨by rw[<- Ba h];rfl,rfl⟩
   rw[Pk A]at b;have h:Hid (Ii (l.drop (k+1))=r):=b;clear b;go_wp2;go_roundw
   case rel=>exact⟨k+1,Ck,Mg,h,trivial⟩
   case measure=>simp[intOf];omega
  have b:=Ba f;rw[Brq Ck,Ii]at b;have h:=Bc b;have G:¬(k:Int)<(l.length:Int):=Ck;clear b f;go_wp2;go_ret;exact⟨by rw[<- Ba h];rfl,rfl⟩
def Bb3(D z t:TA)(F G A bm B:Nat)(g:List (Rd.Mth×Ex))(p:Int)(l:TI)(h d f:Int)(w:TW)(a1:g.length<=1000)(hp:∀q∈g,q.1.params.length<=1000)(hm:Eb w bm (.s z g.length A) g)(hl:l.length<=maxLen)(hi:Ft w t l):Calls prog 54 #[.agg #[.s D F G,.s z g.length A],.agg #[.i p,.s t l.length B,.i h,.i d,.i f]] w fun e j=>e=.r (.i (Gl (g.map Prod.fst) p l h d f))/\Bl w j:=by
 have J:=Bu w (O1 D F G z g.length A) (O29 p t l.length B h d f);have C0:=Cb w (O1 D F G z g.length A) (O29 p t l.length B h d f);have D0:=Bx w (O1 D F G z g.length A) (O29 p t l.length B h d f);have Z:Hid (∀j,Bl w j->Calls prog 81 #[.agg #[.s D F G,.s z g.length A],.i p] j fun e a0=>e=.r (.bool (Jp (g.map Prod.fst) p))/\Bl j a0):=fun j hb =>
  Bb8 D z F G A bm g p j a1 hp (hm.kp (Kp.of_below (e:=none) hb) Fm Fm Fm Fm Fm)
 have HN:Hid (∀j,Bl w j->Calls prog 82 #[.s t l.length B] j fun e a0=>e=.r (.bool (Iw l))/\a0=j):=fun j hb=>Be5 l t B j hl (hi.below hb);clear hm hi;unfold Gl;generalize Jp (g.map Prod.fst) p=be at *;generalize Iw l=bi at *;by_cases N:be=false;·subst N;rw[Th rfl];go_in;go_wp2_with fail;refine Qb (Ba Z _ J) J ?_;intro w1 O m;go_wp2;go_ret;exact⟨rfl,m⟩
 have a2:be=true:=by simpa using N
 subst a2;rw[Pk N];clear N;generalize hV:(if h<0 then (13:Int) else _)=V
 have b:=Bc hV;clear hV;go_in;go_wp2_with fail;refine Qb (Ba Z _ J) J ?_;intro w1 O m;have C1:=stay O C0;have K:=stay O D0;have s1:=(Bb K 1).trans (show _=some (.s t l.length B) from rfl);have s2:=(Bb K 2).trans (show _=some (.i h) from rfl);have s3:=(Bb K 3).trans (show _=some (.i d) from rfl);have s4:=(Bb K 4).trans (show _=some (.i f) from rfl);clear C0 D0 C1 K J O Z;by_cases v:h<0
 ·have c:Hid (V=13):=by unfold Hid;rw[<- Ba b,Th v]
  clear b;go_wp2;go_ret;exact⟨by rw[Ba c];rfl,m⟩
 by_cases C:30<h
 ·have c:Hid (V=13):=by unfold Hid;rw[<- Ba b,Pk v,Th C]
  clear b;go_wp2;go_ret;exact⟨by rw[Ba c];rfl,m⟩
 by_cases I:d<1
 ·have c:Hid (V=13):=by unfold Hid;rw[<- Ba b,Pk v,Pk C,Th I]
  clear b;go_wp2;go_ret;exact⟨by rw[Ba c];rfl,m⟩
 by_cases L:12<d
 ·have c:Hid (V=13):=by unfold Hid;rw[<- Ba b,Pk v,Pk C,Pk I,Th L]
  clear b;go_wp2;go_ret;exact⟨by rw[Ba c];rfl,m⟩
 by_cases Q:f<0
 ·have c:Hid (V=13):=by unfold Hid;rw[<- Ba b,Pk v,Pk C,Pk I,Pk L,Th Q]
  clear b;go_wp2;go_ret;exact⟨by rw[Ba c];rfl,m⟩
 by_cases c7:3000<f
 ·have c:Hid (V=13):=by unfold Hid;rw[<- Ba b,Pk v,Pk C,Pk I,Pk L,Pk Q,Th c7]
  clear b;go_wp2;go_ret;exact⟨by rw[Ba c];rfl,m⟩
 by_cases Y:bi=false
 ·subst Y;have c:Hid (V=13):=by unfold Hid;rw[<- Ba b,Pk v,Pk C,Pk I,Pk L,Pk Q,Pk c7,Th rfl]
  clear b;go_wp2_with fail;refine Qm (Ba HN _ m) ?_;rintro w2 rfl;go_wp2;go_ret;exact⟨by rw[Ba c];rfl,m⟩
 have a3:bi=true:=by simpa using Y
 subst a3;have c:Hid (V=0):=by unfold Hid;rw[<- Ba b,Pk v,Pk C,Pk I,Pk L,Pk Q,Pk c7,Pk Y]
 clear b Y;go_wp2_with fail;refine Qm (Ba HN _ m) ?_;rintro w2 rfl;go_wp2;go_ret;exact⟨by rw[Ba c];rfl,m⟩
structure W8 where
 out:List Int
 status:Int
 value:Int
 steps:Int
 err:Int
def Ve (cs:List Rd.Cls)(ms:List Rd.Mth)(ins:TI)(h d:Int):Dn:=⟨Tr.tree cs,Mn cs,ms,ins,h,d⟩
def Ts (R:Bo):W8:=⟨R.out,R.status,R.value,R.steps,0⟩
def Tq (s:TB)(en:Int)(ins:TI)(h d f:Int):W8 :=
 if (Gv s).1≠0 then ⟨[],0,0,0,(Gv s).1⟩
 else if Gl (Rd.read s).1.methods en ins h d f≠0 then ⟨[],0,0,0,Gl (Rd.read s).1.methods en ins h d f⟩
 else Ts (Oc (Ve (Rd.read s).1.classes (Rd.read s).1.methods ins h d) f.toNat en)
def Ml{F:TB}(h:(Gv F).1=0):(Rf.formed F).1=0:=by
 unfold Gv J6 at h;by_cases b:(Rf.formed F).1≠0;·rw[Th b]at h;exact absurd h b
 simpa using b
def Ut{F:TB}(h:(Rf.formed F).1=0):(Rd.read F).2=0:=by
 rw[<- Rn]at h;unfold Gx at h;by_cases b:(Rd.read F).2≠0;·rw[Th b]at h;exact absurd h b
 simpa using b
def V9{i:List Rd.Mth}{c:Int}{z:TI}{B d f:Int}(b:Gl i c z B d f=0):Jp i c=true/\0<=B/\B<=30/\1<=d/\d<=12/\0<=f/\f<=3000/\Iw z=true:=by
 unfold Gl at b;by_cases e:Jp i c=false;·rw[Th e]at b;omega
 by_cases g:Iw z=false
 ·simp only[g]at b;split at b<;>(try omega);split at b<;>(try omega);split at b<;>(try omega);split at b<;>(try omega);split at b<;>(try omega);split at b<;>(try omega);split at b<;>(try omega)
  simp at b
 rw[Pk e]at b;refine⟨by simpa using e,?_,?_,?_,?_,?_,?_,by simpa using g⟩
 all_goals iterate 6 (try (split at b<;>try omega))
def Bmh{s:TB}(i:Bn3 (Rd.read s).1){g l ia:TA}{u b t O ic:Nat}{Q:List (Rd.Cls×Value)}{T:List (Rd.Mth×Ex)}{en h d f:Int}{ins:TI}{w:TW} (m:Q.map Prod.fst=(Rd.read s).1.classes)(v:Fh w O (.s g u b) Q)(p:T.map Prod.fst=(Rd.read s).1.methods)(z:Eb w O (.s l T.length t) T)(A:ins.length<=1000)(hi:Ft w ia ins) (B:1<=d/\d<=12)(C:0<=h/\h<=30)(D:0<=f/\f<=3000):(⟨g,u,b,l,t,en,ia,ic,ins,h,d,f,Q,T⟩:Ix).Good w O O:=by
 have F:Q.length<=6:=by have:=i.c6;rw[<- m]at this;simpa using this
 have I:T.length<=6:=by have:=i.m6;rw[<- p]at this;simpa using this
 have G:∀q∈Q,Bil q.1:=fun q c=>i.cb _ (by rw[<- m];exact Bsc c);have e:∀q∈T,Bif q.1:=fun q c=>i.mb _ (by rw[<- p];exact Bsc c);refine⟨v,F,fun q c=>?_,z,?_,fun q c=>⟨?_,fun x j=>?_⟩,fun q c=>?_,fun q c=>⟨?_,fun x j=>?_⟩,hi,A,B,C,D⟩
 ·have:=(G q c).fl;omega
 ·show T.length<=1000;omega
 ·have:=(e q c).c2;omega
 ·have:=(e q c).cb x j;unfold By at this;omega
 ·have:=(e q c).pl;omega
 ·have:=(e q c).h4;omega
 have:=((e q c).hb x j).tg;unfold By at this;omega
def Bpo(s:ByteArray)(en:Int)(ins:TI)(h d f:Int)(ia:TA)(ic:Nat)(w:TW)(hs:s.size<=maxLen)(hl:ins.length<=maxLen)(hi:Ft w ia ins)(Q:W8)(v:Tq s.data.toList en ins h d f=Q):Calls prog 21 #[.string s,.agg #[.i en,.s ia ins.length ic,.i h,.i d,.i f]] w fun e L => ∃Z xc,e=.r (.tuple #[.agg #[.s Z Q.out.length xc,.i Q.status,.i Q.value,.i Q.steps],.i Q.err])/\De L w.heap.size (.s Z Q.out.length xc) Q.out/\Bl w L:=by
 have hC:∀w,Calls prog 53 #[.string s] w fun e L=>∃g j l m B p,e=.r (.tuple #[.agg #[.s g j l,.s m B p],.agg #[.i (Gv s.data.toList).1,.i (Gv s.data.toList).2.1,.i (Gv s.data.toList).2.2]]) /\
    ((Gv s.data.toList).1=0->∃bm a7 t,a7.map Prod.fst=(Rd.read s.data.toList).1.classes/\Fh L bm (.s g j l) a7/\t.map Prod.fst=(Rd.read s.data.toList).1.methods/\Eb L bm (.s m B p) t)/\Bl w L:=fun w=>by
  have hc:=Bk2 s (Ff (Ld (Rd.read s.data.toList).1.classes (Rd.read s.data.toList).1.methods) 0 (Rd.read s.data.toList).1.methods) w hs
   (fun h0 g j l m B p bm a7 t L hb a8 hc N hm=>by
    rw[Rn]at h0;obtain⟨k,_,_⟩:=Kb _ h0;exact Bhc k a8 hc N hm)
  rw[Bh2]at hc;exact hc
 have O:(Gv s.data.toList).1=0->Bn3 (Rd.read s.data.toList).1:=fun z=>Bp3 _ (Ut (Ml z));unfold Tq at v;have J:Hid (∀e,(Gv s.data.toList).1=e->e≠0->Q=⟨[],0,0,0,e⟩):=fun e he h0=>by rw[<- v,Th (by rw[he];exact h0),he]
 have b0:Hid ((Gv s.data.toList).1=0->(if Gl (Rd.read s.data.toList).1.methods en ins h d f≠0 then ⟨[],0,0,0,Gl (Rd.read s.data.toList).1.methods en ins h d f⟩
 else Ts (Oc (Ve (Rd.read s.data.toList).1.classes (Rd.read s.data.toList).1.methods ins h d) f.toNat en))=Q):=fun z=>by
  have h1:=v;rw[Pk (show ¬(Gv s.data.toList).1≠0 by rw[z];simp)]at h1;exact h1
 clear v;generalize hA:Gv s.data.toList=A at *;generalize b1:Rd.read s.data.toList=rd at *;clear hA;obtain⟨F,C,D⟩:=A;simp only at hC O J b0;have HC:=Bc hC;have b8:=Bc O;have HI:=Bc hi;clear hC O hi;have b9:=Bu w (O29 en ia ins.length ic h d f) (O30 none 0 0 0 0 0);have C0:=Cb w (O29 en ia ins.length ic h d f) (O30 none 0 0 0 0 0);have D0:=Bx w (O29 en ia ins.length ic h d f) (O30 none 0 0 0 0 0);by_cases hz:F=0
 ·subst hz;go_in;go_wp2_with fail;refine(Ba HC _).mono ?_;rintro e K ⟨g,j,l,m,B,p,rfl,c0,a0⟩;obtain⟨bm,a7,t,a8,c3,N,b2⟩:=c0 trivial;have O:=Ba b8 trivial;have v:=Ba b0 trivial;clear J b0 b8 c0;have d1:B=t.length:=by obtain⟨_,_,c4⟩:=Bh b2.1;simp only[Value.slice.injEq]at c4;exact c4.2.1
  subst d1;have a9:=QB b9 a0;have C1:=stay a0 C0;have D1:=stay a0 D0;have l1:=Sp C1;have l2:=Sp D1;have V:=Bg (Bg C1 (O1 g j l m t.length p)) (O8 0 C D);have G:=Bg (Bg D1 (O1 g j l m t.length p)) (O8 0 C D);have F2:=Cb K (O1 g j l m t.length p) (O8 0 C D);have E2:=Bx K (O1 g j l m t.length p) (O8 0 C D);have b3:=Bu K (O1 g j l m t.length p) (O8 0 C D);have a4:=QB a9 b3;have b4:=b2.kp (Kp.of_below (e:=none) (b3.mono (Bru _))) Fm Fm Fm Fm Fm;have c5:=c3.kp (Kp.of_below (e:=none) (b3.mono (Bru _))) Fm Fm;have hp:∀q∈t,q.1.params.length<=1000:=fun q hq=>by
   have:=(O.mb q.1 (by rw[<- N];exact Bsc hq)).pl;omega
  have d2:t.length<=1000:=by have:=O.m6;rw[<- N,Br1]at this;omega
  have b5:=Bb3 g m ia j l p bm ic t en ins h d f _ d2 hp b4 hl ((Ba HI).below a4);rw[N]at b5;have c6:=fun W (hb:Below _ _ W)=>Bmh (s:=s.data.toList) (ia:=ia) (ic:=ic) (en:=en) (h:=h) (d:=d) (f:=f) (ins:=ins) (w:=W) (by rw[b1];exact O) (by rw[b1];exact a8) (c5.kp (Kp.of_below (e:=none) hb) Fm Fm) (by rw[b1];exact N) (b4.kp (Kp.of_below (e:=none) hb) Fm Fm Fm Fm Fm) (hi:=((Ba HI).below a4).below hb);have HG:=Bc c6;have c7:=Bc b5;have J:=Bc v;clear b5 c6 v b2 b4 c3 c5 hp;generalize a3:Gl rd.1.methods en ins h d f=se at *;have HZ:=Bc a3;clear a3
  go_upto_region 2 with fail
  generalize (K.alloc (O1 g j l m t.length p)).alloc (O8 0 C D)=w2 at *;have s0:=(Bb V 0).trans (show _=some (.i en) from rfl);have s1:=(Bb V 1).trans (show _=some (.s ia ins.length ic) from rfl);have s2:=(Bb V 2).trans (show _=some (.i h) from rfl);have s3:=(Bb V 3).trans (show _=some (.i d) from rfl);have s4:=(Bb V 4).trans (show _=some (.i f) from rfl);have f0:=(Bb F2 0).trans (show _=some (.s g j l) from rfl);have f1:=(Bb F2 1).trans (show _=some (.s m t.length p) from rfl);have k0:=(Bb E2 0).trans (show _=some (.i 0) from rfl);go_wp2_with fail;refine Qb (Ba c7) a4 ?_;intro w3 a5 b6;have d5:=b6.size;have C3:=stay a5 V;have I:=stay a5 G;have F3:=stay a5 F2;clear s0 s1 s2 s3 s4 f0 f1 k0 c7 C0 D0 C1 D1 V G E2;by_cases a3:se=0
  ·subst a3;have d3:=V9 (Ba HZ);obtain⟨-,g1,g2,g3,g4,g5,g6,g7⟩:=d3;have hg:=Ba HG w3 a5 (by unfold Iw at g7;split at g7<;>first|simp at g7 | omega) ⟨g3,g4⟩ ⟨g1,g2⟩ ⟨g5,g6⟩
   have v:=Ba J;rw[Pk Hd]at v;generalize hR:Oc (Ve rd.1.classes rd.1.methods ins h d) f.toNat en=R at v;subst v;have c8:=Bmo _ _ _ w3 hg R (by rw[<- hR];simp only[Ix.E,Ve,Bkt,a8,N]);have c9:=Bc c8;have s0:=(Bb C3 0).trans (show _=some (.i en) from rfl);have s1:=(Bb C3 1).trans (show _=some (.s ia ins.length ic) from rfl);have s2:=(Bb C3 2).trans (show _=some (.i h) from rfl);have s3:=(Bb C3 3).trans (show _=some (.i d) from rfl);have s4:=(Bb C3 4).trans (show _=some (.i f) from rfl);have f0:=(Bb F3 0).trans (show _=some (.s g j l) from rfl);have f1:=(Bb F3 1).trans (show _=some (.s m t.length p) from rfl);have l4:=Sp I;clear c8 hg HG J HZ hR;go_wp2_with fail;refine(Ba c9).mono ?_;rintro e w4 ⟨Z,xc,rfl,d0,b7⟩;have a6:=QB b6 b7;have Y:=stay b7 I;have r0:=(Bb Y 0).trans (show _=some (.s none 0 0) from rfl);have r1:=(Bb Y 1).trans (show _=some (.i 0) from rfl);have r2:=(Bb Y 2).trans (show _=some (.i 0) from rfl);have r3:=(Bb Y 3).trans (show _=some (.i 0) from rfl);obtain⟨z0,z1,z2,z3⟩:=fr4 Y;have l5:=Sp Y;have HO:Hid (∀a b c d,De ((((w4.setCell (.a (w.heap.size+1) 0) a).setCell (.a (w.heap.size+1) 1) b).setCell (.a (w.heap.size+1) 2) c).setCell (.a (w.heap.size+1) 3) d) w.heap.size (.s Z R.out.length xc) R.out):=fun a b c d =>
    D6 (Dc d0 (e:=none) ((((Kp.set_lo Ck a).trans (Kp.set_lo Ck b)).trans (Kp.set_lo Ck c)).trans (Kp.set_lo Ck d)) Fm) Ck
   clear d0 I Y C3 F3 a5 b7 c9 s0 s1 s2 s3 s4 f0 f1;go_wp2_with fail;refine tb (.tuple #[.agg #[.s Z R.out.length xc,.i R.status,.i R.value,.i (R.steps:Int)],.i 0]) (by simp[results,Bwv,go_sem,r0,r1,r2,r3]) ?_;exact⟨Z,xc,rfl,Ba HO _ _ _ _,by repeat (first|(with_reducible exact a6)|(with_reducible refine Bud ?_)|(with_reducible refine Bry ?_ Fr _)|(with_reducible refine Bry ?_ Hd _))⟩
  have v:=Ba J;rw[Th a3]at v;subst v;have d6:(se != 0)=true:=by simpa using a3
  have a6:=b6;have r0:=(Bb I 0).trans (show _=some (.s none 0 0) from rfl);have r1:=(Bb I 1).trans (show _=some (.i 0) from rfl);have r2:=(Bb I 2).trans (show _=some (.i 0) from rfl);have r3:=(Bb I 3).trans (show _=some (.i 0) from rfl);obtain⟨z0,z1,z2,z3⟩:=fr4 I;have l5:=Sp I;clear HG J HZ;go_wp2_with fail;refine tb (.tuple #[.agg #[.s none 0 0,.i 0,.i 0,.i 0],.i se]) (by simp[results,Bwv,go_sem,r0,r1,r2,r3]) ?_;exact⟨none,0,rfl,Brw _ _ _ _,by repeat (first|(with_reducible exact a6)|(with_reducible refine Bud ?_)|(with_reducible refine Bry ?_ Fr _)|(with_reducible refine Bry ?_ Hd _))⟩
 go_in;go_wp2_with fail;refine(Ba HC _).mono ?_;rintro e K ⟨g,j,l,m,B,p,rfl,-,a0⟩;have a9:=QB b9 a0;have D1:=stay a0 D0;have l1:=Sp D1;have G:=Bg (Bg D1 (O1 g j l m B p)) (O8 F C D);have E2:=Bx K (O1 g j l m B p) (O8 F C D);have a4:=a9.trans ((Bu K (O1 g j l m B p) (O8 F C D)).mono a9.size);have d4:=Ba J F rfl hz;subst d4;have a6:=a4;have d7:(F != 0)=true:=by simpa using hz
 have r0:=(Bb G 0).trans (show _=some (.s none 0 0) from rfl);have r1:=(Bb G 1).trans (show _=some (.i 0) from rfl);have r2:=(Bb G 2).trans (show _=some (.i 0) from rfl);have r3:=(Bb G 3).trans (show _=some (.i 0) from rfl);obtain⟨z0,z1,z2,z3⟩:=fr4 G;have k0:=(Bb E2 0).trans (show _=some (.i F) from rfl);have l2:=Sp G;have l3:=Sp E2;go_wp2_with fail;generalize (K.alloc (O1 g j l m B p)).alloc (O8 F C D)=w2 at *
 go_region
 all_goals
  go_wp2_with fail;refine tb (.tuple #[.agg #[.s none 0 0,.i 0,.i 0,.i 0],.i F]) (by simp[results,Bwv,go_sem,r0,r1,r2,r3]) ?_;exact⟨none,0,rfl,Brw _ _ _ _,by repeat (first|(with_reducible exact a6)|(with_reducible refine Bud ?_)|(with_reducible refine Bry ?_ Fr _)|(with_reducible refine Bry ?_ Hd _))⟩
def Ft.of_ints{w:TW}{u:Nat}{a:TA}{n t:Nat}{z:TI}(h:De w u (.s a n t) z):Ft w a z:=fun i e=>by
 obtain⟨q,v,f⟩:=Bh h;simp only[Value.slice.injEq]at f;obtain⟨rfl,rfl,rfl⟩:=f;obtain⟨g,j,m,_,p⟩:=Cf h Ck;refine⟨g,0,j,m,?_⟩;rw[Brz,p i (by simpa using e)];simp[Vm,e]
def Ft.nil(w:TW)(a:TA):Ft w a []:=fun i b=>absurd b Hd
open Go.ChangeShapes Go.WideShapes Go.ChangeAt Go.RowKit Go.Deep Go.Joins
def Tryz.cellsKI:prog.cellsOf 3=1:=Lt
section
variable {H:Type}{enc:TypeId × Value→H}
theorem Bhd{v:World}{n:Nat}{l:Value}{x:DataW H×List MemPlace}(h:DataW.trod enc prog v 0 (fun _=>true) true n 26 [l]=some x):∃(a:Option Addr) (A:Nat) (f:List Int),l=.slice a f.length A/\f.length<=maxLen/\Ft v a f/\∀n∈f,-9223372036854775808<=n/\n<=9223372036854775807:=by
 rcases open_ints Bta Btm Tryz.cellsKI h with ⟨e,_⟩|⟨a,m,q,g,e,_,K,L,B,_,s,C⟩
 ·simp only[List.cons.injEq,Br8]at e;exact⟨none,0,[],e,Hd,Ft.nil _ _,Hd⟩
 simp only[List.cons.injEq,Br8]at e;subst e;have N:g.length=q:=by simpa using B
 have p:(g.take m).length=m:=by rw[Btr];omega
 refine⟨some a,q,g.take m,by rw[p],by rw[p];omega,fun i t=>?_,fun n D=>bounds_i64 (C n (Bwy D))⟩;rw[p]at t;obtain⟨b,j,F⟩:=a;have G:=s 0 Ck;have I:F=none:=by simpa[Addr.add] using World.cell?_spot G
 subst I;have J:(⟨b,j,none⟩:Addr).add i=⟨b,j+i,none⟩:=by unfold Addr.add;split<;>simp_all
 have z:v.cell? ⟨b,j+i,none⟩=some (.int .i64 (g.getD i 0)):=by rw[<- J];exact s i Ck
 refine⟨b,j,rfl,Bwe v _ z,?_⟩;rw[z];simp[Vm,t]
end
def Ba7(b c:TI)(C D:TA)(J K:Nat)(w:TW)(F:Ft w C b)(G:Ft w D c)(hl:b.length<=9223372036854775807)(a4:c.length<=9223372036854775807):Calls prog 63 #[.s C b.length J,.s D c.length K] w fun e L=>e=.r (.bool (decide (b=c)))/\Bl w L:=by
 have N:=Bc F;have O:=Bc G;clear F G;by_cases t:b.length=c.length
 ·generalize j:decide (b=c)=r;have f:Hid (decide (b.drop 0=c.drop 0)=r):=j;clear j;have Q:((b.length:Int) != (c.length:Int))=false:=Fr;have I:=Bc t;clear t;go_in;go_wp2
  go_loopw [5] (fun v wr=>∃k:Nat,k<=b.length/\v=.i (k:Int)/\Hid (decide (b.drop k=c.drop k)=r)/\Bl w wr)
   (fun v _=>b.length-(intOf v).toNat)
  case atStart=>exact⟨0,Ck,rfl,f,Brm _ _⟩
  case round=>
   clear f;obtain⟨k,hk,rfl,f,l⟩:=hrel;by_cases z:k<b.length
   ·have A:k<c.length:=by have:=Ba I;omega
    obtain⟨g,o,V,a5,u0⟩:=(Ba N).below l k z;obtain⟨g2,o2,Y,a6,Z⟩:=(Ba O).below l k A;have j:=Ba f;rw[Tj z A]at j;rw[show b.getD k 0=b[k] by simp[Vm,z]]at u0;rw[show c.getD k 0=c[k] by simp[Vm,A]]at Z;generalize b[k]=x at *;generalize c[k]=y at *;have a0:(k:Int)<(b.length:Int):=Ck;have a7:(k:Int)<(c.length:Int):=Ck;have q:=Bc j;clear j f;subst V Y;by_cases B:x=y
    ·subst B;have m:Hid (decide (b.drop (k+1)=c.drop (k+1))=r):=by unfold Hid;rw[<- Ba q];simp
     clear q;go_wp2;go_quiet (fail);go_wp2;go_roundw
     case rel=>exact⟨k+1,Ck,Mg,m,Dr l⟩
     case measure=>simp[intOf];omega
    have p:r=false:=by rw[<- Ba q];simp[B]
    have m:=Bc p;have a8:(x != y)=true:=by simpa using B
    clear q p;go_wp2;go_quiet (fail);go_wp2;go_ret;exact⟨by rw[Ba m];rfl,Dr l⟩
   have p:r=true:=by
    rw[<- Ba f,Brq Ck,Brq (by have:=Ba I;omega)];rfl
   have m:=Bc p;have a0:¬(k:Int)<(b.length:Int):=Ck;clear p f;go_wp2;go_ret;exact⟨by rw[Ba m];rfl,l⟩
 have Q:((b.length:Int) != (c.length:Int))=true:=Fr;have a3:decide (b=c)=false:=by
  simp only[Bti];intro h;exact t (by rw[h])
 rw[a3];go_in;go_wp2;go_ret;exact⟨rfl,Brm _ _⟩
def Bdo(b:TI)(c f g:Int)(h ya:TA)(j yc:Nat)(w:TW)(t:Ft w h b)(v:Ft w ya b)(z:b.length<=9223372036854775807):Calls prog 25 #[.agg #[.s h b.length j,.i c,.i f,.i g],.agg #[.s ya b.length yc,.i c,.i f,.i g]] w fun e F=>e=.r (.bool true)/\Bl w F:=by
 have p:=Bu w (O30 h b.length j c f g) (O30 ya b.length yc c f g);have A:=Cb w (O30 h b.length j c f g) (O30 ya b.length yc c f g);have B:=Bx w (O30 h b.length j c f g) (O30 ya b.length yc c f g);have q:=Ba7 b b h ya j yc _ (t.below p) (v.below p) z z;rw[Bt5 (rfl:b=b)]at q;have C:=Bc q;clear q t v;go_in;go_wp2_with fail;refine Qb (Ba C) p ?_;intro I D G;have l:=stay D A;have m:=stay D B;have J:=(Bb l 1).trans (show _=some (.i c) from rfl);have K:=(Bb l 2).trans (show _=some (.i f) from rfl);have L:=(Bb l 3).trans (show _=some (.i g) from rfl);have N:=(Bb m 1).trans (show _=some (.i c) from rfl);have O:=(Bb m 2).trans (show _=some (.i f) from rfl);have Q:=(Bb m 3).trans (show _=some (.i g) from rfl);clear C A l B m;go_wp2;go_ret;exact⟨rfl,G⟩
def Re (w:TW)(b:Nat)(m:Int)(v:TX):Prop:=∃a n c,v=.slice a n c/\n<=9223372036854775807/\(n=0\/∃g cs,a=some ⟨g,0,none⟩/\b<=g/\w.heap[g]?=some (.cells cs 3 (0,0))/\∀i,i<n->cs[i]?=some (.int .i64 m))
structure Jg(w:World)(B b:Nat)(la:Option Addr)(lc:Nat)(vs:List Value):Prop where
 blk:w.heap[B]?=some (O31 la vs.length lc)
 row:w.ownsRow b 26 1 (.slice la vs.length lc) vs.length vs
 ls:∀k (h:k<vs.length),Re w b (1099511627776+(k:Int)) vs[k]
def Jg.below{w s:TW}{u b:Nat}{g:TA}{t:Nat}{l:TV}(h:Jg w u b g t l)(i:Bl w s):Jg s u b g t l:=by
 refine⟨stay i h.blk,Dc (e:=none) h.row (Kp.of_below i) Hd,fun k m=>?_⟩;obtain⟨a,n,c,e,p,j⟩:=h.ls k m;refine⟨a,n,c,e,p,?_⟩;rcases j with j|⟨f,q,v,z,A,C⟩
 ·exact .inl j
 exact .inr ⟨f,q,v,z,stay i A,C⟩
def Bhm(B b:Nat)(m:TA)(p:Nat)(f:TV)(w:TW)(h:Jg w B b m p f)(V:f.length<=5000000000000):Calls prog 51 #[.q B 0] w fun e F=>e=.r (.bool true)/\w=F:=by
 have Y:=(Bb h.blk 0).trans (show _=some (.s m f.length p) from rfl);have G:=Bc h.row;have I:=Bc h.ls;clear h;go_in;go_wp2
 go_loopw [3] (fun v wr=>∃k:Nat,k<=f.length/\v=.i (k:Int)/\w=wr)
  (fun v _=>f.length-(intOf v).toNat)
 case atStart=>exact⟨0,Ck,rfl,rfl⟩
 case round=>
  obtain⟨k,Z,rfl,rfl⟩:=hrel;by_cases j:k<f.length
  ·have J:(k:Int)<(f.length:Int):=Ck;obtain⟨g0,K,a0,_,t⟩:=Cf (Ba G) Ck;have z:=t k j;rw[Brl j]at z;obtain⟨a,n,c,A,hn,l⟩:=Ba I k j;rw[A]at z;subst K;clear t A;go_wp2
   go_loopw [4] (fun v wr=>∃i:Nat,i<=n/\v=.i (i:Int)/\w=wr)
    (fun v _=>n-(intOf v).toNat)
   case atStart=>exact⟨0,Ck,rfl,rfl⟩
   case round=>
    obtain⟨i,hi,rfl,rfl⟩:=hrel;by_cases L:i<n
    ·have N:(i:Int)<(n:Int):=Ck;rcases l with l|⟨g,cs,O,Q,C,D⟩
     ·omega
     have x1:=(Bb C i).trans (D i L);subst O;clear Q C D;go_wp2;go_roundw
     case rel=>exact⟨i+1,Ck,Mg,by trivial⟩
     case measure=>simp[intOf]<;>omega
    have N:¬(i:Int)<(n:Int):=Ck;clear l;go_wp2;go_roundw
    case rel=>exact⟨k+1,Ck,Mg,by trivial⟩
    case measure=>simp[intOf]<;>omega
  have J:¬(k:Int)<(f.length:Int):=Ck;go_wp2;go_ret;exact⟨rfl,by trivial⟩
def Tryz.infoInts:(prog.info? 26).map (fun i=>(i.zero,i.size,i.bytes))=some (some (.s none 0 0),1,24):=Lt
def Pq (g:Nat)(vs:TV):Prop:=∀v∈vs,∀a n c,v=.slice a n c->0<n->∀q,a=some ⟨q,0,none⟩->q≠g
def Jg.grow{w s:TW}{u b t:Nat}{g:TA}{O:Nat}{e:TV}{G:Array Value}(h:Jg w u b g O e)(m:w.heap[t]?=some (.cells G 3 (0,0)))(F:Pq t e)(i:Gr t w s):Jg s u b g O e:=by
 have I:u≠t:=by
  intro f;have:=h.blk;rw[f,m]at this;simp at this
 refine⟨(i.blk (Sp h.blk) I).trans h.blk,?_,fun k p=>?_⟩
 ·refine h.row.kept i ?_;cases f:(Value.slice g e.length O).ownBlock with
  | none=>exact .inl rfl
  | some q =>
   refine .inr fun j=>?_;obtain rfl:q=t:=by simpa using j
   obtain⟨_,⟨v,_⟩|⟨J,Y,Z,z,_,A,_⟩⟩:=h.row
   ·simp only[Value.slice.injEq]at v;obtain⟨rfl,_,_⟩:=v;simp[Value.ownBlock]at f
   simp only[Value.slice.injEq]at z;obtain⟨rfl,_,_⟩:=z;have:J=q:=by simpa[Value.ownBlock] using f
   subst this;rw[m]at A;simp at A
 obtain⟨a,n,c,f,K,l⟩:=h.ls k p;refine⟨a,n,c,f,K,?_⟩;rcases l with l|⟨q,L,C,j,D,N⟩
 ·exact .inl l
 by_cases Q:n=0;·exact .inl Q
 have V:=F e[k] (Brn p) a n c f Ck q C;exact .inr ⟨q,L,C,j,(i.blk (Sp D) V).trans D,N⟩
def Re.keep{w s:TW}{u:Nat}{c:Int}{l:TX}(h:Re w u c l)(t:∀(g:Nat) (j:Array Value),w.heap[g]?=some (.cells j 3 (0,0))->s.heap[g]?=some (.cells j 3 (0,0))):Re s u c l:=by
 obtain⟨a,n,f,e,z,i⟩:=h;refine⟨a,n,f,e,z,?_⟩;rcases i with i|⟨q,p,A,B,C,D⟩
 ·exact .inl i
 exact .inr ⟨q,p,A,B,t q p C,D⟩
def Jg.push{w j:TW}{u b t O:Nat}{g m:TA}{f:TV}{l:TX}{o:Obj}(h:Jg w u b g t f)(hF:Re w b (1099511627776+(f.length:Int)) l)(J:u<b) (K:j.ownsRow b 26 1 (.s m (f.length+1) O) (f.length+1) (f++[l]))(A:(w.alloc o).grownBy j (Value.slice g f.length t).ownBlock):j.heap[u]?=some (O31 g f.length t)/\Jg (j.setCell (.a u 0) (.s m (f.length+1) O)) u b m O (f++[l])/\∀(c:Nat) (p:Array Value),w.heap[c]?=some (.cells p 3 (0,0))->(j.setCell (.a u 0) (.s m (f.length+1) O)).heap[c]?=some (.cells p 3 (0,0)):=by
 have C:j.heap[u]?=w.heap[u]?:=(World.grownBy.block A u (by have:=Sp h.blk;simp;omega) (fun e=>by have:=(h.row.lt u e.symm).1;omega)).trans (Br2 _ _ _ (Sp h.blk));have z:∀(c:Nat) (p:Array Value),w.heap[c]?=some (.cells p 3 (0,0))->(j.setCell (.a u 0) (.s m (f.length+1) O)).heap[c]?=some (.cells p 3 (0,0)):=by
  intro c p q;have L:c≠u:=by intro e;have:=h.blk;rw[<- e,q]at this;simp at this
  rw[Brk _ _ _ _ L];refine((World.grownBy.block A c (by have:=Sp q;simp;omega) (fun e=>?_)).trans (Br2 _ _ _ (Sp q))).trans q;obtain⟨_,⟨D,_⟩|⟨N,V,Y,F,_,G,_⟩⟩:=h.row
  ·simp only[Value.slice.injEq]at D;obtain⟨rfl,_,_⟩:=D;simp[Value.ownBlock]at e
  simp only[Value.slice.injEq]at F;obtain⟨rfl,_,_⟩:=F;have:c=N:=by simpa[Value.ownBlock] using e
  subst this;rw[q]at G;simp at G
 refine⟨C.trans h.blk,⟨?_,?_,fun k Q=>?_⟩,z⟩
 ·have:=Bt (i:=0) (C.trans h.blk) (.s m (f.length+1) O);rw[this];simp
 ·have:=Dc (e:=none) K (Kp.set_lo (i:=0) J (.s m (f.length+1) O)) Hd;simpa using this
 by_cases I:k<f.length;·rw[List.getElem_append_left I];exact(h.ls k I).keep z
 obtain rfl:k=f.length:=by simp at Q;omega
 rw[Bv6 (Bru _)];simp only[Bus,Btn];exact hF.keep z
def Zx(B b g c n:Nat)(G:TA)(I:Nat)(l:TV)(J:Array Value)(w:TW)(h:Jg w B b G I l)(hg:w.heap[g]?=some (.cells J 3 (0,0)))(a8:J.size=c)(hc:c<=9223372036854775807)(b7:n<=c)(a9:b<=g)(ho:Pq g l)(b8:l.length<=5000000000000)(a1:B<b):Calls prog 128 #[.q B 0,.s (.p g) n c] w fun e K=>e=.r (.tuple #[])/\∃L N,Jg K B b L N (l++[.s (.p g) c c])/\(∀m t,Below m t w->m<=B->Below m t K)/\∀(q:Nat) (f:Array Value),w.heap[q]?=some (.cells f 3 (0,0))->q≠g->K.heap[q]?=some (.cells f 3 (0,0)):=by
 obtain⟨i0,hi,b0,b1,b2⟩:=Bsa Tryz.infoInts;have H:=Bc h;have HO:=Bc ho;have O:=Bc hg;clear h ho hg;go_in;go_wp2
 go_loopw [5] (fun v wr=>∃(i:Nat) (f:Array Value),i<=c/\v=.i (i:Int)/\wr.heap[g]?=some (.cells f 3 (0,0))/\f.size=c/\(∀j,j<i->f[j]?=some (.i (1099511627776+(l.length:Int))))/\Gr g w wr)
  (fun v _=>c-(intOf v).toNat)
 case atStart=>exact⟨0,J,Ck,rfl,Ba O,a8,fun j hj=>Ck,Gr.refl _ _⟩
 case round=>
  obtain⟨i,f,b9,rfl,z,a2,D,A⟩:=hrel;have C:=(Ba H).grow (Ba O) (Ba HO) A;have c0:=(Bb C.blk 0).trans (show _=some (.s G l.length I) from rfl);by_cases b3:i<c
  ·have ib:(i:Int)<(c:Int):=Ck;obtain⟨u,hu⟩:∃u,f[i]?=some u:=⟨f[i],Bu0 Ck⟩;have x0:=(Bb z i).trans hu;have f0:=Bk z i;have a3:=Bt (i:=i) z (.i (1099511627776+(l.length:Int)));have a4:=A.setB (i:=i) (.i (1099511627776+(l.length:Int)));have HK:=Bc a3;have F:=Bc a4;have Q:=Bc D;clear C z a3 a4 A D;go_wp2;go_roundw
   case rel=>
    refine⟨i+1,_,Ck,Mg,Ba HK,by simpa using a2,fun j hj=>?_,Ba F⟩;by_cases e:j=i;·subst e;simp[a2,b3]
    rw[Array.getElem?_setIfInBounds_ne Ck];exact Ba Q j Ck
   case measure=>simp[intOf]<;>omega
  have ib:¬(i:Int)<(c:Int):=Ck;obtain rfl:i=c:=Ck;have hF:Re wr b (1099511627776+(l.length:Int)) (.s (.p g) i i):=⟨_,_,_,rfl,Ck,.inr ⟨g,f,rfl,a9,z,D⟩⟩;have V:=C.row;have c1:=Sp z;have HA:=Bc C;have Q:=Bc hF;have F:=Bc A;clear C hF D A;go_wp2_with (at_builtin;refine Br3 _ rfl _ _ 95 rfl b 26 i0 _ 1 24 underlying95 hi b0 b1 b2 rfl Fm _ _ _ rfl (V.alloc _) _ 1 1 [.s (.p g) i i] rfl rfl ?d1 ?c2 ?c3 ?c4 ?c5 ?_)
  case c2=>rfl
  case c3=>unfold maxLen;omega
  case c4=>omega
  case c5=>omega
  intro v' w9 Y Z _;obtain⟨L,N,rfl⟩:=Bh Y;obtain⟨a0,a5,a6⟩:=(Ba HA).push (Ba Q) a1 Y Z;have d0:=(Bb a0 0).trans (show _=some (.s G l.length I) from rfl);have f0:=Bk a0 0;have a7:∀m t,Below m t w->m<=B->Below m t (w9.setCell (.a B 0) (.s L (l.length+1) N)):=fun m t h1 h2=>by
   have h3:Below m t wr:=h1.grown (Ba F) (Br5 (Br5 h2 (Bsx a1)) (by have:=Sp (Ba O);omega)) (fun k e=>by simp at e;omega);have h4:=(h3.alloc Ck (O32 (.p g) i i)).grown Z Fr (fun k e=>by have:=(V.lt k e).1;omega);exact h4.setCell (p:=.a B 0) h2 _
  have b4:=Bc a5;have b5:=Bc a7;have b6:=Bc (fun (q:Nat) (f:Array Value) (e1:w.heap[q]?=some (.cells f 3 (0,0))) (e2:q≠g)=>a6 q f (((Ba F).blk (Sp e1) e2).trans e1));clear Z Y V a0 a5 a7 c0 a6;go_wp2;go_end0;exact⟨rfl,_,_,Ba b4,Ba b5,Ba b6⟩
def Bhn(B b:Nat)(j:TA)(l:Nat)(f:TV)(w:TW)(h:Jg w B b j l f)(a3:f.length<=5000000000000)(N:B<b)(a4:b<=w.heap.size):Calls prog 128 #[.q B 0,.s none 0 0] w fun e m=>e=.r (.tuple #[])/\∃t z,Jg m B b t z (f++[.s none 0 0])/\(∀c g,Below c g w->c<=B->Below c g m)/\∀(q:Nat) (G:Array Value),w.heap[q]?=some (.cells G 3 (0,0))->m.heap[q]?=some (.cells G 3 (0,0)):=by
 obtain⟨O,Q,V,Y,Z⟩:=Bsa Tryz.infoInts;have hF:Re w b (1099511627776+(f.length:Int)) (.s none 0 0):=⟨_,_,_,rfl,Ck,.inl rfl⟩;have A:=h.row;have c0:=(Bb h.blk 0).trans (show _=some (.s j f.length l) from rfl);have HA:=Bc h;have HF:=Bc hF;clear h hF;go_in;go_wp2
 go_loopw [5] (fun v wr=>v=.i 0/\w=wr) (fun _ _=>0)
 case atStart=>exact⟨rfl,rfl⟩
 case round=>
  obtain⟨rfl,rfl⟩:=hrel;go_wp2_with (at_builtin;refine Br3 _ rfl _ _ 95 rfl b 26 O _ 1 24 underlying95 Q V Y Z rfl Fm _ _ _ rfl (A.alloc _) _ 1 1 [.s none 0 0] rfl rfl ?c1 ?c2 ?c3 ?c4 ?c5 ?_)
  case c1=>exact Dh _ _ _ _ rfl
  case c2=>intro u I;simp at I;subst I;rfl
  case c3=>unfold maxLen;omega
  case c4=>omega
  case c5=>simp;omega
  intro v' w9 C D _;obtain⟨t,z,rfl⟩:=Bh C;obtain⟨F,J,K⟩:=(Ba HA).push (Ba HF) N C D;have d0:=(Bb F 0).trans (show _=some (.s j f.length l) from rfl);have f0:=Bk F 0;have L:∀c g,Below c g w->c<=B->Below c g (w9.setCell (.a B 0) (.s t (f.length+1) z)):=fun c g h1 h2=>by
   have h4:=(h1.alloc Ck (O32 none 0 0)).grown D Fr (fun k e=>by have:=(A.lt k e).1;omega);exact h4.setCell (p:=.a B 0) h2 _
  have a0:=Bc J;have a1:=Bc L;have a2:=Bc K;clear D C A F J L c0 K;go_wp2;go_end0;exact⟨rfl,_,_,Ba a0,Ba a1,Ba a2⟩
def Boe(X:TV)(D:TV)(b:D.length=2)(u:TX):((X++D).set X.length u).set (X.length+1) u=X++[u,u]:=by
 match D,b with
 | [p,q],_=>simp[List.set_append]
def Bhl(b:TI)(t:TA)(xc:Nat)(w:TW)(B:Ft w t b)(hl:b.length<=35000000000000):Calls prog 125 #[.s t b.length xc] w fun e J=>∃g K,e=.r (.s (.p g) b.length (b.length+2))/\w.heap.size<=g/\J.heap[g]?=some (.cells K 3 (0,0))/\K.toList=b.map (Value.int .i64)++[.i 7,.i 7]/\Bl w J:=by
 obtain⟨i0,hi,b4,b5,b6⟩:=Bsa Tryz.infoInt;have L:0<b.length->∃c,t=some c/\c.block<w.heap.size/\∀j v,(b.map (Value.int .i64))[j]?=some v->w.cell? (c.add j)=some v/\(c.add j).block=c.block:=by
  intro N;obtain⟨g,o,O,b7,c7⟩:=B 0 N;refine⟨⟨g,o,none⟩,O,b7,?_⟩;intro j v f;have Q:j<b.length:=by
   rw[Bsf]at f;cases e:b[j]? with
   | none=>rw[e]at f;simp at f
   | some y=>exact(List.getElem?_eq_some_iff.1 e).1
  obtain⟨g',o',C,_,hc⟩:=B j Q;rw[O]at C;simp only[Option.some.injEq,Addr.mk.injEq,Br8]at C;obtain⟨rfl,rfl⟩:=C;have e:(⟨g,o,none⟩:Addr).add j=⟨g,o+j,none⟩:=by unfold Addr.add;split<;>simp_all
  rw[e,hc,<- f];exact⟨by simp[Vm,Q],rfl⟩
 have V:=Bc L;clear L B;go_in;go_wp2_with (refine wpList_make_full _ rfl _ _ 26 rfl w.heap.size 3 i0 _ 1 Bta hi b4 b5 .i64 .i64 _ _ (b.length+2) rfl rfl ?c1 ?c2 ?c3 ?c4 (Bru _) ?_)
 case c1=>omega
 case c2=>omega
 case c3=>rw[b6];omega
 case c4=>unfold maxLen;omega
 intro F Z a0;have G:Bl w F:=(Brm _ _).grown a0 (Bru _) (fun k e=>by simp at e);obtain⟨h,a1,c8⟩:∃h:TV,F.heap[w.heap.size]?=some (.cells h.toArray 3 (0,0))/\h.length=b.length+2:=by
  obtain⟨h1,⟨h2,_⟩|⟨g',c9,h,h3,_,h5,_,_,h8,_⟩⟩:=Z
  ·simp at h2
  simp only[Value.slice.injEq,Option.some.injEq,Addr.mk.injEq,Br8,Buw]at h3;obtain⟨rfl,rfl⟩:=h3;exact⟨h.toList,by simpa using h5,Fr⟩
 obtain⟨X,m⟩:∃X,X=b.map (Value.int .i64):=⟨_,rfl⟩;have a2:X.length=b.length:=by rw[m];simp
 have a3:0<X.length->some (⟨w.heap.size,0,none⟩:Addr)=some ⟨w.heap.size,0,none⟩/\∃c,t=some c/\∀j v,X[j]?=some v->F.cell? (c.add j)=some v:=by
  intro N;obtain⟨c,e1,e2,e3⟩:=Ba V Ck;refine⟨rfl,c,e1,fun j v f=>?_⟩;obtain⟨e4,e5⟩:=e3 j v (by rw[<- m];exact f);rw[<- e4];exact G.cell (p:=c.add j) (by rw[e5];exact e2)
 have HX:=Bc (fun (_:Unit)=>m);have a4:∀v∈X,v.oneCell'=true:=by
  intro v f;rw[m]at f;obtain⟨y,_,rfl⟩:=List.mem_map.1 f;rfl
 have a5:splice h 0 X=X++h.drop b.length:=by unfold splice;simp[a2]
 have a6:=Bc a3;have a7:=Bc a4;have a8:=Bc (fun (_:Unit)=>a5);have b8:(prog.info? 3).map (·.size)=some 1:=Lt;clear Z a0 V a3 m a4 a5;go_wp2_with (refine wpList_copy_splice rfl _ _ 26 26 rfl 3 Bta b8 _ _ _ _ _ _ rfl rfl w.heap.size 0 h 3 a1 X ?d1 (Ba a6) ?d2 (Ba a7) w.heap.size w G (Bru _) ?_)
 intro w2 a9 b0;have l:=Ba a9;rw[Ba a8 ()]at l;obtain⟨D,I⟩:∃D,D=h.drop b.length:=⟨_,rfl⟩;have b9:D.length=2:=by rw[I,Bv9];omega
 rw[<- I]at l;obtain⟨Y,z⟩:∃Y,Y=X++D:=⟨_,rfl⟩;have d0:Y.length=b.length+2:=by rw[z,Ws];omega
 have b1:(Y.set b.length (.i 7)).set (b.length+1) (.i 7)=b.map (Value.int .i64)++[.i 7,.i 7]:=by
  have:=Boe X D b9 (.i 7);rw[a2,<- z]at this;rw[this,Ba HX ()]
 rw[<- z]at l;obtain⟨p,hp⟩:∃p,Y.toArray[b.length]?=some p:=⟨Y[b.length],by simp[Brl (show b.length<Y.length by omega)]⟩;have x1:=(Bb l b.length).trans hp;have f1:=Bk l b.length;have A:=Bt (i:=b.length) l (.i 7);obtain⟨q,hq⟩:∃q,(Y.toArray.setIfInBounds b.length (.i 7))[b.length+1]?=some q:=⟨Y[b.length+1],by simp[Brl (show b.length+1<Y.length by omega)]⟩;have x2:=(Bb A (b.length+1)).trans hq;have f2:=Bk A (b.length+1);have b2:=Bt (i:=b.length+1) A (.i 7);have b3:=(b0.setCell (p:=.a w.heap.size b.length) (Bru _) (.i 7)).setCell (p:=.a w.heap.size (b.length+1)) (Bru _) (.i 7);have c0:=Bc b3;have c5:=Bc b2;have c6:=Bc (fun (_:Unit)=>b1);have l1:(b.length:Int)<(b.length:Int)+2:=Ck;have l2:(b.length:Int)+1<(b.length:Int)+2:=Ck;clear a9 l A b2 b0 b3 b1 z I a1 G a6 a7 a8 HX hp hq;go_wp2;go_ret;refine⟨_,_,rfl,Bru _,Ba c5,?_,Ba c0⟩;rw[<- Ba c6 ()];simp
def Zi{w:TW}{u:Nat}{G:Array Value}{z:TI}(b:w.heap[u]?=some (.cells G 3 (0,0)))(e:G.toList=z.map (Value.int .i64)++[.i 7,.i 7]):Ft w (.p u) z:=fun i c=>by
 refine⟨u,0,rfl,Sp b,?_⟩;rw[Brz,Bb b i];have:G[i]?=G.toList[i]?:=Hd;rw[this,e,Br6 (by simpa using c)];simp[Vm,c]
def Bhk(b:TI)(g:Nat)(c:Array Value)(ya:TA)(yc:Nat)(w:TW)(h:w.heap[g]?=some (.cells c 3 (0,0)))(f:c.toList=b.map (Value.int .i64)++[.i 7,.i 7])(m:Ft w ya b)(C:b.length<=35000000000000):Calls prog 126 #[.s (.p g) b.length (b.length+2),.s ya b.length yc] w fun e B=>e=.r (.bool true)/\Bl w B:=by
 have j:=Ba7 b b (.p g) ya (b.length+2) yc w (Zi h f) m Ck Ck;rw[Bt5 (rfl:b=b)]at j;have q:=Bc j;have t:c[b.length]?=some (.i 7):=by
  have:c[b.length]?=c.toList[b.length]?:=Hd;rw[this,f,Br0 Hd];simp
 have v:c[b.length+1]?=some (.i 7):=by
  have:c[b.length+1]?=c.toList[b.length+1]?:=Hd;rw[this,f,Br0 Hd];simp
 have z:=Bc h;clear j h f m;go_in;go_wp2_with fail;refine Qm (Ba q) ?_;intro D A;have l:=stay A (Ba z);have F:=(Bb l b.length).trans t;have G:=(Bb l (b.length+1)).trans v;have I:(b.length:Int)<(b.length:Int)+2:=Ck;have J:(b.length:Int)+1<(b.length:Int)+2:=Ck;clear q z l t v;go_wp2;go_ret;exact⟨rfl,A⟩
def Zm(f:RFl)(b h d g:Int)(j:TI)(m:TA)(p:Nat)(w:TW)(c:b<0\/(f.ms.length:Int)<=b):Calls prog 23 #[f.val,.agg #[.i b,.s m j.length p,.i h,.i d,.i g]] w fun e q=>e=.r (.i 12)/\Bl w q:=by
 obtain⟨v,z,A,B,C,l,t⟩:=f;simp only[RFl.val]at c ⊢;by_cases D:b<0;·go_in;go_wp2;go_ret;exact⟨rfl,Bu w _ _⟩
 have F:(t.length:Int)<=b:=Ck;clear c;go_in;go_wp2;go_ret;exact⟨rfl,Bu w _ _⟩
def Bes(f:RFl)(q:Nat)(h d I:Int)(J:TI)(K:TA)(L:Nat)(w:TW)(v:f.ok w)(z:q<f.ms.length)(N:f.ms[q].1.m.params.length<=1000)(j:K7 f.ms[q].1.m=false):Calls prog 23 #[f.val,.agg #[.i (q:Int),.s K J.length L,.i h,.i d,.i I]] w fun e O=>e=.r (.i 12)/\Bl w O:=by
 obtain⟨m,g,A,a0,b,B⟩:=RFl.mth v z;obtain⟨a1,c1,a2,c2,bb,l,C⟩:=f;simp only[RFl.val]at A z N j B b ⊢;obtain⟨D,Q,V,Y,Z,i6,i7,i8,F,-⟩:=B;generalize C[q].1=M at *;obtain⟨cl,nm,pa,c,pc,r1,r2,lo,st,a3,ha,hl,p,ma,ml,mc,a4,a5⟩:=m;simp only[RMV.list]at D F b;subst D F;have y0:=b 0 _ rfl;have y1:=b 1 _ rfl;have y2:=b 2 _ rfl;have y3:=b 3 _ rfl;have y4:=b 4 _ rfl;have y5:=b 5 _ rfl;have y6:=b 6 _ rfl;have y7:=b 7 _ rfl;have y8:=b 8 _ rfl;have y9:=b 9 _ rfl;have ya:=b 10 _ rfl;have yb:=b 11 _ rfl;rw[Bvh]at y0;unfold K7 at j;generalize M.m.cl=G at *;generalize M.m.params.length=c at *;have kb:(q:Int)<(C.length:Int):=Ck;clear b Q V Y Z i6 i7 i8 v;subst A;by_cases p:G=255
 ·subst p;have a6:0<c:=by
   rcases Nat.eq_zero_or_pos c with t|t
   ·subst t;exact absurd j Fm
   exact t
  have a7:(0:Int)<(c:Int):=Ck;go_in;go_wp2;go_ret;exact⟨rfl,(Bu w _ _).alloc (by simp only[World.alloc,Btb];omega) _⟩
 have a8:(G==255)=false:=by simpa using p
 go_in;go_wp2;go_ret;exact⟨rfl,(Bu w _ _).alloc (by simp only[World.alloc,Btb];omega) _⟩
def Ber(f:RFl)(q:Nat)(h d F:Int)(b:TI)(N:TA)(ic:Nat)(w:TW)(hf:f.ok w)(hq:q<f.ms.length)(a5:f.ms[q].1.m.params.length<=1000)(O:K7 f.ms[q].1.m=true)(a9:b.length<=maxLen)(z:Ft w N b):Calls prog 23 #[f.val,.agg #[.i (q:Int),.s N b.length ic,.i h,.i d,.i F]] w fun e w'=>e=.r (.i (if h<0 then 13 else if 30<h then 13 else if d<1 then 13 else if 12<d then 13 else if F<0 then 13 else if 3000<F then 13 else if Iw b=false then 13 else 0))/\Bl w w':=by
 obtain⟨m,g,hg,b0,c,a3⟩:=RFl.mth hf hq;obtain⟨a1,c1,a2,A,bb,l,ms⟩:=f;simp only[RFl.val]at hg hq a5 O a3 c ⊢;obtain⟨i1,i2,i3,i4,i5,i6,i7,i8,i9,-⟩:=a3;generalize ms[q].1=M at *;obtain⟨cl,nm,pa,pl,pc,r1,r2,lo,st,b1,ha,hl,hc,ma,ml,mc,b2,b3⟩:=m;simp only[RMV.list]at i1 i9 c;subst i1 i9;have y0:=c 0 _ rfl;have y1:=c 1 _ rfl;have y2:=c 2 _ rfl;have y3:=c 3 _ rfl;have y4:=c 4 _ rfl;have y5:=c 5 _ rfl;have y6:=c 6 _ rfl;have y7:=c 7 _ rfl;have y8:=c 8 _ rfl;have y9:=c 9 _ rfl;have ya:=c 10 _ rfl;have yb:=c 11 _ rfl;rw[Bvh]at y0;unfold K7 at O;generalize M.m.cl=oc at *;generalize M.m.params.length=pl at *;have kb:(q:Int)<(ms.length:Int):=Ck;clear c i2 i3 i4 i5 i6 i7 i8 hf;subst hg;simp only[Bsq,Bsv]at O;obtain⟨rfl,rfl⟩:=O;generalize hV:(if h<0 then (13:Int) else _)=V
 have p:=Bc hV;clear hV;by_cases A:h<0
 ·have t:Hid (V=13):=by unfold Hid;rw[<- Ba p,Th A]
  clear p z;go_in;go_wp2;go_ret;exact⟨by rw[Ba t];rfl,(Bu w _ _).alloc (by simp only[World.alloc,Btb];omega) _⟩
 by_cases D:30<h
 ·have t:Hid (V=13):=by unfold Hid;rw[<- Ba p,Pk A,Th D]
  clear p z;go_in;go_wp2;go_ret;exact⟨by rw[Ba t];rfl,(Bu w _ _).alloc (by simp only[World.alloc,Btb];omega) _⟩
 by_cases G:d<1
 ·have t:Hid (V=13):=by unfold Hid;rw[<- Ba p,Pk A,Pk D,Th G]
  clear p z;go_in;go_wp2;go_ret;exact⟨by rw[Ba t];rfl,(Bu w _ _).alloc (by simp only[World.alloc,Btb];omega) _⟩
 by_cases Q:12<d
 ·have t:Hid (V=13):=by unfold Hid;rw[<- Ba p,Pk A,Pk D,Pk G,Th Q]
  clear p z;go_in;go_wp2;go_ret;exact⟨by rw[Ba t];rfl,(Bu w _ _).alloc (by simp only[World.alloc,Btb];omega) _⟩
 by_cases Z:F<0
 ·have t:Hid (V=13):=by unfold Hid;rw[<- Ba p,Pk A,Pk D,Pk G,Pk Q,Th Z]
  clear p z;go_in;go_wp2;go_ret;exact⟨by rw[Ba t];rfl,(Bu w _ _).alloc (by simp only[World.alloc,Btb];omega) _⟩
 by_cases c7:3000<F
 ·have t:Hid (V=13):=by unfold Hid;rw[<- Ba p,Pk A,Pk D,Pk G,Pk Q,Pk Z,Th c7]
  clear p z;go_in;go_wp2;go_ret;exact⟨by rw[Ba t];rfl,(Bu w _ _).alloc (by simp only[World.alloc,Btb];omega) _⟩
 have Y:Hid ((if Iw b=false then (13:Int) else 0)=V):=by unfold Hid;rw[<- Ba p,Pk A,Pk D,Pk G,Pk Q,Pk Z,Pk c7]
 clear p;by_cases c8:20<b.length
 ·have t:Hid (V=13):=by unfold Hid;rw[<- Ba Y,Iw,Th c8];rfl
  have a6:(20:Int)<(b.length:Int):=Ck;clear Y z;go_in;go_wp2;go_ret;exact⟨by rw[Ba t];rfl,(Bu w _ _).alloc (by simp only[World.alloc,Btb];omega) _⟩
 have a6:¬(20:Int)<(b.length:Int):=Ck;have B:Hid ((if Ii (b.drop 0)=false then (13:Int) else 0)=V):=by unfold Hid;rw[<- Ba Y,Iw,Pk c8];rfl
 clear Y;have I:=Bc z;clear z;go_in;go_wp2;generalize J:World.alloc (World.alloc (World.alloc w _) _) _=K;have L:Bl w K:=by rw[<- J];exact(Bu w _ _).alloc (by simp only[World.alloc,Btb];omega) _
 have z9:K.cell? { block:=w.heap.size+1,off:=1 }=some (.s N b.length ic):=by
  rw[<- J];exact Bb (stay (Bs4 (Brm _ _) (Bru _) _) (Bx w _ _)) 1
 have b4:w.heap.size+1<K.heap.size:=by rw[<- J];clear J I B L z9;simp only[World.alloc,Btb];omega
 replace I:Hid (Ft K N b):=Bc ((Ba I).below L);clear J y0 y1 y2 y3 y4 y5 y6 y7 y8 y9 ya yb
 go_loopw [6] (fun v wr=>∃k:Nat,k<=b.length/\v=.i (k:Int)/\Hid ((if Ii (b.drop k)=false then (13:Int) else 0)=V)/\wr=K)
  (fun v _=>b.length-(intOf v).toNat)
 case atStart=>exact⟨0,Ck,rfl,B,rfl⟩
 case round=>
  clear B;obtain⟨k,hk,rfl,B,rfl⟩:=hrel;by_cases a0:k<b.length
  ·obtain⟨g2,o,a7,b5,z0⟩:=Ba I k a0;have j:=Ba B;rw[Brj a0,Ii]at j;have ey:b.getD k 0=b[k]:=by simp[Vm,a0]
   rw[ey]at z0;generalize b[k]=x at *;have a8:(k:Int)<(b.length:Int):=Ck;clear B I ey;subst a7;by_cases hx:x < -2147483648;·rw[Th hx]at j;have C:=Bc j;clear j;go_wp2;go_ret;exact⟨by rw[<- Ba C];rfl,L⟩
   rw[Pk hx]at j;by_cases a4:2147483647<x;·rw[Th a4]at j;have C:=Bc j;clear j;go_wp2;go_ret;exact⟨by rw[<- Ba C];rfl,L⟩
   rw[Pk a4]at j;have C:Hid ((if Ii (b.drop (k+1))=false then (13:Int) else 0)=V):=j
   clear j;go_wp2;go_roundw
   case rel=>exact⟨k+1,Ck,Mg,C,trivial⟩
   case measure=>simp[intOf];omega
  have j:=Ba B;rw[Brq Ck,Ii]at j;have C:=Bc j;have a8:¬(k:Int)<(b.length:Int):=Ck;clear j B;go_wp2;go_ret;exact⟨by rw[<- Ba C];rfl,L⟩
def Bg0(f:RFl)(c h d g:Int)(b:TI)(j:TA)(l:Nat)(w:TW)(A:f.ok w)(C:∀q∈f.ms,q.1.m.params.length<=1000)(D:b.length<=maxLen)(F:Ft w j b):Calls prog 23 #[f.val,.agg #[.i c,.s j b.length l,.i h,.i d,.i g]] w fun e G=>e=.r (.i (Gl (f.ms.map fun q=>q.1.m) c b h d g))/\Bl w G:=by
 unfold Gl Jp;rw[Br1];by_cases v:c<0;·rw[Th v,Th rfl];exact Zm f c h d g b j l w (Or.inl v)
 rw[Pk v];by_cases z:(f.ms.length:Int)<=c;·rw[Th z,Th rfl];exact Zm f c h d g b j l w (Or.inr z)
 rw[Pk z];obtain⟨q,rfl⟩:=Brp (show 0<=c by omega);have p:q<f.ms.length:=Ck;have I:(f.ms.map fun q=>q.1.m).getD (Int.toNat (q:Int)) Ef=f.ms[q].1.m:=by simp[Vm,p]
 rw[I];have B:=C _ (Brn p);by_cases t:K7 f.ms[q].1.m=false;·rw[Th t];exact Bes f q h d g b j l w A p B t
 rw[Pk t];exact Ber f q h d g b j l w A p B (by simpa using t) D F
def Bmj{w s:TW}{u b t n:Nat}{l:TX}{e:TV}(h:w.ownsRow u b t l n e)(i:∀j,l.ownBlock=some j->s.heap[j]?=w.heap[j]?):s.ownsRow u b t l n e:=by
 obtain⟨c,m|⟨g,p,q,f,v,z,r⟩⟩:=h
 ·exact⟨c,.inl m⟩
 exact⟨c,.inr ⟨g,p,q,f,v,(i g (by rw[f];rfl)).trans z,r⟩⟩
structure Rw where
 t:TypeId
 z:Nat
 v:Value
 n:Nat
 cs:List Value
def Rw.at(r:Rw)(b:Nat)(w:TW):Prop:=w.ownsRow b r.t r.z r.v r.n r.cs
structure Own(w0:World)(L:List Rw)(w:World):Prop where
 row:∀r∈L,r.at w0.heap.size w
 nd:L.Pairwise fun a b=>∀j,a.v.ownBlock=some j->b.v.ownBlock≠some j
 low:Below w0.heap.size w0 w
def Own.sub{v w:TW}{f b:List Rw}(h:Own v f w)(s:b.Sublist f):Own v b w:=⟨fun r c=>h.row r (s.subset c),h.nd.sublist s,h.low⟩
def Own.perm{v w:TW}{f b:List Rw}(h:Own v f w)(s:f.Perm b):Own v b w :=
 ⟨fun r c=>h.row r (s.mem_iff.2 c),(List.Perm.pairwise_iff (fun k j e g=>k j g e) s).1 h.nd,h.low⟩
def Own.mid{v w:TW}{L X:List Rw}{r:Rw}(h:Own v (r::(L++X)) w):Own v (L++r::X) w:=h.perm List.perm_middle.symm
def Own.unmid{v w:TW}{f X:List Rw}{r:Rw}(h:Own v (f++r::X) w):Own v (r::(f++X)) w:=h.perm List.perm_middle
def Own.below{v w b:TW}{f:List Rw}(h:Own v f w)(c:Bl w b):Own v f b :=
 ⟨fun r e=>Bmj (h.row r e) (fun j g=>c.block j ((h.row r e).lt j g).2),h.nd,h.low.trans (c.mono h.low.size)⟩
def Own.add{c w:TW}{f:List Rw}{r:Rw}(h:Own c f w)(e:r.at c.heap.size w)(g:∀j,r.v.ownBlock=some j->∀x∈f,x.v.ownBlock≠some j):Own c (r::f) w :=
 ⟨fun x b=>by rcases List.mem_cons.1 b with rfl|b;exact e;exact h.row x b,List.pairwise_cons.2 ⟨fun x b j i=>g j i x b,h.nd⟩,h.low⟩
def Own.add_new{c w b:TW}{f:List Rw}{r:Rw}(h:Own c f w)(m:Bl w b)(i:b.ownsRow w.heap.size r.t r.z r.v r.n r.cs):Own c (r::f) b:=by
 refine(h.below m).add ?_ (fun j p x q e=>?_)
 ·obtain⟨l,s|⟨g,A,B,C,D,r⟩⟩:=i
  ·exact⟨l,.inl s⟩
  exact⟨l,.inr ⟨g,A,B,C,Br5 h.low.size D,r⟩⟩
 have:=(i.lt j p).1;have:=((h.row x q).lt j e).2;omega
def Own.add_nil{v w:TW}{f:List Rw}(h:Own v f w)(t:TypeId)(z:Nat):Own v (⟨t,z,.s none 0 0,0,[]⟩::f) w :=
 h.add (Brw _ _ _ _) (fun j b=>by simp[Value.ownBlock]at b)
def Own.var{v w:TW}{f:List Rw}(h:Own v f w)(b:Array Value)(t:TypeId):Own v (⟨t,b.size,.s (.p w.heap.size) 1 1,1,b.toList⟩::f) (w.alloc (.cells b t)) :=
 h.add_new (QN _) (World.ownsRow_lit w b 1 (Bru _) Fm Hd)
def Own.upd{i w l:TW}{f p:List Rw}{r m:Rw}(h:Own i (f++r::p) w)(b:w.grownBy l r.v.ownBlock)(z:m.at i.heap.size l)(A:∀j,m.v.ownBlock=some j->r.v.ownBlock=some j\/w.heap.size<=j):Own i (f++m::p) l:=by
 have c:=h.unmid;refine Own.mid (Own.add ⟨fun x g=>?_,(List.pairwise_cons.1 c.nd).2,?_⟩ z (fun j B x g e=>?_))
 ·refine(c.row x (by simp[g])).kept b ?_;cases e:x.v.ownBlock with
  | none=>exact .inl rfl
  | some j=>exact .inr (fun C=>(List.pairwise_cons.1 c.nd).1 x g j C.symm e)
 ·exact⟨b.os.trans h.low.os,b.tape.trans h.low.tape,b.output.trans h.low.output,Br5 h.low.size b.size,
   fun q s=>(b.block q (Brs s h.low.size) (fun e=>by have:=((c.row r Hd).lt q e.symm).1;omega)).trans (h.low.block q s)⟩
 rcases A j B with t|t
 ·exact(List.pairwise_cons.1 c.nd).1 x g j t e
 have:=((c.row x (by simp[g])).lt j e).2;omega
def Own.at{v w:TW}{f:List Rw}(h:Own v f w){u:Nat}{r:Rw}(b:f[u]?=some r):r.at v.heap.size w:=h.row r (Bs6 b)
def Own.put{b w c:TW}{f:List Rw}{u:Nat}{r g:Rw}(h:Own b f w)(l:f[u]?=some r)(m:w.grownBy c r.v.ownBlock)(p:g.at b.heap.size c)(q:∀j,g.v.ownBlock=some j->r.v.ownBlock=some j\/w.heap.size<=j):Own b (f.set u g) c:=by
 obtain⟨s,e⟩:=List.getElem?_eq_some_iff.1 l;have t:f=f.take u++r::f.drop (u+1):=by rw[<- e,List.getElem_cons_drop,Bua]
 rw[Bu8,Th s];rw[t]at h;exact h.upd m p q
def Own.app{v w p:TW}{f:List Rw}{i n:Nat}{j:TypeId}{t:Nat}{l g:TX}{e J:TV}(h:Own v f w){O:Nat}(s:f[i]?=some ⟨j,t,l,n,e⟩)(A:p.ownsRow v.heap.size j t g O J)(B:w.grownBy p l.ownBlock)(C:g.ownBlock=l.ownBlock\/g.ownBlock=some w.heap.size):Own v (f.set i ⟨j,t,g,O,J⟩) p :=
 h.put s B A (fun b q=>by
  rcases C with c|c
  ·exact .inl (by rw[<- c];exact q)
  exact .inr (by rw[c]at q;simp at q;omega))
def Own.cell{v w:TW}{f:List Rw}{i n t O:Nat}{b:TypeId}{z:Nat}{e:TV}(h:Own v f w)(l:f[i]?=some ⟨b,z,.s (.p t) n O,n,e⟩)(j:Nat)(u:TX):Own v (f.set i ⟨b,z,.s (.p t) n O,n,e.set j u⟩) (w.setCell (.a t j) u):=by
 obtain⟨m,q⟩:=World.ownsRow.stored (h.at l) j u;exact h.put l q m (fun j A=>.inl A)
def Own.cellE{v w:TW}{f:List Rw}{i n t O:Nat}{j:TypeId}{z:Nat}{e J:TV}(h:Own v f w)(q:f[i]?=some ⟨j,z,.s (.p t) n O,n,e⟩){b:Nat}{l:TX}(m:e.set b l=J):Own v (f.set i ⟨j,z,.s (.p t) n O,n,J⟩) (w.setCell (.a t b) l):=by
 rw[<- m];exact h.cell q b l
def Bit{w:TW}{u b t n f c:Nat}{a:TA}{e:TV}(h:w.ownsRow u b t (.s a n c) n e)(j:f<=n):w.ownsRow u b t (.s a f c) f (e.take (f*t)):=by
 obtain⟨l,⟨i,C⟩|⟨g,D,m,i,p,q,F,v,A,B⟩⟩:=h
 ·simp only[Value.slice.injEq]at i;obtain⟨rfl,rfl,rfl⟩:=i;obtain rfl:f=0:=Ck;exact⟨Hd,.inl ⟨rfl,rfl⟩⟩
 simp only[Value.slice.injEq,Buw]at i;obtain⟨rfl,rfl⟩:=i;have:f*t<=n*t:=Bwz _ j;refine⟨by rw[Btr,l];omega,.inr ⟨g,c,m,rfl,p,q,Ck,v,A,?_⟩⟩;rw[<- B,Btw,Bum this]
def Own.cut{v w:TW}{f:List Rw}{i n t n':Nat}{a:TA}{j:TypeId}{z:Nat}{e:TV}(h:Own v f w)(g:f[i]?=some ⟨j,z,.s a n t,n,e⟩)(l:n'<=n):Own v (f.set i ⟨j,z,.s a n' t,n',e.take (n'*z)⟩) w :=
 h.put g ⟨rfl,rfl,rfl,Bru _,fun _ _ _=>rfl⟩ (Bit (h.at g) l) (fun b m=>.inl (by cases a<;>exact m))
def Own.nil{v w:TW}{f:List Rw}{i:Nat}{r:Rw}(h:Own v f w)(b:f[i]?=some r)(t:TypeId)(z:Nat):Own v (f.set i ⟨t,z,.s none 0 0,0,[]⟩) w :=
 h.put b ⟨rfl,rfl,rfl,Bru _,fun _ _ _=>rfl⟩ (Brw _ _ _ _) (fun j c=>by simp[Value.ownBlock]at c)
theorem Own.see{v w:World}{L:List Rw}{i n t O:Nat}{b:TypeId}{z:Nat}{e:List Value}(h:Own v L w)(p:L[i]?=some ⟨b,z,.slice (some ⟨t,0,none⟩) n O,n,e⟩){j:Nat}{l:Value}(f:e[j]?=some l):w.cell? ⟨t,j,none⟩=some l:=by
 have m:w.ownsRow v.heap.size b z (.slice (some ⟨t,0,none⟩) n O) n e:=h.at p;rw[World.ownsRow.cellAt m j (by have:=m.1;have:=(List.getElem?_eq_some_iff.1 f).1;omega),f]
def Own.free{v w:TW}{L:List Rw}{i n t O:Nat}{j:TypeId}{z:Nat}{e:TV}(h:Own v L w)(f:L[i]?=some ⟨j,z,.s (.p t) n O,n,e⟩)(b:Nat):w.frozen? (.a t b)=false:=World.ownsRow.frozenAt (h.at f) b
def Own.lt{v w:TW}{L:List Rw}{i n t O:Nat}{j:TypeId}{z:Nat}{e:TV}(h:Own v L w)(b:L[i]?=some ⟨j,z,.s (.p t) n O,n,e⟩):v.heap.size<=t/\t<w.heap.size:=(h.at b).lt t rfl
def Own.drewN{v w:TW}{f:List Rw}(h:Own v f w)(n:Nat):Own v f (w.drewN n):=h.below ⟨rfl,rfl,rfl,Bru _,fun _ _=>rfl⟩
def Own.drew{v w:TW}{f:List Rw}(h:Own v f w):Own v f w.drew:=h.below ⟨rfl,rfl,rfl,Bru _,fun _ _=>rfl⟩
def Bak{P:Program}{B:Array Oper}{o:Oper}{a:Act}{w:TW}{K:Act->TW->Prop}{Q:Exit->Act->TW->Prop}{E:Prop} (C:o.guard=none)(s x:Operand)(t:TypeId)(D:o.op=Op.call { callee:=Callee.builtin Builtin.append,args:=#[s,x],argTypes:=#[t,t] }) (l:Nat)(e:TypeId)(i:TypeInfo)(z:TX)(b p:Nat)(F:P.underlying t=some (.s e))(G:P.info? e=some i)(I:i.zero=some z)(J:i.size=b)(L:i.bytes=p)(N:z.cells.size=b)(O:0<b) (v:TX)(n:Nat)(q:TV)(V:a.eval s=v)(Y:w.ownsRow l e b v n q) (A:Addr)(m c:Nat)(g:TV)(Z:a.eval x=.s (some A) m c)(hn:g.length=m*b)(hc:∀j u,g[j]?=some u->w.cell? (A.add j)=some u)(a0:∀u∈g,u.oneCell'=true) (b1:n+m<=maxLen)(b2:(n+m)*p<=140737488355328)(b3:l<=w.heap.size) (hK:∀f h,h.ownsRow l e b f (n+m) (q++g)->w.grownBy h v.ownBlock->(f.ownBlock=v.ownBlock\/f.ownBlock=some w.heap.size)->K (a.put o.dst f) h):if Region.wanted o (yielded B a.tmps)=true then Oper.wp P o a w K Q else E:=by
 have hw:Region.wanted o (yielded B a.tmps)=true:=by simp[Region.wanted,C]
 rw[Th hw];obtain⟨f,h,a1,r1,r2,_,r3⟩:=run_append_own_at (P:=P) w l t o.type e i z b p F G I J L N O v n q Y A m c g hn hc a0 b1 b2 b3;unfold Oper.wp;simp[execOp,D,resolve,invoke,builtin,V,Z,a1,Result.andThen];exact hK f h r1 r2 r3
structure Bz where
 m:Nat
 p:Nat
 lo:List (Int × Int)
 st:List (Int × Int)
structure Dj where
 cl:Int
 set:Bool
 vals:List (Int × Int)
structure Cv where
 os:List Bz
 ts:List Dj
 made:Nat
 read:Nat
 out:List Int
 steps:Nat
 status:Int
 value:Int
structure Cz where
 B:Nat
 w0:World
 f:RFl
 cs:List Rd.Cls
 ms:List Rd.Mth
 en:Int
 ia:Option Addr
 ic:Nat
 ins:List Int
 heap:Int
 depth:Int
 fuel:Int
structure Br where
 os:List (Bz × Value × Value)
 ts:List (Dj × Value)
 made:Nat
 read:Nat
 out:List Int
 steps:Nat
 status:Int
 value:Int
 oa:Option Addr
 oc:Nat
 ta:Option Addr
 tc:Nat
 xa:Option Addr
 xc:Nat
def Br.d (M:Br):Cv:=⟨M.os.map Prod.fst,M.ts.map Prod.fst,M.made,M.read,M.out,M.steps,M.status,M.value⟩
def Fe (x:Bz × Value × Value):List Value:=[.int .i64 (x.1.m:Int),.int .i64 (x.1.p:Int),x.2.1,x.2.2]
def If (x:Dj × Value):List Value:=[.int .i64 x.1.cl,.bool x.1.set,x.2]
def Da (v:TX)(l:TP):Rw:=⟨240,2,v,l.length,Bp l⟩
def Br.cells(k:Cz)(M:Br):List Value :=
 [.slice k.f.a1 k.f.l.length k.f.c1,.slice k.f.a2 k.f.ms.length k.f.c2,.int .i64 k.en,.slice k.ia k.ins.length k.ic,.int .i64 k.heap,.int .i64 k.depth,.int .i64 k.fuel,
 .slice M.oa M.os.length M.oc,.slice M.ta M.ts.length M.tc,.int .i64 (M.made:Int),.int .i64 (M.read:Int),.slice M.xa M.out.length M.xc,.int .i64 (M.steps:Int),.int .i64 M.status,.int .i64 M.value,.bool false]
def J3 (x:Bz × Value × Value):List Rw:=[Da x.2.1 x.1.lo,Da x.2.2 x.1.st]
def Jw (x:Dj × Value):Rw:=Da x.2 x.1.vals
def Br.rows(k:Cz)(M:Br):List Rw :=
 ⟨115,16,.slice (some ⟨k.B,0,none⟩) 1 1,1,M.cells k⟩::⟨171,4,.slice M.oa M.os.length M.oc,M.os.length,M.os.reverse.flatMap Fe⟩ ::
 ⟨118,3,.slice M.ta M.ts.length M.tc,M.ts.length,M.ts.flatMap If⟩::⟨3,1,.slice M.xa M.out.length M.xc,M.out.length,M.out.map (Value.int .i64)⟩::(M.os.flatMap J3++M.ts.map Jw)
abbrev Bm(k:Cz)(M:Br)(X:List Rw)(w:World):Prop:=Own k.w0 (M.rows k++X) w
def Bm.cell{k:Cz}{M:Br}{X:List Rw}{w:TW}(h:Bm k M X w){j:Nat}{l:TX}(b:(M.cells k)[j]?=some l):w.C k.B j l :=
 Own.see (i:=0) (L:=M.rows k++X) h Ls b
def Bm.fz{k:Cz}{M:Br}{X:List Rw}{w:TW}(h:Bm k M X w)(j:Nat):w.frozen? (.a k.B j)=false :=
 Own.free (i:=0) (L:=M.rows k++X) h Ls j
def Bm.ltB{k:Cz}{M:Br}{X:List Rw}{w:TW}(h:Bm k M X w):k.B<w.heap.size:=(Own.lt (i:=0) (L:=M.rows k++X) h Ls).2
def Oq(r:List (Bz×Value×Value)):(r.reverse.flatMap Fe).length=r.length*4:=by rw[Kx Fe 4 (fun _=>rfl)];simp
def Bcj(x:Bz×Value×Value)(r:List (Bz×Value×Value))(j:Nat):((x::r).reverse.flatMap Fe)[r.length*4+j]?=(Fe x)[j]?:=by
 rw[Btp,Bst,Br0 (by rw[Oq];omega),Oq,Btu];simp
def Tv(x b:Bz×Value×Value)(r:List (Bz×Value×Value))(j:Nat)(u:TX)(h:(Fe x).set j u=Fe b):((x::r).reverse.flatMap Fe).set (r.length*4+j) u=(b::r).reverse.flatMap Fe:=by
 rw[Btp,Bst,Bs9 _ _ (by rw[Oq];omega),Oq,Btu,Btp,Bst];simp[h]
def Bm.orow{k:Cz}{M:Br}{X:List Rw}{w:TW}(h:Bm k M X w):w.ownsRow k.w0.heap.size 171 4 (.s M.oa M.os.length M.oc) M.os.length (M.os.reverse.flatMap Fe):=h.row ⟨_,_,_,_,_⟩ (Bsh _ (Bsd ..))
def Bm.hrow{k:Cz}{M:Br}{X:List Rw}{w:TW}(h:Bm k M X w):w.ownsRow k.w0.heap.size 118 3 (.s M.ta M.ts.length M.tc) M.ts.length (M.ts.flatMap If):=h.row ⟨_,_,_,_,_⟩ (Bsh _ (Bsh _ (Bsd ..)))
def Bm.xrow{k:Cz}{M:Br}{X:List Rw}{w:TW}(h:Bm k M X w):w.ownsRow k.w0.heap.size 3 1 (.s M.xa M.out.length M.xc) M.out.length (M.out.map (Value.int .i64)):=h.row ⟨_,_,_,_,_⟩ (Bsh _ (Bsh _ (Bsh _ (Bsd ..))))
def Bm.lrow{k:Cz}{M:Br}{X:List Rw}{w:TW}(h:Bm k M X w){x:Bz×Value×Value}{r:List (Bz×Value×Value)}(b:M.os=x::r):w.ownsRow k.w0.heap.size 240 2 x.2.1 x.1.lo.length (Bp x.1.lo):=h.row (Da x.2.1 x.1.lo) (by simp[Br.rows,b,J3])
def Bm.srow{k:Cz}{M:Br}{X:List Rw}{w:TW}(h:Bm k M X w){x:Bz×Value×Value}{r:List (Bz×Value×Value)}(b:M.os=x::r):w.ownsRow k.w0.heap.size 240 2 x.2.2 x.1.st.length (Bp x.1.st):=h.row (Da x.2.2 x.1.st) (by simp[Br.rows,b,J3])
theorem Bm.last{k:Cz}{M:Br}{X:List Rw}{w:World}(h:Bm k M X w){x:Bz×Value×Value}{r:List (Bz×Value×Value)}(c:M.os=x::r):∃g,M.oa=some ⟨g,0,none⟩/\g<w.heap.size/\(∀j u,(Fe x)[j]?=some u->w.cell? ⟨g,r.length*4+j,none⟩=some u)/\∀j,w.frozen? ⟨g,j,none⟩=false:=by
 have b:=h.orow;obtain⟨g,e,l,_,f⟩:=Cf b (by rw[c];simp);refine⟨g,e,l,fun j u i=>?_,fun j=>?_⟩
 ·have m:=(List.getElem?_eq_some_iff.1 i).1;rw[c]at f;rw[f _ (by
   rw[Kx Fe 4 (fun _=>rfl)];have:j<4:=m;simp;omega),Bcj,i]
 rw[e]at b;exact World.ownsRow.frozenAt b j
def Bm.fok{k:Cz}{M:Br}{X:List Rw}{w:TW}(h:Bm k M X w)(b:k.f.ok k.w0):k.f.ok w:=b.below h.low
def Bm.below{k:Cz}{M:Br}{X:List Rw}{w s:TW}(h:Bm k M X w)(b:Bl w s):Bm k M X s:=Own.below h b
def Tryz.infoVal:(prog.info? 240).map (fun i=>(i.zero,i.size,i.bytes))=some (some (.agg #[.i 0,.i 0]),2,16):=Lt
def Br.put(M:Br)(os:List (Bz × Value × Value)):Br:=⟨os,M.ts,M.made,M.read,M.out,M.steps,M.status,M.value,M.oa,M.oc,M.ta,M.tc,M.xa,M.xc⟩
def Bn8{k:Cz}{M:Br}{X:List Rw}{w w9:TW}{o:Bz}{lv sv sv':TX}{r:List (Bz×Value×Value)}{v:Int×Int}{u:Nat}(h:Bm k M X w)(f:M.os=(o,lv,sv)::r)(l:M.oa=some ⟨u,0,none⟩) (q:w9.ownsRow k.w0.heap.size 240 2 sv' (o.st.length+1) (Bp o.st++[.i v.1,.i v.2]))(t:w.grownBy w9 sv.ownBlock)(z:sv'.ownBlock=sv.ownBlock\/sv'.ownBlock=some w.heap.size):(w9.C k.B 7 (.s (.p u) (r.length+1) M.oc))/\(w9.C u (r.length*4+3) sv)/\w9.frozen? (.a u (r.length*4+3))=false/\Bm k (M.put ((⟨o.m,o.p,o.lo,o.st++[v]⟩,lv,sv')::r)) X (w9.setCell (.a u (r.length*4+3)) sv'):=by
 obtain⟨I,J,K,L,N,O,Q,V,Y,Z,ta,tc,xa,xc⟩:=M;simp only at f l;subst f l;have b:=Own.app (i:=5) h Ls q t z;have A:=Own.see (i:=0) (j:=7) b Ls Ls;have D:=Own.see (i:=1) (j:=r.length*4+3) b Ls (Bcj _ _ _);have F:=Own.free (i:=1) b Ls (r.length*4+3);have e:Bp (o.st++[v])=Bp o.st++[.i v.1,.i v.2]:=Uf _ _;have c:=Own.cellE (i:=1) b Ls (Tv (o,lv,sv) (⟨o.m,o.p,o.lo,o.st++[v]⟩,lv,sv') r 3 sv' rfl);rw[<- e]at c;have G:(o.st++[v]).length=o.st.length+1:=Hd;rw[<- G]at c;exact⟨A,D,F,c⟩
def RFl.stk{f:RFl}{w:TW}(b:f.ok w){k:Nat}(c:k<f.ms.length):∃g,f.a2=some ⟨g,0,none⟩/\g<w.heap.size/\w.C g (k*12+6) (.i f.ms[k].1.m.stack):=by
 obtain⟨m,g,e,h,j,l⟩:=RFl.mth b c;refine⟨g,e,h,?_⟩;rw[<- l.st];exact j 6 _ rfl
def Bq4{k:Cz}{M:Br}{X:List Rw}{w:TW}(z:k.f.ok k.w0){o:Bz}{lv sv:TX}{r:List (Bz×Value×Value)}(h:Bm k (M.put ((o,lv,sv)::r)) X w)(A:o.m<k.f.ms.length){u b:Nat}(c:M.oa=some ⟨u,0,none⟩)(l:k.f.a2=some ⟨b,0,none⟩):w.C k.B 7 (.s (.p u) (r.length+1) M.oc)/\w.C k.B 1 (.s (.p b) k.f.ms.length k.f.c2)/\w.C u (r.length*4) (.i (o.m:Int))/\w.C u (r.length*4+3) sv/\w.C b (o.m*12+6) (.i k.f.ms[o.m].1.m.stack):=by
 obtain⟨D,F,_,q,_⟩:=h.last rfl;obtain⟨G,I,_,J⟩:=RFl.stk (h.fok z) A;have e:D=u:=by
  have:=F.symm.trans (show (M.put ((o,lv,sv)::r)).oa=_ from c);simpa using this
 have K:G=b:=by
  have:=I.symm.trans l;simpa using this
 subst e K;have L:=h.cell (j:=7) Ls;have t:=h.cell (j:=1) Ls;rw[l]at t;have v:w.C k.B 7 (.s M.oa (r.length+1) M.oc):=L;rw[c]at v;exact⟨v,t,q 0 _ rfl,q 3 _ rfl,J⟩
theorem Ja(k:Cz)(M:Br)(X:List Rw)(o:Bz)(lv sv:Value)(r:List (Bz×Value×Value))(a b:Int)(w:World)(hf:k.f.ok k.w0)(h:Bm k M X w)(hM:M.os=(o,lv,sv)::r)(hm:o.m<k.f.ms.length)(hl:(o.st.length:Int)<k.f.ms[o.m].1.m.stack)(hr:r.length<=1000)(hs:o.st.length<=1000):Calls prog 147 #[.pointer (some ⟨k.B,0,none⟩),.agg #[.int .i64 a,.int .i64 b]] w fun e w'=>e=.returned (.tuple #[])/\∃sv',Bm k (M.put ((⟨o.m,o.p,o.lo,o.st++[(a,b)]⟩,lv,sv')::r)) X w':=by
 obtain⟨i0,hi,hz0,hz1,hz2⟩:=Bsa Tryz.infoVal;have h1:Bm k M X (w.alloc (O33 a b)):=h.below (QN _);have hC:=Be w (O33 a b);have v0:(w.alloc (O33 a b)).cell? ⟨w.heap.size,0,none⟩=some (.int .i64 a):=(Bb hC 0).trans rfl;have v1:(w.alloc (O33 a b)).cell? ⟨w.heap.size,1,none⟩=some (.int .i64 b):=(Bb hC 1).trans rfl;obtain⟨sa,sc,hsv⟩:∃a c,sv=.slice a o.st.length c:=Bh (h1.srow hM);subst hsv;obtain⟨g,hg,hglt,hgc,hgf⟩:=h1.last hM;have c7:(w.alloc (O33 a b)).cell? ⟨k.B,7,none⟩=some (.slice (some ⟨g,0,none⟩) (r.length+1) M.oc):=by
  rw[<- hg,show r.length+1=M.os.length by rw[hM];rfl];exact h1.cell Ls
 have g3:=hgc 3 _ rfl;have hBlt:=h1.ltB;have hrow:=h1.srow hM;have hsz:=h.low.size;have hbx:some w.heap.size≠(Value.slice sa o.st.length sc).ownBlock:=fun e=>by have:=((h.srow hM).lt _ e.symm).2;omega
 have HP:=Bc (fun (w' w9:World) sv' (hb:Below (w.alloc (O33 a b)).heap.size (w.alloc (O33 a b)) w') ho hk hat=>Bn8 (v:=(a,b)) (w9:=w9) (sv':=sv') (h1.below hb) hM hg ho hk hat);have hbg:some w.heap.size≠some g:=fun e=>by
  obtain⟨g',e1,e2,_⟩:=h.last hM;rw[hg]at e1;simp at e1 e;omega
 obtain⟨fg,hfg,hflt,hfc⟩:=RFl.stk (h1.fok hf) hm;have HS:=Bc (fun (w9:World) (sv':Value) (h9:Bm k (M.put ((⟨o.m,o.p,o.lo,o.st++[(a,b)]⟩,lv,sv')::r)) X w9)=>Bq4 hf h9 hm hg hfg);clear h hgc hgf hg;have hr0:IntKind.i64.wrap (((r.length+1:Nat):Int)-1)=(r.length:Int):=by rw[show ((r.length+1:Nat):Int)-1=(r.length:Int) by omega];exact Cx _ Ck Ck
 generalize hn:o.st.length=n at *;generalize r.length=rl at *;have ri:(rl:Int)<(rl:Int)+1:=Ck;have a7:=fun z=>(Bsu (w.alloc (O33 a b)) z ⟨k.B,7,none⟩ hBlt).trans c7;have a0:=fun z=>(Bsu (w.alloc (O33 a b)) z ⟨w.heap.size,0,none⟩ Hd).trans v0;have a1:=fun z=>(Bsu (w.alloc (O33 a b)) z ⟨w.heap.size,1,none⟩ Hd).trans v1;have a3:=fun z=>(Bsu (w.alloc (O33 a b)) z ⟨g,rl*4+3,none⟩ hglt).trans g3;go_in;go_wp2_with fail
 go_upto_region 2 with fail
 refine Br4 (S:=fun w'=>w'.cell? ⟨k.B,7,none⟩=some (.slice (some ⟨g,0,none⟩) (rl+1) M.oc)/\w'.cell? ⟨w.heap.size,0,none⟩=some (.int .i64 a)/\w'.cell? ⟨w.heap.size,1,none⟩=some (.int .i64 b)) Lt ⟨c7,v0,v1⟩ (fun hHeld=>?_);refine tq 0 (.pointer (some ⟨k.B,0,none⟩)) hHeld ?_;refine tq 1 (.pointer (some ⟨k.B,0,none⟩)) hHeld ?_;refine tq 2 (.pointer (some ⟨k.B,7,none⟩)) hHeld ?_;refine tq 3 (.slice (some ⟨g,0,none⟩) (rl+1) M.oc) hHeld ?_;refine tq 4 (.int .i64 (rl:Int)) hHeld ?_;refine tq 5 (.pointer (some ⟨k.B,0,none⟩)) hHeld ?_;refine tq 6 (.pointer (some ⟨k.B,0,none⟩)) hHeld ?_;refine tq 7 (.pointer (some ⟨k.B,7,none⟩)) hHeld ?_;refine tq 8 (.slice (some ⟨g,0,none⟩) (rl+1) M.oc) hHeld ?_;refine tq 9 (.int .i64 (rl:Int)) hHeld ?_;refine tq 10 (.pointer (some ⟨g,rl*4,none⟩)) hHeld ?_;refine tq 11 (.pointer (some ⟨g,rl*4+3,none⟩)) hHeld ?_;refine tq 13 (.agg #[.int .i64 a,.int .i64 b]) hHeld ?_;refine Brv (rs:=[12,14]) Lt Hd ?_;refine Bri (o:=⟨_,_,_,_,_,_⟩) rfl (fun K hK=>?_) (Bri (o:=⟨_,_,_,_,_,_⟩) rfl (fun K hK=>?_) Bro);go_simp;refine hK.out _ _ ⟨c7,v0,v1⟩ (fun hHeld=>?_);clear hK K
 try simp only[QX]
 refine tr 14 fun K hK=>?_;go_simp;refine hK.out _ _ ⟨a7 _,a0 _,a1 _⟩ (fun hHeld=>?_);clear hK K
 try simp only[QX]
 rotate_left
 go_simp;refine hK.out _ _ ⟨a7 _,a0 _,a1 _⟩ (fun hHeld=>?_);clear hK K
 try simp only[QX]
 refine tr 12 fun K hK=>?_;go_simp;refine hK.out _ _ ⟨a7 _,a0 _,a1 _⟩ (fun hHeld=>?_);clear hK K
 try simp only[QX]
 all_goals
  refine tr 15 fun K hK=>?_;refine Bak Ls _ _ _ Ls k.w0.heap.size 240 i0 _ 2 16 Bu5 hi hz0 hz1 hz2 rfl Ck _ _ _ Ls ((hrow.alloc _).drew) ⟨w.heap.size+1,0,none⟩ 1 1 [.int .i64 a,.int .i64 b] Ls Ls (Dh (w.alloc (O33 a b)) _ _ _ Hd) (by simp[Value.oneCell']) Pf Ck Fr ?_;intro v' w9 hown2 hgrow hat;obtain⟨va',vc',rfl⟩:=Bh hown2;obtain⟨e1,e2,e3,h9⟩:=Ba HP _ _ _ ((QN _).drew) hown2 hgrow hat;have e4:=hgrow.cell (a0 _) hbx;have e5:=hgrow.cell (a1 _) hbx;have s0:=(Ul w9 ⟨g,rl*4+3,none⟩ (.slice va' (n+1) vc')).cell e4 hbg;have s1:=(Ul w9 ⟨g,rl*4+3,none⟩ (.slice va' (n+1) vc')).cell e5 hbg;obtain⟨d7,d1,d0,d3,dm⟩:=Ba HS _ _ h9;have HA:=Bc h9;clear hgrow hown2 hat h9;refine hK.out _ _ ⟨e1,e4,e5⟩ (fun hHeld=>?_);clear hK K
  try simp only[QX]
  refine tq 16 (.pointer (some ⟨g,rl*4,none⟩)) hHeld ?_;refine tq 17 (.pointer (some ⟨g,rl*4+3,none⟩)) hHeld ?_;refine tr 18 fun K hK=>?_;go_simp;refine hK.out _ _ ⟨d7,s0,s1⟩ (fun hHeld=>?_);clear hK K
  try simp only[QX]
  refine Bsg Lt ?_ _;clear hHeld s0 s1 e1 e2 e3 e4 e5 a7 a0 a1 a3 c7 g3 v0 v1 hrow HP HS hC h1 hbx hbg;generalize w9.setCell ⟨g,rl*4+3,none⟩ (.slice va' (n+1) vc')=w8 at *;go_wp2;go_quiet (fail);go_wp2;go_end0;exact⟨rfl,_,(Ba HA).drewN _⟩
end Go.Proofs.YtpcgnjolfahacaaGreat
