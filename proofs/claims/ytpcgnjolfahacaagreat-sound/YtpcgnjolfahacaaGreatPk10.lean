/- the proof's parts -/
import Derived.Test.YtpcgnjolfahacaaGreatPk09
set_option maxRecDepth 100000
set_option maxHeartbeats 40000000
set_option linter.unusedVariables false
set_option linter.unusedSimpArgs false
set_option linter.defProp false
namespace Go.Proofs.YtpcgnjolfahacaaGreat
open Go.RowKit Go.Proofs.Tryz
variable{S:Bo}{u:Nat}{w:TW}{g:TypeId}
def Bgt(k:Cv)(S:Bo)(v:Dh)(j t:Int)(w:TW)(ok:k.Ok)(h:Bz k S v w):Calls prog 251 #[.q k.B 0,.i j,.i t] w fun e L=>e=.r (.i (k.E.nearest j t))/\Bl w L:=by
 have c1:=h.sees.c1;have c2:=h.sees.c2;have c3:=h.sees.c3;have hT:=h.rows.tree ok;have a3:=h.blk.lt;have b2:=ok.tl;have c0:=ok.ml;have b3:=Bc (h.rows.mths ok);have eE:k.E.nearest j t=Hl k.T j t (k.lms.map Prod.fst) 0 0 0:=rfl;rw[eE];generalize c:Hl k.T j t (k.lms.map Prod.fst) 0 0 0=r;have F:Hid (Hl k.T j t ((k.lms.map Prod.fst).drop 0) ((0:Nat):Int) 0 0=r):=c;generalize k.ma=MA at *;clear h c eE;go_in;go_wp2
 go_loopw [7,8,17] (fun fv hv iv wr=>∃(q:Nat) (f z:Int),q<=k.lms.length/\fv=.i f/\hv=.i z/\iv=.i (q:Int)/\Hid (Hl k.T j t ((k.lms.map Prod.fst).drop q) (q:Int) f z=r)/\Bl w wr)
  (fun _ _ i _=>k.lms.length-(intOf i).toNat)
 case atStart=>exact⟨0,0,0,Bd,rfl,rfl,rfl,F,Vm _ _⟩
 case round=>
  clear F;obtain⟨q,f,z,hq,rfl,rfl,rfl,F,G⟩:=hrel;have a5:=G.size;by_cases a6:q<k.lms.length
  ·have a7:=Ba b3;have a8:=a7.kp (Kp.of_below (e:=none) G) Ck Ck Ck Ck Ck;obtain⟨m,g,hg,c4,Et,hM⟩:=a8.mth a6;obtain⟨y0,y1,y2,y3,y4,y5,y6,y7,y8,y9⟩:=Ub Et;have a9:=hM.cl;have b0:=hM.nm;have hd:(k.lms.map Prod.fst).drop q=k.lms[q].1::(k.lms.map Prod.fst).drop (q+1):=by rw[Wr (by simpa using a6)];simp
   have c:=Ba F;rw[hd,Hl,<- a9,<- b0]at c;obtain⟨l,A,m3,m4,m5,m6,m7,m8,m9,ma,mb,mc,md,me,mf,mg,mh,mi⟩:=m;simp only at y0 y1 y2 y3 y4 y5 y6 y7 y8 y9 c;have d2:=(G.cell (p:=.a k.B 2) a3).trans c2;have d3:=(G.cell (p:=.a k.B 3) a3).trans c3;have a4:k.B<wr.heap.size:=Bvm a3 a5;have b1:=hT.below G;have a1:=fun w hT=>N1 (ya:=k.ya) (yn:=k.lf.length) (yc:=k.yc) k.T k.tg k.tc j l w b2 hT;have qb:(q:Int)<(k.lms.length:Int):=Bd;have N:Bl wr (wr.alloc (O18 l A m3 m4 m5 m6 m7 m8 m9 ma mb mc md me mf mg mh mi)):=QN _;have CH:=Bf wr (O18 l A m3 m4 m5 m6 m7 m8 m9 ma mb mc md me mf mg mh mi);have lH:=Pk CH;have I:=(Bb CH 0).trans (show _=some (.i l) from rfl);have O:=(Bb CH 1).trans (show _=some (.i A) from rfl);have Q:=(N.cell (p:=.a k.B 2) a4).trans d2;have V:=(N.cell (p:=.a k.B 3) a4).trans d3;have b4:=b1.below N;have lB:k.B<(wr.alloc (O18 l A m3 m4 m5 m6 m7 m8 m9 ma mb mc md me mf mg mh mi)).heap.size:=Bvm a4 N.size;have a2:Hid (Bl w (wr.alloc (O18 l A m3 m4 m5 m6 m7 m8 m9 ma mb mc md me mf mg mh mi))):=G.trans (N.mono a5);subst hg;generalize b5:Tr.within k.T j l=WI at *;clear Et hd F a7 a8 hM b5 a9 b0 N d2 d3 b1;obtain⟨a,b6⟩:∃a,(A==t)=a:=⟨_,rfl⟩;obtain⟨Y,b7⟩:∃Y,decide (z<=l)=Y:=⟨_,rfl⟩;rw[b6,b7]at c;have D:=Bc (fun (_:Unit)=>c);clear c;go_wp2;generalize (wr.alloc (O18 l A m3 m4 m5 m6 m7 m8 m9 ma mb mc md me mf mg mh mi))=wA at *;refine Bvz (S:=(fun L=>L.C wr.heap.size 0 (.i l)/\L.C wr.heap.size 1 (.i A)/\L.C k.B 2 (.s (.p k.tg) k.T.length k.tc)/\L.C k.B 3 (.s k.ya k.lf.length k.yc))) Le ⟨I,O,Q,V⟩ (fun b=>?_);refine tq 0 (.q wr.heap.size 1) b ?_;refine tq 1 (.i A) b ?_;refine tq 2 (.i t) b ?_;refine tq 3 (.bool a) b ?_;refine tq 4 (.bool a) b ?_;have c:=Ba D ();clear D;cases a with
   | false =>
    rw[Bx0,Pf Fr]at c;have J:Hid (Hl k.T j t ((k.lms.map Prod.fst).drop (q+1)) ((q+1:Nat):Int) f z=r):=c;clear c a1;refine tn 5 undef b ?_;refine tn 6 undef b ?_;refine tn 7 undef b ?_;refine tn 8 undef b ?_;refine tq 9 (.bool false) b ?_;refine tq 10 (.bool false) b ?_;refine tn 11 undef b ?_;refine tn 12 undef b ?_;refine tn 13 undef b ?_;refine tn 14 undef b ?_;refine tn 15 undef b ?_;refine tn 16 undef b ?_;refine tn 17 undef b ?_;refine tn 18 undef b ?_;refine tq 19 (.bool false) b ?_;refine Bv9 Le ?_ _;have Z:=(Ba a2).drew;clear b I O Q V;go_wp2;go_roundw
    case rel=>exact⟨q+1,f,z,Bd,rfl,rfl,Lt,J,Z⟩
    case measure=>simp[intOf];omega
   | true =>
    rw[Bxn]at c;have D:=Bc (fun (_:Unit)=>c);clear c;refine tq 5 (.q wr.heap.size 0) b ?_;refine tq 6 (.i l) b ?_;refine tq 7 (.i z) b ?_;refine tq 8 (.bool Y) b ?_;refine tq 9 (.bool Y) b ?_;refine tq 10 (.bool Y) b ?_;have c:=Ba D ();clear D;cases Y with
    | false =>
     rw[Bx0,Pf Fr]at c;have J:Hid (Hl k.T j t ((k.lms.map Prod.fst).drop (q+1)) ((q+1:Nat):Int) f z=r):=c;clear c a1;refine tn 11 undef b ?_;refine tn 12 undef b ?_;refine tn 13 undef b ?_;refine tn 14 undef b ?_;refine tn 15 undef b ?_;refine tn 16 undef b ?_;refine tn 17 undef b ?_;refine tn 18 undef b ?_;refine tq 19 (.bool false) b ?_;refine Bv9 Le ?_ _;have Z:=(Ba a2).drew;clear b I O Q V;go_wp2;go_roundw
     case rel=>exact⟨q+1,f,z,Bd,rfl,rfl,Lt,J,Z⟩
     case measure=>simp[intOf];omega
    | true =>
     rw[Bxn]at c;have D:=Bc (fun (_:Unit)=>c);clear c;refine tq 11 (.q k.B 0) b ?_;refine tq 12 (.q k.B 0) b ?_;refine tq 13 (.q k.B 2) b ?_;refine tq 14 (.agg #[.s (.p k.tg) k.T.length k.tc,.s k.ya k.lf.length k.yc]) b ?_;refine tq 15 (.i j) b ?_;refine tq 16 (.q wr.heap.size 0) b ?_;refine tq 17 (.i l) b ?_;refine tr 18 fun K hK=>?_;go_simp;refine Qm (a1 wA.drew (show Dl wA.drew k.tg k.T from b4)) ?_;intro w7 a0
     try dsimp only
     clear b;refine hK.out _ _ ⟨QC a0 lH I,QC a0 lH O,QC a0 lB Q,QC a0 lB V⟩ (fun b=>?_);clear hK K
     try simp only[QX]
     refine tq 19 (.bool WI) b ?_;refine Bv9 Le ?_ _;have c:=Ba D ();clear D;have Z:=(Ba a2).drew.trans (a0.mono (Ba a2).size);cases WI with
     | true =>
      rw[Sp rfl]at c;have J:Hid (Hl k.T j t ((k.lms.map Prod.fst).drop (q+1)) ((q+1:Nat):Int) (q:Int) l=r):=c;have c5:=QC a0 lH I;clear b I O Q V a1 c;go_wp2;go_roundw
      case rel=>exact⟨q+1,(q:Int),l,Bd,rfl,rfl,Lt,J,Z⟩
      case measure=>simp[intOf];omega
     | false =>
      rw[Pf Fr]at c;have J:Hid (Hl k.T j t ((k.lms.map Prod.fst).drop (q+1)) ((q+1:Nat):Int) f z=r):=c;clear c a1;clear b I O Q V;go_wp2;go_roundw
      case rel=>exact⟨q+1,f,z,Bd,rfl,rfl,Lt,J,Z⟩
      case measure=>simp[intOf];omega
  have b8:q=k.lms.length:=Bd;subst b8;have c:=Ba F;rw[List.drop_of_length_le Fr]at c;have b9:f=r:=c;clear c F;subst b9;go_wp2;go_ret;exact⟨rfl,G⟩
structure Ds.Small(E:Ds):Prop where
 cd:∀n,∀x∈(E.meth n).code,0<=x/\x<=255
 cl:∀n,(E.meth n).code.length<=1000
 hn:∀n,∀h∈(E.meth n).handlers,0<=h.target/\h.target<=1000
 rm:E.room<=30
 dp:E.depth<=12
structure Fl(E:Ds)(S:Bo):Prop where
 ob:S.objs.length<=35
 wt:S.wait.length<=12
 rd:S.read<=E.ins.length
 nx:S.now.next<=2000
 nw:∀c∈S.wait,c.next<=2000
def Fl.now{E:Ds}(h:Fl E S){c:Bh}(b:c.next<=2000):Fl E (S.withNow c):=⟨h.ob,h.wt,h.rd,b,h.nw⟩
def Gk(v:Int)(c:Bh):(En v c).next=c.next:=by unfold En;split<;>rfl
def Lb(c:Bh):(Bw c).2.next=c.next:=by unfold Bw;split<;>rfl
def Bao(n v:Int)(c:Bh):(Ff n v c).next=c.next:=by
 unfold Ff
 split<;>first|rfl|(split<;>rfl)
def Bd3:∀(k:Nat) (c:Bh),(D6 k c).2.next=c.next
 | 0,_=>rfl
 | k+1,c=>(Bd3 k _).trans (Lb c)
def Bev:∀(l:TI) (i:Nat) (c:Bh),(La i l c).next=c.next
 | [],_,_=>rfl
 | _::r,i,_=>(Bev r (i+1) _).trans (Bao _ _ _)
def V0(m:Int)(b:TI):(Cn m b).next=0:=Bev b 0 _
def Fl.push{E:Ds}(h:Fl E S)(v:Int):Fl E (S.push v):=h.now (by rw[Gk];exact h.nx)
def Fl.popped{E:Ds}(h:Fl E S):Fl E S.popped:=h.now (by rw[Lb];exact h.nx)
def Fl.pops{E:Ds}(h:Fl E S)(k:Nat):Fl E (Gj k S):=h.now (by rw[Bd3];exact h.nx)
def Fl.fin{E:Ds}(h:Fl E S)(a b:Int):Fl E (S.fin a b):=⟨h.ob,h.wt,h.rd,h.nx,h.nw⟩
def Fl.objs{E:Ds}(h:Fl E S){A:List (Int×List Int)}(b:A.length<=35):Fl E (S.withObjs A):=⟨b,h.wt,h.rd,h.nx,h.nw⟩
def Bdu{z:TI}{c:Int}:∀{l:List Rd.Hnd},(∀h∈l,0<=h.target/\h.target<=1000)->∀{t:Nat},Hy z c u l=some t->t<=1000
 | [],_,_,h=>by simp[Hy]at h
 | x::r,hl,t,h=>by
  unfold Hy at h
  split at h
  ·have:=hl x Fr;simp only[Option.some.injEq]at h;omega
  exact Bdu (fun y b=>hl y (by simp[b])) h
def Bdr{E:Ds}(h:Fl E S){c:Bh}(b:S.wait.getLast?=some c):c.next<=2000/\S.wait.dropLast.length<=12/\∀x∈S.wait.dropLast,x.next<=2000:=by
 refine⟨h.nw c (List.mem_of_getLast? b),?_,fun x e=>h.nw x (List.dropLast_subset _ e)⟩;have:=h.wt;rw[List.length_dropLast];omega
def Zt{E:Ds}(f:E.Small)(o e:Int):∀(k:Nat) {S:Bo},Fl E S->Fl E (Jx E o e k S)
 | 0,_,h=>h
 | k+1,S,h=>by
  unfold Jx;cases g:E.target e S.now with
  | some t=>exact h.now (by have:=Bdu (f.hn _) (show Hy E.T e S.now.pos (E.meth S.now.meth).handlers=some t from g);show t<=2000;omega)
  | none =>
   cases i:S.wait.getLast? with
   | none=>exact h.fin _ _
   | some c =>
    obtain⟨a,b,d⟩:=Bdr h i;exact Zt f o e k ⟨h.ob,b,h.rd,a,d⟩
def Pe{E:Ds}(b:E.Small)(c:Int)(h:Fl E S):Fl E (Fw E c S):=Zt b _ _ _ h
def Baq{E:Ds}(e:E.Small)(m:Int)(f:TI)(h:Fl E S):Fl E (Hz E m f S):=by
 unfold Hz
 split
 ·exact Pe e _ h
 rename_i g;have:=e.dp;refine⟨h.ob,by show (S.wait++[S.now]).length<=12;simp;omega,h.rd,by show (Cn m f).next<=2000;rw[V0];omega,fun c b=>?_⟩
 rcases List.mem_append.1 b with b|b
 ·exact h.nw c b
 rw[List.mem_singleton.1 b];exact h.nx
def Be2{E:Ds}(r:Int×Int)(v:Int)(h:Fl E S):Fl E (Lq r v S):=by
 unfold Lq;cases e:S.wait.getLast? with
 | none=>exact h.fin _ _
 | some c =>
  obtain⟨a,b,d⟩:=Bdr h e;refine⟨h.ob,b,h.rd,?_,d⟩;show (if r.1=0 then c else En v c).next<=2000
  split
  ·exact a
  rw[Gk];exact a
def Bnb(op n:Int)(c:Bh):(J9 op n c).next=c.next:=by
 unfold J9;by_cases b:op=0;·rw[Sp b,Gk]
 rw[Pf b];by_cases e:op=1;·rw[Sp e,Gk]
 rw[Pf e];by_cases f:op=2;·rw[Sp f,Gk]
 rw[Pf f];by_cases g:op=3;·rw[Sp g,Bao,Lb]
 rw[Pf g];by_cases h:op=4;·rw[Sp h,Lb]
 rw[Pf h];by_cases i:op=5;·rw[Sp i,Gk,Gk,Lb]
 rw[Pf i];by_cases j:op=6;·rw[Sp j,Gk,Gk,Lb,Lb]
 rw[Pf j]
def Bix(op n:Int)(i:n<=255)(c:Bh)(b:c.next<=2000):(Hm op n c).next<=2000:=by
 have g:∀d:Bh,(Lu n.toNat d).next<=2000:=fun d=>by show n.toNat<=2000;omega
 unfold Hm;by_cases e:op=12
 ·rw[Sp e]
  split
  ·exact g _
  rw[Lb];exact b
 rw[Pf e];by_cases f:op=13
 ·rw[Sp f]
  split
  ·exact g _
  rw[Lb,Lb];exact b
 rw[Pf f];by_cases h:op=14
 ·rw[Sp h]
  split
  ·exact g _
  rw[Lb];exact b
 rw[Pf h];exact g _
def Bpp(r:Int)(b:TI)(l:List (Int×List Int)):(Tq r b l).length=l.length:=by unfold Tq;split<;>simp
def Bpz(r s v:Int)(l:List (Int×List Int)):(Tt r s v l).length=l.length:=by unfold Tt;split<;>simp
def Buu{E:Ds}(b:E.Small)(op n:Int)(B:n<=255)(h:Fl E S):Fl E (Ci E op n S):=by
 unfold Ci;by_cases c:op<=6;·rw[Sp c];exact h.now (by rw[Bnb];exact h.nx)
 rw[Pf c];by_cases e:op<=10
 ·rw[Sp e];unfold Nx;cases Iu op S.popped.top S.top with
  | none=>exact Pe b _ h.popped.popped
  | some z=>exact h.popped.popped.push z
 rw[Pf e];by_cases f:op<=14;·rw[Sp f];exact h.now (Bix op n B _ h.nx)
 rw[Pf f];by_cases g:op=15
 ·rw[Sp g];unfold Ny
  split
  ·exact Pe b _ h
  rename_i C;have:=b.rm;exact(h.objs Fm).push _
 rw[Pf g];by_cases i:op=16;·rw[Sp i];exact(h.pops _).popped.objs (by rw[Bpp];exact h.ob)
 rw[Pf i];by_cases j:op=17
 ·rw[Sp j];unfold Lp
  split
  ·exact Pe b _ h.popped
  exact h.popped.push _
 rw[Pf j];by_cases l:op=18
 ·rw[Sp l];unfold Lo
  split
  ·exact Pe b _ h.popped.popped
  exact h.popped.popped.objs (by rw[Bpz];exact h.ob)
 rw[Pf l];by_cases m:op=19
 ·rw[Sp m];unfold Sk
  split
  ·exact h.popped.push _
  split
  ·exact h.popped.push _
  exact Pe b _ h.popped
 rw[Pf m];by_cases p:op=20;·rw[Sp p];exact Baq b _ _ (h.pops _)
 rw[Pf p];by_cases q:op=21
 ·rw[Sp q];unfold Sj Pm
  split
  ·exact Pe b _ (h.pops _).popped
  exact Baq b _ _ (h.pops _).popped
 rw[Pf q];by_cases s:op=22
 ·rw[Sp s];unfold Ki
  split
  ·exact Be2 _ _ h
  exact Be2 _ _ h.popped
 rw[Pf s];by_cases t:op=23
 ·rw[Sp t];unfold Jw
  split
  ·exact Pe b _ h.popped
  exact Zt b _ _ _ h.popped
 rw[Pf t];by_cases v:op=24
 ·rw[Sp v];unfold Ta
  split
  ·rename_i C;exact Fl.push (S:=⟨S.read+1,S.objs,S.now,S.wait,S.ended,S.out,S.status,S.value,S.steps⟩) ⟨h.ob,h.wt,by show S.read+1<=_;omega,h.nx,h.nw⟩ _
  exact h.push _
 rw[Pf v];by_cases A:op=25;·rw[Sp A];exact⟨h.ob,h.wt,h.rd,by show (Bw S.now).2.next<=2000;rw[Lb];exact h.nx,h.nw⟩
 rw[Pf A];exact h
def Bgn{E:Ds}(e:E.Small)(c:Bh):0<=(Fy E c).op/\(Fy E c).op<=25/\0<=(Fy E c).n/\(Fy E c).n<=255/\0<=(Fy E c).place/\(Fy E c).place<=1000:=by
 unfold Fy Cd.one
 split
 ·rename_i f;obtain⟨i,g,j⟩:=f;have b:∀q,0<=(E.meth c.meth).code.getD q 0/\(E.meth c.meth).code.getD q 0<=255:=fun q=>by
   rw[Th];cases h:(E.meth c.meth).code[q]? with
   | none=>simp
   | some x=>exact e.cd _ x (Bwv h)
  have l:=e.cl c.meth;refine⟨(b _).1,g,?_,?_,by show (0:Int)<=(c.next:Int);omega,by show (c.next:Int)<=1000;omega⟩
  ·show 0<=(if Cd.wd ((E.meth c.meth).code.getD c.next 0)=2 then (E.meth c.meth).code.getD (c.next+1) 0 else 0)
   split
   ·exact(b _).1
   exact Byo _
  show (if Cd.wd ((E.meth c.meth).code.getD c.next 0)=2 then (E.meth c.meth).code.getD (c.next+1) 0 else 0)<=255
  split
  ·exact(b _).2
  omega
 exact⟨by simp[Cd.orZero],by simp[Cd.orZero],by simp[Cd.orZero],by simp[Cd.orZero],by simp[Cd.orZero],by simp[Cd.orZero]⟩
def Brb{E:Ds}(c:E.Small)(h:Fl E S):Fl E (Oc E S):=by
 obtain⟨_,_,_,_,a,b⟩:=Bgn c S.now;have e:=Cd.wd_bd (Fy E S.now).op;exact⟨h.ob,h.wt,h.rd,by show (Fy E S.now).place.toNat+Cd.wd (Fy E S.now).op<=2000;omega,h.nw⟩
def Bi7{E:Ds}(b:E.Small)(h:Fl E S):Fl E (Hh E S):=Buu b _ _ (Bgn b S.now).2.2.2.1 (Brb b h)
def Bf2(E:Ds)(e:Int):Fl E (Gv e):=⟨by simp[Gv],by simp[Gv],by simp[Gv],by show (Cn e []).next<=2000;rw[V0];omega,fun c b=>by simp[Gv]at b⟩
def Bm9(k:Cv)(S:Bo)(v:Dh)(n:Int)(w:TW)(b:k.Ok)(h:Bz k S v w)(hw:S.wait.length<=1000):Calls prog 193 #[.q k.B 0,.i n] w fun e c=>e=.r (.tuple #[])/\∃v',Bz k (Sj k.E n S) v' c:=by
 have hm:=Re k S v n w b h;have d9:=b.pm n;unfold Sj;generalize k.E.meth n=M at *;have a8:(I8 M.params.length S).length=M.params.length:=Vz _ _;have b5:Hid (∀w la lc,Bz k S v w->Calls prog 248 #[.q k.B 12,.s la M.params.length lc] w fun e c=>e=.r (.s (.p w.heap.size) M.params.length M.params.length)/\Tv k S v c w.heap.size M.params.length (I8 M.params.length S)/\Bz k (Gj M.params.length S) v c/\Gr k.B w c):=fun w la lc h=>Ae k S v la M.params.length lc w b h Bd;have eW:(Gj M.params.length S).popped.wait=S.wait:=rfl;generalize I8 M.params.length S=l at *;generalize Gj M.params.length S=S1 at *;have HP:Hid (∀w,Bz k S1 v w->Calls prog 240 #[.q k.B 12] w fun e c=>e=.r (.i S1.top)/\Bz k S1.popped v c/\Gr k.B w c):=fun w h =>
  (Jp S1.now k.B 12 156 _ _ w rfl h.wf h.blk).mono fun e c ⟨he,t,hg⟩=>⟨he,h.now b hg (Fu h.wf) t,hg⟩
 generalize S1.top=x at *;generalize S1.popped=S2 at *;have hT:=fun w h=>Il k S2 v 3 w b h Bd Bd;have hC:=fun w h=>V5 k S2 v x w h;have hN:=fun w h=>Bgt k S2 v (Id x S2.objs) M.name w b h;have hO:=fun m xa xc w h hx=>Bee k S2 v m xa xc (x::l) w b h hx Fm (by rw[eW];exact hw);obtain⟨i0,hi,c9,d0,d1⟩:=Bv4 Tryz.infoInt;unfold Pm;generalize Id x S2.objs=cl at *;generalize k.E.nearest cl M.name=nr at *;have HT:=Bc hT;have HC:=Bc hC;have HN:=Bc hN;have HO:=Bc hO;have HA:=Bc h;have HM:=Bc hm;have f0:=h.blk.lt;clear h hm hT hC hN hO eW;by_cases a2:x=0
 ·rw[Sp a2];subst a2;go_in;go_wp2_with fail;refine(Ba HM).mono ?_;rintro e A ⟨m,rfl,t,a3⟩;have G:=(Ba HA).gr b a3;have a4:=t.pl;have a5:=t.nm;obtain⟨I,m2,f,m4,g,J,K,L,N,O,Q,V,Y,Z,mf,mg,mh,mi⟩:=m;simp only at a4 a5;subst a4 a5;simp only[PM.val];have h2:=G.gr b (QN (O18 I M.name f M.params.length g J K L N O Q V Y Z mf mg mh mi));have D:=Bf A (O18 I M.name f M.params.length g J K L N O Q V Y Z mf mg mh mi);have a6:A.heap.size≠k.B:=by have:=G.blk.lt;omega
  have q2:=(Bb D 2).trans (show _=some (.s f M.params.length g) from rfl);have H2:=Bc h2;clear HM t a3 G h2 HA;go_wp2;generalize A.alloc (O18 I M.name f M.params.length g J K L N O Q V Y Z mf mg mh mi)=F at *
  go_region_held3 (fun c=>c.C A.heap.size 2 (.s f M.params.length g))
   (first|exact q2|exact(Bb (a7.own (show F.drew.heap[_]?=_ from D) a6) 2).trans rfl)
   (first|(go_at_call 248;refine(Ba b5 _ _ _ ((Ba H2).drew b)).mono ?_;rintro e w7 ⟨rfl,b6,a9,a7⟩))
  clear q2 D;go_wp2_with fail;refine Qm (Ba HP _ a9) ?_;rintro w8 ⟨h8,b0⟩;go_wp2_with fail;refine Qm (Ba HT _ h8) ?_;rintro w9 ⟨v',h9⟩;go_wp2;refine tb (.tuple #[]) (by simp[results,results193,go_sem]) ?_;exact⟨rfl,v',h9⟩
 rw[Pf a2];have f1:(x==0)=false:=by simp[a2]
 clear a2 HT;go_in;go_wp2_with fail;refine(Ba HM).mono ?_;rintro e A ⟨m,rfl,t,a3⟩;have G:=(Ba HA).gr b a3;have a4:=t.pl;have a5:=t.nm;obtain⟨I,m2,f,m4,g,J,K,L,N,O,Q,V,Y,Z,mf,mg,mh,mi⟩:=m;simp only at a4 a5;subst a4 a5;simp only[PM.val];have h2:=G.gr b (QN (O18 I M.name f M.params.length g J K L N O Q V Y Z mf mg mh mi));have D:=Bf A (O18 I M.name f M.params.length g J K L N O Q V Y Z mf mg mh mi);have a6:A.heap.size≠k.B:=by have:=G.blk.lt;omega
 have q2:=(Bb D 2).trans (show _=some (.s f M.params.length g) from rfl);have H2:=Bc h2;clear HM t a3 G h2 HA;go_wp2;generalize A.alloc (O18 I M.name f M.params.length g J K L N O Q V Y Z mf mg mh mi)=F at *
 go_region_held3 (fun c=>c.C A.heap.size 2 (.s f M.params.length g))
  (first|exact q2|exact(Bb (a7.own (show F.drew.heap[_]?=_ from D) a6) 2).trans rfl)
  (first|(go_at_call 248;refine(Ba b5 _ _ _ ((Ba H2).drew b)).mono ?_;rintro e w7 ⟨rfl,b6,a9,a7⟩))
 have b7:=a7.own (show F.drew.heap[_]?=_ from D) a6;clear q2 D;go_wp2_with fail;refine Qm (Ba HP _ a9) ?_;rintro w8 ⟨h8,b0⟩;have b8:=b0.own b7 a6;have q1:=(Bb b8 1).trans (show _=some (.i M.name) from rfl);have d2:=b6.gr b0;go_wp2_with fail;refine Qm (Ba HC _ h8) ?_;rintro w9 rfl;go_wp2_with fail;refine Qm (Ba HN _ h8) ?_;intro a0 b1;have b2:=h8.gr b b1;have b9:Du a0 k.w0.heap.size (.s (.p F.heap.size) M.params.length M.params.length) l:=Cx d2.ints (Kp.of_below (e:=none) b1) Ck;have d3:=b2.rows.szs;have d4:=World.ownsRow_lit (base:=k.w0.heap.size) (e:=3) (size:=1) a0 #[.i x] 1 d3 Mc rfl;have c1:Du (a0.alloc (O4 x)) k.w0.heap.size (.s (.p F.heap.size) M.params.length M.params.length) l:=Cx b9 (Kp.alloc (e:=none) a0 _) Ck;have d5:∀j u,(l.map (Value.int .i64))[j]?=some u->(a0.alloc (O4 x)).cell? ((⟨F.heap.size,0,none⟩:Addr).add j)=some u:=fun j u hu=>by
  obtain⟨_,⟨hv,_⟩|⟨g',f2,f3,hv,_,hg,_,_,_,d6⟩⟩:=c1
  ·simp at hv
  simp only[Value.slice.injEq,Option.some.injEq,Addr.mk.injEq,Bwb]at hv;obtain⟨rfl,_,_⟩:=hv;rw[Addr.add_mid,Bvp,Bb hg,<- hu,<- d6,Bww,Sp (by have:=(List.getElem?_eq_some_iff.1 hu).1;simp at this ⊢;exact this)];simp
 clear b7 b8 b1 h8 b9 c1;go_wp2_with (at_builtin;refine Bxg _ rfl _ _ 26 rfl k.w0.heap.size 3 i0 _ 1 8 Bxs hi c9 d0 d1 rfl Ck _ _ _ rfl d4 ⟨F.heap.size,0,none⟩ M.params.length M.params.length (l.map (Value.int .i64)) rfl ?c0 d5 ?c2 ?c3 ?c4 ?c5 ?_)
 case c0=>simp[a8]
 case c2=>intro u hu;simp at hu;obtain⟨z,_,rfl⟩:=hu;rfl
 case c3=>unfold maxLen;omega
 case c4=>omega
 case c5=>simp;omega
 intro v' b3 b4 a1 _ d7;obtain⟨xa,xc,rfl⟩:=Bg b4;have c6:Bl a0 b3:=⟨a1.os,a1.tape,a1.output,Bvv Fr a1.size,fun j hj=>(a1.block j Fm (by simp[Value.ownBlock];omega)).trans (Bvu _ _ _ hj)⟩;have c7:=b2.gr b c6;have c8:Du b3 k.w0.heap.size (.s xa (x::l).length xc) (x::l):=by
  have e:(x::l).length=1+M.params.length:=by simp[a8];omega
  rw[e];unfold Du;rw[e];simpa using b4
 have hO:=Ba HO nr xa xc b3 c7 c8;have e:(x::l).length=1+M.params.length:=by simp[a8];omega
 rw[e]at hO;clear b4 a1 d7 c6 c7 c8 e b2;go_wp2_with fail;refine Qm hO ?_;rintro f4 ⟨v',d8⟩;go_wp2;go_end0;exact⟨rfl,v',d8⟩
def Rg(k:Cv)(S:Bo)(v:Dh)(p op n:Int)(w:TW)(b:k.Ok)(h:Bz k S v w)(l:15<=op/\op<=19)(g:0<=n/\n<=255)(j:S.objs.length<=1000):Calls prog 191 #[.q k.B 0,.agg #[.i p,.i op,.i n]] w fun e m=>e=.r (.tuple #[])/\∃f,Bz k (Ci k.E op n S) f m:=by
 rcases(show op=15\/op=16\/op=17\/op=18\/op=19 by omega) with rfl|rfl|rfl|rfl|rfl
 have c:=Big k S v n _ b (h.gr b (QN (O15 p 15 n))) j;rw[show Ci k.E 15 n S=Ny k.E n S from rfl]
 rotate_left
 have c:=Bc7 k S v n _ b (h.gr b (QN (O15 p 16 n)));rw[show Ci k.E 16 n S=Nk k.E n S from rfl]
 rotate_left
 have c:=Bfl k S v n _ b (h.gr b (QN (O15 p 17 n))) ⟨g.1,Bd⟩;rw[show Ci k.E 17 n S=Lp k.E n S from rfl]
 rotate_left
 have c:=Bfg k S v n _ b (h.gr b (QN (O15 p 18 n))) ⟨g.1,Bd⟩;rw[show Ci k.E 18 n S=Lo k.E n S from rfl]
 rotate_left
 have c:=Bnj k S v n _ b (h.gr b (QN (O15 p 19 n)));rw[show Ci k.E 19 n S=Sk k.E n S from rfl]
 rotate_left
 all_goals
  clear h l j;go_in;go_wp2_with fail;refine Qm c ?_;rintro t ⟨f,s⟩;go_wp2;go_end0;exact⟨rfl,f,s⟩
def Bnn(k:Cv)(S:Bo)(v:Dh)(p op n:Int)(w:TW)(f:k.Ok)(h:Bz k S v w)(g:0<=op/\op<=6)(j:0<=n/\n<=255):Calls prog 188 #[.q k.B 12,.agg #[.i p,.i op,.i n]] w fun e b=>e=.r (.tuple #[])/\Bz k (S.withNow (J9 op n S.now)) v b/\Gr k.B w b :=
 (Bne S.now p op n k.B 12 156 _ _ w rfl h.wf h.blk g j).mono fun _ _ ⟨l,m,c⟩=>⟨l,h.now f c (Bsi h.wf op n) m,c⟩
def Bin(k:Cv)(S:Bo)(v:Dh)(p op n:Int)(w:TW)(f:k.Ok)(h:Bz k S v w)(g:11<=op/\op<=14)(j:0<=n):Calls prog 190 #[.q k.B 12,.agg #[.i p,.i op,.i n]] w fun e b=>e=.r (.tuple #[])/\Bz k (S.withNow (Hm op n S.now)) v b/\Gr k.B w b :=
 (Bih S.now p op n k.B 12 156 _ _ w rfl h.wf h.blk g j).mono fun _ _ ⟨l,m,c⟩=>⟨l,h.now f c (Boo h.wf op n) m,c⟩
def Brg{E:Ds}{op n:Int}(h:op<=6):Ci E op n S=S.withNow (J9 op n S.now):=by unfold Ci;rw[Sp h]
def Blp{E:Ds}{op n:Int}(h:7<=op/\op<=10):Ci E op n S=Nx E op S:=by unfold Ci;rw[Pf Bd,Sp h.2]
def Blq{E:Ds}{op n:Int}(h:11<=op/\op<=14):Ci E op n S=S.withNow (Hm op n S.now):=by unfold Ci;rw[Pf Bd,Pf Bd,Sp h.2]
structure Bc1(S:Bo):Prop where
 ob:S.objs.length<=1000
 wt:S.wait.length<=1000
 rd:S.read<=100000
 ou:S.out.length<=100000
def Bqh(k:Cv)(S:Bo)(v:Dh)(p op n:Int)(w:TW)(l:k.Ok)(h:Bz k S v w)(m:0<=op/\op<=14)(J:0<=n/\n<=255):Calls prog 133 #[.q k.B 0,.agg #[.i p,.i op,.i n]] w fun e b=>e=.r (.tuple #[])/\∃D,Bz k (Ci k.E op n S) D b:=by
 have K:=h.gr l (QN (O15 p op n));have c:=Bf w (O15 p op n);have L:=(Bb c 0).trans (show _=some (.i p) from rfl);have N:=(Bb c 1).trans (show _=some (.i op) from rfl);have O:=(Bb c 2).trans (show _=some (.i n) from rfl);have s:w.heap.size≠k.B:=by have:=h.blk.lt;omega
 have F:=Bc K;clear h K;by_cases t:op<=6
 ·rw[Brg t];have f:=fun w h=>Bnn k S v p op n w l h ⟨m.1,t⟩ J;have z:=Bc f;clear f;have G:(op==0)=true\/(op==0)=false/\((op==1)=true\/(op==1)=false/\((op==2)=true\/(op==2)=false/\((op==3)=true\/(op==3)=false/\((op==4)=true\/(op==4)=false/\((op==5)=true\/(op==5)=false/\((op==6)=true)))))):=Fm;clear t m;rcases G with Q|⟨Q,V|⟨V,Y|⟨Y,Z|⟨Z,b4|⟨b4,b5|⟨b5,b6⟩⟩⟩⟩⟩⟩
  all_goals
   go_in;go_wp2;generalize w.alloc (O15 p op n)=g at *
   go_region_held3 (fun b=>b.C w.heap.size 0 (.i p)/\b.C w.heap.size 1 (.i op)/\b.C w.heap.size 2 (.i n))
    (first|exact⟨L,N,O⟩|exact⟨(Bb (j.own (show g.drew.heap[_]?=_ from c) s) 0).trans rfl,(Bb (j.own (show g.drew.heap[_]?=_ from c) s) 1).trans rfl,(Bb (j.own (show g.drew.heap[_]?=_ from c) s) 2).trans rfl⟩)
    (first|(go_at_call 188;refine(Ba z _ ((Ba F).drew l)).mono ?_;rintro e w7 ⟨rfl,A,j⟩))
   go_wp2;go_end0;exact⟨rfl,v,A⟩
 by_cases I:op<=10
 ·rw[Blp ⟨Bd,I⟩];have f:=fun w h=>Bic k S v op w l h;have z:=Bc f;clear f;have a0:op=7\/op=8\/op=9\/op=10:=Bd;clear t m I;rcases a0 with rfl|rfl|rfl|rfl
  all_goals
   go_in;go_wp2_with fail;refine Qm (Ba z _ (Ba F)) ?_;rintro w7 ⟨D,A⟩;go_wp2;go_end0;exact⟨rfl,D,A⟩
 rw[Blq ⟨Bd,m.2⟩];have f:=fun w h=>Bin k S v p op n w l h ⟨Bd,m.2⟩ J.1;have z:=Bc f;clear f;obtain⟨Q,V,Y,Z,b4,b5,b6,b7,b8,b9,a4⟩:(op==0)=false/\(op==1)=false/\(op==2)=false/\(op==3)=false/\(op==4)=false/\(op==5)=false/\(op==6)=false/\(op==7)=false/\(op==8)=false/\(op==9)=false/\(op==10)=false:=Fm;have G:(op==11)=true\/(op==11)=false/\((op==12)=true\/(op==12)=false/\((op==13)=true\/(op==13)=false/\((op==14)=true))):=Fm;clear t m I;rcases G with a1|⟨a1,a2|⟨a2,a3|⟨a3,a5⟩⟩⟩
 all_goals
  go_in;go_wp2;generalize w.alloc (O15 p op n)=g at *
  go_region_held3 (fun b=>b.C w.heap.size 0 (.i p)/\b.C w.heap.size 1 (.i op)/\b.C w.heap.size 2 (.i n))
   (first|exact⟨L,N,O⟩|exact⟨(Bb (j.own (show g.drew.heap[_]?=_ from c) s) 0).trans rfl,(Bb (j.own (show g.drew.heap[_]?=_ from c) s) 1).trans rfl,(Bb (j.own (show g.drew.heap[_]?=_ from c) s) 2).trans rfl⟩)
   (first|(go_at_call 190;refine(Ba z _ ((Ba F).drew l)).mono ?_;rintro e w7 ⟨rfl,A,j⟩))
  go_wp2;go_end0;exact⟨rfl,v,A⟩
def Bsp(k:Cv)(S:Bo)(v:Dh)(w:TW)(c:k.Ok)(h:Bz k S v w)(f:S.read<=100000):Calls prog 196 #[.q k.B 0] w fun e g=>e=.r (.tuple #[])/\∃i,Bz k (Ta k.E S) i g :=
 (Bsl k S v w c h f).mono fun _ _ ⟨a,b⟩=>⟨a,v,b⟩
def Bqg(k:Cv)(S:Bo)(v:Dh)(p op n:Int)(w:TW)(b:k.Ok)(h:Bz k S v w)(j:15<=op/\op<=25)(f:0<=n/\n<=255)(hF:Bc1 S):Calls prog 133 #[.q k.B 0,.agg #[.i p,.i op,.i n]] w fun e l=>e=.r (.tuple #[])/\∃g,Bz k (Ci k.E op n S) g l:=by
 rcases(show op=15\/op=16\/op=17\/op=18\/op=19\/op=20\/op=21\/op=22\/op=23\/op=24\/op=25 by omega) with rfl|rfl|rfl|rfl|rfl|rfl|rfl|rfl|rfl|rfl|rfl
 have c:=Rg k S v p 15 n _ b (h.gr b (QN (O15 p 15 n))) Bd f hF.ob
 rotate_left
 have c:=Rg k S v p 16 n _ b (h.gr b (QN (O15 p 16 n))) Bd f hF.ob
 rotate_left
 have c:=Rg k S v p 17 n _ b (h.gr b (QN (O15 p 17 n))) Bd f hF.ob
 rotate_left
 have c:=Rg k S v p 18 n _ b (h.gr b (QN (O15 p 18 n))) Bd f hF.ob
 rotate_left
 have c:=Rg k S v p 19 n _ b (h.gr b (QN (O15 p 19 n))) Bd f hF.ob
 rotate_left
 have c:=Bnk k S v n _ b (h.gr b (QN (O15 p 20 n))) hF.wt;rw[show Ci k.E 20 n S=Vs k.E n S from rfl]
 rotate_left
 have c:=Bm9 k S v n _ b (h.gr b (QN (O15 p 21 n))) hF.wt;rw[show Ci k.E 21 n S=Sj k.E n S from rfl]
 rotate_left
 have c:=Bfk k S v _ b (h.gr b (QN (O15 p 22 n)));rw[show Ci k.E 22 n S=Ki k.E S from rfl]
 rotate_left
 have c:=Bcd k S v _ b (h.gr b (QN (O15 p 23 n)));rw[show Ci k.E 23 n S=Jw k.E S from rfl]
 rotate_left
 have c:=Bsp k S v _ b (h.gr b (QN (O15 p 24 n))) hF.rd;rw[show Ci k.E 24 n S=Ta k.E S from rfl]
 rotate_left
 have c:=Bqa k S v _ b (h.gr b (QN (O15 p 25 n))) hF.ou;rw[show Ci k.E 25 n S=Yb S from rfl]
 rotate_left
 all_goals
  clear h j hF;go_in;go_wp2_with fail;refine Qm c ?_;rintro s ⟨g,m⟩;go_wp2;go_end0;exact⟨rfl,g,m⟩
def Bsm(k:Cv)(S:Bo)(v:Dh)(p op n:Int)(w:TW)(b:k.Ok)(h:Bz k S v w)(c:0<=op/\op<=25)(f:0<=n/\n<=255)(hF:Bc1 S):Calls prog 133 #[.q k.B 0,.agg #[.i p,.i op,.i n]] w fun e g=>e=.r (.tuple #[])/\∃j,Bz k (Ci k.E op n S) j g:=by
 by_cases l:op<=14;·exact Bqh k S v p op n w b h ⟨c.1,l⟩ f
 exact Bqg k S v p op n w b h ⟨Bd,c.2⟩ f hF
def Cv.Ok.cm{k:Cv}(c:k.Ok)(n:Int):(k.E.meth n).code.length<=1000/\∀x∈(k.E.meth n).code,0<=x/\x<=255:=by
 unfold Ds.meth
 split
 ·simp[Eu]
 split
 ·simp[Eu]
 rename_i f g;have h:k.E.ms.length=k.lms.length:=by simp[Cv.E]
 have b:n.toNat<k.lms.length:=Bd;have e:k.E.ms.getD n.toNat Eu=k.lms[n.toNat].1:=by
  rw[Th];simp[Cv.E,b]
 rw[e];exact c.cd _ (Bvh b)
def Bkv(c:Bh)(l:TI)(I:TA)(J Z B o:Nat)(t:TypeId)(C K:TV)(w:TW)(j:C.length=o)(m:Em c)(h:Mid w B t C c.cells K)(hl:l.length<=1000)(h0:∀x∈l,0<=x)(hi:Du w Z (.s I l.length J) l)(hx:c.next<=2000):Calls prog 132 #[.q B o,.s I l.length J] w fun e p=>e=.r (.agg #[.i (Cd.orZero (Cd.one l c.next)).place,.i (Cd.orZero (Cd.one l c.next)).op,.i (Cd.orZero (Cd.one l c.next)).n])/\Mid p B t C (⟨c.meth,c.next,(Cd.orZero (Cd.one l c.next)).place.toNat+Cd.wd (Cd.orZero (Cd.one l c.next)).op,c.lo,c.st,c.h⟩:Bh).cells K/\Gr B w p:=by
 have hR:=fun p (hb:Bl w p)=>Bho l I J Z c.next p hl Bd h0 (hi.kp (Kp.of_below (e:=none) hb) Ck)
 generalize f:Cd.one l c.next=r at *
 have a7:∃q:Nat,(Cd.orZero r).place=(q:Int)/\q<=100000:=by
  cases r with
  | none=>exact⟨0,rfl,Bd⟩
  | some x =>
   unfold Cd.one at f
   split at f
   ·simp only[Option.some.injEq]at f;subst f;exact⟨c.next,rfl,Bd⟩
   cases f
 obtain⟨q,hq,a8⟩:=a7;generalize Cd.orZero r=a9 at *;obtain⟨pl,op,n⟩:=a9;simp only at hq hR ⊢;subst hq;rw[Bvn];have hN:=fun w=>W7 q op n w a8;have b4:=h.lt;clear f hi h0;go_in;have s2:=((h.alloc (O15 0 0 0)).sees j m).n;go_wp2_with fail;refine Qm (hR _ (QN _)) ?_;intro v D;have F:=(h.alloc (O15 0 0 0)).below D;have L:=stay D (Bf w (O15 0 0 0));have b5:=Pk L;obtain⟨N,z1,z2,O,Q,V,g⟩:=F.sees j m;have f1:=g (o+1);have f2:=g (o+2);have b6:=F.lt;have a0:Gr B w v:=Gr.of_below ((Gr.refl _ _).alloc _) D;clear N O Q V g s2;go_wp2_with fail;refine Qm (hN _) ?_;intro w2 z;have a1:=F.setP j c.next
 have b0:Em ⟨c.meth,c.next,c.next,c.lo,c.st,c.h⟩:=⟨m.lo,m.st,m.h⟩
 have b1:(v.setCell (.a B (o+1)) (.i (c.next:Int))).heap.size=v.heap.size:=by simp[World.setCell]
 have G:=(a1.alloc (O15 (q:Int) op n)).below z;have O0:=Bf (v.setCell (.a B (o+1)) (.i (c.next:Int))) (O15 (q:Int) op n)
 rw[b1]at O0;have O2:=stay z O0;have a2:(v.setCell (.a B (o+1)) (.i (c.next:Int))).heap[w.heap.size]?=_:=(Bvg _ _ _ _ (by simpa using (show w.heap.size≠B by omega))).trans L
 have A:=stay z (Bk a2 (O15 (q:Int) op n));have b7:=Pk O2;have b8:=Pk A;have u0:=(Bb O2 0).trans (show _=some (.i (q:Int)) from rfl);have u1:=(Bb O2 1).trans (show _=some (.i op) from rfl);have u2:=(Bb O2 2).trans (show _=some (.i n) from rfl);have v0:=(Bb A 0).trans (show _=some (.i 0) from rfl);have v1:=(Bb A 1).trans (show _=some (.i 0) from rfl);have v2:=(Bb A 2).trans (show _=some (.i 0) from rfl);obtain⟨g0,g1,g2⟩:=fr3 A;obtain⟨N,y1,y2,O,Q,V,g⟩:=G.sees j b0;have b9:=g (o+2);have c0:=G.lt;have a3:=G.setN j (q+Cd.wd op);have a4:Gr B w w2:=Gr.of_below ((a0.setB _).alloc _) z;have Y:w.heap.size≠B:=Bd;have a5:∀u0 u1 u2,Mid (((((w2.setCell (.a B (o+2)) (.i ((q+Cd.wd op:Nat):Int))).setCell (.a w.heap.size 0) u0).setCell (.a w.heap.size 1) u1)).setCell (.a w.heap.size 2) u2) B t C (⟨c.meth,c.next,q+Cd.wd op,c.lo,c.st,c.h⟩:Bh).cells K:=fun a b d=>by
  unfold Mid;rw[Bvg _ _ _ _ (by simpa using Bxc Y),Bvg _ _ _ _ (by simpa using Bxc Y),Bvg _ _ _ _ (by simpa using Bxc Y)];exact a3
 have b2:=Bc a5;have b3:=Bc a4;clear a1 F G L a2 O0 D z N z1 z2 O Q V g y1 a0 a3 a5 a4 h;go_wp2;refine tb (.agg #[.i (q:Int),.i op,.i n]) (by simp[results,results132,go_sem,v0,v1,v2]) ?_;have a6:=Ba b2 (.i (q:Int)) (.i op) (.i n);rw[Bzh]at a6;exact⟨rfl,a6,((((Ba b3).setB _).set (.inl (Wf _)) _).set (.inl (Wf _)) _).set (.inl (Wf _)) _⟩
def Bz.other{k:Cv}{v:Dh}(h:Bz k S v w)(p:k.Ok){cs:TV}(z:w.heap[u]?=some (.cells cs.toArray 219 (0,0)))(G:k.w0.heap.size<=u)(i:Nat)(c:TX):Bz k S v (w.setCell (.a u i) c):=by
 have I:=p.Bs;have J:=p.sz;have m:∀q,q≠u->(w.setCell (.a u i) c).heap[q]?=w.heap[q]?:=fun q j=>Bvg _ _ _ _ (by simpa using j);have l:∀{b e s n:Nat}{x:TX}{t:TV},w.ownsRow b e s x n t->e≠219->(w.setCell (.a u i) c).ownsRow b e s x n t:=fun f A=>Gs f (fun q j=>m q (Gd f z A q j));have f:=h.rows;refine⟨(m k.B Bd).trans h.blk,h.wf,⟨l f.objs Ck,f.ovl,f.obk,fun q j=>l (f.flds q j) Ck,l f.wait Ck,f.wwf,l f.out Ck,f.nd,fun q C D F=>?_,f.low.setCell Fm _,by simp[World.setCell];exact f.szs⟩⟩;rw[m q Bd];exact f.keep q C D F
def Bm8(k:Cv)(S:Bo)(v:Dh)(w:TW)(f:k.Ok)(h:Bz k S v w)(hF:Bc1 S)(c3:S.now.next<=2000)(c6:S.steps<=100000)(F:0<=(Fy k.E S.now).op/\(Fy k.E S.now).op<=25/\0<=(Fy k.E S.now).n/\(Fy k.E S.now).n<=255):Calls prog 86 #[.q k.B 0] w fun e A=>e=.r (.tuple #[])/\∃I,Bz k (Hh k.E S) I A:=by
 have c7:=h.sees.c37;have c8:=h.sees.fr 37;have N:Bz k ⟨S.read,S.objs,S.now,S.wait,S.ended,S.out,S.status,S.value,S.steps+1⟩ v (w.setCell (.a k.B 37) (.i ((S.steps:Int)+1))):=h.setPost f (j:=5) Bd _ rfl rfl (by simp[Hp]) h.rows;have c9:(w.setCell (.a k.B 37) (.i ((S.steps:Int)+1))).C k.B 12 (.i S.now.meth):=N.sees.c12;have hm:=Re k _ v S.now.meth _ f N;obtain⟨b0,b1⟩:=f.cm S.now.meth;have eS:Hh k.E S=Ci k.E (Fy k.E S.now).op (Fy k.E S.now).n (Oc k.E S):=rfl;rw[eS];have eB:Oc k.E S=(⟨S.read,S.objs,S.now,S.wait,S.ended,S.out,S.status,S.value,S.steps+1⟩:Bo).withNow ⟨S.now.meth,S.now.next,(Fy k.E S.now).place.toNat+Cd.wd (Fy k.E S.now).op,S.now.lo,S.now.st,S.now.h⟩:=rfl
 have eO:Fy k.E S.now=Cd.orZero (Cd.one (k.E.meth S.now.meth).code S.now.next):=rfl
 rw[eO]at F eB ⊢;generalize k.E.meth S.now.meth=M at *;have a1:Hid (∀w O Q bb,Bz k ⟨S.read,S.objs,S.now,S.wait,S.ended,S.out,S.status,S.value,S.steps+1⟩ v w->Du w bb (.s O M.code.length Q) M.code->Calls prog 132 #[.q k.B 12,.s O M.code.length Q] w fun e A=>e=.r (.agg #[.i (Cd.orZero (Cd.one M.code S.now.next)).place,.i (Cd.orZero (Cd.one M.code S.now.next)).op,.i (Cd.orZero (Cd.one M.code S.now.next)).n]) /\
   Bz k (Oc k.E S) v A/\Gr k.B w A):=by
  intro w O Q bb h hi;refine(Bkv S.now M.code O Q bb k.B 12 156 _ _ w rfl h.wf h.blk b0 (fun x hx=>(b1 x hx).1) hi c3).mono fun e A ⟨he,J,hg⟩=>⟨he,?_,hg⟩;rw[eB];exact h.now f hg ⟨h.wf.lo,h.wf.st,h.wf.h⟩ J
 have b2:Bc1 (Oc k.E S):=⟨hF.ob,hF.wt,hF.rd,hF.ou⟩;generalize Oc k.E S=S1 at *;generalize Cd.orZero (Cd.one M.code S.now.next)=c4 at *
 obtain⟨t,op,n⟩:=c4;simp only at F a1 ⊢;have b3:=fun w h=>Bsm k S1 v t op n w f h ⟨F.1,F.2.1⟩ F.2.2 b2;have HD:=Bc b3;have HM:=Bc hm;have H1:=Bc N;have d0:=h.blk.lt;clear h N hm b3 eS eB eO hF b2 F b0 b1;go_in;go_wp2_with fail;refine(Ba HM).mono ?_;rintro e z ⟨m,rfl,J,b4⟩;have h2:=(Ba H1).gr f b4;have b5:=J.cn;have a2:=J.code;obtain⟨m1,m2,m3,m4,m5,m6,m7,m8,m9,l,mb,p,md,me,mf,mg,mh,mi⟩:=m;simp only at b5 a2;subst b5;simp only[PM.val];have a3:Bl z (z.alloc (O18 m1 m2 m3 m4 m5 m6 m7 m8 m9 l M.code.length p md me mf mg mh mi)):=QN _;have h3:=h2.gr f a3;have b6:=a2.kp (Kp.of_below (e:=none) a3) Ck;have V:=Bf z (O18 m1 m2 m3 m4 m5 m6 m7 m8 m9 l M.code.length p md me mf mg mh mi);have b7:z.heap.size≠k.B:=by have:=h2.blk.lt;omega
 have q7:=(Bb V 7).trans (show _=some (.s l M.code.length p) from rfl);have lQ:=Pk V;have Y:=Bc h3;have b8:=Bc b6;clear HM J b4 h2 H1 h3 a2 b6 a3;go_wp2;generalize z.alloc (O18 m1 m2 m3 m4 m5 m6 m7 m8 m9 l M.code.length p md me mf mg mh mi)=g at *;refine Bvz (S:=(fun A=>A.C z.heap.size 7 (.s l M.code.length p))) Le q7 (fun b=>?_);refine tq 0 (.q k.B 0) b ?_;refine tq 1 (.q k.B 0) b ?_;refine tq 2 (.q k.B 12) b ?_;refine tq 3 (.q z.heap.size 7) b ?_;refine tq 4 (.s l M.code.length p) b ?_;refine Bw7 (rs:=[5,6]) Le Fr ?_;refine Bv3 (o:=⟨_,_,_,_,_,_⟩) rfl (fun K c=>?_) (Bv3 (o:=⟨_,_,_,_,_,_⟩) rfl (fun K c=>?_) Bw2)
 ·go_simp;refine Qm (Ba a1 _ _ _ _ ((Ba Y).drew f) (show Du g.drew _ _ _ from Ba b8)) ?_;rintro w7 ⟨Z,a0⟩;have G:=a0.own (show g.drew.heap[_]?=_ from V) b7;have p7:=(Bb G 7).trans (show _=some (.s l M.code.length p) from rfl);have c5:=Bk G (O15 0 0 0);have p8:=(Bb c5 7).trans (show _=some (.s l M.code.length p) from rfl);have a4:=Bk G (O15 t op n);have L:=(Bb a4 7).trans (show _=some (.s l M.code.length p) from rfl);have a5:=Z.gr f (QN (O15 t op n))
  try dsimp only
  clear b;refine c.out _ _ p7 (fun b=>?_);clear c K
  try simp only[QX]
  refine tr 6 fun K c=>?_;go_simp;clear b;refine c.out _ _ p8 (fun b=>?_);clear c K
  try simp only[QX]
  refine tr 7 fun K c=>?_;go_simp;clear b;refine c.out _ _ (by first|exact L | simpa using L) (fun b=>?_)
  clear c K
  try simp only[QX]
  refine Bv9 Le ?_ _;clear b;go_wp2_with fail;refine Qm (Ba HD _ a5) ?_;rintro w9 ⟨I,h9⟩;go_wp2;go_end0;exact⟨rfl,I,h9⟩
 go_simp;have a6:Bl g (g.drew.alloc (O15 0 0 0)):=(Vm _ _).drew.alloc (Wf _) _;have b9:=stay a6 V;have p7:=(Bb b9 7).trans (show _=some (.s l M.code.length p) from rfl);have hZ:(g.drew.alloc (O15 0 0 0)).heap[g.heap.size]?=_:=Bf g.drew (O15 0 0 0);clear b;refine c.out _ _ p7 (fun b=>?_);clear c K
 try simp only[QX]
 refine tr 5 fun K c=>?_;go_simp;refine Qm (Ba a1 _ _ _ _ ((Ba Y).gr f a6) ((Ba b8).kp (Kp.of_below (e:=none) a6) Ck)) ?_;rintro w7 ⟨Z,a0⟩;have G:=a0.own b9 b7;have p8:=(Bb G 7).trans (show _=some (.s l M.code.length p) from rfl);have D:=a0.own hZ (by have:=(Ba Y).blk.lt;show g.heap.size≠k.B;omega);have d1:=Pk D;have y0:=(Bb D 0).trans (show _=some (.i 0) from rfl);have y1:=(Bb D 1).trans (show _=some (.i 0) from rfl);have y2:=(Bb D 2).trans (show _=some (.i 0) from rfl);obtain⟨x0,x1,x2⟩:=fr3 D
 try dsimp only
 clear b;refine c.out _ _ p8 (fun b=>?_);clear c K
 try simp only[QX]
 refine tr 7 fun K c=>?_;go_simp;have a7:k.w0.heap.size<=g.heap.size:=(Ba Y).rows.szs;have c0:=Z.other f (cs:=[.i 0,.i 0,.i 0]) D a7 0 (.i t);have a8:=Bq (i:=0) D (.i t);have c1:=c0.other f (cs:=[.i t,.i 0,.i 0]) a8 a7 1 (.i op);have c2:=Bq (i:=1) a8 (.i op);have a5:=c1.other f (cs:=[.i t,.i op,.i 0]) c2 a7 2 (.i n);have a9:z.heap.size≠g.heap.size:=Bd;have a4:=((Bvg _ ⟨g.heap.size,2,none⟩ (.i n) _ a9).trans ((Bvg _ ⟨g.heap.size,1,none⟩ (.i op) _ a9).trans ((Bvg w7 ⟨g.heap.size,0,none⟩ (.i t) _ a9).trans G)));have L:=(Bb a4 7).trans (show _=some (.s l M.code.length p) from rfl);clear c0 c1 a8 c2 Z;clear b;refine c.out _ _ (by first|exact L | simpa using L) (fun b=>?_)
 clear c K
 try simp only[QX]
 refine Bv9 Le ?_ _;clear b;go_wp2_with fail;refine Qm (Ba HD _ a5) ?_;rintro w9 ⟨I,h9⟩;go_wp2;go_end0;exact⟨rfl,I,h9⟩
def Tb:Nat->List (Int × List Int)
 | 0=>[]
 | j+1=>Tb j++[((j:Int)+2,[])]
def Ro:Nat->List Value
 | 0=>[]
 | j+1=>Ro j++[.slice none 0 0]
def Bn4:∀j,(Tb j).length=j
 | 0=>rfl
 | j+1=>by simp[Tb,Bn4 j]
def Bm6:∀j,(Ro j).length=j
 | 0=>rfl
 | j+1=>by simp[Ro,Bm6 j]
def Bia(h:Int)(w:TW):Calls prog 83 #[.i h] w fun e N=>∃f g,e=.r (.agg #[.s f 5 g,.i h])/\N.ownsRow w.heap.size 215 2 (.s f 5 g) 5 (ocells (Tb 5) (Ro 5))/\Bl w N:=by
 obtain⟨i0,hi,a1,a2,a3⟩:=Bv4 Tryz.infoObj;have O:=Bx w (O31 none 0 0 0) (O31 none 0 0 h);have Q:=Cb w (O31 none 0 0 0) (O31 none 0 0 h);have V:=Bv w (O31 none 0 0 0) (O31 none 0 0 h);go_in;go_wp2
 go_loopw [4] (fun c wr=>∃(j:Nat) (f:TA) (g:Nat),j<=5/\c=.i ((j:Int)+2)/\wr.ownsRow (w.heap.size+2) 215 2 (.s f j g) j (ocells (Tb j) (Ro j))/\wr.heap[w.heap.size+1]?=some (O31 f j g h)/\wr.heap[w.heap.size]?=some (O31 none 0 0 0)/\Bl w wr)
  (fun c _=>7-(intOf c).toNat)
 case atStart=>exact⟨0,none,0,Bd,rfl,Bvl _ _ _ _,V,Q,O⟩
 case round=>
  clear O Q V;obtain⟨j,f,g,hj,rfl,m,t,B,l⟩:=hrel;have y0:=(Bb t 0).trans (show _=some (.s f j g) from rfl);have y1:=(Bb t 1).trans (show _=some (.i h) from rfl);have f0:=Bj t 0;have lH:=Pk t;have a9:=l.size;by_cases b0:j<5
  ·go_wp2_with (at_builtin;refine Bxg _ rfl _ _ 146 rfl (w.heap.size+2) 215 i0 _ 2 32 underlying146 hi a1 a2 a3 rfl Ck _ _ _ rfl (m.alloc _) ⟨wr.heap.size,0,none⟩ 1 1 [.i ((j:Int)+2),.s none 0 0] rfl rfl ?c1 ?c2 ?c3 ?c4 ?c5 ?_)
   case c1=>exact Dv _ _ _ _ rfl
   case c2=>intro u Y;simp at Y;rcases Y with rfl|rfl<;>rfl
   case c3=>unfold maxLen;omega
   case c4=>omega
   case c5=>simp;omega
   intro v' D J C _ a4;obtain⟨v,z,rfl⟩:=Bg J;have G:∀q,q<w.heap.size+2->D.heap[q]?=wr.heap[q]?:=fun q A=>(C.block q Fm (fun e=>by have:=(m.lt q e.symm).1;omega)).trans (Bvu _ _ _ Bd);have I:=(G _ Bd).trans t;have Z:=(G _ Bd).trans B;have a0:Bl w D:=⟨C.os.trans l.os,C.tape.trans l.tape,C.output.trans l.output,Bvv l.size (Bvv Fr C.size),fun q A=>(G q Bd).trans (l.block q A)⟩;have x0:=(Bb I 0).trans (show _=some (.s f j g) from rfl);have g0:=Bj I 0;have b1:=Pk I;have K:D.ownsRow (w.heap.size+2) 215 2 (.s v (j+1) z) (j+1) (ocells (Tb (j+1)) (Ro (j+1))):=by
    rw[Tb,Ro,Ys _ _ (by rw[Bn4,Bm6])];exact J
   have a5:=Bq (i:=0) I (.s v (j+1) z);have F:(D.setCell (.a (w.heap.size+1) 0) (.s v (j+1) z)).ownsRow (w.heap.size+2) 215 2 (.s v (j+1) z) (j+1) (ocells (Tb (j+1)) (Ro (j+1))):=Gs K (fun q A=>Bvg _ _ _ _ (by have:=(K.lt q A).1;simp;omega));have a6:(D.setCell (.a (w.heap.size+1) 0) (.s v (j+1) z)).heap[w.heap.size]?=_:=(Bvg _ _ _ _ Fr).trans Z;have a7:=Bc (a0.setCell (p:=.a (w.heap.size+1) 0) Fr (.s v (j+1) z));have L:=Bc F;clear J C a4 G K F m l t B a0 Z;go_wp2;go_roundw
   case rel=>exact⟨j+1,v,z,Bd,Lt,Ba L,a5,a6,Ba a7⟩
   case measure=>simp[intOf];omega
  have a8:j=5:=Bd;subst a8;obtain⟨r0,r1⟩:=cl2 B;obtain⟨q0,q1⟩:=fr2 B;have lR:=Pk B;simp at r0 r1;have F:∀a b,((wr.setCell (.a w.heap.size 0) a).setCell (.a w.heap.size 1) b).ownsRow w.heap.size 215 2 (.s f 5 g) 5 (ocells (Tb 5) (Ro 5)):=fun a b=>D8 (Gs m (fun q A=>(Bvg _ _ _ _ (by have:=(m.lt q A).1;simp;omega)).trans (Bvg _ _ _ _ (by have:=(m.lt q A).1;simp;omega)))) Bd;have L:=Bc F;clear m F t B;go_wp2;refine tb (.agg #[.s f 5 g,.i h]) (by simp[results,results83,go_sem,r0,r1]) ?_;exact⟨f,g,rfl,Ba L _ _,(l.setCell Fr _).setCell Fr _⟩
def Tryz.infoMach:(prog.info? 156).map (·.size)=some 38:=Le
def Bqc(b c e f g h j l m p q t v z A B C D F G I J K L N O Q V Y Z b9:TX)(w:TW):(Instr.build 156 #[(0,.agg #[b,c]),(1,.agg #[e,f]),(2,.agg #[g,h,j,l,m]),(4,.agg #[p,q]),(5,.agg #[t,v,z,A,B,C,D,F,G,I,J,K,L,N,O,Q,V,Y,Z,b9])]).run prog w=.ok (.agg #[b,c,e,f,g,h,j,l,m,.i 0,p,q,t,v,z,A,B,C,D,F,G,I,J,K,L,N,O,Q,V,Y,Z,b9,.s none 0 0,.bool false,.s none 0 0,.i 0,.i 0,.i 0]) w:=Le
def Iw (p0 p1 p2 p3 p4 p5 p6 p7 p8 p9 p10:TX)(c:TV):List Value:=[p0,p1,p2,p3,p4,p5,p6,p7,p8,.int .i64 0,p9,p10]++(c++[.slice none 0 0,.bool false,.slice none 0 0,.int .i64 0,.int .i64 0,.int .i64 0])
def Bug(b e f g i j l m p q s:TX)(c:TV)(h:c.length=20)(w:TW):(Instr.build 156 #[(0,.agg #[b,e]),(1,.agg #[f,g]),(2,.agg #[i,j,l,m,p]),(4,.agg #[q,s]),(5,.agg c.toArray)]).run prog w=.ok (.agg (Iw b e f g i j l m p q s c).toArray) w:=by
 match c,h with
 | [a0,a1,a2,a3,a4,a5,a6,a7,a8,a9,b0,b1,b2,b3,b4,b5,b6,b7,b8,b9],_=>exact Bqc _ _ _ _ _ _ _ _ _ _ _ _ _ _ _ _ _ _ _ _ _ _ _ _ _ _ _ _ _ _ _ w
def Rm{t:Array Oper}{S:TW->Prop}{op:Oper}{a:Act}(D:Region.wanted op (yielded t a.tmps)=true)(v z A B C:Operand)(F:op.op=.build 156 #[(0,v),(1,z),(2,A),(4,B),(5,C)]) (b e f g i j l m p q s:TX)(c:TV)(h:c.length=20)(G:a.eval v=.agg #[b,e])(I:a.eval z=.agg #[f,g])(J:a.eval A=.agg #[i,j,l,m,p])(K:a.eval B=.agg #[q,s])(L:a.eval C=.agg c.toArray):YieldsIf prog t S op (.agg (Iw b e f g i j l m p q s c).toArray) a :=
 .inl ⟨D,fun w _=>by
  unfold execOp;simp only[F,List.map_toArray,Bwm,Byz,G,I,J,K,L,B03,Bug b e f g i j l m p q s c h w,Bzz,B04]⟩
def Pl:Obj:=.cells (Iw (.slice none 0 0) (.slice none 0 0) (.slice none 0 0) (.slice none 0 0) (.int .i64 0) (.slice none 0 0) (.int .i64 0) (.int .i64 0) (.int .i64 0) (.slice none 0 0) (.int .i64 0) (⟨0,0,0,Iz,Iz,0⟩:Bh).cells).toArray 156 (0,0)
def Bfb(w:TW):(Instr.alloc 156 true (.tuple #[])).run prog w=.ok (.q w.heap.size 0) (w.alloc Pl):=Le
def Ps{b:Array Oper}{o:Oper}{a:Act}{K:Act->TW->Prop}{Q:Exit->Act->TW->Prop}{E:Prop}(c:o.guard=none)(e:o.op=.alloc 156) (h:K (a.put o.dst (.q w.heap.size 0)) (w.alloc Pl)):if Region.wanted o (yielded b a.tmps)=true then Oper.wp prog o a w K Q else E:=by
 have f:Region.wanted o (yielded b a.tmps)=true:=by simp[Region.wanted,c]
 rw[Sp f];unfold Oper.wp execOp;simp only[e,B03,Bfb,Bzz,B04];exact h
structure Jt where
 fa:Option Addr
 fn:Nat
 fc:Nat
 ma:Option Addr
 mc:Nat
 entry:Int
 ia:Option Addr
 ic:Nat
 ins:List Int
 room:Int
 depth:Int
 fuel:Int
 lcs:List (Rd.Cls × Value)
 lms:List (Rd.Mth × Eh)
def Jt.cells(p:Jt)(tg tc:Nat)(ya:TA)(yn yc:Nat)(oa:TA)(oc:Nat)(c:TV):List Value :=
 Iw (.slice p.fa p.fn p.fc) (.slice p.ma p.lms.length p.mc) (.slice (some ⟨tg,0,none⟩) (Tr.tree (p.lcs.map Prod.fst)).length tc) (.slice ya yn yc) (.int .i64 p.entry) (.slice p.ia p.ins.length p.ic) (.int .i64 p.room) (.int .i64 p.depth) (.int .i64 p.fuel) (.slice oa 5 oc) (.int .i64 p.room) c
def Bbr (p:Jt)(w wx:TW)(B:Nat):Prop:=∃tg tc ya yc oa oc,
 wx.heap[B]?=some (.cells (p.cells tg tc ya (7+p.lcs.length) yc oa oc (Cn p.entry []).cells).toArray 156 (0,0))/\Dl wx tg (Tr.tree (p.lcs.map Prod.fst))/\tg≠B /\
 wx.ownsRow w.heap.size 105 1 (.slice ya (7+p.lcs.length) yc) (7+p.lcs.length) (Tr.fvals p.lcs)/\wx.ownsRow w.heap.size 215 2 (.slice oa 5 oc) 5 (ocells (Tb 5) (Ro 5)) /\
 wx.heap[w.heap.size+1]?=some (O32 p.entry p.ia p.ins.length p.ic p.room p.depth p.fuel)/\wx.heap[w.heap.size+2]?=some (O33 none 0 0 0 0 0)/\Below w.heap.size w wx/\w.heap.size+2<B
theorem Bjs{w:World}{s j:Nat}{i v:Value}(c:w.cell? ⟨u,j,none⟩=some i)(b:w.cell? ⟨s,j,none⟩=some v)(f:i≠v):u≠s:=fun e=>by
 subst e;rw[c]at b;exact f (by simpa using b)
def Y6{p:Jt}{wd b:TW}{c tc yn yc h:Nat}{ya l:TA}(z:wd.heap[w.heap.size+1]?=some (O32 p.entry p.ia p.ins.length p.ic p.room p.depth p.fuel))(A:wd.heap[w.heap.size+2]?=some (O33 none 0 0 0 0 0))(J:Bl w wd)(m:Bl wd b)(D:b.heap[u]?=some Pl)(K:w.heap.size+2<u) (q:Dl b c (Tr.tree (p.lcs.map Prod.fst)))(t:b.ownsRow w.heap.size 105 1 (.s ya yn yc) (7+p.lcs.length) (Tr.fvals p.lcs))(F:b.ownsRow w.heap.size 215 2 (.s l 5 h) 5 (ocells (Tb 5) (Ro 5))):Bbr p w (b.setRow u (p.cells c tc ya yn yc l h (Cn p.entry []).cells).toArray) u:=by
 obtain⟨Q,V,G⟩:=Bg t;simp only[Value.slice.injEq]at G;obtain⟨rfl,rfl,rfl⟩:=G;have g:=QB J m;have f:∀j,j≠u->(b.setRow u (p.cells c tc ya (7+p.lcs.length) yc l h (Cn p.entry []).cells).toArray).heap[j]?=b.heap[j]?:=fun j e=>Ce e;have L:0<(Tr.tree (p.lcs.map Prod.fst)).length:=by rw[Ix];omega
 have N:b.C u 0 (.s none 0 0):=(Bb D 0).trans rfl;have I:c≠u:=Bjs (q.2 0 L) N Fr;have v:b.heap[u]?=some (.cells (Iw (.s none 0 0) (.s none 0 0) (.s none 0 0) (.s none 0 0) (.i 0) (.s none 0 0) (.i 0) (.i 0) (.i 0) (.s none 0 0) (.i 0) (⟨0,0,0,Iz,Iz,0⟩:Bh).cells).toArray 156 (0,0)):=D;refine⟨c,tc,ya,yc,l,h,Li v,⟨by rw[B0l];exact q.1,fun i O=>(Bvj (a:=⟨c,i,none⟩) (f c I)).trans (q.2 i O)⟩,I,Gs t (fun j e=>f j (Gd t v Ck j e)),Gs F (fun j e=>f j (Gd F v Ck j e)),
  (f _ Bd).trans ((m.block _ (Pk z)).trans z),(f _ Bd).trans ((m.block _ (Pk A)).trans A),?_,K⟩
 exact⟨g.os,g.tape,g.output,by rw[B0l];exact g.size,fun j e=>(f j Bd).trans (g.block j e)⟩
def Jt.E (p:Jt):Ds:=⟨Tr.tree (p.lcs.map Prod.fst),(Kg p.lcs).map Prod.snd,p.lms.map Prod.fst,p.ins,p.room,p.depth⟩
structure Jt.Good(p:Jt)(w:World)(bc bm:Nat):Prop where
 cs:Ex w bc (.slice p.fa p.fn p.fc) p.lcs
 c6:p.lcs.length<=6
 ff:∀q∈p.lcs,q.1.fields.length<=10
 ms:Eb w bm (.slice p.ma p.lms.length p.mc) p.lms
 ml:p.lms.length<=1000
 cd:∀q∈p.lms,q.1.code.length<=1000/\∀x∈q.1.code,0<=x/\x<=255
 ps:∀q∈p.lms,q.1.params.length<=10
 hn:∀q∈p.lms,q.1.handlers.length<=1000/\∀h∈q.1.handlers,0<=h.target/\h.target<=1000
 ins:Jk w p.ia p.ins
 il:p.ins.length<=1000
 dep:1<=p.depth/\p.depth<=12
 rm:0<=p.room/\p.room<=30
 fu:0<=p.fuel/\p.fuel<=3000
theorem Bra{p:Jt}{w b:World}{s j:Nat}(g:p.Good w s j)(h:Bbr p w b u):∃(k:Cv) (v:Dh),k.Ok/\k.B=u/\k.wE=w/\k.w0=b/\k.E=p.E/\k.fuel=p.fuel/\Bz k (Gv p.entry) v b/\b.heap[w.heap.size+1]?=some (O32 p.entry p.ia p.ins.length p.ic p.room p.depth p.fuel)/\b.heap[w.heap.size+2]?=some (O33 none 0 0 0 0 0)/\k.ob≠w.heap.size+1/\k.ob≠w.heap.size+2/\w.heap.size+2<u:=by
 obtain⟨K,tc,ya,yc,L,N,C,O,a0,a1,D,Q,V,F,a2⟩:=h;obtain⟨m,Y,a3,a4,a5⟩:=Cf D Bd;have z:∃cs:List Value,b.heap[m]?=some (.cells cs.toArray 215 (0,0)):=by
  obtain⟨_,⟨_,hn⟩|⟨g',b0,a6,G,_,a7,_⟩⟩:=D
  ·omega
  rw[Y]at G;simp only[Value.slice.injEq,Option.some.injEq,Addr.mk.injEq,Bwb]at G;obtain⟨rfl,_⟩:=G;exact⟨a6.toList,by simpa using a7⟩
 obtain⟨b1,z⟩:=z;have b2:(Tr.tree (p.lcs.map Prod.fst)).length=7+p.lcs.length:=by rw[Ix,Bvr]
 have b3:=g.c6;have a8:b.cell? ⟨m,0,none⟩=some (.int .i64 2):=by rw[a5 0 Ck];rfl
 have a9:b.cell? ⟨K,0,none⟩=some (.int .i64 (-1)):=by rw[O.2 0 Bd];rfl
 have Z:=Wb p.lcs;have I:∀q∈Kg p.lcs,TyR w q.1 q.2/\q.2.length<=10:=by
  intro q l;unfold Kg at l;rcases List.mem_append.1 l with l|l
  ·obtain⟨_,rfl⟩:=List.mem_replicate.1 l;exact⟨TyR.nil _,Fr⟩
  obtain⟨x,hx,rfl⟩:=List.mem_map.1 l;exact⟨TyR.of_tys (g.cs.2 x hx),g.ff x hx⟩
 have J:b.ownsRow w.heap.size 105 1 (.slice ya (Kg p.lcs).length yc) (Kg p.lcs).length ((Kg p.lcs).map Prod.fst):=by rw[Bhf,Z];exact a1
 refine⟨⟨u,m,b,w,p.fa,p.fn,p.fc,p.ma,p.mc,K,tc,ya,yc,j,w.heap.size,Tr.tree (p.lcs.map Prod.fst),Kg p.lcs,p.lms,p.entry,p.ia,p.ic,p.ins,p.room,p.depth,p.fuel⟩,⟨L,N,none,0,none,0,Ro 5⟩,?_,rfl,rfl,rfl,rfl,rfl,?_,Q,V,?_,?_,a2⟩
 ·exact⟨O,by show (Tr.tree _).length<=1000;omega,⟨J,fun q l=>(I q l).1.below F⟩,by show (Kg p.lcs).length<=14;omega,fun q l=>(I q l).2,g.ms,g.ml,g.cd,g.ps,g.hn,g.ins,g.il,g.dep,g.rm,g.fu,
   ⟨a0,Bjs a9 a8 Fr⟩,fun f t=>⟨Gd J C Ck f t,Gd J z Ck f t⟩,
   fun q l f t=>by have:=(I q l).1.blk_lt t;exact⟨by show f≠u;omega,by show f≠m;omega⟩,F.size,⟨Pk C,a3,by show w.heap.size<=u;omega,a4⟩⟩
 ·refine⟨?_,Sq _ _,⟨?_,rfl,fun f t=>?_,fun i hi=>?_,Bvl _ _ _ _,fun c hc=>by simp[Gv]at hc,Bvl _ _ _ _,(show ([]:List Nat).Nodup from List.nodup_nil),fun _ _ _ _=>rfl,F,Wf _⟩⟩
  ·unfold Mid;rw[C];simp only[Jt.cells,Iw,Jr,Hp,Gv,Z];rfl
  ·exact D
  ·have:some m=some f:=by rw[<- t];show _=(Value.slice L _ N).ownBlock;rw[Y];rfl
   exact .inl (by simpa using this.symm)
  have b4:i<5:=hi;have:i=0\/i=1\/i=2\/i=3\/i=4:=Bd;rcases this with rfl|rfl|rfl|rfl|rfl<;>exact Bvl _ _ _ _
 ·intro e;have A:b.heap[m]?=_:=z;rw[show m=w.heap.size+1 from e,Q]at A;simp at A
 intro e;have A:b.heap[m]?=_:=z;rw[show m=w.heap.size+2 from e,V]at A;simp at A
def Tu (E:Ds)(f:Nat)(S R:Bo):Prop:=(S.ended=true->S=R)/\(S.ended=false->S.steps<=f/\Fl E S/\S.out.length<=S.steps/\Pn (Ji E (f-S.steps) S)=R)
def Bqo{E:Ds}{R:Bo}(h:Tu E u S R)(c:S.ended=false)(e:u<=S.steps):S.fin 1 0=R:=by
 obtain⟨g,i,j,b⟩:=h.2 c;rw[show u-S.steps=0 by omega]at b;unfold Pn Ji at b;rw[Pf (by rw[c];simp)]at b;exact b
def Bnu{E:Ds}(g:E.Small){R:Bo}(h:Tu E u S R)(c:S.ended=false)(l:¬u<=S.steps):Tu E u (Hh E S) R:=by
 obtain⟨m,i,p,b⟩:=h.2 c;obtain⟨q,j,s⟩:=Um E S;rw[show u-S.steps=(u-(Hh E S).steps)+1 by omega,Ji,Pf (by rw[c];simp)]at b;refine⟨fun e=>?_,fun e=>⟨Bd,Bi7 g i,?_,b⟩⟩
 ·rw[Ah E _ e]at b;unfold Pn at b;rw[Sp e]at b;exact b
 rcases j with e|⟨x,e⟩
 ·rw[e];omega
 rw[e];simp;omega
def Cv.Ok.hb{k:Cv}(c:k.Ok)(n:Int):∀x∈(k.E.meth n).handlers,0<=x.target/\x.target<=1000:=by
 unfold Ds.meth
 split
 ·simp[Eu]
 split
 ·simp[Eu]
 rename_i f g;have h:k.E.ms.length=k.lms.length:=by simp[Cv.E]
 have b:n.toNat<k.lms.length:=Bd;have e:k.E.ms.getD n.toNat Eu=k.lms[n.toNat].1:=by
  rw[Th];simp[Cv.E,b]
 rw[e];exact(c.hn _ (Bvh b)).2
def Bly (k:Cv)(f:Nat)(w:TW):Nat:=match w.cell? ⟨k.B,33,none⟩ with
 | some (.bool true)=>0
 | _=>match w.cell? ⟨k.B,37,none⟩ with
  | some (.int _ n)=>f-n.toNat+1
  | _=>0
def Bz.mr{k:Cv}{v:Dh}(h:Bz k S v w)(f:Nat):Bly k f w=if S.ended=true then 0 else f-S.steps+1:=by
 unfold Bly;rw[h.sees.c33,h.sees.c37];cases S.ended<;>simp
def Bp8(p:Jt)(bc bm:Nat)(w:TW)(hg:p.Good w bc bm)(R:Bo)(hR:Rj p.E p.fuel.toNat p.entry=R):Calls prog 55 #[.agg #[.s p.fa p.fn p.fc,.s p.ma p.lms.length p.mc],.agg #[.i p.entry,.s p.ia p.ins.length p.ic,.i p.room,.i p.depth,.i p.fuel]] w fun e w' => ∃xa xc,e=.r (.agg #[.s xa R.out.length xc,.i R.status,.i R.value,.i (R.steps:Int)])/\Du w' w.heap.size (.s xa R.out.length xc) R.out/\Bl w w':=by
 have a5:Bl w (((w.alloc (O1 p.fa p.fn p.fc p.ma p.lms.length p.mc)).alloc (O32 p.entry p.ia p.ins.length p.ic p.room p.depth p.fuel)).alloc (O33 none 0 0 0 0 0)):=(((QN _).alloc Fr _).alloc Fm _);have CF:(((w.alloc (O1 p.fa p.fn p.fc p.ma p.lms.length p.mc)).alloc (O32 p.entry p.ia p.ins.length p.ic p.room p.depth p.fuel)).alloc (O33 none 0 0 0 0 0)).heap[w.heap.size]?=some (O1 p.fa p.fn p.fc p.ma p.lms.length p.mc):=Bk (Cb w _ _) _;have CS:(((w.alloc (O1 p.fa p.fn p.fc p.ma p.lms.length p.mc)).alloc (O32 p.entry p.ia p.ins.length p.ic p.room p.depth p.fuel)).alloc (O33 none 0 0 0 0 0)).heap[w.heap.size+1]?=some (O32 p.entry p.ia p.ins.length p.ic p.room p.depth p.fuel):=Bk (Bv w _ _) _;have CR:(((w.alloc (O1 p.fa p.fn p.fc p.ma p.lms.length p.mc)).alloc (O32 p.entry p.ia p.ins.length p.ic p.room p.depth p.fuel)).alloc (O33 none 0 0 0 0 0)).heap[w.heap.size+2]?=some (O33 none 0 0 0 0 0):=by
  have:=Bf ((w.alloc (O1 p.fa p.fn p.fc p.ma p.lms.length p.mc)).alloc (O32 p.entry p.ia p.ins.length p.ic p.room p.depth p.fuel)) (O33 none 0 0 0 0 0);simpa using this
 have d8:=fun W (hb:Bl w W)=>Sn p.fa p.ma p.fn p.fc p.lms.length p.mc bc p.lcs W hg.c6 (hg.cs.kp (Kp.of_below (e:=none) hb) Ck Ck);have HG:=Bc hg;have d9:=Bc hR;have a4:(Cn p.entry []).cells.length=20:=(Sq p.entry []).len;have f2:=fun W=>Bat p.entry none 0 [] 0 W Fr (Bvl W 0 3 1);have f3:=fun W=>Bia p.room W;have HT:Hid (∀W,Bl w W->Calls prog 69 #[.agg #[.s p.fa p.fn p.fc,.s p.ma p.lms.length p.mc]] W fun e w'=>∃g h8 ya yn yc,e=.r (.agg #[.s (.p g) (Tr.tree (p.lcs.map Prod.fst)).length h8,.s ya yn yc])/\Dl w' g (Tr.tree (p.lcs.map Prod.fst))/\w'.ownsRow W.heap.size 105 1 (.s ya yn yc) (7+p.lcs.length) (Tr.fvals p.lcs)/\W.heap.size<=g/\Bl W w'):=d8;have HH:=Bc f3;have HC:=Bc f2;have c2:∀I tc ya yn yc F G,(prog.info? 156).map (·.size)=some (p.cells I tc ya yn yc F G (Cn p.entry []).cells).toArray.size:=fun I tc ya yn yc F G=>by rw[Tryz.infoMach];simp[Jt.cells,Iw,a4]
 have c3:∀I tc ya yn yc F G,(p.cells I tc ya yn yc F G (Cn p.entry []).cells).toArray.all (·.oneCell')=true:=fun I tc ya yn yc F G=>Bya (fun u hu=>by
  simp only[Jt.cells,Iw,Bwt,Bxy,Bx9,Bz2]at hu;rcases hu with (rfl|rfl|rfl|rfl|rfl|rfl|rfl|rfl|rfl|rfl|rfl|rfl)|hu|rfl|rfl|rfl|rfl|rfl|rfl
  all_goals first|rfl|exact Ph _ _ hu)
 clear hg hR d8 f2 f3;go_in
 go_upto_region 1 with fail
 generalize h9:((w.alloc (O1 p.fa p.fn p.fc p.ma p.lms.length p.mc)).alloc (O32 p.entry p.ia p.ins.length p.ic p.room p.depth p.fuel)).alloc (O33 none 0 0 0 0 0)=wd at *;clear h9
 go_cut [5] from 17 (fun s5 wx=>∃B,s5=.q B 0/\Bbr p w wx B)
 case first=>
  have O:=(Bb CF 0).trans (show _=some (.s p.fa p.fn p.fc) from rfl);have Q:=(Bb CF 1).trans (show _=some (.s p.ma p.lms.length p.mc) from rfl);have V:=(Bb CS 0).trans (show _=some (.i p.entry) from rfl);have Y:=(Bb CS 1).trans (show _=some (.s p.ia p.ins.length p.ic) from rfl);have Z:=(Bb CS 2).trans (show _=some (.i p.room) from rfl);have s3:=(Bb CS 3).trans (show _=some (.i p.depth) from rfl);have L:=(Bb CS 4).trans (show _=some (.i p.fuel) from rfl);have A:=Pk CF;have f:=Pk CS;have lR:=Pk CR;have b1:=a5.size;have c4:Bl wd wd.drew:=(Vm _ _).drew;go_wp2;refine Bvz (S:=(fun w'=>w'.C w.heap.size 0 (.s p.fa p.fn p.fc)/\w'.C w.heap.size 1 (.s p.ma p.lms.length p.mc)/\w'.C (w.heap.size+1) 0 (.i p.entry)/\w'.C (w.heap.size+1) 1 (.s p.ia p.ins.length p.ic)/\w'.C (w.heap.size+1) 2 (.i p.room)/\w'.C (w.heap.size+1) 3 (.i p.depth)/\w'.C (w.heap.size+1) 4 (.i p.fuel))) Le ⟨O,Q,V,Y,Z,s3,L⟩ (fun t=>?_);refine tq 0 (.agg #[.s p.fa p.fn p.fc,.s p.ma p.lms.length p.mc]) t ?_;refine tq 1 (.agg #[.s p.fa p.fn p.fc,.s p.ma p.lms.length p.mc]) t ?_;refine tq 3 (.agg #[.i p.entry,.s p.ia p.ins.length p.ic,.i p.room,.i p.depth,.i p.fuel]) t ?_;refine tq 4 (.q (w.heap.size+1) 2) t ?_;refine tq 5 (.i p.room) t ?_;refine tq 7 (.q (w.heap.size+1) 0) t ?_;refine tq 8 (.i p.entry) t ?_;refine Bw7 (rs:=[2,11]) Le Fr ?_;refine Bv3 (o:=⟨_,_,_,_,_,_⟩) rfl (fun K m=>?_) (Bv3 (o:=⟨_,_,_,_,_,_⟩) rfl (fun K m=>?_) Bw2)
  ·go_simp;refine(Ba HT _ (a5.trans (c4.mono b1))).mono ?_;rintro e u1 ⟨I,tc,ya,yn,yc,rfl,f4,c5,-,i0⟩;have f5:=D8 (base':=w.heap.size) c5 (Bvv b1 c4.size);clear c5
   try dsimp only
   have J:=QB c4 i0;clear t;refine m.out _ _ ⟨QC J A O,QC J A Q,QC J f V,QC J f Y,QC J f Z,QC J f s3,QC J f L⟩ (fun t=>?_);clear m K
   try simp only[QX]
   refine Bw7 (rs:=[6,11]) Le Fr ?_;refine Bv3 (o:=⟨_,_,_,_,_,_⟩) rfl (fun K m=>?_) (Bv3 (o:=⟨_,_,_,_,_,_⟩) rfl (fun K m=>?_) Bw2)
   ·go_simp;refine(Ba HH _).mono ?_;rintro e u2 ⟨F,G,rfl,a6,b9⟩;have f6:=D8 (base':=w.heap.size) a6 (Bvv b1 J.size);clear a6
    try dsimp only
    have D:=QB J b9;have c0:=f4.below b9;have c1:=Cx f5 (Kp.of_below (e:=none) b9) Ck;clear t;refine m.out _ _ ⟨QC D A O,QC D A Q,QC D f V,QC D f Y,QC D f Z,QC D f s3,QC D f L⟩ (fun t=>?_);clear m K
    try simp only[QX]
    refine Bw7 (rs:=[9,11]) Le Fr ?_;refine Bv3 (o:=⟨_,_,_,_,_,_⟩) rfl (fun K m=>?_) (Bv3 (o:=⟨_,_,_,_,_,_⟩) rfl (fun K m=>?_) Bw2)
    ·go_simp;refine Qm (Ba HC _) ?_;intro u3 a2
     try dsimp only
     have z:=QB D a2;have b2:=c0.below a2;have b3:=Cx c1 (Kp.of_below (e:=none) a2) Ck;have b4:=Cx f6 (Kp.of_below (e:=none) a2) Ck;clear t;refine m.out _ _ ⟨QC z A O,QC z A Q,QC z f V,QC z f Y,QC z f Z,QC z f s3,QC z f L⟩ (fun t=>?_);clear m K
     try simp only[QX]
     refine Byf (i:=10) (oi:=⟨_,_,_,_,_,_⟩) (v:=.agg (p.cells I tc ya yn yc F G (Cn p.entry []).cells).toArray) rfl Le Le Le (fun _ _ _ h=>h) (Rm Hd _ _ _ _ _ Hd _ _ _ _ _ _ _ _ _ _ _ (Cn p.entry []).cells a4 Hd Hd Hd Hd Hd) t ?_
     try simp only[QX]
     refine tr 11 fun K m=>?_;refine Ps Hd Hd ?_;have a1:Bl u3 (u3.alloc Pl):=QN _;have l:=QB z a1;have a3:=Bf u3 Pl;have a7:w.heap.size+2<u3.heap.size:=Bvm lR z.size;have b5:=b2.below a1;have b6:=Cx b3 (Kp.of_below (e:=none) a1) Ck;have b7:=Cx b4 (Kp.of_below (e:=none) a1) Ck;clear t;refine m.out _ _ ⟨QC l A O,QC l A Q,QC l f V,QC l f Y,QC l f Z,QC l f s3,QC l f L⟩ (fun t=>?_);clear m K
     try simp only[QX]
     refine tr 12 fun K m=>?_;refine Fv Hd 156 _ _ Hd u3.heap.size (p.cells I tc ya yn yc F G (Cn p.entry []).cells).toArray Hd Hd 156 _ a3 (c2 I tc ya yn yc F G) (by simp[Jt.cells,Iw,a4];rfl) (c3 I tc ya yn yc F G) ?_;have b8:=Y6 (tc:=tc) CS CR a5 l a3 a7 b5 b6 b7;clear t;refine m.out _ _ ⟨(Bvj (a:=⟨w.heap.size,0,none⟩) (Ce (by have:=a7;show w.heap.size≠_;omega))).trans (QC l A O),(Bvj (a:=⟨w.heap.size,1,none⟩) (Ce (by have:=a7;show w.heap.size≠_;omega))).trans (QC l A Q),(Bvj (a:=⟨w.heap.size+1,0,none⟩) (Ce (by have:=a7;show w.heap.size+1≠_;omega))).trans (QC l f V),(Bvj (a:=⟨w.heap.size+1,1,none⟩) (Ce (by have:=a7;show w.heap.size+1≠_;omega))).trans (QC l f Y),(Bvj (a:=⟨w.heap.size+1,2,none⟩) (Ce (by have:=a7;show w.heap.size+1≠_;omega))).trans (QC l f Z),(Bvj (a:=⟨w.heap.size+1,3,none⟩) (Ce (by have:=a7;show w.heap.size+1≠_;omega))).trans (QC l f s3),(Bvj (a:=⟨w.heap.size+1,4,none⟩) (Ce (by have:=a7;show w.heap.size+1≠_;omega))).trans (QC l f L)⟩ (fun t=>?_);clear m K
     try simp only[Act.put]
     refine Bv9 Le ?_ _;go_wp2
     go_meet
     case rel=>exact⟨_,rfl,b8⟩
    refine Ps Hd Hd ?_;have a1:Bl u2 (u2.alloc Pl):=QN _;have z:=QB D a1;have c7:=Bf u2 Pl;have a8:w.heap.size+2<u2.heap.size:=Bvm lR D.size;have b2:=c0.below a1;have b3:=Cx c1 (Kp.of_below (e:=none) a1) Ck;have b4:=Cx f6 (Kp.of_below (e:=none) a1) Ck;clear t;refine m.out _ _ ⟨QC z A O,QC z A Q,QC z f V,QC z f Y,QC z f Z,QC z f s3,QC z f L⟩ (fun t=>?_);clear m K
    try simp only[QX]
    refine tr 9 fun K m=>?_;go_simp;refine Qm (Ba HC _) ?_;intro u4 a0
    try dsimp only
    have l:=QB z a0;have a3:=stay a0 c7;have b5:=b2.below a0;have b6:=Cx b3 (Kp.of_below (e:=none) a0) Ck;have b7:=Cx b4 (Kp.of_below (e:=none) a0) Ck;clear t;refine m.out _ _ ⟨QC l A O,QC l A Q,QC l f V,QC l f Y,QC l f Z,QC l f s3,QC l f L⟩ (fun t=>?_);clear m K
    try simp only[QX]
    refine Byf (i:=10) (oi:=⟨_,_,_,_,_,_⟩) (v:=.agg (p.cells I tc ya yn yc F G (Cn p.entry []).cells).toArray) rfl Le Le Le (fun _ _ _ h=>h) (Rm Hd _ _ _ _ _ Hd _ _ _ _ _ _ _ _ _ _ _ (Cn p.entry []).cells a4 Hd Hd Hd Hd Hd) t ?_
    try simp only[QX]
    refine tr 12 fun K m=>?_;refine Fv Hd 156 _ _ Hd u2.heap.size (p.cells I tc ya yn yc F G (Cn p.entry []).cells).toArray Hd Hd 156 _ a3 (c2 I tc ya yn yc F G) (by simp[Jt.cells,Iw,a4];rfl) (c3 I tc ya yn yc F G) ?_;have b8:=Y6 (tc:=tc) CS CR a5 l a3 a8 b5 b6 b7;clear t;refine m.out _ _ ⟨(Bvj (a:=⟨w.heap.size,0,none⟩) (Ce (by have:=a8;show w.heap.size≠_;omega))).trans (QC l A O),(Bvj (a:=⟨w.heap.size,1,none⟩) (Ce (by have:=a8;show w.heap.size≠_;omega))).trans (QC l A Q),(Bvj (a:=⟨w.heap.size+1,0,none⟩) (Ce (by have:=a8;show w.heap.size+1≠_;omega))).trans (QC l f V),(Bvj (a:=⟨w.heap.size+1,1,none⟩) (Ce (by have:=a8;show w.heap.size+1≠_;omega))).trans (QC l f Y),(Bvj (a:=⟨w.heap.size+1,2,none⟩) (Ce (by have:=a8;show w.heap.size+1≠_;omega))).trans (QC l f Z),(Bvj (a:=⟨w.heap.size+1,3,none⟩) (Ce (by have:=a8;show w.heap.size+1≠_;omega))).trans (QC l f s3),(Bvj (a:=⟨w.heap.size+1,4,none⟩) (Ce (by have:=a8;show w.heap.size+1≠_;omega))).trans (QC l f L)⟩ (fun t=>?_);clear m K
    try simp only[Act.put]
    refine Bv9 Le ?_ _;go_wp2
    go_meet
    case rel=>exact⟨_,rfl,b8⟩
   refine Ps Hd Hd ?_;have a1:Bl u1 (u1.alloc Pl):=QN _;have D:=QB J a1;have d2:=Bf u1 Pl;have a9:w.heap.size+2<u1.heap.size:=Bvm lR J.size;have c0:=f4.below a1;have c1:=Cx f5 (Kp.of_below (e:=none) a1) Ck;clear t;refine m.out _ _ ⟨QC D A O,QC D A Q,QC D f V,QC D f Y,QC D f Z,QC D f s3,QC D f L⟩ (fun t=>?_);clear m K
   try simp only[QX]
   refine tr 6 fun K m=>?_;go_simp;refine(Ba HH _).mono ?_;rintro e u3 ⟨F,G,rfl,a6,a2⟩;have b4:=D8 (base':=w.heap.size) a6 (Bvv b1 D.size);clear a6
   try dsimp only
   have z:=QB D a2;have c7:=stay a2 d2;have b2:=c0.below a2;have b3:=Cx c1 (Kp.of_below (e:=none) a2) Ck;clear t;refine m.out _ _ ⟨QC z A O,QC z A Q,QC z f V,QC z f Y,QC z f Z,QC z f s3,QC z f L⟩ (fun t=>?_);clear m K
   try simp only[QX]
   refine tr 9 fun K m=>?_;go_simp;refine Qm (Ba HC _) ?_;intro u4 a0
   try dsimp only
   have l:=QB z a0;have a3:=stay a0 c7;have b5:=b2.below a0;have b6:=Cx b3 (Kp.of_below (e:=none) a0) Ck;have b7:=Cx b4 (Kp.of_below (e:=none) a0) Ck;clear t;refine m.out _ _ ⟨QC l A O,QC l A Q,QC l f V,QC l f Y,QC l f Z,QC l f s3,QC l f L⟩ (fun t=>?_);clear m K
   try simp only[QX]
   refine Byf (i:=10) (oi:=⟨_,_,_,_,_,_⟩) (v:=.agg (p.cells I tc ya yn yc F G (Cn p.entry []).cells).toArray) rfl Le Le Le (fun _ _ _ h=>h) (Rm Hd _ _ _ _ _ Hd _ _ _ _ _ _ _ _ _ _ _ (Cn p.entry []).cells a4 Hd Hd Hd Hd Hd) t ?_
   try simp only[QX]
   refine tr 12 fun K m=>?_;refine Fv Hd 156 _ _ Hd u1.heap.size (p.cells I tc ya yn yc F G (Cn p.entry []).cells).toArray Hd Hd 156 _ a3 (c2 I tc ya yn yc F G) (by simp[Jt.cells,Iw,a4];rfl) (c3 I tc ya yn yc F G) ?_;have b8:=Y6 (tc:=tc) CS CR a5 l a3 a9 b5 b6 b7;clear t;refine m.out _ _ ⟨(Bvj (a:=⟨w.heap.size,0,none⟩) (Ce (by have:=a9;show w.heap.size≠_;omega))).trans (QC l A O),(Bvj (a:=⟨w.heap.size,1,none⟩) (Ce (by have:=a9;show w.heap.size≠_;omega))).trans (QC l A Q),(Bvj (a:=⟨w.heap.size+1,0,none⟩) (Ce (by have:=a9;show w.heap.size+1≠_;omega))).trans (QC l f V),(Bvj (a:=⟨w.heap.size+1,1,none⟩) (Ce (by have:=a9;show w.heap.size+1≠_;omega))).trans (QC l f Y),(Bvj (a:=⟨w.heap.size+1,2,none⟩) (Ce (by have:=a9;show w.heap.size+1≠_;omega))).trans (QC l f Z),(Bvj (a:=⟨w.heap.size+1,3,none⟩) (Ce (by have:=a9;show w.heap.size+1≠_;omega))).trans (QC l f s3),(Bvj (a:=⟨w.heap.size+1,4,none⟩) (Ce (by have:=a9;show w.heap.size+1≠_;omega))).trans (QC l f L)⟩ (fun t=>?_);clear m K
   try simp only[Act.put]
   refine Bv9 Le ?_ _;go_wp2
   go_meet
   case rel=>exact⟨_,rfl,b8⟩
  refine Ps Hd Hd ?_;have a1:Bl wd.drew (wd.drew.alloc Pl):=QN _;have J:=QB c4 a1;have i1:=Bf wd.drew Pl;have b0:w.heap.size+2<wd.drew.heap.size:=Bvm lR c4.size;clear t;refine m.out _ _ ⟨QC J A O,QC J A Q,QC J f V,QC J f Y,QC J f Z,QC J f s3,QC J f L⟩ (fun t=>?_);clear m K
  try simp only[QX]
  refine tr 2 fun K m=>?_;go_simp;refine(Ba HT _ (a5.trans (J.mono b1))).mono ?_;rintro e u2 ⟨I,tc,ya,yn,yc,rfl,c0,c5,-,b9⟩;have c1:=D8 (base':=w.heap.size) c5 (Bvv b1 J.size);clear c5
  try dsimp only
  have D:=QB J b9;have d2:=stay b9 i1;clear t;refine m.out _ _ ⟨QC D A O,QC D A Q,QC D f V,QC D f Y,QC D f Z,QC D f s3,QC D f L⟩ (fun t=>?_);clear m K
  try simp only[QX]
  refine tr 6 fun K m=>?_;go_simp;refine(Ba HH _).mono ?_;rintro e u3 ⟨F,G,rfl,a6,a2⟩;have b4:=D8 (base':=w.heap.size) a6 (Bvv b1 D.size);clear a6
  try dsimp only
  have z:=QB D a2;have c7:=stay a2 d2;have b2:=c0.below a2;have b3:=Cx c1 (Kp.of_below (e:=none) a2) Ck;clear t;refine m.out _ _ ⟨QC z A O,QC z A Q,QC z f V,QC z f Y,QC z f Z,QC z f s3,QC z f L⟩ (fun t=>?_);clear m K
  try simp only[QX]
  refine tr 9 fun K m=>?_;go_simp;refine Qm (Ba HC _) ?_;intro u4 a0
  try dsimp only
  have l:=QB z a0;have a3:=stay a0 c7;have b5:=b2.below a0;have b6:=Cx b3 (Kp.of_below (e:=none) a0) Ck;have b7:=Cx b4 (Kp.of_below (e:=none) a0) Ck;clear t;refine m.out _ _ ⟨QC l A O,QC l A Q,QC l f V,QC l f Y,QC l f Z,QC l f s3,QC l f L⟩ (fun t=>?_);clear m K
  try simp only[QX]
  refine Byf (i:=10) (oi:=⟨_,_,_,_,_,_⟩) (v:=.agg (p.cells I tc ya yn yc F G (Cn p.entry []).cells).toArray) rfl Le Le Le (fun _ _ _ h=>h) (Rm Hd _ _ _ _ _ Hd _ _ _ _ _ _ _ _ _ _ _ (Cn p.entry []).cells a4 Hd Hd Hd Hd Hd) t ?_
  try simp only[QX]
  refine tr 12 fun K m=>?_;refine Fv Hd 156 _ _ Hd wd.drew.heap.size (p.cells I tc ya yn yc F G (Cn p.entry []).cells).toArray Hd Hd 156 _ a3 (c2 I tc ya yn yc F G) (by simp[Jt.cells,Iw,a4];rfl) (c3 I tc ya yn yc F G) ?_;have b8:=Y6 (tc:=tc) CS CR a5 l a3 b0 b5 b6 b7;clear t;refine m.out _ _ ⟨(Bvj (a:=⟨w.heap.size,0,none⟩) (Ce (by have:=b0;show w.heap.size≠_;omega))).trans (QC l A O),(Bvj (a:=⟨w.heap.size,1,none⟩) (Ce (by have:=b0;show w.heap.size≠_;omega))).trans (QC l A Q),(Bvj (a:=⟨w.heap.size+1,0,none⟩) (Ce (by have:=b0;show w.heap.size+1≠_;omega))).trans (QC l f V),(Bvj (a:=⟨w.heap.size+1,1,none⟩) (Ce (by have:=b0;show w.heap.size+1≠_;omega))).trans (QC l f Y),(Bvj (a:=⟨w.heap.size+1,2,none⟩) (Ce (by have:=b0;show w.heap.size+1≠_;omega))).trans (QC l f Z),(Bvj (a:=⟨w.heap.size+1,3,none⟩) (Ce (by have:=b0;show w.heap.size+1≠_;omega))).trans (QC l f s3),(Bvj (a:=⟨w.heap.size+1,4,none⟩) (Ce (by have:=b0;show w.heap.size+1≠_;omega))).trans (QC l f L)⟩ (fun t=>?_);clear m K
  try simp only[Act.put]
  refine Bv9 Le ?_ _;go_wp2
  go_meet
  case rel=>exact⟨_,rfl,b8⟩
 case rest=>
  obtain⟨B,rfl,f7⟩:=hcut;clear CF CS CR a5 HT HH HC c2 c3;obtain⟨k,v0,ok,rfl,f8,c8,f9,g0,N,hS,d3,g1,g2,g3⟩:=Bra (Ba HG) f7;have hR:=Ba d9;rw[Bmo,<- f9]at hR;have g4:k.E.Small:=⟨fun n=>(ok.cm n).2,fun n=>(ok.cm n).1,fun n=>ok.hb n,by show k.room<=30;exact ok.rm.2,by show k.depth<=12;exact ok.dep.2⟩;have d4:=ok.fu;rw[g0]at d4;obtain⟨fu,g5⟩:=Bvk d4.1;have i6:fu<=3000:=Bd;have eF:p.fuel.toNat=fu:=Bd;rw[eF]at hR;have HR:Hid (Tu k.E fu (Gv p.entry) R):=⟨fun h=>(by cases h),fun _=>⟨by show (0:Nat)<=fu;omega,Bf2 _ _,by show (0:Nat)<=0;omega,hR⟩⟩;have HE:=Bc g4;rw[g5]at hS;have g6:w.heap.size+1<k.w0.heap.size:=by rw[c8];exact Pk hS
  have g7:w.heap.size+2<k.w0.heap.size:=by rw[c8];exact Pk d3
  have HS:Hid (∀S v wr,Bz k S v wr->wr.heap[w.heap.size+1]?=some (O32 p.entry p.ia p.ins.length p.ic p.room p.depth (fu:Int))/\wr.heap[w.heap.size+2]?=some (O33 none 0 0 0 0 0)):=fun S v wr h=>⟨(h.rows.keep _ g6 Bd (Bxc g1)).trans (by rw[c8];exact hS),(h.rows.keep _ g7 Bd (Bxc g2)).trans (by rw[c8];exact d3)⟩;have d1:Hid (w.heap.size<=k.w0.heap.size/\k.wE=w):=⟨Bd,f8⟩;have HA:=Bc N;have i7:w.heap.size+2≠k.B:=Bd;have i8:w.heap.size+2<k.B:=g3;have g8:=fun S v w h=>Bbj k S v 1 0 w ok h;have g9:Hid (∀S v wr,Bz k S v wr->Fl k.E S->S.out.length<=S.steps->S.steps<=3000->Calls prog 86 #[.q k.B 0] wr fun e w'=>e=.r (.tuple #[])/\∃v',Bz k (Hh k.E S) v' w'):=fun S v wr h hb h1 h2=>by
   obtain⟨o1,o2,o3,o4,_,_⟩:=Bgn (Ba HE) S.now;have i9:=hb.ob;have j0:=hb.wt;have j1:=hb.rd;have j2:k.E.ins.length<=1000:=ok.il;exact Bm8 k S v wr ok h ⟨Bd,Bd,Bd,Bd⟩ hb.nx Bd ⟨o1,o2,o3,o4⟩
  have h0:=Bc g8;clear HG d9 f7 hR g4 hS d3 f8 c8 f9 g0 N d4 g5 eF g1 g2 g6 g7 g8 g3 a4;go_wp2
  go_loopw [17] (fun _ wr=>∃(S:Bo) (v:Dh),Hid (Bz k S v wr)/\Hid (Tu k.E fu S R))
   (fun _ wr=>Bly k fu wr)
  case atStart=>exact⟨_,_,HA,HR⟩
  case round=>
   clear HA HR;obtain⟨S,v,HA,HL⟩:=hrel;have N:=Ba HA;have hL:=Ba HL;obtain⟨bS,bR⟩:=Ba HS S v wr N;have h3:=N.sees.c33;have j3:=N.sees.c37;have L:=(Bb bS 4).trans (show _=some (.i (fu:Int)) from rfl);have c9:=N.mr fu;cases he:S.ended with
   | true =>
    have i2:=hL.1 he;subst i2;rw[he]at h3;have j4:=N.sees.c34;have j5:=N.sees.c35;have j6:=N.sees.c36;obtain⟨y0,y1,y2,y3⟩:=cl4 bR;obtain⟨z0,z1,z2,z3⟩:=fr4 bR;have lR:=Pk bR;simp at y0 y1 y2 y3;have h4:=N.rows.low;rw[(Ba d1).2]at h4;have h5:=D8 (base':=w.heap.size) N.rows.out (Ba d1).1;have d0:∀j,(Value.slice v.xa S.out.length v.xc).ownBlock=some j->j≠w.heap.size+2:=fun j hj e=>by
     have:=(N.rows.out.lt j hj).1;have:=(Ba d1).1;rw[e]at hj;exact Gd N.rows.out (cs:=[.s none 0 0,.i 0,.i 0,.i 0]) bR Ck _ hj rfl
    have h6:∀a b c d,((((wr.setCell (.a (w.heap.size+2) 0) a).setCell (.a (w.heap.size+2) 1) b).setCell (.a (w.heap.size+2) 2) c).setCell (.a (w.heap.size+2) 3) d).ownsRow w.heap.size 3 1 (.s v.xa S.out.length v.xc) S.out.length (S.out.map (Value.int .i64)):=fun a b c d=>Gs h5 (fun j hj=>by
     rw[Bvg _ _ _ _ (by simpa using d0 j hj),Bvg _ _ _ _ (by simpa using d0 j hj),Bvg _ _ _ _ (by simpa using d0 j hj),Bvg _ _ _ _ (by simpa using d0 j hj)])
    have i3:=Bc h6;clear hL HL HA c9 h5 d0 h6 N HS g9 h0 HE d1 bR bS;go_wp2;refine tb (.agg #[.s v.xa S.out.length v.xc,.i S.status,.i S.value,.i (S.steps:Int)]) (by simp[results,results55,go_sem,y0,y1,y2,y3]) ?_;exact⟨v.xa,v.xc,rfl,Ba i3 _ _ _ _,(((h4.setCell (by show w.heap.size<=w.heap.size+2;omega) _).setCell (by show w.heap.size<=w.heap.size+2;omega) _).setCell (by show w.heap.size<=w.heap.size+2;omega) _).setCell (by show w.heap.size<=w.heap.size+2;omega) _⟩
   | false =>
    rw[he]at h3 c9;rw[Pf Fr]at c9;obtain⟨l1,l2,l3,l4⟩:=hL.2 he;by_cases hf:fu<=S.steps
    ·have hE:=Bqo hL he hf;have i4:(fu:Int)<=(S.steps:Int):=Bd;have hC:=Ba h0 S v wr N;have d5:Hid (Tu k.E fu (S.fin 1 0) R):=⟨fun _=>hE,fun h=>(by cases h)⟩;clear hL HL HA N l4 hE;go_wp2_with fail;refine Qm hC ?_;intro w2 h2;have d6:=h2.mr fu;have d7:=Bc h2;clear h2;go_wp2;go_roundw
     case rel=>exact⟨_,v,d7,d5⟩
     case measure=>rw[d6,c9];simp[Bo.fin]
    have i4:¬(fu:Int)<=(S.steps:Int):=Bd;have d5:Hid (Tu k.E fu (Hh k.E S) R):=Bnu (Ba HE) hL he hf;have hC:=Ba g9 S v wr N l2 l3 Bd;have h7:=(Um k.E S).1;have i5:=Bc h7;clear hL HL HA N l4 h7;go_wp2_with fail;refine Qm hC ?_;rintro w2 ⟨v2,h2⟩;have d6:=h2.mr fu;have d7:=Bc h2;clear h2;go_wp2;go_roundw
    case rel=>exact⟨_,v2,d7,d5⟩
    case measure=>
     rw[d6,c9,Ba i5]
     split<;>omega
def Mw (m:Rd.Mth):Bool:=decide (m.cl=255)&&decide (m.params.length=0)
def Kh (ms:List Rd.Mth)(n:Int):Bool:=if n<0 then false else if (ms.length:Int)<=n then false else Mw (ms.getD n.toNat Eu)
def I9:TI->Bool
 | []=>true
 | n::l=>if n < -2147483648 then false else if 2147483647<n then false else I9 l
def Js (l:TI):Bool:=if 20<l.length then false else I9 l
def Hi (ms:List Rd.Mth)(e:Int)(l:TI)(h d f:Int):Int :=
 if Kh ms e=false then 12 else if h<0 then 13 else if 30<h then 13 else if d<1 then 13 else if 12<d then 13 else if f<0 then 13 else if 3000<f then 13 else if Js l=false then 13 else 0
def Bfj(G j:TA)(I J l K:Nat)(b:List (Rd.Mth×Eh))(n:Int)(w:TW)(a0:b.length<=1000)(L:∀q∈b,q.1.params.length<=1000)(p:Eb w K (.s j b.length l) b):Calls prog 81 #[.agg #[.s G I J,.s j b.length l],.i n] w fun e N=>e=.r (.bool (Kh (b.map Prod.fst) n))/\Bl w N:=by
 unfold Kh;rw[Bvr];by_cases t:n<0;·rw[Sp t];go_in;go_wp2;go_ret;exact⟨rfl,QN _⟩
 rw[Pf t];by_cases v:(b.length:Int)<=n;·rw[Sp v];go_in;go_wp2;go_ret;exact⟨rfl,QN _⟩
 rw[Pf v];obtain⟨q,rfl⟩:=Bvk (show 0<=n by omega);have c:q<b.length:=Bd;obtain⟨m,g,O,a1,f,Q⟩:=p.mth c;have z:(b.map Prod.fst).getD (Int.toNat (q:Int)) Eu=b[q].1:=by simp[Th,c]
 rw[z];have a2:=L _ (Bvh c);obtain⟨A,V,Y,Z,i5,i6,h,-⟩:=Q;generalize b[q].1=M at *;have y0:=f 0 (.i M.cl) (by rw[<- A];rfl);have y2:=f 2 (.s m.pa M.params.length m.pc) (by first|(rw[<- h];rfl)|(rw[h];rfl)|rfl)
 rw[Bzg]at y0;unfold Mw;generalize M.cl=B at *;generalize M.params.length=C at *;have kb:(q:Int)<(b.length:Int):=Bd;clear f p z A V Y Z i5 i6 h;subst O;by_cases D:B=255
 ·subst D;by_cases F:C=0;·subst F;go_in;go_wp2;go_ret;exact⟨Hd,QN _⟩
  have a3:((C:Int)==0)=false:=by simpa using F
  go_in;go_wp2;go_ret;exact⟨Fr,QN _⟩
 have a4:(B==255)=false:=by simpa using D
 go_in;go_wp2;go_ret;exact⟨Fr,QN _⟩
def Bie(l:TI)(a:TA)(c:Nat)(w:TW)(I:l.length<=maxLen)(m:Jk w a l):Calls prog 82 #[.s a l.length c] w fun e B=>e=.r (.bool (Js l))/\B=w:=by
 unfold Js;by_cases p:20<l.length;·rw[Sp p];have C:(20:Int)<(l.length:Int):=Bd;go_in;go_wp2;go_ret;exact⟨rfl,rfl⟩
 rw[Pf p];have C:¬(20:Int)<(l.length:Int):=Bd;generalize b:I9 l=r;have f:Hid (I9 (l.drop 0)=r):=b;clear b;have q:=Bc m;clear m;go_in;go_wp2
 go_loopw [10] (fun v wr=>∃k:Nat,k<=l.length/\v=.i (k:Int)/\Hid (I9 (l.drop k)=r)/\wr=w)
  (fun v _=>l.length-(intOf v).toNat)
 case atStart=>exact⟨0,Bd,rfl,f,rfl⟩
 case round=>
  clear f;obtain⟨k,J,rfl,f,rfl⟩:=hrel;by_cases j:k<l.length
  ·obtain⟨g,o,D,K,F⟩:=Ba q k j;have b:=Ba f;rw[Wr j,I9]at b;have t:l.getD k 0=l[k]:=by simp[Th,j]
   rw[t]at F;generalize l[k]=x at *;have G:(k:Int)<(l.length:Int):=Bd;clear f q t;subst D;by_cases z:x < -2147483648;·rw[Sp z]at b;have h:=Bc b;clear b;go_wp2;go_ret;exact⟨by rw[<- Ba h];rfl,rfl⟩
   rw[Pf z]at b;by_cases A:2147483647<x;·rw[Sp A]at b;have h:=Bc b;clear b;go_wp2;go_ret;exact⟨by rw[<- Ba h];rfl,rfl⟩
   rw[Pf A]at b;have h:Hid (I9 (l.drop (k+1))=r):=b;clear b;go_wp2;go_roundw
   case rel=>exact⟨k+1,Bd,Lt,h,trivial⟩
   case measure=>simp[intOf];omega
  have b:=Ba f;rw[Bvi Bd,I9]at b;have h:=Bc b;have G:¬(k:Int)<(l.length:Int):=Bd;clear b f;go_wp2;go_ret;exact⟨by rw[<- Ba h];rfl,rfl⟩
def Bfe(D z t:TA)(F G A bm B:Nat)(g:List (Rd.Mth×Eh))(p:Int)(l:TI)(h d f:Int)(w:TW)(a1:g.length<=1000)(hp:∀q∈g,q.1.params.length<=1000)(hm:Eb w bm (.s z g.length A) g)(hl:l.length<=maxLen)(hi:Jk w t l):Calls prog 54 #[.agg #[.s D F G,.s z g.length A],.agg #[.i p,.s t l.length B,.i h,.i d,.i f]] w fun e j=>e=.r (.i (Hi (g.map Prod.fst) p l h d f))/\Bl w j:=by
 have J:=Bx w (O1 D F G z g.length A) (O32 p t l.length B h d f);have C0:=Cb w (O1 D F G z g.length A) (O32 p t l.length B h d f);have D0:=Bv w (O1 D F G z g.length A) (O32 p t l.length B h d f);have Z:Hid (∀j,Bl w j->Calls prog 81 #[.agg #[.s D F G,.s z g.length A],.i p] j fun e a0=>e=.r (.bool (Kh (g.map Prod.fst) p))/\Bl j a0):=fun j hb =>
  Bfj D z F G A bm g p j a1 hp (hm.kp (Kp.of_below (e:=none) hb) Ck Ck Ck Ck Ck)
 have HN:Hid (∀j,Bl w j->Calls prog 82 #[.s t l.length B] j fun e a0=>e=.r (.bool (Js l))/\a0=j):=fun j hb=>Bie l t B j hl (hi.below hb);clear hm hi;unfold Hi;generalize Kh (g.map Prod.fst) p=be at *;generalize Js l=bi at *;by_cases N:be=false;·subst N;rw[Sp rfl];go_in;go_wp2_with fail;refine Qb (Ba Z _ J) J ?_;intro w1 O m;go_wp2;go_ret;exact⟨rfl,m⟩
 have a2:be=true:=by simpa using N
 subst a2;rw[Pf N];clear N;generalize hV:(if h<0 then (13:Int) else _)=V
 have b:=Bc hV;clear hV;go_in;go_wp2_with fail;refine Qb (Ba Z _ J) J ?_;intro w1 O m;have C1:=stay O C0;have K:=stay O D0;have s1:=(Bb K 1).trans (show _=some (.s t l.length B) from rfl);have s2:=(Bb K 2).trans (show _=some (.i h) from rfl);have s3:=(Bb K 3).trans (show _=some (.i d) from rfl);have s4:=(Bb K 4).trans (show _=some (.i f) from rfl);clear C0 D0 C1 K J O Z;by_cases v:h<0
 ·have c:Hid (V=13):=by unfold Hid;rw[<- Ba b,Sp v]
  clear b;go_wp2;go_ret;exact⟨by rw[Ba c];rfl,m⟩
 by_cases C:30<h
 ·have c:Hid (V=13):=by unfold Hid;rw[<- Ba b,Pf v,Sp C]
  clear b;go_wp2;go_ret;exact⟨by rw[Ba c];rfl,m⟩
 by_cases I:d<1
 ·have c:Hid (V=13):=by unfold Hid;rw[<- Ba b,Pf v,Pf C,Sp I]
  clear b;go_wp2;go_ret;exact⟨by rw[Ba c];rfl,m⟩
 by_cases L:12<d
 ·have c:Hid (V=13):=by unfold Hid;rw[<- Ba b,Pf v,Pf C,Pf I,Sp L]
  clear b;go_wp2;go_ret;exact⟨by rw[Ba c];rfl,m⟩
 by_cases Q:f<0
 ·have c:Hid (V=13):=by unfold Hid;rw[<- Ba b,Pf v,Pf C,Pf I,Pf L,Sp Q]
  clear b;go_wp2;go_ret;exact⟨by rw[Ba c];rfl,m⟩
 by_cases c7:3000<f
 ·have c:Hid (V=13):=by unfold Hid;rw[<- Ba b,Pf v,Pf C,Pf I,Pf L,Pf Q,Sp c7]
  clear b;go_wp2;go_ret;exact⟨by rw[Ba c];rfl,m⟩
 by_cases Y:bi=false
 ·subst Y;have c:Hid (V=13):=by unfold Hid;rw[<- Ba b,Pf v,Pf C,Pf I,Pf L,Pf Q,Pf c7,Sp rfl]
  clear b;go_wp2_with fail;refine Qm (Ba HN _ m) ?_;rintro w2 rfl;go_wp2;go_ret;exact⟨by rw[Ba c];rfl,m⟩
 have a3:bi=true:=by simpa using Y
 subst a3;have c:Hid (V=0):=by unfold Hid;rw[<- Ba b,Pf v,Pf C,Pf I,Pf L,Pf Q,Pf c7,Pf Y]
 clear b Y;go_wp2_with fail;refine Qm (Ba HN _ m) ?_;rintro w2 rfl;go_wp2;go_ret;exact⟨by rw[Ba c];rfl,m⟩
structure Rk where
 out:List Int
 status:Int
 value:Int
 steps:Int
 err:Int
def Rk.dec(a b:Rk):Decidable (a=b) :=
 if h:a.out=b.out/\a.status=b.status/\a.value=b.value/\a.steps=b.steps/\a.err=b.err then .isTrue (by obtain⟨_,_,_,_,_⟩:=a;obtain⟨_,_,_,_,_⟩:=b;simp only at h;simp[h]) else .isFalse (fun e=>h (by subst e;simp))
def Yc (cs:List Rd.Cls)(ms:List Rd.Mth)(ins:TI)(h d:Int):Ds:=⟨Tr.tree cs,Oj cs,ms,ins,h,d⟩
def Wp (R:Bo):Rk:=⟨R.out,R.status,R.value,R.steps,0⟩
def Ts (s:TB)(en:Int)(ins:TI)(h d f:Int):Rk :=
 if (Gq s).1≠0 then ⟨[],0,0,0,(Gq s).1⟩
 else if Hi (Rd.read s).1.methods en ins h d f≠0 then ⟨[],0,0,0,Hi (Rd.read s).1.methods en ins h d f⟩
 else Wp (Rj (Yc (Rd.read s).1.classes (Rd.read s).1.methods ins h d) f.toNat en)
def Og{D:TB}(h:(Gq D).1=0):(Rf.formed D).1=0:=by
 unfold Gq Wv at h;by_cases b:(Rf.formed D).1≠0;·rw[Sp b]at h;exact absurd h b
 simpa using b
def Xs{D:TB}(h:(Rf.formed D).1=0):(Rd.read D).2=0:=by
 rw[<- M3]at h;unfold Ft at h;by_cases b:(Rd.read D).2≠0;·rw[Sp b]at h;exact absurd h b
 simpa using b
def Zh{m:List Rd.Mth}{c:Int}{z:TI}{B d f:Int}(b:Hi m c z B d f=0):Kh m c=true/\0<=B/\B<=30/\1<=d/\d<=12/\0<=f/\f<=3000/\Js z=true:=by
 unfold Hi at b;by_cases e:Kh m c=false;·rw[Sp e]at b;omega
 by_cases g:Js z=false
 ·simp only[g]at b;split at b<;>(try omega);split at b<;>(try omega);split at b<;>(try omega);split at b<;>(try omega);split at b<;>(try omega);split at b<;>(try omega);split at b<;>(try omega)
  simp at b
 rw[Pf e]at b;refine⟨by simpa using e,?_,?_,?_,?_,?_,?_,by simpa using g⟩
 all_goals iterate 6 (try (split at b<;>try omega))
def Bp1{s:TB}(e:Brq (Rd.read s).1){l i ia:TA}{m j K ic:Nat}{J:List (Rd.Cls×Value)}{L:List (Rd.Mth×Eh)}{en h d f:Int}{ins:TI} (p:J.map Prod.fst=(Rd.read s).1.classes)(v:Ex w K (.s l u m) J)(t:L.map Prod.fst=(Rd.read s).1.methods)(z:Eb w K (.s i L.length j) L)(A:ins.length<=1000)(hi:Jk w ia ins) (B:1<=d/\d<=12)(C:0<=h/\h<=30)(D:0<=f/\f<=3000):(⟨l,u,m,i,j,en,ia,ic,ins,h,d,f,J,L⟩:Jt).Good w K K:=by
 have F:J.length<=6:=by have:=e.c6;rw[<- p]at this;simpa using this
 have I:L.length<=6:=by have:=e.m6;rw[<- t]at this;simpa using this
 have G:∀q∈J,Blz q.1:=fun q b=>e.cb _ (by rw[<- p];exact Bwa b);have c:∀q∈L,Blv q.1:=fun q b=>e.mb _ (by rw[<- t];exact Bwa b);refine⟨v,F,fun q b=>?_,z,?_,fun q b=>⟨?_,fun x g=>?_⟩,fun q b=>?_,fun q b=>⟨?_,fun x g=>?_⟩,hi,A,B,C,D⟩
 ·have:=(G q b).fl;omega
 ·show L.length<=1000;omega
 ·have:=(c q b).c2;omega
 ·have:=(c q b).cb x g;unfold By at this;omega
 ·have:=(c q b).pl;omega
 ·have:=(c q b).h4;omega
 have:=((c q b).hb x g).tg;unfold By at this;omega
def Bju(s:ByteArray)(en:Int)(ins:TI)(h d f:Int)(ia:TA)(ic:Nat)(w:TW)(hs:s.size<=maxLen)(hl:ins.length<=maxLen)(hi:Jk w ia ins)(Q:Rk)(v:Ts s.data.toList en ins h d f=Q):Calls prog 21 #[.string s,.agg #[.i en,.s ia ins.length ic,.i h,.i d,.i f]] w fun e L => ∃Z xc,e=.r (.tuple #[.agg #[.s Z Q.out.length xc,.i Q.status,.i Q.value,.i Q.steps],.i Q.err])/\Du L w.heap.size (.s Z Q.out.length xc) Q.out/\Bl w L:=by
 have hC:∀w,Calls prog 53 #[.string s] w fun e L=>∃g j l m B p,e=.r (.tuple #[.agg #[.s g j l,.s m B p],.agg #[.i (Gq s.data.toList).1,.i (Gq s.data.toList).2.1,.i (Gq s.data.toList).2.2]]) /\
    ((Gq s.data.toList).1=0->∃bm a7 t,a7.map Prod.fst=(Rd.read s.data.toList).1.classes/\Ex L bm (.s g j l) a7/\t.map Prod.fst=(Rd.read s.data.toList).1.methods/\Eb L bm (.s m B p) t)/\Bl w L:=fun w=>by
  have hc:=Bez s (Fs (Ma (Rd.read s.data.toList).1.classes (Rd.read s.data.toList).1.methods) 0 (Rd.read s.data.toList).1.methods) w hs
   (fun h0 g j l m B p bm a7 t L hb a8 hc N hm=>by
    rw[M3]at h0;obtain⟨k,_,_⟩:=Ke _ h0;exact Bb8 k a8 hc N hm)
  rw[Bcp]at hc;exact hc
 have O:(Gq s.data.toList).1=0->Brq (Rd.read s.data.toList).1:=fun z=>Btz _ (Xs (Og z));unfold Ts at v;have J:Hid (∀e,(Gq s.data.toList).1=e->e≠0->Q=⟨[],0,0,0,e⟩):=fun e he h0=>by rw[<- v,Sp (by rw[he];exact h0),he]
 have b0:Hid ((Gq s.data.toList).1=0->(if Hi (Rd.read s.data.toList).1.methods en ins h d f≠0 then ⟨[],0,0,0,Hi (Rd.read s.data.toList).1.methods en ins h d f⟩
 else Wp (Rj (Yc (Rd.read s.data.toList).1.classes (Rd.read s.data.toList).1.methods ins h d) f.toNat en))=Q):=fun z=>by
  have h1:=v;rw[Pf (show ¬(Gq s.data.toList).1≠0 by rw[z];simp)]at h1;exact h1
 clear v;generalize hA:Gq s.data.toList=A at *;generalize b1:Rd.read s.data.toList=rd at *;clear hA;obtain⟨F,C,D⟩:=A;simp only at hC O J b0;have HC:=Bc hC;have b8:=Bc O;have HI:=Bc hi;clear hC O hi;have b9:=Bx w (O32 en ia ins.length ic h d f) (O33 none 0 0 0 0 0);have C0:=Cb w (O32 en ia ins.length ic h d f) (O33 none 0 0 0 0 0);have D0:=Bv w (O32 en ia ins.length ic h d f) (O33 none 0 0 0 0 0);by_cases hz:F=0
 ·subst hz;go_in;go_wp2_with fail;refine(Ba HC _).mono ?_;rintro e K ⟨g,j,l,m,B,p,rfl,c0,a0⟩;obtain⟨bm,a7,t,a8,c3,N,b2⟩:=c0 trivial;have O:=Ba b8 trivial;have v:=Ba b0 trivial;clear J b0 b8 c0;have d1:B=t.length:=by obtain⟨_,_,c4⟩:=Bg b2.1;simp only[Value.slice.injEq]at c4;exact c4.2.1
  subst d1;have a9:=QB b9 a0;have C1:=stay a0 C0;have D1:=stay a0 D0;have l1:=Pk C1;have l2:=Pk D1;have V:=Bk (Bk C1 (O1 g j l m t.length p)) (O8 0 C D);have G:=Bk (Bk D1 (O1 g j l m t.length p)) (O8 0 C D);have F2:=Cb K (O1 g j l m t.length p) (O8 0 C D);have E2:=Bv K (O1 g j l m t.length p) (O8 0 C D);have b3:=Bx K (O1 g j l m t.length p) (O8 0 C D);have a4:=QB a9 b3;have b4:=b2.kp (Kp.of_below (e:=none) (b3.mono (Wf _))) Ck Ck Ck Ck Ck;have c5:=c3.kp (Kp.of_below (e:=none) (b3.mono (Wf _))) Ck Ck;have hp:∀q∈t,q.1.params.length<=1000:=fun q hq=>by
   have:=(O.mb q.1 (by rw[<- N];exact Bwa hq)).pl;omega
  have d2:t.length<=1000:=by have:=O.m6;rw[<- N,Bvr]at this;omega
  have b5:=Bfe g m ia j l p bm ic t en ins h d f _ d2 hp b4 hl ((Ba HI).below a4);rw[N]at b5;have c6:=fun W (hb:Below _ _ W)=>Bp1 (s:=s.data.toList) (ia:=ia) (ic:=ic) (en:=en) (h:=h) (d:=d) (f:=f) (ins:=ins) (w:=W) (by rw[b1];exact O) (by rw[b1];exact a8) (c5.kp (Kp.of_below (e:=none) hb) Ck Ck) (by rw[b1];exact N) (b4.kp (Kp.of_below (e:=none) hb) Ck Ck Ck Ck Ck) (hi:=((Ba HI).below a4).below hb);have HG:=Bc c6;have c7:=Bc b5;have J:=Bc v;clear b5 c6 v b2 b4 c3 c5 hp;generalize a3:Hi rd.1.methods en ins h d f=se at *;have HZ:=Bc a3;clear a3
  go_upto_region 2 with fail
  generalize (K.alloc (O1 g j l m t.length p)).alloc (O8 0 C D)=w2 at *;have s0:=(Bb V 0).trans (show _=some (.i en) from rfl);have s1:=(Bb V 1).trans (show _=some (.s ia ins.length ic) from rfl);have s2:=(Bb V 2).trans (show _=some (.i h) from rfl);have s3:=(Bb V 3).trans (show _=some (.i d) from rfl);have s4:=(Bb V 4).trans (show _=some (.i f) from rfl);have f0:=(Bb F2 0).trans (show _=some (.s g j l) from rfl);have f1:=(Bb F2 1).trans (show _=some (.s m t.length p) from rfl);have k0:=(Bb E2 0).trans (show _=some (.i 0) from rfl);go_wp2_with fail;refine Qb (Ba c7) a4 ?_;intro w3 a5 b6;have d5:=b6.size;have C3:=stay a5 V;have I:=stay a5 G;have F3:=stay a5 F2;clear s0 s1 s2 s3 s4 f0 f1 k0 c7 C0 D0 C1 D1 V G E2;by_cases a3:se=0
  ·subst a3;have d3:=Zh (Ba HZ);obtain⟨-,g1,g2,g3,g4,g5,g6,g7⟩:=d3;have hg:=Ba HG w3 a5 (by unfold Js at g7;split at g7<;>first|simp at g7 | omega) ⟨g3,g4⟩ ⟨g1,g2⟩ ⟨g5,g6⟩
   have v:=Ba J;rw[Pf Fr]at v;generalize hR:Rj (Yc rd.1.classes rd.1.methods ins h d) f.toNat en=R at v;subst v;have c8:=Bp8 _ _ _ w3 hg R (by rw[<- hR];simp only[Jt.E,Yc,Boe,a8,N]);have c9:=Bc c8;have s0:=(Bb C3 0).trans (show _=some (.i en) from rfl);have s1:=(Bb C3 1).trans (show _=some (.s ia ins.length ic) from rfl);have s2:=(Bb C3 2).trans (show _=some (.i h) from rfl);have s3:=(Bb C3 3).trans (show _=some (.i d) from rfl);have s4:=(Bb C3 4).trans (show _=some (.i f) from rfl);have f0:=(Bb F3 0).trans (show _=some (.s g j l) from rfl);have f1:=(Bb F3 1).trans (show _=some (.s m t.length p) from rfl);have l4:=Pk I;clear c8 hg HG J HZ hR;go_wp2_with fail;refine(Ba c9).mono ?_;rintro e w4 ⟨Z,xc,rfl,d0,b7⟩;have a6:=QB b6 b7;have Y:=stay b7 I;have r0:=(Bb Y 0).trans (show _=some (.s none 0 0) from rfl);have r1:=(Bb Y 1).trans (show _=some (.i 0) from rfl);have r2:=(Bb Y 2).trans (show _=some (.i 0) from rfl);have r3:=(Bb Y 3).trans (show _=some (.i 0) from rfl);obtain⟨z0,z1,z2,z3⟩:=fr4 Y;have l5:=Pk Y;have HO:Hid (∀a b c d,Du ((((w4.setCell (.a (w.heap.size+1) 0) a).setCell (.a (w.heap.size+1) 1) b).setCell (.a (w.heap.size+1) 2) c).setCell (.a (w.heap.size+1) 3) d) w.heap.size (.s Z R.out.length xc) R.out):=fun a b c d =>
    D8 (Cx d0 (e:=none) ((((Kp.set_lo Bd a).trans (Kp.set_lo Bd b)).trans (Kp.set_lo Bd c)).trans (Kp.set_lo Bd d)) Ck) Bd
   clear d0 I Y C3 F3 a5 b7 c9 s0 s1 s2 s3 s4 f0 f1;go_wp2_with fail;refine tb (.tuple #[.agg #[.s Z R.out.length xc,.i R.status,.i R.value,.i (R.steps:Int)],.i 0]) (by simp[results,B0t,go_sem,r0,r1,r2,r3]) ?_;exact⟨Z,xc,rfl,Ba HO _ _ _ _,by repeat (first|(with_reducible exact a6)|(with_reducible refine By2 ?_)|(with_reducible refine Bvq ?_ Fm _)|(with_reducible refine Bvq ?_ Fr _))⟩
  have v:=Ba J;rw[Sp a3]at v;subst v;have d6:(se != 0)=true:=by simpa using a3
  have a6:=b6;have r0:=(Bb I 0).trans (show _=some (.s none 0 0) from rfl);have r1:=(Bb I 1).trans (show _=some (.i 0) from rfl);have r2:=(Bb I 2).trans (show _=some (.i 0) from rfl);have r3:=(Bb I 3).trans (show _=some (.i 0) from rfl);obtain⟨z0,z1,z2,z3⟩:=fr4 I;have l5:=Pk I;clear HG J HZ;go_wp2_with fail;refine tb (.tuple #[.agg #[.s none 0 0,.i 0,.i 0,.i 0],.i se]) (by simp[results,B0t,go_sem,r0,r1,r2,r3]) ?_;exact⟨none,0,rfl,Bvl _ _ _ _,by repeat (first|(with_reducible exact a6)|(with_reducible refine By2 ?_)|(with_reducible refine Bvq ?_ Fm _)|(with_reducible refine Bvq ?_ Fr _))⟩
 go_in;go_wp2_with fail;refine(Ba HC _).mono ?_;rintro e K ⟨g,j,l,m,B,p,rfl,-,a0⟩;have a9:=QB b9 a0;have D1:=stay a0 D0;have l1:=Pk D1;have G:=Bk (Bk D1 (O1 g j l m B p)) (O8 F C D);have E2:=Bv K (O1 g j l m B p) (O8 F C D);have a4:=a9.trans ((Bx K (O1 g j l m B p) (O8 F C D)).mono a9.size);have d4:=Ba J F rfl hz;subst d4;have a6:=a4;have d7:(F != 0)=true:=by simpa using hz
 have r0:=(Bb G 0).trans (show _=some (.s none 0 0) from rfl);have r1:=(Bb G 1).trans (show _=some (.i 0) from rfl);have r2:=(Bb G 2).trans (show _=some (.i 0) from rfl);have r3:=(Bb G 3).trans (show _=some (.i 0) from rfl);obtain⟨z0,z1,z2,z3⟩:=fr4 G;have k0:=(Bb E2 0).trans (show _=some (.i F) from rfl);have l2:=Pk G;have l3:=Pk E2;go_wp2_with fail;generalize (K.alloc (O1 g j l m B p)).alloc (O8 F C D)=w2 at *
 go_region
 all_goals
  go_wp2_with fail;refine tb (.tuple #[.agg #[.s none 0 0,.i 0,.i 0,.i 0],.i F]) (by simp[results,B0t,go_sem,r0,r1,r2,r3]) ?_;exact⟨none,0,rfl,Bvl _ _ _ _,by repeat (first|(with_reducible exact a6)|(with_reducible refine By2 ?_)|(with_reducible refine Bvq ?_ Fm _)|(with_reducible refine Bvq ?_ Fr _))⟩
def Jk.of_ints{a:TA}{n j:Nat}{z:TI}(h:Du w u (.s a n j) z):Jk w a z:=fun i e=>by
 obtain⟨t,v,f⟩:=Bg h;simp only[Value.slice.injEq]at f;obtain⟨rfl,rfl,rfl⟩:=f;obtain⟨g,m,p,_,q⟩:=Cf h Bd;refine⟨g,0,m,p,?_⟩;rw[Bvp,q i (by simpa using e)];simp[Th,e]
def Jk.nil(w:TW)(a:TA):Jk w a []:=fun i b=>absurd b Fr
open Go.ChangeShapes Go.WideShapes Go.ChangeAt Go.RowKit Go.Deep Go.Joins
def Tryz.cellsKS:prog.cellsOf 37=5:=Le
def Tryz.cellsKI:prog.cellsOf 3=1:=Le
def Tryz.cellsKL:prog.cellsOf 26=1:=Le
section
variable {H:Type}{enc:TypeId × Value→H}
theorem Bkq{v:World}{n:Nat}{i:Value}{x:DataW H×List MemPlace}(h:DataW.trod enc prog v 0 (fun _=>true) true n 26 [i]=some x):∃(a:Option Addr) (A:Nat) (g:List Int),i=.slice a g.length A/\g.length<=maxLen/\Jk v a g/\∀n∈g,-9223372036854775808<=n/\n<=9223372036854775807:=by
 rcases open_ints Bxs Bym Tryz.cellsKI h with ⟨f,_⟩|⟨a,m,q,j,f,_,K,L,B,_,s,C⟩
 ·simp only[List.cons.injEq,Bwb]at f;exact⟨none,0,[],f,Fr,Jk.nil _ _,Fr⟩
 simp only[List.cons.injEq,Bwb]at f;subst f;have N:j.length=q:=by simpa using B
 have p:(j.take m).length=m:=by rw[Bxf];omega
 refine⟨some a,q,j.take m,by rw[p],by rw[p];omega,fun e t=>?_,fun n D=>bounds_i64 (C n (B0w D))⟩;rw[p]at t;obtain⟨b,l,F⟩:=a;have G:=s 0 Bd;have I:F=none:=by simpa[Addr.add] using World.cell?_spot G
 subst I;have J:(⟨b,l,none⟩:Addr).add e=⟨b,l+e,none⟩:=by unfold Addr.add;split<;>simp_all
 have z:v.cell? ⟨b,l+e,none⟩=some (.int .i64 (j.getD e 0)):=by rw[<- J];exact s e Bd
 refine⟨b,l,rfl,World.block_lt_of_cell? v _ z,?_⟩;rw[z];simp[Th,t]
def Bkp{v:TW}{b:TX}{d:DataW H}{p:List MemPlace}(F:Value.okWide prog v .any u 37 b)(h:DataW.Trod enc prog v 0 (fun _=>true) true 37 b d p):∃(j:Int) (g:TA) (q:Nat) (c:TI) (h d f:Int),b=.agg #[.i j,.s g c.length q,.i h,.i d,.i f]/\c.length<=maxLen/\Jk v g c:=by
 obtain⟨t,rfl,z⟩:=okWide_struct underlying37 F;obtain⟨a0,G⟩:=h;obtain⟨I,m,_,_,hl,J,e⟩:=DataW.trod_struct underlying37 G;rw[Tryz.cellsKS]at z;obtain⟨l,rfl⟩:∃l:TV,t=l.toArray:=⟨t.toList,Fr⟩
 match l,(show l.length=5 by simpa using z) with
 | [c0,c1,c2,c3,c4],_ =>
  match I,J with
  | [y0,y1,y2,y3,y4],_ =>
   have K:DataW.trod enc prog v 0 (fun _=>true) true m 3 [c0]=some y0:=by simpa[Tryz.cellsKI,Value.cells] using e 0 _ rfl
   have L:DataW.trod enc prog v 0 (fun _=>true) true m 26 [c1]=some y1:=by simpa[Tryz.cellsKL,Value.cells] using e 1 _ rfl
   have g2:DataW.trod enc prog v 0 (fun _=>true) true m 3 [c2]=some y2:=by simpa[Tryz.cellsKI,Value.cells] using e 2 _ rfl
   have g3:DataW.trod enc prog v 0 (fun _=>true) true m 3 [c3]=some y3:=by simpa[Tryz.cellsKI,Value.cells] using e 3 _ rfl
   have g4:DataW.trod enc prog v 0 (fun _=>true) true m 3 [c4]=some y4:=by simpa[Tryz.cellsKI,Value.cells] using e 4 _ rfl
   obtain⟨j,A,_,_⟩:=Bzn Bym K;obtain⟨g,q,c,N,O,Q,_⟩:=Bkq L;obtain⟨V,B,_,_⟩:=Bzn Bym g2;obtain⟨Y,C,_,_⟩:=Bzn Bym g3;obtain⟨Z,D,_,_⟩:=Bzn Bym g4;simp only[List.cons.injEq,Bwb]at A B C D;subst A N B C D;exact⟨j,g,q,c,V,Y,Z,rfl,O,Q⟩
end
def Bno(b c:TI)(C D:TA)(J K:Nat)(w:TW)(F:Jk w C b)(G:Jk w D c)(hl:b.length<=9223372036854775807)(a4:c.length<=9223372036854775807):Calls prog 63 #[.s C b.length J,.s D c.length K] w fun e L=>e=.r (.bool (decide (b=c)))/\Bl w L:=by
 have N:=Bc F;have O:=Bc G;clear F G;by_cases t:b.length=c.length
 ·generalize j:decide (b=c)=r;have f:Hid (decide (b.drop 0=c.drop 0)=r):=j;clear j;have Q:((b.length:Int) != (c.length:Int))=false:=Fm;have I:=Bc t;clear t;go_in;go_wp2
  go_loopw [5] (fun v wr=>∃k:Nat,k<=b.length/\v=.i (k:Int)/\Hid (decide (b.drop k=c.drop k)=r)/\Bl w wr)
   (fun v _=>b.length-(intOf v).toNat)
  case atStart=>exact⟨0,Bd,rfl,f,Vm _ _⟩
  case round=>
   clear f;obtain⟨k,hk,rfl,f,l⟩:=hrel;by_cases z:k<b.length
   ·have A:k<c.length:=by have:=Ba I;omega
    obtain⟨g,o,V,a5,u0⟩:=(Ba N).below l k z;obtain⟨g2,o2,Y,a6,Z⟩:=(Ba O).below l k A;have j:=Ba f;rw[We z A]at j;rw[show b.getD k 0=b[k] by simp[Th,z]]at u0;rw[show c.getD k 0=c[k] by simp[Th,A]]at Z;generalize b[k]=x at *;generalize c[k]=y at *;have a0:(k:Int)<(b.length:Int):=Bd;have a7:(k:Int)<(c.length:Int):=Bd;have q:=Bc j;clear j f;subst V Y;by_cases B:x=y
    ·subst B;have m:Hid (decide (b.drop (k+1)=c.drop (k+1))=r):=by unfold Hid;rw[<- Ba q];simp
     clear q;go_wp2;go_quiet (fail);go_wp2;go_roundw
     case rel=>exact⟨k+1,Bd,Lt,m,Cy l⟩
     case measure=>simp[intOf];omega
    have p:r=false:=by rw[<- Ba q];simp[B]
    have m:=Bc p;have a8:(x != y)=true:=by simpa using B
    clear q p;go_wp2;go_quiet (fail);go_wp2;go_ret;exact⟨by rw[Ba m];rfl,Cy l⟩
   have p:r=true:=by
    rw[<- Ba f,Bvi Bd,Bvi (by have:=Ba I;omega)];rfl
   have m:=Bc p;have a0:¬(k:Int)<(b.length:Int):=Bd;clear p f;go_wp2;go_ret;exact⟨by rw[Ba m];rfl,l⟩
 have Q:((b.length:Int) != (c.length:Int))=true:=Fm;have a3:decide (b=c)=false:=by
  simp only[Bxb];intro h;exact t (by rw[h])
 rw[a3];go_in;go_wp2;go_ret;exact⟨rfl,Vm _ _⟩
def Af(b:TI)(c f g:Int)(h ya:TA)(j yc:Nat)(w:TW)(t:Jk w h b)(v:Jk w ya b)(z:b.length<=9223372036854775807):Calls prog 25 #[.agg #[.s h b.length j,.i c,.i f,.i g],.agg #[.s ya b.length yc,.i c,.i f,.i g]] w fun e F=>e=.r (.bool true)/\Bl w F:=by
 have p:=Bx w (O33 h b.length j c f g) (O33 ya b.length yc c f g);have A:=Cb w (O33 h b.length j c f g) (O33 ya b.length yc c f g);have B:=Bv w (O33 h b.length j c f g) (O33 ya b.length yc c f g);have q:=Bno b b h ya j yc _ (t.below p) (v.below p) z z;rw[Bxp (rfl:b=b)]at q;have C:=Bc q;clear q t v;go_in;go_wp2_with fail;refine Qb (Ba C) p ?_;intro I D G;have l:=stay D A;have m:=stay D B;have J:=(Bb l 1).trans (show _=some (.i c) from rfl);have K:=(Bb l 2).trans (show _=some (.i f) from rfl);have L:=(Bb l 3).trans (show _=some (.i g) from rfl);have N:=(Bb m 1).trans (show _=some (.i c) from rfl);have O:=(Bb m 2).trans (show _=some (.i f) from rfl);have Q:=(Bb m 3).trans (show _=some (.i g) from rfl);clear C A l B m;go_wp2;go_ret;exact⟨rfl,G⟩
def Bb3(f:RFl)(b h d g:Int)(j:TI)(m:TA)(p:Nat)(w:TW)(c:b<0\/(f.ms.length:Int)<=b):Calls prog 23 #[f.val,.agg #[.i b,.s m j.length p,.i h,.i d,.i g]] w fun e q=>e=.r (.i 12)/\Bl w q:=by
 obtain⟨v,z,A,B,C,l,t⟩:=f;simp only[RFl.val]at c ⊢;by_cases D:b<0;·go_in;go_wp2;go_ret;exact⟨rfl,Bx w _ _⟩
 have F:(t.length:Int)<=b:=Bd;clear c;go_in;go_wp2;go_ret;exact⟨rfl,Bx w _ _⟩
def Bh2(f:RFl)(q:Nat)(h d I:Int)(J:TI)(K:TA)(L:Nat)(w:TW)(v:f.ok w)(z:q<f.ms.length)(N:f.ms[q].1.m.params.length<=1000)(j:Mw f.ms[q].1.m=false):Calls prog 23 #[f.val,.agg #[.i (q:Int),.s K J.length L,.i h,.i d,.i I]] w fun e O=>e=.r (.i 12)/\Bl w O:=by
 obtain⟨m,g,A,a0,b,B⟩:=RFl.mth v z;obtain⟨a1,c1,a2,c2,bb,l,C⟩:=f;simp only[RFl.val]at A z N j B b ⊢;obtain⟨D,Q,V,Y,Z,i6,i7,i8,F,-⟩:=B;generalize C[q].1=M at *;obtain⟨cl,nm,pa,c,pc,r1,r2,lo,st,a3,ha,hl,p,ma,ml,mc,a4,a5⟩:=m;simp only[RMV.list]at D F b;subst D F;have y0:=b 0 _ rfl;have y1:=b 1 _ rfl;have y2:=b 2 _ rfl;have y3:=b 3 _ rfl;have y4:=b 4 _ rfl;have y5:=b 5 _ rfl;have y6:=b 6 _ rfl;have y7:=b 7 _ rfl;have y8:=b 8 _ rfl;have y9:=b 9 _ rfl;have ya:=b 10 _ rfl;have yb:=b 11 _ rfl;rw[Bzg]at y0;unfold Mw at j;generalize M.m.cl=G at *;generalize M.m.params.length=c at *;have kb:(q:Int)<(C.length:Int):=Bd;clear b Q V Y Z i6 i7 i8 v;subst A;by_cases p:G=255
 ·subst p;have a6:0<c:=by
   rcases Nat.eq_zero_or_pos c with t|t
   ·subst t;exact absurd j Ck
   exact t
  have a7:(0:Int)<(c:Int):=Bd;go_in;go_wp2;go_ret;exact⟨rfl,(Bx w _ _).alloc (by simp only[World.alloc,Bw3];omega) _⟩
 have a8:(G==255)=false:=by simpa using p
 go_in;go_wp2;go_ret;exact⟨rfl,(Bx w _ _).alloc (by simp only[World.alloc,Bw3];omega) _⟩
def Bh1(f:RFl)(q:Nat)(h d F:Int)(b:TI)(N:TA)(ic:Nat)(w:TW)(hf:f.ok w)(hq:q<f.ms.length)(a5:f.ms[q].1.m.params.length<=1000)(O:Mw f.ms[q].1.m=true)(a9:b.length<=maxLen)(z:Jk w N b):Calls prog 23 #[f.val,.agg #[.i (q:Int),.s N b.length ic,.i h,.i d,.i F]] w fun e w'=>e=.r (.i (if h<0 then 13 else if 30<h then 13 else if d<1 then 13 else if 12<d then 13 else if F<0 then 13 else if 3000<F then 13 else if Js b=false then 13 else 0))/\Bl w w':=by
 obtain⟨m,g,hg,b0,c,a3⟩:=RFl.mth hf hq;obtain⟨a1,c1,a2,A,bb,l,ms⟩:=f;simp only[RFl.val]at hg hq a5 O a3 c ⊢;obtain⟨i1,i2,i3,i4,i5,i6,i7,i8,i9,-⟩:=a3;generalize ms[q].1=M at *;obtain⟨cl,nm,pa,pl,pc,r1,r2,lo,st,b1,ha,hl,hc,ma,ml,mc,b2,b3⟩:=m;simp only[RMV.list]at i1 i9 c;subst i1 i9;have y0:=c 0 _ rfl;have y1:=c 1 _ rfl;have y2:=c 2 _ rfl;have y3:=c 3 _ rfl;have y4:=c 4 _ rfl;have y5:=c 5 _ rfl;have y6:=c 6 _ rfl;have y7:=c 7 _ rfl;have y8:=c 8 _ rfl;have y9:=c 9 _ rfl;have ya:=c 10 _ rfl;have yb:=c 11 _ rfl;rw[Bzg]at y0;unfold Mw at O;generalize M.m.cl=oc at *;generalize M.m.params.length=pl at *;have kb:(q:Int)<(ms.length:Int):=Bd;clear c i2 i3 i4 i5 i6 i7 i8 hf;subst hg;simp only[Bwk,Bwp]at O;obtain⟨rfl,rfl⟩:=O;generalize hV:(if h<0 then (13:Int) else _)=V
 have p:=Bc hV;clear hV;by_cases A:h<0
 ·have t:Hid (V=13):=by unfold Hid;rw[<- Ba p,Sp A]
  clear p z;go_in;go_wp2;go_ret;exact⟨by rw[Ba t];rfl,(Bx w _ _).alloc (by simp only[World.alloc,Bw3];omega) _⟩
 by_cases D:30<h
 ·have t:Hid (V=13):=by unfold Hid;rw[<- Ba p,Pf A,Sp D]
  clear p z;go_in;go_wp2;go_ret;exact⟨by rw[Ba t];rfl,(Bx w _ _).alloc (by simp only[World.alloc,Bw3];omega) _⟩
 by_cases G:d<1
 ·have t:Hid (V=13):=by unfold Hid;rw[<- Ba p,Pf A,Pf D,Sp G]
  clear p z;go_in;go_wp2;go_ret;exact⟨by rw[Ba t];rfl,(Bx w _ _).alloc (by simp only[World.alloc,Bw3];omega) _⟩
 by_cases Q:12<d
 ·have t:Hid (V=13):=by unfold Hid;rw[<- Ba p,Pf A,Pf D,Pf G,Sp Q]
  clear p z;go_in;go_wp2;go_ret;exact⟨by rw[Ba t];rfl,(Bx w _ _).alloc (by simp only[World.alloc,Bw3];omega) _⟩
 by_cases Z:F<0
 ·have t:Hid (V=13):=by unfold Hid;rw[<- Ba p,Pf A,Pf D,Pf G,Pf Q,Sp Z]
  clear p z;go_in;go_wp2;go_ret;exact⟨by rw[Ba t];rfl,(Bx w _ _).alloc (by simp only[World.alloc,Bw3];omega) _⟩
 by_cases c7:3000<F
 ·have t:Hid (V=13):=by unfold Hid;rw[<- Ba p,Pf A,Pf D,Pf G,Pf Q,Pf Z,Sp c7]
  clear p z;go_in;go_wp2;go_ret;exact⟨by rw[Ba t];rfl,(Bx w _ _).alloc (by simp only[World.alloc,Bw3];omega) _⟩
 have Y:Hid ((if Js b=false then (13:Int) else 0)=V):=by unfold Hid;rw[<- Ba p,Pf A,Pf D,Pf G,Pf Q,Pf Z,Pf c7]
 clear p;by_cases c8:20<b.length
 ·have t:Hid (V=13):=by unfold Hid;rw[<- Ba Y,Js,Sp c8];rfl
  have a6:(20:Int)<(b.length:Int):=Bd;clear Y z;go_in;go_wp2;go_ret;exact⟨by rw[Ba t];rfl,(Bx w _ _).alloc (by simp only[World.alloc,Bw3];omega) _⟩
 have a6:¬(20:Int)<(b.length:Int):=Bd;have B:Hid ((if I9 (b.drop 0)=false then (13:Int) else 0)=V):=by unfold Hid;rw[<- Ba Y,Js,Pf c8];rfl
 clear Y;have I:=Bc z;clear z;go_in;go_wp2;generalize J:World.alloc (World.alloc (World.alloc w _) _) _=K;have L:Bl w K:=by rw[<- J];exact(Bx w _ _).alloc (by simp only[World.alloc,Bw3];omega) _
 have z9:K.cell? { block:=w.heap.size+1,off:=1 }=some (.s N b.length ic):=by
  rw[<- J];exact Bb (stay (Bwu (Vm _ _) (Wf _) _) (Bv w _ _)) 1
 have b4:w.heap.size+1<K.heap.size:=by rw[<- J];clear J I B L z9;simp only[World.alloc,Bw3];omega
 replace I:Hid (Jk K N b):=Bc ((Ba I).below L);clear J y0 y1 y2 y3 y4 y5 y6 y7 y8 y9 ya yb
 go_loopw [6] (fun v wr=>∃k:Nat,k<=b.length/\v=.i (k:Int)/\Hid ((if I9 (b.drop k)=false then (13:Int) else 0)=V)/\wr=K)
  (fun v _=>b.length-(intOf v).toNat)
 case atStart=>exact⟨0,Bd,rfl,B,rfl⟩
 case round=>
  clear B;obtain⟨k,hk,rfl,B,rfl⟩:=hrel;by_cases a0:k<b.length
  ·obtain⟨g2,o,a7,b5,z0⟩:=Ba I k a0;have j:=Ba B;rw[Wr a0,I9]at j;have ey:b.getD k 0=b[k]:=by simp[Th,a0]
   rw[ey]at z0;generalize b[k]=x at *;have a8:(k:Int)<(b.length:Int):=Bd;clear B I ey;subst a7;by_cases hx:x < -2147483648;·rw[Sp hx]at j;have C:=Bc j;clear j;go_wp2;go_ret;exact⟨by rw[<- Ba C];rfl,L⟩
   rw[Pf hx]at j;by_cases a4:2147483647<x;·rw[Sp a4]at j;have C:=Bc j;clear j;go_wp2;go_ret;exact⟨by rw[<- Ba C];rfl,L⟩
   rw[Pf a4]at j;have C:Hid ((if I9 (b.drop (k+1))=false then (13:Int) else 0)=V):=j
   clear j;go_wp2;go_roundw
   case rel=>exact⟨k+1,Bd,Lt,C,trivial⟩
   case measure=>simp[intOf];omega
  have j:=Ba B;rw[Bvi Bd,I9]at j;have C:=Bc j;have a8:¬(k:Int)<(b.length:Int):=Bd;clear j B;go_wp2;go_ret;exact⟨by rw[<- Ba C];rfl,L⟩
def Bkh(f:RFl)(c h d g:Int)(b:TI)(j:TA)(l:Nat)(w:TW)(A:f.ok w)(C:∀q∈f.ms,q.1.m.params.length<=1000)(D:b.length<=maxLen)(F:Jk w j b):Calls prog 23 #[f.val,.agg #[.i c,.s j b.length l,.i h,.i d,.i g]] w fun e G=>e=.r (.i (Hi (f.ms.map fun q=>q.1.m) c b h d g))/\Bl w G:=by
 unfold Hi Kh;rw[Bvr];by_cases v:c<0;·rw[Sp v,Sp rfl];exact Bb3 f c h d g b j l w (Or.inl v)
 rw[Pf v];by_cases z:(f.ms.length:Int)<=c;·rw[Sp z,Sp rfl];exact Bb3 f c h d g b j l w (Or.inr z)
 rw[Pf z];obtain⟨q,rfl⟩:=Bvk (show 0<=c by omega);have p:q<f.ms.length:=Bd;have I:(f.ms.map fun q=>q.1.m).getD (Int.toNat (q:Int)) Eu=f.ms[q].1.m:=by simp[Th,p]
 rw[I];have B:=C _ (Bvh p);by_cases t:Mw f.ms[q].1.m=false;·rw[Sp t];exact Bh2 f q h d g b j l w A p B t
 rw[Pf t];exact Bh1 f q h d g b j l w A p B (by simpa using t) D F
def Bp3{b:TW}{s j n:Nat}{i:TX}{e:TV}(h:w.ownsRow u s j i n e)(m:∀c,i.ownBlock=some c->b.heap[c]?=w.heap[c]?):b.ownsRow u s j i n e:=by
 obtain⟨f,p|⟨g,q,t,l,v,z,r⟩⟩:=h
 ·exact⟨f,.inl p⟩
 exact⟨f,.inr ⟨g,q,t,l,v,(m g (by rw[l];rfl)).trans z,r⟩⟩
structure Rw where
 t:TypeId
 z:Nat
 v:Value
 n:Nat
 cs:List Value
def Rw.at(r:Rw)(b:Nat)(w:TW):Prop:=w.ownsRow b r.t r.z r.v r.n r.cs
structure Own(w0:World)(L:List Rw)(w:World):Prop where
 row:∀r∈L,r.at w0.heap.size w
 nd:L.Pairwise fun a b=>∀j,a.v.ownBlock=some j->b.v.ownBlock≠some j
 low:Below w0.heap.size w0 w
def Own.sub{v:TW}{f b:List Rw}(h:Own v f w)(s:b.Sublist f):Own v b w:=⟨fun r c=>h.row r (s.subset c),h.nd.sublist s,h.low⟩
def Own.perm{v:TW}{f b:List Rw}(h:Own v f w)(s:f.Perm b):Own v b w :=
 ⟨fun r c=>h.row r (s.mem_iff.2 c),(List.Perm.pairwise_iff (fun k j e g=>k j g e) s).1 h.nd,h.low⟩
def Own.mid{v:TW}{L X:List Rw}{r:Rw}(h:Own v (r::(L++X)) w):Own v (L++r::X) w:=h.perm List.perm_middle.symm
def Own.unmid{v:TW}{f X:List Rw}{r:Rw}(h:Own v (f++r::X) w):Own v (r::(f++X)) w:=h.perm List.perm_middle
def Own.below{v b:TW}{f:List Rw}(h:Own v f w)(c:Bl w b):Own v f b :=
 ⟨fun r e=>Bp3 (h.row r e) (fun j g=>c.block j ((h.row r e).lt j g).2),h.nd,h.low.trans (c.mono h.low.size)⟩
def Own.add{c:TW}{f:List Rw}{r:Rw}(h:Own c f w)(e:r.at c.heap.size w)(g:∀j,r.v.ownBlock=some j->∀x∈f,x.v.ownBlock≠some j):Own c (r::f) w :=
 ⟨fun x b=>by rcases List.mem_cons.1 b with rfl|b;exact e;exact h.row x b,List.pairwise_cons.2 ⟨fun x b j i=>g j i x b,h.nd⟩,h.low⟩
def Own.add_new{c b:TW}{f:List Rw}{r:Rw}(h:Own c f w)(m:Bl w b)(i:b.ownsRow w.heap.size r.t r.z r.v r.n r.cs):Own c (r::f) b:=by
 refine(h.below m).add ?_ (fun j p x q e=>?_)
 ·obtain⟨l,s|⟨g,A,B,C,D,r⟩⟩:=i
  ·exact⟨l,.inl s⟩
  exact⟨l,.inr ⟨g,A,B,C,Bvv h.low.size D,r⟩⟩
 have:=(i.lt j p).1;have:=((h.row x q).lt j e).2;omega
def Own.add_nil{v:TW}{f:List Rw}(h:Own v f w)(t:TypeId)(z:Nat):Own v (⟨t,z,.s none 0 0,0,[]⟩::f) w :=
 h.add (Bvl _ _ _ _) (fun j b=>by simp[Value.ownBlock]at b)
def Own.var{v:TW}{f:List Rw}(h:Own v f w)(b:Array Value)(t:TypeId):Own v (⟨t,b.size,.s (.p w.heap.size) 1 1,1,b.toList⟩::f) (w.alloc (.cells b t)) :=
 h.add_new (QN _) (World.ownsRow_lit w b 1 (Wf _) Ck Fr)
def Own.upd{i l:TW}{f p:List Rw}{r m:Rw}(h:Own i (f++r::p) w)(b:w.grownBy l r.v.ownBlock)(z:m.at i.heap.size l)(A:∀j,m.v.ownBlock=some j->r.v.ownBlock=some j\/w.heap.size<=j):Own i (f++m::p) l:=by
 have c:=h.unmid;refine Own.mid (Own.add ⟨fun x g=>?_,(List.pairwise_cons.1 c.nd).2,?_⟩ z (fun j B x g e=>?_))
 ·refine(c.row x (by simp[g])).kept b ?_;cases e:x.v.ownBlock with
  | none=>exact .inl rfl
  | some j=>exact .inr (fun C=>(List.pairwise_cons.1 c.nd).1 x g j C.symm e)
 ·exact⟨b.os.trans h.low.os,b.tape.trans h.low.tape,b.output.trans h.low.output,Bvv h.low.size b.size,
   fun q s=>(b.block q (Bvm s h.low.size) (fun e=>by have:=((c.row r Fr).lt q e.symm).1;omega)).trans (h.low.block q s)⟩
 rcases A j B with t|t
 ·exact(List.pairwise_cons.1 c.nd).1 x g j t e
 have:=((c.row x (by simp[g])).lt j e).2;omega
def Own.at{v:TW}{f:List Rw}(h:Own v f w){i:Nat}{r:Rw}(b:f[i]?=some r):r.at v.heap.size w:=h.row r (Bwv b)
def Own.put{b c:TW}{f:List Rw}{r g:Rw}(h:Own b f w)(l:f[u]?=some r)(m:w.grownBy c r.v.ownBlock)(p:g.at b.heap.size c)(q:∀j,g.v.ownBlock=some j->r.v.ownBlock=some j\/w.heap.size<=j):Own b (f.set u g) c:=by
 obtain⟨s,e⟩:=List.getElem?_eq_some_iff.1 l;have t:f=f.take u++r::f.drop (u+1):=by rw[<- e,List.getElem_cons_drop,Bxm]
 rw[By5,Sp s];rw[t]at h;exact h.upd m p q
def Own.app{v q:TW}{f:List Rw}{i n:Nat}{j:Nat}{b p:TX}{e T:TV}(h:Own v f w){K:Nat}(A:f[i]?=some ⟨g,j,b,n,e⟩)(B:q.ownsRow v.heap.size g j p K T)(C:w.grownBy q b.ownBlock)(D:p.ownBlock=b.ownBlock\/p.ownBlock=some w.heap.size):Own v (f.set i ⟨g,j,p,K,T⟩) q :=
 h.put A C B (fun c s=>by
  rcases D with l|l
  ·exact .inl (by rw[<- l];exact s)
  exact .inr (by rw[l]at s;simp at s;omega))
def Own.cell{v:TW}{f:List Rw}{i n b K:Nat}{z:Nat}{e:TV}(h:Own v f w)(l:f[i]?=some ⟨g,z,.s (.p b) n K,n,e⟩)(j:Nat)(u:TX):Own v (f.set i ⟨g,z,.s (.p b) n K,n,e.set j u⟩) (w.setCell (.a b j) u):=by
 obtain⟨m,q⟩:=World.ownsRow.stored (h.at l) j u;exact h.put l q m (fun j A=>.inl A)
def Own.cellE{v:TW}{f:List Rw}{i n j K:Nat}{z:Nat}{e T:TV}(h:Own v f w)(m:f[i]?=some ⟨g,z,.s (.p j) n K,n,e⟩){b:Nat}{u:TX}(l:e.set b u=T):Own v (f.set i ⟨g,z,.s (.p j) n K,n,T⟩) (w.setCell (.a j b) u):=by
 rw[<- l];exact h.cell m b u
def Bl7{f j n i c:Nat}{a:TA}{e:TV}(h:w.ownsRow u f j (.s a n c) n e)(m:i<=n):w.ownsRow u f j (.s a i c) i (e.take (i*j)):=by
 obtain⟨p,⟨l,D⟩|⟨g,F,q,l,t,v,G,A,B,C⟩⟩:=h
 ·simp only[Value.slice.injEq]at l;obtain⟨rfl,rfl,rfl⟩:=l;obtain rfl:i=0:=Bd;exact⟨Fr,.inl ⟨rfl,rfl⟩⟩
 simp only[Value.slice.injEq,Byl]at l;obtain⟨rfl,rfl⟩:=l;have:i*j<=n*j:=Bze _ m;refine⟨by rw[Bxf,p];omega,.inr ⟨g,c,q,rfl,t,v,Bd,A,B,?_⟩⟩;rw[<- C,Bxu,Bx5 this]
def Own.cut{v:TW}{f:List Rw}{i n j n':Nat}{a:TA}{z:Nat}{e:TV}(h:Own v f w)(l:f[i]?=some ⟨g,z,.s a n j,n,e⟩)(m:n'<=n):Own v (f.set i ⟨g,z,.s a n' j,n',e.take (n'*z)⟩) w :=
 h.put l ⟨rfl,rfl,rfl,Wf _,fun _ _ _=>rfl⟩ (Bl7 (h.at l) m) (fun b p=>.inl (by cases a<;>exact p))
def Own.nil{v:TW}{f:List Rw}{i:Nat}{r:Rw}(h:Own v f w)(b:f[i]?=some r)(t:TypeId)(z:Nat):Own v (f.set i ⟨t,z,.s none 0 0,0,[]⟩) w :=
 h.put b ⟨rfl,rfl,rfl,Wf _,fun _ _ _=>rfl⟩ (Bvl _ _ _ _) (fun j c=>by simp[Value.ownBlock]at c)
theorem Own.see{v w:World}{L:List Rw}{i n b K:Nat}{z:Nat}{e:List Value}(h:Own v L w)(m:L[i]?=some ⟨g,z,.slice (some ⟨b,0,none⟩) n K,n,e⟩){j:Nat}{u:Value}(f:e[j]?=some u):w.cell? ⟨b,j,none⟩=some u:=by
 have l:w.ownsRow v.heap.size g z (.slice (some ⟨b,0,none⟩) n K) n e:=h.at m;rw[World.ownsRow.cellAt l j (by have:=l.1;have:=(List.getElem?_eq_some_iff.1 f).1;omega),f]
def Own.free{v:TW}{L:List Rw}{i n j K:Nat}{z:Nat}{e:TV}(h:Own v L w)(f:L[i]?=some ⟨g,z,.s (.p j) n K,n,e⟩)(b:Nat):w.frozen? (.a j b)=false:=World.ownsRow.frozenAt (h.at f) b
def Own.lt{v:TW}{L:List Rw}{i n j K:Nat}{z:Nat}{e:TV}(h:Own v L w)(b:L[i]?=some ⟨g,z,.s (.p j) n K,n,e⟩):v.heap.size<=j/\j<w.heap.size:=(h.at b).lt j rfl
def Own.drewN{v:TW}{f:List Rw}(h:Own v f w)(n:Nat):Own v f (w.drewN n):=h.below ⟨rfl,rfl,rfl,Wf _,fun _ _=>rfl⟩
def Own.drew{v:TW}{f:List Rw}(h:Own v f w):Own v f w.drew:=h.below ⟨rfl,rfl,rfl,Wf _,fun _ _=>rfl⟩
def Bds{P:Program}{B:Array Oper}{o:Oper}{a:Act}{K:Act->TW->Prop}{Q:Exit->Act->TW->Prop}{E:Prop} (C:o.guard=none)(s x:Operand)(t:TypeId)(D:o.op=Op.call { callee:=Callee.builtin Builtin.append,args:=#[s,x],argTypes:=#[t,t] }) (l:Nat)(e:TypeId)(i:TypeInfo)(z:TX)(b p:Nat)(F:P.underlying t=some (.s e))(G:P.info? e=some i)(I:i.zero=some z)(J:i.size=b)(L:i.bytes=p)(N:z.cells.size=b)(O:0<b) (v:TX)(n:Nat)(q:TV)(V:a.eval s=v)(Y:w.ownsRow l e b v n q) (A:Addr)(m c:Nat)(g:TV)(Z:a.eval x=.s (some A) m c)(hn:g.length=m*b)(hc:∀j u,g[j]?=some u->w.cell? (A.add j)=some u)(a0:∀u∈g,u.oneCell'=true) (b1:n+m<=maxLen)(b2:(n+m)*p<=140737488355328)(b3:l<=w.heap.size) (hK:∀f h,h.ownsRow l e b f (n+m) (q++g)->w.grownBy h v.ownBlock->(f.ownBlock=v.ownBlock\/f.ownBlock=some w.heap.size)->K (a.put o.dst f) h):if Region.wanted o (yielded B a.tmps)=true then Oper.wp P o a w K Q else E:=by
 have hw:Region.wanted o (yielded B a.tmps)=true:=by simp[Region.wanted,C]
 rw[Sp hw];obtain⟨f,h,a1,r1,r2,_,r3⟩:=run_append_own_at (P:=P) w l t o.type e i z b p F G I J L N O v n q Y A m c g hn hc a0 b1 b2 b3;unfold Oper.wp;simp[execOp,D,resolve,invoke,builtin,V,Z,a1,Result.andThen];exact hK f h r1 r2 r3
structure Ca where
 m:Nat
 p:Nat
 lo:List (Int × Int)
 st:List (Int × Int)
structure Do where
 cl:Int
 set:Bool
 vals:List (Int × Int)
structure Cs where
 os:List Ca
 ts:List Do
 made:Nat
 read:Nat
 out:List Int
 steps:Nat
 status:Int
 value:Int
end Go.Proofs.YtpcgnjolfahacaaGreat
