/- the proof's parts -/
import Derived.Test.YtpcgnjolfahacaaGreatPk10
set_option maxRecDepth 100000
set_option maxHeartbeats 40000000
set_option linter.unusedVariables false
set_option linter.unusedSimpArgs false
set_option linter.defProp false
namespace Go.Proofs.YtpcgnjolfahacaaGreat
open Go.RowKit Go.Proofs.Tryz
variable{x:Ca×Value×Value}{X:List Rw}{u:Nat}{w:TW}
structure Db where
 B:Nat
 w0:World
 f:RFl
 cs:List Rd.Cls
 ms:List Rd.Mth
 en:Int
 ia:Option Addr
 ic:Nat
 ins:List Int
 heap:Int
 depth:Int
 fuel:Int
structure Br where
 os:List (Ca × Value × Value)
 ts:List (Do × Value)
 made:Nat
 read:Nat
 out:List Int
 steps:Nat
 status:Int
 value:Int
 oa:Option Addr
 oc:Nat
 ta:Option Addr
 tc:Nat
 xa:Option Addr
 xc:Nat
def Br.d (M:Br):Cs:=⟨M.os.map Prod.fst,M.ts.map Prod.fst,M.made,M.read,M.out,M.steps,M.status,M.value⟩
def Fx (x:Ca × Value × Value):List Value:=[.int .i64 (x.1.m:Int),.int .i64 (x.1.p:Int),x.2.1,x.2.2]
def Iy (x:Do × Value):List Value:=[.int .i64 x.1.cl,.bool x.1.set,x.2]
def Dc (v:TX)(l:TP):Rw:=⟨240,2,v,l.length,Bu l⟩
def Br.cells(k:Db)(M:Br):List Value :=
 [.slice k.f.a1 k.f.l.length k.f.c1,.slice k.f.a2 k.f.ms.length k.f.c2,.int .i64 k.en,.slice k.ia k.ins.length k.ic,.int .i64 k.heap,.int .i64 k.depth,.int .i64 k.fuel,
 .slice M.oa M.os.length M.oc,.slice M.ta M.ts.length M.tc,.int .i64 (M.made:Int),.int .i64 (M.read:Int),.slice M.xa M.out.length M.xc,.int .i64 (M.steps:Int),.int .i64 M.status,.int .i64 M.value,.bool false]
def Lc (x:Ca × Value × Value):List Rw:=[Dc x.2.1 x.1.lo,Dc x.2.2 x.1.st]
def Kx (x:Do × Value):Rw:=Dc x.2 x.1.vals
def Br.rows(k:Db)(M:Br):List Rw :=
 ⟨115,16,.slice (some ⟨k.B,0,none⟩) 1 1,1,M.cells k⟩::⟨171,4,.slice M.oa M.os.length M.oc,M.os.length,M.os.reverse.flatMap Fx⟩ ::
 ⟨118,3,.slice M.ta M.ts.length M.tc,M.ts.length,M.ts.flatMap Iy⟩::⟨3,1,.slice M.xa M.out.length M.xc,M.out.length,M.out.map (Value.int .i64)⟩::(M.os.flatMap Lc++M.ts.map Kx)
abbrev Bm(k:Db)(M:Br)(X:List Rw)(w:World):Prop:=Own k.w0 (M.rows k++X) w
def Bm.cell{k:Db}{M:Br}(h:Bm k M X w){j:Nat}{u:TX}(b:(M.cells k)[j]?=some u):w.C k.B j u :=
 Own.see (i:=0) (L:=M.rows k++X) h Hd b
def Bm.sl{k:Db}{M:Br}(h:Bm k M X w){n j:Nat}{a b:TA}(e:a=b)(f:(M.cells k)[u]?=some (.s a n j)):w.C k.B u (.s b n j) :=
 (h.cell f).trans (by rw[e])
def Bm.fz{k:Db}{M:Br}(h:Bm k M X w)(j:Nat):w.frozen? (.a k.B j)=false :=
 Own.free (i:=0) (L:=M.rows k++X) h Hd j
def Bm.ltB{k:Db}{M:Br}(h:Bm k M X w):k.B<w.heap.size:=(Own.lt (i:=0) (L:=M.rows k++X) h Hd).2
def Sa(r:List (Ca×Value×Value)):(r.reverse.flatMap Fx).length=r.length*4:=by rw[Kq Fx 4 (fun _=>rfl)];simp
def Bfv(x:Ca×Value×Value)(r:List (Ca×Value×Value))(j:Nat):((x::r).reverse.flatMap Fx)[r.length*4+j]?=(Fx x)[j]?:=by
 rw[Bxj,Bwl,Bvt (by rw[Sa];omega),Sa,Bxr];simp
def Ww(x b:Ca×Value×Value)(r:List (Ca×Value×Value))(j:Nat)(u:TX)(h:(Fx x).set j u=Fx b):((x::r).reverse.flatMap Fx).set (r.length*4+j) u=(b::r).reverse.flatMap Fx:=by
 rw[Bxj,Bwl,Bw1 _ _ (by rw[Sa];omega),Sa,Bxr,Bxj,Bwl];simp[h]
def Bm.orow{k:Db}{M:Br}(h:Bm k M X w):w.ownsRow k.w0.heap.size 171 4 (.s M.oa M.os.length M.oc) M.os.length (M.os.reverse.flatMap Fx):=h.row ⟨_,_,_,_,_⟩ (Bv6 _ (Bv1 ..))
def Bm.hrow{k:Db}{M:Br}(h:Bm k M X w):w.ownsRow k.w0.heap.size 118 3 (.s M.ta M.ts.length M.tc) M.ts.length (M.ts.flatMap Iy):=h.row ⟨_,_,_,_,_⟩ (Bv6 _ (Bv6 _ (Bv1 ..)))
def Bm.xrow{k:Db}{M:Br}(h:Bm k M X w):w.ownsRow k.w0.heap.size 3 1 (.s M.xa M.out.length M.xc) M.out.length (M.out.map (Value.int .i64)):=h.row ⟨_,_,_,_,_⟩ (Bv6 _ (Bv6 _ (Bv6 _ (Bv1 ..))))
def Bm.lrow{k:Db}{M:Br}(h:Bm k M X w){r:List (Ca×Value×Value)}(b:M.os=x::r):w.ownsRow k.w0.heap.size 240 2 x.2.1 x.1.lo.length (Bu x.1.lo):=h.row (Dc x.2.1 x.1.lo) (by simp[Br.rows,b,Lc])
def Bm.srow{k:Db}{M:Br}(h:Bm k M X w){r:List (Ca×Value×Value)}(b:M.os=x::r):w.ownsRow k.w0.heap.size 240 2 x.2.2 x.1.st.length (Bu x.1.st):=h.row (Dc x.2.2 x.1.st) (by simp[Br.rows,b,Lc])
theorem Bm.last{k:Db}{M:Br}{w:World}(h:Bm k M X w){r:List (Ca×Value×Value)}(c:M.os=x::r):∃g,M.oa=some ⟨g,0,none⟩/\g<w.heap.size/\(∀j u,(Fx x)[j]?=some u->w.cell? ⟨g,r.length*4+j,none⟩=some u)/\∀j,w.frozen? ⟨g,j,none⟩=false:=by
 have b:=h.orow;obtain⟨g,e,l,_,f⟩:=Cf b (by rw[c];simp);refine⟨g,e,l,fun j u i=>?_,fun j=>?_⟩
 ·have m:=(List.getElem?_eq_some_iff.1 i).1;rw[c]at f;rw[f _ (by
   rw[Kq Fx 4 (fun _=>rfl)];have:j<4:=m;simp;omega),Bfv,i]
 rw[e]at b;exact World.ownsRow.frozenAt b j
def Bm.fok{k:Db}{M:Br}(h:Bm k M X w)(b:k.f.ok k.w0):k.f.ok w:=b.below h.low
def Bm.below{k:Db}{M:Br}{b:TW}(h:Bm k M X w)(c:Bl w b):Bm k M X b:=Own.below h c
def Tryz.infoVal:(prog.info? 240).map (fun i=>(i.zero,i.size,i.bytes))=some (some (.agg #[.i 0,.i 0]),2,16):=Le
def Br.put(M:Br)(os:List (Ca × Value × Value)):Br:=⟨os,M.ts,M.made,M.read,M.out,M.steps,M.status,M.value,M.oa,M.oc,M.ta,M.tc,M.xa,M.xc⟩
def Brw{k:Db}{M:Br}{w9:TW}{o:Ca}{lv sv sv':TX}{r:List (Ca×Value×Value)}{v:Int×Int}(h:Bm k M X w)(f:M.os=(o,lv,sv)::r)(l:M.oa=some ⟨u,0,none⟩) (q:w9.ownsRow k.w0.heap.size 240 2 sv' (o.st.length+1) (Bu o.st++[.i v.1,.i v.2]))(t:w.grownBy w9 sv.ownBlock)(z:sv'.ownBlock=sv.ownBlock\/sv'.ownBlock=some w.heap.size):(w9.C k.B 7 (.s (.p u) (r.length+1) M.oc))/\(w9.C u (r.length*4+3) sv)/\w9.frozen? (.a u (r.length*4+3))=false/\Bm k (M.put ((⟨o.m,o.p,o.lo,o.st++[v]⟩,lv,sv')::r)) X (w9.setCell (.a u (r.length*4+3)) sv'):=by
 obtain⟨I,J,K,L,N,O,Q,V,Y,Z,ta,tc,xa,xc⟩:=M;simp only at f l;subst f l;have b:=Own.app (i:=5) h Hd q t z;have A:=Own.see (i:=0) (j:=7) b Hd Hd;have D:=Own.see (i:=1) (j:=r.length*4+3) b Hd (Bfv _ _ _);have F:=Own.free (i:=1) b Hd (r.length*4+3);have e:Bu (o.st++[v])=Bu o.st++[.i v.1,.i v.2]:=Xd _ _;have c:=Own.cellE (i:=1) b Hd (Ww (o,lv,sv) (⟨o.m,o.p,o.lo,o.st++[v]⟩,lv,sv') r 3 sv' rfl);rw[<- e]at c;have G:(o.st++[v]).length=o.st.length+1:=Fr;rw[<- G]at c;exact⟨A,D,F,c⟩
def RFl.stk{f:RFl}(b:f.ok w){k:Nat}(c:k<f.ms.length):∃g,f.a2=some ⟨g,0,none⟩/\g<w.heap.size/\w.C g (k*12+6) (.i f.ms[k].1.m.stack):=by
 obtain⟨m,g,e,h,j,l⟩:=RFl.mth b c;refine⟨g,e,h,?_⟩;rw[<- l.st];exact j 6 _ rfl
def Buz{k:Db}{M:Br}(z:k.f.ok k.w0){o:Ca}{lv sv:TX}{r:List (Ca×Value×Value)}(h:Bm k (M.put ((o,lv,sv)::r)) X w)(A:o.m<k.f.ms.length){b:Nat}(c:M.oa=some ⟨u,0,none⟩)(l:k.f.a2=some ⟨b,0,none⟩):w.C k.B 7 (.s (.p u) (r.length+1) M.oc)/\w.C k.B 1 (.s (.p b) k.f.ms.length k.f.c2)/\w.C u (r.length*4) (.i (o.m:Int))/\w.C u (r.length*4+3) sv/\w.C b (o.m*12+6) (.i k.f.ms[o.m].1.m.stack):=by
 obtain⟨D,F,_,q,_⟩:=h.last rfl;obtain⟨G,I,_,J⟩:=RFl.stk (h.fok z) A;have e:D=u:=by
  have:=F.symm.trans (show (M.put ((o,lv,sv)::r)).oa=_ from c);simpa using this
 have K:G=b:=by
  have:=I.symm.trans l;simpa using this
 subst e K;have L:=h.cell (j:=7) Hd;have t:=h.cell (j:=1) Hd;rw[l]at t;have v:w.C k.B 7 (.s M.oa (r.length+1) M.oc):=L;rw[c]at v;exact⟨v,t,q 0 _ rfl,q 3 _ rfl,J⟩
theorem Ju(k:Db)(M:Br)(X:List Rw)(o:Ca)(lv sv:Value)(r:List (Ca×Value×Value))(a b:Int)(w:World)(hf:k.f.ok k.w0)(h:Bm k M X w)(s:M.os=(o,lv,sv)::r)(hm:o.m<k.f.ms.length)(hl:(o.st.length:Int)<k.f.ms[o.m].1.m.stack)(hr:r.length<=1000)(hs:o.st.length<=1000):Calls prog 147 #[.pointer (some ⟨k.B,0,none⟩),.agg #[.int .i64 a,.int .i64 b]] w fun e t=>e=.returned (.tuple #[])/\∃sv',Bm k (M.put ((⟨o.m,o.p,o.lo,o.st++[(a,b)]⟩,lv,sv')::r)) X t:=by
 obtain⟨i0,hi,a9,b0,b1⟩:=Bv4 Tryz.infoVal;have q:Bm k M X (w.alloc (O34 a b)):=h.below (QN _);have V:=Bf w (O34 a b);have I:(w.alloc (O34 a b)).cell? ⟨w.heap.size,0,none⟩=some (.int .i64 a):=(Bb V 0).trans rfl;have J:(w.alloc (O34 a b)).cell? ⟨w.heap.size,1,none⟩=some (.int .i64 b):=(Bb V 1).trans rfl;obtain⟨sa,sc,b2⟩:∃a c,sv=.slice a o.st.length c:=Bg (q.srow s);subst b2;obtain⟨g,A,b3,a6,b4⟩:=q.last s;have L:(w.alloc (O34 a b)).cell? ⟨k.B,7,none⟩=some (.slice (some ⟨g,0,none⟩) (r.length+1) M.oc):=by
  rw[<- A,show r.length+1=M.os.length by rw[s];rfl];exact q.cell Hd
 have g3:=a6 3 _ rfl;have b5:=q.ltB;have a8:=q.srow s;have b7:=h.low.size;have Y:some w.heap.size≠(Value.slice sa o.st.length sc).ownBlock:=fun e=>by have:=((h.srow s).lt _ e.symm).2;omega
 have HP:=Bc (fun (t w9:World) sv' (hb:Below (w.alloc (O34 a b)).heap.size (w.alloc (O34 a b)) t) ho hk N=>Brw (v:=(a,b)) (w9:=w9) (sv':=sv') (q.below hb) s A ho hk N);have Z:some w.heap.size≠some g:=fun e=>by
  obtain⟨g',C,e2,_⟩:=h.last s;rw[A]at C;simp at C e;omega
 obtain⟨fg,b6,b8,b9⟩:=RFl.stk (q.fok hf) hm;have HS:=Bc (fun (w9:World) (sv':Value) (D:Bm k (M.put ((⟨o.m,o.p,o.lo,o.st++[(a,b)]⟩,lv,sv')::r)) X w9)=>Buz hf D hm A b6);clear h a6 b4 A;have c0:IntKind.i64.wrap (((r.length+1:Nat):Int)-1)=(r.length:Int):=by rw[show ((r.length+1:Nat):Int)-1=(r.length:Int) by omega];exact Eg _ Bd Bd
 generalize hn:o.st.length=n at *;generalize r.length=l at *;have ri:(l:Int)<(l:Int)+1:=Bd;have O:=fun z=>(Bwg (w.alloc (O34 a b)) z ⟨k.B,7,none⟩ b5).trans L;have F:=fun z=>(Bwg (w.alloc (O34 a b)) z ⟨w.heap.size,0,none⟩ Fr).trans I;have G:=fun z=>(Bwg (w.alloc (O34 a b)) z ⟨w.heap.size,1,none⟩ Fr).trans J;have a3:=fun z=>(Bwg (w.alloc (O34 a b)) z ⟨g,l*4+3,none⟩ b3).trans g3;go_in;go_wp2_with fail
 go_upto_region 2 with fail
 refine Bvz (S:=fun t=>t.cell? ⟨k.B,7,none⟩=some (.slice (some ⟨g,0,none⟩) (l+1) M.oc)/\t.cell? ⟨w.heap.size,0,none⟩=some (.int .i64 a)/\t.cell? ⟨w.heap.size,1,none⟩=some (.int .i64 b)) Le ⟨L,I,J⟩ (fun i=>?_);refine tq 0 (.pointer (some ⟨k.B,0,none⟩)) i ?_;refine tq 1 (.pointer (some ⟨k.B,0,none⟩)) i ?_;refine tq 2 (.pointer (some ⟨k.B,7,none⟩)) i ?_;refine tq 3 (.slice (some ⟨g,0,none⟩) (l+1) M.oc) i ?_;refine tq 4 (.int .i64 (l:Int)) i ?_;refine tq 5 (.pointer (some ⟨k.B,0,none⟩)) i ?_;refine tq 6 (.pointer (some ⟨k.B,0,none⟩)) i ?_;refine tq 7 (.pointer (some ⟨k.B,7,none⟩)) i ?_;refine tq 8 (.slice (some ⟨g,0,none⟩) (l+1) M.oc) i ?_;refine tq 9 (.int .i64 (l:Int)) i ?_;refine tq 10 (.pointer (some ⟨g,l*4,none⟩)) i ?_;refine tq 11 (.pointer (some ⟨g,l*4+3,none⟩)) i ?_;refine tq 13 (.agg #[.int .i64 a,.int .i64 b]) i ?_;refine Bw7 (rs:=[12,14]) Le Fr ?_;refine Bv3 (o:=⟨_,_,_,_,_,_⟩) rfl (fun K j=>?_) (Bv3 (o:=⟨_,_,_,_,_,_⟩) rfl (fun K j=>?_) Bw2);go_simp;refine j.out _ _ ⟨L,I,J⟩ (fun i=>?_);clear j K
 try simp only[QX]
 refine tr 14 fun K j=>?_;go_simp;refine j.out _ _ ⟨O _,F _,G _⟩ (fun i=>?_);clear j K
 try simp only[QX]
 rotate_left
 go_simp;refine j.out _ _ ⟨O _,F _,G _⟩ (fun i=>?_);clear j K
 try simp only[QX]
 refine tr 12 fun K j=>?_;go_simp;refine j.out _ _ ⟨O _,F _,G _⟩ (fun i=>?_);clear j K
 try simp only[QX]
 all_goals
  refine tr 15 fun K j=>?_;refine Bds Hd _ _ _ Hd k.w0.heap.size 240 i0 _ 2 16 By0 hi a9 b0 b1 rfl Bd _ _ _ Hd ((a8.alloc _).drew) ⟨w.heap.size+1,0,none⟩ 1 1 [.int .i64 a,.int .i64 b] Hd Hd (Dv (w.alloc (O34 a b)) _ _ _ Fr) (by simp[Value.oneCell']) Mc Bd Fm ?_;intro v' w9 a2 Q N;obtain⟨a4,a5,rfl⟩:=Bg a2;obtain⟨C,e2,e3,D⟩:=Ba HP _ _ _ ((QN _).drew) a2 Q N;have e4:=Q.cell (F _) Y;have e5:=Q.cell (G _) Y;have s0:=(Xk w9 ⟨g,l*4+3,none⟩ (.slice a4 (n+1) a5)).cell e4 Z;have s1:=(Xk w9 ⟨g,l*4+3,none⟩ (.slice a4 (n+1) a5)).cell e5 Z;obtain⟨d7,d1,d0,d3,dm⟩:=Ba HS _ _ D;have HA:=Bc D;clear Q a2 N D;refine j.out _ _ ⟨C,e4,e5⟩ (fun i=>?_);clear j K
  try simp only[QX]
  refine tq 16 (.pointer (some ⟨g,l*4,none⟩)) i ?_;refine tq 17 (.pointer (some ⟨g,l*4+3,none⟩)) i ?_;refine tr 18 fun K j=>?_;go_simp;refine j.out _ _ ⟨d7,s0,s1⟩ (fun i=>?_);clear j K
  try simp only[QX]
  refine Bv9 Le ?_ _;clear i s0 s1 C e2 e3 e4 e5 O F G a3 L g3 I J a8 HP HS V q Y Z;generalize w9.setCell ⟨g,l*4+3,none⟩ (.slice a4 (n+1) a5)=w8 at *;go_wp2;go_quiet (fail);go_wp2;go_end0;exact⟨rfl,_,(Ba HA).drewN _⟩
def TyR.stays{b:TW}{i:TX}{q:TP}(h:TyR w i q)(p:∀(j:Nat) (f:Array Value),w.heap[j]?=some (Obj.cells f 31 (0,0))->b.heap[j]?=w.heap[j]?):TyR b i q:=by
 rcases h with h|⟨g,o,c,f,s,m,t,z,A⟩
 ·exact .inl h
 have e:=p g f m;exact .inr ⟨g,o,c,f,s,e.trans m,t,z,fun j x B=>by rw[Bvj (a:=⟨g,o+j,none⟩) e];exact A j x B⟩
def Bt5{f j n g c:Nat}{e:TV}(h:w.ownsRow u f j (.s (.p g) n c) n e):∃l,w.heap[g]?=some (.cells l f (0,0)):=by
 obtain⟨_,⟨i,_⟩|⟨q,t,l,i,_,m,_⟩⟩:=h
 ·simp at i
 simp only[Value.slice.injEq,Option.some.injEq,Addr.mk.injEq,Bwb]at i;obtain⟨rfl,_⟩:=i;exact⟨l,m⟩
def Bcv{p:Array Oper}{q:List Oper}{o:Oper}{a:Act}{Q:Exit->Act->TW->Prop}(t:o.guard=none)(s x:Operand) (v:o.op=.call { callee:=.builtin .append,args:=#[s,x],argTypes:=#[116,116] })(z:a.eval s=.s none 0 0)(l:TP)(g i c:Nat)(A:a.eval x=.s (some ⟨g,i,none⟩) l.length c) (B:∀j u,(Bu l)[j]?=some u->w.C g (i+j) u)(N:l.length<=100000) (h:∀f vc b,b.ownsRow w.heap.size 240 2 (.s f l.length vc) l.length (Bu l)->Bl w b->wpList prog p Q q (a.put o.dst (.s f l.length vc)) b):wpList prog p Q (o::q) a w:=by
 obtain⟨D,F,G,I,J⟩:=Bv4 Tryz.infoVal;refine Bvw w t s x _ v w.heap.size 240 D _ 2 16 By0 F G I J rfl Bd _ 0 [] z (Bvl _ _ _ _) ⟨g,i,none⟩ l.length c (Bu l) A (Kc l) ?_ (Va l) Mc Bd (Wf _) ?_
 ·intro j u K;rw[Bz3];exact B j u K
 intro O b m e _;rw[Bvp,Bx4]at m;obtain⟨f,vc,rfl⟩:=Bg m;exact h f vc b m ⟨e.os,e.tape,e.output,e.size,fun j L=>e.block j L (by simp[Value.ownBlock])⟩
def Bve{k:Db}{M:Br}{o:Ca}{lv:TX}{l:TA}{r:List (Ca×Value×Value)}{q a:TP}{s:Nat}(h:Bm k M X w)(c:M.os=(o,lv,.s l o.st.length u)::r)(f:o.st=q++a)(t:M.oa=some ⟨s,0,none⟩):Bm k (M.put ((⟨o.m,o.p,o.lo,q⟩,lv,.s l q.length u)::r)) X (w.setCell (.a s (r.length*4+3)) (.s l q.length u))/\(w.setCell (.a s (r.length*4+3)) (.s l q.length u)).C k.B 7 (.s (.p s) (r.length+1) M.oc) /\ ∀(j:Nat) (v:Array Value),w.heap[j]?=some (Obj.cells v 31 (0,0))->(w.setCell (.a s (r.length*4+3)) (.s l q.length u)).heap[j]?=w.heap[j]?:=by
 obtain⟨G,I,J,K,L,N,O,Q,V,Y,Z,tc,xa,xc⟩:=M;simp only at c t;subst c t;have A:q.length<=o.st.length:=by rw[f];simp
 have D:=Own.cut (i:=5) (n':=q.length) h Hd A;have b:=Own.cellE (i:=1) D Hd (Ww (o,lv,.s l o.st.length u) (⟨o.m,o.p,o.lo,q⟩,lv,.s l q.length u) r 3 (.s l q.length u) rfl);have e:(Bu o.st).take (q.length*2)=Bu q:=by rw[<- Bak,f];simp
 rw[e]at b;refine⟨b,Own.see (i:=0) (j:=7) b Hd Hd,fun j v F=>?_⟩;obtain⟨c2,z⟩:=Bt5 (Bm.orow h);refine Bvg _ _ _ _ (fun e=>?_);simp only at e;rw[<- e,F]at z;simp at z
def Tf(k:Db)(M:Br)(X:List Rw)(o:Ca)(lv sv:TX)(r:List (Ca×Value×Value))(s a:TP)(w:TW)(h:Bm k M X w)(I:M.os=(o,lv,sv)::r)(N:o.st=s++a)(hr:r.length<=1000)(hs:o.st.length<=1000):Calls prog 144 #[.q k.B 0,.i (a.length:Int)] w fun e F=>∃O vc a9,e=.r (.s O a.length vc)/\Bm k (M.put ((⟨o.m,o.p,o.lo,s⟩,lv,a9)::r)) (Dc (.s O a.length vc) a::X) F/\∀v l,TyR w v l->TyR F v l:=by
 obtain⟨sa,G,b0⟩:∃a c,sv=.s a o.st.length c:=Bg (h.srow I);subst b0;obtain⟨g,hg,Q,a7,a2⟩:=h.last I;have V:w.C k.B 7 (.s (.p g) (r.length+1) M.oc):=(h.sl hg Hd).trans (by rw[I];rfl);have g3:w.C g (r.length*4+3) (.s sa o.st.length G):=a7 3 _ rfl;have a3:=h.ltB;have b4:IntKind.i64.wrap (((r.length+1:Nat):Int)-1)=(r.length:Int):=by rw[show ((r.length+1:Nat):Int)-1=(r.length:Int) by omega];exact Eg _ Bd Bd
 have a1:o.st.length=s.length+a.length:=by rw[N];simp
 have b5:IntKind.i64.wrap ((o.st.length:Int)-(a.length:Int))=(s.length:Int):=by rw[a1,show ((s.length+a.length:Nat):Int)-(a.length:Int)=(s.length:Int) by omega];exact Eg _ Bd Bd
 have a0:w.ownsRow k.w0.heap.size 240 2 (.s sa o.st.length G) o.st.length (Bu o.st):=h.srow I;have Z:=Bc (fun (Y:List Rw) (F:TW) (h':Bm k M Y F)=>Bve h' I N hg);have HN:=Bc (fun (v:TX) (F:TW) (hB:Bl w F) (ho:F.ownsRow w.heap.size 240 2 v a.length (Bu a))=>Own.add_new (r:=Dc v a) h hB ho);clear a7;generalize a4:r.length=f at *;generalize hn:o.st.length=n at *;generalize hm:a.length=m at *;generalize hq:s.length=q at *;have ri:(f:Int)<(f:Int)+1:=Bd;have q0:(q:Int)<=(n:Int):=Bd;have q1:¬((q:Int)<0):=Bd;rcases a0.2 with ⟨hv,hz⟩|⟨gs,b6,b8,hv,_,b9,b1,_,_,_⟩
 ·simp only[Value.slice.injEq]at hv;obtain⟨rfl,rfl,rfl⟩:=hv;obtain rfl:q=0:=Bd;obtain rfl:m=0:=Bd;obtain rfl:=Bwc hm;clear a0 I h N a1 hm hn hq a4;go_in;go_wp2_with fail;have t:=Vm w.heap.size w;have J:Bm k M (Dc (.s none 0 0) []::X) w:=Own.mid ((Ba HN) _ _ t (Bvl _ _ _ _));obtain⟨A,b7,D⟩:=Ba Z _ _ J;have L:=(t.cell (p:=.a k.B 7) a3).trans V;have d3:=(t.cell (p:=.a g (f*4+3)) Q).trans g3;have f3:=(t.frozen (p:=.a g (f*4+3)) Q).trans (a2 _);have HF:=Bc (Bxh A (Bxh t D));clear J A D t V g3 Z HN;refine Bvz (S:=fun F=>F.C k.B 7 (.s (.p g) (f+1) M.oc)) Le L (fun b=>?_);refine tq 0 (.q k.B 0) b ?_;refine tq 1 (.q k.B 0) b ?_;refine tq 2 (.q k.B 7) b ?_;refine tq 3 (.s (.p g) (f+1) M.oc) b ?_;refine tq 4 (.i (f:Int)) b ?_;refine tq 5 (.q k.B 0) b ?_;refine tq 6 (.q k.B 0) b ?_;refine tq 7 (.q k.B 7) b ?_;refine tq 8 (.s (.p g) (f+1) M.oc) b ?_;refine tq 9 (.i (f:Int)) b ?_;refine tq 10 (.q g (f*4)) b ?_;refine tq 11 (.q g (f*4+3)) b ?_;refine tq 13 (.i 0) b ?_;refine tr 12 fun K z=>?_;go_simp;refine z.out _ _ L (fun b=>?_);clear z K
  try simp only[QX]
  refine tq 14 (.s none 0 0) b ?_;refine tq 15 (.q g (f*4)) b ?_;refine tq 16 (.q g (f*4+3)) b ?_;refine tr 17 fun K z=>?_;go_simp;refine z.out _ _ b7 (fun b=>?_);clear z K
  try simp only[QX]
  refine Bv9 Le ?_ _;clear b;go_wp2;go_ret;obtain⟨A,t,D⟩:=Ba HF;exact⟨_,_,_,rfl,A.drew,fun v l h=>(h.below t).stays D⟩
 simp only[Value.slice.injEq,Byl]at hv;obtain⟨rfl,rfl⟩:=hv;have n1:(n:Int)<=(G:Int):=Bd;have a5:=fun j u hu=>World.ownsRow.cells a0 rfl j u hu;have a8:Hid (∀j u,(Bu a)[j]?=some u->w.C gs (q*2+j) u):=fun j u hu=>by
  have:=a5 (q*2+j) u (by rw[N,Ml,Bvt (by rw[Kc,hq];omega),Kc,hq,Bxr];exact hu);rw[Bz3,Bvp]at this;exact this
 by_cases b2:G=q
 ·subst b2;obtain rfl:m=0:=Bd;obtain rfl:G=n:=Bd;obtain rfl:=Bwc hm;clear a0 a5 a8 I h N a1 hm hn hq a4 b1;go_in;go_wp2_with (at_builtin;refine Bcv rfl _ _ rfl rfl [] gs 0 0 Hd (fun j u h=>by simp[Bu]at h) (Bv5 _) ?_)
  intro O vc w1 a6 t;have J:Bm k M (Dc (.s O 0 vc) []::X) w1:=Own.mid ((Ba HN) _ _ t a6);obtain⟨A,b7,D⟩:=Ba Z _ _ J;have L:=(t.cell (p:=.a k.B 7) a3).trans V;have d3:=(t.cell (p:=.a g (f*4+3)) Q).trans g3;have f3:=(t.frozen (p:=.a g (f*4+3)) Q).trans (a2 _);have HF:=Bc (Bxh A (Bxh t D));clear J A D t V g3 Z HN
  go_upto_region 8 with fail
  refine Bvz (S:=fun F=>F.C k.B 7 (.s (.p g) (f+1) M.oc)) Le L (fun b=>?_);refine tq 0 (.q k.B 0) b ?_;refine tq 1 (.q k.B 0) b ?_;refine tq 2 (.q k.B 7) b ?_;refine tq 3 (.s (.p g) (f+1) M.oc) b ?_;refine tq 4 (.i (f:Int)) b ?_;refine tq 5 (.q k.B 0) b ?_;refine tq 6 (.q k.B 0) b ?_;refine tq 7 (.q k.B 7) b ?_;refine tq 8 (.s (.p g) (f+1) M.oc) b ?_;refine tq 9 (.i (f:Int)) b ?_;refine tq 10 (.q g (f*4)) b ?_;refine tq 11 (.q g (f*4+3)) b ?_;refine tq 13 (.i (G:Int)) b ?_;refine tr 12 fun K z=>?_;go_simp;refine z.out _ _ L (fun b=>?_);clear z K
  try simp only[QX]
  refine tq 14 (.s (.p gs) G G) b ?_;refine tq 15 (.q g (f*4)) b ?_;refine tq 16 (.q g (f*4+3)) b ?_;refine tr 17 fun K z=>?_;go_simp;refine z.out _ _ b7 (fun b=>?_);clear z K
  try simp only[QX]
  refine Bv9 Le ?_ _;clear b;go_wp2;go_ret;obtain⟨A,t,D⟩:=Ba HF;exact⟨_,_,_,rfl,A.drew,fun v l h=>(h.below t).stays D⟩
 have b3:Hid (a.length=n-q):=show a.length=n-q by omega
 have HM:=Bc (fun (_:Unit)=>hm);have m5:m<=100000:=Bd;have q2:¬G<q:=Bd;clear a0 a5 I h N a1 hm hn hq a4;go_in;go_wp2_with (at_builtin;refine Bcv rfl _ _ rfl rfl a gs (q*2) (G-q) (by rw[Ba b3];rfl) (Ba a8) (by rw[Ba HM ()];exact m5) ?_)
 rw[Ba HM ()];intro O vc w1 a6 t;have J:Bm k M (Dc (.s O m vc) a::X) w1:=Own.mid ((Ba HN) _ _ t a6);obtain⟨A,b7,D⟩:=Ba Z _ _ J;have L:=(t.cell (p:=.a k.B 7) a3).trans V;have d3:=(t.cell (p:=.a g (f*4+3)) Q).trans g3;have f3:=(t.frozen (p:=.a g (f*4+3)) Q).trans (a2 _);have HF:=Bc (Bxh A (Bxh t D));clear J A D t V g3 Z HN
 go_upto_region 8 with fail
 refine Bvz (S:=fun F=>F.C k.B 7 (.s (.p g) (f+1) M.oc)) Le L (fun b=>?_);refine tq 0 (.q k.B 0) b ?_;refine tq 1 (.q k.B 0) b ?_;refine tq 2 (.q k.B 7) b ?_;refine tq 3 (.s (.p g) (f+1) M.oc) b ?_;refine tq 4 (.i (f:Int)) b ?_;refine tq 5 (.q k.B 0) b ?_;refine tq 6 (.q k.B 0) b ?_;refine tq 7 (.q k.B 7) b ?_;refine tq 8 (.s (.p g) (f+1) M.oc) b ?_;refine tq 9 (.i (f:Int)) b ?_;refine tq 10 (.q g (f*4)) b ?_;refine tq 11 (.q g (f*4+3)) b ?_;refine tq 13 (.i (q:Int)) b ?_;refine tr 12 fun K z=>?_;go_simp;refine z.out _ _ L (fun b=>?_);clear z K
 try simp only[QX]
 refine tq 14 (.s (.p gs) q G) b ?_;refine tq 15 (.q g (f*4)) b ?_;refine tq 16 (.q g (f*4+3)) b ?_;refine tr 17 fun K z=>?_;go_simp;refine z.out _ _ b7 (fun b=>?_);clear z K
 try simp only[QX]
 refine Bv9 Le ?_ _;clear b;go_wp2;go_ret;obtain⟨A,t,D⟩:=Ba HF;exact⟨_,_,_,rfl,A.drew,fun v l h=>(h.below t).stays D⟩
structure Cr where
 cs:List Rd.Cls
 ms:List Rd.Mth
 ins:List Int
 heap:Int
 depth:Int
abbrev Cr.T(E:Cr):List Int:=Tr.tree E.cs
def Cr.meth(E:Cr)(n:Nat):Rd.Mth:=E.ms.getD n Eu
def Cr.all(E:Cr)(c:Int):List (Int × Int):=Rf.all E.T (Rf.given++E.cs) c.toNat
def Cr.fld(E:Cr)(n:Int):Rf.Fld:=(Cq E.cs).getD n.toNat ⟨0,0,(0,0)⟩
def Baf:Do:=⟨0,false,[]⟩
def Cc (ts:List Do)(n:Int):Do:=ts.getD n.toNat Baf
def J3 (T:TI)(ts:List Do)(v t:Int × Int):Bool :=
 if t.1=1 then v.1==1 else if v.1=2 then (if v.2=0 then true else (Cc ts v.2).set&&Tr.rbel T (Cc ts v.2).cl t.2) else false
def Hw (T:TI)(ts:List Do):TP->TP->Bool
 | v::a,t::b=>J3 T ts v t&&Hw T ts a b
 | [],[]=>true
 | _,_=>false
abbrev Cg(a:List (Int × Int)):Int × Int:=a.getD 0 (0,0)
abbrev Ib(a:List (Int × Int)):Int × Int:=a.getD 1 (0,0)
def Dn (E:Cr)(d:Cs)(op n:Int)(a:TP):Int :=
 if op=10 then (if (Ib a).2=0 then 1 else 0)
 else if op=17\/op=18 then (if (Cg a).2=0 then 2 else 0)
 else if op=21 then (if (Cg a).2=0 then 2 else if E.depth<=(d.os.length:Int) then 5 else 0)
 else if op=23 then (if (Cg a).2=0 then 2 else (Cg a).2)
 else if op=15 then (if E.heap<=(d.made:Int) then 4 else 0)
 else if op=19 then (if J3 E.T d.ts (Cg a) (3,n)=true then 0 else 3)
 else if op=20 then (if E.depth<=(d.os.length:Int) then 5 else 0)
 else 0
def Gz (T:TI)(cl:Int)(p:Nat):List Rd.Hnd->Option Int
 | []=>none
 | h::r=>if h.frm<=(p:Int)/\(p:Int)<h.til/\Tr.rbel T cl h.cl=true then some h.target else Gz T cl p r
def Ga (E:Cr)(n cl:Int)(d:Cs):List Ca->Cs
 | []=>⟨[],d.ts,d.made,d.read,d.out,d.steps,2,cl⟩
 | o::r=>match Gz E.T cl o.p (E.meth o.m).handlers with
  | some t=>⟨⟨o.m,t.toNat,o.lo,[(2,n)]⟩::r,d.ts,d.made,d.read,d.out,d.steps,d.status,d.value⟩
  | none=>Ga E n cl d r
def Jv (v:Int):Int:=if 2147483647<v.tmod 4294967296 then v.tmod 4294967296-4294967296 else if v.tmod 4294967296 < -2147483648 then v.tmod 4294967296+4294967296 else v.tmod 4294967296
def Jl (op a b:Int):Int :=
 if op=7 then Jv (a+b) else if op=8 then Jv (a-b) else if op=9 then Jv (a*b) else if b=0 then 0 else Jv (a.tdiv b)
def Hv (E:Cr)(n:Nat)(a:TP):Ca:=⟨n,0,a++List.replicate ((E.meth n).locals.toNat-a.length) (0,0),[]⟩
def Fd (E:Cr)(c name:Int):List Rd.Mth->Nat->Nat->Nat
 | [],_,b=>b
 | m::r,i,b=>if m.cl≠255/\m.name=name/\Tr.rbel E.T c m.cl=true/\(E.meth b).cl<m.cl then Fd E c name r (i+1) i else Fd E c name r (i+1) b
def Px (E:Cr)(d:Cs)(n o:Int):Nat:=Fd E (Cc d.ts o).cl (E.meth n.toNat).name E.ms 0 n.toNat
def Ch (E:Cr)(o:Ca):Nat:=o.p+Cd.wd ((E.meth o.m).code.getD o.p 0)
def Ii (op:Int)(a:TP):Bool:=op==11 || (op==12&&(Cg a).2==0) || (op==14&&(Cg a).2==0) || (op==13&&decide ((Cg a).2<(Ib a).2))
def Cs.top(d:Cs)(o:Ca)(r:List Ca):Cs:=⟨o::r,d.ts,d.made,d.read,d.out,d.steps,d.status,d.value⟩
def Cs.with(d:Cs)(ts:List Do)(o:Ca)(r:List Ca):Cs:=⟨o::r,ts,d.made,d.read,d.out,d.steps,d.status,d.value⟩
def Mr (E:Cr)(d:Cs)(op n:Int)(a:TP):Int × Int :=
 if op=0 then (1,if 127<n then n-256 else n) else if op=1 then (2,0) else if op=19 then Cg a
 else if op=17 then (Cc d.ts (Cg a).2).vals.getD (E.fld n).slot.toNat (0,0)
 else (1,Jl op (Cg a).2 (Ib a).2)
def It (n:Nat)(v:Int × Int):Prop:=v=(0,0)\/(v.1=1/\-2147483648<=v.2/\v.2<=2147483647)\/(v.1=2/\0<=v.2/\v.2<(n:Int))
section
variable (E:Cr) (d:Cs) (o:Ca) (r:List Ca) (op n:Int) (a:List (Int × Int))
abbrev Bp.r0(P:Cs->Prop):Prop:=op=20->0<=n->n.toNat<E.ms.length->(a.length:Int)<=(E.meth n.toNat).locals->P (d.top (Hv E n.toNat a) (o::r))
abbrev Bp.r1(P:Cs->Prop):Prop:=op=21->0<=n->n.toNat<E.ms.length->0<a.length->0<=(Cg a).2->(Cg a).2<(d.ts.length:Int)->(a.length:Int)<=(E.meth (Px E d n (Cg a).2)).locals->P (d.top (Hv E (Px E d n (Cg a).2) a) (o::r))
abbrev Bp.r2(P:Cs->Prop):Prop:=op=22->r=[]->((E.meth o.m).result.1=1->0<a.length)->P ⟨[],d.ts,d.made,d.read,d.out,d.steps,0,if (E.meth o.m).result.1=1 then (Cg a).2 else 0⟩
abbrev Bp.r3(P:Cs->Prop):Prop:=∀(q:Ca) (r':List Ca),op=22->r=q::r'->a.length<=1->q.p<(E.meth q.m).code.length->((q.st.length+a.length:Nat):Int)<=(E.meth q.m).stack->P (d.top ⟨q.m,Ch E q,q.lo,q.st++a⟩ r')
abbrev Bp.r4(P:Cs->Prop):Prop:=11<=op->op<=14->(op=13->2<=a.length)->(op≠11->1<=a.length)->0<=n->Ii op a=true->P (d.top ⟨o.m,n.toNat,o.lo,o.st⟩ r)
abbrev Bp.r5(P:Cs->Prop):Prop:=12<=op->op<=14->(op=13->2<=a.length)->1<=a.length->Ii op a=false->P (d.top ⟨o.m,Ch E o,o.lo,o.st⟩ r)
abbrev Bp.r6(P:Cs->Prop):Prop:=op=2->0<=n->n<(o.lo.length:Int)->(o.lo.getD n.toNat (0,0)).1≠0->(o.st.length:Int)<(E.meth o.m).stack->P (d.top ⟨o.m,Ch E o,o.lo,o.st++[o.lo.getD n.toNat (0,0)]⟩ r)
abbrev Bp.r7(P:Cs->Prop):Prop:=∀(s:List (Int × Int)) (v:Int × Int),op=3->0<=n->n<(o.lo.length:Int)->o.st=s++[v]->P (d.top ⟨o.m,Ch E o,o.lo.set n.toNat v,s⟩ r)
abbrev Bp.r8(P:Cs->Prop):Prop:=∀(s:List (Int × Int)) (v:Int × Int),op=4->o.st=s++[v]->P (d.top ⟨o.m,Ch E o,o.lo,s⟩ r)
abbrev Bp.r9(P:Cs->Prop):Prop:=∀(s:List (Int × Int)) (v:Int × Int),op=5->o.st=s++[v]->((s.length+2:Nat):Int)<=(E.meth o.m).stack->P (d.top ⟨o.m,Ch E o,o.lo,s++[v,v]⟩ r)
abbrev Bp.r10(P:Cs->Prop):Prop:=∀(s:List (Int × Int)) (u v:Int × Int),op=6->o.st=s++[u,v]->((s.length+2:Nat):Int)<=(E.meth o.m).stack->P (d.top ⟨o.m,Ch E o,o.lo,s++[v,u]⟩ r)
abbrev Bp.r11(P:Cs->Prop):Prop:=op=15->(o.st.length:Int)<(E.meth o.m).stack->P ⟨⟨o.m,Ch E o,o.lo,o.st++[(2,(d.ts.length:Int))]⟩::r,d.ts++[⟨n,false,[]⟩],d.made+1,d.read,d.out,d.steps,d.status,d.value⟩
abbrev Bp.r12(P:Cs->Prop):Prop:=∀(s vs:List (Int × Int)) (k:Nat) (vals:List (Int × Int)),op=16->0<=n->n.toNat<E.T.length->o.st=s++(2,(k:Int))::vs->Hw E.T d.ts vs (E.all n)=true->(∀v∈vs,It d.ts.length v)->0<k->d.ts[k]?=some ⟨n,false,vals⟩->P (d.with (d.ts.set k ⟨n,true,vs⟩) ⟨o.m,Ch E o,o.lo,s⟩ r)
abbrev Bp.r13(P:Cs->Prop):Prop:=(op=0\/op=1\/op=7\/op=8\/op=9\/op=10\/op=17\/op=19)->(op=17->0<=n/\n.toNat<(Cq E.cs).length/\0<=(E.fld n).slot/\0<=(Cg a).2/\(Cg a).2<(d.ts.length:Int)/\(E.fld n).slot<((Cc d.ts (Cg a).2).vals.length:Int))->(op=17\/op=19->1<=a.length)->(7<=op->op<=10->2<=a.length)->(o.st.length:Int)<(E.meth o.m).stack->P (d.top ⟨o.m,Ch E o,o.lo,o.st++[Mr E d op n a]⟩ r)
abbrev Bp.r14(P:Cs->Prop):Prop:=op=24->d.read<E.ins.length->(o.st.length:Int)<(E.meth o.m).stack->P ⟨⟨o.m,Ch E o,o.lo,o.st++[(1,E.ins.getD d.read 0)]⟩::r,d.ts,d.made,d.read+1,d.out,d.steps,d.status,d.value⟩
abbrev Bp.r15(P:Cs->Prop):Prop:=op=24->E.ins.length<=d.read->(o.st.length:Int)<(E.meth o.m).stack->P (d.top ⟨o.m,Ch E o,o.lo,o.st++[(1,0)]⟩ r)
abbrev Bp.r16(P:Cs->Prop):Prop:=op=25->1<=a.length->P ⟨⟨o.m,Ch E o,o.lo,o.st⟩::r,d.ts,d.made,d.read,d.out++[(Cg a).2],d.steps,d.status,d.value⟩
abbrev Bp.r17(P:Cs->Prop):Prop:=op=18->2<=a.length->0<=n->n.toNat<(Cq E.cs).length->0<=(E.fld n).slot->0<=(Cg a).2->(Cg a).2<(d.ts.length:Int)->(E.fld n).slot<((Cc d.ts (Cg a).2).vals.length:Int)->P (d.with (d.ts.set (Cg a).2.toNat ⟨(Cc d.ts (Cg a).2).cl,(Cc d.ts (Cg a).2).set,(Cc d.ts (Cg a).2).vals.set (E.fld n).slot.toNat (Ib a)⟩) ⟨o.m,Ch E o,o.lo,o.st⟩ r)
def Bp (i0:Cs):Prop:=∀(P:Cs->Prop),Bp.r0 E d o r op n a P->Bp.r1 E d o r op n a P->Bp.r2 E d o r op a P->Bp.r3 E d r op a P->Bp.r4 d o r op n a P->Bp.r5 E d o r op a P->Bp.r6 E d o r op n P->Bp.r7 E d o r op n P->Bp.r8 E d o r op P->Bp.r9 E d o r op P->Bp.r10 E d o r op P->Bp.r11 E d o r op n P->Bp.r12 E d o r op n P->Bp.r13 E d o r op n a P->Bp.r14 E d o r op P->Bp.r15 E d o r op P->Bp.r16 E d o r op a P->Bp.r17 E d o r op n a P->P i0
end
section
variable {E:Cr}{d:Cs}{o:Ca}{r:List Ca}{op n:Int}{a:List (Int × Int)}
def Bp.call:Bp.r0 E d o r op n a (Bp E d o r op n a):=fun b c e f P g h i j l m p q s t v z A B C D F G=>g b c e f
def Bp.send:Bp.r1 E d o r op n a (Bp E d o r op n a):=fun b c e f g h i P l j m p q s t v z A B C D F G I J K=>j b c e f g h i
def Bp.ret0:Bp.r2 E d o r op a (Bp E d o r op n a):=fun b c e P g h f i j l m p q s t v z A B C D F=>f b c e
def Bp.ret:Bp.r3 E d r op a (Bp E d o r op n a):=fun q b c e f g h P j l m i p s t v z A B C D F G I J K=>i q b c e f g h
def Bp.jump:Bp.r4 d o r op n a (Bp E d o r op n a):=fun b c e f g h P j l m p i q s t v z A B C D F G I J=>i b c e f g h
def Bp.stay:Bp.r5 E d o r op a (Bp E d o r op n a):=fun b c e f g P i j l m p h q s t v z A B C D F G I=>h b c e f g
def Bp.load:Bp.r6 E d o r op n (Bp E d o r op n a):=fun b c e f g P i j l m p q h s t v z A B C D F G I=>h b c e f g
def Bp.store:Bp.r7 E d o r op n (Bp E d o r op n a):=fun s v b c e f P h i j l m p q g t z A B C D F G I J=>g s v b c e f
def Bp.pop:Bp.r8 E d o r op (Bp E d o r op n a):=fun s v b c P f g h i j l m p e q t z A B C D F G=>e s v b c
def Bp.dup:Bp.r9 E d o r op (Bp E d o r op n a):=fun s v b c e P g h i j l m p q t f z A B C D F G I=>f s v b c e
def Bp.swap:Bp.r10 E d o r op (Bp E d o r op n a):=fun s u v b c e P g h i j l m p q t z f A B C D F G I=>f s u v b c e
def Bp.new:Bp.r11 E d o r op n (Bp E d o r op n a):=fun b c P f g h i j l m p q s t e v z A B C D=>e b c
def Bp.init:Bp.r12 E d o r op n (Bp E d o r op n a):=fun s b k c e f g h i j l m P q t v z A B C D F G I J p K L N O Q=>p s b k c e f g h i j l m
def Bp.push:Bp.r13 E d o r op n a (Bp E d o r op n a):=fun b c e f g P i j l m p q s t v z A B C h D F G I=>h b c e f g
def Bp.read:Bp.r14 E d o r op (Bp E d o r op n a):=fun b c e P g h i j l m p q s t v z A B f C D F=>f b c e
def Bp.none:Bp.r15 E d o r op (Bp E d o r op n a):=fun b c e P g h i j l m p q s t v z A B C f D F=>f b c e
def Bp.out:Bp.r16 E d o r op a (Bp E d o r op n a):=fun b c P f g h i j l m p q s t v z A B C e D=>e b c
def Bp.put:Bp.r17 E d o r op n a (Bp E d o r op n a):=fun b c e f g h i j P m p q s t v z A B C D F G I J K L l=>l b c e f g h i j
def Bp.el{M:(i0:Cs)->Bp E d o r op n a i0->Prop}(call:op=20->0<=n->n.toNat<E.ms.length->(a.length:Int)<=(E.meth n.toNat).locals->∀h,M (d.top (Hv E n.toNat a) (o::r)) h)(send:op=21->0<=n->n.toNat<E.ms.length->0<a.length->0<=(Cg a).2->(Cg a).2<(d.ts.length:Int)->(a.length:Int)<=(E.meth (Px E d n (Cg a).2)).locals->∀h,M (d.top (Hv E (Px E d n (Cg a).2) a) (o::r)) h)(ret0:op=22->r=[]->((E.meth o.m).result.1=1->0<a.length)->∀h,M ⟨[],d.ts,d.made,d.read,d.out,d.steps,0,if (E.meth o.m).result.1=1 then (Cg a).2 else 0⟩ h)(ret:∀(q:Ca) (r':List Ca),op=22->r=q::r'->a.length<=1->q.p<(E.meth q.m).code.length->((q.st.length+a.length:Nat):Int)<=(E.meth q.m).stack->∀h,M (d.top ⟨q.m,Ch E q,q.lo,q.st++a⟩ r') h)(jump:11<=op->op<=14->(op=13->2<=a.length)->(op≠11->1<=a.length)->0<=n->Ii op a=true->∀h,M (d.top ⟨o.m,n.toNat,o.lo,o.st⟩ r) h)(stay:12<=op->op<=14->(op=13->2<=a.length)->1<=a.length->Ii op a=false->∀h,M (d.top ⟨o.m,Ch E o,o.lo,o.st⟩ r) h)(load:op=2->0<=n->n<(o.lo.length:Int)->(o.lo.getD n.toNat (0,0)).1≠0->(o.st.length:Int)<(E.meth o.m).stack->∀h,M (d.top ⟨o.m,Ch E o,o.lo,o.st++[o.lo.getD n.toNat (0,0)]⟩ r) h)(store:∀(s:TP) (v:Int×Int),op=3->0<=n->n<(o.lo.length:Int)->o.st=s++[v]->∀h,M (d.top ⟨o.m,Ch E o,o.lo.set n.toNat v,s⟩ r) h)(pop:∀(s:TP) (v:Int×Int),op=4->o.st=s++[v]->∀h,M (d.top ⟨o.m,Ch E o,o.lo,s⟩ r) h)(dup:∀(s:TP) (v:Int×Int),op=5->o.st=s++[v]->((s.length+2:Nat):Int)<=(E.meth o.m).stack->∀h,M (d.top ⟨o.m,Ch E o,o.lo,s++[v,v]⟩ r) h)(swap:∀(s:TP) (u v:Int×Int),op=6->o.st=s++[u,v]->((s.length+2:Nat):Int)<=(E.meth o.m).stack->∀h,M (d.top ⟨o.m,Ch E o,o.lo,s++[v,u]⟩ r) h)(new:op=15->(o.st.length:Int)<(E.meth o.m).stack->∀h,M ⟨⟨o.m,Ch E o,o.lo,o.st++[(2,(d.ts.length:Int))]⟩::r,d.ts++[⟨n,false,[]⟩],d.made+1,d.read,d.out,d.steps,d.status,d.value⟩ h)(init:∀(s vs:TP) (k:Nat) (vals:TP),op=16->0<=n->n.toNat<E.T.length->o.st=s++(2,(k:Int))::vs->Hw E.T d.ts vs (E.all n)=true->(∀v∈vs,It d.ts.length v)->0<k->d.ts[k]?=some ⟨n,false,vals⟩->∀h,M (d.with (d.ts.set k ⟨n,true,vs⟩) ⟨o.m,Ch E o,o.lo,s⟩ r) h)(push:(op=0\/op=1\/op=7\/op=8\/op=9\/op=10\/op=17\/op=19)->(op=17->0<=n/\n.toNat<(Cq E.cs).length/\0<=(E.fld n).slot/\0<=(Cg a).2/\(Cg a).2<(d.ts.length:Int)/\(E.fld n).slot<((Cc d.ts (Cg a).2).vals.length:Int))->(op=17\/op=19->1<=a.length)->(7<=op->op<=10->2<=a.length)->(o.st.length:Int)<(E.meth o.m).stack->∀h,M (d.top ⟨o.m,Ch E o,o.lo,o.st++[Mr E d op n a]⟩ r) h)(read:op=24->d.read<E.ins.length->(o.st.length:Int)<(E.meth o.m).stack->∀h,M ⟨⟨o.m,Ch E o,o.lo,o.st++[(1,E.ins.getD d.read 0)]⟩::r,d.ts,d.made,d.read+1,d.out,d.steps,d.status,d.value⟩ h)(none:op=24->E.ins.length<=d.read->(o.st.length:Int)<(E.meth o.m).stack->∀h,M (d.top ⟨o.m,Ch E o,o.lo,o.st++[(1,0)]⟩ r) h)(out:op=25->1<=a.length->∀h,M ⟨⟨o.m,Ch E o,o.lo,o.st⟩::r,d.ts,d.made,d.read,d.out++[(Cg a).2],d.steps,d.status,d.value⟩ h)(put:op=18->2<=a.length->0<=n->n.toNat<(Cq E.cs).length->0<=(E.fld n).slot->0<=(Cg a).2->(Cg a).2<(d.ts.length:Int)->(E.fld n).slot<((Cc d.ts (Cg a).2).vals.length:Int)->∀h,M (d.with (d.ts.set (Cg a).2.toNat ⟨(Cc d.ts (Cg a).2).cl,(Cc d.ts (Cg a).2).set,(Cc d.ts (Cg a).2).vals.set (E.fld n).slot.toNat (Ib a)⟩) ⟨o.m,Ch E o,o.lo,o.st⟩ r) h){i0:Cs}(h:Bp E d o r op n a i0):M i0 h:=h (fun i0=>∀h,M i0 h) call send ret0 ret jump stay load store pop dup swap new init push read none out put h
end
section
variable (E:Cr) (d:Cs)
abbrev Gh.r0(P:Cs->Prop):Prop:=∀(o:Ca) (r:List Ca) (s a:List (Int × Int)) (t:Nat),d.os=o::r->o.m<E.ms.length->o.p<(E.meth o.m).code.length->o.st=s++a->Hw E.T d.ts a (Cu (Cq E.cs) E.ms (E.meth o.m).result ((E.meth o.m).code.getD o.p 0) (Cd.atI (E.meth o.m).code ((o.p:Int)+1)))=true->(∀v∈a,It d.ts.length v)->0<t->t<d.ts.length->Dn E d ((E.meth o.m).code.getD o.p 0) (Cd.atI (E.meth o.m).code ((o.p:Int)+1)) a=(t:Int)->(∀q∈o::r,q.m<E.ms.length/\(Gz E.T (Cc d.ts t).cl q.p (E.meth q.m).handlers≠none->1<=(E.meth q.m).stack))->P (Ga E (t:Int) (Cc d.ts t).cl ⟨d.os,d.ts,d.made,d.read,d.out,d.steps+1,d.status,d.value⟩ (⟨o.m,o.p,o.lo,s⟩::r))
abbrev Gh.r1(P:Cs->Prop):Prop:=∀(o:Ca) (r:List Ca) (s a:List (Int × Int)) (d':Cs),d.os=o::r->o.m<E.ms.length->o.p<(E.meth o.m).code.length->o.st=s++a->Hw E.T d.ts a (Cu (Cq E.cs) E.ms (E.meth o.m).result ((E.meth o.m).code.getD o.p 0) (Cd.atI (E.meth o.m).code ((o.p:Int)+1)))=true->(∀v∈a,It d.ts.length v)->Dn E d ((E.meth o.m).code.getD o.p 0) (Cd.atI (E.meth o.m).code ((o.p:Int)+1)) a=0->Bp E ⟨⟨o.m,o.p,o.lo,s⟩::r,d.ts,d.made,d.read,d.out,d.steps+1,d.status,d.value⟩ ⟨o.m,o.p,o.lo,s⟩ r ((E.meth o.m).code.getD o.p 0) (Cd.atI (E.meth o.m).code ((o.p:Int)+1)) a d'->P d'
def Gh (i0:Cs):Prop:=∀(P:Cs->Prop),Gh.r0 E d P->Gh.r1 E d P->P i0
end
section
variable {E:Cr}{d:Cs}
def Gh.thrown:Gh.r0 E d (Gh E d):=fun o r s a t b c e f g h i j l m P p q=>p o r s a t b c e f g h i j l m
def Gh.does:Gh.r1 E d (Gh E d):=fun o r s a d' b c e f g h i j P m l=>l o r s a d' b c e f g h i j
def Gh.el{M:(i0:Cs)->Gh E d i0->Prop}(thrown:∀(o:Ca) (r:List Ca) (s a:TP) (t:Nat),d.os=o::r->o.m<E.ms.length->o.p<(E.meth o.m).code.length->o.st=s++a->Hw E.T d.ts a (Cu (Cq E.cs) E.ms (E.meth o.m).result ((E.meth o.m).code.getD o.p 0) (Cd.atI (E.meth o.m).code ((o.p:Int)+1)))=true->(∀v∈a,It d.ts.length v)->0<t->t<d.ts.length->Dn E d ((E.meth o.m).code.getD o.p 0) (Cd.atI (E.meth o.m).code ((o.p:Int)+1)) a=(t:Int)->(∀q∈o::r,q.m<E.ms.length/\(Gz E.T (Cc d.ts t).cl q.p (E.meth q.m).handlers≠none->1<=(E.meth q.m).stack))->∀h,M (Ga E (t:Int) (Cc d.ts t).cl ⟨d.os,d.ts,d.made,d.read,d.out,d.steps+1,d.status,d.value⟩ (⟨o.m,o.p,o.lo,s⟩::r)) h)(does:∀(o:Ca) (r:List Ca) (s a:TP) (d':Cs),d.os=o::r->o.m<E.ms.length->o.p<(E.meth o.m).code.length->o.st=s++a->Hw E.T d.ts a (Cu (Cq E.cs) E.ms (E.meth o.m).result ((E.meth o.m).code.getD o.p 0) (Cd.atI (E.meth o.m).code ((o.p:Int)+1)))=true->(∀v∈a,It d.ts.length v)->Dn E d ((E.meth o.m).code.getD o.p 0) (Cd.atI (E.meth o.m).code ((o.p:Int)+1)) a=0->Bp E ⟨⟨o.m,o.p,o.lo,s⟩::r,d.ts,d.made,d.read,d.out,d.steps+1,d.status,d.value⟩ ⟨o.m,o.p,o.lo,s⟩ r ((E.meth o.m).code.getD o.p 0) (Cd.atI (E.meth o.m).code ((o.p:Int)+1)) a d'->∀h,M d' h){i0:Cs}(h:Gh E d i0):M i0 h:=h (fun i0=>∀h,M i0 h) thrown does h
end
theorem Sl{k:Db}{M:Br}{w:World}(h:Bm k M X w){n:Nat}(f:n<M.ts.length):∃g,M.ta=some ⟨g,0,none⟩/\g<w.heap.size/\(∀j u,(Iy M.ts[n])[j]?=some u->w.cell? ⟨g,n*3+j,none⟩=some u)/\∀j,w.frozen? ⟨g,j,none⟩=false:=by
 have b:=h.hrow;obtain⟨g,c,i,_,l⟩:=Cf b Bd;refine⟨g,c,i,fun j u e=>?_,fun j=>?_⟩
 ·have m:j<3:=(List.getElem?_eq_some_iff.1 e).1;rw[l _ (by rw[Kq Iy 3 (fun _=>rfl)];omega),M5 Iy 3 (fun _=>rfl) M.ts n f j m,e]
 rw[c]at b;exact World.ownsRow.frozenAt b j
def Pr{k:Db}{M:Br}(h:Bm k M X w){n:Nat}(b:n<M.ts.length):w.ownsRow k.w0.heap.size 240 2 M.ts[n].2 M.ts[n].1.vals.length (Bu M.ts[n].1.vals) :=
 h.row (Kx M.ts[n]) (List.mem_append_left _ (by unfold Br.rows;simp only[Bxy,Bwt];exact .inr (.inr (.inr (.inr (.inr (Bwa (Bvh b))))))))
def Vu{M:Br}{n:Nat}(b:n<M.ts.length):Cc (M.ts.map Prod.fst) (n:Int)=M.ts[n].1:=by
 unfold Cc;rw[Bvn,Th,Bv8,Ws b];rfl
theorem Bi3(k:Db)(M:Br)(X:List Rw)(t q j i:Int)(w:World)(hf:k.f.ok k.w0)(h:Bm k M X w)(I:t=2->0<=q/\q<(M.ts.length:Int))(R:Bool)(m:J3 k.f.T (M.ts.map Prod.fst) (t,q) (j,i)=R):Calls prog 145 #[.pointer (some ⟨k.B,0,none⟩),.agg #[.int .i64 t,.int .i64 q],.agg #[.int .i64 j,.int .i64 i]] w fun e c=>e=.returned (.bool R)/\Below w.heap.size w c:=by
 unfold J3 at m;simp only at m;have G:Below w.heap.size w ((w.alloc (O34 t q)).alloc (O7 j i)):=Bx w _ _;have V:=Bf (w.alloc (O34 t q)) (O7 j i);have Y:=Bk (Bf w (O34 t q)) (O7 j i);have b0:=(Bb Y 0).trans (show _=some (Value.int .i64 t) from rfl);have b1:=(Bb Y 1).trans (show _=some (Value.int .i64 q) from rfl);have y0:((w.alloc (O34 t q)).alloc (O7 j i)).cell? ⟨w.heap.size+1,0,none⟩=some (.int .i64 j):=by rw[show w.heap.size+1=(w.alloc (O34 t q)).heap.size by simp];exact(Bb V 0).trans rfl
 have y1:((w.alloc (O34 t q)).alloc (O7 j i)).cell? ⟨w.heap.size+1,1,none⟩=some (.int .i64 i):=by rw[show w.heap.size+1=(w.alloc (O34 t q)).heap.size by simp];exact(Bb V 1).trans rfl
 by_cases Z:j=1;·rw[Sp Z]at m;subst Z m;clear I;go_in;go_wp2;go_ret;exact⟨rfl,G⟩
 rw[Pf Z]at m;by_cases J:t=2
 ·rw[Sp J]at m;by_cases h3:q=0;·rw[Sp h3]at m;subst J h3 m;clear I;go_in;go_wp2;go_ret;exact⟨rfl,G⟩
  rw[Pf h3]at m;obtain⟨b4,b7⟩:=I J;obtain⟨n,rfl⟩:=Bvk b4;have hn:n<M.ts.length:=Bd;rw[Vu hn]at m;subst J;have C:=h.below G;obtain⟨g,hg,a0,N,_⟩:=Sl C hn;have c8:((w.alloc (O34 2 (n:Int))).alloc (O7 j i)).cell? ⟨k.B,8,none⟩=some (.slice (some ⟨g,0,none⟩) M.ts.length M.tc):=by rw[<- hg];exact C.cell Hd
  have c0:((w.alloc (O34 2 (n:Int))).alloc (O7 j i)).cell? ⟨k.B,0,none⟩=some (.slice k.f.a1 k.f.l.length k.f.c1):=C.cell Hd;have c1:((w.alloc (O34 2 (n:Int))).alloc (O7 j i)).cell? ⟨k.B,1,none⟩=some (.slice k.f.a2 k.f.ms.length k.f.c2):=C.cell Hd;have O:=C.ltB;have a4:=C.fok hf;obtain⟨z,vc,a5⟩:=Bg (Pr C hn);generalize M.ts[n]=x at *;obtain⟨⟨s,v,b5⟩,vv⟩:=x;simp only at a5;subst a5;generalize b5.length=A at *;have g0:((w.alloc (O34 2 (n:Int))).alloc (O7 j i)).cell? ⟨g,n*3,none⟩=some (.int .i64 s):=N 0 _ rfl;have g1:((w.alloc (O34 2 (n:Int))).alloc (O7 j i)).cell? ⟨g,n*3+1,none⟩=some (.bool v):=N 1 _ rfl;have g2:((w.alloc (O34 2 (n:Int))).alloc (O7 j i)).cell? ⟨g,n*3+2,none⟩=some (.slice z A vc):=N 2 _ rfl;simp only at m;have a3:=fun c (h':k.f.ok c)=>N5 k.f.a1 k.f.a2 k.f.c1 k.f.ms.length k.f.c2 k.f.bb k.f.l s i c (by have:=h'.1;omega) h'.2.2.2.2.1;have eT:Cw k.f.l=k.f.T:=rfl;rw[eT]at a3;generalize Tr.rbel k.f.T s i=b at *;generalize M.ts.length=L at *;have a6:=Bc a3;have a7:=Bc a4;have lE:w.heap.size+1<((w.alloc (O34 2 (n:Int))).alloc (O7 j i)).heap.size:=by simp only[World.alloc,Bw3];omega
  have lD:w.heap.size<((w.alloc (O34 2 (n:Int))).alloc (O7 j i)).heap.size:=Bd;clear I N C h a3 a4 Y V hg eT;go_in;go_wp2_with fail;generalize hW:(w.alloc (O34 2 (n:Int))).alloc (O7 j i)=W at *;have Q:∀c,Below W.heap.size W c->c.cell? ⟨k.B,8,none⟩=some (.slice (some ⟨g,0,none⟩) L M.tc)/\c.cell? ⟨w.heap.size,1,none⟩=some (.int .i64 (n:Int))/\c.cell? ⟨g,n*3,none⟩=some (.int .i64 s)/\c.cell? ⟨g,n*3+1,none⟩=some (.bool v)/\c.cell? ⟨g,n*3+2,none⟩=some (.slice z A vc):=fun c K=>⟨QC K O c8,QC K lD b1,QC K a0 g0,QC K a0 g1,QC K a0 g2⟩
  go_region_held3 (fun c=>c.cell? ⟨k.B,8,none⟩=some (.slice (some ⟨g,0,none⟩) L M.tc)/\c.cell? ⟨w.heap.size,1,none⟩=some (.int .i64 (n:Int))/\c.cell? ⟨g,n*3,none⟩=some (.int .i64 s)/\c.cell? ⟨g,n*3+1,none⟩=some (.bool v)/\c.cell? ⟨g,n*3+2,none⟩=some (.slice z A vc))
   (first|with_reducible exact Q _ (Vm _ _).drew|with_reducible exact Q _ (QN _).drew|with_reducible exact Q _ (((((QN _).drew).setCell (Wf _) _).setCell (Wf _) _).setCell (Wf _) _))
   (fail)
  have D:Below W.heap.size W (W.alloc (O35 s v z A vc)).drew:=(QN _).drew;have a8:=QB G D;have hO:=Bf W (O35 s v z A vc);have o0:(W.alloc (O35 s v z A vc)).drew.cell? ⟨W.heap.size,0,none⟩=some (.int .i64 s):=(Bb hO 0).trans rfl;have o1:(W.alloc (O35 s v z A vc)).drew.cell? ⟨W.heap.size,1,none⟩=some (.bool v):=(Bb hO 1).trans rfl;have d0:=(D.cell (p:=⟨k.B,0,none⟩) O).trans c0;have d1:=(D.cell (p:=⟨k.B,1,none⟩) O).trans c1;have z1:=(D.cell (p:=⟨w.heap.size+1,1,none⟩) lE).trans y1;have a9:=Bc ((Ba a7).below D);have lO:W.heap.size<(W.alloc (O35 s v z A vc)).drew.heap.size:=by simp[World.drew]
  have b2:=Bvm O D.size;have b6:=Bvm lE D.size;clear Q c8 b0 b1 g0 g1 g2 c0 c1 y0 y1 D a7 G hO;generalize (W.alloc (O35 s v z A vc)).drew=w3 at *;generalize W.heap.size=p at *;go_wp2_with fail
  go_region_held3 (fun c=>c.cell? ⟨k.B,0,none⟩=some (.slice k.f.a1 k.f.l.length k.f.c1)/\c.cell? ⟨k.B,1,none⟩=some (.slice k.f.a2 k.f.ms.length k.f.c2)/\c.cell? ⟨p,0,none⟩=some (.int .i64 s)/\c.cell? ⟨w.heap.size+1,1,none⟩=some (.int .i64 i))
   (first|exact⟨d0,d1,o0,z1⟩|exact⟨QC F b2 d0,QC F b2 d1,QC F lO o0,QC F b6 z1⟩)
   (first|(go_at_call 91;refine(Ba a6 _ ((Ba a9).below (Vm _ _).drew)).mono ?_;rintro e w7 ⟨rfl,F⟩))
  have o7:=(F.cell (p:=⟨p,1,none⟩) lO).trans o1;have b3:=a8.drew.trans (F.mono a8.size);clear F d0 d1 o0 o1 z1 a6 a9;cases v with
  | false =>
   simp only[Bx0]at m;subst m;go_wp2;go_ret;exact⟨rfl,b3⟩
  | true =>
   simp only[Bxn]at m;subst m;go_wp2;go_ret;exact⟨rfl,b3⟩
 rw[Pf J]at m;subst m;clear I;go_in;go_wp2;go_ret;exact⟨rfl,G⟩
def Bcu{z:TI}{Q:List Do}:∀{a l:TP},Hw z Q a l=true->a.length=l.length/\∀q (b:q<a.length) (c:q<l.length),J3 z Q a[q] l[q]=true
 | [],[],_=>⟨rfl,fun q h=>absurd h Fr⟩
 | [],_::_,h=>by simp[Hw]at h
 | _::_,[],h=>by simp[Hw]at h
 | v::a,t::l,h=>by
  simp only[Hw,Bwk]at h;obtain⟨e,f⟩:=Bcu h.2;refine⟨by simp[e],fun q b c=>?_⟩;cases q with
  | zero=>exact h.1
  | succ j=>exact f j (by simpa using b) (by simpa using c)
def Om{a:TA}{c:Nat}{q:TP}(h:w.ownsRow u 240 2 (.s a q.length c) q.length (Bu q)){j:Nat}(f:j<q.length):∃g,a=some ⟨g,0,none⟩/\g<w.heap.size/\w.C g (j*2) (.i q[j].1)/\w.C g (j*2+1) (.i q[j].2):=by
 obtain⟨g,m,p,_,e⟩:=Cf h Bd;obtain⟨t,v,z⟩:=Gc q j f;exact⟨g,m,p,(e _ Bd).trans t,(e _ z).trans v⟩
def Bbv(k:Db)(M:Br)(X:List Rw)(o:Ca)(lv sv:TX)(r:List (Ca×Value×Value))(s a b:TP)(Q:TA)(V:Nat)(w:TW)(hf:k.f.ok k.w0)(h:Bm k M X w)(hM:M.os=(o,lv,sv)::r)(Z:o.st=s++a)(hr:r.length<=1000)(F:o.st.length<=1000) (a0:TyR w (.s Q b.length V) b)(a1:Hw k.f.T (M.ts.map Prod.fst) a b=true)(a2:∀v∈a,v.1=2->0<=v.2/\v.2<(M.ts.length:Int)):Calls prog 99 #[.q k.B 0,.s Q b.length V] w fun e j=>∃l vc G,e=.r (.s l a.length vc)/\Bm k (M.put ((⟨o.m,o.p,o.lo,s⟩,lv,G)::r)) (Dc (.s l a.length vc) a::X) j:=by
 obtain⟨a3,a4⟩:=Bcu a1;have hO:=Tf k M X o lv sv r s a w h hM Z hr F;have b4:a.length<=1000:=by rw[Z]at F;simp at F;omega
 have HI:=Bc (fun (z:Br) (Y:List Rw) (j:TW) (e:z.ts=M.ts) (h':Bm k z Y j) q (c:q<a.length) (h2:q<b.length)=>Bi3 k z Y a[q].1 a[q].2 b[q].1 b[q].2 j hf h' (by rw[e];exact a2 _ (Bvh c)) true (by rw[e];exact a4 q c h2));clear h hM Z hr F a1 a4 a2;obtain⟨m,I,J⟩:∃m,a.length=m/\b.length=m:=⟨_,a3,rfl⟩;rw[I]at hO b4;rw[J]at a0;rw[I,J];have HO:=Bc hO;have HA:=Bc (fun (_:Unit)=>I);have HW:=Bc (fun (_:Unit)=>J);have a5:=Bc a0;clear a0 a3 I J hO;go_in;go_wp2_with fail;refine(Ba HO).mono ?_;rintro e w1 ⟨l,vc,G,rfl,c,a6⟩;have A:=a6 _ _ (Ba a5);clear HO a5 a6;generalize a7:M.put ((⟨o.m,o.p,o.lo,s⟩,lv,G)::r)=z at *;have b5:z.ts=M.ts:=by rw[<- a7];rfl
 go_wp2
 go_loopw [6] (fun i wr=>∃q:Nat,q<=m/\i=.i (q:Int)/\Bm k z (Dc (.s l m vc) a::X) wr/\TyR wr (.s Q m V) b)
  (fun i _=>m-(intOf i).toNat)
 case atStart=>exact⟨0,Bd,rfl,c,A⟩
 case round=>
  clear c A;obtain⟨q,hq,rfl,c,A⟩:=hrel;have hR:wr.ownsRow k.w0.heap.size 240 2 (.s l a.length vc) a.length (Bu a):=by
   have:=c.row (Dc (.s l m vc) a) Fr;rw[<- Ba HA ()]at this;exact this
  by_cases a8:q<m
  ·have a9:q<a.length:=by rw[Ba HA ()];exact a8
   have b0:q<b.length:=by rw[Ba HW ()];exact a8
   obtain⟨g,rfl,hg,K,L⟩:=Om hR a9;obtain⟨g2,o2,rfl,b1,b2⟩:=A.at Bd;obtain⟨N,O⟩:=b2 q b0;have HC:=Bc (Ba HI z _ _ b5 (c.drew) q a9 b0);generalize a[q]=s at *;generalize b[q]=t at *;obtain⟨s1,s2⟩:=s;obtain⟨t1,t2⟩:=t;simp only at K L N O HC;have kb:(q:Int)<(m:Int):=Bd;have H1:=Bc c;have b3:=Bc A;clear b2 hR c A;go_wp2
   go_region_held3 (fun j=>j.C g (q*2) (.i s1)/\j.C g (q*2+1) (.i s2)/\j.C g2 (o2+q*2) (.i t1)/\j.C g2 (o2+q*2+1) (.i t2))
    (first|exact⟨K,L,N,O⟩|exact⟨QC D hg K,QC D hg L,QC D b1 N,QC D b1 O⟩)
    (first|(go_at_call 145;refine(Ba HC).mono ?_;rintro e w7 ⟨rfl,D⟩))
   have h7:=(Ba H1).drew.below D;have b6:=((Ba b3).below (Vm _ _).drew).below D;clear D K L N O HC H1 b3;go_wp2;go_roundw
   case rel=>exact⟨q+1,Bd,Lt,h7,b6⟩
   case measure=>simp[intOf];omega
  have kb:¬(q:Int)<(m:Int):=Bd;clear hR A;go_wp2;go_ret;exact⟨l,vc,rfl,G,by rw[a7];exact c⟩
def Bm.drop{k:Db}{M:Br}{x:Rw}(h:Bm k M (x::X) w):Bm k M X w:=Own.sub h (Byr (Bz0 _) (Bw4 x X))
def Bj3{x':Ca×Value×Value}(r:List (Ca×Value×Value))(h:Fx x'=Fx x):(x'::r).reverse.flatMap Fx=(x::r).reverse.flatMap Fx:=by
 rw[Bxj,Bxj,Bwl,Bwl];simp[h]
def Bry{k:Db}{M:Br}{o:Ca}{sv:TX}{f:Nat}{r:List (Ca×Value×Value)}(h:Bm k M X w)(g:M.os=(o,.s (.p u) o.lo.length f,sv)::r)(q:Nat)(b c:Int):Bm k (M.put ((⟨o.m,o.p,o.lo.set q (b,c),o.st⟩,.s (.p u) o.lo.length f,sv)::r)) X ((w.setCell (.a u (q*2)) (.i b)).setCell (.a u (q*2+1)) (.i c)):=by
 obtain⟨t,v,z,A,B,C,D,F,G,I,J,K,L,N⟩:=M;simp only at g;subst g;have j:=Own.cell (i:=4) h Hd (q*2) (.i b);have l:=Own.cellE (i:=4) j Hd (Ym o.lo q b c).symm;have e:(o.lo.set q (b,c)).length=o.lo.length:=Fr;unfold Bm Br.rows Br.put;simp only[Bwj,Lc,Dc,e];rw[Bj3 (x:=(o,.s (.p u) o.lo.length f,sv)) (x':=(⟨o.m,o.p,o.lo.set q (b,c),o.st⟩,.s (.p u) o.lo.length f,sv)) r rfl];exact l
theorem Jn{k:Db}{M:Br}{w:World}{o:Ca}{lv sv:Value}{r:List (Ca×Value×Value)}(h:Bm k M X w)(c:M.os=(o,lv,sv)::r):∃g,M.oa=some ⟨g,0,none⟩/\g<w.heap.size/\w.cell? ⟨k.B,7,none⟩=some (.slice (some ⟨g,0,none⟩) (r.length+1) M.oc)/\w.cell? ⟨g,r.length*4,none⟩=some (.int .i64 (o.m:Int))/\w.cell? ⟨g,r.length*4+1,none⟩=some (.int .i64 (o.p:Int))/\w.cell? ⟨g,r.length*4+2,none⟩=some lv/\w.cell? ⟨g,r.length*4+3,none⟩=some sv/\∀j,w.frozen? ⟨g,j,none⟩=false:=by
 obtain⟨g,e,f,b,i⟩:=h.last c;refine⟨g,e,f,?_,b 0 _ rfl,b 1 _ rfl,b 2 _ rfl,b 3 _ rfl,i⟩;rw[<- e,show r.length+1=M.os.length by rw[c];rfl];exact h.cell Hd
def Btr{k:Db}{M:Br}{o:Ca}{sv:TX}{b:Nat}{r:List (Ca×Value×Value)}(h:Bm k M X w)(c:M.os=(o,.s (.p u) o.lo.length b,sv)::r){n:Nat}(f:n<o.lo.length):u<w.heap.size/\True/\w.C u (n*2) (.i o.lo[n].1)/\w.C u (n*2+1) (.i o.lo[n].2):=by
 obtain⟨g,e,j,l,m⟩:=Om (h.lrow c) f;simp only[Option.some.injEq,Addr.mk.injEq,Bwb]at e;subst e;exact⟨j,trivial,l,m⟩
def Btq{k:Db}{M:Br}{o:Ca}{sv:TX}{b:Nat}{r:List (Ca×Value×Value)}(h:Bm k M X w)(c:M.os=(o,.s (.p u) o.lo.length b,sv)::r)(j:Nat):w.frozen? (.a u j)=false:=World.ownsRow.frozenAt (h.lrow c) j
def Rz(n:Nat)(h:n<=1000):IntKind.i64.wrap (((n+1:Nat):Int)-1)=(n:Int):=by rw[show ((n+1:Nat):Int)-1=(n:Int) by omega];exact Eg _ Bd Bd
def Bl9(k:Db)(M:Br)(X:List Rw)(o:Ca)(lv sv:TX)(r:List (Ca×Value×Value))(n:Nat)(w:TW)(D:k.f.ok k.w0)(h:Bm k M X w)(b:M.os=(o,lv,sv)::r)(t:r.length<=1000)(F:o.st.length<=1000)(z:o.m<k.f.ms.length)(A:(o.st.length:Int)<k.f.ms[o.m].1.m.stack)(G:n<o.lo.length)(C:o.lo[n].1≠0):Calls prog 150 #[.q k.B 0,.i 2,.i (n:Int)] w fun e j=>e=.r (.tuple #[])/\∃l,Bm k (M.put ((⟨o.m,o.p,o.lo,o.st++[o.lo[n]]⟩,lv,l)::r)) X j:=by
 obtain⟨V,Y,I⟩:∃a c,lv=.s a o.lo.length c:=Bg (h.lrow b);subst I;obtain⟨Z,rfl,_,x0,x1⟩:=Om (h.lrow b) G;obtain⟨g,J,a0,c7,-,-,g2,-,-⟩:=Jn h b;have K:=Bc (fun (j:TW) (L:Bl w j)=>Ju k M X o _ sv r o.lo[n].1 o.lo[n].2 j D (h.below L) b z A t F);have a1:=Rz r.length t;have ri:(r.length:Int)<(r.length:Int)+1:=Bd;have ni:(n:Int)<(o.lo.length:Int):=Bd;generalize N:o.lo[n]=v at *;obtain⟨O,v2⟩:=v;have a2:(O==0)=false:=by simpa using C
 clear h b J C N z A;go_in;go_wp2_with fail;refine Qm (Ba K _ (QN _)) ?_;rintro w1 ⟨l,Q⟩;go_wp2;refine Bwy (Bw9 rfl _ _ _) rfl ?_;exact⟨rfl,l,Q⟩
theorem Pq{k:Db}{M:Br}{w:World}{l:Option Addr}{vc n:Nat}{a:List (Int×Int)}(h:Bm k M (Dc (.slice l n vc) a::X) w)(b:n=a.length){q:Nat}(c:q<a.length):∃g,l=some ⟨g,0,none⟩/\g<w.heap.size/\w.cell? ⟨g,q*2,none⟩=some (.int .i64 a[q].1)/\w.cell? ⟨g,q*2+1,none⟩=some (.int .i64 a[q].2):=by
 subst b;exact Om (h.row (Dc (.slice l a.length vc) a) Fr) c
def Bpc(k:Db)(M:Br)(X:List Rw)(o:Ca)(lv sv:TX)(r:List (Ca×Value×Value))(n:Int)(s:TP)(v:Int×Int)(w:TW)(h:Bm k M X w)(c:M.os=(o,lv,sv)::r)(t:r.length<=1000)(A:o.st.length<=1000)(z:o.st=s++[v]):Calls prog 150 #[.q k.B 0,.i 4,.i n] w fun e b=>e=.r (.tuple #[])/\∃f,Bm k (M.put ((⟨o.m,o.p,o.lo,s⟩,lv,f)::r)) X b:=by
 obtain⟨g,C,I,J,-,-,-,-,-⟩:=Jn h c;have D:=Bc (fun (b:TW) (F:Bl w b)=>Tf k M X o lv sv r s [v] b (h.below F) c z t A);have K:=Rz r.length t;have L:(r.length:Int)<(r.length:Int)+1:=Bd;clear h c C z;go_in;go_wp2_with fail;refine(Ba D _ (Vm _ _)).mono ?_;rintro e N ⟨O,vc,f,rfl,l,-⟩;have Q:=l.cell (j:=15) Hd;have G:=Bc l.drop;clear l;go_wp2;go_end0;exact⟨rfl,f,Ba G⟩
def Bpe(k:Db)(M:Br)(X:List Rw)(o:Ca)(lv sv:TX)(r:List (Ca×Value×Value))(n:Int)(s:TP)(v:Int×Int)(w:TW)(F:k.f.ok k.w0)(h:Bm k M X w)(z:M.os=(o,lv,sv)::r)(l:r.length<=1000)(A:o.st.length<=1000)(C:o.st=s++[v])(G:o.m<k.f.ms.length)(hl:((s.length+2:Nat):Int)<=k.f.ms[o.m].1.m.stack):Calls prog 150 #[.q k.B 0,.i 5,.i n] w fun e b=>e=.r (.tuple #[])/\∃V,Bm k (M.put ((⟨o.m,o.p,o.lo,s++[v,v]⟩,lv,V)::r)) X b:=by
 obtain⟨g,Y,a4,Z,-,-,-,-,-⟩:=Jn h z;have I:=Bc (fun (b:TW) (c:Bl w b)=>Tf k M X o lv sv r s [v] b (h.below c) z C l A);have a5:=Rz r.length l;have ri:(r.length:Int)<(r.length:Int)+1:=Bd;have a6:s.length+1<=1000:=by rw[C]at A;simpa using A
 clear h z Y C;go_in;go_wp2_with fail;refine(Ba I _ (Vm _ _)).mono ?_;rintro e w1 ⟨va,vc,a0,rfl,t,-⟩;have a1:=t.cell (j:=15) Hd;obtain⟨gv,rfl,_,J,K⟩:=Pq t rfl (q:=0) Fr;have L:=Bc (fun (b:TW) (c:Bl w1 b)=>Ju k _ _ ⟨o.m,o.p,o.lo,s⟩ lv a0 r v.1 v.2 b F (t.below c) rfl G Ls l Ls);clear t I;simp only[Bxt,Bwh,Bvp]at J K;go_wp2_with fail;refine Qm (Ba L _ (Vm _ _)) ?_;rintro w2 ⟨a2,D⟩;obtain⟨a7,N,_,y0,y1⟩:=Pq D rfl (q:=0) Fr;simp only[Option.some.injEq,Addr.mk.injEq,Bwb]at N;subst N;simp only[Bxt,Bwh,Bvp]at y0 y1;have O:=Bc (fun (b:TW) (c:Bl w2 b)=>Ju k _ _ ⟨o.m,o.p,o.lo,s++[v]⟩ lv a2 r v.1 v.2 b F (D.below c) rfl G Fm l Fm);clear D L J K a1 Z;go_wp2_with fail;refine Qm (Ba O _ (Vm _ _)) ?_;rintro w3 ⟨a3,Q⟩;have H3:=Bc Q.drop;clear Q O;go_wp2;go_end0;refine⟨rfl,a3,?_⟩;have:=Ba H3;rw[Bwe]at this;exact this
def Bl1(k:Db)(M:Br)(X:List Rw)(o:Ca)(lv sv:TX)(r:List (Ca×Value×Value))(n:Int)(s:TP)(u v:Int×Int)(w:TW)(F:k.f.ok k.w0)(h:Bm k M X w)(z:M.os=(o,lv,sv)::r)(l:r.length<=1000)(A:o.st.length<=1000)(C:o.st=s++[u,v])(G:o.m<k.f.ms.length)(hl:((s.length+2:Nat):Int)<=k.f.ms[o.m].1.m.stack):Calls prog 150 #[.q k.B 0,.i 6,.i n] w fun e b=>e=.r (.tuple #[])/\∃V,Bm k (M.put ((⟨o.m,o.p,o.lo,s++[v,u]⟩,lv,V)::r)) X b:=by
 obtain⟨g,Y,a4,Z,-,-,-,-,-⟩:=Jn h z;have I:=Bc (fun (b:TW) (c:Bl w b)=>Tf k M X o lv sv r s [u,v] b (h.below c) z C l A);have a5:=Rz r.length l;have ri:(r.length:Int)<(r.length:Int)+1:=Bd;have a6:s.length+2<=1000:=by rw[C]at A;simpa using A
 clear h z Y C;go_in;go_wp2_with fail;refine(Ba I _ (Vm _ _)).mono ?_;rintro e w1 ⟨va,vc,a0,rfl,t,-⟩;have a1:=t.cell (j:=15) Hd;obtain⟨gv,rfl,_,J,K⟩:=Pq t rfl (q:=1) Fr;have L:=Bc (fun (b:TW) (c:Bl w1 b)=>Ju k _ _ ⟨o.m,o.p,o.lo,s⟩ lv a0 r v.1 v.2 b F (t.below c) rfl G Ls l Ls);clear t I;simp only[List.getElem_cons_succ,Bxt,Bx8]at J K;go_wp2_with fail;refine Qm (Ba L _ (Vm _ _)) ?_;rintro w2 ⟨a2,D⟩;obtain⟨a7,N,_,y0,y1⟩:=Pq D rfl (q:=0) Fr;simp only[Option.some.injEq,Addr.mk.injEq,Bwb]at N;subst N;simp only[Bxt,Bwh,Bvp]at y0 y1;have O:=Bc (fun (b:TW) (c:Bl w2 b)=>Ju k _ _ ⟨o.m,o.p,o.lo,s++[v]⟩ lv a2 r u.1 u.2 b F (D.below c) rfl G Fm l Fm);clear D L J K a1 Z;go_wp2_with fail;refine Qm (Ba O _ (Vm _ _)) ?_;rintro w3 ⟨a3,Q⟩;have H3:=Bc Q.drop;clear Q O;go_wp2;go_end0;refine⟨rfl,a3,?_⟩;have:=Ba H3;rw[Bwe]at this;exact this
def Bj0(k:Db)(M:Br)(X:List Rw)(o:Ca)(lv sv:TX)(r:List (Ca×Value×Value))(n:Nat)(s:TP)(v:Int×Int)(w:TW)(h:Bm k M X w)(l:M.os=(o,lv,sv)::r)(I:r.length<=1000)(hs:o.st.length<=1000)(J:o.st=s++[v])(K:n<o.lo.length):Calls prog 150 #[.q k.B 0,.i 3,.i (n:Int)] w fun e b=>e=.r (.tuple #[])/\∃a0,Bm k (M.put ((⟨o.m,o.p,o.lo.set n v,s⟩,lv,a0)::r)) X b:=by
 obtain⟨g,hg,a3,z,-,-,-,-,-⟩:=Jn h l;have L:=Bc (fun (b:TW) (hb:Bl w b)=>Tf k M X o lv sv r s [v] b (h.below hb) l J I hs);have a4:=Rz r.length I;have ri:(r.length:Int)<(r.length:Int)+1:=Bd;obtain⟨la,lc,a1⟩:∃a c,lv=.s a o.lo.length c:=Bg (h.lrow l);subst a1;obtain⟨gl,rfl,_,_,_⟩:=Om (h.lrow l) K;have ni:(n:Int)<(o.lo.length:Int):=Bd;clear h l hg J;go_in;go_wp2_with fail;refine(Ba L _ (Vm _ _)).mono ?_;rintro e w1 ⟨va,vc,a2,rfl,f,-⟩;clear z L;have a5:=f.cell (j:=15) Hd;obtain⟨N,rfl,_,A,D⟩:=Pq f rfl (q:=0) Fr;obtain⟨O,Q,a6,z,-,-,g2,-,-⟩:=Jn f rfl;have t:=Bry (f.drew) rfl n v.1 v.2;obtain⟨a7,V,_,F,G⟩:=Pq t rfl (q:=0) Fr;simp only[Option.some.injEq,Addr.mk.injEq,Bwb]at V;subst V;obtain⟨a8,Y,_,d7,-,-,d2,-,-⟩:=Jn t rfl;have Z:=Q.symm.trans Y;simp only[Option.some.injEq,Addr.mk.injEq,Bwb]at Z;subst Z;obtain⟨_,_,z0,z1⟩:=Btr f rfl K;have zf:=Btq f rfl;have H2:=Bc t.drop;clear f t Q Y;simp only[Bxt,Bwh,Bvp]at A D F G z0 z1;obtain⟨v1,v2⟩:=v;simp only at A D F G;go_wp2
 go_region_held3 (fun b=>b.C k.B 7 (.s (.p O) (r.length+1) M.oc)/\b.C O (r.length*4+2) (.s (.p gl) o.lo.length lc)/\b.C N 0 (.i v1)/\b.C N 1 (.i v2))
  (first|exact⟨z,g2,A,D⟩|exact⟨d7,d2,F,G⟩)
  (fail)
 go_wp2;go_end0;exact⟨rfl,a2,Ba H2⟩
def Tryz.infoThing:(prog.info? 118).map (fun i=>(i.zero,i.size,i.bytes))=some (some (.agg #[.i 0,.bool false,.s none 0 0]),3,40):=Le
def Br.thing(M:Br)(c:Int)(ta:TA)(tc:Nat):Br:=⟨M.os,M.ts++[(⟨c,false,[]⟩,.slice none 0 0)],M.made+1,M.read,M.out,M.steps,M.status,M.value,M.oa,M.oc,ta,tc,M.xa,M.xc⟩
def Bo8{k:Db}{M:Br}{w9:TW}{c:Int}{ta:TA}{tc:Nat}(h:Bm k M X w)(m:w9.ownsRow k.w0.heap.size 118 3 (.s ta (M.ts.length+1) tc) (M.ts.length+1) (M.ts.flatMap Iy++[.i c,.bool false,.s none 0 0])) (q:w.grownBy w9 (Value.slice M.ta M.ts.length M.tc).ownBlock)(t:(Value.slice ta (M.ts.length+1) tc).ownBlock=(Value.slice M.ta M.ts.length M.tc).ownBlock\/(Value.slice ta (M.ts.length+1) tc).ownBlock=some w.heap.size):w9.C k.B 8 (.s M.ta M.ts.length M.tc)/\w9.frozen? (.a k.B 8)=false/\(w9.setCell (.a k.B 8) (.s ta (M.ts.length+1) tc)).C k.B 9 (.i (M.made:Int))/\(w9.setCell (.a k.B 8) (.s ta (M.ts.length+1) tc)).frozen? (.a k.B 9)=false/\Bm k (M.thing c ta tc) X ((w9.setCell (.a k.B 8) (.s ta (M.ts.length+1) tc)).setCell (.a k.B 9) (.i ((M.made:Int)+1))):=by
 obtain⟨v,b,e,z,A,D,F,G,I,J,K,N,O,Q⟩:=M;simp only at m q t ⊢;have f:=Own.app (i:=2) h Hd m q t;have g:=Own.cell (i:=0) f Hd 8 (.s ta (b.length+1) tc);have V:=Own.cell (i:=0) g Hd 9 (.i ((e:Int)+1));refine⟨Own.see (i:=0) (j:=8) f Hd Hd,Own.free (i:=0) f Hd 8,Own.see (i:=0) (j:=9) g Hd Hd,Own.free (i:=0) g Hd 9,?_⟩;have l:=Own.mid (L:=Br.rows k ⟨v,b,e,z,A,D,F,G,I,J,K,N,O,Q⟩ |>.set 2 ⟨118,3,.s ta (b.length+1) tc,b.length+1,b.flatMap Iy++[.i c,.bool false,.s none 0 0]⟩ |>.set 0 ⟨115,16,.s (.p k.B) 1 1,1,(Br.thing ⟨v,b,e,z,A,D,F,G,I,J,K,N,O,Q⟩ c ta tc).cells k⟩) (X:=X) (r:=Dc (.s none 0 0) []) (by
  have Y:=Own.add_nil V 240 2;unfold Br.thing Br.cells;simp only[Up,Bvo,Bwn,Bvp,Bzh];exact Y)
 unfold Bm Br.thing Br.rows;unfold Br.thing Br.rows at l;simp only[Bvx,Bwm,Byz,Bwl,Bwj,Bz9,Bxl,Up,Bvo,Bwn,Bvp,<- Bwe]at l ⊢;simpa[Iy,Kx] using l
def Bjy(k:Db)(M:Br)(X:List Rw)(o:Ca)(lv sv:TX)(r:List (Ca×Value×Value))(c:Int)(w:TW)(N:k.f.ok k.w0)(h:Bm k M X w)(v:M.os=(o,lv,sv)::r)(O:r.length<=1000)(Q:o.st.length<=1000)(V:o.m<k.f.ms.length)(Y:(o.st.length:Int)<k.f.ms[o.m].1.m.stack)(Z:M.ts.length<=1000)(a3:M.made<=1000):Calls prog 151 #[.q k.B 0,.i c] w fun e b=>e=.r (.tuple #[])/\∃ta tc l,Bm k ((M.thing c ta tc).put ((⟨o.m,o.p,o.lo,o.st++[(2,(M.ts.length:Int))]⟩,lv,l)::r)) X b:=by
 obtain⟨i0,hi,a0,a1,a2⟩:=Bv4 Tryz.infoThing;have c8:=h.cell (j:=8) Hd;have z:=h.hrow;have a4:=h.low.size;have A:=Bc (fun (b w9:TW) ta tc (hb:Bl w b) ho hk g=>Bo8 (c:=c) (w9:=w9) (ta:=ta) (tc:=tc) (h.below hb) ho hk g);have D:=Bc (fun ta tc (b:TW) (F:Bm k (M.thing c ta tc) X b)=>Bxh (show b.C k.B 8 (.s ta (M.ts.length+1) tc) from F.cell (by unfold Br.thing Br.cells;simp)) (Ju k (M.thing c ta tc) X o lv sv r 2 (M.ts.length:Int) b N F v V Y O Q));have a5:IntKind.i64.wrap ((M.made:Int)+1)=(M.made:Int)+1:=Eg _ Bd Bd;have a6:=Rz M.ts.length Z;clear h v;generalize M.ts.length=L at *;generalize M.made=md at *;go_in;go_wp2_with (at_builtin;refine Bxg _ rfl _ _ 113 rfl k.w0.heap.size 118 i0 _ 3 40 Bzt hi a0 a1 a2 rfl Ck _ _ _ rfl (z.alloc _) ⟨w.heap.size,0,none⟩ 1 1 [.i c,.bool false,.s none 0 0] rfl rfl ?c1 ?c2 ?c3 ?c4 ?c5 ?_)
 case c1=>exact Dv _ _ _ _ rfl
 case c2=>intro u G;simp at G;rcases G with rfl|rfl|rfl<;>rfl
 case c3=>unfold maxLen;omega
 case c4=>omega
 case c5=>simp;omega
 intro v' w2 t I _ g;obtain⟨ta,tc,rfl⟩:=Bg t;obtain⟨e1,e2,e3,e4,J⟩:=Ba A _ _ _ _ (QN _) t I (by simpa using g);obtain⟨d8,K⟩:=Ba D _ _ _ J;have HQ:=Bc K;clear A D t I g J K z c8;go_wp2_with fail;refine Qm (Ba HQ) ?_;rintro w3 ⟨l,h4⟩;go_wp2;go_end0;exact⟨rfl,ta,tc,l,h4⟩
def Bey{α:Type}(f:α->TV)(z:Nat)(b:∀x,(f x).length=z)(l:List α)(n:Nat)(c:n<l.length)(j:Nat)(g:j<z)(u:TX){x':α}(e:(f l[n]).set j u=f x'):(l.flatMap f).set (n*z+j) u=(l.set n x').flatMap f:=by
 induction l generalizing n with
 | nil=>simp at c
 | cons x r ih =>
  cases n with
  | zero =>
   rw[Bwj,Byw,Bwj,Bwh,Bvp,Bx7 _ _ (by rw[b];exact g)];rw[show (f x).set j u=f x' from e]
  | succ m =>
   rw[Bwj,Bwf,Bwj,Bw1 _ _ (by rw[b,Bza];omega),b,show (m+1)*z+j-z=m*z+j by rw[Bza];omega,ih m (by simpa using c) e]
def Bp2{v:TW}{a b c d:Rw}{f g i:List Rw}{j e y:Rw}(h:Own v (a::b::c::d::(f++(g++j::i)++y::e::X)) w):Own v (a::b::c::d::(f++(g++e::i)++X)) w:=by
 have l:Own v (a::b::c::d::(f++(g++i)++e::X)) w:=Own.sub h (by
  refine Bw5 _ (Bw5 _ (Bw5 _ (Bw5 _ ?_)));exact Byr (Byr (Bz0 _) (Byr (Bz0 _) (Bw4 _ _))) (Bw4 _ _))
 refine Own.perm l (Bzo _ (Bzo _ (Bzo _ (Bzo _ ?_))));refine List.perm_middle.trans ?_;rw[show f++(g++e::i)++X=(f++g)++e::(i++X) by simp,show f++(g++i)++X=(f++g)++(i++X) by simp];exact List.perm_middle.symm
def Br.withTs(M:Br)(ts:List (Do × Value)):Br:=⟨M.os,ts,M.made,M.read,M.out,M.steps,M.status,M.value,M.oa,M.oc,M.ta,M.tc,M.xa,M.xc⟩
def Brz{k:Db}{M:Br}{n:Nat}{c:Int}{l v:TX}{q e:TP}{y:Rw}(h:Bm k M (y::Dc v e::X) w)(A:M.ta=some ⟨u,0,none⟩)(f:n<M.ts.length)(t:M.ts[n]=(⟨c,false,q⟩,l)):(w.setCell (.a u (n*3+1)) (.bool true)).C k.B 8 (.s (.p u) M.ts.length M.tc)/\(w.setCell (.a u (n*3+1)) (.bool true)).C u (n*3+2) l/\(w.setCell (.a u (n*3+1)) (.bool true)).frozen? (.a u (n*3+2))=false/\Bm k (M.withTs (M.ts.set n (⟨c,true,e⟩,v))) X ((w.setCell (.a u (n*3+1)) (.bool true)).setCell (.a u (n*3+2)) v):=by
 obtain⟨D,b,F,G,I,J,K,L,N,O,ta,Q,V,Y⟩:=M;simp only at A f t;subst A;have e1:=Bey Iy 3 (fun _=>rfl) b n f 1 Bd (.bool true) (x':=(⟨c,true,q⟩,l)) (by rw[t];rfl);have m:=Own.cellE (i:=2) h Hd e1;have Z:=Bey Iy 3 (fun _=>rfl) (b.set n (⟨c,true,q⟩,l)) n (by simpa using f) 2 Bd v (x':=(⟨c,true,e⟩,v)) (by rw[B0u];rfl);rw[Bzf]at Z;have z:=Own.cellE (i:=2) m Hd Z;refine⟨Own.see (i:=0) (j:=8) m Hd Hd,Own.see (i:=2) (j:=n*3+2) m Hd ?_,Own.free (i:=2) m Hd _,?_⟩
 ·rw[M5 Iy 3 (fun _=>rfl) _ n (by simpa using f) 2 Bd,B0u];rfl
 have e3:b.map Kx=(b.take n).map Kx++Dc l q::(b.drop (n+1)).map Kx:=by
  conv=>lhs;rw[<- Bxm n b,Wr f,t]
  simp[Kx]
 have e4:(b.set n (⟨c,true,e⟩,v)).map Kx=(b.take n).map Kx++Dc v e::(b.drop (n+1)).map Kx:=by
  rw[By5,Sp f];simp[Kx]
 have e5:Br.cells k ⟨D,b.set n (⟨c,true,e⟩,v),F,G,I,J,K,L,N,O,some ⟨u,0,none⟩,Q,V,Y⟩=Br.cells k ⟨D,b,F,G,I,J,K,L,N,O,some ⟨u,0,none⟩,Q,V,Y⟩:=by unfold Br.cells;simp
 unfold Bm Br.withTs Br.rows;unfold Br.rows at z;simp only[e4,e5,Bv7];simp only[e3]at z;exact Bp2 z
def Bo9(k:Db)(M:Br)(X:List Rw)(o:Ca)(lv sv:TX)(r:List (Ca×Value×Value))(c n:Nat)(s t a3:TP)(J:TX)(w:TW)(hf:k.f.ok k.w0)(h:Bm k M X w)(hM:M.os=(o,lv,sv)::r)(hr:r.length<=1000)(K:o.st.length<=1000) (N:o.st=s++(2,(n:Int))::t)(hc:c<k.f.l.length)(a4:Hw k.f.T (M.ts.map Prod.fst) t (Rf.all (Cw k.f.l) (k.f.l.map Prod.fst) c)=true)(a5:∀v∈t,v.1=2->0<=v.2/\v.2<(M.ts.length:Int))(h0:0<n)(z:n<M.ts.length)(O:M.ts[n]=(⟨(c:Int),false,a3⟩,J))(b5:M.ts.length<=1000):Calls prog 152 #[.q k.B 0,.i (c:Int)] w fun e A=>e=.r (.tuple #[])/\∃b0 v,Bm k ((M.withTs (M.ts.set n (⟨(c:Int),true,t⟩,v))).put ((⟨o.m,o.p,o.lo,s⟩,lv,b0)::r)) X A:=by
 have D:=h.fok hf;have hA:=Bgd k.f.a1 k.f.a2 k.f.c1 k.f.ms.length k.f.c2 k.f.bb k.f.l c w D.1 hc D.2.2.2.1 D.2.2.2.2.1;have c0:w.C k.B 0 (.s k.f.a1 k.f.l.length k.f.c1):=h.cell Hd;have c1:w.C k.B 1 (.s k.f.a2 k.f.ms.length k.f.c2):=h.cell Hd;generalize Rf.all (Cw k.f.l) (k.f.l.map Prod.fst) c=Q at *;have HT:=Bc (fun (A:TW) V Y (hb:Bl w A) (F:TyR A (.s V Q.length Y) Q)=>Bbv k M X o lv sv r (s++[(2,(n:Int))]) t Q V Y A hf (h.below hb) hM (by rw[N];simp) hr K F a4 a5);have b1:(s++[(2,(n:Int))]).length<=1000:=by rw[N]at K;simp at K ⊢;omega
 have HA:=Bc hA;clear h hA D a4 a5 hM N;go_in;go_wp2_with fail;refine(Ba HA).mono ?_;rintro e w1 ⟨V,Y,rfl,F,a6⟩;have hT:=Ba HT _ _ _ a6 (TyR.of_tys F);have a7:=Bc hT;clear HT HA F a6 c0 c1 hT;go_wp2_with fail;refine(Ba a7).mono ?_;rintro e w2 ⟨va,vc,b2,rfl,h2⟩;have hO:=Tf k _ _ ⟨o.m,o.p,o.lo,s++[(2,(n:Int))]⟩ lv b2 r s [(2,(n:Int))] w2 h2 rfl rfl hr b1;have HO:=Bc hO;clear a7 h2 hO;go_wp2_with fail;refine(Ba HO).mono ?_;rintro e G ⟨oa,oc,b3,rfl,b,-⟩;have b6:=b.cell (j:=15) Hd;obtain⟨go,rfl,_,x0,x1⟩:=Pq b rfl (q:=0) Fr;obtain⟨g,Z,b7,a0,a8⟩:=Sl b (n:=n) z;have I:(M.ts[n]'z)=(⟨(c:Int),false,a3⟩,J):=O;have c8:G.C k.B 8 (.s M.ta M.ts.length M.tc):=b.cell Hd;have a9:M.ta=some ⟨g,0,none⟩:=Z;rw[a9]at c8;have t0:G.C g (n*3) (.i (c:Int)):=a0 0 _ (by show (Iy M.ts[n])[0]?=_;rw[I];rfl);have t1:G.C g (n*3+1) (.bool false):=a0 1 _ (by show (Iy M.ts[n])[1]?=_;rw[I];rfl);have f1:=a8 (n*3+1);obtain⟨d8,d2,df,h4⟩:=Brz b Z z O;have b4:∃a m c,J=.s a m c:=by
  have:=Bg (Pr b (n:=n) z);obtain⟨a,c',e⟩:=this;have e':(M.ts[n]'z).2=.s a _ c':=e;rw[I]at e';exact⟨a,_,c',e'⟩
 obtain⟨b8,b9,c3,rfl⟩:=b4;have H4:=Bc h4;have c4:(G.setCell (.a g (n*3+1)) (.bool true)).C k.B 8 (.s (.p g) M.ts.length M.tc):=d8;have k0:(n:Int)<(M.ts.length:Int):=Bd;have k1:¬(n:Int)<1:=Bd;clear b h4 a0 a8 Z a9 O I HO d8;simp only[Bxt,Bwh,Bvp]at x0 x1;generalize M.ts.length=L at *;go_wp2;go_end0;exact⟨rfl,b3,_,Ba H4⟩
def Bmp(ty:TypeId){f dCap K m c:Nat}{l:TA}{G:Array Value}{a:TP}(i:w.heap[u]?=some (.cells G 240 (0,0)))(F:G.size=f*2)(j:m=a.length)(I:m<=f) (q:w.ownsRow K 240 2 (.s l m c) m (Bu a)):(Builtin.copy_ #[116,116] ty #[.s (.p u) f dCap,.s l m c]).run prog w=.ok (goInt m) (w.setRow u (Bu a++G.toList.drop (m*2)).toArray):=by
 obtain⟨J,t,L,v,N⟩:=Bv4 Tryz.infoVal;have z:=By0;have h:(Bu a).length=m*2:=by rw[Kc,j]
 have B:min m f=m:=Bd;have C:=run_storeCells_at prog u 0 240 (Bu a) 0 G w i (by rw[h];omega) (Va a);rcases q.2 with ⟨e,O⟩|⟨D,Q,V,e,_,Y,_,_,_,Z⟩
 ·simp only[Value.slice.injEq]at e;obtain⟨rfl,rfl,rfl⟩:=e;obtain rfl:=Bwc j.symm;simp[Builtin.copy_,run_underlying z,Builtin.lenOf,Builtin.firstCells,sizeOf,typeInfo,t,v,storeCells,Bu,setRow_self w u G _ (0,0) i]
 simp only[Value.slice.injEq]at e;obtain⟨rfl,-,rfl⟩:=e;have A:=run_loadCells_list (P:=prog) w ⟨D,0,none⟩ (Bu a) (World.ownsRow.cells q rfl);rw[h]at A;simp[Builtin.copy_,run_underlying z,Builtin.lenOf,Builtin.firstCells,sizeOf,typeInfo,t,v,B,A,C,h]
def Bo7{i:Array Oper}{j:List Oper}{o:Oper}{a:Act}{Q:Exit->Act->TW->Prop}(v:o.guard=none)(d e:Operand)(z:o.op=.call { callee:=.builtin .copy,args:=#[d,e],argTypes:=#[116,116] }) {s dCap K m c:Nat}{l:TA}(A:a.eval d=.s (.p u) s dCap)(B:a.eval e=.s l m c){G:Array Value}{q:TP}(C:w.heap[u]?=some (.cells G 240 (0,0)))(D:G.size=s*2)(F:m=q.length)(I:m<=s)(J:w.ownsRow K 240 2 (.s l m c) m (Bu q)) (h:∀t,Hid (t=w.setRow u (Bu q++G.toList.drop (m*2)).toArray)->wpList prog i Q j (a.put o.dst (goInt m)) t):wpList prog i Q (o::j) a w:=by
 refine wpList_plain v fun f L=>?_;have N:=Bmp o.type C D F I J (dCap:=dCap);unfold Oper.wp;simp[execOp,z,resolve,invoke,builtin,A,B,N,Result.andThen];exact L _ _ (h _ (Bc rfl))
def Bql(n:Nat):(madeCells #[Value.int .i64 0,.i 0] (n*2)).toList=Bu (List.replicate n (0,0)):=by
 apply Bzy;intro j;by_cases b:j<n*2
 ·obtain⟨c,e,_⟩:=Gc (List.replicate n ((0:Int),(0:Int))) (j/2) Fm;rcases Nat.mod_two_eq_zero_or_one j with h|h
  ·rw[show j/2*2=j by omega]at c;rw[c];simp[madeCells,b,h]
  rw[show j/2*2+1=j by omega]at e;rw[e];simp[madeCells,b,h]
 rw[Bwz (by simp[madeCells];omega),Bwz (by rw[Kc];simp;omega)]
def Tryz.infoOpen:(prog.info? 171).map (fun i=>(i.zero,i.size,i.bytes))=some (some (.agg #[.i 0,.i 0,.s none 0 0,.s none 0 0]),4,64):=Le
def Br.open(M:Br)(x:Ca × Value × Value)(oa:TA)(oc:Nat):Br:=⟨x::M.os,M.ts,M.made,M.read,M.out,M.steps,M.status,M.value,oa,oc,M.ta,M.tc,M.xa,M.xc⟩
def Brx{k:Db}{M:Br}{w9:TW}{n:Nat}{q:TP}{lv:TX}{oa:TA}{oc:Nat}(h:Own k.w0 (Dc lv q::(M.rows k++X)) w)(m:w9.ownsRow k.w0.heap.size 171 4 (.s oa (M.os.length+1) oc) (M.os.length+1) (M.os.reverse.flatMap Fx++[.i (n:Int),.i 0,lv,.s none 0 0])) (p:w.grownBy w9 (Value.slice M.oa M.os.length M.oc).ownBlock)(t:(Value.slice oa (M.os.length+1) oc).ownBlock=(Value.slice M.oa M.os.length M.oc).ownBlock\/(Value.slice oa (M.os.length+1) oc).ownBlock=some w.heap.size):w9.C k.B 7 (.s M.oa M.os.length M.oc)/\w9.frozen? (.a k.B 7)=false/\Bm k (M.open (⟨n,0,q,[]⟩,lv,.s none 0 0) oa oc) X (w9.setCell (.a k.B 7) (.s oa (M.os.length+1) oc)):=by
 obtain⟨g,F,G,I,J,K,L,N,O,Q,V,Y,Z,xc⟩:=M;simp only at m p t h ⊢;have l:=Own.app (i:=2) h Hd m p t;have z:=Own.cell (i:=1) l Hd 7 (.s oa (g.length+1) oc);have v:=Own.add_nil z 240 2;refine⟨Own.see (i:=1) (j:=7) l Hd Hd,Own.free (i:=1) l Hd 7,?_⟩;unfold Bm Br.open Br.rows;unfold Br.rows at v;simp only[Bwj,Lc,Dc,Bxj,Bwl,Bz9,Bxl,Bvo];have A:∀{a b c d e f:Rw}{R:List Rw},Own k.w0 (a::b::c::d::e::f::R) (w9.setCell (.a k.B 7) (.s oa (g.length+1) oc))->Own k.w0 (c::d::e::f::b::a::R) (w9.setCell (.a k.B 7) (.s oa (g.length+1) oc)):=fun {a b c d e f R} D=>D.perm (by
  refine(List.Perm.swap b a _).trans ?_;exact(List.perm_append_comm_assoc [b,a] [c,d,e,f] R))
 exact A v
theorem Zr(k:Db)(M:Br)(X:List Rw)(n b:Nat)(a:List (Int×Int))(s:Option Addr)(vc:Nat)(w:World)(hf:k.f.ok k.w0)(h:Bm k M (Dc (.slice s a.length vc) a::X) w)(N:n<k.f.ms.length)(O:k.f.ms[n].1.m.locals=(b:Int))(b3:a.length<=b)(d0:b<=1000)(d1:M.os.length<=1000):Calls prog 61 #[.pointer (some ⟨k.B,0,none⟩),.int .i64 (n:Int),.slice s a.length vc] w fun e C=>e=.returned (.tuple #[])/\∃lv oa oc,Bm k (M.open (⟨n,0,a++List.replicate (b-a.length) (0,0),[]⟩,lv,.slice none 0 0) oa oc) (Dc (.slice s a.length vc) a::X) C:=by
 obtain⟨i0,hi,b4,b5,b6⟩:=Bv4 Tryz.infoVal;obtain⟨i1,ji,b7,b8,b9⟩:=Bv4 Tryz.infoOpen;obtain⟨m,g,Q,d2,V,Y⟩:=RFl.mth (h.fok hf) N;have Z:m.lo=(b:Int):=by rw[Y.lo,O]
 have c1:w.cell? ⟨k.B,1,none⟩=some (.slice (some ⟨g,0,none⟩) k.f.ms.length k.f.c2):=by rw[<- Q];exact h.cell Hd
 have c7:w.cell? ⟨k.B,7,none⟩=some (.slice M.oa M.os.length M.oc):=h.cell Hd;have lB:=h.ltB;have d3:=h.low.size;obtain⟨cl,nm,pa,pl,pc,r1,r2,d4,st,c0,ha,hl,hc,ma,ml,mc,c6,c8⟩:=m;simp only at Z;subst Z;obtain⟨y0,y1,y2,y3,y4,y5,y6,y7,y8,y9,ya,yb⟩:=Ua V;simp only at y0 y1 y2 y3 y4 y5 y6 y7 y8 y9 ya yb;have ni:(n:Int)<(k.f.ms.length:Int):=Bd;have D:=Bc h;clear V Y Q h O N;go_in;go_wp2_with (refine wpList_make_full _ rfl _ _ 116 rfl k.w0.heap.size 240 i0 _ 2 By0 hi b4 b5 .i64 .i64 _ _ b rfl rfl ?c1 ?c2 ?c3 ?c4 ?c5 ?_)
 case c1=>rfl
 case c2=>rfl
 case c3=>rw[b6];omega
 case c4=>unfold maxLen;omega
 case c5=>simp;omega
 intro i a0 q;have a1:Below w.heap.size w (w.alloc (O12 cl nm pa pl pc r1 r2 (b:Int) st c0 ha hl hc ma ml mc c6 c8)):=QN _;have l:Below w.heap.size w i:=a1.trans ⟨q.os,q.tape,q.output,q.size,fun j hj=>q.block j Fm Fr⟩;obtain⟨c,a2,a3,a4⟩:∃c:Array Value,i.heap[w.heap.size+1]?=some (.cells c 240 (0,0))/\c.size=b*2/\c.toList=(madeCells #[.int .i64 0,.int .i64 0] (b*2)).toList:=by
  obtain⟨q1,⟨q2,_⟩|⟨g',d5,c,q3,_,q5,_,_,q8,q9⟩⟩:=a0
  ·simp at q2
  simp only[Value.slice.injEq,Option.some.injEq,Addr.mk.injEq,Bwb,Byl]at q3;obtain⟨rfl,rfl⟩:=q3;exact⟨c,q5,q8,by rw[<- q9,Bv0 Fm]⟩
 have a5:i.ownsRow k.w0.heap.size 240 2 (.slice s a.length vc) a.length (Bu a):=((Ba D).below l).row (Dc (.slice s a.length vc) a) Fr;have a6:=Bc l;have v:=Bc (Bxh a4 a2);have a7:=Bc a3;have a8:=Bc a5;have d7:=(l.cell (p:=⟨k.B,7,none⟩) lB).trans c7;clear a0 q a1 l a4 a5 y0 y1 y2 y3 y4 y5 y6 y7 y8 y9 ya yb c1 c7 a2 a3;go_wp2_with (refine Bo7 rfl _ _ rfl rfl rfl (Ba v).2 (Ba a7) rfl b3 (Ba a8) ?_)
 intro w2 a9;have b0:=Ba a9;clear a9;have z:=Ba D;have l:=Ba a6;have t:Below w.heap.size w (i.setRow (w.heap.size+1) (Bu a++c.toList.drop (a.length*2)).toArray):=below_setRow l Bd _;have b1:(i.setRow (w.heap.size+1) (Bu a++c.toList.drop (a.length*2)).toArray).ownsRow w.heap.size 240 2 (.slice (some ⟨w.heap.size+1,0,none⟩) b b) b (Bu (a++List.replicate (b-a.length) (0,0))):=by
  have e:Bu a++c.toList.drop (a.length*2)=Bu (a++List.replicate (b-a.length) (0,0)):=by
   rw[(Ba v).1,Bql,<- Bhx,List.drop_replicate,Ml]
  rw[e];have F:(Bu (a++List.replicate (b-a.length) (0,0))).length=b*2:=by rw[Kc];simp;omega
  exact⟨F,.inr ⟨w.heap.size+1,b,_,rfl,Bd,B05 i _ _ _ _ _ (Ba v).2,Wf _,Mc,by simpa using F,by rw[Bv0 (by rw[F];exact Wf _)]⟩⟩
 have G:=Own.add_new (r:=Dc (.slice (some ⟨w.heap.size+1,0,none⟩) (a++List.replicate (b-a.length) (0,0)).length b) (a++List.replicate (b-a.length) (0,0))) z t (by
  have e3:(a++List.replicate (b-a.length) ((0:Int),(0:Int))).length=b:=Fm;unfold Dc;rw[e3];exact b1)
 rw[show (a++List.replicate (b-a.length) ((0:Int),(0:Int))).length=b by simp;omega]at G;have e7:(i.setRow (w.heap.size+1) (Bu a++c.toList.drop (a.length*2)).toArray).cell? ⟨k.B,7,none⟩=some (.slice M.oa M.os.length M.oc):=(z.below t).cell Hd;have I:=(z.below t).orow;have c9:=t.size;have J:=Bc (fun (C w9:World) oa oc (hb:Below _ _ C) ho hk A=>Brx (n:=n) (w9:=w9) (oa:=oa) (oc:=oc) (G.below hb) ho hk A);clear D a6 v a7 a8 z l b1 G t d7;rw[<- b0]at e7 I c9 J;clear b0;generalize hL:M.os.length=L at *;go_wp2_with (at_builtin;refine Bxg _ rfl _ _ 112 rfl k.w0.heap.size 171 i1 _ 4 64 underlying112 ji b7 b8 b9 rfl Ck _ _ _ rfl (I.alloc _) ⟨w2.heap.size,0,none⟩ 1 1 [.int .i64 (n:Int),.int .i64 0,.slice (some ⟨w.heap.size+1,0,none⟩) b b,.slice none 0 0] rfl rfl ?c1 ?c2 ?c3 ?c4 ?c5 ?_)
 case c1=>exact Dv _ _ _ _ rfl
 case c2=>intro u hu;simp at hu;rcases hu with rfl|rfl|rfl|rfl<;>rfl
 case c3=>unfold maxLen;omega
 case c4=>omega
 case c5=>simp;omega
 intro v' w3 K b2 _ A;obtain⟨oa,oc,rfl⟩:=Bg K;obtain⟨f7,f8,h3⟩:=Ba J _ _ _ _ (QN _) K b2 (by simpa using A);have H3:=Bc h3;clear J K b2 A h3 I e7;go_wp2;go_end0;exact⟨rfl,_,oa,oc,Ba H3⟩
abbrev Sg(v:Value)(l:List Rf.Fld):Rw:=⟨235,4,v,l.length,Nd l⟩
theorem Bma{k:Db}{M b:Br}{w:World}{s j K yc n t q:Nat}{F:List Rf.Fld}(h:Bm k b (Sg (.slice (some ⟨u,0,none⟩) F.length s) F::X) w)(c:b.ts=M.ts)(e:b.ta=M.ta)(g:b.tc=M.tc)(A:n<F.length)(i:t<M.ts.length)(l:M.ta=some ⟨j,0,none⟩)(m:M.ts[t].2=.slice (some ⟨K,0,none⟩) M.ts[t].1.vals.length yc)(C:q<M.ts[t].1.vals.length):w.cell? ⟨u,n*4+1,none⟩=some (.int .i64 F[n].slot)/\w.cell? ⟨k.B,8,none⟩=some (.slice (some ⟨j,0,none⟩) M.ts.length M.tc)/\w.cell? ⟨j,t*3+2,none⟩=some (.slice (some ⟨K,0,none⟩) M.ts[t].1.vals.length yc)/\w.cell? ⟨K,q*2,none⟩=some (.int .i64 M.ts[t].1.vals[q].1)/\w.cell? ⟨K,q*2+1,none⟩=some (.int .i64 M.ts[t].1.vals[q].2):=by
 obtain⟨O,Q,V,Y,Z,a0,a1,a2,oa,oc,ta,tc,xa,xc⟩:=b;simp only at c e g;subst c e g;have D:=h.row (Sg (.slice (some ⟨u,0,none⟩) F.length s) F) Fr;obtain⟨a3,p,_,_,G⟩:=Cf D (by show 0<F.length;omega);simp only[Option.some.injEq,Addr.mk.injEq,Bwb]at p;subst p;obtain⟨a4,I,_,J,_⟩:=Sl h i;have v:=l.symm.trans I;simp only[Option.some.injEq,Addr.mk.injEq,Bwb]at v;subst v;obtain⟨c,e⟩:=Im F n A 1 Bd;have f:=Pr h i;simp only at f;rw[m]at f;obtain⟨a5,z,_,L,N⟩:=Om f C;simp only[Option.some.injEq,Addr.mk.injEq,Bwb]at z;subst z;refine⟨(G _ e).trans c,?_,?_,L,N⟩
 ·rw[<- l];exact h.cell Hd
 rw[<- m];exact J 2 _ rfl
def Bpd(k:Db)(M:Br)(X:List Rw)(o:Ca)(lv sv:TX)(r:List (Ca×Value×Value))(n t q:Nat)(a:TP)(A:TA)(vc:Nat)(w:TW)(Z:k.f.ok k.w0)(h:Bm k M (Dc (.s A a.length vc) a::X) w)(hM:M.os=(o,lv,sv)::r)(hr:r.length<=1000)(hs:o.st.length<=1000)(hm:o.m<k.f.ms.length)(hl:(o.st.length:Int)<k.f.ms[o.m].1.m.stack) (ha:0<a.length)(a0:a[0].2=(t:Int))(g:t<M.ts.length)(hn:n<k.f.fields.length)(hq:k.f.fields[n].slot=(q:Int))(D:q<M.ts[t].1.vals.length):Calls prog 203 #[.q k.B 0,.i 17,.i (n:Int),.s A a.length vc] w fun e b=>e=.r (.tuple #[])/\∃a4,Bm k (M.put ((⟨o.m,o.p,o.lo,o.st++[M.ts[t].1.vals[q]]⟩,lv,a4)::r)) (Dc (.s A a.length vc) a::X) b:=by
 have c:=h.fok Z;have hF:=Uc k.f.a1 k.f.a2 k.f.c1 k.f.ms.length k.f.c2 k.f.bb k.f.l w c.1 c.2.1 c.2.2.2.1 c.2.2.2.2.1;have eF:Rf.fieldsTo (Cw k.f.l) (k.f.l.map Prod.fst) (k.f.l.length-7)=k.f.fields:=rfl;rw[eF]at hF;have c0:w.C k.B 0 (.s k.f.a1 k.f.l.length k.f.c1):=h.cell Hd;have c1:w.C k.B 1 (.s k.f.a2 k.f.ms.length k.f.c2):=h.cell Hd;generalize k.f.fields=F at *;obtain⟨ga,rfl,a5,-,G⟩:=Pq h rfl ha;rw[a0,Bwh,Bvp]at G;obtain⟨ya,yc,I⟩:=Bg (Pr h g);obtain⟨J,a6,_,_,_⟩:=Om (by have:=Pr h g;rw[I]at this;exact this) D;subst a6;obtain⟨gt,a3,_,_,_⟩:=Sl h g;have j:=Bc (fun (M1:Br) K fc (Y:List Rw) (b:TW) (L:Bm k M1 (Sg (.s (.p K) F.length fc) F::Y) b) e1 e2 e3=>Bma (M:=M) L e1 e2 e3 hn g a3 I D);have HA:=Bc (fun (b:TW) (v:TX) (hb:Bl w b) (ho:b.ownsRow w.heap.size 235 4 v F.length (Nd F))=>Own.mid (Own.add_new (r:=Sg v F) h hb ho));have HP:=Bc (fun (Y:List Rw) (b:TW) (L:Bm k M Y b)=>Ju k M Y o lv sv r M.ts[t].1.vals[q].1 M.ts[t].1.vals[q].2 b Z L hM hm hl hr hs);have a9:(n:Int)<(F.length:Int):=Bd;have b0:(t:Int)<(M.ts.length:Int):=Bd;have b1:(q:Int)<(M.ts[t].1.vals.length:Int):=Bd;rw[hq]at j;have HF:=Bc hF;have a7:0<F.length:=Bd;generalize M.ts[t].1.vals[q]=z at *;clear hF c eF h a3 a0 hm hl hr hs hn hq hM;generalize M.ts[t].1.vals.length=yn at *;clear I;clear D;obtain⟨z1,z2⟩:=z;go_in;go_wp2_with fail;refine(Ba HF).mono ?_;rintro e w1 ⟨fa,fc,rfl,N,O⟩;obtain⟨K,rfl,-⟩:=Cf N a7;have Q:=Ba HA _ _ O N;have x2:=(O.cell (p:=.a ga 1) a5).trans G;obtain⟨s1,s2,s3,s4,s5⟩:=Ba j _ _ _ _ _ Q rfl rfl rfl;have HC:=Bc (Ba HP _ _ (Own.drew Q));clear HF HA HP N O G c0 c1 Q;go_wp2_with fail
 go_region_held3 (fun b=>b.C K (n*4+1) (.i (q:Int))/\b.C k.B 8 (.s (.p gt) M.ts.length M.tc)/\b.C gt (t*3+2) (.s (.p J) yn yc)/\b.C J (q*2) (.i z1)/\b.C J (q*2+1) (.i z2))
  (first|exact⟨s1,s2,s3,s4,s5⟩|exact Ba j _ _ _ _ _ V rfl rfl rfl)
  (first|(go_at_call 147;refine(Ba HC).mono ?_;rintro e w7 ⟨rfl,a8,V⟩))
 clear s1 s2 s3 s4 s5 HC j;have H7:=Bc (Own.unmid V);clear V;go_wp2;go_end0;exact⟨rfl,a8,Own.sub (Ba H7) (Bw4 _ _)⟩
def Wa{α β:Type}(f:α->List β):∀(l:List α) (n:Nat) (b:n<l.length) (x:α),f x=f l[n]->(l.set n x).flatMap f=l.flatMap f
 | [],_,b,_,_=>by simp at b
 | y::r,0,_,x,h=>by simp at h;simp[h]
 | y::r,n+1,b,x,h=>by simp only[Bwf,Bwj];rw[Wa f r n (by simpa using b) x (by simpa using h)]
def Bpa{k:Db}{M:Br}(b:u<M.ts.length):(M.rows k++X)[4+(M.os.flatMap Lc).length+u]?=some (Kx M.ts[u]):=by
 unfold Br.rows;rw[show 4+(M.os.flatMap Lc).length+u=((M.os.flatMap Lc).length+u)+1+1+1+1 by omega];simp only[Bws,Bwi];rw[Bwe,Bvt Bd,Bxr,Bvy (by simpa using b),Bv8,Ws b];rfl
def Bl4{k:Db}{M:Br}(b:u<M.ts.length)(l:TP):(M.rows k++X).set (4+(M.os.flatMap Lc).length+u) (Dc M.ts[u].2 l)=(M.withTs (M.ts.set u (⟨M.ts[u].1.cl,M.ts[u].1.set,l⟩,M.ts[u].2))).rows k++X:=by
 unfold Br.rows Br.withTs Br.cells;rw[show 4+(M.os.flatMap Lc).length+u=((M.os.flatMap Lc).length+u)+1+1+1+1 by omega];simp only[Bws,Bwf,Bv7];rw[Wa Iy M.ts u b (⟨M.ts[u].1.cl,M.ts[u].1.set,l⟩,M.ts[u].2) rfl,Bwe,Bw1 _ _ Bd,Bxr,Bx7 _ _ (by simpa using b),<- Bwe];simp[Kx]
def Btn{k:Db}{M:Br}{b yc:Nat}(h:Bm k M X w)(c:u<M.ts.length)(e:M.ts[u].2=.s (.p b) M.ts[u].1.vals.length yc)(j:Nat):w.frozen? (.a b j)=false:=by
 have:=Pr h c;rw[e]at this;exact World.ownsRow.frozenAt this j
def Brv{k:Db}{M:Br}{q j yc:Nat}(h:Bm k M X w)(g:u<M.ts.length)(l:M.ts[u].2=.s (.p j) M.ts[u].1.vals.length yc)(b c:Int):Bm k (M.withTs (M.ts.set u (⟨M.ts[u].1.cl,M.ts[u].1.set,M.ts[u].1.vals.set q (b,c)⟩,M.ts[u].2))) X ((w.setCell (.a j (q*2)) (.i b)).setCell (.a j (q*2+1)) (.i c)):=by
 have f:=Bpa (k:=k) (X:=X) g;unfold Kx Dc at f;rw[l]at f;have v:=Own.cell h f (q*2) (.i b);have m:=Own.cellE v (Bx2 (List.getElem?_eq_some_iff.1 f).1) (Ym M.ts[u].1.vals q b c).symm;rw[Bzf]at m;have e:=Bl4 (k:=k) (X:=X) g (M.ts[u].1.vals.set q (b,c));unfold Bm;rw[<- e];unfold Dc;rw[l,Bv7];exact m
theorem Bl5{k:Db}{M1:Br}{w:World}{s gt n t b vc L tc:Nat}{F:List Rf.Fld}{y:Value}{a:List (Int×Int)}(h:Bm k M1 (Sg (.slice (some ⟨u,0,none⟩) F.length s) F::Dc (.slice (some ⟨b,0,none⟩) a.length vc) a::X) w)(i:n<F.length)(j:1<a.length)(l:M1.ts.length=L)(c:M1.ta=some ⟨gt,0,none⟩)(m:M1.tc=tc)(p:t<M1.ts.length)(q:M1.ts[t].2=y):w.cell? ⟨u,n*4+1,none⟩=some (.int .i64 F[n].slot)/\w.cell? ⟨k.B,8,none⟩=some (.slice (some ⟨gt,0,none⟩) L tc)/\w.cell? ⟨gt,t*3+2,none⟩=some y/\w.cell? ⟨b,2,none⟩=some (.int .i64 a[1].1)/\w.cell? ⟨b,3,none⟩=some (.int .i64 a[1].2):=by
 have v:=h.row (Sg (.slice (some ⟨u,0,none⟩) F.length s) F) Fr;obtain⟨K,e,_,_,z⟩:=Cf v (by show 0<F.length;omega);simp only[Option.some.injEq,Addr.mk.injEq,Bwb]at e;subst e;obtain⟨N,A,_,C,_⟩:=Sl h p;have f:=c.symm.trans A;simp only[Option.some.injEq,Addr.mk.injEq,Bwb]at f;subst f;obtain⟨D,G⟩:=Im F n i 1 Bd;obtain⟨O,g,_,I,J⟩:=Om (h.row (Dc (.slice (some ⟨b,0,none⟩) a.length vc) a) Fr) j;simp only[Option.some.injEq,Addr.mk.injEq,Bwb]at g;subst g;refine⟨(z _ G).trans D,?_,?_,I,J⟩
 ·rw[<- l,<- c,<- m];exact h.cell Hd
 rw[<- q];exact C 2 _ rfl
def Bpb(k:Db)(M:Br)(X:List Rw)(n t q:Nat)(a:TP)(I:TA)(vc:Nat)(w:TW)(hf:k.f.ok k.w0)(h:Bm k M (Dc (.s I a.length vc) a::X) w) (ha:1<a.length)(a0:a[0].2=(t:Int))(c:t<M.ts.length)(hn:n<k.f.fields.length)(hq:k.f.fields[n].slot=(q:Int))(J:q<M.ts[t].1.vals.length):Calls prog 203 #[.q k.B 0,.i 18,.i (n:Int),.s I a.length vc] w fun e b=>e=.r (.tuple #[])/\Bm k (M.withTs (M.ts.set t (⟨M.ts[t].1.cl,M.ts[t].1.set,M.ts[t].1.vals.set q a[1]⟩,M.ts[t].2))) (Dc (.s I a.length vc) a::X) b:=by
 have m:=h.fok hf;have hF:=Uc k.f.a1 k.f.a2 k.f.c1 k.f.ms.length k.f.c2 k.f.bb k.f.l w m.1 m.2.1 m.2.2.2.1 m.2.2.2.2.1;have eF:Rf.fieldsTo (Cw k.f.l) (k.f.l.map Prod.fst) (k.f.l.length-7)=k.f.fields:=rfl;rw[eF]at hF;have c0:w.C k.B 0 (.s k.f.a1 k.f.l.length k.f.c1):=h.cell Hd;have c1:w.C k.B 1 (.s k.f.a2 k.f.ms.length k.f.c2):=h.cell Hd;generalize k.f.fields=F at *;obtain⟨A,rfl,a5,-,K⟩:=Pq h rfl (show 0<a.length by omega);rw[a0,Bwh,Bvp]at K;obtain⟨ya,yc,g⟩:=Bg (Pr h c);obtain⟨gy,a6,-,-,-⟩:=Om (by have:=Pr h c;rw[g]at this;exact this) J;subst a6;obtain⟨gt,a3,-,-,-⟩:=Sl h c;have D:=Bc (fun (M1:Br) N fc (Y:List Rw) (b:TW) (j:Bm k M1 (Sg (.s (.p N) F.length fc) F::Dc (.s (.p A) a.length vc) a::Y) b) (e1:M1.ts.length=M.ts.length) (e2:M1.ta=some ⟨gt,0,none⟩) (e3:M1.tc=M.tc) (hl:t<M1.ts.length) (e4:M1.ts[t].2=M.ts[t].2)=>Bl5 (M1:=M1) (L:=M.ts.length) (tc:=M.tc) (t:=t) (gt:=gt) (y:=M.ts[t].2) j hn ha e1 e2 e3 hl e4);have HZ:=Bc (fun (Y:List Rw) (b:TW) (j:Bm k M Y b)=>Bxh (Btn j c g) (Om (by have:=Pr j c;rw[g]at this;exact this) J));have HA:=Bc (fun (b:TW) (v:TX) (hb:Bl w b) (ho:b.ownsRow w.heap.size 235 4 v F.length (Nd F))=>Own.mid (Own.add_new (r:=Sg v F) h hb ho));have HP:=Bc (fun (Y:List Rw) (b:TW) (j:Bm k M Y b)=>Brv (q:=q) j c g a[1].1 a[1].2);have a8:(n:Int)<(F.length:Int):=Bd;have a9:(t:Int)<(M.ts.length:Int):=Bd;have b0:(q:Int)<(M.ts[t].1.vals.length:Int):=Bd;rw[hq,g]at D;have HF:=Bc hF;have a7:0<F.length:=Bd;have b1:0<a.length:=Bd;have b2:(1:Int)<(a.length:Int):=Bd;have O:=Bc a3;have Q:=Bc (fun (_:Unit)=>g);have HT:=Bc c;clear hF m eF h a0 a3 g;generalize a[1]=z at *;obtain⟨v1,v2⟩:=z;go_in;go_wp2_with fail;refine(Ba HF).mono ?_;rintro e w1 ⟨fa,fc,rfl,V,Z⟩;obtain⟨N,rfl,-⟩:=Cf V a7;have G:=Ba HA _ _ Z V;have x2:w1.C A 1 (.i (t:Int)):=QC Z a5 K;have s:=Ba D M _ _ _ _ G rfl (Ba O) rfl c (Ba Q ());obtain⟨s1,s2,s3,s4,s5⟩:=s;obtain⟨fz,b3,a4,_,z0,z1⟩:=Ba HZ _ _ G;simp only[Option.some.injEq,Addr.mk.injEq,Bwb]at a4;subst a4;have h2:=Ba HP _ _ (Own.drew G);have p:=Ba D _ _ _ _ _ h2 (by simp[Br.withTs]) (Ba O) rfl (by simpa[Br.withTs] using c) (by simp[Br.withTs];exact Ba Q ());obtain⟨p1,p2,p3,p4,p5⟩:=p;have H2:=Bc (Own.sub (Own.unmid h2) (Bw4 _ _));clear HF HA HP D HZ O Q HT V Z K c0 c1 G h2;generalize M.ts[t].1.vals[q]=b4 at *;clear J hn hq;generalize M.ts[t].1.vals.length=yn at *;go_wp2_with fail
 go_region_held3 (fun b=>b.C N (n*4+1) (.i (q:Int))/\b.C k.B 8 (.s (.p gt) M.ts.length M.tc)/\b.C gt (t*3+2) (.s (.p gy) yn yc)/\b.C A 2 (.i v1)/\b.C A 3 (.i v2))
  (first|exact⟨s1,s2,s3,s4,s5⟩|exact⟨p1,p2,p3,p4,p5⟩)
  (fail)
 clear s1 s2 s3 s4 s5 p1 p2 p3 p4 p5 z0 z1;go_wp2;refine Bwy (Bw9 rfl _ _ _) rfl ?_;exact⟨rfl,Ba H2⟩
def Br3(v:Int):-4294967296<v.tmod 4294967296/\v.tmod 4294967296<4294967296:=by
 have b:=Int.tmod_lt_of_pos v (show (0:Int)<4294967296 by decide);have c:=Int.lt_tmod_of_pos v (show (0:Int)<4294967296 by decide);exact⟨c,b⟩
def T5(v:Int)(w:TW):Calls prog 254 #[.i v] w fun e f=>e=.r (.i (Jv v))/\f=w:=by
 obtain⟨h,j⟩:=Br3 v;unfold Jv;have l:IntKind.i64.wrap (v.tmod 4294967296)=v.tmod 4294967296:=Eg _ Bd Bd;by_cases b:2147483647<v.tmod 4294967296;·rw[Sp b];have g:IntKind.i64.wrap (v.tmod 4294967296-4294967296)=v.tmod 4294967296-4294967296:=Eg _ Bd Bd;go_in;go_wp2;go_ret;exact⟨rfl,rfl⟩
 rw[Pf b];by_cases c:v.tmod 4294967296 < -2147483648;·rw[Sp c];have g:IntKind.i64.wrap (v.tmod 4294967296+4294967296)=v.tmod 4294967296+4294967296:=Eg _ Bd Bd;go_in;go_wp2;go_ret;exact⟨rfl,rfl⟩
 rw[Pf c];go_in;go_wp2;go_ret;exact⟨rfl,rfl⟩
def Bfa(op a b:Int)(w:TW)(p:-2147483648<=a/\a<=2147483647)(q:-2147483648<=b/\b<=2147483647):Calls prog 202 #[.i op,.i a,.i b] w fun e m=>e=.r (.i (Jl op a b))/\m=w:=by
 unfold Jl;have s:-4611686018427387904<=a*b/\a*b<=4611686018427387904:=by
  have f:a.natAbs*b.natAbs<=2147483648*2147483648:=Nat.mul_le_mul Bd Bd;rw[<- Int.natAbs_mul]at f;omega
 have t:-2147483648<=a.tdiv b/\a.tdiv b<=2147483648:=by
  have f:=Int.natAbs_tdiv_le_natAbs a b;omega
 have v:IntKind.i64.wrap (a+b)=a+b:=Eg _ Bd Bd;have A:IntKind.i64.wrap (a-b)=a-b:=Eg _ Bd Bd;have B:IntKind.i64.wrap (a*b)=a*b:=Eg _ Bd Bd;have C:IntKind.i64.wrap (a.tdiv b)=a.tdiv b:=Eg _ Bd Bd;by_cases f:op=7;·rw[Sp f];subst f;have c:=T5 (a+b) w;generalize Jv (a+b)=z at *;go_in;go_wp2_with fail;refine Qm c ?_;rintro g rfl;go_wp2;go_ret;exact⟨rfl,rfl⟩
 rw[Pf f];by_cases h:op=8;·rw[Sp h];subst h;have c:=T5 (a-b) w;generalize Jv (a-b)=z at *;go_in;go_wp2_with fail;refine Qm c ?_;rintro g rfl;go_wp2;go_ret;exact⟨rfl,rfl⟩
 rw[Pf h];by_cases j:op=9;·rw[Sp j];subst j;have c:=T5 (a*b) w;generalize Jv (a*b)=z at *;go_in;go_wp2_with fail;refine Qm c ?_;rintro g rfl;go_wp2;go_ret;exact⟨rfl,rfl⟩
 rw[Pf j];by_cases l:b=0;·rw[Sp l];subst l;go_in;go_wp2;go_ret;exact⟨rfl,rfl⟩
 rw[Pf l];have c:=T5 (a.tdiv b) w;generalize Jv (a.tdiv b)=z at *;go_in;go_wp2_with fail;refine Qm c ?_;rintro g rfl;go_wp2;go_ret;exact⟨rfl,rfl⟩
def Bc4{k:Db}{M:Br}{r:List (Ca×Value×Value)}(h:Bm k M X w)(c:M.os=x::r):Bm k (M.put r) X (w.setCell (.a k.B 7) (.s M.oa r.length M.oc)):=by
 obtain⟨l,m,p,q,t,v,z,A,f,g,C,D,F,G⟩:=M;simp only at c;subst c;have j:=Own.cut (i:=1) (n':=r.length) h Hd Fr;have e:((x::r).reverse.flatMap Fx).take (r.length*4)=r.reverse.flatMap Fx:=by
  rw[Bxj,Bwl,Byg (by rw[Sa];exact Wf _),Bv0 (by rw[Sa];exact Wf _)]
 have b:=Own.cell (i:=0) j Hd 7 (.s f r.length g);unfold Br.rows at b;simp only[e]at b;refine Own.sub b ?_;unfold Br.rows Br.put;refine Bw5 _ (Bw5 _ (Bw5 _ (Bw5 _ ?_)));simp only[Bwj,Lc,Bws,Bx4];exact(Bw4 _ _).trans (Bw4 _ _)
def Bts{k:Db}{M:Br}(h:Bm k M X w):M.os.length<=M.oc:=by
 rcases h.orow.2 with ⟨b,c⟩|⟨g,e,f,b,_,_,i,_⟩
 ·omega
 simp only[Value.slice.injEq]at b;omega
def Br.fin(M:Br)(s v:Int):Br:=⟨M.os,M.ts,M.made,M.read,M.out,M.steps,s,v,M.oa,M.oc,M.ta,M.tc,M.xa,M.xc⟩
def Bvd{k:Db}{M:Br}(h:Bm k M X w)(s v:Int):Bm k (M.fin s v) X ((w.setCell (.a k.B 13) (.i s)).setCell (.a k.B 14) (.i v))/\(w.setCell (.a k.B 13) (.i s)).C k.B 14 (.i M.value):=by
 have b:=Own.cell (i:=0) h Hd 13 (.i s);have c:=Own.cell (i:=0) b Hd 14 (.i v);exact⟨c,Own.see (i:=0) (j:=14) b Hd Hd⟩
theorem vx1{k:Db}{M:Br}{w:World}{vc:Nat}{a:List (Int×Int)}(h:Bm k M (Dc (.slice (some ⟨u,0,none⟩) a.length vc) a::X) w)(b:0<a.length):w.cell? ⟨u,1,none⟩=some (.int .i64 (Cg a).2):=by
 obtain⟨f,e,_,_,c⟩:=Pq h rfl (q:=0) b;simp only[Option.some.injEq,Addr.mk.injEq,Bwb]at e;subst e;rw[Bwh,Bvp]at c;rw[c];simp[Cg,Th,b]
def Bj4(k:Db)(M:Br)(X:List Rw)(x:Ca×Value×Value)(m:RMV)(a:TP)(A:TA)(vc:Nat)(w:TW)(h:Bm k M (Dc (.s A a.length vc) a::X) w)(t:M.os=[x])(v:m.r1=1->0<a.length):Calls prog 149 #[.q k.B 0,m.val,.s A a.length vc] w fun e N=>e=.r (.tuple #[])/\Bm k ((M.put []).fin 0 (if m.r1=1 then (Cg a).2 else 0)) (Dc (.s A a.length vc) a::X) N:=by
 obtain⟨Y,Z,pa,pl,pc,D,r2,lo,st,a0,ha,hl,hc,ma,ml,mc,a1,a2⟩:=m;simp only[RMV.val]at v ⊢;obtain⟨g,C,a3,F,-,-,-,-,-⟩:=Jn (o:=x.1) (lv:=x.2.1) (sv:=x.2.2) h t;have G:=h.ltB;have c:=Bc4 h t;rw[C]at c;simp only[Bwn,Bvp]at F c;obtain⟨f,O⟩:=Bvd c 0 0;have b:=fun (u:TW) (z:Obj)=>(Vm u.heap.size u).alloc (Wf _) z;have d7:=fun z=>((b w z).cell (p:=.a k.B 7) G).trans F;have f7:=fun z=>((b w z).frozen (p:=.a k.B 7) G).trans (h.fz 7);have a4:=fun z=>(c.below (b _ z)).cell (j:=13) Hd;have a5:=fun z=>(c.below (b _ z)).fz 13;have I:=c.ltB;have a6:=fun z=>((b ((w.setCell (.a k.B 7) (.s (.p g) 0 M.oc)).setCell (.a k.B 13) (.i 0)) z).cell (p:=.a k.B 14) (by simpa using I)).trans O;have a7:=fun z=>((b ((w.setCell (.a k.B 7) (.s (.p g) 0 M.oc)).setCell (.a k.B 13) (.i 0)) z).frozen (p:=.a k.B 14) (by simpa using I)).trans ((World.frozen?_setCell _ _ _ _).trans (c.fz 14));have J:=Bc (fun z=>f.below (b _ z));by_cases l:D=1;·rw[Sp l];have K:=v l;subst l;obtain⟨ga,rfl,_,-,-⟩:=Pq f rfl (q:=0) K;have x1:∀z,_:=fun z=>(vx1 (f.below (b _ z)) K);generalize (Cg a).2=Q at *;have L:=Own.cell (i:=0) f Hd 14 (.i Q);have V:=Bc (fun z=>Own.below L (b _ z));have l4:=f.ltB;have a8:=fun z=>(f.below (b _ z)).cell (j:=14) Hd;have a9:=fun z=>(f.below (b _ z)).fz 14;clear v h c f t C L J;go_in;go_wp2;refine Bwy (Bw9 rfl _ _ _) rfl ?_;exact⟨rfl,Ba V _⟩
 rw[Pf l];have b0:(D==1)=false:=by simpa using l
 clear l v h c f t C;go_in;go_wp2;refine Bwy (Bw9 rfl _ _ _) rfl ?_;exact⟨rfl,Ba J _⟩
def Vv{k:Db}{M:Br}{o:Ca}{lv sv:TX}{r:List (Ca×Value×Value)}(h:Bm k M X w)(b:M.os=(o,lv,sv)::r)(c:M.oa=some ⟨u,0,none⟩)(p:Nat):Bm k (M.put ((⟨o.m,p,o.lo,o.st⟩,lv,sv)::r)) X (w.setCell (.a u (r.length*4+1)) (.i (p:Int))):=by
 obtain⟨f,j,l,q,s,t,v,z,A,B,C,D,F,G⟩:=M;simp only at b c;subst b c;have e:=Own.cellE (i:=1) h Hd (Ww (o,lv,sv) (⟨o.m,p,o.lo,o.st⟩,lv,sv) r 1 (.i (p:Int)) rfl);exact e
theorem Bmc(k:Db)(M:Br)(X:List Rw)(x:Ca×Value×Value)(q:Ca)(lv sv:Value)(r:List (Ca×Value×Value))(m:RMV)(a:List (Int×Int))(va:Option Addr)(vc:Nat)(w:World)(hf:k.f.ok k.w0)(h:Bm k M (Dc (.slice va a.length vc) a::X) w)(hM:M.os=x::(q,lv,sv)::r)(i0:a.length<=1)(hr:r.length<=1000)(hs:q.st.length<=900)(hm:q.m<k.f.ms.length)(hp:q.p<k.f.ms[q.m].1.m.code.length)(i1:k.f.ms[q.m].1.m.code.length<=1000)(i2:((q.st.length+a.length:Nat):Int)<=k.f.ms[q.m].1.m.stack):Calls prog 149 #[.pointer (some ⟨k.B,0,none⟩),m.val,.slice va a.length vc] w fun e b=>e=.returned (.tuple #[])/\∃f6,Bm k (M.put ((⟨q.m,q.p+Cd.wd (k.f.ms[q.m].1.m.code.getD q.p 0),q.lo,q.st++a⟩,lv,f6)::r)) (Dc (.slice va a.length vc) a::X) b:=by
 obtain⟨K,L,N,O,Q,V,Y,Z,st,a0,ha,hl,hc,ma,ml,mc,a1,a2⟩:=m;simp only[RMV.val];obtain⟨g,hg,i3,c7,-,-,-,-,-⟩:=Jn (o:=x.1) (lv:=x.2.1) (sv:=x.2.2) h hM;have lB:=h.ltB;have A:=Bc4 h hM;rw[hg]at A;have e2:((q,lv,sv)::r).length=r.length+1:=rfl;rw[e2]at c7 A;obtain⟨s,t,f7⟩:∃a c,lv=.slice a q.lo.length c:=Bg (A.lrow rfl);obtain⟨D,F,f8⟩:∃a c,sv=.slice a q.st.length c:=Bg (A.srow rfl);obtain⟨g',f9,J,d7,d0,d1,d2,d3,a7⟩:=Jn A rfl;have eg:=hg.symm.trans (show M.oa=_ from f9);simp only[Option.some.injEq,Addr.mk.injEq,Bwb]at eg;subst eg;obtain⟨ym,l,b5,a8,g0,g1⟩:=RFl.mth (A.fok hf) hm;have a9:Co ym.code=k.f.ms[q.m].1.m.code:=g1.code;have hN:=fun b=>Uq ym q.p b (by rw[<- Jo,a9];exact hp) (by rw[<- Jo,a9];omega);rw[a9]at hN;have b1:(w.setCell ⟨k.B,7,none⟩ (.slice (some ⟨g,0,none⟩) (r.length+1) M.oc)).cell? ⟨k.B,1,none⟩=some (.slice (some ⟨l,0,none⟩) k.f.ms.length k.f.c2):=A.sl b5 Hd;have i4:=((Bm.orow h).lt g (by rw[hg];rfl)).1;have i5:l<k.w0.heap.size:=by
  obtain⟨i6,i7,g2,i8,_⟩:=RFl.mth hf hm;have:=b5.symm.trans g2;simp only[Option.some.injEq,Addr.mk.injEq,Bwb]at this;omega
 obtain⟨b6,b7,b8,b9,c0,c1,c3,c4,c5,c6,c8,c9,d4,d5,d6,d8,d9,f0⟩:=ym;have a4:=Ua g0;simp only[RMV.val]at a4 hN;have G:=Bx (w.setCell ⟨k.B,7,none⟩ (.slice (some ⟨g,0,none⟩) (r.length+1) M.oc)) (O12 K L N O Q V Y Z st a0 ha hl hc ma ml mc a1 a2) (.cells #[.int .i64 (q.m:Int),.int .i64 (q.p:Int),lv,sv] 171);have g3:g≠k.B:=fun e=>by
  have h':=h.nd;unfold Br.rows at h';simp only[Bws,Bzu]at h';exact h'.1 _ (Bv1 ..) k.B rfl (by rw[hg,e];rfl)
 generalize Cd.wd (k.f.ms[q.m].1.m.code.getD q.p 0)=wd at *;subst f7 f8;have HN:=Bc hN;obtain⟨u,hu⟩:∃u,u=w.setCell ⟨k.B,7,none⟩ (.slice (some ⟨g,0,none⟩) (r.length+1) M.oc):=⟨_,rfl⟩;rw[<- hu]at A d7 d0 d1 d2 d3 a7 b1 a4 G J a8;have ba:=fun (u':World) (z:Obj)=>(Vm u'.heap.size u').alloc (Wf _) z;have z7:=fun z=>((ba w z).cell (p:=⟨k.B,7,none⟩) lB).trans c7;have g4:=fun z=>((ba w z).frozen (p:=⟨k.B,7,none⟩) lB).trans (h.fz 7);have l2:=A.ltB;have s7:=fun z=>((ba _ z).cell (p:=⟨k.B,7,none⟩) l2).trans d7;have s0:=fun z=>((ba _ z).cell (p:=⟨g,r.length*4,none⟩) J).trans d0;have s1:=fun z=>((ba _ z).cell (p:=⟨g,r.length*4+1,none⟩) J).trans d1;have s2:=fun z=>((ba _ z).cell (p:=⟨g,r.length*4+2,none⟩) J).trans d2;have s3:=fun z=>((ba _ z).cell (p:=⟨g,r.length*4+3,none⟩) J).trans d3;have i9:IntKind.i64.wrap (((r.length+1+1:Nat):Int)-1)=(r.length:Int)+1:=by rw[show ((r.length+1+1:Nat):Int)-1=(r.length:Int)+1 by omega];exact Eg _ Bd Bd
 have j0:IntKind.i64.wrap ((r.length:Int)+1-1)=(r.length:Int):=by rw[show (r.length:Int)+1-1=(r.length:Int) by omega];exact Eg _ Bd Bd
 have ri:(r.length:Int)<(r.length:Int)+1:=Bd;have j1:IntKind.i64.wrap (r.length:Int)=(r.length:Int):=Eg _ Bd Bd;have r0:(0:Int)<=(r.length:Int):=Bd;have j2:r.length+1+1<=M.oc:=by have:=Bts h;rw[hM]at this;exact this
 have j3:¬M.oc<r.length+1:=Bd;have j4:(r.length:Int)+1<=(M.oc:Int):=Bd;obtain⟨ob,f1⟩:∃ob,ob=w.heap.size+1:=⟨_,rfl⟩;have g5:u.heap.size=w.heap.size:=by rw[hu];simp
 have C:=Bf (u.alloc (O12 K L N O Q V Y Z st a0 ha hl hc ma ml mc a1 a2)) (O36 (q.m:Int) (q.p:Int) s q.lo.length t D q.st.length F);have g6:(u.alloc (O12 K L N O Q V Y Z st a0 ha hl hc ma ml mc a1 a2)).heap.size=ob:=by rw[f1,<- g5];simp
 rw[g6]at C;have hW:Bm k (M.put ((q,.slice s q.lo.length t,.slice D q.st.length F)::r)) (Dc (.slice va a.length vc) a::X) ((u.alloc (O12 K L N O Q V Y Z st a0 ha hl hc ma ml mc a1 a2)).alloc (O36 (q.m:Int) (q.p:Int) s q.lo.length t D q.st.length F)):=A.below G;have b0:=Pk C;have a5:∀b:World,b.heap[k.B]?=u.heap[k.B]?->b.heap[l]?=u.heap[l]?->b.heap[ob]?=some ((O36 (q.m:Int) (q.p:Int) s q.lo.length t D q.st.length F))->b.cell? ⟨k.B,7,none⟩=some (.slice (some ⟨g,0,none⟩) (r.length+1) M.oc)/\b.cell? ⟨k.B,1,none⟩=some (.slice (some ⟨l,0,none⟩) k.f.ms.length k.f.c2)/\b.cell? ⟨ob,0,none⟩=some (.int .i64 (q.m:Int))/\b.cell? ⟨ob,1,none⟩=some (.int .i64 (q.p:Int))/\b.cell? ⟨l,q.m*12,none⟩=some (.int .i64 b6)/\b.cell? ⟨l,q.m*12+1,none⟩=some (.int .i64 b7)/\b.cell? ⟨l,q.m*12+2,none⟩=some (.slice b8 b9 c0)/\b.cell? ⟨l,q.m*12+3,none⟩=some (.int .i64 c1)/\b.cell? ⟨l,q.m*12+4,none⟩=some (.int .i64 c3)/\b.cell? ⟨l,q.m*12+5,none⟩=some (.int .i64 c4)/\b.cell? ⟨l,q.m*12+6,none⟩=some (.int .i64 c5)/\b.cell? ⟨l,q.m*12+7,none⟩=some (.string c6)/\b.cell? ⟨l,q.m*12+8,none⟩=some (.slice c8 c9 d4)/\b.cell? ⟨l,q.m*12+9,none⟩=some (.slice d5 d6 d8)/\b.cell? ⟨l,q.m*12+10,none⟩=some (.int .i64 d9)/\b.cell? ⟨l,q.m*12+11,none⟩=some (.int .i64 f0):=fun b e1 e2 e3=>by
  have q7:=(Bvj (a:=⟨k.B,7,none⟩) e1).trans d7;have q1:=(Bvj (a:=⟨k.B,1,none⟩) e1).trans b1;have qf:∀j,b.cell? ⟨l,j,none⟩=u.cell? ⟨l,j,none⟩:=fun j=>Bvj (a:=⟨l,j,none⟩) e2;refine⟨q7,q1,(Bb e3 0).trans rfl,(Bb e3 1).trans rfl,?_⟩;simp only[qf];exact a4
 have bB:=G.block k.B l2;have bf:=G.block l a8;have g7:g≠ob:=Bd;have g8:g≠l:=Bd;have HW:=Bc hW;have HP:=Bc (fun (b:World) (hb:Below ((u.alloc (O12 K L N O Q V Y Z st a0 ha hl hc ma ml mc a1 a2)).alloc (O36 (q.m:Int) (q.p:Int) s q.lo.length t D q.st.length F)).heap.size ((u.alloc (O12 K L N O Q V Y Z st a0 ha hl hc ma ml mc a1 a2)).alloc (O36 (q.m:Int) (q.p:Int) s q.lo.length t D q.st.length F)) b)=>Vv (hW.below hb) rfl (show (M.put ((q,.slice s q.lo.length t,.slice D q.st.length F)::r)).oa=some ⟨g,0,none⟩ from hg) (q.p+wd));have b2:=Bvm l2 G.size;have b3:=Bvm a8 G.size;have b4:=Bvm J G.size;have f2:=fun j=>(G.frozen (p:=⟨g,j,none⟩) J).trans (a7 j);have f3:=(G.cell (p:=⟨g,r.length*4+1,none⟩) J).trans d1;have mi:(q.m:Int)<(k.f.ms.length:Int):=Bd;rw[hu]at s7 s0 s1 s2 s3;subst f1;go_in;go_wp2;rw[<- hu];generalize g9:(u.alloc (O12 K L N O Q V Y Z st a0 ha hl hc ma ml mc a1 a2)).alloc (O36 (q.m:Int) (q.p:Int) s q.lo.length t D q.st.length F)=W at *
 go_region_held3 (fun b=>b.cell? ⟨k.B,7,none⟩=some (.slice (some ⟨g,0,none⟩) (r.length+1) M.oc)/\b.cell? ⟨k.B,1,none⟩=some (.slice (some ⟨l,0,none⟩) k.f.ms.length k.f.c2)/\b.cell? ⟨w.heap.size+1,0,none⟩=some (.int .i64 (q.m:Int))/\b.cell? ⟨w.heap.size+1,1,none⟩=some (.int .i64 (q.p:Int))/\b.cell? ⟨l,q.m*12,none⟩=some (.int .i64 b6)/\b.cell? ⟨l,q.m*12+1,none⟩=some (.int .i64 b7)/\b.cell? ⟨l,q.m*12+2,none⟩=some (.slice b8 b9 c0)/\b.cell? ⟨l,q.m*12+3,none⟩=some (.int .i64 c1)/\b.cell? ⟨l,q.m*12+4,none⟩=some (.int .i64 c3)/\b.cell? ⟨l,q.m*12+5,none⟩=some (.int .i64 c4)/\b.cell? ⟨l,q.m*12+6,none⟩=some (.int .i64 c5)/\b.cell? ⟨l,q.m*12+7,none⟩=some (.string c6)/\b.cell? ⟨l,q.m*12+8,none⟩=some (.slice c8 c9 d4)/\b.cell? ⟨l,q.m*12+9,none⟩=some (.slice d5 d6 d8)/\b.cell? ⟨l,q.m*12+10,none⟩=some (.int .i64 d9)/\b.cell? ⟨l,q.m*12+11,none⟩=some (.int .i64 f0))
  (first|exact a5 W.drew bB bf C|exact a5 _ ((I.block _ b2).trans bB) ((I.block _ b3).trans bf) ((I.block _ b0).trans C)|exact a5 _ ((Bvg _ _ _ _ (Bxc g3)).trans ((I.block _ b2).trans bB)) ((Bvg _ _ _ _ (Bxc g8)).trans ((I.block _ b3).trans bf)) ((Bvg _ _ _ _ (Bxc g7)).trans ((I.block _ b0).trans C)))
  (first|(go_at_call 94;refine(Ba HN _).mono ?_;rintro e w7 ⟨rfl,I⟩;have h0:=(I.frozen (p:=⟨g,r.length*4+1,none⟩) b4).trans (f2 _);have h3:=(I.cell (p:=⟨g,r.length*4+1,none⟩) b4).trans f3))
 have h8:=Ba HP _ ((Vm _ _).drew.trans I);obtain⟨w8,a6⟩:∃w8,w8=w7.setCell ⟨g,r.length*4+1,none⟩ (.int .i64 ((q.p+wd:Nat):Int)):=⟨_,rfl⟩;rw[<- a6]at h8;have h4:(.int .i64 ((q.p+wd:Nat):Int):Value)=.int .i64 ((q.p:Int)+(wd:Int)):=Fr;rw[h4]at a6;rw[<- a6];have h5:=Bc (fun (b:World) (j:Nat) a3 (hj:j<a.length) (h':Bm k ((M.put ((q,.slice s q.lo.length t,.slice D q.st.length F)::r)).put ((⟨q.m,q.p+wd,q.lo,q.st++a.take j⟩,.slice s q.lo.length t,a3)::r)) (Dc (.slice va a.length vc) a::X) b)=>Bxh (Pq h' rfl hj) (Ju k _ _ ⟨q.m,q.p+wd,q.lo,q.st++a.take j⟩ _ a3 r a[j].1 a[j].2 b hf h' rfl hm Fm hr Fm));clear HP HN I h0 h3 f3 f2 b2 b3 b4 b0 C bB bf a5 a4 s7 s0 s1 s2 s3 z7 g4 d7 d0 d1 d2 d3 a7 b1 A h HW hW G g9;clear a6;go_wp2
 go_loopw [8] (fun i wr=>∃j:Nat,j<=a.length/\i=.int .i64 (j:Int)/\∃a3,Bm k ((M.put ((q,.slice s q.lo.length t,.slice D q.st.length F)::r)).put ((⟨q.m,q.p+wd,q.lo,q.st++a.take j⟩,.slice s q.lo.length t,a3)::r)) (Dc (.slice va a.length vc) a::X) wr)
  (fun i _=>a.length-(intOf i).toNat)
 case atStart=>exact⟨0,Bd,rfl,_,by simpa using h8⟩
 case round=>
  clear h8;obtain⟨j,hj,rfl,a3,h1⟩:=hrel;by_cases f4:j<a.length
  ·obtain⟨⟨ga,rfl,_,x0,x1⟩,f5⟩:=Ba h5 _ j a3 f4 h1;have HQ:=Bc f5;have kb:(j:Int)<(a.length:Int):=Bd;have et:a.take (j+1)=a.take j++[a[j]]:=by rw[Bvs f4]
   have h6:=Bc (fun (_:Unit)=>et);clear f5 h1 et;generalize a[j]=v at *;obtain⟨v1,v2⟩:=v;simp only at x0 x1 HQ;go_wp2_with fail;refine(Ba HQ).mono ?_;rintro e w9 ⟨rfl,h7,h9⟩;have H9:=Bc h9;clear h9 HQ x0 x1;go_wp2;go_roundw
   case rel=>exact⟨j+1,Bd,Lt,h7,by have:=Ba H9;rw[Ba h6 (),<- Bwe];exact this⟩
   case measure=>simp[intOf];omega
  have kb:¬(j:Int)<(a.length:Int):=Bd;have H1:=Bc h1;clear h1;go_wp2;go_end0;refine⟨rfl,a3,?_⟩;have:=Ba H1;rw[Bv0 Bd]at this;exact this
def Db.E (k:Db):Cr:=⟨k.cs,k.ms,k.ins,k.heap,k.depth⟩
structure Db.Ok(k:Db):Prop where
 fm:Jj k.cs k.ms
 f:k.f.ok k.w0
 l:k.f.l.map Prod.fst=Rf.given++k.cs
 eq:k.f.ms.map (fun z=>z.1.m)=k.ms
 ins:Jk k.w0 k.ia k.ins
 il:k.ins.length<=1000
def Db.Ok.T{k:Db}(b:k.Ok):k.f.T=k.E.T:=(Sr k.f.l k.cs b.l).1
def Sm(c:Int)(f:0<=c/\c<=100)(w:TW):Calls prog 146 #[.i c] w fun e b=>e=.r (.i (c-1))/\b=w:=by
 have g:IntKind.i64.wrap (c-2)=c-2:=Eg _ Bd Bd;have h:IntKind.i64.wrap (c-2+1)=c-1:=by rw[show c-2+1=c-1 by omega];exact Eg _ Bd Bd
 go_in;go_wp2;go_ret;exact⟨rfl,rfl⟩
theorem vxg{k:Db}{M:Br}{w:World}{l:Option Addr}{vc:Nat}{a:List (Int×Int)}(h:Bm k M (Dc (.slice l a.length vc) a::X) w){q:Nat}(b:q<a.length):∃g,l=some ⟨g,0,none⟩/\g<w.heap.size/\w.cell? ⟨g,q*2,none⟩=some (.int .i64 (a.getD q (0,0)).1)/\w.cell? ⟨g,q*2+1,none⟩=some (.int .i64 (a.getD q (0,0)).2):=by
 obtain⟨g,e,c,f,i⟩:=Pq h rfl b;refine⟨g,e,c,?_,?_⟩
 ·rw[f];simp[Th,b]
 rw[i];simp[Th,b]
def Bhu(k:Db)(M:Br)(X:List Rw)(op n:Int)(a:TP)(va:TA)(vc:Nat)(w:TW)(ok:k.Ok)(h:Bm k M (Dc (.s va a.length vc) a::X) w)(F:op=10->1<a.length)(t:op=17\/op=18\/op=21\/op=23\/op=19->0<a.length)(J:(Cg a).1=2->0<=(Cg a).2/\(Cg a).2<(M.ts.length:Int)):Calls prog 101 #[.q k.B 0,.i op,.i n,.s va a.length vc] w fun e p=>e=.r (.i (Dn k.E M.d op n a))/\Bl w p:=by
 have c9:w.C k.B 9 (.i (M.made:Int)):=h.cell Hd;have c4:w.C k.B 4 (.i k.heap):=h.cell Hd;have c5:w.C k.B 5 (.i k.depth):=h.cell Hd;have c7:w.C k.B 7 (.s M.oa M.os.length M.oc):=h.cell Hd;have a9:=fun p=>Sm 2 Bd p;have a4:=fun p=>Sm 3 Bd p;have b0:=fun p=>Sm 4 Bd p;have b1:=fun p=>Sm 5 Bd p;have a6:=fun p=>Sm 6 Bd p;have eO:M.d.os.length=M.os.length:=by simp[Br.d]
 have eM:M.d.made=M.made:=rfl;have b2:k.E.heap=k.heap:=rfl;have b3:k.E.depth=k.depth:=rfl;generalize b:Dn k.E M.d op n a=R;unfold Dn at b;rw[eO,eM,b2,b3]at b;have j:=fun (m:Nat)=>(Cy (Vm w.heap.size w):Bl w (w.drewN m));have HH:=Bc h;by_cases K:op=10
 ·obtain⟨g,rfl,L,-,c⟩:=vxg h (F K);rw[Sp K]at b;subst K;have ha:1<a.length:=F rfl;simp only[Bx8,Bwh,Bvp]at c;have v:(a.getD 1 (0,0)).2=(Ib a).2:=rfl;rw[v]at c;generalize (Ib a).2=z at *;clear v h J t F;by_cases l:z=0;·rw[Sp l]at b;subst l b;go_in;go_wp2;go_quiet (fail);rename_i nq;have G:(w.drewN nq).C g 3 (.i 0):=c;go_wp2_with fail;refine Qm (a9 _) ?_;rintro I rfl;go_wp2;go_ret;exact⟨rfl,j _⟩
  rw[Pf l]at b;have a5:(z==0)=false:=by simpa using l
  subst b;go_in;go_wp2;go_quiet (fail);rename_i nq;have G:(w.drewN nq).C g 3 (.i z):=c;go_wp2;go_quiet (fail);go_wp2;go_ret
  first|exact⟨rfl,Cy (j _)⟩|exact⟨rfl,j _⟩
 rw[Pf K]at b;by_cases N:op=17\/op=18
 ·rw[Sp N]at b;rcases N with rfl|rfl
  all_goals
   obtain⟨g,rfl,L,-,c⟩:=vxg h (t Bd);have ha:0<a.length:=t Bd;simp only[Bx8,Bwh,Bvp]at c;have v:(a.getD 0 (0,0)).2=(Cg a).2:=rfl;rw[v]at c;generalize (Cg a).2=z at *;clear v h J t F;by_cases l:z=0;·rw[Sp l]at b;subst l b;go_in;go_wp2;go_quiet (fail);rename_i nq;have G:(w.drewN nq).C g 1 (.i 0):=c;go_wp2_with fail;refine Qm (a4 _) ?_;rintro I rfl;go_wp2;go_ret;exact⟨rfl,j _⟩
   rw[Pf l]at b;have a5:(z==0)=false:=by simpa using l
   subst b;go_in;go_wp2;go_quiet (fail);rename_i nq;have G:(w.drewN nq).C g 1 (.i z):=c;go_wp2;go_quiet (fail);go_wp2;go_ret
   first|exact⟨rfl,Cy (j _)⟩|exact⟨rfl,j _⟩
 rw[Pf N]at b;obtain⟨N,a7⟩:¬op=17/\¬op=18:=Bd;by_cases Q:op=21
 ·obtain⟨g,rfl,L,-,c⟩:=vxg h (t Bd);rw[Sp Q]at b;subst Q;have ha:0<a.length:=t Bd;simp only[Bx8,Bwh,Bvp]at c;have v:(a.getD 0 (0,0)).2=(Cg a).2:=rfl;rw[v]at c;generalize (Cg a).2=z at *;clear v h J t F;by_cases l:z=0;·rw[Sp l]at b;subst l b;go_in;go_wp2;go_quiet (fail);rename_i nq;have G:(w.drewN nq).C g 1 (.i 0):=c;go_wp2_with fail;refine Qm (a4 _) ?_;rintro I rfl;go_wp2;go_ret;exact⟨rfl,j _⟩
  rw[Pf l]at b;have a5:(z==0)=false:=by simpa using l
  by_cases A:k.depth<=(M.os.length:Int)
  ·rw[Sp A]at b;subst b;go_in;go_wp2;go_quiet (fail);rename_i nq;have G:(w.drewN nq).C g 1 (.i z):=c;have V:decide (k.depth<=(M.os.length:Int))=true:=by simpa using A
   go_wp2;go_quiet (fail);go_wp2_with fail;refine Qm (a6 _) ?_;rintro I rfl;go_wp2;go_ret
   first|exact⟨rfl,Cy (j _)⟩|exact⟨rfl,j _⟩
  rw[Pf A]at b;subst b;go_in;go_wp2;go_quiet (fail);rename_i nq;have G:(w.drewN nq).C g 1 (.i z):=c;have V:decide (k.depth<=(M.os.length:Int))=false:=by simpa using A
  go_wp2;go_quiet (fail);go_wp2;go_ret
  first|exact⟨rfl,Cy (j _)⟩|exact⟨rfl,j _⟩
 rw[Pf Q]at b;by_cases Y:op=23
 ·obtain⟨g,rfl,L,-,c⟩:=vxg h (t Bd);rw[Sp Y]at b;subst Y;have ha:0<a.length:=t Bd;simp only[Bx8,Bwh,Bvp]at c;have v:(a.getD 0 (0,0)).2=(Cg a).2:=rfl;rw[v]at c;generalize (Cg a).2=z at *;clear v h J t F;by_cases l:z=0;·rw[Sp l]at b;subst l b;go_in;go_wp2;go_quiet (fail);rename_i nq;have G:(w.drewN nq).C g 1 (.i 0):=c;go_wp2_with fail;refine Qm (a4 _) ?_;rintro I rfl;go_wp2;go_ret;exact⟨rfl,j _⟩
  rw[Pf l]at b;have a5:(z==0)=false:=by simpa using l
  subst b;go_in;go_wp2;go_quiet (fail);rename_i nq;have G:(w.drewN nq).C g 1 (.i z):=c;go_wp2;go_ret;exact⟨rfl,j _⟩
 rw[Pf Y]at b;by_cases Z:op=15
 ·rw[Sp Z]at b;subst Z;by_cases A:k.heap<=(M.made:Int)
  ·rw[Sp A]at b;subst b;go_in;go_wp2;go_quiet (fail);rename_i nq;have V:decide (k.heap<=(M.made:Int))=true:=by simpa using A
   go_wp2_with fail;refine Qm (b1 _) ?_;rintro I rfl;go_wp2;go_ret;exact⟨rfl,j _⟩
  rw[Pf A]at b;subst b;go_in;go_wp2;go_quiet (fail);rename_i nq;have V:decide (k.heap<=(M.made:Int))=false:=by simpa using A
  go_wp2;go_quiet (fail);go_wp2;go_ret
  first|exact⟨rfl,Cy (j _)⟩|exact⟨rfl,j _⟩
 rw[Pf Z]at b;by_cases a0:op=19
 ·obtain⟨g,rfl,L,x0,c⟩:=vxg h (q:=0) (t Bd);rw[Sp a0]at b;subst a0;have ha:0<a.length:=t Bd;simp only[Bwh,Bvp]at x0 c;have hI:=fun (p:TW) (hb:Bl w p)=>Bi3 k M _ (Cg a).1 (Cg a).2 3 n p ok.f (h.below hb) J _ rfl;rw[ok.T]at hI;have eI:J3 k.E.T (M.ts.map Prod.fst) ((Cg a).1,(Cg a).2) (3,n)=J3 k.E.T M.d.ts (Cg a) (3,n):=rfl;rw[eI]at hI;generalize J3 k.E.T M.d.ts (Cg a) (3,n)=B at *;have HI:=Bc hI;have v:a.getD 0 (0,0)=Cg a:=rfl;rw[v]at x0 c;clear v h J t F hI eI;generalize Cg a=z at *;obtain⟨z1,z2⟩:=z;simp only at x0 c HI;go_in;go_wp2;go_quiet (fail);rename_i nq;have y0:(w.drewN nq).C g 0 (.i z1):=x0;have y1:(w.drewN nq).C g 1 (.i z2):=c;have O:g<(w.drewN nq).heap.size:=L;have a2:=j nq;clear x0 c c9 c4 c5 c7 L;generalize w.drewN nq=wq at *;go_wp2
  go_region_held3 (fun p=>p.C g 0 (.i z1)/\p.C g 1 (.i z2))
   (first|exact⟨y0,y1⟩|exact⟨QC D O y0,QC D O y1⟩|exact⟨QC a3 (QL D O) (QC D O y0),QC a3 (QL D O) (QC D O y1)⟩)
   (first|(go_at_call 142;refine(Tg n _).mono ?_;rintro e w7 ⟨rfl,D⟩)|(go_at_call 145;refine(Ba HI _ (a2.drew.trans (D.mono a2.size))).mono ?_;rintro e w8 ⟨rfl,a3⟩))
  have b4:=a2.drew.trans (D.mono a2.size);have a8:=QB b4 a3;clear D a3 y0 y1 HI;cases B with
  | true =>
   simp only[By3]at b;subst b;go_wp2;go_quiet (fail);go_wp2;go_ret;exact⟨rfl,Cy a8⟩
  | false =>
   simp only[Bye,Bxk]at b;subst b;go_wp2_with fail;refine Qm (b0 _) ?_;rintro I rfl;go_wp2;go_ret;exact⟨rfl,a8⟩
 rw[Pf a0]at b;by_cases a1:op=20
 ·rw[Sp a1]at b;subst a1;by_cases A:k.depth<=(M.os.length:Int)
  ·rw[Sp A]at b;subst b;go_in;go_wp2;go_quiet (fail);rename_i nq;have V:decide (k.depth<=(M.os.length:Int))=true:=by simpa using A
   go_wp2;go_quiet (fail);go_wp2_with fail;refine Qm (a6 _) ?_;rintro I rfl;go_wp2;go_ret
   first|exact⟨rfl,Cy (j _)⟩|exact⟨rfl,j _⟩
  rw[Pf A]at b;subst b;go_in;go_wp2;go_quiet (fail);rename_i nq;have V:decide (k.depth<=(M.os.length:Int))=false:=by simpa using A
  go_wp2;go_quiet (fail);go_wp2;go_ret
  first|exact⟨rfl,Cy (j _)⟩|exact⟨rfl,j _⟩
 rw[Pf a1]at b;subst b;have b5:(op==10)=false:=by simpa using K
 have b6:(op==17)=false:=by simpa using N
 have b7:(op==18)=false:=by simpa using a7
 have b8:(op==21)=false:=by simpa using Q
 have b9:(op==23)=false:=by simpa using Y
 have c0:(op==15)=false:=by simpa using Z
 have c1:(op==19)=false:=by simpa using a0
 have c2:(op==20)=false:=by simpa using a1
 clear K N a7 Q Y Z a0 a1 t F;go_in;go_wp2;go_quiet (fail);rename_i nq;go_wp2;go_quiet (fail);go_wp2;go_ret
 first|exact⟨rfl,Cy (j _)⟩|exact⟨rfl,j _⟩
end Go.Proofs.YtpcgnjolfahacaaGreat
