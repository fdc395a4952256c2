/- the proof's parts -/
import Derived.Test.YtpcgnjolfahacaaGreatPk04
set_option maxRecDepth 100000
set_option maxHeartbeats 40000000
set_option linter.unusedVariables false
set_option linter.unusedSimpArgs false
set_option linter.defProp false
namespace Go.Proofs.YtpcgnjolfahacaaGreat
open Go.RowKit Go.Proofs.Tryz
variable{c:Int}{C:Int×Int}{Q:List Do}{X:List Rw}{k u:Nat}{z:TI}{q:TP}{w:TW}
structure Db where
 B:Nat
 w0:World
 f:RFl
 cs:List Rd.Cls
 ms:List Rd.Mth
 en:Int
 ia:Option Addr
 ic:Nat
 ins:List Int
 heap:Int
 depth:Int
 fuel:Int
structure Br where
 os:List (Ca × Value × Value)
 ts:List (Do × Value)
 made:Nat
 read:Nat
 out:List Int
 steps:Nat
 status:Int
 value:Int
 oa:Option Addr
 oc:Nat
 ta:Option Addr
 tc:Nat
 xa:Option Addr
 xc:Nat
def Br.d (M:Br):Cs:=⟨M.os.map Prod.fst,M.ts.map Prod.fst,M.made,M.read,M.out,M.steps,M.status,M.value⟩
def Fx (x:Ca × Value × Value):List Value:=[.int .i64 (x.1.m:Int),.int .i64 (x.1.p:Int),x.2.1,x.2.2]
def Iy (x:Do × Value):List Value:=[.int .i64 x.1.cl,.bool x.1.set,x.2]
def Dc (v:TX)(l:TP):Rw:=⟨240,2,v,l.length,Bu l⟩
def Br.cells(k:Db)(M:Br):List Value :=
 [.slice k.f.a1 k.f.l.length k.f.c1,.slice k.f.a2 k.f.ms.length k.f.c2,.int .i64 k.en,.slice k.ia k.ins.length k.ic,.int .i64 k.heap,.int .i64 k.depth,.int .i64 k.fuel,
 .slice M.oa M.os.length M.oc,.slice M.ta M.ts.length M.tc,.int .i64 (M.made:Int),.int .i64 (M.read:Int),.slice M.xa M.out.length M.xc,.int .i64 (M.steps:Int),.int .i64 M.status,.int .i64 M.value,.bool false]
def Lc (x:Ca × Value × Value):List Rw:=[Dc x.2.1 x.1.lo,Dc x.2.2 x.1.st]
def Kx (x:Do × Value):Rw:=Dc x.2 x.1.vals
def Br.rows(k:Db)(M:Br):List Rw :=
 ⟨115,16,.slice (some ⟨k.B,0,none⟩) 1 1,1,M.cells k⟩::⟨171,4,.slice M.oa M.os.length M.oc,M.os.length,M.os.reverse.flatMap Fx⟩ ::
 ⟨118,3,.slice M.ta M.ts.length M.tc,M.ts.length,M.ts.flatMap Iy⟩::⟨3,1,.slice M.xa M.out.length M.xc,M.out.length,M.out.map (Value.int .i64)⟩::(M.os.flatMap Lc++M.ts.map Kx)
abbrev Bm(k:Db)(M:Br)(X:List Rw)(w:World):Prop:=Own k.w0 (M.rows k++X) w
def Bm.cell{k:Db}{M:Br}(h:Bm k M X w){j:Nat}{u:TX}(b:(M.cells k)[j]?=some u):w.C k.B j u :=
 Own.see (i:=0) (L:=M.rows k++X) h Hd b
def Bm.sl{k:Db}{M:Br}(h:Bm k M X w){n j:Nat}{a b:TA}(e:a=b)(f:(M.cells k)[u]?=some (.s a n j)):w.C k.B u (.s b n j) :=
 (h.cell f).trans (by rw[e])
def Bm.fz{k:Db}{M:Br}(h:Bm k M X w)(j:Nat):w.frozen? (.a k.B j)=false :=
 Own.free (i:=0) (L:=M.rows k++X) h Hd j
def Bm.ltB{k:Db}{M:Br}(h:Bm k M X w):k.B<w.heap.size:=(Own.lt (i:=0) (L:=M.rows k++X) h Hd).2
def Sa(r:List (Ca×Value×Value)):(r.reverse.flatMap Fx).length=r.length*4:=by rw[Kq Fx 4 (fun _=>rfl)];simp
def Bfv(x:Ca×Value×Value)(r:List (Ca×Value×Value))(j:Nat):((x::r).reverse.flatMap Fx)[r.length*4+j]?=(Fx x)[j]?:=by
 rw[Bxj,Bwl,Bvt (by rw[Sa];omega),Sa,Bxr];simp
def Ww(x b:Ca×Value×Value)(r:List (Ca×Value×Value))(j:Nat)(u:TX)(h:(Fx x).set j u=Fx b):((x::r).reverse.flatMap Fx).set (r.length*4+j) u=(b::r).reverse.flatMap Fx:=by
 rw[Bxj,Bwl,Bw1 _ _ (by rw[Sa];omega),Sa,Bxr,Bxj,Bwl];simp[h]
def Bm.orow{k:Db}{M:Br}(h:Bm k M X w):w.ownsRow k.w0.heap.size 171 4 (.s M.oa M.os.length M.oc) M.os.length (M.os.reverse.flatMap Fx):=h.row ⟨_,_,_,_,_⟩ (Bv6 _ (Bv1 ..))
def Bm.hrow{k:Db}{M:Br}(h:Bm k M X w):w.ownsRow k.w0.heap.size 118 3 (.s M.ta M.ts.length M.tc) M.ts.length (M.ts.flatMap Iy):=h.row ⟨_,_,_,_,_⟩ (Bv6 _ (Bv6 _ (Bv1 ..)))
def Bm.xrow{k:Db}{M:Br}(h:Bm k M X w):w.ownsRow k.w0.heap.size 3 1 (.s M.xa M.out.length M.xc) M.out.length (M.out.map (Value.int .i64)):=h.row ⟨_,_,_,_,_⟩ (Bv6 _ (Bv6 _ (Bv6 _ (Bv1 ..))))
def Bm.lrow{k:Db}{M:Br}(h:Bm k M X w){x:Ca×Value×Value}{r:List (Ca×Value×Value)}(b:M.os=x::r):w.ownsRow k.w0.heap.size 240 2 x.2.1 x.1.lo.length (Bu x.1.lo):=h.row (Dc x.2.1 x.1.lo) (by simp[Br.rows,b,Lc])
def Bm.srow{k:Db}{M:Br}(h:Bm k M X w){x:Ca×Value×Value}{r:List (Ca×Value×Value)}(b:M.os=x::r):w.ownsRow k.w0.heap.size 240 2 x.2.2 x.1.st.length (Bu x.1.st):=h.row (Dc x.2.2 x.1.st) (by simp[Br.rows,b,Lc])
theorem Bm.last{k:Db}{M:Br}{w:World}(h:Bm k M X w){x:Ca×Value×Value}{r:List (Ca×Value×Value)}(c:M.os=x::r):∃g,M.oa=some ⟨g,0,none⟩/\g<w.heap.size/\(∀j u,(Fx x)[j]?=some u->w.cell? ⟨g,r.length*4+j,none⟩=some u)/\∀j,w.frozen? ⟨g,j,none⟩=false:=by
 have b:=h.orow;obtain⟨g,e,l,_,f⟩:=Cf b (by rw[c];simp);refine⟨g,e,l,fun j u i=>?_,fun j=>?_⟩
 ·have m:=(List.getElem?_eq_some_iff.1 i).1;rw[c]at f;rw[f _ (by
   rw[Kq Fx 4 (fun _=>rfl)];have:j<4:=m;simp;omega),Bfv,i]
 rw[e]at b;exact World.ownsRow.frozenAt b j
def Bm.fok{k:Db}{M:Br}(h:Bm k M X w)(b:k.f.ok k.w0):k.f.ok w:=b.below h.low
def Bm.below{k:Db}{M:Br}{b:TW}(h:Bm k M X w)(c:Bl w b):Bm k M X b:=Own.below h c
def Tryz.infoVal:(prog.info? 240).map (fun i=>(i.zero,i.size,i.bytes))=some (some (.agg #[.i 0,.i 0]),2,16):=Le
def Br.put(M:Br)(os:List (Ca × Value × Value)):Br:=⟨os,M.ts,M.made,M.read,M.out,M.steps,M.status,M.value,M.oa,M.oc,M.ta,M.tc,M.xa,M.xc⟩
def Brw{k:Db}{M:Br}{w9:TW}{o:Ca}{lv sv sv':TX}{r:List (Ca×Value×Value)}{v:Int×Int}(h:Bm k M X w)(f:M.os=(o,lv,sv)::r)(l:M.oa=some ⟨u,0,none⟩) (q:w9.ownsRow k.w0.heap.size 240 2 sv' (o.st.length+1) (Bu o.st++[.i v.1,.i v.2]))(t:w.grownBy w9 sv.ownBlock)(z:sv'.ownBlock=sv.ownBlock\/sv'.ownBlock=some w.heap.size):(w9.C k.B 7 (.s (.p u) (r.length+1) M.oc))/\(w9.C u (r.length*4+3) sv)/\w9.frozen? (.a u (r.length*4+3))=false/\Bm k (M.put ((⟨o.m,o.p,o.lo,o.st++[v]⟩,lv,sv')::r)) X (w9.setCell (.a u (r.length*4+3)) sv'):=by
 obtain⟨I,J,K,L,N,O,Q,V,Y,Z,ta,tc,xa,xc⟩:=M;simp only at f l;subst f l;have b:=Own.app (i:=5) h Hd q t z;have A:=Own.see (i:=0) (j:=7) b Hd Hd;have D:=Own.see (i:=1) (j:=r.length*4+3) b Hd (Bfv _ _ _);have F:=Own.free (i:=1) b Hd (r.length*4+3);have e:Bu (o.st++[v])=Bu o.st++[.i v.1,.i v.2]:=Xd _ _;have c:=Own.cellE (i:=1) b Hd (Ww (o,lv,sv) (⟨o.m,o.p,o.lo,o.st++[v]⟩,lv,sv') r 3 sv' rfl);rw[<- e]at c;have G:(o.st++[v]).length=o.st.length+1:=Fr;rw[<- G]at c;exact⟨A,D,F,c⟩
def RFl.stk{f:RFl}(b:f.ok w)(c:k<f.ms.length):∃g,f.a2=some ⟨g,0,none⟩/\g<w.heap.size/\w.C g (k*12+6) (.i f.ms[k].1.m.stack):=by
 obtain⟨m,g,e,h,j,l⟩:=RFl.mth b c;refine⟨g,e,h,?_⟩;rw[<- l.st];exact j 6 _ rfl
def Buz{k:Db}{M:Br}(z:k.f.ok k.w0){o:Ca}{lv sv:TX}{r:List (Ca×Value×Value)}(h:Bm k (M.put ((o,lv,sv)::r)) X w)(A:o.m<k.f.ms.length){b:Nat}(c:M.oa=some ⟨u,0,none⟩)(l:k.f.a2=some ⟨b,0,none⟩):w.C k.B 7 (.s (.p u) (r.length+1) M.oc)/\w.C k.B 1 (.s (.p b) k.f.ms.length k.f.c2)/\w.C u (r.length*4) (.i (o.m:Int))/\w.C u (r.length*4+3) sv/\w.C b (o.m*12+6) (.i k.f.ms[o.m].1.m.stack):=by
 obtain⟨D,F,_,q,_⟩:=h.last rfl;obtain⟨G,I,_,J⟩:=RFl.stk (h.fok z) A;have e:D=u:=by
  have:=F.symm.trans (show (M.put ((o,lv,sv)::r)).oa=_ from c);simpa using this
 have K:G=b:=by
  have:=I.symm.trans l;simpa using this
 subst e K;have L:=h.cell (j:=7) Hd;have t:=h.cell (j:=1) Hd;rw[l]at t;have v:w.C k.B 7 (.s M.oa (r.length+1) M.oc):=L;rw[c]at v;exact⟨v,t,q 0 _ rfl,q 3 _ rfl,J⟩
theorem Ju(k:Db)(M:Br)(X:List Rw)(o:Ca)(lv sv:Value)(r:List (Ca×Value×Value))(a b:Int)(w:World)(hf:k.f.ok k.w0)(h:Bm k M X w)(s:M.os=(o,lv,sv)::r)(hm:o.m<k.f.ms.length)(hl:(o.st.length:Int)<k.f.ms[o.m].1.m.stack)(hr:r.length<=1000)(hs:o.st.length<=1000):Calls prog 147 #[.pointer (some ⟨k.B,0,none⟩),.agg #[.int .i64 a,.int .i64 b]] w fun e t=>e=.returned (.tuple #[])/\∃sv',Bm k (M.put ((⟨o.m,o.p,o.lo,o.st++[(a,b)]⟩,lv,sv')::r)) X t:=by
 obtain⟨i0,hi,a9,b0,b1⟩:=Bv4 Tryz.infoVal;have q:Bm k M X (w.alloc (O34 a b)):=h.below (QN _);have V:=Bf w (O34 a b);have I:(w.alloc (O34 a b)).cell? ⟨w.heap.size,0,none⟩=some (.int .i64 a):=(Bb V 0).trans rfl;have J:(w.alloc (O34 a b)).cell? ⟨w.heap.size,1,none⟩=some (.int .i64 b):=(Bb V 1).trans rfl;obtain⟨sa,sc,b2⟩:∃a c,sv=.slice a o.st.length c:=Bg (q.srow s);subst b2;obtain⟨g,A,b3,a6,b4⟩:=q.last s;have L:(w.alloc (O34 a b)).cell? ⟨k.B,7,none⟩=some (.slice (some ⟨g,0,none⟩) (r.length+1) M.oc):=by
  rw[<- A,show r.length+1=M.os.length by rw[s];rfl];exact q.cell Hd
 have g3:=a6 3 _ rfl;have b5:=q.ltB;have a8:=q.srow s;have b7:=h.low.size;have Y:some w.heap.size≠(Value.slice sa o.st.length sc).ownBlock:=fun e=>by have:=((h.srow s).lt _ e.symm).2;omega
 have HP:=Bc (fun (t w9:World) sv' (hb:Below (w.alloc (O34 a b)).heap.size (w.alloc (O34 a b)) t) ho hk N=>Brw (v:=(a,b)) (w9:=w9) (sv':=sv') (q.below hb) s A ho hk N);have Z:some w.heap.size≠some g:=fun e=>by
  obtain⟨g',C,e2,_⟩:=h.last s;rw[A]at C;simp at C e;omega
 obtain⟨fg,b6,b8,b9⟩:=RFl.stk (q.fok hf) hm;have HS:=Bc (fun (w9:World) (sv':Value) (D:Bm k (M.put ((⟨o.m,o.p,o.lo,o.st++[(a,b)]⟩,lv,sv')::r)) X w9)=>Buz hf D hm A b6);clear h a6 b4 A;have c0:IntKind.i64.wrap (((r.length+1:Nat):Int)-1)=(r.length:Int):=by rw[show ((r.length+1:Nat):Int)-1=(r.length:Int) by omega];exact Eg _ Bd Bd
 generalize hn:o.st.length=n at *;generalize r.length=l at *;have ri:(l:Int)<(l:Int)+1:=Bd;have O:=fun z=>(Bwg (w.alloc (O34 a b)) z ⟨k.B,7,none⟩ b5).trans L;have F:=fun z=>(Bwg (w.alloc (O34 a b)) z ⟨w.heap.size,0,none⟩ Fr).trans I;have G:=fun z=>(Bwg (w.alloc (O34 a b)) z ⟨w.heap.size,1,none⟩ Fr).trans J;have a3:=fun z=>(Bwg (w.alloc (O34 a b)) z ⟨g,l*4+3,none⟩ b3).trans g3;go_in;go_wp2_with fail
 go_upto_region 2 with fail
 refine Bvz (S:=fun t=>t.cell? ⟨k.B,7,none⟩=some (.slice (some ⟨g,0,none⟩) (l+1) M.oc)/\t.cell? ⟨w.heap.size,0,none⟩=some (.int .i64 a)/\t.cell? ⟨w.heap.size,1,none⟩=some (.int .i64 b)) Le ⟨L,I,J⟩ (fun i=>?_);refine tq 0 (.pointer (some ⟨k.B,0,none⟩)) i ?_;refine tq 1 (.pointer (some ⟨k.B,0,none⟩)) i ?_;refine tq 2 (.pointer (some ⟨k.B,7,none⟩)) i ?_;refine tq 3 (.slice (some ⟨g,0,none⟩) (l+1) M.oc) i ?_;refine tq 4 (.int .i64 (l:Int)) i ?_;refine tq 5 (.pointer (some ⟨k.B,0,none⟩)) i ?_;refine tq 6 (.pointer (some ⟨k.B,0,none⟩)) i ?_;refine tq 7 (.pointer (some ⟨k.B,7,none⟩)) i ?_;refine tq 8 (.slice (some ⟨g,0,none⟩) (l+1) M.oc) i ?_;refine tq 9 (.int .i64 (l:Int)) i ?_;refine tq 10 (.pointer (some ⟨g,l*4,none⟩)) i ?_;refine tq 11 (.pointer (some ⟨g,l*4+3,none⟩)) i ?_;refine tq 13 (.agg #[.int .i64 a,.int .i64 b]) i ?_;refine Bw7 (rs:=[12,14]) Le Fr ?_;refine Bv3 (o:=⟨_,_,_,_,_,_⟩) rfl (fun K j=>?_) (Bv3 (o:=⟨_,_,_,_,_,_⟩) rfl (fun K j=>?_) Bw2);go_simp;refine j.out _ _ ⟨L,I,J⟩ (fun i=>?_);clear j K
 try simp only[QX]
 refine tr 14 fun K j=>?_;go_simp;refine j.out _ _ ⟨O _,F _,G _⟩ (fun i=>?_);clear j K
 try simp only[QX]
 rotate_left
 go_simp;refine j.out _ _ ⟨O _,F _,G _⟩ (fun i=>?_);clear j K
 try simp only[QX]
 refine tr 12 fun K j=>?_;go_simp;refine j.out _ _ ⟨O _,F _,G _⟩ (fun i=>?_);clear j K
 try simp only[QX]
 all_goals
  refine tr 15 fun K j=>?_;refine Bds Hd _ _ _ Hd k.w0.heap.size 240 i0 _ 2 16 By0 hi a9 b0 b1 rfl Bd _ _ _ Hd ((a8.alloc _).drew) ⟨w.heap.size+1,0,none⟩ 1 1 [.int .i64 a,.int .i64 b] Hd Hd (Dv (w.alloc (O34 a b)) _ _ _ Fr) (by simp[Value.oneCell']) Mc Bd Fm ?_;intro v' w9 a2 Q N;obtain⟨a4,a5,rfl⟩:=Bg a2;obtain⟨C,e2,e3,D⟩:=Ba HP _ _ _ ((QN _).drew) a2 Q N;have e4:=Q.cell (F _) Y;have e5:=Q.cell (G _) Y;have s0:=(Xk w9 ⟨g,l*4+3,none⟩ (.slice a4 (n+1) a5)).cell e4 Z;have s1:=(Xk w9 ⟨g,l*4+3,none⟩ (.slice a4 (n+1) a5)).cell e5 Z;obtain⟨d7,d1,d0,d3,dm⟩:=Ba HS _ _ D;have HA:=Bc D;clear Q a2 N D;refine j.out _ _ ⟨C,e4,e5⟩ (fun i=>?_);clear j K
  try simp only[QX]
  refine tq 16 (.pointer (some ⟨g,l*4,none⟩)) i ?_;refine tq 17 (.pointer (some ⟨g,l*4+3,none⟩)) i ?_;refine tr 18 fun K j=>?_;go_simp;refine j.out _ _ ⟨d7,s0,s1⟩ (fun i=>?_);clear j K
  try simp only[QX]
  refine Bv9 Le ?_ _;clear i s0 s1 C e2 e3 e4 e5 O F G a3 L g3 I J a8 HP HS V q Y Z;generalize w9.setCell ⟨g,l*4+3,none⟩ (.slice a4 (n+1) a5)=w8 at *;go_wp2;go_quiet (fail);go_wp2;go_end0;exact⟨rfl,_,(Ba HA).drewN _⟩
def TyR.stays{b:TW}{i:TX}(h:TyR w i q)(p:∀(j:Nat) (f:Array Value),w.heap[j]?=some (Obj.cells f 31 (0,0))->b.heap[j]?=w.heap[j]?):TyR b i q:=by
 rcases h with h|⟨g,o,c,f,s,m,t,z,A⟩
 ·exact .inl h
 have e:=p g f m;exact .inr ⟨g,o,c,f,s,e.trans m,t,z,fun j x B=>by rw[Bvj (a:=⟨g,o+j,none⟩) e];exact A j x B⟩
def Bt5{f j n g c:Nat}{e:TV}(h:w.ownsRow u f j (.s (.p g) n c) n e):∃l,w.heap[g]?=some (.cells l f (0,0)):=by
 obtain⟨_,⟨i,_⟩|⟨q,t,l,i,_,m,_⟩⟩:=h
 ·simp at i
 simp only[Value.slice.injEq,Option.some.injEq,Addr.mk.injEq,Bwb]at i;obtain⟨rfl,_⟩:=i;exact⟨l,m⟩
def Bcv{p:Array Oper}{q:List Oper}{o:Oper}{a:Act}{Q:Exit->Act->TW->Prop}(t:o.guard=none)(s x:Operand) (v:o.op=.call { callee:=.builtin .append,args:=#[s,x],argTypes:=#[116,116] })(z:a.eval s=.s none 0 0)(l:TP)(g i c:Nat)(A:a.eval x=.s (some ⟨g,i,none⟩) l.length c) (B:∀j u,(Bu l)[j]?=some u->w.C g (i+j) u)(N:l.length<=100000) (h:∀f vc b,b.ownsRow w.heap.size 240 2 (.s f l.length vc) l.length (Bu l)->Bl w b->wpList prog p Q q (a.put o.dst (.s f l.length vc)) b):wpList prog p Q (o::q) a w:=by
 obtain⟨D,F,G,I,J⟩:=Bv4 Tryz.infoVal;refine Bvw w t s x _ v w.heap.size 240 D _ 2 16 By0 F G I J rfl Bd _ 0 [] z (Bvl _ _ _ _) ⟨g,i,none⟩ l.length c (Bu l) A (Kc l) ?_ (Va l) Mc Bd (Wf _) ?_
 ·intro j u K;rw[Bz3];exact B j u K
 intro O b m e _;rw[Bvp,Bx4]at m;obtain⟨f,vc,rfl⟩:=Bg m;exact h f vc b m ⟨e.os,e.tape,e.output,e.size,fun j L=>e.block j L (by simp[Value.ownBlock])⟩
def Bve{k:Db}{M:Br}{o:Ca}{lv:TX}{l:TA}{r:List (Ca×Value×Value)}{a:TP}{s:Nat}(h:Bm k M X w)(c:M.os=(o,lv,.s l o.st.length u)::r)(f:o.st=q++a)(t:M.oa=some ⟨s,0,none⟩):Bm k (M.put ((⟨o.m,o.p,o.lo,q⟩,lv,.s l q.length u)::r)) X (w.setCell (.a s (r.length*4+3)) (.s l q.length u))/\(w.setCell (.a s (r.length*4+3)) (.s l q.length u)).C k.B 7 (.s (.p s) (r.length+1) M.oc) /\ ∀(j:Nat) (v:Array Value),w.heap[j]?=some (Obj.cells v 31 (0,0))->(w.setCell (.a s (r.length*4+3)) (.s l q.length u)).heap[j]?=w.heap[j]?:=by
 obtain⟨G,I,J,K,L,N,O,Q,V,Y,Z,tc,xa,xc⟩:=M;simp only at c t;subst c t;have A:q.length<=o.st.length:=by rw[f];simp
 have D:=Own.cut (i:=5) (n':=q.length) h Hd A;have b:=Own.cellE (i:=1) D Hd (Ww (o,lv,.s l o.st.length u) (⟨o.m,o.p,o.lo,q⟩,lv,.s l q.length u) r 3 (.s l q.length u) rfl);have e:(Bu o.st).take (q.length*2)=Bu q:=by rw[<- Bak,f];simp
 rw[e]at b;refine⟨b,Own.see (i:=0) (j:=7) b Hd Hd,fun j v F=>?_⟩;obtain⟨c2,z⟩:=Bt5 (Bm.orow h);refine Bvg _ _ _ _ (fun e=>?_);simp only at e;rw[<- e,F]at z;simp at z
def Tf(k:Db)(M:Br)(X:List Rw)(o:Ca)(lv sv:TX)(r:List (Ca×Value×Value))(s a:TP)(w:TW)(h:Bm k M X w)(I:M.os=(o,lv,sv)::r)(N:o.st=s++a)(hr:r.length<=1000)(hs:o.st.length<=1000):Calls prog 144 #[.q k.B 0,.i (a.length:Int)] w fun e F=>∃O vc a9,e=.r (.s O a.length vc)/\Bm k (M.put ((⟨o.m,o.p,o.lo,s⟩,lv,a9)::r)) (Dc (.s O a.length vc) a::X) F/\∀v l,TyR w v l->TyR F v l:=by
 obtain⟨sa,G,b0⟩:∃a c,sv=.s a o.st.length c:=Bg (h.srow I);subst b0;obtain⟨g,hg,Q,a7,a2⟩:=h.last I;have V:w.C k.B 7 (.s (.p g) (r.length+1) M.oc):=(h.sl hg Hd).trans (by rw[I];rfl);have g3:w.C g (r.length*4+3) (.s sa o.st.length G):=a7 3 _ rfl;have a3:=h.ltB;have b4:IntKind.i64.wrap (((r.length+1:Nat):Int)-1)=(r.length:Int):=by rw[show ((r.length+1:Nat):Int)-1=(r.length:Int) by omega];exact Eg _ Bd Bd
 have a1:o.st.length=s.length+a.length:=by rw[N];simp
 have b5:IntKind.i64.wrap ((o.st.length:Int)-(a.length:Int))=(s.length:Int):=by rw[a1,show ((s.length+a.length:Nat):Int)-(a.length:Int)=(s.length:Int) by omega];exact Eg _ Bd Bd
 have a0:w.ownsRow k.w0.heap.size 240 2 (.s sa o.st.length G) o.st.length (Bu o.st):=h.srow I;have Z:=Bc (fun (Y:List Rw) (F:TW) (h':Bm k M Y F)=>Bve h' I N hg);have HN:=Bc (fun (v:TX) (F:TW) (hB:Bl w F) (ho:F.ownsRow w.heap.size 240 2 v a.length (Bu a))=>Own.add_new (r:=Dc v a) h hB ho);clear a7;generalize a4:r.length=f at *;generalize hn:o.st.length=n at *;generalize hm:a.length=m at *;generalize hq:s.length=q at *;have ri:(f:Int)<(f:Int)+1:=Bd;have q0:(q:Int)<=(n:Int):=Bd;have q1:¬((q:Int)<0):=Bd;rcases a0.2 with ⟨hv,hz⟩|⟨gs,b6,b8,hv,_,b9,b1,_,_,_⟩
 ·simp only[Value.slice.injEq]at hv;obtain⟨rfl,rfl,rfl⟩:=hv;obtain rfl:q=0:=Bd;obtain rfl:m=0:=Bd;obtain rfl:=Bwc hm;clear a0 I h N a1 hm hn hq a4;go_in;go_wp2_with fail;have t:=Vm w.heap.size w;have J:Bm k M (Dc (.s none 0 0) []::X) w:=Own.mid ((Ba HN) _ _ t (Bvl _ _ _ _));obtain⟨A,b7,D⟩:=Ba Z _ _ J;have L:=(t.cell (p:=.a k.B 7) a3).trans V;have d3:=(t.cell (p:=.a g (f*4+3)) Q).trans g3;have f3:=(t.frozen (p:=.a g (f*4+3)) Q).trans (a2 _);have HF:=Bc (Bxh A (Bxh t D));clear J A D t V g3 Z HN;refine Bvz (S:=fun F=>F.C k.B 7 (.s (.p g) (f+1) M.oc)) Le L (fun b=>?_);refine tq 0 (.q k.B 0) b ?_;refine tq 1 (.q k.B 0) b ?_;refine tq 2 (.q k.B 7) b ?_;refine tq 3 (.s (.p g) (f+1) M.oc) b ?_;refine tq 4 (.i (f:Int)) b ?_;refine tq 5 (.q k.B 0) b ?_;refine tq 6 (.q k.B 0) b ?_;refine tq 7 (.q k.B 7) b ?_;refine tq 8 (.s (.p g) (f+1) M.oc) b ?_;refine tq 9 (.i (f:Int)) b ?_;refine tq 10 (.q g (f*4)) b ?_;refine tq 11 (.q g (f*4+3)) b ?_;refine tq 13 (.i 0) b ?_;refine tr 12 fun K z=>?_;go_simp;refine z.out _ _ L (fun b=>?_);clear z K
  try simp only[QX]
  refine tq 14 (.s none 0 0) b ?_;refine tq 15 (.q g (f*4)) b ?_;refine tq 16 (.q g (f*4+3)) b ?_;refine tr 17 fun K z=>?_;go_simp;refine z.out _ _ b7 (fun b=>?_);clear z K
  try simp only[QX]
  refine Bv9 Le ?_ _;clear b;go_wp2;go_ret;obtain⟨A,t,D⟩:=Ba HF;exact⟨_,_,_,rfl,A.drew,fun v l h=>(h.below t).stays D⟩
 simp only[Value.slice.injEq,Byl]at hv;obtain⟨rfl,rfl⟩:=hv;have n1:(n:Int)<=(G:Int):=Bd;have a5:=fun j u hu=>World.ownsRow.cells a0 rfl j u hu;have a8:Hid (∀j u,(Bu a)[j]?=some u->w.C gs (q*2+j) u):=fun j u hu=>by
  have:=a5 (q*2+j) u (by rw[N,Ml,Bvt (by rw[Kc,hq];omega),Kc,hq,Bxr];exact hu);rw[Bz3,Bvp]at this;exact this
 by_cases b2:G=q
 ·subst b2;obtain rfl:m=0:=Bd;obtain rfl:G=n:=Bd;obtain rfl:=Bwc hm;clear a0 a5 a8 I h N a1 hm hn hq a4 b1;go_in;go_wp2_with (at_builtin;refine Bcv rfl _ _ rfl rfl [] gs 0 0 Hd (fun j u h=>by simp[Bu]at h) (Bv5 _) ?_)
  intro O vc w1 a6 t;have J:Bm k M (Dc (.s O 0 vc) []::X) w1:=Own.mid ((Ba HN) _ _ t a6);obtain⟨A,b7,D⟩:=Ba Z _ _ J;have L:=(t.cell (p:=.a k.B 7) a3).trans V;have d3:=(t.cell (p:=.a g (f*4+3)) Q).trans g3;have f3:=(t.frozen (p:=.a g (f*4+3)) Q).trans (a2 _);have HF:=Bc (Bxh A (Bxh t D));clear J A D t V g3 Z HN
  go_upto_region 8 with fail
  refine Bvz (S:=fun F=>F.C k.B 7 (.s (.p g) (f+1) M.oc)) Le L (fun b=>?_);refine tq 0 (.q k.B 0) b ?_;refine tq 1 (.q k.B 0) b ?_;refine tq 2 (.q k.B 7) b ?_;refine tq 3 (.s (.p g) (f+1) M.oc) b ?_;refine tq 4 (.i (f:Int)) b ?_;refine tq 5 (.q k.B 0) b ?_;refine tq 6 (.q k.B 0) b ?_;refine tq 7 (.q k.B 7) b ?_;refine tq 8 (.s (.p g) (f+1) M.oc) b ?_;refine tq 9 (.i (f:Int)) b ?_;refine tq 10 (.q g (f*4)) b ?_;refine tq 11 (.q g (f*4+3)) b ?_;refine tq 13 (.i (G:Int)) b ?_;refine tr 12 fun K z=>?_;go_simp;refine z.out _ _ L (fun b=>?_);clear z K
  try simp only[QX]
  refine tq 14 (.s (.p gs) G G) b ?_;refine tq 15 (.q g (f*4)) b ?_;refine tq 16 (.q g (f*4+3)) b ?_;refine tr 17 fun K z=>?_;go_simp;refine z.out _ _ b7 (fun b=>?_);clear z K
  try simp only[QX]
  refine Bv9 Le ?_ _;clear b;go_wp2;go_ret;obtain⟨A,t,D⟩:=Ba HF;exact⟨_,_,_,rfl,A.drew,fun v l h=>(h.below t).stays D⟩
 have b3:Hid (a.length=n-q):=show a.length=n-q by omega
 have HM:=Bc (fun (_:Unit)=>hm);have m5:m<=100000:=Bd;have q2:¬G<q:=Bd;clear a0 a5 I h N a1 hm hn hq a4;go_in;go_wp2_with (at_builtin;refine Bcv rfl _ _ rfl rfl a gs (q*2) (G-q) (by rw[Ba b3];rfl) (Ba a8) (by rw[Ba HM ()];exact m5) ?_)
 rw[Ba HM ()];intro O vc w1 a6 t;have J:Bm k M (Dc (.s O m vc) a::X) w1:=Own.mid ((Ba HN) _ _ t a6);obtain⟨A,b7,D⟩:=Ba Z _ _ J;have L:=(t.cell (p:=.a k.B 7) a3).trans V;have d3:=(t.cell (p:=.a g (f*4+3)) Q).trans g3;have f3:=(t.frozen (p:=.a g (f*4+3)) Q).trans (a2 _);have HF:=Bc (Bxh A (Bxh t D));clear J A D t V g3 Z HN
 go_upto_region 8 with fail
 refine Bvz (S:=fun F=>F.C k.B 7 (.s (.p g) (f+1) M.oc)) Le L (fun b=>?_);refine tq 0 (.q k.B 0) b ?_;refine tq 1 (.q k.B 0) b ?_;refine tq 2 (.q k.B 7) b ?_;refine tq 3 (.s (.p g) (f+1) M.oc) b ?_;refine tq 4 (.i (f:Int)) b ?_;refine tq 5 (.q k.B 0) b ?_;refine tq 6 (.q k.B 0) b ?_;refine tq 7 (.q k.B 7) b ?_;refine tq 8 (.s (.p g) (f+1) M.oc) b ?_;refine tq 9 (.i (f:Int)) b ?_;refine tq 10 (.q g (f*4)) b ?_;refine tq 11 (.q g (f*4+3)) b ?_;refine tq 13 (.i (q:Int)) b ?_;refine tr 12 fun K z=>?_;go_simp;refine z.out _ _ L (fun b=>?_);clear z K
 try simp only[QX]
 refine tq 14 (.s (.p gs) q G) b ?_;refine tq 15 (.q g (f*4)) b ?_;refine tq 16 (.q g (f*4+3)) b ?_;refine tr 17 fun K z=>?_;go_simp;refine z.out _ _ b7 (fun b=>?_);clear z K
 try simp only[QX]
 refine Bv9 Le ?_ _;clear b;go_wp2;go_ret;obtain⟨A,t,D⟩:=Ba HF;exact⟨_,_,_,rfl,A.drew,fun v l h=>(h.below t).stays D⟩
structure Cr where
 cs:List Rd.Cls
 ms:List Rd.Mth
 ins:List Int
 heap:Int
 depth:Int
abbrev Cr.T(E:Cr):List Int:=Tr.tree E.cs
def Cr.meth(E:Cr)(n:Nat):Rd.Mth:=E.ms.getD n Eu
def Cr.all(E:Cr)(c:Int):List (Int × Int):=Rf.all E.T (Rf.given++E.cs) c.toNat
def Cr.fld(E:Cr)(n:Int):Rf.Fld:=(Cq E.cs).getD n.toNat ⟨0,0,(0,0)⟩
def Baf:Do:=⟨0,false,[]⟩
def Cc (ts:List Do)(n:Int):Do:=ts.getD n.toNat Baf
def J3 (T:TI)(ts:List Do)(v t:Int × Int):Bool :=
 if t.1=1 then v.1==1 else if v.1=2 then (if v.2=0 then true else (Cc ts v.2).set&&Tr.rbel T (Cc ts v.2).cl t.2) else false
def Hw (T:TI)(ts:List Do):TP->TP->Bool
 | v::a,t::b=>J3 T ts v t&&Hw T ts a b
 | [],[]=>true
 | _,_=>false
abbrev Cg(a:List (Int × Int)):Int × Int:=a.getD 0 (0,0)
abbrev Ib(a:List (Int × Int)):Int × Int:=a.getD 1 (0,0)
def Dn (E:Cr)(d:Cs)(op n:Int)(a:TP):Int :=
 if op=10 then (if (Ib a).2=0 then 1 else 0)
 else if op=17\/op=18 then (if (Cg a).2=0 then 2 else 0)
 else if op=21 then (if (Cg a).2=0 then 2 else if E.depth<=(d.os.length:Int) then 5 else 0)
 else if op=23 then (if (Cg a).2=0 then 2 else (Cg a).2)
 else if op=15 then (if E.heap<=(d.made:Int) then 4 else 0)
 else if op=19 then (if J3 E.T d.ts (Cg a) (3,n)=true then 0 else 3)
 else if op=20 then (if E.depth<=(d.os.length:Int) then 5 else 0)
 else 0
def Gz (T:TI)(cl:Int)(p:Nat):List Rd.Hnd->Option Int
 | []=>none
 | h::r=>if h.frm<=(p:Int)/\(p:Int)<h.til/\Tr.rbel T cl h.cl=true then some h.target else Gz T cl p r
def Ga (E:Cr)(n cl:Int)(d:Cs):List Ca->Cs
 | []=>⟨[],d.ts,d.made,d.read,d.out,d.steps,2,cl⟩
 | o::r=>match Gz E.T cl o.p (E.meth o.m).handlers with
  | some t=>⟨⟨o.m,t.toNat,o.lo,[(2,n)]⟩::r,d.ts,d.made,d.read,d.out,d.steps,d.status,d.value⟩
  | none=>Ga E n cl d r
def Jv (v:Int):Int:=if 2147483647<v.tmod 4294967296 then v.tmod 4294967296-4294967296 else if v.tmod 4294967296 < -2147483648 then v.tmod 4294967296+4294967296 else v.tmod 4294967296
def Jl (op a b:Int):Int :=
 if op=7 then Jv (a+b) else if op=8 then Jv (a-b) else if op=9 then Jv (a*b) else if b=0 then 0 else Jv (a.tdiv b)
def Hv (E:Cr)(n:Nat)(a:TP):Ca:=⟨n,0,a++List.replicate ((E.meth n).locals.toNat-a.length) (0,0),[]⟩
def Fd (E:Cr)(c name:Int):List Rd.Mth->Nat->Nat->Nat
 | [],_,b=>b
 | m::r,i,b=>if m.cl≠255/\m.name=name/\Tr.rbel E.T c m.cl=true/\(E.meth b).cl<m.cl then Fd E c name r (i+1) i else Fd E c name r (i+1) b
def Px (E:Cr)(d:Cs)(n o:Int):Nat:=Fd E (Cc d.ts o).cl (E.meth n.toNat).name E.ms 0 n.toNat
def Ch (E:Cr)(o:Ca):Nat:=o.p+Cd.wd ((E.meth o.m).code.getD o.p 0)
def Ii (op:Int)(a:TP):Bool:=op==11 || (op==12&&(Cg a).2==0) || (op==14&&(Cg a).2==0) || (op==13&&decide ((Cg a).2<(Ib a).2))
def Cs.top(d:Cs)(o:Ca)(r:List Ca):Cs:=⟨o::r,d.ts,d.made,d.read,d.out,d.steps,d.status,d.value⟩
def Cs.with(d:Cs)(ts:List Do)(o:Ca)(r:List Ca):Cs:=⟨o::r,ts,d.made,d.read,d.out,d.steps,d.status,d.value⟩
def Mr (E:Cr)(d:Cs)(op n:Int)(a:TP):Int × Int :=
 if op=0 then (1,if 127<n then n-256 else n) else if op=1 then (2,0) else if op=19 then Cg a
 else if op=17 then (Cc d.ts (Cg a).2).vals.getD (E.fld n).slot.toNat (0,0)
 else (1,Jl op (Cg a).2 (Ib a).2)
def It (n:Nat)(v:Int × Int):Prop:=v=(0,0)\/(v.1=1/\-2147483648<=v.2/\v.2<=2147483647)\/(v.1=2/\0<=v.2/\v.2<(n:Int))
section
variable (E:Cr) (d:Cs) (o:Ca) (r:List Ca) (op n:Int) (a:List (Int × Int))
abbrev Bp.r0(P:Cs->Prop):Prop:=op=20->0<=n->n.toNat<E.ms.length->(a.length:Int)<=(E.meth n.toNat).locals->P (d.top (Hv E n.toNat a) (o::r))
abbrev Bp.r1(P:Cs->Prop):Prop:=op=21->0<=n->n.toNat<E.ms.length->0<a.length->0<=(Cg a).2->(Cg a).2<(d.ts.length:Int)->(a.length:Int)<=(E.meth (Px E d n (Cg a).2)).locals->P (d.top (Hv E (Px E d n (Cg a).2) a) (o::r))
abbrev Bp.r2(P:Cs->Prop):Prop:=op=22->r=[]->((E.meth o.m).result.1=1->0<a.length)->P ⟨[],d.ts,d.made,d.read,d.out,d.steps,0,if (E.meth o.m).result.1=1 then (Cg a).2 else 0⟩
abbrev Bp.r3(P:Cs->Prop):Prop:=∀(q:Ca) (r':List Ca),op=22->r=q::r'->a.length<=1->q.p<(E.meth q.m).code.length->((q.st.length+a.length:Nat):Int)<=(E.meth q.m).stack->P (d.top ⟨q.m,Ch E q,q.lo,q.st++a⟩ r')
abbrev Bp.r4(P:Cs->Prop):Prop:=11<=op->op<=14->(op=13->2<=a.length)->(op≠11->1<=a.length)->0<=n->Ii op a=true->P (d.top ⟨o.m,n.toNat,o.lo,o.st⟩ r)
abbrev Bp.r5(P:Cs->Prop):Prop:=12<=op->op<=14->(op=13->2<=a.length)->1<=a.length->Ii op a=false->P (d.top ⟨o.m,Ch E o,o.lo,o.st⟩ r)
abbrev Bp.r6(P:Cs->Prop):Prop:=op=2->0<=n->n<(o.lo.length:Int)->(o.lo.getD n.toNat (0,0)).1≠0->(o.st.length:Int)<(E.meth o.m).stack->P (d.top ⟨o.m,Ch E o,o.lo,o.st++[o.lo.getD n.toNat (0,0)]⟩ r)
abbrev Bp.r7(P:Cs->Prop):Prop:=∀(s:List (Int × Int)) (v:Int × Int),op=3->0<=n->n<(o.lo.length:Int)->o.st=s++[v]->P (d.top ⟨o.m,Ch E o,o.lo.set n.toNat v,s⟩ r)
abbrev Bp.r8(P:Cs->Prop):Prop:=∀(s:List (Int × Int)) (v:Int × Int),op=4->o.st=s++[v]->P (d.top ⟨o.m,Ch E o,o.lo,s⟩ r)
abbrev Bp.r9(P:Cs->Prop):Prop:=∀(s:List (Int × Int)) (v:Int × Int),op=5->o.st=s++[v]->((s.length+2:Nat):Int)<=(E.meth o.m).stack->P (d.top ⟨o.m,Ch E o,o.lo,s++[v,v]⟩ r)
abbrev Bp.r10(P:Cs->Prop):Prop:=∀(s:List (Int × Int)) (u v:Int × Int),op=6->o.st=s++[u,v]->((s.length+2:Nat):Int)<=(E.meth o.m).stack->P (d.top ⟨o.m,Ch E o,o.lo,s++[v,u]⟩ r)
abbrev Bp.r11(P:Cs->Prop):Prop:=op=15->(o.st.length:Int)<(E.meth o.m).stack->P ⟨⟨o.m,Ch E o,o.lo,o.st++[(2,(d.ts.length:Int))]⟩::r,d.ts++[⟨n,false,[]⟩],d.made+1,d.read,d.out,d.steps,d.status,d.value⟩
abbrev Bp.r12(P:Cs->Prop):Prop:=∀(s vs:List (Int × Int)) (k:Nat) (vals:List (Int × Int)),op=16->0<=n->n.toNat<E.T.length->o.st=s++(2,(k:Int))::vs->Hw E.T d.ts vs (E.all n)=true->(∀v∈vs,It d.ts.length v)->0<k->d.ts[k]?=some ⟨n,false,vals⟩->P (d.with (d.ts.set k ⟨n,true,vs⟩) ⟨o.m,Ch E o,o.lo,s⟩ r)
abbrev Bp.r13(P:Cs->Prop):Prop:=(op=0\/op=1\/op=7\/op=8\/op=9\/op=10\/op=17\/op=19)->(op=17->0<=n/\n.toNat<(Cq E.cs).length/\0<=(E.fld n).slot/\0<=(Cg a).2/\(Cg a).2<(d.ts.length:Int)/\(E.fld n).slot<((Cc d.ts (Cg a).2).vals.length:Int))->(op=17\/op=19->1<=a.length)->(7<=op->op<=10->2<=a.length)->(o.st.length:Int)<(E.meth o.m).stack->P (d.top ⟨o.m,Ch E o,o.lo,o.st++[Mr E d op n a]⟩ r)
abbrev Bp.r14(P:Cs->Prop):Prop:=op=24->d.read<E.ins.length->(o.st.length:Int)<(E.meth o.m).stack->P ⟨⟨o.m,Ch E o,o.lo,o.st++[(1,E.ins.getD d.read 0)]⟩::r,d.ts,d.made,d.read+1,d.out,d.steps,d.status,d.value⟩
abbrev Bp.r15(P:Cs->Prop):Prop:=op=24->E.ins.length<=d.read->(o.st.length:Int)<(E.meth o.m).stack->P (d.top ⟨o.m,Ch E o,o.lo,o.st++[(1,0)]⟩ r)
abbrev Bp.r16(P:Cs->Prop):Prop:=op=25->1<=a.length->P ⟨⟨o.m,Ch E o,o.lo,o.st⟩::r,d.ts,d.made,d.read,d.out++[(Cg a).2],d.steps,d.status,d.value⟩
abbrev Bp.r17(P:Cs->Prop):Prop:=op=18->2<=a.length->0<=n->n.toNat<(Cq E.cs).length->0<=(E.fld n).slot->0<=(Cg a).2->(Cg a).2<(d.ts.length:Int)->(E.fld n).slot<((Cc d.ts (Cg a).2).vals.length:Int)->P (d.with (d.ts.set (Cg a).2.toNat ⟨(Cc d.ts (Cg a).2).cl,(Cc d.ts (Cg a).2).set,(Cc d.ts (Cg a).2).vals.set (E.fld n).slot.toNat (Ib a)⟩) ⟨o.m,Ch E o,o.lo,o.st⟩ r)
def Bp (i0:Cs):Prop:=∀(P:Cs->Prop),Bp.r0 E d o r op n a P->Bp.r1 E d o r op n a P->Bp.r2 E d o r op a P->Bp.r3 E d r op a P->Bp.r4 d o r op n a P->Bp.r5 E d o r op a P->Bp.r6 E d o r op n P->Bp.r7 E d o r op n P->Bp.r8 E d o r op P->Bp.r9 E d o r op P->Bp.r10 E d o r op P->Bp.r11 E d o r op n P->Bp.r12 E d o r op n P->Bp.r13 E d o r op n a P->Bp.r14 E d o r op P->Bp.r15 E d o r op P->Bp.r16 E d o r op a P->Bp.r17 E d o r op n a P->P i0
end
section
variable {E:Cr}{d:Cs}{o:Ca}{r:List Ca}{op n:Int}{a:List (Int × Int)}
def Bp.call:Bp.r0 E d o r op n a (Bp E d o r op n a):=fun b c e f P g h i j l m p q s t v z A B C D F G=>g b c e f
def Bp.send:Bp.r1 E d o r op n a (Bp E d o r op n a):=fun b c e f g h i P l j m p q s t v z A B C D F G I J K=>j b c e f g h i
def Bp.ret0:Bp.r2 E d o r op a (Bp E d o r op n a):=fun b c e P g h f i j l m p q s t v z A B C D F=>f b c e
def Bp.ret:Bp.r3 E d r op a (Bp E d o r op n a):=fun q b c e f g h P j l m i p s t v z A B C D F G I J K=>i q b c e f g h
def Bp.jump:Bp.r4 d o r op n a (Bp E d o r op n a):=fun b c e f g h P j l m p i q s t v z A B C D F G I J=>i b c e f g h
def Bp.stay:Bp.r5 E d o r op a (Bp E d o r op n a):=fun b c e f g P i j l m p h q s t v z A B C D F G I=>h b c e f g
def Bp.load:Bp.r6 E d o r op n (Bp E d o r op n a):=fun b c e f g P i j l m p q h s t v z A B C D F G I=>h b c e f g
def Bp.store:Bp.r7 E d o r op n (Bp E d o r op n a):=fun s v b c e f P h i j l m p q g t z A B C D F G I J=>g s v b c e f
def Bp.pop:Bp.r8 E d o r op (Bp E d o r op n a):=fun s v b c P f g h i j l m p e q t z A B C D F G=>e s v b c
def Bp.dup:Bp.r9 E d o r op (Bp E d o r op n a):=fun s v b c e P g h i j l m p q t f z A B C D F G I=>f s v b c e
def Bp.swap:Bp.r10 E d o r op (Bp E d o r op n a):=fun s u v b c e P g h i j l m p q t z f A B C D F G I=>f s u v b c e
def Bp.new:Bp.r11 E d o r op n (Bp E d o r op n a):=fun b c P f g h i j l m p q s t e v z A B C D=>e b c
def Bp.init:Bp.r12 E d o r op n (Bp E d o r op n a):=fun s b k c e f g h i j l m P q t v z A B C D F G I J p K L N O Q=>p s b k c e f g h i j l m
def Bp.push:Bp.r13 E d o r op n a (Bp E d o r op n a):=fun b c e f g P i j l m p q s t v z A B C h D F G I=>h b c e f g
def Bp.read:Bp.r14 E d o r op (Bp E d o r op n a):=fun b c e P g h i j l m p q s t v z A B f C D F=>f b c e
def Bp.none:Bp.r15 E d o r op (Bp E d o r op n a):=fun b c e P g h i j l m p q s t v z A B C f D F=>f b c e
def Bp.out:Bp.r16 E d o r op a (Bp E d o r op n a):=fun b c P f g h i j l m p q s t v z A B C e D=>e b c
def Bp.put:Bp.r17 E d o r op n a (Bp E d o r op n a):=fun b c e f g h i j P m p q s t v z A B C D F G I J K L l=>l b c e f g h i j
def Bp.el{M:(i0:Cs)->Bp E d o r op n a i0->Prop}(call:op=20->0<=n->n.toNat<E.ms.length->(a.length:Int)<=(E.meth n.toNat).locals->∀h,M (d.top (Hv E n.toNat a) (o::r)) h)(send:op=21->0<=n->n.toNat<E.ms.length->0<a.length->0<=(Cg a).2->(Cg a).2<(d.ts.length:Int)->(a.length:Int)<=(E.meth (Px E d n (Cg a).2)).locals->∀h,M (d.top (Hv E (Px E d n (Cg a).2) a) (o::r)) h)(ret0:op=22->r=[]->((E.meth o.m).result.1=1->0<a.length)->∀h,M ⟨[],d.ts,d.made,d.read,d.out,d.steps,0,if (E.meth o.m).result.1=1 then (Cg a).2 else 0⟩ h)(ret:∀(q:Ca) (r':List Ca),op=22->r=q::r'->a.length<=1->q.p<(E.meth q.m).code.length->((q.st.length+a.length:Nat):Int)<=(E.meth q.m).stack->∀h,M (d.top ⟨q.m,Ch E q,q.lo,q.st++a⟩ r') h)(jump:11<=op->op<=14->(op=13->2<=a.length)->(op≠11->1<=a.length)->0<=n->Ii op a=true->∀h,M (d.top ⟨o.m,n.toNat,o.lo,o.st⟩ r) h)(stay:12<=op->op<=14->(op=13->2<=a.length)->1<=a.length->Ii op a=false->∀h,M (d.top ⟨o.m,Ch E o,o.lo,o.st⟩ r) h)(load:op=2->0<=n->n<(o.lo.length:Int)->(o.lo.getD n.toNat (0,0)).1≠0->(o.st.length:Int)<(E.meth o.m).stack->∀h,M (d.top ⟨o.m,Ch E o,o.lo,o.st++[o.lo.getD n.toNat (0,0)]⟩ r) h)(store:∀(s:TP) (v:Int×Int),op=3->0<=n->n<(o.lo.length:Int)->o.st=s++[v]->∀h,M (d.top ⟨o.m,Ch E o,o.lo.set n.toNat v,s⟩ r) h)(pop:∀(s:TP) (v:Int×Int),op=4->o.st=s++[v]->∀h,M (d.top ⟨o.m,Ch E o,o.lo,s⟩ r) h)(dup:∀(s:TP) (v:Int×Int),op=5->o.st=s++[v]->((s.length+2:Nat):Int)<=(E.meth o.m).stack->∀h,M (d.top ⟨o.m,Ch E o,o.lo,s++[v,v]⟩ r) h)(swap:∀(s:TP) (u v:Int×Int),op=6->o.st=s++[u,v]->((s.length+2:Nat):Int)<=(E.meth o.m).stack->∀h,M (d.top ⟨o.m,Ch E o,o.lo,s++[v,u]⟩ r) h)(new:op=15->(o.st.length:Int)<(E.meth o.m).stack->∀h,M ⟨⟨o.m,Ch E o,o.lo,o.st++[(2,(d.ts.length:Int))]⟩::r,d.ts++[⟨n,false,[]⟩],d.made+1,d.read,d.out,d.steps,d.status,d.value⟩ h)(init:∀(s vs:TP) (k:Nat) (vals:TP),op=16->0<=n->n.toNat<E.T.length->o.st=s++(2,(k:Int))::vs->Hw E.T d.ts vs (E.all n)=true->(∀v∈vs,It d.ts.length v)->0<k->d.ts[k]?=some ⟨n,false,vals⟩->∀h,M (d.with (d.ts.set k ⟨n,true,vs⟩) ⟨o.m,Ch E o,o.lo,s⟩ r) h)(push:(op=0\/op=1\/op=7\/op=8\/op=9\/op=10\/op=17\/op=19)->(op=17->0<=n/\n.toNat<(Cq E.cs).length/\0<=(E.fld n).slot/\0<=(Cg a).2/\(Cg a).2<(d.ts.length:Int)/\(E.fld n).slot<((Cc d.ts (Cg a).2).vals.length:Int))->(op=17\/op=19->1<=a.length)->(7<=op->op<=10->2<=a.length)->(o.st.length:Int)<(E.meth o.m).stack->∀h,M (d.top ⟨o.m,Ch E o,o.lo,o.st++[Mr E d op n a]⟩ r) h)(read:op=24->d.read<E.ins.length->(o.st.length:Int)<(E.meth o.m).stack->∀h,M ⟨⟨o.m,Ch E o,o.lo,o.st++[(1,E.ins.getD d.read 0)]⟩::r,d.ts,d.made,d.read+1,d.out,d.steps,d.status,d.value⟩ h)(none:op=24->E.ins.length<=d.read->(o.st.length:Int)<(E.meth o.m).stack->∀h,M (d.top ⟨o.m,Ch E o,o.lo,o.st++[(1,0)]⟩ r) h)(out:op=25->1<=a.length->∀h,M ⟨⟨o.m,Ch E o,o.lo,o.st⟩::r,d.ts,d.made,d.read,d.out++[(Cg a).2],d.steps,d.status,d.value⟩ h)(put:op=18->2<=a.length->0<=n->n.toNat<(Cq E.cs).length->0<=(E.fld n).slot->0<=(Cg a).2->(Cg a).2<(d.ts.length:Int)->(E.fld n).slot<((Cc d.ts (Cg a).2).vals.length:Int)->∀h,M (d.with (d.ts.set (Cg a).2.toNat ⟨(Cc d.ts (Cg a).2).cl,(Cc d.ts (Cg a).2).set,(Cc d.ts (Cg a).2).vals.set (E.fld n).slot.toNat (Ib a)⟩) ⟨o.m,Ch E o,o.lo,o.st⟩ r) h){i0:Cs}(h:Bp E d o r op n a i0):M i0 h:=h (fun i0=>∀h,M i0 h) call send ret0 ret jump stay load store pop dup swap new init push read none out put h
end
section
variable (E:Cr) (d:Cs)
abbrev Gh.r0(P:Cs->Prop):Prop:=∀(o:Ca) (r:List Ca) (s a:List (Int × Int)) (t:Nat),d.os=o::r->o.m<E.ms.length->o.p<(E.meth o.m).code.length->o.st=s++a->Hw E.T d.ts a (Cu (Cq E.cs) E.ms (E.meth o.m).result ((E.meth o.m).code.getD o.p 0) (Cd.atI (E.meth o.m).code ((o.p:Int)+1)))=true->(∀v∈a,It d.ts.length v)->0<t->t<d.ts.length->Dn E d ((E.meth o.m).code.getD o.p 0) (Cd.atI (E.meth o.m).code ((o.p:Int)+1)) a=(t:Int)->(∀q∈o::r,q.m<E.ms.length/\(Gz E.T (Cc d.ts t).cl q.p (E.meth q.m).handlers≠none->1<=(E.meth q.m).stack))->P (Ga E (t:Int) (Cc d.ts t).cl ⟨d.os,d.ts,d.made,d.read,d.out,d.steps+1,d.status,d.value⟩ (⟨o.m,o.p,o.lo,s⟩::r))
abbrev Gh.r1(P:Cs->Prop):Prop:=∀(o:Ca) (r:List Ca) (s a:List (Int × Int)) (d':Cs),d.os=o::r->o.m<E.ms.length->o.p<(E.meth o.m).code.length->o.st=s++a->Hw E.T d.ts a (Cu (Cq E.cs) E.ms (E.meth o.m).result ((E.meth o.m).code.getD o.p 0) (Cd.atI (E.meth o.m).code ((o.p:Int)+1)))=true->(∀v∈a,It d.ts.length v)->Dn E d ((E.meth o.m).code.getD o.p 0) (Cd.atI (E.meth o.m).code ((o.p:Int)+1)) a=0->Bp E ⟨⟨o.m,o.p,o.lo,s⟩::r,d.ts,d.made,d.read,d.out,d.steps+1,d.status,d.value⟩ ⟨o.m,o.p,o.lo,s⟩ r ((E.meth o.m).code.getD o.p 0) (Cd.atI (E.meth o.m).code ((o.p:Int)+1)) a d'->P d'
def Gh (i0:Cs):Prop:=∀(P:Cs->Prop),Gh.r0 E d P->Gh.r1 E d P->P i0
end
section
variable {E:Cr}{d:Cs}
def Gh.thrown:Gh.r0 E d (Gh E d):=fun o r s a t b c e f g h i j l m P p q=>p o r s a t b c e f g h i j l m
def Gh.does:Gh.r1 E d (Gh E d):=fun o r s a d' b c e f g h i j P m l=>l o r s a d' b c e f g h i j
def Gh.el{M:(i0:Cs)->Gh E d i0->Prop}(thrown:∀(o:Ca) (r:List Ca) (s a:TP) (t:Nat),d.os=o::r->o.m<E.ms.length->o.p<(E.meth o.m).code.length->o.st=s++a->Hw E.T d.ts a (Cu (Cq E.cs) E.ms (E.meth o.m).result ((E.meth o.m).code.getD o.p 0) (Cd.atI (E.meth o.m).code ((o.p:Int)+1)))=true->(∀v∈a,It d.ts.length v)->0<t->t<d.ts.length->Dn E d ((E.meth o.m).code.getD o.p 0) (Cd.atI (E.meth o.m).code ((o.p:Int)+1)) a=(t:Int)->(∀q∈o::r,q.m<E.ms.length/\(Gz E.T (Cc d.ts t).cl q.p (E.meth q.m).handlers≠none->1<=(E.meth q.m).stack))->∀h,M (Ga E (t:Int) (Cc d.ts t).cl ⟨d.os,d.ts,d.made,d.read,d.out,d.steps+1,d.status,d.value⟩ (⟨o.m,o.p,o.lo,s⟩::r)) h)(does:∀(o:Ca) (r:List Ca) (s a:TP) (d':Cs),d.os=o::r->o.m<E.ms.length->o.p<(E.meth o.m).code.length->o.st=s++a->Hw E.T d.ts a (Cu (Cq E.cs) E.ms (E.meth o.m).result ((E.meth o.m).code.getD o.p 0) (Cd.atI (E.meth o.m).code ((o.p:Int)+1)))=true->(∀v∈a,It d.ts.length v)->Dn E d ((E.meth o.m).code.getD o.p 0) (Cd.atI (E.meth o.m).code ((o.p:Int)+1)) a=0->Bp E ⟨⟨o.m,o.p,o.lo,s⟩::r,d.ts,d.made,d.read,d.out,d.steps+1,d.status,d.value⟩ ⟨o.m,o.p,o.lo,s⟩ r ((E.meth o.m).code.getD o.p 0) (Cd.atI (E.meth o.m).code ((o.p:Int)+1)) a d'->∀h,M d' h){i0:Cs}(h:Gh E d i0):M i0 h:=h (fun i0=>∀h,M i0 h) thrown does h
end
theorem Sl{k:Db}{M:Br}{w:World}(h:Bm k M X w){n:Nat}(f:n<M.ts.length):∃g,M.ta=some ⟨g,0,none⟩/\g<w.heap.size/\(∀j u,(Iy M.ts[n])[j]?=some u->w.cell? ⟨g,n*3+j,none⟩=some u)/\∀j,w.frozen? ⟨g,j,none⟩=false:=by
 have b:=h.hrow;obtain⟨g,c,i,_,l⟩:=Cf b Bd;refine⟨g,c,i,fun j u e=>?_,fun j=>?_⟩
 ·have m:j<3:=(List.getElem?_eq_some_iff.1 e).1;rw[l _ (by rw[Kq Iy 3 (fun _=>rfl)];omega),M5 Iy 3 (fun _=>rfl) M.ts n f j m,e]
 rw[c]at b;exact World.ownsRow.frozenAt b j
def Pr{k:Db}{M:Br}(h:Bm k M X w){n:Nat}(b:n<M.ts.length):w.ownsRow k.w0.heap.size 240 2 M.ts[n].2 M.ts[n].1.vals.length (Bu M.ts[n].1.vals) :=
 h.row (Kx M.ts[n]) (List.mem_append_left _ (by unfold Br.rows;simp only[Bxy,Bwt];exact .inr (.inr (.inr (.inr (.inr (Bwa (Bvh b))))))))
def Vu{M:Br}{n:Nat}(b:n<M.ts.length):Cc (M.ts.map Prod.fst) (n:Int)=M.ts[n].1:=by
 unfold Cc;rw[Bvn,Th,Bv8,Ws b];rfl
theorem Bi3(k:Db)(M:Br)(X:List Rw)(t q j i:Int)(w:World)(hf:k.f.ok k.w0)(h:Bm k M X w)(I:t=2->0<=q/\q<(M.ts.length:Int))(R:Bool)(m:J3 k.f.T (M.ts.map Prod.fst) (t,q) (j,i)=R):Calls prog 145 #[.pointer (some ⟨k.B,0,none⟩),.agg #[.int .i64 t,.int .i64 q],.agg #[.int .i64 j,.int .i64 i]] w fun e c=>e=.returned (.bool R)/\Below w.heap.size w c:=by
 unfold J3 at m;simp only at m;have G:Below w.heap.size w ((w.alloc (O34 t q)).alloc (O7 j i)):=Bx w _ _;have V:=Bf (w.alloc (O34 t q)) (O7 j i);have Y:=Bk (Bf w (O34 t q)) (O7 j i);have b0:=(Bb Y 0).trans (show _=some (Value.int .i64 t) from rfl);have b1:=(Bb Y 1).trans (show _=some (Value.int .i64 q) from rfl);have y0:((w.alloc (O34 t q)).alloc (O7 j i)).cell? ⟨w.heap.size+1,0,none⟩=some (.int .i64 j):=by rw[show w.heap.size+1=(w.alloc (O34 t q)).heap.size by simp];exact(Bb V 0).trans rfl
 have y1:((w.alloc (O34 t q)).alloc (O7 j i)).cell? ⟨w.heap.size+1,1,none⟩=some (.int .i64 i):=by rw[show w.heap.size+1=(w.alloc (O34 t q)).heap.size by simp];exact(Bb V 1).trans rfl
 by_cases Z:j=1;·rw[Sp Z]at m;subst Z m;clear I;go_in;go_wp2;go_ret;exact⟨rfl,G⟩
 rw[Pf Z]at m;by_cases J:t=2
 ·rw[Sp J]at m;by_cases h3:q=0;·rw[Sp h3]at m;subst J h3 m;clear I;go_in;go_wp2;go_ret;exact⟨rfl,G⟩
  rw[Pf h3]at m;obtain⟨b4,b7⟩:=I J;obtain⟨n,rfl⟩:=Bvk b4;have hn:n<M.ts.length:=Bd;rw[Vu hn]at m;subst J;have C:=h.below G;obtain⟨g,hg,a0,N,_⟩:=Sl C hn;have c8:((w.alloc (O34 2 (n:Int))).alloc (O7 j i)).cell? ⟨k.B,8,none⟩=some (.slice (some ⟨g,0,none⟩) M.ts.length M.tc):=by rw[<- hg];exact C.cell Hd
  have c0:((w.alloc (O34 2 (n:Int))).alloc (O7 j i)).cell? ⟨k.B,0,none⟩=some (.slice k.f.a1 k.f.l.length k.f.c1):=C.cell Hd;have c1:((w.alloc (O34 2 (n:Int))).alloc (O7 j i)).cell? ⟨k.B,1,none⟩=some (.slice k.f.a2 k.f.ms.length k.f.c2):=C.cell Hd;have O:=C.ltB;have a4:=C.fok hf;obtain⟨z,vc,a5⟩:=Bg (Pr C hn);generalize M.ts[n]=x at *;obtain⟨⟨s,v,b5⟩,vv⟩:=x;simp only at a5;subst a5;generalize b5.length=A at *;have g0:((w.alloc (O34 2 (n:Int))).alloc (O7 j i)).cell? ⟨g,n*3,none⟩=some (.int .i64 s):=N 0 _ rfl;have g1:((w.alloc (O34 2 (n:Int))).alloc (O7 j i)).cell? ⟨g,n*3+1,none⟩=some (.bool v):=N 1 _ rfl;have g2:((w.alloc (O34 2 (n:Int))).alloc (O7 j i)).cell? ⟨g,n*3+2,none⟩=some (.slice z A vc):=N 2 _ rfl;simp only at m;have a3:=fun c (h':k.f.ok c)=>N5 k.f.a1 k.f.a2 k.f.c1 k.f.ms.length k.f.c2 k.f.bb k.f.l s i c (by have:=h'.1;omega) h'.2.2.2.2.1;have eT:Cw k.f.l=k.f.T:=rfl;rw[eT]at a3;generalize Tr.rbel k.f.T s i=b at *;generalize M.ts.length=L at *;have a6:=Bc a3;have a7:=Bc a4;have lE:w.heap.size+1<((w.alloc (O34 2 (n:Int))).alloc (O7 j i)).heap.size:=by simp only[World.alloc,Bw3];omega
  have lD:w.heap.size<((w.alloc (O34 2 (n:Int))).alloc (O7 j i)).heap.size:=Bd;clear I N C h a3 a4 Y V hg eT;go_in;go_wp2_with fail;generalize hW:(w.alloc (O34 2 (n:Int))).alloc (O7 j i)=W at *;have Q:∀c,Below W.heap.size W c->c.cell? ⟨k.B,8,none⟩=some (.slice (some ⟨g,0,none⟩) L M.tc)/\c.cell? ⟨w.heap.size,1,none⟩=some (.int .i64 (n:Int))/\c.cell? ⟨g,n*3,none⟩=some (.int .i64 s)/\c.cell? ⟨g,n*3+1,none⟩=some (.bool v)/\c.cell? ⟨g,n*3+2,none⟩=some (.slice z A vc):=fun c K=>⟨QC K O c8,QC K lD b1,QC K a0 g0,QC K a0 g1,QC K a0 g2⟩
  go_region_held3 (fun c=>c.cell? ⟨k.B,8,none⟩=some (.slice (some ⟨g,0,none⟩) L M.tc)/\c.cell? ⟨w.heap.size,1,none⟩=some (.int .i64 (n:Int))/\c.cell? ⟨g,n*3,none⟩=some (.int .i64 s)/\c.cell? ⟨g,n*3+1,none⟩=some (.bool v)/\c.cell? ⟨g,n*3+2,none⟩=some (.slice z A vc))
   (first|with_reducible exact Q _ (Vm _ _).drew|with_reducible exact Q _ (QN _).drew|with_reducible exact Q _ (((((QN _).drew).setCell (Wf _) _).setCell (Wf _) _).setCell (Wf _) _))
   (fail)
  have D:Below W.heap.size W (W.alloc (O35 s v z A vc)).drew:=(QN _).drew;have a8:=QB G D;have hO:=Bf W (O35 s v z A vc);have o0:(W.alloc (O35 s v z A vc)).drew.cell? ⟨W.heap.size,0,none⟩=some (.int .i64 s):=(Bb hO 0).trans rfl;have o1:(W.alloc (O35 s v z A vc)).drew.cell? ⟨W.heap.size,1,none⟩=some (.bool v):=(Bb hO 1).trans rfl;have d0:=(D.cell (p:=⟨k.B,0,none⟩) O).trans c0;have d1:=(D.cell (p:=⟨k.B,1,none⟩) O).trans c1;have z1:=(D.cell (p:=⟨w.heap.size+1,1,none⟩) lE).trans y1;have a9:=Bc ((Ba a7).below D);have lO:W.heap.size<(W.alloc (O35 s v z A vc)).drew.heap.size:=by simp[World.drew]
  have b2:=Bvm O D.size;have b6:=Bvm lE D.size;clear Q c8 b0 b1 g0 g1 g2 c0 c1 y0 y1 D a7 G hO;generalize (W.alloc (O35 s v z A vc)).drew=w3 at *;generalize W.heap.size=p at *;go_wp2_with fail
  go_region_held3 (fun c=>c.cell? ⟨k.B,0,none⟩=some (.slice k.f.a1 k.f.l.length k.f.c1)/\c.cell? ⟨k.B,1,none⟩=some (.slice k.f.a2 k.f.ms.length k.f.c2)/\c.cell? ⟨p,0,none⟩=some (.int .i64 s)/\c.cell? ⟨w.heap.size+1,1,none⟩=some (.int .i64 i))
   (first|exact⟨d0,d1,o0,z1⟩|exact⟨QC F b2 d0,QC F b2 d1,QC F lO o0,QC F b6 z1⟩)
   (first|(go_at_call 91;refine(Ba a6 _ ((Ba a9).below (Vm _ _).drew)).mono ?_;rintro e w7 ⟨rfl,F⟩))
  have o7:=(F.cell (p:=⟨p,1,none⟩) lO).trans o1;have b3:=a8.drew.trans (F.mono a8.size);clear F d0 d1 o0 o1 z1 a6 a9;cases v with
  | false =>
   simp only[Bx0]at m;subst m;go_wp2;go_ret;exact⟨rfl,b3⟩
  | true =>
   simp only[Bxn]at m;subst m;go_wp2;go_ret;exact⟨rfl,b3⟩
 rw[Pf J]at m;subst m;clear I;go_in;go_wp2;go_ret;exact⟨rfl,G⟩
def Bcu:∀{a l:TP},Hw z Q a l=true->a.length=l.length/\∀q (b:q<a.length) (c:q<l.length),J3 z Q a[q] l[q]=true
 | [],[],_=>⟨rfl,fun q h=>absurd h Fr⟩
 | [],_::_,h=>by simp[Hw]at h
 | _::_,[],h=>by simp[Hw]at h
 | v::a,t::l,h=>by
  simp only[Hw,Bwk]at h;obtain⟨e,f⟩:=Bcu h.2;refine⟨by simp[e],fun q b c=>?_⟩;cases q with
  | zero=>exact h.1
  | succ j=>exact f j (by simpa using b) (by simpa using c)
def Om{a:TA}{c:Nat}(h:w.ownsRow u 240 2 (.s a q.length c) q.length (Bu q)){j:Nat}(f:j<q.length):∃g,a=some ⟨g,0,none⟩/\g<w.heap.size/\w.C g (j*2) (.i q[j].1)/\w.C g (j*2+1) (.i q[j].2):=by
 obtain⟨g,m,p,_,e⟩:=Cf h Bd;obtain⟨t,v,z⟩:=Gc q j f;exact⟨g,m,p,(e _ Bd).trans t,(e _ z).trans v⟩
def Bbv(k:Db)(M:Br)(X:List Rw)(o:Ca)(lv sv:TX)(r:List (Ca×Value×Value))(s a b:TP)(Q:TA)(V:Nat)(w:TW)(hf:k.f.ok k.w0)(h:Bm k M X w)(hM:M.os=(o,lv,sv)::r)(Z:o.st=s++a)(hr:r.length<=1000)(F:o.st.length<=1000) (a0:TyR w (.s Q b.length V) b)(a1:Hw k.f.T (M.ts.map Prod.fst) a b=true)(a2:∀v∈a,v.1=2->0<=v.2/\v.2<(M.ts.length:Int)):Calls prog 99 #[.q k.B 0,.s Q b.length V] w fun e j=>∃l vc G,e=.r (.s l a.length vc)/\Bm k (M.put ((⟨o.m,o.p,o.lo,s⟩,lv,G)::r)) (Dc (.s l a.length vc) a::X) j:=by
 obtain⟨a3,a4⟩:=Bcu a1;have hO:=Tf k M X o lv sv r s a w h hM Z hr F;have b4:a.length<=1000:=by rw[Z]at F;simp at F;omega
 have HI:=Bc (fun (z:Br) (Y:List Rw) (j:TW) (e:z.ts=M.ts) (h':Bm k z Y j) q (c:q<a.length) (h2:q<b.length)=>Bi3 k z Y a[q].1 a[q].2 b[q].1 b[q].2 j hf h' (by rw[e];exact a2 _ (Bvh c)) true (by rw[e];exact a4 q c h2));clear h hM Z hr F a1 a4 a2;obtain⟨m,I,J⟩:∃m,a.length=m/\b.length=m:=⟨_,a3,rfl⟩;rw[I]at hO b4;rw[J]at a0;rw[I,J];have HO:=Bc hO;have HA:=Bc (fun (_:Unit)=>I);have HW:=Bc (fun (_:Unit)=>J);have a5:=Bc a0;clear a0 a3 I J hO;go_in;go_wp2_with fail;refine(Ba HO).mono ?_;rintro e w1 ⟨l,vc,G,rfl,c,a6⟩;have A:=a6 _ _ (Ba a5);clear HO a5 a6;generalize a7:M.put ((⟨o.m,o.p,o.lo,s⟩,lv,G)::r)=z at *;have b5:z.ts=M.ts:=by rw[<- a7];rfl
 go_wp2
 go_loopw [6] (fun i wr=>∃q:Nat,q<=m/\i=.i (q:Int)/\Bm k z (Dc (.s l m vc) a::X) wr/\TyR wr (.s Q m V) b)
  (fun i _=>m-(intOf i).toNat)
 case atStart=>exact⟨0,Bd,rfl,c,A⟩
 case round=>
  clear c A;obtain⟨q,hq,rfl,c,A⟩:=hrel;have hR:wr.ownsRow k.w0.heap.size 240 2 (.s l a.length vc) a.length (Bu a):=by
   have:=c.row (Dc (.s l m vc) a) Fr;rw[<- Ba HA ()]at this;exact this
  by_cases a8:q<m
  ·have a9:q<a.length:=by rw[Ba HA ()];exact a8
   have b0:q<b.length:=by rw[Ba HW ()];exact a8
   obtain⟨g,rfl,hg,K,L⟩:=Om hR a9;obtain⟨g2,o2,rfl,b1,b2⟩:=A.at Bd;obtain⟨N,O⟩:=b2 q b0;have HC:=Bc (Ba HI z _ _ b5 (c.drew) q a9 b0);generalize a[q]=s at *;generalize b[q]=t at *;obtain⟨s1,s2⟩:=s;obtain⟨t1,t2⟩:=t;simp only at K L N O HC;have kb:(q:Int)<(m:Int):=Bd;have H1:=Bc c;have b3:=Bc A;clear b2 hR c A;go_wp2
   go_region_held3 (fun j=>j.C g (q*2) (.i s1)/\j.C g (q*2+1) (.i s2)/\j.C g2 (o2+q*2) (.i t1)/\j.C g2 (o2+q*2+1) (.i t2))
    (first|exact⟨K,L,N,O⟩|exact⟨QC D hg K,QC D hg L,QC D b1 N,QC D b1 O⟩)
    (first|(go_at_call 145;refine(Ba HC).mono ?_;rintro e w7 ⟨rfl,D⟩))
   have h7:=(Ba H1).drew.below D;have b6:=((Ba b3).below (Vm _ _).drew).below D;clear D K L N O HC H1 b3;go_wp2;go_roundw
   case rel=>exact⟨q+1,Bd,Lt,h7,b6⟩
   case measure=>simp[intOf];omega
  have kb:¬(q:Int)<(m:Int):=Bd;clear hR A;go_wp2;go_ret;exact⟨l,vc,rfl,G,by rw[a7];exact c⟩
def Bm.drop{k:Db}{M:Br}{x:Rw}(h:Bm k M (x::X) w):Bm k M X w:=Own.sub h (Byr (Bz0 _) (Bw4 x X))
def Bj3{x x':Ca×Value×Value}(r:List (Ca×Value×Value))(h:Fx x'=Fx x):(x'::r).reverse.flatMap Fx=(x::r).reverse.flatMap Fx:=by
 rw[Bxj,Bxj,Bwl,Bwl];simp[h]
def Bry{k:Db}{M:Br}{o:Ca}{sv:TX}{f:Nat}{r:List (Ca×Value×Value)}(h:Bm k M X w)(g:M.os=(o,.s (.p u) o.lo.length f,sv)::r)(q:Nat)(b c:Int):Bm k (M.put ((⟨o.m,o.p,o.lo.set q (b,c),o.st⟩,.s (.p u) o.lo.length f,sv)::r)) X ((w.setCell (.a u (q*2)) (.i b)).setCell (.a u (q*2+1)) (.i c)):=by
 obtain⟨t,v,z,A,B,C,D,F,G,I,J,K,L,N⟩:=M;simp only at g;subst g;have j:=Own.cell (i:=4) h Hd (q*2) (.i b);have l:=Own.cellE (i:=4) j Hd (Ym o.lo q b c).symm;have e:(o.lo.set q (b,c)).length=o.lo.length:=Fr;unfold Bm Br.rows Br.put;simp only[Bwj,Lc,Dc,e];rw[Bj3 (x:=(o,.s (.p u) o.lo.length f,sv)) (x':=(⟨o.m,o.p,o.lo.set q (b,c),o.st⟩,.s (.p u) o.lo.length f,sv)) r rfl];exact l
theorem Jn{k:Db}{M:Br}{w:World}{o:Ca}{lv sv:Value}{r:List (Ca×Value×Value)}(h:Bm k M X w)(c:M.os=(o,lv,sv)::r):∃g,M.oa=some ⟨g,0,none⟩/\g<w.heap.size/\w.cell? ⟨k.B,7,none⟩=some (.slice (some ⟨g,0,none⟩) (r.length+1) M.oc)/\w.cell? ⟨g,r.length*4,none⟩=some (.int .i64 (o.m:Int))/\w.cell? ⟨g,r.length*4+1,none⟩=some (.int .i64 (o.p:Int))/\w.cell? ⟨g,r.length*4+2,none⟩=some lv/\w.cell? ⟨g,r.length*4+3,none⟩=some sv/\∀j,w.frozen? ⟨g,j,none⟩=false:=by
 obtain⟨g,e,f,b,i⟩:=h.last c;refine⟨g,e,f,?_,b 0 _ rfl,b 1 _ rfl,b 2 _ rfl,b 3 _ rfl,i⟩;rw[<- e,show r.length+1=M.os.length by rw[c];rfl];exact h.cell Hd
def Btr{k:Db}{M:Br}{o:Ca}{sv:TX}{b:Nat}{r:List (Ca×Value×Value)}(h:Bm k M X w)(c:M.os=(o,.s (.p u) o.lo.length b,sv)::r){n:Nat}(f:n<o.lo.length):u<w.heap.size/\True/\w.C u (n*2) (.i o.lo[n].1)/\w.C u (n*2+1) (.i o.lo[n].2):=by
 obtain⟨g,e,j,l,m⟩:=Om (h.lrow c) f;simp only[Option.some.injEq,Addr.mk.injEq,Bwb]at e;subst e;exact⟨j,trivial,l,m⟩
def Btq{k:Db}{M:Br}{o:Ca}{sv:TX}{b:Nat}{r:List (Ca×Value×Value)}(h:Bm k M X w)(c:M.os=(o,.s (.p u) o.lo.length b,sv)::r)(j:Nat):w.frozen? (.a u j)=false:=World.ownsRow.frozenAt (h.lrow c) j
def Rz(n:Nat)(h:n<=1000):IntKind.i64.wrap (((n+1:Nat):Int)-1)=(n:Int):=by rw[show ((n+1:Nat):Int)-1=(n:Int) by omega];exact Eg _ Bd Bd
def Bl9(k:Db)(M:Br)(X:List Rw)(o:Ca)(lv sv:TX)(r:List (Ca×Value×Value))(n:Nat)(w:TW)(D:k.f.ok k.w0)(h:Bm k M X w)(b:M.os=(o,lv,sv)::r)(t:r.length<=1000)(F:o.st.length<=1000)(z:o.m<k.f.ms.length)(A:(o.st.length:Int)<k.f.ms[o.m].1.m.stack)(G:n<o.lo.length)(C:o.lo[n].1≠0):Calls prog 150 #[.q k.B 0,.i 2,.i (n:Int)] w fun e j=>e=.r (.tuple #[])/\∃l,Bm k (M.put ((⟨o.m,o.p,o.lo,o.st++[o.lo[n]]⟩,lv,l)::r)) X j:=by
 obtain⟨V,Y,I⟩:∃a c,lv=.s a o.lo.length c:=Bg (h.lrow b);subst I;obtain⟨Z,rfl,_,x0,x1⟩:=Om (h.lrow b) G;obtain⟨g,J,a0,c7,-,-,g2,-,-⟩:=Jn h b;have K:=Bc (fun (j:TW) (L:Bl w j)=>Ju k M X o _ sv r o.lo[n].1 o.lo[n].2 j D (h.below L) b z A t F);have a1:=Rz r.length t;have ri:(r.length:Int)<(r.length:Int)+1:=Bd;have ni:(n:Int)<(o.lo.length:Int):=Bd;generalize N:o.lo[n]=v at *;obtain⟨O,v2⟩:=v;have a2:(O==0)=false:=by simpa using C
 clear h b J C N z A;go_in;go_wp2_with fail;refine Qm (Ba K _ (QN _)) ?_;rintro w1 ⟨l,Q⟩;go_wp2;refine Bwy (Bw9 rfl _ _ _) rfl ?_;exact⟨rfl,l,Q⟩
theorem Pq{k:Db}{M:Br}{w:World}{l:Option Addr}{vc n:Nat}{a:List (Int×Int)}(h:Bm k M (Dc (.slice l n vc) a::X) w)(b:n=a.length){q:Nat}(c:q<a.length):∃g,l=some ⟨g,0,none⟩/\g<w.heap.size/\w.cell? ⟨g,q*2,none⟩=some (.int .i64 a[q].1)/\w.cell? ⟨g,q*2+1,none⟩=some (.int .i64 a[q].2):=by
 subst b;exact Om (h.row (Dc (.slice l a.length vc) a) Fr) c
def Bpc(k:Db)(M:Br)(X:List Rw)(o:Ca)(lv sv:TX)(r:List (Ca×Value×Value))(n:Int)(s:TP)(v:Int×Int)(w:TW)(h:Bm k M X w)(c:M.os=(o,lv,sv)::r)(t:r.length<=1000)(A:o.st.length<=1000)(z:o.st=s++[v]):Calls prog 150 #[.q k.B 0,.i 4,.i n] w fun e b=>e=.r (.tuple #[])/\∃f,Bm k (M.put ((⟨o.m,o.p,o.lo,s⟩,lv,f)::r)) X b:=by
 obtain⟨g,C,I,J,-,-,-,-,-⟩:=Jn h c;have D:=Bc (fun (b:TW) (F:Bl w b)=>Tf k M X o lv sv r s [v] b (h.below F) c z t A);have K:=Rz r.length t;have L:(r.length:Int)<(r.length:Int)+1:=Bd;clear h c C z;go_in;go_wp2_with fail;refine(Ba D _ (Vm _ _)).mono ?_;rintro e N ⟨O,vc,f,rfl,l,-⟩;have Q:=l.cell (j:=15) Hd;have G:=Bc l.drop;clear l;go_wp2;go_end0;exact⟨rfl,f,Ba G⟩
def Bpe(k:Db)(M:Br)(X:List Rw)(o:Ca)(lv sv:TX)(r:List (Ca×Value×Value))(n:Int)(s:TP)(v:Int×Int)(w:TW)(F:k.f.ok k.w0)(h:Bm k M X w)(z:M.os=(o,lv,sv)::r)(l:r.length<=1000)(A:o.st.length<=1000)(C:o.st=s++[v])(G:o.m<k.f.ms.length)(hl:((s.length+2:Nat):Int)<=k.f.ms[o.m].1.m.stack):Calls prog 150 #[.q k.B 0,.i 5,.i n] w fun e b=>e=.r (.tuple #[])/\∃V,Bm k (M.put ((⟨o.m,o.p,o.lo,s++[v,v]⟩,lv,V)::r)) X b:=by
 obtain⟨g,Y,a4,Z,-,-,-,-,-⟩:=Jn h z;have I:=Bc (fun (b:TW) (c:Bl w b)=>Tf k M X o lv sv r s [v] b (h.below c) z C l A);have a5:=Rz r.length l;have ri:(r.length:Int)<(r.length:Int)+1:=Bd;have a6:s.length+1<=1000:=by rw[C]at A;simpa using A
 clear h z Y C;go_in;go_wp2_with fail;refine(Ba I _ (Vm _ _)).mono ?_;rintro e w1 ⟨va,vc,a0,rfl,t,-⟩;have a1:=t.cell (j:=15) Hd;obtain⟨gv,rfl,_,J,K⟩:=Pq t rfl (q:=0) Fr;have L:=Bc (fun (b:TW) (c:Bl w1 b)=>Ju k _ _ ⟨o.m,o.p,o.lo,s⟩ lv a0 r v.1 v.2 b F (t.below c) rfl G Ls l Ls);clear t I;simp only[Bxt,Bwh,Bvp]at J K;go_wp2_with fail;refine Qm (Ba L _ (Vm _ _)) ?_;rintro w2 ⟨a2,D⟩;obtain⟨a7,N,_,y0,y1⟩:=Pq D rfl (q:=0) Fr;simp only[Option.some.injEq,Addr.mk.injEq,Bwb]at N;subst N;simp only[Bxt,Bwh,Bvp]at y0 y1;have O:=Bc (fun (b:TW) (c:Bl w2 b)=>Ju k _ _ ⟨o.m,o.p,o.lo,s++[v]⟩ lv a2 r v.1 v.2 b F (D.below c) rfl G Fm l Fm);clear D L J K a1 Z;go_wp2_with fail;refine Qm (Ba O _ (Vm _ _)) ?_;rintro w3 ⟨a3,Q⟩;have H3:=Bc Q.drop;clear Q O;go_wp2;go_end0;refine⟨rfl,a3,?_⟩;have:=Ba H3;rw[Bwe]at this;exact this
def Bl1(k:Db)(M:Br)(X:List Rw)(o:Ca)(lv sv:TX)(r:List (Ca×Value×Value))(n:Int)(s:TP)(u v:Int×Int)(w:TW)(F:k.f.ok k.w0)(h:Bm k M X w)(z:M.os=(o,lv,sv)::r)(l:r.length<=1000)(A:o.st.length<=1000)(C:o.st=s++[u,v])(G:o.m<k.f.ms.length)(hl:((s.length+2:Nat):Int)<=k.f.ms[o.m].1.m.stack):Calls prog 150 #[.q k.B 0,.i 6,.i n] w fun e b=>e=.r (.tuple #[])/\∃V,Bm k (M.put ((⟨o.m,o.p,o.lo,s++[v,u]⟩,lv,V)::r)) X b:=by
 obtain⟨g,Y,a4,Z,-,-,-,-,-⟩:=Jn h z;have I:=Bc (fun (b:TW) (c:Bl w b)=>Tf k M X o lv sv r s [u,v] b (h.below c) z C l A);have a5:=Rz r.length l;have ri:(r.length:Int)<(r.length:Int)+1:=Bd;have a6:s.length+2<=1000:=by rw[C]at A;simpa using A
 clear h z Y C;go_in;go_wp2_with fail;refine(Ba I _ (Vm _ _)).mono ?_;rintro e w1 ⟨va,vc,a0,rfl,t,-⟩;have a1:=t.cell (j:=15) Hd;obtain⟨gv,rfl,_,J,K⟩:=Pq t rfl (q:=1) Fr;have L:=Bc (fun (b:TW) (c:Bl w1 b)=>Ju k _ _ ⟨o.m,o.p,o.lo,s⟩ lv a0 r v.1 v.2 b F (t.below c) rfl G Ls l Ls);clear t I;simp only[List.getElem_cons_succ,Bxt,Bx8]at J K;go_wp2_with fail;refine Qm (Ba L _ (Vm _ _)) ?_;rintro w2 ⟨a2,D⟩;obtain⟨a7,N,_,y0,y1⟩:=Pq D rfl (q:=0) Fr;simp only[Option.some.injEq,Addr.mk.injEq,Bwb]at N;subst N;simp only[Bxt,Bwh,Bvp]at y0 y1;have O:=Bc (fun (b:TW) (c:Bl w2 b)=>Ju k _ _ ⟨o.m,o.p,o.lo,s++[v]⟩ lv a2 r u.1 u.2 b F (D.below c) rfl G Fm l Fm);clear D L J K a1 Z;go_wp2_with fail;refine Qm (Ba O _ (Vm _ _)) ?_;rintro w3 ⟨a3,Q⟩;have H3:=Bc Q.drop;clear Q O;go_wp2;go_end0;refine⟨rfl,a3,?_⟩;have:=Ba H3;rw[Bwe]at this;exact this
def Bj0(k:Db)(M:Br)(X:List Rw)(o:Ca)(lv sv:TX)(r:List (Ca×Value×Value))(n:Nat)(s:TP)(v:Int×Int)(w:TW)(h:Bm k M X w)(l:M.os=(o,lv,sv)::r)(I:r.length<=1000)(hs:o.st.length<=1000)(J:o.st=s++[v])(K:n<o.lo.length):Calls prog 150 #[.q k.B 0,.i 3,.i (n:Int)] w fun e b=>e=.r (.tuple #[])/\∃a0,Bm k (M.put ((⟨o.m,o.p,o.lo.set n v,s⟩,lv,a0)::r)) X b:=by
 obtain⟨g,hg,a3,z,-,-,-,-,-⟩:=Jn h l;have L:=Bc (fun (b:TW) (hb:Bl w b)=>Tf k M X o lv sv r s [v] b (h.below hb) l J I hs);have a4:=Rz r.length I;have ri:(r.length:Int)<(r.length:Int)+1:=Bd;obtain⟨la,lc,a1⟩:∃a c,lv=.s a o.lo.length c:=Bg (h.lrow l);subst a1;obtain⟨gl,rfl,_,_,_⟩:=Om (h.lrow l) K;have ni:(n:Int)<(o.lo.length:Int):=Bd;clear h l hg J;go_in;go_wp2_with fail;refine(Ba L _ (Vm _ _)).mono ?_;rintro e w1 ⟨va,vc,a2,rfl,f,-⟩;clear z L;have a5:=f.cell (j:=15) Hd;obtain⟨N,rfl,_,A,D⟩:=Pq f rfl (q:=0) Fr;obtain⟨O,Q,a6,z,-,-,g2,-,-⟩:=Jn f rfl;have t:=Bry (f.drew) rfl n v.1 v.2;obtain⟨a7,V,_,F,G⟩:=Pq t rfl (q:=0) Fr;simp only[Option.some.injEq,Addr.mk.injEq,Bwb]at V;subst V;obtain⟨a8,Y,_,d7,-,-,d2,-,-⟩:=Jn t rfl;have Z:=Q.symm.trans Y;simp only[Option.some.injEq,Addr.mk.injEq,Bwb]at Z;subst Z;obtain⟨_,_,z0,z1⟩:=Btr f rfl K;have zf:=Btq f rfl;have H2:=Bc t.drop;clear f t Q Y;simp only[Bxt,Bwh,Bvp]at A D F G z0 z1;obtain⟨v1,v2⟩:=v;simp only at A D F G;go_wp2
 go_region_held3 (fun b=>b.C k.B 7 (.s (.p O) (r.length+1) M.oc)/\b.C O (r.length*4+2) (.s (.p gl) o.lo.length lc)/\b.C N 0 (.i v1)/\b.C N 1 (.i v2))
  (first|exact⟨z,g2,A,D⟩|exact⟨d7,d2,F,G⟩)
  (fail)
 go_wp2;go_end0;exact⟨rfl,a2,Ba H2⟩
def Tryz.infoThing:(prog.info? 118).map (fun i=>(i.zero,i.size,i.bytes))=some (some (.agg #[.i 0,.bool false,.s none 0 0]),3,40):=Le
def Br.thing(M:Br)(c:Int)(ta:TA)(tc:Nat):Br:=⟨M.os,M.ts++[(⟨c,false,[]⟩,.slice none 0 0)],M.made+1,M.read,M.out,M.steps,M.status,M.value,M.oa,M.oc,ta,tc,M.xa,M.xc⟩
def Bo8{k:Db}{M:Br}{w9:TW}{ta:TA}{tc:Nat}(h:Bm k M X w)(m:w9.ownsRow k.w0.heap.size 118 3 (.s ta (M.ts.length+1) tc) (M.ts.length+1) (M.ts.flatMap Iy++[.i c,.bool false,.s none 0 0])) (q:w.grownBy w9 (Value.slice M.ta M.ts.length M.tc).ownBlock)(t:(Value.slice ta (M.ts.length+1) tc).ownBlock=(Value.slice M.ta M.ts.length M.tc).ownBlock\/(Value.slice ta (M.ts.length+1) tc).ownBlock=some w.heap.size):w9.C k.B 8 (.s M.ta M.ts.length M.tc)/\w9.frozen? (.a k.B 8)=false/\(w9.setCell (.a k.B 8) (.s ta (M.ts.length+1) tc)).C k.B 9 (.i (M.made:Int))/\(w9.setCell (.a k.B 8) (.s ta (M.ts.length+1) tc)).frozen? (.a k.B 9)=false/\Bm k (M.thing c ta tc) X ((w9.setCell (.a k.B 8) (.s ta (M.ts.length+1) tc)).setCell (.a k.B 9) (.i ((M.made:Int)+1))):=by
 obtain⟨v,b,e,z,A,D,F,G,I,J,K,N,O,Q⟩:=M;simp only at m q t ⊢;have f:=Own.app (i:=2) h Hd m q t;have g:=Own.cell (i:=0) f Hd 8 (.s ta (b.length+1) tc);have V:=Own.cell (i:=0) g Hd 9 (.i ((e:Int)+1));refine⟨Own.see (i:=0) (j:=8) f Hd Hd,Own.free (i:=0) f Hd 8,Own.see (i:=0) (j:=9) g Hd Hd,Own.free (i:=0) g Hd 9,?_⟩;have l:=Own.mid (L:=Br.rows k ⟨v,b,e,z,A,D,F,G,I,J,K,N,O,Q⟩ |>.set 2 ⟨118,3,.s ta (b.length+1) tc,b.length+1,b.flatMap Iy++[.i c,.bool false,.s none 0 0]⟩ |>.set 0 ⟨115,16,.s (.p k.B) 1 1,1,(Br.thing ⟨v,b,e,z,A,D,F,G,I,J,K,N,O,Q⟩ c ta tc).cells k⟩) (X:=X) (r:=Dc (.s none 0 0) []) (by
  have Y:=Own.add_nil V 240 2;unfold Br.thing Br.cells;simp only[Up,Bvo,Bwn,Bvp,Bzh];exact Y)
 unfold Bm Br.thing Br.rows;unfold Br.thing Br.rows at l;simp only[Bvx,Bwm,Byz,Bwl,Bwj,Bz9,Bxl,Up,Bvo,Bwn,Bvp,<- Bwe]at l ⊢;simpa[Iy,Kx] using l
def Bjy(k:Db)(M:Br)(X:List Rw)(o:Ca)(lv sv:TX)(r:List (Ca×Value×Value))(c:Int)(w:TW)(N:k.f.ok k.w0)(h:Bm k M X w)(v:M.os=(o,lv,sv)::r)(O:r.length<=1000)(Q:o.st.length<=1000)(V:o.m<k.f.ms.length)(Y:(o.st.length:Int)<k.f.ms[o.m].1.m.stack)(Z:M.ts.length<=1000)(a3:M.made<=1000):Calls prog 151 #[.q k.B 0,.i c] w fun e b=>e=.r (.tuple #[])/\∃ta tc l,Bm k ((M.thing c ta tc).put ((⟨o.m,o.p,o.lo,o.st++[(2,(M.ts.length:Int))]⟩,lv,l)::r)) X b:=by
 obtain⟨i0,hi,a0,a1,a2⟩:=Bv4 Tryz.infoThing;have c8:=h.cell (j:=8) Hd;have z:=h.hrow;have a4:=h.low.size;have A:=Bc (fun (b w9:TW) ta tc (hb:Bl w b) ho hk g=>Bo8 (c:=c) (w9:=w9) (ta:=ta) (tc:=tc) (h.below hb) ho hk g);have D:=Bc (fun ta tc (b:TW) (F:Bm k (M.thing c ta tc) X b)=>Bxh (show b.C k.B 8 (.s ta (M.ts.length+1) tc) from F.cell (by unfold Br.thing Br.cells;simp)) (Ju k (M.thing c ta tc) X o lv sv r 2 (M.ts.length:Int) b N F v V Y O Q));have a5:IntKind.i64.wrap ((M.made:Int)+1)=(M.made:Int)+1:=Eg _ Bd Bd;have a6:=Rz M.ts.length Z;clear h v;generalize M.ts.length=L at *;generalize M.made=md at *;go_in;go_wp2_with (at_builtin;refine Bxg _ rfl _ _ 113 rfl k.w0.heap.size 118 i0 _ 3 40 Bzt hi a0 a1 a2 rfl Ck _ _ _ rfl (z.alloc _) ⟨w.heap.size,0,none⟩ 1 1 [.i c,.bool false,.s none 0 0] rfl rfl ?c1 ?c2 ?c3 ?c4 ?c5 ?_)
 case c1=>exact Dv _ _ _ _ rfl
 case c2=>intro u G;simp at G;rcases G with rfl|rfl|rfl<;>rfl
 case c3=>unfold maxLen;omega
 case c4=>omega
 case c5=>simp;omega
 intro v' w2 t I _ g;obtain⟨ta,tc,rfl⟩:=Bg t;obtain⟨e1,e2,e3,e4,J⟩:=Ba A _ _ _ _ (QN _) t I (by simpa using g);obtain⟨d8,K⟩:=Ba D _ _ _ J;have HQ:=Bc K;clear A D t I g J K z c8;go_wp2_with fail;refine Qm (Ba HQ) ?_;rintro w3 ⟨l,h4⟩;go_wp2;go_end0;exact⟨rfl,ta,tc,l,h4⟩
def Bey{α:Type}(f:α->TV)(z:Nat)(b:∀x,(f x).length=z)(l:List α)(n:Nat)(c:n<l.length)(j:Nat)(g:j<z)(u:TX){x':α}(e:(f l[n]).set j u=f x'):(l.flatMap f).set (n*z+j) u=(l.set n x').flatMap f:=by
 induction l generalizing n with
 | nil=>simp at c
 | cons x r ih =>
  cases n with
  | zero =>
   rw[Bwj,Byw,Bwj,Bwh,Bvp,Bx7 _ _ (by rw[b];exact g)];rw[show (f x).set j u=f x' from e]
  | succ m =>
   rw[Bwj,Bwf,Bwj,Bw1 _ _ (by rw[b,Bza];omega),b,show (m+1)*z+j-z=m*z+j by rw[Bza];omega,ih m (by simpa using c) e]
def Bp2{v:TW}{a b c d:Rw}{f g i:List Rw}{j e y:Rw}(h:Own v (a::b::c::d::(f++(g++j::i)++y::e::X)) w):Own v (a::b::c::d::(f++(g++e::i)++X)) w:=by
 have l:Own v (a::b::c::d::(f++(g++i)++e::X)) w:=Own.sub h (by
  refine Bw5 _ (Bw5 _ (Bw5 _ (Bw5 _ ?_)));exact Byr (Byr (Bz0 _) (Byr (Bz0 _) (Bw4 _ _))) (Bw4 _ _))
 refine Own.perm l (Bzo _ (Bzo _ (Bzo _ (Bzo _ ?_))));refine List.perm_middle.trans ?_;rw[show f++(g++e::i)++X=(f++g)++e::(i++X) by simp,show f++(g++i)++X=(f++g)++(i++X) by simp];exact List.perm_middle.symm
def Br.withTs(M:Br)(ts:List (Do × Value)):Br:=⟨M.os,ts,M.made,M.read,M.out,M.steps,M.status,M.value,M.oa,M.oc,M.ta,M.tc,M.xa,M.xc⟩
def Brz{k:Db}{M:Br}{n:Nat}{l v:TX}{e:TP}{y:Rw}(h:Bm k M (y::Dc v e::X) w)(A:M.ta=some ⟨u,0,none⟩)(f:n<M.ts.length)(t:M.ts[n]=(⟨c,false,q⟩,l)):(w.setCell (.a u (n*3+1)) (.bool true)).C k.B 8 (.s (.p u) M.ts.length M.tc)/\(w.setCell (.a u (n*3+1)) (.bool true)).C u (n*3+2) l/\(w.setCell (.a u (n*3+1)) (.bool true)).frozen? (.a u (n*3+2))=false/\Bm k (M.withTs (M.ts.set n (⟨c,true,e⟩,v))) X ((w.setCell (.a u (n*3+1)) (.bool true)).setCell (.a u (n*3+2)) v):=by
 obtain⟨D,b,F,G,I,J,K,L,N,O,ta,Q,V,Y⟩:=M;simp only at A f t;subst A;have e1:=Bey Iy 3 (fun _=>rfl) b n f 1 Bd (.bool true) (x':=(⟨c,true,q⟩,l)) (by rw[t];rfl);have m:=Own.cellE (i:=2) h Hd e1;have Z:=Bey Iy 3 (fun _=>rfl) (b.set n (⟨c,true,q⟩,l)) n (by simpa using f) 2 Bd v (x':=(⟨c,true,e⟩,v)) (by rw[B0u];rfl);rw[Bzf]at Z;have z:=Own.cellE (i:=2) m Hd Z;refine⟨Own.see (i:=0) (j:=8) m Hd Hd,Own.see (i:=2) (j:=n*3+2) m Hd ?_,Own.free (i:=2) m Hd _,?_⟩
 ·rw[M5 Iy 3 (fun _=>rfl) _ n (by simpa using f) 2 Bd,B0u];rfl
 have e3:b.map Kx=(b.take n).map Kx++Dc l q::(b.drop (n+1)).map Kx:=by
  conv=>lhs;rw[<- Bxm n b,Wr f,t]
  simp[Kx]
 have e4:(b.set n (⟨c,true,e⟩,v)).map Kx=(b.take n).map Kx++Dc v e::(b.drop (n+1)).map Kx:=by
  rw[By5,Sp f];simp[Kx]
 have e5:Br.cells k ⟨D,b.set n (⟨c,true,e⟩,v),F,G,I,J,K,L,N,O,some ⟨u,0,none⟩,Q,V,Y⟩=Br.cells k ⟨D,b,F,G,I,J,K,L,N,O,some ⟨u,0,none⟩,Q,V,Y⟩:=by unfold Br.cells;simp
 unfold Bm Br.withTs Br.rows;unfold Br.rows at z;simp only[e4,e5,Bv7];simp only[e3]at z;exact Bp2 z
def Bo9(k:Db)(M:Br)(X:List Rw)(o:Ca)(lv sv:TX)(r:List (Ca×Value×Value))(c n:Nat)(s t a3:TP)(J:TX)(w:TW)(hf:k.f.ok k.w0)(h:Bm k M X w)(hM:M.os=(o,lv,sv)::r)(hr:r.length<=1000)(K:o.st.length<=1000) (N:o.st=s++(2,(n:Int))::t)(hc:c<k.f.l.length)(a4:Hw k.f.T (M.ts.map Prod.fst) t (Rf.all (Cw k.f.l) (k.f.l.map Prod.fst) c)=true)(a5:∀v∈t,v.1=2->0<=v.2/\v.2<(M.ts.length:Int))(h0:0<n)(z:n<M.ts.length)(O:M.ts[n]=(⟨(c:Int),false,a3⟩,J))(b5:M.ts.length<=1000):Calls prog 152 #[.q k.B 0,.i (c:Int)] w fun e A=>e=.r (.tuple #[])/\∃b0 v,Bm k ((M.withTs (M.ts.set n (⟨(c:Int),true,t⟩,v))).put ((⟨o.m,o.p,o.lo,s⟩,lv,b0)::r)) X A:=by
 have D:=h.fok hf;have hA:=Bgd k.f.a1 k.f.a2 k.f.c1 k.f.ms.length k.f.c2 k.f.bb k.f.l c w D.1 hc D.2.2.2.1 D.2.2.2.2.1;have c0:w.C k.B 0 (.s k.f.a1 k.f.l.length k.f.c1):=h.cell Hd;have c1:w.C k.B 1 (.s k.f.a2 k.f.ms.length k.f.c2):=h.cell Hd;generalize Rf.all (Cw k.f.l) (k.f.l.map Prod.fst) c=Q at *;have HT:=Bc (fun (A:TW) V Y (hb:Bl w A) (F:TyR A (.s V Q.length Y) Q)=>Bbv k M X o lv sv r (s++[(2,(n:Int))]) t Q V Y A hf (h.below hb) hM (by rw[N];simp) hr K F a4 a5);have b1:(s++[(2,(n:Int))]).length<=1000:=by rw[N]at K;simp at K ⊢;omega
 have HA:=Bc hA;clear h hA D a4 a5 hM N;go_in;go_wp2_with fail;refine(Ba HA).mono ?_;rintro e w1 ⟨V,Y,rfl,F,a6⟩;have hT:=Ba HT _ _ _ a6 (TyR.of_tys F);have a7:=Bc hT;clear HT HA F a6 c0 c1 hT;go_wp2_with fail;refine(Ba a7).mono ?_;rintro e w2 ⟨va,vc,b2,rfl,h2⟩;have hO:=Tf k _ _ ⟨o.m,o.p,o.lo,s++[(2,(n:Int))]⟩ lv b2 r s [(2,(n:Int))] w2 h2 rfl rfl hr b1;have HO:=Bc hO;clear a7 h2 hO;go_wp2_with fail;refine(Ba HO).mono ?_;rintro e G ⟨oa,oc,b3,rfl,b,-⟩;have b6:=b.cell (j:=15) Hd;obtain⟨go,rfl,_,x0,x1⟩:=Pq b rfl (q:=0) Fr;obtain⟨g,Z,b7,a0,a8⟩:=Sl b (n:=n) z;have I:(M.ts[n]'z)=(⟨(c:Int),false,a3⟩,J):=O;have c8:G.C k.B 8 (.s M.ta M.ts.length M.tc):=b.cell Hd;have a9:M.ta=some ⟨g,0,none⟩:=Z;rw[a9]at c8;have t0:G.C g (n*3) (.i (c:Int)):=a0 0 _ (by show (Iy M.ts[n])[0]?=_;rw[I];rfl);have t1:G.C g (n*3+1) (.bool false):=a0 1 _ (by show (Iy M.ts[n])[1]?=_;rw[I];rfl);have f1:=a8 (n*3+1);obtain⟨d8,d2,df,h4⟩:=Brz b Z z O;have b4:∃a m c,J=.s a m c:=by
  have:=Bg (Pr b (n:=n) z);obtain⟨a,c',e⟩:=this;have e':(M.ts[n]'z).2=.s a _ c':=e;rw[I]at e';exact⟨a,_,c',e'⟩
 obtain⟨b8,b9,c3,rfl⟩:=b4;have H4:=Bc h4;have c4:(G.setCell (.a g (n*3+1)) (.bool true)).C k.B 8 (.s (.p g) M.ts.length M.tc):=d8;have k0:(n:Int)<(M.ts.length:Int):=Bd;have k1:¬(n:Int)<1:=Bd;clear b h4 a0 a8 Z a9 O I HO d8;simp only[Bxt,Bwh,Bvp]at x0 x1;generalize M.ts.length=L at *;go_wp2;go_end0;exact⟨rfl,b3,_,Ba H4⟩
def Bmp(ty:TypeId){f dCap K m c:Nat}{l:TA}{G:Array Value}{a:TP}(i:w.heap[u]?=some (.cells G 240 (0,0)))(F:G.size=f*2)(j:m=a.length)(I:m<=f) (q:w.ownsRow K 240 2 (.s l m c) m (Bu a)):(Builtin.copy_ #[116,116] ty #[.s (.p u) f dCap,.s l m c]).run prog w=.ok (goInt m) (w.setRow u (Bu a++G.toList.drop (m*2)).toArray):=by
 obtain⟨J,t,L,v,N⟩:=Bv4 Tryz.infoVal;have z:=By0;have h:(Bu a).length=m*2:=by rw[Kc,j]
 have B:min m f=m:=Bd;have C:=run_storeCells_at prog u 0 240 (Bu a) 0 G w i (by rw[h];omega) (Va a);rcases q.2 with ⟨e,O⟩|⟨D,Q,V,e,_,Y,_,_,_,Z⟩
 ·simp only[Value.slice.injEq]at e;obtain⟨rfl,rfl,rfl⟩:=e;obtain rfl:=Bwc j.symm;simp[Builtin.copy_,run_underlying z,Builtin.lenOf,Builtin.firstCells,sizeOf,typeInfo,t,v,storeCells,Bu,setRow_self w u G _ (0,0) i]
 simp only[Value.slice.injEq]at e;obtain⟨rfl,-,rfl⟩:=e;have A:=run_loadCells_list (P:=prog) w ⟨D,0,none⟩ (Bu a) (World.ownsRow.cells q rfl);rw[h]at A;simp[Builtin.copy_,run_underlying z,Builtin.lenOf,Builtin.firstCells,sizeOf,typeInfo,t,v,B,A,C,h]
def Bo7{i:Array Oper}{j:List Oper}{o:Oper}{a:Act}{Q:Exit->Act->TW->Prop}(v:o.guard=none)(d e:Operand)(z:o.op=.call { callee:=.builtin .copy,args:=#[d,e],argTypes:=#[116,116] }) {s dCap K m c:Nat}{l:TA}(A:a.eval d=.s (.p u) s dCap)(B:a.eval e=.s l m c){G:Array Value}(C:w.heap[u]?=some (.cells G 240 (0,0)))(D:G.size=s*2)(F:m=q.length)(I:m<=s)(J:w.ownsRow K 240 2 (.s l m c) m (Bu q)) (h:∀t,Hid (t=w.setRow u (Bu q++G.toList.drop (m*2)).toArray)->wpList prog i Q j (a.put o.dst (goInt m)) t):wpList prog i Q (o::j) a w:=by
 refine wpList_plain v fun f L=>?_;have N:=Bmp o.type C D F I J (dCap:=dCap);unfold Oper.wp;simp[execOp,z,resolve,invoke,builtin,A,B,N,Result.andThen];exact L _ _ (h _ (Bc rfl))
def Bql(n:Nat):(madeCells #[Value.int .i64 0,.i 0] (n*2)).toList=Bu (List.replicate n (0,0)):=by
 apply Bzy;intro j;by_cases b:j<n*2
 ·obtain⟨c,e,_⟩:=Gc (List.replicate n ((0:Int),(0:Int))) (j/2) Fm;rcases Nat.mod_two_eq_zero_or_one j with h|h
  ·rw[show j/2*2=j by omega]at c;rw[c];simp[madeCells,b,h]
  rw[show j/2*2+1=j by omega]at e;rw[e];simp[madeCells,b,h]
 rw[Bwz (by simp[madeCells];omega),Bwz (by rw[Kc];simp;omega)]
def Tryz.infoOpen:(prog.info? 171).map (fun i=>(i.zero,i.size,i.bytes))=some (some (.agg #[.i 0,.i 0,.s none 0 0,.s none 0 0]),4,64):=Le
def Br.open(M:Br)(x:Ca × Value × Value)(oa:TA)(oc:Nat):Br:=⟨x::M.os,M.ts,M.made,M.read,M.out,M.steps,M.status,M.value,oa,oc,M.ta,M.tc,M.xa,M.xc⟩
def Brx{k:Db}{M:Br}{w9:TW}{n:Nat}{lv:TX}{oa:TA}{oc:Nat}(h:Own k.w0 (Dc lv q::(M.rows k++X)) w)(m:w9.ownsRow k.w0.heap.size 171 4 (.s oa (M.os.length+1) oc) (M.os.length+1) (M.os.reverse.flatMap Fx++[.i (n:Int),.i 0,lv,.s none 0 0])) (p:w.grownBy w9 (Value.slice M.oa M.os.length M.oc).ownBlock)(t:(Value.slice oa (M.os.length+1) oc).ownBlock=(Value.slice M.oa M.os.length M.oc).ownBlock\/(Value.slice oa (M.os.length+1) oc).ownBlock=some w.heap.size):w9.C k.B 7 (.s M.oa M.os.length M.oc)/\w9.frozen? (.a k.B 7)=false/\Bm k (M.open (⟨n,0,q,[]⟩,lv,.s none 0 0) oa oc) X (w9.setCell (.a k.B 7) (.s oa (M.os.length+1) oc)):=by
 obtain⟨g,F,G,I,J,K,L,N,O,Q,V,Y,Z,xc⟩:=M;simp only at m p t h ⊢;have l:=Own.app (i:=2) h Hd m p t;have z:=Own.cell (i:=1) l Hd 7 (.s oa (g.length+1) oc);have v:=Own.add_nil z 240 2;refine⟨Own.see (i:=1) (j:=7) l Hd Hd,Own.free (i:=1) l Hd 7,?_⟩;unfold Bm Br.open Br.rows;unfold Br.rows at v;simp only[Bwj,Lc,Dc,Bxj,Bwl,Bz9,Bxl,Bvo];have A:∀{a b c d e f:Rw}{R:List Rw},Own k.w0 (a::b::c::d::e::f::R) (w9.setCell (.a k.B 7) (.s oa (g.length+1) oc))->Own k.w0 (c::d::e::f::b::a::R) (w9.setCell (.a k.B 7) (.s oa (g.length+1) oc)):=fun {a b c d e f R} D=>D.perm (by
  refine(List.Perm.swap b a _).trans ?_;exact(List.perm_append_comm_assoc [b,a] [c,d,e,f] R))
 exact A v
theorem Zr(k:Db)(M:Br)(X:List Rw)(n b:Nat)(a:List (Int×Int))(s:Option Addr)(vc:Nat)(w:World)(hf:k.f.ok k.w0)(h:Bm k M (Dc (.slice s a.length vc) a::X) w)(N:n<k.f.ms.length)(O:k.f.ms[n].1.m.locals=(b:Int))(b3:a.length<=b)(d0:b<=1000)(d1:M.os.length<=1000):Calls prog 61 #[.pointer (some ⟨k.B,0,none⟩),.int .i64 (n:Int),.slice s a.length vc] w fun e C=>e=.returned (.tuple #[])/\∃lv oa oc,Bm k (M.open (⟨n,0,a++List.replicate (b-a.length) (0,0),[]⟩,lv,.slice none 0 0) oa oc) (Dc (.slice s a.length vc) a::X) C:=by
 obtain⟨i0,hi,b4,b5,b6⟩:=Bv4 Tryz.infoVal;obtain⟨i1,ji,b7,b8,b9⟩:=Bv4 Tryz.infoOpen;obtain⟨m,g,Q,d2,V,Y⟩:=RFl.mth (h.fok hf) N;have Z:m.lo=(b:Int):=by rw[Y.lo,O]
 have c1:w.cell? ⟨k.B,1,none⟩=some (.slice (some ⟨g,0,none⟩) k.f.ms.length k.f.c2):=by rw[<- Q];exact h.cell Hd
 have c7:w.cell? ⟨k.B,7,none⟩=some (.slice M.oa M.os.length M.oc):=h.cell Hd;have lB:=h.ltB;have d3:=h.low.size;obtain⟨cl,nm,pa,pl,pc,r1,r2,d4,st,c0,ha,hl,hc,ma,ml,mc,c6,c8⟩:=m;simp only at Z;subst Z;obtain⟨y0,y1,y2,y3,y4,y5,y6,y7,y8,y9,ya,yb⟩:=Ua V;simp only at y0 y1 y2 y3 y4 y5 y6 y7 y8 y9 ya yb;have ni:(n:Int)<(k.f.ms.length:Int):=Bd;have D:=Bc h;clear V Y Q h O N;go_in;go_wp2_with (refine wpList_make_full _ rfl _ _ 116 rfl k.w0.heap.size 240 i0 _ 2 By0 hi b4 b5 .i64 .i64 _ _ b rfl rfl ?c1 ?c2 ?c3 ?c4 ?c5 ?_)
 case c1=>rfl
 case c2=>rfl
 case c3=>rw[b6];omega
 case c4=>unfold maxLen;omega
 case c5=>simp;omega
 intro i a0 q;have a1:Below w.heap.size w (w.alloc (O12 cl nm pa pl pc r1 r2 (b:Int) st c0 ha hl hc ma ml mc c6 c8)):=QN _;have l:Below w.heap.size w i:=a1.trans ⟨q.os,q.tape,q.output,q.size,fun j hj=>q.block j Fm Fr⟩;obtain⟨c,a2,a3,a4⟩:∃c:Array Value,i.heap[w.heap.size+1]?=some (.cells c 240 (0,0))/\c.size=b*2/\c.toList=(madeCells #[.int .i64 0,.int .i64 0] (b*2)).toList:=by
  obtain⟨q1,⟨q2,_⟩|⟨g',d5,c,q3,_,q5,_,_,q8,q9⟩⟩:=a0
  ·simp at q2
  simp only[Value.slice.injEq,Option.some.injEq,Addr.mk.injEq,Bwb,Byl]at q3;obtain⟨rfl,rfl⟩:=q3;exact⟨c,q5,q8,by rw[<- q9,Bv0 Fm]⟩
 have a5:i.ownsRow k.w0.heap.size 240 2 (.slice s a.length vc) a.length (Bu a):=((Ba D).below l).row (Dc (.slice s a.length vc) a) Fr;have a6:=Bc l;have v:=Bc (Bxh a4 a2);have a7:=Bc a3;have a8:=Bc a5;have d7:=(l.cell (p:=⟨k.B,7,none⟩) lB).trans c7;clear a0 q a1 l a4 a5 y0 y1 y2 y3 y4 y5 y6 y7 y8 y9 ya yb c1 c7 a2 a3;go_wp2_with (refine Bo7 rfl _ _ rfl rfl rfl (Ba v).2 (Ba a7) rfl b3 (Ba a8) ?_)
 intro w2 a9;have b0:=Ba a9;clear a9;have z:=Ba D;have l:=Ba a6;have t:Below w.heap.size w (i.setRow (w.heap.size+1) (Bu a++c.toList.drop (a.length*2)).toArray):=below_setRow l Bd _;have b1:(i.setRow (w.heap.size+1) (Bu a++c.toList.drop (a.length*2)).toArray).ownsRow w.heap.size 240 2 (.slice (some ⟨w.heap.size+1,0,none⟩) b b) b (Bu (a++List.replicate (b-a.length) (0,0))):=by
  have e:Bu a++c.toList.drop (a.length*2)=Bu (a++List.replicate (b-a.length) (0,0)):=by
   rw[(Ba v).1,Bql,<- Bhx,List.drop_replicate,Ml]
  rw[e];have F:(Bu (a++List.replicate (b-a.length) (0,0))).length=b*2:=by rw[Kc];simp;omega
  exact⟨F,.inr ⟨w.heap.size+1,b,_,rfl,Bd,B05 i _ _ _ _ _ (Ba v).2,Wf _,Mc,by simpa using F,by rw[Bv0 (by rw[F];exact Wf _)]⟩⟩
 have G:=Own.add_new (r:=Dc (.slice (some ⟨w.heap.size+1,0,none⟩) (a++List.replicate (b-a.length) (0,0)).length b) (a++List.replicate (b-a.length) (0,0))) z t (by
  have e3:(a++List.replicate (b-a.length) ((0:Int),(0:Int))).length=b:=Fm;unfold Dc;rw[e3];exact b1)
 rw[show (a++List.replicate (b-a.length) ((0:Int),(0:Int))).length=b by simp;omega]at G;have e7:(i.setRow (w.heap.size+1) (Bu a++c.toList.drop (a.length*2)).toArray).cell? ⟨k.B,7,none⟩=some (.slice M.oa M.os.length M.oc):=(z.below t).cell Hd;have I:=(z.below t).orow;have c9:=t.size;have J:=Bc (fun (C w9:World) oa oc (hb:Below _ _ C) ho hk A=>Brx (n:=n) (w9:=w9) (oa:=oa) (oc:=oc) (G.below hb) ho hk A);clear D a6 v a7 a8 z l b1 G t d7;rw[<- b0]at e7 I c9 J;clear b0;generalize hL:M.os.length=L at *;go_wp2_with (at_builtin;refine Bxg _ rfl _ _ 112 rfl k.w0.heap.size 171 i1 _ 4 64 underlying112 ji b7 b8 b9 rfl Ck _ _ _ rfl (I.alloc _) ⟨w2.heap.size,0,none⟩ 1 1 [.int .i64 (n:Int),.int .i64 0,.slice (some ⟨w.heap.size+1,0,none⟩) b b,.slice none 0 0] rfl rfl ?c1 ?c2 ?c3 ?c4 ?c5 ?_)
 case c1=>exact Dv _ _ _ _ rfl
 case c2=>intro u hu;simp at hu;rcases hu with rfl|rfl|rfl|rfl<;>rfl
 case c3=>unfold maxLen;omega
 case c4=>omega
 case c5=>simp;omega
 intro v' w3 K b2 _ A;obtain⟨oa,oc,rfl⟩:=Bg K;obtain⟨f7,f8,h3⟩:=Ba J _ _ _ _ (QN _) K b2 (by simpa using A);have H3:=Bc h3;clear J K b2 A h3 I e7;go_wp2;go_end0;exact⟨rfl,_,oa,oc,Ba H3⟩
abbrev Sg(v:Value)(l:List Rf.Fld):Rw:=⟨235,4,v,l.length,Nd l⟩
theorem Bma{k:Db}{M b:Br}{w:World}{s j K yc n t q:Nat}{F:List Rf.Fld}(h:Bm k b (Sg (.slice (some ⟨u,0,none⟩) F.length s) F::X) w)(c:b.ts=M.ts)(e:b.ta=M.ta)(g:b.tc=M.tc)(A:n<F.length)(i:t<M.ts.length)(l:M.ta=some ⟨j,0,none⟩)(m:M.ts[t].2=.slice (some ⟨K,0,none⟩) M.ts[t].1.vals.length yc)(C:q<M.ts[t].1.vals.length):w.cell? ⟨u,n*4+1,none⟩=some (.int .i64 F[n].slot)/\w.cell? ⟨k.B,8,none⟩=some (.slice (some ⟨j,0,none⟩) M.ts.length M.tc)/\w.cell? ⟨j,t*3+2,none⟩=some (.slice (some ⟨K,0,none⟩) M.ts[t].1.vals.length yc)/\w.cell? ⟨K,q*2,none⟩=some (.int .i64 M.ts[t].1.vals[q].1)/\w.cell? ⟨K,q*2+1,none⟩=some (.int .i64 M.ts[t].1.vals[q].2):=by
 obtain⟨O,Q,V,Y,Z,a0,a1,a2,oa,oc,ta,tc,xa,xc⟩:=b;simp only at c e g;subst c e g;have D:=h.row (Sg (.slice (some ⟨u,0,none⟩) F.length s) F) Fr;obtain⟨a3,p,_,_,G⟩:=Cf D (by show 0<F.length;omega);simp only[Option.some.injEq,Addr.mk.injEq,Bwb]at p;subst p;obtain⟨a4,I,_,J,_⟩:=Sl h i;have v:=l.symm.trans I;simp only[Option.some.injEq,Addr.mk.injEq,Bwb]at v;subst v;obtain⟨c,e⟩:=Im F n A 1 Bd;have f:=Pr h i;simp only at f;rw[m]at f;obtain⟨a5,z,_,L,N⟩:=Om f C;simp only[Option.some.injEq,Addr.mk.injEq,Bwb]at z;subst z;refine⟨(G _ e).trans c,?_,?_,L,N⟩
 ·rw[<- l];exact h.cell Hd
 rw[<- m];exact J 2 _ rfl
def Bpd(k:Db)(M:Br)(X:List Rw)(o:Ca)(lv sv:TX)(r:List (Ca×Value×Value))(n t q:Nat)(a:TP)(A:TA)(vc:Nat)(w:TW)(Z:k.f.ok k.w0)(h:Bm k M (Dc (.s A a.length vc) a::X) w)(hM:M.os=(o,lv,sv)::r)(hr:r.length<=1000)(hs:o.st.length<=1000)(hm:o.m<k.f.ms.length)(hl:(o.st.length:Int)<k.f.ms[o.m].1.m.stack) (ha:0<a.length)(a0:a[0].2=(t:Int))(g:t<M.ts.length)(hn:n<k.f.fields.length)(hq:k.f.fields[n].slot=(q:Int))(D:q<M.ts[t].1.vals.length):Calls prog 203 #[.q k.B 0,.i 17,.i (n:Int),.s A a.length vc] w fun e b=>e=.r (.tuple #[])/\∃a4,Bm k (M.put ((⟨o.m,o.p,o.lo,o.st++[M.ts[t].1.vals[q]]⟩,lv,a4)::r)) (Dc (.s A a.length vc) a::X) b:=by
 have c:=h.fok Z;have hF:=Uc k.f.a1 k.f.a2 k.f.c1 k.f.ms.length k.f.c2 k.f.bb k.f.l w c.1 c.2.1 c.2.2.2.1 c.2.2.2.2.1;have eF:Rf.fieldsTo (Cw k.f.l) (k.f.l.map Prod.fst) (k.f.l.length-7)=k.f.fields:=rfl;rw[eF]at hF;have c0:w.C k.B 0 (.s k.f.a1 k.f.l.length k.f.c1):=h.cell Hd;have c1:w.C k.B 1 (.s k.f.a2 k.f.ms.length k.f.c2):=h.cell Hd;generalize k.f.fields=F at *;obtain⟨ga,rfl,a5,-,G⟩:=Pq h rfl ha;rw[a0,Bwh,Bvp]at G;obtain⟨ya,yc,I⟩:=Bg (Pr h g);obtain⟨J,a6,_,_,_⟩:=Om (by have:=Pr h g;rw[I]at this;exact this) D;subst a6;obtain⟨gt,a3,_,_,_⟩:=Sl h g;have j:=Bc (fun (M1:Br) K fc (Y:List Rw) (b:TW) (L:Bm k M1 (Sg (.s (.p K) F.length fc) F::Y) b) e1 e2 e3=>Bma (M:=M) L e1 e2 e3 hn g a3 I D);have HA:=Bc (fun (b:TW) (v:TX) (hb:Bl w b) (ho:b.ownsRow w.heap.size 235 4 v F.length (Nd F))=>Own.mid (Own.add_new (r:=Sg v F) h hb ho));have HP:=Bc (fun (Y:List Rw) (b:TW) (L:Bm k M Y b)=>Ju k M Y o lv sv r M.ts[t].1.vals[q].1 M.ts[t].1.vals[q].2 b Z L hM hm hl hr hs);have a9:(n:Int)<(F.length:Int):=Bd;have b0:(t:Int)<(M.ts.length:Int):=Bd;have b1:(q:Int)<(M.ts[t].1.vals.length:Int):=Bd;rw[hq]at j;have HF:=Bc hF;have a7:0<F.length:=Bd;generalize M.ts[t].1.vals[q]=z at *;clear hF c eF h a3 a0 hm hl hr hs hn hq hM;generalize M.ts[t].1.vals.length=yn at *;clear I;clear D;obtain⟨z1,z2⟩:=z;go_in;go_wp2_with fail;refine(Ba HF).mono ?_;rintro e w1 ⟨fa,fc,rfl,N,O⟩;obtain⟨K,rfl,-⟩:=Cf N a7;have Q:=Ba HA _ _ O N;have x2:=(O.cell (p:=.a ga 1) a5).trans G;obtain⟨s1,s2,s3,s4,s5⟩:=Ba j _ _ _ _ _ Q rfl rfl rfl;have HC:=Bc (Ba HP _ _ (Own.drew Q));clear HF HA HP N O G c0 c1 Q;go_wp2_with fail
 go_region_held3 (fun b=>b.C K (n*4+1) (.i (q:Int))/\b.C k.B 8 (.s (.p gt) M.ts.length M.tc)/\b.C gt (t*3+2) (.s (.p J) yn yc)/\b.C J (q*2) (.i z1)/\b.C J (q*2+1) (.i z2))
  (first|exact⟨s1,s2,s3,s4,s5⟩|exact Ba j _ _ _ _ _ V rfl rfl rfl)
  (first|(go_at_call 147;refine(Ba HC).mono ?_;rintro e w7 ⟨rfl,a8,V⟩))
 clear s1 s2 s3 s4 s5 HC j;have H7:=Bc (Own.unmid V);clear V;go_wp2;go_end0;exact⟨rfl,a8,Own.sub (Ba H7) (Bw4 _ _)⟩
def Wa{α β:Type}(f:α->List β):∀(l:List α) (n:Nat) (b:n<l.length) (x:α),f x=f l[n]->(l.set n x).flatMap f=l.flatMap f
 | [],_,b,_,_=>by simp at b
 | y::r,0,_,x,h=>by simp at h;simp[h]
 | y::r,n+1,b,x,h=>by simp only[Bwf,Bwj];rw[Wa f r n (by simpa using b) x (by simpa using h)]
def Bpa{k:Db}{M:Br}(b:u<M.ts.length):(M.rows k++X)[4+(M.os.flatMap Lc).length+u]?=some (Kx M.ts[u]):=by
 unfold Br.rows;rw[show 4+(M.os.flatMap Lc).length+u=((M.os.flatMap Lc).length+u)+1+1+1+1 by omega];simp only[Bws,Bwi];rw[Bwe,Bvt Bd,Bxr,Bvy (by simpa using b),Bv8,Ws b];rfl
def Bl4{k:Db}{M:Br}(b:u<M.ts.length)(l:TP):(M.rows k++X).set (4+(M.os.flatMap Lc).length+u) (Dc M.ts[u].2 l)=(M.withTs (M.ts.set u (⟨M.ts[u].1.cl,M.ts[u].1.set,l⟩,M.ts[u].2))).rows k++X:=by
 unfold Br.rows Br.withTs Br.cells;rw[show 4+(M.os.flatMap Lc).length+u=((M.os.flatMap Lc).length+u)+1+1+1+1 by omega];simp only[Bws,Bwf,Bv7];rw[Wa Iy M.ts u b (⟨M.ts[u].1.cl,M.ts[u].1.set,l⟩,M.ts[u].2) rfl,Bwe,Bw1 _ _ Bd,Bxr,Bx7 _ _ (by simpa using b),<- Bwe];simp[Kx]
def Btn{k:Db}{M:Br}{b yc:Nat}(h:Bm k M X w)(c:u<M.ts.length)(e:M.ts[u].2=.s (.p b) M.ts[u].1.vals.length yc)(j:Nat):w.frozen? (.a b j)=false:=by
 have:=Pr h c;rw[e]at this;exact World.ownsRow.frozenAt this j
def Brv{k:Db}{M:Br}{q j yc:Nat}(h:Bm k M X w)(g:u<M.ts.length)(l:M.ts[u].2=.s (.p j) M.ts[u].1.vals.length yc)(b c:Int):Bm k (M.withTs (M.ts.set u (⟨M.ts[u].1.cl,M.ts[u].1.set,M.ts[u].1.vals.set q (b,c)⟩,M.ts[u].2))) X ((w.setCell (.a j (q*2)) (.i b)).setCell (.a j (q*2+1)) (.i c)):=by
 have f:=Bpa (k:=k) (X:=X) g;unfold Kx Dc at f;rw[l]at f;have v:=Own.cell h f (q*2) (.i b);have m:=Own.cellE v (Bx2 (List.getElem?_eq_some_iff.1 f).1) (Ym M.ts[u].1.vals q b c).symm;rw[Bzf]at m;have e:=Bl4 (k:=k) (X:=X) g (M.ts[u].1.vals.set q (b,c));unfold Bm;rw[<- e];unfold Dc;rw[l,Bv7];exact m
theorem Bl5{k:Db}{M1:Br}{w:World}{s gt n t b vc L tc:Nat}{F:List Rf.Fld}{y:Value}{a:List (Int×Int)}(h:Bm k M1 (Sg (.slice (some ⟨u,0,none⟩) F.length s) F::Dc (.slice (some ⟨b,0,none⟩) a.length vc) a::X) w)(i:n<F.length)(j:1<a.length)(l:M1.ts.length=L)(c:M1.ta=some ⟨gt,0,none⟩)(m:M1.tc=tc)(p:t<M1.ts.length)(q:M1.ts[t].2=y):w.cell? ⟨u,n*4+1,none⟩=some (.int .i64 F[n].slot)/\w.cell? ⟨k.B,8,none⟩=some (.slice (some ⟨gt,0,none⟩) L tc)/\w.cell? ⟨gt,t*3+2,none⟩=some y/\w.cell? ⟨b,2,none⟩=some (.int .i64 a[1].1)/\w.cell? ⟨b,3,none⟩=some (.int .i64 a[1].2):=by
 have v:=h.row (Sg (.slice (some ⟨u,0,none⟩) F.length s) F) Fr;obtain⟨K,e,_,_,z⟩:=Cf v (by show 0<F.length;omega);simp only[Option.some.injEq,Addr.mk.injEq,Bwb]at e;subst e;obtain⟨N,A,_,C,_⟩:=Sl h p;have f:=c.symm.trans A;simp only[Option.some.injEq,Addr.mk.injEq,Bwb]at f;subst f;obtain⟨D,G⟩:=Im F n i 1 Bd;obtain⟨O,g,_,I,J⟩:=Om (h.row (Dc (.slice (some ⟨b,0,none⟩) a.length vc) a) Fr) j;simp only[Option.some.injEq,Addr.mk.injEq,Bwb]at g;subst g;refine⟨(z _ G).trans D,?_,?_,I,J⟩
 ·rw[<- l,<- c,<- m];exact h.cell Hd
 rw[<- q];exact C 2 _ rfl
def Bpb(k:Db)(M:Br)(X:List Rw)(n t q:Nat)(a:TP)(I:TA)(vc:Nat)(w:TW)(hf:k.f.ok k.w0)(h:Bm k M (Dc (.s I a.length vc) a::X) w) (ha:1<a.length)(a0:a[0].2=(t:Int))(c:t<M.ts.length)(hn:n<k.f.fields.length)(hq:k.f.fields[n].slot=(q:Int))(J:q<M.ts[t].1.vals.length):Calls prog 203 #[.q k.B 0,.i 18,.i (n:Int),.s I a.length vc] w fun e b=>e=.r (.tuple #[])/\Bm k (M.withTs (M.ts.set t (⟨M.ts[t].1.cl,M.ts[t].1.set,M.ts[t].1.vals.set q a[1]⟩,M.ts[t].2))) (Dc (.s I a.length vc) a::X) b:=by
 have m:=h.fok hf;have hF:=Uc k.f.a1 k.f.a2 k.f.c1 k.f.ms.length k.f.c2 k.f.bb k.f.l w m.1 m.2.1 m.2.2.2.1 m.2.2.2.2.1;have eF:Rf.fieldsTo (Cw k.f.l) (k.f.l.map Prod.fst) (k.f.l.length-7)=k.f.fields:=rfl;rw[eF]at hF;have c0:w.C k.B 0 (.s k.f.a1 k.f.l.length k.f.c1):=h.cell Hd;have c1:w.C k.B 1 (.s k.f.a2 k.f.ms.length k.f.c2):=h.cell Hd;generalize k.f.fields=F at *;obtain⟨A,rfl,a5,-,K⟩:=Pq h rfl (show 0<a.length by omega);rw[a0,Bwh,Bvp]at K;obtain⟨ya,yc,g⟩:=Bg (Pr h c);obtain⟨gy,a6,-,-,-⟩:=Om (by have:=Pr h c;rw[g]at this;exact this) J;subst a6;obtain⟨gt,a3,-,-,-⟩:=Sl h c;have D:=Bc (fun (M1:Br) N fc (Y:List Rw) (b:TW) (j:Bm k M1 (Sg (.s (.p N) F.length fc) F::Dc (.s (.p A) a.length vc) a::Y) b) (e1:M1.ts.length=M.ts.length) (e2:M1.ta=some ⟨gt,0,none⟩) (e3:M1.tc=M.tc) (hl:t<M1.ts.length) (e4:M1.ts[t].2=M.ts[t].2)=>Bl5 (M1:=M1) (L:=M.ts.length) (tc:=M.tc) (t:=t) (gt:=gt) (y:=M.ts[t].2) j hn ha e1 e2 e3 hl e4);have HZ:=Bc (fun (Y:List Rw) (b:TW) (j:Bm k M Y b)=>Bxh (Btn j c g) (Om (by have:=Pr j c;rw[g]at this;exact this) J));have HA:=Bc (fun (b:TW) (v:TX) (hb:Bl w b) (ho:b.ownsRow w.heap.size 235 4 v F.length (Nd F))=>Own.mid (Own.add_new (r:=Sg v F) h hb ho));have HP:=Bc (fun (Y:List Rw) (b:TW) (j:Bm k M Y b)=>Brv (q:=q) j c g a[1].1 a[1].2);have a8:(n:Int)<(F.length:Int):=Bd;have a9:(t:Int)<(M.ts.length:Int):=Bd;have b0:(q:Int)<(M.ts[t].1.vals.length:Int):=Bd;rw[hq,g]at D;have HF:=Bc hF;have a7:0<F.length:=Bd;have b1:0<a.length:=Bd;have b2:(1:Int)<(a.length:Int):=Bd;have O:=Bc a3;have Q:=Bc (fun (_:Unit)=>g);have HT:=Bc c;clear hF m eF h a0 a3 g;generalize a[1]=z at *;obtain⟨v1,v2⟩:=z;go_in;go_wp2_with fail;refine(Ba HF).mono ?_;rintro e w1 ⟨fa,fc,rfl,V,Z⟩;obtain⟨N,rfl,-⟩:=Cf V a7;have G:=Ba HA _ _ Z V;have x2:w1.C A 1 (.i (t:Int)):=QC Z a5 K;have s:=Ba D M _ _ _ _ G rfl (Ba O) rfl c (Ba Q ());obtain⟨s1,s2,s3,s4,s5⟩:=s;obtain⟨fz,b3,a4,_,z0,z1⟩:=Ba HZ _ _ G;simp only[Option.some.injEq,Addr.mk.injEq,Bwb]at a4;subst a4;have h2:=Ba HP _ _ (Own.drew G);have p:=Ba D _ _ _ _ _ h2 (by simp[Br.withTs]) (Ba O) rfl (by simpa[Br.withTs] using c) (by simp[Br.withTs];exact Ba Q ());obtain⟨p1,p2,p3,p4,p5⟩:=p;have H2:=Bc (Own.sub (Own.unmid h2) (Bw4 _ _));clear HF HA HP D HZ O Q HT V Z K c0 c1 G h2;generalize M.ts[t].1.vals[q]=b4 at *;clear J hn hq;generalize M.ts[t].1.vals.length=yn at *;go_wp2_with fail
 go_region_held3 (fun b=>b.C N (n*4+1) (.i (q:Int))/\b.C k.B 8 (.s (.p gt) M.ts.length M.tc)/\b.C gt (t*3+2) (.s (.p gy) yn yc)/\b.C A 2 (.i v1)/\b.C A 3 (.i v2))
  (first|exact⟨s1,s2,s3,s4,s5⟩|exact⟨p1,p2,p3,p4,p5⟩)
  (fail)
 clear s1 s2 s3 s4 s5 p1 p2 p3 p4 p5 z0 z1;go_wp2;refine Bwy (Bw9 rfl _ _ _) rfl ?_;exact⟨rfl,Ba H2⟩
def Br3(v:Int):-4294967296<v.tmod 4294967296/\v.tmod 4294967296<4294967296:=by
 have b:=Int.tmod_lt_of_pos v (show (0:Int)<4294967296 by decide);have c:=Int.lt_tmod_of_pos v (show (0:Int)<4294967296 by decide);exact⟨c,b⟩
def T5(v:Int)(w:TW):Calls prog 254 #[.i v] w fun e f=>e=.r (.i (Jv v))/\f=w:=by
 obtain⟨h,j⟩:=Br3 v;unfold Jv;have l:IntKind.i64.wrap (v.tmod 4294967296)=v.tmod 4294967296:=Eg _ Bd Bd;by_cases b:2147483647<v.tmod 4294967296;·rw[Sp b];have g:IntKind.i64.wrap (v.tmod 4294967296-4294967296)=v.tmod 4294967296-4294967296:=Eg _ Bd Bd;go_in;go_wp2;go_ret;exact⟨rfl,rfl⟩
 rw[Pf b];by_cases c:v.tmod 4294967296 < -2147483648;·rw[Sp c];have g:IntKind.i64.wrap (v.tmod 4294967296+4294967296)=v.tmod 4294967296+4294967296:=Eg _ Bd Bd;go_in;go_wp2;go_ret;exact⟨rfl,rfl⟩
 rw[Pf c];go_in;go_wp2;go_ret;exact⟨rfl,rfl⟩
def Bfa(op a b:Int)(w:TW)(p:-2147483648<=a/\a<=2147483647)(q:-2147483648<=b/\b<=2147483647):Calls prog 202 #[.i op,.i a,.i b] w fun e m=>e=.r (.i (Jl op a b))/\m=w:=by
 unfold Jl;have s:-4611686018427387904<=a*b/\a*b<=4611686018427387904:=by
  have f:a.natAbs*b.natAbs<=2147483648*2147483648:=Nat.mul_le_mul Bd Bd;rw[<- Int.natAbs_mul]at f;omega
 have t:-2147483648<=a.tdiv b/\a.tdiv b<=2147483648:=by
  have f:=Int.natAbs_tdiv_le_natAbs a b;omega
 have v:IntKind.i64.wrap (a+b)=a+b:=Eg _ Bd Bd;have A:IntKind.i64.wrap (a-b)=a-b:=Eg _ Bd Bd;have B:IntKind.i64.wrap (a*b)=a*b:=Eg _ Bd Bd;have C:IntKind.i64.wrap (a.tdiv b)=a.tdiv b:=Eg _ Bd Bd;by_cases f:op=7;·rw[Sp f];subst f;have c:=T5 (a+b) w;generalize Jv (a+b)=z at *;go_in;go_wp2_with fail;refine Qm c ?_;rintro g rfl;go_wp2;go_ret;exact⟨rfl,rfl⟩
 rw[Pf f];by_cases h:op=8;·rw[Sp h];subst h;have c:=T5 (a-b) w;generalize Jv (a-b)=z at *;go_in;go_wp2_with fail;refine Qm c ?_;rintro g rfl;go_wp2;go_ret;exact⟨rfl,rfl⟩
 rw[Pf h];by_cases j:op=9;·rw[Sp j];subst j;have c:=T5 (a*b) w;generalize Jv (a*b)=z at *;go_in;go_wp2_with fail;refine Qm c ?_;rintro g rfl;go_wp2;go_ret;exact⟨rfl,rfl⟩
 rw[Pf j];by_cases l:b=0;·rw[Sp l];subst l;go_in;go_wp2;go_ret;exact⟨rfl,rfl⟩
 rw[Pf l];have c:=T5 (a.tdiv b) w;generalize Jv (a.tdiv b)=z at *;go_in;go_wp2_with fail;refine Qm c ?_;rintro g rfl;go_wp2;go_ret;exact⟨rfl,rfl⟩
def Bc4{k:Db}{M:Br}{x:Ca×Value×Value}{r:List (Ca×Value×Value)}(h:Bm k M X w)(c:M.os=x::r):Bm k (M.put r) X (w.setCell (.a k.B 7) (.s M.oa r.length M.oc)):=by
 obtain⟨l,m,p,q,t,v,z,A,f,g,C,D,F,G⟩:=M;simp only at c;subst c;have j:=Own.cut (i:=1) (n':=r.length) h Hd Fr;have e:((x::r).reverse.flatMap Fx).take (r.length*4)=r.reverse.flatMap Fx:=by
  rw[Bxj,Bwl,Byg (by rw[Sa];exact Wf _),Bv0 (by rw[Sa];exact Wf _)]
 have b:=Own.cell (i:=0) j Hd 7 (.s f r.length g);unfold Br.rows at b;simp only[e]at b;refine Own.sub b ?_;unfold Br.rows Br.put;refine Bw5 _ (Bw5 _ (Bw5 _ (Bw5 _ ?_)));simp only[Bwj,Lc,Bws,Bx4];exact(Bw4 _ _).trans (Bw4 _ _)
def Bts{k:Db}{M:Br}(h:Bm k M X w):M.os.length<=M.oc:=by
 rcases h.orow.2 with ⟨b,c⟩|⟨g,e,f,b,_,_,i,_⟩
 ·omega
 simp only[Value.slice.injEq]at b;omega
def Br.fin(M:Br)(s v:Int):Br:=⟨M.os,M.ts,M.made,M.read,M.out,M.steps,s,v,M.oa,M.oc,M.ta,M.tc,M.xa,M.xc⟩
def Bvd{k:Db}{M:Br}(h:Bm k M X w)(s v:Int):Bm k (M.fin s v) X ((w.setCell (.a k.B 13) (.i s)).setCell (.a k.B 14) (.i v))/\(w.setCell (.a k.B 13) (.i s)).C k.B 14 (.i M.value):=by
 have b:=Own.cell (i:=0) h Hd 13 (.i s);have c:=Own.cell (i:=0) b Hd 14 (.i v);exact⟨c,Own.see (i:=0) (j:=14) b Hd Hd⟩
theorem vx1{k:Db}{M:Br}{w:World}{vc:Nat}{a:List (Int×Int)}(h:Bm k M (Dc (.slice (some ⟨u,0,none⟩) a.length vc) a::X) w)(b:0<a.length):w.cell? ⟨u,1,none⟩=some (.int .i64 (Cg a).2):=by
 obtain⟨f,e,_,_,c⟩:=Pq h rfl (q:=0) b;simp only[Option.some.injEq,Addr.mk.injEq,Bwb]at e;subst e;rw[Bwh,Bvp]at c;rw[c];simp[Cg,Th,b]
def Bj4(k:Db)(M:Br)(X:List Rw)(x:Ca×Value×Value)(m:RMV)(a:TP)(A:TA)(vc:Nat)(w:TW)(h:Bm k M (Dc (.s A a.length vc) a::X) w)(t:M.os=[x])(v:m.r1=1->0<a.length):Calls prog 149 #[.q k.B 0,m.val,.s A a.length vc] w fun e N=>e=.r (.tuple #[])/\Bm k ((M.put []).fin 0 (if m.r1=1 then (Cg a).2 else 0)) (Dc (.s A a.length vc) a::X) N:=by
 obtain⟨Y,Z,pa,pl,pc,D,r2,lo,st,a0,ha,hl,hc,ma,ml,mc,a1,a2⟩:=m;simp only[RMV.val]at v ⊢;obtain⟨g,C,a3,F,-,-,-,-,-⟩:=Jn (o:=x.1) (lv:=x.2.1) (sv:=x.2.2) h t;have G:=h.ltB;have c:=Bc4 h t;rw[C]at c;simp only[Bwn,Bvp]at F c;obtain⟨f,O⟩:=Bvd c 0 0;have b:=fun (u:TW) (z:Obj)=>(Vm u.heap.size u).alloc (Wf _) z;have d7:=fun z=>((b w z).cell (p:=.a k.B 7) G).trans F;have f7:=fun z=>((b w z).frozen (p:=.a k.B 7) G).trans (h.fz 7);have a4:=fun z=>(c.below (b _ z)).cell (j:=13) Hd;have a5:=fun z=>(c.below (b _ z)).fz 13;have I:=c.ltB;have a6:=fun z=>((b ((w.setCell (.a k.B 7) (.s (.p g) 0 M.oc)).setCell (.a k.B 13) (.i 0)) z).cell (p:=.a k.B 14) (by simpa using I)).trans O;have a7:=fun z=>((b ((w.setCell (.a k.B 7) (.s (.p g) 0 M.oc)).setCell (.a k.B 13) (.i 0)) z).frozen (p:=.a k.B 14) (by simpa using I)).trans ((World.frozen?_setCell _ _ _ _).trans (c.fz 14));have J:=Bc (fun z=>f.below (b _ z));by_cases l:D=1;·rw[Sp l];have K:=v l;subst l;obtain⟨ga,rfl,_,-,-⟩:=Pq f rfl (q:=0) K;have x1:∀z,_:=fun z=>(vx1 (f.below (b _ z)) K);generalize (Cg a).2=Q at *;have L:=Own.cell (i:=0) f Hd 14 (.i Q);have V:=Bc (fun z=>Own.below L (b _ z));have l4:=f.ltB;have a8:=fun z=>(f.below (b _ z)).cell (j:=14) Hd;have a9:=fun z=>(f.below (b _ z)).fz 14;clear v h c f t C L J;go_in;go_wp2;refine Bwy (Bw9 rfl _ _ _) rfl ?_;exact⟨rfl,Ba V _⟩
 rw[Pf l];have b0:(D==1)=false:=by simpa using l
 clear l v h c f t C;go_in;go_wp2;refine Bwy (Bw9 rfl _ _ _) rfl ?_;exact⟨rfl,Ba J _⟩
def Vv{k:Db}{M:Br}{o:Ca}{lv sv:TX}{r:List (Ca×Value×Value)}(h:Bm k M X w)(b:M.os=(o,lv,sv)::r)(c:M.oa=some ⟨u,0,none⟩)(p:Nat):Bm k (M.put ((⟨o.m,p,o.lo,o.st⟩,lv,sv)::r)) X (w.setCell (.a u (r.length*4+1)) (.i (p:Int))):=by
 obtain⟨f,j,l,q,s,t,v,z,A,B,C,D,F,G⟩:=M;simp only at b c;subst b c;have e:=Own.cellE (i:=1) h Hd (Ww (o,lv,sv) (⟨o.m,p,o.lo,o.st⟩,lv,sv) r 1 (.i (p:Int)) rfl);exact e
theorem Bmc(k:Db)(M:Br)(X:List Rw)(x:Ca×Value×Value)(q:Ca)(lv sv:Value)(r:List (Ca×Value×Value))(m:RMV)(a:List (Int×Int))(va:Option Addr)(vc:Nat)(w:World)(hf:k.f.ok k.w0)(h:Bm k M (Dc (.slice va a.length vc) a::X) w)(hM:M.os=x::(q,lv,sv)::r)(i0:a.length<=1)(hr:r.length<=1000)(hs:q.st.length<=900)(hm:q.m<k.f.ms.length)(hp:q.p<k.f.ms[q.m].1.m.code.length)(i1:k.f.ms[q.m].1.m.code.length<=1000)(i2:((q.st.length+a.length:Nat):Int)<=k.f.ms[q.m].1.m.stack):Calls prog 149 #[.pointer (some ⟨k.B,0,none⟩),m.val,.slice va a.length vc] w fun e b=>e=.returned (.tuple #[])/\∃f6,Bm k (M.put ((⟨q.m,q.p+Cd.wd (k.f.ms[q.m].1.m.code.getD q.p 0),q.lo,q.st++a⟩,lv,f6)::r)) (Dc (.slice va a.length vc) a::X) b:=by
 obtain⟨K,L,N,O,Q,V,Y,Z,st,a0,ha,hl,hc,ma,ml,mc,a1,a2⟩:=m;simp only[RMV.val];obtain⟨g,hg,i3,c7,-,-,-,-,-⟩:=Jn (o:=x.1) (lv:=x.2.1) (sv:=x.2.2) h hM;have lB:=h.ltB;have A:=Bc4 h hM;rw[hg]at A;have e2:((q,lv,sv)::r).length=r.length+1:=rfl;rw[e2]at c7 A;obtain⟨s,t,f7⟩:∃a c,lv=.slice a q.lo.length c:=Bg (A.lrow rfl);obtain⟨D,F,f8⟩:∃a c,sv=.slice a q.st.length c:=Bg (A.srow rfl);obtain⟨g',f9,J,d7,d0,d1,d2,d3,a7⟩:=Jn A rfl;have eg:=hg.symm.trans (show M.oa=_ from f9);simp only[Option.some.injEq,Addr.mk.injEq,Bwb]at eg;subst eg;obtain⟨ym,l,b5,a8,g0,g1⟩:=RFl.mth (A.fok hf) hm;have a9:Co ym.code=k.f.ms[q.m].1.m.code:=g1.code;have hN:=fun b=>Uq ym q.p b (by rw[<- Jo,a9];exact hp) (by rw[<- Jo,a9];omega);rw[a9]at hN;have b1:(w.setCell ⟨k.B,7,none⟩ (.slice (some ⟨g,0,none⟩) (r.length+1) M.oc)).cell? ⟨k.B,1,none⟩=some (.slice (some ⟨l,0,none⟩) k.f.ms.length k.f.c2):=A.sl b5 Hd;have i4:=((Bm.orow h).lt g (by rw[hg];rfl)).1;have i5:l<k.w0.heap.size:=by
  obtain⟨i6,i7,g2,i8,_⟩:=RFl.mth hf hm;have:=b5.symm.trans g2;simp only[Option.some.injEq,Addr.mk.injEq,Bwb]at this;omega
 obtain⟨b6,b7,b8,b9,c0,c1,c3,c4,c5,c6,c8,c9,d4,d5,d6,d8,d9,f0⟩:=ym;have a4:=Ua g0;simp only[RMV.val]at a4 hN;have G:=Bx (w.setCell ⟨k.B,7,none⟩ (.slice (some ⟨g,0,none⟩) (r.length+1) M.oc)) (O12 K L N O Q V Y Z st a0 ha hl hc ma ml mc a1 a2) (.cells #[.int .i64 (q.m:Int),.int .i64 (q.p:Int),lv,sv] 171);have g3:g≠k.B:=fun e=>by
  have h':=h.nd;unfold Br.rows at h';simp only[Bws,Bzu]at h';exact h'.1 _ (Bv1 ..) k.B rfl (by rw[hg,e];rfl)
 generalize Cd.wd (k.f.ms[q.m].1.m.code.getD q.p 0)=wd at *;subst f7 f8;have HN:=Bc hN;obtain⟨u,hu⟩:∃u,u=w.setCell ⟨k.B,7,none⟩ (.slice (some ⟨g,0,none⟩) (r.length+1) M.oc):=⟨_,rfl⟩;rw[<- hu]at A d7 d0 d1 d2 d3 a7 b1 a4 G J a8;have ba:=fun (u':World) (z:Obj)=>(Vm u'.heap.size u').alloc (Wf _) z;have z7:=fun z=>((ba w z).cell (p:=⟨k.B,7,none⟩) lB).trans c7;have g4:=fun z=>((ba w z).frozen (p:=⟨k.B,7,none⟩) lB).trans (h.fz 7);have l2:=A.ltB;have s7:=fun z=>((ba _ z).cell (p:=⟨k.B,7,none⟩) l2).trans d7;have s0:=fun z=>((ba _ z).cell (p:=⟨g,r.length*4,none⟩) J).trans d0;have s1:=fun z=>((ba _ z).cell (p:=⟨g,r.length*4+1,none⟩) J).trans d1;have s2:=fun z=>((ba _ z).cell (p:=⟨g,r.length*4+2,none⟩) J).trans d2;have s3:=fun z=>((ba _ z).cell (p:=⟨g,r.length*4+3,none⟩) J).trans d3;have i9:IntKind.i64.wrap (((r.length+1+1:Nat):Int)-1)=(r.length:Int)+1:=by rw[show ((r.length+1+1:Nat):Int)-1=(r.length:Int)+1 by omega];exact Eg _ Bd Bd
 have j0:IntKind.i64.wrap ((r.length:Int)+1-1)=(r.length:Int):=by rw[show (r.length:Int)+1-1=(r.length:Int) by omega];exact Eg _ Bd Bd
 have ri:(r.length:Int)<(r.length:Int)+1:=Bd;have j1:IntKind.i64.wrap (r.length:Int)=(r.length:Int):=Eg _ Bd Bd;have r0:(0:Int)<=(r.length:Int):=Bd;have j2:r.length+1+1<=M.oc:=by have:=Bts h;rw[hM]at this;exact this
 have j3:¬M.oc<r.length+1:=Bd;have j4:(r.length:Int)+1<=(M.oc:Int):=Bd;obtain⟨ob,f1⟩:∃ob,ob=w.heap.size+1:=⟨_,rfl⟩;have g5:u.heap.size=w.heap.size:=by rw[hu];simp
 have C:=Bf (u.alloc (O12 K L N O Q V Y Z st a0 ha hl hc ma ml mc a1 a2)) (O36 (q.m:Int) (q.p:Int) s q.lo.length t D q.st.length F);have g6:(u.alloc (O12 K L N O Q V Y Z st a0 ha hl hc ma ml mc a1 a2)).heap.size=ob:=by rw[f1,<- g5];simp
 rw[g6]at C;have hW:Bm k (M.put ((q,.slice s q.lo.length t,.slice D q.st.length F)::r)) (Dc (.slice va a.length vc) a::X) ((u.alloc (O12 K L N O Q V Y Z st a0 ha hl hc ma ml mc a1 a2)).alloc (O36 (q.m:Int) (q.p:Int) s q.lo.length t D q.st.length F)):=A.below G;have b0:=Pk C;have a5:∀b:World,b.heap[k.B]?=u.heap[k.B]?->b.heap[l]?=u.heap[l]?->b.heap[ob]?=some ((O36 (q.m:Int) (q.p:Int) s q.lo.length t D q.st.length F))->b.cell? ⟨k.B,7,none⟩=some (.slice (some ⟨g,0,none⟩) (r.length+1) M.oc)/\b.cell? ⟨k.B,1,none⟩=some (.slice (some ⟨l,0,none⟩) k.f.ms.length k.f.c2)/\b.cell? ⟨ob,0,none⟩=some (.int .i64 (q.m:Int))/\b.cell? ⟨ob,1,none⟩=some (.int .i64 (q.p:Int))/\b.cell? ⟨l,q.m*12,none⟩=some (.int .i64 b6)/\b.cell? ⟨l,q.m*12+1,none⟩=some (.int .i64 b7)/\b.cell? ⟨l,q.m*12+2,none⟩=some (.slice b8 b9 c0)/\b.cell? ⟨l,q.m*12+3,none⟩=some (.int .i64 c1)/\b.cell? ⟨l,q.m*12+4,none⟩=some (.int .i64 c3)/\b.cell? ⟨l,q.m*12+5,none⟩=some (.int .i64 c4)/\b.cell? ⟨l,q.m*12+6,none⟩=some (.int .i64 c5)/\b.cell? ⟨l,q.m*12+7,none⟩=some (.string c6)/\b.cell? ⟨l,q.m*12+8,none⟩=some (.slice c8 c9 d4)/\b.cell? ⟨l,q.m*12+9,none⟩=some (.slice d5 d6 d8)/\b.cell? ⟨l,q.m*12+10,none⟩=some (.int .i64 d9)/\b.cell? ⟨l,q.m*12+11,none⟩=some (.int .i64 f0):=fun b e1 e2 e3=>by
  have q7:=(Bvj (a:=⟨k.B,7,none⟩) e1).trans d7;have q1:=(Bvj (a:=⟨k.B,1,none⟩) e1).trans b1;have qf:∀j,b.cell? ⟨l,j,none⟩=u.cell? ⟨l,j,none⟩:=fun j=>Bvj (a:=⟨l,j,none⟩) e2;refine⟨q7,q1,(Bb e3 0).trans rfl,(Bb e3 1).trans rfl,?_⟩;simp only[qf];exact a4
 have bB:=G.block k.B l2;have bf:=G.block l a8;have g7:g≠ob:=Bd;have g8:g≠l:=Bd;have HW:=Bc hW;have HP:=Bc (fun (b:World) (hb:Below ((u.alloc (O12 K L N O Q V Y Z st a0 ha hl hc ma ml mc a1 a2)).alloc (O36 (q.m:Int) (q.p:Int) s q.lo.length t D q.st.length F)).heap.size ((u.alloc (O12 K L N O Q V Y Z st a0 ha hl hc ma ml mc a1 a2)).alloc (O36 (q.m:Int) (q.p:Int) s q.lo.length t D q.st.length F)) b)=>Vv (hW.below hb) rfl (show (M.put ((q,.slice s q.lo.length t,.slice D q.st.length F)::r)).oa=some ⟨g,0,none⟩ from hg) (q.p+wd));have b2:=Bvm l2 G.size;have b3:=Bvm a8 G.size;have b4:=Bvm J G.size;have f2:=fun j=>(G.frozen (p:=⟨g,j,none⟩) J).trans (a7 j);have f3:=(G.cell (p:=⟨g,r.length*4+1,none⟩) J).trans d1;have mi:(q.m:Int)<(k.f.ms.length:Int):=Bd;rw[hu]at s7 s0 s1 s2 s3;subst f1;go_in;go_wp2;rw[<- hu];generalize g9:(u.alloc (O12 K L N O Q V Y Z st a0 ha hl hc ma ml mc a1 a2)).alloc (O36 (q.m:Int) (q.p:Int) s q.lo.length t D q.st.length F)=W at *
 go_region_held3 (fun b=>b.cell? ⟨k.B,7,none⟩=some (.slice (some ⟨g,0,none⟩) (r.length+1) M.oc)/\b.cell? ⟨k.B,1,none⟩=some (.slice (some ⟨l,0,none⟩) k.f.ms.length k.f.c2)/\b.cell? ⟨w.heap.size+1,0,none⟩=some (.int .i64 (q.m:Int))/\b.cell? ⟨w.heap.size+1,1,none⟩=some (.int .i64 (q.p:Int))/\b.cell? ⟨l,q.m*12,none⟩=some (.int .i64 b6)/\b.cell? ⟨l,q.m*12+1,none⟩=some (.int .i64 b7)/\b.cell? ⟨l,q.m*12+2,none⟩=some (.slice b8 b9 c0)/\b.cell? ⟨l,q.m*12+3,none⟩=some (.int .i64 c1)/\b.cell? ⟨l,q.m*12+4,none⟩=some (.int .i64 c3)/\b.cell? ⟨l,q.m*12+5,none⟩=some (.int .i64 c4)/\b.cell? ⟨l,q.m*12+6,none⟩=some (.int .i64 c5)/\b.cell? ⟨l,q.m*12+7,none⟩=some (.string c6)/\b.cell? ⟨l,q.m*12+8,none⟩=some (.slice c8 c9 d4)/\b.cell? ⟨l,q.m*12+9,none⟩=some (.slice d5 d6 d8)/\b.cell? ⟨l,q.m*12+10,none⟩=some (.int .i64 d9)/\b.cell? ⟨l,q.m*12+11,none⟩=some (.int .i64 f0))
  (first|exact a5 W.drew bB bf C|exact a5 _ ((I.block _ b2).trans bB) ((I.block _ b3).trans bf) ((I.block _ b0).trans C)|exact a5 _ ((Bvg _ _ _ _ (Bxc g3)).trans ((I.block _ b2).trans bB)) ((Bvg _ _ _ _ (Bxc g8)).trans ((I.block _ b3).trans bf)) ((Bvg _ _ _ _ (Bxc g7)).trans ((I.block _ b0).trans C)))
  (first|(go_at_call 94;refine(Ba HN _).mono ?_;rintro e w7 ⟨rfl,I⟩;have h0:=(I.frozen (p:=⟨g,r.length*4+1,none⟩) b4).trans (f2 _);have h3:=(I.cell (p:=⟨g,r.length*4+1,none⟩) b4).trans f3))
 have h8:=Ba HP _ ((Vm _ _).drew.trans I);obtain⟨w8,a6⟩:∃w8,w8=w7.setCell ⟨g,r.length*4+1,none⟩ (.int .i64 ((q.p+wd:Nat):Int)):=⟨_,rfl⟩;rw[<- a6]at h8;have h4:(.int .i64 ((q.p+wd:Nat):Int):Value)=.int .i64 ((q.p:Int)+(wd:Int)):=Fr;rw[h4]at a6;rw[<- a6];have h5:=Bc (fun (b:World) (j:Nat) a3 (hj:j<a.length) (h':Bm k ((M.put ((q,.slice s q.lo.length t,.slice D q.st.length F)::r)).put ((⟨q.m,q.p+wd,q.lo,q.st++a.take j⟩,.slice s q.lo.length t,a3)::r)) (Dc (.slice va a.length vc) a::X) b)=>Bxh (Pq h' rfl hj) (Ju k _ _ ⟨q.m,q.p+wd,q.lo,q.st++a.take j⟩ _ a3 r a[j].1 a[j].2 b hf h' rfl hm Fm hr Fm));clear HP HN I h0 h3 f3 f2 b2 b3 b4 b0 C bB bf a5 a4 s7 s0 s1 s2 s3 z7 g4 d7 d0 d1 d2 d3 a7 b1 A h HW hW G g9;clear a6;go_wp2
 go_loopw [8] (fun i wr=>∃j:Nat,j<=a.length/\i=.int .i64 (j:Int)/\∃a3,Bm k ((M.put ((q,.slice s q.lo.length t,.slice D q.st.length F)::r)).put ((⟨q.m,q.p+wd,q.lo,q.st++a.take j⟩,.slice s q.lo.length t,a3)::r)) (Dc (.slice va a.length vc) a::X) wr)
  (fun i _=>a.length-(intOf i).toNat)
 case atStart=>exact⟨0,Bd,rfl,_,by simpa using h8⟩
 case round=>
  clear h8;obtain⟨j,hj,rfl,a3,h1⟩:=hrel;by_cases f4:j<a.length
  ·obtain⟨⟨ga,rfl,_,x0,x1⟩,f5⟩:=Ba h5 _ j a3 f4 h1;have HQ:=Bc f5;have kb:(j:Int)<(a.length:Int):=Bd;have et:a.take (j+1)=a.take j++[a[j]]:=by rw[Bvs f4]
   have h6:=Bc (fun (_:Unit)=>et);clear f5 h1 et;generalize a[j]=v at *;obtain⟨v1,v2⟩:=v;simp only at x0 x1 HQ;go_wp2_with fail;refine(Ba HQ).mono ?_;rintro e w9 ⟨rfl,h7,h9⟩;have H9:=Bc h9;clear h9 HQ x0 x1;go_wp2;go_roundw
   case rel=>exact⟨j+1,Bd,Lt,h7,by have:=Ba H9;rw[Ba h6 (),<- Bwe];exact this⟩
   case measure=>simp[intOf];omega
  have kb:¬(j:Int)<(a.length:Int):=Bd;have H1:=Bc h1;clear h1;go_wp2;go_end0;refine⟨rfl,a3,?_⟩;have:=Ba H1;rw[Bv0 Bd]at this;exact this
def Db.E (k:Db):Cr:=⟨k.cs,k.ms,k.ins,k.heap,k.depth⟩
structure Db.Ok(k:Db):Prop where
 fm:Jj k.cs k.ms
 f:k.f.ok k.w0
 l:k.f.l.map Prod.fst=Rf.given++k.cs
 eq:k.f.ms.map (fun z=>z.1.m)=k.ms
 ins:Jk k.w0 k.ia k.ins
 il:k.ins.length<=1000
def Db.Ok.T{k:Db}(b:k.Ok):k.f.T=k.E.T:=(Sr k.f.l k.cs b.l).1
def Sm(c:Int)(f:0<=c/\c<=100)(w:TW):Calls prog 146 #[.i c] w fun e b=>e=.r (.i (c-1))/\b=w:=by
 have g:IntKind.i64.wrap (c-2)=c-2:=Eg _ Bd Bd;have h:IntKind.i64.wrap (c-2+1)=c-1:=by rw[show c-2+1=c-1 by omega];exact Eg _ Bd Bd
 go_in;go_wp2;go_ret;exact⟨rfl,rfl⟩
theorem vxg{k:Db}{M:Br}{w:World}{l:Option Addr}{vc:Nat}{a:List (Int×Int)}(h:Bm k M (Dc (.slice l a.length vc) a::X) w){q:Nat}(b:q<a.length):∃g,l=some ⟨g,0,none⟩/\g<w.heap.size/\w.cell? ⟨g,q*2,none⟩=some (.int .i64 (a.getD q (0,0)).1)/\w.cell? ⟨g,q*2+1,none⟩=some (.int .i64 (a.getD q (0,0)).2):=by
 obtain⟨g,e,c,f,i⟩:=Pq h rfl b;refine⟨g,e,c,?_,?_⟩
 ·rw[f];simp[Th,b]
 rw[i];simp[Th,b]
def Bhu(k:Db)(M:Br)(X:List Rw)(op n:Int)(a:TP)(va:TA)(vc:Nat)(w:TW)(ok:k.Ok)(h:Bm k M (Dc (.s va a.length vc) a::X) w)(F:op=10->1<a.length)(t:op=17\/op=18\/op=21\/op=23\/op=19->0<a.length)(J:(Cg a).1=2->0<=(Cg a).2/\(Cg a).2<(M.ts.length:Int)):Calls prog 101 #[.q k.B 0,.i op,.i n,.s va a.length vc] w fun e p=>e=.r (.i (Dn k.E M.d op n a))/\Bl w p:=by
 have c9:w.C k.B 9 (.i (M.made:Int)):=h.cell Hd;have c4:w.C k.B 4 (.i k.heap):=h.cell Hd;have c5:w.C k.B 5 (.i k.depth):=h.cell Hd;have c7:w.C k.B 7 (.s M.oa M.os.length M.oc):=h.cell Hd;have a9:=fun p=>Sm 2 Bd p;have a4:=fun p=>Sm 3 Bd p;have b0:=fun p=>Sm 4 Bd p;have b1:=fun p=>Sm 5 Bd p;have a6:=fun p=>Sm 6 Bd p;have eO:M.d.os.length=M.os.length:=by simp[Br.d]
 have eM:M.d.made=M.made:=rfl;have b2:k.E.heap=k.heap:=rfl;have b3:k.E.depth=k.depth:=rfl;generalize b:Dn k.E M.d op n a=R;unfold Dn at b;rw[eO,eM,b2,b3]at b;have j:=fun (m:Nat)=>(Cy (Vm w.heap.size w):Bl w (w.drewN m));have HH:=Bc h;by_cases K:op=10
 ·obtain⟨g,rfl,L,-,c⟩:=vxg h (F K);rw[Sp K]at b;subst K;have ha:1<a.length:=F rfl;simp only[Bx8,Bwh,Bvp]at c;have v:(a.getD 1 (0,0)).2=(Ib a).2:=rfl;rw[v]at c;generalize (Ib a).2=z at *;clear v h J t F;by_cases l:z=0;·rw[Sp l]at b;subst l b;go_in;go_wp2;go_quiet (fail);rename_i nq;have G:(w.drewN nq).C g 3 (.i 0):=c;go_wp2_with fail;refine Qm (a9 _) ?_;rintro I rfl;go_wp2;go_ret;exact⟨rfl,j _⟩
  rw[Pf l]at b;have a5:(z==0)=false:=by simpa using l
  subst b;go_in;go_wp2;go_quiet (fail);rename_i nq;have G:(w.drewN nq).C g 3 (.i z):=c;go_wp2;go_quiet (fail);go_wp2;go_ret
  first|exact⟨rfl,Cy (j _)⟩|exact⟨rfl,j _⟩
 rw[Pf K]at b;by_cases N:op=17\/op=18
 ·rw[Sp N]at b;rcases N with rfl|rfl
  all_goals
   obtain⟨g,rfl,L,-,c⟩:=vxg h (t Bd);have ha:0<a.length:=t Bd;simp only[Bx8,Bwh,Bvp]at c;have v:(a.getD 0 (0,0)).2=(Cg a).2:=rfl;rw[v]at c;generalize (Cg a).2=z at *;clear v h J t F;by_cases l:z=0;·rw[Sp l]at b;subst l b;go_in;go_wp2;go_quiet (fail);rename_i nq;have G:(w.drewN nq).C g 1 (.i 0):=c;go_wp2_with fail;refine Qm (a4 _) ?_;rintro I rfl;go_wp2;go_ret;exact⟨rfl,j _⟩
   rw[Pf l]at b;have a5:(z==0)=false:=by simpa using l
   subst b;go_in;go_wp2;go_quiet (fail);rename_i nq;have G:(w.drewN nq).C g 1 (.i z):=c;go_wp2;go_quiet (fail);go_wp2;go_ret
   first|exact⟨rfl,Cy (j _)⟩|exact⟨rfl,j _⟩
 rw[Pf N]at b;obtain⟨N,a7⟩:¬op=17/\¬op=18:=Bd;by_cases Q:op=21
 ·obtain⟨g,rfl,L,-,c⟩:=vxg h (t Bd);rw[Sp Q]at b;subst Q;have ha:0<a.length:=t Bd;simp only[Bx8,Bwh,Bvp]at c;have v:(a.getD 0 (0,0)).2=(Cg a).2:=rfl;rw[v]at c;generalize (Cg a).2=z at *;clear v h J t F;by_cases l:z=0;·rw[Sp l]at b;subst l b;go_in;go_wp2;go_quiet (fail);rename_i nq;have G:(w.drewN nq).C g 1 (.i 0):=c;go_wp2_with fail;refine Qm (a4 _) ?_;rintro I rfl;go_wp2;go_ret;exact⟨rfl,j _⟩
  rw[Pf l]at b;have a5:(z==0)=false:=by simpa using l
  by_cases A:k.depth<=(M.os.length:Int)
  ·rw[Sp A]at b;subst b;go_in;go_wp2;go_quiet (fail);rename_i nq;have G:(w.drewN nq).C g 1 (.i z):=c;have V:decide (k.depth<=(M.os.length:Int))=true:=by simpa using A
   go_wp2;go_quiet (fail);go_wp2_with fail;refine Qm (a6 _) ?_;rintro I rfl;go_wp2;go_ret
   first|exact⟨rfl,Cy (j _)⟩|exact⟨rfl,j _⟩
  rw[Pf A]at b;subst b;go_in;go_wp2;go_quiet (fail);rename_i nq;have G:(w.drewN nq).C g 1 (.i z):=c;have V:decide (k.depth<=(M.os.length:Int))=false:=by simpa using A
  go_wp2;go_quiet (fail);go_wp2;go_ret
  first|exact⟨rfl,Cy (j _)⟩|exact⟨rfl,j _⟩
 rw[Pf Q]at b;by_cases Y:op=23
 ·obtain⟨g,rfl,L,-,c⟩:=vxg h (t Bd);rw[Sp Y]at b;subst Y;have ha:0<a.length:=t Bd;simp only[Bx8,Bwh,Bvp]at c;have v:(a.getD 0 (0,0)).2=(Cg a).2:=rfl;rw[v]at c;generalize (Cg a).2=z at *;clear v h J t F;by_cases l:z=0;·rw[Sp l]at b;subst l b;go_in;go_wp2;go_quiet (fail);rename_i nq;have G:(w.drewN nq).C g 1 (.i 0):=c;go_wp2_with fail;refine Qm (a4 _) ?_;rintro I rfl;go_wp2;go_ret;exact⟨rfl,j _⟩
  rw[Pf l]at b;have a5:(z==0)=false:=by simpa using l
  subst b;go_in;go_wp2;go_quiet (fail);rename_i nq;have G:(w.drewN nq).C g 1 (.i z):=c;go_wp2;go_ret;exact⟨rfl,j _⟩
 rw[Pf Y]at b;by_cases Z:op=15
 ·rw[Sp Z]at b;subst Z;by_cases A:k.heap<=(M.made:Int)
  ·rw[Sp A]at b;subst b;go_in;go_wp2;go_quiet (fail);rename_i nq;have V:decide (k.heap<=(M.made:Int))=true:=by simpa using A
   go_wp2_with fail;refine Qm (b1 _) ?_;rintro I rfl;go_wp2;go_ret;exact⟨rfl,j _⟩
  rw[Pf A]at b;subst b;go_in;go_wp2;go_quiet (fail);rename_i nq;have V:decide (k.heap<=(M.made:Int))=false:=by simpa using A
  go_wp2;go_quiet (fail);go_wp2;go_ret
  first|exact⟨rfl,Cy (j _)⟩|exact⟨rfl,j _⟩
 rw[Pf Z]at b;by_cases a0:op=19
 ·obtain⟨g,rfl,L,x0,c⟩:=vxg h (q:=0) (t Bd);rw[Sp a0]at b;subst a0;have ha:0<a.length:=t Bd;simp only[Bwh,Bvp]at x0 c;have hI:=fun (p:TW) (hb:Bl w p)=>Bi3 k M _ (Cg a).1 (Cg a).2 3 n p ok.f (h.below hb) J _ rfl;rw[ok.T]at hI;have eI:J3 k.E.T (M.ts.map Prod.fst) ((Cg a).1,(Cg a).2) (3,n)=J3 k.E.T M.d.ts (Cg a) (3,n):=rfl;rw[eI]at hI;generalize J3 k.E.T M.d.ts (Cg a) (3,n)=B at *;have HI:=Bc hI;have v:a.getD 0 (0,0)=Cg a:=rfl;rw[v]at x0 c;clear v h J t F hI eI;generalize Cg a=z at *;obtain⟨z1,z2⟩:=z;simp only at x0 c HI;go_in;go_wp2;go_quiet (fail);rename_i nq;have y0:(w.drewN nq).C g 0 (.i z1):=x0;have y1:(w.drewN nq).C g 1 (.i z2):=c;have O:g<(w.drewN nq).heap.size:=L;have a2:=j nq;clear x0 c c9 c4 c5 c7 L;generalize w.drewN nq=wq at *;go_wp2
  go_region_held3 (fun p=>p.C g 0 (.i z1)/\p.C g 1 (.i z2))
   (first|exact⟨y0,y1⟩|exact⟨QC D O y0,QC D O y1⟩|exact⟨QC a3 (QL D O) (QC D O y0),QC a3 (QL D O) (QC D O y1)⟩)
   (first|(go_at_call 142;refine(Tg n _).mono ?_;rintro e w7 ⟨rfl,D⟩)|(go_at_call 145;refine(Ba HI _ (a2.drew.trans (D.mono a2.size))).mono ?_;rintro e w8 ⟨rfl,a3⟩))
  have b4:=a2.drew.trans (D.mono a2.size);have a8:=QB b4 a3;clear D a3 y0 y1 HI;cases B with
  | true =>
   simp only[By3]at b;subst b;go_wp2;go_quiet (fail);go_wp2;go_ret;exact⟨rfl,Cy a8⟩
  | false =>
   simp only[Bye,Bxk]at b;subst b;go_wp2_with fail;refine Qm (b0 _) ?_;rintro I rfl;go_wp2;go_ret;exact⟨rfl,a8⟩
 rw[Pf a0]at b;by_cases a1:op=20
 ·rw[Sp a1]at b;subst a1;by_cases A:k.depth<=(M.os.length:Int)
  ·rw[Sp A]at b;subst b;go_in;go_wp2;go_quiet (fail);rename_i nq;have V:decide (k.depth<=(M.os.length:Int))=true:=by simpa using A
   go_wp2;go_quiet (fail);go_wp2_with fail;refine Qm (a6 _) ?_;rintro I rfl;go_wp2;go_ret
   first|exact⟨rfl,Cy (j _)⟩|exact⟨rfl,j _⟩
  rw[Pf A]at b;subst b;go_in;go_wp2;go_quiet (fail);rename_i nq;have V:decide (k.depth<=(M.os.length:Int))=false:=by simpa using A
  go_wp2;go_quiet (fail);go_wp2;go_ret
  first|exact⟨rfl,Cy (j _)⟩|exact⟨rfl,j _⟩
 rw[Pf a1]at b;subst b;have b5:(op==10)=false:=by simpa using K
 have b6:(op==17)=false:=by simpa using N
 have b7:(op==18)=false:=by simpa using a7
 have b8:(op==21)=false:=by simpa using Q
 have b9:(op==23)=false:=by simpa using Y
 have c0:(op==15)=false:=by simpa using Z
 have c1:(op==19)=false:=by simpa using a0
 have c2:(op==20)=false:=by simpa using a1
 clear K N a7 Q Y Z a0 a1 t F;go_in;go_wp2;go_quiet (fail);rename_i nq;go_wp2;go_quiet (fail);go_wp2;go_ret
 first|exact⟨rfl,Cy (j _)⟩|exact⟨rfl,j _⟩
def Db.Ok.meth{k:Db}(b:k.Ok){n:Nat}(c:n<k.f.ms.length):k.E.meth n=k.f.ms[n].1.m:=by
 unfold Cr.meth Db.E;simp only;rw[<- b.eq,Th,Bv8,Ws c];rfl
def RFl.two{f:RFl}(h:f.ok w){s:Nat}(j:f.a2=some ⟨s,0,none⟩)(l:k<f.ms.length):w.C s (k*12) (.i f.ms[k].1.m.cl)/\w.C s (k*12+1) (.i f.ms[k].1.m.name):=by
 obtain⟨m,q,p,_,b,c⟩:=RFl.mth h l;have e:=j.symm.trans p;simp only[Option.some.injEq,Addr.mk.injEq,Bwb]at e;subst e;rw[<- c.cl,<- c.nm];exact⟨b 0 _ rfl,b 1 _ rfl⟩
theorem Bl3(k:Db)(M:Br)(X:List Rw)(n t:Nat)(w:World)(C:k.Ok)(h:Bm k M X w)(hn:n<k.f.ms.length)(ht:t<M.ts.length):Calls prog 148 #[.pointer (some ⟨k.B,0,none⟩),.int .i64 (n:Int),.int .i64 (t:Int)] w fun e D=>e=.returned (.int .i64 ((Px k.E M.d (n:Int) (t:Int):Nat):Int))/\Below w.heap.size w D:=by
 obtain⟨g,hg,_,b1,_⟩:=Sl h ht;have c8:w.cell? ⟨k.B,8,none⟩=some (.slice (some ⟨g,0,none⟩) M.ts.length M.tc):=by rw[<- hg];exact h.cell Hd
 have g0:w.cell? ⟨g,t*3,none⟩=some (.int .i64 M.ts[t].1.cl):=b1 0 _ rfl;have eC:(Cc M.d.ts (t:Int)).cl=M.ts[t].1.cl:=by rw[show M.d.ts=M.ts.map Prod.fst from rfl,Vu ht]
 have eN:(k.E.meth (n:Int).toNat).name=k.f.ms[n].1.m.name:=by rw[Bvn,C.meth hn]
 have eL:k.E.ms.length=k.f.ms.length:=by rw[show k.E.ms=k.ms from rfl,<- C.eq];simp
 generalize hR:Px k.E M.d (n:Int) (t:Int)=R;unfold Px at hR;rw[eC,eN,Bvn]at hR;have c9:=C.f.2.2.1;obtain⟨_,I,a5,_,_,_⟩:=RFl.mth (h.fok C.f) hn;generalize M.ts[t].1.cl=c at *;have d2:(t:Int)<(M.ts.length:Int):=Bd;have J:Hid (Fd k.E c k.f.ms[n].1.m.name (k.E.ms.drop 0) 0 n=R):=hR;have HH:=Bc h;clear h b1 hg eC eN hR;go_in;go_wp2
 go_loopw [8,9] (fun bv i wr=>∃j b:Nat,j<=k.f.ms.length/\b<k.f.ms.length/\bv=.int .i64 (b:Int)/\i=.int .i64 (j:Int)/\Hid (Fd k.E c k.f.ms[n].1.m.name (k.E.ms.drop j) j b=R)/\Below w.heap.size w wr)
  (fun _ i _=>k.f.ms.length-(intOf i).toNat)
 case atStart=>exact⟨0,n,Bd,hn,rfl,rfl,J,Vm _ _⟩
 case round=>
  clear J c8 g0;obtain⟨j,b,hj,hb,rfl,rfl,J,hB⟩:=hrel;have K:=(Ba HH).below hB;have d1:wr.cell? ⟨k.B,1,none⟩=some (.slice (some ⟨I,0,none⟩) k.f.ms.length k.f.c2):=by rw[<- a5];exact K.cell Hd
  by_cases a6:j<k.f.ms.length
  ·have d0:wr.cell? ⟨k.B,0,none⟩=some (.slice k.f.a1 k.f.l.length k.f.c1):=K.cell Hd;have L:=K.fok C.f;obtain⟨b0,-⟩:=RFl.two L a5 hb;obtain⟨-,n1⟩:=RFl.two L a5 hn;obtain⟨m,d3,b2,a8,b3,a7⟩:=RFl.mth L a6;have b4:=a5.symm.trans b2;simp only[Option.some.injEq,Addr.mk.injEq,Bwb]at b4;subst b4;have lB:=K.ltB;have s:=Ba J;have eD:k.E.ms.drop j=k.f.ms[j].1.m::k.E.ms.drop (j+1):=by
    rw[Wr (by rw[eL];exact a6)]
    congr 1
    have:=C.meth a6;unfold Cr.meth at this;rw[Th,Ws (by rw[eL];exact a6)]at this;exact this
   rw[eD,Fd,C.meth hb]at s;have N:=fun D (h':k.f.ok D)=>N5 k.f.a1 (some ⟨I,0,none⟩) k.f.c1 k.f.ms.length k.f.c2 k.f.bb k.f.l c k.f.ms[j].1.m.cl D (by have:=h'.1;omega) h'.2.2.2.2.1;have eT:Cw k.f.l=k.E.T:=C.T;rw[eT]at N;rw[<- a7.cl,<- a7.nm]at s;rw[<- a7.cl]at N;obtain⟨q,F,O,Q,V,Y,Z,lo,st,a0,ha,hl,hc,ma,ml,mc,a2,a3⟩:=m;obtain⟨y0,y1,y2,y3,y4,y5,y6,y7,y8,y9,ya,yb⟩:=Ua b3;simp only at y0 y1 y2 y3 y4 y5 y6 y7 y8 y9 ya yb s N;generalize c3:Tr.rbel k.E.T c q=B at *;have b5:=Bc N;have c4:=Bc L;have G:Below wr.heap.size wr (wr.alloc (O12 q F O Q V Y Z lo st a0 ha hl hc ma ml mc a2 a3)):=QN _;have CM:=Bf wr (O12 q F O Q V Y Z lo st a0 ha hl hc ma ml mc a2 a3);have e0:=(G.cell (p:=⟨k.B,0,none⟩) lB).trans d0;have e1:=(G.cell (p:=⟨k.B,1,none⟩) lB).trans d1;have f0:=(G.cell (p:=⟨I,b*12,none⟩) a8).trans b0;have f1:=(G.cell (p:=⟨I,n*12+1,none⟩) a8).trans n1;have v0:(wr.alloc (O12 q F O Q V Y Z lo st a0 ha hl hc ma ml mc a2 a3)).cell? ⟨wr.heap.size,0,none⟩=some (.int .i64 q):=(Bb CM 0).trans rfl;have v1:(wr.alloc (O12 q F O Q V Y Z lo st a0 ha hl hc ma ml mc a2 a3)).cell? ⟨wr.heap.size,1,none⟩=some (.int .i64 F):=(Bb CM 1).trans rfl;have lV:=Pk CM;have a9:=Bvm lB G.size;have b6:=Bvm a8 G.size;have b7:=QB hB G;have b8:=L.below G;have b9:=Bc b8;have jb:(j:Int)<(k.f.ms.length:Int):=Bd;have bb:(b:Int)<(k.f.ms.length:Int):=Bd;have nb:(n:Int)<(k.f.ms.length:Int):=Bd;generalize c5:k.f.ms[b].1.m.cl=cb at *;generalize c0:k.f.ms[n].1.m.name=nn at *;have v:=Bc (fun (_:Unit)=>c0);clear b3 a7 K L b8 N b2 eD J CM c0 c5 c3;go_wp2;generalize wr.alloc (O12 q F O Q V Y Z lo st a0 ha hl hc ma ml mc a2 a3)=W at *;generalize wr.heap.size=vb at *
   go_region_held3 (fun D=>D.cell? ⟨k.B,0,none⟩=some (.slice k.f.a1 k.f.l.length k.f.c1)/\D.cell? ⟨k.B,1,none⟩=some (.slice (some ⟨I,0,none⟩) k.f.ms.length k.f.c2)/\D.cell? ⟨vb,0,none⟩=some (.int .i64 q))
    (first|exact⟨e0,e1,v0⟩|exact⟨QC z a9 e0,QC z a9 e1,QC z lV v0⟩)
    (first|(go_at_call 91;refine(Ba b5 _ ((Ba b9).below (Vm _ _).drew)).mono ?_;rintro e w7 ⟨rfl,z⟩))
   have k1:=(z.cell (p:=⟨k.B,1,none⟩) a9).trans e1;have u0:=(z.cell (p:=⟨vb,0,none⟩) lV).trans v0;have u1:=(z.cell (p:=⟨vb,1,none⟩) lV).trans v1;have q0:=(z.cell (p:=⟨I,b*12,none⟩) b6).trans f0;have q1:=(z.cell (p:=⟨I,n*12+1,none⟩) b6).trans f1;have a4:=b7.drew.trans (z.mono b7.size);clear z e0 e1 v0 v1 f0 f1 b5 c4 b9 y0 y1 y2 y3 y4 y5 y6 y7 y8 y9 ya yb d0 d1 b0 n1;by_cases z1:q=255
   ·have c6:(q != 255)=false:=by simpa using z1
    have A:Hid (Fd k.E c k.f.ms[n].1.m.name (k.E.ms.drop (j+1)) (j+1) b=R):=by unfold Hid;rw[<- s];rw[Ba v (),Pf (by simp[z1])]
    clear s;go_wp2;go_quiet (fail);go_wp2;go_roundw
    case rel=>exact⟨j+1,b,Bd,Bd,by first|rfl | go_num,Lt,by rw[Ba v ()]at *;exact A,Cy a4⟩
    case measure=>simp[intOf];omega
   have c6:(q != 255)=true:=by simpa using z1
   by_cases z2:F=nn
   ·subst z2;cases B with
    | false =>
     have A:Hid (Fd k.E c k.f.ms[n].1.m.name (k.E.ms.drop (j+1)) (j+1) b=R):=by unfold Hid;rw[<- s];rw[Ba v (),Pf Fr]
     clear s;go_wp2;go_quiet (fail);go_wp2;go_roundw
     case rel=>exact⟨j+1,b,Bd,Bd,by first|rfl | go_num,Lt,by rw[Ba v ()]at *;exact A,Cy a4⟩
     case measure=>simp[intOf];omega
    | true =>
     by_cases z4:cb<q
     ·have c7:decide (cb<q)=true:=by simpa using z4
      have A:Hid (Fd k.E c k.f.ms[n].1.m.name (k.E.ms.drop (j+1)) (j+1) j=R):=by unfold Hid;rw[<- s];rw[Ba v (),Sp ⟨z1,rfl,rfl,z4⟩]
      clear s;go_wp2;go_quiet (fail);go_wp2;go_roundw
      case rel=>exact⟨j+1,j,Bd,Bd,by first|rfl | go_num,Lt,by rw[Ba v ()]at *;exact A,Cy a4⟩
      case measure=>simp[intOf];omega
     have c7:decide (cb<q)=false:=by simpa using z4
     have A:Hid (Fd k.E c k.f.ms[n].1.m.name (k.E.ms.drop (j+1)) (j+1) b=R):=by unfold Hid;rw[<- s];rw[Ba v (),Pf (by simp[z4])]
     clear s;go_wp2;go_quiet (fail);go_wp2;go_roundw
     case rel=>exact⟨j+1,b,Bd,Bd,by first|rfl | go_num,Lt,by rw[Ba v ()]at *;exact A,Cy a4⟩
     case measure=>simp[intOf];omega
   have d4:(F==nn)=false:=by simpa using z2
   have A:Hid (Fd k.E c k.f.ms[n].1.m.name (k.E.ms.drop (j+1)) (j+1) b=R):=by unfold Hid;rw[<- s];rw[Ba v (),Pf (by simp[z2])]
   clear s;go_wp2;go_quiet (fail);go_wp2;go_roundw
   case rel=>exact⟨j+1,b,Bd,Bd,by first|rfl | go_num,Lt,by rw[Ba v ()]at *;exact A,Cy a4⟩
   case measure=>simp[intOf];omega
  have kb:¬(j:Int)<(k.f.ms.length:Int):=Bd;have HE:Hid (b=R):=by
   have:=Ba J;rw[Bvi (by rw[eL];omega),Fd]at this;exact this
  clear K;go_wp2;go_ret;exact⟨by rw[<- Ba HE];rfl,hB⟩
def Bft(k:Db)(M:Br)(X:List Rw)(o:Ca)(lv sv:TX)(r:List (Ca×Value×Value))(op n:Int)(a:TP)(V:TA)(vc:Nat)(w:TW)(ok:k.Ok)(h:Bm k M (Dc (.s V a.length vc) a::X) w)(v:M.os=(o,lv,sv)::r)(hr:r.length<=1000)(hs:o.st.length<=1000)(A:o.m<k.f.ms.length)(D:(o.st.length:Int)<k.f.ms[o.m].1.m.stack) (K:op=0\/op=1\/op=7\/op=8\/op=9\/op=10\/op=19)(hn:-1<=n/\n<=255)(c:op=19->1<=a.length)(F:7<=op->op<=10->2<=a.length)(G:7<=op->op<=10->(-2147483648<=(Cg a).2/\(Cg a).2<=2147483647)/\(-2147483648<=(Ib a).2/\(Ib a).2<=2147483647)):Calls prog 153 #[.q k.B 0,.i op,.i n,.s V a.length vc] w fun e l=>e=.r (.tuple #[])/\∃j,Bm k (M.put ((⟨o.m,o.p,o.lo,o.st++[Mr k.E M.d op n a]⟩,lv,j)::r)) (Dc (.s V a.length vc) a::X) l:=by
 have I:=Bc (fun (v1 v2:Int) (l:TW) (hb:Bl w l)=>Ju k M _ o lv sv r v1 v2 l ok.f (h.below hb) v A D hr hs);generalize b:Mr k.E M.d op n a=P;unfold Mr at b;obtain⟨p1,p2⟩:=P;have bd:Bl w w.drew:=(Vm _ _).drew;by_cases L:op=0
 ·rw[Sp L]at b;subst L;clear h v A D K c F G;by_cases a0:127<n;·rw[Sp a0]at b;have hw:IntKind.i64.wrap (n-256)=n-256:=Eg _ Bd Bd;obtain⟨rfl,rfl⟩:=Prod.mk.inj b;clear b;go_in;go_wp2_with fail;refine Qm (Ba I _ _ _ (Vm _ _)) ?_;rintro N ⟨j,c⟩;go_wp2;go_end0;exact⟨rfl,j,c⟩
  rw[Pf a0]at b;obtain⟨rfl,rfl⟩:=Prod.mk.inj b;clear b;go_in;go_wp2_with fail;refine Qm (Ba I _ _ _ (Vm _ _)) ?_;rintro N ⟨j,c⟩;go_wp2;go_end0;exact⟨rfl,j,c⟩
 rw[Pf L]at b;by_cases O:op=1;·rw[Sp O]at b;subst O;obtain⟨rfl,rfl⟩:=Prod.mk.inj b;clear h v A D K c F G b;go_in;go_wp2_with fail;refine Qm (Ba I _ _ _ (Vm _ _)) ?_;rintro N ⟨j,c⟩;go_wp2;go_end0;exact⟨rfl,j,c⟩
 rw[Pf O]at b;by_cases Q:op=19;·rw[Sp Q]at b;subst Q;have Y:0<a.length:=c rfl;obtain⟨g,rfl,hg,x0,t⟩:=vxg h Y;have ev:a.getD 0 (0,0)=(p1,p2):=b;rw[ev]at x0 t;simp only[Bwh,Bvp]at x0 t;clear h v A D K c F G b ev;go_in;go_wp2_with fail;refine Qm (Ba I _ _ _ (Vm _ _)) ?_;rintro N ⟨j,c⟩;go_wp2;go_end0;exact⟨rfl,j,c⟩
 rw[Pf Q,Pf (show ¬op=17 by omega)]at b;have J:7<=op/\op<=10:=Bd;have Y:1<a.length:=F J.1 J.2;obtain⟨a1,a2⟩:=G J.1 J.2;obtain⟨g,rfl,hg,-,t⟩:=vxg h (q:=0) Bd;obtain⟨g',eg,-,-,Z⟩:=vxg h Y;simp only[Option.some.injEq,Addr.mk.injEq,Bwb]at eg;subst eg;have e0:(a.getD 0 (0,0)).2=(Cg a).2:=rfl;have e1:(a.getD 1 (0,0)).2=(Ib a).2:=rfl;rw[e0]at t;rw[e1]at Z;simp only[Bwh,Bvp,Bx8]at t Z;obtain⟨rfl,rfl⟩:=Prod.mk.inj b;have HV:=Bc (Bfa op (Cg a).2 (Ib a).2 w.drew a1 a2);generalize Jl op (Cg a).2 (Ib a).2=z at *;generalize (Cg a).2=z0 at *;generalize (Ib a).2=z1 at *;have a3:0<a.length:=Bd;have a4:(1:Int)<(a.length:Int):=Bd;have hq:op=7\/op=8\/op=9\/op=10:=Bd;clear h v A D c F G b e0 e1 L O Q J a1 a2 K;rcases hq with rfl|rfl|rfl|rfl
 all_goals
  go_in;go_wp2_with fail
  go_region_held3 (fun l=>l.C g 1 (.i z0)/\l.C g 3 (.i z1))
   (first|exact⟨t,Z⟩)
   (first|(go_at_call 202;refine(Ba HV).mono ?_;rintro e w7 ⟨rfl,rfl⟩))
  go_wp2_with fail;refine Qm (Ba I _ _ _ bd) ?_;rintro N ⟨j,c⟩;go_wp2;go_end0;exact⟨rfl,j,c⟩
def Bah(k:Db)(op:Int)(n:Int)(v:TX)(w:TW)(f:∃a m c,v=.s a m c)(g:op=17\/op=18)(Q:TW->Prop)(hF:Calls prog 203 #[.q k.B 0,.i op,.i n,v] w fun e b=>e=.r (.tuple #[])/\Q b):Calls prog 153 #[.q k.B 0,.i op,.i n,v] w fun e b=>e=.r (.tuple #[])/\Q b:=by
 obtain⟨a,m,c,rfl⟩:=f;have h:=Bc hF;clear hF;rcases g with rfl|rfl
 all_goals
  go_in;go_wp2_with fail;refine Qm (Ba h) ?_;intro l j;go_wp2;go_end0;exact⟨rfl,j⟩
def Br.readd(M:Br):Br:=⟨M.os,M.ts,M.made,M.read+1,M.out,M.steps,M.status,M.value,M.oa,M.oc,M.ta,M.tc,M.xa,M.xc⟩
def Bto{k:Db}{M:Br}(h:Bm k M X w):Bm k M.readd X (w.setCell (.a k.B 10) (.i ((M.read:Int)+1))):=by
 have b:=Own.cell (i:=0) h Hd 10 (.i ((M.read:Int)+1));unfold Bm Br.readd Br.rows Br.cells;simp only[Bzh];exact b
def Bj1(k:Db)(M:Br)(X:List Rw)(o:Ca)(lv sv:TX)(r:List (Ca×Value×Value))(n:Int)(v:TX)(w:TW)(b:k.Ok)(h:Bm k M X w)(l:M.os=(o,lv,sv)::r)(J:r.length<=1000)(K:o.st.length<=1000)(t:o.m<k.f.ms.length)(A:(o.st.length:Int)<k.f.ms[o.m].1.m.stack)(L:∃a m c,v=.s a m c)(N:M.read<k.ins.length):Calls prog 153 #[.q k.B 0,.i 24,.i n,v] w fun e g=>e=.r (.tuple #[])/\∃j,Bm k (M.readd.put ((⟨o.m,o.p,o.lo,o.st++[(1,k.ins.getD M.read 0)]⟩,lv,j)::r)) X g:=by
 obtain⟨a,m,c,rfl⟩:=L;obtain⟨D,F,G,O,I⟩:=b.ins M.read N;have Z:=(h.low.cell (p:=.a D (F+M.read)) O).trans I;have a0:w.C k.B 10 (.i (M.read:Int)):=h.cell Hd;have c3:w.C k.B 3 (.s (some ⟨D,F,none⟩) k.ins.length k.ic):=by rw[<- G];exact h.cell Hd
 have a1:=h.fz 10;have a2:=b.il;have Q:=Bc (fun (g:TW) (V:Bl w g)=>Ju k M.readd X o lv sv r 1 (k.ins.getD M.read 0) _ b.f (Bto (h.below V)) l t A J K);have hw:IntKind.i64.wrap ((M.read:Int)+1)=(M.read:Int)+1:=Eg _ Bd Bd;have a3:(M.read:Int)<(k.ins.length:Int):=Bd;generalize k.ins.getD M.read 0=z at *;generalize M.read=rd at *;clear h l t A G I;go_in;go_wp2;go_quiet (fail);go_wp2;go_quiet (fail);go_wp2_with fail;refine Qm (Ba Q _ (Cy (Vm _ _))) ?_;rintro w1 ⟨j,Y⟩;go_wp2;go_end0;exact⟨rfl,j,Y⟩
def Bfu(k:Db)(M:Br)(X:List Rw)(o:Ca)(lv sv:TX)(r:List (Ca×Value×Value))(n:Int)(v:TX)(w:TW)(z:k.Ok)(h:Bm k M X w)(j:M.os=(o,lv,sv)::r)(A:r.length<=1000)(D:o.st.length<=1000)(l:o.m<k.f.ms.length)(t:(o.st.length:Int)<k.f.ms[o.m].1.m.stack)(F:∃a m c,v=.s a m c)(K:k.ins.length<=M.read):Calls prog 153 #[.q k.B 0,.i 24,.i n,v] w fun e b=>e=.r (.tuple #[])/\∃g,Bm k (M.put ((⟨o.m,o.p,o.lo,o.st++[(1,0)]⟩,lv,g)::r)) X b:=by
 obtain⟨a,m,c,rfl⟩:=F;have L:w.C k.B 10 (.i (M.read:Int)):=h.cell Hd;have N:w.C k.B 3 (.s k.ia k.ins.length k.ic):=h.cell Hd;have G:=Bc (fun (b:TW) (I:Bl w b)=>Ju k M X o lv sv r 1 0 b z.f (h.below I) j l t A D);have O:¬(M.read:Int)<(k.ins.length:Int):=Bd;generalize M.read=Q at *;clear h j l t;go_in;go_wp2;go_quiet (fail);go_wp2_with fail;refine Qm (Ba G _ (Cy (Vm _ _))) ?_;rintro V ⟨g,J⟩;go_wp2;go_end0;exact⟨rfl,g,J⟩
def Tryz.infoInt2:(prog.info? 3).map (fun i=>(i.zero,i.size,i.bytes))=some (some (.i 0),1,8):=Le
def Br.outed(M:Br)(z:Int)(xa:TA)(xc:Nat):Br:=⟨M.os,M.ts,M.made,M.read,M.out++[z],M.steps,M.status,M.value,M.oa,M.oc,M.ta,M.tc,xa,xc⟩
def Btp{k:Db}{M:Br}{w9:TW}{z:Int}{xa:TA}{xc:Nat}(h:Bm k M X w)(c:w9.ownsRow k.w0.heap.size 3 1 (.s xa (M.out.length+1) xc) (M.out.length+1) (M.out.map (Value.int .i64)++[.i z])) (e:w.grownBy w9 (Value.slice M.xa M.out.length M.xc).ownBlock)(f:(Value.slice xa (M.out.length+1) xc).ownBlock=(Value.slice M.xa M.out.length M.xc).ownBlock\/(Value.slice xa (M.out.length+1) xc).ownBlock=some w.heap.size):w9.C k.B 11 (.s M.xa M.out.length M.xc)/\w9.frozen? (.a k.B 11)=false/\Bm k (M.outed z xa xc) X (w9.setCell (.a k.B 11) (.s xa (M.out.length+1) xc)):=by
 obtain⟨m,p,q,t,g,v,A,D,F,G,I,J,K,L⟩:=M;simp only at c e f ⊢;have b:=Own.app (i:=3) h Hd c e f;have l:=Own.cell (i:=0) b Hd 11 (.s xa (g.length+1) xc);refine⟨Own.see (i:=0) (j:=11) b Hd Hd,Own.free (i:=0) b Hd 11,?_⟩;unfold Bm Br.outed Br.rows Br.cells;simp only[Up,Bvo,Bwn,Bvp,Bvx,Bwm,Byz];exact l
def Bhv(k:Db)(M:Br)(X:List Rw)(n:Int)(a:TP)(f:TA)(vc:Nat)(w:TW)(h:Bm k M (Dc (.s f a.length vc) a::X) w)(v:0<a.length)(a0:M.out.length<=100000):Calls prog 153 #[.q k.B 0,.i 25,.i n,.s f a.length vc] w fun e j=>e=.r (.tuple #[])/\∃xa xc,Bm k (M.outed (Cg a).2 xa xc) (Dc (.s f a.length vc) a::X) j:=by
 obtain⟨A,D,F,G,I⟩:=Bv4 Tryz.infoInt2;obtain⟨g,rfl,J,-,l⟩:=vxg h v;have p:(a.getD 0 (0,0)).2=(Cg a).2:=rfl;rw[p]at l;simp only[Bwh,Bvp]at l;have K:w.C k.B 11 (.s M.xa M.out.length M.xc):=h.cell Hd;have N:=h.ltB;have a1:=h.low.size;have O:=h.xrow;generalize (Cg a).2=z at *;have Q:=Bc (fun (j w9:TW) xa xc (V:Bl w j) Y Z b=>Btp (z:=z) (w9:=w9) (xa:=xa) (xc:=xc) (h.below V) Y Z b);have a2:=fun y=>(Bwg w y ⟨k.B,11,none⟩ N).trans K;have ag:=fun y=>(Bwg w y ⟨g,1,none⟩ J).trans l;clear h p;generalize hL:M.out.length=L at *;go_in
 go_upto_region 22 with fail
 go_region_law
  ((refine Bds Hd _ _ _ Hd k.w0.heap.size 3 A _ 1 8 Bxs D F G I rfl Bd _ _ _ Hd ((O.alloc _).drew) ⟨w.heap.size,0,none⟩ 1 1 [.i z] Hd Hd (Dv w _ _ _ rfl) (by simp[Value.oneCell']) Mc Bd Fm ?_;intro v' w9 m t b;obtain⟨a3,a4,rfl⟩:=Bg m;have c:=Ba Q _ _ _ _ ((QN _).drew) m t b;have e1:=c.1;have e2:=c.2.1;have HA:=Bc c.2.2;clear c t m b))
 all_goals
  go_wp2;go_end0;exact⟨rfl,_,_,Ba HA⟩
def Cj {α β:Type}(R:α->β->Prop):List α->List β->Prop
 | [],[]=>True
 | a::l,b::r=>R a b/\Cj R l r
 | _,_=>False
def Cj.nil{α β:Type}{R:α->β->Prop}:Cj R [] []:=trivial
def Cj.cons{α β:Type}{R:α->β->Prop}{a:α}{b:β}{l:List α}{r:List β}(h:R a b)(k:Cj R l r):Cj R (a::l) (b::r):=⟨h,k⟩
def Cj.el{α β:Type}{R:α->β->Prop}{P:(l:List α)->(r:List β)->Cj R l r->Prop}(nil:P [] [] .nil)(cons:∀{a:α}{b:β}{l:List α}{r:List β} (h:R a b) (k:Cj R l r),P l r k->P (a::l) (b::r) (.cons h k)):∀{l:List α}{r:List β} (h:Cj R l r),P l r h
 | [],[],_=>nil
 | [],_::_,h=>False.elim h
 | _::_,[],h=>False.elim h
 | _::_,_::_,h=>cons h.1 h.2 (Cj.el nil cons h.2)
section
variable {α β:Type}{R S:α→β→Prop}
def Cj.len{l:List α}{r:List β}(h:Cj R l r):l.length=r.length:=by induction h using Cj.el with
 | nil=>rfl
 | cons _ _ ih=>simp[ih]
def Cj.mono{l:List α}{r:List β}(h:Cj R l r)(k:∀a∈l,∀b∈r,R a b->S a b):Cj S l r:=by induction h using Cj.el with
 | nil=>exact .nil
 | cons x _ ih=>exact .cons (k _ Fr _ Fr x) (ih (fun a c b e=>k a (by simp[c]) b (by simp[e])))
def Cj.app{l b:List α}{r c:List β}(h:Cj R l r)(k:Cj R b c):Cj R (l++b) (r++c):=by induction h using Cj.el with
 | nil=>exact k
 | cons x _ ih=>exact .cons x ih
def Cj.split{l:List α}:∀{r c:List β},Cj R l (r++c)->∃a b,l=a++b/\Cj R a r/\Cj R b c:=by
 induction l with
 | nil=>intro r c h;cases r with
  | nil=>exact⟨[],[],rfl,.nil,h⟩
  | cons _ _=>cases h using Cj.el
 | cons x l ih=>intro r c h;cases r with
  | nil=>exact⟨[],x::l,rfl,.nil,h⟩
  | cons y r =>
   cases h using Cj.el with
   | cons h1 h2 =>
    obtain⟨a,b,rfl,e,f⟩:=ih h2;exact⟨x::a,b,rfl,.cons h1 e,f⟩
def Cj.get{l:List α}{r:List β}(h:Cj R l r)(i:Nat)(b:i<l.length)(u:α)(v:β):R (l.getD i u) (r.getD i v):=by
 induction h using Cj.el generalizing i with
 | nil=>simp at b
 | cons x _ ih=>cases i with
  | zero=>exact x
  | succ j=>simpa using ih j (by simpa using b)
def Cj.set{l:List α}{r:List β}(h:Cj R l r)(i:Nat){u:α}{v:β}(b:R u v):Cj R (l.set i u) (r.set i v):=by
 induction h using Cj.el generalizing i with
 | nil=>exact .nil
 | cons x hr ih=>cases i with
  | zero=>exact .cons b hr
  | succ j=>exact .cons x (ih j)
def Cj.map{Z:Type}{f:β->Z}{Q:α->Z->Prop}{l:List α}{r:List β}(h:Cj R l r)(k:∀a∈l,∀b∈r,R a b->Q a (f b)):Cj Q l (r.map f):=by
 induction h using Cj.el with
 | nil=>exact .nil
 | cons x _ ih=>exact .cons (k _ Fr _ Fr x) (ih (fun a c b e=>k a (by simp[c]) b (by simp[e])))
end
def It.mono{n s:Nat}(h:n<=s)(k:It n C):It s C:=by
 rcases k with k|k | k
 ·exact .inl k
 ·exact .inr (.inl k)
 exact .inr (.inr ⟨k.1,k.2.1,Bd⟩)
structure Ez(T:List Int)(ts:List Do)(ω:Int->Nat × Int)(i:Nat)(ρ ar:Int->Int)(v t:Int × Int):Prop where
 int:t.1=1->v.1=1
 null:t.1=2->v=(2,0)
 ref:t.1=3->v.1=2/\(v.2=0\/(Cc ts v.2).set=true/\Tr.fitsB T 3 (Cc ts v.2).cl 3 t.2=true)
 raw:t.1=4->v=(2,ρ t.2)/\0<ρ t.2/\ρ t.2<(ts.length:Int)/\(Cc ts (ρ t.2)).set=false/\(Cc ts (ρ t.2)).cl=ar t.2/\ω (ρ t.2)=(i,t.2)
def Vf (T:TI)(ts:List Do):Prop:=∀k,(Cc ts k).set=true->0<=(Cc ts k).cl/\(Cc ts k).cl<(T.length:Int)
def Ez.top{ω:Int->Nat×Int}{ρ b:Int->Int}{t:Int×Int}(h:t.1=0):Ez z Q ω u ρ b C t:=by constructor<;>intro c<;>omega
def Ez.le(q:Tr.Ok z){ω:Int->Nat×Int}{ρ f:Int->Int}{s t:Int×Int}(h:Ez z Q ω u ρ f C s)(c:Zg z s t)(g:Tr.Arg z s.1 s.2)(j:Tr.Arg z t.1 t.2)(A:Vf z Q):Ez z Q ω u ρ f C t:=by
 rcases(Tr.fits_iff z s.1 s.2 t.1 t.2).1 c with ⟨h1,h2⟩|h1|⟨h1,h2⟩|⟨h1,h2,h3⟩
 ·have:s=t:=Bxd h1 h2;rw[<- this];exact h
 ·exact .top h1
 ·have:=h.null h2;exact⟨fun e=>Bd,fun e=>Bd,fun _=>by rw[this];exact⟨rfl,.inl rfl⟩,fun e=>Bd⟩
 obtain⟨a,b⟩:=h.ref h2;refine⟨fun e=>Bd,fun e=>Bd,fun _=>⟨a,?_⟩,fun e=>Bd⟩;rcases b with b|⟨l,B⟩
 ·exact .inl b
 obtain⟨D,F⟩:=A _ l;have m:s=(3,s.2):=Bxd h2 rfl;have p:t=(3,t.2):=Bxd h1 rfl;refine .inr ⟨l,Tr.fits_trans q (.inr (.inr (.inr (.inl ⟨rfl,D,F⟩)))) ?_ ?_ B ?_⟩
 ·rw[m]at g;exact g
 ·rw[p]at j;exact j
 rw[m,p]at c;exact c
def Cj.le(j:Tr.Ok z){ω:Int->Nat×Int}{ρ c:Int->Int}(m:Vf z Q){p:TP}(s:Da z q p):∀{a:TP},(∀t∈q,Tr.Arg z t.1 t.2)->(∀t∈p,Tr.Arg z t.1 t.2)->Cj (Ez z Q ω u ρ c) a q->Cj (Ez z Q ω u ρ c) a p:=by
 induction s using Da.el with
 | nil=>intro a _ _ h;exact h
 | cons f _ ih =>
  intro a e g h;cases h using Cj.el with
  | cons x y=>exact .cons (x.le j f (e _ Fr) (g _ Fr) m) (ih (fun t b=>e t (by simp[b])) (fun t b=>g t (by simp[b])) y)
structure L9(ts ts':List Do)(ω ω':Int->Nat × Int)(P:Nat × Int->Prop):Prop where
 len:ts.length<=ts'.length
 set:∀k:Int,0<=k->k<(ts.length:Int)->(Cc ts k).set=true->(Cc ts' k).set=true/\(Cc ts' k).cl=(Cc ts k).cl
 raw:∀k:Int,0<=k->k<(ts.length:Int)->(Cc ts k).set=false->¬P (ω k)->(Cc ts' k).set=false/\(Cc ts' k).cl=(Cc ts k).cl/\ω' k=ω k
def Ez.ext{j:List Do}{ω l:Int->Nat×Int}{P:Nat×Int->Prop}(e:L9 Q j ω l P){ρ m:Int->Int}{t:Int×Int}(h:Ez z Q ω u ρ m C t)(s:It Q.length C)(A:t.1=4->¬P (u,t.2)):Ez z j l u ρ m C t:=by
 refine⟨h.int,h.null,fun c=>?_,fun c=>?_⟩
 ·obtain⟨a,b⟩:=h.ref c;refine⟨a,?_⟩;rcases b with b|⟨B,D⟩
  ·exact .inl b
  have p:0<=C.2/\C.2<(Q.length:Int):=by
   rcases s with w|w | w
   ·rw[w]at a;simp at a
   ·omega
   exact w.2
  obtain⟨f,g⟩:=e.set C.2 p.1 p.2 B;exact .inr ⟨f,by rw[g];exact D⟩
 obtain⟨F,G,I,J,K,q⟩:=h.raw c;obtain⟨f,g,L⟩:=e.raw (ρ t.2) Bd I J (by rw[q];exact A c);have:=e.len;exact⟨F,G,Bd,f,by rw[g];exact K,by rw[L];exact q⟩
def Cj.ext{b:List Do}{ω c:Int->Nat×Int}{P:Nat×Int->Prop}(e:L9 Q b ω c P){ρ f:Int->Int}{a p:TP}(h:Cj (Ez z Q ω u ρ f) a p)(g:∀v∈a,It Q.length v)(j:∀q,¬P (u,q)):Cj (Ez z b c u ρ f) a p :=
 h.mono (fun v m t _ k=>k.ext e (g v m) (fun _=>j t.2))
def Bu7(f:Tr.Ok z){ω:Int->Nat×Int}{ρ g:Int->Int}{t:Int×Int}(j:Vf z Q)(h:Ez z Q ω u ρ g C t)(c:t.1=1\/t.1=3/\0<=t.2):J3 z Q C t=true:=by
 unfold J3;rcases c with c|⟨c,l⟩
 ·rw[Sp c];simp[h.int c]
 rw[Pf Bd];obtain⟨a,b⟩:=h.ref c;rw[Sp a];rcases b with b|⟨e,m⟩
 ·rw[Sp b]
 obtain⟨p,q⟩:=j _ e
 split
 ·rfl
 rw[e,(Tr.rbel_iff f p q l).2 (Tr.fits_ref.1 m)];rfl
def Bu3(f:Tr.Ok z){ω:Int->Nat×Int}{ρ g:Int->Int}{n:Int}(j:Vf z Q)(l:0<=n)(h:J3 z Q C (3,n)=true):Ez z Q ω u ρ g C (3,n):=by
 unfold J3 at h;rw[Pf Fr]at h;refine⟨fun e=>absurd e Fr,fun e=>absurd e Fr,fun _=>?_,fun e=>absurd e Fr⟩
 split at h
 ·next a =>
  refine⟨a,?_⟩
  split at h
  ·next b=>exact .inl b
  obtain⟨c,m⟩:=Bool.and_eq_true_iff.1 h;obtain⟨p,q⟩:=j _ c;exact .inr ⟨c,Tr.fits_ref.2 ((Tr.rbel_iff f p q l).1 m)⟩
 cases h
def Bov(c:Tr.Ok z){ω:Int->Nat×Int}{ρ e:Int->Int}(f:Vf z Q){a p:TP}(h:Cj (Ez z Q ω u ρ e) a p)(b:∀t∈p,t.1=1\/t.1=3/\0<=t.2):Hw z Q a p=true:=by
 induction h using Cj.el with
 | nil=>rfl
 | cons x _ ih =>
  unfold Hw;rw[Bu7 c f x (b _ Fr),ih (fun t g=>b t (by simp[g]))];rfl
def Ez.plain{ω b:Int->Nat×Int}{s:Nat}{ρ c f g:Int->Int}{t:Int×Int}(h:Ez z Q ω u ρ c C t)(j:t.1≠4):Ez z Q b s f g C t :=
 ⟨h.int,h.null,h.ref,fun e=>absurd e j⟩
def Cj.plain{ω b:Int->Nat×Int}{s:Nat}{ρ c e f:Int->Int}{a p:TP}(h:Cj (Ez z Q ω u ρ c) a p)(g:∀t∈p,t.1≠4):Cj (Ez z Q b s e f) a p :=
 h.mono (fun _ _ t j k=>k.plain (g t j))
def Hq (m:Rd.Mth)(q:Int):Int:=Cd.atI m.code (q+1)
structure Cr.Ok(E:Cr):Prop where
 k:Jj E.cs E.ms
 cd:∀m∈E.ms,0<m.code.length
 ck:∀m∈E.ms,(Kj E.cs E.ms m).1=0
 hd:∀j,j<E.ms.length->Ip E.T E.ms j (E.meth j)=true
 ins:∀v∈E.ins,-2147483648<=v/\v<=2147483647
abbrev Cr.F(E:Cr)(m:Nat)(p:Nat):Option Be:=Wt E.cs E.ms (E.meth m) p
def Cr.mem{E:Cr}{n:Nat}(h:n<E.ms.length):E.meth n∈E.ms:=by
 unfold Cr.meth;rw[Th,Ws h];exact Bvh h
structure Oa(E:Cr)(ts:List Do)(ω:Int->Nat × Int)(i:Nat)(ρ:Int->Int)(o:Ca)(x:Be):Prop where
 lo:Cj (Ez E.T ts ω i ρ (Hq (E.meth o.m))) o.lo x.locals
 st:Cj (Ez E.T ts ω i ρ (Hq (E.meth o.m))) o.st x.stack
def Fe (E:Cr)(ts:List Do)(ω:Int->Nat × Int)(i0:Int × Int)(i1:List Ca):Prop:=∀(P:Int × Int->List Ca->Prop),(∀(res:Int × Int),P res [])->(∀{res:Int × Int}{q:Ca}{r:List Ca} (ρ:Int->Int) (x:Be) (s:TP),q.m<E.ms.length->q.p∈Cd.places (E.meth q.m).code->E.F q.m q.p=some x->Dz ((E.meth q.m).code.getD q.p 0)=true->Fn E.cs E.ms (E.meth q.m) q.p x=some ⟨x.locals,s++Ei res⟩->Oa E ts ω r.length ρ q ⟨x.locals,s⟩->P (E.meth q.m).result r->P res (q::r))->P i0 i1
def Fe.nil{E:Cr}{ω:Int->Nat×Int}(b:Int×Int):Fe E Q ω b []:=fun P c e=>c b
def Fe.cons{E:Cr}{ω:Int->Nat×Int}{q:Ca}{r:List Ca}(ρ:Int->Int)(x:Be)(s:TP)(c:q.m<E.ms.length)(e:q.p∈Cd.places (E.meth q.m).code)(f:E.F q.m q.p=some x)(g:Dz ((E.meth q.m).code.getD q.p 0)=true)(h:Fn E.cs E.ms (E.meth q.m) q.p x=some ⟨x.locals,s++Ei C⟩)(i:Oa E Q ω r.length ρ q ⟨x.locals,s⟩)(j:Fe E Q ω (E.meth q.m).result r):Fe E Q ω C (q::r):=fun P l b=>b ρ x s c e f g h i (j P l b)
def Fe.el{E:Cr}{ts:List Do}{ω:Int->Nat×Int}{M:(i0:Int×Int)->(i1:List Ca)->Fe E ts ω i0 i1->Prop}(nil:∀(res:Int×Int),M res [] (Fe.nil res))(cons:∀{res:Int×Int}{q:Ca}{r:List Ca} (ρ:Int->Int) (x:Be) (s:TP) (q0:q.m<E.ms.length) (q1:q.p∈Cd.places (E.meth q.m).code) (q2:E.F q.m q.p=some x) (q3:Dz ((E.meth q.m).code.getD q.p 0)=true) (q4:Fn E.cs E.ms (E.meth q.m) q.p x=some ⟨x.locals,s++Ei res⟩) (q5:Oa E ts ω r.length ρ q ⟨x.locals,s⟩) (q6:Fe E ts ω (E.meth q.m).result r),M (E.meth q.m).result r q6->M res (q::r) (Fe.cons ρ x s q0 q1 q2 q3 q4 q5 q6)){i0:Int×Int}{i1:List Ca}(h:Fe E ts ω i0 i1):M i0 i1 h :=
 (h (fun i0 i1=>∃k:Fe E ts ω i0 i1,M i0 i1 k) (fun res=>⟨Fe.nil res,nil res⟩) (fun ρ x s q0 q1 q2 q3 q4 q5 ⟨q6,mq6⟩=>⟨Fe.cons ρ x s q0 q1 q2 q3 q4 q5 q6,cons ρ x s q0 q1 q2 q3 q4 q5 q6 mq6⟩)).elim fun _ m=>m
structure Buv(E:Cr)(ts:List Do)(ω:Int->Nat × Int)(o:Ca)(r:List Ca):Prop where
 m:o.m<E.ms.length
 p:o.p∈Cd.places (E.meth o.m).code
 ty:∃ρ x,E.F o.m o.p=some x/\Oa E ts ω r.length ρ o x
 w:Fe E ts ω (E.meth o.m).result r
structure Ky(E:Cr)(ts:List Do)(ω:Int->Nat × Int):Prop where
 six:6<=ts.length
 gv:∀k:Nat,1<=k->k<=5->ts[k]?=some ⟨(k:Int)+1,true,[]⟩
 z:ts[0]?=some Baf
 cl:∀k:Nat,0<k->k<ts.length->0<=(Cc ts k).cl/\(Cc ts k).cl<(E.T.length:Int)
 vs:∀k:Nat,k<ts.length->(Cc ts k).set=true->Cj (Ez E.T ts ω 0 id id) (Cc ts k).vals (E.all (Cc ts k).cl)
 un:∀k:Nat,k<ts.length->(Cc ts k).set=false->(Cc ts k).vals=[]
 wv:∀k:Nat,k<ts.length->∀v∈(Cc ts k).vals,It ts.length v
def Bc0 (n:Nat)(o:Ca):Prop:=(∀v∈o.lo,It n v)/\∀v∈o.st,It n v
structure Vq(E:Cr)(d:Cs)(ω:Int->Nat × Int)(o:Ca)(r:List Ca):Prop where
 os:d.os=o::r
 st:d.status = -1/\d.value=0
 hp:Ky E d.ts ω
 md:d.made+6=d.ts.length
 ws:∀q∈o::r,Bc0 d.ts.length q
 top:Buv E d.ts ω o r
def Ky.Cl{E:Cr}{ω:Int->Nat×Int}(h:Ky E Q ω):Vf E.T Q:=fun k b=>by
 have c:k.toNat<Q.length:=by
  by_cases g:k.toNat<Q.length;·exact g
  unfold Cc at b;rw[Th,Bwz Bd]at b;cases b
 by_cases g:0<k.toNat;·have:=h.cl k.toNat g c;unfold Cc at this ⊢;rw[Bvn]at this;exact this
 have e:k.toNat=0:=Bd;unfold Cc at b;rw[e,Th,h.z]at b;cases b
def Cr.Ok.sol{E:Cr}(b:E.Ok){F:Rd.Mth}(c:F∈E.ms):Tc (Ep E.cs E.ms F) (Wt E.cs E.ms F):=(Biu b.k c (b.cd F c) (b.ck F c)).1
def Cr.Ok.P{E:Cr}(b:E.Ok){F:Rd.Mth}(c:F∈E.ms){x:Be}(h:Wt E.cs E.ms F u=some x):J1 E.T F x:=(b.sol c).inv u x h
def Bqp{E:Cr}(f:E.Ok){ω:Int->Nat×Int}(h:Vf E.T Q)(D:u<E.ms.length){s:Nat}(G:s∈Cd.places (E.meth u).code){x:Be}(I:E.F u s=some x){y:Be}{b:Bool}(J:Fc (Ep E.cs E.ms (E.meth u)) s x c y b)(l:Ey E.T y) {j:Nat}{ρ:Int->Int}{o:Ca}(O:o.m=u)(t:o.p=c.toNat)(v:Oa E Q ω j ρ o y):0<=c/\(y.stack.length:Int)<=(E.meth u).stack/\o.p∈Cd.places (E.meth u).code/\∃z,E.F u o.p=some z/\Oa E Q ω j ρ o z:=by
 have A:=Cr.mem D;have S:=f.sol A;obtain⟨K,V,L,⟨z,e,B⟩,_⟩:=(S.sat s G x I).go c y b J;have C:=Nb (f.P A e);have N:c.toNat∈Cd.places (E.meth u).code:=by
  by_cases g:c.toNat∈Cd.places (E.meth u).code;·exact g
  unfold Wt at e;rw[Pf g]at e;cases e
 refine⟨K,L,by rw[t];exact N,z,by rw[t];exact e,?_⟩;exact⟨Cj.le f.k.ok h B.lo l.1 C.1 v.lo,Cj.le f.k.ok h B.st l.2 C.2 v.st⟩
def Btu{E:Cr}(A:E.Ok){ω:Int->Nat×Int}{ρ f:Int->Int}(C:Vf E.T Q){p b:TP}(h:Cj (Ez E.T Q ω u ρ f) q p)(D:∀t∈p,Tr.Arg E.T t.1 t.2)(j:∀t∈b,Tr.Arg E.T t.1 t.2)(c:Ig E.T p b=true):∃s a,q=s++a/\Cj (Ez E.T Q ω u ρ f) s (p.take (p.length-b.length))/\Cj (Ez E.T Q ω u ρ f) a b:=by
 unfold Ig at c;by_cases g:p.length<b.length;·rw[Sp g]at c;cases c
 rw[Pf g]at c;have e:=Bxm (p.length-b.length) p;rw[<- e]at h;obtain⟨s,a,rfl,B,F⟩:=h.split;refine⟨s,a,rfl,B,?_⟩;have m:∀t∈p.drop (p.length-b.length),Tr.Arg E.T t.1 t.2:=fun t h=>D t (Bxe h);have z:(p.drop (p.length-b.length)).length=b.length:=by rw[List.length_drop];omega
 generalize p.drop (p.length-b.length)=l at *;clear e B g h
 induction F using Cj.el generalizing b with
 | nil=>cases b with
  | nil=>exact .nil
  | cons _ _=>simp at z
 | cons v _ ih=>cases b with
  | nil=>simp at z
  | cons t b =>
   simp only[Nz,Bwk]at c;rw[Tr.rfits_eq A.k.ok (m _ Fr) (j _ Fr)]at c;exact .cons (v.le A.k.ok c.1 (m _ Fr) (j _ Fr) C) (ih (fun t h=>j t (by simp[h])) c.2 (fun t h=>m t (by simp[h])) (by simpa using z))
structure Gb(o:Ca)(c:Bh):Prop where
 m:c.meth=(o.m:Int)
 wf:Em c
 l8:o.lo.length<=8
 lo:∀j,j<o.lo.length->c.lo.getD j 0=(o.lo.getD j (0,0)).2
 h:c.h=o.st.length
 st:c.st.take c.h=o.st.map Prod.snd
def Gb.at{o:Ca}{c:Bh}(h:Gb o c)(p:Nat):Gb ⟨o.m,p,o.lo,o.st⟩ c:=⟨h.m,h.wf,h.l8,h.lo,h.h,h.st⟩
def Gb.moved{o:Ca}{c:Bh}(h:Gb o c)(a b:Nat):Gb o ⟨c.meth,a,b,c.lo,c.st,c.h⟩:=⟨h.m,⟨h.wf.lo,h.wf.st,h.wf.h⟩,h.l8,h.lo,h.h,h.st⟩
def Ox{o:Ca}{c:Bh}(h:Gb o c)(v:Int×Int)(i:o.st.length<8):Gb ⟨o.m,o.p,o.lo,o.st++[v]⟩ (En v.2 c):=by
 have b:¬8<=c.h:=by rw[h.h];omega
 have e:En v.2 c=⟨c.meth,c.pos,c.next,c.lo,c.st.set c.h v.2,c.h+1⟩:=by unfold En;rw[Pf b]
 refine⟨by rw[e];exact h.m,Md h.wf _,h.l8,fun j f=>by rw[e];exact h.lo j f,by rw[e];simp[h.h],?_⟩;rw[e];have:=h.wf.st;rw[Bvx,<- h.st];apply Bzy;intro j;simp only[Bww,Bxi,List.getElem?_append,Bxf,Bwm,Byz];by_cases g:j<c.h;·rw[Sp Bd,Pf Bd,Sp Bd,Sp g]
 by_cases g2:j=c.h;·subst g2;rw[Sp Bd,Sp rfl,Sp Bd,Pf Bd];simp[Bx5 (show c.h<=c.st.length by omega)]
 rw[Pf Bd,Pf Bd];rw[Bwz];simp;omega
def Pt{o:Ca}{c:Bh}(h:Gb o c){s:TP}{v:Int×Int}(e:o.st=s++[v]):(Bw c).1=v.2/\Gb ⟨o.m,o.p,o.lo,s⟩ (Bw c).2/\(Bw c).2.pos=c.pos/\(Bw c).2.next=c.next:=by
 have b:c.h=s.length+1:=by rw[h.h,e];simp
 have g:Bw c=(c.st.getD (c.h-1) 0,⟨c.meth,c.pos,c.next,c.lo,c.st,c.h-1⟩):=by unfold Bw;rw[Pf Bd]
 have f:=h.st;rw[e,Bvx,b]at f;have j:=h.wf.st;have q:=h.wf.h;rw[g];refine⟨?_,⟨h.m,⟨h.wf.lo,h.wf.st,by show c.h-1<=8;omega⟩,h.l8,h.lo,by show c.h-1=s.length;omega,?_⟩,rfl,rfl⟩
 ·show c.st.getD (c.h-1) 0=v.2;have:=congrArg (fun l=>l[s.length]?) f;simp only[Bww]at this;rw[Sp Bd,Bvt Fr]at this;simp only[Bvr,Byx,Bwm,Bxq]at this;rw[b,Bzr,Th,this];rfl
 show c.st.take (c.h-1)=s.map Prod.snd;have i:(s.map Prod.snd++[v].map Prod.snd).take s.length=s.map Prod.snd:=by
  rw[Byg Fr];exact Bv0 Fr
 have:=congrArg (List.take s.length) f;rw[i,Bxu,Bx5 Bd]at this;rw[b,Bzr,this]
def Yn:∀(n:Nat) {o:Ca}{c:Bh} (_:Gb o c) {s a:TP} (_:o.st=s++a) (_:a.length=n),(D6 n c).1=a.map Prod.snd/\Gb ⟨o.m,o.p,o.lo,s⟩ (D6 n c).2/\(D6 n c).2.pos=c.pos/\(D6 n c).2.next=c.next
 | 0,o,c,h,s,a,e,hn=>by
  obtain rfl:=Bwc hn;rw[Bxl]at e;refine⟨rfl,?_,rfl,rfl⟩;rw[<- e];exact h
 | n+1,o,c,h,s,a,e,hn=>by
  obtain⟨b,v,rfl⟩:∃b v,a=b++[v]:=by
   rcases List.eq_nil_or_concat a with rfl|⟨b,v,rfl⟩
   ·simp at hn
   exact⟨b,v,Fr⟩
  have f:b.length=n:=by simpa using hn
  obtain⟨g,i,j,l⟩:=Pt h (s:=s++b) (v:=v) (by rw[e];simp);obtain⟨q,t,z,A⟩:=Yn n i (s:=s) (a:=b) rfl f;unfold D6;refine⟨by simp only;rw[q,g];simp,t,z.trans j,A.trans l⟩
def Br5{o:Ca}{c:Bh}(h:Gb o c){n:Int}(b:0<=n)(e:n<(o.lo.length:Int)):Wq n c=(o.lo.getD n.toNat (0,0)).2:=by
 have:=h.l8;unfold Wq;rw[Pf Bd,Pf Bd];exact h.lo _ Bd
def Bkb{o:Ca}{c:Bh}(h:Gb o c){n:Int}(i:0<=n)(l:n<(o.lo.length:Int))(v:Int×Int):Gb ⟨o.m,o.p,o.lo.set n.toNat v,o.st⟩ (Ff n v.2 c)/\(Ff n v.2 c).pos=c.pos/\(Ff n v.2 c).next=c.next:=by
 have:=h.l8;have q:=h.wf.lo;have e:Ff n v.2 c=⟨c.meth,c.pos,c.next,c.lo.set n.toNat v.2,c.st,c.h⟩:=by unfold Ff;rw[Pf Bd,Pf Bd]
 refine⟨⟨by rw[e];exact h.m,Wz h.wf _ _,by simpa using h.l8,fun j b=>?_,by rw[e];exact h.h,by rw[e];exact h.st⟩,by rw[e],by rw[e]⟩;rw[Bv7]at b;rw[e];have f:=h.lo j b;rw[Th,Th]at f ⊢;show ((c.lo.set n.toNat v.2)[j]?).getD 0=_;rw[Bxi,Bxi];by_cases g:n.toNat=j;·rw[Sp g,Sp g,Sp Bd,Sp Bd];rfl
 rw[Pf g,Pf g];exact f
def Bjp:∀(b:TI) (i:Nat) (c:Bh),c.lo.length=8->i+b.length<=8->∀j,(La i b c).lo.getD j 0=if i<=j/\j<i+b.length then b.getD (j-i) 0 else c.lo.getD j 0
 | [],i,c,_,_,j=>by rw[Pf (fun h=>by simp only[Bwn]at h;omega)];rfl
 | v::r,i,c,hc,hi,j=>by
  have e:Ff (i:Int) v c=⟨c.meth,c.pos,c.next,c.lo.set i v,c.st,c.h⟩:=by
   unfold Ff;simp only[Bvo]at hi;rw[Pf Bd,Pf Bd,Bvn]
  simp only[Bvo]at hi;unfold La;rw[Bjp r (i+1) _ (by rw[e];simpa using hc) Bd j,e];simp only[Bvo];by_cases g:i<=j/\j<i+(r.length+1)
  ·rw[Sp g];by_cases g2:j=i;·subst g2;rw[Pf Bd,Byx,Th,Bx2 Bd];rfl
   rw[Sp Bd,show j-i=(j-(i+1))+1 by omega];rfl
  rw[Pf g,Pf Bd,Th,Bxw Bd,<- Th]
def W5:∀(f:TI) (i:Nat) (c:Bh),(La i f c).meth=c.meth/\(La i f c).st=c.st/\(La i f c).h=c.h
 | [],_,_=>⟨rfl,rfl,rfl⟩
 | v::r,i,c=>by
  obtain⟨a,b,d⟩:=W5 r (i+1) (Ff (i:Int) v c);have e:(Ff (i:Int) v c).meth=c.meth/\(Ff (i:Int) v c).st=c.st/\(Ff (i:Int) v c).h=c.h:=by
   unfold Ff
   split<;>first|exact⟨rfl,rfl,rfl⟩|(split<;>exact⟨rfl,rfl,rfl⟩)
  unfold La;exact⟨a.trans e.1,b.trans e.2.1,d.trans e.2.2⟩
def Bi8(E:Cr)(n:Nat)(a:TP)(c:(a.length:Int)<=(E.meth n).locals)(e:(E.meth n).locals<=8):Gb (Hv E n a) (Cn (n:Int) (a.map Prod.snd))/\(Cn (n:Int) (a.map Prod.snd)).next=0:=by
 refine⟨⟨?_,Sq _ _,?_,fun j b=>?_,?_,?_⟩,V0 _ _⟩
 ·exact(W5 _ 0 _).1
 ·unfold Hv;simp;omega
 ·have:=Bjp (a.map Prod.snd) 0 ⟨(n:Int),0,0,Iz,Iz,0⟩ rfl Fm j;unfold Cn;rw[this];unfold Hv at b ⊢;simp only[Up,B0q]at b;simp only[Bv5,Byl,Bvp,Bvr,Nat.sub_zero];by_cases g:j<a.length
  ·rw[Sp g,Th,Bv8,Th,Bvy g];cases h:a[j]? with
   | none=>rfl
   | some v=>rfl
  rw[Pf g,Th (l:=a++_),Bvt Bd,By4,Sp Bd];show Iz.getD j 0=0;have:j<8:=Bd
  match j,this with
  | 0,_=>rfl
  | 1,_=>rfl
  | 2,_=>rfl
  | 3,_=>rfl
  | 4,_=>rfl
  | 5,_=>rfl
  | 6,_=>rfl
  | 7,_=>rfl
 ·exact(W5 _ 0 _).2.2
 rw[show (Cn (n:Int) (a.map Prod.snd)).h=0 from (W5 _ 0 _).2.2];rfl
structure Wl(E:Cr)(d:Cs):Prop where
 os:d.os.length<=800
 each:∀q∈d.os,q.m<E.ms.length/\q.st.length<=800
 top:∀q r,d.os=q::r->q.p∈Cd.places (E.meth q.m).code
 ts:d.ts.length<=800
 md:d.made<=800
 out:d.out.length<=80000
 st:d.steps<=80000
def Gm (E:Cr)(fuel:Nat)(i0:Cs)(i1:Cs):Prop:=∀(P:Cs->Cs->Prop),(∀(d:Cs),0<=d.status->P d d)->(∀(d:Cs),d.status = -1->fuel<=d.steps->P d ⟨d.os,d.ts,d.made,d.read,d.out,d.steps,1,d.value⟩)->(∀(d d' e:Cs),d.status = -1->d.steps<fuel->Wl E d->Gh E d d'->P d' e->P d e)->P i0 i1
def Gm.done{E:Cr}(d:Cs)(b:0<=d.status):Gm E u d d:=fun P c e f=>c d b
def Gm.out{E:Cr}(d:Cs)(b:d.status = -1)(c:u<=d.steps):Gm E u d ⟨d.os,d.ts,d.made,d.read,d.out,d.steps,1,d.value⟩:=fun P f e g=>e d b c
def Gm.step{E:Cr}(d d' e:Cs)(c:d.status = -1)(f:d.steps<u)(g:Wl E d)(h:Gh E d d')(i:Gm E u d' e):Gm E u d e:=fun P j l b=>b d d' e c f g h (i P j l b)
def Gm.el{E:Cr}{fuel:Nat}{M:(i0:Cs)->(i1:Cs)->Gm E fuel i0 i1->Prop}(done:∀(d:Cs) (q0:0<=d.status),M d d (Gm.done d q0))(out:∀(d:Cs) (q0:d.status = -1) (q1:fuel<=d.steps),M d ⟨d.os,d.ts,d.made,d.read,d.out,d.steps,1,d.value⟩ (Gm.out d q0 q1))(step:∀(d d' e:Cs) (q0:d.status = -1) (q1:d.steps<fuel) (q2:Wl E d) (q3:Gh E d d') (q4:Gm E fuel d' e),M d' e q4->M d e (Gm.step d d' e q0 q1 q2 q3 q4)){i0:Cs}{i1:Cs}(h:Gm E fuel i0 i1):M i0 i1 h :=
 (h (fun i0 i1=>∃k:Gm E fuel i0 i1,M i0 i1 k) (fun d q0=>⟨Gm.done d q0,done d q0⟩) (fun d q0 q1=>⟨Gm.out d q0 q1,out d q0 q1⟩) (fun d d' e q0 q1 q2 q3 ⟨q4,mq4⟩=>⟨Gm.step d d' e q0 q1 q2 q3 q4,step d d' e q0 q1 q2 q3 q4 mq4⟩)).elim fun _ m=>m
def N9:List Do:=[Baf,⟨2,true,[]⟩,⟨3,true,[]⟩,⟨4,true,[]⟩,⟨5,true,[]⟩,⟨6,true,[]⟩]
def Zb (E:Cr)(k:Nat):Cs:=⟨[Hv E k []],N9,0,0,[],0,-1,0⟩
def Bhq(h:Tr.Ok z){a B:Int}(c:0<=B)(f:a<(z.length:Int)):Tr.At z a B<->∃j,Tr.itr z j a=B:=by
 unfold Tr.At;rw[Tr.below_iff h c f]
 constructor
 ·rintro (e|⟨j,e⟩)
  ·exact⟨0,e.symm⟩
  exact⟨j+1,e⟩
 rintro ⟨j,e⟩;cases j with
 | zero=>exact .inl e.symm
 | succ j=>exact .inr ⟨j,e⟩
def Bln(h:Tr.Ok z){a B:Int}(c:0<=B)(e:a<(z.length:Int))(k:Tr.At z a B):B<=a:=by
 rcases k with rfl|k
 ·exact Byo _
 have:=Tr.below_lt h c e k;omega
def Bjt(h:Tr.Ok z){B d:Int}(p:0<=d)(e:0<=B)(f:c<(z.length:Int))(s:Tr.At z c B)(v:d<=B):Tr.At z c d<->Tr.At z B d:=by
 obtain⟨i,m⟩:=(Bhq h e f).1 s;have:=Bln h e f s;rw[Bhq h p f,Bhq h p Bd]
 constructor
 ·rintro ⟨j,b⟩;by_cases g:i<=j;·refine⟨j-i,?_⟩;rw[<- m,<- Tr.itr_add,show i+(j-i)=j by omega];exact b
  have t:=Tr.itr_add z j (i-j) c;rw[show j+(i-j)=i by omega,m,b]at t;have A:=Tr.itr_down h (i-j) d (by rw[<- t];exact e);omega
 rintro ⟨j,b⟩;exact⟨i+j,by rw[Tr.itr_add,m];exact b⟩
def Bcx(b:Tr.Ok z)(i:List Rd.Cls){B:Int}(j:0<=c)(f:c<(z.length:Int))(g:0<=B)(h:Tr.At z c B):∀d:Nat,(d:Int)<=B+1->Rf.allTo z i c d=Rf.allTo z i B d
 | 0,_=>rfl
 | d+1,hd=>by
  have:=Bln b g f h;have e:Tr.rbel z c (d:Int)=Tr.rbel z B (d:Int):=Bool.eq_iff_iff.2 (by
   rw[Tr.rbel_iff b j f Bd,Tr.rbel_iff b g Bd Bd];exact Bjt b Bd g f h Bd)
  rw[Rf.allTo,Rf.allTo,Bcx b i j f g h d Bd,e]
def Bcw(T:TI)(b:List Rd.Cls)(c:Int)(d:Nat):∀e:Nat,∃x,Rf.allTo T b c (d+e)=Rf.allTo T b c d++x
 | 0=>⟨[],Fr⟩
 | e+1=>by
  obtain⟨x,f⟩:=Bcw T b c d e;exact⟨x++_,by rw[<- Byc,Rf.allTo,f,Bwe]⟩
def Bs9(f:Tr.Ok z)(b:List Rd.Cls){B:Int}(g:0<=c)(i:c<(z.length:Int))(e:0<=B)(h:Tr.At z c B):∃x,Rf.all z b c.toNat=Rf.all z b B.toNat++x:=by
 have:=Bln f e i h;unfold Rf.all;rw[Bwo g,Bwo e,<- Bcx f b g i e h (B.toNat+1) Bd];obtain⟨x,j⟩:=Bcw z b c (B.toNat+1) (c.toNat-B.toNat);exact⟨x,by rw[<- j];congr 1;omega⟩
def Yx(b:List Rd.Cls):(Rf.given++b).length=(Tr.tree b).length:=by simp[Tr.tree,Rf.given,Tr.given]
def Bum{b:List Rd.Cls}(e:Tr.Ok (Tr.tree b)){n:Nat}(f:n<(Cq b).length):∃q:Nat,q<(Tr.tree b).length/\((Cq b).getD n ⟨0,0,(0,0)⟩).owner=(q:Int)/\∃z:Nat,((Cq b).getD n ⟨0,0,(0,0)⟩).slot=(z:Int)/\Je (Tr.tree b) (Oj b) (n:Int)=(z:Int) /\ ∀c:Int,0<=c->c<((Tr.tree b).length:Int)->Tr.At (Tr.tree b) c (q:Int)->z<(Rf.all (Tr.tree b) (Rf.given++b) c.toNat).length/\(Rf.all (Tr.tree b) (Rf.given++b) c.toNat).getD z (0,0)=((Cq b).getD n ⟨0,0,(0,0)⟩).t:=by
 have m:=Yx b;have p:(Rf.given++b).length-7=b.length:=by simp[Rf.given]
 unfold Cq at f ⊢;rw[<- p]at f ⊢;obtain⟨q,G,I,i,s,v,A,B⟩:=Bgj (Tr.tree b) (Rf.given++b) (by simp[Rf.given]) (Pd b) n f;rw[B];have g:q<(Tr.tree b).length:=Bd;have h:Rf.all (Tr.tree b) (Rf.given++b) q=Rf.allTo (Tr.tree b) (Rf.given++b) (q:Int) q++((Rf.given++b).getD q ⟨0,[]⟩).fields:=by
  unfold Rf.all;rw[Rf.allTo,Sp ((Tr.rbel_iff e Bd Bd Bd).2 (.inl rfl))]
 have j:((Rf.all (Tr.tree b) (Rf.given++b) q).length:Int)-((((Rf.given++b).getD q ⟨0,[]⟩).fields.length:Nat):Int)+(i:Int)=(((Rf.allTo (Tr.tree b) (Rf.given++b) (q:Int) q).length+i:Nat):Int):=by
  rw[h,Up];push_cast;omega
 refine⟨q,g,rfl,_,j,?_,fun c C D F=>?_⟩
 ·unfold Je Oj;rw[v];simp only;rw[Pf Bd,A,Xm e _ m g];exact j
 obtain⟨x,l⟩:=Bs9 e (Rf.given++b) C D Bd F;rw[Bvn]at l;rw[l,h,Bwe];refine⟨by rw[Up,Up];omega,?_⟩;rw[Th,Bvt Bd,Bxr,Bvy s,<- Th]
def Ng (t:Do):Int × List Int:=(t.cl,t.vals.map Prod.snd)
abbrev Cr.M(E:Cr):Ds:=Yc E.cs E.ms E.ins E.heap E.depth
def Vp (E:Cr)(q:Ca)(c:Bh):Prop:=Gb q c/\c.pos=q.p/\c.next=Ch E q
structure Jd(E:Cr)(d:Cs)(o:Ca)(r:List Ca)(S:Bo):Prop where
 read:S.read=d.read
 objs:S.objs=d.ts.tail.map Ng
 now:Gb o S.now
 wait:Cj (Vp E) r S.wait.reverse
 en:S.ended=false
 out:S.out=d.out
 steps:S.steps=d.steps
def He (E:Cr)(d:Cs)(S:Bo):Prop:=∀(P:Prop),(∀(ω:Int->Nat × Int) (o:Ca) (r:List Ca),Vq E d ω o r->Jd E d o r S->S.now.next=o.p->P)->(S.ended=true->0<=d.status->S.status=d.status->S.value=d.value->S.out=d.out->S.steps=d.steps->P)->P 
def He.on{E:Cr}{d:Cs}{S:Bo}(ω:Int->Nat×Int)(o:Ca)(r:List Ca)(b:Vq E d ω o r)(c:Jd E d o r S)(e:S.now.next=o.p):He E d S:=fun P f g=>f ω o r b c e
def He.off{E:Cr}{d:Cs}{S:Bo}(b:S.ended=true)(c:0<=d.status)(e:S.status=d.status)(f:S.value=d.value)(g:S.out=d.out)(h:S.steps=d.steps):He E d S:=fun P j i=>i b c e f g h
def He.el{E:Cr}{d:Cs}{S:Bo}{M:He E d S->Prop}(on:∀(ω:Int->Nat×Int) (o:Ca) (r:List Ca),Vq E d ω o r->Jd E d o r S->S.now.next=o.p->∀h,M h)(off:S.ended=true->0<=d.status->S.status=d.status->S.value=d.value->S.out=d.out->S.steps=d.steps->∀h,M h)(h:He E d S ):M h:=h (∀h,M h) on off h
section
variable {E:Cr}{d:Cs}{ω:Int→Nat × Int}{o:Ca}{r:List Ca}{S:Bo}
def X7{n:Nat}(h:n<E.ms.length):E.M.meth (n:Int)=E.meth n:=by
 have e:E.M.ms=E.ms:=rfl;unfold Ds.meth Cr.meth;rw[Pf Bd,e,Pf Bd];rfl
def Cr.Ok.env(b:E.Ok){F:Rd.Mth}(c:F∈E.ms):(Ep E.cs E.ms F).Good:=Wd b.k c (b.cd F c)
def Bfq{ts:List Do}{k:Int}(b:0<k)(c:k<(ts.length:Int)):Nl k (ts.tail.map Ng)=true/\Mv k (ts.tail.map Ng)=Ng (Cc ts k):=by
 unfold Nl Mv Cc;refine⟨Fm,?_⟩;rw[Th,Bv8,List.getElem?_tail,show (k-1).toNat+1=k.toNat by omega,Th,Ws Bd];rfl
def Blf{k:Int}(c:0<k)(e:k<(Q.length:Int)):Id k (Q.tail.map Ng)=(Cc Q k).cl:=by
 obtain⟨a,b⟩:=Bfq c e;unfold Id;rw[Sp a,b];rfl
def Bn3(e:Tr.Ok z)(f:0<=c)(i:c<(z.length:Int))(p:Nat):∀(b:List Rd.Hnd),(∀h∈b,0<=h.cl)->Hy z c p b=(Gz z c p b).map Int.toNat
 | [],_=>rfl
 | h::l,hh=>by
  unfold Hy Gz;rw[U9 e f i (hh h Fr),Bn3 e f i p l (fun x j=>hh x (by simp[j]))];unfold El;by_cases g:h.frm<=(p:Int)/\(p:Int)<h.til/\Tr.rbel z c h.cl=true;·rw[Sp g,Sp (by simp[g])];rfl
  rw[Pf g,Pf (by simp only[Bwk,Bwp];exact fun k=>g ⟨k.1.1,k.1.2,k.2⟩)]
def Bep{B:Int}{b:List Rd.Hnd}(h:Gz z c u b=some B):∃x∈b,El x (u:Int)=true/\Tr.rbel z c x.cl=true/\x.target=B:=by
 induction b with
 | nil=>cases h
 | cons x l ih =>
  unfold Gz at h;by_cases g:x.frm<=(u:Int)/\(u:Int)<x.til/\Tr.rbel z c x.cl=true;·rw[Sp g]at h;exact⟨x,Fr,by unfold El;simp[g],g.2.2,Option.some.inj h⟩
  rw[Pf g]at h;obtain⟨y,e,f⟩:=ih h;exact⟨y,by simp[e],f⟩
def Bpn{c:Bh}(h:Gb o c)(n:Int)(t:Nat):Gb ⟨o.m,t,o.lo,[(2,n)]⟩ (P4 n t c):=by
 refine⟨h.m,⟨h.wf.lo,by simp[P4,h.wf.st],by simp[P4]⟩,h.l8,h.lo,rfl,?_⟩;have:=h.wf.st;show (c.st.set 0 n).take 1=[n];cases e:c.st with
 | nil=>rw[e]at this;simp at this
 | cons a l=>rfl
def L9.refl(b:List Do)(ω:Int->Nat×Int)(P:Nat×Int->Prop):L9 b b ω ω P:=⟨Wf _,fun _ _ _ h=>⟨h,rfl⟩,fun _ _ _ h _=>⟨h,rfl,rfl⟩⟩
def Fe.ext{c:List Do}{f:Int->Nat×Int}(e:L9 Q c ω f (fun z=>z.1=u))(h:Fe E Q ω C r):r.length<=u->(∀q∈r,Bc0 Q.length q)->Fe E c f C r:=by
 induction h using Fe.el with
 | nil C=>exact fun _ _=>.nil C
 | @cons C q r ρ x s h1 h2 h3 h4 h5 h6 _ ih =>
  intro g b;have j:∀i:Int,¬(r.length,i).1=u:=fun i=>by
   simp only[Bvo]at g;show ¬r.length=u;omega
  exact .cons ρ x s h1 h2 h3 h4 h5 ⟨h6.lo.ext e (b q Fr).1 j,h6.st.ext e (b q Fr).2 j⟩ (ih (by simp only[Bvo]at g;omega) (fun q l=>b q (by simp[l])))
structure Rs(E:Cr)(ts:List Do)(ω:Int->Nat × Int)(i:Nat)(o:Ca):Prop where
 m:o.m<E.ms.length
 p:o.p∈Cd.places (E.meth o.m).code
 lo:∃ρ x,E.F o.m o.p=some x/\Cj (Ez E.T ts ω i ρ (Hq (E.meth o.m))) o.lo x.locals
def Rs.room(b:E.Ok){i:Nat}(h:Rs E Q ω i o)(e:Gz E.T c o.p (E.meth o.m).handlers≠none):1<=(E.meth o.m).stack:=by
 obtain⟨ρ,x,f,_⟩:=h.lo;obtain⟨t,g⟩:=Option.ne_none_iff_exists'.1 e;obtain⟨y,j,l,_,_⟩:=Bep g;obtain⟨_,_,a,_⟩:=((b.sol (Cr.mem h.m)).sat o.p h.p x f).go _ _ _ (Fc.hnd y j l);exact a
def Fe.stood(h:Fe E Q ω C r):∀q∈r,∃i,Rs E Q ω i q:=by
 induction h using Fe.el with
 | nil=>simp
 | @cons C q r ρ x s h1 h2 h3 h4 h5 h6 _ ih =>
  intro z b;rcases List.mem_cons.1 b with rfl|b
  ·exact⟨_,h1,h2,ρ,x,h3,h6.lo⟩
  exact ih z b
def Bf0(e:E.Ok)(f:Rs E Q ω u o)(g:0<=c)(j:c<(E.T.length:Int)){b:Bh}(l:b.meth=(o.m:Int))(q:b.pos=o.p):E.M.target c b=(Gz E.T c o.p (E.meth o.m).handlers).map Int.toNat:=by
 unfold Ds.target;rw[q,l,X7 f.m];exact Bn3 e.k.ok g j o.p _ (fun h s=>by rcases((e.env (Cr.mem f.m)).hnd h s).2.2.2 with a | a | a | a | a<;>omega)
def Be1(f:E.Ok)(g:Ky E d.ts ω)(D:d.status = -1/\d.value=0)(F:d.made+6=d.ts.length)(h0:0<c)(G:c<(d.ts.length:Int))(j:(Cc d.ts c).set=true)(b:Rs E d.ts ω r.length o)(I:Fe E d.ts ω (E.meth o.m).result r)(l:∀q∈o::r,Bc0 d.ts.length q)(H:Jd E d o r S){B:Int}(J:Gz E.T (Cc d.ts c).cl o.p (E.meth o.m).handlers=some B):He E ⟨⟨o.m,B.toNat,o.lo,[(2,c)]⟩::r,d.ts,d.made,d.read,d.out,d.steps,d.status,d.value⟩ (S.withNow (P4 c B.toNat S.now)):=by
 obtain⟨K,L⟩:=g.Cl _ j;obtain⟨y,s,N,O,rfl⟩:=Bep J;obtain⟨ρ,x,A,Q⟩:=b.lo;have C:=((f.env (Cr.mem b.m)).hnd y s).2.2.2;have V:0<=y.cl:=by rcases C with a|a | a | a | a<;>omega
 have Y:=Nb (f.P (Cr.mem b.m) A);have h:Ez E.T d.ts ω r.length ρ (Hq (E.meth o.m)) (2,c) (3,y.cl) :=
  ⟨fun e=>absurd e Fr,fun e=>absurd e Fr,fun _=>⟨rfl,.inr ⟨j,Tr.fits_ref.2 ((Tr.rbel_iff f.k.ok K L V).1 O)⟩⟩,fun e=>absurd e Fr⟩
 obtain⟨_,_,Z,zf,a4,a5⟩:=Bqp f g.Cl b.m b.p A (Fc.hnd y s N) ⟨Y.1,fun u hu=>by rw[List.mem_singleton.1 hu];exact C⟩ (o:=⟨o.m,y.target.toNat,o.lo,[(2,c)]⟩) rfl rfl ⟨Q,.cons h .nil⟩;refine .on ω _ r ⟨rfl,D,g,F,fun q i=>?_,⟨b.m,Z,⟨ρ,zf,a4,a5⟩,I⟩⟩ ⟨H.read,H.objs,Bpn H.now c _,H.wait,H.en,H.out,H.steps⟩ rfl;rcases List.mem_cons.1 i with rfl|i
 ·exact⟨(l o Fr).1,fun v h=>by rw[List.mem_singleton.1 h];exact .inr (.inr ⟨rfl,Bd,G⟩)⟩
 exact l q (by simp[i])
def Blj(j:E.Ok)(B:Ky E d.ts ω)(F:d.status = -1/\d.value=0)(G:d.made+6=d.ts.length)(I:0<c)(J:c<(d.ts.length:Int))(C:(Cc d.ts c).set=true):∀(r:List Ca) (o:Ca) (S:Bo),Rs E d.ts ω r.length o->Fe E d.ts ω (E.meth o.m).result r->(∀q∈o::r,Bc0 d.ts.length q)->Jd E d o r S->S.now.pos=o.p->He E (Ga E c (Cc d.ts c).cl d (o::r)) (Jx E.M c (Cc d.ts c).cl (r.length+1) S):=by
 obtain⟨K,L⟩:=B.Cl _ C;intro r
 induction r with
 | nil =>
  intro o S g v A H D;have e:=Bf0 j g K L H.now.m D;unfold Ga Jx;rw[e];cases i:Gz E.T (Cc d.ts c).cl o.p (E.meth o.m).handlers with
  | some z=>exact Be1 j B F G I J C g v A H i
  | none =>
   have N:S.wait.reverse=[]:=by
    have:=H.wait.len;exact Bwc this.symm
   rw[List.reverse_eq_nil_iff]at N;simp only[Option.map_none,N,List.getLast?_nil];exact .off rfl (by show (0:Int)<=2;omega) rfl rfl H.out H.steps
 | cons q r ih =>
  intro o S g v A H D;have e:=Bf0 j g K L H.now.m D;unfold Ga Jx;rw[e];cases i:Gz E.T (Cc d.ts c).cl o.p (E.meth o.m).handlers with
  | some z=>exact Be1 j B F G I J C g v A H i
  | none =>
   obtain⟨f,l,Q,O,V⟩:∃f l,S.wait.reverse=f::l/\Vp E q f/\Cj (Vp E) r l:=by
    have:=H.wait;cases h:S.wait.reverse with
    | nil=>rw[h]at this;cases this using Cj.el
    | cons f l=>rw[h]at this;cases this using Cj.el with
     | cons a b=>exact⟨f,l,rfl,a,b⟩
   have Y:S.wait=l.reverse++[f]:=by rw[<- B0x S.wait,Q,Bxj]
   simp only[Option.map_none,Y,B0y,B0b,Option.some_or,B0z];cases v using Fe.el with
   | cons ρ x s h1 h2 h3 h4 h5 h6 h7 =>
    exact ih q _ ⟨h1,h2,ρ,x,h3,h6.lo⟩ h7 (fun z i=>A z (by simp[i])) ⟨H.read,H.objs,O.1,by simpa using V,H.en,H.out,H.steps⟩ O.2.1
end
structure Cz(E:Cr)(d:Cs)(ω:Int->Nat × Int)(o:Ca)(r:List Ca)(S:Bo)(ρ:Int->Int)(x y:Be)(op n:Int):Prop where
 ok:E.Ok
 g:Vq E d ω o r
 s:Jd E d o r S
 pos:S.now.pos=o.p
 nx:S.now.next=Ch E o
 fx:E.F o.m o.p=some x
 ty:Oa E d.ts ω r.length ρ o x
 eo:(E.meth o.m).code.getD o.p 0=op
 en:Cd.atI (E.meth o.m).code ((o.p:Int)+1)=n
 mv:Ik E.T (Cq E.cs) E.ms E.all (Hq (E.meth o.m)) (E.meth o.m).result (o.p:Int) op n x=some y
 hi:(y.stack.length:Int)<=(E.meth o.m).stack
def Bti (E:Cr)(d:Cs)(o:Ca)(r:List Ca)(op n:Int)(d':Cs):Prop:=∃s a,o.st=s++a/\Hw E.T d.ts a (Cu (Cq E.cs) E.ms (E.meth o.m).result op n)=true /\
 ((∃t:Nat,0<t/\t<d.ts.length/\Dn E d op n a=(t:Int)/\d'=Ga E (t:Int) (Cc d.ts t).cl d (⟨o.m,o.p,o.lo,s⟩::r)) \/
  (Dn E d op n a=0/\Bp E (d.top ⟨o.m,o.p,o.lo,s⟩ r) ⟨o.m,o.p,o.lo,s⟩ r op n a d'))
def Gi (E:Cr)(d:Cs)(o:Ca)(r:List Ca)(op n:Int)(S':Bo):Prop:=∃d',Bti E d o r op n d'/\He E d' S'
section
variable {E:Cr}{d:Cs}{ω:Int→Nat × Int}{o:Ca}{r:List Ca}{S:Bo}{ρ:Int→Int}{x y:Be}{op n:Int}
def Cz.mem(h:Cz E d ω o r S ρ x y op n):E.meth o.m∈E.ms:=Cr.mem h.g.top.m
def Cz.good(h:Cz E d ω o r S ρ x y op n):Ra E.T (Cd.fieldSum E.cs:Int) E.ms (E.meth o.m):=h.ok.k.mt _ h.mem
def Cz.P(h:Cz E d ω o r S ρ x y op n):J1 E.T (E.meth o.m) x:=h.ok.P h.mem h.fx
def Cz.num(h:Cz E d ω o r S ρ x y op n):Yg E.T (Cd.fieldSum E.cs:Int) E.ms (E.meth o.m) op n:=by
 have:=X2 h.good h.g.top.p;rw[h.eo,h.en]at this;exact this
def Cz.rl(h:Cz E d ω o r S ρ x y op n):Fn E.cs E.ms (E.meth o.m) o.p x=some y:=by
 unfold Fn Gt;rw[h.eo,h.en];have e:Ik (Tr.tree E.cs) (Cq E.cs) E.ms (fun c=>Rf.all (Tr.tree E.cs) (Rf.given++E.cs) c.toNat) (fun q=>Cd.atI (E.meth o.m).code (q+1)) (E.meth o.m).result (o.p:Int) op n x=some y:=h.mv;rw[e,Bx1,Sp h.hi]
def Cz.st8(h:Cz E d ω o r S ρ x y op n):(E.meth o.m).stack<=8:=h.good.rd.st.2
def Cz.lol(h:Cz E d ω o r S ρ x y op n):(o.lo.length:Int)=(E.meth o.m).locals:=by
 have:=h.ty.lo.len;have:=h.P.lo;have:=h.good.rd.lo.1;omega
def Cz.wl(h:Cz E d ω o r S ρ x y op n):∀v∈o.lo,It d.ts.length v:=(h.g.ws o Fr).1
def Cz.ws(h:Cz E d ω o r S ρ x y op n):∀v∈o.st,It d.ts.length v:=(h.g.ws o Fr).2
def Cz.on(h:Cz E d ω o r S ρ x y op n){d':Cs}{f:Int->Nat×Int}{A:Int->Int}{c:TP}{i:Bo}(j:Dz op=true/\u=Ch E o\/Dx op=true/\0<=n/\u=n.toNat)(e:L9 d.ts d'.ts ω f (fun z=>z.1=r.length))(B:Ky E d'.ts f)(D:d'.os=⟨o.m,u,q,c⟩::r)(F:d'.status = -1/\d'.value=0)(G:d'.made+6=d'.ts.length) (ty:Oa E d'.ts f r.length A ⟨o.m,u,q,c⟩ y)(I:Bc0 d'.ts.length ⟨o.m,u,q,c⟩)(s:Jd E d' ⟨o.m,u,q,c⟩ r i)(nx:i.now.next=u):He E d' i:=by
 have J:=Un h.ok.k h.mem h.g.top.p h.P h.rl;obtain⟨b,K⟩:∃b,Fc (Ep E.cs E.ms (E.meth o.m)) o.p x (u:Int) y b:=by
  have C:(Ep E.cs E.ms (E.meth o.m)).op o.p=op:=h.eo;rcases j with ⟨a,rfl⟩|⟨a,b,rfl⟩
  ·have e:((Ch E o:Nat):Int)=(Ep E.cs E.ms (E.meth o.m)).nx o.p:=by unfold Ch Df.nx;push_cast;rfl
   rw[e];exact⟨_,.nxt y h.rl (by rw[C];exact a)⟩
  have e:((n.toNat:Nat):Int)=(Ep E.cs E.ms (E.meth o.m)).ar o.p:=by rw[Bwo b];exact h.en.symm
  rw[e];exact⟨_,.jmp y h.rl (by rw[C];exact a)⟩
 obtain⟨_,_,L,z,N,O⟩:=Bqp h.ok B.Cl h.g.top.m h.g.top.p h.fx K (Nb J) (o:=⟨o.m,u,q,c⟩) rfl rfl ty;refine .on f _ r ⟨D,F,B,G,fun z l=>?_,⟨h.g.top.m,L,⟨A,z,N,O⟩,h.g.top.w.ext e (Wf _) (fun u j=>h.g.ws u (by simp[j]))⟩⟩ s nx;rcases List.mem_cons.1 l with rfl|l
 ·exact I
 have:=h.g.ws z (by simp[l]);exact⟨fun v t=>(this.1 v t).mono e.len,fun v t=>(this.2 v t).mono e.len⟩
def Cz.same(h:Cz E d ω o r S ρ x y op n){b:TP}{c:Bh}(f:Dz op=true/\u=Ch E o\/Dx op=true/\0<=n/\u=n.toNat)(tl:Cj (Ez E.T d.ts ω r.length ρ (Hq (E.meth o.m))) q y.locals)(i:Cj (Ez E.T d.ts ω r.length ρ (Hq (E.meth o.m))) b y.stack)(j:∀v∈q,v∈o.lo\/v∈o.st)(l:∀v∈b,v∈o.lo\/v∈o.st\/It d.ts.length v)(t:Gb ⟨o.m,o.p,q,b⟩ c)(nx:c.next=u):He E (d.top ⟨o.m,u,q,b⟩ r) (S.withNow c) :=
 h.on f (.refl _ _ _) h.g.hp rfl h.g.st h.g.md ⟨tl,i⟩ ⟨fun v e=>(j v e).elim (h.wl v) (h.ws v),fun v e=>(l v e).elim (h.wl v) (fun k=>k.elim (h.ws v) id)⟩ ⟨h.s.read,h.s.objs,t.at u,h.s.wait,h.s.en,h.s.out,h.s.steps⟩ nx
def Cz.throws(h:Cz E d ω o r S ρ x y op n){f:Bo}(i:Jd E d ⟨o.m,o.p,o.lo,q⟩ r f)(A:f.now.pos=o.p)(B:∀v∈q,v∈o.st)(l:0<c)(z:c<(d.ts.length:Int))(C:(Cc d.ts c).set=true):He E (Ga E c (Cc d.ts c).cl d (⟨o.m,o.p,o.lo,q⟩::r)) (M8 E.M c f):=by
 have e:f.wait.length=r.length:=by simpa using i.wait.len.symm
 unfold M8;rw[i.objs,Blf l z,e];refine Blj h.ok h.g.hp h.g.st h.g.md l z C r _ f ⟨h.g.top.m,h.g.top.p,ρ,x,h.fx,h.ty.lo⟩ h.g.top.w (fun b j=>?_) i A;rcases List.mem_cons.1 j with rfl|j
 ·exact⟨h.wl,fun v D=>h.ws v (B v D)⟩
 exact h.g.ws b (by simp[j])
def Cz.given(h:Cz E d ω o r S ρ x y op n)(b:1<=k)(c:k<=5):k<d.ts.length/\(Cc d.ts (k:Int)).set=true:=by
 have:=h.g.hp.six;refine⟨Bd,?_⟩;unfold Cc;rw[Bvn,Th,h.g.hp.gv k b c];rfl
def Cz.fault(h:Cz E d ω o r S ρ x y op n){s a:TP}{b:Bo}(c:o.st=s++a)(f:Hw E.T d.ts a (Cu (Cq E.cs) E.ms (E.meth o.m).result op n)=true)(g:Jd E d ⟨o.m,o.p,o.lo,s⟩ r b)(i:b.now.pos=o.p)(e:1<=k)(j:k<=5)(l:Dn E d op n a=(k:Int)):Gi E d o r op n (M8 E.M (k:Int) b):=by
 obtain⟨q,g2⟩:=h.given e j;exact⟨_,⟨s,a,c,f,.inl ⟨k,e,q,l,rfl⟩⟩,h.throws g i (fun v t=>by rw[c];simp[t]) Bd Bd g2⟩
def Bgf(h:Tr.plainB z C.1 C.2=true):C.1=1\/C.1=3/\0<=C.2:=by
 rcases(Ht h).1 with a | a | a | a | a
 ·unfold Tr.plainB at h;rw[a.1]at h;simp at h
 ·exact .inl a.1
 ·unfold Tr.plainB at h;rw[a.1]at h;simp at h
 ·exact .inr ⟨a.1,a.2.1⟩
 exact absurd a.1 (Ht h).2
def lst{α β:Type}{R:α->β->Prop}{e:List α}{c:List β}(h:Cj R e c)(i:¬c.length<1)(b:β):∃s v,e=s++[v]/\Cj R s (c.take (c.length-1))/\R v (c.getD (c.length-1) b):=by
 rw[Az c b Bd]at h;obtain⟨s,a,rfl,f,g⟩:=h.split;cases g using Cj.el with
 | cons x k=>cases k using Cj.el with
  | nil=>exact⟨s,_,rfl,f,x⟩
def Cz.low(h:Cz E d ω o r S ρ x y op n)(e:o.st.length+k<=y.stack.length):((o.st.length+k:Nat):Int)<=(E.meth o.m).stack:=by
 have:=h.hi;omega
def Bri(h:Cz E d ω o r S ρ x y 2 n):Gi E d o r 2 n (Ci E.M 2 n S):=by
 obtain⟨f,l⟩:=h.num.loc (.inl rfl);have p:=h.lol;have b:=h.ty.lo.get n.toNat Bd (0,0) (0,0);have c:=h.mv;unfold Ik at c;rw[Sp rfl]at c;by_cases g:(x.locals.getD n.toNat (0,0)).1=0;·rw[Sp g]at c;cases c
 rw[Pf g]at c;obtain rfl:=Option.some.inj c;have q:=h.ty.st.len;have t:=h.low (k:=1) Fm;have z:=h.st8;have i:o.lo.getD n.toNat (0,0)∈o.lo:=Hu Bd;have j:=(h.P.tl _ (Hu (d:=(0,0)) (show n.toNat<x.locals.length by have:=h.ty.lo.len;omega))).1;refine⟨_,⟨o.st,[],Fr,rfl,.inr ⟨rfl,.load rfl f (by show n<(o.lo.length:Int);omega) ?_ (by show (o.st.length:Int)<(E.meth o.m).stack;omega)⟩⟩,?_⟩
 ·rcases j with a|a | a | a | a
  ·exact absurd a.1 g
  ·rw[b.int a.1];omega
  ·rw[b.null a.1];simp
  ·rw[(b.ref a.1).1];omega
  rw[(b.raw a.1).1];simp
 have e:Ci E.M 2 n S=S.withNow (En (o.lo.getD n.toNat (0,0)).2 S.now):=by
  rw[<- Br5 h.s.now f Bd];rfl
 rw[e];exact h.same (.inl ⟨rfl,rfl⟩) h.ty.lo (h.ty.st.app (.cons b .nil)) (fun v b=>.inl b) (fun v b=>by
  rcases List.mem_append.1 b with k|k
  ·exact .inr (.inl k)
  rw[List.mem_singleton.1 k];exact .inl i) (Ox h.s.now _ Bd) (by rw[Gk];exact h.nx)
def Box(h:Cz E d ω o r S ρ x y 3 n):Gi E d o r 3 n (Ci E.M 3 n S):=by
 obtain⟨f,A⟩:=h.num.loc (.inr rfl);have B:=h.lol;have b:=h.mv;unfold Ik at b;rw[Pf Bd,Sp rfl]at b;by_cases g:x.stack.length<1;·rw[Sp g]at b;cases b
 rw[Pf g]at b;obtain rfl:=Option.some.inj b;obtain⟨s,v,e,i,j⟩:=lst h.ty.st g (0,0);obtain⟨l,m,C,p⟩:=Pt h.s.now e;obtain⟨q,D,t⟩:=Bkb m f (show n<(o.lo.length:Int) by omega) v;refine⟨_,⟨o.st,[],Fr,rfl,.inr ⟨rfl,.store s v rfl f (by show n<(o.lo.length:Int);omega) e⟩⟩,?_⟩;have z:Ci E.M 3 n S=S.withNow (Ff n v.2 (Bw S.now).2):=by rw[<- l];rfl
 rw[z];exact h.same (.inl ⟨rfl,rfl⟩) (h.ty.lo.set n.toNat j) i (fun u c=>by
  rcases Yu c with k|k
  ·exact .inl k
  exact .inr (by rw[e,k];simp)) (fun u c=>.inr (.inl (by rw[e];simp[c]))) q (by rw[t,p];exact h.nx)
def Btd(h:Cz E d ω o r S ρ x y 4 n)(f:Int):Gi E d o r 4 n (Ci E.M 4 f S):=by
 have b:=h.mv;unfold Ik at b;rw[Pf Bd,Pf Bd,Sp rfl]at b;by_cases g:x.stack.length<1;·rw[Sp g]at b;cases b
 rw[Pf g]at b;obtain rfl:=Option.some.inj b;obtain⟨s,v,e,i,m⟩:=lst h.ty.st g (0,0);obtain⟨p,j,q,l⟩:=Pt h.s.now e;exact⟨_,⟨o.st,[],Fr,rfl,.inr ⟨rfl,.pop s v rfl e⟩⟩,h.same (.inl ⟨rfl,rfl⟩) h.ty.lo i (fun u c=>.inl c) (fun u c=>.inr (.inl (by rw[e];simp[c]))) j (l.trans h.nx)⟩
def Bth(h:Cz E d ω o r S ρ x y 5 n)(f:Int):Gi E d o r 5 n (Ci E.M 5 f S):=by
 have b:=h.mv;unfold Ik at b;rw[Pf Bd,Pf Bd,Pf Bd,Sp rfl]at b;by_cases g:x.stack.length<1;·rw[Sp g]at b;cases b
 rw[Pf g]at b;obtain⟨s,v,e,p,i⟩:=lst h.ty.st g (0,0);have q:x.stack++x.stack.drop (x.stack.length-1)=x.stack.take (x.stack.length-1)++[x.stack.getD (x.stack.length-1) (0,0),x.stack.getD (x.stack.length-1) (0,0)]:=by
  have j:=Az x.stack (0,0) Bd;have t:x.stack.drop (x.stack.length-1)=[x.stack.getD (x.stack.length-1) (0,0)]:=by
   conv=>lhs;rw[j]
   rw[Bxz Fr,Bvi Fr,Bx4]
  rw[t]
  conv=>lhs;rw[j]
  simp
 rw[q]at b;obtain rfl:=Option.some.inj b;have I:=h.ty.st.len;have J:o.st.length=s.length+1:=by rw[e];simp
 have z:((s.length+2:Nat):Int)<=(E.meth o.m).stack:=by
  have:=h.hi;simp only[Up,Bxf,Bvo,Bwn]at this;omega
 have K:=h.st8;obtain⟨A,B,L,C⟩:=Pt h.s.now e;have D:=Ox B v (by show s.length<8;omega);have l:=Ox D v (by show (s++[v]).length<8;simp;omega);refine⟨_,⟨o.st,[],Fr,rfl,.inr ⟨rfl,.dup s v rfl e z⟩⟩,?_⟩;have F:Ci E.M 5 f S=S.withNow (En v.2 (En v.2 (Bw S.now).2)):=by rw[<- A];rfl
 rw[F];have G:s++[v]++[v]=s++[v,v]:=Fr;simp only[G]at l;exact h.same (.inl ⟨rfl,rfl⟩) h.ty.lo (p.app (.cons i (.cons i .nil))) (fun u c=>.inl c) (fun u c=>.inr (.inl (by rw[e];simp at c ⊢;omega))) l (by rw[Gk,Gk,C];exact h.nx)
def Brd(h:Cz E d ω o r S ρ x y 6 n)(j:Int):Gi E d o r 6 n (Ci E.M 6 j S):=by
 have b:=h.mv;unfold Ik at b;rw[Pf Bd,Pf Bd,Pf Bd,Pf Bd,Sp rfl]at b;by_cases g:x.stack.length<2;·rw[Sp g]at b;cases b
 rw[Pf g]at b;obtain rfl:=Option.some.inj b;obtain⟨V,v,e,q,t⟩:=lst h.ty.st Bd (0,0);have A:(x.stack.take (x.stack.length-1)).length=x.stack.length-1:=Fr;obtain⟨s,u,B,c,f⟩:=lst q Bd (0,0);rw[A,show x.stack.length-1-1=x.stack.length-2 by omega]at c f;rw[Bxu,Bx5 Bd]at c;rw[Th,Bww,Sp Bd,<- Th]at f;subst B;have i:o.st=s++[u,v]:=by rw[e];simp
 have Y:=h.ty.st.len;have Z:o.st.length=s.length+2:=by rw[i];simp
 have C:((s.length+2:Nat):Int)<=(E.meth o.m).stack:=by
  have:=h.hi;simp only[Up,Bxf,Bvo,Bwn]at this;omega
 have h8:=h.st8;obtain⟨D,F,p3,G⟩:=Pt h.s.now e;obtain⟨I,J,t3,K⟩:=Pt F rfl;have L:=Ox J v (by show s.length<8;omega);have l:=Ox L u (by show (s++[v]).length<8;simp;omega);refine⟨_,⟨o.st,[],Fr,rfl,.inr ⟨rfl,.swap s u v rfl i C⟩⟩,?_⟩;have N:Ci E.M 6 j S=S.withNow (En u.2 (En v.2 (Bw (Bw S.now).2).2)):=by rw[<- D,<- I];rfl
 rw[N];have O:s++[v]++[u]=s++[v,u]:=Fr;simp only[O]at l;exact h.same (.inl ⟨rfl,rfl⟩) h.ty.lo (c.app (.cons t (.cons f .nil))) (fun u Q=>.inl Q) (fun z p=>.inr (.inl (by rw[i];simp at p ⊢;rcases p with k|k | k<;>simp[k]))) l (by rw[Gk,Gk,K,G];exact h.nx)
end
def Bfz{t:Do}{k:Int}(b:0<=k)(c:k<(Q.length:Int)):Cc (Q++[t]) k=Cc Q k:=by
 unfold Cc;rw[Th,Bvy Bd,<- Th]
def Bmi(b:List Do)(t:Do):Cc (b++[t]) (b.length:Int)=t:=by
 unfold Cc;rw[Bvn,Th,Bvt (Wf _),Byx];rfl
def Xp{t:Do}(b:k<Q.length)(e:0<=c):Cc (Q.set k t) c=if c=(k:Int) then t else Cc Q c:=by
 unfold Cc;rw[Th,Bxi];by_cases g:c=(k:Int);·rw[Sp g,Sp Bd,Sp b];rfl
 rw[Pf g,Pf Bd,<- Th]
def Bj5(b:k<Q.length):Q[k]?=some (Cc Q (k:Int)):=by
 unfold Cc;rw[Bvn,Th,Ws b];rfl
def L9.weak{g:List Do}{ω i:Int->Nat×Int}{P f:Nat×Int->Prop}(e:L9 Q g ω i P)(h:∀z,P z->f z):L9 Q g ω i f:=⟨e.len,e.set,fun k a b c j=>e.raw k a b c (fun l=>j (h _ l))⟩
section
variable {E:Cr}{d:Cs}{ω:Int→Nat × Int}{o:Ca}{r:List Ca}{S:Bo}{ρ:Int→Int}{x y:Be}{n:Int}
def Cr.Ok.plain(b:E.Ok)(c:Int):∀t∈E.all c,Tr.plainB E.T t.1 t.2=true:=W9 b.k.fl (c.toNat:Int) (c.toNat+1)
def Ba8(i:E.Ok){b:List Do}{f:Int->Nat×Int}{P:Nat×Int->Prop}(e:L9 Q b ω f P)(h:Cj (Ez E.T Q ω 0 id id) q (E.all c))(j:∀v∈q,It Q.length v):Cj (Ez E.T b f 0 id id) q (E.all c) :=
 h.mono (fun v l t m k=>k.ext e (j v l) (fun g=>absurd g (Ht (i.plain c t m)).2))
def Ky.new(m:E.Ok)(h:Ky E Q ω){l:Int->Nat×Int}{P:Nat×Int->Prop}(p:0<=n/\n<(E.T.length:Int))(e:L9 Q (Q++[⟨n,false,[]⟩]) ω l P):Ky E (Q++[⟨n,false,[]⟩]) l:=by
 have A:=h.six;have f:∀{k:Nat},k<(Q++[(⟨n,false,[]⟩:Do)]).length->k<Q.length/\Cc (Q++[⟨n,false,[]⟩]) (k:Int)=Cc Q k\/Cc (Q++[⟨n,false,[]⟩]) (k:Int)=⟨n,false,[]⟩:=fun {k} f=>by
  by_cases g:k<Q.length;·exact .inl ⟨g,Bfz Bd Bd⟩
  have:k=Q.length:=by simp at f;omega
  subst this;exact .inr (Bmi _ _)
 refine⟨Fm,fun k q s=>?_,?_,fun k t c=>?_,fun k c i=>?_,fun k c i=>?_,fun k c v j=>?_⟩
 ·rw[Bvy Bd];exact h.gv k q s
 ·rw[Bvy Bd];exact h.z
 ·rcases f c with ⟨a,b⟩|b<;>rw[b]
  ·exact h.cl k t a
  exact p
 ·rcases f c with ⟨a,b⟩|b<;>rw[b]at i ⊢
  ·exact Ba8 m e (h.vs k a i) (h.wv k a)
  cases i
 ·rcases f c with ⟨a,b⟩|b<;>rw[b]at i ⊢
  exact h.un k a i
 rcases f c with ⟨a,b⟩|b<;>rw[b]at j
 ·exact(h.wv k a v j).mono e.len
 cases j
def Ky.set(m:E.Ok)(h:Ky E Q ω){P:Nat×Int->Prop}{t:Do}(F:6<=k)(q:k<Q.length)(s:t.set=true)(A:0<=t.cl/\t.cl<(E.T.length:Int))(e:L9 Q (Q.set k t) ω ω P)(i:Cj (Ez E.T Q ω 0 id id) t.vals (E.all t.cl))(p:∀v∈t.vals,It Q.length v):Ky E (Q.set k t) ω:=by
 have l:∀j:Nat,j≠k/\Cc (Q.set k t) (j:Int)=Cc Q j\/Cc (Q.set k t) (j:Int)=t:=fun j=>by
  rw[Xp q Bd];by_cases g:j=k;·exact .inr (Sp Bd)
  exact .inl ⟨g,Pf Bd⟩
 refine⟨by rw[Bv7];exact h.six,fun j B C=>?_,?_,fun j D c=>?_,fun j c f=>?_,fun j c f=>?_,fun j c v i=>?_⟩
 ·rw[Bxw Bd];exact h.gv j B C
 ·rw[Bxw Bd];exact h.z
 all_goals rw[Bv7]at c
 ·rcases l j with ⟨_,b⟩|b<;>rw[b]
  ·exact h.cl j D c
  exact A
 ·rcases l j with ⟨_,b⟩|b<;>rw[b]at f ⊢
  ·exact Ba8 m e (h.vs j c f) (h.wv j c)
  exact Ba8 m e i p
 ·rcases l j with ⟨_,b⟩|b<;>rw[b]at f ⊢
  ·exact h.un j c f
  rw[s]at f;cases f
 rw[Bv7];rcases l j with ⟨_,b⟩|b<;>rw[b]at i
 ·exact h.wv j c v i
 exact p v i
def Btf(h:Cz E d ω o r S ρ x y 15 n):Gi E d o r 15 n (Ci E.M 15 n S):=by
 have G:=h.num.cls (.inl rfl);have O:=h.g.md;have Q:S.objs.length+1=d.ts.length:=by
  rw[h.s.objs];have:=h.g.hp.six;simp;omega
 have I:Ci E.M 15 n S=Ny E.M n S:=rfl;rw[I];unfold Ny;by_cases g:E.heap<=(d.made:Int);·rw[Sp (show E.M.room<=(S.objs.length:Int)-5 by show E.heap<=_;omega)];exact h.fault (s:=o.st) (a:=[]) (k:=4) Fr rfl h.s h.pos Bd Bd (by unfold Dn;simp[g])
 rw[Pf (show ¬E.M.room<=(S.objs.length:Int)-5 by show ¬E.heap<=_;omega),show (S.objs.length:Int)+1=(d.ts.length:Int) by omega];have j:=h.mv;unfold Ik at j;rw[Pf Bd,Pf Bd,Pf Bd,Pf Bd,Pf Bd,Sp rfl]at j;obtain rfl:=Option.some.inj j;have f:=h.ty.st.len;have V:=h.low (k:=1) (by simp[Er];omega);have Y:=h.st8;refine⟨_,⟨o.st,[],Fr,rfl,.inr ⟨by unfold Dn;simp[g],.new rfl (by show (o.st.length:Int)<(E.meth o.m).stack;omega)⟩⟩,?_⟩;have c:L9 d.ts (d.ts++[⟨n,false,[]⟩]) ω (fun k=>if k=(d.ts.length:Int) then (r.length,(o.p:Int)) else ω k) (fun _=>False) :=
  ⟨Fr,fun k z A f=>by rw[Bfz z A];exact⟨f,rfl⟩,fun k z A f _=>by rw[Bfz z A];exact⟨f,rfl,Pf Bd⟩⟩
 have D:∀{B l:TP},Cj (Ez E.T d.ts ω r.length ρ (Hq (E.meth o.m))) B l->(∀v∈B,It d.ts.length v)->Cj (Ez E.T (d.ts++[⟨n,false,[]⟩]) (fun k=>if k=(d.ts.length:Int) then (r.length,(o.p:Int)) else ω k) r.length (fun q=>if q=(o.p:Int) then (d.ts.length:Int) else ρ q) (Hq (E.meth o.m))) B (Er (4,(o.p:Int)) (0,0) l):=fun b J=>b.map (fun v K t _ k=>by
  by_cases C:t=(4,(o.p:Int));·rw[Sp C];exact .top rfl
  rw[Pf C];have i:=k.ext c (J v K) (fun _=>id);refine⟨i.int,i.null,i.ref,fun g4=>?_⟩;have L:t.2≠(o.p:Int):=fun e=>C (Bxd g4 e);rw[Pf L];exact i.raw g4)
 have b:Ez E.T (d.ts++[⟨n,false,[]⟩]) (fun k=>if k=(d.ts.length:Int) then (r.length,(o.p:Int)) else ω k) r.length (fun q=>if q=(o.p:Int) then (d.ts.length:Int) else ρ q) (Hq (E.meth o.m)) (2,(d.ts.length:Int)) (4,(o.p:Int)):=by
  refine⟨fun e=>absurd e Fr,fun e=>absurd e Fr,fun e=>absurd e Fr,fun _=>?_⟩;dsimp only;rw[Sp rfl,Bmi,Sp rfl];exact⟨rfl,by have:=h.g.hp.six;omega,Fm,rfl,h.en.symm,rfl⟩
 refine h.on (.inl ⟨rfl,rfl⟩) (c.weak (fun _ k=>k.elim)) (h.g.hp.new h.ok G c) rfl h.g.st (by show d.made+1+6=(d.ts++[_]).length;rw[Up];show _=d.ts.length+1;omega) ⟨D h.ty.lo h.wl,(D h.ty.st h.ws).app (.cons b .nil)⟩ ⟨fun v b=>(h.wl v b).mono c.len,fun v b=>?_⟩ ⟨h.s.read,?_,?_,h.s.wait,h.s.en,h.s.out,h.s.steps⟩ ?_
 ·rcases List.mem_append.1 b with k|k
  ·exact(h.ws v k).mono c.len
  rw[List.mem_singleton.1 k];exact .inr (.inr ⟨rfl,Fr,Fm⟩)
 ·show S.objs++[(n,[])]=_;rw[h.s.objs,List.tail_append_of_ne_nil (fun e=>by have F:=h.g.hp.six;have N:d.ts=[]:=e;rw[N]at F;simp at F),Bvx];rfl
 ·exact(Ox h.s.now (2,(d.ts.length:Int)) Bd).at _
 show (En _ S.now).next=_
 rw[Gk];exact h.nx
def Bf1{t:Do}(h:0<k):(Q.set k t).tail.map Ng=(Q.tail.map Ng).set (k-1) (Ng t):=by
 cases Q with
 | nil=>rfl
 | cons a l =>
  obtain⟨j,rfl⟩:∃j,k=j+1:=⟨k-1,Bd⟩;simp
def Brk(h:Cz E d ω o r S ρ x y 16 n):Gi E d o r 16 n (Ci E.M 16 n S):=by
 have A:=h.num.cls (.inr (.inl rfl));have b:=h.mv;unfold Ik at b;rw[Pf Bd,Pf Bd,Pf Bd,Pf Bd,Pf Bd,Pf Bd,Sp rfl]at b;unfold Yh at b;by_cases J:Ig E.T x.stack (E.all n)=false;·rw[Sp J]at b;cases b
 rw[Pf J]at b;by_cases g2:x.stack.length<(E.all n).length+1;·rw[Sp g2]at b;cases b
 rw[Pf g2]at b;have K:=h.ok.plain n;obtain⟨s1,i,e1,t1,L⟩:=Btu h.ok h.g.hp.Cl h.ty.st (Nb h.P).2 (fun t p=>(Ht (K t p)).1) (by simpa using J);have N:(x.stack.take (x.stack.length-(E.all n).length)).length=x.stack.length-(E.all n).length:=Fr;obtain⟨s,v,rfl,O,Q⟩:=lst t1 Bd (0,0);rw[N]at O Q;rw[Bxu,Bx5 Bd]at O;rw[Th,Bww,Sp Bd,<- Th]at Q;generalize x.stack.getD (x.stack.length-(E.all n).length-1) (0,0)=t at *;by_cases g3:t.1≠4;·rw[Sp g3]at b;cases b
 rw[Pf g3]at b;by_cases g4:Hq (E.meth o.m) t.2≠n;·rw[Sp g4]at b;cases b
 rw[Pf g4]at b;obtain rfl:=Option.some.inj b;have V:t.1=4:=by simpa using g3
 have a1:Hq (E.meth o.m) t.2=n:=by simpa using g4
 obtain⟨b1,b2,b3,B,Y,b6⟩:=Q.raw V;obtain⟨k,hk⟩:∃k:Nat,ρ t.2=(k:Int):=⟨(ρ t.2).toNat,Bd⟩;rw[hk]at b1 b2 b3 B Y b6;have C:k<d.ts.length:=Bd;have h6:6<=k:=by
  by_cases g:k<=5;·rw[(h.given (k:=k) Bd g).2]at B;cases B
  omega
 have a4:d.ts[k]?=some ⟨n,false,(Cc d.ts (k:Int)).vals⟩:=by
  rw[Bj5 C,<- a1,<- Y,<- B]
 have G:o.st=s++(2,(k:Int))::i:=by rw[e1,b1];simp
 have p:∀{v u:Int×Int},Ez E.T d.ts ω r.length ρ (Hq (E.meth o.m)) v u->u=t->v=(2,(k:Int)):=fun f e=>by
  have:=(f.raw (by rw[e];exact V)).1;rw[e,hk]at this;exact this
 have a5:=Bov h.ok.k.ok h.g.hp.Cl L (fun t p=>Bgf (K t p));have D:L9 d.ts (d.ts.set k ⟨n,true,i⟩) ω ω (fun z=>z=(r.length,t.2)) :=
  ⟨Fr,fun j Z N F=>by
   rw[Xp C Z];have:j≠(k:Int):=fun e=>by rw[e,B]at F;cases F
   rw[Pf this];exact⟨F,rfl⟩,fun j Z N F hn=>by
   rw[Xp C Z];have:j≠(k:Int):=fun e=>hn (by rw[e];exact b6);rw[Pf this];exact⟨F,rfl,rfl⟩⟩
 have tw:∀{a0 l:TP},Cj (Ez E.T d.ts ω r.length ρ (Hq (E.meth o.m))) a0 l->(∀v∈a0,It d.ts.length v)->Cj (Ez E.T (d.ts.set k ⟨n,true,i⟩) ω r.length ρ (Hq (E.meth o.m))) a0 (Er t (3,n) l):=fun f hw=>f.map (fun v a6 u _ q=>by
  by_cases I:u=t;·rw[Sp I,p q I];refine⟨fun e=>absurd e Fr,fun e=>absurd e Fr,fun _=>⟨rfl,.inr ?_⟩,fun e=>absurd e Fr⟩;rw[Xp C Fr,Sp rfl];exact⟨rfl,Tr.fits_refl _ _ _⟩
  rw[Pf I];exact q.ext D (hw v a6) (fun g4 e=>I (Bxd (g4.trans V.symm) (Prod.mk.inj e).2)))
 have a2:∀v∈s,v∈o.st:=fun v f=>by rw[G];simp[f]
 have a3:∀v∈i,It d.ts.length v:=fun v f=>h.ws v (by rw[G];simp[f]);refine⟨_,⟨o.st,[],Fr,rfl,.inr ⟨rfl,.init s i k _ rfl A.1 Bd G a5 a3 Bd a4⟩⟩,?_⟩;have ef:Dq E.M.T E.M.FL n=E.all n:=by
  have:=Xm h.ok.k.ok (Rf.given++E.cs) (Yx E.cs) (c:=n.toNat) (show n.toNat<(Tr.tree E.cs).length by have h2:n<((Tr.tree E.cs).length:Int):=A.2;have:=A.1;omega);rw[Bwo A.1]at this;exact this
 obtain⟨p1,p2,p3,p4⟩:=Yn (E.all n).length h.s.now (s:=s++[(2,(k:Int))]) (a:=i) (by rw[G];simp) L.len;obtain⟨q1,q2,q3,q4⟩:=Pt p2 rfl;have e2:Ci E.M 16 n S=(S.withNow (Bw (D6 (E.all n).length S.now).2).2).withObjs ((d.ts.set k ⟨n,true,i⟩).tail.map Ng):=by
  show Nk E.M n S=_;unfold Nk;rw[ef];show (S.withNow _).withObjs (Tq (Bw (D6 (E.all n).length S.now).2).1 (D6 (E.all n).length S.now).1 S.objs)=_;obtain⟨z1,z2⟩:=Bfq (ts:=d.ts) (k:=(k:Int)) Bd Bd;rw[q1,p1,h.s.objs,Bf1 Bd];unfold Tq;show (S.withNow _).withObjs (if Nl (k:Int) _=true then _ else _)=_
  rw[Sp z1,z2,show ((k:Int)-1).toNat=k-1 by omega];have:(Ng (Cc d.ts (k:Int))).1=n:=by rw[<- a1,<- Y];rfl
  rw[this];rfl
 rw[e2];refine h.on (.inl ⟨rfl,rfl⟩) (D.weak (fun z e=>by rw[e])) (h.g.hp.set h.ok h6 C rfl A D (L.plain (fun t p=>(Ht (K t p)).2)) a3) rfl h.g.st (by show d.made+6=(d.ts.set k _).length;rw[Bv7];exact h.g.md) ⟨tw h.ty.lo h.wl,?_⟩ ⟨fun v f=>(h.wl v f).mono D.len,fun v f=>(h.ws v (a2 v f)).mono D.len⟩ ⟨h.s.read,rfl,q2.at _,h.s.wait,h.s.en,h.s.out,h.s.steps⟩ (by show (Bw _).2.next=_;rw[q4,p4];exact h.nx)
 exact tw O (fun v f=>h.ws v (a2 v f))
end
def Bp5(v:Int):Jv v=Gn v:=by
 unfold Jv Gn;by_cases g:0<=v
 ·rw[Bzx g]
  split<;>omega
 have e:v.tmod 4294967296 = -((-v)%4294967296):=by
  rw[<- Bzx Bd,Int.neg_tmod,Int.neg_neg]
 rw[e]
 split<;>omega
def Bl0(h:-2147483648<=c/\c<=2147483647):Gn c=c:=by unfold Gn;omega
def Bbu(v:Int):-2147483648<=Gn v/\Gn v<=2147483647:=by unfold Gn;omega
def Bty{op a b:Int}(j:7<=op/\op<=10)(h:-2147483648<=a/\a<=2147483647)(i:-2147483648<=b/\b<=2147483647)(g:op=10->b≠0):Iu op a b=some (Jl op a b)/\-2147483648<=Jl op a b/\Jl op a b<=2147483647:=by
 unfold Iu Jl;rw[Bl0 h,Bl0 i];simp only[Bp5];by_cases c:op=7;·rw[Sp c,Sp c];exact⟨rfl,Bbu _⟩
 rw[Pf c,Pf c];by_cases e:op=8;·rw[Sp e,Sp e];exact⟨rfl,Bbu _⟩
 rw[Pf e,Pf e];by_cases f:op=9;·rw[Sp f,Sp f];exact⟨rfl,Bbu _⟩
 rw[Pf f,Pf f,Pf (g Bd),Pf (g Bd)];exact⟨rfl,Bbu _⟩
def Bus(e:∀x∈z,0<=x)(f:∀x∈z,x<=255)(i:Int):-1<=Cd.atI z i/\Cd.atI z i<=255:=by
 unfold Cd.atI
 split
 ·omega
 split
 ·omega
 have b:z.getD i.toNat 0∈z:=Hu Bd;have:=e _ b;have:=f _ b;omega
def It.num{n:Nat}(h:It n C)(b:C.1=1):-2147483648<=C.2/\C.2<=2147483647:=by
 rcases h with h|h|h
 ·rw[h]at b;simp at b
 ·exact h.2
 omega
def It.ref{n:Nat}(h:It n C)(b:C.1=2):0<=C.2/\C.2<(n:Int):=by
 rcases h with h|h|h
 ·rw[h]at b;simp at b
 ·omega
 exact h.2
def Cj.put{α β:Type}{R:α->β->Prop}{l:List α}{r:List β}(h:Cj R l r)(i:Nat){u:α}(b:β)(c:R u (r.getD i b)):Cj R (l.set i u) r:=by
 induction h using Cj.el generalizing i with
 | nil=>exact .nil
 | cons x hr ih=>cases i with
  | zero=>exact .cons c hr
  | succ j=>exact .cons x (ih j (by simpa using c))
def Bpm(l:TP)(z:Nat):(l.map Prod.snd).getD z 0=(l.getD z (0,0)).2:=by
 rw[Th,Bv8,Th];cases l[z]? <;> rfl
section
variable {E:Cr}{d:Cs}{ω:Int→Nat × Int}{o:Ca}{r:List Ca}{S:Bo}{ρ:Int→Int}{x y:Be}{op n:Int}
def Cz.gen(h:Cz E d ω o r S ρ x y op n)(l:op≠2/\op≠3/\op≠4/\op≠5/\op≠6/\op≠15/\op≠16):∃f s a,o.st=s++a/\y=⟨x.locals,f++Fg (Cq E.cs) E.ms op n⟩/\Cj (Ez E.T d.ts ω r.length ρ (Hq (E.meth o.m))) s f/\Cj (Ez E.T d.ts ω r.length ρ (Hq (E.meth o.m))) a (Cu (Cq E.cs) E.ms (E.meth o.m).result op n)/\Hw E.T d.ts a (Cu (Cq E.cs) E.ms (E.meth o.m).result op n)=true:=by
 have b:=h.mv;obtain⟨p,q,v,z,A,B,C⟩:=l;unfold Ik at b;rw[Pf p,Pf q,Pf v,Pf z,Pf A,Pf B,Pf C]at b;have i:=Xe h.ok.k h.mem h.num;by_cases g:Ig E.T x.stack (Cu (Cq E.cs) E.ms (E.meth o.m).result op n)=false;·rw[Sp g]at b;cases b
 rw[Pf g]at b;obtain⟨s,a,e,D,j⟩:=Btu h.ok h.g.hp.Cl h.ty.st (Nb h.P).2 (fun t c=>(Ht (i t c)).1) (by simpa using g);exact⟨_,s,a,e,(Option.some.inj b).symm,D,j,Bov h.ok.k.ok h.g.hp.Cl j (fun t c=>Bgf (i t c))⟩
def Jd.pop(h:Jd E d o r S){s:TP}{v:Int×Int}(e:o.st=s++[v]):S.top=v.2/\Jd E d ⟨o.m,o.p,o.lo,s⟩ r S.popped/\S.popped.now.pos=S.now.pos/\S.popped.now.next=S.now.next:=by
 obtain⟨a,b,c,e⟩:=Pt h.now e;exact⟨a,⟨h.read,h.objs,b,h.wait,h.en,h.out,h.steps⟩,c,e⟩
def Cz.lays(h:Cz E d ω o r S ρ x y op n){a c:TP}{S':Bo}(e:Dz op=true/\u=Ch E o\/Dx op=true/\0<=n/\u=n.toNat)(f:o.st=q++a)(i:y=⟨x.locals,c⟩)(j:Cj (Ez E.T d.ts ω r.length ρ (Hq (E.meth o.m))) q c)(b:Jd E d ⟨o.m,o.p,o.lo,q⟩ r S')(nx:S'.now.next=u):He E (d.top ⟨o.m,u,o.lo,q⟩ r) S':=by
 subst i;exact h.on e (.refl _ _ _) h.g.hp rfl h.g.st h.g.md ⟨h.ty.lo,j⟩ ⟨h.wl,fun v l=>h.ws v (by rw[f];simp[l])⟩ ⟨b.read,b.objs,b.now.at u,b.wait,b.en,b.out,b.steps⟩ nx
def Cz.pushes(h:Cz E d ω o r S ρ x y op n){a e:TP}{v t:Int×Int}{c:Bo}(i:Dz op=true)(j:o.st=q++a)(l:y=⟨x.locals,e++[t]⟩)(f:Cj (Ez E.T d.ts ω r.length ρ (Hq (E.meth o.m))) q e)(z:Ez E.T d.ts ω r.length ρ (Hq (E.meth o.m)) v t)(A:It d.ts.length v)(b:Jd E d ⟨o.m,o.p,o.lo,q⟩ r c)(nx:c.now.next=Ch E o):(q.length:Int)<(E.meth o.m).stack/\He E (d.top ⟨o.m,Ch E o,o.lo,q++[v]⟩ r) (c.push v.2):=by
 subst l;have D:=f.len;have B:(q.length:Int)<(E.meth o.m).stack:=by
  have:=h.hi;simp only[Up,Bvo,Bwn]at this;omega
 have F:=h.st8;refine⟨B,h.on (.inl ⟨i,rfl⟩) (.refl _ _ _) h.g.hp rfl h.g.st h.g.md ⟨h.ty.lo,f.app (.cons z .nil)⟩ ⟨h.wl,fun u C=>?_⟩ ⟨b.read,b.objs,(Ox b.now v (by show q.length<8;omega)).at _,b.wait,b.en,b.out,b.steps⟩ (by show (En v.2 c.now).next=_;rw[Gk];exact nx)⟩
 rcases List.mem_append.1 C with k|k
 ·exact h.ws u (by rw[j];simp[k])
 rw[List.mem_singleton.1 k];exact A
def Ab{R:Int×Int->Int×Int->Prop}{a p:TP}(h:Cj R a p)(e:p=[]):a=[]:=by subst e;cases h using Cj.el;rfl
def Xy{R:Int×Int->Int×Int->Prop}{a l:TP}(h:Cj R a l)(e:l=[C]):∃v,a=[v]/\R v C:=by
 subst e;cases h using Cj.el with
 | cons p q=>cases q using Cj.el with
  | nil=>exact⟨_,rfl,p⟩
def Bfw{R:Int×Int->Int×Int->Prop}{a l:TP}{b:Int×Int}(h:Cj R a l)(e:l=[C,b]):∃u v,a=[u,v]/\R u C/\R v b:=by
 subst e;cases h using Cj.el with
 | cons p q=>cases q using Cj.el with
  | cons p' q=>cases q using Cj.el with
   | nil=>exact⟨_,_,rfl,p,p'⟩
def Boy(h:Cz E d ω o r S ρ x y 0 n):Gi E d o r 0 n (Ci E.M 0 n S):=by
 obtain⟨t,s,a,b,c,f,g,i⟩:=h.gen Bd;obtain rfl:=Ab g rfl;have j:=Bus h.good.bd.code0 h.good.rd.c255 ((o.p:Int)+1);rw[h.en]at j;have l:s=o.st:=by rw[b];simp
 subst l;obtain⟨m,q⟩:=h.pushes (v:=(1,Nw n)) rfl b c f ⟨fun _=>rfl,fun e=>absurd e Fr,fun e=>absurd e Fr,fun e=>absurd e Fr⟩ (.inr (.inl ⟨rfl,by unfold Nw;simp only;split<;>omega,by unfold Nw;simp only;split<;>omega⟩)) h.s h.nx
 exact⟨_,⟨o.st,[],b,i,.inr ⟨rfl,.push (.inl rfl) Bd Bd Bd m⟩⟩,q⟩
def Brf(h:Cz E d ω o r S ρ x y 1 n)(c:Int):Gi E d o r 1 n (Ci E.M 1 c S):=by
 obtain⟨t,s,a,b,f,i,j,l⟩:=h.gen Bd;obtain rfl:=Ab j rfl;have m:s=o.st:=by rw[b];simp
 subst m;have z:=h.g.hp.six;obtain⟨p,q⟩:=h.pushes (v:=(2,0)) rfl b f i ⟨fun e=>absurd e Fr,fun _=>rfl,fun e=>absurd e Fr,fun e=>absurd e Fr⟩ (.inr (.inr ⟨rfl,Fr,Fm⟩)) h.s h.nx;exact⟨_,⟨o.st,[],b,l,.inr ⟨rfl,.push (.inr (.inl rfl)) Bd Bd Bd p⟩⟩,q⟩
def Biz(h:Cz E d ω o r S ρ x y op n)(A:7<=op/\op<=10)(i:Int):Gi E d o r op n (Ci E.M op i S):=by
 obtain⟨xs,s,a,b,j,B,C,l⟩:=h.gen Bd;have D:Cu (Cq E.cs) E.ms (E.meth o.m).result op n=[(1,0),(1,0)]:=by unfold Cu;rw[Sp Bd]
 have F:Fg (Cq E.cs) E.ms op n=[(1,0)]:=by unfold Fg;rw[Sp Bd]
 obtain⟨u,v,rfl,G,I⟩:=Bfw C D;rw[F]at j;have J:=(h.ws u (by rw[b];simp)).num (G.int rfl);have K:=(h.ws v (by rw[b];simp)).num (I.int rfl);obtain⟨L,N,O,Q⟩:=h.s.pop (s:=s++[u]) (v:=v) (by rw[b];simp);obtain⟨V,q,Y,Z⟩:=N.pop rfl;have hg:Dz op=true:=by unfold Dz;simp;omega
 have e1:Ci E.M op i S=Nx E.M op S:=by unfold Ci;rw[Pf Bd,Sp Bd]
 rw[e1];unfold Nx;rw[V,L];by_cases g:op=10/\v.2=0
 ·obtain⟨rfl,t⟩:=g;have c:Iu 10 u.2 v.2=none:=by
   unfold Iu;rw[Pf Bd,Pf Bd,Pf Bd,Sp (by rw[t];rfl)]
  rw[c];exact h.fault (k:=1) b l q (by rw[Y,O];exact h.pos) Bd Bd (by unfold Dn;simp[t])
 obtain⟨c,w2⟩:=Bty A J K (fun e k=>g ⟨e,k⟩);rw[c];obtain⟨h1,hB⟩:=h.pushes (v:=(1,Jl op u.2 v.2)) hg b j B ⟨fun _=>rfl,fun e=>absurd e Fr,fun e=>absurd e Fr,fun e=>absurd e Fr⟩ (.inr (.inl ⟨rfl,w2⟩)) q (by rw[Z,Q];exact h.nx);have ep:Mr E (d.top ⟨o.m,o.p,o.lo,s⟩ r) op n [u,v]=(1,Jl op u.2 v.2):=by
  unfold Mr;rw[Pf Bd,Pf Bd,Pf Bd,Pf Bd];rfl
 have z:=Bp.push (E:=E) (d:=d.top ⟨o.m,o.p,o.lo,s⟩ r) (o:=⟨o.m,o.p,o.lo,s⟩) (r:=r) (op:=op) (n:=n) (a:=[u,v]) Bd Bd Bd (fun _ _=>Fr) h1;rw[ep]at z;refine⟨_,⟨s,[u,v],b,l,.inr ⟨?_,z⟩⟩,hB⟩;unfold Dn;by_cases f:op=10;·rw[Sp f,Pf (show ¬(Ib [u,v]).2=0 from fun k=>g ⟨f,k⟩)]
 rw[Pf f,Pf Bd,Pf Bd,Pf Bd,Pf Bd,Pf Bd,Pf Bd]
def Cz.tgt(h:Cz E d ω o r S ρ x y op n)(b:Dx op=true):0<=n:=by
 have:=((h.ok.env h.mem).tgt o.p h.g.top.p (by show Dx ((E.meth o.m).code.getD o.p 0)=true;rw[h.eo];exact b)).1;rw[<- h.en];exact this
def Brj(h:Cz E d ω o r S ρ x y 11 n):Gi E d o r 11 n (Ci E.M 11 n S):=by
 obtain⟨l,s,a,b,e,f,g,i⟩:=h.gen Bd;obtain rfl:=Ab g rfl;have j:s=o.st:=by rw[b];simp
 subst j;have c:=h.tgt rfl;refine⟨_,⟨o.st,[],b,i,.inr ⟨rfl,.jump Bd Bd Bd Bd c rfl⟩⟩,?_⟩;exact h.lays (S':=S.withNow (Lu n.toNat S.now)) (.inr ⟨rfl,c,rfl⟩) b e (by simpa[Fg] using f) ⟨h.s.read,h.s.objs,h.s.now.moved _ _,h.s.wait,h.s.en,h.s.out,h.s.steps⟩ rfl
def Bi0(h:Cz E d ω o r S ρ x y op n)(ho:12<=op/\op<=14):Gi E d o r op n (Ci E.M op n S):=by
 obtain⟨xs,s,a,b,i,C,D,F⟩:=h.gen Bd;have Q:Dz op=true:=by unfold Dz;simp;omega
 have G:Dx op=true:=by unfold Dx;simp;omega
 have I:=h.tgt G;have V:Fg (Cq E.cs) E.ms op n=[]:=by
  unfold Fg;rw[Pf Bd,Pf Bd,Pf Bd,Pf Bd,Pf Bd]
 rw[V,Bxl]at i;have J:Dn E d op n a=0:=by
  unfold Dn;rw[Pf Bd,Pf Bd,Pf Bd,Pf Bd,Pf Bd,Pf Bd,Pf Bd]
 obtain⟨K,L,c,N,Y,Z⟩:(op=13->2<=a.length)/\1<=a.length/\∃c,Gb ⟨o.m,o.p,o.lo,s⟩ c/\c.next=Ch E o/\Ci E.M op n S=S.withNow (if Ii op a=true then Lu n.toNat c else c):=by
  have e1:Ci E.M op n S=S.withNow (Hm op n S.now):=by unfold Ci;rw[Pf Bd,Pf Bd,Sp Bd]
  rw[e1];by_cases f:op=13
  ·obtain⟨u,v,rfl,hu,hv⟩:=Bfw D (show _=[(1,0),(1,0)] by unfold Cu;rw[Sp Bd]);obtain⟨j,l,p3,q⟩:=h.s.pop (s:=s++[u]) (v:=v) (by rw[b];simp);obtain⟨q1,q2,q3,q4⟩:=l.pop rfl;refine⟨fun _=>Fr,Fr,_,q2.now,by rw[q4,q];exact h.nx,?_⟩;have z:(Bw S.now).1=v.2:=j;have a0:(Bw (Bw S.now).2).1=u.2:=q1;unfold Hm;rw[Pf Bd,Sp f,a0,z,f];have:Ii 13 [u,v]=decide (u.2<v.2):=by unfold Ii;simp
   rw[this];by_cases g:u.2<v.2;·rw[Sp g,Sp (by simpa using g)];rfl
   rw[Pf g,Pf (by simpa using g)];rfl
  have A:∃t,Cu (Cq E.cs) E.ms (E.meth o.m).result op n=[t]:=by
   unfold Cu;by_cases B:op=12;·exact⟨_,by rw[Pf Bd,Sp Bd]⟩
   exact⟨_,by rw[Pf Bd,Pf Bd,Sp Bd]⟩
  obtain⟨t,A⟩:=A;obtain⟨v,rfl,hv⟩:=Xy D A;obtain⟨j,l,p3,q⟩:=h.s.pop b;refine⟨fun e=>absurd e f,Fr,_,l.now,by rw[q];exact h.nx,?_⟩;have z:(Bw S.now).1=v.2:=j;have e3:Hm op n S.now=if v.2=0 then Lu n.toNat (Bw S.now).2 else (Bw S.now).2:=by
   unfold Hm;rw[z];by_cases B:op=12;·rw[Sp B]
   rw[Pf B,Pf f,Sp Bd]
  have e4:Ii op [v]=decide (v.2=0):=by
   unfold Ii;have:op=12\/op=14:=Bd;rcases this with rfl|rfl<;>simp<;>exact Bool.beq_eq_decide_eq ..
  rw[e3,e4];by_cases g:v.2=0;·rw[Sp g,Sp (by simpa using g)];rfl
  rw[Pf g,Pf (by simpa using g)];rfl
 rw[Z];cases O:Ii op a with
 | true =>
  rw[Sp rfl];exact⟨_,⟨s,a,b,F,.inr ⟨J,.jump Bd Bd K (fun _=>L) I O⟩⟩,h.lays (.inr ⟨G,I,rfl⟩) b i C ⟨h.s.read,h.s.objs,N.moved _ _,h.s.wait,h.s.en,h.s.out,h.s.steps⟩ rfl⟩
 | false =>
  rw[Pf Fr];exact⟨_,⟨s,a,b,F,.inr ⟨J,.stay Bd Bd K L O⟩⟩,h.lays (.inl ⟨Q,rfl⟩) b i C ⟨h.s.read,h.s.objs,N,h.s.wait,h.s.en,h.s.out,h.s.steps⟩ Y⟩
def But(h:Cz E d ω o r S ρ x y 24 n)(l:Int):Gi E d o r 24 n (Ci E.M 24 l S):=by
 obtain⟨F,s,a,f,p,q,z,t⟩:=h.gen Bd;obtain rfl:=Ab z rfl;have A:s=o.st:=by rw[f];simp
 subst A;have B:Ci E.M 24 l S=Ta E.M S:=rfl;rw[B];unfold Ta;have C:E.M.ins=E.ins:=rfl;rw[C,h.s.read];by_cases g:d.read<E.ins.length
 ·rw[Sp g];have D:E.ins.getD d.read 0∈E.ins:=Hu g;obtain⟨i,j⟩:=h.pushes (v:=(1,E.ins.getD d.read 0)) rfl f p q ⟨fun _=>rfl,fun e=>absurd e Fr,fun e=>absurd e Fr,fun e=>absurd e Fr⟩ (.inr (.inl ⟨rfl,h.ok.ins _ D⟩)) h.s h.nx;refine⟨_,⟨o.st,[],f,t,.inr ⟨rfl,.read rfl g i⟩⟩,?_⟩;cases j using He.el with
  | on ω' o' r' G H hn =>
   obtain⟨rfl,rfl⟩:o'=⟨o.m,Ch E o,o.lo,o.st++[(1,E.ins.getD d.read 0)]⟩/\r'=r:=by
    have:=G.os;simp only[Cs.top,List.cons.injEq]at this;exact⟨this.1.symm,this.2.symm⟩
   exact .on ω' _ _ ⟨rfl,G.st,G.hp,G.md,G.ws,G.top⟩ ⟨rfl,H.objs,H.now,H.wait,H.en,H.out,H.steps⟩ hn
  | off a b c=>have:=h.s.en;exact absurd (this.symm.trans a) Fr
 rw[Pf g];obtain⟨i,j⟩:=h.pushes (v:=(1,0)) rfl f p q ⟨fun _=>rfl,fun e=>absurd e Fr,fun e=>absurd e Fr,fun e=>absurd e Fr⟩ (.inr (.inl ⟨rfl,Fr,Fr⟩)) h.s h.nx;exact⟨_,⟨o.st,[],f,t,.inr ⟨rfl,.none rfl (by show E.ins.length<=d.read;omega) i⟩⟩,j⟩
def Bte(h:Cz E d ω o r S ρ x y 25 n)(i:Int):Gi E d o r 25 n (Ci E.M 25 i S):=by
 obtain⟨z,s,a,c,e,j,l,m⟩:=h.gen Bd;obtain⟨v,rfl,f⟩:=Xy l rfl;obtain⟨p,b,A,q⟩:=h.s.pop c;have t:Fg (Cq E.cs) E.ms 25 n=[]:=rfl;rw[t,Bxl]at e;refine⟨_,⟨s,[v],c,m,.inr ⟨rfl,.out rfl Fr⟩⟩,?_⟩;subst e;exact h.on (.inl ⟨rfl,rfl⟩) (.refl _ _ _) h.g.hp rfl h.g.st h.g.md ⟨h.ty.lo,j⟩ ⟨h.wl,fun v f=>h.ws v (by rw[c];simp[f])⟩ ⟨b.read,b.objs,b.now.at _,b.wait,b.en,by show S.out++[S.top]=_;rw[h.s.out,p];rfl,b.steps⟩ (by show S.popped.now.next=_;rw[q];exact h.nx)
end
section
variable {E:Cr}{d:Cs}{ω:Int→Nat × Int}{o:Ca}{r:List Ca}{S:Bo}{ρ:Int→Int}{x y:Be}{op n:Int}
def Zx{f:Int->Int}(g:Ez E.T Q ω u ρ f C (3,c))(h:It Q.length C)(j:C.2≠0):∃k:Nat,C=(2,(k:Int))/\0<k/\k<Q.length/\(Cc Q (k:Int)).set=true/\Tr.At E.T (Cc Q (k:Int)).cl c:=by
 obtain⟨a,b⟩:=g.ref rfl;obtain⟨l,m⟩:=b.resolve_left j;obtain⟨p,q⟩:=h.ref a;have e:((C.2.toNat:Nat):Int)=C.2:=Bd;refine⟨C.2.toNat,by rw[e];exact Bxd a rfl,Bd,Bd,?_⟩;rw[e];exact⟨l,Tr.fits_ref.1 m⟩
def Bod(h:E.Ok)(b:Ky E Q ω)(i:0<=n/\n<(Cd.fieldSum E.cs:Int))(j:k<Q.length)(c:(Cc Q (k:Int)).set=true)(f:Tr.At E.T (Cc Q (k:Int)).cl (E.fld n).owner):∃z:Nat,(E.fld n).slot=(z:Int)/\Je E.T (Oj E.cs) n=(z:Int)/\z<(Cc Q (k:Int)).vals.length/\(E.all (Cc Q (k:Int)).cl).getD z (0,0)=(E.fld n).t:=by
 have C:=V9 E.cs;obtain⟨q,D,l,z,m,g,p⟩:=Bum h.k.ok (n:=n.toNat) Bd;rw[Bwo i.1]at g;obtain⟨s,v⟩:=b.Cl _ c;have e:(E.fld n).owner=(q:Int):=l;rw[e]at f;obtain⟨A,B⟩:=p _ s v f;have:=(b.vs k j c).len;exact⟨z,m,g,by rw[this];exact A,B⟩
def Cz.nfl(h:Cz E d ω o r S ρ x y op n)(b:op=17\/op=18):n.toNat<(Cq E.cs).length:=by
 have:=h.num.fld b;have:=V9 E.cs;omega
def Btg(h:Cz E d ω o r S ρ x y 17 n):Gi E d o r 17 n (Ci E.M 17 n S):=by
 obtain⟨xs,s,a,b,i,D,F,j⟩:=h.gen Bd;have G:Cu (Cq E.cs) E.ms (E.meth o.m).result 17 n=[(3,(E.fld n).owner)]:=rfl;have I:Fg (Cq E.cs) E.ms 17 n=[(E.fld n).t]:=rfl;obtain⟨v,rfl,J⟩:=Xy F G;rw[I]at i;have c:=h.num.fld (.inl rfl);obtain⟨K,l,L,N⟩:=h.s.pop b;have O:Ci E.M 17 n S=Lp E.M n S:=rfl;rw[O];unfold Lp;rw[K];by_cases g:v.2=0;·rw[Sp g];exact h.fault (k:=2) b j l (L.trans h.pos) Bd Bd (by unfold Dn;simp[g])
 rw[Pf g];obtain⟨k,rfl,k0,e,q,Q⟩:=Zx J (h.ws v (by rw[b];simp)) g;obtain⟨z,f,V,A,Y⟩:=Bod h.ok h.g.hp c e q Q;have B:=(h.g.hp.vs k e q).get z A (0,0) (0,0);rw[Y]at B;have Z:=(Ht (Al h.ok.k c).2).2;obtain⟨h1,hB⟩:=h.pushes (v:=(Cc d.ts (k:Int)).vals.getD z (0,0)) rfl b i D (B.plain Z) (h.g.hp.wv k e _ (Hu A)) l (N.trans h.nx);have ep:Mr E (d.top ⟨o.m,o.p,o.lo,s⟩ r) 17 n [(2,(k:Int))]=(Cc d.ts (k:Int)).vals.getD z (0,0):=by
  show (Cc d.ts (k:Int)).vals.getD (E.fld n).slot.toNat (0,0)=_;rw[f,Bvn]
 have C:=Bp.push (E:=E) (d:=d.top ⟨o.m,o.p,o.lo,s⟩ r) (o:=⟨o.m,o.p,o.lo,s⟩) (r:=r) (op:=17) (n:=n) (a:=[(2,(k:Int))]) Bd (fun _=>⟨c.1,h.nfl (.inl rfl),by rw[f];omega,Fr,by show (k:Int)<(d.ts.length:Int);omega,by show (E.fld n).slot<((Cc d.ts (k:Int)).vals.length:Int);rw[f];omega⟩) Fr Bd h1;rw[ep]at C;refine⟨_,⟨s,_,b,j,.inr ⟨by unfold Dn;simp at g ⊢;omega,C⟩⟩,?_⟩;have e2:Vr (k:Int) (Je E.M.T E.M.FL n) S.objs=((Cc d.ts (k:Int)).vals.getD z (0,0)).2:=by
  obtain⟨b1,b2⟩:=Bfq (ts:=d.ts) (k:=(k:Int)) Bd Bd;have b3:Je E.M.T E.M.FL n=(z:Int):=V;unfold Vr Jm;rw[b3,h.s.objs,b1,b2];simp only[Ng,Bvr];rw[Sp Fm,Bvn];exact Bpm _ _
 rw[e2];exact hB
def Btc(h:Cz E d ω o r S ρ x y 18 n):Gi E d o r 18 n (Ci E.M 18 n S):=by
 obtain⟨xs,s,a,c,I,O,Q,J⟩:=h.gen Bd;have V:Cu (Cq E.cs) E.ms (E.meth o.m).result 18 n=[(3,(E.fld n).owner),(E.fld n).t]:=rfl;obtain⟨u,v,rfl,Y,Z⟩:=Bfw Q V;have el:Fg (Cq E.cs) E.ms 18 n=[]:=rfl;rw[el,Bxl]at I;have C:=h.num.fld (.inr rfl);obtain⟨p1,p2,p3,p4⟩:=h.s.pop (s:=s++[u]) (v:=v) (by rw[c];simp);obtain⟨q1,f,q3,q4⟩:=p2.pop rfl;have e1:Ci E.M 18 n S=Lo E.M n S:=rfl;rw[e1];unfold Lo;rw[q1,p1];by_cases g:u.2=0;·rw[Sp g];exact h.fault (k:=2) c J f (by rw[q3,p3];exact h.pos) Bd Bd (by unfold Dn;simp[g])
 rw[Pf g];obtain⟨k,rfl,K,i,A,ka⟩:=Zx Y (h.ws u (by rw[c];simp)) g;obtain⟨z,D,z2,L,z4⟩:=Bod h.ok h.g.hp C i A ka;have a0:=(Ht (Al h.ok.k C).2).2;have wv:=h.ws v (by rw[c];simp);obtain⟨c0,c1⟩:=h.g.hp.Cl _ A;have h6:6<=k:=by
  by_cases g:k<=5;·have:=h.g.hp.gv k K g;rw[Bj5 i]at this;rw[Option.some.inj this]at L;simp at L
  omega
 have l:L9 d.ts (d.ts.set k ⟨(Cc d.ts (k:Int)).cl,true,(Cc d.ts (k:Int)).vals.set z v⟩) ω ω (fun _=>False) :=
  ⟨Fr,fun j F hl B=>by
   rw[Xp i F];by_cases e:j=(k:Int);·rw[Sp e,e];exact⟨rfl,rfl⟩
   ·rw[Pf e];exact⟨B,rfl⟩,fun j F hl B C=>by
   rw[Xp i F];have:j≠(k:Int):=fun e=>by rw[e,A]at B;cases B
   rw[Pf this];exact⟨B,rfl,rfl⟩⟩
 have N:=Bp.put (E:=E) (d:=d.top ⟨o.m,o.p,o.lo,s⟩ r) (o:=⟨o.m,o.p,o.lo,s⟩) (r:=r) (op:=18) (n:=n) (a:=[(2,(k:Int)),v]) rfl Fr C.1 (h.nfl (.inr rfl)) (by rw[D];omega) Fr (by show (k:Int)<(d.ts.length:Int);omega) (by show (E.fld n).slot<((Cc d.ts (k:Int)).vals.length:Int);rw[D];omega);have ed:(d.top ⟨o.m,o.p,o.lo,s⟩ r).with ((d.top ⟨o.m,o.p,o.lo,s⟩ r).ts.set (Cg [(2,(k:Int)),v]).2.toNat ⟨(Cc (d.top ⟨o.m,o.p,o.lo,s⟩ r).ts (Cg [(2,(k:Int)),v]).2).cl,(Cc (d.top ⟨o.m,o.p,o.lo,s⟩ r).ts (Cg [(2,(k:Int)),v]).2).set,(Cc (d.top ⟨o.m,o.p,o.lo,s⟩ r).ts (Cg [(2,(k:Int)),v]).2).vals.set (E.fld n).slot.toNat (Ib [(2,(k:Int)),v])⟩) ⟨o.m,Ch E ⟨o.m,o.p,o.lo,s⟩,o.lo,s⟩ r=d.with (d.ts.set k ⟨(Cc d.ts (k:Int)).cl,true,(Cc d.ts (k:Int)).vals.set z v⟩) ⟨o.m,Ch E o,o.lo,s⟩ r:=by
  show d.with (d.ts.set (k:Int).toNat ⟨(Cc d.ts (k:Int)).cl,(Cc d.ts (k:Int)).set,(Cc d.ts (k:Int)).vals.set (E.fld n).slot.toNat v⟩) _ r=_;rw[D,A,Bvn,Bvn];rfl
 rw[ed]at N;refine⟨_,⟨s,_,c,J,.inr ⟨by unfold Dn;simp at g ⊢;omega,N⟩⟩,?_⟩;have e2:Tt (k:Int) (Je E.M.T E.M.FL n) v.2 S.objs=(d.ts.set k ⟨(Cc d.ts (k:Int)).cl,true,(Cc d.ts (k:Int)).vals.set z v⟩).tail.map Ng:=by
  obtain⟨b1,b2⟩:=Bfq (ts:=d.ts) (k:=(k:Int)) Bd Bd;have b3:Je E.M.T E.M.FL n=(z:Int):=z2;unfold Tt Jm;rw[b3,h.s.objs,b1,b2,Bf1 K];simp only[Ng,Bvr];rw[Sp Fm,Bvn,Byj,show ((k:Int)-1).toNat=k-1 by omega]
 subst I;refine h.on (.inl ⟨rfl,rfl⟩) (l.weak (fun _ k=>k.elim)) (h.g.hp.set h.ok h6 i rfl ⟨c0,c1⟩ l ((h.g.hp.vs k i A).put z (0,0) (by rw[z4];exact Z.plain a0)) (fun w b=>?_)) rfl h.g.st (by show d.made+6=(d.ts.set k _).length;rw[Bv7];exact h.g.md) ⟨h.ty.lo.mono (fun w b t _ q=>q.ext l (h.wl w b) (fun _=>id)),O.mono (fun w b t _ q=>q.ext l (h.ws w (by rw[c];simp[b])) (fun _=>id))⟩ ⟨fun w b=>(h.wl w b).mono l.len,fun w b=>(h.ws w (by rw[c];simp[b])).mono l.len⟩ ⟨f.read,e2,f.now.at _,f.wait,f.en,f.out,f.steps⟩ (by show S.popped.popped.now.next=_;rw[q4,p4];exact h.nx)
 rcases Yu b with G|G
 ·exact h.g.hp.wv k i w G
 rw[G];exact wv
def Brl(h:Cz E d ω o r S ρ x y 19 n):Gi E d o r 19 n (Ci E.M 19 n S):=by
 obtain⟨I,s,a,b,m,p,q,c⟩:=h.gen Bd;obtain⟨v,rfl,e⟩:=Xy q (show _=[(3,0)] from rfl);obtain⟨f,J⟩:=h.num.cls (.inr (.inr rfl));obtain⟨t,i,z,A⟩:=h.s.pop b;have j:=h.ws v (by rw[b];simp);have B:Ci E.M 19 n S=if J3 E.T d.ts v (3,n)=true then S.popped.push v.2 else M8 E.M ((3:Nat):Int) S.popped:=by
  show Sk E.M n S=_;unfold Sk;rw[t];by_cases g:v.2=0
  ·have:J3 E.T d.ts v (3,n)=true:=by
    unfold J3;rw[Pf Fr,Sp (e.ref rfl).1,Sp g]
   rw[Sp g,Sp this]
  rw[Pf g];obtain⟨k,rfl,K,L,l,N⟩:=Zx e j g;obtain⟨C,D⟩:=h.g.hp.Cl _ l;have:J3 E.T d.ts (2,(k:Int)) (3,n)=Tr.within E.T (Id (k:Int) S.objs) n:=by
   unfold J3;rw[Pf Fr,Sp rfl,Pf g,h.s.objs,Blf Bd Bd,U9 h.ok.k.ok C D f,l,Bxn]
  rw[this];rfl
 rw[B];by_cases g:J3 E.T d.ts v (3,n)=true;·rw[Sp g];obtain⟨F,G⟩:=h.pushes rfl b m p (Bu3 h.ok.k.ok h.g.hp.Cl f g) j i (A.trans h.nx);exact⟨_,⟨s,_,b,c,.inr ⟨by show (if J3 E.T d.ts v (3,n)=true then (0:Int) else 3)=0;rw[Sp g],.push Bd Bd Fr Bd F⟩⟩,G⟩
 rw[Pf g];exact h.fault (k:=3) b c i (z.trans h.pos) Bd Bd (by show (if J3 E.T d.ts v (3,n)=true then (0:Int) else 3)=3;rw[Pf g])
def Bow(h:Cz E d ω o r S ρ x y 23 n)(e:Int):Gi E d o r 23 n (Ci E.M 23 e S):=by
 obtain⟨A,s,a,b,B,C,l,f⟩:=h.gen Bd;obtain⟨v,rfl,c⟩:=Xy l (show _=[(3,1)] from rfl);obtain⟨m,i,j,D⟩:=h.s.pop b;have p:Ci E.M 23 e S=Jw E.M S:=rfl;rw[p];unfold Jw;rw[m];by_cases g:v.2=0;·rw[Sp g];exact h.fault (k:=2) b f i (j.trans h.pos) Bd Bd (by unfold Dn;simp[g])
 rw[Pf g];obtain⟨k,rfl,q,t,z,F⟩:=Zx c (h.ws v (by rw[b];simp)) g;exact⟨_,⟨s,_,b,f,.inl ⟨k,q,t,by unfold Dn;simp at g ⊢;omega,rfl⟩⟩,h.throws i (j.trans h.pos) (fun v c=>by rw[b];simp[c]) Bd Bd z⟩
def Btb(h:Cz E d ω o r S ρ x y 22 n)(F:Int):Gi E d o r 22 n (Ci E.M 22 F S):=by
 obtain⟨xs,s,a,j,hy,t1,A,G⟩:=h.gen Bd;have Q:Cu (Cq E.cs) E.ms (E.meth o.m).result 22 n=Ei (E.meth o.m).result:=rfl;have I:=Xe h.ok.k h.mem h.num;rw[Q]at A I;have V:Ci E.M 22 F S=Ki E.M S:=rfl;have Y:(E.M.meth S.now.meth).result=(E.meth o.m).result:=by rw[h.s.now.m,X7 h.g.top.m]
 obtain⟨J,Z,f,i,K⟩:a.length<=1/\((E.meth o.m).result.1=1->0<a.length)/\∃f,Jd E d ⟨o.m,o.p,o.lo,s⟩ r f/\Ki E.M S=Lq (E.meth o.m).result (Cg a).2 f/\(a=[]<->(E.meth o.m).result.1=0):=by
  unfold Ki;rw[Y];by_cases g:(E.meth o.m).result.1=0
  ·obtain rfl:=Ab A (by unfold Ei;rw[Sp g]);rw[Sp g];have e0:s=o.st:=by rw[j];simp
   subst e0;exact⟨Fr,Bd,S,h.s,rfl,by simp[g]⟩
  obtain⟨v,rfl,L⟩:=Xy A (show _=[(E.meth o.m).result] by unfold Ei;rw[Pf g]);rw[Pf g];obtain⟨p1,p2,p3,p4⟩:=h.s.pop j;exact⟨Fr,Fr,S.popped,p2,by rw[p1];rfl,by simp[g]⟩
 rw[V,K.1];obtain⟨-,N⟩:=K;unfold Lq;have hw:=h.g.top.w;have B:=i.wait;cases r with
 | nil =>
  have hn:f.wait=[]:=List.reverse_eq_nil_iff.1 (Bwc B.len.symm);rw[hn];exact⟨_,⟨s,a,j,G,.inr ⟨rfl,.ret0 rfl rfl Z⟩⟩,.off rfl (Byo _) rfl rfl i.out i.steps⟩
 | cons q r =>
  obtain⟨c,l,hc,C,hr⟩:∃c l,f.wait.reverse=c::l/\Vp E q c/\Cj (Vp E) r l:=by
   cases h:f.wait.reverse with
   | nil=>rw[h]at B;cases B using Cj.el
   | cons c l=>rw[h]at B;cases B using Cj.el with
    | cons a b=>exact⟨c,l,rfl,a,b⟩
  have hS:f.wait=l.reverse++[c]:=by rw[<- B0x f.wait,hc,Bxj]
  simp only[hS,B0y,B0b,Option.some_or,B0z];cases hw using Fe.el with
  | cons ρ' x' s' h1 h2 h3 h4 h5 h6 h7 =>
   have hP:=Un h.ok.k (Cr.mem h1) h2 (h.ok.P (Cr.mem h1) h3) h5;have a0:Fc (Ep E.cs E.ms (E.meth q.m)) q.p x' ((Ch E q:Nat):Int) ⟨x'.locals,s'++Ei (E.meth o.m).result⟩ false:=by
    have e:((Ch E q:Nat):Int)=(Ep E.cs E.ms (E.meth q.m)).nx q.p:=by unfold Ch Df.nx;push_cast;rfl
    rw[e];exact .nxt _ h5 h4
   obtain⟨_,b2,b3,z,b4,b5⟩:=Bqp h.ok h.g.hp.Cl h1 h2 h3 a0 (Nb hP) (o:=⟨q.m,Ch E q,q.lo,q.st++a⟩) rfl rfl ⟨h6.lo,h6.st.app (A.plain (fun t ht=>(Ht (I t ht)).2))⟩;have O:((q.st.length+a.length:Nat):Int)<=(E.meth q.m).stack:=by
    have a1:q.st.length=s'.length:=h6.st.len;have:=A.len;simp only[Up]at b2;omega
   have h8:(E.meth q.m).stack<=8:=(h.ok.k.mt _ (Cr.mem h1)).rd.st.2;refine⟨_,⟨s,a,j,G,.inr ⟨rfl,.ret q r rfl rfl J (Ur h2) O⟩⟩,?_⟩;refine .on ω _ r ⟨rfl,h.g.st,h.g.hp,h.g.md,fun z D=>?_,⟨h1,b3,⟨ρ',z,b4,b5⟩,h7⟩⟩ ⟨i.read,i.objs,?_,by simpa using hr,i.en,i.out,i.steps⟩ ?_
   ·rcases List.mem_cons.1 D with rfl|D
    ·have:=h.g.ws q Fr;exact⟨this.1,fun v L=>by
      rcases List.mem_append.1 L with k|k
      ·exact this.2 v k
      exact h.ws v (by rw[j];simp[k])⟩
    exact h.g.ws z (by simp[D])
   ·by_cases g:(E.meth o.m).result.1=0
    ·obtain rfl:=N.2 g;show Gb _ (if (E.meth o.m).result.1=0 then c else _)
     rw[Sp g,Bxl];exact C.1.at _
    show Gb _ (if (E.meth o.m).result.1=0 then c else _)
    rw[Pf g];obtain⟨v,rfl⟩:∃v,a=[v]:=by
     match a,J,N with
     | [],_,k=>exact absurd (k.1 rfl) g
     | [v],_,_=>exact⟨v,rfl⟩
    exact(Ox C.1 v (by simp only[Bvo,Bwn]at O;omega)).at _
   show (if (E.meth o.m).result.1=0 then c else En (Cg a).2 c).next=_
   split
   ·exact C.2.2
   rw[Gk];exact C.2.2
def Bhc(c:E.Ok)(l:Vf E.T Q)(m:k<E.ms.length){i:Nat}(j:Nat){ar:Int->Int}{a:TP}(g:Cj (Ez E.T Q ω i ρ ar) a (Kv (E.meth k).cl (E.meth k).params)):(a.length:Int)<=(E.meth k).locals/\0∈Cd.places (E.meth k).code/\∃ρ f,E.F k 0=some f/\Oa E Q ω j ρ (Hv E k a) f:=by
 have e:=Cr.mem m;have G:=c.k.mt _ e;refine⟨by rw[g.len];exact G.own,Xh (c.cd _ e),ρ,?_⟩;obtain⟨f,p,h⟩:=(c.sol e).x0;have q:=Nb (Vj G);have s:∀t∈Kv (E.meth k).cl (E.meth k).params,t.1≠4:=fun t b=>by
  unfold Kv at b;rcases List.mem_append.1 b with b|b
  ·split at b
   ·simp at b
   rw[List.mem_singleton.1 b];simp
  exact(Ht (Pi G.ps t b)).2
 have v:∀n,Cj (Ez E.T Q ω j ρ (Hq (E.meth k))) (List.replicate n (0,0)) (List.replicate n (0,0)):=fun n=>by
  induction n with
  | zero=>exact .nil
  | succ n ih=>exact .cons (.top rfl) ih
 have z:Cj (Ez E.T Q ω j ρ (Hq (E.meth k))) (Hv E k a).lo (Fk (E.meth k)).locals:=by
  unfold Hv Fk Pp;rw[<- g.len];exact(g.plain s).app (v _)
 have hF:E.F k 0=some f:=p;refine⟨f,hF,Cj.le c.k.ok l h.lo q.1 (Nb (c.P e hF)).1 z,?_⟩;have this:Da E.T [] f.stack:=h.st;show Cj _ [] f.stack;cases A:f.stack with
 | nil=>exact .nil
 | cons _ _=>rw[A]at this;cases this
def Cz.opens(h:Cz E d ω o r S ρ x y op n){a f:TP}{c:Bo}(i:k<E.ms.length)(t:o.st=q++a)(B:y=⟨x.locals,f++Ei (E.meth k).result⟩)(C:Dz op=true)(D:Cj (Ez E.T d.ts ω r.length ρ (Hq (E.meth o.m))) q f)(F:Cj (Ez E.T d.ts ω r.length ρ (Hq (E.meth o.m))) a (Kv (E.meth k).cl (E.meth k).params))(b:Jd E d ⟨o.m,o.p,o.lo,q⟩ r c)(G:c.now.pos=o.p)(nx:c.now.next=Ch E o):(a.length:Int)<=(E.meth k).locals/\He E (d.top (Hv E k a) (⟨o.m,o.p,o.lo,q⟩::r)) (c.opened (Cn (k:Int) (a.map Prod.snd))):=by
 obtain⟨A,I,J⟩:=Bhc h.ok h.g.hp.Cl i (r.length+1) F;obtain⟨K,L⟩:=Bi8 E k a A (h.ok.k.mt _ (Cr.mem i)).rd.lo.2;refine⟨A,.on ω _ _ ⟨rfl,h.g.st,h.g.hp,h.g.md,fun z e=>?_,⟨i,I,J,?_⟩⟩ ⟨b.read,b.objs,K,?_,b.en,b.out,b.steps⟩ L⟩
 ·rcases List.mem_cons.1 e with rfl|e
  ·refine⟨fun v j=>?_,by simp[Hv]⟩;rcases List.mem_append.1 j with l|l
   ·exact h.ws v (by rw[t];simp[l])
   rw[(List.mem_replicate.1 l).2];exact .inl rfl
  rcases List.mem_cons.1 e with rfl|e
  ·exact⟨h.wl,fun v j=>h.ws v (by rw[t];simp[j])⟩
  exact h.g.ws z (by simp[e])
 ·exact .cons ρ x f h.g.top.m h.g.top.p h.fx (by rw[h.eo];exact C) (by have:=h.rl;rw[B]at this;exact this) ⟨h.ty.lo,D⟩ h.g.top.w
 show Cj (Vp E) _ (c.wait++[c.now]).reverse;rw[List.reverse_append];exact .cons ⟨b.now,G,nx⟩ b.wait
def Brm(h:Cz E d ω o r S ρ x y 20 n):Gi E d o r 20 n (Ci E.M 20 n S):=by
 obtain⟨N,s,a,b,i,v,f,j⟩:=h.gen Bd;obtain⟨z,O⟩:=h.num.mth (.inl rfl);obtain⟨k,rfl⟩:∃k:Nat,n=(k:Int):=⟨n.toNat,Bd⟩;have c:k<E.ms.length:=Bd;have A:Cu (Cq E.cs) E.ms (E.meth o.m).result 20 (k:Int)=(E.meth k).params:=rfl;have B:Fg (Cq E.cs) E.ms 20 (k:Int)=Ei (E.meth k).result:=rfl;have C:(E.meth k).cl=255:=by
  have:=h.good.arg o.p h.g.top.p;unfold Cd.argAt at this;rw[Baa,h.eo,h.en]at this;simp only[Cd.argB,Bvr,Bvn,Bwk,By9,Bwp,show ¬(20:Int)=2 by omega,show ¬(20:Int)=3 by omega,show ¬(20:Int)<=14 by omega,show ¬(20:Int)=15 by omega,show ¬(20:Int)=16 by omega,show ¬(20:Int)=19 by omega,show ¬(20:Int)=17 by omega,show ¬(20:Int)=18 by omega,or_self,and_false,Bxk,By3]at this;have e:(List.map Rd.Mth.cl E.ms).getD k 0=(E.meth k).cl:=by
   unfold Cr.meth;simp only[Th,Bv8];rw[Ws c];rfl
  rw[<- e];exact this.2
 rw[A]at f;rw[B]at i;obtain⟨D,F,l,G⟩:=Yn (E.meth k).params.length h.s.now b f.len;have I:Ci E.M 20 (k:Int) S=Hz E.M (k:Int) (a.map Prod.snd) (S.withNow (D6 (E.meth k).params.length S.now).2):=by
  show Vs E.M (k:Int) S=_;unfold Vs;rw[X7 c];unfold I8 Gj;rw[D]
 have q:Jd E d ⟨o.m,o.p,o.lo,s⟩ r (S.withNow (D6 (E.meth k).params.length S.now).2):=⟨h.s.read,h.s.objs,F,h.s.wait,h.s.en,h.s.out,h.s.steps⟩;have t:(S.wait.length:Int)+1=(d.os.length:Int):=by
  have:=h.s.wait.len;rw[h.g.os];simp only[Bzk]at this;simp;omega
 have J:Cj (Ez E.T d.ts ω r.length ρ (Hq (E.meth o.m))) a (Kv (E.meth k).cl (E.meth k).params):=by
  unfold Kv;rw[Sp C];exact f
 obtain⟨K,L⟩:=h.opens c b i rfl v J q (l.trans h.pos) (G.trans h.nx);rw[I];unfold Hz;by_cases g:E.depth<=(d.os.length:Int);·rw[Sp (show E.M.depth<=((S.withNow _).wait.length:Int)+1 by show E.depth<=(S.wait.length:Int)+1;rw[t];exact g)];exact h.fault (k:=5) b j q (l.trans h.pos) Bd Bd (by unfold Dn;simp[g])
 rw[Pf (show ¬E.M.depth<=((S.withNow _).wait.length:Int)+1 by show ¬E.depth<=(S.wait.length:Int)+1;rw[t];exact g)];exact⟨_,⟨s,a,b,j,.inr ⟨by unfold Dn;simp[g],.call rfl z c K⟩⟩,L⟩
end
def Ha (T:TI)(cl name:Int)(m:Rd.Mth):Prop:=m.cl≠255/\m.name=name/\Tr.rbel T cl m.cl=true
def Bjd{B b e:Int}:∀(l:List Rd.Mth) (i:Nat),Jg z c B b e q k i l=true->∀(t:Nat) (x:Rd.Mth),l[t]?=some x->Oe z c B b e q k (i+t) x=false
 | [],_,_,t,x,h=>by simp at h
 | m::l,i,h,t,x,hx=>by
  unfold Jg at h;by_cases g:Oe z c B b e q k i m=true;·rw[Sp g]at h;cases h
  rw[Pf g]at h;cases t with
  | zero =>
   obtain rfl:=Option.some.inj (show some m=some x from hx);simpa using g
  | succ t =>
   have:=Bjd l (i+1) h t x hx;rw[show i+(t+1)=i+1+t by omega];exact this
section
variable {E:Cr}{d:Cs}{ω:Int→Nat × Int}{o:Ca}{r:List Ca}{S:Bo}{ρ:Int→Int}{x y:Be}{op n:Int}
def Bab(h:k<E.ms.length):E.ms[k]?=some (E.meth k):=by
 unfold Cr.meth;rw[Th,Ws h];rfl
def Bcj(c:E.Ok){s:Nat}(e:k<E.ms.length)(f:s<E.ms.length)(h:(E.meth k).cl≠255):Oe E.T (E.meth k).cl (E.meth k).name (E.meth k).result.1 (E.meth k).result.2 (E.meth k).params k s (E.meth s)=false:=by
 have b:=c.hd k e;unfold Ip Rx at b
 split at b
 ·cases b
 split at b
 ·cases b
 split at b
 ·cases b
 have:=Bjd _ _ b s (E.meth s) (Bab f);rw[Bvp]at this;exact this
def Be0(m:E.Ok){B:Int}(h:u<E.ms.length)(i:k<E.ms.length)(b:Ha E.T c B (E.meth u))(f:Ha E.T c B (E.meth k))(e:(E.meth u).cl=(E.meth k).cl):u=k:=by
 have l:∀{u k:Nat},u<E.ms.length->k<E.ms.length->Ha E.T c B (E.meth u)->Ha E.T c B (E.meth k)->(E.meth u).cl=(E.meth k).cl->¬u<k:=fun {u k} h i b f e g=>by
  have:=Bcj m i h f.1;unfold Oe at this;rw[Pf (by rw[b.2.1,f.2.1];simp),Pf b.1,Sp e]at this;simp at this;omega
 have:=l h i b f e;have:=l i h f b e.symm;omega
def Bon(b:E.Ok){B:Int}(s:0<=c)(l:c<(E.T.length:Int))(h:u<E.ms.length)(m:k<E.ms.length)(f:Ha E.T c B (E.meth u))(i:Ha E.T c B (E.meth k))(e:(E.meth u).cl<=(E.meth k).cl):(E.meth u).params=(E.meth k).params/\(E.meth u).result=(E.meth k).result:=by
 by_cases g:(E.meth u).cl=(E.meth k).cl;·rw[Be0 b h m f i g];exact⟨rfl,rfl⟩
 have t:∀{u:Nat},u<E.ms.length->Ha E.T c B (E.meth u)->0<=(E.meth u).cl/\(E.meth u).cl<(E.T.length:Int):=fun h f=>Lr.1 ((b.k.mt _ (Cr.mem h)).cl.resolve_left f.1);obtain⟨p,A⟩:=t h f;obtain⟨q,v⟩:=t m i;have z:=(Bjt b.k.ok p q l ((Tr.rbel_iff b.k.ok s l q).1 i.2.2) e).1 ((Tr.rbel_iff b.k.ok s l p).1 f.2.2);have:=Bcj b m h i.1;unfold Oe at this;rw[Pf (by rw[f.2.1,i.2.1];simp),Pf f.1,Pf g,(Tr.rbel_iff b.k.ok q v p).2 z]at this;simp only[Bxn,Bxo,Bool.not_eq_false',Bwp]at this;exact⟨this.1,this.2⟩
def Xf{cl name:Int}:∀(l:List Rd.Mth) (i b:Nat),(∀t m,l[t]?=some m->E.meth (i+t)=m)->(∀m∈l,Ha E.T cl name m->m.cl<=(E.meth (Fd E cl name l i b)).cl)/\(E.meth b).cl<=(E.meth (Fd E cl name l i b)).cl/\(Fd E cl name l i b=b\/∃t m,l[t]?=some m/\Ha E.T cl name m/\Fd E cl name l i b=i+t)
 | [],i,b,_=>⟨Fr,Byo _,.inl rfl⟩
 | m::l,i,b,h=>by
  have A:∀t m,l[t]?=some m->E.meth (i+1+t)=m:=fun t z c=>by rw[show i+1+t=i+(t+1) by omega];exact h (t+1) z c
  have B:E.meth i=m:=h 0 m rfl;unfold Fd;by_cases g:m.cl≠255/\m.name=name/\Tr.rbel E.T cl m.cl=true/\(E.meth b).cl<m.cl
  ·rw[Sp g];obtain⟨p,j,f⟩:=Xf (cl:=cl) (name:=name) l (i+1) i A;rw[B]at j;refine⟨fun z c e=>?_,Bd,.inr ?_⟩
   ·rcases List.mem_cons.1 c with rfl|c
    ·exact j
    exact p z c e
   rcases f with f|⟨t,z,q,s,v⟩
   ·exact⟨0,m,rfl,⟨g.1,g.2.1,g.2.2.1⟩,f⟩
   exact⟨t+1,z,q,s,by rw[v];omega⟩
  rw[Pf g];obtain⟨p,j,f⟩:=Xf (cl:=cl) (name:=name) l (i+1) b A;refine⟨fun z c e=>?_,j,f.imp id ?_⟩
  ·rcases List.mem_cons.1 c with rfl|c
   ·have:¬(E.meth b).cl<z.cl:=fun k=>g ⟨e.1,e.2.1,e.2.2,k⟩;omega
   exact p z c e
  rintro ⟨t,z,q,s,v⟩;exact⟨t+1,z,q,s,by rw[v];omega⟩
def Xi{B:Int}:∀(l:List Rd.Mth) (i s f:Int),(∀m∈l,(m.name==B&&Tr.within z c m.cl)=true<->Ha z c B m) ->
  (Hl z c B l i s f=s/\∀m∈l,Ha z c B m->m.cl<f)\/∃(t:Nat) (m:Rd.Mth),l[t]?=some m/\Ha z c B m/\Hl z c B l i s f=i+(t:Int)/\f<=m.cl/\∀e∈l,Ha z c B e->e.cl<=m.cl
 | [],_,_,_,_=>.inl ⟨rfl,Fr⟩
 | m::l,i,s,f,h=>by
  have I:∀e∈l,(e.name==B&&Tr.within z c e.cl)=true<->Ha z c B e:=fun e v=>h e (by simp[v]);have L:=h m Fr;have J:(m.name==B&&(decide (f<=m.cl)&&Tr.within z c m.cl))=true<->Ha z c B m/\f<=m.cl:=by
   rw[<- L];simp only[Bwk,Bwp]
   constructor
   ·exact fun k=>⟨⟨k.1,k.2.2⟩,k.2.1⟩
   exact fun k=>⟨k.1.1,k.2,k.1.2⟩
  unfold Hl;by_cases g:Ha z c B m/\f<=m.cl
  ·rw[Sp (J.2 g)]
   right
   rcases Xi l (i+1) i m.cl I with ⟨a,b⟩|⟨t,e,A,C,D,F,G⟩
   ·refine⟨0,m,rfl,g.1,by rw[a];simp,g.2,fun e v p=>?_⟩;rcases List.mem_cons.1 v with rfl|v
    ·exact Byo _
    have:=b e v p;omega
   refine⟨t+1,e,A,C,by rw[D];push_cast;omega,Bd,fun u j p=>?_⟩;rcases List.mem_cons.1 j with rfl|j
   ·exact F
   exact G u j p
  rw[Pf (fun k=>g (J.1 k))];have K:Ha z c B m->m.cl<f:=fun k=>by
   have:¬f<=m.cl:=fun q=>g ⟨k,q⟩;omega
  rcases Xi l (i+1) s f I with ⟨a,b⟩|⟨t,e,A,C,D,F,G⟩
  ·refine .inl ⟨a,fun u j p=>?_⟩;rcases List.mem_cons.1 j with rfl|j
   ·exact K p
   exact b u j p
  refine .inr ⟨t+1,e,A,C,by rw[D];push_cast;omega,F,fun u j p=>?_⟩;rcases List.mem_cons.1 j with rfl|j
  ·have:=K p;omega
  exact G u j p
def Btv(c:E.Ok)(i:k<E.ms.length){cl:Int}(v:0<=cl)(z:cl<(E.T.length:Int))(j:Ha E.T cl (E.meth k).name (E.meth k)):∃b,Fd E cl (E.meth k).name E.ms 0 k=b/\E.M.nearest cl (E.meth k).name=(b:Int)/\b<E.ms.length/\Ha E.T cl (E.meth k).name (E.meth b)/\(E.meth k).params=(E.meth b).params/\(E.meth k).result=(E.meth b).result:=by
 obtain⟨F,G,A⟩:=Xf (E:=E) (cl:=cl) (name:=(E.meth k).name) E.ms 0 k (fun t m h=>by
  rw[Bvp];unfold Cr.meth;rw[Th,h];rfl)
 obtain⟨l,p⟩:Fd E cl (E.meth k).name E.ms 0 k<E.ms.length/\Ha E.T cl (E.meth k).name (E.meth (Fd E cl (E.meth k).name E.ms 0 k)):=by
  rcases A with A|⟨t,m,e,s,B⟩
  ·rw[A];exact⟨i,j⟩
  have f:=(List.getElem?_eq_some_iff.1 e).1;rw[B,Bvp];rw[Bab f]at e;obtain rfl:=Option.some.inj e;exact⟨f,s⟩
 generalize Fd E cl (E.meth k).name E.ms 0 k=b at *;obtain⟨I,J⟩:=Bon c v z i l j p G;refine⟨b,rfl,?_,l,p,I,J⟩;have O:(E.T.length:Int)<=13:=by
  have C:=Ix E.cs;have D:=c.k.l6;show ((Tr.tree E.cs).length:Int)<=13;omega
 have K:∀m∈E.ms,(m.name==(E.meth k).name&&Tr.within E.T cl m.cl)=true<->Ha E.T cl (E.meth k).name m:=fun m L=>by
  simp only[Bwk,By9];by_cases g:m.cl=255;·rw[g,Bdp c.k.ok v z Bd];exact⟨fun q=>absurd q.2 Fr,fun q=>absurd g q.1⟩
  rw[U9 c.k.ok v z (Lr.1 ((c.k.mt _ L).cl.resolve_left g)).1];exact⟨fun q=>⟨g,q.1,q.2⟩,fun q=>⟨q.2.1,q.2.2⟩⟩
 unfold Ds.nearest;show Hl E.T cl (E.meth k).name E.ms 0 0 0=(b:Int);rcases Xi E.ms 0 0 0 K with ⟨_,q⟩|⟨t,m,e,s,B,Q,N⟩
 ·have C:=q _ (Cr.mem i) j;have D:=(Lr.1 ((c.k.mt _ (Cr.mem i)).cl.resolve_left j.1)).1;omega
 have f:=(List.getElem?_eq_some_iff.1 e).1;rw[Bab f]at e;obtain rfl:=Option.some.inj e;have C:=F _ (Cr.mem f) s;have D:=N _ (Cr.mem l) p;rw[B,Be0 c f l s p Bd];omega
def Bre(h:Cz E d ω o r S ρ x y 21 n):Gi E d o r 21 n (Ci E.M 21 n S):=by
 obtain⟨xs,s,a,f,F,V,G,z⟩:=h.gen Bd;obtain⟨Y,n1⟩:=h.num.mth (.inr rfl);have Z:=h.num.own rfl;obtain⟨k,rfl⟩:∃k:Nat,n=(k:Int):=⟨n.toNat,Bd⟩;have i:k<E.ms.length:=Bd;have I:(E.meth k).cl≠255:=Z;have et:Cu (Cq E.cs) E.ms (E.meth o.m).result 21 (k:Int)=(3,(E.meth k).cl)::(E.meth k).params:=rfl;have el:Fg (Cq E.cs) E.ms 21 (k:Int)=Ei (E.meth k).result:=rfl;rw[et]at G;rw[el]at F;obtain⟨v,c,rfl,hv,J⟩:∃v c,a=v::c/\Ez E.T d.ts ω r.length ρ (Hq (E.meth o.m)) v (3,(E.meth k).cl)/\Cj (Ez E.T d.ts ω r.length ρ (Hq (E.meth o.m))) c (E.meth k).params:=by
  cases G using Cj.el with
  | cons p q=>exact⟨_,_,rfl,p,q⟩
 obtain⟨p1,p2,p3,p4⟩:=Yn (E.meth k).params.length h.s.now (s:=s++[v]) (a:=c) (by rw[f];simp) J.len;obtain⟨q1,q2,q3,q4⟩:=Pt p2 rfl;have l:Jd E d ⟨o.m,o.p,o.lo,s⟩ r (S.withNow (Bw (D6 (E.meth k).params.length S.now).2).2):=⟨h.s.read,h.s.objs,q2,h.s.wait,h.s.en,h.s.out,h.s.steps⟩;have A:(S.withNow (Bw (D6 (E.meth k).params.length S.now).2).2).now.pos=o.p:=(q3.trans p3).trans h.pos;have a0:(S.withNow (Bw (D6 (E.meth k).params.length S.now).2).2).now.next=Ch E o:=(q4.trans p4).trans h.nx
 have e1:Ci E.M 21 (k:Int) S=Pm E.M (E.meth k).name v.2 (c.map Prod.snd) (S.withNow (Bw (D6 (E.meth k).params.length S.now).2).2):=by
  show Sj E.M (k:Int) S=_;unfold Sj;rw[X7 i];unfold I8;rw[p1];show Pm E.M (E.meth k).name (Bw (D6 (E.meth k).params.length S.now).2).1 _ _=_;rw[q1];rfl
 rw[e1];unfold Pm;by_cases g:v.2=0;·rw[Sp g];exact h.fault (k:=2) f z l A Bd Bd (by unfold Dn;simp[g])
 rw[Pf g];obtain⟨j,rfl,j0,jl,K,ja⟩:=Zx hv (h.ws v (by rw[f];simp)) g;obtain⟨B,C⟩:=h.g.hp.Cl _ K;have a1:=Lr.1 ((h.ok.k.mt _ (Cr.mem i)).cl.resolve_left I);obtain⟨b,b1,b2,L,D,b5,b6⟩:=Btv h.ok i B C ⟨I,rfl,(Tr.rbel_iff h.ok.k.ok B C a1.1).2 ja⟩;have a2:=Lr.1 ((h.ok.k.mt _ (Cr.mem L)).cl.resolve_left D.1);have eo:Id ((2,(j:Int)):Int×Int).2 (S.withNow (Bw (D6 (E.meth k).params.length S.now).2).2).objs=(Cc d.ts (j:Int)).cl:=by
  rw[l.objs];exact Blf Bd Bd
 rw[eo,b2];have a3:Cj (Ez E.T d.ts ω r.length ρ (Hq (E.meth o.m))) ((2,(j:Int))::c) (Kv (E.meth b).cl (E.meth b).params):=by
  unfold Kv;rw[Pf D.1,<- b5];exact .cons ⟨fun e=>absurd e Fr,fun e=>absurd e Fr,fun _=>⟨rfl,.inr ⟨K,Tr.fits_ref.2 ((Tr.rbel_iff h.ok.k.ok B C a2.1).1 D.2.2)⟩⟩,fun e=>absurd e Fr⟩ J
 obtain⟨a4,hB⟩:=h.opens L f (by rw[<- b6];exact F) rfl V a3 l A a0;have N:(S.wait.length:Int)+1=(d.os.length:Int):=by
  have:=h.s.wait.len;rw[h.g.os];simp only[Bzk]at this;simp;omega
 have g':¬(j:Int)=0:=g;have O:Px E (d.top ⟨o.m,o.p,o.lo,s⟩ r) (k:Int) (Cg ((2,(j:Int))::c)).2=b:=b1;unfold Hz;by_cases t:E.depth<=(d.os.length:Int);·rw[Sp (show E.M.depth<=((S.withNow _).wait.length:Int)+1 by show E.depth<=(S.wait.length:Int)+1;rw[N];exact t)];exact h.fault (k:=5) f z l A Bd Bd (by unfold Dn;simp[t];omega)
 rw[Pf (show ¬E.M.depth<=((S.withNow _).wait.length:Int)+1 by show ¬E.depth<=(S.wait.length:Int)+1;rw[N];exact t)];have Q:=Bp.send (E:=E) (d:=d.top ⟨o.m,o.p,o.lo,s⟩ r) (o:=⟨o.m,o.p,o.lo,s⟩) (r:=r) (op:=21) (n:=(k:Int)) (a:=(2,(j:Int))::c) rfl Y i Fr Fr (by show (j:Int)<(d.ts.length:Int);omega) (by rw[O];exact a4);rw[O]at Q;exact⟨_,⟨s,_,f,z,.inr ⟨by unfold Dn;simp[t];omega,Q⟩⟩,hB⟩
def Cz.act(h:Cz E d ω o r S ρ x y op n){n':Int}(c:Cd.wd op=2->n'=n)(e:0<=op)(f:op<=25):Gi E d o r op n (Ci E.M op n' S):=by
 have b:op=0\/op=2\/op=3\/(11<=op/\op<=21)->n'=n:=fun g=>c (by unfold Cd.wd;rw[Sp g]);by_cases g:7<=op/\op<=10;·exact Biz h g n'
 by_cases g2:12<=op/\op<=14;·rw[b Bd];exact Bi0 h g2
 have:op=0\/op=1\/op=2\/op=3\/op=4\/op=5\/op=6\/op=11\/op=15\/op=16\/op=17\/op=18\/op=19\/op=20\/op=21\/op=22\/op=23\/op=24\/op=25:=Bd;rcases this with rfl|rfl|rfl|rfl|rfl|rfl|rfl|rfl|rfl|rfl|rfl|rfl|rfl|rfl|rfl|rfl|rfl|rfl|rfl
 ·rw[b Bd];exact Boy h
 ·exact Brf h _
 ·rw[b Bd];exact Bri h
 ·rw[b Bd];exact Box h
 ·exact Btd h _
 ·exact Bth h _
 ·exact Brd h _
 ·rw[b Bd];exact Brj h
 ·rw[b Bd];exact Btf h
 ·rw[b Bd];exact Brk h
 ·rw[b Bd];exact Btg h
 ·rw[b Bd];exact Btc h
 ·rw[b Bd];exact Brl h
 ·rw[b Bd];exact Brm h
 ·rw[b Bd];exact Bre h
 ·exact Btb h _
 ·exact Bow h _
 ·exact But h _
 exact Bte h _
def Bml(c:E.Ok)(g:Vq E d ω o r)(s:Jd E d o r S)(nx:S.now.next=o.p):∃d',Gh E d d'/\He E d' (Hh E.M S):=by
 obtain⟨ρ,x,j,ty⟩:=g.top.ty;have C:=Cr.mem g.top.m;have G:=c.k.mt _ C;have e:=g.top.p;have f:=Ur e;obtain⟨D,F⟩:=N2 G.unread o.p e;have I:Fy E.M S.now=Cd.insAt (E.meth o.m).code o.p:=by
  unfold Fy Cd.one;rw[s.now.m,X7 g.top.m,nx,Sp ⟨f,D,F⟩];rfl
 have O:(E.meth o.m).code.getD o.p 0∈(E.meth o.m).code:=Hu f;obtain⟨y,Q⟩:=((c.sol C).sat o.p e x j).rl;have J:Fn E.cs E.ms (E.meth o.m) o.p x=some y:=Q;unfold Fn Gt at J;obtain⟨z,V,h⟩:=Option.bind_eq_some_iff.1 J;by_cases b:(z.stack.length:Int)<=(E.meth o.m).stack
 ·rw[Sp b]at h;obtain rfl:=Option.some.inj h;have Y:Cz E ⟨d.os,d.ts,d.made,d.read,d.out,d.steps+1,d.status,d.value⟩ ω o r (Oc E.M S) ρ x z ((E.meth o.m).code.getD o.p 0) (Cd.atI (E.meth o.m).code ((o.p:Int)+1)) :=
   ⟨c,⟨g.os,g.st,g.hp,g.md,g.ws,g.top⟩,⟨s.read,s.objs,s.now.moved _ _,s.wait,s.en,s.out,by show S.steps+1=_;rw[s.steps]⟩,nx,by show (Fy E.M S.now).place.toNat+Cd.wd (Fy E.M S.now).op=_;rw[I];rfl,j,ty,rfl,rfl,V,b⟩
  obtain⟨d',⟨K,a,l,L,Z⟩,hB⟩:=Y.act (n':=(Cd.insAt (E.meth o.m).code o.p).n) (fun h2=>(W3 F h2).1) (G.bd.code0 _ O) D;refine⟨d',?_,by unfold Hh;rw[I];exact hB⟩;have N:∀v∈a,It d.ts.length v:=fun v hv=>(g.ws o Fr).2 v (by rw[l];simp[hv]);rcases Z with ⟨t,t0,tl,th,rfl⟩|⟨h0,hD⟩
  ·refine .thrown o r K a t g.os g.top.m f l L N t0 tl th (fun q A=>?_);rcases List.mem_cons.1 A with rfl|A
   ·exact⟨g.top.m,fun B=>Rs.room c (i:=r.length) ⟨g.top.m,e,ρ,x,j,ty.lo⟩ B⟩
   obtain⟨i,b⟩:=g.top.w.stood q A;exact⟨b.m,fun B=>b.room c B⟩
  exact .does o r K a d' g.os g.top.m f l L N h0 hD
 rw[Pf b]at h;cases h
def Cj.mem{α β:Type}{R:α->β->Prop}{l:List α}{r:List β}(h:Cj R l r):∀a∈l,∃b,R a b:=by
 induction h using Cj.el with
 | nil=>simp
 | cons x _ ih =>
  intro z c;rcases List.mem_cons.1 c with rfl|c
  ·exact⟨_,x⟩
  exact ih z c
def Bun(g:Vq E d ω o r)(s:Jd E d o r S)(f:Fl E.M S)(z:S.steps<=3000)(A:S.out.length<=S.steps):Wl E d:=by
 have t:=s.wait.len;rw[Bzk]at t;have B:=f.wt;have j:=f.ob;rw[s.objs]at j;simp at j;have C:=g.md;refine⟨by rw[g.os];simp;omega,fun q b=>?_,fun q D e=>?_,Bd,Bd,by rw[<- s.out];omega,by rw[<- s.steps];omega⟩
 ·rw[g.os]at b;rcases List.mem_cons.1 b with rfl|b
  ·have:=s.now.h;have:=s.now.wf.h;exact⟨g.top.m,Bd⟩
  obtain⟨i,v⟩:=g.top.w.stood q b;obtain⟨c,l⟩:=s.wait.mem q b;have:=l.1.h;have:=l.1.wf.h;exact⟨v.m,Bd⟩
 rw[g.os]at e;obtain⟨rfl,-⟩:=List.cons.inj e;exact g.top.p
def Bf4(i:E.Ok)(j:E.M.Small)(h:Nat)(l:h<=3000):∀(k:Nat) {d:Cs}{S:Bo},He E d S->Fl E.M S->S.out.length<=S.steps->S.steps<=h->h+2<=k+S.steps->∃e,Gm E h d e/\(P8 E.M h k S).out=e.out/\(P8 E.M h k S).status=e.status/\(P8 E.M h k S).value=e.value/\(P8 E.M h k S).steps=e.steps
 | 0,_,_,_,_,_,h1,h2=>Bd
 | k+1,d,S,hB,hb,ho,h1,h2=>by
  unfold P8;cases hB using He.el with
  | off a b c e f g =>
   rw[Sp a];exact⟨d,.done d b,f,c,e,g⟩
  | on ω o r G H nx =>
   rw[Pf (by rw[H.en];simp)];by_cases g:h<=S.steps;·rw[Sp g];exact⟨_,.out d G.st.1 (by rw[<- H.steps];exact g),H.out,rfl,G.st.2.symm,H.steps⟩
   rw[Pf g];obtain⟨d',m,p⟩:=Bml i G H nx;obtain⟨q,s,-⟩:=Um E.M S;have t:(Hh E.M S).out.length<=(Hh E.M S).steps:=by
    rcases s with e|⟨v,e⟩<;>rw[e,q]
    ·omega
    simp;omega
   obtain⟨e,z,A⟩:=Bf4 i j h l k p (Bi7 j hb) t Bd Bd;exact⟨e,.step d d' e G.st.1 (by rw[<- H.steps];omega) (Bun G H hb Bd ho) m z,A⟩
end
def Be4(b:List Rd.Cls)(c:Int):∀d:Nat,d<=7->Rf.allTo z (Rf.given++b) c d=[]
 | 0,_=>rfl
 | d+1,h=>by
  rw[Rf.allTo,Be4 b c d Bd,Pd b d Bd]
  split<;>rfl
def Bha(h:k<6):k=0/\Cc N9 (k:Int)=Baf\/1<=k/\Cc N9 (k:Int)=⟨(k:Int)+1,true,[]⟩:=by
 have:k=0\/k=1\/k=2\/k=3\/k=4\/k=5:=Bd;rcases this with rfl|rfl|rfl|rfl|rfl|rfl
 ·exact .inl ⟨rfl,rfl⟩
 all_goals exact .inr ⟨Bd,rfl⟩
section
variable {E:Cr}
def Bci:Ky E N9 (fun _=>(0,0)):=by
 have g:E.T.length=7+E.cs.length:=Ix E.cs;refine⟨Wf 6,fun k h i=>?_,rfl,fun k j c=>?_,fun k c e=>?_,fun k c e=>?_,fun k c v f=>?_⟩
 ·rw[Bj5 (show k<N9.length from (by show k<6;omega))];rcases Bha (show k<6 by omega) with ⟨a,_⟩|⟨_,b⟩
  ·omega
  rw[b]
 all_goals rcases Bha c with ⟨a,b⟩|⟨a,b⟩
 all_goals have l:k<6:=c
 ·omega
 ·rw[b];show 0<=(k:Int)+1/\(k:Int)+1<_;omega
 ·rw[b]at e;cases e
 ·rw[b];show Cj _ [] (Rf.all E.T (Rf.given++E.cs) ((k:Int)+1).toNat);unfold Rf.all;rw[Be4 _ _ _ Bd];exact .nil
 ·rw[b];rfl
 ·rw[b]at e;cases e
 ·rw[b]at f;cases f
 rw[b]at f;cases f
def Bj9(c:E.Ok)(b:k<E.ms.length)(e:(E.meth k).cl=255)(f:(E.meth k).params=[]):He E (Zb E k) (Gv (k:Int)):=by
 have g:Kv (E.meth k).cl (E.meth k).params=[]:=by unfold Kv;rw[Sp e,f];rfl
 obtain⟨h,j,l⟩:=Bhc (ω:=fun _=>(0,0)) (ρ:=id) c (Bci (E:=E)).Cl b (i:=0) 0 (ar:=id) (a:=[]) (by rw[g];exact .nil);obtain⟨m,p⟩:=Bi8 E k [] h (c.k.mt _ (Cr.mem b)).rd.lo.2;refine .on _ (Hv E k []) [] ⟨rfl,⟨rfl,rfl⟩,Bci,rfl,fun z q=>?_,⟨b,j,l,.nil _⟩⟩ ⟨rfl,rfl,m,.nil,rfl,rfl,rfl⟩ p;obtain rfl:=List.mem_singleton.1 q;refine⟨fun v s=>?_,by simp[Hv]⟩;rw[(List.mem_replicate.1 (show v∈List.replicate _ _ from s)).2];exact .inl rfl
def Cr.Ok.small(c:E.Ok)(f:E.heap<=30)(g:E.depth<=12):E.M.Small:=by
 have i:∀n,E.M.meth n=Eu\/E.M.meth n∈E.ms:=fun n=>by
  by_cases h:0<=n/\n.toNat<E.ms.length
  ·right
   have:=X7 (E:=E) h.2;rw[Bwo h.1]at this;rw[this];exact Cr.mem h.2
  left
  have e:E.M.ms=E.ms:=rfl;unfold Ds.meth;rw[e]
  split
  ·rfl
  rw[Sp Bd]
 refine⟨fun n x b=>?_,fun n=>?_,fun n x b=>?_,f,g⟩
 all_goals rcases i n with e|e
 ·rw[e]at b;cases b
 ·exact⟨(c.k.mt _ e).bd.code0 x b,(c.k.mt _ e).rd.c255 x b⟩
 ·rw[e];simp[Eu]
 ·have:=(c.k.mt _ e).bd.code;omega
 ·rw[e]at b;cases b
 have j:=Pu (Bg6 ((c.k.mt _ e).hnd x b)).1;have:=(c.k.mt _ e).bd.code;omega
def Bm0(i:E.Ok)(j:E.heap<=30)(l:E.depth<=12)(f:Nat)(m:f<=3000)(p:k<E.ms.length)(q:(E.meth k).cl=255)(s:(E.meth k).params=[]):∃e,Gm E f (Zb E k) e/\Wp (Rj E.M f (k:Int))=⟨e.out,e.status,e.value,(e.steps:Int),0⟩:=by
 obtain⟨e,h,a,b,c,g⟩:=Bf4 i (i.small j l) f m (f+2) (Bj9 i p q s) (Bf2 _ _) (Wf _) (Bv5 _) (Wf _);refine⟨e,h,?_⟩;unfold Wp Rj;rw[a,b,c,g]
end
def Br9{a:TA}{c:Nat}{l:List Rd.Hnd}(h:Kz w u (.s a l.length c) l){j:Nat}(m:j<l.length):∃g,a=some ⟨g,0,none⟩/\g<w.heap.size/\w.C g (j*4) (.i l[j].frm)/\w.C g (j*4+1) (.i l[j].til)/\w.C g (j*4+2) (.i l[j].target)/\w.C g (j*4+3) (.i l[j].cl):=by
 obtain⟨g,t,v,_,z⟩:=Cf h Bd;have e:=fun f p=>(z _ (De l j m f p).2).trans (De l j m f p).1;exact⟨g,t,v,e 0 Bd,e 1 Bd,e 2 Bd,e 3 Bd⟩
def Bpf{k:Db}{M:Br}{o:Ca}{lv sv:TX}{r:List (Ca×Value×Value)}(h:Bm k M X w)(b:M.os=(o,lv,sv)::r)(c:M.oa=some ⟨u,0,none⟩):Bm k (M.put ((⟨o.m,o.p,o.lo,[]⟩,lv,.s none 0 0)::r)) X (w.setCell (.a u (r.length*4+3)) (.s none 0 0)):=by
 obtain⟨f,j,l,q,t,v,z,A,B,C,D,F,G,I⟩:=M;simp only at b c;subst b c;have e:=Own.nil (i:=5) h Hd 240 2;exact Own.cellE (i:=1) e Hd (Ww (o,lv,sv) (⟨o.m,o.p,o.lo,[]⟩,lv,.s none 0 0) r 3 (.s none 0 0) rfl)
def Zc (w:TW)(a:Addr):Nat:=match w.cell? a with
 | some (.slice _ n _)=>n
 | _=>0
def Bjx(k:Db)(M:Br)(X:List Rw)(t:Nat)(w:TW)(ok:k.Ok)(h:Bm k M X w)(ht:t<M.ts.length)(d5:M.os.length<=1000)(tl:Int)(d6:M.ts[t].1.cl=tl)(d8:∀x∈M.os,x.1.m<k.f.ms.length/\(Gz k.E.T tl x.1.p (k.E.meth x.1.m).handlers≠none->1<=(k.E.meth x.1.m).stack)):Calls prog 102 #[.q k.B 0,.i (t:Int)] w fun e b=>e=.r (.tuple #[])/\∃M',Bm k M' X b/\M'.d=Ga k.E (t:Int) tl M.d (M.os.map Prod.fst):=by
 generalize hR:Ga k.E (t:Int) tl M.d (M.os.map Prod.fst)=R;have d9:=Bc (fun (_:Unit)=>hR);have HT:=Bc (fun (_:Unit)=>d6);have HA:=Bc d8;have j6:(t:Int)<(M.ts.length:Int):=Bd;clear hR d6 d8;go_in;go_wp2
 go_loopw [4] (fun _ wr=>∃l:List (Ca×Value×Value),l.length<=1000/\(∀x∈l,x∈M.os)/\Hid (Bm k (M.put l) X wr)/\Hid (Ga k.E (t:Int) tl M.d (l.map Prod.fst)=R))
  (fun _ wr=>Zc wr ⟨k.B,7,none⟩)
 case atStart=>exact⟨M.os,d5,fun _ h=>h,h,Ba d9 ()⟩
 case round=>
  clear h d9 d5;obtain⟨l,hl,f0,H,HR⟩:=hrel;have h:=Ba H;cases l with
  | nil =>
   have F:wr.C k.B 7 (.s M.oa 0 M.oc):=h.cell Hd;have j7:wr.C k.B 13 (.i M.status):=h.cell Hd;have j8:=h.fz 13;have f2:=Own.cell (i:=0) h Hd 13 (.i 2);have h1:Bm k ((M.put []).fin 2 M.value) X (wr.setCell (.a k.B 13) (.i 2)):=f2;obtain⟨g,hg,b7,a6,_⟩:=Sl h1 (show t<((M.put []).fin 2 M.value).ts.length from ht);have c8:(wr.setCell (.a k.B 13) (.i 2)).C k.B 8 (.s (.p g) M.ts.length M.tc):=h1.sl hg Hd;have g0:(wr.setCell (.a k.B 13) (.i 2)).C g (t*3) (.i tl):=by rw[<- Ba HT ()];exact a6 0 _ rfl
   have j9:(wr.setCell (.a k.B 13) (.i 2)).C k.B 14 (.i M.value):=h1.cell Hd;have k2:=h1.fz 14;have f4:=Own.cell (i:=0) h1 Hd 14 (.i tl);have h2:Bm k ((M.put []).fin 2 tl) X ((wr.setCell (.a k.B 13) (.i 2)).setCell (.a k.B 14) (.i tl)):=f4;have H2:=Bc h2;clear h h1 h2 f2 f4 a6 hg;go_wp2;go_end0;exact⟨rfl,_,Ba H2,by rw[<- Ba HR];rfl⟩
  | cons x r =>
   obtain⟨o,lv,sv⟩:=x;simp only[Bvo]at hl;obtain⟨hm,b3⟩:=Ba HA _ (f0 _ (Bv1 ..));simp only at hm b3;obtain⟨g,hg,b7,F,c0,c1,-,-,-⟩:=Jn h rfl;have F:wr.C k.B 7 (.s (.p g) (r.length+1) M.oc):=F;obtain⟨ym,c,b8,L,f5,b9⟩:=RFl.mth (h.fok ok.f) hm;have b1:wr.C k.B 1 (.s (.p c) k.f.ms.length k.f.c2):=h.sl b8 Hd;have lB:=h.ltB;have c4:=ok.meth hm;have i4:=Bc (fun (_:Unit)=>F);have HH:=Bc b9.hs;have f6:=b9.hl;have i5:k.f.a2=some ⟨c,0,none⟩:=b8;obtain⟨cl,nm,pa,pl,pc,r1,r2,lo,st,a0,ha,k3,hc,ma,ml,mc,a3,a4⟩:=ym;simp only at f6;subst f6;have c5:=Ua f5;simp only at c5 HH;have f8:∀y∈k.f.ms[o.m].1.m.handlers,0<=y.target:=fun y hy=>(Pu (Bg6 ((ok.fm.mt _ (by rw[<- ok.eq];exact Bwa (Bvh hm))).hnd y hy)).1).1;have k4:k.f.ms[o.m].1.m.handlers.length<=1000:=by
    have:=(ok.fm.mt _ (show k.f.ms[o.m].1.m∈k.ms by rw[<- ok.eq];exact Bwa (Bvh hm))).bd.hs;omega
   rw[c4]at b3;have G:=Ba HR;rw[Bwm,Ga]at G;simp only at G;rw[c4]at G;generalize i6:k.f.ms[o.m].1.m.handlers=A at *;have HB:=Bc f8;have f9:=Bc b3;have b4:=Bc G;clear f5 b9 i6 b8 G b3 f8 c4;generalize a5:r.length=v at *;have hS:∀b,Bl wr b->b.C k.B 7 (.s (.p g) (v+1) M.oc)/\b.C k.B 1 (.s (.p c) k.f.ms.length k.f.c2)/\b.C g (v*4) (.i (o.m:Int))/\b.C c (o.m*12) (.i cl)/\b.C c (o.m*12+1) (.i nm)/\b.C c (o.m*12+2) (.s pa pl pc)/\b.C c (o.m*12+3) (.i r1)/\b.C c (o.m*12+4) (.i r2)/\b.C c (o.m*12+5) (.i lo)/\b.C c (o.m*12+6) (.i st)/\b.C c (o.m*12+7) (.string a0)/\b.C c (o.m*12+8) (.s ha A.length hc)/\b.C c (o.m*12+9) (.s ma ml mc)/\b.C c (o.m*12+10) (.i a3)/\b.C c (o.m*12+11) (.i a4):=fun b D=>by
    obtain⟨q0,q1,q2,q3,q4,q5,q6,q7,q8,q9,qa,qb⟩:=c5;exact⟨QC D lB F,QC D lB b1,QC D b7 c0,QC D L q0,QC D L q1,QC D L q2,QC D L q3,QC D L q4,QC D L q5,QC D L q6,QC D L q7,QC D L q8,QC D L q9,QC D L qa,QC D L qb⟩
   have k5:IntKind.i64.wrap (((v+1:Nat):Int)-1)=(v:Int):=by rw[show ((v+1:Nat):Int)-1=(v:Int) by omega];exact Eg _ Bd Bd
   have ri:(v:Int)<(v:Int)+1:=Bd;have mi:(o.m:Int)<(k.f.ms.length:Int):=Bd;have kb:(0:Int)<((v+1:Nat):Int):=Bd;have a7:Bl wr (wr.alloc (O12 cl nm pa pl pc r1 r2 lo st a0 ha A.length hc ma ml mc a3 a4)).drew:=(QN _).drew;clear c5;go_wp2
   go_region_held3 (fun b=>b.C k.B 7 (.s (.p g) (v+1) M.oc)/\b.C k.B 1 (.s (.p c) k.f.ms.length k.f.c2)/\b.C g (v*4) (.i (o.m:Int))/\b.C c (o.m*12) (.i cl)/\b.C c (o.m*12+1) (.i nm)/\b.C c (o.m*12+2) (.s pa pl pc)/\b.C c (o.m*12+3) (.i r1)/\b.C c (o.m*12+4) (.i r2)/\b.C c (o.m*12+5) (.i lo)/\b.C c (o.m*12+6) (.i st)/\b.C c (o.m*12+7) (.string a0)/\b.C c (o.m*12+8) (.s ha A.length hc)/\b.C c (o.m*12+9) (.s ma ml mc)/\b.C c (o.m*12+10) (.i a3)/\b.C c (o.m*12+11) (.i a4))
    (first|with_reducible exact hS _ (Vm _ _).drew|with_reducible exact hS _ (QN _).drew)
    (fail)
   have g3:=h.below a7;have CM:=Bf wr (O12 cl nm pa pl pc r1 r2 lo st a0 ha A.length hc ma ml mc a3 a4);have g4:(wr.alloc (O12 cl nm pa pl pc r1 r2 lo st a0 ha A.length hc ma ml mc a3 a4)).drew.heap[wr.heap.size]?=some (O12 cl nm pa pl pc r1 r2 lo st a0 ha A.length hc ma ml mc a3 a4):=CM;have d7:=(a7.cell (p:=.a k.B 7) lB).trans F;have d1:=(a7.cell (p:=.a g (v*4+1)) b7).trans c1;have i7:=Bc (fun (b:TW) (D:Bl (wr.alloc (O12 cl nm pa pl pc r1 r2 lo st a0 ha A.length hc ma ml mc a3 a4)).drew b)=>Kz.kp (Ba HH) (Kp.of_below (e:=none) (QB a7 D)) Ck);have H1:=Bc g3;clear hS F c0 c1 b1 a7 CM HH H h g3;generalize (wr.alloc (O12 cl nm pa pl pc r1 r2 lo st a0 ha A.length hc ma ml mc a3 a4)).drew=w1 at *;generalize k6:wr.heap.size=mb at *;have m8:w1.C mb 8 (.s ha A.length hc):=(Bb g4 8).trans rfl;obtain⟨Z,hZ⟩:∃Z,Gz k.E.T tl o.p A=Z:=⟨_,rfl⟩;have HZ:Hid (Gz k.E.T tl o.p (A.drop 0)=Z):=hZ;have a8:=Bc (fun (_:Unit)=>hZ);clear hZ;go_wp2
   go_loopw [7] (fun i wq=>∃j:Nat,j<=A.length/\i=.i (j:Int)/\Hid (Gz k.E.T tl o.p (A.drop j)=Z)/\Bl w1 wq)
    (fun i _=>A.length-(intOf i).toNat)
   case atStart=>exact⟨0,Bd,rfl,HZ,Vm _ _⟩
   case round=>
    obtain⟨j,hj,rfl,HZ,hB⟩:=hrel;have N:=(Ba H1).below hB;have g5:=Pk g4;have e8:=(hB.cell (p:=.a mb 8) g5).trans m8;by_cases c6:j<A.length
    ·obtain⟨gh,rfl,i8,y0,y1,y2,y3⟩:=Br9 (Ba i7 _ hB) c6;have hz:=Ba HZ;rw[Wr c6,Gz]at hz;have h0:=Ba HB _ (Bvh c6);obtain⟨gt,g6,c9,a6,_⟩:=Sl N (show t<(M.put ((o,lv,sv)::r)).ts.length from ht);have c8:wr.C k.B 8 (.s (.p gt) M.ts.length M.tc):=N.sl g6 Hd;have g0:wr.C gt (t*3) (.i tl):=by rw[<- Ba HT ()];exact a6 0 _ rfl
     have b0:wr.C k.B 0 (.s k.f.a1 k.f.l.length k.f.c1):=N.cell Hd;have b1:wr.C k.B 1 (.s (.p c) k.f.ms.length k.f.c2):=N.sl i5 Hd;have a9:=N.ltB;have g7:=N.fok ok.f;generalize A[j]=y at *;obtain⟨I,J,K,yc⟩:=y;simp only at y0 y1 y2 y3 hz h0;have d0:=fun b (h':k.f.ok b)=>N5 k.f.a1 (.p c) k.f.c1 k.f.ms.length k.f.c2 k.f.bb k.f.l tl yc b (by have:=h'.1;omega) h'.2.2.2.2.1;have eT:Cw k.f.l=k.E.T:=ok.T;rw[eT]at d0;generalize Tr.rbel k.E.T tl yc=B at *;have g9:=Bc d0;have Q:Bl wr (wr.alloc (O14 I J K yc)):=QN _;have CH:=Bf wr (O14 I J K yc);have h4:=Bc (g7.below Q);have k0:=(Q.cell (p:=.a k.B 0) a9).trans b0;have k1:=(Q.cell (p:=.a k.B 1) a9).trans b1;have k8:=(Q.cell (p:=.a k.B 8) a9).trans c8;have kg:=(Q.cell (p:=.a gt (t*3)) c9).trans g0;have v3:(wr.alloc (O14 I J K yc)).C wr.heap.size 3 (.i yc):=(Bb CH 3).trans rfl;have v0:(wr.alloc (O14 I J K yc)).C wr.heap.size 0 (.i I):=(Bb CH 0).trans rfl;have v1:(wr.alloc (O14 I J K yc)).C wr.heap.size 1 (.i J):=(Bb CH 1).trans rfl;have v2:(wr.alloc (O14 I J K yc)).C wr.heap.size 2 (.i K):=(Bb CH 2).trans rfl;have lV:=Pk CH;have b5:=Bvm a9 Q.size;have h5:=Bvm c9 Q.size;have d2:=QB hB Q;have jb:(j:Int)<(A.length:Int):=Bd;have H2:=Bc (N.below Q);have k7:=hB.size;clear d0 g7 a6 g6 HZ CH eT N;go_wp2;generalize wr.alloc (O14 I J K yc)=W at *;generalize wr.heap.size=V at *
     go_region_held3 (fun b=>b.C k.B 0 (.s k.f.a1 k.f.l.length k.f.c1)/\b.C k.B 1 (.s (.p c) k.f.ms.length k.f.c2)/\b.C k.B 8 (.s (.p gt) M.ts.length M.tc)/\b.C gt (t*3) (.i tl)/\b.C V 3 (.i yc))
      (first|exact⟨k0,k1,k8,kg,v3⟩|exact⟨QC O b5 k0,QC O b5 k1,QC O b5 k8,QC O h5 kg,QC O lV v3⟩)
      (first|(go_at_call 91;refine(Ba g9 _ ((Ba h4).below (Vm _ _).drew)).mono ?_;rintro e w7 ⟨rfl,O⟩))
     have u0:=(O.cell (p:=.a V 0) lV).trans v0;have u1:=(O.cell (p:=.a V 1) lV).trans v1;have u2:=(O.cell (p:=.a V 2) lV).trans v2;have i9:=d2.drew.trans (O.mono d2.size);have h7:=(Ba H2).drew.below O;have k9:=Bvm lV O.size;have H7:=Bc h7;clear O k0 k1 k8 kg v0 v1 v2 v3 b0 b1 c8 g0 y0 y1 y2 y3 g9 h4 H2 e8 hB d2 Q b5 h5 lV a9 i8 c9 h7;by_cases z:I<=(o.p:Int)/\(o.p:Int)<J/\B=true
     ·obtain⟨z1,z2,rfl⟩:=z;rw[Sp ⟨z1,z2,rfl⟩]at hz;subst hz;have G:=Ba b4;rw[Ba a8 ()]at G;simp only at G;have l0:=Ba f9 (by rw[Ba a8 ()];simp);have h7:=Ba H7;obtain⟨g',b2,l1,F,-,c1,-,c3,h6⟩:=Jn h7 rfl;have eg:=(show M.oa=_ from hg).symm.trans (show M.oa=_ from b2);simp only[Option.some.injEq,Addr.mk.injEq,Bwb]at eg;subst eg;have F:w7.C k.B 7 (.s (.p g) (r.length+1) M.oc):=F;rw[a5]at F c1 c3;have f1:=h6 (v*4+1);have j0:g≠k.B:=fun e=>by
       have h':=h7.nd;unfold Br.rows at h';simp only[Bws,Bzu]at h';exact h'.1 _ (Bv1 ..) k.B rfl (by rw[b2,e];rfl)
      have j1:g≠V:=fun e=>Bd;have Y:=Vv h7 rfl b2 K.toNat;rw[Bwo h0,a5]at Y;have Y:=Own.drew Y;have hS:∀b:TW,b.heap[k.B]?=w7.heap[k.B]?->b.heap[V]?=w7.heap[V]?->b.C k.B 7 (.s (.p g) (v+1) M.oc)/\b.C V 2 (.i K):=fun b e1 e2=>⟨(Bvj (a:=⟨k.B,7,none⟩) e1).trans F,(Bvj (a:=⟨V,2,none⟩) e2).trans u2⟩;have q1:decide (I<=(o.p:Int))=true:=by simpa using z1
      have q2:decide ((o.p:Int)<J)=true:=by simpa using z2
      have j2:=Bc (fun (_:Unit)=>G);have H8:=Bc Y;clear G h7 H7 Y c3 h6 b4 a8 f9;go_wp2
      go_region_held3 (fun b=>b.C k.B 7 (.s (.p g) (v+1) M.oc)/\b.C V 2 (.i K))
       (first|exact hS w7.drew rfl rfl|exact hS _ (Bvg _ _ _ _ (Bxc j0)) (Bvg _ _ _ _ (Bxc j1)))
       (fail)
      have Y:=Ba H8;obtain⟨g8,i0,l2,d7,-,-,-,d3,d4⟩:=Jn Y rfl;have eg:=(show M.oa=_ from hg).symm.trans (show M.oa=_ from i0);simp only[Option.some.injEq,Addr.mk.injEq,Bwb]at eg;subst eg;obtain⟨w8,i1⟩:∃w8,w8=(w7.setCell (.a g (v*4+1)) (.i K)).drew:=⟨_,rfl⟩;rw[<- i1]at Y d7 d3 d4 ⊢;have d7:w8.C k.B 7 (.s (.p g) (r.length+1) M.oc):=d7;have h9:=Bpf Y rfl i0;rw[a5]at d7 d3 h9;have f3:=d4 (v*4+3);have HP:=Bc (Ju k _ X ⟨o.m,K.toNat,o.lo,[]⟩ lv (.s none 0 0) r 2 (t:Int) _ ok.f h9 rfl hm (by show (0:Int)<k.f.ms[o.m].1.m.stack;omega) Bd Fr);clear Y h9 d4 hS F c1 u0 u1 u2 H8 i1;go_wp2_with fail;refine Qm (Ba HP) ?_;rintro w9 ⟨l3,h9⟩;have H9:=Bc h9;clear HP h9 d7 d3;go_wp2;refine Bwy (Bw9 rfl _ _ _) rfl ?_;exact⟨rfl,_,Ba H9,by rw[<- Ba j2 ()];rfl⟩
     have HG:Hid (Gz k.E.T tl o.p (A.drop (j+1))=Z):=by unfold Hid;rw[<- hz,Pf z]
     clear hz;have j3:decide (I<=(o.p:Int))=false\/(decide (I<=(o.p:Int))=true/\decide ((o.p:Int)<J)=false)\/(decide (I<=(o.p:Int))=true/\decide ((o.p:Int)<J)=true/\B=false):=by
      simp only[Bwp,Bxb];by_cases g1:I<=(o.p:Int)
      ·by_cases g2:(o.p:Int)<J;·exact .inr (.inr ⟨g1,g2,by cases B;rfl;exact absurd ⟨g1,g2,rfl⟩ z⟩)
       exact .inr (.inl ⟨g1,g2⟩)
      exact .inl g1
     clear z;rcases j3 with q1|⟨q1,q2⟩|⟨q1,q2,rfl⟩
     all_goals
      go_wp2;go_roundw
      case rel=>exact⟨j+1,Bd,Lt,HG,i9⟩
      case measure=>simp[intOf];omega
    have kj:¬(j:Int)<(A.length:Int):=Bd;have hz:=Ba HZ;rw[Bvi Bd,Gz]at hz;subst hz;have G:=Ba b4;rw[Ba a8 ()]at G;have j4:Hid (Ga k.E (t:Int) tl M.d (r.map Prod.fst)=R):=G;have i2:(((o,lv,sv)::r).length)<=M.oc:=Bts N;have l4:v+1<=M.oc:=by rw[<- a5];exact i2
    have l5:¬M.oc<v:=Bd;have l6:(v:Int)<=(M.oc:Int):=Bd;have r0:(0:Int)<=(v:Int):=Bd;have F:wr.C k.B 7 (.s (.p g) (v+1) M.oc):=QC hB (Bvm lB (Bwr g5)) d7;have f7:=N.fz 7;have h3:=Bc4 N rfl;have b2:M.oa=some ⟨g,0,none⟩:=hg;have b6:Bm k (M.put r) X (wr.setCell (.a k.B 7) (.s M.oa r.length M.oc)):=h3;rw[b2,a5]at b6;have i3:Zc (wr.setCell (.a k.B 7) (.s (.p g) v M.oc)) ⟨k.B,7,none⟩=v:=by
     have:(wr.setCell (.a k.B 7) (.s (.p g) v M.oc)).C k.B 7 (.s M.oa r.length M.oc):=b6.cell Hd;unfold Zc;rw[this];exact a5
    have H3:=Bc b6;have j5:=Bc (fun (_:Unit)=>i3);clear G HZ i2 h3 b6 N i3 b4 a8;go_wp2;go_roundw
    case rel=>exact⟨r,Bd,fun x hx=>f0 x (Bv6 _ hx),Ba H3,j4⟩
    case measure=>
     rw[Ba j5 ()];unfold Zc;rw[Ba i4 ()];show v<v+1;omega
end Go.Proofs.YtpcgnjolfahacaaGreat
