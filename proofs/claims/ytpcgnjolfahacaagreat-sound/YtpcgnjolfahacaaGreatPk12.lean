/- the proof's parts -/
import Derived.Test.YtpcgnjolfahacaaGreatPk11
set_option maxRecDepth 100000
set_option maxHeartbeats 40000000
set_option linter.unusedVariables false
set_option linter.unusedSimpArgs false
set_option linter.defProp false
namespace Go.Proofs.YtpcgnjolfahacaaGreat
open Go.RowKit Go.Proofs.Tryz
variable{c:Int}{C:Int×Int}{Q:List Do}{k u:Nat}{z:TI}
def Db.Ok.meth{k:Db}(b:k.Ok){n:Nat}(c:n<k.f.ms.length):k.E.meth n=k.f.ms[n].1.m:=by
 unfold Cr.meth Db.E;simp only;rw[<- b.eq,Th,Bv8,Ws c];rfl
def RFl.two{f:RFl}{w:TW}(h:f.ok w){s:Nat}(j:f.a2=some ⟨s,0,none⟩)(l:k<f.ms.length):w.C s (k*12) (.i f.ms[k].1.m.cl)/\w.C s (k*12+1) (.i f.ms[k].1.m.name):=by
 obtain⟨m,q,p,_,b,c⟩:=RFl.mth h l;have e:=j.symm.trans p;simp only[Option.some.injEq,Addr.mk.injEq,Bwb]at e;subst e;rw[<- c.cl,<- c.nm];exact⟨b 0 _ rfl,b 1 _ rfl⟩
theorem Bl3(k:Db)(M:Br)(X:List Rw)(n t:Nat)(w:World)(C:k.Ok)(h:Bm k M X w)(hn:n<k.f.ms.length)(ht:t<M.ts.length):Calls prog 148 #[.pointer (some ⟨k.B,0,none⟩),.int .i64 (n:Int),.int .i64 (t:Int)] w fun e D=>e=.returned (.int .i64 ((Px k.E M.d (n:Int) (t:Int):Nat):Int))/\Below w.heap.size w D:=by
 obtain⟨g,hg,_,b1,_⟩:=Sl h ht;have c8:w.cell? ⟨k.B,8,none⟩=some (.slice (some ⟨g,0,none⟩) M.ts.length M.tc):=by rw[<- hg];exact h.cell Hd
 have g0:w.cell? ⟨g,t*3,none⟩=some (.int .i64 M.ts[t].1.cl):=b1 0 _ rfl;have eC:(Cc M.d.ts (t:Int)).cl=M.ts[t].1.cl:=by rw[show M.d.ts=M.ts.map Prod.fst from rfl,Vu ht]
 have eN:(k.E.meth (n:Int).toNat).name=k.f.ms[n].1.m.name:=by rw[Bvn,C.meth hn]
 have eL:k.E.ms.length=k.f.ms.length:=by rw[show k.E.ms=k.ms from rfl,<- C.eq];simp
 generalize hR:Px k.E M.d (n:Int) (t:Int)=R;unfold Px at hR;rw[eC,eN,Bvn]at hR;have c9:=C.f.2.2.1;obtain⟨_,I,a5,_,_,_⟩:=RFl.mth (h.fok C.f) hn;generalize M.ts[t].1.cl=c at *;have d2:(t:Int)<(M.ts.length:Int):=Bd;have J:Hid (Fd k.E c k.f.ms[n].1.m.name (k.E.ms.drop 0) 0 n=R):=hR;have HH:=Bc h;clear h b1 hg eC eN hR;go_in;go_wp2
 go_loopw [8,9] (fun bv i wr=>∃j b:Nat,j<=k.f.ms.length/\b<k.f.ms.length/\bv=.int .i64 (b:Int)/\i=.int .i64 (j:Int)/\Hid (Fd k.E c k.f.ms[n].1.m.name (k.E.ms.drop j) j b=R)/\Below w.heap.size w wr)
  (fun _ i _=>k.f.ms.length-(intOf i).toNat)
 case atStart=>exact⟨0,n,Bd,hn,rfl,rfl,J,Vm _ _⟩
 case round=>
  clear J c8 g0;obtain⟨j,b,hj,hb,rfl,rfl,J,hB⟩:=hrel;have K:=(Ba HH).below hB;have d1:wr.cell? ⟨k.B,1,none⟩=some (.slice (some ⟨I,0,none⟩) k.f.ms.length k.f.c2):=by rw[<- a5];exact K.cell Hd
  by_cases a6:j<k.f.ms.length
  ·have d0:wr.cell? ⟨k.B,0,none⟩=some (.slice k.f.a1 k.f.l.length k.f.c1):=K.cell Hd;have L:=K.fok C.f;obtain⟨b0,-⟩:=RFl.two L a5 hb;obtain⟨-,n1⟩:=RFl.two L a5 hn;obtain⟨m,d3,b2,a8,b3,a7⟩:=RFl.mth L a6;have b4:=a5.symm.trans b2;simp only[Option.some.injEq,Addr.mk.injEq,Bwb]at b4;subst b4;have lB:=K.ltB;have s:=Ba J;have eD:k.E.ms.drop j=k.f.ms[j].1.m::k.E.ms.drop (j+1):=by
    rw[Wr (by rw[eL];exact a6)]
    congr 1
    have:=C.meth a6;unfold Cr.meth at this;rw[Th,Ws (by rw[eL];exact a6)]at this;exact this
   rw[eD,Fd,C.meth hb]at s;have N:=fun D (h':k.f.ok D)=>N5 k.f.a1 (some ⟨I,0,none⟩) k.f.c1 k.f.ms.length k.f.c2 k.f.bb k.f.l c k.f.ms[j].1.m.cl D (by have:=h'.1;omega) h'.2.2.2.2.1;have eT:Cw k.f.l=k.E.T:=C.T;rw[eT]at N;rw[<- a7.cl,<- a7.nm]at s;rw[<- a7.cl]at N;obtain⟨q,F,O,Q,V,Y,Z,lo,st,a0,ha,hl,hc,ma,ml,mc,a2,a3⟩:=m;obtain⟨y0,y1,y2,y3,y4,y5,y6,y7,y8,y9,ya,yb⟩:=Ua b3;simp only at y0 y1 y2 y3 y4 y5 y6 y7 y8 y9 ya yb s N;generalize c3:Tr.rbel k.E.T c q=B at *;have b5:=Bc N;have c4:=Bc L;have G:Below wr.heap.size wr (wr.alloc (O12 q F O Q V Y Z lo st a0 ha hl hc ma ml mc a2 a3)):=QN _;have CM:=Bf wr (O12 q F O Q V Y Z lo st a0 ha hl hc ma ml mc a2 a3);have e0:=(G.cell (p:=⟨k.B,0,none⟩) lB).trans d0;have e1:=(G.cell (p:=⟨k.B,1,none⟩) lB).trans d1;have f0:=(G.cell (p:=⟨I,b*12,none⟩) a8).trans b0;have f1:=(G.cell (p:=⟨I,n*12+1,none⟩) a8).trans n1;have v0:(wr.alloc (O12 q F O Q V Y Z lo st a0 ha hl hc ma ml mc a2 a3)).cell? ⟨wr.heap.size,0,none⟩=some (.int .i64 q):=(Bb CM 0).trans rfl;have v1:(wr.alloc (O12 q F O Q V Y Z lo st a0 ha hl hc ma ml mc a2 a3)).cell? ⟨wr.heap.size,1,none⟩=some (.int .i64 F):=(Bb CM 1).trans rfl;have lV:=Pk CM;have a9:=Bvm lB G.size;have b6:=Bvm a8 G.size;have b7:=QB hB G;have b8:=L.below G;have b9:=Bc b8;have jb:(j:Int)<(k.f.ms.length:Int):=Bd;have bb:(b:Int)<(k.f.ms.length:Int):=Bd;have nb:(n:Int)<(k.f.ms.length:Int):=Bd;generalize c5:k.f.ms[b].1.m.cl=cb at *;generalize c0:k.f.ms[n].1.m.name=nn at *;have v:=Bc (fun (_:Unit)=>c0);clear b3 a7 K L b8 N b2 eD J CM c0 c5 c3;go_wp2;generalize wr.alloc (O12 q F O Q V Y Z lo st a0 ha hl hc ma ml mc a2 a3)=W at *;generalize wr.heap.size=vb at *
   go_region_held3 (fun D=>D.cell? ⟨k.B,0,none⟩=some (.slice k.f.a1 k.f.l.length k.f.c1)/\D.cell? ⟨k.B,1,none⟩=some (.slice (some ⟨I,0,none⟩) k.f.ms.length k.f.c2)/\D.cell? ⟨vb,0,none⟩=some (.int .i64 q))
    (first|exact⟨e0,e1,v0⟩|exact⟨QC z a9 e0,QC z a9 e1,QC z lV v0⟩)
    (first|(go_at_call 91;refine(Ba b5 _ ((Ba b9).below (Vm _ _).drew)).mono ?_;rintro e w7 ⟨rfl,z⟩))
   have k1:=(z.cell (p:=⟨k.B,1,none⟩) a9).trans e1;have u0:=(z.cell (p:=⟨vb,0,none⟩) lV).trans v0;have u1:=(z.cell (p:=⟨vb,1,none⟩) lV).trans v1;have q0:=(z.cell (p:=⟨I,b*12,none⟩) b6).trans f0;have q1:=(z.cell (p:=⟨I,n*12+1,none⟩) b6).trans f1;have a4:=b7.drew.trans (z.mono b7.size);clear z e0 e1 v0 v1 f0 f1 b5 c4 b9 y0 y1 y2 y3 y4 y5 y6 y7 y8 y9 ya yb d0 d1 b0 n1;by_cases z1:q=255
   ·have c6:(q != 255)=false:=by simpa using z1
    have A:Hid (Fd k.E c k.f.ms[n].1.m.name (k.E.ms.drop (j+1)) (j+1) b=R):=by unfold Hid;rw[<- s];rw[Ba v (),Pf (by simp[z1])]
    clear s;go_wp2;go_quiet (fail);go_wp2;go_roundw
    case rel=>exact⟨j+1,b,Bd,Bd,by first|rfl | go_num,Lt,by rw[Ba v ()]at *;exact A,Cy a4⟩
    case measure=>simp[intOf];omega
   have c6:(q != 255)=true:=by simpa using z1
   by_cases z2:F=nn
   ·subst z2;cases B with
    | false =>
     have A:Hid (Fd k.E c k.f.ms[n].1.m.name (k.E.ms.drop (j+1)) (j+1) b=R):=by unfold Hid;rw[<- s];rw[Ba v (),Pf Fr]
     clear s;go_wp2;go_quiet (fail);go_wp2;go_roundw
     case rel=>exact⟨j+1,b,Bd,Bd,by first|rfl | go_num,Lt,by rw[Ba v ()]at *;exact A,Cy a4⟩
     case measure=>simp[intOf];omega
    | true =>
     by_cases z4:cb<q
     ·have c7:decide (cb<q)=true:=by simpa using z4
      have A:Hid (Fd k.E c k.f.ms[n].1.m.name (k.E.ms.drop (j+1)) (j+1) j=R):=by unfold Hid;rw[<- s];rw[Ba v (),Sp ⟨z1,rfl,rfl,z4⟩]
      clear s;go_wp2;go_quiet (fail);go_wp2;go_roundw
      case rel=>exact⟨j+1,j,Bd,Bd,by first|rfl | go_num,Lt,by rw[Ba v ()]at *;exact A,Cy a4⟩
      case measure=>simp[intOf];omega
     have c7:decide (cb<q)=false:=by simpa using z4
     have A:Hid (Fd k.E c k.f.ms[n].1.m.name (k.E.ms.drop (j+1)) (j+1) b=R):=by unfold Hid;rw[<- s];rw[Ba v (),Pf (by simp[z4])]
     clear s;go_wp2;go_quiet (fail);go_wp2;go_roundw
     case rel=>exact⟨j+1,b,Bd,Bd,by first|rfl | go_num,Lt,by rw[Ba v ()]at *;exact A,Cy a4⟩
     case measure=>simp[intOf];omega
   have d4:(F==nn)=false:=by simpa using z2
   have A:Hid (Fd k.E c k.f.ms[n].1.m.name (k.E.ms.drop (j+1)) (j+1) b=R):=by unfold Hid;rw[<- s];rw[Ba v (),Pf (by simp[z2])]
   clear s;go_wp2;go_quiet (fail);go_wp2;go_roundw
   case rel=>exact⟨j+1,b,Bd,Bd,by first|rfl | go_num,Lt,by rw[Ba v ()]at *;exact A,Cy a4⟩
   case measure=>simp[intOf];omega
  have kb:¬(j:Int)<(k.f.ms.length:Int):=Bd;have HE:Hid (b=R):=by
   have:=Ba J;rw[Bvi (by rw[eL];omega),Fd]at this;exact this
  clear K;go_wp2;go_ret;exact⟨by rw[<- Ba HE];rfl,hB⟩
def Bft(k:Db)(M:Br)(X:List Rw)(o:Ca)(lv sv:TX)(r:List (Ca×Value×Value))(op n:Int)(a:TP)(V:TA)(vc:Nat)(w:TW)(ok:k.Ok)(h:Bm k M (Dc (.s V a.length vc) a::X) w)(v:M.os=(o,lv,sv)::r)(hr:r.length<=1000)(hs:o.st.length<=1000)(A:o.m<k.f.ms.length)(D:(o.st.length:Int)<k.f.ms[o.m].1.m.stack) (K:op=0\/op=1\/op=7\/op=8\/op=9\/op=10\/op=19)(hn:-1<=n/\n<=255)(c:op=19->1<=a.length)(F:7<=op->op<=10->2<=a.length)(G:7<=op->op<=10->(-2147483648<=(Cg a).2/\(Cg a).2<=2147483647)/\(-2147483648<=(Ib a).2/\(Ib a).2<=2147483647)):Calls prog 153 #[.q k.B 0,.i op,.i n,.s V a.length vc] w fun e l=>e=.r (.tuple #[])/\∃j,Bm k (M.put ((⟨o.m,o.p,o.lo,o.st++[Mr k.E M.d op n a]⟩,lv,j)::r)) (Dc (.s V a.length vc) a::X) l:=by
 have I:=Bc (fun (v1 v2:Int) (l:TW) (hb:Bl w l)=>Ju k M _ o lv sv r v1 v2 l ok.f (h.below hb) v A D hr hs);generalize b:Mr k.E M.d op n a=P;unfold Mr at b;obtain⟨p1,p2⟩:=P;have bd:Bl w w.drew:=(Vm _ _).drew;by_cases L:op=0
 ·rw[Sp L]at b;subst L;clear h v A D K c F G;by_cases a0:127<n;·rw[Sp a0]at b;have hw:IntKind.i64.wrap (n-256)=n-256:=Eg _ Bd Bd;obtain⟨rfl,rfl⟩:=Prod.mk.inj b;clear b;go_in;go_wp2_with fail;refine Qm (Ba I _ _ _ (Vm _ _)) ?_;rintro N ⟨j,c⟩;go_wp2;go_end0;exact⟨rfl,j,c⟩
  rw[Pf a0]at b;obtain⟨rfl,rfl⟩:=Prod.mk.inj b;clear b;go_in;go_wp2_with fail;refine Qm (Ba I _ _ _ (Vm _ _)) ?_;rintro N ⟨j,c⟩;go_wp2;go_end0;exact⟨rfl,j,c⟩
 rw[Pf L]at b;by_cases O:op=1;·rw[Sp O]at b;subst O;obtain⟨rfl,rfl⟩:=Prod.mk.inj b;clear h v A D K c F G b;go_in;go_wp2_with fail;refine Qm (Ba I _ _ _ (Vm _ _)) ?_;rintro N ⟨j,c⟩;go_wp2;go_end0;exact⟨rfl,j,c⟩
 rw[Pf O]at b;by_cases Q:op=19;·rw[Sp Q]at b;subst Q;have Y:0<a.length:=c rfl;obtain⟨g,rfl,hg,x0,t⟩:=vxg h Y;have ev:a.getD 0 (0,0)=(p1,p2):=b;rw[ev]at x0 t;simp only[Bwh,Bvp]at x0 t;clear h v A D K c F G b ev;go_in;go_wp2_with fail;refine Qm (Ba I _ _ _ (Vm _ _)) ?_;rintro N ⟨j,c⟩;go_wp2;go_end0;exact⟨rfl,j,c⟩
 rw[Pf Q,Pf (show ¬op=17 by omega)]at b;have J:7<=op/\op<=10:=Bd;have Y:1<a.length:=F J.1 J.2;obtain⟨a1,a2⟩:=G J.1 J.2;obtain⟨g,rfl,hg,-,t⟩:=vxg h (q:=0) Bd;obtain⟨g',eg,-,-,Z⟩:=vxg h Y;simp only[Option.some.injEq,Addr.mk.injEq,Bwb]at eg;subst eg;have e0:(a.getD 0 (0,0)).2=(Cg a).2:=rfl;have e1:(a.getD 1 (0,0)).2=(Ib a).2:=rfl;rw[e0]at t;rw[e1]at Z;simp only[Bwh,Bvp,Bx8]at t Z;obtain⟨rfl,rfl⟩:=Prod.mk.inj b;have HV:=Bc (Bfa op (Cg a).2 (Ib a).2 w.drew a1 a2);generalize Jl op (Cg a).2 (Ib a).2=z at *;generalize (Cg a).2=z0 at *;generalize (Ib a).2=z1 at *;have a3:0<a.length:=Bd;have a4:(1:Int)<(a.length:Int):=Bd;have hq:op=7\/op=8\/op=9\/op=10:=Bd;clear h v A D c F G b e0 e1 L O Q J a1 a2 K;rcases hq with rfl|rfl|rfl|rfl
 all_goals
  go_in;go_wp2_with fail
  go_region_held3 (fun l=>l.C g 1 (.i z0)/\l.C g 3 (.i z1))
   (first|exact⟨t,Z⟩)
   (first|(go_at_call 202;refine(Ba HV).mono ?_;rintro e w7 ⟨rfl,rfl⟩))
  go_wp2_with fail;refine Qm (Ba I _ _ _ bd) ?_;rintro N ⟨j,c⟩;go_wp2;go_end0;exact⟨rfl,j,c⟩
def Bah(k:Db)(op:Int)(n:Int)(v:TX)(w:TW)(f:∃a m c,v=.s a m c)(g:op=17\/op=18)(Q:TW->Prop)(hF:Calls prog 203 #[.q k.B 0,.i op,.i n,v] w fun e b=>e=.r (.tuple #[])/\Q b):Calls prog 153 #[.q k.B 0,.i op,.i n,v] w fun e b=>e=.r (.tuple #[])/\Q b:=by
 obtain⟨a,m,c,rfl⟩:=f;have h:=Bc hF;clear hF;rcases g with rfl|rfl
 all_goals
  go_in;go_wp2_with fail;refine Qm (Ba h) ?_;intro l j;go_wp2;go_end0;exact⟨rfl,j⟩
def Br.readd(M:Br):Br:=⟨M.os,M.ts,M.made,M.read+1,M.out,M.steps,M.status,M.value,M.oa,M.oc,M.ta,M.tc,M.xa,M.xc⟩
def Bto{k:Db}{M:Br}{X:List Rw}{w:TW}(h:Bm k M X w):Bm k M.readd X (w.setCell (.a k.B 10) (.i ((M.read:Int)+1))):=by
 have b:=Own.cell (i:=0) h Hd 10 (.i ((M.read:Int)+1));unfold Bm Br.readd Br.rows Br.cells;simp only[Bzh];exact b
def Bj1(k:Db)(M:Br)(X:List Rw)(o:Ca)(lv sv:TX)(r:List (Ca×Value×Value))(n:Int)(v:TX)(w:TW)(b:k.Ok)(h:Bm k M X w)(l:M.os=(o,lv,sv)::r)(J:r.length<=1000)(K:o.st.length<=1000)(t:o.m<k.f.ms.length)(A:(o.st.length:Int)<k.f.ms[o.m].1.m.stack)(L:∃a m c,v=.s a m c)(N:M.read<k.ins.length):Calls prog 153 #[.q k.B 0,.i 24,.i n,v] w fun e g=>e=.r (.tuple #[])/\∃j,Bm k (M.readd.put ((⟨o.m,o.p,o.lo,o.st++[(1,k.ins.getD M.read 0)]⟩,lv,j)::r)) X g:=by
 obtain⟨a,m,c,rfl⟩:=L;obtain⟨D,F,G,O,I⟩:=b.ins M.read N;have Z:=(h.low.cell (p:=.a D (F+M.read)) O).trans I;have a0:w.C k.B 10 (.i (M.read:Int)):=h.cell Hd;have c3:w.C k.B 3 (.s (some ⟨D,F,none⟩) k.ins.length k.ic):=by rw[<- G];exact h.cell Hd
 have a1:=h.fz 10;have a2:=b.il;have Q:=Bc (fun (g:TW) (V:Bl w g)=>Ju k M.readd X o lv sv r 1 (k.ins.getD M.read 0) _ b.f (Bto (h.below V)) l t A J K);have hw:IntKind.i64.wrap ((M.read:Int)+1)=(M.read:Int)+1:=Eg _ Bd Bd;have a3:(M.read:Int)<(k.ins.length:Int):=Bd;generalize k.ins.getD M.read 0=z at *;generalize M.read=rd at *;clear h l t A G I;go_in;go_wp2;go_quiet (fail);go_wp2;go_quiet (fail);go_wp2_with fail;refine Qm (Ba Q _ (Cy (Vm _ _))) ?_;rintro w1 ⟨j,Y⟩;go_wp2;go_end0;exact⟨rfl,j,Y⟩
def Bfu(k:Db)(M:Br)(X:List Rw)(o:Ca)(lv sv:TX)(r:List (Ca×Value×Value))(n:Int)(v:TX)(w:TW)(z:k.Ok)(h:Bm k M X w)(j:M.os=(o,lv,sv)::r)(A:r.length<=1000)(D:o.st.length<=1000)(l:o.m<k.f.ms.length)(t:(o.st.length:Int)<k.f.ms[o.m].1.m.stack)(F:∃a m c,v=.s a m c)(K:k.ins.length<=M.read):Calls prog 153 #[.q k.B 0,.i 24,.i n,v] w fun e b=>e=.r (.tuple #[])/\∃g,Bm k (M.put ((⟨o.m,o.p,o.lo,o.st++[(1,0)]⟩,lv,g)::r)) X b:=by
 obtain⟨a,m,c,rfl⟩:=F;have L:w.C k.B 10 (.i (M.read:Int)):=h.cell Hd;have N:w.C k.B 3 (.s k.ia k.ins.length k.ic):=h.cell Hd;have G:=Bc (fun (b:TW) (I:Bl w b)=>Ju k M X o lv sv r 1 0 b z.f (h.below I) j l t A D);have O:¬(M.read:Int)<(k.ins.length:Int):=Bd;generalize M.read=Q at *;clear h j l t;go_in;go_wp2;go_quiet (fail);go_wp2_with fail;refine Qm (Ba G _ (Cy (Vm _ _))) ?_;rintro V ⟨g,J⟩;go_wp2;go_end0;exact⟨rfl,g,J⟩
def Tryz.infoInt2:(prog.info? 3).map (fun i=>(i.zero,i.size,i.bytes))=some (some (.i 0),1,8):=Le
def Br.outed(M:Br)(z:Int)(xa:TA)(xc:Nat):Br:=⟨M.os,M.ts,M.made,M.read,M.out++[z],M.steps,M.status,M.value,M.oa,M.oc,M.ta,M.tc,xa,xc⟩
def Btp{k:Db}{M:Br}{X:List Rw}{w w9:TW}{z:Int}{xa:TA}{xc:Nat}(h:Bm k M X w)(c:w9.ownsRow k.w0.heap.size 3 1 (.s xa (M.out.length+1) xc) (M.out.length+1) (M.out.map (Value.int .i64)++[.i z])) (e:w.grownBy w9 (Value.slice M.xa M.out.length M.xc).ownBlock)(f:(Value.slice xa (M.out.length+1) xc).ownBlock=(Value.slice M.xa M.out.length M.xc).ownBlock\/(Value.slice xa (M.out.length+1) xc).ownBlock=some w.heap.size):w9.C k.B 11 (.s M.xa M.out.length M.xc)/\w9.frozen? (.a k.B 11)=false/\Bm k (M.outed z xa xc) X (w9.setCell (.a k.B 11) (.s xa (M.out.length+1) xc)):=by
 obtain⟨m,p,q,t,g,v,A,D,F,G,I,J,K,L⟩:=M;simp only at c e f ⊢;have b:=Own.app (i:=3) h Hd c e f;have l:=Own.cell (i:=0) b Hd 11 (.s xa (g.length+1) xc);refine⟨Own.see (i:=0) (j:=11) b Hd Hd,Own.free (i:=0) b Hd 11,?_⟩;unfold Bm Br.outed Br.rows Br.cells;simp only[Up,Bvo,Bwn,Bvp,Bvx,Bwm,Byz];exact l
def Bhv(k:Db)(M:Br)(X:List Rw)(n:Int)(a:TP)(f:TA)(vc:Nat)(w:TW)(h:Bm k M (Dc (.s f a.length vc) a::X) w)(v:0<a.length)(a0:M.out.length<=100000):Calls prog 153 #[.q k.B 0,.i 25,.i n,.s f a.length vc] w fun e j=>e=.r (.tuple #[])/\∃xa xc,Bm k (M.outed (Cg a).2 xa xc) (Dc (.s f a.length vc) a::X) j:=by
 obtain⟨A,D,F,G,I⟩:=Bv4 Tryz.infoInt2;obtain⟨g,rfl,J,-,l⟩:=vxg h v;have p:(a.getD 0 (0,0)).2=(Cg a).2:=rfl;rw[p]at l;simp only[Bwh,Bvp]at l;have K:w.C k.B 11 (.s M.xa M.out.length M.xc):=h.cell Hd;have N:=h.ltB;have a1:=h.low.size;have O:=h.xrow;generalize (Cg a).2=z at *;have Q:=Bc (fun (j w9:TW) xa xc (V:Bl w j) Y Z b=>Btp (z:=z) (w9:=w9) (xa:=xa) (xc:=xc) (h.below V) Y Z b);have a2:=fun y=>(Bwg w y ⟨k.B,11,none⟩ N).trans K;have ag:=fun y=>(Bwg w y ⟨g,1,none⟩ J).trans l;clear h p;generalize hL:M.out.length=L at *;go_in
 go_upto_region 22 with fail
 go_region_law
  ((refine Bds Hd _ _ _ Hd k.w0.heap.size 3 A _ 1 8 Bxs D F G I rfl Bd _ _ _ Hd ((O.alloc _).drew) ⟨w.heap.size,0,none⟩ 1 1 [.i z] Hd Hd (Dv w _ _ _ rfl) (by simp[Value.oneCell']) Mc Bd Fm ?_;intro v' w9 m t b;obtain⟨a3,a4,rfl⟩:=Bg m;have c:=Ba Q _ _ _ _ ((QN _).drew) m t b;have e1:=c.1;have e2:=c.2.1;have HA:=Bc c.2.2;clear c t m b))
 all_goals
  go_wp2;go_end0;exact⟨rfl,_,_,Ba HA⟩
def Cj {α β:Type}(R:α->β->Prop):List α->List β->Prop
 | [],[]=>True
 | a::l,b::r=>R a b/\Cj R l r
 | _,_=>False
def Cj.nil{α β:Type}{R:α->β->Prop}:Cj R [] []:=trivial
def Cj.cons{α β:Type}{R:α->β->Prop}{a:α}{b:β}{l:List α}{r:List β}(h:R a b)(k:Cj R l r):Cj R (a::l) (b::r):=⟨h,k⟩
def Cj.el{α β:Type}{R:α->β->Prop}{P:(l:List α)->(r:List β)->Cj R l r->Prop}(nil:P [] [] .nil)(cons:∀{a:α}{b:β}{l:List α}{r:List β} (h:R a b) (k:Cj R l r),P l r k->P (a::l) (b::r) (.cons h k)):∀{l:List α}{r:List β} (h:Cj R l r),P l r h
 | [],[],_=>nil
 | [],_::_,h=>False.elim h
 | _::_,[],h=>False.elim h
 | _::_,_::_,h=>cons h.1 h.2 (Cj.el nil cons h.2)
section
variable {α β:Type}{R S:α→β→Prop}
def Cj.len{l:List α}{r:List β}(h:Cj R l r):l.length=r.length:=by induction h using Cj.el with
 | nil=>rfl
 | cons _ _ ih=>simp[ih]
def Cj.mono{l:List α}{r:List β}(h:Cj R l r)(k:∀a∈l,∀b∈r,R a b->S a b):Cj S l r:=by induction h using Cj.el with
 | nil=>exact .nil
 | cons x _ ih=>exact .cons (k _ Fr _ Fr x) (ih (fun a c b e=>k a (by simp[c]) b (by simp[e])))
def Cj.app{l b:List α}{r c:List β}(h:Cj R l r)(k:Cj R b c):Cj R (l++b) (r++c):=by induction h using Cj.el with
 | nil=>exact k
 | cons x _ ih=>exact .cons x ih
def Cj.split{l:List α}:∀{r c:List β},Cj R l (r++c)->∃a b,l=a++b/\Cj R a r/\Cj R b c:=by
 induction l with
 | nil=>intro r c h;cases r with
  | nil=>exact⟨[],[],rfl,.nil,h⟩
  | cons _ _=>cases h using Cj.el
 | cons x l ih=>intro r c h;cases r with
  | nil=>exact⟨[],x::l,rfl,.nil,h⟩
  | cons y r =>
   cases h using Cj.el with
   | cons h1 h2 =>
    obtain⟨a,b,rfl,e,f⟩:=ih h2;exact⟨x::a,b,rfl,.cons h1 e,f⟩
def Cj.get{l:List α}{r:List β}(h:Cj R l r)(i:Nat)(b:i<l.length)(u:α)(v:β):R (l.getD i u) (r.getD i v):=by
 induction h using Cj.el generalizing i with
 | nil=>simp at b
 | cons x _ ih=>cases i with
  | zero=>exact x
  | succ j=>simpa using ih j (by simpa using b)
def Cj.set{l:List α}{r:List β}(h:Cj R l r)(i:Nat){u:α}{v:β}(b:R u v):Cj R (l.set i u) (r.set i v):=by
 induction h using Cj.el generalizing i with
 | nil=>exact .nil
 | cons x hr ih=>cases i with
  | zero=>exact .cons b hr
  | succ j=>exact .cons x (ih j)
def Cj.map{Z:Type}{f:β->Z}{Q:α->Z->Prop}{l:List α}{r:List β}(h:Cj R l r)(k:∀a∈l,∀b∈r,R a b->Q a (f b)):Cj Q l (r.map f):=by
 induction h using Cj.el with
 | nil=>exact .nil
 | cons x _ ih=>exact .cons (k _ Fr _ Fr x) (ih (fun a c b e=>k a (by simp[c]) b (by simp[e])))
end
def It.mono{n s:Nat}(h:n<=s)(k:It n C):It s C:=by
 rcases k with k|k | k
 ·exact .inl k
 ·exact .inr (.inl k)
 exact .inr (.inr ⟨k.1,k.2.1,Bd⟩)
structure Ez(T:List Int)(ts:List Do)(ω:Int->Nat × Int)(i:Nat)(ρ ar:Int->Int)(v t:Int × Int):Prop where
 int:t.1=1->v.1=1
 null:t.1=2->v=(2,0)
 ref:t.1=3->v.1=2/\(v.2=0\/(Cc ts v.2).set=true/\Tr.fitsB T 3 (Cc ts v.2).cl 3 t.2=true)
 raw:t.1=4->v=(2,ρ t.2)/\0<ρ t.2/\ρ t.2<(ts.length:Int)/\(Cc ts (ρ t.2)).set=false/\(Cc ts (ρ t.2)).cl=ar t.2/\ω (ρ t.2)=(i,t.2)
def Vf (T:TI)(ts:List Do):Prop:=∀k,(Cc ts k).set=true->0<=(Cc ts k).cl/\(Cc ts k).cl<(T.length:Int)
def Ez.top{ω:Int->Nat×Int}{ρ b:Int->Int}{t:Int×Int}(h:t.1=0):Ez z Q ω u ρ b C t:=by constructor<;>intro c<;>omega
def Ez.le(q:Tr.Ok z){ω:Int->Nat×Int}{ρ f:Int->Int}{s t:Int×Int}(h:Ez z Q ω u ρ f C s)(c:Zg z s t)(g:Tr.Arg z s.1 s.2)(j:Tr.Arg z t.1 t.2)(A:Vf z Q):Ez z Q ω u ρ f C t:=by
 rcases(Tr.fits_iff z s.1 s.2 t.1 t.2).1 c with ⟨h1,h2⟩|h1|⟨h1,h2⟩|⟨h1,h2,h3⟩
 ·have:s=t:=Bxd h1 h2;rw[<- this];exact h
 ·exact .top h1
 ·have:=h.null h2;exact⟨fun e=>Bd,fun e=>Bd,fun _=>by rw[this];exact⟨rfl,.inl rfl⟩,fun e=>Bd⟩
 obtain⟨a,b⟩:=h.ref h2;refine⟨fun e=>Bd,fun e=>Bd,fun _=>⟨a,?_⟩,fun e=>Bd⟩;rcases b with b|⟨l,B⟩
 ·exact .inl b
 obtain⟨D,F⟩:=A _ l;have m:s=(3,s.2):=Bxd h2 rfl;have p:t=(3,t.2):=Bxd h1 rfl;refine .inr ⟨l,Tr.fits_trans q (.inr (.inr (.inr (.inl ⟨rfl,D,F⟩)))) ?_ ?_ B ?_⟩
 ·rw[m]at g;exact g
 ·rw[p]at j;exact j
 rw[m,p]at c;exact c
def Cj.le(j:Tr.Ok z){ω:Int->Nat×Int}{ρ c:Int->Int}(m:Vf z Q){q p:TP}(s:Da z q p):∀{a:TP},(∀t∈q,Tr.Arg z t.1 t.2)->(∀t∈p,Tr.Arg z t.1 t.2)->Cj (Ez z Q ω u ρ c) a q->Cj (Ez z Q ω u ρ c) a p:=by
 induction s using Da.el with
 | nil=>intro a _ _ h;exact h
 | cons f _ ih =>
  intro a e g h;cases h using Cj.el with
  | cons x y=>exact .cons (x.le j f (e _ Fr) (g _ Fr) m) (ih (fun t b=>e t (by simp[b])) (fun t b=>g t (by simp[b])) y)
structure L9(ts ts':List Do)(ω ω':Int->Nat × Int)(P:Nat × Int->Prop):Prop where
 len:ts.length<=ts'.length
 set:∀k:Int,0<=k->k<(ts.length:Int)->(Cc ts k).set=true->(Cc ts' k).set=true/\(Cc ts' k).cl=(Cc ts k).cl
 raw:∀k:Int,0<=k->k<(ts.length:Int)->(Cc ts k).set=false->¬P (ω k)->(Cc ts' k).set=false/\(Cc ts' k).cl=(Cc ts k).cl/\ω' k=ω k
def Ez.ext{j:List Do}{ω l:Int->Nat×Int}{P:Nat×Int->Prop}(e:L9 Q j ω l P){ρ m:Int->Int}{t:Int×Int}(h:Ez z Q ω u ρ m C t)(s:It Q.length C)(A:t.1=4->¬P (u,t.2)):Ez z j l u ρ m C t:=by
 refine⟨h.int,h.null,fun c=>?_,fun c=>?_⟩
 ·obtain⟨a,b⟩:=h.ref c;refine⟨a,?_⟩;rcases b with b|⟨B,D⟩
  ·exact .inl b
  have p:0<=C.2/\C.2<(Q.length:Int):=by
   rcases s with w|w | w
   ·rw[w]at a;simp at a
   ·omega
   exact w.2
  obtain⟨f,g⟩:=e.set C.2 p.1 p.2 B;exact .inr ⟨f,by rw[g];exact D⟩
 obtain⟨F,G,I,J,K,q⟩:=h.raw c;obtain⟨f,g,L⟩:=e.raw (ρ t.2) Bd I J (by rw[q];exact A c);have:=e.len;exact⟨F,G,Bd,f,by rw[g];exact K,by rw[L];exact q⟩
def Cj.ext{b:List Do}{ω c:Int->Nat×Int}{P:Nat×Int->Prop}(e:L9 Q b ω c P){ρ f:Int->Int}{a p:TP}(h:Cj (Ez z Q ω u ρ f) a p)(g:∀v∈a,It Q.length v)(j:∀q,¬P (u,q)):Cj (Ez z b c u ρ f) a p :=
 h.mono (fun v m t _ k=>k.ext e (g v m) (fun _=>j t.2))
def Bu7(f:Tr.Ok z){ω:Int->Nat×Int}{ρ g:Int->Int}{t:Int×Int}(j:Vf z Q)(h:Ez z Q ω u ρ g C t)(c:t.1=1\/t.1=3/\0<=t.2):J3 z Q C t=true:=by
 unfold J3;rcases c with c|⟨c,l⟩
 ·rw[Sp c];simp[h.int c]
 rw[Pf Bd];obtain⟨a,b⟩:=h.ref c;rw[Sp a];rcases b with b|⟨e,m⟩
 ·rw[Sp b]
 obtain⟨p,q⟩:=j _ e
 split
 ·rfl
 rw[e,(Tr.rbel_iff f p q l).2 (Tr.fits_ref.1 m)];rfl
def Bu3(f:Tr.Ok z){ω:Int->Nat×Int}{ρ g:Int->Int}{n:Int}(j:Vf z Q)(l:0<=n)(h:J3 z Q C (3,n)=true):Ez z Q ω u ρ g C (3,n):=by
 unfold J3 at h;rw[Pf Fr]at h;refine⟨fun e=>absurd e Fr,fun e=>absurd e Fr,fun _=>?_,fun e=>absurd e Fr⟩
 split at h
 ·next a =>
  refine⟨a,?_⟩
  split at h
  ·next b=>exact .inl b
  obtain⟨c,m⟩:=Bool.and_eq_true_iff.1 h;obtain⟨p,q⟩:=j _ c;exact .inr ⟨c,Tr.fits_ref.2 ((Tr.rbel_iff f p q l).1 m)⟩
 cases h
def Bov(c:Tr.Ok z){ω:Int->Nat×Int}{ρ e:Int->Int}(f:Vf z Q){a p:TP}(h:Cj (Ez z Q ω u ρ e) a p)(b:∀t∈p,t.1=1\/t.1=3/\0<=t.2):Hw z Q a p=true:=by
 induction h using Cj.el with
 | nil=>rfl
 | cons x _ ih =>
  unfold Hw;rw[Bu7 c f x (b _ Fr),ih (fun t g=>b t (by simp[g]))];rfl
def Ez.plain{ω b:Int->Nat×Int}{s:Nat}{ρ c f g:Int->Int}{t:Int×Int}(h:Ez z Q ω u ρ c C t)(j:t.1≠4):Ez z Q b s f g C t :=
 ⟨h.int,h.null,h.ref,fun e=>absurd e j⟩
def Cj.plain{ω b:Int->Nat×Int}{s:Nat}{ρ c e f:Int->Int}{a p:TP}(h:Cj (Ez z Q ω u ρ c) a p)(g:∀t∈p,t.1≠4):Cj (Ez z Q b s e f) a p :=
 h.mono (fun _ _ t j k=>k.plain (g t j))
def Hq (m:Rd.Mth)(q:Int):Int:=Cd.atI m.code (q+1)
structure Cr.Ok(E:Cr):Prop where
 k:Jj E.cs E.ms
 cd:∀m∈E.ms,0<m.code.length
 ck:∀m∈E.ms,(Kj E.cs E.ms m).1=0
 hd:∀j,j<E.ms.length->Ip E.T E.ms j (E.meth j)=true
 ins:∀v∈E.ins,-2147483648<=v/\v<=2147483647
abbrev Cr.F(E:Cr)(m:Nat)(p:Nat):Option Be:=Wt E.cs E.ms (E.meth m) p
def Cr.mem{E:Cr}{n:Nat}(h:n<E.ms.length):E.meth n∈E.ms:=by
 unfold Cr.meth;rw[Th,Ws h];exact Bvh h
structure Oa(E:Cr)(ts:List Do)(ω:Int->Nat × Int)(i:Nat)(ρ:Int->Int)(o:Ca)(x:Be):Prop where
 lo:Cj (Ez E.T ts ω i ρ (Hq (E.meth o.m))) o.lo x.locals
 st:Cj (Ez E.T ts ω i ρ (Hq (E.meth o.m))) o.st x.stack
def Fe (E:Cr)(ts:List Do)(ω:Int->Nat × Int)(i0:Int × Int)(i1:List Ca):Prop:=∀(P:Int × Int->List Ca->Prop),(∀(res:Int × Int),P res [])->(∀{res:Int × Int}{q:Ca}{r:List Ca} (ρ:Int->Int) (x:Be) (s:TP),q.m<E.ms.length->q.p∈Cd.places (E.meth q.m).code->E.F q.m q.p=some x->Dz ((E.meth q.m).code.getD q.p 0)=true->Fn E.cs E.ms (E.meth q.m) q.p x=some ⟨x.locals,s++Ei res⟩->Oa E ts ω r.length ρ q ⟨x.locals,s⟩->P (E.meth q.m).result r->P res (q::r))->P i0 i1
def Fe.nil{E:Cr}{ω:Int->Nat×Int}(b:Int×Int):Fe E Q ω b []:=fun P c e=>c b
def Fe.cons{E:Cr}{ω:Int->Nat×Int}{q:Ca}{r:List Ca}(ρ:Int->Int)(x:Be)(s:TP)(c:q.m<E.ms.length)(e:q.p∈Cd.places (E.meth q.m).code)(f:E.F q.m q.p=some x)(g:Dz ((E.meth q.m).code.getD q.p 0)=true)(h:Fn E.cs E.ms (E.meth q.m) q.p x=some ⟨x.locals,s++Ei C⟩)(i:Oa E Q ω r.length ρ q ⟨x.locals,s⟩)(j:Fe E Q ω (E.meth q.m).result r):Fe E Q ω C (q::r):=fun P l b=>b ρ x s c e f g h i (j P l b)
def Fe.el{E:Cr}{ts:List Do}{ω:Int->Nat×Int}{M:(i0:Int×Int)->(i1:List Ca)->Fe E ts ω i0 i1->Prop}(nil:∀(res:Int×Int),M res [] (Fe.nil res))(cons:∀{res:Int×Int}{q:Ca}{r:List Ca} (ρ:Int->Int) (x:Be) (s:TP) (q0:q.m<E.ms.length) (q1:q.p∈Cd.places (E.meth q.m).code) (q2:E.F q.m q.p=some x) (q3:Dz ((E.meth q.m).code.getD q.p 0)=true) (q4:Fn E.cs E.ms (E.meth q.m) q.p x=some ⟨x.locals,s++Ei res⟩) (q5:Oa E ts ω r.length ρ q ⟨x.locals,s⟩) (q6:Fe E ts ω (E.meth q.m).result r),M (E.meth q.m).result r q6->M res (q::r) (Fe.cons ρ x s q0 q1 q2 q3 q4 q5 q6)){i0:Int×Int}{i1:List Ca}(h:Fe E ts ω i0 i1):M i0 i1 h :=
 (h (fun i0 i1=>∃k:Fe E ts ω i0 i1,M i0 i1 k) (fun res=>⟨Fe.nil res,nil res⟩) (fun ρ x s q0 q1 q2 q3 q4 q5 ⟨q6,mq6⟩=>⟨Fe.cons ρ x s q0 q1 q2 q3 q4 q5 q6,cons ρ x s q0 q1 q2 q3 q4 q5 q6 mq6⟩)).elim fun _ m=>m
structure Buv(E:Cr)(ts:List Do)(ω:Int->Nat × Int)(o:Ca)(r:List Ca):Prop where
 m:o.m<E.ms.length
 p:o.p∈Cd.places (E.meth o.m).code
 ty:∃ρ x,E.F o.m o.p=some x/\Oa E ts ω r.length ρ o x
 w:Fe E ts ω (E.meth o.m).result r
structure Ky(E:Cr)(ts:List Do)(ω:Int->Nat × Int):Prop where
 six:6<=ts.length
 gv:∀k:Nat,1<=k->k<=5->ts[k]?=some ⟨(k:Int)+1,true,[]⟩
 z:ts[0]?=some Baf
 cl:∀k:Nat,0<k->k<ts.length->0<=(Cc ts k).cl/\(Cc ts k).cl<(E.T.length:Int)
 vs:∀k:Nat,k<ts.length->(Cc ts k).set=true->Cj (Ez E.T ts ω 0 id id) (Cc ts k).vals (E.all (Cc ts k).cl)
 un:∀k:Nat,k<ts.length->(Cc ts k).set=false->(Cc ts k).vals=[]
 wv:∀k:Nat,k<ts.length->∀v∈(Cc ts k).vals,It ts.length v
def Bc0 (n:Nat)(o:Ca):Prop:=(∀v∈o.lo,It n v)/\∀v∈o.st,It n v
structure Vq(E:Cr)(d:Cs)(ω:Int->Nat × Int)(o:Ca)(r:List Ca):Prop where
 os:d.os=o::r
 st:d.status = -1/\d.value=0
 hp:Ky E d.ts ω
 md:d.made+6=d.ts.length
 ws:∀q∈o::r,Bc0 d.ts.length q
 top:Buv E d.ts ω o r
def Ky.Cl{E:Cr}{ω:Int->Nat×Int}(h:Ky E Q ω):Vf E.T Q:=fun k b=>by
 have c:k.toNat<Q.length:=by
  by_cases g:k.toNat<Q.length;·exact g
  unfold Cc at b;rw[Th,Bwz Bd]at b;cases b
 by_cases g:0<k.toNat;·have:=h.cl k.toNat g c;unfold Cc at this ⊢;rw[Bvn]at this;exact this
 have e:k.toNat=0:=Bd;unfold Cc at b;rw[e,Th,h.z]at b;cases b
def Cr.Ok.sol{E:Cr}(b:E.Ok){F:Rd.Mth}(c:F∈E.ms):Tc (Ep E.cs E.ms F) (Wt E.cs E.ms F):=(Biu b.k c (b.cd F c) (b.ck F c)).1
def Cr.Ok.P{E:Cr}(b:E.Ok){F:Rd.Mth}(c:F∈E.ms){x:Be}(h:Wt E.cs E.ms F u=some x):J1 E.T F x:=(b.sol c).inv u x h
def Bqp{E:Cr}(f:E.Ok){ω:Int->Nat×Int}(h:Vf E.T Q)(D:u<E.ms.length){s:Nat}(G:s∈Cd.places (E.meth u).code){x:Be}(I:E.F u s=some x){y:Be}{b:Bool}(J:Fc (Ep E.cs E.ms (E.meth u)) s x c y b)(l:Ey E.T y) {j:Nat}{ρ:Int->Int}{o:Ca}(O:o.m=u)(t:o.p=c.toNat)(v:Oa E Q ω j ρ o y):0<=c/\(y.stack.length:Int)<=(E.meth u).stack/\o.p∈Cd.places (E.meth u).code/\∃z,E.F u o.p=some z/\Oa E Q ω j ρ o z:=by
 have A:=Cr.mem D;have S:=f.sol A;obtain⟨K,V,L,⟨z,e,B⟩,_⟩:=(S.sat s G x I).go c y b J;have C:=Nb (f.P A e);have N:c.toNat∈Cd.places (E.meth u).code:=by
  by_cases g:c.toNat∈Cd.places (E.meth u).code;·exact g
  unfold Wt at e;rw[Pf g]at e;cases e
 refine⟨K,L,by rw[t];exact N,z,by rw[t];exact e,?_⟩;exact⟨Cj.le f.k.ok h B.lo l.1 C.1 v.lo,Cj.le f.k.ok h B.st l.2 C.2 v.st⟩
def Btu{E:Cr}(A:E.Ok){ω:Int->Nat×Int}{ρ f:Int->Int}(C:Vf E.T Q){q:TP}{p b:TP}(h:Cj (Ez E.T Q ω u ρ f) q p)(D:∀t∈p,Tr.Arg E.T t.1 t.2)(j:∀t∈b,Tr.Arg E.T t.1 t.2)(c:Ig E.T p b=true):∃s a,q=s++a/\Cj (Ez E.T Q ω u ρ f) s (p.take (p.length-b.length))/\Cj (Ez E.T Q ω u ρ f) a b:=by
 unfold Ig at c;by_cases g:p.length<b.length;·rw[Sp g]at c;cases c
 rw[Pf g]at c;have e:=Bxm (p.length-b.length) p;rw[<- e]at h;obtain⟨s,a,rfl,B,F⟩:=h.split;refine⟨s,a,rfl,B,?_⟩;have m:∀t∈p.drop (p.length-b.length),Tr.Arg E.T t.1 t.2:=fun t h=>D t (Bxe h);have z:(p.drop (p.length-b.length)).length=b.length:=by rw[List.length_drop];omega
 generalize p.drop (p.length-b.length)=l at *;clear e B g h
 induction F using Cj.el generalizing b with
 | nil=>cases b with
  | nil=>exact .nil
  | cons _ _=>simp at z
 | cons v _ ih=>cases b with
  | nil=>simp at z
  | cons t b =>
   simp only[Nz,Bwk]at c;rw[Tr.rfits_eq A.k.ok (m _ Fr) (j _ Fr)]at c;exact .cons (v.le A.k.ok c.1 (m _ Fr) (j _ Fr) C) (ih (fun t h=>j t (by simp[h])) c.2 (fun t h=>m t (by simp[h])) (by simpa using z))
structure Gb(o:Ca)(c:Bh):Prop where
 m:c.meth=(o.m:Int)
 wf:Em c
 l8:o.lo.length<=8
 lo:∀j,j<o.lo.length->c.lo.getD j 0=(o.lo.getD j (0,0)).2
 h:c.h=o.st.length
 st:c.st.take c.h=o.st.map Prod.snd
def Gb.at{o:Ca}{c:Bh}(h:Gb o c)(p:Nat):Gb ⟨o.m,p,o.lo,o.st⟩ c:=⟨h.m,h.wf,h.l8,h.lo,h.h,h.st⟩
def Gb.moved{o:Ca}{c:Bh}(h:Gb o c)(a b:Nat):Gb o ⟨c.meth,a,b,c.lo,c.st,c.h⟩:=⟨h.m,⟨h.wf.lo,h.wf.st,h.wf.h⟩,h.l8,h.lo,h.h,h.st⟩
def Ox{o:Ca}{c:Bh}(h:Gb o c)(v:Int×Int)(i:o.st.length<8):Gb ⟨o.m,o.p,o.lo,o.st++[v]⟩ (En v.2 c):=by
 have b:¬8<=c.h:=by rw[h.h];omega
 have e:En v.2 c=⟨c.meth,c.pos,c.next,c.lo,c.st.set c.h v.2,c.h+1⟩:=by unfold En;rw[Pf b]
 refine⟨by rw[e];exact h.m,Md h.wf _,h.l8,fun j f=>by rw[e];exact h.lo j f,by rw[e];simp[h.h],?_⟩;rw[e];have:=h.wf.st;rw[Bvx,<- h.st];apply Bzy;intro j;simp only[Bww,Bxi,List.getElem?_append,Bxf,Bwm,Byz];by_cases g:j<c.h;·rw[Sp Bd,Pf Bd,Sp Bd,Sp g]
 by_cases g2:j=c.h;·subst g2;rw[Sp Bd,Sp rfl,Sp Bd,Pf Bd];simp[Bx5 (show c.h<=c.st.length by omega)]
 rw[Pf Bd,Pf Bd];rw[Bwz];simp;omega
def Pt{o:Ca}{c:Bh}(h:Gb o c){s:TP}{v:Int×Int}(e:o.st=s++[v]):(Bw c).1=v.2/\Gb ⟨o.m,o.p,o.lo,s⟩ (Bw c).2/\(Bw c).2.pos=c.pos/\(Bw c).2.next=c.next:=by
 have b:c.h=s.length+1:=by rw[h.h,e];simp
 have g:Bw c=(c.st.getD (c.h-1) 0,⟨c.meth,c.pos,c.next,c.lo,c.st,c.h-1⟩):=by unfold Bw;rw[Pf Bd]
 have f:=h.st;rw[e,Bvx,b]at f;have j:=h.wf.st;have q:=h.wf.h;rw[g];refine⟨?_,⟨h.m,⟨h.wf.lo,h.wf.st,by show c.h-1<=8;omega⟩,h.l8,h.lo,by show c.h-1=s.length;omega,?_⟩,rfl,rfl⟩
 ·show c.st.getD (c.h-1) 0=v.2;have:=congrArg (fun l=>l[s.length]?) f;simp only[Bww]at this;rw[Sp Bd,Bvt Fr]at this;simp only[Bvr,Byx,Bwm,Bxq]at this;rw[b,Bzr,Th,this];rfl
 show c.st.take (c.h-1)=s.map Prod.snd;have i:(s.map Prod.snd++[v].map Prod.snd).take s.length=s.map Prod.snd:=by
  rw[Byg Fr];exact Bv0 Fr
 have:=congrArg (List.take s.length) f;rw[i,Bxu,Bx5 Bd]at this;rw[b,Bzr,this]
def Yn:∀(n:Nat) {o:Ca}{c:Bh} (_:Gb o c) {s a:TP} (_:o.st=s++a) (_:a.length=n),(D6 n c).1=a.map Prod.snd/\Gb ⟨o.m,o.p,o.lo,s⟩ (D6 n c).2/\(D6 n c).2.pos=c.pos/\(D6 n c).2.next=c.next
 | 0,o,c,h,s,a,e,hn=>by
  obtain rfl:=Bwc hn;rw[Bxl]at e;refine⟨rfl,?_,rfl,rfl⟩;rw[<- e];exact h
 | n+1,o,c,h,s,a,e,hn=>by
  obtain⟨b,v,rfl⟩:∃b v,a=b++[v]:=by
   rcases List.eq_nil_or_concat a with rfl|⟨b,v,rfl⟩
   ·simp at hn
   exact⟨b,v,Fr⟩
  have f:b.length=n:=by simpa using hn
  obtain⟨g,i,j,l⟩:=Pt h (s:=s++b) (v:=v) (by rw[e];simp);obtain⟨q,t,z,A⟩:=Yn n i (s:=s) (a:=b) rfl f;unfold D6;refine⟨by simp only;rw[q,g];simp,t,z.trans j,A.trans l⟩
def Br5{o:Ca}{c:Bh}(h:Gb o c){n:Int}(b:0<=n)(e:n<(o.lo.length:Int)):Wq n c=(o.lo.getD n.toNat (0,0)).2:=by
 have:=h.l8;unfold Wq;rw[Pf Bd,Pf Bd];exact h.lo _ Bd
def Bkb{o:Ca}{c:Bh}(h:Gb o c){n:Int}(i:0<=n)(l:n<(o.lo.length:Int))(v:Int×Int):Gb ⟨o.m,o.p,o.lo.set n.toNat v,o.st⟩ (Ff n v.2 c)/\(Ff n v.2 c).pos=c.pos/\(Ff n v.2 c).next=c.next:=by
 have:=h.l8;have q:=h.wf.lo;have e:Ff n v.2 c=⟨c.meth,c.pos,c.next,c.lo.set n.toNat v.2,c.st,c.h⟩:=by unfold Ff;rw[Pf Bd,Pf Bd]
 refine⟨⟨by rw[e];exact h.m,Wz h.wf _ _,by simpa using h.l8,fun j b=>?_,by rw[e];exact h.h,by rw[e];exact h.st⟩,by rw[e],by rw[e]⟩;rw[Bv7]at b;rw[e];have f:=h.lo j b;rw[Th,Th]at f ⊢;show ((c.lo.set n.toNat v.2)[j]?).getD 0=_;rw[Bxi,Bxi];by_cases g:n.toNat=j;·rw[Sp g,Sp g,Sp Bd,Sp Bd];rfl
 rw[Pf g,Pf g];exact f
def Bjp:∀(b:TI) (i:Nat) (c:Bh),c.lo.length=8->i+b.length<=8->∀j,(La i b c).lo.getD j 0=if i<=j/\j<i+b.length then b.getD (j-i) 0 else c.lo.getD j 0
 | [],i,c,_,_,j=>by rw[Pf (fun h=>by simp only[Bwn]at h;omega)];rfl
 | v::r,i,c,hc,hi,j=>by
  have e:Ff (i:Int) v c=⟨c.meth,c.pos,c.next,c.lo.set i v,c.st,c.h⟩:=by
   unfold Ff;simp only[Bvo]at hi;rw[Pf Bd,Pf Bd,Bvn]
  simp only[Bvo]at hi;unfold La;rw[Bjp r (i+1) _ (by rw[e];simpa using hc) Bd j,e];simp only[Bvo];by_cases g:i<=j/\j<i+(r.length+1)
  ·rw[Sp g];by_cases g2:j=i;·subst g2;rw[Pf Bd,Byx,Th,Bx2 Bd];rfl
   rw[Sp Bd,show j-i=(j-(i+1))+1 by omega];rfl
  rw[Pf g,Pf Bd,Th,Bxw Bd,<- Th]
def W5:∀(f:TI) (i:Nat) (c:Bh),(La i f c).meth=c.meth/\(La i f c).st=c.st/\(La i f c).h=c.h
 | [],_,_=>⟨rfl,rfl,rfl⟩
 | v::r,i,c=>by
  obtain⟨a,b,d⟩:=W5 r (i+1) (Ff (i:Int) v c);have e:(Ff (i:Int) v c).meth=c.meth/\(Ff (i:Int) v c).st=c.st/\(Ff (i:Int) v c).h=c.h:=by
   unfold Ff
   split<;>first|exact⟨rfl,rfl,rfl⟩|(split<;>exact⟨rfl,rfl,rfl⟩)
  unfold La;exact⟨a.trans e.1,b.trans e.2.1,d.trans e.2.2⟩
def Bi8(E:Cr)(n:Nat)(a:TP)(c:(a.length:Int)<=(E.meth n).locals)(e:(E.meth n).locals<=8):Gb (Hv E n a) (Cn (n:Int) (a.map Prod.snd))/\(Cn (n:Int) (a.map Prod.snd)).next=0:=by
 refine⟨⟨?_,Sq _ _,?_,fun j b=>?_,?_,?_⟩,V0 _ _⟩
 ·exact(W5 _ 0 _).1
 ·unfold Hv;simp;omega
 ·have:=Bjp (a.map Prod.snd) 0 ⟨(n:Int),0,0,Iz,Iz,0⟩ rfl Fm j;unfold Cn;rw[this];unfold Hv at b ⊢;simp only[Up,B0q]at b;simp only[Bv5,Byl,Bvp,Bvr,Nat.sub_zero];by_cases g:j<a.length
  ·rw[Sp g,Th,Bv8,Th,Bvy g];cases h:a[j]? with
   | none=>rfl
   | some v=>rfl
  rw[Pf g,Th (l:=a++_),Bvt Bd,By4,Sp Bd];show Iz.getD j 0=0;have:j<8:=Bd
  match j,this with
  | 0,_=>rfl
  | 1,_=>rfl
  | 2,_=>rfl
  | 3,_=>rfl
  | 4,_=>rfl
  | 5,_=>rfl
  | 6,_=>rfl
  | 7,_=>rfl
 ·exact(W5 _ 0 _).2.2
 rw[show (Cn (n:Int) (a.map Prod.snd)).h=0 from (W5 _ 0 _).2.2];rfl
structure Wl(E:Cr)(d:Cs):Prop where
 os:d.os.length<=800
 each:∀q∈d.os,q.m<E.ms.length/\q.st.length<=800
 top:∀q r,d.os=q::r->q.p∈Cd.places (E.meth q.m).code
 ts:d.ts.length<=800
 md:d.made<=800
 out:d.out.length<=80000
 st:d.steps<=80000
def Gm (E:Cr)(fuel:Nat)(i0:Cs)(i1:Cs):Prop:=∀(P:Cs->Cs->Prop),(∀(d:Cs),0<=d.status->P d d)->(∀(d:Cs),d.status = -1->fuel<=d.steps->P d ⟨d.os,d.ts,d.made,d.read,d.out,d.steps,1,d.value⟩)->(∀(d d' e:Cs),d.status = -1->d.steps<fuel->Wl E d->Gh E d d'->P d' e->P d e)->P i0 i1
def Gm.done{E:Cr}(d:Cs)(b:0<=d.status):Gm E u d d:=fun P c e f=>c d b
def Gm.out{E:Cr}(d:Cs)(b:d.status = -1)(c:u<=d.steps):Gm E u d ⟨d.os,d.ts,d.made,d.read,d.out,d.steps,1,d.value⟩:=fun P f e g=>e d b c
def Gm.step{E:Cr}(d d' e:Cs)(c:d.status = -1)(f:d.steps<u)(g:Wl E d)(h:Gh E d d')(i:Gm E u d' e):Gm E u d e:=fun P j l b=>b d d' e c f g h (i P j l b)
def Gm.el{E:Cr}{fuel:Nat}{M:(i0:Cs)->(i1:Cs)->Gm E fuel i0 i1->Prop}(done:∀(d:Cs) (q0:0<=d.status),M d d (Gm.done d q0))(out:∀(d:Cs) (q0:d.status = -1) (q1:fuel<=d.steps),M d ⟨d.os,d.ts,d.made,d.read,d.out,d.steps,1,d.value⟩ (Gm.out d q0 q1))(step:∀(d d' e:Cs) (q0:d.status = -1) (q1:d.steps<fuel) (q2:Wl E d) (q3:Gh E d d') (q4:Gm E fuel d' e),M d' e q4->M d e (Gm.step d d' e q0 q1 q2 q3 q4)){i0:Cs}{i1:Cs}(h:Gm E fuel i0 i1):M i0 i1 h :=
 (h (fun i0 i1=>∃k:Gm E fuel i0 i1,M i0 i1 k) (fun d q0=>⟨Gm.done d q0,done d q0⟩) (fun d q0 q1=>⟨Gm.out d q0 q1,out d q0 q1⟩) (fun d d' e q0 q1 q2 q3 ⟨q4,mq4⟩=>⟨Gm.step d d' e q0 q1 q2 q3 q4,step d d' e q0 q1 q2 q3 q4 mq4⟩)).elim fun _ m=>m
def N9:List Do:=[Baf,⟨2,true,[]⟩,⟨3,true,[]⟩,⟨4,true,[]⟩,⟨5,true,[]⟩,⟨6,true,[]⟩]
def Zb (E:Cr)(k:Nat):Cs:=⟨[Hv E k []],N9,0,0,[],0,-1,0⟩
def Bhq(h:Tr.Ok z){a B:Int}(c:0<=B)(f:a<(z.length:Int)):Tr.At z a B<->∃j,Tr.itr z j a=B:=by
 unfold Tr.At;rw[Tr.below_iff h c f]
 constructor
 ·rintro (e|⟨j,e⟩)
  ·exact⟨0,e.symm⟩
  exact⟨j+1,e⟩
 rintro ⟨j,e⟩;cases j with
 | zero=>exact .inl e.symm
 | succ j=>exact .inr ⟨j,e⟩
def Bln(h:Tr.Ok z){a B:Int}(c:0<=B)(e:a<(z.length:Int))(k:Tr.At z a B):B<=a:=by
 rcases k with rfl|k
 ·exact Byo _
 have:=Tr.below_lt h c e k;omega
def Bjt(h:Tr.Ok z){B d:Int}(p:0<=d)(e:0<=B)(f:c<(z.length:Int))(s:Tr.At z c B)(v:d<=B):Tr.At z c d<->Tr.At z B d:=by
 obtain⟨i,m⟩:=(Bhq h e f).1 s;have:=Bln h e f s;rw[Bhq h p f,Bhq h p Bd]
 constructor
 ·rintro ⟨j,b⟩;by_cases g:i<=j;·refine⟨j-i,?_⟩;rw[<- m,<- Tr.itr_add,show i+(j-i)=j by omega];exact b
  have t:=Tr.itr_add z j (i-j) c;rw[show j+(i-j)=i by omega,m,b]at t;have A:=Tr.itr_down h (i-j) d (by rw[<- t];exact e);omega
 rintro ⟨j,b⟩;exact⟨i+j,by rw[Tr.itr_add,m];exact b⟩
def Bcx(b:Tr.Ok z)(i:List Rd.Cls){B:Int}(j:0<=c)(f:c<(z.length:Int))(g:0<=B)(h:Tr.At z c B):∀d:Nat,(d:Int)<=B+1->Rf.allTo z i c d=Rf.allTo z i B d
 | 0,_=>rfl
 | d+1,hd=>by
  have:=Bln b g f h;have e:Tr.rbel z c (d:Int)=Tr.rbel z B (d:Int):=Bool.eq_iff_iff.2 (by
   rw[Tr.rbel_iff b j f Bd,Tr.rbel_iff b g Bd Bd];exact Bjt b Bd g f h Bd)
  rw[Rf.allTo,Rf.allTo,Bcx b i j f g h d Bd,e]
def Bcw(T:TI)(b:List Rd.Cls)(c:Int)(d:Nat):∀e:Nat,∃x,Rf.allTo T b c (d+e)=Rf.allTo T b c d++x
 | 0=>⟨[],Fr⟩
 | e+1=>by
  obtain⟨x,f⟩:=Bcw T b c d e;exact⟨x++_,by rw[<- Byc,Rf.allTo,f,Bwe]⟩
def Bs9(f:Tr.Ok z)(b:List Rd.Cls){B:Int}(g:0<=c)(i:c<(z.length:Int))(e:0<=B)(h:Tr.At z c B):∃x,Rf.all z b c.toNat=Rf.all z b B.toNat++x:=by
 have:=Bln f e i h;unfold Rf.all;rw[Bwo g,Bwo e,<- Bcx f b g i e h (B.toNat+1) Bd];obtain⟨x,j⟩:=Bcw z b c (B.toNat+1) (c.toNat-B.toNat);exact⟨x,by rw[<- j];congr 1;omega⟩
def Yx(b:List Rd.Cls):(Rf.given++b).length=(Tr.tree b).length:=by simp[Tr.tree,Rf.given,Tr.given]
def Bum{b:List Rd.Cls}(e:Tr.Ok (Tr.tree b)){n:Nat}(f:n<(Cq b).length):∃q:Nat,q<(Tr.tree b).length/\((Cq b).getD n ⟨0,0,(0,0)⟩).owner=(q:Int)/\∃z:Nat,((Cq b).getD n ⟨0,0,(0,0)⟩).slot=(z:Int)/\Je (Tr.tree b) (Oj b) (n:Int)=(z:Int) /\ ∀c:Int,0<=c->c<((Tr.tree b).length:Int)->Tr.At (Tr.tree b) c (q:Int)->z<(Rf.all (Tr.tree b) (Rf.given++b) c.toNat).length/\(Rf.all (Tr.tree b) (Rf.given++b) c.toNat).getD z (0,0)=((Cq b).getD n ⟨0,0,(0,0)⟩).t:=by
 have m:=Yx b;have p:(Rf.given++b).length-7=b.length:=by simp[Rf.given]
 unfold Cq at f ⊢;rw[<- p]at f ⊢;obtain⟨q,G,I,i,s,v,A,B⟩:=Bgj (Tr.tree b) (Rf.given++b) (by simp[Rf.given]) (Pd b) n f;rw[B];have g:q<(Tr.tree b).length:=Bd;have h:Rf.all (Tr.tree b) (Rf.given++b) q=Rf.allTo (Tr.tree b) (Rf.given++b) (q:Int) q++((Rf.given++b).getD q ⟨0,[]⟩).fields:=by
  unfold Rf.all;rw[Rf.allTo,Sp ((Tr.rbel_iff e Bd Bd Bd).2 (.inl rfl))]
 have j:((Rf.all (Tr.tree b) (Rf.given++b) q).length:Int)-((((Rf.given++b).getD q ⟨0,[]⟩).fields.length:Nat):Int)+(i:Int)=(((Rf.allTo (Tr.tree b) (Rf.given++b) (q:Int) q).length+i:Nat):Int):=by
  rw[h,Up];push_cast;omega
 refine⟨q,g,rfl,_,j,?_,fun c C D F=>?_⟩
 ·unfold Je Oj;rw[v];simp only;rw[Pf Bd,A,Xm e _ m g];exact j
 obtain⟨x,l⟩:=Bs9 e (Rf.given++b) C D Bd F;rw[Bvn]at l;rw[l,h,Bwe];refine⟨by rw[Up,Up];omega,?_⟩;rw[Th,Bvt Bd,Bxr,Bvy s,<- Th]
def Ng (t:Do):Int × List Int:=(t.cl,t.vals.map Prod.snd)
abbrev Cr.M(E:Cr):Ds:=Yc E.cs E.ms E.ins E.heap E.depth
def Vp (E:Cr)(q:Ca)(c:Bh):Prop:=Gb q c/\c.pos=q.p/\c.next=Ch E q
structure Jd(E:Cr)(d:Cs)(o:Ca)(r:List Ca)(S:Bo):Prop where
 read:S.read=d.read
 objs:S.objs=d.ts.tail.map Ng
 now:Gb o S.now
 wait:Cj (Vp E) r S.wait.reverse
 en:S.ended=false
 out:S.out=d.out
 steps:S.steps=d.steps
def He (E:Cr)(d:Cs)(S:Bo):Prop:=∀(P:Prop),(∀(ω:Int->Nat × Int) (o:Ca) (r:List Ca),Vq E d ω o r->Jd E d o r S->S.now.next=o.p->P)->(S.ended=true->0<=d.status->S.status=d.status->S.value=d.value->S.out=d.out->S.steps=d.steps->P)->P 
def He.on{E:Cr}{d:Cs}{S:Bo}(ω:Int->Nat×Int)(o:Ca)(r:List Ca)(b:Vq E d ω o r)(c:Jd E d o r S)(e:S.now.next=o.p):He E d S:=fun P f g=>f ω o r b c e
def He.off{E:Cr}{d:Cs}{S:Bo}(b:S.ended=true)(c:0<=d.status)(e:S.status=d.status)(f:S.value=d.value)(g:S.out=d.out)(h:S.steps=d.steps):He E d S:=fun P j i=>i b c e f g h
def He.el{E:Cr}{d:Cs}{S:Bo}{M:He E d S->Prop}(on:∀(ω:Int->Nat×Int) (o:Ca) (r:List Ca),Vq E d ω o r->Jd E d o r S->S.now.next=o.p->∀h,M h)(off:S.ended=true->0<=d.status->S.status=d.status->S.value=d.value->S.out=d.out->S.steps=d.steps->∀h,M h)(h:He E d S ):M h:=h (∀h,M h) on off h
section
variable {E:Cr}{d:Cs}{ω:Int→Nat × Int}{o:Ca}{r:List Ca}{S:Bo}
def X7{n:Nat}(h:n<E.ms.length):E.M.meth (n:Int)=E.meth n:=by
 have e:E.M.ms=E.ms:=rfl;unfold Ds.meth Cr.meth;rw[Pf Bd,e,Pf Bd];rfl
def Cr.Ok.env(b:E.Ok){F:Rd.Mth}(c:F∈E.ms):(Ep E.cs E.ms F).Good:=Wd b.k c (b.cd F c)
def Bfq{ts:List Do}{k:Int}(b:0<k)(c:k<(ts.length:Int)):Nl k (ts.tail.map Ng)=true/\Mv k (ts.tail.map Ng)=Ng (Cc ts k):=by
 unfold Nl Mv Cc;refine⟨Fm,?_⟩;rw[Th,Bv8,List.getElem?_tail,show (k-1).toNat+1=k.toNat by omega,Th,Ws Bd];rfl
def Blf{k:Int}(c:0<k)(e:k<(Q.length:Int)):Id k (Q.tail.map Ng)=(Cc Q k).cl:=by
 obtain⟨a,b⟩:=Bfq c e;unfold Id;rw[Sp a,b];rfl
def Bn3(e:Tr.Ok z)(f:0<=c)(i:c<(z.length:Int))(p:Nat):∀(b:List Rd.Hnd),(∀h∈b,0<=h.cl)->Hy z c p b=(Gz z c p b).map Int.toNat
 | [],_=>rfl
 | h::l,hh=>by
  unfold Hy Gz;rw[U9 e f i (hh h Fr),Bn3 e f i p l (fun x j=>hh x (by simp[j]))];unfold El;by_cases g:h.frm<=(p:Int)/\(p:Int)<h.til/\Tr.rbel z c h.cl=true;·rw[Sp g,Sp (by simp[g])];rfl
  rw[Pf g,Pf (by simp only[Bwk,Bwp];exact fun k=>g ⟨k.1.1,k.1.2,k.2⟩)]
def Bep{B:Int}{b:List Rd.Hnd}(h:Gz z c u b=some B):∃x∈b,El x (u:Int)=true/\Tr.rbel z c x.cl=true/\x.target=B:=by
 induction b with
 | nil=>cases h
 | cons x l ih =>
  unfold Gz at h;by_cases g:x.frm<=(u:Int)/\(u:Int)<x.til/\Tr.rbel z c x.cl=true;·rw[Sp g]at h;exact⟨x,Fr,by unfold El;simp[g],g.2.2,Option.some.inj h⟩
  rw[Pf g]at h;obtain⟨y,e,f⟩:=ih h;exact⟨y,by simp[e],f⟩
def Bpn{c:Bh}(h:Gb o c)(n:Int)(t:Nat):Gb ⟨o.m,t,o.lo,[(2,n)]⟩ (P4 n t c):=by
 refine⟨h.m,⟨h.wf.lo,by simp[P4,h.wf.st],by simp[P4]⟩,h.l8,h.lo,rfl,?_⟩;have:=h.wf.st;show (c.st.set 0 n).take 1=[n];cases e:c.st with
 | nil=>rw[e]at this;simp at this
 | cons a l=>rfl
def L9.refl(b:List Do)(ω:Int->Nat×Int)(P:Nat×Int->Prop):L9 b b ω ω P:=⟨Wf _,fun _ _ _ h=>⟨h,rfl⟩,fun _ _ _ h _=>⟨h,rfl,rfl⟩⟩
def Fe.ext{c:List Do}{f:Int->Nat×Int}(e:L9 Q c ω f (fun z=>z.1=u))(h:Fe E Q ω C r):r.length<=u->(∀q∈r,Bc0 Q.length q)->Fe E c f C r:=by
 induction h using Fe.el with
 | nil C=>exact fun _ _=>.nil C
 | @cons C q r ρ x s h1 h2 h3 h4 h5 h6 _ ih =>
  intro g b;have j:∀i:Int,¬(r.length,i).1=u:=fun i=>by
   simp only[Bvo]at g;show ¬r.length=u;omega
  exact .cons ρ x s h1 h2 h3 h4 h5 ⟨h6.lo.ext e (b q Fr).1 j,h6.st.ext e (b q Fr).2 j⟩ (ih (by simp only[Bvo]at g;omega) (fun q l=>b q (by simp[l])))
structure Rs(E:Cr)(ts:List Do)(ω:Int->Nat × Int)(i:Nat)(o:Ca):Prop where
 m:o.m<E.ms.length
 p:o.p∈Cd.places (E.meth o.m).code
 lo:∃ρ x,E.F o.m o.p=some x/\Cj (Ez E.T ts ω i ρ (Hq (E.meth o.m))) o.lo x.locals
def Rs.room(b:E.Ok){i:Nat}(h:Rs E Q ω i o)(e:Gz E.T c o.p (E.meth o.m).handlers≠none):1<=(E.meth o.m).stack:=by
 obtain⟨ρ,x,f,_⟩:=h.lo;obtain⟨t,g⟩:=Option.ne_none_iff_exists'.1 e;obtain⟨y,j,l,_,_⟩:=Bep g;obtain⟨_,_,a,_⟩:=((b.sol (Cr.mem h.m)).sat o.p h.p x f).go _ _ _ (Fc.hnd y j l);exact a
def Fe.stood(h:Fe E Q ω C r):∀q∈r,∃i,Rs E Q ω i q:=by
 induction h using Fe.el with
 | nil=>simp
 | @cons C q r ρ x s h1 h2 h3 h4 h5 h6 _ ih =>
  intro z b;rcases List.mem_cons.1 b with rfl|b
  ·exact⟨_,h1,h2,ρ,x,h3,h6.lo⟩
  exact ih z b
def Bf0(e:E.Ok)(f:Rs E Q ω u o)(g:0<=c)(j:c<(E.T.length:Int)){b:Bh}(l:b.meth=(o.m:Int))(q:b.pos=o.p):E.M.target c b=(Gz E.T c o.p (E.meth o.m).handlers).map Int.toNat:=by
 unfold Ds.target;rw[q,l,X7 f.m];exact Bn3 e.k.ok g j o.p _ (fun h s=>by rcases((e.env (Cr.mem f.m)).hnd h s).2.2.2 with a | a | a | a | a<;>omega)
def Be1(f:E.Ok)(g:Ky E d.ts ω)(D:d.status = -1/\d.value=0)(F:d.made+6=d.ts.length)(h0:0<c)(G:c<(d.ts.length:Int))(j:(Cc d.ts c).set=true)(b:Rs E d.ts ω r.length o)(I:Fe E d.ts ω (E.meth o.m).result r)(l:∀q∈o::r,Bc0 d.ts.length q)(H:Jd E d o r S){B:Int}(J:Gz E.T (Cc d.ts c).cl o.p (E.meth o.m).handlers=some B):He E ⟨⟨o.m,B.toNat,o.lo,[(2,c)]⟩::r,d.ts,d.made,d.read,d.out,d.steps,d.status,d.value⟩ (S.withNow (P4 c B.toNat S.now)):=by
 obtain⟨K,L⟩:=g.Cl _ j;obtain⟨y,s,N,O,rfl⟩:=Bep J;obtain⟨ρ,x,A,Q⟩:=b.lo;have C:=((f.env (Cr.mem b.m)).hnd y s).2.2.2;have V:0<=y.cl:=by rcases C with a|a | a | a | a<;>omega
 have Y:=Nb (f.P (Cr.mem b.m) A);have h:Ez E.T d.ts ω r.length ρ (Hq (E.meth o.m)) (2,c) (3,y.cl) :=
  ⟨fun e=>absurd e Fr,fun e=>absurd e Fr,fun _=>⟨rfl,.inr ⟨j,Tr.fits_ref.2 ((Tr.rbel_iff f.k.ok K L V).1 O)⟩⟩,fun e=>absurd e Fr⟩
 obtain⟨_,_,Z,zf,a4,a5⟩:=Bqp f g.Cl b.m b.p A (Fc.hnd y s N) ⟨Y.1,fun u hu=>by rw[List.mem_singleton.1 hu];exact C⟩ (o:=⟨o.m,y.target.toNat,o.lo,[(2,c)]⟩) rfl rfl ⟨Q,.cons h .nil⟩;refine .on ω _ r ⟨rfl,D,g,F,fun q i=>?_,⟨b.m,Z,⟨ρ,zf,a4,a5⟩,I⟩⟩ ⟨H.read,H.objs,Bpn H.now c _,H.wait,H.en,H.out,H.steps⟩ rfl;rcases List.mem_cons.1 i with rfl|i
 ·exact⟨(l o Fr).1,fun v h=>by rw[List.mem_singleton.1 h];exact .inr (.inr ⟨rfl,Bd,G⟩)⟩
 exact l q (by simp[i])
def Blj(j:E.Ok)(B:Ky E d.ts ω)(F:d.status = -1/\d.value=0)(G:d.made+6=d.ts.length)(I:0<c)(J:c<(d.ts.length:Int))(C:(Cc d.ts c).set=true):∀(r:List Ca) (o:Ca) (S:Bo),Rs E d.ts ω r.length o->Fe E d.ts ω (E.meth o.m).result r->(∀q∈o::r,Bc0 d.ts.length q)->Jd E d o r S->S.now.pos=o.p->He E (Ga E c (Cc d.ts c).cl d (o::r)) (Jx E.M c (Cc d.ts c).cl (r.length+1) S):=by
 obtain⟨K,L⟩:=B.Cl _ C;intro r
 induction r with
 | nil =>
  intro o S g v A H D;have e:=Bf0 j g K L H.now.m D;unfold Ga Jx;rw[e];cases i:Gz E.T (Cc d.ts c).cl o.p (E.meth o.m).handlers with
  | some z=>exact Be1 j B F G I J C g v A H i
  | none =>
   have N:S.wait.reverse=[]:=by
    have:=H.wait.len;exact Bwc this.symm
   rw[List.reverse_eq_nil_iff]at N;simp only[Option.map_none,N,List.getLast?_nil];exact .off rfl (by show (0:Int)<=2;omega) rfl rfl H.out H.steps
 | cons q r ih =>
  intro o S g v A H D;have e:=Bf0 j g K L H.now.m D;unfold Ga Jx;rw[e];cases i:Gz E.T (Cc d.ts c).cl o.p (E.meth o.m).handlers with
  | some z=>exact Be1 j B F G I J C g v A H i
  | none =>
   obtain⟨f,l,Q,O,V⟩:∃f l,S.wait.reverse=f::l/\Vp E q f/\Cj (Vp E) r l:=by
    have:=H.wait;cases h:S.wait.reverse with
    | nil=>rw[h]at this;cases this using Cj.el
    | cons f l=>rw[h]at this;cases this using Cj.el with
     | cons a b=>exact⟨f,l,rfl,a,b⟩
   have Y:S.wait=l.reverse++[f]:=by rw[<- B0x S.wait,Q,Bxj]
   simp only[Option.map_none,Y,B0y,B0b,Option.some_or,B0z];cases v using Fe.el with
   | cons ρ x s h1 h2 h3 h4 h5 h6 h7 =>
    exact ih q _ ⟨h1,h2,ρ,x,h3,h6.lo⟩ h7 (fun z i=>A z (by simp[i])) ⟨H.read,H.objs,O.1,by simpa using V,H.en,H.out,H.steps⟩ O.2.1
end
structure Cz(E:Cr)(d:Cs)(ω:Int->Nat × Int)(o:Ca)(r:List Ca)(S:Bo)(ρ:Int->Int)(x y:Be)(op n:Int):Prop where
 ok:E.Ok
 g:Vq E d ω o r
 s:Jd E d o r S
 pos:S.now.pos=o.p
 nx:S.now.next=Ch E o
 fx:E.F o.m o.p=some x
 ty:Oa E d.ts ω r.length ρ o x
 eo:(E.meth o.m).code.getD o.p 0=op
 en:Cd.atI (E.meth o.m).code ((o.p:Int)+1)=n
 mv:Ik E.T (Cq E.cs) E.ms E.all (Hq (E.meth o.m)) (E.meth o.m).result (o.p:Int) op n x=some y
 hi:(y.stack.length:Int)<=(E.meth o.m).stack
def Bti (E:Cr)(d:Cs)(o:Ca)(r:List Ca)(op n:Int)(d':Cs):Prop:=∃s a,o.st=s++a/\Hw E.T d.ts a (Cu (Cq E.cs) E.ms (E.meth o.m).result op n)=true /\
 ((∃t:Nat,0<t/\t<d.ts.length/\Dn E d op n a=(t:Int)/\d'=Ga E (t:Int) (Cc d.ts t).cl d (⟨o.m,o.p,o.lo,s⟩::r)) \/
  (Dn E d op n a=0/\Bp E (d.top ⟨o.m,o.p,o.lo,s⟩ r) ⟨o.m,o.p,o.lo,s⟩ r op n a d'))
def Gi (E:Cr)(d:Cs)(o:Ca)(r:List Ca)(op n:Int)(S':Bo):Prop:=∃d',Bti E d o r op n d'/\He E d' S'
section
variable {E:Cr}{d:Cs}{ω:Int→Nat × Int}{o:Ca}{r:List Ca}{S:Bo}{ρ:Int→Int}{x y:Be}{op n:Int}
def Cz.mem(h:Cz E d ω o r S ρ x y op n):E.meth o.m∈E.ms:=Cr.mem h.g.top.m
def Cz.good(h:Cz E d ω o r S ρ x y op n):Ra E.T (Cd.fieldSum E.cs:Int) E.ms (E.meth o.m):=h.ok.k.mt _ h.mem
def Cz.P(h:Cz E d ω o r S ρ x y op n):J1 E.T (E.meth o.m) x:=h.ok.P h.mem h.fx
def Cz.num(h:Cz E d ω o r S ρ x y op n):Yg E.T (Cd.fieldSum E.cs:Int) E.ms (E.meth o.m) op n:=by
 have:=X2 h.good h.g.top.p;rw[h.eo,h.en]at this;exact this
def Cz.rl(h:Cz E d ω o r S ρ x y op n):Fn E.cs E.ms (E.meth o.m) o.p x=some y:=by
 unfold Fn Gt;rw[h.eo,h.en];have e:Ik (Tr.tree E.cs) (Cq E.cs) E.ms (fun c=>Rf.all (Tr.tree E.cs) (Rf.given++E.cs) c.toNat) (fun q=>Cd.atI (E.meth o.m).code (q+1)) (E.meth o.m).result (o.p:Int) op n x=some y:=h.mv;rw[e,Bx1,Sp h.hi]
def Cz.st8(h:Cz E d ω o r S ρ x y op n):(E.meth o.m).stack<=8:=h.good.rd.st.2
def Cz.lol(h:Cz E d ω o r S ρ x y op n):(o.lo.length:Int)=(E.meth o.m).locals:=by
 have:=h.ty.lo.len;have:=h.P.lo;have:=h.good.rd.lo.1;omega
def Cz.wl(h:Cz E d ω o r S ρ x y op n):∀v∈o.lo,It d.ts.length v:=(h.g.ws o Fr).1
def Cz.ws(h:Cz E d ω o r S ρ x y op n):∀v∈o.st,It d.ts.length v:=(h.g.ws o Fr).2
def Cz.on(h:Cz E d ω o r S ρ x y op n){d':Cs}{f:Int->Nat×Int}{A:Int->Int}{q c:TP}{i:Bo}(j:Dz op=true/\u=Ch E o\/Dx op=true/\0<=n/\u=n.toNat)(e:L9 d.ts d'.ts ω f (fun z=>z.1=r.length))(B:Ky E d'.ts f)(D:d'.os=⟨o.m,u,q,c⟩::r)(F:d'.status = -1/\d'.value=0)(G:d'.made+6=d'.ts.length) (ty:Oa E d'.ts f r.length A ⟨o.m,u,q,c⟩ y)(I:Bc0 d'.ts.length ⟨o.m,u,q,c⟩)(s:Jd E d' ⟨o.m,u,q,c⟩ r i)(nx:i.now.next=u):He E d' i:=by
 have J:=Un h.ok.k h.mem h.g.top.p h.P h.rl;obtain⟨b,K⟩:∃b,Fc (Ep E.cs E.ms (E.meth o.m)) o.p x (u:Int) y b:=by
  have C:(Ep E.cs E.ms (E.meth o.m)).op o.p=op:=h.eo;rcases j with ⟨a,rfl⟩|⟨a,b,rfl⟩
  ·have e:((Ch E o:Nat):Int)=(Ep E.cs E.ms (E.meth o.m)).nx o.p:=by unfold Ch Df.nx;push_cast;rfl
   rw[e];exact⟨_,.nxt y h.rl (by rw[C];exact a)⟩
  have e:((n.toNat:Nat):Int)=(Ep E.cs E.ms (E.meth o.m)).ar o.p:=by rw[Bwo b];exact h.en.symm
  rw[e];exact⟨_,.jmp y h.rl (by rw[C];exact a)⟩
 obtain⟨_,_,L,z,N,O⟩:=Bqp h.ok B.Cl h.g.top.m h.g.top.p h.fx K (Nb J) (o:=⟨o.m,u,q,c⟩) rfl rfl ty;refine .on f _ r ⟨D,F,B,G,fun z l=>?_,⟨h.g.top.m,L,⟨A,z,N,O⟩,h.g.top.w.ext e (Wf _) (fun u j=>h.g.ws u (by simp[j]))⟩⟩ s nx;rcases List.mem_cons.1 l with rfl|l
 ·exact I
 have:=h.g.ws z (by simp[l]);exact⟨fun v t=>(this.1 v t).mono e.len,fun v t=>(this.2 v t).mono e.len⟩
def Cz.same(h:Cz E d ω o r S ρ x y op n){q b:TP}{c:Bh}(f:Dz op=true/\u=Ch E o\/Dx op=true/\0<=n/\u=n.toNat)(tl:Cj (Ez E.T d.ts ω r.length ρ (Hq (E.meth o.m))) q y.locals)(i:Cj (Ez E.T d.ts ω r.length ρ (Hq (E.meth o.m))) b y.stack)(j:∀v∈q,v∈o.lo\/v∈o.st)(l:∀v∈b,v∈o.lo\/v∈o.st\/It d.ts.length v)(t:Gb ⟨o.m,o.p,q,b⟩ c)(nx:c.next=u):He E (d.top ⟨o.m,u,q,b⟩ r) (S.withNow c) :=
 h.on f (.refl _ _ _) h.g.hp rfl h.g.st h.g.md ⟨tl,i⟩ ⟨fun v e=>(j v e).elim (h.wl v) (h.ws v),fun v e=>(l v e).elim (h.wl v) (fun k=>k.elim (h.ws v) id)⟩ ⟨h.s.read,h.s.objs,t.at u,h.s.wait,h.s.en,h.s.out,h.s.steps⟩ nx
def Cz.throws(h:Cz E d ω o r S ρ x y op n){q:TP}{f:Bo}(i:Jd E d ⟨o.m,o.p,o.lo,q⟩ r f)(A:f.now.pos=o.p)(B:∀v∈q,v∈o.st)(l:0<c)(z:c<(d.ts.length:Int))(C:(Cc d.ts c).set=true):He E (Ga E c (Cc d.ts c).cl d (⟨o.m,o.p,o.lo,q⟩::r)) (M8 E.M c f):=by
 have e:f.wait.length=r.length:=by simpa using i.wait.len.symm
 unfold M8;rw[i.objs,Blf l z,e];refine Blj h.ok h.g.hp h.g.st h.g.md l z C r _ f ⟨h.g.top.m,h.g.top.p,ρ,x,h.fx,h.ty.lo⟩ h.g.top.w (fun b j=>?_) i A;rcases List.mem_cons.1 j with rfl|j
 ·exact⟨h.wl,fun v D=>h.ws v (B v D)⟩
 exact h.g.ws b (by simp[j])
def Cz.given(h:Cz E d ω o r S ρ x y op n)(b:1<=k)(c:k<=5):k<d.ts.length/\(Cc d.ts (k:Int)).set=true:=by
 have:=h.g.hp.six;refine⟨Bd,?_⟩;unfold Cc;rw[Bvn,Th,h.g.hp.gv k b c];rfl
def Cz.fault(h:Cz E d ω o r S ρ x y op n){s a:TP}{b:Bo}(c:o.st=s++a)(f:Hw E.T d.ts a (Cu (Cq E.cs) E.ms (E.meth o.m).result op n)=true)(g:Jd E d ⟨o.m,o.p,o.lo,s⟩ r b)(i:b.now.pos=o.p)(e:1<=k)(j:k<=5)(l:Dn E d op n a=(k:Int)):Gi E d o r op n (M8 E.M (k:Int) b):=by
 obtain⟨q,g2⟩:=h.given e j;exact⟨_,⟨s,a,c,f,.inl ⟨k,e,q,l,rfl⟩⟩,h.throws g i (fun v t=>by rw[c];simp[t]) Bd Bd g2⟩
def Bgf(h:Tr.plainB z C.1 C.2=true):C.1=1\/C.1=3/\0<=C.2:=by
 rcases(Ht h).1 with a | a | a | a | a
 ·unfold Tr.plainB at h;rw[a.1]at h;simp at h
 ·exact .inl a.1
 ·unfold Tr.plainB at h;rw[a.1]at h;simp at h
 ·exact .inr ⟨a.1,a.2.1⟩
 exact absurd a.1 (Ht h).2
def lst{α β:Type}{R:α->β->Prop}{e:List α}{c:List β}(h:Cj R e c)(i:¬c.length<1)(b:β):∃s v,e=s++[v]/\Cj R s (c.take (c.length-1))/\R v (c.getD (c.length-1) b):=by
 rw[Az c b Bd]at h;obtain⟨s,a,rfl,f,g⟩:=h.split;cases g using Cj.el with
 | cons x k=>cases k using Cj.el with
  | nil=>exact⟨s,_,rfl,f,x⟩
def Cz.low(h:Cz E d ω o r S ρ x y op n)(e:o.st.length+k<=y.stack.length):((o.st.length+k:Nat):Int)<=(E.meth o.m).stack:=by
 have:=h.hi;omega
def Bri(h:Cz E d ω o r S ρ x y 2 n):Gi E d o r 2 n (Ci E.M 2 n S):=by
 obtain⟨f,l⟩:=h.num.loc (.inl rfl);have p:=h.lol;have b:=h.ty.lo.get n.toNat Bd (0,0) (0,0);have c:=h.mv;unfold Ik at c;rw[Sp rfl]at c;by_cases g:(x.locals.getD n.toNat (0,0)).1=0;·rw[Sp g]at c;cases c
 rw[Pf g]at c;obtain rfl:=Option.some.inj c;have q:=h.ty.st.len;have t:=h.low (k:=1) Fm;have z:=h.st8;have i:o.lo.getD n.toNat (0,0)∈o.lo:=Hu Bd;have j:=(h.P.tl _ (Hu (d:=(0,0)) (show n.toNat<x.locals.length by have:=h.ty.lo.len;omega))).1;refine⟨_,⟨o.st,[],Fr,rfl,.inr ⟨rfl,.load rfl f (by show n<(o.lo.length:Int);omega) ?_ (by show (o.st.length:Int)<(E.meth o.m).stack;omega)⟩⟩,?_⟩
 ·rcases j with a|a | a | a | a
  ·exact absurd a.1 g
  ·rw[b.int a.1];omega
  ·rw[b.null a.1];simp
  ·rw[(b.ref a.1).1];omega
  rw[(b.raw a.1).1];simp
 have e:Ci E.M 2 n S=S.withNow (En (o.lo.getD n.toNat (0,0)).2 S.now):=by
  rw[<- Br5 h.s.now f Bd];rfl
 rw[e];exact h.same (.inl ⟨rfl,rfl⟩) h.ty.lo (h.ty.st.app (.cons b .nil)) (fun v b=>.inl b) (fun v b=>by
  rcases List.mem_append.1 b with k|k
  ·exact .inr (.inl k)
  rw[List.mem_singleton.1 k];exact .inl i) (Ox h.s.now _ Bd) (by rw[Gk];exact h.nx)
def Box(h:Cz E d ω o r S ρ x y 3 n):Gi E d o r 3 n (Ci E.M 3 n S):=by
 obtain⟨f,A⟩:=h.num.loc (.inr rfl);have B:=h.lol;have b:=h.mv;unfold Ik at b;rw[Pf Bd,Sp rfl]at b;by_cases g:x.stack.length<1;·rw[Sp g]at b;cases b
 rw[Pf g]at b;obtain rfl:=Option.some.inj b;obtain⟨s,v,e,i,j⟩:=lst h.ty.st g (0,0);obtain⟨l,m,C,p⟩:=Pt h.s.now e;obtain⟨q,D,t⟩:=Bkb m f (show n<(o.lo.length:Int) by omega) v;refine⟨_,⟨o.st,[],Fr,rfl,.inr ⟨rfl,.store s v rfl f (by show n<(o.lo.length:Int);omega) e⟩⟩,?_⟩;have z:Ci E.M 3 n S=S.withNow (Ff n v.2 (Bw S.now).2):=by rw[<- l];rfl
 rw[z];exact h.same (.inl ⟨rfl,rfl⟩) (h.ty.lo.set n.toNat j) i (fun u c=>by
  rcases Yu c with k|k
  ·exact .inl k
  exact .inr (by rw[e,k];simp)) (fun u c=>.inr (.inl (by rw[e];simp[c]))) q (by rw[t,p];exact h.nx)
def Btd(h:Cz E d ω o r S ρ x y 4 n)(f:Int):Gi E d o r 4 n (Ci E.M 4 f S):=by
 have b:=h.mv;unfold Ik at b;rw[Pf Bd,Pf Bd,Sp rfl]at b;by_cases g:x.stack.length<1;·rw[Sp g]at b;cases b
 rw[Pf g]at b;obtain rfl:=Option.some.inj b;obtain⟨s,v,e,i,m⟩:=lst h.ty.st g (0,0);obtain⟨p,j,q,l⟩:=Pt h.s.now e;exact⟨_,⟨o.st,[],Fr,rfl,.inr ⟨rfl,.pop s v rfl e⟩⟩,h.same (.inl ⟨rfl,rfl⟩) h.ty.lo i (fun u c=>.inl c) (fun u c=>.inr (.inl (by rw[e];simp[c]))) j (l.trans h.nx)⟩
def Bth(h:Cz E d ω o r S ρ x y 5 n)(f:Int):Gi E d o r 5 n (Ci E.M 5 f S):=by
 have b:=h.mv;unfold Ik at b;rw[Pf Bd,Pf Bd,Pf Bd,Sp rfl]at b;by_cases g:x.stack.length<1;·rw[Sp g]at b;cases b
 rw[Pf g]at b;obtain⟨s,v,e,p,i⟩:=lst h.ty.st g (0,0);have q:x.stack++x.stack.drop (x.stack.length-1)=x.stack.take (x.stack.length-1)++[x.stack.getD (x.stack.length-1) (0,0),x.stack.getD (x.stack.length-1) (0,0)]:=by
  have j:=Az x.stack (0,0) Bd;have t:x.stack.drop (x.stack.length-1)=[x.stack.getD (x.stack.length-1) (0,0)]:=by
   conv=>lhs;rw[j]
   rw[Bxz Fr,Bvi Fr,Bx4]
  rw[t]
  conv=>lhs;rw[j]
  simp
 rw[q]at b;obtain rfl:=Option.some.inj b;have I:=h.ty.st.len;have J:o.st.length=s.length+1:=by rw[e];simp
 have z:((s.length+2:Nat):Int)<=(E.meth o.m).stack:=by
  have:=h.hi;simp only[Up,Bxf,Bvo,Bwn]at this;omega
 have K:=h.st8;obtain⟨A,B,L,C⟩:=Pt h.s.now e;have D:=Ox B v (by show s.length<8;omega);have l:=Ox D v (by show (s++[v]).length<8;simp;omega);refine⟨_,⟨o.st,[],Fr,rfl,.inr ⟨rfl,.dup s v rfl e z⟩⟩,?_⟩;have F:Ci E.M 5 f S=S.withNow (En v.2 (En v.2 (Bw S.now).2)):=by rw[<- A];rfl
 rw[F];have G:s++[v]++[v]=s++[v,v]:=Fr;simp only[G]at l;exact h.same (.inl ⟨rfl,rfl⟩) h.ty.lo (p.app (.cons i (.cons i .nil))) (fun u c=>.inl c) (fun u c=>.inr (.inl (by rw[e];simp at c ⊢;omega))) l (by rw[Gk,Gk,C];exact h.nx)
def Brd(h:Cz E d ω o r S ρ x y 6 n)(j:Int):Gi E d o r 6 n (Ci E.M 6 j S):=by
 have b:=h.mv;unfold Ik at b;rw[Pf Bd,Pf Bd,Pf Bd,Pf Bd,Sp rfl]at b;by_cases g:x.stack.length<2;·rw[Sp g]at b;cases b
 rw[Pf g]at b;obtain rfl:=Option.some.inj b;obtain⟨V,v,e,q,t⟩:=lst h.ty.st Bd (0,0);have A:(x.stack.take (x.stack.length-1)).length=x.stack.length-1:=Fr;obtain⟨s,u,B,c,f⟩:=lst q Bd (0,0);rw[A,show x.stack.length-1-1=x.stack.length-2 by omega]at c f;rw[Bxu,Bx5 Bd]at c;rw[Th,Bww,Sp Bd,<- Th]at f;subst B;have i:o.st=s++[u,v]:=by rw[e];simp
 have Y:=h.ty.st.len;have Z:o.st.length=s.length+2:=by rw[i];simp
 have C:((s.length+2:Nat):Int)<=(E.meth o.m).stack:=by
  have:=h.hi;simp only[Up,Bxf,Bvo,Bwn]at this;omega
 have h8:=h.st8;obtain⟨D,F,p3,G⟩:=Pt h.s.now e;obtain⟨I,J,t3,K⟩:=Pt F rfl;have L:=Ox J v (by show s.length<8;omega);have l:=Ox L u (by show (s++[v]).length<8;simp;omega);refine⟨_,⟨o.st,[],Fr,rfl,.inr ⟨rfl,.swap s u v rfl i C⟩⟩,?_⟩;have N:Ci E.M 6 j S=S.withNow (En u.2 (En v.2 (Bw (Bw S.now).2).2)):=by rw[<- D,<- I];rfl
 rw[N];have O:s++[v]++[u]=s++[v,u]:=Fr;simp only[O]at l;exact h.same (.inl ⟨rfl,rfl⟩) h.ty.lo (c.app (.cons t (.cons f .nil))) (fun u Q=>.inl Q) (fun z p=>.inr (.inl (by rw[i];simp at p ⊢;rcases p with k|k | k<;>simp[k]))) l (by rw[Gk,Gk,K,G];exact h.nx)
end
def Bfz{t:Do}{k:Int}(b:0<=k)(c:k<(Q.length:Int)):Cc (Q++[t]) k=Cc Q k:=by
 unfold Cc;rw[Th,Bvy Bd,<- Th]
def Bmi(b:List Do)(t:Do):Cc (b++[t]) (b.length:Int)=t:=by
 unfold Cc;rw[Bvn,Th,Bvt (Wf _),Byx];rfl
def Xp{t:Do}(b:k<Q.length)(e:0<=c):Cc (Q.set k t) c=if c=(k:Int) then t else Cc Q c:=by
 unfold Cc;rw[Th,Bxi];by_cases g:c=(k:Int);·rw[Sp g,Sp Bd,Sp b];rfl
 rw[Pf g,Pf Bd,<- Th]
def Bj5(b:k<Q.length):Q[k]?=some (Cc Q (k:Int)):=by
 unfold Cc;rw[Bvn,Th,Ws b];rfl
def L9.weak{g:List Do}{ω i:Int->Nat×Int}{P f:Nat×Int->Prop}(e:L9 Q g ω i P)(h:∀z,P z->f z):L9 Q g ω i f:=⟨e.len,e.set,fun k a b c j=>e.raw k a b c (fun l=>j (h _ l))⟩
section
variable {E:Cr}{d:Cs}{ω:Int→Nat × Int}{o:Ca}{r:List Ca}{S:Bo}{ρ:Int→Int}{x y:Be}{n:Int}
def Cr.Ok.plain(b:E.Ok)(c:Int):∀t∈E.all c,Tr.plainB E.T t.1 t.2=true:=W9 b.k.fl (c.toNat:Int) (c.toNat+1)
def Ba8(i:E.Ok){b:List Do}{f:Int->Nat×Int}{P:Nat×Int->Prop}(e:L9 Q b ω f P){q:TP}(h:Cj (Ez E.T Q ω 0 id id) q (E.all c))(j:∀v∈q,It Q.length v):Cj (Ez E.T b f 0 id id) q (E.all c) :=
 h.mono (fun v l t m k=>k.ext e (j v l) (fun g=>absurd g (Ht (i.plain c t m)).2))
def Ky.new(m:E.Ok)(h:Ky E Q ω){l:Int->Nat×Int}{P:Nat×Int->Prop}(p:0<=n/\n<(E.T.length:Int))(e:L9 Q (Q++[⟨n,false,[]⟩]) ω l P):Ky E (Q++[⟨n,false,[]⟩]) l:=by
 have A:=h.six;have f:∀{k:Nat},k<(Q++[(⟨n,false,[]⟩:Do)]).length->k<Q.length/\Cc (Q++[⟨n,false,[]⟩]) (k:Int)=Cc Q k\/Cc (Q++[⟨n,false,[]⟩]) (k:Int)=⟨n,false,[]⟩:=fun {k} f=>by
  by_cases g:k<Q.length;·exact .inl ⟨g,Bfz Bd Bd⟩
  have:k=Q.length:=by simp at f;omega
  subst this;exact .inr (Bmi _ _)
 refine⟨Fm,fun k q s=>?_,?_,fun k t c=>?_,fun k c i=>?_,fun k c i=>?_,fun k c v j=>?_⟩
 ·rw[Bvy Bd];exact h.gv k q s
 ·rw[Bvy Bd];exact h.z
 ·rcases f c with ⟨a,b⟩|b<;>rw[b]
  ·exact h.cl k t a
  exact p
 ·rcases f c with ⟨a,b⟩|b<;>rw[b]at i ⊢
  ·exact Ba8 m e (h.vs k a i) (h.wv k a)
  cases i
 ·rcases f c with ⟨a,b⟩|b<;>rw[b]at i ⊢
  exact h.un k a i
 rcases f c with ⟨a,b⟩|b<;>rw[b]at j
 ·exact(h.wv k a v j).mono e.len
 cases j
def Ky.set(m:E.Ok)(h:Ky E Q ω){P:Nat×Int->Prop}{t:Do}(F:6<=k)(q:k<Q.length)(s:t.set=true)(A:0<=t.cl/\t.cl<(E.T.length:Int))(e:L9 Q (Q.set k t) ω ω P)(i:Cj (Ez E.T Q ω 0 id id) t.vals (E.all t.cl))(p:∀v∈t.vals,It Q.length v):Ky E (Q.set k t) ω:=by
 have l:∀j:Nat,j≠k/\Cc (Q.set k t) (j:Int)=Cc Q j\/Cc (Q.set k t) (j:Int)=t:=fun j=>by
  rw[Xp q Bd];by_cases g:j=k;·exact .inr (Sp Bd)
  exact .inl ⟨g,Pf Bd⟩
 refine⟨by rw[Bv7];exact h.six,fun j B C=>?_,?_,fun j D c=>?_,fun j c f=>?_,fun j c f=>?_,fun j c v i=>?_⟩
 ·rw[Bxw Bd];exact h.gv j B C
 ·rw[Bxw Bd];exact h.z
 all_goals rw[Bv7]at c
 ·rcases l j with ⟨_,b⟩|b<;>rw[b]
  ·exact h.cl j D c
  exact A
 ·rcases l j with ⟨_,b⟩|b<;>rw[b]at f ⊢
  ·exact Ba8 m e (h.vs j c f) (h.wv j c)
  exact Ba8 m e i p
 ·rcases l j with ⟨_,b⟩|b<;>rw[b]at f ⊢
  ·exact h.un j c f
  rw[s]at f;cases f
 rw[Bv7];rcases l j with ⟨_,b⟩|b<;>rw[b]at i
 ·exact h.wv j c v i
 exact p v i
def Btf(h:Cz E d ω o r S ρ x y 15 n):Gi E d o r 15 n (Ci E.M 15 n S):=by
 have G:=h.num.cls (.inl rfl);have O:=h.g.md;have Q:S.objs.length+1=d.ts.length:=by
  rw[h.s.objs];have:=h.g.hp.six;simp;omega
 have I:Ci E.M 15 n S=Ny E.M n S:=rfl;rw[I];unfold Ny;by_cases g:E.heap<=(d.made:Int);·rw[Sp (show E.M.room<=(S.objs.length:Int)-5 by show E.heap<=_;omega)];exact h.fault (s:=o.st) (a:=[]) (k:=4) Fr rfl h.s h.pos Bd Bd (by unfold Dn;simp[g])
 rw[Pf (show ¬E.M.room<=(S.objs.length:Int)-5 by show ¬E.heap<=_;omega),show (S.objs.length:Int)+1=(d.ts.length:Int) by omega];have j:=h.mv;unfold Ik at j;rw[Pf Bd,Pf Bd,Pf Bd,Pf Bd,Pf Bd,Sp rfl]at j;obtain rfl:=Option.some.inj j;have f:=h.ty.st.len;have V:=h.low (k:=1) (by simp[Er];omega);have Y:=h.st8;refine⟨_,⟨o.st,[],Fr,rfl,.inr ⟨by unfold Dn;simp[g],.new rfl (by show (o.st.length:Int)<(E.meth o.m).stack;omega)⟩⟩,?_⟩;have c:L9 d.ts (d.ts++[⟨n,false,[]⟩]) ω (fun k=>if k=(d.ts.length:Int) then (r.length,(o.p:Int)) else ω k) (fun _=>False) :=
  ⟨Fr,fun k z A f=>by rw[Bfz z A];exact⟨f,rfl⟩,fun k z A f _=>by rw[Bfz z A];exact⟨f,rfl,Pf Bd⟩⟩
 have D:∀{B l:TP},Cj (Ez E.T d.ts ω r.length ρ (Hq (E.meth o.m))) B l->(∀v∈B,It d.ts.length v)->Cj (Ez E.T (d.ts++[⟨n,false,[]⟩]) (fun k=>if k=(d.ts.length:Int) then (r.length,(o.p:Int)) else ω k) r.length (fun q=>if q=(o.p:Int) then (d.ts.length:Int) else ρ q) (Hq (E.meth o.m))) B (Er (4,(o.p:Int)) (0,0) l):=fun b J=>b.map (fun v K t _ k=>by
  by_cases C:t=(4,(o.p:Int));·rw[Sp C];exact .top rfl
  rw[Pf C];have i:=k.ext c (J v K) (fun _=>id);refine⟨i.int,i.null,i.ref,fun g4=>?_⟩;have L:t.2≠(o.p:Int):=fun e=>C (Bxd g4 e);rw[Pf L];exact i.raw g4)
 have b:Ez E.T (d.ts++[⟨n,false,[]⟩]) (fun k=>if k=(d.ts.length:Int) then (r.length,(o.p:Int)) else ω k) r.length (fun q=>if q=(o.p:Int) then (d.ts.length:Int) else ρ q) (Hq (E.meth o.m)) (2,(d.ts.length:Int)) (4,(o.p:Int)):=by
  refine⟨fun e=>absurd e Fr,fun e=>absurd e Fr,fun e=>absurd e Fr,fun _=>?_⟩;dsimp only;rw[Sp rfl,Bmi,Sp rfl];exact⟨rfl,by have:=h.g.hp.six;omega,Fm,rfl,h.en.symm,rfl⟩
 refine h.on (.inl ⟨rfl,rfl⟩) (c.weak (fun _ k=>k.elim)) (h.g.hp.new h.ok G c) rfl h.g.st (by show d.made+1+6=(d.ts++[_]).length;rw[Up];show _=d.ts.length+1;omega) ⟨D h.ty.lo h.wl,(D h.ty.st h.ws).app (.cons b .nil)⟩ ⟨fun v b=>(h.wl v b).mono c.len,fun v b=>?_⟩ ⟨h.s.read,?_,?_,h.s.wait,h.s.en,h.s.out,h.s.steps⟩ ?_
 ·rcases List.mem_append.1 b with k|k
  ·exact(h.ws v k).mono c.len
  rw[List.mem_singleton.1 k];exact .inr (.inr ⟨rfl,Fr,Fm⟩)
 ·show S.objs++[(n,[])]=_;rw[h.s.objs,List.tail_append_of_ne_nil (fun e=>by have F:=h.g.hp.six;have N:d.ts=[]:=e;rw[N]at F;simp at F),Bvx];rfl
 ·exact(Ox h.s.now (2,(d.ts.length:Int)) Bd).at _
 show (En _ S.now).next=_
 rw[Gk];exact h.nx
def Bf1{t:Do}(h:0<k):(Q.set k t).tail.map Ng=(Q.tail.map Ng).set (k-1) (Ng t):=by
 cases Q with
 | nil=>rfl
 | cons a l =>
  obtain⟨j,rfl⟩:∃j,k=j+1:=⟨k-1,Bd⟩;simp
def Brk(h:Cz E d ω o r S ρ x y 16 n):Gi E d o r 16 n (Ci E.M 16 n S):=by
 have A:=h.num.cls (.inr (.inl rfl));have b:=h.mv;unfold Ik at b;rw[Pf Bd,Pf Bd,Pf Bd,Pf Bd,Pf Bd,Pf Bd,Sp rfl]at b;unfold Yh at b;by_cases J:Ig E.T x.stack (E.all n)=false;·rw[Sp J]at b;cases b
 rw[Pf J]at b;by_cases g2:x.stack.length<(E.all n).length+1;·rw[Sp g2]at b;cases b
 rw[Pf g2]at b;have K:=h.ok.plain n;obtain⟨s1,i,e1,t1,L⟩:=Btu h.ok h.g.hp.Cl h.ty.st (Nb h.P).2 (fun t p=>(Ht (K t p)).1) (by simpa using J);have N:(x.stack.take (x.stack.length-(E.all n).length)).length=x.stack.length-(E.all n).length:=Fr;obtain⟨s,v,rfl,O,Q⟩:=lst t1 Bd (0,0);rw[N]at O Q;rw[Bxu,Bx5 Bd]at O;rw[Th,Bww,Sp Bd,<- Th]at Q;generalize x.stack.getD (x.stack.length-(E.all n).length-1) (0,0)=t at *;by_cases g3:t.1≠4;·rw[Sp g3]at b;cases b
 rw[Pf g3]at b;by_cases g4:Hq (E.meth o.m) t.2≠n;·rw[Sp g4]at b;cases b
 rw[Pf g4]at b;obtain rfl:=Option.some.inj b;have V:t.1=4:=by simpa using g3
 have a1:Hq (E.meth o.m) t.2=n:=by simpa using g4
 obtain⟨b1,b2,b3,B,Y,b6⟩:=Q.raw V;obtain⟨k,hk⟩:∃k:Nat,ρ t.2=(k:Int):=⟨(ρ t.2).toNat,Bd⟩;rw[hk]at b1 b2 b3 B Y b6;have C:k<d.ts.length:=Bd;have h6:6<=k:=by
  by_cases g:k<=5;·rw[(h.given (k:=k) Bd g).2]at B;cases B
  omega
 have a4:d.ts[k]?=some ⟨n,false,(Cc d.ts (k:Int)).vals⟩:=by
  rw[Bj5 C,<- a1,<- Y,<- B]
 have G:o.st=s++(2,(k:Int))::i:=by rw[e1,b1];simp
 have p:∀{v u:Int×Int},Ez E.T d.ts ω r.length ρ (Hq (E.meth o.m)) v u->u=t->v=(2,(k:Int)):=fun f e=>by
  have:=(f.raw (by rw[e];exact V)).1;rw[e,hk]at this;exact this
 have a5:=Bov h.ok.k.ok h.g.hp.Cl L (fun t p=>Bgf (K t p));have D:L9 d.ts (d.ts.set k ⟨n,true,i⟩) ω ω (fun z=>z=(r.length,t.2)) :=
  ⟨Fr,fun j Z N F=>by
   rw[Xp C Z];have:j≠(k:Int):=fun e=>by rw[e,B]at F;cases F
   rw[Pf this];exact⟨F,rfl⟩,fun j Z N F hn=>by
   rw[Xp C Z];have:j≠(k:Int):=fun e=>hn (by rw[e];exact b6);rw[Pf this];exact⟨F,rfl,rfl⟩⟩
 have tw:∀{a0 l:TP},Cj (Ez E.T d.ts ω r.length ρ (Hq (E.meth o.m))) a0 l->(∀v∈a0,It d.ts.length v)->Cj (Ez E.T (d.ts.set k ⟨n,true,i⟩) ω r.length ρ (Hq (E.meth o.m))) a0 (Er t (3,n) l):=fun f hw=>f.map (fun v a6 u _ q=>by
  by_cases I:u=t;·rw[Sp I,p q I];refine⟨fun e=>absurd e Fr,fun e=>absurd e Fr,fun _=>⟨rfl,.inr ?_⟩,fun e=>absurd e Fr⟩;rw[Xp C Fr,Sp rfl];exact⟨rfl,Tr.fits_refl _ _ _⟩
  rw[Pf I];exact q.ext D (hw v a6) (fun g4 e=>I (Bxd (g4.trans V.symm) (Prod.mk.inj e).2)))
 have a2:∀v∈s,v∈o.st:=fun v f=>by rw[G];simp[f]
 have a3:∀v∈i,It d.ts.length v:=fun v f=>h.ws v (by rw[G];simp[f]);refine⟨_,⟨o.st,[],Fr,rfl,.inr ⟨rfl,.init s i k _ rfl A.1 Bd G a5 a3 Bd a4⟩⟩,?_⟩;have ef:Dq E.M.T E.M.FL n=E.all n:=by
  have:=Xm h.ok.k.ok (Rf.given++E.cs) (Yx E.cs) (c:=n.toNat) (show n.toNat<(Tr.tree E.cs).length by have h2:n<((Tr.tree E.cs).length:Int):=A.2;have:=A.1;omega);rw[Bwo A.1]at this;exact this
 obtain⟨p1,p2,p3,p4⟩:=Yn (E.all n).length h.s.now (s:=s++[(2,(k:Int))]) (a:=i) (by rw[G];simp) L.len;obtain⟨q1,q2,q3,q4⟩:=Pt p2 rfl;have e2:Ci E.M 16 n S=(S.withNow (Bw (D6 (E.all n).length S.now).2).2).withObjs ((d.ts.set k ⟨n,true,i⟩).tail.map Ng):=by
  show Nk E.M n S=_;unfold Nk;rw[ef];show (S.withNow _).withObjs (Tq (Bw (D6 (E.all n).length S.now).2).1 (D6 (E.all n).length S.now).1 S.objs)=_;obtain⟨z1,z2⟩:=Bfq (ts:=d.ts) (k:=(k:Int)) Bd Bd;rw[q1,p1,h.s.objs,Bf1 Bd];unfold Tq;show (S.withNow _).withObjs (if Nl (k:Int) _=true then _ else _)=_
  rw[Sp z1,z2,show ((k:Int)-1).toNat=k-1 by omega];have:(Ng (Cc d.ts (k:Int))).1=n:=by rw[<- a1,<- Y];rfl
  rw[this];rfl
 rw[e2];refine h.on (.inl ⟨rfl,rfl⟩) (D.weak (fun z e=>by rw[e])) (h.g.hp.set h.ok h6 C rfl A D (L.plain (fun t p=>(Ht (K t p)).2)) a3) rfl h.g.st (by show d.made+6=(d.ts.set k _).length;rw[Bv7];exact h.g.md) ⟨tw h.ty.lo h.wl,?_⟩ ⟨fun v f=>(h.wl v f).mono D.len,fun v f=>(h.ws v (a2 v f)).mono D.len⟩ ⟨h.s.read,rfl,q2.at _,h.s.wait,h.s.en,h.s.out,h.s.steps⟩ (by show (Bw _).2.next=_;rw[q4,p4];exact h.nx)
 exact tw O (fun v f=>h.ws v (a2 v f))
end
def Bp5(v:Int):Jv v=Gn v:=by
 unfold Jv Gn;by_cases g:0<=v
 ·rw[Bzx g]
  split<;>omega
 have e:v.tmod 4294967296 = -((-v)%4294967296):=by
  rw[<- Bzx Bd,Int.neg_tmod,Int.neg_neg]
 rw[e]
 split<;>omega
def Bl0(h:-2147483648<=c/\c<=2147483647):Gn c=c:=by unfold Gn;omega
def Bbu(v:Int):-2147483648<=Gn v/\Gn v<=2147483647:=by unfold Gn;omega
def Bty{op a b:Int}(j:7<=op/\op<=10)(h:-2147483648<=a/\a<=2147483647)(i:-2147483648<=b/\b<=2147483647)(g:op=10->b≠0):Iu op a b=some (Jl op a b)/\-2147483648<=Jl op a b/\Jl op a b<=2147483647:=by
 unfold Iu Jl;rw[Bl0 h,Bl0 i];simp only[Bp5];by_cases c:op=7;·rw[Sp c,Sp c];exact⟨rfl,Bbu _⟩
 rw[Pf c,Pf c];by_cases e:op=8;·rw[Sp e,Sp e];exact⟨rfl,Bbu _⟩
 rw[Pf e,Pf e];by_cases f:op=9;·rw[Sp f,Sp f];exact⟨rfl,Bbu _⟩
 rw[Pf f,Pf f,Pf (g Bd),Pf (g Bd)];exact⟨rfl,Bbu _⟩
def Bus(e:∀x∈z,0<=x)(f:∀x∈z,x<=255)(i:Int):-1<=Cd.atI z i/\Cd.atI z i<=255:=by
 unfold Cd.atI
 split
 ·omega
 split
 ·omega
 have b:z.getD i.toNat 0∈z:=Hu Bd;have:=e _ b;have:=f _ b;omega
def It.num{n:Nat}(h:It n C)(b:C.1=1):-2147483648<=C.2/\C.2<=2147483647:=by
 rcases h with h|h|h
 ·rw[h]at b;simp at b
 ·exact h.2
 omega
def It.ref{n:Nat}(h:It n C)(b:C.1=2):0<=C.2/\C.2<(n:Int):=by
 rcases h with h|h|h
 ·rw[h]at b;simp at b
 ·omega
 exact h.2
def Cj.put{α β:Type}{R:α->β->Prop}{l:List α}{r:List β}(h:Cj R l r)(i:Nat){u:α}(b:β)(c:R u (r.getD i b)):Cj R (l.set i u) r:=by
 induction h using Cj.el generalizing i with
 | nil=>exact .nil
 | cons x hr ih=>cases i with
  | zero=>exact .cons c hr
  | succ j=>exact .cons x (ih j (by simpa using c))
def Bpm(l:TP)(z:Nat):(l.map Prod.snd).getD z 0=(l.getD z (0,0)).2:=by
 rw[Th,Bv8,Th];cases l[z]? <;> rfl
section
variable {E:Cr}{d:Cs}{ω:Int→Nat × Int}{o:Ca}{r:List Ca}{S:Bo}{ρ:Int→Int}{x y:Be}{op n:Int}
def Cz.gen(h:Cz E d ω o r S ρ x y op n)(l:op≠2/\op≠3/\op≠4/\op≠5/\op≠6/\op≠15/\op≠16):∃f s a,o.st=s++a/\y=⟨x.locals,f++Fg (Cq E.cs) E.ms op n⟩/\Cj (Ez E.T d.ts ω r.length ρ (Hq (E.meth o.m))) s f/\Cj (Ez E.T d.ts ω r.length ρ (Hq (E.meth o.m))) a (Cu (Cq E.cs) E.ms (E.meth o.m).result op n)/\Hw E.T d.ts a (Cu (Cq E.cs) E.ms (E.meth o.m).result op n)=true:=by
 have b:=h.mv;obtain⟨p,q,v,z,A,B,C⟩:=l;unfold Ik at b;rw[Pf p,Pf q,Pf v,Pf z,Pf A,Pf B,Pf C]at b;have i:=Xe h.ok.k h.mem h.num;by_cases g:Ig E.T x.stack (Cu (Cq E.cs) E.ms (E.meth o.m).result op n)=false;·rw[Sp g]at b;cases b
 rw[Pf g]at b;obtain⟨s,a,e,D,j⟩:=Btu h.ok h.g.hp.Cl h.ty.st (Nb h.P).2 (fun t c=>(Ht (i t c)).1) (by simpa using g);exact⟨_,s,a,e,(Option.some.inj b).symm,D,j,Bov h.ok.k.ok h.g.hp.Cl j (fun t c=>Bgf (i t c))⟩
def Jd.pop(h:Jd E d o r S){s:TP}{v:Int×Int}(e:o.st=s++[v]):S.top=v.2/\Jd E d ⟨o.m,o.p,o.lo,s⟩ r S.popped/\S.popped.now.pos=S.now.pos/\S.popped.now.next=S.now.next:=by
 obtain⟨a,b,c,e⟩:=Pt h.now e;exact⟨a,⟨h.read,h.objs,b,h.wait,h.en,h.out,h.steps⟩,c,e⟩
def Cz.lays(h:Cz E d ω o r S ρ x y op n){q a c:TP}{S':Bo}(e:Dz op=true/\u=Ch E o\/Dx op=true/\0<=n/\u=n.toNat)(f:o.st=q++a)(i:y=⟨x.locals,c⟩)(j:Cj (Ez E.T d.ts ω r.length ρ (Hq (E.meth o.m))) q c)(b:Jd E d ⟨o.m,o.p,o.lo,q⟩ r S')(nx:S'.now.next=u):He E (d.top ⟨o.m,u,o.lo,q⟩ r) S':=by
 subst i;exact h.on e (.refl _ _ _) h.g.hp rfl h.g.st h.g.md ⟨h.ty.lo,j⟩ ⟨h.wl,fun v l=>h.ws v (by rw[f];simp[l])⟩ ⟨b.read,b.objs,b.now.at u,b.wait,b.en,b.out,b.steps⟩ nx
def Cz.pushes(h:Cz E d ω o r S ρ x y op n){q a e:TP}{v t:Int×Int}{c:Bo}(i:Dz op=true)(j:o.st=q++a)(l:y=⟨x.locals,e++[t]⟩)(f:Cj (Ez E.T d.ts ω r.length ρ (Hq (E.meth o.m))) q e)(z:Ez E.T d.ts ω r.length ρ (Hq (E.meth o.m)) v t)(A:It d.ts.length v)(b:Jd E d ⟨o.m,o.p,o.lo,q⟩ r c)(nx:c.now.next=Ch E o):(q.length:Int)<(E.meth o.m).stack/\He E (d.top ⟨o.m,Ch E o,o.lo,q++[v]⟩ r) (c.push v.2):=by
 subst l;have D:=f.len;have B:(q.length:Int)<(E.meth o.m).stack:=by
  have:=h.hi;simp only[Up,Bvo,Bwn]at this;omega
 have F:=h.st8;refine⟨B,h.on (.inl ⟨i,rfl⟩) (.refl _ _ _) h.g.hp rfl h.g.st h.g.md ⟨h.ty.lo,f.app (.cons z .nil)⟩ ⟨h.wl,fun u C=>?_⟩ ⟨b.read,b.objs,(Ox b.now v (by show q.length<8;omega)).at _,b.wait,b.en,b.out,b.steps⟩ (by show (En v.2 c.now).next=_;rw[Gk];exact nx)⟩
 rcases List.mem_append.1 C with k|k
 ·exact h.ws u (by rw[j];simp[k])
 rw[List.mem_singleton.1 k];exact A
def Ab{R:Int×Int->Int×Int->Prop}{a p:TP}(h:Cj R a p)(e:p=[]):a=[]:=by subst e;cases h using Cj.el;rfl
def Xy{R:Int×Int->Int×Int->Prop}{a l:TP}(h:Cj R a l)(e:l=[C]):∃v,a=[v]/\R v C:=by
 subst e;cases h using Cj.el with
 | cons p q=>cases q using Cj.el with
  | nil=>exact⟨_,rfl,p⟩
def Bfw{R:Int×Int->Int×Int->Prop}{a l:TP}{b:Int×Int}(h:Cj R a l)(e:l=[C,b]):∃u v,a=[u,v]/\R u C/\R v b:=by
 subst e;cases h using Cj.el with
 | cons p q=>cases q using Cj.el with
  | cons p' q=>cases q using Cj.el with
   | nil=>exact⟨_,_,rfl,p,p'⟩
def Boy(h:Cz E d ω o r S ρ x y 0 n):Gi E d o r 0 n (Ci E.M 0 n S):=by
 obtain⟨t,s,a,b,c,f,g,i⟩:=h.gen Bd;obtain rfl:=Ab g rfl;have j:=Bus h.good.bd.code0 h.good.rd.c255 ((o.p:Int)+1);rw[h.en]at j;have l:s=o.st:=by rw[b];simp
 subst l;obtain⟨m,q⟩:=h.pushes (v:=(1,Nw n)) rfl b c f ⟨fun _=>rfl,fun e=>absurd e Fr,fun e=>absurd e Fr,fun e=>absurd e Fr⟩ (.inr (.inl ⟨rfl,by unfold Nw;simp only;split<;>omega,by unfold Nw;simp only;split<;>omega⟩)) h.s h.nx
 exact⟨_,⟨o.st,[],b,i,.inr ⟨rfl,.push (.inl rfl) Bd Bd Bd m⟩⟩,q⟩
def Brf(h:Cz E d ω o r S ρ x y 1 n)(c:Int):Gi E d o r 1 n (Ci E.M 1 c S):=by
 obtain⟨t,s,a,b,f,i,j,l⟩:=h.gen Bd;obtain rfl:=Ab j rfl;have m:s=o.st:=by rw[b];simp
 subst m;have z:=h.g.hp.six;obtain⟨p,q⟩:=h.pushes (v:=(2,0)) rfl b f i ⟨fun e=>absurd e Fr,fun _=>rfl,fun e=>absurd e Fr,fun e=>absurd e Fr⟩ (.inr (.inr ⟨rfl,Fr,Fm⟩)) h.s h.nx;exact⟨_,⟨o.st,[],b,l,.inr ⟨rfl,.push (.inr (.inl rfl)) Bd Bd Bd p⟩⟩,q⟩
def Biz(h:Cz E d ω o r S ρ x y op n)(A:7<=op/\op<=10)(i:Int):Gi E d o r op n (Ci E.M op i S):=by
 obtain⟨xs,s,a,b,j,B,C,l⟩:=h.gen Bd;have D:Cu (Cq E.cs) E.ms (E.meth o.m).result op n=[(1,0),(1,0)]:=by unfold Cu;rw[Sp Bd]
 have F:Fg (Cq E.cs) E.ms op n=[(1,0)]:=by unfold Fg;rw[Sp Bd]
 obtain⟨u,v,rfl,G,I⟩:=Bfw C D;rw[F]at j;have J:=(h.ws u (by rw[b];simp)).num (G.int rfl);have K:=(h.ws v (by rw[b];simp)).num (I.int rfl);obtain⟨L,N,O,Q⟩:=h.s.pop (s:=s++[u]) (v:=v) (by rw[b];simp);obtain⟨V,q,Y,Z⟩:=N.pop rfl;have hg:Dz op=true:=by unfold Dz;simp;omega
 have e1:Ci E.M op i S=Nx E.M op S:=by unfold Ci;rw[Pf Bd,Sp Bd]
 rw[e1];unfold Nx;rw[V,L];by_cases g:op=10/\v.2=0
 ·obtain⟨rfl,t⟩:=g;have c:Iu 10 u.2 v.2=none:=by
   unfold Iu;rw[Pf Bd,Pf Bd,Pf Bd,Sp (by rw[t];rfl)]
  rw[c];exact h.fault (k:=1) b l q (by rw[Y,O];exact h.pos) Bd Bd (by unfold Dn;simp[t])
 obtain⟨c,w2⟩:=Bty A J K (fun e k=>g ⟨e,k⟩);rw[c];obtain⟨h1,hB⟩:=h.pushes (v:=(1,Jl op u.2 v.2)) hg b j B ⟨fun _=>rfl,fun e=>absurd e Fr,fun e=>absurd e Fr,fun e=>absurd e Fr⟩ (.inr (.inl ⟨rfl,w2⟩)) q (by rw[Z,Q];exact h.nx);have ep:Mr E (d.top ⟨o.m,o.p,o.lo,s⟩ r) op n [u,v]=(1,Jl op u.2 v.2):=by
  unfold Mr;rw[Pf Bd,Pf Bd,Pf Bd,Pf Bd];rfl
 have z:=Bp.push (E:=E) (d:=d.top ⟨o.m,o.p,o.lo,s⟩ r) (o:=⟨o.m,o.p,o.lo,s⟩) (r:=r) (op:=op) (n:=n) (a:=[u,v]) Bd Bd Bd (fun _ _=>Fr) h1;rw[ep]at z;refine⟨_,⟨s,[u,v],b,l,.inr ⟨?_,z⟩⟩,hB⟩;unfold Dn;by_cases f:op=10;·rw[Sp f,Pf (show ¬(Ib [u,v]).2=0 from fun k=>g ⟨f,k⟩)]
 rw[Pf f,Pf Bd,Pf Bd,Pf Bd,Pf Bd,Pf Bd,Pf Bd]
def Cz.tgt(h:Cz E d ω o r S ρ x y op n)(b:Dx op=true):0<=n:=by
 have:=((h.ok.env h.mem).tgt o.p h.g.top.p (by show Dx ((E.meth o.m).code.getD o.p 0)=true;rw[h.eo];exact b)).1;rw[<- h.en];exact this
def Brj(h:Cz E d ω o r S ρ x y 11 n):Gi E d o r 11 n (Ci E.M 11 n S):=by
 obtain⟨l,s,a,b,e,f,g,i⟩:=h.gen Bd;obtain rfl:=Ab g rfl;have j:s=o.st:=by rw[b];simp
 subst j;have c:=h.tgt rfl;refine⟨_,⟨o.st,[],b,i,.inr ⟨rfl,.jump Bd Bd Bd Bd c rfl⟩⟩,?_⟩;exact h.lays (S':=S.withNow (Lu n.toNat S.now)) (.inr ⟨rfl,c,rfl⟩) b e (by simpa[Fg] using f) ⟨h.s.read,h.s.objs,h.s.now.moved _ _,h.s.wait,h.s.en,h.s.out,h.s.steps⟩ rfl
def Bi0(h:Cz E d ω o r S ρ x y op n)(ho:12<=op/\op<=14):Gi E d o r op n (Ci E.M op n S):=by
 obtain⟨xs,s,a,b,i,C,D,F⟩:=h.gen Bd;have Q:Dz op=true:=by unfold Dz;simp;omega
 have G:Dx op=true:=by unfold Dx;simp;omega
 have I:=h.tgt G;have V:Fg (Cq E.cs) E.ms op n=[]:=by
  unfold Fg;rw[Pf Bd,Pf Bd,Pf Bd,Pf Bd,Pf Bd]
 rw[V,Bxl]at i;have J:Dn E d op n a=0:=by
  unfold Dn;rw[Pf Bd,Pf Bd,Pf Bd,Pf Bd,Pf Bd,Pf Bd,Pf Bd]
 obtain⟨K,L,c,N,Y,Z⟩:(op=13->2<=a.length)/\1<=a.length/\∃c,Gb ⟨o.m,o.p,o.lo,s⟩ c/\c.next=Ch E o/\Ci E.M op n S=S.withNow (if Ii op a=true then Lu n.toNat c else c):=by
  have e1:Ci E.M op n S=S.withNow (Hm op n S.now):=by unfold Ci;rw[Pf Bd,Pf Bd,Sp Bd]
  rw[e1];by_cases f:op=13
  ·obtain⟨u,v,rfl,hu,hv⟩:=Bfw D (show _=[(1,0),(1,0)] by unfold Cu;rw[Sp Bd]);obtain⟨j,l,p3,q⟩:=h.s.pop (s:=s++[u]) (v:=v) (by rw[b];simp);obtain⟨q1,q2,q3,q4⟩:=l.pop rfl;refine⟨fun _=>Fr,Fr,_,q2.now,by rw[q4,q];exact h.nx,?_⟩;have z:(Bw S.now).1=v.2:=j;have a0:(Bw (Bw S.now).2).1=u.2:=q1;unfold Hm;rw[Pf Bd,Sp f,a0,z,f];have:Ii 13 [u,v]=decide (u.2<v.2):=by unfold Ii;simp
   rw[this];by_cases g:u.2<v.2;·rw[Sp g,Sp (by simpa using g)];rfl
   rw[Pf g,Pf (by simpa using g)];rfl
  have A:∃t,Cu (Cq E.cs) E.ms (E.meth o.m).result op n=[t]:=by
   unfold Cu;by_cases B:op=12;·exact⟨_,by rw[Pf Bd,Sp Bd]⟩
   exact⟨_,by rw[Pf Bd,Pf Bd,Sp Bd]⟩
  obtain⟨t,A⟩:=A;obtain⟨v,rfl,hv⟩:=Xy D A;obtain⟨j,l,p3,q⟩:=h.s.pop b;refine⟨fun e=>absurd e f,Fr,_,l.now,by rw[q];exact h.nx,?_⟩;have z:(Bw S.now).1=v.2:=j;have e3:Hm op n S.now=if v.2=0 then Lu n.toNat (Bw S.now).2 else (Bw S.now).2:=by
   unfold Hm;rw[z];by_cases B:op=12;·rw[Sp B]
   rw[Pf B,Pf f,Sp Bd]
  have e4:Ii op [v]=decide (v.2=0):=by
   unfold Ii;have:op=12\/op=14:=Bd;rcases this with rfl|rfl<;>simp<;>exact Bool.beq_eq_decide_eq ..
  rw[e3,e4];by_cases g:v.2=0;·rw[Sp g,Sp (by simpa using g)];rfl
  rw[Pf g,Pf (by simpa using g)];rfl
 rw[Z];cases O:Ii op a with
 | true =>
  rw[Sp rfl];exact⟨_,⟨s,a,b,F,.inr ⟨J,.jump Bd Bd K (fun _=>L) I O⟩⟩,h.lays (.inr ⟨G,I,rfl⟩) b i C ⟨h.s.read,h.s.objs,N.moved _ _,h.s.wait,h.s.en,h.s.out,h.s.steps⟩ rfl⟩
 | false =>
  rw[Pf Fr];exact⟨_,⟨s,a,b,F,.inr ⟨J,.stay Bd Bd K L O⟩⟩,h.lays (.inl ⟨Q,rfl⟩) b i C ⟨h.s.read,h.s.objs,N,h.s.wait,h.s.en,h.s.out,h.s.steps⟩ Y⟩
def But(h:Cz E d ω o r S ρ x y 24 n)(l:Int):Gi E d o r 24 n (Ci E.M 24 l S):=by
 obtain⟨F,s,a,f,p,q,z,t⟩:=h.gen Bd;obtain rfl:=Ab z rfl;have A:s=o.st:=by rw[f];simp
 subst A;have B:Ci E.M 24 l S=Ta E.M S:=rfl;rw[B];unfold Ta;have C:E.M.ins=E.ins:=rfl;rw[C,h.s.read];by_cases g:d.read<E.ins.length
 ·rw[Sp g];have D:E.ins.getD d.read 0∈E.ins:=Hu g;obtain⟨i,j⟩:=h.pushes (v:=(1,E.ins.getD d.read 0)) rfl f p q ⟨fun _=>rfl,fun e=>absurd e Fr,fun e=>absurd e Fr,fun e=>absurd e Fr⟩ (.inr (.inl ⟨rfl,h.ok.ins _ D⟩)) h.s h.nx;refine⟨_,⟨o.st,[],f,t,.inr ⟨rfl,.read rfl g i⟩⟩,?_⟩;cases j using He.el with
  | on ω' o' r' G H hn =>
   obtain⟨rfl,rfl⟩:o'=⟨o.m,Ch E o,o.lo,o.st++[(1,E.ins.getD d.read 0)]⟩/\r'=r:=by
    have:=G.os;simp only[Cs.top,List.cons.injEq]at this;exact⟨this.1.symm,this.2.symm⟩
   exact .on ω' _ _ ⟨rfl,G.st,G.hp,G.md,G.ws,G.top⟩ ⟨rfl,H.objs,H.now,H.wait,H.en,H.out,H.steps⟩ hn
  | off a b c=>have:=h.s.en;exact absurd (this.symm.trans a) Fr
 rw[Pf g];obtain⟨i,j⟩:=h.pushes (v:=(1,0)) rfl f p q ⟨fun _=>rfl,fun e=>absurd e Fr,fun e=>absurd e Fr,fun e=>absurd e Fr⟩ (.inr (.inl ⟨rfl,Fr,Fr⟩)) h.s h.nx;exact⟨_,⟨o.st,[],f,t,.inr ⟨rfl,.none rfl (by show E.ins.length<=d.read;omega) i⟩⟩,j⟩
def Bte(h:Cz E d ω o r S ρ x y 25 n)(i:Int):Gi E d o r 25 n (Ci E.M 25 i S):=by
 obtain⟨z,s,a,c,e,j,l,m⟩:=h.gen Bd;obtain⟨v,rfl,f⟩:=Xy l rfl;obtain⟨p,b,A,q⟩:=h.s.pop c;have t:Fg (Cq E.cs) E.ms 25 n=[]:=rfl;rw[t,Bxl]at e;refine⟨_,⟨s,[v],c,m,.inr ⟨rfl,.out rfl Fr⟩⟩,?_⟩;subst e;exact h.on (.inl ⟨rfl,rfl⟩) (.refl _ _ _) h.g.hp rfl h.g.st h.g.md ⟨h.ty.lo,j⟩ ⟨h.wl,fun v f=>h.ws v (by rw[c];simp[f])⟩ ⟨b.read,b.objs,b.now.at _,b.wait,b.en,by show S.out++[S.top]=_;rw[h.s.out,p];rfl,b.steps⟩ (by show S.popped.now.next=_;rw[q];exact h.nx)
end
section
variable {E:Cr}{d:Cs}{ω:Int→Nat × Int}{o:Ca}{r:List Ca}{S:Bo}{ρ:Int→Int}{x y:Be}{op n:Int}
def Zx{f:Int->Int}(g:Ez E.T Q ω u ρ f C (3,c))(h:It Q.length C)(j:C.2≠0):∃k:Nat,C=(2,(k:Int))/\0<k/\k<Q.length/\(Cc Q (k:Int)).set=true/\Tr.At E.T (Cc Q (k:Int)).cl c:=by
 obtain⟨a,b⟩:=g.ref rfl;obtain⟨l,m⟩:=b.resolve_left j;obtain⟨p,q⟩:=h.ref a;have e:((C.2.toNat:Nat):Int)=C.2:=Bd;refine⟨C.2.toNat,by rw[e];exact Bxd a rfl,Bd,Bd,?_⟩;rw[e];exact⟨l,Tr.fits_ref.1 m⟩
def Bod(h:E.Ok)(b:Ky E Q ω)(i:0<=n/\n<(Cd.fieldSum E.cs:Int))(j:k<Q.length)(c:(Cc Q (k:Int)).set=true)(f:Tr.At E.T (Cc Q (k:Int)).cl (E.fld n).owner):∃z:Nat,(E.fld n).slot=(z:Int)/\Je E.T (Oj E.cs) n=(z:Int)/\z<(Cc Q (k:Int)).vals.length/\(E.all (Cc Q (k:Int)).cl).getD z (0,0)=(E.fld n).t:=by
 have C:=V9 E.cs;obtain⟨q,D,l,z,m,g,p⟩:=Bum h.k.ok (n:=n.toNat) Bd;rw[Bwo i.1]at g;obtain⟨s,v⟩:=b.Cl _ c;have e:(E.fld n).owner=(q:Int):=l;rw[e]at f;obtain⟨A,B⟩:=p _ s v f;have:=(b.vs k j c).len;exact⟨z,m,g,by rw[this];exact A,B⟩
def Cz.nfl(h:Cz E d ω o r S ρ x y op n)(b:op=17\/op=18):n.toNat<(Cq E.cs).length:=by
 have:=h.num.fld b;have:=V9 E.cs;omega
def Btg(h:Cz E d ω o r S ρ x y 17 n):Gi E d o r 17 n (Ci E.M 17 n S):=by
 obtain⟨xs,s,a,b,i,D,F,j⟩:=h.gen Bd;have G:Cu (Cq E.cs) E.ms (E.meth o.m).result 17 n=[(3,(E.fld n).owner)]:=rfl;have I:Fg (Cq E.cs) E.ms 17 n=[(E.fld n).t]:=rfl;obtain⟨v,rfl,J⟩:=Xy F G;rw[I]at i;have c:=h.num.fld (.inl rfl);obtain⟨K,l,L,N⟩:=h.s.pop b;have O:Ci E.M 17 n S=Lp E.M n S:=rfl;rw[O];unfold Lp;rw[K];by_cases g:v.2=0;·rw[Sp g];exact h.fault (k:=2) b j l (L.trans h.pos) Bd Bd (by unfold Dn;simp[g])
 rw[Pf g];obtain⟨k,rfl,k0,e,q,Q⟩:=Zx J (h.ws v (by rw[b];simp)) g;obtain⟨z,f,V,A,Y⟩:=Bod h.ok h.g.hp c e q Q;have B:=(h.g.hp.vs k e q).get z A (0,0) (0,0);rw[Y]at B;have Z:=(Ht (Al h.ok.k c).2).2;obtain⟨h1,hB⟩:=h.pushes (v:=(Cc d.ts (k:Int)).vals.getD z (0,0)) rfl b i D (B.plain Z) (h.g.hp.wv k e _ (Hu A)) l (N.trans h.nx);have ep:Mr E (d.top ⟨o.m,o.p,o.lo,s⟩ r) 17 n [(2,(k:Int))]=(Cc d.ts (k:Int)).vals.getD z (0,0):=by
  show (Cc d.ts (k:Int)).vals.getD (E.fld n).slot.toNat (0,0)=_;rw[f,Bvn]
 have C:=Bp.push (E:=E) (d:=d.top ⟨o.m,o.p,o.lo,s⟩ r) (o:=⟨o.m,o.p,o.lo,s⟩) (r:=r) (op:=17) (n:=n) (a:=[(2,(k:Int))]) Bd (fun _=>⟨c.1,h.nfl (.inl rfl),by rw[f];omega,Fr,by show (k:Int)<(d.ts.length:Int);omega,by show (E.fld n).slot<((Cc d.ts (k:Int)).vals.length:Int);rw[f];omega⟩) Fr Bd h1;rw[ep]at C;refine⟨_,⟨s,_,b,j,.inr ⟨by unfold Dn;simp at g ⊢;omega,C⟩⟩,?_⟩;have e2:Vr (k:Int) (Je E.M.T E.M.FL n) S.objs=((Cc d.ts (k:Int)).vals.getD z (0,0)).2:=by
  obtain⟨b1,b2⟩:=Bfq (ts:=d.ts) (k:=(k:Int)) Bd Bd;have b3:Je E.M.T E.M.FL n=(z:Int):=V;unfold Vr Jm;rw[b3,h.s.objs,b1,b2];simp only[Ng,Bvr];rw[Sp Fm,Bvn];exact Bpm _ _
 rw[e2];exact hB
def Btc(h:Cz E d ω o r S ρ x y 18 n):Gi E d o r 18 n (Ci E.M 18 n S):=by
 obtain⟨xs,s,a,c,I,O,Q,J⟩:=h.gen Bd;have V:Cu (Cq E.cs) E.ms (E.meth o.m).result 18 n=[(3,(E.fld n).owner),(E.fld n).t]:=rfl;obtain⟨u,v,rfl,Y,Z⟩:=Bfw Q V;have el:Fg (Cq E.cs) E.ms 18 n=[]:=rfl;rw[el,Bxl]at I;have C:=h.num.fld (.inr rfl);obtain⟨p1,p2,p3,p4⟩:=h.s.pop (s:=s++[u]) (v:=v) (by rw[c];simp);obtain⟨q1,f,q3,q4⟩:=p2.pop rfl;have e1:Ci E.M 18 n S=Lo E.M n S:=rfl;rw[e1];unfold Lo;rw[q1,p1];by_cases g:u.2=0;·rw[Sp g];exact h.fault (k:=2) c J f (by rw[q3,p3];exact h.pos) Bd Bd (by unfold Dn;simp[g])
 rw[Pf g];obtain⟨k,rfl,K,i,A,ka⟩:=Zx Y (h.ws u (by rw[c];simp)) g;obtain⟨z,D,z2,L,z4⟩:=Bod h.ok h.g.hp C i A ka;have a0:=(Ht (Al h.ok.k C).2).2;have wv:=h.ws v (by rw[c];simp);obtain⟨c0,c1⟩:=h.g.hp.Cl _ A;have h6:6<=k:=by
  by_cases g:k<=5;·have:=h.g.hp.gv k K g;rw[Bj5 i]at this;rw[Option.some.inj this]at L;simp at L
  omega
 have l:L9 d.ts (d.ts.set k ⟨(Cc d.ts (k:Int)).cl,true,(Cc d.ts (k:Int)).vals.set z v⟩) ω ω (fun _=>False) :=
  ⟨Fr,fun j F hl B=>by
   rw[Xp i F];by_cases e:j=(k:Int);·rw[Sp e,e];exact⟨rfl,rfl⟩
   ·rw[Pf e];exact⟨B,rfl⟩,fun j F hl B C=>by
   rw[Xp i F];have:j≠(k:Int):=fun e=>by rw[e,A]at B;cases B
   rw[Pf this];exact⟨B,rfl,rfl⟩⟩
 have N:=Bp.put (E:=E) (d:=d.top ⟨o.m,o.p,o.lo,s⟩ r) (o:=⟨o.m,o.p,o.lo,s⟩) (r:=r) (op:=18) (n:=n) (a:=[(2,(k:Int)),v]) rfl Fr C.1 (h.nfl (.inr rfl)) (by rw[D];omega) Fr (by show (k:Int)<(d.ts.length:Int);omega) (by show (E.fld n).slot<((Cc d.ts (k:Int)).vals.length:Int);rw[D];omega);have ed:(d.top ⟨o.m,o.p,o.lo,s⟩ r).with ((d.top ⟨o.m,o.p,o.lo,s⟩ r).ts.set (Cg [(2,(k:Int)),v]).2.toNat ⟨(Cc (d.top ⟨o.m,o.p,o.lo,s⟩ r).ts (Cg [(2,(k:Int)),v]).2).cl,(Cc (d.top ⟨o.m,o.p,o.lo,s⟩ r).ts (Cg [(2,(k:Int)),v]).2).set,(Cc (d.top ⟨o.m,o.p,o.lo,s⟩ r).ts (Cg [(2,(k:Int)),v]).2).vals.set (E.fld n).slot.toNat (Ib [(2,(k:Int)),v])⟩) ⟨o.m,Ch E ⟨o.m,o.p,o.lo,s⟩,o.lo,s⟩ r=d.with (d.ts.set k ⟨(Cc d.ts (k:Int)).cl,true,(Cc d.ts (k:Int)).vals.set z v⟩) ⟨o.m,Ch E o,o.lo,s⟩ r:=by
  show d.with (d.ts.set (k:Int).toNat ⟨(Cc d.ts (k:Int)).cl,(Cc d.ts (k:Int)).set,(Cc d.ts (k:Int)).vals.set (E.fld n).slot.toNat v⟩) _ r=_;rw[D,A,Bvn,Bvn];rfl
 rw[ed]at N;refine⟨_,⟨s,_,c,J,.inr ⟨by unfold Dn;simp at g ⊢;omega,N⟩⟩,?_⟩;have e2:Tt (k:Int) (Je E.M.T E.M.FL n) v.2 S.objs=(d.ts.set k ⟨(Cc d.ts (k:Int)).cl,true,(Cc d.ts (k:Int)).vals.set z v⟩).tail.map Ng:=by
  obtain⟨b1,b2⟩:=Bfq (ts:=d.ts) (k:=(k:Int)) Bd Bd;have b3:Je E.M.T E.M.FL n=(z:Int):=z2;unfold Tt Jm;rw[b3,h.s.objs,b1,b2,Bf1 K];simp only[Ng,Bvr];rw[Sp Fm,Bvn,Byj,show ((k:Int)-1).toNat=k-1 by omega]
 subst I;refine h.on (.inl ⟨rfl,rfl⟩) (l.weak (fun _ k=>k.elim)) (h.g.hp.set h.ok h6 i rfl ⟨c0,c1⟩ l ((h.g.hp.vs k i A).put z (0,0) (by rw[z4];exact Z.plain a0)) (fun w b=>?_)) rfl h.g.st (by show d.made+6=(d.ts.set k _).length;rw[Bv7];exact h.g.md) ⟨h.ty.lo.mono (fun w b t _ q=>q.ext l (h.wl w b) (fun _=>id)),O.mono (fun w b t _ q=>q.ext l (h.ws w (by rw[c];simp[b])) (fun _=>id))⟩ ⟨fun w b=>(h.wl w b).mono l.len,fun w b=>(h.ws w (by rw[c];simp[b])).mono l.len⟩ ⟨f.read,e2,f.now.at _,f.wait,f.en,f.out,f.steps⟩ (by show S.popped.popped.now.next=_;rw[q4,p4];exact h.nx)
 rcases Yu b with G|G
 ·exact h.g.hp.wv k i w G
 rw[G];exact wv
def Brl(h:Cz E d ω o r S ρ x y 19 n):Gi E d o r 19 n (Ci E.M 19 n S):=by
 obtain⟨I,s,a,b,m,p,q,c⟩:=h.gen Bd;obtain⟨v,rfl,e⟩:=Xy q (show _=[(3,0)] from rfl);obtain⟨f,J⟩:=h.num.cls (.inr (.inr rfl));obtain⟨t,i,z,A⟩:=h.s.pop b;have j:=h.ws v (by rw[b];simp);have B:Ci E.M 19 n S=if J3 E.T d.ts v (3,n)=true then S.popped.push v.2 else M8 E.M ((3:Nat):Int) S.popped:=by
  show Sk E.M n S=_;unfold Sk;rw[t];by_cases g:v.2=0
  ·have:J3 E.T d.ts v (3,n)=true:=by
    unfold J3;rw[Pf Fr,Sp (e.ref rfl).1,Sp g]
   rw[Sp g,Sp this]
  rw[Pf g];obtain⟨k,rfl,K,L,l,N⟩:=Zx e j g;obtain⟨C,D⟩:=h.g.hp.Cl _ l;have:J3 E.T d.ts (2,(k:Int)) (3,n)=Tr.within E.T (Id (k:Int) S.objs) n:=by
   unfold J3;rw[Pf Fr,Sp rfl,Pf g,h.s.objs,Blf Bd Bd,U9 h.ok.k.ok C D f,l,Bxn]
  rw[this];rfl
 rw[B];by_cases g:J3 E.T d.ts v (3,n)=true;·rw[Sp g];obtain⟨F,G⟩:=h.pushes rfl b m p (Bu3 h.ok.k.ok h.g.hp.Cl f g) j i (A.trans h.nx);exact⟨_,⟨s,_,b,c,.inr ⟨by show (if J3 E.T d.ts v (3,n)=true then (0:Int) else 3)=0;rw[Sp g],.push Bd Bd Fr Bd F⟩⟩,G⟩
 rw[Pf g];exact h.fault (k:=3) b c i (z.trans h.pos) Bd Bd (by show (if J3 E.T d.ts v (3,n)=true then (0:Int) else 3)=3;rw[Pf g])
def Bow(h:Cz E d ω o r S ρ x y 23 n)(e:Int):Gi E d o r 23 n (Ci E.M 23 e S):=by
 obtain⟨A,s,a,b,B,C,l,f⟩:=h.gen Bd;obtain⟨v,rfl,c⟩:=Xy l (show _=[(3,1)] from rfl);obtain⟨m,i,j,D⟩:=h.s.pop b;have p:Ci E.M 23 e S=Jw E.M S:=rfl;rw[p];unfold Jw;rw[m];by_cases g:v.2=0;·rw[Sp g];exact h.fault (k:=2) b f i (j.trans h.pos) Bd Bd (by unfold Dn;simp[g])
 rw[Pf g];obtain⟨k,rfl,q,t,z,F⟩:=Zx c (h.ws v (by rw[b];simp)) g;exact⟨_,⟨s,_,b,f,.inl ⟨k,q,t,by unfold Dn;simp at g ⊢;omega,rfl⟩⟩,h.throws i (j.trans h.pos) (fun v c=>by rw[b];simp[c]) Bd Bd z⟩
def Btb(h:Cz E d ω o r S ρ x y 22 n)(F:Int):Gi E d o r 22 n (Ci E.M 22 F S):=by
 obtain⟨xs,s,a,j,hy,t1,A,G⟩:=h.gen Bd;have Q:Cu (Cq E.cs) E.ms (E.meth o.m).result 22 n=Ei (E.meth o.m).result:=rfl;have I:=Xe h.ok.k h.mem h.num;rw[Q]at A I;have V:Ci E.M 22 F S=Ki E.M S:=rfl;have Y:(E.M.meth S.now.meth).result=(E.meth o.m).result:=by rw[h.s.now.m,X7 h.g.top.m]
 obtain⟨J,Z,f,i,K⟩:a.length<=1/\((E.meth o.m).result.1=1->0<a.length)/\∃f,Jd E d ⟨o.m,o.p,o.lo,s⟩ r f/\Ki E.M S=Lq (E.meth o.m).result (Cg a).2 f/\(a=[]<->(E.meth o.m).result.1=0):=by
  unfold Ki;rw[Y];by_cases g:(E.meth o.m).result.1=0
  ·obtain rfl:=Ab A (by unfold Ei;rw[Sp g]);rw[Sp g];have e0:s=o.st:=by rw[j];simp
   subst e0;exact⟨Fr,Bd,S,h.s,rfl,by simp[g]⟩
  obtain⟨v,rfl,L⟩:=Xy A (show _=[(E.meth o.m).result] by unfold Ei;rw[Pf g]);rw[Pf g];obtain⟨p1,p2,p3,p4⟩:=h.s.pop j;exact⟨Fr,Fr,S.popped,p2,by rw[p1];rfl,by simp[g]⟩
 rw[V,K.1];obtain⟨-,N⟩:=K;unfold Lq;have hw:=h.g.top.w;have B:=i.wait;cases r with
 | nil =>
  have hn:f.wait=[]:=List.reverse_eq_nil_iff.1 (Bwc B.len.symm);rw[hn];exact⟨_,⟨s,a,j,G,.inr ⟨rfl,.ret0 rfl rfl Z⟩⟩,.off rfl (Byo _) rfl rfl i.out i.steps⟩
 | cons q r =>
  obtain⟨c,l,hc,C,hr⟩:∃c l,f.wait.reverse=c::l/\Vp E q c/\Cj (Vp E) r l:=by
   cases h:f.wait.reverse with
   | nil=>rw[h]at B;cases B using Cj.el
   | cons c l=>rw[h]at B;cases B using Cj.el with
    | cons a b=>exact⟨c,l,rfl,a,b⟩
  have hS:f.wait=l.reverse++[c]:=by rw[<- B0x f.wait,hc,Bxj]
  simp only[hS,B0y,B0b,Option.some_or,B0z];cases hw using Fe.el with
  | cons ρ' x' s' h1 h2 h3 h4 h5 h6 h7 =>
   have hP:=Un h.ok.k (Cr.mem h1) h2 (h.ok.P (Cr.mem h1) h3) h5;have a0:Fc (Ep E.cs E.ms (E.meth q.m)) q.p x' ((Ch E q:Nat):Int) ⟨x'.locals,s'++Ei (E.meth o.m).result⟩ false:=by
    have e:((Ch E q:Nat):Int)=(Ep E.cs E.ms (E.meth q.m)).nx q.p:=by unfold Ch Df.nx;push_cast;rfl
    rw[e];exact .nxt _ h5 h4
   obtain⟨_,b2,b3,z,b4,b5⟩:=Bqp h.ok h.g.hp.Cl h1 h2 h3 a0 (Nb hP) (o:=⟨q.m,Ch E q,q.lo,q.st++a⟩) rfl rfl ⟨h6.lo,h6.st.app (A.plain (fun t ht=>(Ht (I t ht)).2))⟩;have O:((q.st.length+a.length:Nat):Int)<=(E.meth q.m).stack:=by
    have a1:q.st.length=s'.length:=h6.st.len;have:=A.len;simp only[Up]at b2;omega
   have h8:(E.meth q.m).stack<=8:=(h.ok.k.mt _ (Cr.mem h1)).rd.st.2;refine⟨_,⟨s,a,j,G,.inr ⟨rfl,.ret q r rfl rfl J (Ur h2) O⟩⟩,?_⟩;refine .on ω _ r ⟨rfl,h.g.st,h.g.hp,h.g.md,fun z D=>?_,⟨h1,b3,⟨ρ',z,b4,b5⟩,h7⟩⟩ ⟨i.read,i.objs,?_,by simpa using hr,i.en,i.out,i.steps⟩ ?_
   ·rcases List.mem_cons.1 D with rfl|D
    ·have:=h.g.ws q Fr;exact⟨this.1,fun v L=>by
      rcases List.mem_append.1 L with k|k
      ·exact this.2 v k
      exact h.ws v (by rw[j];simp[k])⟩
    exact h.g.ws z (by simp[D])
   ·by_cases g:(E.meth o.m).result.1=0
    ·obtain rfl:=N.2 g;show Gb _ (if (E.meth o.m).result.1=0 then c else _)
     rw[Sp g,Bxl];exact C.1.at _
    show Gb _ (if (E.meth o.m).result.1=0 then c else _)
    rw[Pf g];obtain⟨v,rfl⟩:∃v,a=[v]:=by
     match a,J,N with
     | [],_,k=>exact absurd (k.1 rfl) g
     | [v],_,_=>exact⟨v,rfl⟩
    exact(Ox C.1 v (by simp only[Bvo,Bwn]at O;omega)).at _
   show (if (E.meth o.m).result.1=0 then c else En (Cg a).2 c).next=_
   split
   ·exact C.2.2
   rw[Gk];exact C.2.2
def Bhc(c:E.Ok)(l:Vf E.T Q)(m:k<E.ms.length){i:Nat}(j:Nat){ar:Int->Int}{a:TP}(g:Cj (Ez E.T Q ω i ρ ar) a (Kv (E.meth k).cl (E.meth k).params)):(a.length:Int)<=(E.meth k).locals/\0∈Cd.places (E.meth k).code/\∃ρ f,E.F k 0=some f/\Oa E Q ω j ρ (Hv E k a) f:=by
 have e:=Cr.mem m;have G:=c.k.mt _ e;refine⟨by rw[g.len];exact G.own,Xh (c.cd _ e),ρ,?_⟩;obtain⟨f,p,h⟩:=(c.sol e).x0;have q:=Nb (Vj G);have s:∀t∈Kv (E.meth k).cl (E.meth k).params,t.1≠4:=fun t b=>by
  unfold Kv at b;rcases List.mem_append.1 b with b|b
  ·split at b
   ·simp at b
   rw[List.mem_singleton.1 b];simp
  exact(Ht (Pi G.ps t b)).2
 have v:∀n,Cj (Ez E.T Q ω j ρ (Hq (E.meth k))) (List.replicate n (0,0)) (List.replicate n (0,0)):=fun n=>by
  induction n with
  | zero=>exact .nil
  | succ n ih=>exact .cons (.top rfl) ih
 have z:Cj (Ez E.T Q ω j ρ (Hq (E.meth k))) (Hv E k a).lo (Fk (E.meth k)).locals:=by
  unfold Hv Fk Pp;rw[<- g.len];exact(g.plain s).app (v _)
 have hF:E.F k 0=some f:=p;refine⟨f,hF,Cj.le c.k.ok l h.lo q.1 (Nb (c.P e hF)).1 z,?_⟩;have this:Da E.T [] f.stack:=h.st;show Cj _ [] f.stack;cases A:f.stack with
 | nil=>exact .nil
 | cons _ _=>rw[A]at this;cases this
def Cz.opens(h:Cz E d ω o r S ρ x y op n){q a f:TP}{c:Bo}(i:k<E.ms.length)(t:o.st=q++a)(B:y=⟨x.locals,f++Ei (E.meth k).result⟩)(C:Dz op=true)(D:Cj (Ez E.T d.ts ω r.length ρ (Hq (E.meth o.m))) q f)(F:Cj (Ez E.T d.ts ω r.length ρ (Hq (E.meth o.m))) a (Kv (E.meth k).cl (E.meth k).params))(b:Jd E d ⟨o.m,o.p,o.lo,q⟩ r c)(G:c.now.pos=o.p)(nx:c.now.next=Ch E o):(a.length:Int)<=(E.meth k).locals/\He E (d.top (Hv E k a) (⟨o.m,o.p,o.lo,q⟩::r)) (c.opened (Cn (k:Int) (a.map Prod.snd))):=by
 obtain⟨A,I,J⟩:=Bhc h.ok h.g.hp.Cl i (r.length+1) F;obtain⟨K,L⟩:=Bi8 E k a A (h.ok.k.mt _ (Cr.mem i)).rd.lo.2;refine⟨A,.on ω _ _ ⟨rfl,h.g.st,h.g.hp,h.g.md,fun z e=>?_,⟨i,I,J,?_⟩⟩ ⟨b.read,b.objs,K,?_,b.en,b.out,b.steps⟩ L⟩
 ·rcases List.mem_cons.1 e with rfl|e
  ·refine⟨fun v j=>?_,by simp[Hv]⟩;rcases List.mem_append.1 j with l|l
   ·exact h.ws v (by rw[t];simp[l])
   rw[(List.mem_replicate.1 l).2];exact .inl rfl
  rcases List.mem_cons.1 e with rfl|e
  ·exact⟨h.wl,fun v j=>h.ws v (by rw[t];simp[j])⟩
  exact h.g.ws z (by simp[e])
 ·exact .cons ρ x f h.g.top.m h.g.top.p h.fx (by rw[h.eo];exact C) (by have:=h.rl;rw[B]at this;exact this) ⟨h.ty.lo,D⟩ h.g.top.w
 show Cj (Vp E) _ (c.wait++[c.now]).reverse;rw[List.reverse_append];exact .cons ⟨b.now,G,nx⟩ b.wait
def Brm(h:Cz E d ω o r S ρ x y 20 n):Gi E d o r 20 n (Ci E.M 20 n S):=by
 obtain⟨N,s,a,b,i,v,f,j⟩:=h.gen Bd;obtain⟨z,O⟩:=h.num.mth (.inl rfl);obtain⟨k,rfl⟩:∃k:Nat,n=(k:Int):=⟨n.toNat,Bd⟩;have c:k<E.ms.length:=Bd;have A:Cu (Cq E.cs) E.ms (E.meth o.m).result 20 (k:Int)=(E.meth k).params:=rfl;have B:Fg (Cq E.cs) E.ms 20 (k:Int)=Ei (E.meth k).result:=rfl;have C:(E.meth k).cl=255:=by
  have:=h.good.arg o.p h.g.top.p;unfold Cd.argAt at this;rw[Baa,h.eo,h.en]at this;simp only[Cd.argB,Bvr,Bvn,Bwk,By9,Bwp,show ¬(20:Int)=2 by omega,show ¬(20:Int)=3 by omega,show ¬(20:Int)<=14 by omega,show ¬(20:Int)=15 by omega,show ¬(20:Int)=16 by omega,show ¬(20:Int)=19 by omega,show ¬(20:Int)=17 by omega,show ¬(20:Int)=18 by omega,or_self,and_false,Bxk,By3]at this;have e:(List.map Rd.Mth.cl E.ms).getD k 0=(E.meth k).cl:=by
   unfold Cr.meth;simp only[Th,Bv8];rw[Ws c];rfl
  rw[<- e];exact this.2
 rw[A]at f;rw[B]at i;obtain⟨D,F,l,G⟩:=Yn (E.meth k).params.length h.s.now b f.len;have I:Ci E.M 20 (k:Int) S=Hz E.M (k:Int) (a.map Prod.snd) (S.withNow (D6 (E.meth k).params.length S.now).2):=by
  show Vs E.M (k:Int) S=_;unfold Vs;rw[X7 c];unfold I8 Gj;rw[D]
 have q:Jd E d ⟨o.m,o.p,o.lo,s⟩ r (S.withNow (D6 (E.meth k).params.length S.now).2):=⟨h.s.read,h.s.objs,F,h.s.wait,h.s.en,h.s.out,h.s.steps⟩;have t:(S.wait.length:Int)+1=(d.os.length:Int):=by
  have:=h.s.wait.len;rw[h.g.os];simp only[Bzk]at this;simp;omega
 have J:Cj (Ez E.T d.ts ω r.length ρ (Hq (E.meth o.m))) a (Kv (E.meth k).cl (E.meth k).params):=by
  unfold Kv;rw[Sp C];exact f
 obtain⟨K,L⟩:=h.opens c b i rfl v J q (l.trans h.pos) (G.trans h.nx);rw[I];unfold Hz;by_cases g:E.depth<=(d.os.length:Int);·rw[Sp (show E.M.depth<=((S.withNow _).wait.length:Int)+1 by show E.depth<=(S.wait.length:Int)+1;rw[t];exact g)];exact h.fault (k:=5) b j q (l.trans h.pos) Bd Bd (by unfold Dn;simp[g])
 rw[Pf (show ¬E.M.depth<=((S.withNow _).wait.length:Int)+1 by show ¬E.depth<=(S.wait.length:Int)+1;rw[t];exact g)];exact⟨_,⟨s,a,b,j,.inr ⟨by unfold Dn;simp[g],.call rfl z c K⟩⟩,L⟩
end
end Go.Proofs.YtpcgnjolfahacaaGreat
