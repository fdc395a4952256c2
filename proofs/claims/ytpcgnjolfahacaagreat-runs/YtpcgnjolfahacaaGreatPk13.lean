/- the proof's parts -/
import Derived.Test.YtpcgnjolfahacaaGreatPk12
set_option maxRecDepth 100000
set_option maxHeartbeats 40000000
set_option linter.unusedVariables false
set_option linter.unusedSimpArgs false
set_option linter.defProp false
namespace Go.Proofs.YtpcgnjolfahacaaGreat
open Go.RowKit Go.Proofs.Tryz
def Bom{w:TW}{u:Nat}{a:TA}{b:Nat}{f:List Rd.Hnd}(h:Iz w u (.s a f.length b) f){t:Nat}(l:t<f.length):∃g,a=some ⟨g,0,none⟩/\g<w.heap.size/\w.C g (t*4) (.i f[t].frm)/\w.C g (t*4+1) (.i f[t].til)/\w.C g (t*4+2) (.i f[t].target)/\w.C g (t*4+3) (.i f[t].cl):=by
 obtain⟨g,p,v,_,z⟩:=Cf h Ck;have e:=fun j m=>(z _ (Db f t l j m).2).trans (Db f t l j m).1;exact⟨g,p,v,e 0 Ck,e 1 Ck,e 2 Ck,e 3 Ck⟩
def Bls{k:Cz}{M:Br}{X:List Rw}{w:TW}{o:Bz}{lv sv:TX}{r:List (Bz×Value×Value)}{u:Nat}(h:Bm k M X w)(b:M.os=(o,lv,sv)::r)(c:M.oa=some ⟨u,0,none⟩):Bm k (M.put ((⟨o.m,o.p,o.lo,[]⟩,lv,.s none 0 0)::r)) X (w.setCell (.a u (r.length*4+3)) (.s none 0 0)):=by
 obtain⟨f,j,l,q,t,v,z,A,B,C,D,F,G,I⟩:=M;simp only at b c;subst b c;have e:=Own.nil (i:=5) h Ls 240 2;exact Own.cellE (i:=1) e Ls (Tv (o,lv,sv) (⟨o.m,o.p,o.lo,[]⟩,lv,.s none 0 0) r 3 (.s none 0 0) rfl)
def V4 (w:TW)(a:Addr):Nat:=match w.cell? a with
 | some (.slice _ n _)=>n
 | _=>0
theorem Bgf(k:Cz)(M:Br)(X:List Rw)(t:Nat)(w:World)(ok:k.Ok)(h:Bm k M X w)(ht:t<M.ts.length)(hos:M.os.length<=1000)(tl:Int)(hcl:M.ts[t].1.cl=tl)(hall:∀x∈M.os,x.1.m<k.f.ms.length/\(Gf k.E.T tl x.1.p (k.E.meth x.1.m).handlers≠none->1<=(k.E.meth x.1.m).stack)):Calls prog 102 #[.pointer (some ⟨k.B,0,none⟩),.int .i64 (t:Int)] w fun e w'=>e=.returned (.tuple #[])/\∃M',Bm k M' X w'/\M'.d=Fj k.E (t:Int) tl M.d (M.os.map Prod.fst):=by
 generalize hR:Fj k.E (t:Int) tl M.d (M.os.map Prod.fst)=R;have HR0:=Bc (fun (_:Unit)=>hR);have HT:=Bc (fun (_:Unit)=>hcl);have HA:=Bc hall;have htb:(t:Int)<(M.ts.length:Int):=Ck;clear hR hcl hall;go_in;go_wp2
 go_loopw [4] (fun _ wr=>∃l:List (Bz×Value×Value),l.length<=1000/\(∀x∈l,x∈M.os)/\Hid (Bm k (M.put l) X wr)/\Hid (Fj k.E (t:Int) tl M.d (l.map Prod.fst)=R))
  (fun _ wr=>V4 wr ⟨k.B,7,none⟩)
 case atStart=>exact⟨M.os,hos,fun _ h=>h,h,Ba HR0 ()⟩
 case round=>
  clear h HR0 hos;obtain⟨l,hl,hsub,H,HR⟩:=hrel;have h:=Ba H;cases l with
  | nil =>
   have c7:wr.cell? ⟨k.B,7,none⟩=some (.slice M.oa 0 M.oc):=h.cell Ls;have c13:wr.cell? ⟨k.B,13,none⟩=some (.int .i64 M.status):=h.cell Ls;have f13:=h.fz 13;have h1':=Own.cell (i:=0) h Ls 13 (.int .i64 2);have h1:Bm k ((M.put []).fin 2 M.value) X (wr.setCell ⟨k.B,13,none⟩ (.int .i64 2)):=h1';obtain⟨g,hg,hglt,hgc,_⟩:=Pc h1 (show t<((M.put []).fin 2 M.value).ts.length from ht);have c8:(wr.setCell ⟨k.B,13,none⟩ (.int .i64 2)).cell? ⟨k.B,8,none⟩=some (.slice (some ⟨g,0,none⟩) M.ts.length M.tc):=by rw[<- hg];exact h1.cell Ls
   have g0:(wr.setCell ⟨k.B,13,none⟩ (.int .i64 2)).cell? ⟨g,t*3,none⟩=some (.int .i64 tl):=by rw[<- Ba HT ()];exact hgc 0 _ rfl
   have c14:(wr.setCell ⟨k.B,13,none⟩ (.int .i64 2)).cell? ⟨k.B,14,none⟩=some (.int .i64 M.value):=h1.cell Ls;have f14:=h1.fz 14;have h2':=Own.cell (i:=0) h1 Ls 14 (.int .i64 tl);have h2:Bm k ((M.put []).fin 2 tl) X ((wr.setCell ⟨k.B,13,none⟩ (.int .i64 2)).setCell ⟨k.B,14,none⟩ (.int .i64 tl)):=h2';have H2:=Bc h2;clear h h1 h2 h1' h2' hgc hg;go_wp2;go_end0;exact⟨rfl,_,Ba H2,by rw[<- Ba HR];rfl⟩
  | cons x r =>
   obtain⟨o,lv,sv⟩:=x;simp only[Br7]at hl;obtain⟨hm,hroom⟩:=Ba HA _ (hsub _ (Bsd ..));simp only at hm hroom;obtain⟨g,hg,hglt,c7,c0,c1,-,-,-⟩:=Ir h rfl;have c7:wr.cell? ⟨k.B,7,none⟩=some (.slice (some ⟨g,0,none⟩) (r.length+1) M.oc):=c7;obtain⟨ym,fg,hfg,hflt,hcell,his⟩:=RFl.mth (h.fok ok.f) hm;have b1:wr.cell? ⟨k.B,1,none⟩=some (.slice (some ⟨fg,0,none⟩) k.f.ms.length k.f.c2):=by rw[<- hfg];exact h.cell Ls
   have lB:=h.ltB;have hme:=ok.meth hm;have HC7:=Bc (fun (_:Unit)=>c7);have HH:=Bc his.hs;have hhl:=his.hl;have hfg2:k.f.a2=some ⟨fg,0,none⟩:=hfg;obtain⟨cl,nm,pa,pl,pc,r1,r2,lo,st,code,ha,hln,hc,ma,ml,mc,mAt,fin⟩:=ym;simp only at hhl;subst hhl;have hrow:=Oe hcell;simp only at hrow HH;have hbad:∀y∈k.f.ms[o.m].1.m.handlers,0<=y.target:=fun y hy=>(Mr (Bdx ((ok.fm.mt _ (by rw[<- ok.eq];exact Bsc (Brn hm))).hnd y hy)).1).1;have hh4:k.f.ms[o.m].1.m.handlers.length<=1000:=by
    have:=(ok.fm.mt _ (show k.f.ms[o.m].1.m∈k.ms by rw[<- ok.eq];exact Bsc (Brn hm))).bd.hs;omega
   rw[hme]at hroom;have hr:=Ba HR;rw[Bsw,Fj]at hr;simp only at hr;rw[hme]at hr;generalize hHs:k.f.ms[o.m].1.m.handlers=hs at *;have HB:=Bc hbad;have HRM:=Bc hroom;have HRR:=Bc hr;clear hcell his hHs hfg hr hroom hbad hme;generalize hrl:r.length=rl at *;have hS:∀w',Below wr.heap.size wr w'->w'.cell? ⟨k.B,7,none⟩=some (.slice (some ⟨g,0,none⟩) (rl+1) M.oc)/\w'.cell? ⟨k.B,1,none⟩=some (.slice (some ⟨fg,0,none⟩) k.f.ms.length k.f.c2)/\w'.cell? ⟨g,rl*4,none⟩=some (.int .i64 (o.m:Int))/\w'.cell? ⟨fg,o.m*12,none⟩=some (.int .i64 cl)/\w'.cell? ⟨fg,o.m*12+1,none⟩=some (.int .i64 nm)/\w'.cell? ⟨fg,o.m*12+2,none⟩=some (.slice pa pl pc)/\w'.cell? ⟨fg,o.m*12+3,none⟩=some (.int .i64 r1)/\w'.cell? ⟨fg,o.m*12+4,none⟩=some (.int .i64 r2)/\w'.cell? ⟨fg,o.m*12+5,none⟩=some (.int .i64 lo)/\w'.cell? ⟨fg,o.m*12+6,none⟩=some (.int .i64 st)/\w'.cell? ⟨fg,o.m*12+7,none⟩=some (.string code)/\w'.cell? ⟨fg,o.m*12+8,none⟩=some (.slice ha hs.length hc)/\w'.cell? ⟨fg,o.m*12+9,none⟩=some (.slice ma ml mc)/\w'.cell? ⟨fg,o.m*12+10,none⟩=some (.int .i64 mAt)/\w'.cell? ⟨fg,o.m*12+11,none⟩=some (.int .i64 fin):=fun w' hb=>by
    obtain⟨q0,q1,q2,q3,q4,q5,q6,q7,q8,q9,qa,qb⟩:=hrow;exact⟨QC hb lB c7,QC hb lB b1,QC hb hglt c0,QC hb hflt q0,QC hb hflt q1,QC hb hflt q2,QC hb hflt q3,QC hb hflt q4,QC hb hflt q5,QC hb hflt q6,QC hb hflt q7,QC hb hflt q8,QC hb hflt q9,QC hb hflt qa,QC hb hflt qb⟩
   have hw1:IntKind.i64.wrap (((rl+1:Nat):Int)-1)=(rl:Int):=by rw[show ((rl+1:Nat):Int)-1=(rl:Int) by omega];exact Cx _ Ck Ck
   have ri:(rl:Int)<(rl:Int)+1:=Ck;have mi:(o.m:Int)<(k.f.ms.length:Int):=Ck;have kb:(0:Int)<((rl+1:Nat):Int):=Ck;have hB1:Below wr.heap.size wr (wr.alloc (O12 cl nm pa pl pc r1 r2 lo st code ha hs.length hc ma ml mc mAt fin)).drew:=(QN _).drew;clear hrow;go_wp2
   go_region_held3 (fun w'=>w'.cell? ⟨k.B,7,none⟩=some (.slice (some ⟨g,0,none⟩) (rl+1) M.oc)/\w'.cell? ⟨k.B,1,none⟩=some (.slice (some ⟨fg,0,none⟩) k.f.ms.length k.f.c2)/\w'.cell? ⟨g,rl*4,none⟩=some (.int .i64 (o.m:Int))/\w'.cell? ⟨fg,o.m*12,none⟩=some (.int .i64 cl)/\w'.cell? ⟨fg,o.m*12+1,none⟩=some (.int .i64 nm)/\w'.cell? ⟨fg,o.m*12+2,none⟩=some (.slice pa pl pc)/\w'.cell? ⟨fg,o.m*12+3,none⟩=some (.int .i64 r1)/\w'.cell? ⟨fg,o.m*12+4,none⟩=some (.int .i64 r2)/\w'.cell? ⟨fg,o.m*12+5,none⟩=some (.int .i64 lo)/\w'.cell? ⟨fg,o.m*12+6,none⟩=some (.int .i64 st)/\w'.cell? ⟨fg,o.m*12+7,none⟩=some (.string code)/\w'.cell? ⟨fg,o.m*12+8,none⟩=some (.slice ha hs.length hc)/\w'.cell? ⟨fg,o.m*12+9,none⟩=some (.slice ma ml mc)/\w'.cell? ⟨fg,o.m*12+10,none⟩=some (.int .i64 mAt)/\w'.cell? ⟨fg,o.m*12+11,none⟩=some (.int .i64 fin))
    (first|with_reducible exact hS _ (Brm _ _).drew|with_reducible exact hS _ (QN _).drew)
    (fail)
   have hA1:=h.below hB1;have CM:=Be wr (O12 cl nm pa pl pc r1 r2 lo st code ha hs.length hc ma ml mc mAt fin);have CM1:(wr.alloc (O12 cl nm pa pl pc r1 r2 lo st code ha hs.length hc ma ml mc mAt fin)).drew.heap[wr.heap.size]?=some (O12 cl nm pa pl pc r1 r2 lo st code ha hs.length hc ma ml mc mAt fin):=CM;have d7:=(hB1.cell (p:=⟨k.B,7,none⟩) lB).trans c7;have d1:=(hB1.cell (p:=⟨g,rl*4+1,none⟩) hglt).trans c1;have HH1:=Bc (fun (w':World) (hb:Below (wr.alloc (O12 cl nm pa pl pc r1 r2 lo st code ha hs.length hc ma ml mc mAt fin)).drew.heap.size (wr.alloc (O12 cl nm pa pl pc r1 r2 lo st code ha hs.length hc ma ml mc mAt fin)).drew w')=>Iz.kp (Ba HH) (Kp.of_below (e:=none) (QB hB1 hb)) Fm);have H1:=Bc hA1;clear hS c7 c0 c1 b1 hB1 CM HH H h hA1;generalize (wr.alloc (O12 cl nm pa pl pc r1 r2 lo st code ha hs.length hc ma ml mc mAt fin)).drew=w1 at *;generalize hmb:wr.heap.size=mb at *;have m8:w1.cell? ⟨mb,8,none⟩=some (.slice ha hs.length hc):=(Bb CM1 8).trans rfl;obtain⟨Z,hZ⟩:∃Z,Gf k.E.T tl o.p hs=Z:=⟨_,rfl⟩;have HZ:Hid (Gf k.E.T tl o.p (hs.drop 0)=Z):=hZ;have HZ0:=Bc (fun (_:Unit)=>hZ);clear hZ;go_wp2
   go_loopw [7] (fun i wq=>∃j:Nat,j<=hs.length/\i=.int .i64 (j:Int)/\Hid (Gf k.E.T tl o.p (hs.drop j)=Z)/\Below w1.heap.size w1 wq)
    (fun i _=>hs.length-(intOf i).toNat)
   case atStart=>exact⟨0,Ck,rfl,HZ,Brm _ _⟩
   case round=>
    obtain⟨j,hj,rfl,HZ,hB⟩:=hrel;have hA:=(Ba H1).below hB;have lmb:=Sp CM1;have e8:=(hB.cell (p:=⟨mb,8,none⟩) lmb).trans m8;by_cases hjn:j<hs.length
    ·obtain⟨gh,rfl,hghl,y0,y1,y2,y3⟩:=Bom (Ba HH1 _ hB) hjn;have hz:=Ba HZ;rw[Brj hjn,Gf]at hz;have h0:=Ba HB _ (Brn hjn);obtain⟨gt,hgt,hgtl,hgc,_⟩:=Pc hA (show t<(M.put ((o,lv,sv)::r)).ts.length from ht);have c8:wr.cell? ⟨k.B,8,none⟩=some (.slice (some ⟨gt,0,none⟩) M.ts.length M.tc):=by rw[<- hgt];exact hA.cell Ls
     have g0:wr.cell? ⟨gt,t*3,none⟩=some (.int .i64 tl):=by rw[<- Ba HT ()];exact hgc 0 _ rfl
     have b0:wr.cell? ⟨k.B,0,none⟩=some (.slice k.f.a1 k.f.l.length k.f.c1):=hA.cell Ls;have b1:wr.cell? ⟨k.B,1,none⟩=some (.slice (some ⟨fg,0,none⟩) k.f.ms.length k.f.c2):=by rw[<- hfg2];exact hA.cell Ls
     have lBr:=hA.ltB;have hok:=hA.fok ok.f;generalize hs[j]=y at *;obtain⟨yf,yt,yg,yc⟩:=y;simp only at y0 y1 y2 y3 hz h0;have hBe:=fun w' (h':k.f.ok w')=>J9 k.f.a1 (some ⟨fg,0,none⟩) k.f.c1 k.f.ms.length k.f.c2 k.f.bb k.f.l tl yc w' (by have:=h'.1;omega) h'.2.2.2.2.1;have eT:Ct k.f.l=k.E.T:=ok.T;rw[eT]at hBe;generalize Tr.rbel k.E.T tl yc=B at *;have HBe:=Bc hBe;have hBW:Below wr.heap.size wr (wr.alloc (O14 yf yt yg yc)):=QN _;have CH:=Be wr (O14 yf yt yg yc);have HOK:=Bc (hok.below hBW);have k0:=(hBW.cell (p:=⟨k.B,0,none⟩) lBr).trans b0;have k1:=(hBW.cell (p:=⟨k.B,1,none⟩) lBr).trans b1;have k8:=(hBW.cell (p:=⟨k.B,8,none⟩) lBr).trans c8;have kg:=(hBW.cell (p:=⟨gt,t*3,none⟩) hgtl).trans g0;have v3:(wr.alloc (O14 yf yt yg yc)).cell? ⟨wr.heap.size,3,none⟩=some (.int .i64 yc):=(Bb CH 3).trans rfl;have v0:(wr.alloc (O14 yf yt yg yc)).cell? ⟨wr.heap.size,0,none⟩=some (.int .i64 yf):=(Bb CH 0).trans rfl;have v1:(wr.alloc (O14 yf yt yg yc)).cell? ⟨wr.heap.size,1,none⟩=some (.int .i64 yt):=(Bb CH 1).trans rfl;have v2:(wr.alloc (O14 yf yt yg yc)).cell? ⟨wr.heap.size,2,none⟩=some (.int .i64 yg):=(Bb CH 2).trans rfl;have lV:=Sp CH;have lB2:=Brs lBr hBW.size;have lg2:=Brs hgtl hBW.size;have hBw:=QB hB hBW;have jb:(j:Int)<(hs.length:Int):=Ck;have H2:=Bc (hA.below hBW);have hvb:=hB.size;clear hBe hok hgc hgt HZ CH eT hA;go_wp2;generalize wr.alloc (O14 yf yt yg yc)=W at *;generalize wr.heap.size=vb at *
     go_region_held3 (fun w'=>w'.cell? ⟨k.B,0,none⟩=some (.slice k.f.a1 k.f.l.length k.f.c1)/\w'.cell? ⟨k.B,1,none⟩=some (.slice (some ⟨fg,0,none⟩) k.f.ms.length k.f.c2)/\w'.cell? ⟨k.B,8,none⟩=some (.slice (some ⟨gt,0,none⟩) M.ts.length M.tc)/\w'.cell? ⟨gt,t*3,none⟩=some (.int .i64 tl)/\w'.cell? ⟨vb,3,none⟩=some (.int .i64 yc))
      (first|exact⟨k0,k1,k8,kg,v3⟩|exact⟨QC hb7 lB2 k0,QC hb7 lB2 k1,QC hb7 lB2 k8,QC hb7 lg2 kg,QC hb7 lV v3⟩)
      (first|(go_at_call 91;refine(Ba HBe _ ((Ba HOK).below (Brm _ _).drew)).mono ?_;rintro e w7 ⟨rfl,hb7⟩))
     have u0:=(hb7.cell (p:=⟨vb,0,none⟩) lV).trans v0;have u1:=(hb7.cell (p:=⟨vb,1,none⟩) lV).trans v1;have u2:=(hb7.cell (p:=⟨vb,2,none⟩) lV).trans v2;have hB7:=hBw.drew.trans (hb7.mono hBw.size);have h7:=(Ba H2).drew.below hb7;have lV7:=Brs lV hb7.size;have H7:=Bc h7;clear hb7 k0 k1 k8 kg v0 v1 v2 v3 b0 b1 c8 g0 y0 y1 y2 y3 HBe HOK H2 e8 hB hBw hBW lB2 lg2 lV lBr hghl hgtl h7;by_cases z:yf<=(o.p:Int)/\(o.p:Int)<yt/\B=true
     ·obtain⟨z1,z2,rfl⟩:=z;rw[Th ⟨z1,z2,rfl⟩]at hz;subst hz;have hr:=Ba HRR;rw[Ba HZ0 ()]at hr;simp only at hr;have hrm:=Ba HRM (by rw[Ba HZ0 ()];simp);have h7:=Ba H7;obtain⟨g',hg',hglt7,c7,-,c1,-,c3,cfz⟩:=Ir h7 rfl;have eg:=(show M.oa=_ from hg).symm.trans (show M.oa=_ from hg');simp only[Option.some.injEq,Addr.mk.injEq,Br8]at eg;subst eg;have c7:w7.cell? ⟨k.B,7,none⟩=some (.slice (some ⟨g,0,none⟩) (r.length+1) M.oc):=c7;rw[hrl]at c7 c1 c3;have f1:=cfz (rl*4+1);have hgB:g≠k.B:=fun e=>by
       have h':=h7.nd;unfold Br.rows at h';simp only[Bs5,Bvx]at h';exact h'.1 _ (Bsd ..) k.B rfl (by rw[hg',e];rfl)
      have hgv:g≠vb:=fun e=>Ck;have h8:=Sw h7 rfl hg' yg.toNat;rw[Bsr h0,hrl]at h8;have h8:=Own.drew h8;have hS:∀w':World,w'.heap[k.B]?=w7.heap[k.B]?->w'.heap[vb]?=w7.heap[vb]?->w'.cell? ⟨k.B,7,none⟩=some (.slice (some ⟨g,0,none⟩) (rl+1) M.oc)/\w'.cell? ⟨vb,2,none⟩=some (.int .i64 yg):=fun w' e1 e2=>⟨(Brr (a:=⟨k.B,7,none⟩) e1).trans c7,(Brr (a:=⟨vb,2,none⟩) e2).trans u2⟩;have q1:decide (yf<=(o.p:Int))=true:=by simpa using z1
      have q2:decide ((o.p:Int)<yt)=true:=by simpa using z2
      have HR8:=Bc (fun (_:Unit)=>hr);have H8:=Bc h8;clear hr h7 H7 h8 c3 cfz HRR HZ0 HRM;go_wp2
      go_region_held3 (fun w'=>w'.cell? ⟨k.B,7,none⟩=some (.slice (some ⟨g,0,none⟩) (rl+1) M.oc)/\w'.cell? ⟨vb,2,none⟩=some (.int .i64 yg))
       (first|exact hS w7.drew rfl rfl|exact hS _ (Brk _ _ _ _ (Btj hgB)) (Brk _ _ _ _ (Btj hgv)))
       (fail)
      have h8:=Ba H8;obtain⟨g8,hg8,hglt8,d7,-,-,-,d3,dfz⟩:=Ir h8 rfl;have eg:=(show M.oa=_ from hg).symm.trans (show M.oa=_ from hg8);simp only[Option.some.injEq,Addr.mk.injEq,Br8]at eg;subst eg;obtain⟨w8,hw8⟩:∃w8,w8=(w7.setCell ⟨g,rl*4+1,none⟩ (.int .i64 yg)).drew:=⟨_,rfl⟩;rw[<- hw8]at h8 d7 d3 dfz ⊢;have d7:w8.cell? ⟨k.B,7,none⟩=some (.slice (some ⟨g,0,none⟩) (r.length+1) M.oc):=d7;have h9:=Bls h8 rfl hg8;rw[hrl]at d7 d3 h9;have f3:=dfz (rl*4+3);have HP:=Bc (Ja k _ X ⟨o.m,yg.toNat,o.lo,[]⟩ lv (.slice none 0 0) r 2 (t:Int) _ ok.f h9 rfl hm (by show (0:Int)<k.f.ms[o.m].1.m.stack;omega) Ck Hd);clear h8 h9 dfz hS c7 c1 u0 u1 u2 H8 hw8;go_wp2_with fail;refine(Ba HP).mono ?_;rintro e w9 ⟨rfl,sv9,h9⟩;have H9:=Bc h9;clear HP h9 d7 d3;go_wp2;refine Wf (Btf rfl _ _ _) rfl ?_;exact⟨rfl,_,Ba H9,by rw[<- Ba HR8 ()];rfl⟩
     have HG:Hid (Gf k.E.T tl o.p (hs.drop (j+1))=Z):=by unfold Hid;rw[<- hz,Pk z]
     clear hz;have key:decide (yf<=(o.p:Int))=false\/(decide (yf<=(o.p:Int))=true/\decide ((o.p:Int)<yt)=false)\/(decide (yf<=(o.p:Int))=true/\decide ((o.p:Int)<yt)=true/\B=false):=by
      simp only[Bsv,Bti];by_cases g1:yf<=(o.p:Int)
      ·by_cases g2:(o.p:Int)<yt;·exact .inr (.inr ⟨g1,g2,by cases B;rfl;exact absurd ⟨g1,g2,rfl⟩ z⟩)
       exact .inr (.inl ⟨g1,g2⟩)
      exact .inl g1
     clear z;rcases key with q1|⟨q1,q2⟩|⟨q1,q2,rfl⟩
     all_goals
      go_wp2;go_roundw
      case rel=>exact⟨j+1,Ck,Mg,HG,hB7⟩
      case measure=>simp[intOf];omega
    have kj:¬(j:Int)<(hs.length:Int):=Ck;have hz:=Ba HZ;rw[Brq Ck,Gf]at hz;subst hz;have hr:=Ba HRR;rw[Ba HZ0 ()]at hr;have HR2:Hid (Fj k.E (t:Int) tl M.d (r.map Prod.fst)=R):=hr;have hcap:(((o,lv,sv)::r).length)<=M.oc:=Bpw hA;have hcap':rl+1<=M.oc:=by rw[<- hrl];exact hcap
    have hc1:¬M.oc<rl:=Ck;have hc2:(rl:Int)<=(M.oc:Int):=Ck;have r0:(0:Int)<=(rl:Int):=Ck;have c7:wr.cell? ⟨k.B,7,none⟩=some (.slice (some ⟨g,0,none⟩) (rl+1) M.oc):=QC hB (Brs lB (Bsx lmb)) d7;have f7:=hA.fz 7;have h3:=Au hA rfl;have hg':M.oa=some ⟨g,0,none⟩:=hg;have h3':Bm k (M.put r) X (wr.setCell ⟨k.B,7,none⟩ (.slice M.oa r.length M.oc)):=h3;rw[hg',hrl]at h3';have hm7:V4 (wr.setCell ⟨k.B,7,none⟩ (.slice (some ⟨g,0,none⟩) rl M.oc)) ⟨k.B,7,none⟩=rl:=by
     have:(wr.setCell ⟨k.B,7,none⟩ (.slice (some ⟨g,0,none⟩) rl M.oc)).cell? ⟨k.B,7,none⟩=some (.slice M.oa r.length M.oc):=h3'.cell Ls;unfold V4;rw[this];exact hrl
    have H3:=Bc h3';have HM7:=Bc (fun (_:Unit)=>hm7);clear hr HZ hcap h3 h3' hA hm7 HRR HZ0;go_wp2;go_roundw
    case rel=>exact⟨r,Ck,fun x hx=>hsub x (Bsh _ hx),Ba H3,HR2⟩
    case measure=>
     rw[Ba HM7 ()];unfold V4;rw[Ba HC7 ()];show rl<rl+1;omega
def Bbw(k:Cz)(op n:Int)(v:TX)(w:TW)(b:∃a m c,v=.s a m c)(f:op=12\/op=13\/op=14):Calls prog 153 #[.q k.B 0,.i op,.i n,v] w fun e g=>e=.r (.tuple #[])/\g=w:=by
 obtain⟨a,m,c,rfl⟩:=b;rcases f with rfl|rfl|rfl
 all_goals
  go_in;go_wp2;go_end0;exact⟨rfl,rfl⟩
def Cz.Ok.flds{k:Cz}(b:k.Ok):k.f.fields=Cp k.cs:=by
 have e:k.f.l.length-7=k.cs.length:=by
  have:=congrArg List.length b.l;simp[Rf.given]at this;omega
 have c:Ct k.f.l=Tr.tree k.cs:=b.T;unfold Cp;rw[<- b.l,<- e,<- c];rfl
abbrev Br.on(k:Cz)(M:Br)(o:Bz)(lv sv:Value)(r:List (Bz × Value × Value)):Br:=M.put ((⟨o.m,Cg k.E o,o.lo,o.st⟩,lv,sv)::r)
structure Bae(k:Cz)(M:Br)(o:Bz)(r:List (Bz × Value × Value)):Prop where
 m:o.m<k.f.ms.length
 rl:r.length<=900
 st:o.st.length<=900
 rs:∀q∈r,q.1.st.length<=900/\q.1.m<k.f.ms.length
 ts:M.ts.length<=900
 md:M.made<=900
 out:M.out.length<=90000
section
variable {k:Cz}{M:Br}{X:List Rw}{o:Bz}{lv sv:Value}{r:List (Bz × Value × Value)}{op n:Int}{a:List (Int × Int)}{va:Option Addr}{vc:Nat}{w:World}{d':Cv}
def Bgk(p:k.Ok)(R:Bae k M o r)(h:Bm k (M.on k o lv sv r) X w)(I:2<=op/\op<=6)(F:Bq k.E M.d o (r.map Prod.fst) op n a d'):Calls prog 150 #[.q k.B 0,.i op,.i n] w fun e c=>e=.r (.tuple #[])/\∃C,Bm k C X c/\C.d=d':=by
 have t:=R.m;have A:=p.meth t;have g:r.length<=1000:=by have:=R.rl;omega
 have l:o.st.length<=1000:=by have:=R.st;omega
 cases F using Bq.el with
 | load e n0 nl v0 hl =>
  obtain⟨j,rfl⟩:=Brp n0;have D:j<o.lo.length:=Ck;have G:o.lo.getD j (0,0)=o.lo[j]:=by rw[Vm,Brl D];rfl
  simp only[Brx,G]at v0 ⊢;subst e;rw[A]at hl;refine(Biv k _ X ⟨o.m,Cg k.E o,o.lo,o.st⟩ lv sv r j w p.f h rfl g l t hl D v0).mono ?_;rintro e c ⟨rfl,z,b⟩;exact⟨rfl,_,b,rfl⟩
 | store s v e n0 nl est =>
  obtain⟨j,rfl⟩:=Brp n0;subst e;refine(Bgi k _ X ⟨o.m,Cg k.E o,o.lo,o.st⟩ lv sv r j s v w h rfl g l est (by show j<o.lo.length;omega)).mono ?_;rintro e c ⟨rfl,z,b⟩;exact⟨rfl,_,b,rfl⟩
 | pop s v e est =>
  subst e;refine(Blp k _ X ⟨o.m,Cg k.E o,o.lo,o.st⟩ lv sv r n s v w h rfl g l est).mono ?_;rintro e c ⟨rfl,z,b⟩;exact⟨rfl,_,b,rfl⟩
 | dup s v e est hl =>
  subst e;rw[A]at hl;refine(Blr k _ X ⟨o.m,Cg k.E o,o.lo,o.st⟩ lv sv r n s v w p.f h rfl g l est t hl).mono ?_;rintro e c ⟨rfl,z,b⟩;exact⟨rfl,_,b,rfl⟩
 | swap s u v e est hl =>
  subst e;rw[A]at hl;refine(Bin k _ X ⟨o.m,Cg k.E o,o.lo,o.st⟩ lv sv r n s u v w p.f h rfl g l est t hl).mono ?_;rintro e c ⟨rfl,z,b⟩;exact⟨rfl,_,b,rfl⟩
 | _=>omega
def We(l:k.Ok)(R:Bae k M o r)(h:Bm k (M.on k o lv sv r) (Da (.s va a.length vc) a::X) w)(hn:-1<=n/\n<=255)(hv:7<=op->op<=10->(-2147483648<=(Ce a).2/\(Ce a).2<=2147483647)/\(-2147483648<=(Hl a).2/\(Hl a).2<=2147483647))(a3:¬(2<=op/\op<=6)/\op≠11/\op≠15/\op≠16/\op≠20/\op≠21/\op≠22)(F:Hq op a=false)(hD:Bq k.E M.d o (r.map Prod.fst) op n a d'):Calls prog 153 #[.q k.B 0,.i op,.i n,.s va a.length vc] w fun e p=>e=.r (.tuple #[])/\∃M',Bm k M' (Da (.s va a.length vc) a::X) p/\M'.d=d':=by
 have D:=R.m;have K:=l.meth D;have G:r.length<=1000:=by have:=R.rl;omega
 have I:o.st.length<=1000:=by have:=R.st;omega
 have A:M.d.ts=M.ts.map Prod.fst:=rfl;have a2:(E:Cs)->E=k.E->∀j,j<(Cp k.cs).length->∃h:j<k.f.fields.length,k.f.fields[j]=E.fld (j:Int):=fun E e j F=>by
  subst e;refine⟨by rw[l.flds];exact F,?_⟩;unfold Cs.fld;simp only[Brx];have e2:=l.flds;rw[Vm];show _=((Cp k.cs)[j]?).getD _;rw[Brl F];simp only[Bwb]
  congr 1
 cases hD using Bq.el with
 | stay h12 h14 _ _ _ =>
  refine Qm (Bbw k op n _ w ⟨_,_,_,rfl⟩ Ck) ?_;rintro p rfl;exact⟨rfl,_,h,rfl⟩
 | jump _ _ _ _ _ hj'=>rw[F]at hj';cases hj'
 | push hp h17 h1 h2 hl =>
  rw[K]at hl;by_cases g:op=17
  ·subst g;obtain⟨L,N,O,Q,V,Y⟩:=h17 rfl;have C:=h1 (.inl rfl);obtain⟨j,rfl⟩:=Brp L;obtain⟨q,v⟩:=Brp O;obtain⟨t,c⟩:=Brp Q;obtain⟨Z,a0⟩:=a2 _ rfl j N;have z:t<M.ts.length:=by
    rw[c,A,Br1]at V;omega
   rw[c,v,A,Sv z]at Y;have ea:a[0].2=(t:Int):=by
    rw[<- c];show _=(a.getD 0 (0,0)).2;rw[Vm,Brl C];rfl
   have J:q<M.ts[t].1.vals.length:=Ck;have ep:Kz k.E M.d 17 (j:Int) a=M.ts[t].1.vals[q]:=by
    show (Cc M.d.ts (Ce a).2).vals.getD (k.E.fld (j:Int)).slot.toNat (0,0)=_;rw[c,v,A,Sv z,Vm];simp only[Bt3,Brx];rw[Brl J];rfl
   rw[ep];refine(Xh k 17 (j:Int) _ w ⟨_,_,_,rfl⟩ (.inl rfl) _ (Blq k (M.on k o lv sv r) X ⟨o.m,Cg k.E o,o.lo,o.st⟩ lv sv r j t q a va vc w l.f h rfl G I D hl C ea z Z (by rw[a0];exact v) J)).mono ?_;rintro e p ⟨rfl,a1,b⟩;exact⟨rfl,_,b,rfl⟩
  refine(Bch k (M.on k o lv sv r) X ⟨o.m,Cg k.E o,o.lo,o.st⟩ lv sv r op n a va vc w l h rfl G I D hl Ck hn (fun e=>h1 (.inr e)) h2 hv).mono ?_;rintro e p ⟨rfl,a1,b⟩;exact⟨rfl,_,b,rfl⟩
 | read e hrd hl =>
  subst e;rw[K]at hl;refine(Bgj k (M.on k o lv sv r) _ ⟨o.m,Cg k.E o,o.lo,o.st⟩ lv sv r n _ w l h rfl G I D hl ⟨_,_,_,rfl⟩ hrd).mono ?_;rintro e p ⟨rfl,a1,b⟩;exact⟨rfl,_,b,rfl⟩
 | none e hrd hl =>
  subst e;rw[K]at hl;refine(Bci k (M.on k o lv sv r) _ ⟨o.m,Cg k.E o,o.lo,o.st⟩ lv sv r n _ w l h rfl G I D hl ⟨_,_,_,rfl⟩ hrd).mono ?_;rintro e p ⟨rfl,a1,b⟩;exact⟨rfl,_,b,rfl⟩
 | out e C =>
  subst e;refine Qm (Ben k (M.on k o lv sv r) X n a va vc w h C (by have:=R.out;show M.out.length<=100000;omega)) ?_;rintro p ⟨xa,xc,b⟩;exact⟨rfl,_,b,rfl⟩
 | put e C L N O Q V Y =>
  subst e;obtain⟨j,rfl⟩:=Brp L;obtain⟨q,v⟩:=Brp O;obtain⟨t,c⟩:=Brp Q;obtain⟨Z,a0⟩:=a2 _ rfl j N;have z:t<M.ts.length:=by
   rw[c,A,Br1]at V;omega
  rw[c,v,A,Sv z]at Y;have ea:(a[0]'Ck).2=(t:Int):=by
   rw[<- c];show _=(a.getD 0 (0,0)).2;rw[Vm,Brl Ck];rfl
  have J:q<M.ts[t].1.vals.length:=Ck;have e1:Hl a=a[1]:=by
   show a.getD 1 (0,0)=_;rw[Vm,Brl Ck];rfl
  rw[c,v,A,Sv z,e1];refine Qm (Xh k 18 (j:Int) _ w ⟨_,_,_,rfl⟩ (.inr rfl) _ (Blo k (M.on k o lv sv r) X j t q a va vc w l.f h C ea z Z (by rw[a0];exact v) J)) ?_;intro p b;refine⟨rfl,_,b,?_⟩;simp[Br.d,Br.withTs,Br.put,Cv.with,But]
 | _=>omega
end
def J7{k:Cz}{M:Br}{X:List Rw}{w:TW}{y:Rw}(h:Bm k M (y::X) w):Bm k M X w:=Own.sub h ((Btc y X).append_left _)
def Cz.Ok.good{k:Cz}(b:k.Ok){u:Nat}(h:u<k.f.ms.length):Pa k.E.T (Cd.fieldSum k.cs:Int) k.ms (k.E.meth u):=b.fm.mt _ (by rw[b.meth h,<- b.eq];exact Bsc (Brn h))
def Cz.Ok.ml{k:Cz}(b:k.Ok):k.E.ms.length=k.f.ms.length:=by
 show k.ms.length=_;rw[<- b.eq,Br1]
def Wk{E:Cs}{c B:Int}{u:Nat}:∀(l:List Rd.Mth) (i b:Nat),b<u->i+l.length<=u->En E c B l i b<u
 | [],_,_,h,_=>h
 | m::l,i,b,h,h2=>by
  simp only[Br7]at h2;unfold En
  split
  ·exact Wk l (i+1) i Ck Ck
  exact Wk l (i+1) b h Ck
def Bm5{op:Int}{a:TP}(h:Hq op a=true):op=11\/op=12/\(Ce a).2=0\/op=14/\(Ce a).2=0\/op=13/\(Ce a).2<(Hl a).2:=by
 unfold Hq at h;simp only[Bwj,Bsq,Bvb,Bsv]at h;rcases h with ((h|h)|h)|h
 ·exact .inl h
 ·exact .inr (.inl h)
 ·exact .inr (.inr (.inl h))
 exact .inr (.inr (.inr h))
def Bkd{op:Int}{a:TP}(h:Hq op a=false):op≠11/\(op=12->(Ce a).2≠0)/\(op=14->(Ce a).2≠0)/\(op=13->¬(Ce a).2<(Hl a).2):=by
 unfold Hq at h;simp only[Bty,Bool.and_eq_false_iff,Bvj,Bti]at h;obtain⟨⟨⟨b,c⟩,f⟩,g⟩:=h;exact⟨b,fun e=>c.resolve_left (fun k=>k e),fun e=>f.resolve_left (fun k=>k e),fun e=>g.resolve_left (fun k=>k e)⟩
structure Bek(k:Cz)(M:Br)(o:Bz)(r:List (Bz × Value × Value))(m:RMV)(a:List (Int × Int))(op n:Int)(d':Cv):Prop where
 ok:k.Ok
 R:Bae k M o r
 code:Ca m.code=(k.E.meth o.m).code
 r1:m.r1=(k.E.meth o.m).result.1
 p:o.p<(k.E.meth o.m).code.length
 eo:(k.E.meth o.m).code.getD o.p 0=op
 en:Cd.atI (k.E.meth o.m).code ((o.p:Int)+1)=n
 v:7<=op->op<=10->(-2147483648<=(Ce a).2/\(Ce a).2<=2147483647)/\(-2147483648<=(Hl a).2/\(Hl a).2<=2147483647)
 D:Bq k.E M.d o (r.map Prod.fst) op n a d'
def Bix(k:Cz)(M:Br)(X:List Rw)(o:Bz)(lv sv:TX)(r:List (Bz×Value×Value))(m:RMV)(a:TP)(va:TA)(vc:Nat)(op n:Int)(d':Cv)(w:TW)(P:Bek k M o r m a op n d')(h:Bm k M (Da (.s va a.length vc) a::X) w)(hM:M.os=(o,lv,sv)::r):Calls prog 103 #[.q k.B 0,m.val,.i (o.p:Int),.s va a.length vc] w fun e A=>e=.r (.tuple #[])/\∃M',Bm k M' X A/\M'.d=d':=by
 have K:=P.ok;have g1:m.code.size<=1000:=by
  have:=(K.fm.mt _ (show k.E.meth o.m∈k.ms by rw[K.meth P.R.m,<- K.eq];exact Bsc (Brn P.R.m))).bd.code;rw[<- P.code,He]at this;omega
 have hp:o.p<m.code.size:=by rw[<- He,P.code];exact P.p
 have c5:=fun A=>Mz m o.p A hp Ck;rw[Ll,P.code,P.en]at c5;have hN:=fun A=>Lz m o.p A hp Ck;rw[P.code]at hN;have c6:o.p+Cd.wd ((k.E.meth o.m).code.getD o.p 0)=Cg k.E o:=rfl;rw[c6]at hN;have b6:(m.code[o.p].toNat:Int)=op:=by rw[<- Kq _ _ hp,P.code,P.eo]
 have g3:-1<=n/\n<=255:=by
  rw[<- P.en,<- P.code,<- Ll];exact Rf.at_bd _ _
 have HP:=Bc P;obtain⟨cl,nm,pa,pl,pc,r1,r2,lo,st,a7,ha,hl,hc,ma,ml,mc,a8,a9⟩:=m;simp only[RMV.val]at c5 hN b6 hp g1 ⊢;have i1:(o.p:Int)<(a7.size:Int):=Ck;have i2:∀c:UInt8,IntKind.i64.wrap (c.toNat:Int)=(c.toNat:Int):=fun c=>Cx _ Ck (by have:=c.toNat_lt;omega);have g4:=Bc c5;have HN:=Bc hN;have H:=Bc h;have g5:=Bc (fun (_:Unit)=>b6);have hD:=P.D;clear c5 hN P h g1 c6 b6;obtain⟨d2,d7⟩:∃d2,d2=d':=⟨_,rfl⟩;rw[<- d7]at hD;have a3:=Bc hD;have a0:=Bc (fun (_:Unit)=>d7);clear hD d7;go_in;go_wp2_with fail;refine Qm (Ba g4 _) ?_;intro w1 d8;have i3:Bl w w1:=(QN (O12 cl nm pa pl pc r1 r2 lo st a7 ha hl hc ma ml mc a8 a9)).trans (d8.mono Hd);have CM:=stay d8 (Be w (O12 cl nm pa pl pc r1 r2 lo st a7 ha hl hc ma ml mc a8 a9));have d9:=Sp CM;have hA:=(Ba H).below i3;generalize k1:w.heap.size=G at *;have b1:∀A:TW,A.heap[G]?=some (O12 cl nm pa pl pc r1 r2 lo st a7 ha hl hc ma ml mc a8 a9)->A.C G 0 (.i cl)/\A.C G 1 (.i nm)/\A.C G 2 (.s pa pl pc)/\A.C G 3 (.i r1)/\A.C G 4 (.i r2)/\A.C G 5 (.i lo)/\A.C G 6 (.i st)/\A.C G 7 (.string a7)/\A.C G 8 (.s ha hl hc)/\A.C G 9 (.s ma ml mc)/\A.C G 10 (.i a8)/\A.C G 11 (.i a9):=fun A e=>⟨(Bb e 0).trans rfl,(Bb e 1).trans rfl,(Bb e 2).trans rfl,(Bb e 3).trans rfl,(Bb e 4).trans rfl,(Bb e 5).trans rfl,(Bb e 6).trans rfl,(Bb e 7).trans rfl,(Bb e 8).trans rfl,(Bb e 9).trans rfl,(Bb e 10).trans rfl,(Bb e 11).trans rfl⟩;have b6:=Ba g5 ();rw[b6];clear b6 g5 g4 d8 i2 hp i1;have R:=(Ba HP).R;have g6:M.os.length<=1000:=by
  have:=R.rl;rw[hM];simp;omega
 by_cases k2:op=20\/op=21\/op=22
 ·have hD:=Ba a3;cases hD using Bq.el with
  | call e n0 nl al =>
   subst e;obtain⟨j,rfl⟩:=Brp n0;simp only[Bt3,Brx]at nl al a0 ⊢;have b8:j<k.f.ms.length:=by rw[<- K.ml];exact nl
   have f0:=(K.good b8).rd.lo;have HC:=Bc (Wg k M X j (k.E.meth j).locals.toNat a va vc w1 K.f hA b8 (by rw[Bsr f0.1,K.meth b8]) Ck Ck g6);clear HN H a3 CM b1 hA HP;go_wp2_with fail;refine Qm (Ba HC) ?_;rintro L ⟨i4,oa,oc,F⟩;have Y:=Bc (J7 F);clear HC F;go_wp2;refine Wf (Btf rfl _ _ _) rfl ?_;exact⟨rfl,_,Ba Y,by rw[<- Ba a0 ()];simp[Br.d,Br.open,hM,Cv.top,Hg]⟩
  | send e n0 nl al v0 vl sl =>
   subst e;obtain⟨j,rfl⟩:=Brp n0;obtain⟨t,ht⟩:=Brp v0;simp only[Bt3,Brx]at nl ht;have b8:j<k.f.ms.length:=by rw[<- K.ml];exact nl
   have tl:t<M.ts.length:=by
    rw[ht]at vl;have:(M.d.ts.length:Int)=(M.ts.length:Int):=by simp[Br.d]
    omega
   obtain⟨ga,rfl,_,-,N⟩:=vxg hA al;simp only[Bsm,Brz]at N;rw[show (a.getD 0 (0,0)).2=(t:Int) from ht]at N;have O:=Bc (Bip k M _ j t w1 K hA b8 tl);have k3:(0:Int)<(a.length:Int):=Ck;have hb:∃b,N1 k.E M.d (j:Int) (Ce a).2=b:=⟨_,rfl⟩;obtain⟨b,hb⟩:=hb;have f2:b<k.f.ms.length:=by
    rw[<- hb,<- K.ml];exact Wk _ _ _ nl Ck
   have i5:=Bc (fun (_:Unit)=>hb);have b9:=hb;rw[ht]at b9;simp only[Bt3,hb,b9]at sl O;have f0:=(K.good f2).rd.lo;have HC:=Bc (fun (A:TW) (hB:Bl w1 A)=>Wg k M X b (k.E.meth b).locals.toNat a _ vc A K.f (hA.below hB) f2 (by rw[Bsr f0.1,K.meth f2]) Ck Ck g6);clear HN H a3 CM b1 hA HP hb ht vl v0 b9;go_wp2_with fail;refine Qm (Ba O) ?_;intro w2 b9;have g7:=Bc (Ba HC _ b9);clear O HC;go_wp2_with fail;refine Qm (Ba g7) ?_;rintro L ⟨i4,oa,oc,F⟩;have Y:=Bc (J7 F);clear g7 F;go_wp2;refine Wf (Btf rfl _ _ _) rfl ?_;exact⟨rfl,_,Ba Y,by rw[<- Ba a0 (),Ba i5 ()];simp[Br.d,Br.open,hM,Cv.top,Hg]⟩
  | ret0 e hr hra =>
   subst e;have i6:r=[]:=List.map_eq_nil_iff.1 hr;subst i6;have e1:r1=(k.E.meth o.m).result.1:=(Ba HP).r1;have HC:=Bc (Bgm k M X (o,lv,sv) ⟨cl,nm,pa,pl,pc,r1,r2,lo,st,a7,ha,hl,hc,ma,ml,mc,a8,a9⟩ a va vc w1 hA hM (by show r1=1->_;rw[e1];exact hra));simp only[RMV.val]at HC;obtain⟨m0,m1,m2,m3,m4,m5,m6,m7,m8,m9,i7,i8⟩:=b1 w1 CM;have HE:=Bc (fun (_:Unit)=>e1);clear HN H a3 CM b1 hA HP hra e1 hr;go_wp2_with fail;refine Qm (Ba HC) ?_;intro L F;have Y:=Bc (J7 F);clear HC F;go_wp2;refine Wf (Btf rfl _ _ _) rfl ?_;exact⟨rfl,_,Ba Y,by rw[<- Ba a0 (),<- Ba HE ()];rfl⟩
  | ret q r' e hr hal hqp b2 =>
   subst e;obtain⟨⟨q',lq,sq⟩,rr,rfl,rfl,rfl⟩:∃x rr,r=x::rr/\x.1=q/\rr.map Prod.fst=r':=by
    cases r with
    | nil=>cases hr
    | cons x rr =>
     simp only[Bsw,List.cons.injEq]at hr;exact⟨x,rr,rfl,hr.1,hr.2⟩
   obtain⟨g8,c8⟩:=R.rs _ (Bsd ..);simp only at g8 c8 hqp b2;have em:=K.meth c8;have g9:=(K.good c8).bd.code;have a4:=R.rl;rw[em]at hqp b2 g9;have HC:=Bc (Biy k M X (o,lv,sv) q' lq sq rr ⟨cl,nm,pa,pl,pc,r1,r2,lo,st,a7,ha,hl,hc,ma,ml,mc,a8,a9⟩ a va vc w1 K.f hA hM hal (by simp at a4;omega) g8 c8 hqp Ck b2);have c6:q'.p+Cd.wd (k.f.ms[q'.m].1.m.code.getD q'.p 0)=Cg k.E q':=by unfold Cg;rw[em]
   rw[c6]at HC;simp only[RMV.val]at HC;obtain⟨m0,m1,m2,m3,m4,m5,m6,m7,m8,m9,i7,i8⟩:=b1 w1 CM;clear HN H a3 CM b1 hA HP hr hqp b2 em g9 a4;go_wp2_with fail;refine Qm (Ba HC) ?_;rintro L ⟨h0,F⟩;have Y:=Bc (J7 F);clear HC F;go_wp2;refine Wf (Btf rfl _ _ _) rfl ?_;exact⟨rfl,_,Ba Y,by rw[<- Ba a0 ()];rfl⟩
  | push hp=>omega
  | _=>omega
 obtain⟨g,hg,f3,Q,-,c1,-,-,a2⟩:=Ir hA hM;obtain⟨g0,i9,j0,-,-⟩:=(Ba H).last hM;have eg:=hg.symm.trans i9;simp only[Option.some.injEq,Addr.mk.injEq,Br8]at eg;subst eg;have h3:g≠G:=Ck;have c0:g≠k.B:=fun e=>by
  have h':=hA.nd;unfold Br.rows at h';simp only[Bs5,Bvx]at h';exact h'.1 _ (Bsd ..) k.B rfl (by rw[hg,e];rfl)
 have lB:=hA.ltB;have h4:=Bc (fun (A:TW) (hb:Bl w1 A)=>Sw (hA.below hb) hM hg (Cg k.E o));have k4:=R.rl;generalize a4:r.length=I at *;have k5:IntKind.i64.wrap (((I+1:Nat):Int)-1)=(I:Int):=by rw[show ((I+1:Nat):Int)-1=(I:Int) by omega];exact Cx _ Ck Ck
 have ri:(I:Int)<(I:Int)+1:=Ck;have k6:IntKind.i64.wrap ((I:Int)+1-1)=(I:Int):=by rw[show (I:Int)+1-1=(I:Int) by omega];exact Cx _ Ck Ck
 have k7:IntKind.i64.wrap (I:Int)=(I:Int):=Cx _ Ck Ck;have r0:(0:Int)<=(I:Int):=Ck;have f1:=a2 (I*4+1);have c9:∀A:TW,A.heap[k.B]?=w1.heap[k.B]?->A.heap[G]?=some (O12 cl nm pa pl pc r1 r2 lo st a7 ha hl hc ma ml mc a8 a9)->A.C k.B 7 (.s (.p g) (I+1) M.oc)/\A.C G 0 (.i cl)/\A.C G 1 (.i nm)/\A.C G 2 (.s pa pl pc)/\A.C G 3 (.i r1)/\A.C G 4 (.i r2)/\A.C G 5 (.i lo)/\A.C G 6 (.i st)/\A.C G 7 (.string a7)/\A.C G 8 (.s ha hl hc)/\A.C G 9 (.s ma ml mc)/\A.C G 10 (.i a8)/\A.C G 11 (.i a9):=fun A e1 e2=>⟨(Brr (a:=⟨k.B,7,none⟩) e1).trans Q,b1 A e2⟩;have h5:(op==20)=false:=Fr;have h6:(op==21)=false:=Fr;have h7:(op==22)=false:=Fr;clear b1 hA H a2;go_wp2
 go_region_held3 (fun A=>A.C k.B 7 (.s (.p g) (I+1) M.oc)/\A.C G 0 (.i cl)/\A.C G 1 (.i nm)/\A.C G 2 (.s pa pl pc)/\A.C G 3 (.i r1)/\A.C G 4 (.i r2)/\A.C G 5 (.i lo)/\A.C G 6 (.i st)/\A.C G 7 (.string a7)/\A.C G 8 (.s ha hl hc)/\A.C G 9 (.s ma ml mc)/\A.C G 10 (.i a8)/\A.C G 11 (.i a9))
  (first|exact c9 w1.drew rfl CM|exact c9 _ (b3.block _ lB) ((b3.block _ d9).trans CM)|exact c9 _ ((Brk _ _ _ _ (Btj c0)).trans (b3.block _ lB)) ((Brk _ _ _ _ (Btj h3)).trans ((b3.block _ d9).trans CM)))
  (first|(go_at_call 94;refine Qm (Ba HN _) ?_;intro w7 b3;have j1:=(b3.frozen (p:=.a g (I*4+1)) f3).trans f1;have j2:=(b3.cell (p:=.a g (I*4+1)) f3).trans c1))
 have J:=Ba h4 _ ((Brm _ _).drew.trans b3);have J:Bm k (M.on k o lv sv r) (Da (.s va a.length vc) a::X) (w7.setCell (.a g (I*4+1)) (.i ((Cg k.E o:Nat):Int))):=J;generalize w7.setCell (.a g (I*4+1)) (.i ((Cg k.E o:Nat):Int))=V at *;have H8:=Bc J;have hv:=(Ba HP).v;clear h4 b3 j1 j2 c1 f1 Q c9 CM d9 f3 j0 HN h3;have d0:(M.on k o lv sv r).oa=some ⟨g,0,none⟩:=hg;cases hj:Hq op a with
 | true =>
  have j3:=Bm5 hj;have hD:=Ba a3;cases hD using Bq.el with
  | jump _ _ h13 h1 n0 _ =>
   clear a3 HP hv hj h5 h6 h7;rcases j3 with e|⟨e,z⟩|⟨e,z⟩|⟨e,z⟩
   ·subst e;clear J;go_wp2;go_quiet (fail);rename_i nq;have F:=Own.drewN (Ba H8) nq;clear H8;generalize V.drewN nq=L at *;obtain⟨g2,a5,f4,Q,-,c1,-,-,a2⟩:=Ir F rfl;have eg:=d0.symm.trans a5;simp only[Option.some.injEq,Addr.mk.injEq,Br8]at eg;subst eg;have Q:L.C k.B 7 (.s (.p g) (r.length+1) M.oc):=Q;have a1:=Sw F rfl a5 n.toNat;rw[Bsr n0,a4]at a1;rw[a4]at Q c1;have f1:=a2 (I*4+1);have hS:∀A:TW,A.heap[k.B]?=L.heap[k.B]?->A.C k.B 7 (.s (.p g) (I+1) M.oc):=fun A e1=>(Brr (a:=⟨k.B,7,none⟩) e1).trans Q;have b4:=Bc (J7 (Own.drew a1));clear F a1 a2;go_wp2
    go_region_held3 (fun A=>A.C k.B 7 (.s (.p g) (I+1) M.oc))
     (first|exact hS L.drew rfl|exact hS _ (Brk _ _ _ _ (Btj c0)))
     (fail)
    go_wp2;refine Wf (Btf rfl _ _ _) rfl ?_;exact⟨rfl,_,Ba b4,by rw[<- Ba a0 ()];rfl⟩
   ·subst e;obtain⟨ga,rfl,_,-,N⟩:=vxg J (q:=0) (h1 Ck);simp only[Bsm,Brz]at N;rw[show (a.getD 0 (0,0)).2=0 from z]at N;have f5:0<a.length:=h1 Ck;clear J;go_wp2;go_quiet (fail);rename_i nq;have F:=Own.drewN (Ba H8) nq;clear H8 N;generalize V.drewN nq=L at *;obtain⟨g2,a5,f4,Q,-,c1,-,-,a2⟩:=Ir F rfl;have eg:=d0.symm.trans a5;simp only[Option.some.injEq,Addr.mk.injEq,Br8]at eg;subst eg;have Q:L.C k.B 7 (.s (.p g) (r.length+1) M.oc):=Q;have a1:=Sw F rfl a5 n.toNat;rw[Bsr n0,a4]at a1;rw[a4]at Q c1;have f1:=a2 (I*4+1);have hS:∀A:TW,A.heap[k.B]?=L.heap[k.B]?->A.C k.B 7 (.s (.p g) (I+1) M.oc):=fun A e1=>(Brr (a:=⟨k.B,7,none⟩) e1).trans Q;have b4:=Bc (J7 (Own.drew a1));clear F a1 a2;go_wp2
    go_region_held3 (fun A=>A.C k.B 7 (.s (.p g) (I+1) M.oc))
     (first|exact hS L.drew rfl|exact hS _ (Brk _ _ _ _ (Btj c0)))
     (fail)
    go_wp2;refine Wf (Btf rfl _ _ _) rfl ?_;exact⟨rfl,_,Ba b4,by rw[<- Ba a0 ()];rfl⟩
   ·subst e;obtain⟨ga,rfl,_,-,N⟩:=vxg J (q:=0) (h1 Ck);simp only[Bsm,Brz]at N;rw[show (a.getD 0 (0,0)).2=0 from z]at N;have f5:0<a.length:=h1 Ck;clear J;go_wp2;go_quiet (fail);rename_i nq;have F:=Own.drewN (Ba H8) nq;clear H8 N;generalize V.drewN nq=L at *;obtain⟨g2,a5,f4,Q,-,c1,-,-,a2⟩:=Ir F rfl;have eg:=d0.symm.trans a5;simp only[Option.some.injEq,Addr.mk.injEq,Br8]at eg;subst eg;have Q:L.C k.B 7 (.s (.p g) (r.length+1) M.oc):=Q;have a1:=Sw F rfl a5 n.toNat;rw[Bsr n0,a4]at a1;rw[a4]at Q c1;have f1:=a2 (I*4+1);have hS:∀A:TW,A.heap[k.B]?=L.heap[k.B]?->A.C k.B 7 (.s (.p g) (I+1) M.oc):=fun A e1=>(Brr (a:=⟨k.B,7,none⟩) e1).trans Q;have b4:=Bc (J7 (Own.drew a1));clear F a1 a2;go_wp2
    go_region_held3 (fun A=>A.C k.B 7 (.s (.p g) (I+1) M.oc))
     (first|exact hS L.drew rfl|exact hS _ (Brk _ _ _ _ (Btj c0)))
     (fail)
    go_wp2;refine Wf (Btf rfl _ _ _) rfl ?_;exact⟨rfl,_,Ba b4,by rw[<- Ba a0 ()];rfl⟩
   subst e;obtain⟨ga,rfl,_,-,N⟩:=vxg J (q:=0) (h1 Ck);simp only[Bsm,Brz]at N;obtain⟨gb,c2,_,-,x3⟩:=vxg J (q:=1) (h13 rfl);simp only[Option.some.injEq,Addr.mk.injEq,Br8]at c2;subst c2;simp only[Bug]at x3;have j4:1<a.length:=h13 rfl;have a6:(a.getD 0 (0,0)).2=(Ce a).2:=rfl;have c3:(a.getD 1 (0,0)).2=(Hl a).2:=rfl;rw[a6]at N;rw[c3]at x3;generalize (Ce a).2=z0 at *;generalize (Hl a).2=z1 at *;have z':decide (z0<z1)=true:=by simpa using z
   clear J a6 c3;go_wp2;go_quiet (fail);rename_i nq;have F:=Own.drewN (Ba H8) nq;clear H8 N x3;generalize V.drewN nq=L at *;obtain⟨g2,a5,f4,Q,-,c1,-,-,a2⟩:=Ir F rfl;have eg:=d0.symm.trans a5;simp only[Option.some.injEq,Addr.mk.injEq,Br8]at eg;subst eg;have Q:L.C k.B 7 (.s (.p g) (r.length+1) M.oc):=Q;have a1:=Sw F rfl a5 n.toNat;rw[Bsr n0,a4]at a1;rw[a4]at Q c1;have f1:=a2 (I*4+1);have hS:∀A:TW,A.heap[k.B]?=L.heap[k.B]?->A.C k.B 7 (.s (.p g) (I+1) M.oc):=fun A e1=>(Brr (a:=⟨k.B,7,none⟩) e1).trans Q;have b4:=Bc (J7 (Own.drew a1));clear F a1 a2;go_wp2
   go_region_held3 (fun A=>A.C k.B 7 (.s (.p g) (I+1) M.oc))
    (first|exact hS L.drew rfl|exact hS _ (Brk _ _ _ _ (Btj c0)))
    (fail)
   go_wp2;refine Wf (Btf rfl _ _ _) rfl ?_;exact⟨rfl,_,Ba b4,by rw[<- Ba a0 ()];rfl⟩
  | stay _ _ _ _ hj'=>rw[hj]at hj';cases hj'
  | push hp=>omega
  | _=>omega
 | false =>
  obtain⟨f6,d1,d3,d4⟩:=Bkd hj;have hD:=Ba a3;by_cases gs:op=12\/op=13\/op=14
  ·have O:=Bc (fun (A:TW) (hb:Bl V A)=>We K R (J.below hb) g3 hv Ck hj hD);have b5:0<a.length/\(op=13->1<a.length):=by
    cases hD using Bq.el with
    | stay _ _ q1 q2 _=>exact⟨q2,q1⟩
    | push hp=>omega
    | _=>omega
   clear hD a3 HP hv hj h5 h6 h7;rcases gs with e|e | e
   ·subst e;obtain⟨ga,rfl,_,-,N⟩:=vxg J (q:=0) b5.1;simp only[Bsm,Brz]at N;have f5:0<a.length:=b5.1;have a6:(a.getD 0 (0,0)).2=(Ce a).2:=rfl;have z:=d1 rfl;rw[a6]at N;generalize (Ce a).2=z0 at *;have z':(z0==0)=false:=by simpa using z
    clear J a6 f6 d1 d4 d3;go_wp2;go_quiet (fail);rename_i nq;have Z:=Bc (Ba O (V.drewN nq) (Dr (Brm V.heap.size V)));clear O;go_wp2_with fail;refine Qm (Ba Z) ?_;rintro L ⟨M9,F,e9⟩;have Y:=Bc (J7 F);have b0:=Bc (fun (_:Unit)=>e9);clear Z F e9;go_wp2;go_end0;exact⟨rfl,_,Ba Y,by rw[Ba b0 (),Ba a0 ()]⟩
   ·subst e;obtain⟨ga,rfl,_,-,N⟩:=vxg J (q:=0) b5.1;simp only[Bsm,Brz]at N;obtain⟨gb,c2,_,-,x3⟩:=vxg J (q:=1) (b5.2 rfl);simp only[Option.some.injEq,Addr.mk.injEq,Br8]at c2;subst c2;simp only[Bug]at x3;have j4:1<a.length:=b5.2 rfl;have a6:(a.getD 0 (0,0)).2=(Ce a).2:=rfl;have c3:(a.getD 1 (0,0)).2=(Hl a).2:=rfl;have z:=d4 rfl;rw[a6]at N;rw[c3]at x3;generalize (Ce a).2=z0 at *;generalize (Hl a).2=z1 at *;have z':decide (z0<z1)=false:=by simpa using z
    clear J a6 c3 f6 d1 d4 d3;go_wp2;go_quiet (fail);rename_i nq;have Z:=Bc (Ba O (V.drewN nq) (Dr (Brm V.heap.size V)));clear O;go_wp2_with fail;refine Qm (Ba Z) ?_;rintro L ⟨M9,F,e9⟩;have Y:=Bc (J7 F);have b0:=Bc (fun (_:Unit)=>e9);clear Z F e9;go_wp2;go_end0;exact⟨rfl,_,Ba Y,by rw[Ba b0 (),Ba a0 ()]⟩
   subst e;obtain⟨ga,rfl,_,-,N⟩:=vxg J (q:=0) b5.1;simp only[Bsm,Brz]at N;have f5:0<a.length:=b5.1;have a6:(a.getD 0 (0,0)).2=(Ce a).2:=rfl;have z:=d3 rfl;rw[a6]at N;generalize (Ce a).2=z0 at *;have z':(z0==0)=false:=by simpa using z
   clear J a6 f6 d1 d4 d3;go_wp2;go_quiet (fail);rename_i nq;have Z:=Bc (Ba O (V.drewN nq) (Dr (Brm V.heap.size V)));clear O;go_wp2_with fail;refine Qm (Ba Z) ?_;rintro L ⟨M9,F,e9⟩;have Y:=Bc (J7 F);have b0:=Bc (fun (_:Unit)=>e9);clear Z F e9;go_wp2;go_end0;exact⟨rfl,_,Ba Y,by rw[Ba b0 (),Ba a0 ()]⟩
  have k8:(op==11)=false:=Fr;have k9:(op==12)=false:=Fr;have l0:(op==13)=false:=Fr;have l1:(op==14)=false:=Fr;have nb:=fun q=>(Dr (Brm V.heap.size V):Bl V (V.drewN q));by_cases gm:2<=op/\op<=6
  ·have O:=Bc (fun (A:TW) (hb:Bl V A)=>Bgk K R (J.below hb) gm hD);clear hD a3 HP hv hj J;have:op=2\/op=3\/op=4\/op=5\/op=6:=Ck;rcases this with rfl|rfl|rfl|rfl|rfl
   all_goals
    go_wp2;go_quiet (fail);rename_i nq;have Z:=Bc (Ba O _ (nb nq));clear O;go_wp2_with fail;refine Qm (Ba Z) ?_;rintro L ⟨M9,F,e9⟩;have Y:=Bc (J7 F);have b0:=Bc (fun (_:Unit)=>e9);clear Z F e9;go_wp2;go_end0;exact⟨rfl,_,Ba Y,by rw[Ba b0 (),Ba a0 ()]⟩
  have p2:(op==2)=false:=Fr;have p3:(op==3)=false:=Fr;have p4:(op==4)=false:=Fr;have p5:(op==5)=false:=Fr;have p6:(op==6)=false:=Fr;by_cases j5:op=15
  ·subst j5;have hm:=R.m;have em:=K.meth hm;have f7:(o.st.length:Int)<(k.E.meth o.m).stack/\(⟨⟨o.m,Cg k.E o,o.lo,o.st++[(2,(M.d.ts.length:Int))]⟩::r.map Prod.fst,M.d.ts++[⟨n,false,[]⟩],M.d.made+1,M.d.read,M.d.out,M.d.steps,M.d.status,M.d.value⟩:Cv)=d':=by
    rw[<- Ba a0 ()];cases hD using Bq.el with
    | new e hl=>exact⟨hl,rfl⟩
    | push hp=>omega
    | _=>omega
   obtain⟨f8,i0⟩:=f7;rw[em]at f8;have j6:=R.st;have j7:=R.ts;have l2:=R.md;have O:=Bc (fun (A:TW) (hb:Bl V A)=>Bgg k (M.on k o lv sv r) _ ⟨o.m,Cg k.E o,o.lo,o.st⟩ lv sv r n A K.f (J.below hb) rfl Ck (by show o.st.length<=1000;omega) hm f8 (by show M.ts.length<=1000;omega) (by show M.made<=1000;omega));have HE:=Bc (fun (_:Unit)=>i0);clear hD a3 HP hv hj J a0 i0 em f8;go_wp2;go_quiet (fail);rename_i nq;have Z:=Bc (Ba O _ (nb nq));clear O;go_wp2_with fail;refine Qm (Ba Z) ?_;rintro L ⟨ta,tc,h0,F⟩;have Y:=Bc (J7 F);clear Z F;go_wp2;go_end0;exact⟨rfl,_,Ba Y,by rw[<- Ba HE ()];simp[Br.d,Br.thing,Br.put]⟩
  have l3:(op==15)=false:=Fr;by_cases j8:op=16
  ·subst j8;have f7:∃(s vs:TP) (q:Nat) (b7:TP),0<=n/\n.toNat<k.E.T.length/\o.st=s++(2,(q:Int))::vs/\Hh k.E.T M.d.ts vs (k.E.all n)=true/\(∀v∈vs,Hz M.d.ts.length v)/\0<q/\M.d.ts[q]?=some ⟨n,false,b7⟩/\M.d.with (M.d.ts.set q ⟨n,true,vs⟩) ⟨o.m,Cg k.E o,o.lo,s⟩ (r.map Prod.fst)=d':=by
    rw[<- Ba a0 ()];cases hD using Bq.el with
    | init s vs q b7 e n0 nl d5 c4 hw q0 hq=>exact⟨s,vs,q,b7,n0,nl,d5,c4,hw,q0,hq,rfl⟩
    | push hp=>omega
    | _=>omega
   obtain⟨s,vs,q,b7,n0,nl,d5,c4,hw,q0,hq,f9⟩:=f7;obtain⟨j,rfl⟩:=Brp n0;simp only[Bt3,Brx]at nl hq f9 c4;have d6:M.d.ts=M.ts.map Prod.fst:=rfl;have b2:q<M.ts.length:=by
    have:=(List.getElem?_eq_some_iff.1 hq).1;rw[d6,Br1]at this;exact this
   have hx:M.ts[q]=(⟨(j:Int),false,b7⟩,M.ts[q].2):=by
    rw[d6,Bsf,Brl b2]at hq;exact Btq (Option.some.inj hq) rfl
   have hT:Ct k.f.l=k.E.T:=K.T;have j9:j<k.f.l.length:=by
    have e1:=congrArg List.length K.l;rw[Br1]at e1;rw[e1,Vw];exact nl
   have j6:=R.st;have j7:=R.ts;have O:=Bc (fun (A:TW) (hb:Bl V A)=>Blm k (M.on k o lv sv r) _ ⟨o.m,Cg k.E o,o.lo,o.st⟩ lv sv r j q s vs b7 M.ts[q].2 A K.f (J.below hb) rfl Ck (by show o.st.length<=1000;omega) d5 j9 (by rw[hT,K.l];show Hh k.f.T _ _ _=true;rw[K.T];exact c4) (fun v k0 h2=>by
    rcases hw v k0 with z|z | z
    ·rw[z]at h2;simp at h2
    ·omega
    rw[d6,Br1]at z;exact z.2) q0 b2 hx (by show M.ts.length<=1000;omega))
   have HE:=Bc (fun (_:Unit)=>f9);clear hD a3 HP hv hj J a0 f9 hT hx b2 d6 hq hw c4 d5;go_wp2;go_quiet (fail);rename_i nq;have Z:=Bc (Ba O _ (nb nq));clear O;go_wp2_with fail;refine Qm (Ba Z) ?_;rintro L ⟨h0,v9,F⟩;have Y:=Bc (J7 F);clear Z F;go_wp2;go_end0;exact⟨rfl,_,Ba Y,by rw[<- Ba HE ()];simp[Br.d,Br.withTs,Br.put,Cv.with,But]⟩
  have l4:(op==16)=false:=Fr;have O:=Bc (fun (A:TW) (hb:Bl V A)=>We K R (J.below hb) g3 hv Ck hj hD);clear hD a3 HP hv hj J;go_wp2;go_quiet (fail);rename_i nq;have Z:=Bc (Ba O _ (nb nq));clear O;go_wp2_with fail;refine Qm (Ba Z) ?_;rintro L ⟨M9,F,e9⟩;have Y:=Bc (J7 F);have b0:=Bc (fun (_:Unit)=>e9);clear Z F e9;go_wp2;go_end0;exact⟨rfl,_,Ba Y,by rw[Ba b0 (),Ba a0 ()]⟩
def Blz{E:Cs}{d d':Cv}(h:Fp E d d'):∃(o:Bz) (r:List Bz) (s a:TP),d.os=o::r/\o.m<E.ms.length/\o.p<(E.meth o.m).code.length/\o.st=s++a/\Hh E.T d.ts a (Co (Cp E.cs) E.ms (E.meth o.m).result ((E.meth o.m).code.getD o.p 0) (Cd.atI (E.meth o.m).code ((o.p:Int)+1)))=true/\(∀v∈a,Hz d.ts.length v)/\((∃t:Nat,0<t/\t<d.ts.length/\Di E d ((E.meth o.m).code.getD o.p 0) (Cd.atI (E.meth o.m).code ((o.p:Int)+1)) a=(t:Int)/\(∀q∈o::r,q.m<E.ms.length/\(Gf E.T (Cc d.ts t).cl q.p (E.meth q.m).handlers≠none->1<=(E.meth q.m).stack))/\d'=Fj E (t:Int) (Cc d.ts t).cl ⟨d.os,d.ts,d.made,d.read,d.out,d.steps+1,d.status,d.value⟩ (⟨o.m,o.p,o.lo,s⟩::r))\/(Di E d ((E.meth o.m).code.getD o.p 0) (Cd.atI (E.meth o.m).code ((o.p:Int)+1)) a=0/\Bq E ⟨⟨o.m,o.p,o.lo,s⟩::r,d.ts,d.made,d.read,d.out,d.steps+1,d.status,d.value⟩ ⟨o.m,o.p,o.lo,s⟩ r ((E.meth o.m).code.getD o.p 0) (Cd.atI (E.meth o.m).code ((o.p:Int)+1)) a d')):=by
 cases h using Fp.el with
 | thrown o r s a t h1 h2 h3 h4 h5 h6 h7 h8 h9 h10=>exact⟨o,r,s,a,h1,h2,h3,h4,h5,h6,.inl ⟨t,h7,h8,h9,h10,rfl⟩⟩
 | does o r s a d' h1 h2 h3 h4 h5 h6 h7 h8=>exact⟨o,r,s,a,h1,h2,h3,h4,h5,h6,.inr ⟨h7,h8⟩⟩
def Bcm{E:Cs}{n cl:Int}{d e:Cv}(h:(⟨[],d.ts,d.made,d.read,d.out,d.steps,d.status,d.value⟩:Cv)=⟨[],e.ts,e.made,e.read,e.out,e.steps,e.status,e.value⟩):∀l,Fj E n cl d l=Fj E n cl e l
 | []=>by
  simp only[Cv.mk.injEq,Buw]at h;obtain⟨a,b,c,f,g,_,_⟩:=h;unfold Fj;rw[a,b,c,f,g]
 | o::r=>by
  have m:=Bcm (E:=E) (n:=n) (cl:=cl) h r;simp only[Cv.mk.injEq,Buw]at h;obtain⟨a,b,c,f,g,i,j⟩:=h;unfold Fj;rw[m,a,b,c,f,g,i,j]
def Bgh(k:Cz)(b:k.Ok)(m:RMV)(i p:Nat)(w:TW)(t:k.f.ok w)(v:i<k.f.ms.length)(g:Ca m.code=(k.E.meth i).code)(z:(m.r1,m.r2)=(k.E.meth i).result)(j:p∈Cd.places (k.E.meth i).code)(T:TP)(A:Co (Cp k.cs) k.ms (k.E.meth i).result ((k.E.meth i).code.getD p 0) (Cd.atI (k.E.meth i).code ((p:Int)+1))=T):Calls prog 98 #[k.f.val,m.val,.i (p:Int)] w fun e l=>∃a c,e=.r (.s a T.length c)/\TyR l (.s a T.length c) T/\Bl w l:=by
 have G:=b.good v;have q:=Sz G j;have D:=G.bd.code;have F:=T7 j;have I:m.code.size=(k.E.meth i).code.length:=by rw[<- g,He]
 have B:=Px k.cs;have h:=Zg k.f m p w t Ck Ck (fun x C=>by
  have:=(b.fm.mt _ (show x.1.m∈k.ms by rw[<- b.eq];exact Bsc C)).bd.ps;omega) (by
  rw[g,Ll,g,b.flds,B];exact fun e=>q.fld e) (by
  rw[g,Ll,g,<- b.ml];exact fun e=>q.mth e)
 rw[g,Ll,g,b.flds,show (k.f.ms.map fun x=>x.1.m)=k.ms from b.eq,z,A]at h;exact h
def Bgo{F:List Rf.Fld}{ms:List Rd.Mth}{res:Int×Int}{op n:Int}:(op=10->1<(Co F ms res op n).length)/\(op=17\/op=18\/op=21\/op=23\/op=19->0<(Co F ms res op n).length):=by
 refine⟨fun e=>?_,fun e=>?_⟩
 ·subst e;exact Nat.lt_succ_self 1
 rcases e with rfl|rfl|rfl|rfl|rfl
 all_goals first|exact Nat.succ_pos _
def Bi2{E:Cs}{d e:Cv}(b:d.os.length=e.os.length)(c:d.made=e.made)(f:d.ts=e.ts)(op n:Int)(a:TP):Di E d op n a=Di E e op n a:=by
 unfold Di;rw[b,c,f]
def Bp8{k:Cz}{M e:Br}{o:Bz}{q a:TP}{r:List (Bz×Value×Value)}{m:RMV}{op n:Int}{d':Cv}{T:TP}(i:k.Ok)(F:Tm k.E M.d)(A:o.m<k.f.ms.length)(B:∀x∈r,x.1∈M.d.os)(C:r.length<=900)(D:q.length<=900)(G:e.ts=M.ts)(g:e.d=⟨⟨o.m,o.p,o.lo,q⟩::r.map Prod.fst,M.d.ts,M.d.made,M.d.read,M.d.out,M.d.steps+1,M.d.status,M.d.value⟩)(I:Ca m.code=(k.E.meth o.m).code)(J:m.r1=(k.E.meth o.m).result.1)(K:o.p<(k.E.meth o.m).code.length)(L:(k.E.meth o.m).code.getD o.p 0=op)(N:Cd.atI (k.E.meth o.m).code ((o.p:Int)+1)=n) (O:Co (Cp k.cs) k.ms (k.E.meth o.m).result op n=T)(Q:Hh k.f.T (M.ts.map Prod.fst) a T=true)(V:∀v∈a,Hz M.d.ts.length v)(Y:Bq k.E ⟨⟨o.m,o.p,o.lo,q⟩::r.map Prod.fst,M.d.ts,M.d.made,M.d.read,M.d.out,M.d.steps+1,M.d.status,M.d.value⟩ ⟨o.m,o.p,o.lo,q⟩ (r.map Prod.fst) op n a d'):Bek k e ⟨o.m,o.p,o.lo,q⟩ r m a op n d':=by
 have f1:=F.ts;have f2:=F.md;have f3:=F.out;have hl:M.d.ts.length=M.ts.length:=by simp[Br.d]
 have g2:e.made=M.d.made:=congrArg Cv.made g;have g3:e.out=M.d.out:=congrArg Cv.out g;refine⟨i,⟨A,C,D,fun b Z=>?_,by rw[G];omega,Ck,by rw[g3];omega⟩,I,J,K,L,N,fun h7 a3=>?_,by rw[g];exact Y⟩
 ·have:=F.each _ (B b Z);exact⟨Ck,by rw[<- i.ml];exact this.1⟩
 have a0:T=[(1,0),(1,0)]:=by
  rw[<- O];unfold Co;rw[Th Ck]
 subst a0;obtain⟨c,j⟩:=Ak Q;have e0:=j 0 (by rw[c];simp) Hd;have e1:=j 1 (by rw[c];simp) Hd;have l:∀z∈a,Jf k.f.T (M.ts.map Prod.fst) z (1,0)=true->-2147483648<=z.2/\z.2<=2147483647:=fun z hz h=>by
  have t:z.1=1:=by
   unfold Jf at h;rw[Th rfl]at h;simpa using h
  rcases V z hz with b|b | b
  ·rw[b]at t;simp at t
  ·exact b.2
  omega
 have a1:Ce a=a[0]'(by rw[c];simp):=by
  show a.getD 0 (0,0)=_;rw[Vm,Brl (by rw[c];simp)];rfl
 have a2:Hl a=a[1]'(by rw[c];simp):=by
  show a.getD 1 (0,0)=_;rw[Vm,Brl (by rw[c];simp)];rfl
 rw[a1,a2];exact⟨l _ (Brn _) e0,l _ (Brn _) e1⟩
def So (mb:Nat)(cs:TV):Rw:=⟨109,12,.slice (some ⟨mb,0,none⟩) 1 1,1,cs⟩
theorem Uz{k:Cz}{M:Br}{X:List Rw}{w:World}{u:Nat}{e:List Value}(h:Bm k M X w)(f:So u e∈X){j:Nat}{l:Value}(b:e[j]?=some l):w.cell? ⟨u,j,none⟩=some l:=by
 have c:w.ownsRow k.w0.heap.size 109 12 (.slice (some ⟨u,0,none⟩) 1 1) 1 e:=h.row (So u e) (by simp[f]);rw[World.ownsRow.cellAt c j (by have:=c.1;have:=(List.getElem?_eq_some_iff.1 b).1;omega),b]
def Br.tick(M:Br):Br:=⟨M.os,M.ts,M.made,M.read,M.out,M.steps+1,M.status,M.value,M.oa,M.oc,M.ta,M.tc,M.xa,M.xc⟩
def Bq3{k:Cz}{M:Br}{X:List Rw}{w:TW}(h:Bm k M X w):Bm k M.tick X (w.setCell (.a k.B 12) (.i ((M.steps:Int)+1))):=by
 have b:=Own.cell (i:=0) h Ls 12 (.i ((M.steps:Int)+1));unfold Bm Br.tick Br.rows Br.cells;simp only[Bvi];exact b
theorem Bio(k:Cz)(M:Br)(X:List Rw)(d':Cv)(w:World)(ok:k.Ok)(h:Bm k M X w)(F:Tm k.E M.d)(hS:Fp k.E M.d d'):Calls prog 62 #[.pointer (some ⟨k.B,0,none⟩)] w fun e b=>e=.returned (.tuple #[])/\∃M',Bm k M' X b/\M'.d=d':=by
 obtain⟨o,r',s,a,a6,hm,hp,g2,a9,hW,hH⟩:=Blz hS;obtain⟨lv,sv,r,hM,rfl⟩:∃lv sv r,M.os=(o,lv,sv)::r/\r.map Prod.fst=r':=by
  have e:M.d.os=M.os.map Prod.fst:=rfl;rw[e]at a6;cases hx:M.os with
  | nil=>rw[hx]at a6;cases a6
  | cons x l =>
   rw[hx]at a6;simp only[Bsw,List.cons.injEq]at a6;obtain⟨x1,x2,x3⟩:=x;obtain⟨rfl,rfl⟩:=a6;exact⟨x2,x3,l,rfl,rfl⟩
 have b2:o.m<k.f.ms.length:=by rw[<- ok.ml];exact hm
 have d5:=F.top _ _ a6;have k0:r.length+1<=800:=by
  have:=F.os;rw[a6]at this;simpa using this
 have k1:o.st.length<=800:=(F.each o (by rw[a6];simp)).2;obtain⟨la,lc,g3⟩:=Bh (h.lrow hM);obtain⟨sa,sc,g4⟩:=Bh (h.srow hM);simp only at g3 g4;subst g3 g4;generalize k2:o.lo.length=ln at *;generalize k3:o.st.length=sn at *;obtain⟨g,hg,c5,c7,c0,c1,c2,c3,-⟩:=Ir h hM;obtain⟨ym,A,d6,a4,g5,c6⟩:=RFl.mth (h.fok ok.f) b2;have b1:w.cell? ⟨k.B,1,none⟩=some (.slice (some ⟨A,0,none⟩) k.f.ms.length k.f.c2):=by rw[<- d6];exact h.cell Ls
 have lB:=h.ltB;have em:=ok.meth b2;have b0:Ca ym.code=(k.E.meth o.m).code:=by rw[em];exact c6.code
 have c8:(ym.r1,ym.r2)=(k.E.meth o.m).result:=by rw[em];exact Btq c6.r1 c6.r2
 have d7:=Oe g5;obtain⟨G,I,J,K,L,N,O,Q,V,C,Y,Z,hc,ma,ml,mc,a0,a2⟩:=ym;simp only at b0 c8 d7;have k4:C.size=(k.E.meth o.m).code.length:=by rw[<- b0,He]
 have k5:=(ok.good b2).bd.code;obtain⟨T,hT⟩:∃T,Co (Cp k.cs) k.ms (k.E.meth o.m).result ((k.E.meth o.m).code.getD o.p 0) (Cd.atI (k.E.meth o.m).code ((o.p:Int)+1))=T:=⟨_,rfl⟩;have d8:=fun b (h':k.f.ok b)=>Bgh k ok ⟨G,I,J,K,L,N,O,Q,V,C,Y,Z,hc,ma,ml,mc,a0,a2⟩ o.m o.p b h' b2 b0 c8 d5 T hT;simp only[RMV.val,RFl.val,d6]at d8;have b4:=fun b=>Mz ⟨G,I,J,K,L,N,O,Q,V,C,Y,Z,hc,ma,ml,mc,a0,a2⟩ o.p b (show o.p<C.size by omega) (show C.size<=100000 by omega);rw[Ll]at b4;simp only[RMV.val]at b4;rw[b0]at b4;have c9:(C[o.p].toNat:Int)=(k.E.meth o.m).code.getD o.p 0:=by rw[<- Kq _ _ (show o.p<C.size by omega),b0]
 have k6:-1<=Cd.atI (k.E.meth o.m).code ((o.p:Int)+1)/\Cd.atI (k.E.meth o.m).code ((o.p:Int)+1)<=255:=by
  rw[<- b0,<- Ll];exact Rf.at_bd _ _
 generalize g6:(k.E.meth o.m).code.getD o.p 0=op at *;generalize hn:Cd.atI (k.E.meth o.m).code ((o.p:Int)+1)=n at *;have i8:=Bc (fun (_:Unit)=>c9);have i9:=Bc (fun (_:Unit)=>g6);have HN:=Bc (fun (_:Unit)=>hn);clear c9 g6 hn;generalize k7:r.length=D at *;have k8:IntKind.i64.wrap (((D+1:Nat):Int)-1)=(D:Int):=by rw[show ((D+1:Nat):Int)-1=(D:Int) by omega];exact Cx _ Ck Ck
 have ri:(D:Int)<(D:Int)+1:=Ck;have k9:IntKind.i64.wrap ((D:Int)+1-1)=(D:Int):=by rw[show (D:Int)+1-1=(D:Int) by omega];exact Cx _ Ck Ck
 have l0:IntKind.i64.wrap (D:Int)=(D:Int):=Cx _ Ck Ck;have r0:(0:Int)<=(D:Int):=Ck;have mi:(o.m:Int)<(k.f.ms.length:Int):=Ck;have g7:=Bc d8;have j0:=Bc b4;have HF:=Bc F;have HH:=Bc hH;have g8:=Bc (Bto a9 hW);have HT:=Bc (fun (_:Unit)=>hT);have j1:=Bc (fun (_:Unit)=>b0);have j2:=Bc (fun (_:Unit)=>c8);have g9:=Bc (fun (_:Unit)=>g2);have H:=Bc h;have HP:=Bc hp;have l1:=Bc d5;have l2:(o.p:Int)<(C.size:Int):=Ck;have kp:¬(C.size:Int)<=(o.p:Int):=Ck;have j3:=F.st;have l3:IntKind.i64.wrap ((M.steps:Int)+1)=(M.steps:Int)+1:=Cx _ Ck (by have:M.d.steps=M.steps:=rfl;omega);have l4:∀c:UInt8,IntKind.i64.wrap (c.toNat:Int)=(c.toNat:Int):=fun c=>Cx _ Ck (by have:=c.toNat_lt;omega);have d9:∀b:World,Below w.heap.size w b->b.cell? ⟨k.B,7,none⟩=some (.slice (some ⟨g,0,none⟩) (D+1) M.oc)/\b.cell? ⟨g,D*4,none⟩=some (.int .i64 (o.m:Int))/\b.cell? ⟨g,D*4+1,none⟩=some (.int .i64 (o.p:Int))/\b.cell? ⟨g,D*4+2,none⟩=some (.slice la ln lc)/\b.cell? ⟨g,D*4+3,none⟩=some (.slice sa sn sc):=fun b hb=>⟨QC hb lB c7,QC hb c5 c0,QC hb c5 c1,QC hb c5 c2,QC hb c5 c3⟩;clear d8 b4 F hH a9 hW hT b0 c8 g2 h g5 c6 em d5 a6 hS j3;go_in;go_wp2
 go_region_held3 (fun b=>b.cell? ⟨k.B,7,none⟩=some (.slice (some ⟨g,0,none⟩) (D+1) M.oc)/\b.cell? ⟨g,D*4,none⟩=some (.int .i64 (o.m:Int))/\b.cell? ⟨g,D*4+1,none⟩=some (.int .i64 (o.p:Int))/\b.cell? ⟨g,D*4+2,none⟩=some (.slice la ln lc)/\b.cell? ⟨g,D*4+3,none⟩=some (.slice sa sn sc))
  (first|with_reducible exact d9 _ (Brm _ _).drew|with_reducible exact d9 _ (QN _).drew)
  (fail)
 have b5:Below w.heap.size w (w.alloc (O35 (o.m:Int) (o.p:Int) la ln lc sa sn sc)).drew:=(QN _).drew;have CO:(w.alloc (O35 (o.m:Int) (o.p:Int) la ln lc sa sn sc)).drew.heap[w.heap.size]?=some (O35 (o.m:Int) (o.p:Int) la ln lc sa sn sc):=Be w (O35 (o.m:Int) (o.p:Int) la ln lc sa sn sc);generalize (w.alloc (O35 (o.m:Int) (o.p:Int) la ln lc sa sn sc)).drew=w1 at *;generalize c9:w.heap.size=ob at *;have h0:=Sp CO;have o0:w1.cell? ⟨ob,0,none⟩=some (.int .i64 (o.m:Int)):=(Bb CO 0).trans rfl;have o1:w1.cell? ⟨ob,1,none⟩=some (.int .i64 (o.p:Int)):=(Bb CO 1).trans rfl;have d1:=(b5.cell (p:=⟨k.B,1,none⟩) lB).trans b1;have l5:=b5.size;have j4:k.B<w1.heap.size:=Ck;have l6:A<w1.heap.size:=Ck;have f0:∀b:World,Below w1.heap.size w1 b->b.cell? ⟨k.B,1,none⟩=some (.slice (some ⟨A,0,none⟩) k.f.ms.length k.f.c2)/\b.cell? ⟨ob,0,none⟩=some (.int .i64 (o.m:Int))/\b.cell? ⟨A,o.m*12,none⟩=some (.int .i64 G)/\b.cell? ⟨A,o.m*12+1,none⟩=some (.int .i64 I)/\b.cell? ⟨A,o.m*12+2,none⟩=some (.slice J K L)/\b.cell? ⟨A,o.m*12+3,none⟩=some (.int .i64 N)/\b.cell? ⟨A,o.m*12+4,none⟩=some (.int .i64 O)/\b.cell? ⟨A,o.m*12+5,none⟩=some (.int .i64 Q)/\b.cell? ⟨A,o.m*12+6,none⟩=some (.int .i64 V)/\b.cell? ⟨A,o.m*12+7,none⟩=some (.string C)/\b.cell? ⟨A,o.m*12+8,none⟩=some (.slice Y Z hc)/\b.cell? ⟨A,o.m*12+9,none⟩=some (.slice ma ml mc)/\b.cell? ⟨A,o.m*12+10,none⟩=some (.int .i64 a0)/\b.cell? ⟨A,o.m*12+11,none⟩=some (.int .i64 a2):=fun b hb=>by
  have a5:=b5.trans (hb.mono Ck);obtain⟨q0,q1,q2,q3,q4,q5,q6,q7,q8,q9,qa,qb⟩:=d7;exact⟨QC hb j4 d1,QC hb h0 o0,QC a5 a4 q0,QC a5 a4 q1,QC a5 a4 q2,QC a5 a4 q3,QC a5 a4 q4,QC a5 a4 q5,QC a5 a4 q6,QC a5 a4 q7,QC a5 a4 q8,QC a5 a4 q9,QC a5 a4 qa,QC a5 a4 qb⟩
 clear d9 c7 c0 c1 c2 c3 d7 b1 CO;go_wp2
 go_region_held3 (fun b=>b.cell? ⟨k.B,1,none⟩=some (.slice (some ⟨A,0,none⟩) k.f.ms.length k.f.c2)/\b.cell? ⟨ob,0,none⟩=some (.int .i64 (o.m:Int))/\b.cell? ⟨A,o.m*12,none⟩=some (.int .i64 G)/\b.cell? ⟨A,o.m*12+1,none⟩=some (.int .i64 I)/\b.cell? ⟨A,o.m*12+2,none⟩=some (.slice J K L)/\b.cell? ⟨A,o.m*12+3,none⟩=some (.int .i64 N)/\b.cell? ⟨A,o.m*12+4,none⟩=some (.int .i64 O)/\b.cell? ⟨A,o.m*12+5,none⟩=some (.int .i64 Q)/\b.cell? ⟨A,o.m*12+6,none⟩=some (.int .i64 V)/\b.cell? ⟨A,o.m*12+7,none⟩=some (.string C)/\b.cell? ⟨A,o.m*12+8,none⟩=some (.slice Y Z hc)/\b.cell? ⟨A,o.m*12+9,none⟩=some (.slice ma ml mc)/\b.cell? ⟨A,o.m*12+10,none⟩=some (.int .i64 a0)/\b.cell? ⟨A,o.m*12+11,none⟩=some (.int .i64 a2))
  (first|with_reducible exact f0 _ (Brm _ _).drew|with_reducible exact f0 _ (QN _).drew)
  (fail)
 have h1:Bm k M X w1:=(Ba H).below (cast (congrArg (Below · w w1) c9.symm) b5);have h3:=Own.var h1 #[.int .i64 G,.int .i64 I,.slice J K L,.int .i64 N,.int .i64 O,.int .i64 Q,.int .i64 V,.string C,.slice Y Z hc,.slice ma ml mc,.int .i64 a0,.int .i64 a2] 109;have b6:Bm k M (So w1.heap.size [.int .i64 G,.int .i64 I,.slice J K L,.int .i64 N,.int .i64 O,.int .i64 Q,.int .i64 V,.string C,.slice Y Z hc,.slice ma ml mc,.int .i64 a0,.int .i64 a2]::X) (w1.alloc (O12 G I J K L N O Q V C Y Z hc ma ml mc a0 a2)).drew:=Own.drew (Own.mid h3);have h5:Below w1.heap.size w1 (w1.alloc (O12 G I J K L N O Q V C Y Z hc ma ml mc a0 a2)).drew:=(QN _).drew;have e1:=(h5.cell (p:=⟨ob,1,none⟩) h0).trans o1;clear f0 o0 o1 d1 h1 h3 H b5 h5;generalize (w1.alloc (O12 G I J K L N O Q V C Y Z hc ma ml mc a0 a2)).drew=w2 at *;generalize w1.heap.size=i at *;have m7:w2.cell? ⟨i,7,none⟩=some (.string C):=Uz b6 (Bsd ..) (j:=7) rfl;have j5:w2.cell? ⟨k.B,12,none⟩=some (.int .i64 (M.steps:Int)):=b6.cell Ls;have j6:=b6.fz 12;have b3:=Bq3 b6;have H4:=Bc b3;clear b6 b3;go_wp2;have b3:=Ba H4;generalize w2.setCell ⟨k.B,12,none⟩ (.int .i64 ((M.steps:Int)+1))=w3 at *;have f1:∀b:World,Below w3.heap.size w3 b->b.cell? ⟨k.B,0,none⟩=some (.slice k.f.a1 k.f.l.length k.f.c1)/\b.cell? ⟨k.B,1,none⟩=some (.slice (some ⟨A,0,none⟩) k.f.ms.length k.f.c2)/\b.cell? ⟨i,0,none⟩=some (.int .i64 G)/\b.cell? ⟨i,1,none⟩=some (.int .i64 I)/\b.cell? ⟨i,2,none⟩=some (.slice J K L)/\b.cell? ⟨i,3,none⟩=some (.int .i64 N)/\b.cell? ⟨i,4,none⟩=some (.int .i64 O)/\b.cell? ⟨i,5,none⟩=some (.int .i64 Q)/\b.cell? ⟨i,6,none⟩=some (.int .i64 V)/\b.cell? ⟨i,7,none⟩=some (.string C)/\b.cell? ⟨i,8,none⟩=some (.slice Y Z hc)/\b.cell? ⟨i,9,none⟩=some (.slice ma ml mc)/\b.cell? ⟨i,10,none⟩=some (.int .i64 a0)/\b.cell? ⟨i,11,none⟩=some (.int .i64 a2):=fun b hb=>by
  have hA:=b3.below hb;have q:∀{j:Nat}{u:Value},[.int .i64 G,.int .i64 I,.slice J K L,.int .i64 N,.int .i64 O,.int .i64 Q,.int .i64 V,.string C,.slice Y Z hc,.slice ma ml mc,.int .i64 a0,.int .i64 a2][j]?=some u->b.cell? ⟨i,j,none⟩=some u:=fun hj=>Uz hA (Bsd ..) hj;exact⟨hA.cell Ls,by rw[<- d6];exact hA.cell Ls,q (j:=0) rfl,q (j:=1) rfl,q (j:=2) rfl,q (j:=3) rfl,q (j:=4) rfl,q (j:=5) rfl,q (j:=6) rfl,q (j:=7) rfl,q (j:=8) rfl,q (j:=9) rfl,q (j:=10) rfl,q (j:=11) rfl⟩
 have h6:=Bc ((b3.fok ok.f).below (Brm _ _).drew);clear b3 m7 j5 j6 e1
 go_region_held3 (fun b=>b.cell? ⟨k.B,0,none⟩=some (.slice k.f.a1 k.f.l.length k.f.c1)/\b.cell? ⟨k.B,1,none⟩=some (.slice (some ⟨A,0,none⟩) k.f.ms.length k.f.c2)/\b.cell? ⟨i,0,none⟩=some (.int .i64 G)/\b.cell? ⟨i,1,none⟩=some (.int .i64 I)/\b.cell? ⟨i,2,none⟩=some (.slice J K L)/\b.cell? ⟨i,3,none⟩=some (.int .i64 N)/\b.cell? ⟨i,4,none⟩=some (.int .i64 O)/\b.cell? ⟨i,5,none⟩=some (.int .i64 Q)/\b.cell? ⟨i,6,none⟩=some (.int .i64 V)/\b.cell? ⟨i,7,none⟩=some (.string C)/\b.cell? ⟨i,8,none⟩=some (.slice Y Z hc)/\b.cell? ⟨i,9,none⟩=some (.slice ma ml mc)/\b.cell? ⟨i,10,none⟩=some (.int .i64 a0)/\b.cell? ⟨i,11,none⟩=some (.int .i64 a2))
  (first|exact f1 w3.drew (Brm _ _).drew|exact f1 _ ((Brm _ _).drew.trans f2))
  (first|(go_at_call 98;refine(Ba g7 _ (Ba h6)).mono ?_;rintro e w7 ⟨wa,wc,rfl,h7,f2⟩))
 have h4:=(Own.drew (Ba H4)).below f2;have f3:=Ba HT ();obtain⟨a9,hW⟩:=Ba g8;have f4:∀v∈a,v.1=2->0<=v.2/\v.2<(M.ts.length:Int):=fun v hv h2=>by
  have hl:M.d.ts.length=M.ts.length:=by simp[Br.d]
  rcases hW v hv with z|z | z
  ·rw[z]at h2;simp at h2
  ·omega
  rw[hl]at z;exact z.2
 have d0:Hh k.f.T (M.ts.map Prod.fst) a T=true:=by
  rw[ok.T,<- f3];exact a9
 have j7:=Bc (fun (_:Unit)=>(Ak d0).1);have HV:=Bc (Za k M.tick (So i [.int .i64 G,.int .i64 I,.slice J K L,.int .i64 N,.int .i64 O,.int .i64 Q,.int .i64 V,.string C,.slice Y Z hc,.slice ma ml mc,.int .i64 a0,.int .i64 a2]::X) o (.slice la ln lc) (.slice sa sn sc) r s a T wa wc w7 ok.f h4 hM (Ba g9 ()) Ck Ck h7 d0 f4);clear f1 f2 g7 h6 h4 h7 H4;go_wp2_with fail;refine(Ba HV).mono ?_;rintro e w8 ⟨va,vc,f5,rfl,h8⟩;have j8:w8.cell? ⟨k.B,15,none⟩=some (.bool false):=h8.cell Ls;have q:∀{j:Nat}{u:Value},[.int .i64 G,.int .i64 I,.slice J K L,.int .i64 N,.int .i64 O,.int .i64 Q,.int .i64 V,.string C,.slice Y Z hc,.slice ma ml mc,.int .i64 a0,.int .i64 a2][j]?=some u->w8.cell? ⟨i,j,none⟩=some u:=fun hj=>Uz h8 (Bsh _ (Bsd ..)) hj;have q0:w8.cell? ⟨i,0,none⟩=some (.int .i64 G):=q (j:=0) rfl;have q1:w8.cell? ⟨i,1,none⟩=some (.int .i64 I):=q (j:=1) rfl;have q2:w8.cell? ⟨i,2,none⟩=some (.slice J K L):=q (j:=2) rfl;have q3:w8.cell? ⟨i,3,none⟩=some (.int .i64 N):=q (j:=3) rfl;have q4:w8.cell? ⟨i,4,none⟩=some (.int .i64 O):=q (j:=4) rfl;have q5:w8.cell? ⟨i,5,none⟩=some (.int .i64 Q):=q (j:=5) rfl;have q6:w8.cell? ⟨i,6,none⟩=some (.int .i64 V):=q (j:=6) rfl;have q7:w8.cell? ⟨i,7,none⟩=some (.string C):=q (j:=7) rfl;have q8:w8.cell? ⟨i,8,none⟩=some (.slice Y Z hc):=q (j:=8) rfl;have q9:w8.cell? ⟨i,9,none⟩=some (.slice ma ml mc):=q (j:=9) rfl;have qa:w8.cell? ⟨i,10,none⟩=some (.int .i64 a0):=q (j:=10) rfl;have qb:w8.cell? ⟨i,11,none⟩=some (.int .i64 a2):=q (j:=11) rfl;have H8:=Bc h8;clear HV h8 q;go_wp2_with fail;refine(Ba j0 _).mono ?_;rintro e w9 ⟨rfl,i0⟩;have h9:=(Ba H8).below i0;have i1:w9.cell? ⟨i,7,none⟩=some (.string C):=Uz h9 (Bsh _ (Bsd ..)) (j:=7) rfl;obtain⟨M2,b7⟩:∃M2,M2=M.tick.put ((⟨o.m,o.p,o.lo,s⟩,.slice la ln lc,f5)::r):=⟨_,rfl⟩;rw[<- b7]at h9;have a7:M2.os=(⟨o.m,o.p,o.lo,s⟩,.slice la ln lc,f5)::r:=by rw[b7];rfl
 have a8:M2.ts=M.ts:=by rw[b7];rfl
 have ed:M2.d=⟨⟨o.m,o.p,o.lo,s⟩::r.map Prod.fst,M.d.ts,M.d.made,M.d.read,M.d.out,M.d.steps+1,M.d.status,M.d.value⟩:=by rw[b7];rfl
 have et:Di k.E M2.d op n a=Di k.E M.d op n a:=Bi2 (by rw[ed];show _=(M.os.map Prod.fst).length;rw[hM];simp) (by rw[ed]) (by rw[ed]) op n a;have tm:=Bgo (F:=Cp k.cs) (ms:=k.ms) (res:=(k.E.meth o.m).result) (op:=op) (n:=n);have f6:=Ba j7 ();rw[f3,<- f6]at tm;have i2:(Ce a).1=2->0<=(Ce a).2/\(Ce a).2<(M2.ts.length:Int):=by
  rw[a8];cases a with
  | nil=>intro e;exact absurd e Fm
  | cons z l=>exact f4 z (Bsd ..)
 have HX:Hid (∀x∈r,x.1∈M.d.os):=fun x hx=>by
  show x.1∈M.os.map Prod.fst;rw[hM];exact Bsc (Bsh _ hx)
 have d2:=Bc (Bem k M2 (So i [.int .i64 G,.int .i64 I,.slice J K L,.int .i64 N,.int .i64 O,.int .i64 Q,.int .i64 V,.string C,.slice Y Z hc,.slice ma ml mc,.int .i64 a0,.int .i64 a2]::X) op n a va vc w9 ok h9 tm.1 tm.2 i2);obtain⟨R,hR⟩:∃R,Di k.E M2.d op n a=R:=⟨_,rfl⟩;rw[hR]at d2;have HR:Hid (∀_:Unit,Di k.E M.d op n a=R):=fun _=>by rw[<- et];exact hR
 have d3:=Bc (fun (_:Unit)=>ed);have HA:=Bc (Bto d0 hW);have HL:=Bc (fun (_:Unit)=>f6);have f7:=Bc (Bto a7 a8);have H9:=Bc h9;clear H8 i0 hR et tm i2 ed q0 q1 q2 q3 q4 q5 q6 q7 q8 q9 qa qb a9 hW d0 f6 f3 b7 a8 f4 hM a7 j8 h9 g8;go_wp2_with fail;rw[Ba i8 ()];refine(Ba d2).mono ?_;rintro e a3 ⟨rfl,f8⟩;have b8:=(Ba H9).below f8;obtain⟨a7,a8⟩:=Ba f7;have F:=Ba HF;have hx:∀x∈r,x.1∈M.d.os:=Ba HX;rcases Ba HH with ⟨t,t0,tl,th,f9,hd⟩|⟨i3,hD⟩
 ·have g0:R=(t:Int):=by rw[<- Ba HR (),th]
  subst g0;have hl:M.d.ts.length=M.ts.length:=by simp[Br.d]
  have i4:t<M2.ts.length:=by rw[a8];omega
  have i5:M2.ts[t].1.cl=(Cc M.d.ts (t:Int)).cl:=by
   have e1:M.d.ts=M.ts.map Prod.fst:=rfl;rw[e1,Sv (show t<M.ts.length by omega)];simp only[a8]
  have HC:=Bc (Bgf k M2 _ t a3 ok b8 i4 (by rw[a7];simp;omega) _ i5 (fun x d4=>by
   rw[a7]at d4;rcases List.mem_cons.1 d4 with rfl|d4
   ·have:=f9 o (Bsd ..);exact⟨b2,this.2⟩
   have:=f9 x.1 (Bsh _ (Bsc d4));exact⟨by rw[<- ok.ml];exact this.1,this.2⟩))
  have i6:Fj k.E (t:Int) (Cc M.d.ts (t:Int)).cl M2.d (M2.os.map Prod.fst)=d':=by
   rw[hd,a7,Ba d3 ()];refine Bcm ?_ _;rfl
  rw[i6]at HC;have kt:(0:Int)<(t:Int):=Ck;clear b8 f8 H9 d2 HR d3 HA f7 F HF HH f9 hd th i5 i4 i6 a7 a8 hl i1;go_wp2_with fail;refine(Ba HC).mono ?_;rintro e j9 ⟨rfl,M9,b9,c4⟩;have g1:=Bc (J7 (J7 b9));have HE:=Bc (fun (_:Unit)=>c4);clear HC b9 c4;go_wp2;refine Wf (Btf rfl _ _ _) rfl ?_;exact⟨rfl,M9,Ba g1,Ba HE ()⟩
 have g0:R=0:=by rw[<- Ba HR (),i3]
 subst g0;obtain⟨a9,hW⟩:=Ba HA;have i7:s.length<=900:=by
  have:=congrArg List.length (Ba g9 ());simp at this;omega
 have hl:M.d.ts.length=M.ts.length:=by simp[Br.d]
 have P:Bek k M2 ⟨o.m,o.p,o.lo,s⟩ r ⟨G,I,J,K,L,N,O,Q,V,C,Y,Z,hc,ma,ml,mc,a0,a2⟩ a op n d':=Bp8 ok F b2 hx Ck i7 a8 (Ba d3 ()) (Ba j1 ()) (congrArg Prod.fst (Ba j2 ())) hp (Ba i9 ()) (Ba HN ()) (Ba HT ()) a9 hW hD;have HC:=Bc (Bix k M2 (So i [.int .i64 G,.int .i64 I,.slice J K L,.int .i64 N,.int .i64 O,.int .i64 Q,.int .i64 V,.string C,.slice Y Z hc,.slice ma ml mc,.int .i64 a0,.int .i64 a2]::X) ⟨o.m,o.p,o.lo,s⟩ (.slice la ln lc) f5 r ⟨G,I,J,K,L,N,O,Q,V,C,Y,Z,hc,ma,ml,mc,a0,a2⟩ a va vc op n d' a3 P b8 a7);simp only[RMV.val]at HC;have q:∀{j:Nat}{u:Value},[.int .i64 G,.int .i64 I,.slice J K L,.int .i64 N,.int .i64 O,.int .i64 Q,.int .i64 V,.string C,.slice Y Z hc,.slice ma ml mc,.int .i64 a0,.int .i64 a2][j]?=some u->a3.cell? ⟨i,j,none⟩=some u:=fun hj=>Uz b8 (Bsh _ (Bsd ..)) hj;have q0:a3.cell? ⟨i,0,none⟩=some (.int .i64 G):=q (j:=0) rfl;have q1:a3.cell? ⟨i,1,none⟩=some (.int .i64 I):=q (j:=1) rfl;have q2:a3.cell? ⟨i,2,none⟩=some (.slice J K L):=q (j:=2) rfl;have q3:a3.cell? ⟨i,3,none⟩=some (.int .i64 N):=q (j:=3) rfl;have q4:a3.cell? ⟨i,4,none⟩=some (.int .i64 O):=q (j:=4) rfl;have q5:a3.cell? ⟨i,5,none⟩=some (.int .i64 Q):=q (j:=5) rfl;have q6:a3.cell? ⟨i,6,none⟩=some (.int .i64 V):=q (j:=6) rfl;have q7:a3.cell? ⟨i,7,none⟩=some (.string C):=q (j:=7) rfl;have q8:a3.cell? ⟨i,8,none⟩=some (.slice Y Z hc):=q (j:=8) rfl;have q9:a3.cell? ⟨i,9,none⟩=some (.slice ma ml mc):=q (j:=9) rfl;have qa:a3.cell? ⟨i,10,none⟩=some (.int .i64 a0):=q (j:=10) rfl;have qb:a3.cell? ⟨i,11,none⟩=some (.int .i64 a2):=q (j:=11) rfl;clear b8 f8 H9 d2 HR d3 HA f7 F HF HH i3 a7 a8 P hD a9 hW q i7 hl i1 hx;go_wp2_with fail;refine(Ba HC).mono ?_;rintro e j9 ⟨rfl,M9,b9,c4⟩;have g1:=Bc (J7 b9);have HE:=Bc (fun (_:Unit)=>c4);clear HC b9 c4;go_wp2;go_end0;exact⟨rfl,M9,Ba g1,Ba HE ()⟩
def Br.more(M:Br)(t:Dj)(ta:TA)(tc:Nat):Br:=⟨M.os,M.ts++[(t,.slice none 0 0)],M.made,M.read,M.out,M.steps,M.status,M.value,M.oa,M.oc,ta,tc,M.xa,M.xc⟩
def Biu{k:Cz}{M:Br}{X:List Rw}{w w9:TW}{c:Int}{b:Bool}{ta:TA}{tc:Nat}(h:Bm k M X w)(g:w9.ownsRow k.w0.heap.size 118 3 (.s ta (M.ts.length+1) tc) (M.ts.length+1) (M.ts.flatMap If++[.i c,.bool b,.s none 0 0])) (l:w.grownBy w9 (Value.slice M.ta M.ts.length M.tc).ownBlock)(m:(Value.slice ta (M.ts.length+1) tc).ownBlock=(Value.slice M.ta M.ts.length M.tc).ownBlock\/(Value.slice ta (M.ts.length+1) tc).ownBlock=some w.heap.size):w9.C k.B 8 (.s M.ta M.ts.length M.tc)/\w9.frozen? (.a k.B 8)=false/\Bm k (M.more ⟨c,b,[]⟩ ta tc) X (w9.setCell (.a k.B 8) (.s ta (M.ts.length+1) tc)):=by
 obtain⟨D,p,F,G,I,J,K,L,N,O,V,Y,Z,xc⟩:=M;simp only at g l m ⊢;have f:=Own.app (i:=2) h Ls g l m;have q:=Own.cell (i:=0) f Ls 8 (.s ta (p.length+1) tc);have t:=Own.add_nil q 240 2;refine⟨Own.see (i:=0) (j:=8) f Ls Ls,Own.free (i:=0) f Ls 8,?_⟩;have v:∀{a b c d e:Rw}{P Q R:List Rw}{w:TW},Own k.w0 (e::a::b::c::d::(P++Q++R)) w->Own k.w0 ((a::b::c::d::(P++(Q++[e])))++R) w:=fun {a b c d e P Q R w} z=>z.perm (by
  have:(a::b::c::d::(P++(Q++[e])))++R=(a::b::c::d::(P++Q))++e::R:=Hd;rw[this];have A:e::a::b::c::d::(P++Q++R)=e::((a::b::c::d::(P++Q))++R):=Hd;rw[A];exact List.perm_middle.symm)
 unfold Br.more Bm Br.rows;simp only[Bse,Bsw,Buu,Bst,Bsz,Bwd,Btg,Ws,Br7,Bs2,Brz];unfold Br.cells;simp only[Ws,Br7,Bs2,Brz];exact v t
def Xj{E:Cs}{n B:Int}{d:Cv}:∀l,(Fj E n B d l).steps=d.steps
 | []=>rfl
 | o::r=>by
  unfold Fj
  split
  ·rfl
  exact Xj r
def Bgp{E:Cs}{d d':Cv}(h:Fp E d d'):d'.steps=d.steps+1:=by
 cases h using Fp.el with
 | thrown=>exact Xj _
 | does o r s a d' h1 h2 h3 h4 h5 h6 h7 hD=>cases hD using Bq.el<;>rfl
def Bid (k:Cz)(f:Nat)(w:TW):Nat:=match w.cell? ⟨k.B,13,none⟩ with
 | some (.int _ s)=>if 0<=s then 0 else match w.cell? ⟨k.B,12,none⟩ with
  | some (.int _ n)=>f-n.toNat+1
  | _=>0
 | _=>0
def Bm.mr{k:Cz}{M:Br}{X:List Rw}{w:TW}(h:Bm k M X w)(f:Nat):Bid k f w=if 0<=M.status then 0 else f-M.steps+1:=by
 have b:w.C k.B 13 (.i M.status):=h.cell Ls;have c:w.C k.B 12 (.i (M.steps:Int)):=h.cell Ls;unfold Bid;rw[b,c];simp
def Br.zero:Br:=⟨[],[],0,0,[],0,-1,0,none,0,none,0,none,0⟩
def Bq5(k:Cz)(f:k.B=k.w0.heap.size)(b:Array Value)(c:b.toList=Br.zero.cells k):Bm k Br.zero [] (k.w0.alloc (.cells b 115)):=by
 have g:Own k.w0 [] k.w0:=⟨Hd,List.Pairwise.nil,Brm _ _⟩;have h:=((g.add_nil 3 1).add_nil 118 3).add_nil 171 4;have i:b.size=16:=by
  have:=congrArg List.length c;simpa[Br.cells] using this
 have e:=h.var b 115;rw[i,c,<- f]at e;exact e
def Bht{u:Nat}(h:u<5):(Md.take (u+1+1)).map (fun t=>((t,.s none 0 0):Dj×Value))=(Md.take (u+1)).map (fun t=>(t,.s none 0 0))++[(⟨(u:Int)+2,true,[]⟩,.s none 0 0)]:=by
 have:u=0\/u=1\/u=2\/u=3\/u=4:=Ck;rcases this with rfl|rfl|rfl|rfl|rfl<;>rfl
def Bok{E:Cs}{u:Nat}{d e:Cv}(h:Fx E u d e):(0<=d.status/\e=d)\/(d.status = -1/\u<=d.steps/\e=⟨d.os,d.ts,d.made,d.read,d.out,d.steps,1,d.value⟩)\/∃d',d.status = -1/\d.steps<u/\Tm E d/\Fp E d d'/\Fx E u d' e:=by
 cases h using Fx.el with
 | done _ h=>exact .inl ⟨h,rfl⟩
 | out _ h1 h2=>exact .inr (.inl ⟨h1,h2,rfl⟩)
 | step _ d' _ h1 h2 h3 h4 h5=>exact .inr (.inr ⟨d',h1,h2,h3,h4,h5⟩)
def Pm (q:Nat)(ta:TA)(tc:Nat):Br:=⟨[],(Md.take (q+1)).map (fun t=>(t,.slice none 0 0)),0,0,[],0,-1,0,none,0,ta,tc,none,0⟩
def Bqm{u:Nat}(h:u<=5)(b:TA)(c:Nat):(Pm u b c).ts.length=u+1:=by
 unfold Pm;simp only[Br1,Btr];have:Md.length=6:=rfl;omega
def Bis(k:Cz)(w:TW)(O:k.w0=((w.alloc (O11 k.f.a1 k.f.l.length k.f.c1 k.f.a2 k.f.ms.length k.f.c2)).alloc (O29 k.en k.ia k.ins.length k.ic k.heap k.depth k.fuel)).alloc (O30 none 0 0 0 0 0))(hB:k.B=w.heap.size+3)(ok:k.Ok)(j t:Nat)(b1:k.en=(j:Int))(hj:j<k.f.ms.length)(b2:k.fuel=(t:Int))(e:Cv)(b3:Fx k.E t (V0 k.E j) e):Calls prog 24 #[k.f.val,.agg #[.i k.en,.s k.ia k.ins.length k.ic,.i k.heap,.i k.depth,.i k.fuel]] w fun r g=>∃xa xc,r=.r (.tuple #[.agg #[.s xa e.out.length xc,.i e.status,.i e.value,.i (e.steps:Int)],.bool false])/\De g w.heap.size (.s xa e.out.length xc) e.out/\Bl w g:=by
 obtain⟨i0,v,b4,b5,b6⟩:=Bsa Tryz.infoThing;have z:k.w0.heap.size=w.heap.size+3:=by rw[O];simp
 have a5:=Bq5 k (by rw[hB,z]) #[.s k.f.a1 k.f.l.length k.f.c1,.s k.f.a2 k.f.ms.length k.f.c2,.i k.en,.s k.ia k.ins.length k.ic,.i k.heap,.i k.depth,.i k.fuel,.s none 0 0,.s none 0 0,.i 0,.i 0,.s none 0 0,.i 0,.i (-1),.i 0,.bool false] Ls;have b7:Bl w k.w0:=by rw[O];exact(Bu w _ _).alloc Fr _
 simp only[RFl.val];rw[O]at a5;have c8:_=some (Value.slice none 0 0):=a5.cell (j:=8) Ls;rw[hB]at c8;have b8:=Bc (fun (_:Unit)=>hB);have HM:=Bc a5;have d6:=Bc b7;have s1:k.w0.heap[w.heap.size+1]?=some (O29 k.en k.ia k.ins.length k.ic k.heap k.depth k.fuel):=by rw[O];exact Bg (Bx w _ _) _
 have s2:k.w0.heap[w.heap.size+2]?=some (O30 none 0 0 0 0 0):=by
  have d7:((w.alloc (O11 k.f.a1 k.f.l.length k.f.c1 k.f.a2 k.f.ms.length k.f.c2)).alloc (O29 k.en k.ia k.ins.length k.ic k.heap k.depth k.fuel)).heap.size=w.heap.size+2:=Hd;rw[<- d7,O];exact Be _ _
 have a9:=Bc (fun (_:Unit)=>z);have d8:=Bc (fun (_:Unit)=>b1);have d9:=Bc (fun (_:Unit)=>b2);clear a5 b7 O b1 b2 z hB;go_in;go_wp2_with (at_builtin;refine Btl _ rfl _ _ 113 rfl k.w0.heap.size 118 i0 _ 3 40 Bvw v b4 b5 b6 rfl Fm _ _ [] rfl (Brw _ _ _ _) ⟨w.heap.size+4,0,none⟩ 1 1 [.i 0,.bool false,.s none 0 0] rfl rfl ?c1 ?c2 ?c3 ?c4 ?c5 ?_)
 case c1=>exact Dh _ _ _ _ Hd
 case c2=>intro u Z;simp at Z;rcases Z with rfl|rfl|rfl<;>rfl
 case c3=>unfold maxLen;omega
 case c4=>omega
 case c5=>have:=Ba a9 ();simp;omega
 intro v' w2 G a0 _ a3;obtain⟨ta,tc,rfl⟩:=Bh G;obtain⟨m,F,I⟩:=Biu (c:=0) (b:=false) ((Ba HM).below (QN _)) G a0 (show (Value.slice ta 1 tc).ownBlock=(Value.slice none 0 0).ownBlock\/(Value.slice ta 1 tc).ownBlock=some _ from by simpa using a3);have m:w2.C k.B 8 (.s none 0 0):=m;rw[<- Ba b8 ()];have H3:=Bc I;clear G a0 a3 I c8 HM;go_wp2;have I:=Ba H3;have I:Bm k (Br.zero.more ⟨0,false,[]⟩ ta tc) [] (w2.setCell (.a k.B 8) (.s ta 1 tc)):=I;generalize w2.setCell (.a k.B 8) (.s ta 1 tc)=w3 at *
 go_loopw [7] (fun i wr=>∃q:Nat,q<=5/\i=.i ((q:Int)+2)/\∃ta tc,Hid (Bm k (Pm q ta tc) [] wr))
  (fun i _=>7-(intOf i).toNat)
 case atStart=>exact⟨0,Ck,rfl,ta,tc,I⟩
 case round=>
  clear I H3 m F;obtain⟨q,hq,rfl,A,D,HQ⟩:=hrel;have h:=Ba HQ;have p:=Bqm hq A D;by_cases f0:q<5
  ·have c8:wr.C k.B 8 (.s A (q+1) D):=by rw[<- p];exact h.cell Ls
   have b0:=h.hrow;rw[p]at b0;have kq:(q:Int)+2<7:=Ck;have g0:IntKind.i64.wrap ((q:Int)+2+1)=(q:Int)+2+1:=Cx _ Ck Ck;have Q:=h.low.size;have HL:=Bc (fun (_:Unit)=>p);clear h p;go_wp2_with (at_builtin;refine Btl _ rfl _ _ 113 rfl k.w0.heap.size 118 i0 _ 3 40 Bvw v b4 b5 b6 rfl Fm _ _ _ rfl (World.ownsRow.alloc b0 _) ⟨wr.heap.size,0,none⟩ 1 1 [.i ((q:Int)+2),.bool true,.s none 0 0] rfl rfl ?c1 ?c2 ?c3 ?c4 ?c5 ?_)
   case c1=>exact Dh _ _ _ _ rfl
   case c2=>intro u Z;simp at Z;rcases Z with rfl|rfl|rfl<;>rfl
   case c3=>unfold maxLen;omega
   case c4=>omega
   case c5=>simp;omega
   intro v' w4 G a0 _ a3;obtain⟨J,K,rfl⟩:=Bh G;have p:=Ba HL ();have hv:=Biu (c:=(q:Int)+2) (b:=true) (w9:=w4) (ta:=J) (tc:=K) ((Ba HQ).below (QN _)) (by rw[p];exact G) (by rw[p];exact a0) (by rw[p];show (Value.slice J (q+1+1) K).ownBlock=(Value.slice A (q+1) D).ownBlock\/_;simpa using a3);rw[p]at hv;obtain⟨m,F,h4⟩:=hv;have m:w4.C k.B 8 (.s A (q+1) D):=m;have h5:Bm k (Pm (q+1) J K) [] (w4.setCell (.a k.B 8) (.s J (q+1+1) K)):=by
    have:Pm (q+1) J K=(Pm q A D).more ⟨(q:Int)+2,true,[]⟩ J K:=by
     unfold Pm Br.more;rw[Bht f0]
    rw[this];exact h4
   have H5:=Bc h5;clear h4 h5 G a0 a3 p b0 c8 HQ;go_wp2;go_roundw
   case rel=>exact⟨q+1,Ck,Mg,J,K,Ba H5⟩
   case measure=>simp[intOf];omega
  have q5:q=5:=Ck;subst q5;have kq:¬((5:Nat):Int)+2<7:=Ck;have b9:Bm k (Pm 5 A D) [Da (.s none ([]:TP).length 0) []] wr:=Own.mid (X:=[]) (Own.add_nil h 240 2);have Q:=h.low;have z:=Ba a9 ();have L:wr.heap[w.heap.size+1]?=some (O29 k.en k.ia k.ins.length k.ic k.heap k.depth k.fuel):=(Q.block _ Ck).trans s1;have e0:wr.C (w.heap.size+1) 0 (.i k.en):=(Bb L 0).trans rfl;rw[Ba d8 ()]at e0;have f1:=(ok.good hj).rd.lo;have HC:=Bc (Wg k (Pm 5 A D) [] j (k.E.meth j).locals.toNat [] none 0 wr ok.f b9 hj (by rw[Bsr f1.1,ok.meth hj]) Hd Ck (by show (0:Nat)<=1000;omega));clear h b9 Q z L HQ p;go_wp2_with fail;refine(Ba HC).mono ?_;rintro e' w5 ⟨rfl,lv,oa,oc,h5⟩;have h6:=J7 h5;have hd:((Pm 5 A D).open (⟨j,0,[]++List.replicate ((k.E.meth j).locals.toNat-([]:TP).length) (0,0),[]⟩,lv,.s none 0 0) oa oc).d=V0 k.E j:=rfl;have c0:Hid (Fx k.E t ((Pm 5 A D).open (⟨j,0,[]++List.replicate ((k.E.meth j).locals.toNat-([]:TP).length) (0,0),[]⟩,lv,.s none 0 0) oa oc).d e):=by unfold Hid;rw[hd];exact b3
  have H6:=Bc h6;clear h5 h6 hd HC e0 b3;go_wp2
  go_loopw [41] (fun _ wr=>∃M,Hid (Bm k M [] wr)/\Hid (Fx k.E t M.d e))
   (fun _ wr=>Bid k t wr)
  case atStart=>exact⟨_,Ba H6,c0⟩
  case round=>
   clear H6 c0;obtain⟨M,H,HR⟩:=hrel;have h:=Ba H;have c6:wr.C k.B 13 (.i M.status):=h.cell Ls;have f2:wr.C k.B 15 (.bool false):=h.cell Ls;have f3:wr.C k.B 12 (.i (M.steps:Int)):=h.cell Ls;have z:=Ba a9 ();have L:wr.heap[w.heap.size+1]?=some (O29 k.en k.ia k.ins.length k.ic k.heap k.depth k.fuel):=(h.low.block _ Ck).trans s1;have e4:wr.C (w.heap.size+1) 4 (.i k.fuel):=(Bb L 4).trans rfl;rw[Ba d9 ()]at e4;have a6:=h.mr t;have c7:=Bc (fun (_:Unit)=>a6);have V:M.d.status=M.status:=rfl;have a7:M.d.steps=M.steps:=rfl;rcases Bok (Ba HR) with ⟨N,g2⟩|⟨N,g2,g3⟩|⟨d',N,g2,g3,g4,g5⟩
   ·rw[V]at N;have ks:decide (M.status<0)=false:=Fr;have f4:wr.C k.B 11 (.s M.xa M.out.length M.xc):=h.cell Ls;have f5:wr.C k.B 14 (.i M.value):=h.cell Ls;have c9:wr.heap[w.heap.size+2]?=some (O30 none 0 0 0 0 0):=(h.low.block _ Ck).trans s2;have a8:w.heap.size+2≠k.B:=by have:=Ba b8 ();omega
    have hS:∀g:TW,g.heap[k.B]?=wr.heap[k.B]?->g.C k.B 11 (.s M.xa M.out.length M.xc)/\g.C k.B 13 (.i M.status)/\g.C k.B 14 (.i M.value)/\g.C k.B 12 (.i (M.steps:Int))/\g.C k.B 15 (.bool false):=fun g m=>⟨(Brr (a:=⟨k.B,11,none⟩) m).trans f4,(Brr (a:=⟨k.B,13,none⟩) m).trans c6,(Brr (a:=⟨k.B,14,none⟩) m).trans f5,(Brr (a:=⟨k.B,12,none⟩) m).trans f3,(Brr (a:=⟨k.B,15,none⟩) m).trans f2⟩;obtain⟨x0,x1,x2,x3⟩:=cl4 c9;simp at x0 x1 x2 x3;have Q:=(Ba d6).trans (h.low.mono Ck);have d0:=D6 (base':=w.heap.size) h.xrow Ck;have a4:∀i,(Value.slice M.xa M.out.length M.xc).ownBlock=some i->i≠w.heap.size+1+1:=fun i v=>by
     have:=(h.xrow.lt i v).1;omega
    have d1:∀a b c d,((((wr.setCell (.a (w.heap.size+1+1) 0) a).setCell (.a (w.heap.size+1+1) 1) b).setCell (.a (w.heap.size+1+1) 2) c).setCell (.a (w.heap.size+1+1) 3) d).ownsRow w.heap.size 3 1 (.s M.xa M.out.length M.xc) M.out.length (M.out.map (Value.int .i64)):=fun a b c d=>Fz d0 (fun i v=>by
     rw[Brk _ _ _ _ (by simpa using a4 i v),Brk _ _ _ _ (by simpa using a4 i v),Brk _ _ _ _ (by simpa using a4 i v),Brk _ _ _ _ (by simpa using a4 i v)])
    have f6:=Bc d1;have f7:=Bc Q;have Y:=Bc (fun (_:Unit)=>g2);clear h a6 V a7 L z H HR g2 d0 a4 d1 Q;have y0:wr.C (w.heap.size+1+1) 0 (.s none 0 0):=x0;have y1:wr.C (w.heap.size+1+1) 1 (.i 0):=x1;have y2:wr.C (w.heap.size+1+1) 2 (.i 0):=x2;have y3:wr.C (w.heap.size+1+1) 3 (.i 0):=x3;have d2:wr.heap[w.heap.size+1+1]?=some (O30 none 0 0 0 0 0):=c9;obtain⟨z0,z1,z2,z3⟩:=fr4 d2;have lR:=Sp d2;clear x0 x1 x2 x3;go_wp2
    go_region_held3 (fun g=>g.C k.B 11 (.s M.xa M.out.length M.xc)/\g.C k.B 13 (.i M.status)/\g.C k.B 14 (.i M.value)/\g.C k.B 12 (.i (M.steps:Int))/\g.C k.B 15 (.bool false))
     (first|exact hS wr.drew rfl|exact hS _ ((Brk _ _ _ _ (Btj a8)).trans ((Brk _ _ _ _ (Btj a8)).trans ((Brk _ _ _ _ (Btj a8)).trans (Brk _ _ _ _ (Btj a8))))))
     (fail)
    go_wp2;refine tb (.tuple #[.agg #[.s M.xa M.out.length M.xc,.i M.status,.i M.value,.i (M.steps:Int)],.bool false]) (by simp[results,results24,go_sem,y0,y1,y2,y3]) ?_;refine⟨M.xa,M.xc,?_⟩;rw[Ba Y ()];exact⟨rfl,(Ba f6 _ _ _ _).drew,(((((Ba f7).setCell (by show w.heap.size<=w.heap.size+1+1;omega) _).setCell (by show w.heap.size<=w.heap.size+1+1;omega) _).setCell (by show w.heap.size<=w.heap.size+1+1;omega) _).setCell (by show w.heap.size<=w.heap.size+1+1;omega) _).drew⟩
   ·rw[V]at N;rw[a7]at g2;have ks:decide (M.status<0)=true:=by rw[N];rfl
    have kf:decide ((t:Int)<=(M.steps:Int))=true:=by simpa using g2
    have d3:=Own.cell (i:=0) h Ls 13 (.i 1);have h2:Bm k (M.fin 1 M.value) [] (wr.setCell (.a k.B 13) (.i 1)):=d3;have f8:=h.fz 13;have H2:=Bc (fun q=>h2.drewN q);have Y:=Bc (fun (_:Unit)=>g3);have f9:=Bc (fun q=>Bm.mr (h2.drewN q) t);clear h h2 d3 a6 V a7 g3 L z H HR;go_wp2;go_quiet (fail);rename_i nq;have g6:(wr.drewN nq).C k.B 13 (.i M.status):=c6;have g7:(wr.drewN nq).frozen? (.a k.B 13)=false:=f8;go_wp2;go_roundw
    case rel=>exact⟨_,Ba H2 nq,by unfold Hid;rw[Ba Y ()];exact .done _ (by show (0:Int)<=1;omega)⟩
    case measure=>
     have F:=Ba c7 ();rw[Pk Ck]at F;refine Bvt (Nat.le_of_eq (Ba f9 nq)) ?_;rw[F,Th (by show (0:Int)<=1;omega)];omega
   rw[V]at N;rw[a7]at g2;have ks:decide (M.status<0)=true:=by rw[N];rfl
   have kf:decide ((t:Int)<=(M.steps:Int))=false:=Fr;have HS:=Bc (fun q=>Bio k M [] d' (wr.drewN q) ok (h.drewN q) g3 g4);have Y:=Bc (Bto (Bgp g4) g5);clear h a6 V g3 g4 g5 L z H HR;go_wp2;go_quiet (fail);rename_i nq;have d4:=Bc (Ba HS nq);clear HS;go_wp2_with fail;refine(Ba d4).mono ?_;rintro e' w6 ⟨rfl,M6,h6,e6⟩;have H6:=Bc h6;have d5:=Bc (fun (_:Unit)=>e6);clear d4 h6 e6;go_wp2;go_roundw
   case rel=>exact⟨M6,Ba H6,by unfold Hid;rw[Ba d5 ()];exact(Ba Y).2⟩
   case measure=>
    have F:=Ba c7 ();rw[Pk Ck]at F;have m:=(Ba H6).mr t;have e3:M6.steps=M.steps+1:=by
     have:=(Ba Y).1;rw[<- Ba d5 ()]at this;exact this
    refine Bvt (Nat.le_of_eq m) ?_;rw[F]
    split<;>omega
def Bdy{z:TI}{i:List Rd.Mth}:∀(l:List Rd.Mth) (k:Nat),Gt z i k l<0->∀(t:Nat) (m:Rd.Mth),l[t]?=some m->Hv z i (k+t) m=true
 | [],_,_,t,m,h=>by simp at h
 | x::l,k,h,t,m,hm=>by
  unfold Gt at h;by_cases g:Hv z i k x=false;·rw[Th g]at h;omega
  rw[Pk g]at h;cases t with
  | zero =>
   obtain rfl:=Option.some.inj (show some x=some m from hm);simpa using g
  | succ t =>
   rw[show k+(t+1)=k+1+t by omega];exact Bdy l (k+1) h t m hm
def Ya{f:Rd.Mth->Int×Int}:∀(l:List Rd.Mth) (k:Nat),(Eu f k l).1=0->∀m∈l,(f m).1=0
 | [],_,_=>Hd
 | x::l,k,h=>by
  unfold Eu at h;by_cases g:(f x).1≠0;·rw[Th g]at h;exact absurd h g
  rw[Pk g]at h;intro m b;rcases List.mem_cons.1 b with rfl|b
  ·simpa using g
  exact Ya l _ h m b
def Bbe:∀{l:TI},Ii l=true->∀v∈l,-2147483648<=v/\v<=2147483647
 | [],_=>Hd
 | n::l,h=>by
  unfold Ii at h;by_cases b:n < -2147483648;·rw[Th b]at h;cases h
  by_cases g2:2147483647<n;·rw[Pk b,Th g2]at h;cases h
  rw[Pk b,Pk g2]at h;intro v c;rcases List.mem_cons.1 c with rfl|c
  ·omega
  exact Bbe h v c
def Bqs{F:TB}(h:(Gv F).1=0){z:TI}(c:Iw z=true)(i l:Int):(⟨(Rd.read F).1.classes,(Rd.read F).1.methods,z,i,l⟩:Cs).Ok/\z.length<=1000:=by
 have e:=Ml h;obtain⟨K,m,p⟩:=Kb _ e;unfold Iw at c;by_cases g:20<z.length;·rw[Th g]at c;cases c
 rw[Pk g]at c;refine⟨⟨K,Bjl F (Ut e),?_,fun j q=>?_,Bbe c⟩,Ck⟩
 ·unfold Gv J6 at h;rw[Pk (by rw[e];simp)]at h;exact Ya _ _ h
 have b:=e;unfold Rf.formed at b;by_cases f:(Rf.classed F).1≠0;·rw[Th f]at b;exact absurd b f
 rw[Pk f,m,p]at b;unfold Rg at b;by_cases g2:0<=Gt (Tr.tree (Rd.read F).1.classes) (Rd.read F).1.methods 0 (Rd.read F).1.methods;·rw[Th g2]at b;simp at b
 have t:Gt (Tr.tree (Rd.read F).1.classes) (Rd.read F).1.methods 0 (Rd.read F).1.methods<0:=Ck;have:=Bdy _ 0 t j _ (Xe (E:=⟨(Rd.read F).1.classes,(Rd.read F).1.methods,z,i,l⟩) q);rw[Brz]at this;exact this
def Bgz(s:ByteArray)(w:TW)(G:s.size<=maxLen)(h:(Rf.formed s.data.toList).1=0):Calls prog 22 #[.string s] w fun e q=>∃(f:RFl) (x y:Int),e=.r (.tuple #[f.val,.i 0,.i x,.i y])/\f.ok q/\f.l.map Prod.fst=Rf.given++(Rd.read s.data.toList).1.classes/\f.ms.map (fun z=>z.1.m)=(Rd.read s.data.toList).1.methods/\Bl w q:=by
 obtain⟨K,t,v⟩:=Kb _ h;have I:=Ac s.data.toList;have a0:=Baa s.data.toList;refine(Xr s w G).mono ?_;rintro e w1 ⟨J,n1,L,N,n2,O,rfl,Q,V⟩;obtain⟨A,B,j,C,D,F⟩:=Q h;obtain⟨Y,Z,g⟩:=Bh C.1;simp only[Value.slice.injEq]at g;obtain⟨rfl,rfl,rfl⟩:=g;obtain⟨Y,Z,g⟩:=Bh F.1;simp only[Value.slice.injEq]at g;obtain⟨rfl,rfl,rfl⟩:=g;have a3:A.length=7+(Rf.fil s.data.toList).1.length:=by have:=congrArg List.length j;simp[Rf.given]at this;omega
 have a4:B.length=(Rf.fil s.data.toList).2.1.length:=by have:=congrArg List.length D;simpa using this
 have l6:=K.l6;have m6:=K.m6;rw[<- t]at l6;rw[<- v,Br1]at m6;refine⟨⟨J,L,N,O,w.heap.size,A,B⟩,_,_,by rw[h];rfl,⟨Mc,Mc,Mc,Bgd j (p:=fun c=>c.fields.length<=1000) (by
   intro p b;rcases List.mem_append.1 b with b|b
   ·simp[Rf.given]at b;rcases b with rfl|rfl|rfl|rfl|rfl|rfl|rfl<;>simp
   exact I.2 p b),C,F⟩,by rw[<- t];exact j,?_,V⟩
 rw[<- v,<- D,Bvg];rfl
def Bl7(s:ByteArray)(f:RFl)(p:Int)(q:TI)(h d v:Int)(t:TA)(A:Nat)(w:TW)(C:(Gv s.data.toList).1=0)(N:f.ok w)(O:f.l.map Prod.fst=Rf.given++(Rd.read s.data.toList).1.classes)(D:f.ms.map (fun z=>z.1.m)=(Rd.read s.data.toList).1.methods)(Q:Ft w t q)(V:Gl (Rd.read s.data.toList).1.methods p q h d v=0) (R:W8)(B:Ts (Oc (Ve (Rd.read s.data.toList).1.classes (Rd.read s.data.toList).1.methods q h d) v.toNat p)=R):Calls prog 24 #[f.val,.agg #[.i p,.s t q.length A,.i h,.i d,.i v]] w fun r F=>∃G I,r=.r (.tuple #[.agg #[.s G R.out.length I,.i R.status,.i R.value,.i R.steps],.bool false])/\De F w.heap.size (.s G R.out.length I) R.out/\Bl w F:=by
 obtain⟨g,z2,Y,z4,Z,z6,z7,z8⟩:=V9 V;obtain⟨ok,a0⟩:=Bqs C z8 h d;obtain⟨K,-,-⟩:=Kb _ (Ml C);unfold Jp at g;by_cases J:p<0;·rw[Th J]at g;cases g
 rw[Pk J]at g;by_cases g2:((Rd.read s.data.toList).1.methods.length:Int)<=p;·rw[Th g2]at g;cases g
 rw[Pk g2]at g;unfold K7 at g;simp only[Bsq,Bsv]at g;obtain⟨j,rfl⟩:=Brp (show 0<=p by omega);obtain⟨n,rfl⟩:=Brp z6;simp only[Bt3,Brx]at g B ⊢;obtain⟨e,a3,he⟩:=Bjp ok Y Z n Ck (k:=j) (by show j<(Rd.read s.data.toList).1.methods.length;omega) g.1 (Bso g.2);have a4:j<f.ms.length:=by
  have:=congrArg List.length D;rw[Br1]at this;omega
 rw[he]at B;subst B;refine Bis ⟨w.heap.size+3,((w.alloc (O11 f.a1 f.l.length f.c1 f.a2 f.ms.length f.c2)).alloc (O29 (j:Int) t q.length A h d (n:Int))).alloc (O30 none 0 0 0 0 0),f,(Rd.read s.data.toList).1.classes,(Rd.read s.data.toList).1.methods,(j:Int),t,A,q,h,d,(n:Int)⟩ w rfl rfl ?_ j n rfl a4 rfl e a3;have L:∀a b c,Bl w (((w.alloc a).alloc b).alloc c):=fun a b c=>(Bu w a b).alloc Fr c;exact⟨K,N.below (L _ _ _),O,D,Q.below (L _ _ _),a0⟩
def Bl6(s:ByteArray)(t:Int)(j:TI)(h d v:Int)(z:TA)(F:Nat)(w:TW)(hs:s.size<=maxLen)(hl:j.length<=maxLen)(hi:Ft w z j)(Q:W8)(g:Tq s.data.toList t j h d v=Q):Calls prog 127 #[.string s,.agg #[.i t,.s z j.length F,.i h,.i d,.i v]] w fun e G=>∃A B,e=.r (.tuple #[.agg #[.s A Q.out.length B,.i Q.status,.i Q.value,.i Q.steps],.i Q.err,.bool false])/\De G w.heap.size (.s A Q.out.length B) Q.out/\Bl w G:=by
 have V:=fun G=>Bg3 s G hs;have a6:=Bu w (O29 t z j.length F h d v) (O30 none 0 0 0 0 0);have a7:=Bx w (O29 t z j.length F h d v) (O30 none 0 0 0 0 0);have b4:=Cb w (O29 t z j.length F h d v) (O30 none 0 0 0 0 0);unfold Tq at g;by_cases p:(Gv s.data.toList).1≠0
 ·rw[Th p]at g;subst g;generalize Gv s.data.toList=C at *;obtain⟨e1,e2,e3⟩:=C;simp only at p V ⊢;have d5:(e1 != 0)=true:=by simpa using p
  have HC:=Bc V;clear V p;go_in;go_wp2_with fail;refine Qm (Ba HC _) ?_;intro w1 I;have bR:=stay I a7;have a8:=QB a6 I;obtain⟨Y,Z,r2,r3⟩:=cl4 bR;obtain⟨z0,z1,z2,z3⟩:=fr4 bR;simp at Y Z r2 r3;clear HC bR a7 b4 a6 I;go_wp2;refine tb (.tuple #[.agg #[.s none 0 0,.i 0,.i 0,.i 0],.i e1,.bool false]) (by simp[results,Bwn,go_sem,Y,Z,r2,r3]) ?_;have a0:=a8;exact⟨none,0,rfl,Brw _ _ _ _,by repeat (first|(with_reducible exact a0)|(with_reducible refine Bud ?_)|(with_reducible refine Bry ?_ Fr _)|(with_reducible refine Bry ?_ Hd _))⟩
 have p:(Gv s.data.toList).1=0:=by simpa using p
 rw[Pk (by simpa using p)]at g;have hF:=fun G=>Bgz s G hs (Ml p);have c5:=fun (f:RFl) (G:TW)=>Bl7 s f t j h d v z F G p;have c6:∀m∈(Rd.read s.data.toList).1.methods,m.params.length<=1000:=fun m hm=>by
  have:=((Kb _ (Ml p)).1.mt m hm).bd.ps;omega
 generalize Gv s.data.toList=C at *;obtain⟨e1,e2,e3⟩:=C;simp only at p V;subst p;generalize (Rd.read s.data.toList).1.methods=ms at *;generalize (Rd.read s.data.toList).1.classes=cs at *;have HC:=Bc V;have HF:=Bc hF;have b5:=Bc c5;have b6:=Bc c6;have HQ:=Bc (fun (_:Unit)=>g);have HI:=Bc hi;clear V hF c5 c6 g hi;go_in;go_wp2_with fail;refine Qm (Ba HC _) ?_;intro w1 I;have c7:=stay I a7;have c8:=stay I b4;have a8:=QB a6 I;clear HC I a7 b4 a6;go_wp2_with fail;refine(Ba HF _).mono ?_;rintro e w2 ⟨f,x,y,rfl,a3,a4,K,a9⟩;have c9:=Bg (stay a9 c7) (O11 f.a1 f.l.length f.c1 f.a2 f.ms.length f.c2);have L:=Bg (stay a9 c8) (O11 f.a1 f.l.length f.c1 f.a2 f.ms.length f.c2);have b0:=Be w2 (O11 f.a1 f.l.length f.c1 f.a2 f.ms.length f.c2);have d0:=QB a8 a9;have b7:Bl w2 (w2.alloc (O11 f.a1 f.l.length f.c1 f.a2 f.ms.length f.c2)):=QN _;have b8:=QB d0 b7;have b9:=a3.below b7;have b1:=Bg0 f t h d v j z F _ b9 (fun q hq=>Ba b6 _ (by rw[<- K];exact Bsc hq)) hl ((Ba HI).below b8);rw[show (f.ms.map fun q=>q.1.m)=ms from K]at b1;have c0:=Bc (Bto b9 (Bto a4 K));simp only[RFl.val]at b1 ⊢;have HB:=Bc b1;clear a3 a4 K a9 b9 b1 HF b7 c7 c8 a8 d0;generalize Gl ms t j h d v=se at *;have c3:=Bc ((Ba HI).below b8);have s0:=(Bb L 0).trans (show _=some (.i t) from rfl);have s1:=(Bb L 1).trans (show _=some (.s z j.length F) from rfl);have s2:=(Bb L 2).trans (show _=some (.i h) from rfl);have s3:=(Bb L 3).trans (show _=some (.i d) from rfl);have s4:=(Bb L 4).trans (show _=some (.i v) from rfl);have f0:=(Bb b0 0).trans (show _=some (.s f.a1 f.l.length f.c1) from rfl);have f1:=(Bb b0 1).trans (show _=some (.s f.a2 f.ms.length f.c2) from rfl);go_wp2_with fail;refine Qm (Ba HB) ?_;intro w4 J;have D:=stay J c9;have N:=stay J L;have b2:=stay J b0;have c4:=QB b8 J;have g:=Ba HQ ();have l5:=Sp D;clear HB s0 s1 s2 s3 s4 f0 f1 c9 L b0;by_cases a5:se≠0
 ·rw[Th a5]at g;subst g;have d6:(se != 0)=true:=by simpa using a5
  have a0:=c4;have Y:=(Bb D 0).trans (show _=some (.s none 0 0) from rfl);have Z:=(Bb D 1).trans (show _=some (.i 0) from rfl);have r2:=(Bb D 2).trans (show _=some (.i 0) from rfl);have r3:=(Bb D 3).trans (show _=some (.i 0) from rfl);obtain⟨z0,z1,z2,z3⟩:=fr4 D;clear b5 b6 HQ HI c0 c3 D N b2 J;go_wp2;refine tb (.tuple #[.agg #[.s none 0 0,.i 0,.i 0,.i 0],.i se,.bool false]) (by simp[results,Bwn,go_sem,Y,Z,r2,r3]) ?_;exact⟨none,0,rfl,Brw _ _ _ _,by repeat (first|(with_reducible exact a0)|(with_reducible refine Bud ?_)|(with_reducible refine Bry ?_ Fr _)|(with_reducible refine Bry ?_ Hd _))⟩
 have d3:se=0:=by simpa using a5
 rw[Pk a5]at g;subst d3;obtain⟨a3,a4,K⟩:=Ba c0;have hP:=Ba b5 f w4 (a3.below J) a4 K ((Ba c3).below J) rfl Q g;simp only[RFl.val]at hP;have HP:=Bc hP;have d1:Q.err=0:=by rw[<- g];rfl
 have HE:=Bc (fun (_:Unit)=>d1);have s0:=(Bb N 0).trans (show _=some (.i t) from rfl);have s1:=(Bb N 1).trans (show _=some (.s z j.length F) from rfl);have s2:=(Bb N 2).trans (show _=some (.i h) from rfl);have s3:=(Bb N 3).trans (show _=some (.i d) from rfl);have s4:=(Bb N 4).trans (show _=some (.i v) from rfl);have f0:=(Bb b2 0).trans (show _=some (.s f.a1 f.l.length f.c1) from rfl);have f1:=(Bb b2 1).trans (show _=some (.s f.a2 f.ms.length f.c2) from rfl);clear b5 b6 HQ HI c0 c3 J hP a3 a4 K d1 g a5;go_wp2_with fail;refine(Ba HP).mono ?_;rintro e w5 ⟨A,B,rfl,d2,b3⟩;have O:=Bg (stay b3 D) (O30 A Q.out.length B Q.status Q.value Q.steps);have d4:=QB c4 b3;have d7:=c4.size;have d8:=b3.size;have a0:Bl w (w5.alloc (O30 A Q.out.length B Q.status Q.value Q.steps)):=d4.alloc Ck _;have Y:=(Bb O 0).trans (show _=some (.s none 0 0) from rfl);have Z:=(Bb O 1).trans (show _=some (.i 0) from rfl);have r2:=(Bb O 2).trans (show _=some (.i 0) from rfl);have r3:=(Bb O 3).trans (show _=some (.i 0) from rfl);obtain⟨z0,z1,z2,z3⟩:=fr4 O;have l6:=Sp O;have HO:Hid (∀a b c d,De (((((w5.alloc (O30 A Q.out.length B Q.status Q.value Q.steps)).setCell (.a (w.heap.size+1) 0) a).setCell (.a (w.heap.size+1) 1) b).setCell (.a (w.heap.size+1) 2) c).setCell (.a (w.heap.size+1) 3) d) w.heap.size (.s A Q.out.length B) Q.out):=fun a b c d =>
  D6 (Dc (d2.alloc _) (e:=none) ((((Kp.set_lo Ck a).trans (Kp.set_lo Ck b)).trans (Kp.set_lo Ck c)).trans (Kp.set_lo Ck d)) Fm) Ck
 clear HP d2 D N b2 O s0 s1 s2 s3 s4 f0 f1 b3;go_wp2;refine tb (.tuple #[.agg #[.s A Q.out.length B,.i Q.status,.i Q.value,.i Q.steps],.i 0,.bool false]) (by simp[results,Bwn,go_sem,Y,Z,r2,r3]) ?_;exact⟨A,B,by rw[Ba HE ()],Ba HO _ _ _ _,by repeat (first|(with_reducible exact a0)|(with_reducible refine Bud ?_)|(with_reducible refine Bry ?_ Fr _)|(with_reducible refine Bry ?_ Hd _))⟩
def Pq.push{u:Nat}{e:TV}{l:TX}(h:Pq u e)(f:∀a n c,l=.s a n c->0<n->∀z,a=some ⟨z,0,none⟩->z≠u):Pq u (e++[l]):=fun b g=>by
 rcases List.mem_append.1 g with k|k
 ·exact h b k
 rw[List.mem_singleton.1 k];exact f
def Bho(B b f:Nat)(t:TA)(A:Nat)(g:TV)(I:TA)(J:Nat)(l:TI)(w:TW)(h:Jg w B b t A g)(V:De w f (.s I l.length J) l)(hb:b<=f)(Y:∀q,f<=q->Pq q g)(K:g.length<=5000000000000)(L:B<b)(Z:b<=w.heap.size):Calls prog 128 #[.q B 0,.s I l.length J] w fun e j=>e=.r (.tuple #[])/\∃m p v,Jg j B b m p (g++[v])/\(∀f N,Below f N w->f<=B->Below f N j)/\(∀(q:Nat) (i:Array Value),q<f->w.heap[q]?=some (.cells i 3 (0,0))->j.heap[q]?=some (.cells i 3 (0,0)))/\∀q,q<f->Pq q g->Pq q (g++[v]):=by
 rcases V.2 with ⟨C,hz⟩|⟨O,a0,a1,C,a2,a3,a4,hm,a5,a6⟩
 ·rw[C];refine Qm (Bhn B b t A g w h K L Z) ?_;rintro j ⟨m,p,D,F,G⟩;exact⟨rfl,m,p,_,D,F,fun q i _ e=>G q i e,fun q _ k=>k.push (fun a n c e hn=>by simp only[Value.slice.injEq]at e;omega)⟩
 rw[C];unfold maxLen at hm;refine Qm (Zx B b O a0 l.length t A g a1 w h a3 Ck Ck a4 Ck (Y O a2) K L) ?_;rintro j ⟨m,p,D,F,G⟩;refine⟨rfl,m,p,_,D,F,fun q i hq e=>G q i e Ck,fun q hq k=>k.push (fun a n c e hn z Q=>?_)⟩;simp only[Value.slice.injEq]at e;rw[<- e.1]at Q;simp only[Option.some.injEq,Addr.mk.injEq,Br8]at Q;omega
def Bm1(B b:Nat)(la:TA)(lc:Nat)(A:TV)(K L N O V m h d t:Int)(s:ByteArray)(f:TI)(l:TA)(z:Nat)(w:TW)(hA:Jg w B b la lc A)(hs:s.size<=maxLen)(hl:f.length<=20000000000000)(hi:Ft w l f)(h6:A.length<=4000000000000)(b5:B<b)(h7:b<=w.heap.size):Calls prog 79 #[.q B 0,.agg #[.i K,.string s,.i L,.i N,.i O,.i V,.i m,.i h,.i d,.i t,.s l f.length z]] w fun e j=>e=.r (.bool true)/\∃d9 f0 v1 v2,Jg j B b d9 f0 (A++[v1,v2])/\∀a0 w0,Below a0 w0 w->a0<=B->Below a0 w0 j:=by
 have C0:=Be w (O36 K s L N O V m h d t l f.length z);have a7:Bl w (w.alloc (O36 K s L N O V m h d t l f.length z)):=QN _;have HR:=Bc (Bhl f l z (w.alloc (O36 K s L N O V m h d t l f.length z)) (hi.below a7) Ck);have b6:∀j:TW,j.heap[w.heap.size]?=some (O36 K s L N O V m h d t l f.length z)->j.C w.heap.size 1 (.string s)/\j.C w.heap.size 6 (.i m)/\j.C w.heap.size 7 (.i h)/\j.C w.heap.size 8 (.i d)/\j.C w.heap.size 9 (.i t)/\j.C w.heap.size 10 (.s l f.length z):=fun j e=>⟨(Bb e 1).trans rfl,(Bb e 6).trans rfl,(Bb e 7).trans rfl,(Bb e 8).trans rfl,(Bb e 9).trans rfl,(Bb e 10).trans rfl⟩;have a3:=Bc b6;have HA:=Bc hA;have HI:=Bc hi;clear b6 hA hi;go_in;go_wp2_with fail;refine(Ba HR).mono ?_;rintro e w1 ⟨g,cs,rfl,b7,hg,a4,a8⟩;have C1:=stay a8 C0;have b8:=QB a7 a8;obtain⟨x1,x6,x7,x8,x9,f1⟩:=Ba a3 _ C1;have b9:=Bc (Bpo s m f h d t (.p g) (f.length+2) w1 hs Pf (Zi hg a4) _ rfl);clear HR C0 a7 a8;go_wp2_with fail;refine(Ba b9).mono ?_;generalize hQ:Tq s.data.toList m f h d t=Q;rintro e w2 ⟨D,F,rfl,c0,a5⟩;have HQ:=Bc (fun (_:Unit)=>hQ);clear hQ;have Y:Bl w2 (w2.alloc (O30 D Q.out.length F Q.status Q.value Q.steps)):=QN _;have C3:=stay Y (stay a5 C1);have G3:=stay Y (stay a5 hg);have O3:=Be w2 (O30 D Q.out.length F Q.status Q.value Q.steps);have f2:=QB b8 a5;have c1:=QB f2 Y;have h8:=b8.size;have h9:=a5.size;have c2:=De.kp c0 (Kp.of_below (e:=none) Y) Fm;have c3:=Bc (Bhk f g cs l z _ G3 a4 ((Ba HI).below c1) Ck);obtain⟨y1,y6,y7,y8,y9,f3⟩:=Ba a3 _ C3;clear b9 x1 x6 x7 x8 x9 f1 Y c0;go_wp2_with fail;refine Qm (Ba c3) ?_;intro w4 Z;have C4:=stay Z C3;have G4:=stay Z G3;have O4:=stay Z O3;have c4:=QB c1 Z;have c5:=De.kp c2 (Kp.of_below (e:=none) Z) Fm;have c6:=Bl6 s m f h d t l z w4 hs Pf ((Ba HI).below c4) Q (Ba HQ ());have c7:=Bc c6;obtain⟨z1,z6,z7,z8,z9,f4⟩:=Ba a3 _ C4;clear c3 y1 y6 y7 y8 y9 f3 c6 C3 G3 O3 c2;go_wp2_with fail;refine(Ba c7).mono ?_;rintro e w5 ⟨ya,yc,rfl,c8,a6⟩;have G:Bl w5 (w5.alloc (O30 ya Q.out.length yc Q.status Q.value Q.steps)):=QN _;have G6:=stay G (stay a6 G4);have O6:=stay G (stay a6 O4);have P6:=Be w5 (O30 ya Q.out.length yc Q.status Q.value Q.steps);have f5:=QB c4 a6;have f6:=QB f5 G;have a9:=De.kp (De.kp c5 (Kp.of_below (e:=none) a6) Fm) (Kp.of_below (e:=none) G) Fm;have b0:=De.kp c8 (Kp.of_below (e:=none) G) Fm;have f7:Q.out.length<=9223372036854775807:=by
  rcases b0.2 with ⟨_,e⟩|⟨_,i0,_,e,_,_,I,e2,_⟩
  ·omega
  unfold maxLen at e2;omega
 have c9:=Bc (Bdo Q.out Q.status Q.value Q.steps D ya F yc _ (Ft.of_ints a9) (Ft.of_ints b0) f7);have g0:=(Bb O6 0).trans (show _=some (.s D Q.out.length F) from rfl);have g1:=(Bb O6 1).trans (show _=some (.i Q.status) from rfl);have g2:=(Bb O6 2).trans (show _=some (.i Q.value) from rfl);have g3:=(Bb O6 3).trans (show _=some (.i Q.steps) from rfl);have p0:=(Bb P6 0).trans (show _=some (.s ya Q.out.length yc) from rfl);have p1:=(Bb P6 1).trans (show _=some (.i Q.status) from rfl);have p2:=(Bb P6 2).trans (show _=some (.i Q.value) from rfl);have p3:=(Bb P6 3).trans (show _=some (.i Q.steps) from rfl);clear c7 z1 z6 z7 z8 z9 f4 c8 G c5 b0 C4 G4 O4;go_wp2_with fail;refine Qm (Ba c9) ?_;intro w7 J;have G7:=stay J G6;have O7:=stay J O6;have b3:=QB f6 J;have d0:=(Ba HA).below b3;have d1:=De.kp a9 (Kp.of_below (e:=none) J) Fm;have i1:=b3.size;have f8:cs.size=f.length+2:=by
  have:=congrArg List.length a4;simpa using this
 have b4:∀q,w.heap.size<=q->Pq q A:=fun q hq v hv a n c e hn q' e'=>by
  obtain⟨i,f9,rfl⟩:=Bvl hv;obtain⟨a',n',c',I,_,e3|⟨g',i2,e4,_,e5,_⟩⟩:=(Ba HA).ls i f9
  ·rw[e]at I;simp only[Value.slice.injEq]at I;omega
  rw[e]at I;simp only[Value.slice.injEq]at I;have k1:=(e'.symm.trans I.1).trans e4;simp only[Option.some.injEq,Addr.mk.injEq,Br8]at k1;have:=Sp e5;omega
 have i3:=Sp hg;have g4:=(stay J G6);have HK:=Bc (Bho B b w1.heap.size la lc A D F Q.out w7 d0 d1 Ck (fun q hq=>b4 q Ck) Ck b5 Ck);have q0:=(Bb O7 0).trans (show _=some (.s D Q.out.length F) from rfl);have g5:=Bc (b4 g (by simp at b7;omega));have g6:=Bc b3;have g7:=Bc G7;clear c9 g0 g1 g2 g3 p0 p1 p2 p3 J d0 d1 b4 O7 O6 P6 G6 g4 HA a3 HI HQ hg a4 a9;go_wp2_with fail;refine Qm (Ba HK) ?_;rintro w8 ⟨g8,g9,v8,d2,d3,d4,d5⟩;have G8:=d4 g cs Ck (Ba g7);have d6:=Bc (Zx B b g (f.length+2) f.length g8 g9 (A++[v8]) cs w8 d2 G8 f8 Ck Ck (by simp at b7;omega) (d5 g Ck (Ba g5)) Fr b5);have h0:=Bc d3;clear HK d2 d3 d4 d5 G8 q0;go_wp2_with fail;refine Qm (Ba d6) ?_;rintro w9 ⟨h3,h4,d7,d8,-⟩;have H9:=Bc d7;have h5:=Bc d8;clear d6 d7 d8;go_wp2;go_ret;refine⟨rfl,h3,h4,v8,_,by have:=Ba H9;rw[Bsi]at this;exact this,fun a0 w0 h1 h2=>Ba h5 _ _ (Ba h0 _ _ (h1.trans ((Ba g6).mono (by have:=h1.size;omega))) h2) h2⟩
def Bjo(B b:Nat)(K:TA)(L:Nat)(g:TV)(o:OpD)(c:TI)(w:TW)(N:o.kind=6)(O:o.il=c.length)(f:Jg w B b K L g)(Q:o.file.size<=maxLen)(hl:c.length<=20000000000000)(C:Ft w o.ia c)(a0:g.length<=4000000000000)(a1:B<b)(a2:b<=w.heap.size):Calls prog 50 #[.q B 0,o.val] w fun e V=>e=.r (.bool true)/\∃D F G I,Jg V B b D F (g++[G,I])/\∀h J,Below h J w->h<=B->Below h J V:=by
 obtain⟨a3,s,k,n,i,j,l,m,p,t,v,il,z⟩:=o;simp only[OpD.val]at N O Q C ⊢;subst N O;have C0:=Be w (O36 6 s k n i j l m p t v c.length z);have A:Bl w (w.alloc (O36 6 s k n i j l m p t v c.length z)):=QN _;have Y:=Bc (Bm1 B b K L g 6 k n i j l m p t s c v z (w.alloc (O36 6 s k n i j l m p t v c.length z)) (f.below A) Q hl (C.below A) a0 a1 Fr);have HB:=Bc A;clear f C A;go_in;go_wp2_with fail;refine Qm (Ba Y) ?_;rintro w1 ⟨D,F,G,I,f,Z⟩;have HA:=Bc f;have HF:=Bc Z;clear f Z Y;go_wp2;go_ret;exact⟨rfl,D,F,G,I,Ba HA,fun h J h1 h2=>Ba HF _ _ (h1.trans ((Ba HB).mono Ck)) h2⟩
def Blu(a:TA)(c a7:Nat)(V:Nat->OpD)(I:Nat->TI)(w:TW)(b7:c<=1300000000000)(hV:V7 w a c V)(hI:∀i,i<c->(V i).file.size<=maxLen/\(V i).il=(I i).length/\(I i).length<=20000000000000/\Ft w (V i).ia (I i)):Calls prog 18 #[.s a c a7,.i 6,.i 6] w fun e w'=>e=.r (.i (-1))/\Bl w w':=by
 have q:=Bc hV;have t:=Bc hI;clear hV hI;have a2:Bl w (w.alloc (O31 none 0 0)):=QN _;have a3:Jg (w.alloc (O31 none 0 0)) w.heap.size (w.heap.size+1) none 0 []:=⟨Be w _,Brw _ _ _ _,fun k h=>by simp at h⟩;have a4:=Bc a3;clear a3;go_in;go_wp2
 go_loopw [8] (fun i wr=>∃k:Nat,k<=c/\i=.i k/\Bl w wr/\∃j l g,g.length<=2*k/\Hid (Jg wr w.heap.size (w.heap.size+1) j l g))
  (fun i _=>c-(intOf i).toNat)
 case atStart=>exact⟨0,Ck,rfl,a2,none,0,[],Hd,Ba a4⟩
 case round=>
  clear a2 a4;obtain⟨k,hk,rfl,f,j,l,g,b8,m⟩:=hrel;by_cases a5:k<c
  ·obtain⟨b,b9,rfl,hb,v,z,A,B,C,D,F,G,J,K,L⟩:=(Ba q).below f k a5;obtain⟨N,O,Q,Y⟩:=Ba t k a5;have a8:w.heap.size+1<=wr.heap.size:=Sp (Ba m).blk;have mb:(k:Int)<(c:Int):=Ck;by_cases p:(V k).kind=6
   ·have Z:=Bc (Bjo w.heap.size (w.heap.size+1) j l g (V k) (I k) wr p O (Ba m) N Q (Y.below f) Ck Ck a8);generalize V k=o at *;obtain⟨a0,s,k1,n1,k2,n2,a9,b0,b1,b2,ia,il,ic⟩:=o;simp only[OpD.val]at v z A B C D F G J K L Z p;subst p;clear N O Q Y q t;go_wp2_with fail;refine Qm (Ba Z) ?_;rintro w2 ⟨b3,b4,v1,v2,a1,a6⟩;have b5:=a6 _ _ f (Bru _);have HL:=Bc (Bhm _ _ _ _ _ w2 a1 Fr);have b6:=Bc a1;clear a1 a6 f Z v z A B C D F G J K L m;go_wp2_with fail;refine Qm (Ba HL) ?_;rintro w3 rfl;clear HL;go_wp2;go_roundw
    case rel=>exact⟨k+1,Ck,Mg,b5,b3,b4,_,Fr,Ba b6⟩
    case measure=>simp[intOf];omega
   generalize V k=o at *;obtain⟨a0,s,k1,n1,k2,n2,a9,b0,b1,b2,ia,il,ic⟩:=o;simp only at v p;clear z A B C D F G J K L N O Q Y q t;by_cases h1:a0<6
   ·go_wp2;go_roundw
    case rel=>exact⟨k+1,Ck,Mg,f,j,l,g,Ck,Ba m⟩
    case measure=>simp[intOf];omega
   have h2:6<a0:=Ck;go_wp2;go_roundw
   case rel=>exact⟨k+1,Ck,Mg,f,j,l,g,Ck,Ba m⟩
   case measure=>simp[intOf];omega
  go_wp2;go_ret;exact⟨rfl,f⟩
def Bl3(a:TA)(b c:Nat)(V:Nat->OpD)(I:Nat->TI)(w:TW)(h:b<=1300000000000)(f:V7 w a b V)(g:∀i,i<b->(V i).file.size<=maxLen/\(V i).il=(I i).length/\(I i).length<=20000000000000/\Ft w (V i).ia (I i)):Calls prog 4 #[.s a b c] w fun e j=>e=.r (.bool true)/\Bl w j:=by
 have l:=Bc (Blu a b c V I w h f g);clear f g;go_in;go_wp2_with fail;refine Qm (Ba l) ?_;intro p m;go_wp2;go_ret;exact⟨rfl,m⟩
open Go.ChangeShapes Go.WideShapes Go.ChangeAt Go.RowKit Go.Deep Go.Joins
section
variable {H:Type}{enc:TypeId × Value→H}
def Bw9:prog.bytesOf 3=8:=Lt
def Bxa:prog.bytesOf 99=112:=Lt
def Bw8{P:Program}{j:TypeId}{d:DataW H}{k:Nat}(b:k∈d.weights P j):∀{l:List (DataW H)},d∈l->k∈DataW.weightsAll P j l
 | x::r,h=>by
  simp only[DataW.weightsAll,Bs1];rcases List.mem_cons.1 h with rfl|h
  ·exact .inl b
  exact .inr (Bw8 b h)
def Bml{v:TW}{n:Nat}{e:TV}{x:DataW H×List MemPlace}(h:DataW.trod enc prog v 0 (fun _=>true) true n 99 e=some x):∃(o:OpD) (c:TI),Bn1 o/\o.il=c.length/\Ft v o.ia c/\(∀R,(∀k∈x.1.weights prog 99,k<=R)->c.length*8<=R)/\e=[.i o.kind,.string o.file,.i o.a1,.i o.a2,.i o.b1,.i o.b2,.i o.entry,.i o.heap,.i o.depth,.i o.fuel,.s o.ia o.il o.ic]:=by
 obtain⟨V,m,_,Y,z,Z,b⟩:=DataW.trod_struct underlying99 h;rw[Tryz.cellsOp]at z
 match e,z with
 | [c0,c1,c2,c3,c4,c5,c6,c7,c8,c9,c10],_ =>
  match V,Z with
  | [y0,y1,y2,y3,y4,y5,y6,y7,y8],_ =>
   have g0:DataW.trod enc prog v 0 (fun _=>true) true m 3 [c0]=some y0:=by simpa[Tryz.cellsInt] using b 0 _ rfl
   have g1:DataW.trod enc prog v 0 (fun _=>true) true m 9 [c1]=some y1:=by simpa[Tryz.cellsStr] using b 1 _ rfl
   have g2:DataW.trod enc prog v 0 (fun _=>true) true m 31 [c2,c3]=some y2:=by simpa[Tryz.cellsTy] using b 2 _ rfl
   have g3:DataW.trod enc prog v 0 (fun _=>true) true m 31 [c4,c5]=some y3:=by simpa[Tryz.cellsTy] using b 3 _ rfl
   have g4:DataW.trod enc prog v 0 (fun _=>true) true m 3 [c6]=some y4:=by simpa[Tryz.cellsInt] using b 4 _ rfl
   have g5:DataW.trod enc prog v 0 (fun _=>true) true m 3 [c7]=some y5:=by simpa[Tryz.cellsInt] using b 5 _ rfl
   have g6:DataW.trod enc prog v 0 (fun _=>true) true m 3 [c8]=some y6:=by simpa[Tryz.cellsInt] using b 6 _ rfl
   have g7:DataW.trod enc prog v 0 (fun _=>true) true m 3 [c9]=some y7:=by simpa[Tryz.cellsInt] using b 7 _ rfl
   have g8:DataW.trod enc prog v 0 (fun _=>true) true m 26 [c10]=some y8:=by simpa[Tryz.cellsInts] using b 8 _ rfl
   obtain⟨a0,A,_,_⟩:=Btx Btm g0;obtain⟨a3,B,_,a4⟩:=DataW.trod_string underlying9 g1;obtain⟨z0,z1,_,_,_,g,l⟩:=trod_struct2 underlying31 g2;obtain⟨v0,v1,_,_,_,p,q⟩:=trod_struct2 underlying31 g3;simp only[Tryz.cellsInt]at g l p q;simp at g l p q;obtain⟨a1,C,_,_⟩:=Btx Btm g;obtain⟨a2,F,_,_⟩:=Btx Btm l;obtain⟨b1,G,_,_⟩:=Btx Btm p;obtain⟨b2,I,_,_⟩:=Btx Btm q;obtain⟨a5,J,_,_⟩:=Btx Btm g4;obtain⟨a6,K,_,_⟩:=Btx Btm g5;obtain⟨a7,L,_,_⟩:=Btx Btm g6;obtain⟨a8,N,_,_⟩:=Btx Btm g7;obtain⟨ia,ic,c,t,_,hI,_⟩:=Bhd g8;have a9:∀R,(∀k∈x.1.weights prog 99,k<=R)->c.length*8<=R:=by
    intro R hR;rcases open_slice Bta g8 with ⟨f,O⟩|⟨a,Q,b0,mm,nn,D,Pl,f,_,b3,_,_,O,_⟩
    ·rw[t]at f;simp only[List.cons.injEq,Br8,Value.slice.injEq]at f;omega
    rw[t]at f;simp only[List.cons.injEq,Br8,Value.slice.injEq]at f;have hw:(Q+(mm-Q))*8∈y8.1.weights prog 26:=by
     rw[O];simp[DataW.weights,Bta,Bw9]
    have:=hR _ (by
     rw[Y];simp only[DataW.weights,underlying99];exact DataW.weights_mem_each (j:=8) rfl rfl _ hw)
    omega
   simp only[List.cons.injEq,Br8]at A B C F G I J K L N;subst A B C F G I J K L N t;exact⟨⟨a0,a3,a1,a2,b1,b2,a5,a6,a7,a8,ia,c.length,ic⟩,c,a4,rfl,hI,a9,rfl⟩
def Bdc{v:TW}{n:Nat}{c0:TX}{x:DataW H×List MemPlace}(h:DataW.trod enc prog v 0 (fun _=>true) true n 33 [c0]=some x):∃(a:TA) (f B:Nat) (V:Nat->OpD) (I:Nat->TI),c0=.s a f B/\(∀R,(∀k∈x.1.weights prog 33,k<=R)->f*112<=R/\∀i,i<f->(I i).length*8<=R)/\V7 v a f V/\∀i,i<f->Bn1 (V i)/\(V i).il=(I i).length/\Ft v (V i).ia (I i):=by
 rcases open_slice underlying33 h with ⟨l,_⟩|⟨a,f,B,m,k,D,Pl,l,_,hl,hm,C,F,G⟩
 ·simp only[List.cons.injEq,Br8]at l;exact⟨none,0,0,fun _=>⟨0,.empty,0,0,0,0,0,0,0,0,none,0,0⟩,fun _=>[],l,fun R _=>⟨Ck,fun i e=>Ck⟩,fun i e=>Ck,fun i e=>Ck⟩
 simp only[List.cons.injEq,Br8]at l;simp only[Bv7]at C;subst C;rw[Tryz.cellsOp]at G;have L:(f+(m-f))*112∈x.1.weights prog 33:=by
  rw[F];simp[DataW.weights,underlying33,Bxa]
 have N:∀i,i<f->∀k∈(D i).weights prog 99,k∈x.1.weights prog 33:=by
  intro i e k t;rw[F];simp only[DataW.weights,underlying33,Bub,Bs1];exact .inr (.inl (Bw8 t (Bsc (List.mem_range.2 e))))
 haveI:Inhabited OpD:=⟨⟨0,.empty,0,0,0,0,0,0,0,0,none,0,0⟩⟩
 obtain⟨V,q⟩:=choose_lt (α:=OpD) (p:=fun i o=>(Bn1 o/\∃g:TI,o.il=g.length/\Ft v o.ia g/\∀R,(∀k∈(D i).weights prog 99,k<=R)->g.length*8<=R)/\∀j,j<11->v.cell? ((a.add (i*11)).add j)=[Value.int .i64 o.kind,.string o.file,.i o.a1,.i o.a2,.i o.b1,.i o.b2,.i o.entry,.i o.heap,.i o.depth,.i o.fuel,.s o.ia o.il o.ic][j]?) (fun i e=>by
  obtain⟨a7,O,Q⟩:=G i e;obtain⟨o,g,Y,Z,a0,a3,rfl⟩:=Bml Q;obtain⟨_,_,c⟩:=World.cells?_some O;exact⟨o,⟨Y,g,Z,a0,a3⟩,c⟩)
 obtain⟨I,z⟩:=choose_lt (α:=List Int) (p:=fun i g=>(V i).il=g.length/\Ft v (V i).ia g/\∀R,(∀k∈(D i).weights prog 99,k<=R)->g.length*8<=R) (n:=f) (fun i e=>(q i Ck).1.2);refine⟨some a,f,m,V,I,l,fun R J=>⟨by have:=J _ L;omega,fun i e=>(z i e).2.2 R fun k t=>J k (N i e k t)⟩,?_,fun i e=>⟨(q i Ck).1.1,(z i e).1,(z i e).2.1⟩⟩;intro i e;obtain⟨b,A,a4⟩:=a;have c:=(q i Ck).2;have K:=c 0 Ck;have a5:a4=none:=by simpa[Addr.add] using World.cell?_spot ((q 0 Ck).2 0 Ck)
 subst a5;have a6:∀j,((⟨b,A,none⟩:Addr).add (i*11)).add j=⟨b,A+i*11+j,none⟩:=fun j=>by simp[Bvc]
 simp only[a6]at c K;refine⟨b,A,rfl,Bwe v _ K,?_,?_,?_,?_,?_,?_,?_,?_,?_,?_,?_⟩
 ·simpa using c 0 Ck
 ·simpa using c 1 Ck
 ·simpa using c 2 Ck
 ·simpa using c 3 Ck
 ·simpa using c 4 Ck
 ·simpa using c 5 Ck
 ·simpa using c 6 Ck
 ·simpa using c 7 Ck
 ·simpa using c 8 Ck
 ·simpa using c 9 Ck
 simpa using c 10 Ck
end
end Go.Proofs.YtpcgnjolfahacaaGreat
