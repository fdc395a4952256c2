/- a part of the proof -/
import Derived.Deep.RegionHeld3
import Derived.Test.YtcefiamkoincoaaGreatPk07
set_option maxRecDepth 100000
set_option maxHeartbeats 40000000
set_option linter.unusedVariables false
set_option linter.unusedSimpArgs false
namespace Go.Proofs.YtcefiamkoincoaaGreat
open Go.RowKit
def Aef (T:List Int) (cl nm r1 r2:Int) (ps:List (Int × Int)) (k i:Nat) (x:Rd.Mth):Bool :=
 if x.name≠nm then false else if x.cl=255 then false else if x.cl=cl then decide (i<k)
 else Tr.rbel T cl x.cl&&(!decide (x.params=ps) || !decide (x.result=(r1,r2)))
def Aa7 (T:List Int) (cl nm r1 r2:Int) (ps:List (Int × Int)) (k:Nat):Nat→List Rd.Mth→Bool
 | _,[]=>true
 | i,x::r=>if Aef T cl nm r1 r2 ps k i x=true then false else Aa7 T cl nm r1 r2 ps k (i+1) r
def Aeo (T:List Int) (cl nm r1 r2:Int):Bool :=
 (if cl=255 then !decide (nm=0) else (!Tr.hasB T cl || decide (cl<7))) || (!Tr.plainB T r1 r2 && !decide ((r1,r2)=(0,0)))
def Abt (cl lo:Int) (ps:List (Int × Int)):Bool:=decide (lo<(ps.length:Int)) || (!decide (cl=255)&&decide (lo=(ps.length:Int)))
def Ad1 (T:List Int) (ms:List Rd.Mth) (k:Nat) (cl nm r1 r2 lo:Int) (ps:List (Int × Int)):Bool :=
 if Aeo T cl nm r1 r2=true then false else if Tr.allPlainB T ps=false then false else if Abt cl lo ps=true then false
 else if cl=255 then true else Aa7 T cl nm r1 r2 ps k 0 ms
theorem Ft {m:RMV}{w:World}{g k:Nat} (h:∀ j v,m.list[j]?=some v→w.cell? ⟨g,k*12+j,none⟩=some v) :
  w.cell? ⟨g,k*12,none⟩=some (.int .i64 m.cl)∧w.cell? ⟨g,k*12+1,none⟩=some (.int .i64 m.nm)∧w.cell? ⟨g,k*12+2,none⟩=some (.slice m.pa m.pl m.pc)∧w.cell? ⟨g,k*12+3,none⟩=some (.int .i64 m.r1) ∧
  w.cell? ⟨g,k*12+4,none⟩=some (.int .i64 m.r2)∧w.cell? ⟨g,k*12+5,none⟩=some (.int .i64 m.lo)∧w.cell? ⟨g,k*12+6,none⟩=some (.int .i64 m.st)∧w.cell? ⟨g,k*12+7,none⟩=some (.string m.code) ∧
  w.cell? ⟨g,k*12+8,none⟩=some (.slice m.ha m.hl m.hc)∧w.cell? ⟨g,k*12+9,none⟩=some (.slice m.ma m.ml m.mc)∧w.cell? ⟨g,k*12+10,none⟩=some (.int .i64 m.mAt)∧w.cell? ⟨g,k*12+11,none⟩=some (.int .i64 m.fin) :=
 ⟨h 0 _ rfl,h 1 _ rfl,h 2 _ rfl,h 3 _ rfl,h 4 _ rfl,h 5 _ rfl,h 6 _ rfl,h 7 _ rfl,h 8 _ rfl,h 9 _ rfl,h 10 _ rfl,h 11 _ rfl⟩
theorem Vp (f:RFl) (k:Nat) (w:World) (hf:f.ok w) (hk:k<f.ms.length) (hpl:∀ p∈f.ms,p.1.m.params.length≤1000) :
  Calls Tryz.prog 30 #[f.val,.int .i64 (k:Int)] w fun e w' =>
   e=.returned (.bool (Ad1 f.T (f.ms.map fun p=>p.1.m) k f.ms[k].1.m.cl f.ms[k].1.m.name f.ms[k].1.m.result.1 f.ms[k].1.m.result.2 f.ms[k].1.m.locals f.ms[k].1.m.params))∧Below w.heap.size w w':=by
 obtain⟨m,g,hg,hglt,hrow,his⟩:=RFl.mth hf hk;have hpk:=hpl _ (List.getElem_mem hk);have hm6:f.ms.length≤6:=hf.2.2.1;replace hrow:=Ft hrow;obtain⟨ecl,enm,er1,er2,elo,-,-,-,epl,hps,-,-,-,-,-⟩:=his;rw[← ecl,← enm,← er1,← er2,← elo];generalize f.ms[k].1.m.params=ps at *;have hHa:=fun x w=>Dd f.T f.a1 f.a2 f.c1 f.ms.length f.c2 x w;have hPl:=fun x y w=>Hs f.T f.a1 f.a2 f.c1 f.ms.length f.c2 x y w;have hBl:=fun x y w (h:f.ok w)=>Dv f.a1 f.a2 f.c1 f.ms.length f.c2 f.bb f.l x y w (by have:=h.1;omega) h.2.2.2.2.1;have hTl:f.T.length=f.l.length:=Bt _;rw[hTl]at hHa hPl;have hTs:Al f.l=f.T:=rfl;rw[hTs]at hBl;have HFO:∀ w',Below w.heap.size w w'→f.ok w':=fun w' hb=>hf.below hb;have HMT:∀ w' i (hi:i<f.ms.length),Below w.heap.size w w'→∃ (m:RMV) (g:Nat),f.a2=some ⟨g,0,none⟩∧g<w'.heap.size∧(∀ j v,m.list[j]?=some v→w'.cell? ⟨g,i*12+j,none⟩=some v)∧m.is f.ms[i].1 w' f.bb:=fun w' i hi hb=>RFl.mth (hf.below hb) hi;have HPS:∀ w',Below w.heap.size w w'→TysAt w' f.bb (.slice m.pa m.pl m.pc) ps:=fun w' hb=>hps.kp (Kp.of_below (e:=none) hb) (by decide);generalize f.T=T at *;clear hf hps ecl enm er1 er2 elo hTl hTs;obtain⟨fa1,fc1,fa2,fc2,bb,l,ms⟩:=f;obtain⟨cl,nm,pa,pl,pc,r1,r2,lo,st,code,ha,hl,hc,ma,ml,mc,mAt,fin⟩:=m;simp only at epl hg hk;subst epl hg;simp only[RFl.val]at hHa hPl hBl hrow HPS hpk hpl HMT hm6 ⊢;obtain⟨y0,y1,y2,y3,y4,y5,y6,y7,y8,y9,y10,y11⟩:=hrow;have hkb:(k:Int)<(ms.length:Int):=by omega
 have hhas:=fun w=>hHa cl w;have hpla:=fun w=>hPl r1 r2 w;generalize hres:Ad1 T (ms.map fun p=>p.1.m) k cl nm r1 r2 lo ps=R;unfold Ad1 Aeo at hres;generalize Tr.hasB T cl=K at *;generalize Tr.plainB T r1 r2=P at *;have HHA:=Ac hhas;have HPA:=Ac hpla;have HPl:=Ac hPl;have HBl:=Ac hBl;have HOK:=Ac HFO;have HMT':=Ac HMT;have HPS':=Ac HPS;have HPL:=Ac hpl;clear hhas hpla hHa hPl hBl HFO HMT HPS hpl;have hB0:=Ak w (O11 fa1 l.length fc1 (some ⟨g,0,none⟩) ms.length fc2) (O14 cl nm pa ps.length pc r1 r2 lo st code ha hl hc ma ml mc mAt fin);have CF0:=Ah w (O11 fa1 l.length fc1 (some ⟨g,0,none⟩) ms.length fc2) (O14 cl nm pa ps.length pc r1 r2 lo st code ha hl hc ma ml mc mAt fin);have CM0:=Ag w (O11 fa1 l.length fc1 (some ⟨g,0,none⟩) ms.length fc2) (O14 cl nm pa ps.length pc r1 r2 lo st code ha hl hc ma ml mc mAt fin);by_cases hown:cl=255
 ·subst hown;by_cases hnm:nm=0
  ·subst hnm;cases P with
   | true =>
    generalize hap:Tr.allPlainB T ps=AP at hres;have HAP:Hid (Tr.allPlainB T (ps.drop 0)=AP):=hap;clear hap;have HRES:Hid ((if AP=false then false else if Abt 255 lo ps=true then false else if (255:Int)=255 then true else Aa7 T 255 0 r1 r2 ps k 0 (ms.map fun p=>p.1.m))=R):=by unfold Hid;rw[← hres];simp
    clear hres;go_enter Tryz.func30,Tryz.ntmps30;go_wp2_with fail
    refine(Aa HHA _).mono ?_;rintro e w1 ⟨rfl,hb1⟩;have hB1:=hB0.trans (hb1.mono (by simp;omega));have CF1:=stay hb1 CF0;have CM1:=stay hb1 CM0;clear hb1 hB0 CF0 CM0 y0 y1 y2 y3 y4 y5 y6 y7 y8 y9 y10 y11;obtain⟨f0,f1⟩:=cl2 CF1;obtain⟨m0,m1⟩:=cl2 CM1;have m3:=Ab CM1 3;have m4:=Ab CM1 4;simp at f0 f1 m0 m1 m3 m4;go_wp2_with fail
    refine(Aa HPA _).mono ?_;rintro e w2 ⟨rfl,hb2⟩;have hB2:=QB hB1 hb2;have CF2:=stay hb2 CF1;have CM2:=stay hb2 CM1;clear hb2 hB1 CF1 CM1 f0 f1 m0 m1 m3 m4;obtain⟨m0,m1,m2,m3,m4,m5,m6,m7,m8,m9,m10,m11⟩:=Ap CM2;simp at m0 m1 m2 m3 m4 m5 m6 m7 m8 m9 m10 m11;obtain⟨f0,f1⟩:=cl2 CF2;simp at f0 f1;go_wp2
    go_loopw [9] (fun v wr=>∃ q:Nat,q≤ps.length∧v=.int .i64 (q:Int)∧Hid (Tr.allPlainB T (ps.drop q)=AP)∧Below w.heap.size w wr∧wr.heap[w.heap.size]?=some (O11 fa1 l.length fc1 (some ⟨g,0,none⟩) ms.length fc2)∧wr.heap[w.heap.size+1]?=some (O14 255 0 pa ps.length pc r1 r2 lo st code ha hl hc ma ml mc mAt fin))
     (fun v _=>ps.length-(intOf v).toNat)
    case atStart=>exact⟨0,by omega,rfl,HAP,hB2,CF2,CM2⟩
    case round =>
     clear HAP hB2 CF2 CM2 f0 f1 m0 m1 m2 m3 m4 m5 m6 m7 m8 m9 m10 m11;obtain⟨q,hq,rfl,HAP,hB,CF,CM⟩:=hrel;obtain⟨m0,m1,m2,m3,m4,m5,m6,m7,m8,m9,m10,m11⟩:=Ap CM;simp at m0 m1 m2 m3 m4 m5 m6 m7 m8 m9 m10 m11;obtain⟨f0,f1⟩:=cl2 CF;simp at f0 f1;have lF:w.heap.size<wr.heap.size:=lt_of_block CF;have lM:w.heap.size+1<wr.heap.size:=lt_of_block CM;have hBs:=hB.size;by_cases hqn:q<ps.length
     ·obtain⟨g2,hg2,hg2lt,_,hcell2⟩:=Ao (Aa HPS' _ hB) (by omega);obtain⟨e1,e2,e3⟩:=Az ps q hqn;have u0:=(hcell2 (q*2) (by omega)).trans e1;have u1:=(hcell2 (q*2+1) (by omega)).trans e2;have hdq:ps.drop q=ps[q]::ps.drop (q+1):=List.drop_eq_getElem_cons hqn;have hA:=Aa HAP;rw[hdq,Cl]at hA;generalize ps[q]=t at *;obtain⟨t1,t2⟩:=t;simp only at u0 u1 hA;have hfr:=fun w=>Aa HPl t1 t2 w;generalize Tr.plainB T t1 t2=Z at *;have HZ:=Ac hfr;have HAA:=Ac hA;have qb:(q:Int)<(ps.length:Int):=by omega
      have lG:g2<wr.heap.size:=hg2lt;clear hfr hA hdq e1 e2 e3 hcell2 HAP;subst hg2;go_wp2
      go_region_held3 (fun w'=>w'.cell? ⟨w.heap.size,0,none⟩=some (.slice fa1 l.length fc1)∧w'.cell? ⟨w.heap.size,1,none⟩=some (.slice (some ⟨g,0,none⟩) ms.length fc2)∧w'.cell? ⟨w.heap.size+1,2,none⟩=some (.slice (some ⟨g2,0,none⟩) ps.length pc)∧w'.cell? ⟨g2,q*2,none⟩=some (.int .i64 t1)∧w'.cell? ⟨g2,q*2+1,none⟩=some (.int .i64 t2))
       (first | exact⟨f0,f1,m2,u0,u1⟩ | exact⟨QC hb7 lF f0,QC hb7 lF f1,QC hb7 lM m2,QC hb7 lG u0,QC hb7 lG u1⟩)
       (first | (go_at_call 51;refine(Aa HZ _).mono ?_;rintro e w7 ⟨rfl,hb7⟩))
      have hB7:Below w.heap.size w w7:=hB.drew.trans (hb7.mono hBs);have CF7:=stay hb7 (show (wr.drew).heap[w.heap.size]?=_ from CF);have CM7:=stay hb7 (show (wr.drew).heap[w.heap.size+1]?=_ from CM);clear hb7 m0 m1 m2 m3 m4 m5 m6 m7 m8 m9 m10 m11 f0 f1 u0 u1 CF CM hB lF lM lG;cases Z with
      | false =>
       have hAP:AP=false:=by rw[← Aa HAA];simp
       have HR:Hid (R=false):=by unfold Hid;rw[← Aa HRES,hAP];simp
       clear HAA hAP;go_wp2;go_ret;exact⟨by rw[Aa HR];rfl,hB7⟩
      | true =>
       have HG:Hid (Tr.allPlainB T (ps.drop (q+1))=AP):=by unfold Hid;rw[← Aa HAA];simp
       clear HAA;go_wp2
       go_roundw
       case rel=>exact⟨q+1,by omega,by go_num,HG,hB7,CF7,CM7⟩
       case measure=>simp[intOf];omega
     ·have hAP:AP=true:=by rw[← Aa HAP,List.drop_eq_nil_of_le (by omega)];rfl
      have qb:¬ (q:Int)<(ps.length:Int):=by omega
      have hrs:=Aa HRES;rw[hAP,if_neg (by simp)]at hrs;clear HAP hAP HRES;by_cases hlo:lo<(ps.length:Int)
      ·have HR:Hid (R=false):=by unfold Hid;rw[← hrs];simp[Abt,hlo]
       clear hrs;go_wp2;go_ret;exact⟨by rw[Aa HR];rfl,hB⟩
      ·have HR:Hid (R=true):=by unfold Hid;rw[← hrs];simp[Abt,hlo]
       clear hrs;go_wp2
       go_loopw [11] (fun v wr'=>v=.int .i64 0∧wr'=wr) (fun _ _=>0)
       case atStart=>exact⟨rfl,rfl⟩
       case round =>
        obtain⟨rfl,rfl⟩:=hrel;go_wp2;go_ret;exact⟨by rw[Aa HR];rfl,hB⟩
   | false =>
    by_cases hz1:r1=0
    ·subst hz1;by_cases hz2:r2=0
     ·subst hz2;generalize hap:Tr.allPlainB T ps=AP at hres;have HAP:Hid (Tr.allPlainB T (ps.drop 0)=AP):=hap;clear hap;have HRES:Hid ((if AP=false then false else if Abt 255 lo ps=true then false else if (255:Int)=255 then true else Aa7 T 255 0 0 0 ps k 0 (ms.map fun p=>p.1.m))=R):=by unfold Hid;rw[← hres];simp
      clear hres;go_enter Tryz.func30,Tryz.ntmps30;go_wp2_with fail
      refine(Aa HHA _).mono ?_;rintro e w1 ⟨rfl,hb1⟩;have hB1:=hB0.trans (hb1.mono (by simp;omega));have CF1:=stay hb1 CF0;have CM1:=stay hb1 CM0;clear hb1 hB0 CF0 CM0 y0 y1 y2 y3 y4 y5 y6 y7 y8 y9 y10 y11;obtain⟨f0,f1⟩:=cl2 CF1;obtain⟨m0,m1⟩:=cl2 CM1;have m3:=Ab CM1 3;have m4:=Ab CM1 4;simp at f0 f1 m0 m1 m3 m4;go_wp2_with fail
      refine(Aa HPA _).mono ?_;rintro e w2 ⟨rfl,hb2⟩;have hB2:=QB hB1 hb2;have CF2:=stay hb2 CF1;have CM2:=stay hb2 CM1;clear hb2 hB1 CF1 CM1 f0 f1 m0 m1 m3 m4;obtain⟨m0,m1,m2,m3,m4,m5,m6,m7,m8,m9,m10,m11⟩:=Ap CM2;simp at m0 m1 m2 m3 m4 m5 m6 m7 m8 m9 m10 m11;obtain⟨f0,f1⟩:=cl2 CF2;simp at f0 f1;go_wp2
      go_loopw [9] (fun v wr=>∃ q:Nat,q≤ps.length∧v=.int .i64 (q:Int)∧Hid (Tr.allPlainB T (ps.drop q)=AP)∧Below w.heap.size w wr∧wr.heap[w.heap.size]?=some (O11 fa1 l.length fc1 (some ⟨g,0,none⟩) ms.length fc2)∧wr.heap[w.heap.size+1]?=some (O14 255 0 pa ps.length pc 0 0 lo st code ha hl hc ma ml mc mAt fin))
       (fun v _=>ps.length-(intOf v).toNat)
      case atStart=>exact⟨0,by omega,rfl,HAP,hB2,CF2,CM2⟩
      case round =>
       clear HAP hB2 CF2 CM2 f0 f1 m0 m1 m2 m3 m4 m5 m6 m7 m8 m9 m10 m11;obtain⟨q,hq,rfl,HAP,hB,CF,CM⟩:=hrel;obtain⟨m0,m1,m2,m3,m4,m5,m6,m7,m8,m9,m10,m11⟩:=Ap CM;simp at m0 m1 m2 m3 m4 m5 m6 m7 m8 m9 m10 m11;obtain⟨f0,f1⟩:=cl2 CF;simp at f0 f1;have lF:w.heap.size<wr.heap.size:=lt_of_block CF;have lM:w.heap.size+1<wr.heap.size:=lt_of_block CM;have hBs:=hB.size;by_cases hqn:q<ps.length
       ·obtain⟨g2,hg2,hg2lt,_,hcell2⟩:=Ao (Aa HPS' _ hB) (by omega);obtain⟨e1,e2,e3⟩:=Az ps q hqn;have u0:=(hcell2 (q*2) (by omega)).trans e1;have u1:=(hcell2 (q*2+1) (by omega)).trans e2;have hdq:ps.drop q=ps[q]::ps.drop (q+1):=List.drop_eq_getElem_cons hqn;have hA:=Aa HAP;rw[hdq,Cl]at hA;generalize ps[q]=t at *;obtain⟨t1,t2⟩:=t;simp only at u0 u1 hA;have hfr:=fun w=>Aa HPl t1 t2 w;generalize Tr.plainB T t1 t2=Z at *;have HZ:=Ac hfr;have HAA:=Ac hA;have qb:(q:Int)<(ps.length:Int):=by omega
        have lG:g2<wr.heap.size:=hg2lt;clear hfr hA hdq e1 e2 e3 hcell2 HAP;subst hg2;go_wp2
        go_region_held3 (fun w'=>w'.cell? ⟨w.heap.size,0,none⟩=some (.slice fa1 l.length fc1)∧w'.cell? ⟨w.heap.size,1,none⟩=some (.slice (some ⟨g,0,none⟩) ms.length fc2)∧w'.cell? ⟨w.heap.size+1,2,none⟩=some (.slice (some ⟨g2,0,none⟩) ps.length pc)∧w'.cell? ⟨g2,q*2,none⟩=some (.int .i64 t1)∧w'.cell? ⟨g2,q*2+1,none⟩=some (.int .i64 t2))
         (first | exact⟨f0,f1,m2,u0,u1⟩ | exact⟨QC hb7 lF f0,QC hb7 lF f1,QC hb7 lM m2,QC hb7 lG u0,QC hb7 lG u1⟩)
         (first | (go_at_call 51;refine(Aa HZ _).mono ?_;rintro e w7 ⟨rfl,hb7⟩))
        have hB7:Below w.heap.size w w7:=hB.drew.trans (hb7.mono hBs);have CF7:=stay hb7 (show (wr.drew).heap[w.heap.size]?=_ from CF);have CM7:=stay hb7 (show (wr.drew).heap[w.heap.size+1]?=_ from CM);clear hb7 m0 m1 m2 m3 m4 m5 m6 m7 m8 m9 m10 m11 f0 f1 u0 u1 CF CM hB lF lM lG;cases Z with
        | false =>
         have hAP:AP=false:=by rw[← Aa HAA];simp
         have HR:Hid (R=false):=by unfold Hid;rw[← Aa HRES,hAP];simp
         clear HAA hAP;go_wp2;go_ret;exact⟨by rw[Aa HR];rfl,hB7⟩
        | true =>
         have HG:Hid (Tr.allPlainB T (ps.drop (q+1))=AP):=by unfold Hid;rw[← Aa HAA];simp
         clear HAA;go_wp2
         go_roundw
         case rel=>exact⟨q+1,by omega,by go_num,HG,hB7,CF7,CM7⟩
         case measure=>simp[intOf];omega
       ·have hAP:AP=true:=by rw[← Aa HAP,List.drop_eq_nil_of_le (by omega)];rfl
        have qb:¬ (q:Int)<(ps.length:Int):=by omega
        have hrs:=Aa HRES;rw[hAP,if_neg (by simp)]at hrs;clear HAP hAP HRES;by_cases hlo:lo<(ps.length:Int)
        ·have HR:Hid (R=false):=by unfold Hid;rw[← hrs];simp[Abt,hlo]
         clear hrs;go_wp2;go_ret;exact⟨by rw[Aa HR];rfl,hB⟩
        ·have HR:Hid (R=true):=by unfold Hid;rw[← hrs];simp[Abt,hlo]
         clear hrs;go_wp2
         go_loopw [11] (fun v wr'=>v=.int .i64 0∧wr'=wr) (fun _ _=>0)
         case atStart=>exact⟨rfl,rfl⟩
         case round =>
          obtain⟨rfl,rfl⟩:=hrel;go_wp2;go_ret;exact⟨by rw[Aa HR];rfl,hB⟩
     ·have HR:Hid (R=false):=by unfold Hid;rw[← hres];simp[hz2]
      clear hres;go_enter Tryz.func30,Tryz.ntmps30;go_wp2_with fail
      refine(Aa HHA _).mono ?_;rintro e w1 ⟨rfl,hb1⟩;have hB1:=hB0.trans (hb1.mono (by simp;omega));have CF1:=stay hb1 CF0;have CM1:=stay hb1 CM0;clear hb1 hB0 CF0 CM0 y0 y1 y2 y3 y4 y5 y6 y7 y8 y9 y10 y11;obtain⟨f0,f1⟩:=cl2 CF1;obtain⟨m0,m1⟩:=cl2 CM1;have m3:=Ab CM1 3;have m4:=Ab CM1 4;simp at f0 f1 m0 m1 m3 m4;go_wp2_with fail
      refine(Aa HPA _).mono ?_;rintro e w2 ⟨rfl,hb2⟩;have hB2:=QB hB1 hb2;have CF2:=stay hb2 CF1;have CM2:=stay hb2 CM1;clear hb2 hB1 CF1 CM1 f0 f1 m0 m1 m3 m4;obtain⟨m0,m1,m2,m3,m4,m5,m6,m7,m8,m9,m10,m11⟩:=Ap CM2;simp at m0 m1 m2 m3 m4 m5 m6 m7 m8 m9 m10 m11;obtain⟨f0,f1⟩:=cl2 CF2;simp at f0 f1;go_wp2;go_ret;exact⟨by rw[Aa HR];rfl,hB2⟩
    ·have HR:Hid (R=false):=by unfold Hid;rw[← hres];simp[hz1]
     clear hres;go_enter Tryz.func30,Tryz.ntmps30;go_wp2_with fail
     refine(Aa HHA _).mono ?_;rintro e w1 ⟨rfl,hb1⟩;have hB1:=hB0.trans (hb1.mono (by simp;omega));have CF1:=stay hb1 CF0;have CM1:=stay hb1 CM0;clear hb1 hB0 CF0 CM0 y0 y1 y2 y3 y4 y5 y6 y7 y8 y9 y10 y11;obtain⟨f0,f1⟩:=cl2 CF1;obtain⟨m0,m1⟩:=cl2 CM1;have m3:=Ab CM1 3;have m4:=Ab CM1 4;simp at f0 f1 m0 m1 m3 m4;go_wp2_with fail
     refine(Aa HPA _).mono ?_;rintro e w2 ⟨rfl,hb2⟩;have hB2:=QB hB1 hb2;have CF2:=stay hb2 CF1;have CM2:=stay hb2 CM1;clear hb2 hB1 CF1 CM1 f0 f1 m0 m1 m3 m4;obtain⟨m0,m1,m2,m3,m4,m5,m6,m7,m8,m9,m10,m11⟩:=Ap CM2;simp at m0 m1 m2 m3 m4 m5 m6 m7 m8 m9 m10 m11;obtain⟨f0,f1⟩:=cl2 CF2;simp at f0 f1;go_wp2;go_ret;exact⟨by rw[Aa HR];rfl,hB2⟩
  ·have HR:Hid (R=false):=by unfold Hid;rw[← hres];simp[hnm]
   clear hres;go_enter Tryz.func30,Tryz.ntmps30;go_wp2_with fail
   refine(Aa HHA _).mono ?_;rintro e w1 ⟨rfl,hb1⟩;have hB1:=hB0.trans (hb1.mono (by simp;omega));have CF1:=stay hb1 CF0;have CM1:=stay hb1 CM0;clear hb1 hB0 CF0 CM0 y0 y1 y2 y3 y4 y5 y6 y7 y8 y9 y10 y11;obtain⟨f0,f1⟩:=cl2 CF1;obtain⟨m0,m1⟩:=cl2 CM1;have m3:=Ab CM1 3;have m4:=Ab CM1 4;simp at f0 f1 m0 m1 m3 m4;go_wp2_with fail
   refine(Aa HPA _).mono ?_;rintro e w2 ⟨rfl,hb2⟩;have hB2:=QB hB1 hb2;have CF2:=stay hb2 CF1;have CM2:=stay hb2 CM1;clear hb2 hB1 CF1 CM1 f0 f1 m0 m1 m3 m4;obtain⟨m0,m1,m2,m3,m4,m5,m6,m7,m8,m9,m10,m11⟩:=Ap CM2;simp at m0 m1 m2 m3 m4 m5 m6 m7 m8 m9 m10 m11;obtain⟨f0,f1⟩:=cl2 CF2;simp at f0 f1;go_wp2;go_ret;exact⟨by rw[Aa HR];rfl,hB2⟩
 ·have hown':(cl != 255)=true:=by simp[hown]
  cases K with
  | false =>
   have HR:Hid (R=false):=by unfold Hid;rw[← hres];simp[hown]
   clear hres;go_enter Tryz.func30,Tryz.ntmps30;go_wp2_with fail
   refine(Aa HHA _).mono ?_;rintro e w1 ⟨rfl,hb1⟩;have hB1:=hB0.trans (hb1.mono (by simp;omega));have CF1:=stay hb1 CF0;have CM1:=stay hb1 CM0;clear hb1 hB0 CF0 CM0 y0 y1 y2 y3 y4 y5 y6 y7 y8 y9 y10 y11;obtain⟨f0,f1⟩:=cl2 CF1;obtain⟨m0,m1⟩:=cl2 CM1;have m3:=Ab CM1 3;have m4:=Ab CM1 4;simp at f0 f1 m0 m1 m3 m4;go_wp2_with fail
   refine(Aa HPA _).mono ?_;rintro e w2 ⟨rfl,hb2⟩;have hB2:=QB hB1 hb2;have CF2:=stay hb2 CF1;have CM2:=stay hb2 CM1;clear hb2 hB1 CF1 CM1 f0 f1 m0 m1 m3 m4;obtain⟨m0,m1,m2,m3,m4,m5,m6,m7,m8,m9,m10,m11⟩:=Ap CM2;simp at m0 m1 m2 m3 m4 m5 m6 m7 m8 m9 m10 m11;obtain⟨f0,f1⟩:=cl2 CF2;simp at f0 f1;go_wp2;go_ret;exact⟨by rw[Aa HR];rfl,hB2⟩
  | true =>
   by_cases h7:cl<7
   ·have HR:Hid (R=false):=by unfold Hid;rw[← hres];simp[hown,h7]
    clear hres;go_enter Tryz.func30,Tryz.ntmps30;go_wp2_with fail
    refine(Aa HHA _).mono ?_;rintro e w1 ⟨rfl,hb1⟩;have hB1:=hB0.trans (hb1.mono (by simp;omega));have CF1:=stay hb1 CF0;have CM1:=stay hb1 CM0;clear hb1 hB0 CF0 CM0 y0 y1 y2 y3 y4 y5 y6 y7 y8 y9 y10 y11;obtain⟨f0,f1⟩:=cl2 CF1;obtain⟨m0,m1⟩:=cl2 CM1;have m3:=Ab CM1 3;have m4:=Ab CM1 4;simp at f0 f1 m0 m1 m3 m4;go_wp2_with fail
    refine(Aa HPA _).mono ?_;rintro e w2 ⟨rfl,hb2⟩;have hB2:=QB hB1 hb2;have CF2:=stay hb2 CF1;have CM2:=stay hb2 CM1;clear hb2 hB1 CF1 CM1 f0 f1 m0 m1 m3 m4;obtain⟨m0,m1,m2,m3,m4,m5,m6,m7,m8,m9,m10,m11⟩:=Ap CM2;simp at m0 m1 m2 m3 m4 m5 m6 m7 m8 m9 m10 m11;obtain⟨f0,f1⟩:=cl2 CF2;simp at f0 f1;go_wp2;go_ret;exact⟨by rw[Aa HR];rfl,hB2⟩
   ·cases P with
    | true =>
     generalize hap:Tr.allPlainB T ps=AP at hres;have HAP:Hid (Tr.allPlainB T (ps.drop 0)=AP):=hap;clear hap;have HRES:Hid ((if AP=false then false else if Abt cl lo ps=true then false else if cl=255 then true else Aa7 T cl nm r1 r2 ps k 0 (ms.map fun p=>p.1.m))=R):=by unfold Hid;rw[← hres];simp[hown,h7]
     clear hres;go_enter Tryz.func30,Tryz.ntmps30;go_wp2_with fail
     refine(Aa HHA _).mono ?_;rintro e w1 ⟨rfl,hb1⟩;have hB1:=hB0.trans (hb1.mono (by simp;omega));have CF1:=stay hb1 CF0;have CM1:=stay hb1 CM0;clear hb1 hB0 CF0 CM0 y0 y1 y2 y3 y4 y5 y6 y7 y8 y9 y10 y11;obtain⟨f0,f1⟩:=cl2 CF1;obtain⟨m0,m1⟩:=cl2 CM1;have m3:=Ab CM1 3;have m4:=Ab CM1 4;simp at f0 f1 m0 m1 m3 m4;go_wp2_with fail
     refine(Aa HPA _).mono ?_;rintro e w2 ⟨rfl,hb2⟩;have hB2:=QB hB1 hb2;have CF2:=stay hb2 CF1;have CM2:=stay hb2 CM1;clear hb2 hB1 CF1 CM1 f0 f1 m0 m1 m3 m4;obtain⟨m0,m1,m2,m3,m4,m5,m6,m7,m8,m9,m10,m11⟩:=Ap CM2;simp at m0 m1 m2 m3 m4 m5 m6 m7 m8 m9 m10 m11;obtain⟨f0,f1⟩:=cl2 CF2;simp at f0 f1;go_wp2
     go_loopw [9] (fun v wr=>∃ q:Nat,q≤ps.length∧v=.int .i64 (q:Int)∧Hid (Tr.allPlainB T (ps.drop q)=AP)∧Below w.heap.size w wr∧wr.heap[w.heap.size]?=some (O11 fa1 l.length fc1 (some ⟨g,0,none⟩) ms.length fc2)∧wr.heap[w.heap.size+1]?=some (O14 cl nm pa ps.length pc r1 r2 lo st code ha hl hc ma ml mc mAt fin))
      (fun v _=>ps.length-(intOf v).toNat)
     case atStart=>exact⟨0,by omega,rfl,HAP,hB2,CF2,CM2⟩
     case round =>
      clear HAP hB2 CF2 CM2 f0 f1 m0 m1 m2 m3 m4 m5 m6 m7 m8 m9 m10 m11;obtain⟨q,hq,rfl,HAP,hB,CF,CM⟩:=hrel;obtain⟨m0,m1,m2,m3,m4,m5,m6,m7,m8,m9,m10,m11⟩:=Ap CM;simp at m0 m1 m2 m3 m4 m5 m6 m7 m8 m9 m10 m11;obtain⟨f0,f1⟩:=cl2 CF;simp at f0 f1;have lF:w.heap.size<wr.heap.size:=lt_of_block CF;have lM:w.heap.size+1<wr.heap.size:=lt_of_block CM;have hBs:=hB.size;by_cases hqn:q<ps.length
      ·obtain⟨g2,hg2,hg2lt,_,hcell2⟩:=Ao (Aa HPS' _ hB) (by omega);obtain⟨e1,e2,e3⟩:=Az ps q hqn;have u0:=(hcell2 (q*2) (by omega)).trans e1;have u1:=(hcell2 (q*2+1) (by omega)).trans e2;have hdq:ps.drop q=ps[q]::ps.drop (q+1):=List.drop_eq_getElem_cons hqn;have hA:=Aa HAP;rw[hdq,Cl]at hA;generalize ps[q]=t at *;obtain⟨t1,t2⟩:=t;simp only at u0 u1 hA;have hfr:=fun w=>Aa HPl t1 t2 w;generalize Tr.plainB T t1 t2=Z at *;have HZ:=Ac hfr;have HAA:=Ac hA;have qb:(q:Int)<(ps.length:Int):=by omega
       have lG:g2<wr.heap.size:=hg2lt;clear hfr hA hdq e1 e2 e3 hcell2 HAP;subst hg2;go_wp2
       go_region_held3 (fun w'=>w'.cell? ⟨w.heap.size,0,none⟩=some (.slice fa1 l.length fc1)∧w'.cell? ⟨w.heap.size,1,none⟩=some (.slice (some ⟨g,0,none⟩) ms.length fc2)∧w'.cell? ⟨w.heap.size+1,2,none⟩=some (.slice (some ⟨g2,0,none⟩) ps.length pc)∧w'.cell? ⟨g2,q*2,none⟩=some (.int .i64 t1)∧w'.cell? ⟨g2,q*2+1,none⟩=some (.int .i64 t2))
        (first | exact⟨f0,f1,m2,u0,u1⟩ | exact⟨QC hb7 lF f0,QC hb7 lF f1,QC hb7 lM m2,QC hb7 lG u0,QC hb7 lG u1⟩)
        (first | (go_at_call 51;refine(Aa HZ _).mono ?_;rintro e w7 ⟨rfl,hb7⟩))
       have hB7:Below w.heap.size w w7:=hB.drew.trans (hb7.mono hBs);have CF7:=stay hb7 (show (wr.drew).heap[w.heap.size]?=_ from CF);have CM7:=stay hb7 (show (wr.drew).heap[w.heap.size+1]?=_ from CM);clear hb7 m0 m1 m2 m3 m4 m5 m6 m7 m8 m9 m10 m11 f0 f1 u0 u1 CF CM hB lF lM lG;cases Z with
       | false =>
        have hAP:AP=false:=by rw[← Aa HAA];simp
        have HR:Hid (R=false):=by unfold Hid;rw[← Aa HRES,hAP];simp
        clear HAA hAP;go_wp2;go_ret;exact⟨by rw[Aa HR];rfl,hB7⟩
       | true =>
        have HG:Hid (Tr.allPlainB T (ps.drop (q+1))=AP):=by unfold Hid;rw[← Aa HAA];simp
        clear HAA;go_wp2
        go_roundw
        case rel=>exact⟨q+1,by omega,by go_num,HG,hB7,CF7,CM7⟩
        case measure=>simp[intOf];omega
      ·have hAP:AP=true:=by rw[← Aa HAP,List.drop_eq_nil_of_le (by omega)];rfl
       have qb:¬ (q:Int)<(ps.length:Int):=by omega
       have hrs:=Aa HRES;rw[hAP,if_neg (by simp)]at hrs;clear HAP hAP HRES;by_cases hlo:lo<(ps.length:Int)
       ·have HR:Hid (R=false):=by unfold Hid;rw[← hrs];simp[Abt,hlo]
        clear hrs;go_wp2;go_ret;exact⟨by rw[Aa HR];rfl,hB⟩
       ·by_cases hlo2:lo=(ps.length:Int)
        ·have HR:Hid (R=false):=by unfold Hid;rw[← hrs];simp[Abt,hlo2,hown]
         clear hrs;go_wp2;go_ret;exact⟨by rw[Aa HR];rfl,hB⟩
        ·have HL:Hid (Aa7 T cl nm r1 r2 ps k 0 ((ms.map fun p=>p.1.m).drop 0)=R):=by unfold Hid;rw[← hrs];simp[Abt,hlo,hlo2,hown]
         clear hrs;go_wp2
         go_loopw [11] (fun v wr=>∃ i:Nat,i≤ms.length∧v=.int .i64 (i:Int)∧Hid (Aa7 T cl nm r1 r2 ps k i ((ms.map fun p=>p.1.m).drop i)=R)∧Below w.heap.size w wr∧wr.heap[w.heap.size]?=some (O11 fa1 l.length fc1 (some ⟨g,0,none⟩) ms.length fc2)∧wr.heap[w.heap.size+1]?=some (O14 cl nm pa ps.length pc r1 r2 lo st code ha hl hc ma ml mc mAt fin))
          (fun v _=>ms.length-(intOf v).toNat)
         case atStart=>exact⟨0,by omega,rfl,HL,hB,CF,CM⟩
         case round =>
          clear HL hB CF CM f0 f1 m0 m1 m2 m3 m4 m5 m6 m7 m8 m9 m10 m11 lF lM hBs;obtain⟨i,hi,rfl,HL,hB,CF,CM⟩:=hrel;obtain⟨m0,m1,m2,m3,m4,m5,m6,m7,m8,m9,m10,m11⟩:=Ap CM;simp at m0 m1 m2 m3 m4 m5 m6 m7 m8 m9 m10 m11;obtain⟨f0,f1⟩:=cl2 CF;simp at f0 f1;have lF:w.heap.size<wr.heap.size:=lt_of_block CF;have lM:w.heap.size+1<wr.heap.size:=lt_of_block CM;have hBs:=hB.size;by_cases hin:i<ms.length
          ·obtain⟨mx,gx,hgx,hgxlt,hrx,hix⟩:=Aa HMT' wr i hin hB;have hplx:=Aa HPL _ (List.getElem_mem hin);have hd:(ms.map fun p=>p.1.m).drop i=ms[i].1.m::(ms.map fun p=>p.1.m).drop (i+1):=by
            rw[List.drop_eq_getElem_cons (by simpa using hin)]
            simp
           have hr:=Aa HL;rw[hd,Aa7,Aef]at hr;obtain⟨ecl,enm,er1,er2,-,-,-,-,epl,hpx,-,-,-,-,-⟩:=hix;have eres:ms[i].1.m.result=(mx.r1,mx.r2):=by rw[er1,er2]
           rw[← ecl,← enm,eres]at hr;replace hrx:=Ft hrx;generalize ms[i].1.m.params=xps at *;obtain⟨xcl,xnm,xpa,xpl,xpc,xr1,xr2,xlo,xst,xcode,xha,xhl,xhc,xma,xml,xmc,xmAt,xfin⟩:=mx;simp only at epl hgx;subst epl;obtain rfl:g=gx:=by simpa using hgx
           simp only at hr hrx hpx;obtain⟨z0,z1,z2,z3,z4,z5,z6,z7,z8,z9,z10,z11⟩:=hrx;have ib:(i:Int)<(ms.length:Int):=by omega
           have HPX:=Ac hpx;have hbl:=fun w h=>Aa HBl cl xcl w h;generalize Tr.rbel T cl xcl=U at *;have HU:=Ac hbl;have HRR:=Ac hr;have CX:=Ad wr (O14 xcl xnm xpa xps.length xpc xr1 xr2 xlo xst xcode xha xhl xhc xma xml xmc xmAt xfin);have hBx:=hB.alloc hBs (O14 xcl xnm xpa xps.length xpc xr1 xr2 xlo xst xcode xha xhl xhc xma xml xmc xmAt xfin);have CFx:=Aj CF (O14 xcl xnm xpa xps.length xpc xr1 xr2 xlo xst xcode xha xhl xhc xma xml xmc xmAt xfin);have CMx:=Aj CM (O14 xcl xnm xpa xps.length xpc xr1 xr2 xlo xst xcode xha xhl xhc xma xml xmc xmAt xfin);clear hd hr hpx ecl enm er1 er2 eres HL hgx hbl;by_cases hxn:xnm=nm
           ·have hxn':(xnm != nm)=false:=by simp[hxn]
            by_cases hx5:xcl=255
            ·have hx5':(xcl==255)=true:=by simp[hx5]
             have HF:Hid (Aa7 T cl nm r1 r2 ps k (i+1) ((ms.map fun p=>p.1.m).drop (i+1))=R):=by unfold Hid;rw[← Aa HRR];simp[hxn,hx5]
             clear hxn hx5;clear HRR;go_wp2
             go_roundw
             case rel=>exact⟨i+1,by omega,by go_num,HF,hBx,CFx,CMx⟩
             case measure=>simp[intOf];omega
            ·have hx5':(xcl==255)=false:=by simp[hx5]
             by_cases hxc:xcl=cl
             ·have hxc':(xcl==cl)=true:=by simp[hxc]
              by_cases hik:i<k
              ·have hik':(i:Int)<(k:Int):=by omega
               have HF:Hid (R=false):=by unfold Hid;rw[← Aa HRR];simp[hxn,hxc,hik,hown]
               clear hxn hx5 hxc;clear HRR;go_wp2;go_ret;exact⟨by rw[Aa HF];rfl,hBx⟩
              ·have hik':¬ (i:Int)<(k:Int):=by omega
               have HF:Hid (Aa7 T cl nm r1 r2 ps k (i+1) ((ms.map fun p=>p.1.m).drop (i+1))=R):=by unfold Hid;rw[← Aa HRR];simp[hxn,hxc,hik,hown]
               clear hxn hx5 hxc;clear HRR;go_wp2
               go_roundw
               case rel=>exact⟨i+1,by omega,by go_num,HF,hBx,CFx,CMx⟩
               case measure=>simp[intOf];omega
             ·have hxc':(xcl==cl)=false:=by simp[hxc]
              have HXN:=Ac hxn;have HX5:=Ac hx5;have HXC:=Ac hxc;clear hxn hx5 hxc;go_wp2_with fail
              refine(Aa HU _ (Aa HOK _ hBx)).mono ?_;rintro e w3 ⟨rfl,hb3⟩;have hB3:=QB hBx hb3;have CF3:=stay hb3 CFx;have CM3:=stay hb3 CMx;have CX3:=stay hb3 CX;have hpx3:TysAt w3 bb (.slice xpa xps.length xpc) xps:=(Aa HPX).kp (Kp.of_below (e:=none) ((QN _).trans (hb3.mono (by simp)))) (by decide);have hps3:=Aa HPS' _ hB3;clear hb3 hBx CF CM CFx CMx CX hB f0 f1 m0 m1 m2 m3 m4 m5 m6 m7 m8 m9 m10 m11 z0 z1 z2 z3 z4 z5 z6 z7 z8 z9 z10 z11 lF lM hBs;have m2:=Ab CM3 2;have m3:=Ab CM3 3;have m4:=Ab CM3 4;have x2:=Ab CX3 2;have x3:=Ab CX3 3;have x4:=Ab CX3 4;simp at m2 m3 m4 x2 x3 x4;have hsm:=Mw xps ps xpa pa xpc pc bb bb w3 hpx3 hps3 hplx hpk;generalize decide (xps=ps)=SM at *;have HSM:=Ac hsm;clear hsm hpx3 hps3;go_wp2_with fail
              refine(Aa HSM).mono ?_;rintro e w4 ⟨rfl,hb4⟩;have hB4:=QB hB3 hb4;have CF4:=stay hb4 CF3;have CM4:=stay hb4 CM3;have CX4:=stay hb4 CX3;clear hb4 hB3 CF3 CM3 CX3 m2 m3 m4 x2 x3 x4;have m3:=Ab CM4 3;have m4:=Ab CM4 4;have x3:=Ab CX4 3;have x4:=Ab CX4 4;simp at m3 m4 x3 x4;cases U with
              | false =>
               have HF:Hid (Aa7 T cl nm r1 r2 ps k (i+1) ((ms.map fun p=>p.1.m).drop (i+1))=R):=by unfold Hid;rw[← Aa HRR];simp[Aa HXN,Aa HX5,Aa HXC]
               clear HRR;go_wp2
               go_roundw
               case rel=>exact⟨i+1,by omega,by go_num,HF,hB4,CF4,CM4⟩
               case measure=>simp[intOf];omega
              | true =>
               cases SM with
               | false =>
                have HF:Hid (R=false):=by unfold Hid;rw[← Aa HRR];simp[Aa HXN,Aa HX5,Aa HXC]
                clear HRR;go_wp2;go_ret;exact⟨by rw[Aa HF];rfl,hB4⟩
               | true =>
                by_cases hr1:xr1=r1
                ·by_cases hr2:xr2=r2
                 ·have HF:Hid (Aa7 T cl nm r1 r2 ps k (i+1) ((ms.map fun p=>p.1.m).drop (i+1))=R):=by unfold Hid;rw[← Aa HRR];simp[Aa HXN,Aa HX5,Aa HXC,hr1,hr2]
                  clear HRR;go_wp2
                  go_roundw
                  case rel=>exact⟨i+1,by omega,by go_num,HF,hB4,CF4,CM4⟩
                  case measure=>simp[intOf];omega
                 ·have HF:Hid (R=false):=by unfold Hid;rw[← Aa HRR];simp[Aa HXN,Aa HX5,Aa HXC,hr2]
                  clear HRR;go_wp2;go_ret;exact⟨by rw[Aa HF];rfl,hB4⟩
                ·have HF:Hid (R=false):=by unfold Hid;rw[← Aa HRR];simp[Aa HXN,Aa HX5,Aa HXC,hr1]
                 clear HRR;go_wp2;go_ret;exact⟨by rw[Aa HF];rfl,hB4⟩
           ·have hxn':(xnm != nm)=true:=by simp[hxn]
            have HF:Hid (Aa7 T cl nm r1 r2 ps k (i+1) ((ms.map fun p=>p.1.m).drop (i+1))=R):=by unfold Hid;rw[← Aa HRR];simp[hxn]
            clear hxn;clear HRR;go_wp2
            go_roundw
            case rel=>exact⟨i+1,by omega,by go_num,HF,hBx,CFx,CMx⟩
            case measure=>simp[intOf];omega
          ·have HF:Hid (R=true):=by unfold Hid;rw[← Aa HL,List.drop_eq_nil_of_le (by simp;omega)];rfl
           have ib:¬ (i:Int)<(ms.length:Int):=by omega
           clear HL;go_wp2;go_ret;exact⟨by rw[Aa HF];rfl,hB⟩
    | false =>
     by_cases hz1:r1=0
     ·subst hz1;by_cases hz2:r2=0
      ·subst hz2;generalize hap:Tr.allPlainB T ps=AP at hres;have HAP:Hid (Tr.allPlainB T (ps.drop 0)=AP):=hap;clear hap;have HRES:Hid ((if AP=false then false else if Abt cl lo ps=true then false else if cl=255 then true else Aa7 T cl nm 0 0 ps k 0 (ms.map fun p=>p.1.m))=R):=by unfold Hid;rw[← hres];simp[hown,h7]
       clear hres;go_enter Tryz.func30,Tryz.ntmps30;go_wp2_with fail
       refine(Aa HHA _).mono ?_;rintro e w1 ⟨rfl,hb1⟩;have hB1:=hB0.trans (hb1.mono (by simp;omega));have CF1:=stay hb1 CF0;have CM1:=stay hb1 CM0;clear hb1 hB0 CF0 CM0 y0 y1 y2 y3 y4 y5 y6 y7 y8 y9 y10 y11;obtain⟨f0,f1⟩:=cl2 CF1;obtain⟨m0,m1⟩:=cl2 CM1;have m3:=Ab CM1 3;have m4:=Ab CM1 4;simp at f0 f1 m0 m1 m3 m4;go_wp2_with fail
       refine(Aa HPA _).mono ?_;rintro e w2 ⟨rfl,hb2⟩;have hB2:=QB hB1 hb2;have CF2:=stay hb2 CF1;have CM2:=stay hb2 CM1;clear hb2 hB1 CF1 CM1 f0 f1 m0 m1 m3 m4;obtain⟨m0,m1,m2,m3,m4,m5,m6,m7,m8,m9,m10,m11⟩:=Ap CM2;simp at m0 m1 m2 m3 m4 m5 m6 m7 m8 m9 m10 m11;obtain⟨f0,f1⟩:=cl2 CF2;simp at f0 f1;go_wp2
       go_loopw [9] (fun v wr=>∃ q:Nat,q≤ps.length∧v=.int .i64 (q:Int)∧Hid (Tr.allPlainB T (ps.drop q)=AP)∧Below w.heap.size w wr∧wr.heap[w.heap.size]?=some (O11 fa1 l.length fc1 (some ⟨g,0,none⟩) ms.length fc2)∧wr.heap[w.heap.size+1]?=some (O14 cl nm pa ps.length pc 0 0 lo st code ha hl hc ma ml mc mAt fin))
        (fun v _=>ps.length-(intOf v).toNat)
       case atStart=>exact⟨0,by omega,rfl,HAP,hB2,CF2,CM2⟩
       case round =>
        clear HAP hB2 CF2 CM2 f0 f1 m0 m1 m2 m3 m4 m5 m6 m7 m8 m9 m10 m11;obtain⟨q,hq,rfl,HAP,hB,CF,CM⟩:=hrel;obtain⟨m0,m1,m2,m3,m4,m5,m6,m7,m8,m9,m10,m11⟩:=Ap CM;simp at m0 m1 m2 m3 m4 m5 m6 m7 m8 m9 m10 m11;obtain⟨f0,f1⟩:=cl2 CF;simp at f0 f1;have lF:w.heap.size<wr.heap.size:=lt_of_block CF;have lM:w.heap.size+1<wr.heap.size:=lt_of_block CM;have hBs:=hB.size;by_cases hqn:q<ps.length
        ·obtain⟨g2,hg2,hg2lt,_,hcell2⟩:=Ao (Aa HPS' _ hB) (by omega);obtain⟨e1,e2,e3⟩:=Az ps q hqn;have u0:=(hcell2 (q*2) (by omega)).trans e1;have u1:=(hcell2 (q*2+1) (by omega)).trans e2;have hdq:ps.drop q=ps[q]::ps.drop (q+1):=List.drop_eq_getElem_cons hqn;have hA:=Aa HAP;rw[hdq,Cl]at hA;generalize ps[q]=t at *;obtain⟨t1,t2⟩:=t;simp only at u0 u1 hA;have hfr:=fun w=>Aa HPl t1 t2 w;generalize Tr.plainB T t1 t2=Z at *;have HZ:=Ac hfr;have HAA:=Ac hA;have qb:(q:Int)<(ps.length:Int):=by omega
         have lG:g2<wr.heap.size:=hg2lt;clear hfr hA hdq e1 e2 e3 hcell2 HAP;subst hg2;go_wp2
         go_region_held3 (fun w'=>w'.cell? ⟨w.heap.size,0,none⟩=some (.slice fa1 l.length fc1)∧w'.cell? ⟨w.heap.size,1,none⟩=some (.slice (some ⟨g,0,none⟩) ms.length fc2)∧w'.cell? ⟨w.heap.size+1,2,none⟩=some (.slice (some ⟨g2,0,none⟩) ps.length pc)∧w'.cell? ⟨g2,q*2,none⟩=some (.int .i64 t1)∧w'.cell? ⟨g2,q*2+1,none⟩=some (.int .i64 t2))
          (first | exact⟨f0,f1,m2,u0,u1⟩ | exact⟨QC hb7 lF f0,QC hb7 lF f1,QC hb7 lM m2,QC hb7 lG u0,QC hb7 lG u1⟩)
          (first | (go_at_call 51;refine(Aa HZ _).mono ?_;rintro e w7 ⟨rfl,hb7⟩))
         have hB7:Below w.heap.size w w7:=hB.drew.trans (hb7.mono hBs);have CF7:=stay hb7 (show (wr.drew).heap[w.heap.size]?=_ from CF);have CM7:=stay hb7 (show (wr.drew).heap[w.heap.size+1]?=_ from CM);clear hb7 m0 m1 m2 m3 m4 m5 m6 m7 m8 m9 m10 m11 f0 f1 u0 u1 CF CM hB lF lM lG;cases Z with
         | false =>
          have hAP:AP=false:=by rw[← Aa HAA];simp
          have HR:Hid (R=false):=by unfold Hid;rw[← Aa HRES,hAP];simp
          clear HAA hAP;go_wp2;go_ret;exact⟨by rw[Aa HR];rfl,hB7⟩
         | true =>
          have HG:Hid (Tr.allPlainB T (ps.drop (q+1))=AP):=by unfold Hid;rw[← Aa HAA];simp
          clear HAA;go_wp2
          go_roundw
          case rel=>exact⟨q+1,by omega,by go_num,HG,hB7,CF7,CM7⟩
          case measure=>simp[intOf];omega
        ·have hAP:AP=true:=by rw[← Aa HAP,List.drop_eq_nil_of_le (by omega)];rfl
         have qb:¬ (q:Int)<(ps.length:Int):=by omega
         have hrs:=Aa HRES;rw[hAP,if_neg (by simp)]at hrs;clear HAP hAP HRES;by_cases hlo:lo<(ps.length:Int)
         ·have HR:Hid (R=false):=by unfold Hid;rw[← hrs];simp[Abt,hlo]
          clear hrs;go_wp2;go_ret;exact⟨by rw[Aa HR];rfl,hB⟩
         ·by_cases hlo2:lo=(ps.length:Int)
          ·have HR:Hid (R=false):=by unfold Hid;rw[← hrs];simp[Abt,hlo2,hown]
           clear hrs;go_wp2;go_ret;exact⟨by rw[Aa HR];rfl,hB⟩
          ·have HL:Hid (Aa7 T cl nm 0 0 ps k 0 ((ms.map fun p=>p.1.m).drop 0)=R):=by unfold Hid;rw[← hrs];simp[Abt,hlo,hlo2,hown]
           clear hrs;go_wp2
           go_loopw [11] (fun v wr=>∃ i:Nat,i≤ms.length∧v=.int .i64 (i:Int)∧Hid (Aa7 T cl nm 0 0 ps k i ((ms.map fun p=>p.1.m).drop i)=R)∧Below w.heap.size w wr∧wr.heap[w.heap.size]?=some (O11 fa1 l.length fc1 (some ⟨g,0,none⟩) ms.length fc2)∧wr.heap[w.heap.size+1]?=some (O14 cl nm pa ps.length pc 0 0 lo st code ha hl hc ma ml mc mAt fin))
            (fun v _=>ms.length-(intOf v).toNat)
           case atStart=>exact⟨0,by omega,rfl,HL,hB,CF,CM⟩
           case round =>
            clear HL hB CF CM f0 f1 m0 m1 m2 m3 m4 m5 m6 m7 m8 m9 m10 m11 lF lM hBs;obtain⟨i,hi,rfl,HL,hB,CF,CM⟩:=hrel;obtain⟨m0,m1,m2,m3,m4,m5,m6,m7,m8,m9,m10,m11⟩:=Ap CM;simp at m0 m1 m2 m3 m4 m5 m6 m7 m8 m9 m10 m11;obtain⟨f0,f1⟩:=cl2 CF;simp at f0 f1;have lF:w.heap.size<wr.heap.size:=lt_of_block CF;have lM:w.heap.size+1<wr.heap.size:=lt_of_block CM;have hBs:=hB.size;by_cases hin:i<ms.length
            ·obtain⟨mx,gx,hgx,hgxlt,hrx,hix⟩:=Aa HMT' wr i hin hB;have hplx:=Aa HPL _ (List.getElem_mem hin);have hd:(ms.map fun p=>p.1.m).drop i=ms[i].1.m::(ms.map fun p=>p.1.m).drop (i+1):=by
              rw[List.drop_eq_getElem_cons (by simpa using hin)]
              simp
             have hr:=Aa HL;rw[hd,Aa7,Aef]at hr;obtain⟨ecl,enm,er1,er2,-,-,-,-,epl,hpx,-,-,-,-,-⟩:=hix;have eres:ms[i].1.m.result=(mx.r1,mx.r2):=by rw[er1,er2]
             rw[← ecl,← enm,eres]at hr;replace hrx:=Ft hrx;generalize ms[i].1.m.params=xps at *;obtain⟨xcl,xnm,xpa,xpl,xpc,xr1,xr2,xlo,xst,xcode,xha,xhl,xhc,xma,xml,xmc,xmAt,xfin⟩:=mx;simp only at epl hgx;subst epl;obtain rfl:g=gx:=by simpa using hgx
             simp only at hr hrx hpx;obtain⟨z0,z1,z2,z3,z4,z5,z6,z7,z8,z9,z10,z11⟩:=hrx;have ib:(i:Int)<(ms.length:Int):=by omega
             have HPX:=Ac hpx;have hbl:=fun w h=>Aa HBl cl xcl w h;generalize Tr.rbel T cl xcl=U at *;have HU:=Ac hbl;have HRR:=Ac hr;have CX:=Ad wr (O14 xcl xnm xpa xps.length xpc xr1 xr2 xlo xst xcode xha xhl xhc xma xml xmc xmAt xfin);have hBx:=hB.alloc hBs (O14 xcl xnm xpa xps.length xpc xr1 xr2 xlo xst xcode xha xhl xhc xma xml xmc xmAt xfin);have CFx:=Aj CF (O14 xcl xnm xpa xps.length xpc xr1 xr2 xlo xst xcode xha xhl xhc xma xml xmc xmAt xfin);have CMx:=Aj CM (O14 xcl xnm xpa xps.length xpc xr1 xr2 xlo xst xcode xha xhl xhc xma xml xmc xmAt xfin);clear hd hr hpx ecl enm er1 er2 eres HL hgx hbl;by_cases hxn:xnm=nm
             ·have hxn':(xnm != nm)=false:=by simp[hxn]
              by_cases hx5:xcl=255
              ·have hx5':(xcl==255)=true:=by simp[hx5]
               have HF:Hid (Aa7 T cl nm 0 0 ps k (i+1) ((ms.map fun p=>p.1.m).drop (i+1))=R):=by unfold Hid;rw[← Aa HRR];simp[hxn,hx5]
               clear hxn hx5;clear HRR;go_wp2
               go_roundw
               case rel=>exact⟨i+1,by omega,by go_num,HF,hBx,CFx,CMx⟩
               case measure=>simp[intOf];omega
              ·have hx5':(xcl==255)=false:=by simp[hx5]
               by_cases hxc:xcl=cl
               ·have hxc':(xcl==cl)=true:=by simp[hxc]
                by_cases hik:i<k
                ·have hik':(i:Int)<(k:Int):=by omega
                 have HF:Hid (R=false):=by unfold Hid;rw[← Aa HRR];simp[hxn,hxc,hik,hown]
                 clear hxn hx5 hxc;clear HRR;go_wp2;go_ret;exact⟨by rw[Aa HF];rfl,hBx⟩
                ·have hik':¬ (i:Int)<(k:Int):=by omega
                 have HF:Hid (Aa7 T cl nm 0 0 ps k (i+1) ((ms.map fun p=>p.1.m).drop (i+1))=R):=by unfold Hid;rw[← Aa HRR];simp[hxn,hxc,hik,hown]
                 clear hxn hx5 hxc;clear HRR;go_wp2
                 go_roundw
                 case rel=>exact⟨i+1,by omega,by go_num,HF,hBx,CFx,CMx⟩
                 case measure=>simp[intOf];omega
               ·have hxc':(xcl==cl)=false:=by simp[hxc]
                have HXN:=Ac hxn;have HX5:=Ac hx5;have HXC:=Ac hxc;clear hxn hx5 hxc;go_wp2_with fail
                refine(Aa HU _ (Aa HOK _ hBx)).mono ?_;rintro e w3 ⟨rfl,hb3⟩;have hB3:=QB hBx hb3;have CF3:=stay hb3 CFx;have CM3:=stay hb3 CMx;have CX3:=stay hb3 CX;have hpx3:TysAt w3 bb (.slice xpa xps.length xpc) xps:=(Aa HPX).kp (Kp.of_below (e:=none) ((QN _).trans (hb3.mono (by simp)))) (by decide);have hps3:=Aa HPS' _ hB3;clear hb3 hBx CF CM CFx CMx CX hB f0 f1 m0 m1 m2 m3 m4 m5 m6 m7 m8 m9 m10 m11 z0 z1 z2 z3 z4 z5 z6 z7 z8 z9 z10 z11 lF lM hBs;have m2:=Ab CM3 2;have m3:=Ab CM3 3;have m4:=Ab CM3 4;have x2:=Ab CX3 2;have x3:=Ab CX3 3;have x4:=Ab CX3 4;simp at m2 m3 m4 x2 x3 x4;have hsm:=Mw xps ps xpa pa xpc pc bb bb w3 hpx3 hps3 hplx hpk;generalize decide (xps=ps)=SM at *;have HSM:=Ac hsm;clear hsm hpx3 hps3;go_wp2_with fail
                refine(Aa HSM).mono ?_;rintro e w4 ⟨rfl,hb4⟩;have hB4:=QB hB3 hb4;have CF4:=stay hb4 CF3;have CM4:=stay hb4 CM3;have CX4:=stay hb4 CX3;clear hb4 hB3 CF3 CM3 CX3 m2 m3 m4 x2 x3 x4;have m3:=Ab CM4 3;have m4:=Ab CM4 4;have x3:=Ab CX4 3;have x4:=Ab CX4 4;simp at m3 m4 x3 x4;cases U with
                | false =>
                 have HF:Hid (Aa7 T cl nm 0 0 ps k (i+1) ((ms.map fun p=>p.1.m).drop (i+1))=R):=by unfold Hid;rw[← Aa HRR];simp[Aa HXN,Aa HX5,Aa HXC]
                 clear HRR;go_wp2
                 go_roundw
                 case rel=>exact⟨i+1,by omega,by go_num,HF,hB4,CF4,CM4⟩
                 case measure=>simp[intOf];omega
                | true =>
                 cases SM with
                 | false =>
                  have HF:Hid (R=false):=by unfold Hid;rw[← Aa HRR];simp[Aa HXN,Aa HX5,Aa HXC]
                  clear HRR;go_wp2;go_ret;exact⟨by rw[Aa HF];rfl,hB4⟩
                 | true =>
                  by_cases hr1:xr1=0
                  ·by_cases hr2:xr2=0
                   ·have HF:Hid (Aa7 T cl nm 0 0 ps k (i+1) ((ms.map fun p=>p.1.m).drop (i+1))=R):=by unfold Hid;rw[← Aa HRR];simp[Aa HXN,Aa HX5,Aa HXC,hr1,hr2]
                    clear HRR;go_wp2
                    go_roundw
                    case rel=>exact⟨i+1,by omega,by go_num,HF,hB4,CF4,CM4⟩
                    case measure=>simp[intOf];omega
                   ·have HF:Hid (R=false):=by unfold Hid;rw[← Aa HRR];simp[Aa HXN,Aa HX5,Aa HXC,hr2]
                    clear HRR;go_wp2;go_ret;exact⟨by rw[Aa HF];rfl,hB4⟩
                  ·have HF:Hid (R=false):=by unfold Hid;rw[← Aa HRR];simp[Aa HXN,Aa HX5,Aa HXC,hr1]
                   clear HRR;go_wp2;go_ret;exact⟨by rw[Aa HF];rfl,hB4⟩
             ·have hxn':(xnm != nm)=true:=by simp[hxn]
              have HF:Hid (Aa7 T cl nm 0 0 ps k (i+1) ((ms.map fun p=>p.1.m).drop (i+1))=R):=by unfold Hid;rw[← Aa HRR];simp[hxn]
              clear hxn;clear HRR;go_wp2
              go_roundw
              case rel=>exact⟨i+1,by omega,by go_num,HF,hBx,CFx,CMx⟩
              case measure=>simp[intOf];omega
            ·have HF:Hid (R=true):=by unfold Hid;rw[← Aa HL,List.drop_eq_nil_of_le (by simp;omega)];rfl
             have ib:¬ (i:Int)<(ms.length:Int):=by omega
             clear HL;go_wp2;go_ret;exact⟨by rw[Aa HF];rfl,hB⟩
      ·have HR:Hid (R=false):=by unfold Hid;rw[← hres];simp[hown,h7,hz2]
       clear hres;go_enter Tryz.func30,Tryz.ntmps30;go_wp2_with fail
       refine(Aa HHA _).mono ?_;rintro e w1 ⟨rfl,hb1⟩;have hB1:=hB0.trans (hb1.mono (by simp;omega));have CF1:=stay hb1 CF0;have CM1:=stay hb1 CM0;clear hb1 hB0 CF0 CM0 y0 y1 y2 y3 y4 y5 y6 y7 y8 y9 y10 y11;obtain⟨f0,f1⟩:=cl2 CF1;obtain⟨m0,m1⟩:=cl2 CM1;have m3:=Ab CM1 3;have m4:=Ab CM1 4;simp at f0 f1 m0 m1 m3 m4;go_wp2_with fail
       refine(Aa HPA _).mono ?_;rintro e w2 ⟨rfl,hb2⟩;have hB2:=QB hB1 hb2;have CF2:=stay hb2 CF1;have CM2:=stay hb2 CM1;clear hb2 hB1 CF1 CM1 f0 f1 m0 m1 m3 m4;obtain⟨m0,m1,m2,m3,m4,m5,m6,m7,m8,m9,m10,m11⟩:=Ap CM2;simp at m0 m1 m2 m3 m4 m5 m6 m7 m8 m9 m10 m11;obtain⟨f0,f1⟩:=cl2 CF2;simp at f0 f1;go_wp2;go_ret;exact⟨by rw[Aa HR];rfl,hB2⟩
     ·have HR:Hid (R=false):=by unfold Hid;rw[← hres];simp[hown,h7,hz1]
      clear hres;go_enter Tryz.func30,Tryz.ntmps30;go_wp2_with fail
      refine(Aa HHA _).mono ?_;rintro e w1 ⟨rfl,hb1⟩;have hB1:=hB0.trans (hb1.mono (by simp;omega));have CF1:=stay hb1 CF0;have CM1:=stay hb1 CM0;clear hb1 hB0 CF0 CM0 y0 y1 y2 y3 y4 y5 y6 y7 y8 y9 y10 y11;obtain⟨f0,f1⟩:=cl2 CF1;obtain⟨m0,m1⟩:=cl2 CM1;have m3:=Ab CM1 3;have m4:=Ab CM1 4;simp at f0 f1 m0 m1 m3 m4;go_wp2_with fail
      refine(Aa HPA _).mono ?_;rintro e w2 ⟨rfl,hb2⟩;have hB2:=QB hB1 hb2;have CF2:=stay hb2 CF1;have CM2:=stay hb2 CM1;clear hb2 hB1 CF1 CM1 f0 f1 m0 m1 m3 m4;obtain⟨m0,m1,m2,m3,m4,m5,m6,m7,m8,m9,m10,m11⟩:=Ap CM2;simp at m0 m1 m2 m3 m4 m5 m6 m7 m8 m9 m10 m11;obtain⟨f0,f1⟩:=cl2 CF2;simp at f0 f1;go_wp2;go_ret;exact⟨by rw[Aa HR];rfl,hB2⟩
structure Rf.MBd (x:Rf.Mth):Prop where
 ps:x.m.params.length≤1000
 code:x.m.code.length≤100000
 hs:x.m.handlers.length≤1000
 mp:x.m.maps.length≤1000
 fr:∀ p∈x.m.maps,p.locals.length≤1000∧p.stack.length≤1000
theorem Na {α:Type} (P:α→Prop) (f:Int→α × Int) (h:∀ i,P (f i).1) (n:Nat) (i:Int):(∀ x∈(Rf.rep f n i).1,P x)∧(Rf.rep f n i).1.length≤n:=by
 induction n with
 | zero=>simp[Rf.rep]
 | succ k ih =>
  unfold Rf.rep
  split
  ·simp
  ·split
   ·simp
   ·refine⟨?_,by simp;exact ih.2⟩;intro x hx;simp only[List.mem_append,List.mem_singleton]at hx;rcases hx with hx | hx
    ·exact ih.1 x hx
    ·rw[hx];exact h _
theorem Kw (s:List UInt8) (i:Int) (n:Nat):(Rf.codeTo s i n).length=n:=by
 induction n with
 | zero=>rfl
 | succ k ih=>simp[Rf.codeTo,ih]
theorem Wd (s:List UInt8) (i:Int):(Rf.hnds s i).1.length≤1000:=by
 unfold Rf.hnds;have hb:=Rf.cnt_bd s i 0 4 (by omega)
 split
 ·simp
 ·split
  ·simp
  ·simp only;rw[Id];omega
theorem Vs (s:List UInt8) (i L H:Int) (hL:L≤8) (hH0:-1≤H) (hH:H≤8):(Rf.mps s i L H).1.length≤1000∧∀ p∈(Rf.mps s i L H).1,p.locals.length≤1000∧p.stack.length≤1000:=by
 unfold Rf.mps;have hb:=Rf.cnt_bd s i 0 64 (by omega)
 split
 ·simp
 ·have:=Na (fun p:Rd.Mp=>p.locals.length≤1000∧p.stack.length≤1000) (Rf.mp s L H) (fun j=>by
   unfold Rf.mp;have hc:=Rf.cnt_bd s (j+1+2*L) 0 H hH0
   split
   ·simp
   ·simp only;rw[Bv,Bv];omega) (Rf.cnt s i 0 64).toNat (i+1)
  exact⟨by omega,this.1⟩
theorem Zf (s:List UInt8) (i:Int):Rf.MBd (Rf.mth s i).1:=by
 have none:Rf.MBd ⟨⟨0,0,[],(0,0),0,0,[],[],[]⟩,0,0⟩:=⟨by simp,by simp,by simp,by simp,by simp⟩;unfold Rf.mth;have h1:=Rf.cnt_bd s (i+2) 0 4 (by omega);have h2:=Rf.cnt_bd s (i+3+2*Rf.cnt s (i+2) 0 4+2) 0 8 (by omega);have h3:=Rf.cnt_bd s (i+3+2*Rf.cnt s (i+2) 0 4+3) 0 8 (by omega);have h4:=Rf.cnt_bd s (i+3+2*Rf.cnt s (i+2) 0 4+4) 1 120 (by omega);dsimp only
 split
 ·exact none
 ·split
  ·exact none
  ·split
   ·exact none
   ·split
    ·exact none
    ·split
     ·exact none
     ·split
      ·exact none
      ·exact⟨by simp only;rw[Bv];omega,by simp only;rw[Kw];omega,Wd s _,(Vs s _ _ _ h2.2 h3.1 h3.2).1,(Vs s _ _ _ h2.2 h3.1 h3.2).2⟩
theorem Qa (s:List UInt8):(Rf.fil s).2.1.length≤6∧∀ x∈(Rf.fil s).2.1,Rf.MBd x:=by
 unfold Rf.fil
 split
 ·simp
 ·split
  ·simp
  ·split
   ·simp
   ·dsimp only
    split
    ·simp
    ·split
     ·simp
     ·split
      ·simp
      ·have hb:=Rf.cnt_bd s (Rf.rep (Rf.cls s) (Rf.cnt s 2 0 6).toNat 3).2 1 6 (by omega);have:=Na Rf.MBd (Rf.mth s) (Zf s) (Rf.cnt s (Rf.rep (Rf.cls s) (Rf.cnt s 2 0 6).toNat 3).2 1 6).toNat ((Rf.rep (Rf.cls s) (Rf.cnt s 2 0 6).toNat 3).2+1);exact⟨by simp only;omega,this.1⟩
end Go.Proofs.YtcefiamkoincoaaGreat
