/- a part of the proof -/
import Derived.Test.YtcefiamkoincoaaGreatPk08
set_option maxRecDepth 100000
set_option maxHeartbeats 40000000
set_option linter.unusedVariables false
set_option linter.unusedSimpArgs false
namespace Go.Proofs.YtcefiamkoincoaaGreat
open Go.RowKit
def Acp (T:List Int) (ms:List Rd.Mth) (k:Nat) (m:Rd.Mth):Bool:=Ad1 T ms k m.cl m.name m.result.1 m.result.2 m.locals m.params
def Abz (T:List Int) (ms:List Rd.Mth):Nat→List Rd.Mth→Int
 | _,[]=>-1
 | k,m::r=>if Acp T ms k m=false then (k:Int) else Abz T ms (k+1) r
def Adg (T:List Int) (nf:Int) (ow:List Int) (m:Rd.Mth):Int × Int :=
 if 0≤Cd.badCode T nf ow m.locals m.code then (5,Cd.badCode T nf ow m.locals m.code)
 else if 0≤Cd.firstIx (Cd.hndBad T m.code) 0 m.handlers then (6,Cd.firstIx (Cd.hndBad T m.code) 0 m.handlers)
 else if 0≤Cd.mapsBad T m.code 0 (-1) m.maps then (7,Cd.mapsBad T m.code 0 (-1) m.maps)
 else (0,0)
def Ab2 (T:List Int) (nf:Int) (ow:List Int):Nat→List Rd.Mth→Int × Int × Int
 | _,[]=>(0,0,0)
 | k,m::r=>if (Adg T nf ow m).1≠0 then ((Adg T nf ow m).1,(k:Int),(Adg T nf ow m).2) else Ab2 T nf ow (k+1) r
def Aeb (T:List Int) (nf:Int) (ms:List Rd.Mth):Int × Int × Int :=
 if 0≤Abz T ms 0 ms then (4,Abz T ms 0 ms,0) else Ab2 T nf (ms.map Rd.Mth.cl) 0 ms
def Rf.nf (s:List UInt8):Int:=((Rf.fieldsTo (Tr.tree (Rf.fil s).1) (Rf.given++(Rf.fil s).1) (Rf.fil s).1.length).length:Int)
def Rf.formed (s:List UInt8):Int × Int × Int :=
 if (Rf.classed s).1≠0 then ((Rf.classed s).1,(Rf.classed s).2,0) else Aeb (Tr.tree (Rf.fil s).1) (Rf.nf s) ((Rf.fil s).2.1.map Rf.Mth.m)
def Jx (s:List UInt8) (w:World) (e:Ending) (w':World):Prop :=
 ∃ a1 n1 c1 a2 n2 c2,e=.returned (.tuple #[.agg #[.slice a1 n1 c1,.slice a2 n2 c2],.int .i64 (Rf.formed s).1,.int .i64 (Rf.formed s).2.1,.int .i64 (Rf.formed s).2.2]) ∧
  ((Rf.formed s).1=0→∃ l1 l2,l1.map Prod.fst=Rf.given++(Rf.fil s).1∧RClssIn w' w.heap.size (.slice a1 n1 c1) l1∧l2.map Prod.fst=(Rf.fil s).2.1∧RMthsIn w' w.heap.size (.slice a2 n2 c2) l2)∧Below w.heap.size w w'
theorem Pt (s:ByteArray) (w:World) (hs:s.size≤maxLen) :
  Calls Tryz.prog 16 #[.string s] w fun e w'=>Jx s.data.toList w e w':=by
 have hcd:=fun w=>N6 s w hs;have hgs:=fun l1 hl1=>Cu l1 (Rf.fil s.data.toList).1 hl1;have hb1:=N4 s.data.toList;have hb2:=Qa s.data.toList;unfold Ec at hcd;unfold Jx Rf.formed Rf.nf;generalize Rf.classed s.data.toList=C at *;generalize Rf.fil s.data.toList=Fi at *;have HCD:=Ac hcd;clear hcd;have R0':=Ad w (O11 none 0 0 none 0 0);have hBw:Below w.heap.size w (w.alloc (O11 none 0 0 none 0 0)):=QN _;by_cases h0:C.1=0
 ·rw[if_neg (fun h=>h h0)];have h0':(C.1 != 0)=false:=by simp[h0]
  have H0:=Ac h0;clear h0;generalize hF:Aeb (Tr.tree Fi.1) ((Rf.fieldsTo (Tr.tree Fi.1) (Rf.given++Fi.1) Fi.1.length).length:Int) (Fi.2.1.map Rf.Mth.m)=F;have HF:=Ac hF;have HGS:=Ac hgs;have HB1:=Ac hb1;have HB2:=Ac hb2;clear hF hgs hb1 hb2;go_enter Tryz.func16,Tryz.ntmps16;go_wp2_with fail
  refine(Aa HCD _).mono ?_;rintro e w1 ⟨a1,n1,c1,a2,n2,c2,rfl,hok,hb1⟩;obtain⟨l1,l2,hl1,hc1,hl2,hc2⟩:=hok (Aa H0);obtain⟨xa,xc,hsh⟩:=Af hc1.1;simp only[Value.slice.injEq]at hsh;obtain⟨rfl,rfl,rfl⟩:=hsh;obtain⟨xa,xc,hsh⟩:=Af hc2.1;simp only[Value.slice.injEq]at hsh;obtain⟨rfl,rfl,rfl⟩:=hsh;obtain⟨hg1,_,hg3⟩:=Aa HGS l1 hl1;have hb1':=Aa HB1;have hb2':=Aa HB2;have hm6:l2.length≤6:=by
   have:(l2.map Prod.fst).length≤6:=by rw[hl2];exact hb2'.1
   simpa using this
  -- the file as the functions take it
  have hfok:(RFl.mk a1 c1 a2 c2 (w.alloc (O11 none 0 0 none 0 0)).heap.size l1 l2).ok w1:=by
   refine⟨by simp only;have:=hb1'.1;omega,by simp only;omega,hm6,?_,hc1,hc2⟩;intro p hp;have hp':p.1∈Rf.given++Fi.1:=by rw[← hl1];exact List.mem_map_of_mem hp
   rcases List.mem_append.1 hp' with h|h
   ·simp[Rf.given]at h;rcases h with h | h | h<;>(rw[h];simp)
   ·exact hb1'.2 _ h
  have hmb:∀ p∈l2,Rf.MBd p.1:=fun p hp=>hb2'.2 _ (by rw[← hl2];exact List.mem_map_of_mem hp);have hfl:(RFl.mk a1 c1 a2 c2 (w.alloc (O11 none 0 0 none 0 0)).heap.size l1 l2).fields=Rf.fieldsTo (Tr.tree Fi.1) (Rf.given++Fi.1) Fi.1.length:=by
   simp only[RFl.fields];rw[hg1,hl1,show l1.length-7=Fi.1.length by omega]
  have hft:(RFl.mk a1 c1 a2 c2 (w.alloc (O11 none 0 0 none 0 0)).heap.size l1 l2).T=Tr.tree Fi.1:=hg1;have hfo:(RFl.mk a1 c1 a2 c2 (w.alloc (O11 none 0 0 none 0 0)).heap.size l1 l2).owners=(Fi.2.1.map Rf.Mth.m).map Rd.Mth.cl:=by
   simp only[RFl.owners];rw[← hl2]
   simp
  have hml:Fi.2.1.map Rf.Mth.m=l2.map fun p=>p.1.m:=by rw[← hl2];simp
  have hHd:∀ (k:Nat) (w':World) (hk:k<l2.length),Below w1.heap.size w1 w'→Calls Tryz.prog 30 #[.agg #[.slice a1 l1.length c1,.slice a2 l2.length c2],.int .i64 (k:Int)] w' fun e w2=>e=.returned (.bool (Acp (Tr.tree Fi.1) (l2.map fun p=>p.1.m) k l2[k].1.m))∧Below w'.heap.size w' w2:=by
   intro k w' hk hb;have:=Vp (RFl.mk a1 c1 a2 c2 (w.alloc (O11 none 0 0 none 0 0)).heap.size l1 l2) k w' (hfok.below hb) hk (fun p hp=>(hmb p hp).ps);rw[hft]at this;exact this
  have hBd:∀ (k:Nat) (w':World) (hk:k<l2.length),Below w1.heap.size w1 w'→∃ (m:RMV) (g:Nat),a2=some ⟨g,0,none⟩∧g<w'.heap.size∧(∀ j v,m.list[j]?=some v→w'.cell? ⟨g,k*12+j,none⟩=some v) ∧
    ∀ w2,Below w'.heap.size w' w2 →
     (Calls Tryz.prog 31 #[.agg #[.slice a1 l1.length c1,.slice a2 l2.length c2],m.val] w2 fun e w3=>e=.returned (.int .i64 (Cd.badCode (Tr.tree Fi.1) ((Rf.fieldsTo (Tr.tree Fi.1) (Rf.given++Fi.1) Fi.1.length).length:Int) ((l2.map fun p=>p.1.m).map Rd.Mth.cl) l2[k].1.m.locals l2[k].1.m.code))∧Below w2.heap.size w2 w3) ∧
     (Calls Tryz.prog 32 #[.agg #[.slice a1 l1.length c1,.slice a2 l2.length c2],m.val] w2 fun e w3=>e=.returned (.int .i64 (Cd.firstIx (Cd.hndBad (Tr.tree Fi.1) l2[k].1.m.code) 0 l2[k].1.m.handlers))∧Below w2.heap.size w2 w3) ∧
     (Calls Tryz.prog 33 #[.agg #[.slice a1 l1.length c1,.slice a2 l2.length c2],m.val] w2 fun e w3=>e=.returned (.int .i64 (Cd.mapsBad (Tr.tree Fi.1) l2[k].1.m.code 0 (-1) l2[k].1.m.maps))∧Below w2.heap.size w2 w3):=by
   intro k w' hk hb;obtain⟨m,g,hg,hglt,hrow,his⟩:=RFl.mth (hfok.below hb) (k:=k) hk;refine⟨m,g,hg,hglt,hrow,fun w2 hb2=>?_⟩;have hbd:=hmb _ (List.getElem_mem hk);have his2:=his.below hb2;have hf2:=hfok.below (QB hb hb2);have hcs:m.code.size≤100000:=by
    rw[← Cq,his.code];exact hbd.code
   have hlo:=his.lo;have hco:=his.code;simp only at hlo hco;refine⟨?_,?_,?_⟩
   ·have:=Nh (RFl.mk a1 c1 a2 c2 (w.alloc (O11 none 0 0 none 0 0)).heap.size l1 l2) m w2 hf2 hcs;rw[hft,hfl,hfo,hlo,hco,hml]at this;exact this
   ·have:=Kz (RFl.mk a1 c1 a2 c2 (w.alloc (O11 none 0 0 none 0 0)).heap.size l1 l2) m l2[k].1.m.handlers w2 hf2 hcs his2.hl hbd.hs his2.hs;rw[hft,hco]at this;exact this
   ·obtain⟨lm,hlm,hmp⟩:=his2.mp;have hlm':m.ml=lm.length:=by rw[his2.ml,← hlm];simp
    have:=P9 (RFl.mk a1 c1 a2 c2 (w.alloc (O11 none 0 0 none 0 0)).heap.size l1 l2) m lm w2 hcs hlm' (by rw[← hlm',his2.ml];exact hbd.mp) (fun p hp=>hbd.fr _ (by rw[← hlm];exact List.mem_map_of_mem hp)) hmp;rw[hft,hco,hlm]at this;exact this
  have hF:=Aa HF;rw[hml]at hF;clear hfok hmb hfl hft hfo hml hg1 hg3 HGS HB1 HB2 hb1' hb2' hok HCD HF;generalize ((Rf.fieldsTo (Tr.tree Fi.1) (Rf.given++Fi.1) Fi.1.length).length:Int)=nf at *;generalize Tr.tree Fi.1=T at *;unfold Aeb at hF;generalize how:(l2.map fun p=>p.1.m).map Rd.Mth.cl=ow at *;clear how;have hB1:=hBw.trans (hb1.mono (by simp));have RR1:=Aj (stay hb1 R0') (O11 a1 l1.length c1 a2 l2.length c2);have CF1:=Ad w1 (O11 a1 l1.length c1 a2 l2.length c2);have hBo1:Below w1.heap.size w1 (w1.alloc (O11 a1 l1.length c1 a2 l2.length c2)):=QN _;have hs1:=hB1.size;generalize hhr:Abz T (l2.map fun p=>p.1.m) 0 (l2.map fun p=>p.1.m)=hr at hF;have HHR:Hid (Abz T (l2.map fun p=>p.1.m) 0 ((l2.map fun p=>p.1.m).drop 0)=hr):=hhr;have HFF:=Ac hF;have HHd:=Ac hHd;have HBd:=Ac hBd;have HC1:=Ac hc1;have HC2:=Ac hc2;have HL1:=Ac hl1;have HL2:=Ac hl2;clear hhr hF hHd hBd hc1 hc2 hl1 hl2 hb1 hBw R0';go_wp2
  go_loopw [9] (fun v wr=>∃ k:Nat,k≤l2.length∧v=.int .i64 (k:Int)∧Hid (Abz T (l2.map fun p=>p.1.m) k ((l2.map fun p=>p.1.m).drop k)=hr)∧Below w1.heap.size w1 wr∧wr.heap[w.heap.size]?=some (O11 none 0 0 none 0 0)∧wr.heap[w1.heap.size]?=some (O11 a1 l1.length c1 a2 l2.length c2))
   (fun v _=>l2.length-(intOf v).toNat)
  case atStart=>exact⟨0,by omega,rfl,HHR,hBo1,RR1,CF1⟩
  case round =>
   clear HHR hBo1 RR1 CF1;obtain⟨k,hk,rfl,HHR,hBo,RR,CF⟩:=hrel;obtain⟨f0,f1⟩:=cl2 CF;simp at f0 f1;by_cases hkn:k<l2.length
   ·have hd:(l2.map fun p=>p.1.m).drop k=l2[k].1.m::(l2.map fun p=>p.1.m).drop (k+1):=by
     rw[List.drop_eq_getElem_cons (by simpa using hkn)]
     simp
    have hq:=Aa HHR;rw[hd,Abz]at hq;have hh:=Aa HHd k wr hkn hBo;generalize Acp T (l2.map fun p=>p.1.m) k l2[k].1.m=A at *;have HH:=Ac hh;have HQ:=Ac hq;have kb:(k:Int)<(l2.length:Int):=by omega
    clear hd hq hh HHR;go_wp2_with fail
    refine(Aa HH).mono ?_;rintro e w2 ⟨rfl,hb2⟩;have hBo2:=QB hBo hb2;have CF2:=stay hb2 CF;have RR2:=stay hb2 RR;clear hb2 hBo CF RR f0 f1;cases A with
    | true =>
     have HG:Hid (Abz T (l2.map fun p=>p.1.m) (k+1) ((l2.map fun p=>p.1.m).drop (k+1))=hr):=by unfold Hid;rw[← Aa HQ];simp
     clear HQ;go_wp2
     go_roundw
     case rel=>exact⟨k+1,by omega,by go_num,HG,hBo2,RR2,CF2⟩
     case measure=>simp[intOf];omega
    | false =>
     have hrk:hr=(k:Int):=by rw[← Aa HQ];simp
     have HE:Hid (F=(4,(k:Int),0)):=by unfold Hid;rw[← Aa HFF,hrk,if_pos (by omega)]
     have RR:=RR2;have hBf:=hB1.trans (hBo2.mono hs1);clear HQ hrk RR2 CF2;obtain⟨r0,r1⟩:=cl2 RR;obtain⟨q0,q1⟩:=fr2 RR;have lr:=lt_of_block RR;simp at r0 r1;go_wp2_with fail
     refine bodyPost_ret (v:=.tuple #[.agg #[.slice none 0 0,.slice none 0 0],.int .i64 4,.int .i64 (k:Int),.int .i64 0]) (by simp[results,Tryz.results16,go_sem,r0,r1]) rfl ?_;rw[Aa HE];exact⟨none,0,0,none,0,0,rfl,fun h=>absurd h (by simp),(hBf.setCell (by simp) _).setCell (by simp) _⟩
   ·have hr1:hr = -1:=by rw[← Aa HHR,List.drop_eq_nil_of_le (by simp;omega)];rfl
    have HBB:Hid (Ab2 T nf ow 0 ((l2.map fun p=>p.1.m).drop 0)=F):=by unfold Hid;rw[← Aa HFF,hr1];simp
    have kb:¬ (k:Int)<(l2.length:Int):=by omega
    have RR2:=RR;have CF2:=CF;have hBo2:=hBo;clear hr1 HHR HFF HHd RR CF hBo hk;go_wp2
    go_loopw [11] (fun v wr=>∃ k:Nat,k≤l2.length∧v=.int .i64 (k:Int)∧Hid (Ab2 T nf ow k ((l2.map fun p=>p.1.m).drop k)=F)∧Below w1.heap.size w1 wr∧wr.heap[w.heap.size]?=some (O11 none 0 0 none 0 0)∧wr.heap[w1.heap.size]?=some (O11 a1 l1.length c1 a2 l2.length c2))
     (fun v _=>l2.length-(intOf v).toNat)
    case atStart=>exact⟨0,by omega,rfl,HBB,hBo2,RR2,CF2⟩
    case round =>
     clear HBB hBo2 RR2 CF2 f0 f1 kb;obtain⟨k,hk,rfl,HBB,hBo,RR,CF⟩:=hrel;obtain⟨f0,f1⟩:=cl2 CF;simp at f0 f1;have lF:=lt_of_block CF;have lR:=lt_of_block RR;have hBos:=hBo.size;by_cases hkn:k<l2.length
     ·obtain⟨m,g,hg,hglt,hrow,hcalls⟩:=Aa HBd k wr hkn hBo;replace hrow:=Ft hrow;have hd:(l2.map fun p=>p.1.m).drop k=l2[k].1.m::(l2.map fun p=>p.1.m).drop (k+1):=by
       rw[List.drop_eq_getElem_cons (by simpa using hkn)]
       simp
      have hq:=Aa HBB;rw[hd,Ab2,Adg]at hq;generalize Cd.badCode T nf ow l2[k].1.m.locals l2[k].1.m.code=bc at *;generalize Cd.firstIx (Cd.hndBad T l2[k].1.m.code) 0 l2[k].1.m.handlers=bh at *;generalize Cd.mapsBad T l2[k].1.m.code 0 (-1) l2[k].1.m.maps=bm at *;obtain⟨cl,nm,pa,pl,pc,r1,r2,lo,st,code,ha,hl,hc,ma,ml,mc,mAt,fin⟩:=m;simp only[RMV.val]at hrow hcalls;obtain⟨y0,y1,y2,y3,y4,y5,y6,y7,y8,y9,y10,y11⟩:=hrow;have kb:(k:Int)<(l2.length:Int):=by omega
      have HCL:=Ac hcalls;have HQ:=Ac hq;have hBr0:Below wr.heap.size wr (wr.alloc (O14 cl nm pa pl pc r1 r2 lo st code ha hl hc ma ml mc mAt fin)):=QN _;have CX0:=Ad wr (O14 cl nm pa pl pc r1 r2 lo st code ha hl hc ma ml mc mAt fin);have CF0:=Aj CF (O14 cl nm pa pl pc r1 r2 lo st code ha hl hc ma ml mc mAt fin);have RR0:=Aj RR (O14 cl nm pa pl pc r1 r2 lo st code ha hl hc ma ml mc mAt fin);clear hd hq hcalls HBB;subst hg;go_wp2_with fail
      refine(Aa HCL _ hBr0).1.mono ?_;rintro e w3 ⟨rfl,hb3⟩;have hBr3:=hBr0.trans (hb3.mono (by simp));have CX3:=stay hb3 CX0;have CF3:=stay hb3 CF0;have RR3:=stay hb3 RR0;clear hb3 hBr0 CX0 CF0 RR0 CF RR f0 f1 y0 y1 y2 y3 y4 y5 y6 y7 y8 y9 y10 y11;have hBf3:=hB1.trans ((hBo.trans (hBr3.mono hBos)).mono hs1);by_cases h5:0≤bc
      ·have HE:Hid (F=(5,(k:Int),bc)):=by unfold Hid;rw[← Aa HQ];simp[h5]
       have RR:=RR3;have hBf:=hBf3;clear HQ RR3 CF3 CX3;obtain⟨r0,r1⟩:=cl2 RR;obtain⟨q0,q1⟩:=fr2 RR;have lr:=lt_of_block RR;simp at r0 r1;go_wp2_with fail
       refine bodyPost_ret (v:=.tuple #[.agg #[.slice none 0 0,.slice none 0 0],.int .i64 5,.int .i64 (k:Int),.int .i64 bc]) (by simp[results,Tryz.results16,go_sem,r0,r1]) rfl ?_;rw[Aa HE];exact⟨none,0,0,none,0,0,rfl,fun h=>absurd h (by simp),(hBf.setCell (by simp) _).setCell (by simp) _⟩
      ·have HQ6:Hid ((if (if 0≤bh then ((6:Int),bh) else if 0≤bm then (7,bm) else (0,0)).1≠0 then ((if 0≤bh then ((6:Int),bh) else if 0≤bm then (7,bm) else (0,0)).1,(k:Int),(if 0≤bh then ((6:Int),bh) else if 0≤bm then (7,bm) else (0,0)).2) else Ab2 T nf ow (k+1) ((l2.map fun p=>p.1.m).drop (k+1)))=F):=by
        unfold Hid;have:=Aa HQ;rw[if_neg h5]at this;exact this
       obtain⟨m0,m1,m2,m3,m4,m5,m6,m7,m8,m9,m10,m11⟩:=Ap CX3;simp at m0 m1 m2 m3 m4 m5 m6 m7 m8 m9 m10 m11;obtain⟨f0,f1⟩:=cl2 CF3;simp at f0 f1;clear HQ;go_wp2_with fail
       refine(Aa HCL _ hBr3).2.1.mono ?_;rintro e w4 ⟨rfl,hb4⟩;have hBr4:=QB hBr3 hb4;have CX4:=stay hb4 CX3;have CF4:=stay hb4 CF3;have RR4:=stay hb4 RR3;clear hb4 hBr3 CX3 CF3 RR3 f0 f1 m0 m1 m2 m3 m4 m5 m6 m7 m8 m9 m10 m11 hBf3;have hBf4:=hB1.trans ((hBo.trans (hBr4.mono hBos)).mono hs1);by_cases h6:0≤bh
       ·have HE:Hid (F=(6,(k:Int),bh)):=by unfold Hid;rw[← Aa HQ6];simp[h6]
        have RR:=RR4;have hBf:=hBf4;clear HQ6 RR4 CF4 CX4;obtain⟨r0,r1⟩:=cl2 RR;obtain⟨q0,q1⟩:=fr2 RR;have lr:=lt_of_block RR;simp at r0 r1;go_wp2_with fail
        refine bodyPost_ret (v:=.tuple #[.agg #[.slice none 0 0,.slice none 0 0],.int .i64 6,.int .i64 (k:Int),.int .i64 bh]) (by simp[results,Tryz.results16,go_sem,r0,r1]) rfl ?_;rw[Aa HE];exact⟨none,0,0,none,0,0,rfl,fun h=>absurd h (by simp),(hBf.setCell (by simp) _).setCell (by simp) _⟩
       ·have HQ7:Hid ((if (if 0≤bm then ((7:Int),bm) else (0,0)).1≠0 then ((if 0≤bm then ((7:Int),bm) else (0,0)).1,(k:Int),(if 0≤bm then ((7:Int),bm) else (0,0)).2) else Ab2 T nf ow (k+1) ((l2.map fun p=>p.1.m).drop (k+1)))=F):=by
         unfold Hid;have:=Aa HQ6;rw[if_neg h6]at this;exact this
        obtain⟨m0,m1,m2,m3,m4,m5,m6,m7,m8,m9,m10,m11⟩:=Ap CX4;simp at m0 m1 m2 m3 m4 m5 m6 m7 m8 m9 m10 m11;obtain⟨f0,f1⟩:=cl2 CF4;simp at f0 f1;clear HQ6;go_wp2_with fail
        refine(Aa HCL _ hBr4).2.2.mono ?_;rintro e w5 ⟨rfl,hb5⟩;have hBr5:=QB hBr4 hb5;have CF5:=stay hb5 CF4;have RR5:=stay hb5 RR4;clear hb5 hBr4 CX4 CF4 RR4 f0 f1 m0 m1 m2 m3 m4 m5 m6 m7 m8 m9 m10 m11 hBf4;by_cases h7:0≤bm
        ·have HE:Hid (F=(7,(k:Int),bm)):=by unfold Hid;rw[← Aa HQ7];simp[h7]
         have RR:=RR5;have hBf:=hB1.trans ((hBo.trans (hBr5.mono hBos)).mono hs1);clear HQ7 RR5 CF5;obtain⟨r0,r1⟩:=cl2 RR;obtain⟨q0,q1⟩:=fr2 RR;have lr:=lt_of_block RR;simp at r0 r1;go_wp2_with fail
         refine bodyPost_ret (v:=.tuple #[.agg #[.slice none 0 0,.slice none 0 0],.int .i64 7,.int .i64 (k:Int),.int .i64 bm]) (by simp[results,Tryz.results16,go_sem,r0,r1]) rfl ?_;rw[Aa HE];exact⟨none,0,0,none,0,0,rfl,fun h=>absurd h (by simp),(hBf.setCell (by simp) _).setCell (by simp) _⟩
        ·have HG:Hid (Ab2 T nf ow (k+1) ((l2.map fun p=>p.1.m).drop (k+1))=F):=by unfold Hid;rw[← Aa HQ7];simp[h7]
         have hBo5:=hBo.trans (hBr5.mono hBos);clear HQ7;go_wp2
         go_roundw
         case rel=>exact⟨k+1,by omega,by go_num,HG,hBo5,RR5,CF5⟩
         case measure=>simp[intOf];omega
     ·have HE:Hid (F=(0,0,0)):=by unfold Hid;rw[← Aa HBB,List.drop_eq_nil_of_le (by simp;omega)];rfl
      have kb:¬ (k:Int)<(l2.length:Int):=by omega
      have hBf:=hB1.trans (hBo.mono hs1);obtain⟨r0,r1⟩:=cl2 RR;obtain⟨q0,q1⟩:=fr2 RR;simp at r0 r1;clear HBB;go_wp2_with fail
      refine bodyPost_ret (v:=.tuple #[.agg #[.slice a1 l1.length c1,.slice a2 l2.length c2],.int .i64 0,.int .i64 0,.int .i64 0]) (by simp[results,Tryz.results16,go_sem,r0,r1]) rfl ?_;rw[Aa HE];refine⟨a1,l1.length,c1,a2,l2.length,c2,rfl,fun _=>⟨l1,Aa HL1,?_,l2,Aa HL2,?_⟩,(hBf.setCell (by simp) _).setCell (by simp) _⟩
      ·exact(((Aa HC1).kp (Kp.of_below (e:=none) hBo) (by decide) (by decide)).kp (Kp.set2 RR _ _) (by decide) (by decide)).mono (by simp)
      ·exact(((Aa HC2).kp (Kp.of_below (e:=none) hBo) (by decide) (by decide) (by decide) (by decide)).kp (Kp.set2 RR _ _) (by decide) (by decide) (by decide) (by decide)).mono (by simp)
 ·rw[if_pos h0];have h0':(C.1 != 0)=true:=by simp[h0]
  have H0:=Ac h0;clear h0;go_enter Tryz.func16,Tryz.ntmps16;go_wp2_with fail
  refine(Aa HCD _).mono ?_;rintro e w1 ⟨a1,n1,c1,a2,n2,c2,rfl,_,hb1⟩;have hB1:=hBw.trans (hb1.mono (by simp));have R1:=Aj (stay hb1 R0') (O11 a1 n1 c1 a2 n2 c2);obtain⟨r0,r1⟩:=cl2 R1;obtain⟨f0,f1⟩:=fr2 R1;have lr:=lt_of_block R1;have hs1:=hB1.size;simp at r0 r1 lr;go_wp2_with fail
  refine bodyPost_ret (v:=.tuple #[.agg #[.slice none 0 0,.slice none 0 0],.int .i64 C.1,.int .i64 C.2,.int .i64 0]) (by simp[results,Tryz.results16,go_sem,r0,r1]) rfl ?_;exact⟨none,0,0,none,0,0,rfl,fun h=>absurd h (Aa H0),((hB1.alloc hs1 _).setCell (by simp) _).setCell (by simp) _⟩
def Rf.chain (e:Int):Int→List Rf.Mth→Prop
 | i,[]=>i=e
 | i,x::r=>i≤x.mapsAt∧x.mapsAt≤x.fin∧Rf.chain e x.fin r
theorem Sr {i e:Int}{l:List Rf.Mth}{x:Rf.Mth} (h:Rf.chain e i l) (h1:e≤x.mapsAt) (h2:x.mapsAt≤x.fin):Rf.chain x.fin i (l++[x]):=by
 induction l generalizing i with
 | nil=>rw[Rf.chain]at h;subst h;exact⟨h1,h2,rfl⟩
 | cons y r ih=>exact⟨h.1,h.2.1,ih h.2.2⟩
theorem Oc {i e:Int}{l:List Rf.Mth} (h:Rf.chain e i l):i≤e:=by
 induction l generalizing i with
 | nil=>rw[Rf.chain]at h;omega
 | cons y r ih=>have:=ih h.2.2;have h1:=h.1;have h2:=h.2.1;omega
theorem Xz {α:Type} (f:Int→α × Int) (hf:∀ i,0≤i→0≤(f i).2→i≤(f i).2) (n:Nat) (i:Int) (_hi:0≤i) (h:0≤(Rf.rep f n i).2):i≤(Rf.rep f n i).2:=by
 induction n with
 | zero=>simp[Rf.rep]
 | succ k ih =>
  unfold Rf.rep at h ⊢;by_cases h1:(Rf.rep f k i).2<0
  ·rw[if_pos h1]at h;simp at h
  ·rw[if_neg h1]at h ⊢;by_cases h2:(f (Rf.rep f k i).2).2<0
   ·rw[if_pos h2]at h;simp at h
   ·rw[if_neg h2]at h ⊢;simp only at h ⊢;have a:=ih (by omega);have b:=hf (Rf.rep f k i).2 (by omega) h;omega
theorem Y8 (s:List UInt8) (i L H:Int) (hi:0≤i) (hL:0≤L) (h:0≤(Rf.mps s i L H).2):i≤(Rf.mps s i L H).2:=by
 unfold Rf.mps at h ⊢;by_cases h1:Rf.cnt s i 0 64<0
 ·rw[if_pos h1]at h;simp at h
 ·rw[if_neg h1]at h ⊢;have:=Xz (Rf.mp s L H) (fun j hj hjj=>by
   unfold Rf.mp at hjj ⊢;by_cases h2:Rf.cnt s (j+1+2*L) 0 H<0
   ·rw[if_pos h2]at hjj;simp at hjj
   ·rw[if_neg h2];simp only;omega) _ (i+1) (by omega) h
  omega
theorem Tj (s:List UInt8) (i:Int) (_hi:0≤i) (h:0≤(Rf.mth s i).2):i≤(Rf.mth s i).1.mapsAt∧(Rf.mth s i).1.mapsAt≤(Rf.mth s i).1.fin∧(Rf.mth s i).1.fin=(Rf.mth s i).2:=by
 unfold Rf.mth at h ⊢;dsimp only at h ⊢;have n1:¬ (0:Int)≤-1:=by omega
 by_cases h1:Rf.cnt s (i+2) 0 4<0
 ·rw[if_pos h1]at h;exact absurd h n1
 ·rw[if_neg h1]at h ⊢;by_cases h2:Rf.cnt s (i+3+2*Rf.cnt s (i+2) 0 4+2) 0 8<0
  ·rw[if_pos h2]at h;exact absurd h n1
  ·rw[if_neg h2]at h ⊢;by_cases h3:Rf.cnt s (i+3+2*Rf.cnt s (i+2) 0 4+3) 0 8<0
   ·rw[if_pos h3]at h;exact absurd h n1
   ·rw[if_neg h3]at h ⊢;by_cases h4:Rf.cnt s (i+3+2*Rf.cnt s (i+2) 0 4+4) 1 120<0
    ·rw[if_pos h4]at h;exact absurd h n1
    ·rw[if_neg h4]at h ⊢;by_cases h5:(s.length:Int)<i+3+2*Rf.cnt s (i+2) 0 4+5+Rf.cnt s (i+3+2*Rf.cnt s (i+2) 0 4+4) 1 120
     ·rw[if_pos h5]at h;exact absurd h n1
     ·rw[if_neg h5]at h ⊢;by_cases h6:(Rf.hnds s (i+3+2*Rf.cnt s (i+2) 0 4+5+Rf.cnt s (i+3+2*Rf.cnt s (i+2) 0 4+4) 1 120)).2<0
      ·rw[if_pos h6]at h;exact absurd h n1
      ·rw[if_neg h6]at h ⊢;simp only at h ⊢;have hm:=Y8 s _ _ _ (by omega) (by omega) h;refine⟨?_,hm,trivial⟩;unfold Rf.hnds at h6 ⊢
       split
       ·rename_i g;rw[if_pos g]at h6;simp at h6
       ·split
        ·rename_i g1 g2;rw[if_neg g1,if_pos g2]at h6;simp at h6
        ·simp only;omega
theorem Ub (s:List UInt8) (n:Nat) (i:Int) (_hi:0≤i) (h:0≤(Rf.rep (Rf.mth s) n i).2):Rf.chain (Rf.rep (Rf.mth s) n i).2 i (Rf.rep (Rf.mth s) n i).1:=by
 induction n with
 | zero=>simp[Rf.rep,Rf.chain]
 | succ k ih =>
  unfold Rf.rep at h ⊢;by_cases h1:(Rf.rep (Rf.mth s) k i).2<0
  ·rw[if_pos h1]at h;simp at h
  ·rw[if_neg h1]at h ⊢;by_cases h2:(Rf.mth s (Rf.rep (Rf.mth s) k i).2).2<0
   ·rw[if_pos h2]at h;simp at h
   ·rw[if_neg h2]at h ⊢;simp only at h ⊢;obtain⟨g1,g2,g3⟩:=Tj s (Rf.rep (Rf.mth s) k i).2 (by omega) h;rw[← g3];exact Sr (ih (by omega)) g1 g2
theorem Zk (s:List UInt8) (i:Int) (_hi:0≤i) (h:0≤(Rf.cls s i).2):i≤(Rf.cls s i).2:=by
 unfold Rf.cls at h ⊢;by_cases h1:Rf.cnt s (i+1) 0 4<0
 ·rw[if_pos h1]at h;simp at h
 ·rw[if_neg h1];simp only;omega
theorem Mk (s:List UInt8) (h:(Rf.fil s).2.2=(s.length:Int)):∃ i,0≤i∧Rf.chain (s.length:Int) i (Rf.fil s).2.1:=by
 unfold Rf.fil at h ⊢;have n1:¬ (-1:Int)=(s.length:Int):=by omega
 by_cases h1:Rf.at' s 0≠83
 ·rw[if_pos h1]at h;exact absurd h n1
 ·rw[if_neg h1]at h ⊢;by_cases h2:Rf.at' s 1≠77
  ·rw[if_pos h2]at h;exact absurd h n1
  ·rw[if_neg h2]at h ⊢;by_cases h3:Rf.cnt s 2 0 6<0
   ·rw[if_pos h3]at h;exact absurd h n1
   ·rw[if_neg h3]at h ⊢;dsimp only at h ⊢;by_cases h4:(Rf.rep (Rf.cls s) (Rf.cnt s 2 0 6).toNat 3).2<0
    ·rw[if_pos h4]at h;exact absurd h n1
    ·rw[if_neg h4]at h ⊢;by_cases h5:Rf.cnt s (Rf.rep (Rf.cls s) (Rf.cnt s 2 0 6).toNat 3).2 1 6<0
     ·rw[if_pos h5]at h;exact absurd h n1
     ·rw[if_neg h5]at h ⊢;by_cases h6:(Rf.rep (Rf.mth s) (Rf.cnt s (Rf.rep (Rf.cls s) (Rf.cnt s 2 0 6).toNat 3).2 1 6).toNat ((Rf.rep (Rf.cls s) (Rf.cnt s 2 0 6).toNat 3).2+1)).2<0
      ·rw[if_pos h6]at h;exact absurd h n1
      ·rw[if_neg h6]at h ⊢;simp only at h ⊢;refine⟨(Rf.rep (Rf.cls s) (Rf.cnt s 2 0 6).toNat 3).2+1,by omega,?_⟩;rw[← h];exact Ub s _ _ (by omega) (by omega)
theorem Kq (s:List UInt8) (h:(Rf.formed s).1=0):(Rf.fil s).2.2=(s.length:Int)∧s.length≤15000:=by
 unfold Rf.formed at h;by_cases h0:(Rf.classed s).1≠0
 ·rw[if_pos h0]at h;exact absurd h h0
 ·have h0':(Rf.classed s).1=0:=by simpa using h0
  unfold Rf.classed at h0';by_cases h1:15000<s.length
  ·rw[if_pos h1]at h0';simp at h0'
  ·rw[if_neg h1]at h0';by_cases h2:(Rf.fil s).2.2≠(s.length:Int)
   ·rw[if_pos h2]at h0';simp at h0'
   ·exact⟨by simpa using h2,by omega⟩
structure Cd.Ins where
 place:Int
 op:Int
 n:Int
def Cd.insAt (c:List Int) (p:Nat):Cd.Ins:=⟨(p:Int),c.getD p 0,if Cd.wd (c.getD p 0)=2 then c.getD (p+1) 0 else 0⟩
def Cg (l:List Cd.Ins):List Value:=l.flatMap fun x=>[.int .i64 x.place,.int .i64 x.op,.int .i64 x.n]
theorem Ph (l:List Cd.Ins) (x:Cd.Ins):Cg (l++[x])=Cg l++[.int .i64 x.place,.int .i64 x.op,.int .i64 x.n]:=by simp[Cg]
def InsAt (w:World) (b:Nat) (v:Value) (l:List Cd.Ins):Prop:=w.ownsRow b 204 3 v l.length (Cg l)
theorem InsAt.kp {e:Option TypeId}{b:Nat}{v:Value}{l:List Cd.Ins}{w w':World} (h:InsAt w b v l) (hk:Kp e b w w') (hne:some 204≠e):InsAt w' b v l:=Av h hk hne
theorem Tryz.infoIns:(Tryz.prog.info? 204).map (fun i=>(i.zero,i.size,i.bytes))=some (some (.agg #[.int .i64 0,.int .i64 0,.int .i64 0]),3,24):=by kernel_rfl
theorem Ie (l:List Cd.Ins) (k:Nat) (h:k<l.length):(Cg l)[k*3]?=some (.int .i64 l[k].place)∧(Cg l)[k*3+1]?=some (.int .i64 l[k].op)∧(Cg l)[k*3+2]?=some (.int .i64 l[k].n)∧k*3+2<(Cg l).length:=by
 induction l generalizing k with
 | nil=>simp at h
 | cons x r ih =>
  have e:Cg (x::r)=.int .i64 x.place :: .int .i64 x.op :: .int .i64 x.n::Cg r:=by simp[Cg]
  cases k with
  | zero=>rw[e];simp
  | succ j =>
   obtain⟨p,q,z,y⟩:=ih j (by simpa using h);rw[e,show (j+1)*3=j*3+1+1+1 by omega];refine⟨by simpa using p,by simpa using q,by simpa using z,by simp;omega⟩
theorem Nt (op:Int) (w:World):Calls Tryz.prog 166 #[.int .i64 op] w fun e w'=>e=.returned (.bool (Cd.wd op==2))∧w'=w:=by
 unfold Cd.wd;by_cases h:op=0∨op=2∨op=3∨(11≤op∧op≤21)
 ·rw[if_pos h];have h':op=0∨op=2∨op=3∨op=11∨op=12∨op=13∨op=14∨op=15∨op=16∨op=17∨op=18∨op=19∨op=20∨op=21:=by omega
  clear h;rcases h' with rfl | rfl | rfl | rfl | rfl | rfl | rfl | rfl | rfl | rfl | rfl | rfl | rfl | rfl
  all_goals
   go_enter Tryz.func166,Tryz.ntmps166;go_wp2;go_ret;exact⟨rfl,rfl⟩
 ·rw[if_neg h];have n0:(op==0)=false:=by simp;omega
  have n2:(op==2)=false:=by simp;omega
  have n3:(op==3)=false:=by simp;omega
  have n11:(op==11)=false:=by simp;omega
  have n12:(op==12)=false:=by simp;omega
  have n13:(op==13)=false:=by simp;omega
  have n14:(op==14)=false:=by simp;omega
  have n15:(op==15)=false:=by simp;omega
  have n16:(op==16)=false:=by simp;omega
  have n17:(op==17)=false:=by simp;omega
  have n18:(op==18)=false:=by simp;omega
  have n19:(op==19)=false:=by simp;omega
  have n20:(op==20)=false:=by simp;omega
  have n21:(op==21)=false:=by simp;omega
  clear h;go_enter Tryz.func166,Tryz.ntmps166;go_wp2;go_ret;exact⟨rfl,rfl⟩
theorem Mv (p:Nat) (op n:Int) (w:World) (hp:p≤100000):Calls Tryz.prog 122 #[.agg #[.int .i64 (p:Int),.int .i64 op,.int .i64 n]] w fun e w'=>e=.returned (.int .i64 ((p+Cd.wd op:Nat):Int))∧Below w.heap.size w w':=by
 have hh:=fun w=>Nt op w;rcases(show Cd.wd op=1∨Cd.wd op=2 by have:=Cd.wd_bd op;omega) with h | h
 all_goals
  rw[h]at hh ⊢;have HH:=Ac hh;clear hh h;go_enter Tryz.func122,Tryz.ntmps122;go_wp2_with fail
  refine(Aa HH _).mono ?_;rintro e w1 ⟨rfl,rfl⟩;go_wp2;go_ret;exact⟨by simp,QN _⟩
def Cd.findAt (place:Int):List Cd.Ins→Option Cd.Ins
 | []=>none
 | x::r=>if x.place=place then some x else Cd.findAt place r
def Cd.orZero:Option Cd.Ins→Cd.Ins
 | some x=>x
 | none=>⟨0,0,0⟩
theorem Lf (l:List Cd.Ins) (a:Option Addr) (cap bb:Nat) (place:Int) (w:World) (hl:l.length≤100000) (hi:InsAt w bb (.slice a l.length cap) l) :
  Calls Tryz.prog 236 #[.slice a l.length cap,.int .i64 place] w fun e w' =>
   e=.returned (.tuple #[.agg #[.int .i64 (Cd.orZero (Cd.findAt place l)).place,.int .i64 (Cd.orZero (Cd.findAt place l)).op,.int .i64 (Cd.orZero (Cd.findAt place l)).n],.bool (Cd.findAt place l).isSome])∧Below w.heap.size w w':=by
 generalize hr:Cd.findAt place l=r;have HR:Hid (Cd.findAt place (l.drop 0)=r):=hr;clear hr;have hB0:Below w.heap.size w (w.alloc (O17 0 0 0)):=QN _;have CR0:=Ad w (O17 0 0 0);go_enter Tryz.func236,Tryz.ntmps236;go_wp2
 go_loopw [10] (fun v wr=>∃ k:Nat,k≤l.length∧v=.int .i64 (k:Int)∧Hid (Cd.findAt place (l.drop k)=r)∧Below w.heap.size w wr∧wr.heap[w.heap.size]?=some (O17 0 0 0))
  (fun v _=>l.length-(intOf v).toNat)
 case atStart=>exact⟨0,by omega,rfl,HR,hB0,CR0⟩
 case round =>
  clear hB0 CR0 HR;obtain⟨k,hk,rfl,HR,hB,CR⟩:=hrel;have hBs:=hB.size;by_cases hkn:k<l.length
  ·obtain⟨g,hg,hglt,_,hcell⟩:=Ao (hi.kp (Kp.of_below (e:=none) hB) (by decide)) (by omega);obtain⟨t1,t2,t3,t4⟩:=Ie l k hkn;have u0:=(hcell (k*3) (by omega)).trans t1;have u1:=(hcell (k*3+1) (by omega)).trans t2;have u2:=(hcell (k*3+2) (by omega)).trans t3;have hd:l.drop k=l[k]::l.drop (k+1):=List.drop_eq_getElem_cons hkn;have hr:=Aa HR;rw[hd,Cd.findAt]at hr;generalize l[k]=x at *;obtain⟨xp,xo,xn⟩:=x;simp only at u0 u1 u2 hr;have kb:(k:Int)<(l.length:Int):=by omega
   have CX:=Ad wr (O17 xp xo xn);have CR1:=Aj CR (O17 xp xo xn);have hB1:=hB.alloc hBs (O17 xp xo xn);have HRR:=Ac hr;clear hd hr HR hcell t1 t2 t3 t4;subst hg;by_cases hx:xp=place
   ·have hx':(xp==place)=true:=by simp[hx]
    have HF:Hid (r=some ⟨xp,xo,xn⟩):=by unfold Hid;rw[← Aa HRR,if_pos hx]
    obtain⟨r0,r1,r2⟩:=cl3 CR;obtain⟨q0,q1,q2⟩:=fr3 CR;have lr:=lt_of_block CR;simp at r0 r1 r2;clear hx HRR;go_wp2_with fail
    refine bodyPost_ret (v:=.tuple #[.agg #[.int .i64 xp,.int .i64 xo,.int .i64 xn],.bool true]) (by simp[results,Tryz.results236,go_sem,r0,r1,r2,lr]) rfl ?_;rw[Aa HF];exact⟨rfl,by repeat (first | refine Below.setCell ?_ (by simp) _ | refine Below.alloc ?_ (by first | omega | (simp;omega)) _ | exact hB)⟩
   ·have hx':(xp==place)=false:=by simp[hx]
    have HF:Hid (Cd.findAt place (l.drop (k+1))=r):=by unfold Hid;rw[← Aa HRR,if_neg hx]
    clear hx HRR;go_wp2
    go_roundw
    case rel=>exact⟨k+1,by omega,by go_num,HF,hB1,CR1⟩
    case measure=>simp[intOf];omega
  ·have hrn:r=none:=by rw[← Aa HR,List.drop_eq_nil_of_le (by omega)];rfl
   have HF:=Ac hrn;obtain⟨r0,r1,r2⟩:=cl3 CR;obtain⟨q0,q1,q2⟩:=fr3 CR;have kb:¬ (k:Int)<(l.length:Int):=by omega
   simp at r0 r1 r2;clear hrn HR;go_wp2_with fail
   refine bodyPost_ret (v:=.tuple #[.agg #[.int .i64 0,.int .i64 0,.int .i64 0],.bool false]) (by simp[results,Tryz.results236,go_sem,r0,r1,r2]) rfl ?_;rw[Aa HF];exact⟨rfl,((hB.setCell (by simp) _).setCell (by simp) _).setCell (by simp) _⟩
theorem Gv (l:List Cd.Ins) (a:Option Addr) (cap bb:Nat) (place:Int) (w:World) (hl:l.length≤100000) (hi:InsAt w bb (.slice a l.length cap) l) :
  Calls Tryz.prog 191 #[.slice a l.length cap,.int .i64 place] w fun e w'=>e=.returned (.bool (Cd.findAt place l).isSome)∧Below w.heap.size w w':=by
 have hat:=Lf l a cap bb place w hl hi;generalize Cd.findAt place l=r at *;have HAT:=Ac hat;clear hat;go_enter Tryz.func191,Tryz.ntmps191;go_wp2_with fail
 refine(Aa HAT).mono ?_;rintro e w1 ⟨rfl,hb1⟩;go_wp2;go_ret;exact⟨rfl,hb1.alloc hb1.size _⟩
theorem Se (l:List Cd.Ins) (a:Option Addr) (cap bb:Nat) (place:Int) (w:World) (hl:l.length≤100000) (hi:InsAt w bb (.slice a l.length cap) l) :
  Calls Tryz.prog 278 #[.slice a l.length cap,.int .i64 place] w fun e w'=>e=.returned (.bool ((Cd.findAt place l).isSome&&((Cd.orZero (Cd.findAt place l)).op==15)))∧Below w.heap.size w w':=by
 have hat:=Lf l a cap bb place w hl hi;generalize Cd.findAt place l=r at *;have HAT:=Ac hat;clear hat;cases r with
 | none =>
  go_enter Tryz.func278,Tryz.ntmps278;go_wp2_with fail
  refine(Aa HAT).mono ?_;rintro e w1 ⟨rfl,hb1⟩;go_wp2;go_ret;exact⟨rfl,hb1.alloc hb1.size _⟩
 | some x =>
  go_enter Tryz.func278,Tryz.ntmps278;go_wp2_with fail
  refine(Aa HAT).mono ?_;rintro e w1 ⟨rfl,hb1⟩;go_wp2;go_ret;exact⟨rfl,hb1.alloc hb1.size _⟩
def Cd.insts (c:List Int):List Cd.Ins:=(Cd.places c).map (Cd.insAt c)
def Cd.readL (c:List Int):List Cd.Ins:=if 0≤Cd.unread c then [] else Cd.insts c
def Cd.readP (c:List Int):Int:=if 0≤Cd.unread c then Cd.unread c else 0
def Cd.readB (c:List Int):Bool:=decide (Cd.unread c<0)
def Cd.one (c:List Int) (p:Nat):Option Cd.Ins:=if p<c.length∧c.getD p 0≤25∧p+Cd.wd (c.getD p 0)≤c.length then some (Cd.insAt c p) else none
theorem Pp:Cd.orZero none=⟨0,0,0⟩:=rfl
theorem W3 (c:List Int) (a:Option Addr) (cap bb p:Nat) (w:World) (hl:c.length≤1000) (hp:p≤100000) (h0:∀ x∈c,0≤x) (hi:IntsAt w bb (.slice a c.length cap) c) :
  Calls Tryz.prog 121 #[.slice a c.length cap,.int .i64 (p:Int)] w fun e w' =>
   e=.returned (.tuple #[.agg #[.int .i64 (Cd.orZero (Cd.one c p)).place,.int .i64 (Cd.orZero (Cd.one c p)).op,.int .i64 (Cd.orZero (Cd.one c p)).n],.bool (Cd.one c p).isSome])∧Below w.heap.size w w':=by
 generalize hr:Cd.one c p=r;unfold Cd.one at hr;have kp0:¬ (p:Int)<0:=by omega
 by_cases hpn:p<c.length
 ·obtain⟨g,hg,hglt,_,hcell⟩:=Ao hi (by omega);have y0:w.cell? ⟨g,p,none⟩=some (.int .i64 (c.getD p 0)):=by
   rw[hcell p (by simpa using hpn),List.getElem?_map,List.getD_eq_getElem?_getD,List.getElem?_eq_getElem hpn];rfl
  have hop0:0≤c.getD p 0:=by
   rw[List.getD_eq_getElem?_getD,List.getElem?_eq_getElem hpn];exact h0 _ (List.getElem_mem hpn)
  have y1:p+1<c.length→w.cell? ⟨g,p+1,none⟩=some (.int .i64 (c.getD (p+1) 0)):=by
   intro h;rw[hcell (p+1) (by simpa using h),List.getElem?_map,List.getD_eq_getElem?_getD,List.getElem?_eq_getElem h];rfl
  have hins:Cd.insAt c p=⟨(p:Int),c.getD p 0,if Cd.wd (c.getD p 0)=2 then c.getD (p+1) 0 else 0⟩:=rfl
  have hwd:=Cd.wd_bd (c.getD p 0);have kb:(p:Int)<(c.length:Int):=by omega
  have h1:¬ c.getD p 0<0:=by omega
  by_cases h25:25<c.getD p 0
  ·have HF:Hid (r=none):=by unfold Hid;rw[← hr,if_neg (by omega)]
   generalize c.getD p 0=op at *;clear hr hins hcell y1 hop0 h0 hi;subst hg;go_enter Tryz.func121,Tryz.ntmps121;go_wp2;refine bodyPost_ret (v:=.tuple #[.agg #[.int .i64 0,.int .i64 0,.int .i64 0],.bool false]) (by simp[results,Tryz.results121,go_sem]) rfl ?_;rw[Aa HF];exact⟨rfl,by first | exact Ak _ _ _ | exact QN _⟩
  ·have hhn:=fun w=>Nt (c.getD p 0) w;rcases(show Cd.wd (c.getD p 0)=1∨Cd.wd (c.getD p 0)=2 by omega) with hw | hw
   ·have HF:Hid (r=some ⟨(p:Int),c.getD p 0,0⟩):=by
     unfold Hid;rw[← hr,if_pos (by omega),hins,hw];rfl
    rw[hw]at hhn;generalize c.getD p 0=op at *;have HHN:=Ac hhn;clear hr hins hcell y1 hop0 h0 hi hhn hw hwd;subst hg;go_enter Tryz.func121,Tryz.ntmps121;go_wp2_with fail
    refine(Aa HHN _).mono ?_;rintro e w1 ⟨rfl,rfl⟩;go_wp2;refine bodyPost_ret (v:=.tuple #[.agg #[.int .i64 (p:Int),.int .i64 op,.int .i64 0],.bool true]) (by simp[results,Tryz.results121,go_sem]) rfl ?_;rw[Aa HF];exact⟨rfl,by first | exact Ak _ _ _ | exact QN _⟩
   ·by_cases hp1:p+1<c.length
    ·have HF:Hid (r=some ⟨(p:Int),c.getD p 0,c.getD (p+1) 0⟩):=by
      unfold Hid;rw[← hr,if_pos (by omega),hins,hw];rfl
     have y2:=y1 hp1;have kb2:(p:Int)+1<(c.length:Int):=by omega
     rw[hw]at hhn;generalize c.getD (p+1) 0=nn at *;generalize c.getD p 0=op at *;have HHN:=Ac hhn;clear hr hins hcell y1 hop0 h0 hi hhn hw hwd;subst hg;go_enter Tryz.func121,Tryz.ntmps121;go_wp2_with fail
     refine(Aa HHN _).mono ?_;rintro e w1 ⟨rfl,rfl⟩;go_wp2;refine bodyPost_ret (v:=.tuple #[.agg #[.int .i64 (p:Int),.int .i64 op,.int .i64 nn],.bool true]) (by simp[results,Tryz.results121,go_sem]) rfl ?_;rw[Aa HF];exact⟨rfl,by first | exact Ak _ _ _ | exact QN _⟩
    ·have HF:Hid (r=none):=by unfold Hid;rw[← hr,if_neg (by omega)]
     have kb2:¬ (p:Int)+1<(c.length:Int):=by omega
     rw[hw]at hhn;generalize c.getD p 0=op at *;have HHN:=Ac hhn;clear hr hins hcell y1 hop0 h0 hi hhn hw hwd;subst hg;go_enter Tryz.func121,Tryz.ntmps121;go_wp2_with fail
     refine(Aa HHN _).mono ?_;rintro e w1 ⟨rfl,rfl⟩;go_wp2;refine bodyPost_ret (v:=.tuple #[.agg #[.int .i64 0,.int .i64 0,.int .i64 0],.bool false]) (by simp[results,Tryz.results121,go_sem]) rfl ?_;rw[Aa HF];exact⟨rfl,by first | exact Ak _ _ _ | exact QN _⟩
 ·have HF:Hid (r=none):=by unfold Hid;rw[← hr,if_neg (by omega)]
  have kb:¬ (p:Int)<(c.length:Int):=by omega
  clear hr h0 hi;go_enter Tryz.func121,Tryz.ntmps121;go_wp2;refine bodyPost_ret (v:=.tuple #[.agg #[.int .i64 0,.int .i64 0,.int .i64 0],.bool false]) (by simp[results,Tryz.results121,go_sem]) rfl ?_;rw[Aa HF];exact⟨rfl,by first | exact Ak _ _ _ | exact QN _⟩
theorem Lv (c:List Int) (a:Option Addr) (cap bb:Nat) (w:World) (hl:c.length≤1000) (h0:∀ x∈c,0≤x) (hi:IntsAt w bb (.slice a c.length cap) c) :
  Calls Tryz.prog 76 #[.slice a c.length cap] w fun e w' =>
   ∃ va vc,e=.returned (.tuple #[.slice va (Cd.readL c).length vc,.int .i64 (Cd.readP c),.bool (Cd.readB c)])∧InsAt w' w.heap.size (.slice va (Cd.readL c).length vc) (Cd.readL c)∧Below w.heap.size w w':=by
 obtain⟨i0,hif,hz0,hz1,hz2⟩:=info_parts Tryz.infoIns;have hun:Cd.unread c=Cd.first (Cd.noRead c) (Cd.starts c c.length 0):=rfl
 generalize hU:Cd.unread c=U at hun;have hL:Cd.readL c=if 0≤U then [] else Cd.insts c:=by unfold Cd.readL;rw[hU]
 have hP:Cd.readP c=if 0≤U then U else 0:=by unfold Cd.readP;rw[hU]
 have hBo:Cd.readB c=decide (U<0):=by unfold Cd.readB;rw[hU]
 generalize Cd.readL c=L at *;generalize Cd.readP c=P at *;generalize Cd.readB c=B at *;have HL:=Ac hL;have HP:=Ac hP;have HBo:=Ac hBo;have HU:Hid (Cd.first (Cd.noRead c) (Cd.starts c c.length 0)=U):=hun.symm
 have HD:Hid (([]:List Nat)++Cd.starts c c.length 0=Cd.places c):=rfl;have H0:=Ac h0;clear hL hP hBo hU hun h0;go_enter Tryz.func76,Tryz.ntmps76;go_wp2
 go_loopw [5,6] (fun u v wr=>∃ (p k:Nat) (done:List Nat),v=.int .i64 (p:Int)∧c.length≤p+k∧p≤2000∧done.length≤p∧wr.ownsRow w.heap.size 204 3 u done.length (Cg (done.map (Cd.insAt c))) ∧
   Hid (done++Cd.starts c k p=Cd.places c)∧Hid (Cd.first (Cd.noRead c) (Cd.starts c k p)=U)∧Below w.heap.size w wr)
  (fun _ v _=>c.length-(intOf v).toNat)
 case atStart=>exact⟨0,c.length,[],rfl,by omega,by omega,by simp,World.ownsRow_nil _ _ _ _,HD,HU,Below.refl _ _⟩
 case round =>
  clear HU HD;obtain⟨p,k,done,rfl,hk,hp2,hdl,hown,HD,HU,hB⟩:=hrel;obtain⟨ua,uc,rfl⟩:=Af hown;have hBs:=hB.size;by_cases hpn:p<c.length
  ·obtain⟨j,rfl,hj,hst⟩:=Cd.starts_go (c:=c) (k:=k) (p:=p) hpn hk;have hu:=Aa HU;have hd:=Aa HD;rw[hst]at hu hd;rw[Cd.first]at hu
   have hwd:=Cd.wd_bd (c.getD p 0);have hone:=fun w' (hb:Below w.heap.size w w')=>W3 c a cap bb p w' hl (by omega) (Aa H0) (hi.kp (Kp.of_below (e:=none) hb) (by decide));have hnr:Cd.noRead c p=(decide (25<c.getD p 0) || decide (c.length<p+Cd.wd (c.getD p 0))):=rfl;have kb:(p:Int)<(c.length:Int):=by omega
   by_cases hok:c.getD p 0≤25∧p+Cd.wd (c.getD p 0)≤c.length
   ·have h1:Cd.one c p=some (Cd.insAt c p):=by unfold Cd.one;rw[if_pos ⟨hpn,hok⟩]
    have hnx:=fun n w=>Mv p (c.getD p 0) n w (by omega);have HUJ:Hid (Cd.first (Cd.noRead c) (Cd.starts c j (p+Cd.wd (c.getD p 0)))=U):=by
     unfold Hid;rw[← hu,hnr,decide_eq_false (show ¬ 25<c.getD p 0 by omega),decide_eq_false (show ¬ c.length<p+Cd.wd (c.getD p 0) by omega)];rw[if_neg (by decide)]
    have HDJ:Hid ((done++[p])++Cd.starts c j (p+Cd.wd (c.getD p 0))=Cd.places c):=by unfold Hid;rw[← hd];simp
    have HINS:Hid (Cg ((done++[p]).map (Cd.insAt c))=Cg (done.map (Cd.insAt c))++[.int .i64 (Cd.insAt c p).place,.int .i64 (Cd.insAt c p).op,.int .i64 (Cd.insAt c p).n]):=by
     unfold Hid;rw[List.map_append,List.map_singleton,Ph]
    have e1:(Cd.insAt c p).place=(p:Int):=rfl;have e2:(Cd.insAt c p).op=c.getD p 0:=rfl;rw[h1]at hone;simp only[Cd.orZero,Option.isSome_some]at hone;rw[e1,e2]at hone;unfold Hid at HINS;rw[e1,e2]at HINS;have HINS:=Ac HINS;generalize (Cd.insAt c p).n=nn at *;generalize Cd.wd (c.getD p 0)=wdp at *;generalize c.getD p 0=op at *;have HON:=Ac hone;have HNX:=Ac hnx;clear hone hnx hu hd hnr hst HU HD e1 e2 h1;go_wp2_with fail
    refine(Aa HON _ hB).mono ?_;rintro e w1 ⟨rfl,hb1⟩;have hB1:=hB.trans (hb1.mono hBs);have hown1:=Av hown (Kp.of_below (e:=none) hb1) (by decide);have hs1:=hB1.size;clear hb1 hown;go_wp2_with (at_builtin;refine wpList_append_own _ rfl _ _ 141 rfl w.heap.size 204 i0 _ 3 24 Tryz.underlying141 hif hz0 hz1 hz2 rfl (by decide) _ _ _ rfl ((hown1.alloc _).alloc _) ⟨w1.heap.size+1,0,none⟩ 1 1 [.int .i64 (p:Int),.int .i64 op,.int .i64 nn] rfl rfl ?c1 ?c2 ?c3 ?c4 ?c5 ?_)
    case c1=>exact Au _ _ _ _ (by simp)
    case c2=>intro u hu;simp at hu;rcases hu with rfl | rfl | rfl<;>rfl
    case c3=>unfold maxLen;omega
    case c4=>omega
    case c5=>simp;omega
    intro v' w2 hown2 hgrow _;have hX:w2.heap[w1.heap.size]?=some (O17 (p:Int) op nn):=by
     rw[hgrow.block w1.heap.size (by simp;omega) (fun h=>by have:=(hown1.lt _ h.symm).2;omega),Below.heap_alloc _ _ _ (by simp)];exact Ad w1 _
    have hown3:w2.ownsRow w.heap.size 204 3 v' (done++[p]).length (Cg ((done++[p]).map (Cd.insAt c))):=by
     rw[Aa HINS,List.length_append];exact hown2
    have hB2:=((hB1.alloc hs1 _).alloc (by simp;omega) _).grown hgrow (by simp;omega) (fun j hj=>(hown1.lt j hj).1);obtain⟨x0,x1,x2⟩:=cl3 hX;simp at x0 x1 x2;clear hgrow hown1 hown2 hB1 hB hX HINS;go_wp2_with fail
    refine(Aa HNX nn _).mono ?_;rintro e w3 ⟨rfl,hb3⟩;have hB3:=QB hB2 hb3;have hown4:=Av hown3 (Kp.of_below (e:=none) hb3) (by decide);clear hb3 hB2 hown3 x0 x1 x2;go_wp2
    go_roundw
    case rel=>exact⟨p+wdp,j,done++[p],rfl,by omega,by omega,by simp;omega,hown4,HDJ,HUJ,hB3⟩
    case measure=>simp[intOf];omega
   ·have h1:Cd.one c p=none:=by unfold Cd.one;rw[if_neg (fun h=>hok h.2)]
    have HF:Hid (U=(p:Int)):=by
     unfold Hid;rw[← hu,hnr];by_cases h25:25<c.getD p 0
     ·rw[decide_eq_true h25,Bool.true_or,if_pos rfl]
     ·rw[decide_eq_true (show c.length<p+Cd.wd (c.getD p 0) by omega),Bool.or_true,if_pos rfl]
    rw[h1]at hone;simp only[Pp,Option.isSome_none]at hone;have HON:=Ac hone;clear hone hu hd hnr hst HU HD h1;go_wp2_with fail
    refine(Aa HON _ hB).mono ?_;rintro e w1 ⟨rfl,hb1⟩;have hB1:=hB.trans (hb1.mono hBs);have hs1:=hB1.size;clear hb1;go_wp2;refine bodyPost_ret (v:=.tuple #[.slice none 0 0,.int .i64 (p:Int),.bool false]) (by simp[results,Tryz.results76,go_sem]) rfl ?_;have hp0:(0:Int)≤(p:Int):=by omega
    rw[Aa HL,Aa HP,Aa HBo,Aa HF,if_pos hp0,if_pos hp0];exact⟨none,0,by simp,World.ownsRow_nil _ _ _ _,by repeat (first | refine Below.drew ?_ | refine Below.alloc ?_ (by first | omega | (simp;omega)) _ | exact hB1)⟩
  ·have hu:=Aa HU;have hd:=Aa HD;rw[Cd.starts_end (by omega)]at hu hd;have hU1:U = -1:=by rw[← hu];rfl
   rw[List.append_nil]at hd;have HU1:=Ac hU1;have HD1:=Ac hd;have kb:¬ (p:Int)<(c.length:Int):=by omega
   clear hu hd hU1 HU HD;go_wp2;refine bodyPost_ret (v:=.tuple #[.slice ua done.length uc,.int .i64 0,.bool true]) (by simp[results,Tryz.results76,go_sem]) rfl ?_;have hn1:¬ (0:Int)≤-1:=by omega
   rw[Aa HL,Aa HP,Aa HBo,Aa HU1,if_neg hn1,if_neg hn1];unfold Cd.insts;rw[← Aa HD1];exact⟨ua,uc,by simp,by unfold InsAt;simpa using hown,hB⟩
end Go.Proofs.YtcefiamkoincoaaGreat
namespace Go.Proofs.YtcefiamkoincoaaGreat.Cd
theorem Md (c:List Int) (place:Int) (ps:List Nat):(findAt place (ps.map (insAt c))).isSome=ps.any fun p=>(p:Int)==place:=by
 induction ps with
 | nil=>rfl
 | cons p r ih =>
  rw[List.map_cons,findAt,List.any_cons];by_cases h:(insAt c p).place=place
  ·rw[if_pos h];have:((p:Int)==place)=true:=by simpa[insAt] using h
   rw[this];rfl
  ·rw[if_neg h,ih];have:((p:Int)==place)=false:=by simpa[insAt] using h
   rw[this];rfl
theorem find_beg (c:List Int) (place:Int):(findAt place (insts c)).isSome=begB c place:=Md c place (places c)
theorem find_at (c:List Int) (place:Int) (ps:List Nat) (h:(findAt place (ps.map (insAt c))).isSome=true):(orZero (findAt place (ps.map (insAt c))))=insAt c place.toNat∧0≤place:=by
 induction ps with
 | nil=>simp[findAt]at h
 | cons p r ih =>
  rw[List.map_cons,findAt]at h ⊢;by_cases hp:(insAt c p).place=place
  ·rw[if_pos hp];have:(p:Int)=place:=hp;subst this;exact⟨by simp[orZero],by omega⟩
  ·rw[if_neg hp]at h ⊢;exact ih h
theorem W6 (c:List Int) (place:Int):((findAt place (insts c)).isSome&&((orZero (findAt place (insts c))).op==15))=(begB c place&&(c.getD place.toNat 0==15)):=by
 rw[find_beg];cases h:begB c place with
 | false=>rfl
 | true =>
  have:=(find_at c place (places c) (by rw[Md];exact h)).1;unfold insts;rw[this];rfl
end Go.Proofs.YtcefiamkoincoaaGreat.Cd
namespace Go.Proofs.YtcefiamkoincoaaGreat
open Go.RowKit
structure PBd where
 fa1:Option Addr
 fl1:Nat
 fc1:Nat
 fa2:Option Addr
 fl2:Nat
 fc2:Nat
 tg:Nat
 tc:Nat
 ya:Option Addr
 yn:Nat
 yc:Nat
 cl:Int
 nm:Int
 pa:Option Addr
 pl:Nat
 pc:Nat
 r1:Int
 r2:Int
 lo:Int
 st:Int
 ca:Option Addr
 cn:Nat
 cc:Nat
 ha:Option Addr
 hl:Nat
 hc:Nat
 ma:Option Addr
 ml:Nat
 mc:Nat
 la:Option Addr
 lc:Nat
 T:List Int
 L:List Cd.Ins
def PBd.val (b:PBd):Value:=.agg #[.slice b.fa1 b.fl1 b.fc1,.slice b.fa2 b.fl2 b.fc2,.slice (some ⟨b.tg,0,none⟩) b.T.length b.tc,.slice b.ya b.yn b.yc,.int .i64 b.cl,.int .i64 b.nm,.slice b.pa b.pl b.pc,.int .i64 b.r1,.int .i64 b.r2,.int .i64 b.lo,.int .i64 b.st,.slice b.ca b.cn b.cc,.slice b.ha b.hl b.hc,.slice b.ma b.ml b.mc,.slice b.la b.L.length b.lc]
def PBd.ok (b:PBd) (w:World) (bb:Nat):Prop:=b.T.length≤1000∧b.L.length≤100000∧TreeIn w b.tg b.T∧InsAt w bb (.slice b.la b.L.length b.lc) b.L
theorem PBd.ok.below {b:PBd}{w w':World}{bb:Nat} (h:b.ok w bb) (hb:Below w.heap.size w w'):b.ok w' bb :=
 ⟨h.1,h.2.1,h.2.2.1.below hb,h.2.2.2.kp (Kp.of_below (e:=none) hb) (by decide)⟩
def Cd.mapTy (T:List Int) (L:List Cd.Ins) (k n:Int):Bool:=if k=4 then (Cd.findAt n L).isSome&&((Cd.orZero (Cd.findAt n L)).op==15) else Tr.settledB T k n
theorem Ve (b:PBd) (bb:Nat) (k n:Int) (w:World) (hb:b.ok w bb) :
  Calls Tryz.prog 265 #[b.val,.agg #[.int .i64 k,.int .i64 n]] w fun e w'=>e=.returned (.bool (Cd.mapTy b.T b.L k n))∧Below w.heap.size w w':=by
 have hN:=fun w (h:b.ok w bb)=>Se b.L b.la b.lc bb n w h.2.1 h.2.2.2;have hS:=fun w=>Mz (ya:=b.ya) (yn:=b.yn) (yc:=b.yc) b.T (some ⟨b.tg,0,none⟩) b.tc k n w;have HOK:∀ w',Below w.heap.size w w'→b.ok w' bb:=fun w' h=>hb.below h;generalize hR:Cd.mapTy b.T b.L k n=R;unfold Cd.mapTy at hR;obtain⟨fa1,fl1,fc1,fa2,fl2,fc2,tg,tc,ya,yn,yc,cl,nm,pa,pl,pc,r1,r2,lo,st,ca,cn,cc,ha,hl,hc,ma,ml,mc,la,lc,T,L⟩:=b;simp only[PBd.val]at hN hS hR ⊢;have HN:=Ac hN;have HS:=Ac hS;have HO:=Ac HOK;clear hN hS HOK hb;by_cases h4:k=4
 ·rw[if_pos h4]at hR;subst h4;have HR:=Ac hR;clear hR;go_enter Tryz.func265,Tryz.ntmps265;go_wp2_with fail
  refine(Aa HN _ (Aa HO _ (Ak _ _ _))).mono ?_;rintro e w1 ⟨rfl,hb1⟩;go_wp2;go_ret;exact⟨by rw[← Aa HR];rfl,(Ak _ _ _).trans (hb1.mono (by simp;omega))⟩
 ·rw[if_neg h4]at hR;have h4':(k==4)=false:=by simp[h4]
  have HR:=Ac hR;clear hR h4;go_enter Tryz.func265,Tryz.ntmps265;go_wp2_with fail
  refine(Aa HS _).mono ?_;rintro e w1 ⟨rfl,hb1⟩;go_wp2;go_ret;exact⟨by rw[← Aa HR];rfl,(Ak _ _ _).trans (hb1.mono (by simp;omega))⟩
def Cd.mapTys (T:List Int) (L:List Cd.Ins) (l:List (Int × Int)):Bool:=l.all fun t=>Cd.mapTy T L t.1 t.2
theorem Ki (b:PBd) (bb b2:Nat) (l:List (Int × Int)) (va:Option Addr) (vc:Nat) (w:World) (hb:b.ok w bb) (hl:l.length≤1000) (ht:TysAt w b2 (.slice va l.length vc) l) :
  Calls Tryz.prog 237 #[b.val,.slice va l.length vc] w fun e w'=>e=.returned (.bool (Cd.mapTys b.T b.L l))∧Below w.heap.size w w':=by
 have hM:=fun k n w (h:b.ok w bb)=>Ve b bb k n w h;have HOK:∀ w',Below w.heap.size w w'→b.ok w' bb:=fun w' h=>hb.below h;have HTY:∀ w',Below w.heap.size w w'→TysAt w' b2 (.slice va l.length vc) l:=fun w' h=>ht.kp (Kp.of_below (e:=none) h) (by decide);generalize hR:Cd.mapTys b.T b.L l=R;have HR:Hid (Cd.mapTys b.T b.L (l.drop 0)=R):=hR;clear hR;obtain⟨fa1,fl1,fc1,fa2,fl2,fc2,tg,tc,ya,yn,yc,cl,nm,pa,pl,pc,r1,r2,lo,st,ca,cn,cc,ha,hl',hc,ma,ml,mc,la,lc,T,L⟩:=b;simp only[PBd.val]at hM HR ⊢;have HM:=Ac hM;have HO:=Ac HOK;have HT:=Ac HTY;clear hM HOK HTY hb ht;have hB0:Below w.heap.size w (w.alloc (O18 fa1 fl1 fc1 fa2 fl2 fc2 (some ⟨tg,0,none⟩) T.length tc ya yn yc cl nm pa pl pc r1 r2 lo st ca cn cc ha hl' hc ma ml mc la L.length lc)):=QN _;have C0:=Ad w (O18 fa1 fl1 fc1 fa2 fl2 fc2 (some ⟨tg,0,none⟩) T.length tc ya yn yc cl nm pa pl pc r1 r2 lo st ca cn cc ha hl' hc ma ml mc la L.length lc);go_enter Tryz.func237,Tryz.ntmps237;go_wp2
 go_loopw [9] (fun v wr=>∃ k:Nat,k≤l.length∧v=.int .i64 (k:Int)∧Hid (Cd.mapTys T L (l.drop k)=R)∧Below w.heap.size w wr ∧
   wr.heap[w.heap.size]?=some (O18 fa1 fl1 fc1 fa2 fl2 fc2 (some ⟨tg,0,none⟩) T.length tc ya yn yc cl nm pa pl pc r1 r2 lo st ca cn cc ha hl' hc ma ml mc la L.length lc))
  (fun v _=>l.length-(intOf v).toNat)
 case atStart=>exact⟨0,by omega,rfl,HR,hB0,C0⟩
 case round =>
  clear hB0 C0 HR;obtain⟨k,hk,rfl,HR,hB,CB⟩:=hrel;obtain⟨m0,m1,m2,m3,m4,m5,m6,m7,m8,m9,m10,m11,m12,m13,m14⟩:=Gm CB;simp at m0 m1 m2 m3 m4 m5 m6 m7 m8 m9 m10 m11 m12 m13 m14;have hBs:=hB.size;have lB:=lt_of_block CB;by_cases hkn:k<l.length
  ·obtain⟨g,hg,hglt,_,hcell⟩:=Ao (Aa HT _ hB) (by omega);obtain⟨e1,e2,e3⟩:=Az l k hkn;have u0:=(hcell (k*2) (by omega)).trans e1;have u1:=(hcell (k*2+1) (by omega)).trans e2;have hd:l.drop k=l[k]::l.drop (k+1):=List.drop_eq_getElem_cons hkn;have hr:=Aa HR;unfold Cd.mapTys at hr;rw[hd,List.all_cons]at hr;generalize l[k]=t at *;obtain⟨t1,t2⟩:=t;simp only at u0 u1 hr;have hm:=fun w h=>Aa HM t1 t2 w h;generalize Cd.mapTy T L t1 t2=Z at *;have HZ:=Ac hm;have HRR:=Ac hr;have kb:(k:Int)<(l.length:Int):=by omega
   have CB1:=Aj CB (O7 t1 t2);have hB1:=hB.alloc hBs (O7 t1 t2);clear hm hr hd hcell e1 e2 e3 HR;subst hg;go_wp2_with fail
   refine(Aa HZ _ (Aa HO _ hB1)).mono ?_;rintro e w2 ⟨rfl,hb2⟩;have hB2:=QB hB1 hb2;have CB2:=stay hb2 CB1;clear hb2 hB1 CB1 CB hB u0 u1 m0 m1 m2 m3 m4 m5 m6 m7 m8 m9 m10 m11 m12 m13 m14;cases Z with
   | false =>
    have HF:Hid (R=false):=by unfold Hid;rw[← Aa HRR];simp
    clear HRR;go_wp2;go_ret;exact⟨by rw[Aa HF];rfl,hB2⟩
   | true =>
    have HF:Hid (Cd.mapTys T L (l.drop (k+1))=R):=by unfold Hid Cd.mapTys;rw[← Aa HRR];simp
    clear HRR;go_wp2
    go_roundw
    case rel=>exact⟨k+1,by omega,by go_num,HF,hB2,CB2⟩
    case measure=>simp[intOf];omega
  ·have HF:Hid (R=true):=by unfold Hid;rw[← Aa HR,List.drop_eq_nil_of_le (by omega)];rfl
   have kb:¬ (k:Int)<(l.length:Int):=by omega
   clear HR;go_wp2;go_ret;exact⟨by rw[Aa HF];rfl,hB⟩
def Cd.mapMay (T:List Int) (L:List Cd.Ins) (x:Rd.Mp):Bool:=(Cd.findAt x.place L).isSome&&(Cd.mapTys T L x.locals&&Cd.mapTys T L x.stack)
theorem Rt (b:PBd) (bb b2:Nat) (x:Rd.Mp) (v1a v2a:Option Addr) (v1c v2c:Nat) (w:World) (hb:b.ok w bb) (hl1:x.locals.length≤1000) (hl2:x.stack.length≤1000) (ht1:TysAt w b2 (.slice v1a x.locals.length v1c) x.locals) (ht2:TysAt w b2 (.slice v2a x.stack.length v2c) x.stack) :
  Calls Tryz.prog 194 #[b.val,.agg #[.int .i64 x.place,.slice v1a x.locals.length v1c,.slice v2a x.stack.length v2c]] w fun e w'=>e=.returned (.bool (Cd.mapMay b.T b.L x))∧Below w.heap.size w w':=by
 have hBe:=fun w (h:b.ok w bb)=>Gv b.L b.la b.lc bb x.place w h.2.1 h.2.2.2;have hM1:=fun w' (h:Below w.heap.size w w')=>Ki b bb b2 x.locals v1a v1c w' (hb.below h) hl1 (ht1.kp (Kp.of_below (e:=none) h) (by decide));have hM2:=fun w' (h:Below w.heap.size w w')=>Ki b bb b2 x.stack v2a v2c w' (hb.below h) hl2 (ht2.kp (Kp.of_below (e:=none) h) (by decide));have HOK:∀ w',Below w.heap.size w w'→b.ok w' bb:=fun w' h=>hb.below h;obtain⟨plc,loc,stk⟩:=x;unfold Cd.mapMay;simp only at hBe hM1 hM2 ⊢;generalize Cd.mapTys b.T b.L loc=M1 at *;generalize Cd.mapTys b.T b.L stk=M2 at *;generalize (Cd.findAt plc b.L).isSome=B at *;obtain⟨fa1,fl1,fc1,fa2,fl2,fc2,tg,tc,ya,yn,yc,cl,nm,pa,pl,pc,r1,r2,lo,st,ca,cn,cc,ha,hl',hc,ma,ml,mc,la,lc,T,L⟩:=b;simp only[PBd.val]at hBe hM1 hM2 ⊢;have HBe:=Ac hBe;have HM1:=Ac hM1;have HM2:=Ac hM2;have HO:=Ac HOK;clear hBe hM1 hM2 HOK hb ht1 ht2;cases B with
 | false =>
  go_enter Tryz.func194,Tryz.ntmps194;go_wp2_with fail
  refine(Aa HBe _ (Aa HO _ (Ak _ _ _))).mono ?_;rintro e w1 ⟨rfl,hb1⟩;go_wp2;go_ret;exact⟨rfl,(Ak _ _ _).trans (hb1.mono (by simp;omega))⟩
 | true =>
  cases M1 with
  | false =>
   go_enter Tryz.func194,Tryz.ntmps194;go_wp2_with fail
   refine(Aa HBe _ (Aa HO _ (Ak _ _ _))).mono ?_;rintro e w1 ⟨rfl,hb1⟩;have hB1:=(Ak w _ _).trans (hb1.mono (by simp;omega));have CB:=stay hb1 (Ah w _ _);have CX:=stay hb1 (Ag w _ _);clear hb1;obtain⟨m0,m1,m2,m3,m4,m5,m6,m7,m8,m9,m10,m11,m12,m13,m14⟩:=Gm CB;simp at m0 m1 m2 m3 m4 m5 m6 m7 m8 m9 m10 m11 m12 m13 m14;have x1:=Ab CX 1;have x2:=Ab CX 2;simp at x1 x2;go_wp2_with fail
   refine(Aa HM1 _ hB1).mono ?_;rintro e w2 ⟨rfl,hb2⟩;go_wp2;go_ret;exact⟨rfl,QB hB1 hb2⟩
  | true =>
   go_enter Tryz.func194,Tryz.ntmps194;go_wp2_with fail
   refine(Aa HBe _ (Aa HO _ (Ak _ _ _))).mono ?_;rintro e w1 ⟨rfl,hb1⟩;have hB1:=(Ak w _ _).trans (hb1.mono (by simp;omega));have CB:=stay hb1 (Ah w _ _);have CX:=stay hb1 (Ag w _ _);clear hb1;obtain⟨m0,m1,m2,m3,m4,m5,m6,m7,m8,m9,m10,m11,m12,m13,m14⟩:=Gm CB;simp at m0 m1 m2 m3 m4 m5 m6 m7 m8 m9 m10 m11 m12 m13 m14;have x1:=Ab CX 1;have x2:=Ab CX 2;simp at x1 x2;go_wp2_with fail
   refine(Aa HM1 _ hB1).mono ?_;rintro e w2 ⟨rfl,hb2⟩;have hB2:=QB hB1 hb2;have CB2:=stay hb2 CB;have CX2:=stay hb2 CX;clear hb2 x1 x2 m0 m1 m2 m3 m4 m5 m6 m7 m8 m9 m10 m11 m12 m13 m14 CB CX;obtain⟨m0,m1,m2,m3,m4,m5,m6,m7,m8,m9,m10,m11,m12,m13,m14⟩:=Gm CB2;simp at m0 m1 m2 m3 m4 m5 m6 m7 m8 m9 m10 m11 m12 m13 m14;have x2:=Ab CX2 2;simp at x2;go_wp2_with fail
   refine(Aa HM2 _ hB2).mono ?_;rintro e w3 ⟨rfl,hb3⟩;go_wp2;go_ret;exact⟨by simp,QB hB2 hb3⟩
def Cd.hndMay (T:List Int) (L:List Cd.Ins) (cn:Int) (x:Rd.Hnd):Bool :=
 if x.til≤x.frm then false else if (Cd.findAt x.frm L).isSome=false then false else if (Cd.findAt x.target L).isSome=false then false
 else if x.til≠cn∧(Cd.findAt x.til L).isSome=false then false else Tr.within T x.cl 1
theorem Rr (b:PBd) (bb:Nat) (x:Rd.Hnd) (w:World) (hb:b.ok w bb) :
  Calls Tryz.prog 164 #[b.val,.agg #[.int .i64 x.frm,.int .i64 x.til,.int .i64 x.target,.int .i64 x.cl]] w fun e w'=>e=.returned (.bool (Cd.hndMay b.T b.L (b.cn:Int) x))∧Below w.heap.size w w':=by
 have hBe:=fun p w (h:b.ok w bb)=>Gv b.L b.la b.lc bb p w h.2.1 h.2.2.2;have hBl:=fun w (h:b.ok w bb)=>Fs (ya:=b.ya) (yn:=b.yn) (yc:=b.yc) b.T b.tg b.tc x.cl 1 w h.1 h.2.2.1;have HOK:∀ w',Below w.heap.size w w'→b.ok w' bb:=fun w' h=>hb.below h;obtain⟨frm,til,tgt,xcl⟩:=x;generalize hR:Cd.hndMay b.T b.L (b.cn:Int) ⟨frm,til,tgt,xcl⟩=R;unfold Cd.hndMay at hR;simp only at hBl hR ⊢;have h1:=fun w h=>hBe frm w h;have h2:=fun w h=>hBe tgt w h;have h3:=fun w h=>hBe til w h;generalize (Cd.findAt frm b.L).isSome=A at *;generalize (Cd.findAt tgt b.L).isSome=C at *;generalize (Cd.findAt til b.L).isSome=B at *;generalize Tr.within b.T xcl 1=D at *;obtain⟨fa1,fl1,fc1,fa2,fl2,fc2,tg,tc,ya,yn,yc,cl,nm,pa,pl,pc,r1,r2,lo,st,ca,cn,cc,ha,hl',hc,ma,ml,mc,la,lc,T,L⟩:=b;simp only[PBd.val]at h1 h2 h3 hBl hR ⊢;have HA:=Ac h1;have HC:=Ac h2;have HB:=Ac h3;have HD:=Ac hBl;have HO:=Ac HOK;clear hBe h1 h2 h3 hBl HOK hb;by_cases h1:til≤frm
 ·have HR:Hid (R=false):=by unfold Hid;rw[← hR];simp[h1]
  clear hR;go_enter Tryz.func164,Tryz.ntmps164;go_wp2;go_ret;exact⟨by rw[Aa HR];rfl,Ak _ _ _⟩
 ·cases A with
  | false =>
   have HR:Hid (R=false):=by unfold Hid;rw[← hR];simp
   clear hR;go_enter Tryz.func164,Tryz.ntmps164;go_wp2_with fail
   refine(Aa HA _ (Aa HO _ (Ak _ _ _))).mono ?_;rintro e w1 ⟨rfl,hb1⟩;have hB1:=(Ak w _ _).trans (hb1.mono (by simp;omega));have CB1:=stay hb1 (Ah w _ _);have CX1:=stay hb1 (Ag w _ _);clear hb1;have m2:=Ab CB1 2;have m3:=Ab CB1 3;have m11:=Ab CB1 11;have m14:=Ab CB1 14;obtain⟨x0,x1,x2,x3⟩:=cl4 CX1;simp at m2 m3 m11 m14 x0 x1 x2 x3;go_wp2;go_ret;exact⟨by rw[Aa HR];rfl,hB1⟩
  | true =>
   cases C with
   | false =>
    have HR:Hid (R=false):=by unfold Hid;rw[← hR];simp
    clear hR;go_enter Tryz.func164,Tryz.ntmps164;go_wp2_with fail
    refine(Aa HA _ (Aa HO _ (Ak _ _ _))).mono ?_;rintro e w1 ⟨rfl,hb1⟩;have hB1:=(Ak w _ _).trans (hb1.mono (by simp;omega));have CB1:=stay hb1 (Ah w _ _);have CX1:=stay hb1 (Ag w _ _);clear hb1;have m2:=Ab CB1 2;have m3:=Ab CB1 3;have m11:=Ab CB1 11;have m14:=Ab CB1 14;obtain⟨x0,x1,x2,x3⟩:=cl4 CX1;simp at m2 m3 m11 m14 x0 x1 x2 x3;go_wp2_with fail
    refine(Aa HC _ (Aa HO _ hB1)).mono ?_;rintro e w2 ⟨rfl,hb2⟩;have hB2:=QB hB1 hb2;have CB2:=stay hb2 CB1;have CX2:=stay hb2 CX1;clear hb2 m2 m3 m11 m14 x0 x1 x2 x3 CB1 CX1;have m2:=Ab CB2 2;have m3:=Ab CB2 3;have m11:=Ab CB2 11;have m14:=Ab CB2 14;obtain⟨x0,x1,x2,x3⟩:=cl4 CX2;simp at m2 m3 m11 m14 x0 x1 x2 x3;go_wp2;go_ret;exact⟨by rw[Aa HR];rfl,hB2⟩
   | true =>
    by_cases h2:til=(cn:Int)
    ·have h2':(til != (cn:Int))=false:=by simp[h2]
     have h1':¬ (cn:Int)≤frm:=by omega
     have HH2:=Ac h2;have HR:Hid (R=D):=by unfold Hid;rw[← hR];simp[h2,h1']
     clear hR;go_enter Tryz.func164,Tryz.ntmps164;clear h2;go_wp2_with fail
     refine(Aa HA _ (Aa HO _ (Ak _ _ _))).mono ?_;rintro e w1 ⟨rfl,hb1⟩;have hB1:=(Ak w _ _).trans (hb1.mono (by simp;omega));have CB1:=stay hb1 (Ah w _ _);have CX1:=stay hb1 (Ag w _ _);clear hb1;have m2:=Ab CB1 2;have m3:=Ab CB1 3;have m11:=Ab CB1 11;have m14:=Ab CB1 14;obtain⟨x0,x1,x2,x3⟩:=cl4 CX1;simp at m2 m3 m11 m14 x0 x1 x2 x3;go_wp2_with fail
     refine(Aa HC _ (Aa HO _ hB1)).mono ?_;rintro e w2 ⟨rfl,hb2⟩;have hB2:=QB hB1 hb2;have CB2:=stay hb2 CB1;have CX2:=stay hb2 CX1;clear hb2 m2 m3 m11 m14 x0 x1 x2 x3 CB1 CX1;have m2:=Ab CB2 2;have m3:=Ab CB2 3;have m11:=Ab CB2 11;have m14:=Ab CB2 14;obtain⟨x0,x1,x2,x3⟩:=cl4 CX2;simp at m2 m3 m11 m14 x0 x1 x2 x3;go_wp2_with fail
     refine(Aa HD _ (Aa HO _ hB2)).mono ?_;rintro e w9 ⟨rfl,hb9⟩;go_wp2;go_ret;exact⟨by rw[Aa HR];rfl,QB hB2 hb9⟩
    ·have h2':(til != (cn:Int))=true:=by simp[h2]
     cases B with
     | false =>
      have HR:Hid (R=false):=by unfold Hid;rw[← hR];simp[h2]
      clear hR;go_enter Tryz.func164,Tryz.ntmps164;go_wp2_with fail
      refine(Aa HA _ (Aa HO _ (Ak _ _ _))).mono ?_;rintro e w1 ⟨rfl,hb1⟩;have hB1:=(Ak w _ _).trans (hb1.mono (by simp;omega));have CB1:=stay hb1 (Ah w _ _);have CX1:=stay hb1 (Ag w _ _);clear hb1;have m2:=Ab CB1 2;have m3:=Ab CB1 3;have m11:=Ab CB1 11;have m14:=Ab CB1 14;obtain⟨x0,x1,x2,x3⟩:=cl4 CX1;simp at m2 m3 m11 m14 x0 x1 x2 x3;go_wp2_with fail
      refine(Aa HC _ (Aa HO _ hB1)).mono ?_;rintro e w2 ⟨rfl,hb2⟩;have hB2:=QB hB1 hb2;have CB2:=stay hb2 CB1;have CX2:=stay hb2 CX1;clear hb2 m2 m3 m11 m14 x0 x1 x2 x3 CB1 CX1;have m2:=Ab CB2 2;have m3:=Ab CB2 3;have m11:=Ab CB2 11;have m14:=Ab CB2 14;obtain⟨x0,x1,x2,x3⟩:=cl4 CX2;simp at m2 m3 m11 m14 x0 x1 x2 x3;go_wp2_with fail
      refine(Aa HB _ (Aa HO _ hB2)).mono ?_;rintro e w3 ⟨rfl,hb3⟩;have hB3:=QB hB2 hb3;have CB3:=stay hb3 CB2;have CX3:=stay hb3 CX2;clear hb3 m2 m3 m11 m14 x0 x1 x2 x3 CB2 CX2;have m2:=Ab CB3 2;have m3:=Ab CB3 3;have m11:=Ab CB3 11;have m14:=Ab CB3 14;obtain⟨x0,x1,x2,x3⟩:=cl4 CX3;simp at m2 m3 m11 m14 x0 x1 x2 x3;go_wp2;go_ret;exact⟨by rw[Aa HR];rfl,hB3⟩
     | true =>
      have HR:Hid (R=D):=by unfold Hid;rw[← hR];simp[h1,h2]
      clear hR;go_enter Tryz.func164,Tryz.ntmps164;go_wp2_with fail
      refine(Aa HA _ (Aa HO _ (Ak _ _ _))).mono ?_;rintro e w1 ⟨rfl,hb1⟩;have hB1:=(Ak w _ _).trans (hb1.mono (by simp;omega));have CB1:=stay hb1 (Ah w _ _);have CX1:=stay hb1 (Ag w _ _);clear hb1;have m2:=Ab CB1 2;have m3:=Ab CB1 3;have m11:=Ab CB1 11;have m14:=Ab CB1 14;obtain⟨x0,x1,x2,x3⟩:=cl4 CX1;simp at m2 m3 m11 m14 x0 x1 x2 x3;go_wp2_with fail
      refine(Aa HC _ (Aa HO _ hB1)).mono ?_;rintro e w2 ⟨rfl,hb2⟩;have hB2:=QB hB1 hb2;have CB2:=stay hb2 CB1;have CX2:=stay hb2 CX1;clear hb2 m2 m3 m11 m14 x0 x1 x2 x3 CB1 CX1;have m2:=Ab CB2 2;have m3:=Ab CB2 3;have m11:=Ab CB2 11;have m14:=Ab CB2 14;obtain⟨x0,x1,x2,x3⟩:=cl4 CX2;simp at m2 m3 m11 m14 x0 x1 x2 x3;go_wp2_with fail
      refine(Aa HB _ (Aa HO _ hB2)).mono ?_;rintro e w3 ⟨rfl,hb3⟩;have hB3:=QB hB2 hb3;have CB3:=stay hb3 CB2;have CX3:=stay hb3 CX2;clear hb3 m2 m3 m11 m14 x0 x1 x2 x3 CB2 CX2;have m2:=Ab CB3 2;have m3:=Ab CB3 3;have m11:=Ab CB3 11;have m14:=Ab CB3 14;obtain⟨x0,x1,x2,x3⟩:=cl4 CX3;simp at m2 m3 m11 m14 x0 x1 x2 x3;go_wp2_with fail
      refine(Aa HD _ (Aa HO _ hB3)).mono ?_;rintro e w9 ⟨rfl,hb9⟩;go_wp2;go_ret;exact⟨by rw[Aa HR];rfl,QB hB3 hb9⟩
end Go.Proofs.YtcefiamkoincoaaGreat
