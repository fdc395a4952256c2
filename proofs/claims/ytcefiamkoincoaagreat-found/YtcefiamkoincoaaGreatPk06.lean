/- a part of the proof in YtcefiamkoincoaaGreatFoundProof -/
import Derived.Deep.RegionHeld3
import Derived.Test.YtcefiamkoincoaaGreatPk05
set_option maxRecDepth 100000
set_option maxHeartbeats 40000000
set_option linter.unusedVariables false
set_option linter.unusedSimpArgs false
namespace Go.Proofs.YtcefiamkoincoaaGreat
open Go.RowKit
def Cd.hndBad (T:List Int) (c:List Int) (x:Rd.Hnd):Bool :=
 decide (x.til≤x.frm) || !Cd.begB c x.frm || !Cd.begB c x.target || (!Cd.begB c x.til && (x.til != (c.length:Int))) || !Tr.hasB T x.cl || !Tr.rbel T x.cl 1
def Cd.firstIx {α:Type} (f:α→Bool):Nat→List α→Int
 | _,[]=>-1
 | k,x :: r=>if f x=true then (k:Int) else Cd.firstIx f (k+1) r
theorem Av (l:List Rd.Hnd) (k:Nat) (hk:k < l.length) (j:Nat) (hj:j < 4):(Bb l)[k * 4+j]?=[Value.int .i64 l[k].frm,.int .i64 l[k].til,.int .i64 l[k].target,.int .i64 l[k].cl][j]?∧k * 4+j < (Bb l).length:=by
 refine ⟨Eb (fun x:Rd.Hnd=>[Value.int .i64 x.frm,.int .i64 x.til,.int .i64 x.target,.int .i64 x.cl]) 4 (fun _=>rfl) l k hk j hj,?_⟩;unfold Bb;rw [Dp (fun x:Rd.Hnd=>[Value.int .i64 x.frm,.int .i64 x.til,.int .i64 x.target,.int .i64 x.cl]) 4 (fun _=>rfl) l];omega
theorem Li (f:RFl) (m:RMV) (hs:List Rd.Hnd) (w:World) (hf:f.ok w) (hsz:m.code.size≤100000) (hhl:m.hl=hs.length) (hh4:hs.length≤1000) (hh:RHndsAt w f.bb (.slice m.ha m.hl m.hc) hs) :
  Calls Tryz.prog 32 #[f.val,m.val] w fun e w' =>
   e=.returned (.int .i64 (Cd.firstIx (Cd.hndBad f.T (An m.code)) 0 hs))∧Below w.heap.size w w':=by
 have hBe:=fun x w=>Fj m x w hsz;have hHa:=fun x w=>Cx f.T f.a1 f.a2 f.c1 f.ms.length f.c2 x w;have hBl:=fun x y w (h:f.ok w)=>Du f.a1 f.a2 f.c1 f.ms.length f.c2 f.bb f.l x y w (by have:=h.1;omega) h.2.2.2.2.1;have hTl:f.T.length=f.l.length:=Bt _;rw [hTl] at hHa;have hTs:Ap f.l=f.T:=rfl;rw [hTs] at hBl;have hl:=D9 m.code;have hB0:=Aj w (.cells #[.slice f.a1 f.l.length f.c1,.slice f.a2 f.ms.length f.c2] 44) m.obj;have CF0:=Ak w (.cells #[.slice f.a1 f.l.length f.c1,.slice f.a2 f.ms.length f.c2] 44) m.obj;have CM0:=Ah w (.cells #[.slice f.a1 f.l.length f.c1,.slice f.a2 f.ms.length f.c2] 44) m.obj;have HFO:∀ w',Below w.heap.size w w'→f.ok w':=fun w' hb=>hf.below hb;have HHN:∀ w',Below w.heap.size w w'→RHndsAt w' f.bb (.slice m.ha m.hl m.hc) hs:=fun w' hb=>hh.kp (Kp.of_below (e:=none) hb) (by decide);generalize f.T=T at *;generalize hr:Cd.firstIx (Cd.hndBad T (An m.code)) 0 hs=r;have HR:Hid (Cd.firstIx (Cd.hndBad T (An m.code)) 0 (hs.drop 0)=r):=hr;clear hr hf hh;obtain ⟨fa1,fc1,fa2,fc2,bb,l,ms⟩:=f;obtain ⟨cl,nm,pa,pl,pc,r1,r2,lo,st,code,ha,hl',hc,ma,ml,mc,mAt,fin⟩:=m;simp only at hhl;subst hhl;simp only [RMV.val,RMV.obj,RFl.val] at hsz hBe hHa hBl hl hB0 CF0 CM0 HHN HR ⊢;have HBe:=Ac hBe;have HHa:=Ac hHa;have HBl:=Ac hBl;have HOK:=Ac HFO;have HHN':=Ac HHN;clear hBe hHa hBl HFO HHN hTl hTs;go_enter Tryz.func32,Tryz.ntmps32;go_wp2
 go_loopw [5] (fun v wr=>∃ k:Nat,k≤hs.length∧v=.int .i64 (k:Int)∧Hid (Cd.firstIx (Cd.hndBad T (An code)) k (hs.drop k)=r)∧Below w.heap.size w wr ∧
   wr.heap[w.heap.size]?=some (.cells #[.slice fa1 l.length fc1,.slice fa2 ms.length fc2] 44 (0,0)) ∧
   wr.heap[w.heap.size+1]?=some (.cells #[.int .i64 cl,.int .i64 nm,.slice pa pl pc,.int .i64 r1,.int .i64 r2,.int .i64 lo,.int .i64 st,.string code,.slice ha hs.length hc,.slice ma ml mc,.int .i64 mAt,.int .i64 fin] 52 (0,0)))
  (fun v _=>hs.length - (intOf v).toNat)
 case atStart=>exact ⟨0,by omega,rfl,HR,hB0,CF0,CM0⟩
 case round =>
  clear hB0 CF0 CM0 HR;obtain ⟨k,hk,rfl,HR,hB,CF,CM⟩:=hrel;obtain ⟨m0,m1,m2,m3,m4,m5,m6,m7,m8,m9,m10,m11⟩:=Ax CM;simp at m0 m1 m2 m3 m4 m5 m6 m7 m8 m9 m10 m11;obtain ⟨f0,f1⟩:=cl2 CF;simp at f0 f1;have hBs:=hB.size;have lF:=lt_of_block CF;have lM:=lt_of_block CM;by_cases hkn:k < hs.length
  ·obtain ⟨g,hg,hglt,_,hcell⟩:=Am (Aa HHN' _ hB) (by omega);have y0:=(hcell _ (Av hs k hkn 0 (by omega)).2).trans (Av hs k hkn 0 (by omega)).1;have y1:=(hcell _ (Av hs k hkn 1 (by omega)).2).trans (Av hs k hkn 1 (by omega)).1;have y2:=(hcell _ (Av hs k hkn 2 (by omega)).2).trans (Av hs k hkn 2 (by omega)).1;have y3:=(hcell _ (Av hs k hkn 3 (by omega)).2).trans (Av hs k hkn 3 (by omega)).1;have hd:hs.drop k=hs[k] :: hs.drop (k+1):=List.drop_eq_getElem_cons hkn;have hr:=Aa HR;rw [hd,Cd.firstIx] at hr;generalize hs[k]=x at *;obtain ⟨frm,til,tgt,xcl⟩:=x;simp at y0 y1 y2 y3;have hbad:Cd.hndBad T (An code) ⟨frm,til,tgt,xcl⟩=(decide (til≤frm) || !Cd.begB (An code) frm || !Cd.begB (An code) tgt || (!Cd.begB (An code) til && (til != (code.size:Int))) || !Tr.hasB T xcl || !Tr.rbel T xcl 1):=by
    unfold Cd.hndBad;rw [hl]
   rw [hbad] at hr;have hba:=fun w=>Aa HBe frm w;have hbb:=fun w=>Aa HBe til w;have hbc:=fun w=>Aa HBe tgt w;have hbk:=fun w=>Aa HHa xcl w;have hbd:=fun w h=>Aa HBl xcl 1 w h;generalize Cd.begB (An code) frm=A at *;generalize Cd.begB (An code) til=B at *;generalize Cd.begB (An code) tgt=C at *;generalize Tr.hasB T xcl=K at *;generalize Tr.rbel T xcl 1=D at *;have HA:=Ac hba;have HB:=Ac hbb;have HC:=Ac hbc;have HK:=Ac hbk;have HD:=Ac hbd;have HRR:=Ac hr;have hkb:(k:Int) < (hs.length:Int):=by omega
   clear hba hbb hbc hbk hbd hr hbad hd hcell HR HHN';subst hg;have CX:=Ad wr (.cells #[.int .i64 frm,.int .i64 til,.int .i64 tgt,.int .i64 xcl] 116);have hB0:=hB.alloc hBs (.cells #[.int .i64 frm,.int .i64 til,.int .i64 tgt,.int .i64 xcl] 116);have CF0:=Af CF (.cells #[.int .i64 frm,.int .i64 til,.int .i64 tgt,.int .i64 xcl] 116);have CM0:=Af CM (.cells #[.int .i64 frm,.int .i64 til,.int .i64 tgt,.int .i64 xcl] 116);have lx:wr.heap.size < (wr.alloc (.cells #[.int .i64 frm,.int .i64 til,.int .i64 tgt,.int .i64 xcl] 116)).heap.size:=by simp
   go_wp2_with fail
   refine (Aa HA _).mono ?_;rintro e w1 ⟨rfl,hb1⟩;have hB1:=QB hB0 hb1;have CF1:=stay hb1 CF0;have CM1:=stay hb1 CM0;have CX1:=stay hb1 CX;clear m0 m1 m2 m3 m4 m5 m6 m7 m8 m9 m10 m11 f0 f1 y0 y1 y2 y3 hb1 CF CM hB;obtain ⟨m0,m1,m2,m3,m4,m5,m6,m7,m8,m9,m10,m11⟩:=Ax CM1;simp at m0 m1 m2 m3 m4 m5 m6 m7 m8 m9 m10 m11;obtain ⟨f0,f1⟩:=cl2 CF1;obtain ⟨y0,y1,y2,y3⟩:=cl4 CX1;simp at f0 f1 y0 y1 y2 y3;have lx1:=lt_of_block CX1;go_wp2_with fail
   refine (Aa HB _).mono ?_;rintro e w2 ⟨rfl,hb2⟩;have hB2:=QB hB1 hb2;have CF2:=stay hb2 CF1;have CM2:=stay hb2 CM1;have CX2:=stay hb2 CX1;clear m0 m1 m2 m3 m4 m5 m6 m7 m8 m9 m10 m11 f0 f1 y0 y1 y2 y3 hb2 CF1 CM1 CX1 hB1;obtain ⟨m0,m1,m2,m3,m4,m5,m6,m7,m8,m9,m10,m11⟩:=Ax CM2;simp at m0 m1 m2 m3 m4 m5 m6 m7 m8 m9 m10 m11;obtain ⟨f0,f1⟩:=cl2 CF2;obtain ⟨y0,y1,y2,y3⟩:=cl4 CX2;simp at f0 f1 y0 y1 y2 y3;have lx2:=lt_of_block CX2;go_wp2_with fail
   refine (Aa HC _).mono ?_;rintro e w3 ⟨rfl,hb3⟩;have hB3:=QB hB2 hb3;have CF3:=stay hb3 CF2;have CM3:=stay hb3 CM2;have CX3:=stay hb3 CX2;clear m0 m1 m2 m3 m4 m5 m6 m7 m8 m9 m10 m11 f0 f1 y0 y1 y2 y3 hb3 CF2 CM2 CX2 hB2;obtain ⟨m0,m1,m2,m3,m4,m5,m6,m7,m8,m9,m10,m11⟩:=Ax CM3;simp at m0 m1 m2 m3 m4 m5 m6 m7 m8 m9 m10 m11;obtain ⟨f0,f1⟩:=cl2 CF3;obtain ⟨y0,y1,y2,y3⟩:=cl4 CX3;simp at f0 f1 y0 y1 y2 y3;have lx3:=lt_of_block CX3;go_wp2_with fail
   refine (Aa HK _).mono ?_;rintro e w4 ⟨rfl,hb4⟩;have hB4:=QB hB3 hb4;have CF4:=stay hb4 CF3;have CM4:=stay hb4 CM3;have CX4:=stay hb4 CX3;clear m0 m1 m2 m3 m4 m5 m6 m7 m8 m9 m10 m11 f0 f1 y0 y1 y2 y3 hb4 CF3 CM3 CX3 hB3;obtain ⟨m0,m1,m2,m3,m4,m5,m6,m7,m8,m9,m10,m11⟩:=Ax CM4;simp at m0 m1 m2 m3 m4 m5 m6 m7 m8 m9 m10 m11;obtain ⟨f0,f1⟩:=cl2 CF4;obtain ⟨y0,y1,y2,y3⟩:=cl4 CX4;simp at f0 f1 y0 y1 y2 y3;have lx4:=lt_of_block CX4;go_wp2_with fail
   refine (Aa HD _ (Aa HOK _ hB4)).mono ?_;rintro e w5 ⟨rfl,hb5⟩;have hB5:=QB hB4 hb5;have CF5:=stay hb5 CF4;have CM5:=stay hb5 CM4;have CX5:=stay hb5 CX4;clear m0 m1 m2 m3 m4 m5 m6 m7 m8 m9 m10 m11 f0 f1 y0 y1 y2 y3 hb5 CF4 CM4 CX4 hB4;obtain ⟨m0,m1,m2,m3,m4,m5,m6,m7,m8,m9,m10,m11⟩:=Ax CM5;simp at m0 m1 m2 m3 m4 m5 m6 m7 m8 m9 m10 m11;obtain ⟨f0,f1⟩:=cl2 CF5;obtain ⟨y0,y1,y2,y3⟩:=cl4 CX5;simp at f0 f1 y0 y1 y2 y3;have lx5:=lt_of_block CX5;by_cases h1:til≤frm
   ·have HF:Hid ((k:Int)=r):=by unfold Hid;rw [← Aa HRR];simp [h1]
    clear HRR;go_wp2;go_ret;exact ⟨by rw [← Aa HF];rfl,hB5⟩
   cases A with
   | false =>
    have HF:Hid ((k:Int)=r):=by unfold Hid;rw [← Aa HRR];simp
    clear HRR;go_wp2;go_ret;exact ⟨by rw [← Aa HF];rfl,hB5⟩
   | true =>
    cases C with
    | false =>
     have HF:Hid ((k:Int)=r):=by unfold Hid;rw [← Aa HRR];simp
     clear HRR;go_wp2;go_ret;exact ⟨by rw [← Aa HF];rfl,hB5⟩
    | true =>
     cases B with
     | true =>
      cases K with
      | false =>
       have HF:Hid ((k:Int)=r):=by unfold Hid;rw [← Aa HRR];simp [h1]
       clear HRR;go_wp2;go_ret;exact ⟨by rw [← Aa HF];rfl,hB5⟩
      | true =>
       cases D with
       | false =>
        have HF:Hid ((k:Int)=r):=by unfold Hid;rw [← Aa HRR];simp [h1]
        clear HRR;go_wp2;go_ret;exact ⟨by rw [← Aa HF];rfl,hB5⟩
       | true =>
        have HF:Hid (Cd.firstIx (Cd.hndBad T (An code)) (k+1) (hs.drop (k+1))=r):=by unfold Hid;rw [← Aa HRR];simp [h1]
        clear HRR;go_wp2
        go_roundw
        case rel=>exact ⟨k+1,by omega,by go_num,HF,hB5,CF5,CM5⟩
        case measure=>simp [intOf];omega
     | false =>
      by_cases h2:til=(code.size:Int)
      ·cases K with
       | false =>
        have HF:Hid ((k:Int)=r):=by unfold Hid;rw [← Aa HRR];simp [h2,show ¬ ((code.size:Int)≤frm) from by omega]
        clear HRR;go_wp2;go_ret;exact ⟨by rw [← Aa HF];rfl,hB5⟩
       | true =>
        cases D with
        | false =>
         have HF:Hid ((k:Int)=r):=by unfold Hid;rw [← Aa HRR];simp [h2,show ¬ ((code.size:Int)≤frm) from by omega]
         clear HRR;go_wp2;go_ret;exact ⟨by rw [← Aa HF];rfl,hB5⟩
        | true =>
         have HF:Hid (Cd.firstIx (Cd.hndBad T (An code)) (k+1) (hs.drop (k+1))=r):=by unfold Hid;rw [← Aa HRR];simp [h2,show ¬ ((code.size:Int)≤frm) from by omega]
         clear HRR;go_wp2
         go_roundw
         case rel=>exact ⟨k+1,by omega,by go_num,HF,hB5,CF5,CM5⟩
         case measure=>simp [intOf];omega
      ·have HF:Hid ((k:Int)=r):=by unfold Hid;rw [← Aa HRR];simp [h2]
       clear HRR;go_wp2;go_ret;exact ⟨by rw [← Aa HF];rfl,hB5⟩
  ·have hf:r = -1:=by rw [← Aa HR,List.drop_eq_nil_of_le (by omega)];rfl
   have HF:=Ac hf;have hkb:¬ (k:Int) < (hs.length:Int):=by omega
   clear hf HR;go_wp2;go_ret;exact ⟨by rw [Aa HF];rfl,hB⟩
theorem M6 {c:List Int}{k p q:Nat} (h:q∈Cd.starts c k p):q < c.length:=by
 induction k generalizing p with
 | zero=>simp [Cd.starts] at h
 | succ j ih =>
  unfold Cd.starts at h;by_cases hp:p < c.length
  ·rw [if_pos hp] at h;rcases List.mem_cons.1 h with rfl | h
   ·exact hp
   ·exact ih h
  ·rw [if_neg hp] at h;simp at h
theorem Ej {c:List Int}{n:Int} (h:Cd.begB c n=true):0≤n∧n < (c.length:Int):=by
 unfold Cd.begB Cd.places at h;rw [List.any_eq_true] at h;obtain ⟨p,hp,hn⟩:=h;have:=M6 hp;simp at hn;omega
def Cd.framed (T c:List Int) (k n:Int):Bool :=
 if k=0∨k=1∨k=2 then n == 0 else if k=3 then Tr.hasB T n else if k=4 then Cd.begB c n && (c.getD n.toNat 0 == 15) else false
theorem Qk (f:RFl) (m:RMV) (k n:Int) (w:World) (hsz:m.code.size≤100000) :
  Calls Tryz.prog 58 #[f.val,m.val,.agg #[.int .i64 k,.int .i64 n]] w fun e w' =>
   e=.returned (.bool (Cd.framed f.T (An m.code) k n))∧Below w.heap.size w w':=by
 have hBe:=fun w=>Fj m n w hsz;have hHa:=fun w=>Cx f.T f.a1 f.a2 f.c1 f.ms.length f.c2 n w;have hTl:f.T.length=f.l.length:=Bt _;rw [hTl] at hHa;have hbl:=fun h=>Ej (c:=An m.code) (n:=n) h;have hna:=fun p hp=>Hm m.code p hp;rw [D9] at hbl;generalize f.T=T at *;generalize hres:Cd.framed T (An m.code) k n=R;unfold Cd.framed at hres;obtain ⟨fa1,fc1,fa2,fc2,bb,l,ms⟩:=f;obtain ⟨cl,nm,pa,pl,pc,r1,r2,lo,st,code,ha,hl',hc,ma,ml,mc,mAt,fin⟩:=m;simp only [RMV.val,RFl.val] at hsz hBe hHa hbl hna hres ⊢;generalize Cd.begB (An code) n=b at *;have HBe:=Ac hBe;have HHa:=Ac hHa;have HNA:=Ac hna;clear hBe hHa hTl hna;by_cases h012:k=0∨k=1∨k=2
 ·rw [if_pos h012] at hres;have HR:=Ac hres;clear hres hbl;rcases h012 with rfl | rfl | rfl
  all_goals
   go_enter Tryz.func58,Tryz.ntmps58;go_wp2;go_ret;exact ⟨by rw [← Aa HR];rfl,Ba _ _ _ _⟩
 ·rw [if_neg h012] at hres;by_cases h3:k=3
  ·rw [if_pos h3] at hres;subst h3;have HR:=Ac hres;clear hres hbl h012;go_enter Tryz.func58,Tryz.ntmps58;go_wp2_with fail
   refine (Aa HHa _).mono ?_;rintro e w1 ⟨rfl,hb1⟩;go_wp2;go_ret;exact ⟨by rw [← Aa HR];rfl,(Ba _ _ _ _).trans (hb1.mono (by simp;omega))⟩
  ·rw [if_neg h3] at hres;by_cases h4:k=4
   ·rw [if_pos h4] at hres;subst h4;cases b with
    | false =>
     have HR:=Ac hres;clear hres hbl h012 h3;go_enter Tryz.func58,Tryz.ntmps58;go_wp2_with fail
     refine (Aa HBe _).mono ?_;rintro e w1 ⟨rfl,hb1⟩;go_wp2;go_ret;exact ⟨by rw [← Aa HR];rfl,(Ba _ _ _ _).trans (hb1.mono (by simp;omega))⟩
    | true =>
     obtain ⟨hn0,hn1⟩:=hbl rfl;obtain ⟨p,hp⟩:=Int.eq_ofNat_of_zero_le hn0;subst hp;have hpn:p < code.size:=by omega
     have hpn':(p:Int) < (code.size:Int):=by omega
     rw [Int.toNat_natCast,Aa HNA p hpn] at hres;have HR:=Ac hres;clear hres hbl h012 h3 hn0 hn1;go_enter Tryz.func58,Tryz.ntmps58;go_wp2_with fail
     refine (Aa HBe _).mono ?_;rintro e w1 ⟨rfl,hb1⟩;have CM:=stay hb1 (Eo w _ _ _).2.1;have CT:=stay hb1 (Eo w _ _ _).2.2;have m7:=Ab CM 7;have t1:=Ab CT 1;simp at m7 t1;go_wp2;go_ret;exact ⟨by rw [← Aa HR];rfl,(Ba _ _ _ _).trans (hb1.mono (by simp;omega))⟩
   ·rw [if_neg h4] at hres;have HR:=Ac hres;have n0:(k == 0)=false:=by simp;omega
    have n1:(k == 1)=false:=by simp;omega
    have n2:(k == 2)=false:=by simp;omega
    have n3:(k == 3)=false:=by simp;omega
    have n4:(k == 4)=false:=by simp;omega
    clear hres hbl h012 h3 h4;go_enter Tryz.func58,Tryz.ntmps58;go_wp2;go_ret;exact ⟨by rw [← Aa HR];rfl,Ba _ _ _ _⟩
def Cd.frAll (T c:List Int) (l:List (Int × Int)):Bool:=l.all fun t=>Cd.framed T c t.1 t.2
def Cd.mapsBad (T c:List Int):Nat→Int→List Rd.Mp→Int
 | _,_,[]=>-1
 | i,last,x :: r=>if Cd.begB c x.place=false then (i:Int) else if x.place≤last then (i:Int) else if Cd.frAll T c x.locals=false then (i:Int) else if Cd.frAll T c x.stack=false then (i:Int) else Cd.mapsBad T c (i+1) x.place r
theorem A5 (l:List (Rd.Mp × Value × Value)) (k:Nat) (hk:k < l.length) (j:Nat) (hj:j < 3):(Cn l)[k * 3+j]?=[Value.int .i64 l[k].1.place,l[k].2.1,l[k].2.2][j]?∧k * 3+j < (Cn l).length:=by
 refine ⟨Eb (fun x:Rd.Mp × Value × Value=>[Value.int .i64 x.1.place,x.2.1,x.2.2]) 3 (fun _=>rfl) l k hk j hj,?_⟩;unfold Cn;rw [Dp (fun x:Rd.Mp × Value × Value=>[Value.int .i64 x.1.place,x.2.1,x.2.2]) 3 (fun _=>rfl) l];omega
theorem P4 (f:RFl) (m:RMV) (lm:List (Rd.Mp × Value × Value)) (w:World) (hsz:m.code.size≤100000) (hml:m.ml=lm.length) (hm4:lm.length≤1000) (hml2:∀ p∈lm,p.1.locals.length≤1000∧p.1.stack.length≤1000) (hh:RMpsIn w f.bb (.slice m.ma m.ml m.mc) lm) :
  Calls Tryz.prog 33 #[f.val,m.val] w fun e w' =>
   e=.returned (.int .i64 (Cd.mapsBad f.T (An m.code) 0 (-1) (lm.map Prod.fst)))∧Below w.heap.size w w':=by
 have hBe:=fun x w=>Fj m x w hsz;have hFr:=fun k n w=>Qk f m k n w hsz;have hB0:=Aj w (.cells #[.slice f.a1 f.l.length f.c1,.slice f.a2 f.ms.length f.c2] 44) m.obj;have CF0:=Ak w (.cells #[.slice f.a1 f.l.length f.c1,.slice f.a2 f.ms.length f.c2] 44) m.obj;have CM0:=Ah w (.cells #[.slice f.a1 f.l.length f.c1,.slice f.a2 f.ms.length f.c2] 44) m.obj;have HHN:∀ w',Below w.heap.size w w'→RMpsIn w' f.bb (.slice m.ma m.ml m.mc) lm:=fun w' hb=>hh.kp (Kp.of_below (e:=none) hb) (by decide) (by decide);generalize f.T=T at *;generalize hr:Cd.mapsBad T (An m.code) 0 (-1) (lm.map Prod.fst)=r;have HR:Hid (Cd.mapsBad T (An m.code) 0 (-1) ((lm.map Prod.fst).drop 0)=r):=hr;clear hr hh;obtain ⟨fa1,fc1,fa2,fc2,bb,l,ms⟩:=f;obtain ⟨cl,nm,pa,pl,pc,r1,r2,lo,st,code,ha,hl',hc,ma,ml,mc,mAt,fin⟩:=m;simp only at hml;subst hml;simp only [RMV.val,RMV.obj,RFl.val] at hsz hBe hFr hB0 CF0 CM0 HHN HR ⊢;have HBe:=Ac hBe;have HFr:=Ac hFr;have HHN':=Ac HHN;have HL2:=Ac hml2;clear hBe hFr HHN hml2;go_enter Tryz.func33,Tryz.ntmps33;go_wp2
 go_loopw [5,6] (fun u v wr=>∃ (k:Nat) (last:Int),k≤lm.length∧v=.int .i64 (k:Int)∧u=.int .i64 last∧Hid (Cd.mapsBad T (An code) k last ((lm.map Prod.fst).drop k)=r)∧Below w.heap.size w wr ∧
   wr.heap[w.heap.size]?=some (.cells #[.slice fa1 l.length fc1,.slice fa2 ms.length fc2] 44 (0,0))∧wr.heap[w.heap.size+1]?=some (.cells #[.int .i64 cl,.int .i64 nm,.slice pa pl pc,.int .i64 r1,.int .i64 r2,.int .i64 lo,.int .i64 st,.string code,.slice ha hl' hc,.slice ma lm.length mc,.int .i64 mAt,.int .i64 fin] 52 (0,0)))
  (fun _ v _=>lm.length - (intOf v).toNat)
 case atStart=>exact ⟨0,-1,by omega,rfl,rfl,HR,hB0,CF0,CM0⟩
 case round =>
  clear hB0 CF0 CM0 HR;obtain ⟨k,last,hk,rfl,rfl,HR,hB,CF,CM⟩:=hrel;obtain ⟨m0,m1,m2,m3,m4,m5,m6,m7,m8,m9,m10,m11⟩:=Ax CM;simp at m0 m1 m2 m3 m4 m5 m6 m7 m8 m9 m10 m11;obtain ⟨f0,f1⟩:=cl2 CF;simp at f0 f1;have hBs:=hB.size;have lF:=lt_of_block CF;have lM:=lt_of_block CM;by_cases hkn:k < lm.length
  ·have hmr:=Aa HHN' _ hB;obtain ⟨g,hg,hglt,_,hcell⟩:=Am hmr.1 (by omega);have y0:=(hcell _ (A5 lm k hkn 0 (by omega)).2).trans (A5 lm k hkn 0 (by omega)).1;have y1:=(hcell _ (A5 lm k hkn 1 (by omega)).2).trans (A5 lm k hkn 1 (by omega)).1;have y2:=(hcell _ (A5 lm k hkn 2 (by omega)).2).trans (A5 lm k hkn 2 (by omega)).1;obtain ⟨ht1,ht2⟩:=hmr.2 _ (List.getElem_mem hkn);obtain ⟨hl1,hl2⟩:=Aa HL2 _ (List.getElem_mem hkn);have hd:(lm.map Prod.fst).drop k=lm[k].1 :: (lm.map Prod.fst).drop (k+1):=by
    rw [List.drop_eq_getElem_cons (by simpa using hkn)]
    simp
   have hr:=Aa HR;rw [hd,Cd.mapsBad] at hr;generalize lm[k]=x at *;obtain ⟨⟨plc,loc,stk⟩,v1,v2⟩:=x;simp only at y0 y1 y2 ht1 ht2 hl1 hl2 hr;obtain ⟨v1a,v1c,rfl⟩:=Ae ht1;obtain ⟨v2a,v2c,rfl⟩:=Ae ht2;simp at y0 y1 y2;have hbe:=fun w=>Aa HBe plc w;generalize Cd.begB (An code) plc=B at *;have HB:=Ac hbe;have HT1:Hid (∀ w',Below wr.heap.size wr w'→TysAt w' bb (.slice v1a loc.length v1c) loc):=fun w' hb=>ht1.kp (Kp.of_below (e:=none) hb) (by decide);have HT2:Hid (∀ w',Below wr.heap.size wr w'→TysAt w' bb (.slice v2a stk.length v2c) stk):=fun w' hb=>ht2.kp (Kp.of_below (e:=none) hb) (by decide);generalize hLA:Cd.frAll T (An code) loc=LA at *;generalize hSA:Cd.frAll T (An code) stk=SA at *;have HLA:Hid (Cd.frAll T (An code) (loc.drop 0)=LA):=hLA;have HSA:Hid (Cd.frAll T (An code) (stk.drop 0)=SA):=hSA;have HRR:=Ac hr;have hkb:(k:Int) < (lm.length:Int):=by omega
   clear hbe hr hd hcell HR HHN' hLA hSA ht1 ht2 hmr HL2;subst hg;have CX:=Ad wr (.cells #[.int .i64 plc,.slice v1a loc.length v1c,.slice v2a stk.length v2c] 82);have hBo0:Below wr.heap.size wr (wr.alloc (.cells #[.int .i64 plc,.slice v1a loc.length v1c,.slice v2a stk.length v2c] 82)):=(Below.refl _ _).alloc (Nat.le_refl _) _;have CF0:=Af CF (.cells #[.int .i64 plc,.slice v1a loc.length v1c,.slice v2a stk.length v2c] 82);have CM0:=Af CM (.cells #[.int .i64 plc,.slice v1a loc.length v1c,.slice v2a stk.length v2c] 82)
   rename World=>w1
   go_wp2_with fail
   refine (Aa HB _).mono ?_;rintro e w2 ⟨rfl,hb2⟩;have hBo2:Below w1.heap.size w1 w2:=hBo0.trans (hb2.mono (by simp));have CF2:=stay hb2 CF0;have CM2:=stay hb2 CM0;have CX2:=stay hb2 CX;clear m0 m1 m2 m3 m4 m5 m6 m7 m8 m9 m10 m11 f0 f1 y0 y1 y2 hb2 CF CM CF0 CM0 CX hBo0;obtain ⟨x0,x1,x2⟩:=cl3 CX2;simp at x0 x1 x2;cases B with
   | false =>
    have HF:Hid ((k:Int)=r):=by unfold Hid;rw [← Aa HRR];simp
    clear HRR;go_wp2;go_ret;exact ⟨by rw [← Aa HF];rfl,hB.trans (hBo2.mono hBs)⟩
   | true =>
    by_cases hpl:plc≤last
    ·have HF:Hid ((k:Int)=r):=by unfold Hid;rw [← Aa HRR];simp [hpl]
     clear HRR;go_wp2;go_ret;exact ⟨by rw [← Aa HF];rfl,hB.trans (hBo2.mono hBs)⟩
    ·have HRS:Hid ((if LA=false then (k:Int) else if SA=false then (k:Int) else Cd.mapsBad T (An code) (k+1) plc ((lm.map Prod.fst).drop (k+1)))=r):=by unfold Hid;rw [← Aa HRR];simp [hpl]
     clear HRR;go_wp2
     go_loopw [9] (fun v wr=>∃ q:Nat,q≤loc.length∧v=.int .i64 (q:Int)∧Hid (Cd.frAll T (An code) (loc.drop q)=LA)∧Below w1.heap.size w1 wr ∧
       wr.heap[w.heap.size]?=some (.cells #[.slice fa1 l.length fc1,.slice fa2 ms.length fc2] 44 (0,0))∧wr.heap[w.heap.size+1]?=some (.cells #[.int .i64 cl,.int .i64 nm,.slice pa pl pc,.int .i64 r1,.int .i64 r2,.int .i64 lo,.int .i64 st,.string code,.slice ha hl' hc,.slice (some ⟨g,0,none⟩) lm.length mc,.int .i64 mAt,.int .i64 fin] 52 (0,0))∧wr.heap[w1.heap.size]?=some (.cells #[.int .i64 plc,.slice v1a loc.length v1c,.slice v2a stk.length v2c] 82 (0,0)))
      (fun v _=>loc.length - (intOf v).toNat)
     case atStart=>exact ⟨0,by omega,rfl,HLA,hBo2,CF2,CM2,CX2⟩
     case round =>
      clear HLA hBo2 CF2 CM2 CX2 x0 x1 x2;obtain ⟨q,hq,rfl,HLA,hBo,CF,CM,CX⟩:=hrel;obtain ⟨m0,m1,m2,m3,m4,m5,m6,m7,m8,m9,m10,m11⟩:=Ax CM;simp at m0 m1 m2 m3 m4 m5 m6 m7 m8 m9 m10 m11;obtain ⟨f0,f1⟩:=cl2 CF;obtain ⟨x0,x1,x2⟩:=cl3 CX;simp at f0 f1 x0 x1 x2;have lF':=lt_of_block CF;have lM':=lt_of_block CM;have lX:=lt_of_block CX;by_cases hqn:q < loc.length
      ·obtain ⟨g2,hg2,hg2lt,_,hcell2⟩:=Am (Aa HT1 _ hBo) (by omega);obtain ⟨e1,e2,e3⟩:=Bd loc q hqn;have u0:=(hcell2 (q * 2) (by omega)).trans e1;have u1:=(hcell2 (q * 2+1) (by omega)).trans e2;have hdq:loc.drop q=loc[q] :: loc.drop (q+1):=List.drop_eq_getElem_cons hqn;have hA:=Aa HLA;unfold Cd.frAll at hA;rw [hdq,List.all_cons] at hA;generalize loc[q]=t at *;obtain ⟨t1,t2⟩:=t;simp only at u0 u1 hA;have hfr:=fun w=>Aa HFr t1 t2 w;generalize Cd.framed T (An code) t1 t2=Z at *;have HZ:=Ac hfr;have HAA:=Ac hA;have qb:(q:Int) < (loc.length:Int):=by omega
       clear hfr hA hdq e1 e2 e3 hcell2 HLA;subst hg2;have lF:w.heap.size < wr.heap.size:=lF';have lM:w.heap.size+1 < wr.heap.size:=lM';have lG:g2 < wr.heap.size:=hg2lt;go_wp2
       go_region_held3 (fun w'=>w'.cell? ⟨w.heap.size,0,none⟩=some (.slice fa1 l.length fc1)∧w'.cell? ⟨w.heap.size,1,none⟩=some (.slice fa2 ms.length fc2)∧w'.cell? ⟨w.heap.size+1,0,none⟩=some (.int .i64 cl)∧w'.cell? ⟨w.heap.size+1,1,none⟩=some (.int .i64 nm)∧w'.cell? ⟨w.heap.size+1,2,none⟩=some (.slice pa pl pc)∧w'.cell? ⟨w.heap.size+1,3,none⟩=some (.int .i64 r1)∧w'.cell? ⟨w.heap.size+1,4,none⟩=some (.int .i64 r2)∧w'.cell? ⟨w.heap.size+1,5,none⟩=some (.int .i64 lo)∧w'.cell? ⟨w.heap.size+1,6,none⟩=some (.int .i64 st)∧w'.cell? ⟨w.heap.size+1,7,none⟩=some (.string code)∧w'.cell? ⟨w.heap.size+1,8,none⟩=some (.slice ha hl' hc)∧w'.cell? ⟨w.heap.size+1,9,none⟩=some (.slice (some ⟨g,0,none⟩) lm.length mc)∧w'.cell? ⟨w.heap.size+1,10,none⟩=some (.int .i64 mAt)∧w'.cell? ⟨w.heap.size+1,11,none⟩=some (.int .i64 fin)∧w'.cell? ⟨w1.heap.size,1,none⟩=some (.slice (some ⟨g2,0,none⟩) loc.length v1c)∧w'.cell? ⟨g2,q * 2,none⟩=some (.int .i64 t1)∧w'.cell? ⟨g2,q * 2+1,none⟩=some (.int .i64 t2))
        (first | exact ⟨f0,f1,m0,m1,m2,m3,m4,m5,m6,m7,m8,m9,m10,m11,x1,u0,u1⟩ | exact ⟨(hb7.cell lF).trans f0,(hb7.cell lF).trans f1,(hb7.cell lM).trans m0,(hb7.cell lM).trans m1,(hb7.cell lM).trans m2,(hb7.cell lM).trans m3,(hb7.cell lM).trans m4,(hb7.cell lM).trans m5,(hb7.cell lM).trans m6,(hb7.cell lM).trans m7,(hb7.cell lM).trans m8,(hb7.cell lM).trans m9,(hb7.cell lM).trans m10,(hb7.cell lM).trans m11,(hb7.cell lX).trans x1,(hb7.cell lG).trans u0,(hb7.cell lG).trans u1⟩)
        (first | (go_at_call 58;refine (Aa HZ _).mono ?_;rintro e w7 ⟨rfl,hb7⟩))
       have hBo7:Below w1.heap.size w1 w7:=hBo.drew.trans (hb7.mono hBo.size);have CF7:=stay hb7 (show (wr.drew).heap[w.heap.size]?=_ from CF);have CM7:=stay hb7 (show (wr.drew).heap[w.heap.size+1]?=_ from CM);have CX7:=stay hb7 (show (wr.drew).heap[w1.heap.size]?=_ from CX);clear hb7 m0 m1 m2 m3 m4 m5 m6 m7 m8 m9 m10 m11 f0 f1 x0 x1 x2 u0 u1 CF CM CX hBo lF lM lG;cases Z with
       | false =>
        have hLA:LA=false:=by rw [← Aa HAA];simp
        have HF:Hid ((k:Int)=r):=by unfold Hid;rw [← Aa HRS,hLA];simp
        clear HAA;go_wp2;go_ret;exact ⟨by rw [← Aa HF];rfl,hB.trans (hBo7.mono hBs)⟩
       | true =>
        have HG:Hid (Cd.frAll T (An code) (loc.drop (q+1))=LA):=by unfold Hid Cd.frAll;rw [← Aa HAA];simp
        clear HAA;go_wp2
        go_roundw
        case rel=>exact ⟨q+1,by omega,by go_num,HG,hBo7,CF7,CM7,CX7⟩
        case measure=>simp [intOf];omega
      ·have hLA:LA=true:=by rw [← Aa HLA,List.drop_eq_nil_of_le (by omega)];rfl
       have qb:¬ (q:Int) < (loc.length:Int):=by omega
       clear HLA;have HRT:Hid ((if SA=false then (k:Int) else Cd.mapsBad T (An code) (k+1) plc ((lm.map Prod.fst).drop (k+1)))=r):=by unfold Hid;rw [← Aa HRS,hLA];simp
       have hBo2:=hBo;have CF2:=CF;have CM2:=CM;have CX2:=CX;clear HRS hLA hBo CF CM CX m0 m1 m2 m3 m4 m5 m6 m7 m8 m9 m10 m11 f0 f1 lF' lM' lX;go_wp2
       go_loopw [11] (fun v wr=>∃ q:Nat,q≤stk.length∧v=.int .i64 (q:Int)∧Hid (Cd.frAll T (An code) (stk.drop q)=SA)∧Below w1.heap.size w1 wr ∧
         wr.heap[w.heap.size]?=some (.cells #[.slice fa1 l.length fc1,.slice fa2 ms.length fc2] 44 (0,0))∧wr.heap[w.heap.size+1]?=some (.cells #[.int .i64 cl,.int .i64 nm,.slice pa pl pc,.int .i64 r1,.int .i64 r2,.int .i64 lo,.int .i64 st,.string code,.slice ha hl' hc,.slice (some ⟨g,0,none⟩) lm.length mc,.int .i64 mAt,.int .i64 fin] 52 (0,0))∧wr.heap[w1.heap.size]?=some (.cells #[.int .i64 plc,.slice v1a loc.length v1c,.slice v2a stk.length v2c] 82 (0,0)))
        (fun v _=>stk.length - (intOf v).toNat)
       case atStart=>exact ⟨0,by omega,rfl,HSA,hBo2,CF2,CM2,CX2⟩
       case round =>
        clear HSA hBo2 CF2 CM2 CX2 x0 x1 x2;obtain ⟨q,hq,rfl,HSA,hBo,CF,CM,CX⟩:=hrel;obtain ⟨m0,m1,m2,m3,m4,m5,m6,m7,m8,m9,m10,m11⟩:=Ax CM;simp at m0 m1 m2 m3 m4 m5 m6 m7 m8 m9 m10 m11;obtain ⟨f0,f1⟩:=cl2 CF;obtain ⟨x0,x1,x2⟩:=cl3 CX;simp at f0 f1 x0 x1 x2;have lF':=lt_of_block CF;have lM':=lt_of_block CM;have lX:=lt_of_block CX;by_cases hqn:q < stk.length
        ·obtain ⟨g2,hg2,hg2lt,_,hcell2⟩:=Am (Aa HT2 _ hBo) (by omega);obtain ⟨e1,e2,e3⟩:=Bd stk q hqn;have u0:=(hcell2 (q * 2) (by omega)).trans e1;have u1:=(hcell2 (q * 2+1) (by omega)).trans e2;have hdq:stk.drop q=stk[q] :: stk.drop (q+1):=List.drop_eq_getElem_cons hqn;have hA:=Aa HSA;unfold Cd.frAll at hA;rw [hdq,List.all_cons] at hA;generalize stk[q]=t at *;obtain ⟨t1,t2⟩:=t;simp only at u0 u1 hA;have hfr:=fun w=>Aa HFr t1 t2 w;generalize Cd.framed T (An code) t1 t2=Z at *;have HZ:=Ac hfr;have HAA:=Ac hA;have qb:(q:Int) < (stk.length:Int):=by omega
         clear hfr hA hdq e1 e2 e3 hcell2 HSA;subst hg2;have lF:w.heap.size < wr.heap.size:=lF';have lM:w.heap.size+1 < wr.heap.size:=lM';have lG:g2 < wr.heap.size:=hg2lt;go_wp2
         go_region_held3 (fun w'=>w'.cell? ⟨w.heap.size,0,none⟩=some (.slice fa1 l.length fc1)∧w'.cell? ⟨w.heap.size,1,none⟩=some (.slice fa2 ms.length fc2)∧w'.cell? ⟨w.heap.size+1,0,none⟩=some (.int .i64 cl)∧w'.cell? ⟨w.heap.size+1,1,none⟩=some (.int .i64 nm)∧w'.cell? ⟨w.heap.size+1,2,none⟩=some (.slice pa pl pc)∧w'.cell? ⟨w.heap.size+1,3,none⟩=some (.int .i64 r1)∧w'.cell? ⟨w.heap.size+1,4,none⟩=some (.int .i64 r2)∧w'.cell? ⟨w.heap.size+1,5,none⟩=some (.int .i64 lo)∧w'.cell? ⟨w.heap.size+1,6,none⟩=some (.int .i64 st)∧w'.cell? ⟨w.heap.size+1,7,none⟩=some (.string code)∧w'.cell? ⟨w.heap.size+1,8,none⟩=some (.slice ha hl' hc)∧w'.cell? ⟨w.heap.size+1,9,none⟩=some (.slice (some ⟨g,0,none⟩) lm.length mc)∧w'.cell? ⟨w.heap.size+1,10,none⟩=some (.int .i64 mAt)∧w'.cell? ⟨w.heap.size+1,11,none⟩=some (.int .i64 fin)∧w'.cell? ⟨w1.heap.size,2,none⟩=some (.slice (some ⟨g2,0,none⟩) stk.length v2c)∧w'.cell? ⟨g2,q * 2,none⟩=some (.int .i64 t1)∧w'.cell? ⟨g2,q * 2+1,none⟩=some (.int .i64 t2))
          (first | exact ⟨f0,f1,m0,m1,m2,m3,m4,m5,m6,m7,m8,m9,m10,m11,x2,u0,u1⟩ | exact ⟨(hb7.cell lF).trans f0,(hb7.cell lF).trans f1,(hb7.cell lM).trans m0,(hb7.cell lM).trans m1,(hb7.cell lM).trans m2,(hb7.cell lM).trans m3,(hb7.cell lM).trans m4,(hb7.cell lM).trans m5,(hb7.cell lM).trans m6,(hb7.cell lM).trans m7,(hb7.cell lM).trans m8,(hb7.cell lM).trans m9,(hb7.cell lM).trans m10,(hb7.cell lM).trans m11,(hb7.cell lX).trans x2,(hb7.cell lG).trans u0,(hb7.cell lG).trans u1⟩)
          (first | (go_at_call 58;refine (Aa HZ _).mono ?_;rintro e w7 ⟨rfl,hb7⟩))
         have hBo7:Below w1.heap.size w1 w7:=hBo.drew.trans (hb7.mono hBo.size);have CF7:=stay hb7 (show (wr.drew).heap[w.heap.size]?=_ from CF);have CM7:=stay hb7 (show (wr.drew).heap[w.heap.size+1]?=_ from CM);have CX7:=stay hb7 (show (wr.drew).heap[w1.heap.size]?=_ from CX);clear hb7 m0 m1 m2 m3 m4 m5 m6 m7 m8 m9 m10 m11 f0 f1 x0 x1 x2 u0 u1 CF CM CX hBo lF lM lG;cases Z with
         | false =>
          have hLA:SA=false:=by rw [← Aa HAA];simp
          have HF:Hid ((k:Int)=r):=by unfold Hid;rw [← Aa HRT,hLA];simp
          clear HAA;go_wp2;go_ret;exact ⟨by rw [← Aa HF];rfl,hB.trans (hBo7.mono hBs)⟩
         | true =>
          have HG:Hid (Cd.frAll T (An code) (stk.drop (q+1))=SA):=by unfold Hid Cd.frAll;rw [← Aa HAA];simp
          clear HAA;go_wp2
          go_roundw
          case rel=>exact ⟨q+1,by omega,by go_num,HG,hBo7,CF7,CM7,CX7⟩
          case measure=>simp [intOf];omega
        ·have hLA:SA=true:=by rw [← Aa HSA,List.drop_eq_nil_of_le (by omega)];rfl
         have qb:¬ (q:Int) < (stk.length:Int):=by omega
         clear HSA;have HG:Hid (Cd.mapsBad T (An code) (k+1) plc ((lm.map Prod.fst).drop (k+1))=r):=by unfold Hid;rw [← Aa HRT,hLA];simp
         clear HRT hLA;go_wp2
         go_roundw
         case rel=>exact ⟨k+1,_,by omega,by go_num,rfl,HG,hB.trans (hBo.mono hBs),CF,CM⟩
         case measure=>simp [intOf];omega
  ·have hf:r = -1:=by rw [← Aa HR,List.drop_eq_nil_of_le (by simp;omega)];rfl
   have HF:=Ac hf;have hkb:¬ (k:Int) < (lm.length:Int):=by omega
   clear hf HR;go_wp2;go_ret;exact ⟨by rw [Aa HF];rfl,hB⟩
theorem Im {α:Type} [DecidableEq α] {a b:List α}{k:Nat} (ha:k < a.length) (hb:k < b.length):decide (a.drop k=b.drop k)=(decide (a[k]=b[k]) && decide (a.drop (k+1)=b.drop (k+1))):=by
 rw [List.drop_eq_getElem_cons ha,List.drop_eq_getElem_cons hb];simp only [List.cons.injEq];exact Bool.decide_and _ _
theorem Nv (la lb:List (Int × Int)) (a1 a2:Option Addr) (c1 c2 b1 b2:Nat) (w:World) (ha:TysAt w b1 (.slice a1 la.length c1) la) (hb:TysAt w b2 (.slice a2 lb.length c2) lb) (hl:la.length≤1000) (hl2:lb.length≤1000) :
  Calls Tryz.prog 53 #[.slice a1 la.length c1,.slice a2 lb.length c2] w fun e w'=>e=.returned (.bool (decide (la=lb)))∧Below w.heap.size w w':=by
 by_cases hlen:la.length=lb.length
 ·generalize hr:decide (la=lb)=r;have HR:Hid (decide (la.drop 0=lb.drop 0)=r):=hr;clear hr;have hlen':((la.length:Int) != (lb.length:Int))=false:=by simp;omega
  have HHL:=Ac hlen;clear hlen;go_enter Tryz.func53,Tryz.ntmps53;go_wp2
  go_loopw [5] (fun v wr=>∃ k:Nat,k≤la.length∧v=.int .i64 (k:Int)∧Hid (decide (la.drop k=lb.drop k)=r)∧Below w.heap.size w wr)
   (fun v _=>la.length - (intOf v).toNat)
  case atStart=>exact ⟨0,by omega,rfl,HR,Below.refl _ _⟩
  case round =>
   clear HR;obtain ⟨k,hk,rfl,HR,hB⟩:=hrel;by_cases hkn:k < la.length
   ·have hkn2:k < lb.length:=by have:=Aa HHL;omega
    obtain ⟨g,hg,hglt,_,hcell⟩:=Am (ha.kp (Kp.of_below (e:=none) hB) (by decide)) (by omega);obtain ⟨g2,hg2,hglt2,_,hcell2⟩:=Am (hb.kp (Kp.of_below (e:=none) hB) (by decide)) (by omega);obtain ⟨t1,t2,t3⟩:=Bd la k hkn;obtain ⟨s1,s2,s3⟩:=Bd lb k hkn2;have u0:=(hcell (k * 2) (by omega)).trans t1;have u1:=(hcell (k * 2+1) (by omega)).trans t2;have v0:=(hcell2 (k * 2) (by omega)).trans s1;have v1:=(hcell2 (k * 2+1) (by omega)).trans s2;have hr:=Aa HR;rw [Im hkn hkn2] at hr;generalize la[k]=x at *;generalize lb[k]=y at *;obtain ⟨x1,x2⟩:=x;obtain ⟨y1,y2⟩:=y;simp only [Prod.mk.injEq] at u0 u1 v0 v1 hr;have kb1:(k:Int) < (la.length:Int):=by omega
    have kb2:(k:Int) < (lb.length:Int):=by omega
    have HRR:=Ac hr;clear hr HR hcell hcell2 t1 t2 t3 s1 s2 s3;subst hg hg2;by_cases hxy:x1=y1∧x2=y2
    ·obtain ⟨rfl,rfl⟩:=hxy;have HF:Hid (decide (la.drop (k+1)=lb.drop (k+1))=r):=by unfold Hid;rw [← Aa HRR];simp
     clear HRR;go_wp2
     go_region
     all_goals
      go_wp2
      go_roundw
      case rel=>exact ⟨k+1,by omega,by go_num,HF,hB.drew⟩
      case measure=>simp [intOf];omega
    ·have hr2:r=false:=by rw [← Aa HRR];simp [hxy]
     have HF:=Ac hr2;clear HRR hr2;by_cases h1:x1=y1
     ·subst h1;have h2:¬ x2=y2:=fun h=>hxy ⟨rfl,h⟩;clear hxy;go_wp2
      go_region
      all_goals
       go_wp2;go_ret;exact ⟨by rw [Aa HF];rfl,hB.drew⟩
     ·clear hxy;go_wp2
      go_region
      all_goals
       go_wp2;go_ret;exact ⟨by rw [Aa HF];rfl,hB.drew⟩
   ·have hr2:r=true:=by
     rw [← Aa HR,List.drop_eq_nil_of_le (by omega),List.drop_eq_nil_of_le (by have:=Aa HHL;omega)];rfl
    have HF:=Ac hr2;have kb1:¬ (k:Int) < (la.length:Int):=by omega
    clear hr2 HR;go_wp2;go_ret;exact ⟨by rw [Aa HF];rfl,hB⟩
 ·have hne:la ≠ lb:=fun h=>hlen (by rw [h]);have hd:decide (la=lb)=false:=by simp [hne]
  rw [hd];have hlen':((la.length:Int) != (lb.length:Int))=true:=by simp;omega
  clear hlen hne;go_enter Tryz.func53,Tryz.ntmps53;go_wp2;go_ret;exact ⟨rfl,Below.refl _ _⟩
def RMV.list (m:RMV):List Value:=[.int .i64 m.cl,.int .i64 m.nm,.slice m.pa m.pl m.pc,.int .i64 m.r1,.int .i64 m.r2,.int .i64 m.lo,.int .i64 m.st,.string m.code,.slice m.ha m.hl m.hc,.slice m.ma m.ml m.mc,.int .i64 m.mAt,.int .i64 m.fin]
structure RMV.is (m:RMV) (x:Rf.Mth) (w:World) (bb:Nat):Prop where
 cl:m.cl=x.m.cl
 nm:m.nm=x.m.name
 r1:m.r1=x.m.result.1
 r2:m.r2=x.m.result.2
 lo:m.lo=x.m.locals
 st:m.st=x.m.stack
 mAt:m.mAt=x.mapsAt
 fin:m.fin=x.fin
 pl:m.pl=x.m.params.length
 ps:TysAt w bb (.slice m.pa m.pl m.pc) x.m.params
 code:An m.code=x.m.code
 hl:m.hl=x.m.handlers.length
 hs:RHndsAt w bb (.slice m.ha m.hl m.hc) x.m.handlers
 ml:m.ml=x.m.maps.length
 mp:Ul w bb (.slice m.ma m.ml m.mc) x.m.maps
theorem RMV.is.below {m:RMV}{x:Rf.Mth}{w w':World}{bb:Nat} (h:m.is x w bb) (hb:Below w.heap.size w w'):m.is x w' bb:=by
 obtain ⟨h1,h2,h3,h4,h5,h6,h7,h8,h9,h10,h11,h12,h13,h14,l,hl,h15⟩:=h;exact ⟨h1,h2,h3,h4,h5,h6,h7,h8,h9,h10.kp (Kp.of_below (e:=none) hb) (by decide),h11,h12,h13.kp (Kp.of_below (e:=none) hb) (by decide),h14,l,hl,h15.kp (Kp.of_below (e:=none) hb) (by decide) (by decide)⟩
theorem RFl.mth {f:RFl}{w:World} (hf:f.ok w) {k:Nat} (hk:k < f.ms.length) :
  ∃ (m:RMV) (g:Nat),f.a2=some ⟨g,0,none⟩∧g < w.heap.size∧(∀ j v,m.list[j]?=some v→w.cell? ⟨g,k * 12+j,none⟩=some v)∧m.is f.ms[k].1 w f.bb:=by
 obtain ⟨hrow,hall⟩:=hf.2.2.2.2.2;obtain ⟨g,hg,hglt,_,hcell⟩:=Am hrow (by omega);obtain ⟨hp,hc,hh,lm,hlm,hm⟩:=hall _ (List.getElem_mem hk);have hat:=fun j hj=>Jk f.ms k hk j hj;generalize f.ms[k]=x at *;obtain ⟨x,u⟩:=x;obtain ⟨up,uc,uh,um⟩:=u;simp only at hp hc hh hm hat;obtain ⟨pa,pc,rfl⟩:=Ae hp;obtain ⟨ha,hc',rfl⟩:=Ae hh;obtain ⟨ma,mc,rfl⟩:=Ae hm.1;have hml:lm.length=x.m.maps.length:=by rw [← hlm];simp
 refine ⟨⟨x.m.cl,x.m.name,pa,x.m.params.length,pc,x.m.result.1,x.m.result.2,x.m.locals,x.m.stack,uc,ha,x.m.handlers.length,hc',ma,lm.length,mc,x.mapsAt,x.fin⟩,g,hg,hglt,?_,⟨rfl,rfl,rfl,rfl,rfl,rfl,rfl,rfl,rfl,hp,hc,rfl,hh,hml,lm,hlm,hm⟩⟩;intro j v hv;have hj:j < 12:=by
  have:=(List.getElem?_eq_some_iff.1 hv).1
  simpa [RMV.list] using this
 obtain ⟨e1,e2⟩:=hat j hj;rw [hcell _ e2,e1,← hv];rfl
end Go.Proofs.YtcefiamkoincoaaGreat
