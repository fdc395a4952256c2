/- a part of the proof in YtpcgnjolfahacaaGreatFurtherProof -/
import Derived.Deep.Slices
import Derived.Deep.Strs
import Derived.WalkKit
import Derived.ProofKit
import Derived.OpenShut
import Derived.ShutString
import Derived.ChangeOld
import Derived.ChangeSlices
import Derived.Below
import Derived.Lib.SmallJoins
import Derived.Deep.Cut
import Derived.Test.YtpcgnjolfahacaaGreatPk25
set_option maxRecDepth 100000
set_option maxHeartbeats 40000000
set_option linter.unusedVariables false
set_option linter.unusedSimpArgs false
namespace Go.Proofs.YtpcgnjolfahacaaGreat
open Go.RowKit
theorem Te (w:World):Calls Tryz.prog 13 #[] w fun e w'=>e=.returned (.bool true)∧Below w.heap.size w w':=by
 have hC:=fun w=>Vw Ae6 w (by decide);have hP:=fun w=>Ry Ahf w (by decide);have hS:=fun w=>W9 Ae6 w (by decide);rw[Zh,Acl]at hP;rw[Wq,Qb]at hS;rw[Ng]at hC;generalize (Aec Ae6.data.toList).2.1=c1 at *;generalize (Aec Ae6.data.toList).2.2=c2 at *;simp only[Ae6,Ahf]at hC hP hS;have HC:=Ac hC;have HP:=Ac hP;have HS:=Ac hS;clear hC hP hS;go_enter Tryz.func13,Tryz.ntmps13;go_wp2_with fail
 refine(Aa HC _).mono ?_;rintro e w1 ⟨rfl,hb1⟩;go_wp2_with fail
 refine(Aa HP _).mono ?_;rintro e w2 ⟨rfl,hb2⟩;have hB2:=QB hb1 hb2;go_wp2_with fail
 refine(Aa HS _).mono ?_;rintro e w3 ⟨rfl,hb3⟩;have hB3:=QB hB2 hb3;go_wp2;go_ret;exact⟨by simp,hB3⟩
theorem Wv (s:ByteArray) (ins out:List Int) (h d f st va sp:Int) (ia oa:Option Addr) (ic oc:Nat) (w:World) (hs:s.size≤maxLen) (hl:ins.length≤maxLen) (hi:IntR w ia ins) (ho:IntR w oa out) (hol:out.length≤100000)
  (hQ:Mc.runOf s.data.toList 0 ins h d f=⟨out,st,va,sp,0⟩) :
  Calls Tryz.prog 33 #[.string s,.slice ia ins.length ic,.int .i64 h,.int .i64 d,.int .i64 f,.slice oa out.length oc,.int .i64 st,.int .i64 va,.int .i64 sp] w fun e w'=>e=.returned (.bool true)∧Below w.heap.size w w':=by
 have HR:=Ac (Ix s 0 ins h d f ia ic w hs hl hi _ hQ);have HO:=Ac ho;clear hi ho hQ;go_enter Tryz.func33,Tryz.ntmps33;go_wp2_with fail
 refine(Aa HR).mono ?_;rintro e w1 ⟨xa,xc,rfl,hout,hb1⟩;have hB2:=hb1.alloc hb1.size (O27 xa out.length xc st va sp);have hB12:=(Below.refl w1.heap.size w1).alloc (Nat.le_refl _) (O27 xa out.length xc st va sp);have HE:=Ac (Iq out st va sp xa oa xc oc _ ((IntR.of_ints hout).below hB12) ((Aa HO).below hB2) hol);clear HR HO hout;go_wp2_with fail
 refine(Aa HE).mono ?_;rintro e w2 ⟨rfl,hb2⟩;have hB3:=QB hB2 hb2;go_wp2;go_ret;exact⟨rfl,hB3⟩
theorem Aa1:Mc.runOf Ae6.data.toList 0 [2] 0 1 20=⟨[2,1],0,0,20,0⟩:=by
 unfold Mc.runOf;rw[if_neg (by rw[Ng];simp),if_neg (by decide +kernel)];exact @of_decide_eq_true _ (Mc.Res.dec _ _) (by decide +kernel)
theorem Lr (w:World):Calls Tryz.prog 40 #[] w fun e w'=>e=.returned (.bool true)∧Below w.heap.size w w':=by
 have hD:=fun w ia oa ic oc hi ho=>Wv Ae6 [2] [2,1] 0 1 20 0 0 20 ia oa ic oc w (by decide) (by decide) hi ho (by decide) Aa1;simp only[Ae6]at hD;have HD:=Ac hD;have HF:=Ac Te;clear hD;go_enter Tryz.func40,Tryz.ntmps40;go_wp2_with fail
 refine(Aa HF _).mono ?_;rintro e w1 ⟨rfl,hb1⟩;have hB1:=(Aj w1 (O4 2) (O28 2 1));have hB2:=QB hb1 hB1;have C0:=Ak w1 (O4 2) (O28 2 1);have D0:=Ai w1 (O4 2) (O28 2 1);go_wp2_with fail
 refine(Aa HD _ _ _ _ _ ?_ ?_).mono ?_
 ·intro i hi;refine⟨_,0,rfl,lt_of_block C0,?_⟩;have:i=0:=by simp at hi;omega
  subst this;exact(Ab C0 0).trans rfl
 ·intro i hi;refine⟨_,0,rfl,lt_of_block D0,?_⟩;have:i=0∨i=1:=by simp at hi;omega
  rcases this with rfl|rfl
  ·exact(Ab D0 0).trans rfl
  ·exact(Ab D0 1).trans rfl
 ·rintro e w2 ⟨rfl,hb2⟩;have hB3:=QB hB2 hb2;go_wp2;go_ret;exact⟨rfl,hB3⟩
open Go.ChangeShapes Go.WideShapes Go.ChangeAt Go.RowKit Go.Deep Go.Joins
theorem Tryz.cellsKS:Tryz.prog.cellsOf 37=5:=by kernel_rfl
theorem Tryz.cellsKI:Tryz.prog.cellsOf 3=1:=by kernel_rfl
theorem Tryz.cellsKL:Tryz.prog.cellsOf 26=1:=by kernel_rfl
section
variable {H:Type}{enc:TypeId × Value→H}
theorem Ux {W:World}{n:Nat}{c:Value}{x:DataW H × List MemPlace} (h:DataW.trod enc Tryz.prog W 0 (fun _=>true) true n 26 [c]=some x) :
  ∃ (a:Option Addr) (ic:Nat) (ins:List Int),c=.slice a ins.length ic∧ins.length≤maxLen∧IntR W a ins∧∀ n∈ins,-9223372036854775808≤n∧n≤9223372036854775807:=by
 rcases open_ints Tryz.underlying26 Tryz.underlying3 Tryz.cellsKI h with ⟨hc,_⟩|⟨a,len,cap,zs,hc,_,hl,hm,hz,_,hcell,hwz⟩
 ·simp only[List.cons.injEq,and_true]at hc;exact⟨none,0,[],hc,by simp,IntR.nil _ _,by simp⟩
 ·simp only[List.cons.injEq,and_true]at hc;subst hc;have hz':zs.length=cap:=by simpa using hz
  have hlen:(zs.take len).length=len:=by rw[List.length_take];omega
  refine⟨some a,cap,zs.take len,by rw[hlen],by rw[hlen];omega,fun i hi=>?_,fun n hn=>bounds_i64 (hwz n (List.mem_of_mem_take hn))⟩;rw[hlen]at hi;obtain⟨b,off,spot⟩:=a;have hc1:=hcell 0 (by omega);have hspot:spot=none:=by simpa[Addr.add] using World.cell?_spot hc1
  subst hspot;have hadd:(⟨b,off,none⟩:Addr).add i=⟨b,off+i,none⟩:=by unfold Addr.add;split<;>simp_all
  have hc0:W.cell? ⟨b,off+i,none⟩=some (.int .i64 (zs.getD i 0)):=by rw[← hadd];exact hcell i (by omega)
  refine⟨b,off,rfl,World.block_lt_of_cell? W _ hc0,?_⟩;rw[hc0];simp[List.getD_eq_getElem?_getD,hi]
theorem Ui {W:World}{b0:Nat}{v:Value}{d:DataW H}{p:List MemPlace} (hv:Value.okWide Tryz.prog W .any b0 37 v) (h:DataW.Trod enc Tryz.prog W 0 (fun _=>true) true 37 v d p) :
  ∃ (en:Int) (ia:Option Addr) (ic:Nat) (ins:List Int) (h d f:Int),v=.agg #[.int .i64 en,.slice ia ins.length ic,.int .i64 h,.int .i64 d,.int .i64 f]∧ins.length≤maxLen∧IntR W ia ins:=by
 obtain⟨cs,rfl,hsz⟩:=okWide_struct Tryz.underlying37 hv;obtain⟨fuel,hf⟩:=h;obtain⟨xs,m,_,_,hl,hlen,hff⟩:=DataW.trod_struct Tryz.underlying37 hf;rw[Tryz.cellsKS]at hsz;obtain⟨l,rfl⟩:∃ l:List Value,cs=l.toArray:=⟨cs.toList,by simp⟩
 match l,(show l.length=5 by simpa using hsz) with
 | [c0,c1,c2,c3,c4],_ =>
  match xs,hlen with
  | [y0,y1,y2,y3,y4],_ =>
   have g0:DataW.trod enc Tryz.prog W 0 (fun _=>true) true m 3 [c0]=some y0:=by simpa[Tryz.cellsKI,Value.cells] using hff 0 _ rfl
   have g1:DataW.trod enc Tryz.prog W 0 (fun _=>true) true m 26 [c1]=some y1:=by simpa[Tryz.cellsKL,Value.cells] using hff 1 _ rfl
   have g2:DataW.trod enc Tryz.prog W 0 (fun _=>true) true m 3 [c2]=some y2:=by simpa[Tryz.cellsKI,Value.cells] using hff 2 _ rfl
   have g3:DataW.trod enc Tryz.prog W 0 (fun _=>true) true m 3 [c3]=some y3:=by simpa[Tryz.cellsKI,Value.cells] using hff 3 _ rfl
   have g4:DataW.trod enc Tryz.prog W 0 (fun _=>true) true m 3 [c4]=some y4:=by simpa[Tryz.cellsKI,Value.cells] using hff 4 _ rfl
   obtain⟨en,e0,_,_⟩:=DataW.trod_int Tryz.underlying3 g0;obtain⟨ia,ic,ins,e1,hle,hin,_⟩:=Ux g1;obtain⟨q2,e2,_,_⟩:=DataW.trod_int Tryz.underlying3 g2;obtain⟨q3,e3,_,_⟩:=DataW.trod_int Tryz.underlying3 g3;obtain⟨q4,e4,_,_⟩:=DataW.trod_int Tryz.underlying3 g4;simp only[List.cons.injEq,and_true]at e0 e2 e3 e4;subst e0 e1 e2 e3 e4;exact⟨en,ia,ic,ins,q2,q3,q4,rfl,hle,hin⟩
end
theorem In {ms:List Rd.Mth}{en:Int}{l:List Int}{h d f:Int} (hf:f<0∨3000<f):Mc.startErr ms en l h d f≠0:=fun z=>by
 obtain⟨_,_,_,_,_,g1,g2,_⟩:=H4 z;omega
theorem Qt {ms:List Rd.Mth}{en:Int}{l:List Int}{h d f g:Int} (hf0:0≤f) (hf:f≤3000) (hg0:0≤g) (hg:g≤3000):Mc.startErr ms en l h d f=Mc.startErr ms en l h d g:=by
 unfold Mc.startErr;rw[if_neg (show ¬ f<0 by omega),if_neg (show ¬ 3000<f by omega),if_neg (show ¬ g<0 by omega),if_neg (show ¬ 3000<g by omega)]
theorem U9 (s:List UInt8) (en:Int) (ins:List Int) (h d f:Int) (hf:f<0∨3000<f):∃ e,e≠0∧Mc.runOf s en ins h d f=⟨[],0,0,0,e⟩:=by
 unfold Mc.runOf;by_cases h1:(Aec s).1≠0
 ·exact⟨_,h1,by rw[if_pos h1]⟩
 ·exact⟨_,In hf,by rw[if_neg h1,if_pos (In hf)]⟩
structure Mc.More (f g:Int) (A B:Mc.S):Prop where
 a:(A.steps:Int)≤f
 b:(B.steps:Int)≤g
 ab:(A.steps:Int)≤(B.steps:Int)
 o:(A.out.length:Int)≤(A.steps:Int)
 al:A.out.length≤100000
 bl:B.out.length≤100000
 c:(A.status=1∧(∃ l,B.out=A.out++l)∧(A.steps:Int)=f∧A.value=0)∨(A=B∧(0:Int)<(A.steps:Int)∧(A.status=0∨A.status=2))
theorem Zk (s:List UInt8) (en:Int) (ins:List Int) (h d f g:Int) (hf0:0≤f) (hfg:f≤g) (hg:g≤3000) :
  (∃ e,e≠0∧Mc.runOf s en ins h d f=⟨[],0,0,0,e⟩∧Mc.runOf s en ins h d g=⟨[],0,0,0,e⟩)∨∃ A B,Mc.runOf s en ins h d f=Mc.resOf A∧Mc.runOf s en ins h d g=Mc.resOf B∧Mc.More f g A B:=by
 unfold Mc.runOf;by_cases h1:(Aec s).1≠0
 ·exact Or.inl ⟨_,h1,by rw[if_pos h1],by rw[if_pos h1]⟩
 ·have he:=Qt (ms:=(Rd.read s).1.methods) (en:=en) (l:=ins) (h:=h) (d:=d) hf0 (show f≤3000 by omega) (show 0≤g by omega) hg;rw[if_neg h1,if_neg h1,← he];by_cases h2:Mc.startErr (Rd.read s).1.methods en ins h d f≠0
  ·exact Or.inl ⟨_,h2,by rw[if_pos h2],by rw[if_pos h2]⟩
  ·rw[if_neg h2,if_neg h2];obtain⟨n,rfl⟩:=Int.eq_ofNat_of_zero_le hf0;obtain⟨m,rfl⟩:=Int.eq_ofNat_of_zero_le (show 0≤g by omega);refine Or.inr ⟨_,_,rfl,rfl,?_⟩;rw[Int.toNat_natCast,Int.toNat_natCast];obtain⟨k1,k2,k3,k4,k5⟩:=Sv (Mc.env (Rd.read s).1.classes (Rd.read s).1.methods ins h d) n (m-n) en _ _ rfl rfl;have em:n+(m-n)=m:=by omega
   rw[em]at k2 k3 k5;obtain⟨-,-,-,j4,-⟩:=Sv (Mc.env (Rd.read s).1.classes (Rd.read s).1.methods ins h d) m 0 en _ _ rfl rfl;refine⟨by omega,by omega,by omega,by omega,by omega,by omega,?_⟩;rcases k5 with ⟨p1,p2,p3,p4⟩ | ⟨p1,p2,p3⟩
   ·exact Or.inl ⟨p1,p2,by omega,p4⟩
   ·exact Or.inr ⟨p1,by omega,p3⟩
theorem Tryz.infoStart:(Tryz.prog.info? 37).map (·.size)=some 5:=by kernel_rfl
theorem Jw (s:ByteArray) (en:Int) (ins:List Int) (h d f more:Int) (ia:Option Addr) (ic:Nat) (w:World) (hs:s.size≤maxLen) (hl:ins.length≤maxLen) (hi:IntR w ia ins) (hf:f<0∨3000<f) :
  Calls Tryz.prog 11 #[.string s,.agg #[.int .i64 en,.slice ia ins.length ic,.int .i64 h,.int .i64 d,.int .i64 f],.int .i64 more] w fun e w'=>e=.returned (.bool true)∧Below w.heap.size w w':=by
 obtain⟨er,he,hQ⟩:=U9 s.data.toList en ins h d f hf;have hB0:=(Below.refl w.heap.size w).alloc (Nat.le_refl _) (O26 en ia ins.length ic h d f);have C0:(w.alloc (O26 en ia ins.length ic h d f)).heap[w.heap.size]?=some (O26 en ia ins.length ic h d f):=Ad w (O26 en ia ins.length ic h d f);have HR:=Ac (fun w' (hb:Below w.heap.size w w')=>Ix s en ins h d f ia ic w' hs hl (hi.below hb) _ hQ);have HK:=Ac Lr;have HE:=Ac Ki;have he':(er != 0)=true:=by simpa using he
 clear hi hQ;have key:∀ (_:Hid (f<0∨3000<f)),True:=fun _=>trivial;go_enter Tryz.func11,Tryz.ntmps11;go_wp2_with fail
 refine(Aa HK _).mono ?_;rintro e w1 ⟨rfl,hb1⟩;have hB1:=QB hB0 hb1;have C1:=stay hb1 C0;have s0:=(Ab C1 0).trans (show _=some (.int .i64 en) from rfl);have s1:=(Ab C1 1).trans (show _=some (.slice ia ins.length ic) from rfl);have s2:=(Ab C1 2).trans (show _=some (.int .i64 h) from rfl);have s3:=(Ab C1 3).trans (show _=some (.int .i64 d) from rfl);have s4:=(Ab C1 4).trans (show _=some (.int .i64 f) from rfl);have HF:=Ac hf;clear hf key;go_wp2_with fail
 refine(Aa HR _ hB1).mono ?_;rintro e w2 ⟨xa,xc,rfl,-,hb2⟩;have hB2:=QB hB1 hb2;have C2:=Ae (stay hb2 C1) (O27 xa 0 xc 0 0 0);have D2:=Ad w2 (O27 xa 0 xc 0 0 0);have hB3:=hB2.alloc hB2.size (O27 xa 0 xc 0 0 0);clear s0 s1 s2 s3 s4 HR HK C0 C1 hb1 hb2 hB0 hB1 hB2
 go_upto_region 5 with fail
 have t4:=(Ab C2 4).trans (show _=some (.int .i64 f) from rfl);have o0:=(Ab D2 0).trans (show _=some (.slice xa 0 xc) from rfl);have o1:=(Ab D2 1).trans (show _=some (.int .i64 0) from rfl);have o2:=(Ab D2 2).trans (show _=some (.int .i64 0) from rfl);have o3:=(Ab D2 3).trans (show _=some (.int .i64 0) from rfl);generalize w2.alloc (O27 xa 0 xc 0 0 0)=w3 at *;by_cases h1:f<0
 ·clear HF;go_wp2_with fail
  refine(Aa HE _ _ _).mono ?_;rintro e w4 ⟨rfl,hb4⟩;have hB4:=QB hB3 hb4;go_wp2;go_ret;exact⟨rfl,hB4⟩
 ·have h2:3000<f:=by rcases Aa HF with h | h;exact absurd h h1;exact h
  clear HF;go_wp2_with fail
  refine(Aa HE _ _ _).mono ?_;rintro e w4 ⟨rfl,hb4⟩;have hB4:=QB hB3 hb4;go_wp2;go_ret;exact⟨rfl,hB4⟩
theorem Uq (s:ByteArray) (en:Int) (ins:List Int) (h d f more:Int) (ia:Option Addr) (ic:Nat) (w:World) (hs:s.size≤maxLen) (hl:ins.length≤maxLen) (hi:IntR w ia ins) (hf0:0≤f) (hf1:f≤3000) (hm0:-9223372036854775808≤more) (hm1:more≤9223372036854775807) :
  Calls Tryz.prog 11 #[.string s,.agg #[.int .i64 en,.slice ia ins.length ic,.int .i64 h,.int .i64 d,.int .i64 f],.int .i64 more] w fun e w'=>e=.returned (.bool true)∧Below w.heap.size w w':=by
 obtain⟨hp0,hp1⟩:=Ab9 more (3000-f+1) (by omega);have hQ:=Zk s.data.toList en ins h d f (f+Kr.pk more (3000-f+1)) hf0 (by omega) (by omega);obtain⟨RA,hQA⟩:∃ Q,Mc.runOf s.data.toList en ins h d f=Q:=⟨_,rfl⟩;obtain⟨RB,hQB⟩:∃ Q,Mc.runOf s.data.toList en ins h d (f+Kr.pk more (3000-f+1))=Q:=⟨_,rfl⟩;rw[hQA,hQB]at hQ;have hB0:=(Below.refl w.heap.size w).alloc (Nat.le_refl _) (O26 en ia ins.length ic h d f);have C0:(w.alloc (O26 en ia ins.length ic h d f)).heap[w.heap.size]?=some (O26 en ia ins.length ic h d f):=Ad w (O26 en ia ins.length ic h d f);have HR:=Ac (fun w' (hb:Below w.heap.size w w')=>Ix s en ins h d f ia ic w' hs hl (hi.below hb) _ hQA);have HR2:=Ac (fun w' (hb:Below w.heap.size w w')=>Ix s en ins h d (f+Kr.pk more (3000-f+1)) ia ic w' hs hl (hi.below hb) _ hQB);have HP:=Ac (fun w'=>Xi more (3000-f+1) w' hm0 hm1 (by omega) (by omega));have HK:=Ac Lr;have HE:=Ac Ki;have HQ:=Ac hQ;clear hi hQ hQA hQB;go_enter Tryz.func11,Tryz.ntmps11;go_wp2_with fail
 refine(Aa HK _).mono ?_;rintro e w1 ⟨rfl,hb1⟩;have hB1:=QB hB0 hb1;have C1:=stay hb1 C0;have s0:=(Ab C1 0).trans (show _=some (.int .i64 en) from rfl);have s1:=(Ab C1 1).trans (show _=some (.slice ia ins.length ic) from rfl);have s2:=(Ab C1 2).trans (show _=some (.int .i64 h) from rfl);have s3:=(Ab C1 3).trans (show _=some (.int .i64 d) from rfl);have s4:=(Ab C1 4).trans (show _=some (.int .i64 f) from rfl);go_wp2_with fail
 refine(Aa HR _ hB1).mono ?_;rintro e w2 ⟨xa,xc,rfl,hoA,hb2⟩;have hB2:=QB hB1 hb2;have hb23:=(Below.refl w2.heap.size w2).alloc (Nat.le_refl _) (O27 xa RA.out.length xc RA.status RA.value RA.steps);have C2:=Ae (stay hb2 C1) (O27 xa RA.out.length xc RA.status RA.value RA.steps);have D2:=Ad w2 (O27 xa RA.out.length xc RA.status RA.value RA.steps);have hB3:=hB2.alloc hB2.size (O27 xa RA.out.length xc RA.status RA.value RA.steps);have HIA:=Ac ((IntR.of_ints hoA).below hb23);clear s0 s1 s2 s3 s4 HR HK C0 C1 hb1 hb2 hB0 hB1 hB2 hoA hb23
 go_upto_region 5 with fail
 have lA:=lt_of_block D2;have s0:=(Ab C2 0).trans (show _=some (.int .i64 en) from rfl);have s1:=(Ab C2 1).trans (show _=some (.slice ia ins.length ic) from rfl);have s2:=(Ab C2 2).trans (show _=some (.int .i64 h) from rfl);have s3:=(Ab C2 3).trans (show _=some (.int .i64 d) from rfl);have s4:=(Ab C2 4).trans (show _=some (.int .i64 f) from rfl);have lS:=lt_of_block C2;generalize w2.alloc (O27 xa RA.out.length xc RA.status RA.value RA.steps)=w3 at *
 go_upto_region 8 with fail
 go_cut [11] from 42 (fun s11 wx=>∃ B,s11=.pointer (some ⟨B,0,none⟩)∧wx.heap[B]?=some (O26 en ia ins.length ic h d (f+Kr.pk more (3000-f+1)))∧Below w3.heap.size w3 wx)
 case first =>
  have hB0:Below w3.heap.size w3 w3.drew:=(Below.refl _ _).drew;go_wp2;refine wp_region_held_drew (S:=(fun w'=>w'.cell? ⟨w.heap.size,0,none⟩=some (.int .i64 en)∧w'.cell? ⟨w.heap.size,1,none⟩=some (.slice ia ins.length ic)∧w'.cell? ⟨w.heap.size,2,none⟩=some (.int .i64 h)∧w'.cell? ⟨w.heap.size,3,none⟩=some (.int .i64 d)∧w'.cell? ⟨w.heap.size,4,none⟩=some (.int .i64 f))) (by kernel_rfl) ⟨s0,s1,s2,s3,s4⟩ (fun hHeld=>?_);refine wpAnyH_take (i:=0) (oi:=⟨_,_,_,_,_,_⟩) (v:=.pointer (some ⟨w.heap.size,0,none⟩)) rfl (by kernel_rfl) (by kernel_rfl) (by kernel_rfl) (fun _ _ _ h=>h) (Or.inl ⟨by rfl,?_⟩) hHeld ?_
  ·intro w' hSw
   try dsimp only at hSw
   go_simp
  try simp only[QX]
  refine wpAnyH_take (i:=1) (oi:=⟨_,_,_,_,_,_⟩) (v:=.int .i64 en) rfl (by kernel_rfl) (by kernel_rfl) (by kernel_rfl) (fun _ _ _ h=>h) (Or.inl ⟨by rfl,?_⟩) hHeld ?_
  ·intro w' hSw
   try dsimp only at hSw
   go_simp
  try simp only[QX]
  refine wpAnyH_take (i:=2) (oi:=⟨_,_,_,_,_,_⟩) (v:=.pointer (some ⟨w.heap.size,1,none⟩)) rfl (by kernel_rfl) (by kernel_rfl) (by kernel_rfl) (fun _ _ _ h=>h) (Or.inl ⟨by rfl,?_⟩) hHeld ?_
  ·intro w' hSw
   try dsimp only at hSw
   go_simp
  try simp only[QX]
  refine wpAnyH_take (i:=3) (oi:=⟨_,_,_,_,_,_⟩) (v:=.slice ia ins.length ic) rfl (by kernel_rfl) (by kernel_rfl) (by kernel_rfl) (fun _ _ _ h=>h) (Or.inl ⟨by rfl,?_⟩) hHeld ?_
  ·intro w' hSw
   try dsimp only at hSw
   go_simp
  try simp only[QX]
  refine wpAnyH_take (i:=4) (oi:=⟨_,_,_,_,_,_⟩) (v:=.pointer (some ⟨w.heap.size,2,none⟩)) rfl (by kernel_rfl) (by kernel_rfl) (by kernel_rfl) (fun _ _ _ h=>h) (Or.inl ⟨by rfl,?_⟩) hHeld ?_
  ·intro w' hSw
   try dsimp only at hSw
   go_simp
  try simp only[QX]
  refine wpAnyH_take (i:=5) (oi:=⟨_,_,_,_,_,_⟩) (v:=.int .i64 h) rfl (by kernel_rfl) (by kernel_rfl) (by kernel_rfl) (fun _ _ _ h=>h) (Or.inl ⟨by rfl,?_⟩) hHeld ?_
  ·intro w' hSw
   try dsimp only at hSw
   go_simp
  try simp only[QX]
  refine wpAnyH_take (i:=6) (oi:=⟨_,_,_,_,_,_⟩) (v:=.pointer (some ⟨w.heap.size,3,none⟩)) rfl (by kernel_rfl) (by kernel_rfl) (by kernel_rfl) (fun _ _ _ h=>h) (Or.inl ⟨by rfl,?_⟩) hHeld ?_
  ·intro w' hSw
   try dsimp only at hSw
   go_simp
  try simp only[QX]
  refine wpAnyH_take (i:=7) (oi:=⟨_,_,_,_,_,_⟩) (v:=.int .i64 d) rfl (by kernel_rfl) (by kernel_rfl) (by kernel_rfl) (fun _ _ _ h=>h) (Or.inl ⟨by rfl,?_⟩) hHeld ?_
  ·intro w' hSw
   try dsimp only at hSw
   go_simp
  try simp only[QX]
  refine wpAnyH_take (i:=8) (oi:=⟨_,_,_,_,_,_⟩) (v:=.pointer (some ⟨w.heap.size,4,none⟩)) rfl (by kernel_rfl) (by kernel_rfl) (by kernel_rfl) (fun _ _ _ h=>h) (Or.inl ⟨by rfl,?_⟩) hHeld ?_
  ·intro w' hSw
   try dsimp only at hSw
   go_simp
  try simp only[QX]
  refine wpAnyH_take (i:=9) (oi:=⟨_,_,_,_,_,_⟩) (v:=.int .i64 f) rfl (by kernel_rfl) (by kernel_rfl) (by kernel_rfl) (fun _ _ _ h=>h) (Or.inl ⟨by rfl,?_⟩) hHeld ?_
  ·intro w' hSw
   try dsimp only at hSw
   go_simp
  try simp only[QX]
  refine wpAnyH_take (i:=10) (oi:=⟨_,_,_,_,_,_⟩) (v:=.int .i64 more) rfl (by kernel_rfl) (by kernel_rfl) (by kernel_rfl) (fun _ _ _ h=>h) (Or.inl ⟨by rfl,?_⟩) hHeld ?_
  ·intro w' hSw
   try dsimp only at hSw
   go_simp
  try simp only[QX]
  refine wpAnyH_take (i:=11) (oi:=⟨_,_,_,_,_,_⟩) (v:=.pointer (some ⟨w.heap.size,4,none⟩)) rfl (by kernel_rfl) (by kernel_rfl) (by kernel_rfl) (fun _ _ _ h=>h) (Or.inl ⟨by rfl,?_⟩) hHeld ?_
  ·intro w' hSw
   try dsimp only at hSw
   go_simp
  try simp only[QX]
  refine wpAnyH_take (i:=12) (oi:=⟨_,_,_,_,_,_⟩) (v:=.int .i64 f) rfl (by kernel_rfl) (by kernel_rfl) (by kernel_rfl) (fun _ _ _ h=>h) (Or.inl ⟨by rfl,?_⟩) hHeld ?_
  ·intro w' hSw
   try dsimp only at hSw
   go_simp
  try simp only[QX]
  refine wpAnyH_take (i:=13) (oi:=⟨_,_,_,_,_,_⟩) (v:=.int .i64 (3000-f)) rfl (by kernel_rfl) (by kernel_rfl) (by kernel_rfl) (fun _ _ _ h=>h) (Or.inl ⟨by rfl,?_⟩) hHeld ?_
  ·intro w' hSw
   try dsimp only at hSw
   go_simp
   exact Gq _ (by omega) (by omega)
  try simp only[QX]
  refine wpAnyH_take (i:=14) (oi:=⟨_,_,_,_,_,_⟩) (v:=.int .i64 (3000-f+1)) rfl (by kernel_rfl) (by kernel_rfl) (by kernel_rfl) (fun _ _ _ h=>h) (Or.inl ⟨by rfl,?_⟩) hHeld ?_
  ·intro w' hSw
   try dsimp only at hSw
   go_simp
   exact Gq _ (by omega) (by omega)
  try simp only[QX]
  refine wpAnyH_ready (rs:=[15,18]) (by kernel_rfl) (by simp) ?_;refine AllReadyH.cons (o:=⟨_,_,_,_,_,_⟩) rfl (fun K hK=>?_) (AllReadyH.cons (o:=⟨_,_,_,_,_,_⟩) rfl (fun K hK=>?_) AllReadyH.nil)
  ·go_simp
   refine(Aa HP _).mono ?_;rintro e u1 ⟨rfl,rfl⟩
   try dsimp only
   clear hHeld;refine hK.out _ _ ⟨QC hB0 lS s0,QC hB0 lS s1,QC hB0 lS s2,QC hB0 lS s3,QC hB0 lS s4⟩ (fun hHeld=>?_);clear hK K
   try simp only[QX]
   refine wpAnyH_take (i:=16) (oi:=⟨_,_,_,_,_,_⟩) (v:=.int .i64 (f+Kr.pk more (3000-f+1))) rfl (by kernel_rfl) (by kernel_rfl) (by kernel_rfl) (fun _ _ _ h=>h) (Or.inl ⟨by rfl,?_⟩) hHeld ?_
   ·intro w' hSw
    try dsimp only at hSw
    go_simp
    exact Gq _ (by omega) (by omega)
   try simp only[QX]
   refine wpAnyH_take (i:=17) (oi:=⟨_,_,_,_,_,_⟩) (v:=.agg #[.int .i64 en,.slice ia ins.length ic,.int .i64 h,.int .i64 d,.int .i64 (f+Kr.pk more (3000-f+1))]) rfl (by kernel_rfl) (by kernel_rfl) (by kernel_rfl) (fun _ _ _ h=>h) (Or.inl ⟨by rfl,?_⟩) hHeld ?_
   ·intro w' hSw
    try dsimp only at hSw
    go_simp
   try simp only[QX]
   refine wpAnyH_ready (rs:=[18]) (by kernel_rfl) (by simp) ?_;refine AllReadyH.cons (o:=⟨_,_,_,_,_,_⟩) rfl (fun K hK=>?_) AllReadyH.nil
   go_simp
   have hBa:=(Below.refl w3.heap.size w3.drew).alloc (Nat.le_refl _) (O26 0 none 0 0 0 0 0);have hBb:=hB0.trans hBa;have hZ:=Ad w3.drew (O26 0 none 0 0 0 0 0);clear hHeld;refine hK.out _ _ ⟨QC hBb lS s0,QC hBb lS s1,QC hBb lS s2,QC hBb lS s3,QC hBb lS s4⟩ (fun hHeld=>?_);clear hK K
   try simp only[QX]
   refine wpAnyH_ready (rs:=[19]) (by kernel_rfl) (by simp) ?_;refine AllReadyH.cons (o:=⟨_,_,_,_,_,_⟩) rfl (fun K hK=>?_) AllReadyH.nil;refine Aw (by rfl) 37 _ _ (by rfl) w3.heap.size #[.int .i64 en,.slice ia ins.length ic,.int .i64 h,.int .i64 d,.int .i64 (f+Kr.pk more (3000-f+1))] (by rfl) (by rfl) 37 _ hZ (by rw[Tryz.infoStart];rfl) (by rfl) (by simp[Value.oneCell']) ?_;clear hHeld;refine hK.out _ _ ⟨(World.cell?_of_block (a:=⟨w.heap.size,0,none⟩) (Ah (by show w.heap.size≠w3.heap.size;omega))).trans (QC hBb lS s0),(World.cell?_of_block (a:=⟨w.heap.size,1,none⟩) (Ah (by show w.heap.size≠w3.heap.size;omega))).trans (QC hBb lS s1),(World.cell?_of_block (a:=⟨w.heap.size,2,none⟩) (Ah (by show w.heap.size≠w3.heap.size;omega))).trans (QC hBb lS s2),(World.cell?_of_block (a:=⟨w.heap.size,3,none⟩) (Ah (by show w.heap.size≠w3.heap.size;omega))).trans (QC hBb lS s3),(World.cell?_of_block (a:=⟨w.heap.size,4,none⟩) (Ah (by show w.heap.size≠w3.heap.size;omega))).trans (QC hBb lS s4)⟩ (fun hHeld=>?_);clear hK K
   try simp only[Act.put]
   refine wpAnyH_done (by kernel_rfl) ?_ _;go_wp2
   go_meet
   case rel=>exact⟨_,rfl,Bl hZ,Cg hBb (Nat.le_refl _) _⟩
  ·go_simp
   have hBa:=(Below.refl w3.heap.size w3.drew).alloc (Nat.le_refl _) (O26 0 none 0 0 0 0 0);have hBb:=hB0.trans hBa;have hZ:=Ad w3.drew (O26 0 none 0 0 0 0 0);clear hHeld;refine hK.out _ _ ⟨QC hBb lS s0,QC hBb lS s1,QC hBb lS s2,QC hBb lS s3,QC hBb lS s4⟩ (fun hHeld=>?_);clear hK K
   try simp only[QX]
   refine wpAnyH_ready (rs:=[15]) (by kernel_rfl) (by simp) ?_;refine AllReadyH.cons (o:=⟨_,_,_,_,_,_⟩) rfl (fun K hK=>?_) AllReadyH.nil
   go_simp
   refine(Aa HP _).mono ?_;rintro e u1 ⟨rfl,rfl⟩
   try dsimp only
   clear hHeld;refine hK.out _ _ ⟨QC hBb lS s0,QC hBb lS s1,QC hBb lS s2,QC hBb lS s3,QC hBb lS s4⟩ (fun hHeld=>?_);clear hK K
   try simp only[QX]
   refine wpAnyH_take (i:=16) (oi:=⟨_,_,_,_,_,_⟩) (v:=.int .i64 (f+Kr.pk more (3000-f+1))) rfl (by kernel_rfl) (by kernel_rfl) (by kernel_rfl) (fun _ _ _ h=>h) (Or.inl ⟨by rfl,?_⟩) hHeld ?_
   ·intro w' hSw
    try dsimp only at hSw
    go_simp
    exact Gq _ (by omega) (by omega)
   try simp only[QX]
   refine wpAnyH_take (i:=17) (oi:=⟨_,_,_,_,_,_⟩) (v:=.agg #[.int .i64 en,.slice ia ins.length ic,.int .i64 h,.int .i64 d,.int .i64 (f+Kr.pk more (3000-f+1))]) rfl (by kernel_rfl) (by kernel_rfl) (by kernel_rfl) (fun _ _ _ h=>h) (Or.inl ⟨by rfl,?_⟩) hHeld ?_
   ·intro w' hSw
    try dsimp only at hSw
    go_simp
   try simp only[QX]
   refine wpAnyH_ready (rs:=[19]) (by kernel_rfl) (by simp) ?_;refine AllReadyH.cons (o:=⟨_,_,_,_,_,_⟩) rfl (fun K hK=>?_) AllReadyH.nil;refine Aw (by rfl) 37 _ _ (by rfl) w3.heap.size #[.int .i64 en,.slice ia ins.length ic,.int .i64 h,.int .i64 d,.int .i64 (f+Kr.pk more (3000-f+1))] (by rfl) (by rfl) 37 _ hZ (by rw[Tryz.infoStart];rfl) (by rfl) (by simp[Value.oneCell']) ?_;clear hHeld;refine hK.out _ _ ⟨(World.cell?_of_block (a:=⟨w.heap.size,0,none⟩) (Ah (by show w.heap.size≠w3.heap.size;omega))).trans (QC hBb lS s0),(World.cell?_of_block (a:=⟨w.heap.size,1,none⟩) (Ah (by show w.heap.size≠w3.heap.size;omega))).trans (QC hBb lS s1),(World.cell?_of_block (a:=⟨w.heap.size,2,none⟩) (Ah (by show w.heap.size≠w3.heap.size;omega))).trans (QC hBb lS s2),(World.cell?_of_block (a:=⟨w.heap.size,3,none⟩) (Ah (by show w.heap.size≠w3.heap.size;omega))).trans (QC hBb lS s3),(World.cell?_of_block (a:=⟨w.heap.size,4,none⟩) (Ah (by show w.heap.size≠w3.heap.size;omega))).trans (QC hBb lS s4)⟩ (fun hHeld=>?_);clear hK K
   try simp only[Act.put]
   refine wpAnyH_done (by kernel_rfl) ?_ _;go_wp2
   go_meet
   case rel=>exact⟨_,rfl,Bl hZ,Cg hBb (Nat.le_refl _) _⟩
 case rest =>
  obtain⟨B,rfl,hL,hbx⟩:=hcut;have hBX:=QB hB3 hbx;have C3:=stay hbx C2;have D3:=stay hbx D2;have HIA3:=Ac ((Aa HIA).below hbx);have y0:=(Ab hL 0).trans (show _=some (.int .i64 en) from rfl);have y1:=(Ab hL 1).trans (show _=some (.slice ia ins.length ic) from rfl);have y2:=(Ab hL 2).trans (show _=some (.int .i64 h) from rfl);have y3:=(Ab hL 3).trans (show _=some (.int .i64 d) from rfl);have y4:=(Ab hL 4).trans (show _=some (.int .i64 (f+Kr.pk more (3000-f+1))) from rfl);clear s0 s1 s2 s3 s4 C2 D2 lS lA HIA HP hbx hB3;go_wp2_with fail
  refine(Aa HR2 _ hBX).mono ?_;rintro e w5 ⟨xb,xd,rfl,hoB,hb5⟩;have hB5:=QB hBX hb5;have hb56:=(Below.refl w5.heap.size w5).alloc (Nat.le_refl _) (O27 xb RB.out.length xd RB.status RB.value RB.steps);have C5:=Ae (stay hb5 C3) (O27 xb RB.out.length xd RB.status RB.value RB.steps);have D5:=Ae (stay hb5 D3) (O27 xb RB.out.length xd RB.status RB.value RB.steps);have L5:=Ae (stay hb5 hL) (O27 xb RB.out.length xd RB.status RB.value RB.steps);have E5:=Ad w5 (O27 xb RB.out.length xd RB.status RB.value RB.steps);have hB6:=hB5.alloc hB5.size (O27 xb RB.out.length xd RB.status RB.value RB.steps);have HOB:=Ac (IntsAt.kp hoB (Kp.of_below (e:=none) hb56) (by decide));have HIA5:=Ac (((Aa HIA3).below hb5).below hb56);clear y0 y1 y2 y3 y4 C3 D3 hL HR2 HIA3 hb5 hb56 hoB hB5 hBX
  go_upto_region 10 with fail
  generalize w5.alloc (O27 xb RB.out.length xd RB.status RB.value RB.steps)=w6 at *;rcases Aa HQ with ⟨er,he,rfl,rfl⟩ | ⟨A,B',rfl,rfl,hM⟩
  ·have he':(er != 0)=true:=by simpa using he
   have o0:=(Ab D5 0).trans (show _=some (.slice xa 0 xc) from rfl);have o1:=(Ab D5 1).trans (show _=some (.int .i64 0) from rfl);have o2:=(Ab D5 2).trans (show _=some (.int .i64 0) from rfl);have o3:=(Ab D5 3).trans (show _=some (.int .i64 0) from rfl);dsimp only;clear HQ HOB HIA5;go_wp2_with fail
   refine(Aa HE _ _ _).mono ?_;rintro e w7 ⟨rfl,hb7⟩;have hB7:=QB hB6 hb7;have E7:=stay hb7 E5;have p0:=(Ab E7 0).trans (show _=some (.slice xb 0 xd) from rfl);have p1:=(Ab E7 1).trans (show _=some (.int .i64 0) from rfl);have p2:=(Ab E7 2).trans (show _=some (.int .i64 0) from rfl);have p3:=(Ab E7 3).trans (show _=some (.int .i64 0) from rfl);clear o0 o1 o2 o3;go_wp2_with fail
   refine(Aa HE _ _ _).mono ?_;rintro e w8 ⟨rfl,hb8⟩;have hB8:=QB hB7 hb8;go_wp2;go_ret;exact⟨rfl,hB8⟩
  ·have o0:=(Ab D5 0).trans (show _=some (.slice xa A.out.length xc) from rfl);have o1:=(Ab D5 1).trans (show _=some (.int .i64 A.status) from rfl);have o2:=(Ab D5 2).trans (show _=some (.int .i64 A.value) from rfl);have o3:=(Ab D5 3).trans (show _=some (.int .i64 (A.steps:Int)) from rfl);have p0:=(Ab E5 0).trans (show _=some (.slice xb B'.out.length xd) from rfl);have p1:=(Ab E5 1).trans (show _=some (.int .i64 B'.status) from rfl);have p2:=(Ab E5 2).trans (show _=some (.int .i64 B'.value) from rfl);have p3:=(Ab E5 3).trans (show _=some (.int .i64 (B'.steps:Int)) from rfl);have s4:=(Ab C5 4).trans (show _=some (.int .i64 f) from rfl);have y4:=(Ab L5 4).trans (show _=some (.int .i64 (f+Kr.pk more (3000-f+1))) from rfl);obtain⟨m1,m2,m3,m4,m5,m6,m7⟩:=hM;have lD:=lt_of_block D5;have lC:=lt_of_block C5;have n1:¬ f<(A.steps:Int):=by omega
   have n2:¬ f+Kr.pk more (3000-f+1)<(B'.steps:Int):=by omega
   have n3:¬ (B'.steps:Int)<(A.steps:Int):=by omega
   have n4:¬ (A.steps:Int)<(A.out.length:Int):=by omega
   dsimp only[Mc.resOf];have hOB:IntsAt w6 _ (.slice xb B'.out.length xd) B'.out:=Aa HOB;have hIA:IntR w6 xa A.out:=Aa HIA5;clear HQ HOB HIA5;rcases m7 with ⟨q1,⟨l,q2⟩,q3,q4⟩ | ⟨rfl,q2,q3⟩
   ·have hBe:=Rk A.out l xa xb xc xd _ w6 hIA (by rw[← q2];exact hOB) (by rw[← q2];exact m6);rw[← q2]at hBe;have HBE:=Ac hBe;clear hBe hOB hIA q2;rw[q1]at o1;rw[q4]at o2;rw[q3]at o3;generalize A.out.length=na at *;generalize B'.out.length=nb at *;generalize (A.steps:Int)=sa at *;generalize (B'.steps:Int)=sb at *;subst q3;go_wp2_with fail
    refine(Aa HBE).mono ?_;rintro e w7 ⟨rfl,hb7⟩;have hB7:=QB hB6 hb7;have a2:=QC hb7 lD o2;have a3:=QC hb7 lD o3;have b4:=QC hb7 lC s4;clear o0 o1 o2 o3 p0 p1 p2 p3 s4 y4 C5 D5 E5 L5;go_wp2;go_ret;exact⟨rfl,hB7⟩
   ·have hEn:=Iq A.out A.status A.value (A.steps:Int) xa xb xc xd w6 hIA (IntR.of_ints hOB) m5;have HEN:=Ac hEn;clear hEn hOB hIA;generalize A.out.length=na at *;generalize (A.steps:Int)=sa at *;generalize A.value=va at *;have e0:(A.status==1)=false:=by rcases q3 with h | h<;>rw[h]<;>rfl
    have q3':=q3;generalize A.status=sta at *;clear q3;have HSTA:=Ac q3';clear q3';go_wp2_with fail
    refine(Aa HEN).mono ?_;rintro e w7 ⟨rfl,hb7⟩;have hB7:=QB hB6 hb7;have a1:=QC hb7 lD o1;have a3:=QC hb7 lD o3;clear o0 o1 o2 o3 p0 p1 p2 p3 s4 y4 C5 D5 E5 L5;rcases Aa HSTA with rfl | rfl
    ·clear HSTA;go_wp2;go_ret;exact⟨rfl,hB7⟩
    ·clear HSTA;go_wp2;go_ret;exact⟨rfl,hB7⟩
theorem Rj (s:ByteArray) (en:Int) (ins:List Int) (h d f more:Int) (ia:Option Addr) (ic:Nat) (w:World) (hs:s.size≤maxLen) (hl:ins.length≤maxLen) (hi:IntR w ia ins) (hm0:-9223372036854775808≤more) (hm1:more≤9223372036854775807) :
  Calls Tryz.prog 11 #[.string s,.agg #[.int .i64 en,.slice ia ins.length ic,.int .i64 h,.int .i64 d,.int .i64 f],.int .i64 more] w fun e w'=>e=.returned (.bool true)∧Below w.heap.size w w':=by
 by_cases h1:f<0
 ·exact Jw s en ins h d f more ia ic w hs hl hi (Or.inl h1)
 ·by_cases h2:3000<f
  ·exact Jw s en ins h d f more ia ic w hs hl hi (Or.inr h2)
  ·exact Uq s en ins h d f more ia ic w hs hl hi (by omega) (by omega) hm0 hm1
end Go.Proofs.YtpcgnjolfahacaaGreat
