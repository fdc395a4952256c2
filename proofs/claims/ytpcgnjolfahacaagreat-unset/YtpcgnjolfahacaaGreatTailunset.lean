/- a part of the proof of unset -/
import Derived.Deep.Cut
import Derived.Test.YtpcgnjolfahacaaGreatPk26
set_option maxRecDepth 100000
set_option maxHeartbeats 40000000
set_option linter.unusedVariables false
set_option linter.unusedSimpArgs false
namespace Go.Proofs.YtpcgnjolfahacaaGreat
open Go.RowKit
def Un.use (k tail:Nat):List UInt8 × Nat × Nat :=
 if k=0 then ([17,0,4],0,2) else if k=1 then ([0,5,18,0],2,2) else if k=2 then ([19,0,4],0,2) else if k=3 then ([14,tail.toUInt8],0,1)
 else if k=4 then ([23],0,1) else if k=5 then ([21,1],0,2) else if k=6 then ([20,2],0,2) else if k=7 then ([22],0,1) else ([15,8,6,16,8],3,3)
def Un.head (set:Bool):List UInt8:=if set=true then [15,7,5,0,1,16,7] else [15,7]
def Un.moved (set:Bool):Nat→List UInt8
 | 0=>Un.head set
 | i+1=>Un.moved set i++[3]++[0]++[2]++[0]
def Un.tail (k m:Nat) (set:Bool):Nat:=(Un.moved set m).length+(Un.use k 0).1.length
def Un.place (k m:Nat) (set:Bool):Nat:=(Un.moved set m).length+(Un.use k (Un.tail k m set)).2.1
def Un.code (k m:Nat) (set:Bool):List UInt8:=Un.moved set m++(Un.use k (Un.tail k m set)).1++[1]++[22]
def Un.steps (k m:Nat) (set:Bool):Nat:=1+2*m+(if set=true then 3 else 0)+(Un.use k (Un.tail k m set)).2.2+(if k=4∨k=7 then 0 else 2)
def Un.file (k m:Nat) (set:Bool):List UInt8 :=
 Kl.file 2 [1,1,1,0,0,1,3,7] 3 (Kl.method [255,0,0] [3,7] 1 3 (Un.code k m set) []++Kl.method [7,1,0] [0,0] 1 0 [22] []++Kl.method [255,0,1,3,7] [0,0] 1 0 [22] [])
def Un.main (k m:Nat) (st:Bool):Rd.Mth:=⟨255,0,[],(3,7),1,3,(Un.code k m st).map (fun b=>(b.toNat:Int)),[],[]⟩
def Un.cs:List Rd.Cls:=[⟨1,[(1,0)]⟩,⟨0,[(3,7)]⟩]
def Un.ms (k m:Nat) (st:Bool):List Rd.Mth:=[Un.main k m st,⟨7,1,[],(0,0),1,0,[22],[],[]⟩,⟨255,0,[(3,7)],(0,0),1,0,[22],[],[]⟩]
def Un.good (k m:Nat):Bool :=
 decide (Aio ⟨Un.cs,Un.ms k m false⟩=Un.file k m false)&&(decide (Aio ⟨Un.cs,Un.ms k m true⟩=Un.file k m true)&&(decide (Ajm ⟨Un.cs,Un.ms k m false⟩=(0,0,0))&&(decide (Ajm ⟨Un.cs,Un.ms k m true⟩=(0,0,0)) &&
 (decide (Ajk Un.cs (Un.ms k m false) (Un.main k m false)=(10,(Un.place k m false:Int)))&&((Ahu Un.cs (Un.ms k m false) (Un.main k m false)).isNone &&
 (match Ahy (Ahu Un.cs (Un.ms k m true)) (Un.ms k m true) with
  | none=>false
  | some r=>decide (Mc.startErr r 0 [] 2 2 200=0)&&@decide (Mc.resOf (Mc.run (Mc.env Un.cs r [] 2 2) ((200:Int).toNat) 0)=⟨[],if k=4 then 2 else 0,if k=4 then 7 else 0,Un.steps k m true,0⟩) (Mc.Res.dec _ _)))))))
theorem Af7:((List.range 9).all fun k=>(List.range 20).all fun m=>decide ((Un.moved true m).length≤90)&&(decide ((Un.moved false m).length≤90)&&(decide ((Un.code k m true).length≤100)&&decide ((Un.code k m false).length≤100))))=true:=by decide +kernel
theorem Yf:((List.range 5).all fun i=>Un.good 0 (0+i))=true:=by decide +kernel
theorem W2:((List.range 5).all fun i=>Un.good 0 (5+i))=true:=by decide +kernel
theorem Us:((List.range 5).all fun i=>Un.good 0 (10+i))=true:=by decide +kernel
theorem T6:((List.range 5).all fun i=>Un.good 0 (15+i))=true:=by decide +kernel
theorem Xl:((List.range 5).all fun i=>Un.good 1 (0+i))=true:=by decide +kernel
theorem We:((List.range 5).all fun i=>Un.good 1 (5+i))=true:=by decide +kernel
theorem Tv:((List.range 5).all fun i=>Un.good 1 (10+i))=true:=by decide +kernel
theorem Tx:((List.range 5).all fun i=>Un.good 1 (15+i))=true:=by decide +kernel
theorem Xw:((List.range 5).all fun i=>Un.good 2 (0+i))=true:=by decide +kernel
theorem Yh:((List.range 5).all fun i=>Un.good 2 (5+i))=true:=by decide +kernel
theorem Uh:((List.range 5).all fun i=>Un.good 2 (10+i))=true:=by decide +kernel
theorem Ve:((List.range 5).all fun i=>Un.good 2 (15+i))=true:=by decide +kernel
theorem Xg:((List.range 5).all fun i=>Un.good 3 (0+i))=true:=by decide +kernel
theorem Xi:((List.range 5).all fun i=>Un.good 3 (5+i))=true:=by decide +kernel
theorem Uf:((List.range 5).all fun i=>Un.good 3 (10+i))=true:=by decide +kernel
theorem Tw:((List.range 5).all fun i=>Un.good 3 (15+i))=true:=by decide +kernel
theorem W6:((List.range 5).all fun i=>Un.good 4 (0+i))=true:=by decide +kernel
theorem Yg:((List.range 5).all fun i=>Un.good 4 (5+i))=true:=by decide +kernel
theorem Ux:((List.range 5).all fun i=>Un.good 4 (10+i))=true:=by decide +kernel
theorem Tj:((List.range 5).all fun i=>Un.good 4 (15+i))=true:=by decide +kernel
theorem Wm:((List.range 5).all fun i=>Un.good 5 (0+i))=true:=by decide +kernel
theorem Wl:((List.range 5).all fun i=>Un.good 5 (5+i))=true:=by decide +kernel
theorem U9:((List.range 5).all fun i=>Un.good 5 (10+i))=true:=by decide +kernel
theorem Tn:((List.range 5).all fun i=>Un.good 5 (15+i))=true:=by decide +kernel
theorem Wn:((List.range 5).all fun i=>Un.good 6 (0+i))=true:=by decide +kernel
theorem Xe:((List.range 5).all fun i=>Un.good 6 (5+i))=true:=by decide +kernel
theorem Ue:((List.range 5).all fun i=>Un.good 6 (10+i))=true:=by decide +kernel
theorem Vg:((List.range 5).all fun i=>Un.good 6 (15+i))=true:=by decide +kernel
theorem Wi:((List.range 5).all fun i=>Un.good 7 (0+i))=true:=by decide +kernel
theorem Xp:((List.range 5).all fun i=>Un.good 7 (5+i))=true:=by decide +kernel
theorem Ub:((List.range 5).all fun i=>Un.good 7 (10+i))=true:=by decide +kernel
theorem T7:((List.range 5).all fun i=>Un.good 7 (15+i))=true:=by decide +kernel
theorem X2:((List.range 5).all fun i=>Un.good 8 (0+i))=true:=by decide +kernel
theorem Xx:((List.range 5).all fun i=>Un.good 8 (5+i))=true:=by decide +kernel
theorem Uj:((List.range 5).all fun i=>Un.good 8 (10+i))=true:=by decide +kernel
theorem Ty:((List.range 5).all fun i=>Un.good 8 (15+i))=true:=by decide +kernel
theorem Aet (k m:Nat) (hk:k<9) (hm:m<20):Un.good k m=true:=by
 obtain⟨c,i,hc,hi,rfl⟩:∃ c i,(c=0∨c=5∨c=10∨c=15)∧i<5∧m=c+i:=⟨m / 5*5,m % 5,by omega,by omega,by omega⟩
 match k,hk with
 | 0,_ =>
  rcases hc with rfl|rfl|rfl|rfl
  ·exact Aj Yf hi
  ·exact Aj W2 hi
  ·exact Aj Us hi
  ·exact Aj T6 hi
 | 1,_ =>
  rcases hc with rfl|rfl|rfl|rfl
  ·exact Aj Xl hi
  ·exact Aj We hi
  ·exact Aj Tv hi
  ·exact Aj Tx hi
 | 2,_ =>
  rcases hc with rfl|rfl|rfl|rfl
  ·exact Aj Xw hi
  ·exact Aj Yh hi
  ·exact Aj Uh hi
  ·exact Aj Ve hi
 | 3,_ =>
  rcases hc with rfl|rfl|rfl|rfl
  ·exact Aj Xg hi
  ·exact Aj Xi hi
  ·exact Aj Uf hi
  ·exact Aj Tw hi
 | 4,_ =>
  rcases hc with rfl|rfl|rfl|rfl
  ·exact Aj W6 hi
  ·exact Aj Yg hi
  ·exact Aj Ux hi
  ·exact Aj Tj hi
 | 5,_ =>
  rcases hc with rfl|rfl|rfl|rfl
  ·exact Aj Wm hi
  ·exact Aj Wl hi
  ·exact Aj U9 hi
  ·exact Aj Tn hi
 | 6,_ =>
  rcases hc with rfl|rfl|rfl|rfl
  ·exact Aj Wn hi
  ·exact Aj Xe hi
  ·exact Aj Ue hi
  ·exact Aj Vg hi
 | 7,_ =>
  rcases hc with rfl|rfl|rfl|rfl
  ·exact Aj Wi hi
  ·exact Aj Xp hi
  ·exact Aj Ub hi
  ·exact Aj T7 hi
 | 8,_ =>
  rcases hc with rfl|rfl|rfl|rfl
  ·exact Aj X2 hi
  ·exact Aj Xx hi
  ·exact Aj Uj hi
  ·exact Aj Ty hi
theorem M6 (k m:Nat) (set:Bool) (hk:k<9) (hm:m<20):(Un.moved set m).length≤90∧(Un.code k m set).length≤100:=by
 have h:=Aj (Aj Af7 hk) hm;simp only[Bool.and_eq_true,decide_eq_true_eq]at h;cases set with
 | true=>exact⟨h.1,h.2.2.1⟩
 | false=>exact⟨h.2.1,h.2.2.2⟩
theorem V8 (k m:Nat) (st:Bool) (hk:k<9) (hm:m<20):FilB ⟨Un.cs,Un.ms k m st⟩:=by
 have hl:=(M6 k m st hk hm).2;refine⟨by simp[Un.cs],fun c hc=>?_,by simp[Un.ms],by simp[Un.ms],fun x hx=>?_⟩
 ·simp only[Un.cs,List.mem_cons,List.not_mem_nil,or_false]at hc;rcases hc with rfl | rfl
  ·exact⟨⟨by decide,by decide⟩,by decide,fun t ht=>by simp at ht;subst ht;exact⟨⟨by decide,by decide⟩,⟨by decide,by decide⟩⟩⟩
  ·exact⟨⟨by decide,by decide⟩,by decide,fun t ht=>by simp at ht;subst ht;exact⟨⟨by decide,by decide⟩,⟨by decide,by decide⟩⟩⟩
 ·simp only[Un.ms,List.mem_cons,List.not_mem_nil,or_false]at hx;rcases hx with rfl | rfl | rfl
  ·refine⟨⟨by simp[Un.main],by simp[Un.main]⟩,⟨by simp[Un.main],by simp[Un.main]⟩,by simp[Un.main],fun t ht=>by simp[Un.main]at ht,⟨⟨by simp[Un.main],by simp[Un.main]⟩,⟨by simp[Un.main],by simp[Un.main]⟩⟩,by simp[Un.main],by simp[Un.main],?_,?_,?_,by simp[Un.main],fun t ht=>by simp[Un.main]at ht,by simp[Un.main],fun t ht=>by simp[Un.main]at ht⟩
   ·simp[Un.main,Un.code];omega
   ·simp only[Un.main,List.length_map];omega
   ·intro x hx;obtain⟨b,_,rfl⟩:=List.mem_map.1 (show x∈(Un.code k m st).map (fun b=>(b.toNat:Int)) from hx);have:=b.toNat_lt;exact⟨by omega,by omega⟩
  ·exact⟨⟨by decide,by decide⟩,⟨by decide,by decide⟩,by decide,fun t ht=>by simp at ht,⟨⟨by decide,by decide⟩,⟨by decide,by decide⟩⟩,⟨by decide,by decide⟩,⟨by decide,by decide⟩,by decide,by decide,fun x hx=>by simp at hx;subst hx;exact⟨by decide,by decide⟩,by decide,fun t ht=>by simp at ht,by decide,fun t ht=>by simp at ht⟩
  ·exact⟨⟨by decide,by decide⟩,⟨by decide,by decide⟩,by decide,fun t ht=>by simp at ht;subst ht;exact⟨⟨by decide,by decide⟩,⟨by decide,by decide⟩⟩,⟨⟨by decide,by decide⟩,⟨by decide,by decide⟩⟩,⟨by decide,by decide⟩,⟨by decide,by decide⟩,by decide,by decide,fun x hx=>by simp at hx;subst hx;exact⟨by decide,by decide⟩,by decide,fun t ht=>by simp at ht,by decide,fun t ht=>by simp at ht⟩
structure Un.Fact (k m:Nat) (P:List UInt8):Prop where
 c0:Aig (Un.file k m false)=(10,0,(Un.place k m false:Int))
 p0:Ai2 (Un.file k m false)=([],10,0)
 p1:Ai2 (Un.file k m true)=(P,0,0)
 le:P.length≤1000000
 c1:Aig P=(0,0,0)
 rn:Mc.runOf P 0 [] 2 2 200=⟨[],if k=4 then 2 else 0,if k=4 then 7 else 0,Un.steps k m true,0⟩
theorem Aeh (k m:Nat) (hk:k<9) (hm:m<20):∃ P,Un.Fact k m P:=by
 have h:=Aet k m hk hm;simp only[Un.good,Bool.and_eq_true,decide_eq_true_eq]at h;obtain⟨h1,h2,h3,h4,h5,h6,h7⟩:=h;have r1:Rd.read (Un.file k m false)=(⟨Un.cs,Un.ms k m false⟩,0):=by rw[← h1];exact N8 (V8 k m false hk hm) (Jw (V8 k m false hk hm))
 have r2:Rd.read (Un.file k m true)=(⟨Un.cs,Un.ms k m true⟩,0):=by rw[← h2];exact N8 (V8 k m true hk hm) (Jw (V8 k m true hk hm))
 have f1:Aib (Un.file k m false)=(0,0,0):=by
  unfold Aib;rw[r1,if_neg (by simp)];exact h3
 have f2:Aib (Un.file k m true)=(0,0,0):=by
  unfold Aib;rw[r2,if_neg (by simp)];exact h4
 have g1:(Rf.formed (Un.file k m false)).1=0:=by rw[← Br,f1]
 have g2:(Rf.formed (Un.file k m true)).1=0:=by rw[← Br,f2]
 have hn:Ahu Un.cs (Un.ms k m false) (Un.main k m false)=none:=by simpa using h6
 cases hr:Ahy (Ahu Un.cs (Un.ms k m true)) (Un.ms k m true) with
 | none=>rw[hr]at h7;simp at h7
 | some r =>
  rw[hr]at h7;simp only[Bool.and_eq_true,decide_eq_true_eq]at h7;have hp:Ai2 (Un.file k m true)=(Aio ⟨Un.cs,r⟩,0,0):=by
   unfold Ai2;rw[if_neg (fun g=>g g2),r2];simp only;rw[hr]
  have hr':Ahy (Ahu (Rd.read (Un.file k m true)).1.classes (Rd.read (Un.file k m true)).1.methods) (Rd.read (Un.file k m true)).1.methods=some r:=by rw[r2];exact hr
  have al:Alike (Un.file k m true) (Aio ⟨Un.cs,r⟩) r:=by
   have:=Gz g2 hr';rw[r2]at this;exact this
  have rdP:Rd.read (Aio ⟨Un.cs,r⟩)=(⟨Un.cs,r⟩,0):=by
   have:=al.rd;rw[r2]at this;exact this
  have hc:=Jg hp;refine⟨Aio ⟨Un.cs,r⟩,?_,?_,hp,?_,hc,?_⟩
  ·rw[Aa7];unfold Kr.quick;rw[f1,r1];show Aju (0,0,0) (Aie (Ajk Un.cs (Un.ms k m false)) 0 (Un.ms k m false))=_;unfold Un.ms at h5 ⊢;rw[Aie,h5];rfl
  ·unfold Ai2;rw[if_neg (fun g=>g g1),r1];simp only;have hf:Ahy (Ahu Un.cs (Un.ms k m false)) (Un.ms k m false)=none:=by
    show Ahy (Ahu Un.cs (Un.ms k m false)) (Un.main k m false::_)=none;rw[Ahy,hn]
   rw[hf];have hw:Ajv (Ahu Un.cs (Un.ms k m false)) 0 (Un.ms k m false)=0:=by
    show Ajv (Ahu Un.cs (Un.ms k m false)) 0 (Un.main k m false::_)=0;rw[Ajv,hn];rfl
   rw[hw]
  ·have:=(V9 _ al.p0).2;omega
  ·unfold Mc.runOf;rw[if_neg (by rw[hc];simp),rdP];simp only;rw[if_neg (by rw[h7.1];simp)];exact h7.2
theorem N9 {a:ByteArray}{x x' y y':Int} (hx:x=x') (hy:y=y'):Ending.returned (.tuple #[.string a,.int .i64 x,.int .i64 y])=.returned (.tuple #[.string a,.int .i64 x',.int .i64 y']):=by rw[hx,hy]
theorem Yt (k t:Nat):(Un.use k t).1.length≤5∧(Un.use k t).2.1≤3∧(Un.use k t).2.2≤3:=by
 unfold Un.use
 repeat' split
 all_goals exact⟨by simp,by simp,by simp⟩
theorem Ags (tail:Nat) (ht:tail≤255) (w:World) :
  Calls Tryz.prog 64 #[.int .i64 0,.int .i64 (tail:Int)] w fun e w'=>∃ b,e=.returned (.tuple #[.string b,.int .i64 ((Un.use 0 tail).2.1:Int),.int .i64 ((Un.use 0 tail).2.2:Int)])∧Kr.Is b (Un.use 0 tail).1∧Below w.heap.size w w':=by
 have hB0:=Below.refl w.heap.size w;go_enter Tryz.func64,Tryz.ntmps64;go_wp2_with fail
 refine(An _ _ (by omega) (by omega)).mono ?_;rintro e w1 ⟨b1,rfl,i1,z1,hb1⟩;have hB1:=QB hB0 hb1;clear hb1 hB0;go_wp2;go_ret3;exact⟨_,rfl,Ad (Ad (Ag _) (i1)) (Ag _),hB1⟩
theorem Ago (tail:Nat) (ht:tail≤255) (w:World) :
  Calls Tryz.prog 64 #[.int .i64 1,.int .i64 (tail:Int)] w fun e w'=>∃ b,e=.returned (.tuple #[.string b,.int .i64 ((Un.use 1 tail).2.1:Int),.int .i64 ((Un.use 1 tail).2.2:Int)])∧Kr.Is b (Un.use 1 tail).1∧Below w.heap.size w w':=by
 have hB0:=Below.refl w.heap.size w;go_enter Tryz.func64,Tryz.ntmps64;go_wp2_with fail
 refine(An _ _ (by omega) (by omega)).mono ?_;rintro e w1 ⟨b1,rfl,i1,z1,hb1⟩;have hB1:=QB hB0 hb1;clear hb1 hB0;go_wp2_with fail
 refine(An _ _ (by omega) (by omega)).mono ?_;rintro e w2 ⟨b2,rfl,i2,z2,hb2⟩;have hB2:=QB hB1 hb2;clear hb2 hB1;go_wp2;go_ret3;exact⟨_,rfl,Ad (Ad (Ad (Ag _) (i1)) (Ag _)) (i2),hB2⟩
theorem Ag6 (tail:Nat) (ht:tail≤255) (w:World) :
  Calls Tryz.prog 64 #[.int .i64 2,.int .i64 (tail:Int)] w fun e w'=>∃ b,e=.returned (.tuple #[.string b,.int .i64 ((Un.use 2 tail).2.1:Int),.int .i64 ((Un.use 2 tail).2.2:Int)])∧Kr.Is b (Un.use 2 tail).1∧Below w.heap.size w w':=by
 have hB0:=Below.refl w.heap.size w;go_enter Tryz.func64,Tryz.ntmps64;go_wp2_with fail
 refine(An _ _ (by omega) (by omega)).mono ?_;rintro e w1 ⟨b1,rfl,i1,z1,hb1⟩;have hB1:=QB hB0 hb1;clear hb1 hB0;go_wp2;go_ret3;exact⟨_,rfl,Ad (Ad (Ag _) (i1)) (Ag _),hB1⟩
theorem Agy (tail:Nat) (ht:tail≤255) (w:World) :
  Calls Tryz.prog 64 #[.int .i64 3,.int .i64 (tail:Int)] w fun e w'=>∃ b,e=.returned (.tuple #[.string b,.int .i64 ((Un.use 3 tail).2.1:Int),.int .i64 ((Un.use 3 tail).2.2:Int)])∧Kr.Is b (Un.use 3 tail).1∧Below w.heap.size w w':=by
 have hB0:=Below.refl w.heap.size w;go_enter Tryz.func64,Tryz.ntmps64;go_wp2_with fail
 refine(An _ _ (by omega) (by omega)).mono ?_;rintro e w1 ⟨b1,rfl,i1,z1,hb1⟩;have hB1:=QB hB0 hb1;clear hb1 hB0;go_wp2;go_ret3;exact⟨_,rfl,Ad (Ag _) (i1),hB1⟩
theorem Agu (tail:Nat) (ht:tail≤255) (w:World) :
  Calls Tryz.prog 64 #[.int .i64 4,.int .i64 (tail:Int)] w fun e w'=>∃ b,e=.returned (.tuple #[.string b,.int .i64 ((Un.use 4 tail).2.1:Int),.int .i64 ((Un.use 4 tail).2.2:Int)])∧Kr.Is b (Un.use 4 tail).1∧Below w.heap.size w w':=by
 have hB0:=Below.refl w.heap.size w;go_enter Tryz.func64,Tryz.ntmps64;go_wp2;go_ret3;exact⟨_,rfl,Ag _,hB0⟩
theorem Ahf (tail:Nat) (ht:tail≤255) (w:World) :
  Calls Tryz.prog 64 #[.int .i64 5,.int .i64 (tail:Int)] w fun e w'=>∃ b,e=.returned (.tuple #[.string b,.int .i64 ((Un.use 5 tail).2.1:Int),.int .i64 ((Un.use 5 tail).2.2:Int)])∧Kr.Is b (Un.use 5 tail).1∧Below w.heap.size w w':=by
 have hB0:=Below.refl w.heap.size w;go_enter Tryz.func64,Tryz.ntmps64;go_wp2_with fail
 refine(An _ _ (by omega) (by omega)).mono ?_;rintro e w1 ⟨b1,rfl,i1,z1,hb1⟩;have hB1:=QB hB0 hb1;clear hb1 hB0;go_wp2;go_ret3;exact⟨_,rfl,Ad (Ag _) (i1),hB1⟩
theorem Agt (tail:Nat) (ht:tail≤255) (w:World) :
  Calls Tryz.prog 64 #[.int .i64 6,.int .i64 (tail:Int)] w fun e w'=>∃ b,e=.returned (.tuple #[.string b,.int .i64 ((Un.use 6 tail).2.1:Int),.int .i64 ((Un.use 6 tail).2.2:Int)])∧Kr.Is b (Un.use 6 tail).1∧Below w.heap.size w w':=by
 have hB0:=Below.refl w.heap.size w;go_enter Tryz.func64,Tryz.ntmps64;go_wp2_with fail
 refine(An _ _ (by omega) (by omega)).mono ?_;rintro e w1 ⟨b1,rfl,i1,z1,hb1⟩;have hB1:=QB hB0 hb1;clear hb1 hB0;go_wp2;go_ret3;exact⟨_,rfl,Ad (Ag _) (i1),hB1⟩
theorem Agr (tail:Nat) (ht:tail≤255) (w:World) :
  Calls Tryz.prog 64 #[.int .i64 7,.int .i64 (tail:Int)] w fun e w'=>∃ b,e=.returned (.tuple #[.string b,.int .i64 ((Un.use 7 tail).2.1:Int),.int .i64 ((Un.use 7 tail).2.2:Int)])∧Kr.Is b (Un.use 7 tail).1∧Below w.heap.size w w':=by
 have hB0:=Below.refl w.heap.size w;go_enter Tryz.func64,Tryz.ntmps64;go_wp2;go_ret3;exact⟨_,rfl,Ag _,hB0⟩
theorem Ag0 (tail:Nat) (ht:tail≤255) (w:World) :
  Calls Tryz.prog 64 #[.int .i64 8,.int .i64 (tail:Int)] w fun e w'=>∃ b,e=.returned (.tuple #[.string b,.int .i64 ((Un.use 8 tail).2.1:Int),.int .i64 ((Un.use 8 tail).2.2:Int)])∧Kr.Is b (Un.use 8 tail).1∧Below w.heap.size w w':=by
 have hB0:=Below.refl w.heap.size w;go_enter Tryz.func64,Tryz.ntmps64;go_wp2_with fail
 refine(An _ _ (by omega) (by omega)).mono ?_;rintro e w1 ⟨b1,rfl,i1,z1,hb1⟩;have hB1:=QB hB0 hb1;clear hb1 hB0;go_wp2_with fail
 refine(An _ _ (by omega) (by omega)).mono ?_;rintro e w2 ⟨b2,rfl,i2,z2,hb2⟩;have hB2:=QB hB1 hb2;clear hb2 hB1;go_wp2;go_ret3;exact⟨_,rfl,Ad (Ad (Ad (Ad (Ag _) (i1)) (Ag _)) (Ag _)) (i2),hB2⟩
theorem Wk (k tail:Nat) (v:Int) (hv:v=(tail:Int)) (hk:k<9) (ht:tail≤255) (w:World) :
  Calls Tryz.prog 64 #[.int .i64 (k:Int),.int .i64 v] w fun e w'=>∃ b,e=.returned (.tuple #[.string b,.int .i64 ((Un.use k tail).2.1:Int),.int .i64 ((Un.use k tail).2.2:Int)])∧Kr.Is b (Un.use k tail).1∧Below w.heap.size w w':=by
 subst hv
 match k,hk with
 | 0,_=>exact Ags tail ht w
 | 1,_=>exact Ago tail ht w
 | 2,_=>exact Ag6 tail ht w
 | 3,_=>exact Agy tail ht w
 | 4,_=>exact Agu tail ht w
 | 5,_=>exact Ahf tail ht w
 | 6,_=>exact Agt tail ht w
 | 7,_=>exact Agr tail ht w
 | 8,_=>exact Ag0 tail ht w
theorem To (k m:Nat) (w:World) (hk:k<9) (hm:m<20) :
  Calls Tryz.prog 35 #[.int .i64 (k:Int),.int .i64 (m:Int),.bool false] w fun e w'=>∃ b,e=.returned (.tuple #[.string b,.int .i64 (Un.place k m false:Int),.int .i64 (Un.steps k m false:Int)])∧Kr.Is b (Un.file k m false)∧b.size≤30000∧Below w.heap.size w w':=by
 have HB:=Ac (fun i (hi:i<20)=>(M6 k i false hk hi).1);have HC:=Ac (fun (_:Unit)=>(M6 k m false hk hm).2);have HU:=Ac (fun t=>Yt k t);have hB0:=Below.refl w.heap.size w;go_enter Tryz.func35,Tryz.ntmps35;go_wp2_with fail
 refine(An _ _ (by omega) (by omega)).mono ?_;rintro e w1 ⟨b1,rfl,i1,z1,hb1⟩;have hB1:=QB hB0 hb1;clear hb1 hB0;go_wp2
 go_loopw [9,11] (fun vc vi wr=>∃ (i:Nat) (bc:ByteArray),i≤m∧vc=.string bc∧Kr.Is bc (Un.moved false i)∧bc.size≤90∧vi=.int .i64 (i:Int)∧Below w.heap.size w wr)
  (fun _ i _=>m-(intOf i).toNat)
 case atStart =>
  refine⟨0,_,by omega,rfl,Ad (Ag _) (i1),?_,rfl,hB1⟩;rw[Bj (Ad (Ag _) (i1))];exact Nat.le_of_ble_eq_true rfl
 case round =>
  clear hB1 i1 z1;obtain⟨i,bc,hi,rfl,ic,zc,rfl,hB0⟩:=hrel;by_cases him:i<m
  ·have hb':=Aa HB (i+1) (by omega);go_wp2_with fail
   refine(An _ _ (by omega) (by omega)).mono ?_;rintro e w1 ⟨b1,rfl,i1,z1,hb1⟩;have hB1:=QB hB0 hb1;clear hb1 hB0;go_wp2_with fail
   refine(An _ _ (by omega) (by omega)).mono ?_;rintro e w2 ⟨b2,rfl,i2,z2,hb2⟩;have hB2:=QB hB1 hb2;clear hb2 hB1;have zz:=Bj (Ad (Ad (Ad (Ad (ic) (Ag #[3])) (i1)) (Ag #[2])) (i2));go_wp2
   go_roundw
   case rel=>exact⟨i+1,_,by omega,rfl,Ad (Ad (Ad (Ad (ic) (Ag #[3])) (i1)) (Ag #[2])) (i2),by rw[zz];exact hb',by go_num,hB2⟩
   case measure=>simp[intOf];omega
  ·obtain rfl:i=m:=by omega
   clear HB;have EB:=Ac (fun (_:Unit)=>Bj ic);go_wp2_with fail
   refine(Wk k 0 _ rfl hk (by omega) _).mono ?_;rintro e w1 ⟨c1,rfl,j1,hb1⟩;have hB1:=QB hB0 hb1;clear hb1 hB0;have u1:=Aa HU 0;have e1:=Bj j1;obtain⟨T,hT⟩:∃ T,Un.tail k i false=T:=⟨_,rfl⟩;have eT:bc.size+c1.size=T:=by have:=Aa EB ();rw[← hT];unfold Un.tail;omega
   have zc1:c1.size≤5:=by omega
   have hT100:T≤100:=by omega
   have HT:=Ac (fun (_:Unit)=>hT);have ET:=Ac (fun (_:Unit)=>eT);clear e1 u1 eT hT j1;go_wp2_with fail
   refine(Wk k T _ (by have:=Aa ET ();omega) hk (by omega) _).mono ?_;rintro e w2 ⟨c2,rfl,j2,hb2⟩;have hB2:=QB hB1 hb2;clear hb2 hB1;have u2:=Aa HU T;have e2:=Bj j2;have zc2:c2.size≤5:=by omega
   have HP:Hid (Unit→(bc.size:Int)+((Un.use k T).2.1:Int)=(Un.place k i false:Int)):=fun _=>by have h1:=Aa HT ();have h2:=Aa EB ();unfold Un.place;rw[h1];omega
   have HS:Hid (Unit→(Un.steps k i false:Int)=1+2*(i:Int)+0+((Un.use k T).2.2:Int)+(if k=4∨k=7 then 0 else 2)):=fun _=>by have h1:=Aa HT ();by_cases q:k=4∨k=7<;>simp[Un.steps,h1,q]<;>omega
   have iC:Kr.Is (bc++c2++⟨#[1]⟩++⟨#[22]⟩) (Un.code k i false):=by have h1:=Aa HT ();unfold Un.code;rw[h1];exact Ad (Ad (Ad ic j2) (Ag _)) (Ag _)
   have lC:=Aa HC ();have hA:=u2.2.1;have hN:=u2.2.2;clear u2 e2 j2 HU HC HT ET EB ic;generalize (Un.use k T).2.2=N at *;generalize (Un.use k T).2.1=A at *;by_cases h4:k=4
   ·have q4:((k:Int) != 4)=false:=by subst h4;rfl
    have zl:(⟨#[1,0]⟩:ByteArray).size=2:=rfl;have hs:=Aa HS ();rw[if_pos (.inl h4)]at hs;have HS2:=Ac (fun (_:Unit)=>hs);clear hs HS;go_wp2_with fail
    refine(An _ _ (by omega) (by omega)).mono ?_;rintro e w3 ⟨b3,rfl,i3,z3,hb3⟩;have hB3:=QB hB2 hb3;clear hb3 hB2;go_wp2_with fail
    refine(An _ _ (by omega) (by omega)).mono ?_;rintro e w4 ⟨b4,rfl,i4,z4,hb4⟩;have hB4:=QB hB3 hb4;clear hb4 hB3;go_wp2_with fail
    refine(Bb _ _ _ _ _ _ _ _ _ _ _ (Ag _) (Ad (i3) (i4)) (iC) (Ag _) (Nat.le_of_ble_eq_true rfl) (Nat.le_of_ble_eq_true rfl) (by omega) (by omega) (by omega) (by omega) (by omega) (Nat.le_of_ble_eq_true rfl)).mono ?_;rintro e w5 ⟨b5,rfl,i5,z5,hb5⟩;have hB5:=QB hB4 hb5;clear hb5 hB4;go_wp2_with fail
    refine(An _ _ (by omega) (by omega)).mono ?_;rintro e w6 ⟨b6,rfl,i6,z6,hb6⟩;have hB6:=QB hB5 hb6;clear hb6 hB5;go_wp2_with fail
    refine(An _ _ (by omega) (by omega)).mono ?_;rintro e w7 ⟨b7,rfl,i7,z7,hb7⟩;have hB7:=QB hB6 hb7;clear hb7 hB6;go_wp2_with fail
    refine(An _ _ (by omega) (by omega)).mono ?_;rintro e w8 ⟨b8,rfl,i8,z8,hb8⟩;have hB8:=QB hB7 hb8;clear hb8 hB7;go_wp2_with fail
    refine(Bb _ _ _ _ _ _ _ _ _ _ _ (Ad (Ad (i6) (i7)) (i8)) (Ag _) (Ag _) (Ag _) (Nat.le_of_ble_eq_true rfl) (Nat.le_of_ble_eq_true rfl) (by omega) (by omega) (by omega) (by omega) (Nat.le_of_ble_eq_true rfl) (Nat.le_of_ble_eq_true rfl)).mono ?_;rintro e w9 ⟨b9,rfl,i9,z9,hb9⟩;have hB9:=QB hB8 hb9;clear hb9 hB8;clear i6 z6 i7 z7 i8 z8;go_wp2_with fail
    refine(An _ _ (by omega) (by omega)).mono ?_;rintro e w10 ⟨b10,rfl,i10,z10,hb10⟩;have hB10:=QB hB9 hb10;clear hb10 hB9;go_wp2_with fail
    refine(An _ _ (by omega) (by omega)).mono ?_;rintro e w11 ⟨b11,rfl,i11,z11,hb11⟩;have hB11:=QB hB10 hb11;clear hb11 hB10;go_wp2_with fail
    refine(An _ _ (by omega) (by omega)).mono ?_;rintro e w12 ⟨b12,rfl,i12,z12,hb12⟩;have hB12:=QB hB11 hb12;clear hb12 hB11;go_wp2_with fail
    refine(Bb _ _ _ _ _ _ _ _ _ _ _ (Ad (Ad (Ad (i10) (i11)) (i12)) (Ad (i3) (i4))) (Ag _) (Ag _) (Ag _) (Nat.le_of_ble_eq_true rfl) (Nat.le_of_ble_eq_true rfl) (by omega) (by omega) (by omega) (by omega) (Nat.le_of_ble_eq_true rfl) (Nat.le_of_ble_eq_true rfl)).mono ?_;rintro e w13 ⟨b13,rfl,i13,z13,hb13⟩;have hB13:=QB hB12 hb13;clear hb13 hB12;clear i10 z10 i11 z11 i12 z12;go_wp2_with fail
    refine(An _ _ (by omega) (by omega)).mono ?_;rintro e w14 ⟨b14,rfl,i14,z14,hb14⟩;have hB14:=QB hB13 hb14;clear hb14 hB13;go_wp2_with fail
    refine(An _ _ (by omega) (by omega)).mono ?_;rintro e w15 ⟨b15,rfl,i15,z15,hb15⟩;have hB15:=QB hB14 hb15;clear hb15 hB14;go_wp2_with fail
    refine(An _ _ (by omega) (by omega)).mono ?_;rintro e w16 ⟨b16,rfl,i16,z16,hb16⟩;have hB16:=QB hB15 hb16;clear hb16 hB15;go_wp2_with fail
    refine(An _ _ (by omega) (by omega)).mono ?_;rintro e w17 ⟨b17,rfl,i17,z17,hb17⟩;have hB17:=QB hB16 hb17;clear hb17 hB16;go_wp2_with fail
    refine(Fx _ _ _ _ _ _ _ (Ad (Ad (Ad (Ad (Ad (i14) (i15)) (Ag _)) (i16)) (i17)) (Ad (i3) (i4))) (Ad (Ad (i5) (i9)) (i13)) (by omega) (by omega) (by omega) (by omega) (by first | omega | (simp only[ByteArray.size_append];first | omega | (simp only[ByteArray.size,List.size_toArray,List.length_cons,List.length_nil];omega)) | exact Nat.le_of_ble_eq_true rfl) (by first | omega | (simp only[ByteArray.size_append];omega))).mono ?_
    rintro e w18 ⟨b18,rfl,i18,z18,hb18⟩;have hB18:=QB hB17 hb18;clear hb18 hB17;go_wp2;go_ret3;have eP:=Aa HP ();have eS:=Aa HS2 ();exact⟨_,N9 eP (by omega),i18,z18,hB18⟩
   ·have q4:((k:Int) != 4)=true:=by simp;omega
    by_cases h7:k=7
    ·have q7:((k:Int) != 7)=false:=by subst h7;rfl
     have zl:(⟨#[1,0]⟩:ByteArray).size=2:=rfl;have hs:=Aa HS ();rw[if_pos (.inr h7)]at hs;have HS2:=Ac (fun (_:Unit)=>hs);clear hs HS;go_wp2_with fail
     refine(An _ _ (by omega) (by omega)).mono ?_;rintro e w3 ⟨b3,rfl,i3,z3,hb3⟩;have hB3:=QB hB2 hb3;clear hb3 hB2;go_wp2_with fail
     refine(An _ _ (by omega) (by omega)).mono ?_;rintro e w4 ⟨b4,rfl,i4,z4,hb4⟩;have hB4:=QB hB3 hb4;clear hb4 hB3;go_wp2_with fail
     refine(Bb _ _ _ _ _ _ _ _ _ _ _ (Ag _) (Ad (i3) (i4)) (iC) (Ag _) (Nat.le_of_ble_eq_true rfl) (Nat.le_of_ble_eq_true rfl) (by omega) (by omega) (by omega) (by omega) (by omega) (Nat.le_of_ble_eq_true rfl)).mono ?_;rintro e w5 ⟨b5,rfl,i5,z5,hb5⟩;have hB5:=QB hB4 hb5;clear hb5 hB4;go_wp2_with fail
     refine(An _ _ (by omega) (by omega)).mono ?_;rintro e w6 ⟨b6,rfl,i6,z6,hb6⟩;have hB6:=QB hB5 hb6;clear hb6 hB5;go_wp2_with fail
     refine(An _ _ (by omega) (by omega)).mono ?_;rintro e w7 ⟨b7,rfl,i7,z7,hb7⟩;have hB7:=QB hB6 hb7;clear hb7 hB6;go_wp2_with fail
     refine(An _ _ (by omega) (by omega)).mono ?_;rintro e w8 ⟨b8,rfl,i8,z8,hb8⟩;have hB8:=QB hB7 hb8;clear hb8 hB7;go_wp2_with fail
     refine(Bb _ _ _ _ _ _ _ _ _ _ _ (Ad (Ad (i6) (i7)) (i8)) (Ag _) (Ag _) (Ag _) (Nat.le_of_ble_eq_true rfl) (Nat.le_of_ble_eq_true rfl) (by omega) (by omega) (by omega) (by omega) (Nat.le_of_ble_eq_true rfl) (Nat.le_of_ble_eq_true rfl)).mono ?_;rintro e w9 ⟨b9,rfl,i9,z9,hb9⟩;have hB9:=QB hB8 hb9;clear hb9 hB8;clear i6 z6 i7 z7 i8 z8;go_wp2_with fail
     refine(An _ _ (by omega) (by omega)).mono ?_;rintro e w10 ⟨b10,rfl,i10,z10,hb10⟩;have hB10:=QB hB9 hb10;clear hb10 hB9;go_wp2_with fail
     refine(An _ _ (by omega) (by omega)).mono ?_;rintro e w11 ⟨b11,rfl,i11,z11,hb11⟩;have hB11:=QB hB10 hb11;clear hb11 hB10;go_wp2_with fail
     refine(An _ _ (by omega) (by omega)).mono ?_;rintro e w12 ⟨b12,rfl,i12,z12,hb12⟩;have hB12:=QB hB11 hb12;clear hb12 hB11;go_wp2_with fail
     refine(Bb _ _ _ _ _ _ _ _ _ _ _ (Ad (Ad (Ad (i10) (i11)) (i12)) (Ad (i3) (i4))) (Ag _) (Ag _) (Ag _) (Nat.le_of_ble_eq_true rfl) (Nat.le_of_ble_eq_true rfl) (by omega) (by omega) (by omega) (by omega) (Nat.le_of_ble_eq_true rfl) (Nat.le_of_ble_eq_true rfl)).mono ?_;rintro e w13 ⟨b13,rfl,i13,z13,hb13⟩;have hB13:=QB hB12 hb13;clear hb13 hB12;clear i10 z10 i11 z11 i12 z12;go_wp2_with fail
     refine(An _ _ (by omega) (by omega)).mono ?_;rintro e w14 ⟨b14,rfl,i14,z14,hb14⟩;have hB14:=QB hB13 hb14;clear hb14 hB13;go_wp2_with fail
     refine(An _ _ (by omega) (by omega)).mono ?_;rintro e w15 ⟨b15,rfl,i15,z15,hb15⟩;have hB15:=QB hB14 hb15;clear hb15 hB14;go_wp2_with fail
     refine(An _ _ (by omega) (by omega)).mono ?_;rintro e w16 ⟨b16,rfl,i16,z16,hb16⟩;have hB16:=QB hB15 hb16;clear hb16 hB15;go_wp2_with fail
     refine(An _ _ (by omega) (by omega)).mono ?_;rintro e w17 ⟨b17,rfl,i17,z17,hb17⟩;have hB17:=QB hB16 hb17;clear hb17 hB16;go_wp2_with fail
     refine(Fx _ _ _ _ _ _ _ (Ad (Ad (Ad (Ad (Ad (i14) (i15)) (Ag _)) (i16)) (i17)) (Ad (i3) (i4))) (Ad (Ad (i5) (i9)) (i13)) (by omega) (by omega) (by omega) (by omega) (by first | omega | (simp only[ByteArray.size_append];first | omega | (simp only[ByteArray.size,List.size_toArray,List.length_cons,List.length_nil];omega)) | exact Nat.le_of_ble_eq_true rfl) (by first | omega | (simp only[ByteArray.size_append];omega))).mono ?_
     rintro e w18 ⟨b18,rfl,i18,z18,hb18⟩;have hB18:=QB hB17 hb18;clear hb18 hB17;go_wp2;go_ret3;have eP:=Aa HP ();have eS:=Aa HS2 ();exact⟨_,N9 eP (by omega),i18,z18,hB18⟩
    ·have q7:((k:Int) != 7)=true:=by simp;omega
     have zl:(⟨#[1,0]⟩:ByteArray).size=2:=rfl;have hs:=Aa HS ();rw[if_neg (by omega)]at hs;have HS2:=Ac (fun (_:Unit)=>hs);clear hs HS;go_wp2_with fail
     refine(An _ _ (by omega) (by omega)).mono ?_;rintro e w3 ⟨b3,rfl,i3,z3,hb3⟩;have hB3:=QB hB2 hb3;clear hb3 hB2;go_wp2_with fail
     refine(An _ _ (by omega) (by omega)).mono ?_;rintro e w4 ⟨b4,rfl,i4,z4,hb4⟩;have hB4:=QB hB3 hb4;clear hb4 hB3;go_wp2_with fail
     refine(Bb _ _ _ _ _ _ _ _ _ _ _ (Ag _) (Ad (i3) (i4)) (iC) (Ag _) (Nat.le_of_ble_eq_true rfl) (Nat.le_of_ble_eq_true rfl) (by omega) (by omega) (by omega) (by omega) (by omega) (Nat.le_of_ble_eq_true rfl)).mono ?_;rintro e w5 ⟨b5,rfl,i5,z5,hb5⟩;have hB5:=QB hB4 hb5;clear hb5 hB4;go_wp2_with fail
     refine(An _ _ (by omega) (by omega)).mono ?_;rintro e w6 ⟨b6,rfl,i6,z6,hb6⟩;have hB6:=QB hB5 hb6;clear hb6 hB5;go_wp2_with fail
     refine(An _ _ (by omega) (by omega)).mono ?_;rintro e w7 ⟨b7,rfl,i7,z7,hb7⟩;have hB7:=QB hB6 hb7;clear hb7 hB6;go_wp2_with fail
     refine(An _ _ (by omega) (by omega)).mono ?_;rintro e w8 ⟨b8,rfl,i8,z8,hb8⟩;have hB8:=QB hB7 hb8;clear hb8 hB7;go_wp2_with fail
     refine(Bb _ _ _ _ _ _ _ _ _ _ _ (Ad (Ad (i6) (i7)) (i8)) (Ag _) (Ag _) (Ag _) (Nat.le_of_ble_eq_true rfl) (Nat.le_of_ble_eq_true rfl) (by omega) (by omega) (by omega) (by omega) (Nat.le_of_ble_eq_true rfl) (Nat.le_of_ble_eq_true rfl)).mono ?_;rintro e w9 ⟨b9,rfl,i9,z9,hb9⟩;have hB9:=QB hB8 hb9;clear hb9 hB8;clear i6 z6 i7 z7 i8 z8;go_wp2_with fail
     refine(An _ _ (by omega) (by omega)).mono ?_;rintro e w10 ⟨b10,rfl,i10,z10,hb10⟩;have hB10:=QB hB9 hb10;clear hb10 hB9;go_wp2_with fail
     refine(An _ _ (by omega) (by omega)).mono ?_;rintro e w11 ⟨b11,rfl,i11,z11,hb11⟩;have hB11:=QB hB10 hb11;clear hb11 hB10;go_wp2_with fail
     refine(An _ _ (by omega) (by omega)).mono ?_;rintro e w12 ⟨b12,rfl,i12,z12,hb12⟩;have hB12:=QB hB11 hb12;clear hb12 hB11;go_wp2_with fail
     refine(Bb _ _ _ _ _ _ _ _ _ _ _ (Ad (Ad (Ad (i10) (i11)) (i12)) (Ad (i3) (i4))) (Ag _) (Ag _) (Ag _) (Nat.le_of_ble_eq_true rfl) (Nat.le_of_ble_eq_true rfl) (by omega) (by omega) (by omega) (by omega) (Nat.le_of_ble_eq_true rfl) (Nat.le_of_ble_eq_true rfl)).mono ?_;rintro e w13 ⟨b13,rfl,i13,z13,hb13⟩;have hB13:=QB hB12 hb13;clear hb13 hB12;clear i10 z10 i11 z11 i12 z12;go_wp2_with fail
     refine(An _ _ (by omega) (by omega)).mono ?_;rintro e w14 ⟨b14,rfl,i14,z14,hb14⟩;have hB14:=QB hB13 hb14;clear hb14 hB13;go_wp2_with fail
     refine(An _ _ (by omega) (by omega)).mono ?_;rintro e w15 ⟨b15,rfl,i15,z15,hb15⟩;have hB15:=QB hB14 hb15;clear hb15 hB14;go_wp2_with fail
     refine(An _ _ (by omega) (by omega)).mono ?_;rintro e w16 ⟨b16,rfl,i16,z16,hb16⟩;have hB16:=QB hB15 hb16;clear hb16 hB15;go_wp2_with fail
     refine(An _ _ (by omega) (by omega)).mono ?_;rintro e w17 ⟨b17,rfl,i17,z17,hb17⟩;have hB17:=QB hB16 hb17;clear hb17 hB16;go_wp2_with fail
     refine(Fx _ _ _ _ _ _ _ (Ad (Ad (Ad (Ad (Ad (i14) (i15)) (Ag _)) (i16)) (i17)) (Ad (i3) (i4))) (Ad (Ad (i5) (i9)) (i13)) (by omega) (by omega) (by omega) (by omega) (by first | omega | (simp only[ByteArray.size_append];first | omega | (simp only[ByteArray.size,List.size_toArray,List.length_cons,List.length_nil];omega)) | exact Nat.le_of_ble_eq_true rfl) (by first | omega | (simp only[ByteArray.size_append];omega))).mono ?_
     rintro e w18 ⟨b18,rfl,i18,z18,hb18⟩;have hB18:=QB hB17 hb18;clear hb18 hB17;go_wp2;go_ret3;have eP:=Aa HP ();have eS:=Aa HS2 ();exact⟨_,N9 eP (by omega),i18,z18,hB18⟩
theorem Xn (k m:Nat) (w:World) (hk:k<9) (hm:m<20) :
  Calls Tryz.prog 35 #[.int .i64 (k:Int),.int .i64 (m:Int),.bool true] w fun e w'=>∃ b,e=.returned (.tuple #[.string b,.int .i64 (Un.place k m true:Int),.int .i64 (Un.steps k m true:Int)])∧Kr.Is b (Un.file k m true)∧b.size≤30000∧Below w.heap.size w w':=by
 have HB:=Ac (fun i (hi:i<20)=>(M6 k i true hk hi).1);have HC:=Ac (fun (_:Unit)=>(M6 k m true hk hm).2);have HU:=Ac (fun t=>Yt k t);have hB0:=Below.refl w.heap.size w;go_enter Tryz.func35,Tryz.ntmps35;go_wp2_with fail
 refine(An _ _ (by omega) (by omega)).mono ?_;rintro e w1 ⟨b1,rfl,i1,z1,hb1⟩;have hB1:=QB hB0 hb1;clear hb1 hB0;go_wp2_with fail
 refine(An _ _ (by omega) (by omega)).mono ?_;rintro e w2 ⟨b2,rfl,i2,z2,hb2⟩;have hB2:=QB hB1 hb2;clear hb2 hB1;go_wp2_with fail
 refine(An _ _ (by omega) (by omega)).mono ?_;rintro e w3 ⟨b3,rfl,i3,z3,hb3⟩;have hB3:=QB hB2 hb3;clear hb3 hB2;go_wp2
 go_loopw [9,11] (fun vc vi wr=>∃ (i:Nat) (bc:ByteArray),i≤m∧vc=.string bc∧Kr.Is bc (Un.moved true i)∧bc.size≤90∧vi=.int .i64 (i:Int)∧Below w.heap.size w wr)
  (fun _ i _=>m-(intOf i).toNat)
 case atStart =>
  refine⟨0,_,by omega,rfl,Ad (Ad (Ad (Ad (Ad (Ad (Ag _) (i1)) (Ag _)) (Ag _)) (i2)) (Ag _)) (i3),?_,rfl,hB3⟩;rw[Bj (Ad (Ad (Ad (Ad (Ad (Ad (Ag _) (i1)) (Ag _)) (Ag _)) (i2)) (Ag _)) (i3))];exact Nat.le_of_ble_eq_true rfl
 case round =>
  clear hB3 i1 z1 i2 z2 i3 z3;obtain⟨i,bc,hi,rfl,ic,zc,rfl,hB0⟩:=hrel;by_cases him:i<m
  ·have hb':=Aa HB (i+1) (by omega);go_wp2_with fail
   refine(An _ _ (by omega) (by omega)).mono ?_;rintro e w1 ⟨b1,rfl,i1,z1,hb1⟩;have hB1:=QB hB0 hb1;clear hb1 hB0;go_wp2_with fail
   refine(An _ _ (by omega) (by omega)).mono ?_;rintro e w2 ⟨b2,rfl,i2,z2,hb2⟩;have hB2:=QB hB1 hb2;clear hb2 hB1;have zz:=Bj (Ad (Ad (Ad (Ad (ic) (Ag #[3])) (i1)) (Ag #[2])) (i2));go_wp2
   go_roundw
   case rel=>exact⟨i+1,_,by omega,rfl,Ad (Ad (Ad (Ad (ic) (Ag #[3])) (i1)) (Ag #[2])) (i2),by rw[zz];exact hb',by go_num,hB2⟩
   case measure=>simp[intOf];omega
  ·obtain rfl:i=m:=by omega
   clear HB;have EB:=Ac (fun (_:Unit)=>Bj ic);go_wp2_with fail
   refine(Wk k 0 _ rfl hk (by omega) _).mono ?_;rintro e w1 ⟨c1,rfl,j1,hb1⟩;have hB1:=QB hB0 hb1;clear hb1 hB0;have u1:=Aa HU 0;have e1:=Bj j1;obtain⟨T,hT⟩:∃ T,Un.tail k i true=T:=⟨_,rfl⟩;have eT:bc.size+c1.size=T:=by have:=Aa EB ();rw[← hT];unfold Un.tail;omega
   have zc1:c1.size≤5:=by omega
   have hT100:T≤100:=by omega
   have HT:=Ac (fun (_:Unit)=>hT);have ET:=Ac (fun (_:Unit)=>eT);clear e1 u1 eT hT j1;go_wp2_with fail
   refine(Wk k T _ (by have:=Aa ET ();omega) hk (by omega) _).mono ?_;rintro e w2 ⟨c2,rfl,j2,hb2⟩;have hB2:=QB hB1 hb2;clear hb2 hB1;have u2:=Aa HU T;have e2:=Bj j2;have zc2:c2.size≤5:=by omega
   have HP:Hid (Unit→(bc.size:Int)+((Un.use k T).2.1:Int)=(Un.place k i true:Int)):=fun _=>by have h1:=Aa HT ();have h2:=Aa EB ();unfold Un.place;rw[h1];omega
   have HS:Hid (Unit→(Un.steps k i true:Int)=1+2*(i:Int)+3+((Un.use k T).2.2:Int)+(if k=4∨k=7 then 0 else 2)):=fun _=>by have h1:=Aa HT ();by_cases q:k=4∨k=7<;>simp[Un.steps,h1,q]<;>omega
   have iC:Kr.Is (bc++c2++⟨#[1]⟩++⟨#[22]⟩) (Un.code k i true):=by have h1:=Aa HT ();unfold Un.code;rw[h1];exact Ad (Ad (Ad ic j2) (Ag _)) (Ag _)
   have lC:=Aa HC ();have hA:=u2.2.1;have hN:=u2.2.2;clear u2 e2 j2 HU HC HT ET EB ic;generalize (Un.use k T).2.2=N at *;generalize (Un.use k T).2.1=A at *;by_cases h4:k=4
   ·have q4:((k:Int) != 4)=false:=by subst h4;rfl
    have zl:(⟨#[1,0]⟩:ByteArray).size=2:=rfl;have hs:=Aa HS ();rw[if_pos (.inl h4)]at hs;have HS2:=Ac (fun (_:Unit)=>hs);clear hs HS;go_wp2_with fail
    refine(An _ _ (by omega) (by omega)).mono ?_;rintro e w3 ⟨b3,rfl,i3,z3,hb3⟩;have hB3:=QB hB2 hb3;clear hb3 hB2;go_wp2_with fail
    refine(An _ _ (by omega) (by omega)).mono ?_;rintro e w4 ⟨b4,rfl,i4,z4,hb4⟩;have hB4:=QB hB3 hb4;clear hb4 hB3;go_wp2_with fail
    refine(Bb _ _ _ _ _ _ _ _ _ _ _ (Ag _) (Ad (i3) (i4)) (iC) (Ag _) (Nat.le_of_ble_eq_true rfl) (Nat.le_of_ble_eq_true rfl) (by omega) (by omega) (by omega) (by omega) (by omega) (Nat.le_of_ble_eq_true rfl)).mono ?_;rintro e w5 ⟨b5,rfl,i5,z5,hb5⟩;have hB5:=QB hB4 hb5;clear hb5 hB4;go_wp2_with fail
    refine(An _ _ (by omega) (by omega)).mono ?_;rintro e w6 ⟨b6,rfl,i6,z6,hb6⟩;have hB6:=QB hB5 hb6;clear hb6 hB5;go_wp2_with fail
    refine(An _ _ (by omega) (by omega)).mono ?_;rintro e w7 ⟨b7,rfl,i7,z7,hb7⟩;have hB7:=QB hB6 hb7;clear hb7 hB6;go_wp2_with fail
    refine(An _ _ (by omega) (by omega)).mono ?_;rintro e w8 ⟨b8,rfl,i8,z8,hb8⟩;have hB8:=QB hB7 hb8;clear hb8 hB7;go_wp2_with fail
    refine(Bb _ _ _ _ _ _ _ _ _ _ _ (Ad (Ad (i6) (i7)) (i8)) (Ag _) (Ag _) (Ag _) (Nat.le_of_ble_eq_true rfl) (Nat.le_of_ble_eq_true rfl) (by omega) (by omega) (by omega) (by omega) (Nat.le_of_ble_eq_true rfl) (Nat.le_of_ble_eq_true rfl)).mono ?_;rintro e w9 ⟨b9,rfl,i9,z9,hb9⟩;have hB9:=QB hB8 hb9;clear hb9 hB8;clear i6 z6 i7 z7 i8 z8;go_wp2_with fail
    refine(An _ _ (by omega) (by omega)).mono ?_;rintro e w10 ⟨b10,rfl,i10,z10,hb10⟩;have hB10:=QB hB9 hb10;clear hb10 hB9;go_wp2_with fail
    refine(An _ _ (by omega) (by omega)).mono ?_;rintro e w11 ⟨b11,rfl,i11,z11,hb11⟩;have hB11:=QB hB10 hb11;clear hb11 hB10;go_wp2_with fail
    refine(An _ _ (by omega) (by omega)).mono ?_;rintro e w12 ⟨b12,rfl,i12,z12,hb12⟩;have hB12:=QB hB11 hb12;clear hb12 hB11;go_wp2_with fail
    refine(Bb _ _ _ _ _ _ _ _ _ _ _ (Ad (Ad (Ad (i10) (i11)) (i12)) (Ad (i3) (i4))) (Ag _) (Ag _) (Ag _) (Nat.le_of_ble_eq_true rfl) (Nat.le_of_ble_eq_true rfl) (by omega) (by omega) (by omega) (by omega) (Nat.le_of_ble_eq_true rfl) (Nat.le_of_ble_eq_true rfl)).mono ?_;rintro e w13 ⟨b13,rfl,i13,z13,hb13⟩;have hB13:=QB hB12 hb13;clear hb13 hB12;clear i10 z10 i11 z11 i12 z12;go_wp2_with fail
    refine(An _ _ (by omega) (by omega)).mono ?_;rintro e w14 ⟨b14,rfl,i14,z14,hb14⟩;have hB14:=QB hB13 hb14;clear hb14 hB13;go_wp2_with fail
    refine(An _ _ (by omega) (by omega)).mono ?_;rintro e w15 ⟨b15,rfl,i15,z15,hb15⟩;have hB15:=QB hB14 hb15;clear hb15 hB14;go_wp2_with fail
    refine(An _ _ (by omega) (by omega)).mono ?_;rintro e w16 ⟨b16,rfl,i16,z16,hb16⟩;have hB16:=QB hB15 hb16;clear hb16 hB15;go_wp2_with fail
    refine(An _ _ (by omega) (by omega)).mono ?_;rintro e w17 ⟨b17,rfl,i17,z17,hb17⟩;have hB17:=QB hB16 hb17;clear hb17 hB16;go_wp2_with fail
    refine(Fx _ _ _ _ _ _ _ (Ad (Ad (Ad (Ad (Ad (i14) (i15)) (Ag _)) (i16)) (i17)) (Ad (i3) (i4))) (Ad (Ad (i5) (i9)) (i13)) (by omega) (by omega) (by omega) (by omega) (by first | omega | (simp only[ByteArray.size_append];first | omega | (simp only[ByteArray.size,List.size_toArray,List.length_cons,List.length_nil];omega)) | exact Nat.le_of_ble_eq_true rfl) (by first | omega | (simp only[ByteArray.size_append];omega))).mono ?_
    rintro e w18 ⟨b18,rfl,i18,z18,hb18⟩;have hB18:=QB hB17 hb18;clear hb18 hB17;go_wp2;go_ret3;have eP:=Aa HP ();have eS:=Aa HS2 ();exact⟨_,N9 eP (by omega),i18,z18,hB18⟩
   ·have q4:((k:Int) != 4)=true:=by simp;omega
    by_cases h7:k=7
    ·have q7:((k:Int) != 7)=false:=by subst h7;rfl
     have zl:(⟨#[1,0]⟩:ByteArray).size=2:=rfl;have hs:=Aa HS ();rw[if_pos (.inr h7)]at hs;have HS2:=Ac (fun (_:Unit)=>hs);clear hs HS;go_wp2_with fail
     refine(An _ _ (by omega) (by omega)).mono ?_;rintro e w3 ⟨b3,rfl,i3,z3,hb3⟩;have hB3:=QB hB2 hb3;clear hb3 hB2;go_wp2_with fail
     refine(An _ _ (by omega) (by omega)).mono ?_;rintro e w4 ⟨b4,rfl,i4,z4,hb4⟩;have hB4:=QB hB3 hb4;clear hb4 hB3;go_wp2_with fail
     refine(Bb _ _ _ _ _ _ _ _ _ _ _ (Ag _) (Ad (i3) (i4)) (iC) (Ag _) (Nat.le_of_ble_eq_true rfl) (Nat.le_of_ble_eq_true rfl) (by omega) (by omega) (by omega) (by omega) (by omega) (Nat.le_of_ble_eq_true rfl)).mono ?_;rintro e w5 ⟨b5,rfl,i5,z5,hb5⟩;have hB5:=QB hB4 hb5;clear hb5 hB4;go_wp2_with fail
     refine(An _ _ (by omega) (by omega)).mono ?_;rintro e w6 ⟨b6,rfl,i6,z6,hb6⟩;have hB6:=QB hB5 hb6;clear hb6 hB5;go_wp2_with fail
     refine(An _ _ (by omega) (by omega)).mono ?_;rintro e w7 ⟨b7,rfl,i7,z7,hb7⟩;have hB7:=QB hB6 hb7;clear hb7 hB6;go_wp2_with fail
     refine(An _ _ (by omega) (by omega)).mono ?_;rintro e w8 ⟨b8,rfl,i8,z8,hb8⟩;have hB8:=QB hB7 hb8;clear hb8 hB7;go_wp2_with fail
     refine(Bb _ _ _ _ _ _ _ _ _ _ _ (Ad (Ad (i6) (i7)) (i8)) (Ag _) (Ag _) (Ag _) (Nat.le_of_ble_eq_true rfl) (Nat.le_of_ble_eq_true rfl) (by omega) (by omega) (by omega) (by omega) (Nat.le_of_ble_eq_true rfl) (Nat.le_of_ble_eq_true rfl)).mono ?_;rintro e w9 ⟨b9,rfl,i9,z9,hb9⟩;have hB9:=QB hB8 hb9;clear hb9 hB8;clear i6 z6 i7 z7 i8 z8;go_wp2_with fail
     refine(An _ _ (by omega) (by omega)).mono ?_;rintro e w10 ⟨b10,rfl,i10,z10,hb10⟩;have hB10:=QB hB9 hb10;clear hb10 hB9;go_wp2_with fail
     refine(An _ _ (by omega) (by omega)).mono ?_;rintro e w11 ⟨b11,rfl,i11,z11,hb11⟩;have hB11:=QB hB10 hb11;clear hb11 hB10;go_wp2_with fail
     refine(An _ _ (by omega) (by omega)).mono ?_;rintro e w12 ⟨b12,rfl,i12,z12,hb12⟩;have hB12:=QB hB11 hb12;clear hb12 hB11;go_wp2_with fail
     refine(Bb _ _ _ _ _ _ _ _ _ _ _ (Ad (Ad (Ad (i10) (i11)) (i12)) (Ad (i3) (i4))) (Ag _) (Ag _) (Ag _) (Nat.le_of_ble_eq_true rfl) (Nat.le_of_ble_eq_true rfl) (by omega) (by omega) (by omega) (by omega) (Nat.le_of_ble_eq_true rfl) (Nat.le_of_ble_eq_true rfl)).mono ?_;rintro e w13 ⟨b13,rfl,i13,z13,hb13⟩;have hB13:=QB hB12 hb13;clear hb13 hB12;clear i10 z10 i11 z11 i12 z12;go_wp2_with fail
     refine(An _ _ (by omega) (by omega)).mono ?_;rintro e w14 ⟨b14,rfl,i14,z14,hb14⟩;have hB14:=QB hB13 hb14;clear hb14 hB13;go_wp2_with fail
     refine(An _ _ (by omega) (by omega)).mono ?_;rintro e w15 ⟨b15,rfl,i15,z15,hb15⟩;have hB15:=QB hB14 hb15;clear hb15 hB14;go_wp2_with fail
     refine(An _ _ (by omega) (by omega)).mono ?_;rintro e w16 ⟨b16,rfl,i16,z16,hb16⟩;have hB16:=QB hB15 hb16;clear hb16 hB15;go_wp2_with fail
     refine(An _ _ (by omega) (by omega)).mono ?_;rintro e w17 ⟨b17,rfl,i17,z17,hb17⟩;have hB17:=QB hB16 hb17;clear hb17 hB16;go_wp2_with fail
     refine(Fx _ _ _ _ _ _ _ (Ad (Ad (Ad (Ad (Ad (i14) (i15)) (Ag _)) (i16)) (i17)) (Ad (i3) (i4))) (Ad (Ad (i5) (i9)) (i13)) (by omega) (by omega) (by omega) (by omega) (by first | omega | (simp only[ByteArray.size_append];first | omega | (simp only[ByteArray.size,List.size_toArray,List.length_cons,List.length_nil];omega)) | exact Nat.le_of_ble_eq_true rfl) (by first | omega | (simp only[ByteArray.size_append];omega))).mono ?_
     rintro e w18 ⟨b18,rfl,i18,z18,hb18⟩;have hB18:=QB hB17 hb18;clear hb18 hB17;go_wp2;go_ret3;have eP:=Aa HP ();have eS:=Aa HS2 ();exact⟨_,N9 eP (by omega),i18,z18,hB18⟩
    ·have q7:((k:Int) != 7)=true:=by simp;omega
     have zl:(⟨#[1,0]⟩:ByteArray).size=2:=rfl;have hs:=Aa HS ();rw[if_neg (by omega)]at hs;have HS2:=Ac (fun (_:Unit)=>hs);clear hs HS;go_wp2_with fail
     refine(An _ _ (by omega) (by omega)).mono ?_;rintro e w3 ⟨b3,rfl,i3,z3,hb3⟩;have hB3:=QB hB2 hb3;clear hb3 hB2;go_wp2_with fail
     refine(An _ _ (by omega) (by omega)).mono ?_;rintro e w4 ⟨b4,rfl,i4,z4,hb4⟩;have hB4:=QB hB3 hb4;clear hb4 hB3;go_wp2_with fail
     refine(Bb _ _ _ _ _ _ _ _ _ _ _ (Ag _) (Ad (i3) (i4)) (iC) (Ag _) (Nat.le_of_ble_eq_true rfl) (Nat.le_of_ble_eq_true rfl) (by omega) (by omega) (by omega) (by omega) (by omega) (Nat.le_of_ble_eq_true rfl)).mono ?_;rintro e w5 ⟨b5,rfl,i5,z5,hb5⟩;have hB5:=QB hB4 hb5;clear hb5 hB4;go_wp2_with fail
     refine(An _ _ (by omega) (by omega)).mono ?_;rintro e w6 ⟨b6,rfl,i6,z6,hb6⟩;have hB6:=QB hB5 hb6;clear hb6 hB5;go_wp2_with fail
     refine(An _ _ (by omega) (by omega)).mono ?_;rintro e w7 ⟨b7,rfl,i7,z7,hb7⟩;have hB7:=QB hB6 hb7;clear hb7 hB6;go_wp2_with fail
     refine(An _ _ (by omega) (by omega)).mono ?_;rintro e w8 ⟨b8,rfl,i8,z8,hb8⟩;have hB8:=QB hB7 hb8;clear hb8 hB7;go_wp2_with fail
     refine(Bb _ _ _ _ _ _ _ _ _ _ _ (Ad (Ad (i6) (i7)) (i8)) (Ag _) (Ag _) (Ag _) (Nat.le_of_ble_eq_true rfl) (Nat.le_of_ble_eq_true rfl) (by omega) (by omega) (by omega) (by omega) (Nat.le_of_ble_eq_true rfl) (Nat.le_of_ble_eq_true rfl)).mono ?_;rintro e w9 ⟨b9,rfl,i9,z9,hb9⟩;have hB9:=QB hB8 hb9;clear hb9 hB8;clear i6 z6 i7 z7 i8 z8;go_wp2_with fail
     refine(An _ _ (by omega) (by omega)).mono ?_;rintro e w10 ⟨b10,rfl,i10,z10,hb10⟩;have hB10:=QB hB9 hb10;clear hb10 hB9;go_wp2_with fail
     refine(An _ _ (by omega) (by omega)).mono ?_;rintro e w11 ⟨b11,rfl,i11,z11,hb11⟩;have hB11:=QB hB10 hb11;clear hb11 hB10;go_wp2_with fail
     refine(An _ _ (by omega) (by omega)).mono ?_;rintro e w12 ⟨b12,rfl,i12,z12,hb12⟩;have hB12:=QB hB11 hb12;clear hb12 hB11;go_wp2_with fail
     refine(Bb _ _ _ _ _ _ _ _ _ _ _ (Ad (Ad (Ad (i10) (i11)) (i12)) (Ad (i3) (i4))) (Ag _) (Ag _) (Ag _) (Nat.le_of_ble_eq_true rfl) (Nat.le_of_ble_eq_true rfl) (by omega) (by omega) (by omega) (by omega) (Nat.le_of_ble_eq_true rfl) (Nat.le_of_ble_eq_true rfl)).mono ?_;rintro e w13 ⟨b13,rfl,i13,z13,hb13⟩;have hB13:=QB hB12 hb13;clear hb13 hB12;clear i10 z10 i11 z11 i12 z12;go_wp2_with fail
     refine(An _ _ (by omega) (by omega)).mono ?_;rintro e w14 ⟨b14,rfl,i14,z14,hb14⟩;have hB14:=QB hB13 hb14;clear hb14 hB13;go_wp2_with fail
     refine(An _ _ (by omega) (by omega)).mono ?_;rintro e w15 ⟨b15,rfl,i15,z15,hb15⟩;have hB15:=QB hB14 hb15;clear hb15 hB14;go_wp2_with fail
     refine(An _ _ (by omega) (by omega)).mono ?_;rintro e w16 ⟨b16,rfl,i16,z16,hb16⟩;have hB16:=QB hB15 hb16;clear hb16 hB15;go_wp2_with fail
     refine(An _ _ (by omega) (by omega)).mono ?_;rintro e w17 ⟨b17,rfl,i17,z17,hb17⟩;have hB17:=QB hB16 hb17;clear hb17 hB16;go_wp2_with fail
     refine(Fx _ _ _ _ _ _ _ (Ad (Ad (Ad (Ad (Ad (i14) (i15)) (Ag _)) (i16)) (i17)) (Ad (i3) (i4))) (Ad (Ad (i5) (i9)) (i13)) (by omega) (by omega) (by omega) (by omega) (by first | omega | (simp only[ByteArray.size_append];first | omega | (simp only[ByteArray.size,List.size_toArray,List.length_cons,List.length_nil];omega)) | exact Nat.le_of_ble_eq_true rfl) (by first | omega | (simp only[ByteArray.size_append];omega))).mono ?_
     rintro e w18 ⟨b18,rfl,i18,z18,hb18⟩;have hB18:=QB hB17 hb18;clear hb18 hB17;go_wp2;go_ret3;have eP:=Aa HP ();have eS:=Aa HS2 ();exact⟨_,N9 eP (by omega),i18,z18,hB18⟩
theorem Ad8 (k m:Nat) (st:Bool) (w:World) (hk:k<9) (hm:m<20) :
  Calls Tryz.prog 35 #[.int .i64 (k:Int),.int .i64 (m:Int),.bool st] w fun e w'=>∃ b,e=.returned (.tuple #[.string b,.int .i64 (Un.place k m st:Int),.int .i64 (Un.steps k m st:Int)])∧Kr.Is b (Un.file k m st)∧b.size≤30000∧Below w.heap.size w w':=by
 cases st with
 | true=>exact Xn k m w hk hm
 | false=>exact To k m w hk hm
theorem Abz (c d:Int) (w:World) (hc0:-9223372036854775808≤c) (hc1:c≤9223372036854775807) (hd0:-9223372036854775808≤d) (hd1:d≤9223372036854775807) :
  Calls Tryz.prog 8 #[.int .i64 c,.int .i64 d] w fun e w'=>e=.returned (.bool true)∧Below w.heap.size w w':=by
 have K1:=Ac (fun w=>Gm c 9 w hc0 hc1 (by omega) (by omega));have K2:=Ac (fun w=>Gm d 20 w hd0 hd1 (by omega) (by omega));have p1:=Fd c 9 (by omega);have p2:=Fd d 20 (by omega);generalize Kr.pk c 9=x at *;generalize Kr.pk d 20=y at *;obtain⟨k,rfl⟩:=Int.eq_ofNat_of_zero_le p1.1;obtain⟨m,rfl⟩:=Int.eq_ofNat_of_zero_le p2.1;clear hc0 hc1 hd0 hd1;have hk:k<9:=by omega
 have hm:m<20:=by omega
 clear p1 p2;obtain⟨P,hf⟩:=Aeh k m hk hm;have HC:Hid (∀ s w,Kr.Is s (Un.file k m false)→s.size≤maxLen→Calls Tryz.prog 20 #[.string s] w fun e w'=>e=.returned (.tuple #[.int .i64 10,.int .i64 0,.int .i64 (Un.place k m false:Int)])∧Below w.heap.size w w'):=fun s w i hs=>by
  have:=Jo s w hs
  rwa [i,hf.c0]at this
 have HP:Hid (∀ s w,Kr.Is s (Un.file k m false)→s.size≤maxLen→Calls Tryz.prog 14 #[.string s] w fun e w'=>e=.returned (.tuple #[.string ⟨#[]⟩,.int .i64 10,.int .i64 0])∧Below w.heap.size w w'):=fun s w i hs=>by
  have:=Kj s w hs
  rwa [i,hf.p0]at this
 have hr:=hf.rn;have HF:=Ac hf;have HU0:=Ac (fun w=>Ad8 k m false w hk hm);have HU1:=Ac (fun w=>Ad8 k m true w hk hm);clear hf;have HR0:=Ac (fun (_:Unit)=>hr);clear hr;generalize ((Un.steps k m true:Nat):Int)=sp at *;generalize ((Un.place k m true:Nat):Int)=pt at *;generalize ((Un.steps k m false:Nat):Int)=sf at *;generalize (Un.place k m false:Int)=pl at *;have hB0:=Below.refl w.heap.size w;go_enter Tryz.func8,Tryz.ntmps8;go_wp2_with fail
 refine(Aa K1 _).mono ?_;rintro e u1 ⟨rfl,rfl⟩;go_wp2_with fail
 refine(Aa K2 _).mono ?_;rintro e u2 ⟨rfl,rfl⟩;go_wp2_with fail
 refine(Aa HU0 _).mono ?_;rintro e w1 ⟨b1,rfl,i1,z1,hb1⟩;have hB1:=QB hB0 hb1;go_wp2_with fail
 refine(Aa HC _ _ i1 (by unfold maxLen;omega)).mono ?_;rintro e w2 ⟨rfl,hb2⟩;have hB2:=QB hB1 hb2;go_wp2_with fail
 refine(Aa HP _ _ i1 (by unfold maxLen;omega)).mono ?_;rintro e w3 ⟨rfl,hb3⟩;have hB3:=QB hB2 hb3;go_wp2_with fail
 refine(Aa HU1 _).mono ?_;rintro e w4 ⟨b2,rfl,i2,z2,hb4⟩;have hB4:=QB hB3 hb4;go_wp2_with fail
 refine(Jn _ _ P _ (by unfold maxLen;omega) (by have:=(Aa HF).le;unfold maxLen;omega) i2 (Aa HF).p1 (Aa HF).c1).mono ?_;rintro e w5 ⟨b3,rfl,i3,z3,hb5⟩;have hB5:=QB hB4 hb5;clear hb1 hb2 hb3 hb4 hb5 hB0 hB1 hB2 hB3 hB4;have hr:=Aa HR0 ();clear HR0;by_cases h4:k=4
 ·have q4:((k:Int)==4)=true:=by subst h4;rfl
  rw[if_pos h4,if_pos h4]at hr;have HR:=Ac (fun (_:Unit)=>hr);clear hr;go_wp2_with fail
  refine(Fe _ P [] [] _ _ _ _ _ _ none none 0 0 _ z3 i3 (by simp) (IntR.nil _ _) (IntR.nil _ _) (by simp) (Aa HR ())).mono ?_;rintro e w6 ⟨rfl,hb6⟩;go_wp2;go_ret;exact⟨rfl,QB hB5 hb6⟩
 ·have q4:((k:Int)==4)=false:=by simp;omega
  rw[if_neg h4,if_neg h4]at hr;have HR:=Ac (fun (_:Unit)=>hr);clear hr;go_wp2_with fail
  refine(Fe _ P [] [] _ _ _ _ _ _ none none 0 0 _ z3 i3 (by simp) (IntR.nil _ _) (IntR.nil _ _) (by simp) (Aa HR ())).mono ?_;rintro e w6 ⟨rfl,hb6⟩;go_wp2;go_ret;exact⟨rfl,QB hB5 hb6⟩
end Go.Proofs.YtpcgnjolfahacaaGreat
