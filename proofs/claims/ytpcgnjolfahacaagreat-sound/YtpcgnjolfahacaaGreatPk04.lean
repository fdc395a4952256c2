/- the proof's parts -/
import Derived.Test.YtpcgnjolfahacaaGreatPk03
set_option maxRecDepth 100000
set_option maxHeartbeats 40000000
set_option linter.unusedVariables false
set_option linter.unusedSimpArgs false
set_option linter.defProp false
namespace Go.Proofs.YtpcgnjolfahacaaGreat
open Go.RowKit Go.Proofs.Tryz
variable{listed:Array Bool}{ops:Array Oper}{l:List (Value×List (Int×Int))}{k u:Nat}{gd:Option (Nat × Bool)}{md:Region.Mode}{z:TI}{w:TW}{ty:TypeId}
variable {ya:Option Addr}{yn yc:Nat}
theorem tq{Q:Exit→Act→World→Prop}{S:World→Prop}{fuel:Nat}{a:Act}{w:World}(i:Nat)(v:Value){d:Option Tmp}{op:Op}{ps:String}{af:Array Edge}{Z:Prop}(hS:S w)(h:Z)(hi:ops[i]?=some ⟨d,op,ty,ps,af,gd⟩:=by rfl)(hs:Region.noSelect ops=true:=by kernel_rfl)(hf:Region.free md ops listed i=true:=by kernel_rfl)(hr:(Region.ready md ops listed).contains i=true:=by kernel_rfl)(hQ:∀ c a w,Q (.panic c) (a.put d v) w→Q (.panic c) a w:=by exact fun _ _ _ h=>h)(hw:Region.wanted ⟨d,op,ty,ps,af,gd⟩ (yielded ops a.tmps)=true:=by rfl)(hy:∀ w,S w→(execOp a.eval ⟨d,op,ty,ps,af,gd⟩).run Tryz.prog w=.ok (.value v) w:=by intro w' hSw;(try dsimp only at hSw);go_simp)(hn:Z→wpAnyH Tryz.prog md ops Q S fuel (listed.setIfInBounds i true) (a.put d v) w:=by intro q;(try simp only[QX]);exact q):wpAnyH Tryz.prog md ops Q S (fuel+1) listed a w:=wpAnyH_take hi hs hf hr hQ (Or.inl ⟨hw,hy⟩) hS (hn h)
theorem tn{Q:Exit→Act→World→Prop}{S:World→Prop}{fuel:Nat}{a:Act}{w:World}(i:Nat)(v:Value){d:Option Tmp}{op:Op}{ps:String}{af:Array Edge}{Z:Prop}(hS:S w)(h:Z)(hi:ops[i]?=some ⟨d,op,ty,ps,af,gd⟩:=by rfl)(hs:Region.noSelect ops=true:=by kernel_rfl)(hf:Region.free md ops listed i=true:=by kernel_rfl)(hr:(Region.ready md ops listed).contains i=true:=by kernel_rfl)(hQ:∀ c a w,Q (.panic c) (a.put d v) w→Q (.panic c) a w:=by exact fun _ _ _ h=>h)(hw:Region.wanted ⟨d,op,ty,ps,af,gd⟩ (yielded ops a.tmps)=false:=by rfl)(hv:v=undef:=by rfl)(hn:Z→wpAnyH Tryz.prog md ops Q S fuel (listed.setIfInBounds i true) (a.put d v) w:=by intro q;(try simp only[QX]);exact q):wpAnyH Tryz.prog md ops Q S (fuel+1) listed a w:=wpAnyH_take hi hs hf hr hQ (Or.inr ⟨hw,hv⟩) hS (hn h)
theorem tl{Q:Exit→Act→World→Prop}{S:World→Prop}{fuel:Nat}{a:Act}{w:World}(i:Nat)(v:Value){d:Option Tmp}{op:Op}{ps:String}{af:Array Edge}(hy:∀ w,S w→(execOp a.eval ⟨d,op,ty,ps,af,gd⟩).run Tryz.prog w=.ok (.value v) w)(hS:S w)(h:wpAnyH Tryz.prog md ops Q S fuel (listed.setIfInBounds i true) (a.put d v) w)(hi:ops[i]?=some ⟨d,op,ty,ps,af,gd⟩:=by rfl)(hs:Region.noSelect ops=true:=by kernel_rfl)(hf:Region.free md ops listed i=true:=by kernel_rfl)(hr:(Region.ready md ops listed).contains i=true:=by kernel_rfl)(hQ:∀ c a w,Q (.panic c) (a.put d v) w→Q (.panic c) a w:=by exact fun _ _ _ h=>h)(hw:Region.wanted ⟨d,op,ty,ps,af,gd⟩ (yielded ops a.tmps)=true:=by rfl):wpAnyH Tryz.prog md ops Q S (fuel+1) listed a w:=wpAnyH_take hi hs hf hr hQ (Or.inl ⟨hw,hy⟩) hS h
theorem tr{Q:Exit→Act→World→Prop}{S:World→Prop}{fuel:Nat}{a:Act}{w:World}(i:Nat){d:Option Tmp}{op:Op}{ps:String}{af:Array Edge}(h:∀ K:Act→World→Prop,Shut (∀ a w,S w→(S w→wpAnyH Tryz.prog md ops Q S fuel (listed.setIfInBounds i true) a w)→K a w)→if Region.wanted (⟨d,op,ty,ps,af,gd⟩:Oper) (yielded ops a.tmps)=true then Oper.wp Tryz.prog (⟨d,op,ty,ps,af,gd⟩:Oper) a w K Q else K (a.put (⟨d,op,ty,ps,af,gd⟩:Oper).dst undef) w)(ho:ops[i]?=some ⟨d,op,ty,ps,af,gd⟩:=by rfl)(hr:Region.ready md ops listed=[i]:=by kernel_rfl):wpAnyH Tryz.prog md ops Q S (fuel+1) listed a w:=wpAnyH_ready hr (by simp) (AllReadyH.cons ho h AllReadyH.nil)
def Bsb{i n:Nat}{g:TypeId}{a:TA}{K c:Nat}{e:TV}(h:w.ownsRow u g i (.s a K c) n e):n<=c:=by
 obtain⟨_,⟨l,p⟩|⟨f,q,t,j,v,z,A,_⟩⟩:=h
 ·omega
 simp only[Value.slice.injEq]at j;omega
def Ya (q:Int):Int × Int:=if 0<=q then (4,q) else (0,0)
def Ze{c:Int}(h:0<=c):Ya c=(4,c):=Sp h
def Bip(a5 a6:TA)(a7 a8 a1:Nat)(m:List (Rd.Mth×Eh))(T:TI)(tg a4 bm:Nat)(w:TW)(hT:T.length<=1000)(c9:Dl w tg T) (d0:m.length<=6)(d1:Eb w bm (.s a6 m.length a1) m)(c4:∀p∈m,p.1.params.length<=1000):Calls prog 106 #[.agg #[.s a5 a7 a8,.s a6 m.length a1],.agg #[.s (.p tg) T.length a4,.s ya yn yc]] w fun e w' => e=.r (.agg #[.i (Ya (Jq T (m.map Prod.fst) 0 (m.map Prod.fst))).1,.i (Ya (Jq T (m.map Prod.fst) 0 (m.map Prod.fst))).2,.i 0])/\Bl w w':=by
 generalize hq:Jq T (m.map Prod.fst) 0 (m.map Prod.fst)=q;have HQ:Hid (Jq T (m.map Prod.fst) 0 ((m.map Prod.fst).drop 0)=q):=hq;clear hq;have c5:=Is w (O1 a5 a7 a8 a6 m.length a1) (O2 (.p tg) T.length a4 ya yn yc) (O8 0 0 0);have C0:=W8 w (O1 a5 a7 a8 a6 m.length a1) (O2 (.p tg) T.length a4 ya yn yc) (O8 0 0 0);go_in;go_wp2
 go_loopw [10] (fun v wr=>∃k:Nat,k<=m.length/\v=.i (k:Int)/\Hid (Jq T (m.map Prod.fst) k ((m.map Prod.fst).drop k)=q)/\Bl w wr/\wr.heap[w.heap.size]?=some (O1 a5 a7 a8 a6 m.length a1) /\
   wr.heap[w.heap.size+1]?=some (O2 (.p tg) T.length a4 ya yn yc)/\wr.heap[w.heap.size+1+1]?=some (O8 0 0 0))
  (fun v _=>m.length-(intOf v).toNat)
 case atStart=>exact⟨0,Bd,rfl,HQ,c5,C0.1,C0.2.1,C0.2.2⟩
 case round=>
  clear HQ c5 C0;obtain⟨k,hk,rfl,HQ,hB,CF,CT,CR⟩:=hrel;have b2:=hB.size;by_cases b9:k<m.length
  ·have b3:Eb wr bm (.s a6 m.length a1) m:=d1.kp (Kp.of_below (e:=none) hB) Ck Ck Ck Ck Ck;have kc:=Bsb b3.1;obtain⟨o,g,hg,f3,b5,b4⟩:=b3.mth b9;replace b5:=Ub b5;have c6:=c4 _ (Bvh b9);have hd:(m.map Prod.fst).drop k=m[k].1::(m.map Prod.fst).drop (k+1):=by
    rw[Wr (by simpa using b9)];simp
   have hr:=Ba HQ;rw[hd,Jq]at hr;unfold Vg at hr;have c0:=fun w' (h:Bl wr w')=>Bir (ya:=ya) (yn:=yn) (yc:=yc) T (.p tg) a4 bm o m[k].1 w' (b4.below h) c6;have c1:=fun w' (h:Bl wr w')=>Bdj (ya:=ya) (yn:=yn) (yc:=yc) a5 a6 a7 a8 a1 m T tg a4 bm o m[k].1 w' (b4.below h) hT (c9.below (hB.trans (h.mono b2))) d0 (b3.kp (Kp.of_below (e:=none) h) Ck Ck Ck Ck Ck) c6 c4;have c7:((m.map Prod.fst).take k).length=k:=Fm;have b6:=fun w' (h:Bl wr w')=>Bk4 ((m.map Prod.fst).take k) a6 a1 o m[k].1 w' b4.cl b4.nm Bd (by
    intro f4 d2 j hj;have d3:j<m.length:=Bd;have d4:=h.trans (d2.mono h.size);obtain⟨o',g',d5,d6,d7,c8⟩:=(b3.kp (Kp.of_below (e:=none) d4) Ck Ck Ck Ck Ck).mth d3;refine⟨o',g',d5,d6,d7,?_,?_⟩
    ·rw[c8.cl];simp
    rw[c8.nm];simp)
   rw[c7]at b6;clear b4 b3 hd c7;generalize Py T m[k].1=A at *;generalize Si ((m.map Prod.fst).take k) m[k].1=B at *;generalize Mi T (m.map Prod.fst) m[k].1=C at *;obtain⟨t,z,D,F,G,I,J,L,N,O,cn,Q,V,Y,Z,ma,ml,mc⟩:=o;simp only[PM.val]at b5 c0 b6 c1;obtain⟨y0,y1,y2,y3,y4,y5,y6,y7,y8,y9⟩:=b5;subst hg;have d8:=Bc c0;have d9:=Bc b6;have f2:=Bc c1;clear c0 b6 c1 HQ;have b0:Bl wr (wr.alloc (O18 t z D F G I J L N O cn Q V Y Z ma ml mc)):=QN _;have a3:=Bf wr (O18 t z D F G I J L N O cn Q V Y Z ma ml mc);have c2:=Bk CF (O18 t z D F G I J L N O cn Q V Y Z ma ml mc);have c3:=Bk CT (O18 t z D F G I J L N O cn Q V Y Z ma ml mc);have f0:(wr.alloc (O18 t z D F G I J L N O cn Q V Y Z ma ml mc)).C w.heap.size 0 (.s a5 a7 a8):=(Bb c2 0).trans rfl;have f1:(wr.alloc (O18 t z D F G I J L N O cn Q V Y Z ma ml mc)).C w.heap.size 1 (.s (.p g) m.length a1):=(Bb c2 1).trans rfl;have t0:(wr.alloc (O18 t z D F G I J L N O cn Q V Y Z ma ml mc)).C (w.heap.size+1) 0 (.s (.p tg) T.length a4):=(Bb c3 0).trans rfl;have t1:(wr.alloc (O18 t z D F G I J L N O cn Q V Y Z ma ml mc)).C (w.heap.size+1) 1 (.s ya yn yc):=(Bb c3 1).trans rfl;have m0:(wr.alloc (O18 t z D F G I J L N O cn Q V Y Z ma ml mc)).C wr.heap.size 0 (.i t):=(Bb a3 0).trans rfl;have m1:(wr.alloc (O18 t z D F G I J L N O cn Q V Y Z ma ml mc)).C wr.heap.size 1 (.i z):=(Bb a3 1).trans rfl;have m2:(wr.alloc (O18 t z D F G I J L N O cn Q V Y Z ma ml mc)).C wr.heap.size 2 (.s D F G):=(Bb a3 2).trans rfl;have m3:(wr.alloc (O18 t z D F G I J L N O cn Q V Y Z ma ml mc)).C wr.heap.size 3 (.i I):=(Bb a3 3).trans rfl;have m4:(wr.alloc (O18 t z D F G I J L N O cn Q V Y Z ma ml mc)).C wr.heap.size 4 (.i J):=(Bb a3 4).trans rfl;have m5:(wr.alloc (O18 t z D F G I J L N O cn Q V Y Z ma ml mc)).C wr.heap.size 5 (.i L):=(Bb a3 5).trans rfl;have m6:(wr.alloc (O18 t z D F G I J L N O cn Q V Y Z ma ml mc)).C wr.heap.size 6 (.i N):=(Bb a3 6).trans rfl;have m7:(wr.alloc (O18 t z D F G I J L N O cn Q V Y Z ma ml mc)).C wr.heap.size 7 (.s O cn Q):=(Bb a3 7).trans rfl;have m8:(wr.alloc (O18 t z D F G I J L N O cn Q V Y Z ma ml mc)).C wr.heap.size 8 (.s V Y Z):=(Bb a3 8).trans rfl;have m9:(wr.alloc (O18 t z D F G I J L N O cn Q V Y Z ma ml mc)).C wr.heap.size 9 (.s ma ml mc):=(Bb a3 9).trans rfl;have lF:w.heap.size<(wr.alloc (O18 t z D F G I J L N O cn Q V Y Z ma ml mc)).heap.size:=Pk c2;have lT:w.heap.size+1<(wr.alloc (O18 t z D F G I J L N O cn Q V Y Z ma ml mc)).heap.size:=Pk c3;have c:wr.heap.size<(wr.alloc (O18 t z D F G I J L N O cn Q V Y Z ma ml mc)).heap.size:=Pk a3;have kb:(k:Int)<(m.length:Int):=Bd;have f5:(k:Int)<=(a1:Int):=Bd;have x0:=Bb CF 1;simp at x0;have a9:=Bc (fun (_:Unit)=>hr);clear hr;go_wp2;refine Bvz (S:=(fun w'=>w'.C w.heap.size 0 (.s a5 a7 a8)/\w'.C w.heap.size 1 (.s (.p g) m.length a1)/\w'.C (w.heap.size+1) 0 (.s (.p tg) T.length a4)/\w'.C (w.heap.size+1) 1 (.s ya yn yc)/\w'.C wr.heap.size 0 (.i t)/\w'.C wr.heap.size 1 (.i z)/\w'.C wr.heap.size 2 (.s D F G)/\w'.C wr.heap.size 3 (.i I)/\w'.C wr.heap.size 4 (.i J)/\w'.C wr.heap.size 5 (.i L)/\w'.C wr.heap.size 6 (.i N)/\w'.C wr.heap.size 7 (.s O cn Q)/\w'.C wr.heap.size 8 (.s V Y Z)/\w'.C wr.heap.size 9 (.s ma ml mc))) Le ⟨f0,f1,t0,t1,m0,m1,m2,m3,m4,m5,m6,m7,m8,m9⟩ (fun l=>?_);refine tq 0 (.agg #[.s (.p tg) T.length a4,.s ya yn yc]) l ?_;refine tq 1 (.agg #[.i t,.i z,.s D F G,.i I,.i J,.i L,.i N,.s O cn Q,.s V Y Z,.s ma ml mc]) l ?_;refine tr 2 fun K hK=>?_;go_simp;refine Qm (Ba d8 _ b0.drew) ?_;intro w7 b
   try dsimp only
   clear l;refine hK.out _ _ ⟨QC b lF f0,QC b lF f1,QC b lT t0,QC b lT t1,QC b c m0,QC b c m1,QC b c m2,QC b c m3,QC b c m4,QC b c m5,QC b c m6,QC b c m7,QC b c m8,QC b c m9⟩ (fun l=>?_);clear hK K
   try simp only[QX]
   cases A with
   | false =>
    refine tq 3 (.bool true) l ?_;refine tq 4 (.bool true) l ?_;refine tn 5 undef l ?_;refine tn 6 undef l ?_;refine tn 7 undef l ?_;refine tn 8 undef l ?_;refine tn 9 undef l ?_;refine tn 10 undef l ?_;refine tq 11 (.bool true) l ?_;refine tq 12 (.bool true) l ?_;refine tn 13 undef l ?_;refine tn 14 undef l ?_;refine tn 15 undef l ?_;refine tn 16 undef l ?_;refine tq 17 (.bool true) l ?_;refine Bv9 Le ?_ _;have hX:=(b0.drew).trans (b.mono (Bwr c));have b1:=hB.trans (hX.mono b2);have b7:=stay hX CF;have b8:=stay hX CT;have a2:=stay hX CR;clear l f0 f1 t0 t1 m0 m1 m2 m3 m4 m5 m6 m7 m8 m9;have hr:=Ba a9 ();clear a9;have HE:Hid (q=(k:Int)):=by unfold Hid;rw[<- hr];simp
    clear hr;obtain⟨z0,z1,z2⟩:=cl3 a2;obtain⟨q0,q1,q2⟩:=fr3 a2;have lR:=Pk a2;simp at z0 z1 z2;go_wp2_with fail;refine tb (.agg #[.i 4,.i (k:Int),.i 0]) (by simp[results,Bzc,go_sem,z0,z1,z2]) ?_;rw[Ba HE,Ze Bd];exact⟨rfl,((b1.setCell Fm _).setCell Fm _).setCell Fm _⟩
   | true =>
    refine tq 3 (.bool false) l ?_;refine tq 4 (.bool false) l ?_;refine tq 5 (.q w.heap.size 1) l ?_;refine tq 6 (.s (.p g) m.length a1) l ?_;refine tq 7 (.i (k:Int)) l ?_;refine tq 8 (.s (.p g) k a1) l ?_;refine tq 9 (.agg #[.i t,.i z,.s D F G,.i I,.i J,.i L,.i N,.s O cn Q,.s V Y Z,.s ma ml mc]) l ?_;refine tr 10 fun K hK=>?_;go_simp;refine Qm (Ba d9 _ (b0.drew.trans (b.mono (Bwr c)))) ?_;intro w8 f
    try dsimp only
    clear l;refine hK.out _ _ ⟨QC f (QL b lF) (QC b lF f0),QC f (QL b lF) (QC b lF f1),QC f (QL b lT) (QC b lT t0),QC f (QL b lT) (QC b lT t1),QC f (QL b c) (QC b c m0),QC f (QL b c) (QC b c m1),QC f (QL b c) (QC b c m2),QC f (QL b c) (QC b c m3),QC f (QL b c) (QC b c m4),QC f (QL b c) (QC b c m5),QC f (QL b c) (QC b c m6),QC f (QL b c) (QC b c m7),QC f (QL b c) (QC b c m8),QC f (QL b c) (QC b c m9)⟩ (fun l=>?_);clear hK K
    try simp only[QX]
    cases B with
    | true =>
     refine tq 11 (.bool true) l ?_;refine tq 12 (.bool true) l ?_;refine tn 13 undef l ?_;refine tn 14 undef l ?_;refine tn 15 undef l ?_;refine tn 16 undef l ?_;refine tq 17 (.bool true) l ?_;refine Bv9 Le ?_ _;have hX:=((b0.drew).trans (b.mono (Bwr c))).trans (f.mono (Bvv (Bwr c) b.size));have b1:=hB.trans (hX.mono b2);have b7:=stay hX CF;have b8:=stay hX CT;have a2:=stay hX CR;clear l f0 f1 t0 t1 m0 m1 m2 m3 m4 m5 m6 m7 m8 m9;have hr:=Ba a9 ();clear a9;have HE:Hid (q=(k:Int)):=by unfold Hid;rw[<- hr];simp
     clear hr;obtain⟨z0,z1,z2⟩:=cl3 a2;obtain⟨q0,q1,q2⟩:=fr3 a2;have lR:=Pk a2;simp at z0 z1 z2;go_wp2_with fail;refine tb (.agg #[.i 4,.i (k:Int),.i 0]) (by simp[results,Bzc,go_sem,z0,z1,z2]) ?_;rw[Ba HE,Ze Bd];exact⟨rfl,((b1.setCell Fm _).setCell Fm _).setCell Fm _⟩
    | false =>
     refine tq 11 (.bool false) l ?_;refine tq 12 (.bool false) l ?_;refine tq 13 (.agg #[.s a5 a7 a8,.s (.p g) m.length a1]) l ?_;refine tq 14 (.agg #[.s (.p tg) T.length a4,.s ya yn yc]) l ?_;refine tq 15 (.agg #[.i t,.i z,.s D F G,.i I,.i J,.i L,.i N,.s O cn Q,.s V Y Z,.s ma ml mc]) l ?_;refine tr 16 fun K hK=>?_;go_simp;refine Qm (Ba f2 _ ((b0.drew.trans (b.mono (Bwr c))).trans (f.mono (Bvv (Bwr c) b.size)))) ?_;intro w9 a0
     try dsimp only
     clear l;refine hK.out _ _ ⟨QC a0 (QL f (QL b lF)) (QC f (QL b lF) (QC b lF f0)),QC a0 (QL f (QL b lF)) (QC f (QL b lF) (QC b lF f1)),QC a0 (QL f (QL b lT)) (QC f (QL b lT) (QC b lT t0)),QC a0 (QL f (QL b lT)) (QC f (QL b lT) (QC b lT t1)),QC a0 (QL f (QL b c)) (QC f (QL b c) (QC b c m0)),QC a0 (QL f (QL b c)) (QC f (QL b c) (QC b c m1)),QC a0 (QL f (QL b c)) (QC f (QL b c) (QC b c m2)),QC a0 (QL f (QL b c)) (QC f (QL b c) (QC b c m3)),QC a0 (QL f (QL b c)) (QC f (QL b c) (QC b c m4)),QC a0 (QL f (QL b c)) (QC f (QL b c) (QC b c m5)),QC a0 (QL f (QL b c)) (QC f (QL b c) (QC b c m6)),QC a0 (QL f (QL b c)) (QC f (QL b c) (QC b c m7)),QC a0 (QL f (QL b c)) (QC f (QL b c) (QC b c m8)),QC a0 (QL f (QL b c)) (QC f (QL b c) (QC b c m9))⟩ (fun l=>?_);clear hK K
     try simp only[QX]
     refine tq 17 (.bool C) l ?_;refine Bv9 Le ?_ _;cases C with
     | true =>
      have hX:=(((b0.drew).trans (b.mono (Bwr c))).trans (f.mono (Bvv (Bwr c) b.size))).trans (a0.mono (Bvv (Bvv (Bwr c) b.size) f.size));have b1:=hB.trans (hX.mono b2);have b7:=stay hX CF;have b8:=stay hX CT;have a2:=stay hX CR;clear l f0 f1 t0 t1 m0 m1 m2 m3 m4 m5 m6 m7 m8 m9;have hr:=Ba a9 ();clear a9;have HE:Hid (q=(k:Int)):=by unfold Hid;rw[<- hr];simp
      clear hr;obtain⟨z0,z1,z2⟩:=cl3 a2;obtain⟨q0,q1,q2⟩:=fr3 a2;have lR:=Pk a2;simp at z0 z1 z2;go_wp2_with fail;refine tb (.agg #[.i 4,.i (k:Int),.i 0]) (by simp[results,Bzc,go_sem,z0,z1,z2]) ?_;rw[Ba HE,Ze Bd];exact⟨rfl,((b1.setCell Fm _).setCell Fm _).setCell Fm _⟩
     | false =>
      have hX:=(((b0.drew).trans (b.mono (Bwr c))).trans (f.mono (Bvv (Bwr c) b.size))).trans (a0.mono (Bvv (Bvv (Bwr c) b.size) f.size));have b1:=hB.trans (hX.mono b2);have b7:=stay hX CF;have b8:=stay hX CT;have a2:=stay hX CR;clear l f0 f1 t0 t1 m0 m1 m2 m3 m4 m5 m6 m7 m8 m9;have hr:=Ba a9 ();clear a9;have HG:Hid (Jq T (m.map Prod.fst) (k+1) ((m.map Prod.fst).drop (k+1))=q):=by unfold Hid;rw[<- hr];simp
      clear hr;go_wp2;go_roundw
      case rel=>exact⟨k+1,Bd,Lt,HG,b1,b7,b8,a2⟩
      case measure=>simp[intOf];omega
  have HE:Hid (q = -1):=by unfold Hid;rw[<- Ba HQ,Bvi Fm];rfl
  have kb:¬(k:Int)<(m.length:Int):=Bd;clear HQ;obtain⟨z0,z1,z2⟩:=cl3 CR;obtain⟨q0,q1,q2⟩:=fr3 CR;simp at z0 z1 z2;go_wp2_with fail;refine tb (.agg #[.i 0,.i 0,.i 0]) (by simp[results,Bzc,go_sem,z0,z1,z2]) ?_;rw[Ba HE];exact⟨rfl,((hB.setCell Fm _).setCell Fm _).setCell Fm _⟩
variable {ya:Option Addr}{yn yc:Nat}
def Bg3(D z:TA)(F A:Nat)(f:List (Rd.Cls×Value))(c:List (Rd.Mth×Eh))(T:TI)(G J bm:Nat)(w:TW)(hT:T.length<=1000)(b8:Dl w G T) (b9:c.length<=6)(c0:f.length<=6)(c1:∀p∈f,p.1.fields.length<=1000)(c2:Ex w bm (.s D f.length F) f)(a9:Eb w bm (.s z c.length A) c)(c3:∀p∈c,Uy p.1):Calls prog 107 #[.agg #[.s D f.length F,.s z c.length A],.agg #[.s (.p G) T.length J,.s ya yn yc]] w fun e w' => e=.r (.agg #[.i (Hk T (Cd.fieldSum (f.map Prod.fst):Int) (c.map fun p=>p.1.cl) 0 (c.map Prod.fst)).1,.i (Hk T (Cd.fieldSum (f.map Prod.fst):Int) (c.map fun p=>p.1.cl) 0 (c.map Prod.fst)).2.1, .i (Hk T (Cd.fieldSum (f.map Prod.fst):Int) (c.map fun p=>p.1.cl) 0 (c.map Prod.fst)).2.2])/\Bl w w':=by
 have b0:=fun cl nm pa pl pc r1 r2 st ca ha ma cc hc mc (m:Rd.Mth) c4 w' (h:Bl w w') h1 h2 h3 h4 h5 =>
  Bk6 D z F A G J ya yn yc cl nm pa pl pc r1 r2 st ca ha ma cc hc mc T bm f c m c4 w' hT (b8.below h) b9 c0 c1 (c2.kp (Kp.of_below (e:=none) h) Ck Ck) (a9.kp (Kp.of_below (e:=none) h) Ck Ck Ck Ck Ck) h1 h2 h3 h4 h5
 generalize (Cd.fieldSum (f.map Prod.fst):Int)=K at *;generalize (c.map fun p=>p.1.cl)=L at *;generalize hq:Hk T K L 0 (c.map Prod.fst)=q;obtain⟨R1,R2,R3⟩:=q;have B:Hid (Hk T K L 0 ((c.map Prod.fst).drop 0)=(R1,R2,R3)):=hq;have c5:=Bc b0;clear hq b0;have b3:=Is w (O1 D f.length F z c.length A) (O2 (.p G) T.length J ya yn yc) (O8 0 0 0);have C0:=W8 w (O1 D f.length F z c.length A) (O2 (.p G) T.length J ya yn yc) (O8 0 0 0);go_in;go_wp2
 go_loopw [11] (fun v wr=>∃k:Nat,k<=c.length/\v=.i (k:Int)/\Hid (Hk T K L k ((c.map Prod.fst).drop k)=(R1,R2,R3))/\Bl w wr/\wr.heap[w.heap.size]?=some (O1 D f.length F z c.length A) /\
   wr.heap[w.heap.size+1]?=some (O2 (.p G) T.length J ya yn yc)/\wr.heap[w.heap.size+1+1]?=some (O8 0 0 0))
  (fun v _=>c.length-(intOf v).toNat)
 case atStart=>exact⟨0,Bd,rfl,B,b3,C0.1,C0.2.1,C0.2.2⟩
 case round=>
  clear B b3 C0;obtain⟨k,hk,rfl,B,t,N,O,I⟩:=hrel;have a3:=t.size;by_cases a4:k<c.length
  ·have b4:Eb wr bm (.s z c.length A) c:=a9.kp (Kp.of_below (e:=none) t) Ck Ck Ck Ck Ck;obtain⟨o,g,hg,c9,a0,c6⟩:=b4.mth a4;replace a0:=Ub a0;have b5:=c3 _ (Bvh a4);have hd:(c.map Prod.fst).drop k=c[k].1::(c.map Prod.fst).drop (k+1):=by
    rw[Wr (by simpa using a4)];simp
   have C:=Ba B;rw[hd,Hk]at C;clear hd;generalize c[k].1=y at *;obtain⟨-,-,-,-,e5,-,-,-,e8,a5,e9,a6,b6,lm,a7,a8⟩:=c6;have b7:o.ml=lm.length:=by rw[b6,<- a7];simp
   obtain⟨cl,nm,pa,pl,pc,r1,r2,lo,st,ca,cn,cc,ha,hl,hc,ma,ml,mc⟩:=o;simp only at a0 e5 e8 e9 b7 a5 a6 a8;subst e5 e8 e9 b7;obtain⟨y0,y1,y2,y3,y4,y5,y6,y7,y8,y9⟩:=a0;have l:Bl wr (wr.alloc (O18 cl nm pa pl pc r1 r2 y.locals st ca y.code.length cc ha y.handlers.length hc ma lm.length mc)):=QN _;have a1:=Ba c5 cl nm pa pl pc r1 r2 st ca ha ma cc hc mc y lm _ (t.trans (l.mono a3)) b5 a7 (a5.kp (Kp.of_below (e:=none) l) Ck) (a6.kp (Kp.of_below (e:=none) l) Ck) (a8.kp (Kp.of_below (e:=none) l) Ck Ck);simp only[PBd.val]at a1;generalize hb:Ot T K L y=b at *;obtain⟨b1,b2⟩:=b;simp only at a1 C;have HC:=Bc a1;clear a1 hb b4 b5 b6 a7 a5 a6 a8 B;subst hg;obtain⟨x0,x1⟩:=cl2 N;obtain⟨t0,t1⟩:=cl2 O;simp at x0 x1 t0 t1;have lF:=Pk N;have lT:=Pk O;have kb:(k:Int)<(c.length:Int):=Bd;by_cases h0:b1=0
   ·subst h0;have HG:Hid (Hk T K L (k+1) ((c.map Prod.fst).drop (k+1))=(R1,R2,R3)):=by unfold Hid;rw[<- C];simp
    clear C;go_wp2_with fail;refine Qm (Ba HC) ?_;intro w2 Q;have j:=(QB l Q).alloc (Bvv l.size Q.size) (O8 0 0 b2);have a2:=t.trans (j.mono a3);have c7:=stay j N;have c8:=stay j O;have V:=stay j I;clear Q l j y0 y1 y2 y3 y4 y5 y6 y7 y8 y9 x0 x1 t0 t1 lF lT N O I t;go_wp2;go_roundw
    case rel=>exact⟨k+1,Bd,Lt,HG,a2,c7,c8,V⟩
    case measure=>simp[intOf];omega
   rw[Sp h0]at C;have HE:=Bc C;have d0:(b1 != 0)=true:=by simpa using h0
   clear C h0;go_wp2_with fail;refine Qb (Ba HC) l ?_;intro w2 Q j;have a2:=t.trans (j.mono a3);have V:=stay j I;have lR:=Pk V;have d1:=a2.size;have d2:=j.size;obtain⟨Y,Z,z2⟩:=cl3 V;obtain⟨q0,q1,q2⟩:=fr3 V;simp at Y Z z2;clear Q l j y0 y1 y2 y3 y4 y5 y6 y7 y8 y9 x0 x1 t0 t1 lF lT N O I t;go_wp2_with fail;refine tb (.agg #[.i b1,.i (k:Int),.i b2]) (by simp[results,results107,go_sem,Y,Z,z2,lR]) ?_;have e:=Ba HE;simp only[Prod.mk.injEq]at e;obtain⟨rfl,rfl,rfl⟩:=e;exact⟨rfl,(((a2.setCell Fm _).setCell Fm _).setCell Fm _).alloc Fm _⟩
  have HE:Hid ((R1,R2,R3)=((0:Int),(0:Int),(0:Int))):=by unfold Hid;rw[<- Ba B,Bvi Fm];rfl
  have kb:¬(k:Int)<(c.length:Int):=Bd;clear B;obtain⟨Y,Z,z2⟩:=cl3 I;obtain⟨q0,q1,q2⟩:=fr3 I;simp at Y Z z2;go_wp2_with fail;refine tb (.agg #[.i 0,.i 0,.i 0]) (by simp[results,results107,go_sem,Y,Z,z2]) ?_;have e:=Ba HE;simp only[Prod.mk.injEq]at e;obtain⟨rfl,rfl,rfl⟩:=e;exact⟨rfl,((t.setCell Fm _).setCell Fm _).setCell Fm _⟩
def Dl.set{b i:Nat}(h:Dl w u z)(f:b≠u)(c:TX):Dl (w.setCell (.a b i) c) u z :=
 ⟨by simpa[World.setCell] using h.1,fun j m=>by rw[Byu _ _ _ _ (by intro e;exact f (congrArg Addr.block e))];exact h.2 j m⟩
def Bro(A B:TA)(C D:Nat)(b:List (Rd.Cls×Value))(f:List (Rd.Mth×Eh))(L:Nat)(w:TW) (c5:f.length<=6)(b6:b.length<=6)(c6:∀p∈b,p.1.fields.length<=1000)(c7:Ex w L (.s A b.length C) b)(c8:Eb w L (.s B f.length D) f)(b7:∀p∈f,Uy p.1):Calls prog 68 #[.agg #[.s A b.length C,.s B f.length D]] w fun e c => e=.r (.agg #[.i (Ni ⟨b.map Prod.fst,f.map Prod.fst⟩).1,.i (Ni ⟨b.map Prod.fst,f.map Prod.fst⟩).2.1,.i (Ni ⟨b.map Prod.fst,f.map Prod.fst⟩).2.2])/\Bl w c:=by
 have a9:∀c,Bl w c->Ex c L (.s A b.length C) b:=fun c h=>c7.kp (Kp.of_below (e:=none) h) Ck Ck;have b8:∀c,Bl w c->Eb c L (.s B f.length D) f:=fun c h=>c8.kp (Kp.of_below (e:=none) h) Ck Ck Ck Ck Ck;have b9:=fun c (h:Bl w c)=>Bfo A B b.length C f.length D L b c b6 c6 (a9 c h);have c9:=fun c (h:Bl w c)=>Sn A B b.length C f.length D L b c b6 (a9 c h);have d0:(Tr.tree (b.map Prod.fst)).length<=1000:=by rw[Ix];simp;omega
 have d1:=fun ya yn yc g j c (h:Bl w c) F=>Bip (ya:=ya) (yn:=yn) (yc:=yc) A B b.length C D f (Tr.tree (b.map Prod.fst)) g j L c d0 F c5 (b8 c h) (fun p hp=>by have:=(b7 p hp).ps;omega);have b0:=fun ya yn yc g j c (h:Bl w c) F=>Bg3 (ya:=ya) (yn:=yn) (yc:=yc) A B C D b f (Tr.tree (b.map Prod.fst)) g j L c d0 F c5 b6 c6 (a9 c h) (b8 c h) b7;have d2:(f.map fun p=>p.1.cl)=(f.map Prod.fst).map Rd.Mth.cl:=Fr;rw[d2]at b0;generalize m:Ni ⟨b.map Prod.fst,f.map Prod.fst⟩=R;unfold Ni X9 at m;simp only at m;generalize Tr.tree (b.map Prod.fst)=T at *;generalize Tr.inCl T 0 (b.map Prod.fst)=ic at *;generalize Hk T (Cd.fieldSum (b.map Prod.fst):Int) ((f.map Prod.fst).map Rd.Mth.cl) 0 (f.map Prod.fst)=bo at *;generalize d8:Jq T (f.map Prod.fst) 0 (f.map Prod.fst)=hd at *;obtain⟨i1,G⟩:=ic;obtain⟨b1,b2,b3⟩:=bo;obtain⟨R1,R2,R3⟩:=R;simp only at b9 b0 m;have c2:=Bc b9;have d3:=Bc c9;have a0:=Bc d1;have d9:=Bc b0;clear b9 c9 d1 b0 a9 b8 c7 c8 d2 d8 b7;have N:=Bx w (O1 A b.length C B f.length D) (O8 0 0 0);have C0:=Cb w (O1 A b.length C B f.length D) (O8 0 0 0);have D0:=Bv w (O1 A b.length C B f.length D) (O8 0 0 0);by_cases h1:i1=0
 ·subst h1;rw[Pf Fr]at m;by_cases h2:0<=hd;·rw[Sp h2]at m;have HE:=Bc m;have a2:Ya hd=(4,hd):=Sp h2;rw[a2]at a0;simp only at a0;clear m a2 h2;go_in;go_wp2_with fail;refine Qm (Ba c2 _ N) ?_;intro l q;have O:=(QB N q);have I:=stay q C0;have v:=stay q D0;have b4:=O.size;have f0:=Pk v;obtain⟨x0,x1⟩:=cl2 I;have l1:=Pk I;simp at x0 x1;have J:=O.alloc b4 (O8 0 G 0);have a3:=Bk I (O8 0 G 0);have a4:=Bk v (O8 0 G 0);have a5:=Bf l (O8 0 G 0);clear C0 D0 N q;go_wp2_with fail;refine(Ba d3 _ J).mono ?_;rintro e w2 ⟨g,j,ya,yn,yc,rfl,F,-,-,z⟩;have a6:=J.trans (z.mono J.size);have Q:=stay z a3;have D2:=stay z a4;have E2:=stay z a5;have c3:=a6.size;obtain⟨y0,y1⟩:=cl2 Q;have l2:=Pk Q;simp at y0 y1;have K:=a6.alloc c3 (O2 (.p g) T.length j ya yn yc);have a7:=Bk D2 (O2 (.p g) T.length j ya yn yc);have a8:=Bk E2 (O2 (.p g) T.length j ya yn yc);clear x0 x1 l1 I v a3 a4 a5 J z;go_wp2_with fail;refine Qm (Ba a0 ya yn yc g j _ K (F.alloc _)) ?_;intro w3 t;have a1:=K.trans (t.mono K.size);have D3:=stay t a7;have E3:=stay t a8;have f1:=a1.size;have lE:=Pk E3;have lD:=Pk D3;obtain⟨e0,e1,e2⟩:=cl3 E3;obtain⟨g0,g1,g2⟩:=fr3 E3;obtain⟨V,Y,Z⟩:=cl3 D3;obtain⟨q0,q1,q2⟩:=fr3 D3;simp at e0 e1 e2 V Y Z;clear y0 y1 l2 Q D2 E2 a7 a8 K t;have f2:l.heap.size≠w.heap.size+1:=Bd;have b5:w.heap.size+1≠l.heap.size:=Bd;go_wp2_with fail;refine tb (.agg #[.i 4,.i hd,.i 0]) (by simp[results,B0n,go_sem,V,Y,Z]) ?_;have e:=Ba HE;simp only[Prod.mk.injEq]at e;obtain⟨rfl,rfl,rfl⟩:=e;exact⟨rfl,(((((a1.setCell Fm _).setCell Fm _).setCell Fm _).setCell Fr _).setCell Fr _).setCell Fr _⟩
  rw[Pf h2]at m;have HE:=Bc m;have a2:Ya hd=(0,0):=Pf h2;rw[a2]at a0;simp only at a0;clear m a2 h2;go_in;go_wp2_with fail;refine Qm (Ba c2 _ N) ?_;intro l q;have O:=(QB N q);have I:=stay q C0;have v:=stay q D0;have b4:=O.size;have f0:=Pk v;obtain⟨x0,x1⟩:=cl2 I;have l1:=Pk I;simp at x0 x1;have J:=O.alloc b4 (O8 0 G 0);have a3:=Bk I (O8 0 G 0);have a4:=Bk v (O8 0 G 0);have a5:=Bf l (O8 0 G 0);clear C0 D0 N q;go_wp2_with fail;refine(Ba d3 _ J).mono ?_;rintro e w2 ⟨g,j,ya,yn,yc,rfl,F,-,f3,z⟩;have a6:=J.trans (z.mono J.size);have Q:=stay z a3;have D2:=stay z a4;have E2:=stay z a5;have c3:=a6.size;obtain⟨y0,y1⟩:=cl2 Q;have l2:=Pk Q;simp at y0 y1;have K:=a6.alloc c3 (O2 (.p g) T.length j ya yn yc);have d4:=Bk Q (O2 (.p g) T.length j ya yn yc);have d5:=Bf w2 (O2 (.p g) T.length j ya yn yc);have a7:=Bk D2 (O2 (.p g) T.length j ya yn yc);have a8:=Bk E2 (O2 (.p g) T.length j ya yn yc);have f7:l.heap.size<w2.heap.size:=Pk E2;clear x0 x1 l1 I v a3 a4 a5 J z;go_wp2_with fail;refine Qm (Ba a0 ya yn yc g j _ K (F.alloc _)) ?_;intro w3 t;have a1:=K.trans (t.mono K.size);have D3:=stay t a7;have E3:=stay t a8;have f1:=a1.size;have lE:=Pk E3;have lD:=Pk D3;obtain⟨e0,e1,e2⟩:=cl3 E3;obtain⟨g0,g1,g2⟩:=fr3 E3;simp at e0 e1 e2;have C3:=stay t d4;have T3:=stay t d5;have lC:=Pk C3;have lT:=Pk T3;obtain⟨c0,c1⟩:=cl2 C3;obtain⟨t0,t1⟩:=cl2 T3;simp at c0 c1 t0 t1;have d6:=(F.alloc (O2 (.p g) T.length j ya yn yc)).below t;clear y0 y1 l2 Q D2 E2 a7 a8 d4 d5 K t;have f2:l.heap.size≠w.heap.size+1:=Bd;have b5:w.heap.size+1≠l.heap.size:=Bd;have f8:w2.heap.size≠l.heap.size:=Bd;have c4:l.heap.size≠g:=by simp at f3;omega
  have f4:=((d6.set (i:=0) c4 (.i 0)).set (i:=1) c4 (.i 0)).set (i:=2) c4 (.i 0);have d7:=((a1.setCell (p:=.a l.heap.size 0) Fm (.i 0)).setCell (p:=.a l.heap.size 1) Fm (.i 0)).setCell (p:=.a l.heap.size 2) Fm (.i 0);have D4:(((w3.setCell (.a l.heap.size 0) (.i 0)).setCell (.a l.heap.size 1) (.i 0)).setCell (.a l.heap.size 2) (.i 0)).heap[w.heap.size+1]?=some (O8 0 0 0):=by
   rw[Bvg _ _ _ _ (by simpa using b5),Bvg _ _ _ _ (by simpa using b5),Bvg _ _ _ _ (by simpa using b5)];exact D3
  clear D3 d6 F a1;go_wp2_with fail;refine Qb (Ba d9 ya yn yc g j _ d7 f4) d7 ?_;intro w5 f5 f6;have D5:=stay f5 D4;obtain⟨V,Y,Z⟩:=cl3 D5;obtain⟨q0,q1,q2⟩:=fr3 D5;simp at V Y Z;go_wp2_with fail;refine tb (.agg #[.i b1,.i b2,.i b3]) (by simp[results,B0n,go_sem,V,Y,Z]) ?_;have e:=Ba HE;simp only[Prod.mk.injEq]at e;obtain⟨rfl,rfl,rfl⟩:=e;exact⟨rfl,((f6.setCell Fr _).setCell Fr _).setCell Fr _⟩
 rw[Sp h1]at m;have HE:=Bc m;have f9:(i1 != 0)=true:=by simpa using h1
 clear m h1;go_in;go_wp2_with fail;refine Qm (Ba c2 _ N) ?_;intro l q;have O:=(QB N q);have v:=stay q D0;have b4:=O.size;have lD:=Pk v;obtain⟨V,Y,Z⟩:=cl3 v;obtain⟨q0,q1,q2⟩:=fr3 v;simp at V Y Z;go_wp2_with fail;refine tb (.agg #[.i i1,.i G,.i 0]) (by simp[results,B0n,go_sem,V,Y,Z,lD]) ?_;have e:=Ba HE;simp only[Prod.mk.injEq]at e;obtain⟨rfl,rfl,rfl⟩:=e;exact⟨rfl,(((O.setCell Fr _).setCell Fr _).setCell Fr _).alloc Fm _⟩
def Bgw{α β:Type}{l:List (α×β)}{r:List α}(h:l.map Prod.fst=r){P:α->Prop}(b:∀x∈r,P x):∀p∈l,P p.1:=by
 intro p c;refine b p.1 ?_;rw[<- h];exact Bwa c
def Biy{c:Int}{b:TI}:∀(l:List Rd.Mth) (k:Nat),(Hk z c b k l).1=0->Hk z c b k l=(0,0,0):=by
 intro l
 induction l with
 | nil=>intro k _;rfl
 | cons m r ih =>
  intro k h;unfold Hk at h ⊢;by_cases e:(Ot z c b m).1≠0;·rw[Sp e]at h;exact absurd h e
  rw[Pf e]at h ⊢;exact ih _ h
def Bog(f:Rd.Fil)(h:(Ni f).1=0):Ni f=(0,0,0):=by
 unfold Ni at h ⊢;by_cases b:(Tr.inCl (Tr.tree f.classes) 0 f.classes).1≠0;·rw[Sp b]at h;exact absurd h b
 rw[Pf b]at h ⊢;unfold X9 at h ⊢;by_cases c:0<=Jq (Tr.tree f.classes) f.methods 0 f.methods;·rw[Sp c]at h;simp at h
 rw[Pf c]at h ⊢;exact Biy _ _ h
def Bdy(s:ByteArray)(w:TW)(hs:s.size<=maxLen):Calls prog 45 #[.string s] w fun e w' => ∃f Q g j V l,e=.r (.tuple #[.agg #[.s f Q g,.s j V l],.agg #[.i (Ft s.data.toList).1,.i (Ft s.data.toList).2.1,.i (Ft s.data.toList).2.2]])/\((Ft s.data.toList).1=0->∃b c,b.map Prod.fst=(Rd.read s.data.toList).1.classes/\Ex w' w.heap.size (.s f Q g) b/\c.map Prod.fst=(Rd.read s.data.toList).1.methods/\Eb w' w.heap.size (.s j V l) c)/\Bl w w':=by
 have a0:=fun w=>Bpw s w hs;obtain⟨c5,a3⟩:=Vx s.data.toList;obtain⟨c6,a4⟩:=Xt s.data.toList;have a5:(Ft s.data.toList).1=0->Ft s.data.toList=(0,0,0):=by
  intro h;unfold Ft at h ⊢;by_cases m:(Rd.read s.data.toList).2≠0;·rw[Sp m]at h;exact absurd h m
  rw[Pf m]at h ⊢;exact Bog _ h
 generalize t:Ft s.data.toList=P at *;unfold Ft at t;generalize Rd.read s.data.toList=q at *;obtain⟨⟨cs,ms⟩,er⟩:=q;obtain⟨P1,P2,P3⟩:=P;simp only[Prod.mk.injEq]at a0 c5 a3 c6 a4 t a5 ⊢;have b3:=Bc a5;clear a5;have b4:=Bc a0;have c7:=Bc a3;have c8:=Bc a4;clear a0 a3 a4;have a6:=Bx w (O1 none 0 0 none 0 0) (O8 0 0 0);have C0:=Cb w (O1 none 0 0 none 0 0) (O8 0 0 0);have D0:=Bv w (O1 none 0 0 none 0 0) (O8 0 0 0);by_cases m:er=0
 ·subst m;rw[Pf Fr]at t;have HP:=Bc t;clear t;go_in;go_wp2_with fail;refine(Ba b4 _).mono ?_;rintro e p ⟨f,Q,g,j,V,l,rfl,⟨b,J,a7⟩,⟨c,K,a8⟩,v⟩;obtain⟨xa,xc,L⟩:=Bg a7.1;simp only[Value.slice.injEq]at L;obtain⟨rfl,rfl,rfl⟩:=L;obtain⟨xa,xc,L⟩:=Bg a8.1;simp only[Value.slice.injEq]at L;obtain⟨rfl,rfl,rfl⟩:=L;have N:=QB a6 v;have b5:=N.size;have z:=stay v C0;have A:=stay v D0;have lC:=Pk z;have lD:=Pk A;have b6:Ex p (w.heap.size+1+1) (.s f b.length g) b:=by simpa using a7
  have b7:Eb p (w.heap.size+1+1) (.s j c.length l) c:=by simpa using a8
  have a9:Kp none (w.heap.size+1+1) p (p.alloc (O1 f b.length g j c.length l)):=Kp.alloc _ _;have b0:=Bro f j g l b c (w.heap.size+1+1) (p.alloc (O1 f b.length g j c.length l))
   (by have:=congrArg List.length K;simp at this;omega) (by have:=congrArg List.length J;simp at this;omega) (Bgw J (Ba c8)) (b6.kp a9 Ck Ck) (b7.kp a9 Ck Ck Ck Ck Ck) (Bgw K (Ba c7))
  rw[J,K,Ba HP]at b0;have c9:=Bc b0;have b1:=N.alloc b5 (O1 f b.length g j c.length l);have b8:=Bk z (O1 f b.length g j c.length l);have b9:=Bk A (O1 f b.length g j c.length l);have c0:=Bf p (O1 f b.length g j c.length l);clear b0 a7 a8 v C0 D0 a6 z A a9;go_wp2_with fail;refine Qm (Ba c9) ?_;intro w2 B;have b2:=b1.trans (B.mono b1.size);have C2:=stay B b8;have D2:=stay B b9;have E2:=stay B c0;have c3:=(b6.kp (Kp.alloc (e:=none) p (O1 f b.length g j c.length l)) Ck Ck).kp (Kp.of_below (e:=none) B) Ck Ck;have c4:=(b7.kp (Kp.alloc (e:=none) p (O1 f b.length g j c.length l)) Ck Ck Ck Ck Ck).kp (Kp.of_below (e:=none) B) Ck Ck Ck Ck Ck;have d0:=b2.size;have Y:=Pk C2;have Z:=Pk D2;have d1:=Pk E2;obtain⟨x0,x1⟩:=cl2 E2;obtain⟨C,D⟩:=cl2 C2;obtain⟨F,G,I⟩:=cl3 D2;obtain⟨p0,p1⟩:=fr2 C2;obtain⟨q0,q1,q2⟩:=fr3 D2;simp at x0 x1 C D F G I;clear b8 b9 c0 b1 B;by_cases O:P1=0
  ·obtain⟨-,rfl,rfl⟩:=Ba b3 O;subst O;go_wp2_with fail;refine tb (.tuple #[.agg #[.s f b.length g,.s j c.length l],.agg #[.i 0,.i 0,.i 0]]) (by simp[results,B0o,go_sem,C,D,F,G,I,Y,Z]) ?_;have k1:Kp none (w.heap.size+1+1) w2 ((((((w2.setCell (.a w.heap.size 0) (.s f b.length g)).setCell (.a w.heap.size 1) (.s j c.length l)).setCell (.a (w.heap.size+1) 0) (.i 0)).setCell (.a (w.heap.size+1) 1) (.i 0)).setCell (.a (w.heap.size+1) 2) (.i 0)).alloc (O8 0 0 0)) :=
    (((((Kp.set_lo Bd _).trans (Kp.set_lo Bd _)).trans (Kp.set_lo Bd _)).trans (Kp.set_lo Bd _)).trans (Kp.set_lo Bd _)).trans (Kp.alloc _ _)
   refine⟨f,b.length,g,j,c.length,l,rfl,?_,?_⟩
   ·first|intro _;exact⟨b,c,J,(c3.kp k1 Ck Ck).mono Bd,K,(c4.kp k1 Ck Ck Ck Ck Ck).mono Bd⟩|exact⟨b,J,(c3.kp k1 Ck Ck).mono Bd,c,K,(c4.kp k1 Ck Ck Ck Ck Ck).mono Bd⟩
   exact(((((b2.setCell Fr _).setCell Fr _).setCell Fr _).setCell Fr _).setCell Fr _).alloc Fm _
  have d2:(P1 != 0)=true:=by simpa using O
  go_wp2;have H2:=Bc O;clear O
  go_region
  go_wp2_with fail;refine tb (.tuple #[.agg #[.s none 0 0,.s none 0 0],.agg #[.i P1,.i P2,.i P3]]) (by simp[results,B0o,go_sem,C,D,F,G,I,Y,Z]) ?_;refine⟨none,0,0,none,0,0,rfl,fun h=>absurd h (Ba H2),?_⟩;exact((((((b2.setCell Fr _).setCell Fr _).setCell Fr _).setCell Fr _).setCell Fr _).alloc Fm _).drew
 rw[Sp m]at t;have d3:(er != 0)=true:=by simpa using m
 simp only[Prod.mk.injEq]at t;obtain⟨rfl,rfl,rfl⟩:=t;have H1:=Bc m;clear m b3;go_in;go_wp2_with fail;refine(Ba b4 _).mono ?_;rintro e p ⟨f,Q,g,j,V,l,rfl,-,-,v⟩;have N:=QB a6 v;have b5:=N.size;have z:=stay v C0;have A:=stay v D0;have Y:=Pk z;have Z:=Pk A;obtain⟨C,D⟩:=cl2 z;obtain⟨F,G,I⟩:=cl3 A;obtain⟨p0,p1⟩:=fr2 z;obtain⟨q0,q1,q2⟩:=fr3 A;simp at C D F G I;go_wp2_with fail;refine tb (.tuple #[.agg #[.s none 0 0,.s none 0 0],.agg #[.i er,.i 0,.i 0]]) (by simp[results,B0o,go_sem,C,D,F,G,I,Y,Z]) ?_;refine⟨none,0,0,none,0,0,rfl,fun h=>absurd h (Ba H1),?_⟩;exact(((((N.setCell Fr _).setCell Fr _).setCell Fr _).setCell Fr _).setCell Fr _).alloc Fm _
def Bdg{α:Type}(f:α->TB)(c:Nat)(l:List α)(h:∀x∈l,(f x).length<=c):(l.flatMap f).length<=l.length*c:=by
 induction l with
 | nil=>simp
 | cons x r ih =>
  have e:=h x (Bv1 ..);have g:=ih (fun y b=>h y (Bv6 _ b));simp only[Bwj,Up,Bvo,Nat.add_mul];omega
def TyR (w:TW)(v:TX)(l:TP):Prop :=
 (v=.slice none 0 0/\l=[])\/∃g o c cur,v=.slice (some ⟨g,o,none⟩) l.length c/\w.heap[g]?=some (.cells cur 31 (0,0))/\l.length<=c/\c<=maxLen/\∀j x,(Bu l)[j]?=some x->w.cell? ⟨g,o+j,none⟩=some x
def TyR.nil(w:TW):TyR w (.s none 0 0) []:=.inl ⟨rfl,rfl⟩
def TyR.of_tys{i:TX}{q:TP}(h:Dp w u i q):TyR w i q:=by
 obtain⟨s,⟨e,t⟩|⟨g,z,A,e,F,f,B,C,G,D⟩⟩:=h
 ·exact .inl ⟨e,Bwc t⟩
 refine .inr ⟨g,0,z,A,e,f,B,C,fun j c m=>?_⟩;have p:j<(Bu q).length:=(List.getElem?_eq_some_iff.1 m).1;rw[Bvp,Bb f,<- m,<- D,Bww,Sp (by rw[s]at p;exact p)];simp
def TyR.below{b:TW}{i:TX}{q:TP}(h:TyR w i q)(f:Bl w b):TyR b i q:=by
 rcases h with h|⟨g,o,c,m,s,e,t,z,A⟩
 ·exact .inl h
 exact .inr ⟨g,o,c,m,s,(f.block g (Pk e)).trans e,t,z,fun j x B=>by rw[f.cell (p:=.a g (o+j)) (Pk e)];exact A j x B⟩
def TyR.shape{i:TX}{q:TP}(h:TyR w i q):∃a c,i=.s a q.length c:=by
 rcases h with ⟨rfl,rfl⟩|⟨g,o,c,e,b,_⟩
 ·exact⟨none,0,rfl⟩
 exact⟨_,c,b⟩
def TyR.cap{a:TA}{n c:Nat}{q:TP}(h:TyR w (.s a n c) q):n=q.length/\q.length<=c/\c<=maxLen:=by
 rcases h with ⟨b,rfl⟩|⟨g,o,i,j,e,_,b,f,_⟩
 ·simp only[Value.slice.injEq]at b;obtain⟨_,rfl,rfl⟩:=b;exact⟨rfl,Wf _,Bv5 _⟩
 simp only[Value.slice.injEq]at e;obtain⟨_,rfl,rfl⟩:=e;exact⟨rfl,b,f⟩
def TyR.at{a:TA}{n c:Nat}{q:TP}(h:TyR w (.s a n c) q)(j:0<q.length):∃g o,a=some ⟨g,o,none⟩/\g<w.heap.size/\∀k (b:k<q.length),w.C g (o+k*2) (.i q[k].1)/\w.C g (o+k*2+1) (.i q[k].2):=by
 rcases h with ⟨_,rfl⟩|⟨g,o,v,z,e,m,_,_,f⟩
 ·simp at j
 simp only[Value.slice.injEq]at e;refine⟨g,o,e.1,Pk m,fun k b=>?_⟩;obtain⟨p,t,_⟩:=Gc q k b;exact⟨f _ _ p,by rw[Byc];exact f _ _ t⟩
def Bak(l:TP)(k:Nat):Bu (l.take k)=(Bu l).take (k*2):=by
 induction l generalizing k with
 | nil=>simp[Bu]
 | cons x r ih =>
  cases k with
  | zero=>simp[Bu]
  | succ j =>
   have e:Bu (x::r)=.i x.1::.i x.2::Bu r:=by simp[Bu]
   have b:Bu (x::r.take j)=.i x.1::.i x.2::Bu (r.take j):=by simp[Bu]
   rw[Byq,e,b,ih,show (j+1)*2=j*2+1+1 by omega,Byq,Byq]
def Bhx(l:TP)(k:Nat):Bu (l.drop k)=(Bu l).drop (k*2):=by
 induction l generalizing k with
 | nil=>simp[Bu]
 | cons x r ih =>
  cases k with
  | zero=>simp[Bu]
  | succ j =>
   have e:Bu (x::r)=.i x.1::.i x.2::Bu r:=by simp[Bu]
   rw[Bzi,e,ih,show (j+1)*2=j*2+1+1 by omega,Bzi,Bzi]
def TyR.new1(w:TW)(k n:Int):TyR (w.alloc (O7 k n)) (.s (.p w.heap.size) 1 1) [(k,n)]:=by
 refine .inr ⟨w.heap.size,0,1,_,rfl,Bf w _,Fr,Mc,fun j x b=>?_⟩;rw[Bb (Bf w _),Bvp];simpa[Bu] using b
def TyR.new2(w:TW)(k n b c:Int):TyR (w.alloc (O22 k n b c)) (.s (.p w.heap.size) 2 2) [(k,n),(b,c)]:=by
 refine .inr ⟨w.heap.size,0,2,_,rfl,Bf w _,Fr,Mc,fun j x e=>?_⟩;rw[Bb (Bf w _),Bvp];simpa[Bu] using e
def Pv{q:Array Oper}{t:List Oper}{o:Oper}{a:Act}{Q:Exit->Act->TW->Prop}(z:o.guard=none)(s x:Operand) (A:o.op=.call { callee:=.builtin .append,args:=#[s,x],argTypes:=#[105,105] }) (e:Nat)(v:TX)(f b:TP)(B:TA)(C vc:Nat)(D:a.eval s=v)(m:w.ownsRow e 31 2 v f.length (Bu f))(F:a.eval x=.s B C vc)(J:TyR w (.s B C vc) b) (h1:f.length+b.length<=100000)(K:e<=w.heap.size) (h:∀l i,i.ownsRow e 31 2 l (f++b).length (Bu (f++b))->w.grownBy i v.ownBlock->wpList prog q Q t (a.put o.dst l) i):wpList prog q Q (o::t) a w:=by
 obtain⟨G,I,L,N,O⟩:=Bv4 Tryz.infoType;rcases J with ⟨p,rfl⟩|⟨g,V,c,a2,p,hg,hc,hm,Y⟩
 ·refine B0k z s x _ A e 31 G 2 Bwq I v _ _ D m (F.trans p) ?_;exact h v w (by simpa using m) (World.grownBy.refl _ _)
 refine Bvw w z s x _ A e 31 G _ 2 16 Bwq I L N O rfl Bd v _ _ D m ⟨g,V,none⟩ b.length c (Bu b) (F.trans p) (Kc b) ?_ (Va b) Mc Bd K ?_
 ·intro j u Z;rw[Bz3];exact Y j u Z
 intro l i a0 a1 _;exact h l i (by rw[Up,Ml];exact a0) a1
structure Be where
 locals:List (Int × Int)
 stack:List (Int × Int)
def Ei (r:Int × Int):List (Int × Int):=if r.1=0 then [] else [r]
def Er (a b:Int × Int)(l:TP):List (Int × Int):=l.map fun x=>if x=a then b else x
def Nz (T:TI):TP->TP->Bool
 | _,[]=>true
 | [],_::_=>false
 | s::ss,t::ts=>Tr.rfits T s.1 s.2 t.1 t.2&&Nz T ss ts
def Ig (T:TI)(st want:TP):Bool:=if st.length<want.length then false else Nz T (st.drop (st.length-want.length)) want
def Dk (T:TI)(a b:Be):Bool :=
 if a.stack.length≠b.stack.length then false else if a.locals.length≠b.locals.length then false else Ig T a.locals b.locals&&Ig T a.stack b.stack
def Bps(k:Int)(w:TW):Calls prog 141 #[.i k] w fun e b=>∃a c,e=.r (.s a 1 c)/\TyR b (.s a 1 c) [(k,0)]/\Bl w b:=by
 have h:=TyR.new1 w k 0;go_in;go_wp2;go_ret;exact⟨_,_,rfl,h,QN _⟩
def Tg(c:Int)(w:TW):Calls prog 142 #[.i c] w fun e b=>e=.r (.agg #[.i 3,.i c])/\Bl w b:=by
 go_in;go_wp2_with fail;refine tb (.agg #[.i 3,.i c]) (by simp[results,results142,go_sem]) ?_;exact⟨rfl,QN _⟩
def Bkf(m:RMV)(w:TW):Calls prog 143 #[m.val] w fun e f=>∃a c,e=.r (.s a (Ei (m.r1,m.r2)).length c)/\TyR f (.s a (Ei (m.r1,m.r2)).length c) (Ei (m.r1,m.r2))/\Bl w f:=by
 obtain⟨i,j,l,p,q,b,g,t,v,z,A,B,C,D,F,G,I,J⟩:=m;simp only[RMV.val];unfold Ei;simp only;by_cases h:b=0;·subst h;go_in;go_wp2;go_ret;exact⟨none,0,rfl,TyR.nil _,QN _⟩
 rw[Pf h];have L:(b==0)=false:=by simpa using h
 have K:=TyR.new1 (w.alloc (O12 i j l p q b g t v z A B C D F G I J)) b g;clear h;go_in;go_wp2;go_ret;exact⟨_,_,rfl,by simpa using K,Bx _ _ _⟩
def Cy{n:Nat}{a:TW}(h:Below u a w):Below u a (w.drewN n):=⟨h.os,h.tape,h.output,h.size,h.block⟩
def Bhw(a b:Int×Int)(l:TP)(q:Nat)(c:q<l.length):Er a b (l.take (q+1))=Er a b (l.take q)++[if l[q]=a then b else l[q]]:=by
 unfold Er;rw[Bvs c,Bvx];rfl
def Sc{i:TX}{l:TP}{n:Nat}(h:w.ownsRow u 31 2 i n (Bu l))(c:n=l.length):TyR w i l:=by
 subst c;exact TyR.of_tys h
structure FrV where
 la:Option Addr
 ln:Nat
 lc:Nat
 sa:Option Addr
 sn:Nat
 sc:Nat
def FrV.val(v:FrV):Value:=.agg #[.slice v.la v.ln v.lc,.slice v.sa v.sn v.sc]
structure FrV.is(v:FrV)(x:Be)(w:World):Prop where
 lo:TyR w (.slice v.la v.ln v.lc) x.locals
 st:TyR w (.slice v.sa v.sn v.sc) x.stack
 hl:x.locals.length<=5000
 hs:x.stack.length<=5000
def FrV.is.below{v:FrV}{x:Be}{b:TW}(h:v.is x w)(c:Bl w b):v.is x b:=⟨h.lo.below c,h.st.below c,h.hl,h.hs⟩
def Dx (op:Int):Bool:=decide (op=11\/op=12\/op=13\/op=14)
def Dz (op:Int):Bool:=decide (¬(op=11\/op=22\/op=23))
def Ka (p:Int):List Rd.Mp->Option Be
 | []=>none
 | m::r=>if m.place=p then some ⟨m.locals,m.stack⟩ else Ka p r
def Ef (x:Option Be):Be:=x.getD ⟨[],[]⟩
def Kv (cl:Int)(ps:TP):List (Int × Int):=(if cl=255 then [] else [(3,cl)])++ps
def Pp (cl:Int)(ps:TP)(lo:Nat):Be:=⟨Kv cl ps++List.replicate (lo-(Kv cl ps).length) (0,0),[]⟩
abbrev Yi:Rf.Mth × Ms:=⟨⟨⟨0,0,[],(0,0),0,0,[],[],[]⟩,0,0⟩,⟨.slice none 0 0,⟨#[]⟩,.slice none 0 0,.slice none 0 0⟩⟩
def Cu (F:List Rf.Fld)(ms:List Rd.Mth)(res:Int × Int)(op n:Int):List (Int × Int) :=
 if op=7\/op=8\/op=9\/op=10\/op=13 then [(1,0),(1,0)] else if op=12\/op=25 then [(1,0)] else if op=14\/op=19 then [(3,0)]
 else if op=17 then [(3,(F.getD n.toNat ⟨0,0,(0,0)⟩).owner)] else if op=18 then [(3,(F.getD n.toNat ⟨0,0,(0,0)⟩).owner),(F.getD n.toNat ⟨0,0,(0,0)⟩).t]
 else if op=20 then (ms.getD n.toNat ⟨0,0,[],(0,0),0,0,[],[],[]⟩).params else if op=21 then (3,(ms.getD n.toNat ⟨0,0,[],(0,0),0,0,[],[],[]⟩).cl)::(ms.getD n.toNat ⟨0,0,[],(0,0),0,0,[],[],[]⟩).params
 else if op=22 then Ei res else if op=23 then [(3,1)] else []
def Fg (F:List Rf.Fld)(ms:List Rd.Mth)(op n:Int):List (Int × Int) :=
 if op=0\/op=7\/op=8\/op=9\/op=10\/op=24 then [(1,0)] else if op=1 then [(2,0)] else if op=17 then [(F.getD n.toNat ⟨0,0,(0,0)⟩).t]
 else if op=19 then [(3,n)] else if op=20\/op=21 then Ei (ms.getD n.toNat ⟨0,0,[],(0,0),0,0,[],[],[]⟩).result else []
def Im(l:List Rf.Fld)(k:Nat)(b:k<l.length)(j:Nat)(c:j<4):(Nd l)[k*4+j]?=[Value.int .i64 l[k].owner,.i l[k].slot,.i l[k].t.1,.i l[k].t.2][j]?/\k*4+j<(Nd l).length:=by
 refine⟨M5 (fun x:Rf.Fld=>[Value.int .i64 x.owner,.i x.slot,.i x.t.1,.i x.t.2]) 4 (fun _=>rfl) l k b j c,?_⟩;unfold Nd;rw[Kq (fun x:Rf.Fld=>[Value.int .i64 x.owner,.i x.slot,.i x.t.1,.i x.t.2]) 4 (fun _=>rfl) l];omega
def Bni(b:List (Rf.Mth×Ms))(q:Nat):(b.map fun x=>x.1.m).getD q ⟨0,0,[],(0,0),0,0,[],[],[]⟩=(b.getD q Yi).1.m:=by
 simp only[Th,Bv8];cases b[q]? <;> rfl
def Bke(f:RFl)(m:RMV)(p:Nat)(w:TW)(hf:f.ok w)(hp:p<m.code.size)(hs:m.code.size<=100000)(a6:∀x∈f.ms,x.1.m.params.length<=1000) (b4:(Co m.code).getD p 0=17\/(Co m.code).getD p 0=18->0<=Rf.at' m.code.data.toList ((p:Int)+1)/\Rf.at' m.code.data.toList ((p:Int)+1)<(f.fields.length:Int)) (b5:(Co m.code).getD p 0=20\/(Co m.code).getD p 0=21->0<=Rf.at' m.code.data.toList ((p:Int)+1)/\Rf.at' m.code.data.toList ((p:Int)+1)<(f.ms.length:Int)):Calls prog 98 #[f.val,m.val,.i (p:Int)] w fun e w' => ∃a c,e=.r (.s a (Cu f.fields (f.ms.map fun x=>x.1.m) (m.r1,m.r2) ((Co m.code).getD p 0) (Rf.at' m.code.data.toList ((p:Int)+1))).length c)/\TyR w' (.s a (Cu f.fields (f.ms.map fun x=>x.1.m) (m.r1,m.r2) ((Co m.code).getD p 0) (Rf.at' m.code.data.toList ((p:Int)+1))).length c) (Cu f.fields (f.ms.map fun x=>x.1.m) (m.r1,m.r2) ((Co m.code).getD p 0) (Rf.at' m.code.data.toList ((p:Int)+1)))/\Bl w w':=by
 rw[Sd _ _ hp]at b4 b5 ⊢;have c0:=fun w=>Yq m p w hp hs;have c3:=fun w=>Bkf m w;have b6:=fun w (h:f.ok w)=>Uc f.a1 f.a2 f.c1 f.ms.length f.c2 f.bb f.l w h.1 h.2.1 h.2.2.2.1 h.2.2.2.2.1;have c8:=hf;obtain⟨c9,d0,d1,d2,bb,l,G⟩:=f;obtain⟨cl,nm,pa,pl,pc,r1,r2,lo,st,v,ha,hl,hc,ma,ml,mc,j3,j4⟩:=m;simp only[RMV.val,RFl.val]at hp hs c0 b6 c3 b4 b5 a6 ⊢;have d3:(RFl.mk c9 d0 d1 d2 bb l G).fields=Rf.fieldsTo (Cw l) (l.map Prod.fst) (l.length-7):=rfl;rw[<- d3]at b6;generalize (RFl.mk c9 d0 d1 d2 bb l G).fields=z at *;generalize Rf.at' v.data.toList ((p:Int)+1)=n at *;generalize D:Cu z (G.map fun x=>x.1.m) (r1,r2) (v[p].toNat:Int) n=R;have j5:(p:Int)<(v.size:Int):=Bd;have j6:∀c:UInt8,IntKind.i64.wrap (c.toNat:Int)=(c.toNat:Int):=fun c=>Eg _ Bd (by have:=c.toNat_lt;omega);have g0:=Bc c0;have g1:=Bc c3;have d4:=Bc b6;have b7:=Bc c8;have d5:=Bc b4;have d6:=Bc b5;have d7:=Bc a6;clear c0 c3 b6 c8 hf b4 b5 a6 d3;go_in;go_wp2_with fail;refine Qm (Ba g0 _) ?_;intro w1 b8;have J:=(Bx w _ _).trans (b8.mono Fm);have CF:=stay b8 (Cb w _ _);have CM:=stay b8 (Bv w _ _);obtain⟨m0,m1,m2,m3,m4,m5,m6,m7,m8,m9,g2,g3⟩:=Ia CM;obtain⟨f0,f1⟩:=cl2 CF;simp at f0 f1 m0 m1 m2 m3 m4 m5 m6 m7 m8 m9 g2 g3;have lF:=Pk CF;have lM:=Pk CM;have a4:=J.size;clear b8;by_cases b:(v[p].toNat:Int)=7\/(v[p].toNat:Int)=8\/(v[p].toNat:Int)=9\/(v[p].toNat:Int)=10\/(v[p].toNat:Int)=13
 ·rcases b with b|b|b|b|b
  all_goals
   have A:Hid (R=[(1,0),(1,0)]):=by unfold Hid;rw[<- D];unfold Cu;rw[b];simp
   clear D;have hn:=TyR.new2 w1 1 0 1 0;go_wp2;go_ret;obtain rfl:=Ba A;exact⟨_,_,rfl,hn,J.alloc a4 _⟩
 have n7:((v[p].toNat:Int)==7)=false:=Fm;have n8:((v[p].toNat:Int)==8)=false:=Fm;have n9:((v[p].toNat:Int)==9)=false:=Fm;have j7:((v[p].toNat:Int)==10)=false:=Fm;have j8:((v[p].toNat:Int)==13)=false:=Fm;have i7:=b;clear b;by_cases b:(v[p].toNat:Int)=12\/(v[p].toNat:Int)=25
 ·rcases b with b|b
  all_goals
   have A:Hid (R=[(1,0)]):=by unfold Hid;rw[<- D];unfold Cu;rw[b];simp
   clear D;go_wp2_with fail;refine(Bps 1 _).mono ?_;rintro e I ⟨a,c,rfl,ht,F⟩;go_wp2;go_ret;obtain rfl:=Ba A;exact⟨a,c,rfl,ht,J.trans (F.mono a4)⟩
 have j9:((v[p].toNat:Int)==12)=false:=Fm;have k0:((v[p].toNat:Int)==25)=false:=Fm;have g4:=b;clear b;by_cases b:(v[p].toNat:Int)=14\/(v[p].toNat:Int)=19
 ·rcases b with b|b
  all_goals
   have A:Hid (R=[(3,0)]):=by unfold Hid;rw[<- D];unfold Cu;rw[b];simp
   clear D;go_wp2_with fail;refine Qm (Tg 0 _) ?_;intro I F;have L:=J.trans (F.mono a4);have hn:=TyR.new1 I 3 0;go_wp2;go_ret;obtain rfl:=Ba A;exact⟨_,_,rfl,hn,L.alloc L.size _⟩
 have k1:((v[p].toNat:Int)==14)=false:=Fm;have k2:((v[p].toNat:Int)==19)=false:=Fm;have g5:=b;clear b;by_cases b:(v[p].toNat:Int)=17
 ·have hq:=Ba d5 (by rw[b];simp);obtain⟨q,rfl⟩:=Bvk hq.1;have K:q<z.length:=Bd;have c4:(q:Int)<(z.length:Int):=Bd;have A:Hid (R=[(3,(z.getD q ⟨0,0,(0,0)⟩).owner)]):=by unfold Hid;rw[<- D];unfold Cu;rw[b];simp[-List.getD_eq_getElem?_getD]
  clear D;go_wp2_with fail;refine(Ba d4 _ ((Ba b7).below J)).mono ?_;rintro e I ⟨va,vc,rfl,a9,F⟩;have L:=J.trans (F.mono a4);have b0:=L.size;obtain⟨g,hg,N,_,a0⟩:=Cf a9 Bd;have Q:=(a0 _ (Im z q K 0 Bd).2).trans (Im z q K 0 Bd).1;have O:=(a0 _ (Im z q K 2 Bd).2).trans (Im z q K 2 Bd).1;have V:=(a0 _ (Im z q K 3 Bd).2).trans (Im z q K 3 Bd).1;simp at Q O V;have b1:z.getD q ⟨0,0,(0,0)⟩=z[q]:=by simp[Th,K]
  have B:=Ba A;rw[b1]at B;generalize z[q]=fd at *;obtain⟨fo,fs,c5,c6⟩:=fd;simp only at Q O V B;have a7:=Bc B;clear a0 a9 b1 B A;subst hg;go_wp2_with fail;refine Qm (Tg fo _) ?_;intro w3 g6;have b9:=L.trans (g6.mono b0);have hn:=TyR.new1 w3 3 fo;go_wp2;go_ret;obtain rfl:=Ba a7;exact⟨_,_,rfl,hn,b9.alloc b9.size _⟩
 have k3:((v[p].toNat:Int)==17)=false:=Fm;have g7:=b;clear b;by_cases b:(v[p].toNat:Int)=18
 ·have hq:=Ba d5 (by rw[b];simp);obtain⟨q,rfl⟩:=Bvk hq.1;have K:q<z.length:=Bd;have c4:(q:Int)<(z.length:Int):=Bd;have A:Hid (R=[(3,(z.getD q ⟨0,0,(0,0)⟩).owner),(z.getD q ⟨0,0,(0,0)⟩).t]):=by unfold Hid;rw[<- D];unfold Cu;rw[b];simp[-List.getD_eq_getElem?_getD]
  clear D;go_wp2_with fail;refine(Ba d4 _ ((Ba b7).below J)).mono ?_;rintro e I ⟨va,vc,rfl,a9,F⟩;have L:=J.trans (F.mono a4);have b0:=L.size;obtain⟨g,hg,N,_,a0⟩:=Cf a9 Bd;have Q:=(a0 _ (Im z q K 0 Bd).2).trans (Im z q K 0 Bd).1;have O:=(a0 _ (Im z q K 2 Bd).2).trans (Im z q K 2 Bd).1;have V:=(a0 _ (Im z q K 3 Bd).2).trans (Im z q K 3 Bd).1;simp at Q O V;have b1:z.getD q ⟨0,0,(0,0)⟩=z[q]:=by simp[Th,K]
  have B:=Ba A;rw[b1]at B;generalize z[q]=fd at *;obtain⟨fo,fs,c5,c6⟩:=fd;simp only at Q O V B;have a7:=Bc B;clear a0 a9 b1 B A;subst hg;have d8:=fun w=>Tg fo w;have g8:=Bc d8;clear d8;go_wp2
  go_region_held3 (fun w'=>w'.C g (q*4) (.i fo)/\w'.C g (q*4+2) (.i c5)/\w'.C g (q*4+3) (.i c6))
   (first|exact⟨Q,O,V⟩|exact⟨QC Z N Q,QC Z N O,QC Z N V⟩|exact⟨(QA (QL Z N) (QC Z N Q)),(QA (QL Z N) (QC Z N O)),(QA (QL Z N) (QC Z N V))⟩)
   (first|(go_at_call 142;refine(Ba g8 _).mono ?_;rintro e w7 ⟨rfl,Z⟩))
  have d9:=L.drew.trans (Z.mono b0);have hn:=TyR.new2 w7 3 fo c5 c6;go_wp2;go_ret;obtain rfl:=Ba a7;exact⟨_,_,rfl,hn,d9.alloc d9.size _⟩
 have k4:((v[p].toNat:Int)==18)=false:=Fm;have g9:=b;clear b;by_cases b:(v[p].toNat:Int)=20
 ·have hq:=Ba d6 (by rw[b];simp);obtain⟨q,rfl⟩:=Bvk hq.1;have a3:q<G.length:=Bd;have c4:(q:Int)<(G.length:Int):=Bd;have A:Hid (R=(G.getD q Yi).1.m.params):=by unfold Hid;rw[<- D];unfold Cu;rw[b];simp[-List.getD_eq_getElem?_getD,Bni]
  clear D;obtain⟨o,g,hg,N,Y,a8⟩:=RFl.mth ((Ba b7).below J) a3;simp only at hg Y a8 a3;replace Y:=Ua Y;have b2:G.getD q Yi=G[q]:=by simp[Th,a3]
  have B:=Ba A;rw[b2]at B;have a6:=Ba d7 _ (Bvh a3);generalize G[q]=md at *;obtain⟨md,mu⟩:=md;simp only at a8 B a6;obtain⟨e1,-,e3,e4,-,-,-,-,e9,b3,-,-,-,-,-⟩:=a8;have c7:md.m.result=(o.r1,o.r2):=by rw[e3,e4]
  generalize md.m.params=ps at *;obtain⟨a5,h0,f2,h1,f3,h2,h3,h4,h5,h6,h7,h8,h9,i0,i1,i2,i3,i4⟩:=o;simp only at e9 b3 B Y;subst e9;obtain⟨Q,y1,O,V,y4,y5,y6,y7,y8,y9,f4,f5⟩:=Y;have a7:=Bc B;clear b2 B A c7 e1 e3 e4;subst hg;go_wp2;go_ret;obtain rfl:=Ba a7;exact⟨_,_,rfl,TyR.of_tys b3,J⟩
 have k5:((v[p].toNat:Int)==20)=false:=Fm;have i5:=b;clear b;by_cases b:(v[p].toNat:Int)=21
 ·have hq:=Ba d6 (by rw[b];simp);obtain⟨q,rfl⟩:=Bvk hq.1;have a3:q<G.length:=Bd;have c4:(q:Int)<(G.length:Int):=Bd;have A:Hid (R=(3,(G.getD q Yi).1.m.cl)::(G.getD q Yi).1.m.params):=by unfold Hid;rw[<- D];unfold Cu;rw[b];simp[-List.getD_eq_getElem?_getD,Bni]
  clear D;obtain⟨o,g,hg,N,Y,a8⟩:=RFl.mth ((Ba b7).below J) a3;simp only at hg Y a8 a3;replace Y:=Ua Y;have b2:G.getD q Yi=G[q]:=by simp[Th,a3]
  have B:=Ba A;rw[b2]at B;have a6:=Ba d7 _ (Bvh a3);generalize G[q]=md at *;obtain⟨md,mu⟩:=md;simp only at a8 B a6;obtain⟨e1,-,e3,e4,-,-,-,-,e9,b3,-,-,-,-,-⟩:=a8;have c7:md.m.result=(o.r1,o.r2):=by rw[e3,e4]
  rw[<- e1]at B;generalize md.m.params=ps at *;obtain⟨a5,h0,f2,h1,f3,h2,h3,h4,h5,h6,h7,h8,h9,i0,i1,i2,i3,i4⟩:=o;simp only at e9 b3 B Y;subst e9;obtain⟨Q,y1,O,V,y4,y5,y6,y7,y8,y9,f4,f5⟩:=Y;have a7:=Bc B;clear b2 B A c7 e1 e3 e4;subst hg;go_wp2_with fail;refine Qm (Tg a5 _) ?_;intro I F;have L:=J.trans (F.mono a4);have b0:=L.size;have f6:=stay F CF;have i6:=Bb f6 1;have k6:=Pk f6;simp at i6;have k7:g<I.heap.size:=Bvm N F.size;have k8:=(F.cell (p:=.a g (q*12+2)) N).trans O;have i8:Bl I (I.alloc (O7 3 a5)):=QN _;have i9:=((TyR.of_tys b3).below F).below i8;have f7:(I.alloc (O7 3 a5)).ownsRow I.heap.size 31 2 (.s (.p I.heap.size) 1 1) ([((3:Int),a5)]:TP).length (Bu [((3:Int),a5)]) :=
   ⟨rfl,.inr ⟨I.heap.size,1,_,rfl,Wf _,Bf _ _,Fr,Mc,rfl,rfl⟩⟩
  clear F Q y1 O V y4 y5 y6 y7 y8 y9 f4 f5;go_wp2_with (at_builtin;refine Pv rfl _ _ rfl I.heap.size _ [(3,a5)] ps f2 ps.length f3 rfl f7 rfl i9 Fm Fr ?_)
  intro v' w3 f8 f9;obtain⟨va,vc,rfl⟩:=Bg f8;have b9:=(L.alloc b0 (O7 3 a5)).grown f9 Fm (fun j hj=>by have:=(f7.lt j hj).1;omega);clear f9;go_wp2;go_ret;obtain rfl:=Ba a7;exact⟨va,vc,Fr,Sc (by simpa using f8) Fr,b9⟩
 have k9:((v[p].toNat:Int)==21)=false:=Fm;have j0:=b;clear b;by_cases b:(v[p].toNat:Int)=22
 ·have A:Hid (R=Ei (r1,r2)):=by unfold Hid;rw[<- D];unfold Cu;rw[b];simp
  clear D;go_wp2_with fail;refine(Ba g1 _).mono ?_;rintro e I ⟨a,c,rfl,ht,F⟩;go_wp2;go_ret;obtain rfl:=Ba A;exact⟨a,c,rfl,ht,J.trans (F.mono a4)⟩
 have l0:((v[p].toNat:Int)==22)=false:=Fm;have j1:=b;clear b;by_cases b:(v[p].toNat:Int)=23
 ·have A:Hid (R=[(3,1)]):=by unfold Hid;rw[<- D];unfold Cu;rw[b];simp
  clear D;go_wp2_with fail;refine Qm (Tg 1 _) ?_;intro I F;have L:=J.trans (F.mono a4);have hn:=TyR.new1 I 3 1;go_wp2;go_ret;obtain rfl:=Ba A;exact⟨_,_,rfl,hn,L.alloc L.size _⟩
 have l1:((v[p].toNat:Int)==23)=false:=Fm;have j2:=b;clear b;have A:Hid (R=[]):=by
  unfold Hid;rw[<- D];unfold Cu;rw[Pf Bd,Pf Bd,Pf Bd,Pf Bd,Pf Bd,Pf Bd,Pf Bd,Pf Bd,Pf Bd]
 clear D i7 g4 g5 g7 g9 i5 j0 j1 j2;go_wp2;go_ret;obtain rfl:=Ba A;exact⟨none,0,rfl,TyR.nil _,J⟩
def Yh (T:TI)(want:TP)(arg:Int->Int)(c:Int)(x:Be):Option Be :=
 if Ig T x.stack want=false then none else if x.stack.length<want.length+1 then none
 else if (x.stack.getD (x.stack.length-want.length-1) (0,0)).1≠4 then none
 else if arg (x.stack.getD (x.stack.length-want.length-1) (0,0)).2≠c then none
 else some ⟨Er (x.stack.getD (x.stack.length-want.length-1) (0,0)) (3,c) x.locals,Er (x.stack.getD (x.stack.length-want.length-1) (0,0)) (3,c) (x.stack.take (x.stack.length-want.length-1))⟩
def Ik (T:TI)(F:List Rf.Fld)(ms:List Rd.Mth)(want:Int->TP)(arg:Int->Int)(res:Int × Int)(p op n:Int)(x:Be):Option Be :=
 if op=2 then (if (x.locals.getD n.toNat (0,0)).1=0 then none else some ⟨x.locals,x.stack++[x.locals.getD n.toNat (0,0)]⟩)
 else if op=3 then (if x.stack.length<1 then none else some ⟨x.locals.set n.toNat (x.stack.getD (x.stack.length-1) (0,0)),x.stack.take (x.stack.length-1)⟩)
 else if op=4 then (if x.stack.length<1 then none else some ⟨x.locals,x.stack.take (x.stack.length-1)⟩)
 else if op=5 then (if x.stack.length<1 then none else some ⟨x.locals,x.stack++x.stack.drop (x.stack.length-1)⟩)
 else if op=6 then (if x.stack.length<2 then none else some ⟨x.locals,x.stack.take (x.stack.length-2)++[x.stack.getD (x.stack.length-1) (0,0),x.stack.getD (x.stack.length-2) (0,0)]⟩)
 else if op=15 then some ⟨Er (4,p) (0,0) x.locals,Er (4,p) (0,0) x.stack++[(4,p)]⟩
 else if op=16 then Yh T (want n) arg n x
 else if Ig T x.stack (Cu F ms res op n)=false then none
 else some ⟨x.locals,x.stack.take (x.stack.length-(Cu F ms res op n).length)++Fg F ms op n⟩
def Ym(l:TP)(q:Nat)(b c:Int):Bu (l.set q (b,c))=((Bu l).set (q*2) (.i b)).set (q*2+1) (.i c):=by
 induction l generalizing q with
 | nil=>simp[Bu]
 | cons x r ih =>
  have e:∀(y:Int×Int) (s:TP),Bu (y::s)=.i y.1::.i y.2::Bu s:=fun y s=>by simp[Bu]
  cases q with
  | zero=>rw[Byw,e,e];rfl
  | succ j=>rw[Bwf,e,e,ih,show (j+1)*2=j*2+1+1 by omega];rfl
def Xo{a:TA}{n j:Nat}{q:TP}(h:Dp w u (.s a n j) q){K:Nat}(B:K<q.length)(m p:Int):∃g,a=some ⟨g,0,none⟩/\g<w.heap.size/\u<=g/\w.C g (K*2) (.i q[K].1)/\w.C g (K*2+1) (.i q[K].2)/\w.frozen? (.a g (K*2))=false/\w.frozen? (.a g (K*2+1))=false/\Dp ((w.setCell (.a g (K*2)) (.i m)).setCell (.a g (K*2+1)) (.i p)) u (.s a n j) (q.set K (m,p)):=by
 obtain⟨L,N,t,_,D⟩:=(TyR.of_tys h).at Bd;obtain⟨O,⟨f,Q⟩|⟨g,V,Y,f,v,e,F,G,I,J⟩⟩:=h
 ·omega
 simp only[Value.slice.injEq]at f;obtain⟨rfl,rfl,rfl⟩:=f;simp only[Option.some.injEq,Addr.mk.injEq]at t;obtain⟨rfl,rfl,-⟩:=t;obtain⟨z,A⟩:=D K B;simp only[Bvp]at z A;refine⟨g,rfl,Pk e,v,z,A,Bj e _,Bj e _,?_⟩;refine⟨by rw[Kc],.inr ⟨g,j,_,by rw[Bv7],v,Bq (Bq e _) _,by rw[Bv7];exact F,G,by simpa using I,?_⟩⟩;rw[Bv7,Ym,<- J];simp only[Byn];rw[Bzv,Bzv]
def TyR.set_frame{i:TX}{q:TP}{l J:TA}{s j K L:Nat}(h:TyR w i q)(A:w.heap[u]?=some (.cells #[.s l s j,.s J K L] ty (0,0)))(b t:TX):TyR ((w.setCell (.a u 0) b).setCell (.a u 1) t) i q:=by
 rcases h with h|⟨g,o,c,N,O,D,Q,V,F⟩
 ·exact .inl h
 obtain⟨B,Y⟩:∃B,((w.setCell (.a u 0) b).setCell (.a u 1) t).heap[g]?=some (.cells B 31 (0,0)):=by
  by_cases e:g=u;·subst e;have G:=D.symm.trans A;simp only[Option.some.injEq,Obj.cells.injEq]at G;obtain⟨_,rfl,_⟩:=G;exact⟨_,Bq (Bq A b) t⟩
  exact⟨N,((Bvg _ _ _ _ (by simpa using e)).trans (Bvg _ _ _ _ (by simpa using e))).trans D⟩
 refine .inr ⟨g,o,c,B,O,Y,Q,V,fun f x C=>?_⟩;have I:g≠u:=by
  intro e;subst e;have p:=F f x C;rw[Bb A]at p;have Z:∃k,x=Value.int .i64 k:=by
   have:=Bwv C;simp only[Bu,List.mem_flatMap,Bxy,Bx9,Bz2]at this;obtain⟨y,_,rfl|rfl⟩:=this<;>exact⟨_,rfl⟩
  obtain⟨k,rfl⟩:=Z;generalize o+f=m at p
  match m,p with
  | 0,p=>simp at p
  | 1,p=>simp at p
  | m+2,p=>simp at p
 rw[Byu _ _ _ _ (by intro e;exact I (congrArg Addr.block e).symm),Byu _ _ _ _ (by intro e;exact I (congrArg Addr.block e).symm)];exact F f x C
def Bk2(F:List Rf.Fld)(c:List Rd.Mth)(op n:Int):(Fg F c op n).length<=1:=by
 have e:∀b,(Ei b).length<=1:=fun b=>by unfold Ei;split<;>simp
 unfold Fg
 split
 ·simp
 split
 ·simp
 split
 ·simp
 split
 ·simp
 split
 ·exact e _
 simp
def Gt (st:Int)(y:Option Be):Option Be:=y.bind fun z=>if (z.stack.length:Int)<=st then some z else none
def Kk (T:TI)(mp:Int->Option Be)(p:Int)(lo:TP):List Rd.Hnd->Int
 | []=>0
 | h::r=>if p<h.frm then Kk T mp p lo r else if h.til<=p then Kk T mp p lo r
  else if (mp h.target).isSome=false then 8 else if Dk T ⟨lo,[(3,h.cl)]⟩ (Ef (mp h.target))=false then 9 else Kk T mp p lo r
def Mz (T:TI)(tk lv want:TP)(arg:Int->Int)(p op n:Int)(x:Be):Option Be :=
 if op=2 then (if (x.locals.getD n.toNat (0,0)).1=0 then none else some ⟨x.locals,x.stack++[x.locals.getD n.toNat (0,0)]⟩)
 else if op=3 then (if x.stack.length<1 then none else some ⟨x.locals.set n.toNat (x.stack.getD (x.stack.length-1) (0,0)),x.stack.take (x.stack.length-1)⟩)
 else if op=4 then (if x.stack.length<1 then none else some ⟨x.locals,x.stack.take (x.stack.length-1)⟩)
 else if op=5 then (if x.stack.length<1 then none else some ⟨x.locals,x.stack++x.stack.drop (x.stack.length-1)⟩)
 else if op=6 then (if x.stack.length<2 then none else some ⟨x.locals,x.stack.take (x.stack.length-2)++[x.stack.getD (x.stack.length-1) (0,0),x.stack.getD (x.stack.length-2) (0,0)]⟩)
 else if op=15 then some ⟨Er (4,p) (0,0) x.locals,Er (4,p) (0,0) x.stack++[(4,p)]⟩
 else if op=16 then Yh T want arg n x
 else if Ig T x.stack tk=false then none
 else some ⟨x.locals,x.stack.take (x.stack.length-tk.length)++lv⟩
def Bc8(T:TI)(F:List Rf.Fld)(b:List Rd.Mth)(c:Int->TP)(arg:Int->Int)(e:Int×Int)(p op n:Int)(x:Be):Ik T F b c arg e p op n x=Mz T (Cu F b e op n) (Fg F b op n) (c n) arg p op n x:=rfl
structure Ea where
 lo:List (Int × Int)
 st:List (Int × Int)
 br:Bool
def Bi (b:Ea):(Int × Int) × Ea :=
 if b.st.length=0 then ((0,0),⟨b.lo,b.st,true⟩) else (b.st.getD (b.st.length-1) (0,0),⟨b.lo,b.st.take (b.st.length-1),b.br⟩)
def Wo (T:TI)(t x:Int × Int)(b:Ea):Ea:=if Tr.fitsB T t.1 t.2 x.1 x.2=true then b else ⟨b.lo,b.st,true⟩
def Gf (T:TI)(l:TP):Nat->Ea->Ea
 | 0,b=>b
 | i+1,b=>Gf T l i (Wo T (Bi b).1 (l.getD i (0,0)) (Bi b).2)
def Gu (T:TI)(l:TP)(b:Ea):Ea:=Gf T l l.length b
def Es (hi:Int)(t:Int × Int)(b:Ea):Ea:=if hi<=(b.st.length:Int) then ⟨b.lo,b.st,true⟩ else ⟨b.lo,b.st++[t],b.br⟩
def Hf (hi:Int):TP->Ea->Ea
 | [],b=>b
 | t::r,b=>Hf hi r (Es hi t b)
def X8 (hi n:Int)(b:Ea):Ea :=
 if n<0 then ⟨b.lo,b.st,true⟩ else if (b.lo.length:Int)<=n then ⟨b.lo,b.st,true⟩ else if (b.lo.getD n.toNat (0,0)).1=0 then ⟨b.lo,b.st,true⟩ else Es hi (b.lo.getD n.toNat (0,0)) b
def Wn (n:Int)(b:Ea):Ea :=
 if n<0 then ⟨b.lo,(Bi b).2.st,true⟩ else if (b.lo.length:Int)<=n then ⟨b.lo,(Bi b).2.st,true⟩ else ⟨b.lo.set n.toNat (Bi b).1,(Bi b).2.st,(Bi b).2.br⟩
def Mt (old fresh:Int × Int)(b:Ea):Ea:=⟨Er old fresh b.lo,Er old fresh b.st,b.br⟩
def Bdm (hi:Int)(b:Ea):Ea:=Es hi (Bi (Bi b).2).1 (Es hi (Bi b).1 (Bi (Bi b).2).2)
def Bht (hi:Int)(b:Ea):Ea:=Es hi (Bi b).1 (Es hi (Bi b).1 (Bi b).2)
def Tm (isNew:Int->Bool)(c:Int)(t:Int × Int)(b:Ea):Ea :=
 if t.1≠4 then ⟨b.lo,b.st,true⟩ else if isNew t.2=false then ⟨b.lo,b.st,true⟩ else Mt t (3,c) b
def Au (T:TI)(want:TP)(isNew:Int->Bool)(c:Int)(b:Ea):Ea :=
 Tm isNew c (Bi (Gu T want b)).1 (Bi (Gu T want b)).2
def Fo (b:Ea):Option Be:=if b.br=true then none else some ⟨b.lo,b.st⟩
def Zd (T:TI)(hi:Int)(tk lv want:TP)(isNew:Int->Bool)(p op n:Int)(b:Ea):Ea :=
 if op=2 then X8 hi n b else if op=3 then Wn n b else if op=4 then (Bi b).2 else if op=5 then Bht hi b else if op=6 then Bdm hi b
 else if op=15 then Es hi (4,p) (Mt (4,p) (0,0) b) else if op=16 then Au T want isNew n b else Hf hi lv (Gu T tk b)
def Nv (T:TI)(hi:Int)(tk lv want:TP)(isNew:Int->Bool)(p op n:Int)(x:Be):Option Be:=Fo (Zd T hi tk lv want isNew p op n ⟨x.locals,x.stack,false⟩)
def Ee (T:TI):TP->TP->Bool
 | _,[]=>true
 | [],_::_=>false
 | s::ss,t::ts=>Tr.fitsB T s.1 s.2 t.1 t.2&&Ee T ss ts
def Pg(e:Tr.Ok z):∀(a b:TP),(∀t∈a,Tr.Arg z t.1 t.2)->(∀t∈b,Tr.Arg z t.1 t.2)->Nz z a b=Ee z a b
 | _,[],_,_=>by simp[Nz,Ee]
 | [],_::_,_,_=>by simp[Nz,Ee]
 | s::ss,t::ts,ha,hb=>by
  rw[Nz,Ee,Tr.rfits_eq e (ha s Fr) (hb t Fr),Pg e ss ts (fun x c=>ha x (by simp[c])) (fun x c=>hb x (by simp[c]))]
def Bd6(T:TI)(t x:Int×Int):∀(a b:TP),a.length=b.length->Ee T (a++[t]) (b++[x])=(Ee T a b&&Tr.fitsB T t.1 t.2 x.1 x.2)
 | [],[],_=>by simp[Ee]
 | [],_::_,h=>by simp at h
 | _::_,[],h=>by simp at h
 | s::ss,y::ys,h=>by
  simp only[Bws,Ee];rw[Bd6 T t x ss ys (by simpa using h),Bool.and_assoc]
def Bi5(b:Ea):(Bi b).2.lo=b.lo:=by unfold Bi;split<;>rfl
def Bhh(T:TI)(t x:Int×Int)(b:Ea):(Wo T t x b).lo=b.lo/\(Wo T t x b).st=b.st/\(Wo T t x b).br=(b.br || !Tr.fitsB T t.1 t.2 x.1 x.2):=by
 unfold Wo;cases Tr.fitsB T t.1 t.2 x.1 x.2<;>simp
def Az{α:Type}(l:List α)(d:α)(h:l.length≠0):l=l.take (l.length-1)++[l.getD (l.length-1) d]:=by
 have b:l.length-1<l.length:=Bd;have:=Bvs b;rw[show l.length-1+1=l.length by omega,Byk]at this;rw[Th,Ws b];exact this
def Bdw(T:TI)(l:TP):∀(k:Nat) (b:Ea),b.br=true->(Gf T l k b).br=true
 | 0,b,h=>h
 | k+1,b,h=>by
  unfold Gf;refine Bdw T l k _ ?_;rw[(Bhh _ _ _ _).2.2];have:(Bi b).2.br=true:=by unfold Bi;split<;>simp[h]
  rw[this];rfl
def Bal(T:TI)(l:TP):∀(k:Nat),k<=l.length->∀(b:Ea),(Gf T l k b).lo=b.lo /\
  (k<=b.st.length->(Gf T l k b).st=b.st.take (b.st.length-k)/\(Gf T l k b).br=(b.br || !Ee T (b.st.drop (b.st.length-k)) (l.take k))) /\
  (b.st.length<k->(Gf T l k b).br=true)
 | 0,_,b=>by
  refine⟨rfl,fun _=>⟨?_,?_⟩,fun h=>Bd⟩
  ·simp[Gf]
  simp[Gf,Ee]
 | k+1,hk,b=>by
  have m:k<l.length:=Bd;unfold Gf;obtain⟨c,f,g⟩:=Bal T l k Bd (Wo T (Bi b).1 (l.getD k (0,0)) (Bi b).2);obtain⟨s,p,q⟩:=Bhh T (Bi b).1 (l.getD k (0,0)) (Bi b).2;rw[s,Bi5]at c;rw[p,q]at f;rw[p]at g;by_cases i:b.st.length=0
  ·refine⟨c,fun h=>Bd,fun _=>?_⟩;have e:Bi b=((0,0),⟨b.lo,b.st,true⟩):=by unfold Bi;rw[Sp i]
   refine Bdw _ _ _ _ ?_;rw[q,e];rfl
  have e:Bi b=(b.st.getD (b.st.length-1) (0,0),⟨b.lo,b.st.take (b.st.length-1),b.br⟩):=by unfold Bi;rw[Pf i]
  rw[e]at c f g ⊢;simp only at c f g ⊢;have j:(b.st.take (b.st.length-1)).length=b.st.length-1:=Fr;rw[j]at f g;refine⟨c,fun h=>?_,fun h=>g Bd⟩;obtain⟨t,v⟩:=f Bd;refine⟨?_,?_⟩
  ·rw[t,Bxu]
   congr 1;omega
  rw[v];have z:=Az b.st (0,0) i;have A:b.st.drop (b.st.length-(k+1))=(b.st.take (b.st.length-1)).drop (b.st.length-1-k)++[b.st.getD (b.st.length-1) (0,0)]:=by
   conv=>lhs;rw[z]
   rw[Up,j,Bxz (by rw[j];simp)]
   congr 2
   simp only[Bw0];omega
  have B:l.take (k+1)=l.take k++[l.getD k (0,0)]:=by
   rw[Bvs m,Th,Ws m];rfl
  rw[A,B,Bd6 _ _ _ _ _ Fm];cases b.br<;>cases Ee T (List.drop (b.st.length-1-k) (List.take (b.st.length-1) b.st)) (List.take k l)<;>simp
def Zu(f:Tr.Ok z)(l:TP)(b:Ea)(g:∀t∈b.st,Tr.Arg z t.1 t.2)(i:∀t∈l,Tr.Arg z t.1 t.2):(Gu z l b).lo=b.lo/\(Ig z b.st l=true->(Gu z l b).st=b.st.take (b.st.length-l.length)/\(Gu z l b).br=b.br)/\(Ig z b.st l=false->(Gu z l b).br=true):=by
 obtain⟨p,j,q⟩:=Bal z l l.length (Wf _) b;unfold Gu Ig;refine⟨p,fun h=>?_,fun h=>?_⟩
 ·by_cases c:b.st.length<l.length;·rw[Sp c]at h;cases h
  rw[Pf c,Pg f _ _ (fun t e=>g t (Bxe e)) i]at h;obtain⟨m,g2⟩:=j Bd;refine⟨m,?_⟩;rw[g2,Byk,h];simp
 by_cases c:b.st.length<l.length;·exact q c
 rw[Pf c,Pg f _ _ (fun t e=>g t (Bxe e)) i]at h;obtain⟨m,g2⟩:=j Bd;rw[g2,Byk,h];simp
def Rr{c:Int}{C:Int×Int}{b:Ea}(h:b.br=true):(Es c C b).br=true:=by unfold Es;split<;>simp[h]
def Bav{c:Int}:∀{l:TP}{b:Ea},b.br=true->(Hf c l b).br=true
 | [],_,h=>h
 | _::r,_,h=>Bav (l:=r) (Rr h)
def Bi6{b:Ea}(h:b.br=true):(Bi b).2.br=true:=by unfold Bi;split<;>simp[h]
def Xx{b:Ea}(h:b.br=true):Fo b=none:=by unfold Fo;rw[Sp h]
def Bt6{b:Ea}(h:b.br=false):Fo b=some ⟨b.lo,b.st⟩:=by unfold Fo;rw[h];rfl
def Kb(a b:Int×Int)(l:TP):(Er a b l).length=l.length:=by simp[Er]
def Bos(Q:Tr.Ok z)(i:Int)(l lv want:TP)(isNew:Int->Bool)(arg:Int->Int)(p op n:Int)(x:Be) (V:∀t∈x.stack,Tr.Arg z t.1 t.2)(a5:∀t∈l,Tr.Arg z t.1 t.2)(a6:∀t∈want,Tr.Arg z t.1 t.2)(a7:lv.length<=1)(b3:(x.stack.length:Int)<=i) (Y:op=2\/op=3->0<=n/\n<(x.locals.length:Int))(a8:op=16->∀t∈x.stack,t.1=4->(isNew t.2=true<->arg t.2=n)):Nv z i l lv want isNew p op n x=Gt i (Mz z l lv want arg p op n x):=by
 unfold Nv Zd Mz;by_cases q:op=2
 ·rw[Sp q,Sp q];obtain⟨a1,L⟩:=Y (.inl q);unfold X8;rw[Pf Bd,Pf (by simpa using L)];by_cases D:(x.locals.getD n.toNat (0,0)).1=0;·rw[Sp D,Sp D];rfl
  rw[Pf D,Pf D];unfold Es Gt;by_cases f:i<=(x.stack.length:Int);·rw[Sp f];simp[Fo];omega
  rw[Pf f];simp[Fo];omega
 rw[Pf q,Pf q];by_cases s:op=3
 ·rw[Sp s,Sp s];obtain⟨a1,L⟩:=Y (.inr s);unfold Wn;rw[Pf Bd,Pf (by simpa using L)];unfold Bi;by_cases c:x.stack.length=0;·rw[Sp (show x.stack.length<1 by omega)];simp[c,Fo,Gt]
  rw[Pf (show ¬x.stack.length<1 by omega)];simp only[c,Bxk];simp[Fo,Gt];omega
 rw[Pf s,Pf s];by_cases F:op=4
 ·rw[Sp F,Sp F];unfold Bi;by_cases c:x.stack.length=0;·rw[Sp (show x.stack.length<1 by omega)];simp[c,Fo,Gt]
  rw[Pf (show ¬x.stack.length<1 by omega)];simp only[c,Bxk];simp[Fo,Gt];omega
 rw[Pf F,Pf F];by_cases G:op=5
 ·rw[Sp G,Sp G];unfold Bht Bi;by_cases c:x.stack.length=0;·rw[Sp (show x.stack.length<1 by omega)];rw[Xx (Rr (Rr (by simp[c])))];rfl
  rw[Pf (show ¬x.stack.length<1 by omega)];simp only[c,Bxk];have Z:=Az x.stack (0,0) c;have a9:x.stack.drop (x.stack.length-1)=[x.stack.getD (x.stack.length-1) (0,0)]:=by
   conv=>lhs;rw[Z]
   rw[Bxz Fr];simp
  rw[a9];have N:Es i (x.stack.getD (x.stack.length-1) (0,0)) ⟨x.locals,x.stack.take (x.stack.length-1),false⟩=⟨x.locals,x.stack,false⟩:=by
   unfold Es;rw[Pf Fm];simp only[<- Z]
  rw[N];unfold Es Gt;by_cases f:i<=(x.stack.length:Int);·rw[Sp f];simp[Fo];omega
  rw[Pf f];simp[Fo];omega
 rw[Pf G,Pf G];by_cases I:op=6
 ·rw[Sp I,Sp I];unfold Bdm;by_cases c:x.stack.length=0
  ·rw[Sp (show x.stack.length<2 by omega)];have:(Bi ⟨x.locals,x.stack,false⟩).2.br=true:=by unfold Bi;simp[c]
   rw[Xx (Rr (Rr (Bi6 this)))];rfl
  have N:Bi ⟨x.locals,x.stack,false⟩=(x.stack.getD (x.stack.length-1) (0,0),⟨x.locals,x.stack.take (x.stack.length-1),false⟩):=by unfold Bi;simp only[c,Bxk]
  rw[N];simp only;by_cases a0:x.stack.length<2
  ·rw[Sp a0];have:(Bi ⟨x.locals,x.stack.take (x.stack.length-1),false⟩).2.br=true:=by unfold Bi;rw[Sp Fm]
   rw[Xx (Rr (Rr this))];rfl
  rw[Pf a0];have e2:Bi ⟨x.locals,x.stack.take (x.stack.length-1),false⟩=(x.stack.getD (x.stack.length-2) (0,0),⟨x.locals,x.stack.take (x.stack.length-2),false⟩):=by
   unfold Bi;rw[Pf Fm];simp only[Bxf,Bxu,Th,Bww];rw[show min (x.stack.length-1) x.stack.length-1=x.stack.length-2 by omega,Sp Bd,show min (x.stack.length-2) (x.stack.length-1)=x.stack.length-2 by omega]
  rw[e2];simp only;unfold Es;have l1:¬i<=((x.stack.take (x.stack.length-2)).length:Int):=Fm;rw[Pf l1];have l2:¬i<=((x.stack.take (x.stack.length-2)++[x.stack.getD (x.stack.length-1) (0,0)]).length:Int):=Fm;simp only[l2,Bxk];simp[Fo,Gt];omega
 rw[Pf I,Pf I];by_cases J:op=15
 ·rw[Sp J,Sp J];unfold Mt Es Gt;simp only[Kb];by_cases f:i<=(x.stack.length:Int);·rw[Sp f];simp[Fo,Kb];omega
  rw[Pf f];simp[Fo,Kb];omega
 rw[Pf J,Pf J];by_cases v:op=16
 ·rw[Sp v,Sp v];obtain⟨m,g2,g3⟩:=Zu Q want ⟨x.locals,x.stack,false⟩ V a6;unfold Au Yh;simp only at m g2 g3;cases j:Ig z x.stack want with
  | false =>
   have:∀t (b:Ea),b.br=true->Fo (Tm isNew n t b)=none:=by
    intro t b O;unfold Tm Mt
    split
    ·rfl
    split
    ·rfl
    exact Xx O
   rw[this _ _ (Bi6 (g3 j))];simp[Gt]
  | true =>
   obtain⟨A,B⟩:=g2 j;have b4:want.length<=x.stack.length:=by
    unfold Ig at j;by_cases h:x.stack.length<want.length;·rw[Sp h]at j;cases j
    omega
   rw[Pf Fr];generalize O:Gu z want ⟨x.locals,x.stack,false⟩=b at *;obtain⟨b0,b1,b2⟩:=b;simp only at m A B;subst m A B;by_cases c:x.stack.length<want.length+1
   ·rw[Sp c];have e:Bi ⟨x.locals,x.stack.take (x.stack.length-want.length),false⟩=((0,0),⟨x.locals,x.stack.take (x.stack.length-want.length),true⟩):=by
     unfold Bi;rw[Sp Fm]
    rw[e];simp[Tm,Fo,Gt]
   rw[Pf c];have a3:x.stack.length-want.length-1<x.stack.length:=Bd;have e:Bi ⟨x.locals,x.stack.take (x.stack.length-want.length),false⟩=(x.stack.getD (x.stack.length-want.length-1) (0,0),⟨x.locals,x.stack.take (x.stack.length-want.length-1),false⟩):=by
    unfold Bi;rw[Pf Fm];simp only[Bxf,Bxu,Th,Bww];rw[show min (x.stack.length-want.length) x.stack.length-1=x.stack.length-want.length-1 by omega,Sp Bd,show min (x.stack.length-want.length-1) (x.stack.length-want.length)=x.stack.length-want.length-1 by omega]
   rw[e];simp only;have hm:x.stack.getD (x.stack.length-want.length-1) (0,0)∈x.stack:=by
    rw[Th,Ws a3];exact Bvh a3
   generalize x.stack.getD (x.stack.length-want.length-1) (0,0)=t at *;unfold Tm;by_cases C:t.1=4
   ·rw[Pf (show ¬t.1≠4 from fun g=>g C),Pf (show ¬t.1≠4 from fun g=>g C)];have a4:=a8 v t hm C;by_cases K:arg t.2=n;·rw[a4.2 K,Pf Fr,Pf (show ¬arg t.2≠n from fun g=>g K)];unfold Mt Gt;simp[Fo,Kb];omega
    have:isNew t.2=false:=by
     cases h:isNew t.2
     ·rfl
     exact absurd (a4.1 h) K
    rw[Sp this,Sp K];rfl
   rw[Sp C,Sp C];rfl
 rw[Pf v,Pf v];obtain⟨m,g2,g3⟩:=Zu Q l ⟨x.locals,x.stack,false⟩ V a5;simp only at m g2 g3;cases j:Ig z x.stack l with
 | false=>rw[Sp rfl,Xx (Bav (g3 j))];rfl
 | true =>
  obtain⟨A,B⟩:=g2 j;rw[Pf Fr];generalize O:Gu z l ⟨x.locals,x.stack,false⟩=b at *;obtain⟨b0,b1,b2⟩:=b;simp only at m A B;subst m A B
  match lv,a7 with
  | [],_ =>
   simp[Hf,Fo,Gt];omega
  | [t],_ =>
   simp only[Hf,Es];by_cases f:i<=((x.stack.take (x.stack.length-l.length)).length:Int);·rw[Sp f];simp at f;simp[Fo,Gt];omega
   rw[Pf f];simp at f;simp[Fo,Gt];omega
def Ec (n:Int):List (List (Int × Int))->Int->Int->Int × Int
 | [],_,_=>(-1,0)
 | own::r,c,f=>if f<=n/\n-f<(own.length:Int) then (c,n-f) else Ec n r (c+1) (f+(own.length:Int))
def Nh (fs:List (List (Int × Int)))(c:Int):List (Int × Int):=if c<0 then [] else fs.getD c.toNat []
def Lf (fs:List (List (Int × Int)))(n:Int):Int × (Int × Int) :=
 if (Ec n fs 0 0).2<0 then (-1,(0,0)) else if ((Nh fs (Ec n fs 0 0).1).length:Int)<=(Ec n fs 0 0).2 then (-1,(0,0))
 else ((Ec n fs 0 0).1,(Nh fs (Ec n fs 0 0).1).getD (Ec n fs 0 0).2.toNat (0,0))
def Fb (T:TI)(fs:List (List (Int × Int)))(c:Int):Nat->List (Int × Int)
 | 0=>[]
 | d+1=>Fb T fs c d++(if Tr.within T c (d:Int)=true then fs.getD d [] else [])
def Dq (T:TI)(fs:List (List (Int × Int)))(c:Int):List (Int × Int):=Fb T fs c fs.length
def U9(c:Tr.Ok z){a B:Int}(e:0<=a)(f:a<(z.length:Int))(g:0<=B):Tr.within z a B=Tr.rbel z a B:=by
 refine Bool.eq_iff_iff.2 ?_;rw[Tr.rbel_iff c e f g];unfold Tr.within Tr.At;simp only[B0e,By9];exact⟨fun h=>h.imp Eq.symm id,fun h=>h.imp Eq.symm id⟩
def Bdp(c:Tr.Ok z){a B:Int}(f:0<=a)(e:a<(z.length:Int))(g:a<B):Tr.within z a B=false:=by
 unfold Tr.within;cases h:Tr.below z a B
 ·simp;omega
 have:=Tr.below_lt c Bd e h;omega
def Ba3(e:Tr.Ok z)(b:List Rd.Cls){c:Int}(f:0<=c)(g:c<(z.length:Int)):∀d:Nat,Fb z (b.map Rd.Cls.fields) c d=Rf.allTo z b c d
 | 0=>rfl
 | d+1=>by
  rw[Fb,Rf.allTo,Ba3 e b f g d,U9 e f g Bd]
  congr 2
  rw[Th,Th,Bv8];cases b[d]? <;> rfl
def Ba4(e:Tr.Ok z)(b:List (List (Int×Int))){c:Nat}(f:(c:Int)<(z.length:Int)):∀d:Nat,Fb z b (c:Int) (c+1+d)=Fb z b (c:Int) (c+1)
 | 0=>rfl
 | d+1=>by
  rw[<- Byc,Fb,Ba4 e b f d,Bdp e Bd f Bd];simp
def Xm(e:Tr.Ok z)(b:List Rd.Cls)(f:b.length=z.length){c:Nat}(g:c<z.length):Dq z (b.map Rd.Cls.fields) (c:Int)=Rf.all z b c:=by
 unfold Dq Rf.all;rw[<- Ba3 e b Bd Bd,Bvr];have:=Ba4 e (b.map Rd.Cls.fields) (c:=c) Bd (b.length-(c+1));rw[show c+1+(b.length-(c+1))=b.length by omega]at this;exact this
def Bgm(c b:Int)(own:TP):∀(k i:Nat),i<k->(Rf.ownTo c b own k).getD i ⟨0,0,(0,0)⟩=⟨c,b+(i:Int),own.getD i (0,0)⟩
 | 0,_,h=>Bd
 | k+1,i,h=>by
  rw[Rf.ownTo];by_cases e:i<k;·rw[Th,Bvy (by rw[Oz];exact e),<- Th];exact Bgm c b own k i e
  have:i=k:=Bd;subst this;rw[Th,Bvt (by rw[Oz];omega),Oz];simp
def Rf.fieldsAt(T:TI)(cs:List Rd.Cls):Nat->Nat->List Rf.Fld
 | _,0=>[]
 | c,j+1=>Rf.ownOf T cs c++Rf.fieldsAt T cs (c+1) j
def Zn(T:TI)(b:List Rd.Cls):∀(j c:Nat),Rf.fieldsAt T b c (j+1)=Rf.fieldsAt T b c j++Rf.ownOf T b (c+j)
 | 0,c=>by simp[Rf.fieldsAt]
 | j+1,c=>by
  rw[Rf.fieldsAt,Zn T b j (c+1),Rf.fieldsAt,Bwe,show c+1+j=c+(j+1) by omega]
def Ba5(T:TI)(b:List Rd.Cls):∀j:Nat,Rf.fieldsTo T b j=Rf.fieldsAt T b 7 j
 | 0=>rfl
 | j+1=>by rw[Rf.fieldsTo,Ba5 T b j,Zn]
def Bgl(T:TI)(b:List Rd.Cls)(n:Nat):∀(j c f:Nat),c+j=b.length->f<=n->n-f<(Rf.fieldsAt T b c j).length ->
  ∃q:Nat,c<=q/\q<b.length/\∃i:Nat,i<(b.getD q ⟨0,[]⟩).fields.length/\Ec (n:Int) ((b.drop c).map Rd.Cls.fields) (c:Int) (f:Int)=((q:Int),(i:Int)) /\
   (Rf.fieldsAt T b c j).getD (n-f) ⟨0,0,(0,0)⟩=⟨(q:Int),((Rf.all T b q).length:Int)-(((b.getD q ⟨0,[]⟩).fields.length:Nat):Int)+(i:Int),(b.getD q ⟨0,[]⟩).fields.getD i (0,0)⟩
 | 0,c,f,hc,hf,h=>by simp[Rf.fieldsAt]at h
 | j+1,c,f,hc,hf,h=>by
  have g:c<b.length:=Bd;rw[Wr g,Bwm,Ec];have l:b.getD c ⟨0,[]⟩=b[c]:=by rw[Th,Ws g];rfl
  have e:(Rf.ownOf T b c).length=b[c].fields.length:=by rw[Rf.ownOf,Oz,l]
  rw[Rf.fieldsAt]at h ⊢;by_cases m:n-f<b[c].fields.length
  ·refine⟨c,Wf _,g,n-f,by rw[l];exact m,?_,?_⟩
   ·rw[Sp Bd]
    congr 1;omega
   rw[Th,Bvy (by rw[e];exact m),<- Th,Rf.ownOf,Bgm _ _ _ _ _ (by rw[l];exact m)]
  rw[Pf Bd];obtain⟨q,z,p,i,s,t,v⟩:=Bgl T b n j (c+1) (f+b[c].fields.length) Bd Bd (by rw[Up,e]at h;omega);refine⟨q,Bd,p,i,s,?_,?_⟩
  ·rw[<- t];push_cast;rfl
  rw[Th,Bvt (by rw[e];omega),<- Th,e,<- v];congr 1;omega
def Bd9(n:Int)(r:List (List (Int×Int)))(f:Int):∀(k:Nat) (c:Int),Ec n (List.replicate k []++r) c f=Ec n r (c+(k:Int)) f
 | 0,c=>Fr
 | k+1,c=>by
  rw[List.replicate_succ,Bws,Ec,Pf Fr];simp only[Bwn];rw[show f+((0:Nat):Int)=f by omega,Bd9 n r f k (c+1)]
  congr 1;omega
def Bgj(T:TI)(b:List Rd.Cls)(t:7<=b.length)(f:∀i,i<7->(b.getD i ⟨0,[]⟩).fields=[])(n:Nat)(c:n<(Rf.fieldsTo T b (b.length-7)).length):∃q:Nat,7<=q/\q<b.length/\∃i:Nat,i<(b.getD q ⟨0,[]⟩).fields.length/\Ec (n:Int) (b.map Rd.Cls.fields) 0 0=((q:Int),(i:Int))/\Nh (b.map Rd.Cls.fields) (q:Int)=(b.getD q ⟨0,[]⟩).fields/\(Rf.fieldsTo T b (b.length-7)).getD n ⟨0,0,(0,0)⟩=⟨(q:Int),((Rf.all T b q).length:Int)-(((b.getD q ⟨0,[]⟩).fields.length:Nat):Int)+(i:Int),(b.getD q ⟨0,[]⟩).fields.getD i (0,0)⟩:=by
 rw[Ba5]at c ⊢;obtain⟨q,g,h,i,j,l,m⟩:=Bgl T b n (b.length-7) 7 0 Bd Bd (by simpa using c);have e:b.map Rd.Cls.fields=List.replicate 7 []++(b.drop 7).map Rd.Cls.fields:=by
  conv=>lhs;rw[<- Bxm 7 b,Bvx]
  congr 1
  apply Bz4
  ·simp;omega
  intro i v p;have s:i<7:=by simpa using p
  have:=f i s;rw[Th,Ws Bd]at this;rw[List.getElem_map,List.getElem_take,List.getElem_replicate];simpa using this
 refine⟨q,g,h,i,j,by rw[e,Bd9];exact l,?_,m⟩;unfold Nh;rw[Pf Bd,Th,Bv8,Th,Bvn];cases b[q]? <;> rfl
def Bbo(T:TI)(b:List Rd.Cls)(c:7<=b.length)(e:∀i,i<7->(b.getD i ⟨0,[]⟩).fields=[])(n:Nat)(f:n<(Rf.fieldsTo T b (b.length-7)).length):Lf (b.map Rd.Cls.fields) (n:Int)=(((Rf.fieldsTo T b (b.length-7)).getD n ⟨0,0,(0,0)⟩).owner,((Rf.fieldsTo T b (b.length-7)).getD n ⟨0,0,(0,0)⟩).t):=by
 obtain⟨q,_,_,i,l,g,h,j⟩:=Bgj T b c e n f;unfold Lf;rw[g];simp only;rw[Pf Bd,h,Pf Bd,Bvn,j]
def Dj (T:TI)(isN:Int->Prop)(t:Int × Int):Prop:=Tr.Arg T t.1 t.2/\(t.1=4->isN t.2)
structure J6(T:List Int)(lo:Nat)(hi:Int)(isN:Int->Prop)(x:Be):Prop where
 lo:x.locals.length=lo
 hi:(x.stack.length:Int)<=hi
 tl:∀t∈x.locals,Dj T isN t
 ts:∀t∈x.stack,Dj T isN t
def Ba9(T:TI)(b:Int->Prop):Dj T b (0,0):=⟨.inl ⟨rfl,rfl⟩,fun h=>absurd h Ck⟩
def Wy{c:Int->Prop}{a b:Int×Int}{q:TP}(f:Dj z c b)(h:∀t∈q,Dj z c t):∀t∈Er a b q,Dj z c t:=by
 intro t e;unfold Er at e;obtain⟨y,g,rfl⟩:=List.mem_map.1 e
 split
 ·exact f
 exact h y g
def Hu{α:Type}{l:List α}{d:α}(h:u<l.length):l.getD u d∈l:=by
 rw[Th,Ws h];exact Bvh h
def Yu{α:Type}{l:List α}{d t:α}(h:t∈l.set u d):t∈l\/t=d:=by
 rcases Bw6 h with h|h
 ·exact .inl h
 exact .inr h
def Bpq{T:TI}{c:Int}{g:Int->Prop}(v lv A:TP)(arg:Int->Int)(p op n:Int)(x y:Be)(f:J6 T u c g x) (I:∀t∈lv,Dj T g t)(J:op=2->0<=n/\n<(u:Int))(K:op=15->Dj T g (4,p))(L:op=16->0<=n/\n<(T.length:Int)) (h:Gt c (Mz T v lv A arg p op n x)=some y):J6 T u c g y:=by
 unfold Gt at h;cases b:Mz T v lv A arg p op n x with
 | none=>rw[b]at h;cases h
 | some z =>
  rw[b]at h;simp only[Bx1]at h;by_cases j:(z.stack.length:Int)<=c
  ·rw[Sp j]at h;obtain rfl:=Option.some.inj h
   suffices l:z.locals.length=u/\(∀t∈z.locals,Dj T g t)/\(∀t∈z.stack,Dj T g t) from ⟨l.1,j,l.2.1,l.2.2⟩
   have i:∀k,∀t∈x.stack.take k,Dj T g t:=fun k t e=>f.ts t (B0w e);unfold Mz at b;by_cases m:op=2
   ·rw[Sp m]at b
    split at b
    ·cases b
    obtain rfl:=Option.some.inj b;refine⟨f.lo,f.tl,fun t e=>?_⟩;rcases List.mem_append.1 e with e|e
    ·exact f.ts t e
    obtain rfl:=List.mem_singleton.1 e;have:=J m;exact f.tl _ (Hu (by have:=f.lo;omega))
   rw[Pf m]at b;by_cases B:op=3
   ·rw[Sp B]at b
    split at b
    ·cases b
    rename_i N;obtain rfl:=Option.some.inj b;refine⟨by simpa using f.lo,fun t e=>?_,fun t e=>i _ t e⟩;rcases Yu e with e|rfl
    ·exact f.tl t e
    exact f.ts _ (Hu Bd)
   rw[Pf B]at b;by_cases C:op=4
   ·rw[Sp C]at b
    split at b
    ·cases b
    obtain rfl:=Option.some.inj b;exact⟨f.lo,f.tl,fun t e=>i _ t e⟩
   rw[Pf C]at b;by_cases D:op=5
   ·rw[Sp D]at b
    split at b
    ·cases b
    obtain rfl:=Option.some.inj b;refine⟨f.lo,f.tl,fun t e=>?_⟩;rcases List.mem_append.1 e with e|e
    ·exact f.ts t e
    exact f.ts t (Bxe e)
   rw[Pf D]at b;by_cases F:op=6
   ·rw[Sp F]at b
    split at b
    ·cases b
    rename_i N;obtain rfl:=Option.some.inj b;refine⟨f.lo,f.tl,fun t e=>?_⟩;rcases List.mem_append.1 e with e|e
    ·exact i _ t e
    simp only[Bxy,Bx9,Bz2]at e;rcases e with rfl|rfl
    ·exact f.ts _ (Hu Bd)
    exact f.ts _ (Hu Bd)
   rw[Pf F]at b;by_cases q:op=15
   ·rw[Sp q]at b;obtain rfl:=Option.some.inj b;refine⟨by rw[Kb];exact f.lo,Wy (Ba9 T g) f.tl,fun t e=>?_⟩;rcases List.mem_append.1 e with e|e
    ·exact Wy (Ba9 T g) f.ts t e
    obtain rfl:=List.mem_singleton.1 e;exact K q
   rw[Pf q]at b;by_cases s:op=16
   ·rw[Sp s]at b;have G:Dj T g (3,n):=⟨.inr (.inr (.inr (.inl ⟨rfl,L s⟩))),fun h=>absurd h Fr⟩;unfold Yh at b
    split at b
    ·cases b
    split at b
    ·cases b
    split at b
    ·cases b
    split at b
    ·cases b
    obtain rfl:=Option.some.inj b;exact⟨by rw[Kb];exact f.lo,Wy G f.tl,Wy G (i _)⟩
   rw[Pf s]at b
   split at b
   ·cases b
   obtain rfl:=Option.some.inj b;refine⟨f.lo,f.tl,fun t e=>?_⟩;rcases List.mem_append.1 e with e|e
   ·exact i _ t e
   exact I t e
  rw[Pf j]at h;cases h
def Mk (mp:Nat->Option Be)(rl:Nat->Be->Option Be)(go:Nat->Bool)(p:Nat)(o:Option Be):Option Be :=
 ((mp p).or o).bind fun x=>(rl p x).bind fun z=>if go p=true then some z else none
def Ry (mp:Nat->Option Be)(rl:Nat->Be->Option Be)(go:Nat->Bool)(q:Nat):List Nat->Option Be->Option Be
 | [],o=>o
 | p::r,o=>if q<p then o else if p=q then (mp p).or o else Ry mp rl go q r (Mk mp rl go p o)
def Lm (ah:Nat->Option Be)(lk:Nat->Be->Int):List Nat->Int × Int
 | []=>(0,0)
 | p::r=>match ah p with
  | none=>Lm ah lk r
  | some x=>if lk p x≠0 then (lk p x,(p:Int)) else Lm ah lk r
def Ty (mp:Nat->Option Be)(rl:Nat->Be->Option Be)(go:Nat->Bool)(lk:Nat->Be->Int):List Nat->Option Be->Int × Int
 | [],_=>(0,0)
 | p::r,o=>match (mp p).or o with
  | none=>Ty mp rl go lk r none
  | some x=>if lk p x≠0 then (lk p x,(p:Int)) else Ty mp rl go lk r (Mk mp rl go p o)
def Ar(mp:Nat->Option Be)(b:Nat->Be->Option Be)(c:Nat->Bool)(q:Nat)(r:List Nat):∀(d:List Nat) (o:Option Be),(∀p∈d,p<q) ->
  Ry mp b c q (d++q::r) o=(mp q).or (d.foldl (fun o p=>Mk mp b c p o) o)
 | [],o,_=>by simp[Ry]
 | p::d,o,h=>by
  have f:=h p Fr;rw[Bws,Ry,Pf Bd,Pf Bd,Ar mp b c q r d _ (fun x e=>h x (by simp[e]))];rfl
def Ag(mp:Nat->Option Be)(b:Nat->Be->Option Be)(c:Nat->Bool)(f:Nat->Be->Int)(e:Option Be):∀(r d:List Nat),(d++r).Pairwise (· < ·) ->
  Lm (fun q=>Ry mp b c q (d++r) e) f r=Ty mp b c f r (d.foldl (fun o p=>Mk mp b c p o) e)
 | [],d,_=>by simp[Lm,Ty]
 | p::r,d,h=>by
  have i:∀q∈d,q<p:=fun q j=>(List.pairwise_append.1 h).2.2 q j p Fr;have g:=Ag mp b c f e r (d++[p]) (by simpa using h);rw[Bwe,List.singleton_append,List.foldl_append]at g;simp only[List.foldl_cons,List.foldl_nil]at g;rw[Lm,Ty,Ar mp b c p r d e i,g];generalize List.foldl (fun o p=>Mk mp b c p o) e d=o;cases l:(mp p).or o with
  | none =>
   have:Mk mp b c p o=none:=by unfold Mk;rw[l];rfl
   simp only[this]
  | some x=>rfl
def Nq (T:TI)(mp:Int->Option Be)(H:Int)(R:Option Be)(op n nxt len:Int):Int :=
 if H≠0 then H else if R.isSome=false then 10
 else if Dx op=true/\(mp n).isSome=false then 8
 else if Dx op=true/\Dk T (Ef R) (Ef (mp n))=false then 9
 else if Dz op=false then 0 else if len<=nxt then 11
 else if (mp nxt).isSome=true/\Dk T (Ef R) (Ef (mp nxt))=false then 9 else 0
def Dm{s j:Nat}{i:TX}(h:j≠u):(w.setCell (.a u s) i).heap[j]?=w.heap[j]?:=Bvg _ _ _ _ (by simpa using h)
def Rp{x y:TX}(h:w.heap[u]?=some (.cells #[x,y] ty (0,0)))(s t:TX):((w.setCell (.a u 0) s).setCell (.a u 1) t).heap[u]?=some (.cells #[s,t] ty (0,0)):=by
 have b:(w.setCell (.a u 0) s).heap[u]?=some (.cells #[s,y] ty (0,0)):=by rw[Bq h];rfl
 rw[Bq b];rfl
def On{s:Nat}{i t:TX}(h:s≠u):((w.setCell (.a u 0) i).setCell (.a u 1) t).heap[s]?=w.heap[s]?:=(Dm h).trans (Dm h)
def FrV.is.set2{v:FrV}{x:Be}{l e:TA}{s j K f:Nat}(h:v.is x w)(c:w.heap[u]?=some (.cells #[.s l s j,.s e K f] ty (0,0)))(b t:TX):v.is x ((w.setCell (.a u 0) b).setCell (.a u 1) t):=⟨h.lo.set_frame c b t,h.st.set_frame c b t,h.hl,h.hs⟩
def Vi (T:TI)(m0:Option Be)(x0:Be)(ah:Nat->Option Be)(lk:Nat->Be->Int)(ps:List Nat):Int × Int :=
 if m0.isSome=true/\Dk T x0 (Ef m0)=false then (9,0) else Lm ah lk ps
variable {aa:Option Addr}{an ac:Nat}
def Np (w:TW)(b:Nat)(v:TX)(l:List (Value × List (Int × Int))):Prop:=w.ownsRow b 105 1 v l.length (l.map Prod.fst)/\∀p∈l,TyR w p.1 p.2
def Np.below{b:TW}{i:TX}(h:Np w u i l)(c:Bl w b):Np b u i l :=
 ⟨Cx h.1 (Kp.of_below (e:=none) c) Ck,fun p f=>(h.2 p f).below c⟩
theorem Np.at{w:World}{a:Option Addr}{n j:Nat}(h:Np w u (.slice a n j) l)(i:k<l.length):∃g,a=some ⟨g,0,none⟩/\g<w.heap.size/\∃e f,w.cell? ⟨g,k,none⟩=some (.slice e l[k].2.length f)/\TyR w (.slice e l[k].2.length f) l[k].2:=by
 obtain⟨g,q,s,_,t⟩:=Cf h.1 Bd;have m:=h.2 l[k] (Bvh i);obtain⟨e,f,p⟩:=m.shape;rw[p]at m;refine⟨g,q,s,e,f,?_,m⟩;rw[t k (by simpa using i),Bv8,Ws i];exact congrArg some p
def Bea(l:List (Value×List (Int×Int)))(z:Nat)(ya:TA)(yc:Nat)(n:Int)(w:TW)(G:l.length<=1000)(I:0<=n/\n<=100000)(A:∀p∈l,p.2.length<=1000)(hF:Np w z (.s ya l.length yc) l):Calls prog 300 #[.agg #[.s aa an ac,.s ya l.length yc],.i n] w fun e B => e=.r (.tuple #[.i (Ec n (l.map Prod.snd) 0 0).1,.i (Ec n (l.map Prod.snd) 0 0).2])/\Bl w B:=by
 generalize b:Ec n (l.map Prod.snd) 0 0=r;have c:Hid (Ec n ((l.map Prod.snd).drop 0) ((0:Nat):Int) ((0:Nat):Int)=r):=b;clear b;have h:Bl w (w.alloc (O2 aa an ac ya l.length yc)):=QN _;go_in;go_wp2
 go_loopw [6,12] (fun f v wr=>∃(k s:Nat),k<=l.length/\s<=1000*k/\f=.i (s:Int)/\v=.i (k:Int)/\Hid (Ec n ((l.map Prod.snd).drop k) (k:Int) (s:Int)=r)/\wr=w.alloc (O2 aa an ac ya l.length yc))
  (fun _ v _=>l.length-(intOf v).toNat)
 case atStart=>exact⟨0,0,Bd,Bd,rfl,rfl,c,rfl⟩
 case round=>
  clear c;obtain⟨k,s,J,K,rfl,rfl,c,rfl⟩:=hrel;by_cases j:k<l.length
  ·obtain⟨g,rfl,L,N,O,Q,-⟩:=(hF.below h).at j;have t:(l.map Prod.snd).drop k=l[k].2::(l.map Prod.snd).drop (k+1):=by rw[Wr (by simpa using j)];simp
   have b:=Ba c;have V:=A l[k] (Bvh j);rw[t,Ec]at b;generalize l[k].2=own at *;have C:(k:Int)<(l.length:Int):=Bd;clear c t;by_cases D:(s:Int)<=n
   ·by_cases F:n-(s:Int)<(own.length:Int);·rw[Sp ⟨D,F⟩]at b;have m:=Bc b;clear b;go_wp2;go_ret2;exact⟨by rw[<- Ba m];rfl,h⟩
    rw[Pf Bd]at b;have q:Hid (Ec n ((l.map Prod.snd).drop (k+1)) ((k+1:Nat):Int) ((s+own.length:Nat):Int)=r):=by unfold Hid;rw[<- b];push_cast;rfl
    clear b;go_wp2;go_roundw
    case rel=>exact⟨k+1,s+own.length,Bd,Bd,Lt,Lt,q,trivial⟩
    case measure=>simp[intOf];omega
   rw[Pf Bd]at b;have q:Hid (Ec n ((l.map Prod.snd).drop (k+1)) ((k+1:Nat):Int) ((s+own.length:Nat):Int)=r):=by unfold Hid;rw[<- b];push_cast;rfl
   clear b;go_wp2;go_roundw
   case rel=>exact⟨k+1,s+own.length,Bd,Bd,Lt,Lt,q,trivial⟩
   case measure=>simp[intOf];omega
  have b:=Ba c;rw[Bvi Fm,Ec]at b;have m:=Bc b;have C:¬(k:Int)<(l.length:Int):=Bd;clear b c;go_wp2;go_ret2;exact⟨by rw[<- Ba m];rfl,h⟩
def Bjc(l:List (Value×List (Int×Int)))(t:Nat)(ya:TA)(yc:Nat)(c:Int)(w:TW)(z:l.length<=1000)(hF:Np w t (.s ya l.length yc) l):Calls prog 301 #[.agg #[.s aa an ac,.s ya l.length yc],.i c] w fun e j => ∃b f,e=.r (.s b (Nh (l.map Prod.snd) c).length f)/\TyR j (.s b (Nh (l.map Prod.snd) c).length f) (Nh (l.map Prod.snd) c)/\Bl w j:=by
 have h:Bl w (w.alloc (O2 aa an ac ya l.length yc)):=QN _;unfold Nh;by_cases m:c<0;·rw[Sp m];go_in;go_wp2;go_ret;exact⟨none,0,rfl,TyR.nil _,h⟩
 rw[Pf m];by_cases A:(l.length:Int)<=c
 ·have e:(l.map Prod.snd).getD c.toNat []=[]:=by rw[Th,Bwz Fm];rfl
  rw[e];go_in;go_wp2;go_ret;exact⟨none,0,rfl,TyR.nil _,h⟩
 obtain⟨q,rfl⟩:=Bvk (show 0<=c by omega);have p:q<l.length:=Bd;obtain⟨g,rfl,B,b,f,C,v⟩:=(hF.below h).at p;have e:(l.map Prod.snd).getD ((q:Nat):Int).toNat []=l[q].2:=by simp[Th,p]
 rw[e];generalize l[q].2=own at *;have D:(q:Int)<(l.length:Int):=Bd;clear e;go_in;go_wp2;go_ret;exact⟨b,f,rfl,v,h⟩
def Bew(l:List (Value×List (Int×Int)))(L:Nat)(ya:TA)(yc:Nat)(n:Int)(w:TW)(V:l.length<=1000)(hn:0<=n/\n<=100000)(hf:∀p∈l,p.2.length<=1000)(hF:Np w L (.s ya l.length yc) l):Calls prog 292 #[.agg #[.s aa an ac,.s ya l.length yc],.i n] w fun e v => e=.r (.tuple #[.i (Lf (l.map Prod.snd) n).1,.agg #[.i (Lf (l.map Prod.snd) n).2.1,.i (Lf (l.map Prod.snd) n).2.2]])/\Bl w v:=by
 have N:=fun v (h:Bl w v)=>Bea (aa:=aa) (an:=an) (ac:=ac) l L ya yc n v V hn hf (hF.below h);have B:=fun c v (h:Bl w v)=>Bjc (aa:=aa) (an:=an) (ac:=ac) l L ya yc c v V (hF.below h);unfold Lf;generalize Ec n (l.map Prod.snd) 0 0=o at *;obtain⟨F,C⟩:=o;have B:=B F;simp only at N B ⊢;generalize Nh (l.map Prod.snd) F=own at *;have HO:=Bc N;have HW:=Bc B;clear N B hF;have Y:=Bx w (O2 aa an ac ya l.length yc) (O7 0 0);have Z:=Cb w (O2 aa an ac ya l.length yc) (O7 0 0);have R0:=Bv w (O2 aa an ac ya l.length yc) (O7 0 0);generalize f:(if C<0 then ((-1:Int),((0:Int),(0:Int))) else if (own.length:Int)<=C then (-1,(0,0)) else (F,own.getD C.toNat (0,0)))=A
 go_in;go_wp2_with fail;refine Qb (Ba HO _ Y) Y ?_;intro w1 O G;have I:=stay O Z;have z:=stay O R0;obtain⟨J,K⟩:=cl2 I;simp at J K;clear O Z R0;go_wp2_with fail;refine(Ba HW _ G).mono ?_;rintro e w2 ⟨xa,xc,rfl,ht,b⟩;by_cases Q:C<0;·rw[Sp Q]at f;subst f;have D:=QB G b;have j:=stay b z;obtain⟨m,t⟩:=cl2 j;obtain⟨q0,q1⟩:=fr2 j;simp at m t;clear b I z J K;go_wp2;refine tb (.tuple #[.i (-1),.agg #[.i 0,.i 0]]) (by simp[results,B0f,go_sem,m,t]) ?_;exact⟨rfl,by repeat (first|refine Bvq ?_ Fr _|exact D)⟩
 rw[Pf Q]at f;obtain⟨q,rfl⟩:=Bvk (show 0<=C by omega);by_cases h2:(own.length:Int)<=(q:Int);·rw[Sp h2]at f;subst f;have D:=QB G b;have j:=stay b z;obtain⟨m,t⟩:=cl2 j;obtain⟨q0,q1⟩:=fr2 j;simp at m t;clear b I z J K;go_wp2;refine tb (.tuple #[.i (-1),.agg #[.i 0,.i 0]]) (by simp[results,B0f,go_sem,m,t]) ?_;exact⟨rfl,by repeat (first|refine Bvq ?_ Fr _|exact D)⟩
 rw[Pf h2]at f;have hq:q<own.length:=Bd;have e:own.getD ((q:Nat):Int).toNat (0,0)=own[q]:=by simp[Th,hq]
 rw[e]at f;subst f;have kb:(q:Int)<(own.length:Int):=Bd;clear e Q;obtain⟨g,o,rfl,hg,a0⟩:=ht.at Bd;obtain⟨y0,y1⟩:=a0 q hq;have D:=QB G b;have j:=stay b z;obtain⟨m,t⟩:=cl2 j;obtain⟨q0,q1⟩:=fr2 j;simp at m t;clear b I z J K a0;go_wp2
 go_region
 all_goals
  go_wp2;refine tb (.tuple #[.i F,.agg #[.i own[q].1,.i own[q].2]]) (by simp[results,B0f,go_sem,m,t]) ?_;exact⟨rfl,by repeat (first|refine By2 ?_|refine Bvq ?_ Fr _|exact D)⟩
def Oh(T:TI)(b:List (List (Int×Int)))(c:Int)(e:∀p∈b,p.length<=1000):∀d:Nat,(Fb T b c d).length<=1000*d
 | 0=>by simp[Fb]
 | d+1=>by
  rw[Fb,Up];have f:=Oh T b c e d;have:(b.getD d []).length<=1000:=by
   rw[Th];rcases h:b[d]? with _|x
   ·simp
   simp;exact e x (Bwv h)
  split
  ·omega
  rw[Bwn];omega
def Wc(T:TI)(t C:Nat)(l:List (Value×List (Int×Int)))(bb:Nat)(ya:TA)(yc:Nat)(c:Int)(w:TW)(hl:l.length<=14)(a3:T.length<=1000)(Y:∀p∈l,p.2.length<=1000)(hT:Dl w t T)(hF:Np w bb (.s ya l.length yc) l):Calls prog 279 #[.agg #[.s (.p t) T.length C,.s ya l.length yc],.i c] w fun e Z => ∃F G,e=.r (.s F (Dq T (l.map Prod.snd) c).length G)/\Dp Z w.heap.size (.s F (Dq T (l.map Prod.snd) c).length G) (Dq T (l.map Prod.snd) c)/\Bl w Z:=by
 have a4:∀d,(Fb T (l.map Prod.snd) c d).length<=1000*d:=Oh T (l.map Prod.snd) c (fun p hp=>by obtain⟨q,hq,rfl⟩:=List.mem_map.1 hp;exact Y q hq);have HN:∀k,Fb T (l.map Prod.snd) c (k+1)=Fb T (l.map Prod.snd) c k++(if Tr.within T c (k:Int)=true then (l.map Prod.snd).getD k [] else []):=fun k=>rfl
 have H0:Fb T (l.map Prod.snd) c 0=[]:=rfl;have HE:Hid (Dq T (l.map Prod.snd) c=Fb T (l.map Prod.snd) c l.length):=by unfold Hid Dq;rw[Bvr]
 rw[Ba HE];generalize Fb T (l.map Prod.snd) c=m at *;clear HE;have a0:Bl w (w.alloc (O2 (.p t) T.length C ya l.length yc)):=QN _;have T0:=Bf w (O2 (.p t) T.length C ya l.length yc);go_in;go_wp2
 go_loopw [5,11] (fun u v wr=>∃k:Nat,k<=l.length/\v=.i (k:Int)/\wr.ownsRow w.heap.size 31 2 u (m k).length (Bu (m k))/\Bl w wr /\
   wr.heap[w.heap.size]?=some (O2 (.p t) T.length C ya l.length yc))
  (fun _ v _=>l.length-(intOf v).toNat)
 case atStart=>exact⟨0,Bd,rfl,by rw[H0];exact Bvl _ _ _ _,a0,T0⟩
 case round=>
  clear a0 T0;obtain⟨k,hk,rfl,D,z,K⟩:=hrel;have a1:=z.size;obtain⟨ua,uc,rfl⟩:=Bg D;by_cases L:k<l.length
  ·have a5:=hF.below z;obtain⟨g,rfl,b0,F,G,y0,ht⟩:=a5.at L;have b1:=Y l[k] (Bvh L);have h:=HN k;have e:(l.map Prod.snd).getD k []=l[k].2:=by simp[Th,L]
   rw[e]at h;generalize l[k].2=own at *;have b2:=a4 k;have kb:(k:Int)<(l.length:Int):=Bd;obtain⟨t0,t1⟩:=cl2 K;simp at t0 t1;have A:=N1 (ya:=some ⟨g,0,none⟩) (yn:=l.length) (yc:=yc) T t C c (k:Int) wr a3 (hT.below z);cases I:Tr.within T c (k:Int) with
   | true =>
    rw[I]at A h;rw[Sp rfl]at h;have N:=Bc A;have O:=Bc h;clear A h I e;go_wp2_with fail;refine Qm (Ba N) ?_;intro w1 f;have J:=z.trans (f.mono a1);have b3:=J.size;have Q:=stay f K;have B:=Cx D (Kp.of_below (e:=none) f) Ck;have a6:=ht.below f;clear f D ht;go_wp2_with (at_builtin;refine Pv rfl _ _ rfl w.heap.size _ (m k) own F own.length G rfl B rfl a6 Bd Bd ?_)
    intro v' w2 a2 V;have a7:=J.grown V Bd (fun j hj=>(B.lt j hj).1);have a8:=Kp.of_grown (b:=0) V B _ _ _ (Bv5 _) Q Ck;have a9:w2.ownsRow w.heap.size 31 2 v' (m (k+1)).length (Bu (m (k+1))):=by rw[Ba O,Up];exact a2
    clear V B a2;go_wp2;go_roundw
    case rel=>exact⟨k+1,Bd,Lt,a9,a7,a8⟩
    case measure=>simp[intOf];omega
   | false =>
    rw[I]at A h;rw[Pf Fr,Bxl]at h;have N:=Bc A;have O:=Bc h;clear A h I e;go_wp2_with fail;refine Qm (Ba N) ?_;intro w1 f;have J:=z.trans (f.mono a1);have Q:=stay f K;have B:w1.ownsRow w.heap.size 31 2 (.s ua (m k).length uc) (m (k+1)).length (Bu (m (k+1))):=by rw[Ba O];exact Cx D (Kp.of_below (e:=none) f) Ck
    clear f;go_wp2;go_roundw
    case rel=>exact⟨k+1,Bd,Lt,B,J,Q⟩
    case measure=>simp[intOf];omega
  obtain rfl:k=l.length:=Bd;have kb:¬(l.length:Int)<(l.length:Int):=Bd;go_wp2;go_ret;exact⟨ua,uc,rfl,D,z⟩
structure BnC where
 tg:Nat
 tc:Nat
 ya:Option Addr
 yn:Nat
 yc:Nat
 hi:Int
 T:List Int
abbrev FrV.lv(v:FrV):Value:=.slice v.la v.ln v.lc
abbrev FrV.sv(v:FrV):Value:=.slice v.sa v.sn v.sc
def FrV.free(v:FrV)(k j:Nat):Prop:=j≠k/\v.lv.ownBlock≠some j/\v.sv.ownBlock≠some j
structure Eo(w:World)(B k:Nat)(c:BnC)(v:FrV)(b:Ea):Prop where
 blk:w.heap[k]?=some (O23 (some ⟨c.tg,0,none⟩) c.T.length c.tc c.ya c.yn c.yc v.la v.ln v.lc v.sa v.sn v.sc c.hi b.br)
 lo:Dp w B v.lv b.lo
 st:Dp w B v.sv b.st
 nk:v.lv.ownBlock≠some k/\v.sv.ownBlock≠some k
 ns:∀j,v.lv.ownBlock=some j->v.sv.ownBlock≠some j
 hB:B<=k
 tr:Dl w c.tg c.T
 tB:c.tg<B
 tl:c.T.length<=1000
 ll:b.lo.length<=1000
 sl:b.st.length<=5000
structure Bn(k:Nat)(w:World)(v:FrV)(w':World)(v':FrV):Prop where
 bel:Below 0 w w'
 blk:∀j,j<w.heap.size->v.free k j->w'.heap[j]?=w.heap[j]?/\v'.free k j
def Bn.refl(k:Nat)(w:TW)(v:FrV):Bn k w v w v:=⟨Vm _ _,fun _ _ h=>⟨rfl,h⟩⟩
def Bn.trans{a b c:TW}{u v x:FrV}(h:Bn k a u b v)(g:Bn k b v c x):Bn k a u c x :=
 ⟨h.bel.trans g.bel,fun j i l=>by
  obtain⟨e,f⟩:=h.blk j i l;obtain⟨m,p⟩:=g.blk j (Bvm i h.bel.size) f;exact⟨m.trans e,p⟩⟩
def Bn.of_below{a b:TW}(v:FrV)(h:Bl a b):Bn k a v b v:=⟨⟨h.os,h.tape,h.output,h.size,fun _ c=>absurd c (Nat.not_lt_zero _)⟩,fun j c e=>⟨h.block j c,e⟩⟩
def Bn.stay{s:Nat}{b:TW}{v e:FrV}{o:Obj}(h:Bn k w v b e)(f:v.free k s)(c:w.heap[s]?=some o):b.heap[s]?=some o:=(h.blk s (Pk c) f).1.trans c
def Bn.free{s:Nat}{b:TW}{v c:FrV}(h:Bn k w v b c)(e:v.free k s)(f:s<w.heap.size):c.free k s:=(h.blk s f e).2
def Ko{s n:Nat}{g:TypeId}{i:TX}{e:TV}{b:TW}(h:w.ownsRow u g s i n e)(m:∀j,i.ownBlock=some j->b.heap[j]?=w.heap[j]?):b.ownsRow u g s i n e:=by
 obtain⟨l,p|⟨f,q,z,a,c,d,r⟩⟩:=h
 ·exact⟨l,.inl p⟩
 exact⟨l,.inr ⟨f,q,z,a,c,by rw[m f (by rw[a];rfl)];exact d,r⟩⟩
def Eo.k_lt{c:BnC}{v:FrV}{b:Ea}(h:Eo w u k c v b):k<w.heap.size:=Pk h.blk
def Eo.low{j:Nat}{c:BnC}{v:FrV}{b:Ea}(h:Eo w u k c v b)(f:j<u):v.free k j :=
 ⟨by have:=h.hB;omega,fun e=>by have:=(h.lo.lt j e).1;omega,fun e=>by have:=(h.st.lt j e).1;omega⟩
def Eo.new{j:Nat}{c:BnC}{v:FrV}{b:Ea}(h:Eo w u k c v b)(f:w.heap.size<=j):v.free k j :=
 ⟨by have:=h.k_lt;omega,fun e=>by have:=(h.lo.lt j e).2;omega,fun e=>by have:=(h.st.lt j e).2;omega⟩
def Eo.B_le{c:BnC}{v:FrV}{b:Ea}(h:Eo w u k c v b):u<=w.heap.size:=Bwr (Bzq h.hB h.k_lt)
def Bn.low{b:TW}{c:BnC}{v i:FrV}{e:Ea}(h:Bn k w v b i)(f:Eo w u k c v e):Below u w b :=
 ⟨h.bel.os,h.bel.tape,h.bel.output,h.bel.size,fun j g=>(h.blk j (Bvm g f.B_le) (f.low g)).1⟩
def Eo.below{b:TW}{c:BnC}{v:FrV}{e:Ea}(h:Eo w u k c v e)(f:Bl w b):Eo b u k c v e :=
 ⟨stay f h.blk,Ko h.lo (fun j g=>f.block j (h.lo.lt j g).2),Ko h.st (fun j g=>f.block j (h.st.lt j g).2),h.nk,h.ns,h.hB,h.tr.below f,h.tB,h.tl,h.ll,h.sl⟩
def Eo.alloc{c:BnC}{v:FrV}{b:Ea}(h:Eo w u k c v b)(o:Obj):Eo (w.alloc o) u k c v b:=h.below (QN o)
def Eo.drew{c:BnC}{v:FrV}{b:Ea}(h:Eo w u k c v b):Eo w.drew u k c v b:=h.below (Vm _ _).drew
def Bn.alloc{b:TW}{v c:FrV}(h:Bn k w v b c)(o:Obj):Bn k w v (b.alloc o) c:=h.trans (Bn.of_below c (QN o))
def Bn.drew{b:TW}{v c:FrV}(h:Bn k w v b c):Bn k w v b.drew c:=h.trans (Bn.of_below c (Vm _ _).drew)
def Ow{b:TW}{s:Nat}(h:Dl w u z)(e:u<s)(c:Below s w b):Dl b u z :=
 ⟨Bvm h.1 c.size,fun i f=>by rw[c.cell (p:=.a u i) e];exact h.2 i f⟩
def Eo.setS{c:BnC}{v:FrV}{b:Ea}(h:Eo w u k c v b){sa:TA}{sn sc:Nat}{q:TP}(i:Dp w u (.s sa sn sc) q)(l:q.length<=5000) (g:(Value.slice sa sn sc).ownBlock≠some k)(m:∀j,v.lv.ownBlock=some j->(Value.slice sa sn sc).ownBlock≠some j):Eo (w.setCell (.a k 3) (.s sa sn sc)) u k c ⟨v.la,v.ln,v.lc,sa,sn,sc⟩ ⟨b.lo,q,b.br⟩ :=
 ⟨by rw[Bq h.blk];rfl,Ko h.lo (fun j f=>Dm (fun e=>h.nk.1 (e▸f))),Ko i (fun j f=>Dm (fun e=>g (e▸f))),⟨h.nk.1,g⟩,m,h.hB,
  Ow h.tr h.tB ((Vm u w).setCell (by simpa using h.hB) _),h.tB,h.tl,h.ll,l⟩
def Eo.brk{c:BnC}{v:FrV}{b:Ea}(h:Eo w u k c v b):Eo (w.setCell (.a k 5) (.bool true)) u k c v ⟨b.lo,b.st,true⟩ :=
 ⟨by rw[Bq h.blk];rfl,Ko h.lo (fun j f=>Dm (fun e=>h.nk.1 (e▸f))),Ko h.st (fun j f=>Dm (fun e=>h.nk.2 (e▸f))),h.nk,h.ns,h.hB,
  Ow h.tr h.tB ((Vm u w).setCell (by simpa using h.hB) _),h.tB,h.tl,h.ll,h.sl⟩
def Bn.setK{i:Nat}{b:TW}{v e v2:FrV}(h:Bn k w v b e)(u:TX)(f:v2.lv.ownBlock=e.lv.ownBlock)(g:v2.sv.ownBlock=e.sv.ownBlock):Bn k w v (b.setCell (.a k i) u) v2 :=
 h.trans ⟨(Vm 0 b).setCell Fr u,fun j _ c=>⟨Dm c.1,c.1,by rw[f];exact c.2.1,by rw[g];exact c.2.2⟩⟩
def Bn.brk{b:TW}{v c:FrV}(h:Bn k w v b c):Bn k w v (b.setCell (.a k 5) (.bool true)) c:=h.setK _ rfl rfl
def Bpj{n j:Nat}{a:TA}{q:TP}(h:Dp w u (.s a n j) q){K:Nat}(z:K<=q.length):Dp w u (.s a K j) (q.take K):=by
 have c:(q.take K).length=K:=Fm;obtain⟨A,⟨b,C⟩|⟨g,D,e,b,f,i,F,p,t,v⟩⟩:=h
 ·simp only[Value.slice.injEq]at b;obtain⟨rfl,rfl,rfl⟩:=b;have:K=0:=Bd;subst this;exact⟨by simp[Bu],.inl ⟨rfl,Fr⟩⟩
 simp only[Value.slice.injEq]at b;obtain⟨rfl,rfl,rfl⟩:=b;refine⟨by rw[Kc],.inr ⟨g,j,e,by rw[c],f,i,Bd,p,t,?_⟩⟩;rw[Bak,c,<- v,Bxu]
 congr 1;omega
def Eo.setF{j K:Nat}{c:BnC}{v:FrV}{b:Ea}(h:Eo w u k c v b)(g:v.free k j)(m:u<=j)(f:TX):Eo (w.setCell (.a j K) f) u k c v b :=
 ⟨(Dm (Bxc g.1)).trans h.blk,Ko h.lo (fun x l=>Dm (fun e=>g.2.1 (e▸l))),Ko h.st (fun x l=>Dm (fun e=>g.2.2 (e▸l))),h.nk,h.ns,h.hB,
  Ow h.tr h.tB ((Vm u w).setCell (by simpa using m) _),h.tB,h.tl,h.ll,h.sl⟩
def Bn.setF{s j:Nat}{b:TW}{v c:FrV}(h:Bn k w v b c)(m:w.heap.size<=s)(u:TX):Bn k w v (b.setCell (.a s j) u) c :=
 ⟨h.bel.setCell Fr u,fun x g l=>by
  obtain⟨e,f⟩:=h.blk x g l;exact⟨(Dm Bd).trans e,f⟩⟩
def Kn{P:Program}{B:Array Oper}{o:Oper}{a:Act}{K:Act->TW->Prop}{Q:Exit->Act->TW->Prop}{E:Prop} (C:o.guard=none)(s x:Operand)(t:TypeId)(D:o.op=Op.call { callee:=Callee.builtin Builtin.append,args:=#[s,x],argTypes:=#[t,t] }) (l:Nat)(e:TypeId)(i:TypeInfo)(z:TX)(b p:Nat)(F:P.underlying t=some (.s e))(G:P.info? e=some i)(I:i.zero=some z)(J:i.size=b)(L:i.bytes=p)(N:z.cells.size=b)(O:0<b) (v:TX)(n:Nat)(q:TV)(V:a.eval s=v)(Y:w.ownsRow l e b v n q) (A:Addr)(m c:Nat)(g:TV)(Z:a.eval x=.s (some A) m c)(hn:g.length=m*b)(hc:∀j u,g[j]?=some u->w.cell? (A.add j)=some u)(a0:∀u∈g,u.oneCell'=true) (b1:n+m<=maxLen)(b2:(n+m)*p<=140737488355328)(b3:l<=w.heap.size) (hK:∀f h,h.ownsRow l e b f (n+m) (q++g)->w.grownBy h v.ownBlock->(f.ownBlock=v.ownBlock\/f.ownBlock=some w.heap.size)->K (a.put o.dst f) h):if Region.wanted o (yielded B a.tmps)=true then Oper.wp P o a w K Q else E:=by
 have hw:Region.wanted o (yielded B a.tmps)=true:=by simp[Region.wanted,C]
 rw[Sp hw];obtain⟨f,h,a1,r1,r2,_,r3⟩:=run_append_own_at (P:=P) w l t o.type e i z b p F G I J L N O v n q Y A m c g hn hc a0 b1 b2 b3;unfold Oper.wp;simp[execOp,D,resolve,invoke,builtin,V,Z,a1,Result.andThen];exact hK f h r1 r2 r3
def Eo.grown{b:TW}{c:BnC}{v:FrV}{f:Ea}(h:Eo w u k c v f){l:TA}{j K:Nat}{st:TP}(p:w.grownBy b v.sv.ownBlock)(A:Dp b u (.s l j K) st)(C:st.length<=5000) (t:(Value.slice l j K).ownBlock=v.sv.ownBlock\/(Value.slice l j K).ownBlock=some w.heap.size):Eo (b.setCell (.a k 3) (.s l j K)) u k c ⟨v.la,v.ln,v.lc,l,j,K⟩ ⟨f.lo,st,f.br⟩/\Bn k w v (b.setCell (.a k 3) (.s l j K)) ⟨v.la,v.ln,v.lc,l,j,K⟩:=by
 have D:b.heap[k]?=_:=(p.block k h.k_lt (fun e=>h.nk.2 e.symm)).trans h.blk;have F:∀i,v.lv.ownBlock=some i->b.heap[i]?=w.heap[i]?:=fun i m=>p.block i (h.lo.lt i m).2 (fun e=>h.ns i m e.symm);have z:(Value.slice l j K).ownBlock≠some k:=by
  rcases t with e|e
  ·rw[e];exact h.nk.2
  rw[e];intro g;have:=h.k_lt;simp at g;omega
 have G:∀i,v.lv.ownBlock=some i->(Value.slice l j K).ownBlock≠some i:=by
  intro i m;rcases t with e|e
  ·rw[e];exact h.ns i m
  rw[e];intro g;have:=(h.lo.lt i m).2;simp at g;omega
 have I:Below u w b:=⟨p.os,p.tape,p.output,p.size,fun i m=>p.block i (Bvm m h.B_le) (fun e=>by have:=(h.st.lt i e.symm).1;omega)⟩;have J:Eo b u k c v ⟨f.lo,f.st,f.br⟩->True:=fun _=>trivial;clear J;refine⟨⟨by rw[Bq D];rfl,Ko (Ko h.lo F) (fun i m=>Dm (fun e=>h.nk.1 (e▸m))),Ko A (fun i m=>Dm (fun e=>z (e▸m))),⟨h.nk.1,z⟩,G,h.hB,
  Ow (Ow h.tr h.tB I) h.tB ((Vm u b).setCell (by simpa using h.hB) _),h.tB,h.tl,h.ll,C⟩,?_⟩
 refine⟨(⟨p.os,p.tape,p.output,p.size,fun i m=>absurd m (Nat.not_lt_zero _)⟩:Below 0 w b).setCell Fr _,fun i m q=>⟨?_,q.1,q.2.1,?_⟩⟩
 ·rw[Dm q.1];exact p.block i m (fun e=>q.2.2 e.symm)
 rcases t with e|e
 ·exact fun g=>q.2.2 (e.symm.trans g)
 intro g;rw[e]at g;simp at g;omega
end Go.Proofs.YtpcgnjolfahacaaGreat
