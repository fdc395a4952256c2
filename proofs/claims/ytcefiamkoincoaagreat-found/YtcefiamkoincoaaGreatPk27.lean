/- a part of the proof in YtcefiamkoincoaaGreatFoundProof -/
import Derived.Test.YtcefiamkoincoaaGreatPk26
set_option maxRecDepth 100000
set_option maxHeartbeats 40000000
set_option linter.unusedVariables false
set_option linter.unusedSimpArgs false
namespace Go.Proofs.YtcefiamkoincoaaGreat
open Go.RowKit
theorem Jp {FM:Rd.Mth→Option (List Rd.Mp)}:∀ (ms r:List Rd.Mth),Ls.filled FM ms=some r→r.map Rd.Mth.bare=ms.map Rd.Mth.bare
 | [],r,h=>by cases h;rfl
 | m :: ms,r,h=>by
  unfold Ls.filled at h;cases hf:FM m with
  | none=>rw [hf] at h;cases h
  | some mp =>
   rw [hf] at h;simp only at h;cases hr:Ls.filled FM ms with
   | none=>rw [hr] at h;cases h
   | some r' =>
    rw [hr] at h;cases h;simp only [List.map_cons,Jp ms r' hr];rfl
structure Alike (s p:List UInt8) (r:List Rd.Mth):Prop where
 s0:(Rf.formed s).1=0
 rd:Rd.read p=(⟨(Rd.read s).1.classes,r⟩,0)
 p0:(Rf.formed p).1=0
 eq:r.map Rd.Mth.bare=(Rd.read s).1.methods.map Rd.Mth.bare
theorem Gs {s:List UInt8} (h:(Rf.formed s).1=0) {r:List Rd.Mth} (hr:Ls.filled (Ls.mapsFor (Rd.read s).1.classes (Rd.read s).1.methods) (Rd.read s).1.methods=some r):Alike s (Wr.fil ⟨(Rd.read s).1.classes,r⟩) r:=by
 have e:=Jp _ _ hr;obtain ⟨k,_,_⟩:=Bj _ h;have hcs:=Fo _ (Di h);obtain ⟨h1,h2⟩:=Ph h e (fun m hm=>by
  obtain ⟨m0,h0,mp,hmp,rfl⟩:=(Dw _ _ hr).2 m hm;exact Tu k h0 (hcs m0 h0) hmp)
 exact ⟨h,h1,h2,e⟩
theorem Ob:∀ (l:List Ls.Sp) (k i:Nat) (p:Ls.Sp),l[i]?=some p→p.wa=true→Ck.mapAt ((k+i:Nat):Int) (Ls.mapsOf k l)=some p.fr
 | [],_,_,_,h,_=>by simp at h
 | x :: r,k,0,p,h,hw=>by
  simp only [List.getElem?_cons_zero,Option.some.injEq] at h;subst h;unfold Ls.mapsOf;rw [if_pos hw,Ck.mapAt]
  simp
 | x :: r,k,i+1,p,h,hw=>by
  have ih:=Ob r (k+1) i p (by simpa using h) hw;rw [show k+1+i=k+(i+1) by omega] at ih;unfold Ls.mapsOf
  split
  ·rw [Ck.mapAt,if_neg (by simp only;omega)];exact ih
  ·exact ih
theorem Kt:∀ (l:List Ls.Sp) (k q:Nat) (z:Ck.Fr),Ck.mapAt (q:Int) (Ls.mapsOf k l)=some z→∃ i p,l[i]?=some p∧q=k+i∧p.wa=true∧p.fr=z
 | [],_,_,_,h=>by simp [Ls.mapsOf,Ck.mapAt] at h
 | x :: r,k,q,z,h=>by
  unfold Ls.mapsOf at h;by_cases hw:x.wa=true
  ·rw [if_pos hw,Ck.mapAt] at h;by_cases e:(k:Int)=(q:Int)
   ·rw [if_pos e] at h;exact ⟨0,x,rfl,by omega,hw,Option.some.inj h⟩
   ·rw [if_neg e] at h;obtain ⟨i,p,h1,h2,h3⟩:=Kt r (k+1) q z h;exact ⟨i+1,p,by simpa using h1,by omega,h3⟩
  ·rw [if_neg hw] at h;obtain ⟨i,p,h1,h2,h3⟩:=Kt r (k+1) q z h;exact ⟨i+1,p,by simpa using h1,by omega,h3⟩
theorem Jo {CR:Rd.Mth→Int × Int}:∀ (l:List Rd.Mth) (k:Nat),(Ck.firstOf CR k l).1=0↔∀ m∈l,(CR m).1=0
 | [],_=>by simp [Ck.firstOf]
 | m :: r,k=>by
  unfold Ck.firstOf;by_cases h:(CR m).1=0
  ·rw [if_neg (fun g=>g h),Jo r (k+1)];simp [h]
  ·rw [if_pos h]
   constructor
   ·intro g;exact absurd g h
   ·intro g;exact absurd (g m (by simp)) h
theorem Pd {s:List UInt8} (h:(Rf.formed s).1=0):(Ck.all s).1=0↔∀ m∈(Rd.read s).1.methods,(Ck.mChecked (Rd.read s).1.classes (Rd.read s).1.methods m).1=0:=by
 unfold Ck.all Ck.check;rw [if_neg (fun g=>g h)];exact Jo _ _
theorem Mr {s:List UInt8} (h:(Rf.formed s).1=0) {r:List Rd.Mth} (hr:Ls.filled (Ls.mapsFor (Rd.read s).1.classes (Rd.read s).1.methods) (Rd.read s).1.methods=some r):(Ck.all (Wr.fil ⟨(Rd.read s).1.classes,r⟩)).1=0:=by
 have al:=Gs h hr;rw [Pd al.p0,al.rd];intro m' hm';simp only at hm';obtain ⟨m,hm,mp,hmp,rfl⟩:=(Dw _ _ hr).2 m' hm';obtain ⟨k,_,_⟩:=Bj _ h;obtain ⟨k',_,_⟩:=Bj _ al.p0;rw [al.rd] at k';have hc:=Fo _ (Di h) m hm;have gE:=Ds k hm hc;obtain ⟨hL,hA⟩:=Ea k hm;have eE:Ls.env (Rd.read s).1.classes r (m.withMaps mp)=Ls.env (Rd.read s).1.classes (Rd.read s).1.methods m:=Wn al.eq rfl;unfold Ls.mapsFor at hmp;by_cases hh:(Ls.state (Rd.read s).1.classes (Rd.read s).1.methods m).hop=true
 ·rw [if_pos hh] at hmp;cases hmp
 rw [if_neg hh] at hmp;cases hmp;have hh':(Ls.state (Rd.read s).1.classes (Rd.read s).1.methods m).hop=false:=by simpa using hh
 obtain ⟨_,_,s3,_⟩:=Et gE hL hA;obtain ⟨sol,_,aim⟩:=s3 hh';have at_eq:∀ (j:Nat) p,(Ls.state (Rd.read s).1.classes (Rd.read s).1.methods m).sp[j]?=some p→(Ls.state (Rd.read s).1.classes (Rd.read s).1.methods m).at j=p:=fun j p hj=>by unfold Ls.S.at;rw [List.getD_eq_getElem?_getD,hj];rfl
 refine P8 k' hm' hc (F:=(Ls.state (Rd.read s).1.classes (Rd.read s).1.methods m).F) (by rw [eE];exact sol) (fun q z hz=>?_) (fun p hp hne q ha=>?_)
 ·obtain ⟨i,x,h1,h2,h3,h4⟩:=Kt _ _ _ _ hz;have e3:=at_eq i x h1;have hw:=Dc gE hL hA hh' (q:=i) (by show ((Ls.state (Rd.read s).1.classes (Rd.read s).1.methods m).at i).wa=true;rw [e3];exact h3);have hst:((Ls.state (Rd.read s).1.classes (Rd.read s).1.methods m).at i).st=true:=hw.1;rw [h2,Nat.zero_add];exact Cg.2 ⟨hst,by rw [e3];exact h4⟩
 ·rw [eE] at ha;have hw:((Ls.state (Rd.read s).1.classes (Rd.read s).1.methods m).at q).wa=true:=(aim q).2 ⟨p,hp,hne,ha⟩;have hst:=(Dc gE hL hA hh' (q:=q) hw).1;have hlt:q < (Ls.state (Rd.read s).1.classes (Rd.read s).1.methods m).sp.length:=Ye hst;have hg:=List.getElem?_eq_getElem hlt;have e3:=at_eq q _ hg;have:=Ob _ 0 q _ hg (by rw [← e3];exact hw);rw [Nat.zero_add] at this;exact ⟨_,this⟩
theorem J8 {FM:Rd.Mth→Option (List Rd.Mp)}:∀ (ms:List Rd.Mth),(∀ m∈ms,(FM m).isSome=true)→∃ r,Ls.filled FM ms=some r
 | [],_=>⟨[],rfl⟩
 | m :: ms,h=>by
  obtain ⟨r,hr⟩:=J8 ms (fun x hx=>h x (by simp [hx]));obtain ⟨mp,hm⟩:=Option.isSome_iff_exists.1 (h m (by simp));exact ⟨_,by unfold Ls.filled;rw [hm,hr];rfl⟩
theorem My {FM:Rd.Mth→Option (List Rd.Mp)}:∀ (ms r:List Rd.Mth),Ls.filled FM ms=some r→∀ (i:Nat) (m':Rd.Mth),r[i]?=some m'→∃ m mp,ms[i]?=some m∧FM m=some mp∧m'=m.withMaps mp
 | [],r,h,i,m',hi=>by cases h;simp at hi
 | m :: ms,r,h,i,m',hi=>by
  unfold Ls.filled at h;cases hf:FM m with
  | none=>rw [hf] at h;cases h
  | some mp =>
   rw [hf] at h;simp only at h;cases hr:Ls.filled FM ms with
   | none=>rw [hr] at h;cases h
   | some r' =>
    rw [hr] at h;cases h;cases i with
    | zero=>simp only [List.getElem?_cons_zero,Option.some.injEq] at hi;exact ⟨m,mp,rfl,hf,hi.symm⟩
    | succ i=>exact My ms r' hr i m' (by simpa using hi)
theorem Js {cs:List Rd.Cls}{ms:List Rd.Mth} (k:Fm.Ok cs ms) {m:Rd.Mth} (hm:m∈ms) (hc:0 < m.code.length) (h:(Ck.mChecked cs ms m).1=0) :
  ∃ mp,Ls.mapsFor cs ms m=some mp∧∀ q∈mp,∃ z,Ck.mMap m q.place=some z∧Ls.LeF (Tr.tree cs) ⟨q.locals,q.stack⟩ z:=by
 have gE:=Ds k hm hc;obtain ⟨hL,hA⟩:=Ea k hm;obtain ⟨_,_,s3,s4⟩:=Et gE hL hA;obtain ⟨sol,maps⟩:=Qw k hm hc h;obtain ⟨hop,least⟩:=s4 _ sol;have hop':(Ls.state cs ms m).hop=false:=hop;obtain ⟨_,_,aim⟩:=s3 hop;refine ⟨Ls.mapsOf 0 (Ls.state cs ms m).sp,by unfold Ls.mapsFor;rw [if_neg (by rw [hop'];simp)],fun q hq=>?_⟩;obtain ⟨i,p,h1,h2,rfl⟩:=En _ _ _ hq;have ea:(Ls.state cs ms m).at i=p:=by unfold Ls.S.at;rw [List.getD_eq_getElem?_getD,h1];rfl
 have hw:((Ls.state cs ms m).at i).wa=true:=by rw [ea];exact h2
 have hst:((Ls.state cs ms m).at i).st=true:=(Dc gE hL hA hop (q:=i) hw).1;obtain ⟨p',hp',hF,ha⟩:=(aim i).1 hw;cases hx:(Ls.found (Ls.env cs ms m) (Pk.mBehind cs ms m) (Cd.readL m.code)).F p' with
 | none=>exact absurd hx hF
 | some x =>
  obtain ⟨y,hy,_⟩:=least p' x hx;obtain ⟨z,e1,e2⟩:=maps p' hp' (by rw [hy];simp) i ha;have hfi:(Ls.found (Ls.env cs ms m) (Pk.mBehind cs ms m) (Cd.readL m.code)).F i=some p.fr:=Cg.2 ⟨hst,by show ((Ls.state cs ms m).at i).fr=p.fr;rw [ea]⟩;obtain ⟨z',e3,e4⟩:=least i p.fr hfi;rw [e2] at e3;cases e3;refine ⟨z,?_,e4⟩;simp only [Nat.zero_add];exact e1
theorem N1 {s:List UInt8} (h0:(Rf.formed s).1=0) (h:(Ck.all s).1=0):∃ r,Ls.filled (Ls.mapsFor (Rd.read s).1.classes (Rd.read s).1.methods) (Rd.read s).1.methods=some r ∧
  ∀ (i:Nat) (m':Rd.Mth),r[i]?=some m'→∃ m,(Rd.read s).1.methods[i]?=some m∧∀ q∈m'.maps,∃ z,Ck.mMap m q.place=some z∧Ls.LeF (Tr.tree (Rd.read s).1.classes) ⟨q.locals,q.stack⟩ z:=by
 obtain ⟨k,_,_⟩:=Bj _ h0;have hc:=Fo _ (Di h0);have hz:=(Pd h0).1 h;obtain ⟨r,hr⟩:=J8 (FM:=Ls.mapsFor (Rd.read s).1.classes (Rd.read s).1.methods) (Rd.read s).1.methods (fun m hm=>by
  obtain ⟨mp,e,_⟩:=Js k hm (hc m hm) (hz m hm);rw [e];rfl)
 refine ⟨r,hr,fun i m' hi=>?_⟩;obtain ⟨m,mp,h1,h2,rfl⟩:=My _ _ hr i m' hi;have hm:m∈(Rd.read s).1.methods:=List.mem_of_getElem? h1;obtain ⟨mp',e,hl⟩:=Js k hm (hc m hm) (hz m hm);rw [h2] at e;cases e;exact ⟨m,h1,hl⟩
def Lt.bareB:ByteArray:=⟨#[83,77,0,1,255,0,0,0,0,1,2,19,24,3,0,2,0,25,2,0,0,1,8,5,3,0,12,18,11,3,22,0,0]⟩
def Lt.mapB:ByteArray:=⟨#[83,77,0,1,255,0,0,0,0,1,2,19,24,3,0,2,0,25,2,0,0,1,8,5,3,0,12,18,11,3,22,0,2,3,1,0,0,18,1,0,0]⟩
theorem Vr:(Ck.all Lt.mapB.data.toList).1=0:=by decide +kernel
theorem Wt:Ls.prep Lt.bareB.data.toList=(Lt.mapB.data.toList,0,0):=by decide +kernel
theorem Yh (b:ByteArray):(⟨b.data.toList.toArray⟩:ByteArray)=b:=by cases b;simp
def Lt.lessOne (T:List Int) (q:Rd.Mp):Bool→List Rd.Mp→Bool
 | b,[]=>b
 | b,y :: r=>Lt.lessOne T q (if y.place=q.place then Ck.frameFits T ⟨q.locals,q.stack⟩ ⟨y.locals,y.stack⟩ else b) r
theorem Ou {w:World}{b:Nat}{a:Option Addr}{c:Nat}{l:List (Rd.Mp × Value × Value)} (h:RMpsIn w b (.slice a l.length c) l) (hl:∀ q∈l,q.1.locals.length≤5000∧q.1.stack.length≤5000) {k:Nat} (hk:k < l.length) :
  ∃ (g:Nat) (v:FrV),a=some ⟨g,0,none⟩∧g < w.heap.size∧w.cell? ⟨g,k * 3,none⟩=some (.int .i64 l[k].1.place)∧w.cell? ⟨g,k * 3+1,none⟩=some (.slice v.la v.ln v.lc)∧w.cell? ⟨g,k * 3+2,none⟩=some (.slice v.sa v.sn v.sc)∧v.is ⟨l[k].1.locals,l[k].1.stack⟩ w:=by
 obtain ⟨g,hg,hglt,_,hcell⟩:=Am h.1 (by omega);have y0:=(hcell _ (A5 l k hk 0 (by omega)).2).trans (A5 l k hk 0 (by omega)).1;have y1:=(hcell _ (A5 l k hk 1 (by omega)).2).trans (A5 l k hk 1 (by omega)).1;have y2:=(hcell _ (A5 l k hk 2 (by omega)).2).trans (A5 l k hk 2 (by omega)).1;have hty:=h.2 _ (List.getElem_mem hk);have hlf:=hl _ (List.getElem_mem hk);generalize l[k]=t at *;obtain ⟨⟨pl,lo,st⟩,u1,u2⟩:=t;simp at y0 y1 y2;simp only at hty hlf;obtain ⟨ty1,ty2⟩:=hty;obtain ⟨a1,c1,rfl⟩:=Ae ty1;obtain ⟨a2,c2,rfl⟩:=Ae ty2;exact ⟨g,⟨a1,lo.length,c1,a2,st.length,c2⟩,hg,hglt,y0,y1,y2,⟨TyR.of_tys ty1,TyR.of_tys ty2,hlf.1,hlf.2⟩⟩
theorem Sz (f:RFv) (T:List Int) (m1 m2:RMV) (l1 l2:List (Rd.Mp × Value × Value)) (b1 b2:Nat) (w:World) (hF:f.fitsAs T w) (e1:m1.ml=l1.length) (e2:m2.ml=l2.length) (h1:l1.length≤1000) (h2:l2.length≤1000)
  (hf1:∀ q∈l1,q.1.locals.length≤5000∧q.1.stack.length≤5000) (hf2:∀ q∈l2,q.1.locals.length≤5000∧q.1.stack.length≤5000) (hm1:RMpsIn w b1 (.slice m1.ma m1.ml m1.mc) l1) (hm2:RMpsIn w b2 (.slice m2.ma m2.ml m2.mc) l2)
  (hall:∀ q∈l1.map Prod.fst,Lt.lessOne T q false (l2.map Prod.fst)=true) :
  Calls Tryz.prog 18 #[f.val,m1.val,m2.val] w fun e w'=>e=.returned (.bool true)∧Below w.heap.size w w':=by
 have hFF:=fun (u u':FrV) (y y':Ck.Fr) w' (h:Below w.heap.size w w') hu hu'=>Mh f T u u' y y' w' (hF.below h) hu hu';obtain ⟨fa1,fl,fc1,fa2,fm,fc2⟩:=f;obtain ⟨cl,nm,pa,pl,pc,r1,r2,lo,st,code,ha,hl,hc,ma,ml,mc,mAt,fin⟩:=m1;obtain ⟨cl',nm',pa',pl',pc',r1',r2',lo',st',code',ha',hl',hc',ma',ml',mc',mAt',fin'⟩:=m2;simp only [RFv.val,RMV.val] at e1 e2 hm1 hm2 hFF ⊢;subst e1 e2;have hc1:=fun w' (hb:Below w.heap.size w w') k (hk:k < l1.length)=>Ou (hm1.kp (Kp.of_below (e:=none) hb) (by decide) (by decide)) hf1 hk;have hc2:=fun w' (hb:Below w.heap.size w w') k (hk:k < l2.length)=>Ou (hm2.kp (Kp.of_below (e:=none) hb) (by decide) (by decide)) hf2 hk;have HC1:=Ac hc1;have HC2:=Ac hc2;have HFF:=Ac hFF;have HALL:=Ac hall;clear hc1 hc2 hFF hall hm1 hm2 hf1 hf2 hF;have hB0:=(Aj w (.cells #[.slice fa1 fl fc1,.slice fa2 fm fc2] 44) (.cells #[.int .i64 cl,.int .i64 nm,.slice pa pl pc,.int .i64 r1,.int .i64 r2,.int .i64 lo,.int .i64 st,.string code,.slice ha hl hc,.slice ma l1.length mc,.int .i64 mAt,.int .i64 fin] 52)).alloc (by simp;omega) (.cells #[.int .i64 cl',.int .i64 nm',.slice pa' pl' pc',.int .i64 r1',.int .i64 r2',.int .i64 lo',.int .i64 st',.string code',.slice ha' hl' hc',.slice ma' l2.length mc',.int .i64 mAt',.int .i64 fin'] 52);have CF0:=Af (Ak w (.cells #[.slice fa1 fl fc1,.slice fa2 fm fc2] 44) (.cells #[.int .i64 cl,.int .i64 nm,.slice pa pl pc,.int .i64 r1,.int .i64 r2,.int .i64 lo,.int .i64 st,.string code,.slice ha hl hc,.slice ma l1.length mc,.int .i64 mAt,.int .i64 fin] 52)) (.cells #[.int .i64 cl',.int .i64 nm',.slice pa' pl' pc',.int .i64 r1',.int .i64 r2',.int .i64 lo',.int .i64 st',.string code',.slice ha' hl' hc',.slice ma' l2.length mc',.int .i64 mAt',.int .i64 fin'] 52);have CA0:=Af (Ah w (.cells #[.slice fa1 fl fc1,.slice fa2 fm fc2] 44) (.cells #[.int .i64 cl,.int .i64 nm,.slice pa pl pc,.int .i64 r1,.int .i64 r2,.int .i64 lo,.int .i64 st,.string code,.slice ha hl hc,.slice ma l1.length mc,.int .i64 mAt,.int .i64 fin] 52)) (.cells #[.int .i64 cl',.int .i64 nm',.slice pa' pl' pc',.int .i64 r1',.int .i64 r2',.int .i64 lo',.int .i64 st',.string code',.slice ha' hl' hc',.slice ma' l2.length mc',.int .i64 mAt',.int .i64 fin'] 52);have CB0:(((w.alloc (.cells #[.slice fa1 fl fc1,.slice fa2 fm fc2] 44)).alloc (.cells #[.int .i64 cl,.int .i64 nm,.slice pa pl pc,.int .i64 r1,.int .i64 r2,.int .i64 lo,.int .i64 st,.string code,.slice ha hl hc,.slice ma l1.length mc,.int .i64 mAt,.int .i64 fin] 52)).alloc (.cells #[.int .i64 cl',.int .i64 nm',.slice pa' pl' pc',.int .i64 r1',.int .i64 r2',.int .i64 lo',.int .i64 st',.string code',.slice ha' hl' hc',.slice ma' l2.length mc',.int .i64 mAt',.int .i64 fin'] 52)).heap[w.heap.size+2]?=some (.cells #[.int .i64 cl',.int .i64 nm',.slice pa' pl' pc',.int .i64 r1',.int .i64 r2',.int .i64 lo',.int .i64 st',.string code',.slice ha' hl' hc',.slice ma' l2.length mc',.int .i64 mAt',.int .i64 fin'] 52 (0,0)):=by
  have:=Ad ((w.alloc (.cells #[.slice fa1 fl fc1,.slice fa2 fm fc2] 44)).alloc (.cells #[.int .i64 cl,.int .i64 nm,.slice pa pl pc,.int .i64 r1,.int .i64 r2,.int .i64 lo,.int .i64 st,.string code,.slice ha hl hc,.slice ma l1.length mc,.int .i64 mAt,.int .i64 fin] 52)) (.cells #[.int .i64 cl',.int .i64 nm',.slice pa' pl' pc',.int .i64 r1',.int .i64 r2',.int .i64 lo',.int .i64 st',.string code',.slice ha' hl' hc',.slice ma' l2.length mc',.int .i64 mAt',.int .i64 fin'] 52)
  simpa using this
 go_enter Tryz.func18,Tryz.ntmps18;go_wp2
 go_loopw [7] (fun v wr=>∃ i:Nat,i≤l1.length∧v=.int .i64 (i:Int)∧Below w.heap.size w wr∧wr.heap[w.heap.size]?=some (.cells #[.slice fa1 fl fc1,.slice fa2 fm fc2] 44 (0,0))∧wr.heap[w.heap.size+1]?=some (.cells #[.int .i64 cl,.int .i64 nm,.slice pa pl pc,.int .i64 r1,.int .i64 r2,.int .i64 lo,.int .i64 st,.string code,.slice ha hl hc,.slice ma l1.length mc,.int .i64 mAt,.int .i64 fin] 52 (0,0))∧wr.heap[w.heap.size+2]?=some (.cells #[.int .i64 cl',.int .i64 nm',.slice pa' pl' pc',.int .i64 r1',.int .i64 r2',.int .i64 lo',.int .i64 st',.string code',.slice ha' hl' hc',.slice ma' l2.length mc',.int .i64 mAt',.int .i64 fin'] 52 (0,0)))
  (fun v _=>l1.length - (intOf v).toNat)
 case atStart=>exact ⟨0,by omega,rfl,hB0,CF0,CA0,CB0⟩
 case round =>
  clear hB0 CF0 CA0 CB0;obtain ⟨i,hi,rfl,hB,CF,CA,CB⟩:=hrel;have a9:wr.cell? ⟨w.heap.size+1,9,none⟩=some (.slice ma l1.length mc):=Ab CA 9;by_cases hin:i < l1.length
  ·have ib:(i:Int) < (l1.length:Int):=by omega
   have hq:=Aa HALL l1[i].1 (List.mem_map.2 ⟨l1[i],List.getElem_mem hin,rfl⟩);have hci:=fun w' (hb:Below w.heap.size w w')=>Aa HC1 w' hb i hin;generalize l1[i].1=q at hq hci;have HQ:Hid (Lt.lessOne T q false ((l2.map Prod.fst).drop 0)=true):=hq;have HCI:=Ac hci;clear hq hci;go_wp2
   go_loopw [8,9] (fun u v wr=>∃ (k:Nat) (b:Bool),k≤l2.length∧v=.int .i64 (k:Int)∧u=.bool b∧Hid (Lt.lessOne T q b ((l2.map Prod.fst).drop k)=true)∧Below w.heap.size w wr∧wr.heap[w.heap.size]?=some (.cells #[.slice fa1 fl fc1,.slice fa2 fm fc2] 44 (0,0))∧wr.heap[w.heap.size+1]?=some (.cells #[.int .i64 cl,.int .i64 nm,.slice pa pl pc,.int .i64 r1,.int .i64 r2,.int .i64 lo,.int .i64 st,.string code,.slice ha hl hc,.slice ma l1.length mc,.int .i64 mAt,.int .i64 fin] 52 (0,0))∧wr.heap[w.heap.size+2]?=some (.cells #[.int .i64 cl',.int .i64 nm',.slice pa' pl' pc',.int .i64 r1',.int .i64 r2',.int .i64 lo',.int .i64 st',.string code',.slice ha' hl' hc',.slice ma' l2.length mc',.int .i64 mAt',.int .i64 fin'] 52 (0,0)))
    (fun _ v _=>l2.length - (intOf v).toNat)
   case atStart=>exact ⟨0,false,by omega,rfl,rfl,HQ,hB,CF,CA,CB⟩
   case round =>
    clear hB CF CA CB a9 HQ;obtain ⟨k,b,hk,rfl,rfl,HQ,hB,CF,CA,CB⟩:=hrel;have hBs:=hB.size;have lF:=lt_of_block CF;have lA:=lt_of_block CA;have lB:=lt_of_block CB;have f0:wr.cell? ⟨w.heap.size,0,none⟩=some (.slice fa1 fl fc1):=Ab CF 0;have f1:wr.cell? ⟨w.heap.size,1,none⟩=some (.slice fa2 fm fc2):=Ab CF 1;have a9:wr.cell? ⟨w.heap.size+1,9,none⟩=some (.slice ma l1.length mc):=Ab CA 9;have b9:wr.cell? ⟨w.heap.size+2,9,none⟩=some (.slice ma' l2.length mc'):=Ab CB 9;by_cases hkn:k < l2.length
    ·have kb:(k:Int) < (l2.length:Int):=by omega
     obtain ⟨g,v,rfl,hglt,y0,y1,y2,hv⟩:=Aa HCI wr hB;obtain ⟨g',v',rfl,hglt',z0,z1,z2,hv'⟩:=Aa HC2 wr hB k hkn;have hd:(l2.map Prod.fst).drop k=l2[k].1 :: (l2.map Prod.fst).drop (k+1):=by
      rw [List.drop_eq_getElem_cons (by simpa using hkn)]
      simp
     have hq:=Aa HQ;rw [hd,Lt.lessOne] at hq;generalize l2[k].1=y at *;obtain ⟨qp,ql,qs⟩:=q;obtain ⟨yp,yl,ys⟩:=y;simp only at y0 z0 hv hv' hq;have hd3:wr.drew.heap=wr.heap:=rfl;have hB3:=hB.drew;have CF3:wr.drew.heap[w.heap.size]?=_:=CF;have CA3:wr.drew.heap[w.heap.size+1]?=_:=CA;have CB3:wr.drew.heap[w.heap.size+2]?=_:=CB;clear hd HQ;by_cases he:yp=qp
     ·subst he;rw [if_pos rfl] at hq;have hff:=Aa HFF v v' ⟨ql,qs⟩ ⟨yl,ys⟩ wr.drew.drew hB.drew.drew (hv.below ((Below.refl _ _).drew.drew)) (hv'.below ((Below.refl _ _).drew.drew));have HQ2:=Ac hq;obtain ⟨va,vn,vc,sa,sn,sc⟩:=v;obtain ⟨va',vn',vc',sa',sn',sc'⟩:=v';simp only [FrV.val] at hff y1 y2 z1 z2;have HFQ:=Ac hff;clear hff hq hv hv';go_wp2
      go_region
      go_wp2
      go_region_held3 (fun w'=>w'.cell? ⟨w.heap.size,0,none⟩=some (.slice fa1 fl fc1)∧w'.cell? ⟨w.heap.size,1,none⟩=some (.slice fa2 fm fc2)∧w'.cell? ⟨w.heap.size+1,9,none⟩=some (.slice (some ⟨g,0,none⟩) l1.length mc)∧w'.cell? ⟨w.heap.size+2,9,none⟩=some (.slice (some ⟨g',0,none⟩) l2.length mc')∧w'.cell? ⟨g,i * 3+1,none⟩=some (.slice va vn vc)∧w'.cell? ⟨g,i * 3+2,none⟩=some (.slice sa sn sc)∧w'.cell? ⟨g',k * 3+1,none⟩=some (.slice va' vn' vc')∧w'.cell? ⟨g',k * 3+2,none⟩=some (.slice sa' sn' sc'))
       (first | exact ⟨f0,f1,a9,b9,y1,y2,z1,z2⟩ | exact ⟨(hb7.cell lF).trans f0,(hb7.cell lF).trans f1,(hb7.cell lA).trans a9,(hb7.cell lB).trans b9,(hb7.cell hglt).trans y1,(hb7.cell hglt).trans y2,(hb7.cell hglt').trans z1,(hb7.cell hglt').trans z2⟩)
       (first | (go_at_call 34;refine (Aa HFQ).mono ?_;rintro e w7 ⟨rfl,hb7⟩))
      have hB7:=hB.drew.drew.trans (hb7.mono hBs);have CF7:=stay hb7 CF;have CA7:=stay hb7 CA;have CB7:=stay hb7 CB;clear hb7;go_wp2
      go_roundw
      case rel=>exact ⟨k+1,_,by omega,by go_num,rfl,HQ2,hB7,CF7,CA7,CB7⟩
      case measure=>simp [intOf];omega
     ·rw [if_neg he] at hq;have HQ2:=Ac hq;have he':(yp == qp)=false:=by simpa using he
      clear hq he hv hv';go_wp2
      go_region
      go_wp2
      go_roundw
      case rel=>exact ⟨k+1,b,by omega,by go_num,rfl,HQ2,hB3,CF3,CA3,CB3⟩
      case measure=>simp [intOf];omega
    ·have kb:¬ (k:Int) < (l2.length:Int):=by omega
     have hq:=Aa HQ;rw [List.drop_eq_nil_of_le (by simp;omega),Lt.lessOne] at hq;subst hq;clear HQ;go_wp2
     go_roundw
     case rel=>exact ⟨i+1,by omega,by go_num,hB,CF,CA,CB⟩
     case measure=>simp [intOf];omega
  ·have ib:¬ (i:Int) < (l1.length:Int):=by omega
   go_wp2;go_ret;exact ⟨rfl,hB⟩
theorem J4 {T c:List Int}:∀ (l:List Rd.Mp) (i:Nat) (last:Int),Cd.mapsBad T c i last l < 0→l.Pairwise (fun a b=>a.place < b.place)∧∀ x∈l,last < x.place
 | [],_,_,_=>⟨List.Pairwise.nil,fun x hx=>by simp at hx⟩
 | m :: r,i,last,h=>by
  rw [Cd.mapsBad] at h;by_cases h1:Cd.begB c m.place=false
  ·rw [if_pos h1] at h;omega
  rw [if_neg h1] at h;by_cases h2:m.place≤last
  ·rw [if_pos h2] at h;omega
  rw [if_neg h2] at h;by_cases h3:Cd.frAll T c m.locals=false
  ·rw [if_pos h3] at h;omega
  rw [if_neg h3] at h;by_cases h4:Cd.frAll T c m.stack=false
  ·rw [if_pos h4] at h;omega
  rw [if_neg h4] at h;obtain ⟨a,b⟩:=J4 r (i+1) m.place h;refine ⟨List.pairwise_cons.2 ⟨b,a⟩,fun x hx=>?_⟩;rcases List.mem_cons.1 hx with rfl | hx
  ·omega
  ·have:=b x hx;omega
theorem Qo {s:List UInt8} (h:(Rf.formed s).1=0):∀ m∈(Rd.read s).1.methods,Cd.mapsBad (Tr.tree (Rd.read s).1.classes) m.code 0 (-1) m.maps < 0:=by
 rw [← Cp] at h;unfold Pf.read at h;by_cases h0:(Rd.read s).2 ≠ 0
 ·rw [if_pos h0] at h;exact absurd h h0
 rw [if_neg h0] at h;unfold Pf.find at h;by_cases h1:(Tr.inCl (Tr.tree (Rd.read s).1.classes) 0 (Rd.read s).1.classes).1 ≠ 0
 ·rw [if_pos h1] at h;exact absurd h h1
 rw [if_neg h1] at h;unfold Pf.rest at h;by_cases h2:0≤Pf.heads (Tr.tree (Rd.read s).1.classes) (Rd.read s).1.methods 0 (Rd.read s).1.methods
 ·rw [if_pos h2] at h;simp at h
 rw [if_neg h2,Gp] at h;exact fun m hm=>((Ir _ _ _ _).1 (h m hm)).2
theorem Ky {q:Int}:∀ (l:List Rd.Mp),(∀ x∈l,x.place ≠ q)→Ck.mapAt q l=none
 | [],_=>rfl
 | y :: r,h=>by
  rw [Ck.mapAt,if_neg (h y (by simp))];exact Ky r (fun x hx=>h x (by simp [hx]))
theorem Hz {T:List Int}{q:Rd.Mp}:∀ (l:List Rd.Mp) (b:Bool),l.Pairwise (fun a b=>a.place < b.place)→(∀ z,Ck.mapAt q.place l=some z→Ck.frameFits T ⟨q.locals,q.stack⟩ z=true)→(b=true∨(Ck.mapAt q.place l).isSome=true)→Lt.lessOne T q b l=true
 | [],b,_,_,h=>by
  rcases h with rfl | h
  ·rfl
  ·simp [Ck.mapAt] at h
 | y :: r,b,hp,hz,h=>by
  obtain ⟨p1,p2⟩:=List.pairwise_cons.1 hp;rw [Lt.lessOne];by_cases e:y.place=q.place
  ·have hn:Ck.mapAt q.place r=none:=Ky r (fun x hx e2=>by have:=p1 x hx;omega);have hf:=hz ⟨y.locals,y.stack⟩ (by rw [Ck.mapAt,if_pos e]);rw [if_pos e,hf];exact Hz r true p2 (fun z g=>by rw [hn] at g;cases g) (.inl rfl)
  ·rw [if_neg e];rw [Ck.mapAt,if_neg e] at hz h;exact Hz r b p2 hz h
theorem Sl {s:List UInt8} (h0:(Rf.formed s).1=0) (h:(Ck.all s).1=0):∃ r,Ls.filled (Ls.mapsFor (Rd.read s).1.classes (Rd.read s).1.methods) (Rd.read s).1.methods=some r∧r.length=(Rd.read s).1.methods.length ∧
  ∀ (i:Nat) (m' m:Rd.Mth),r[i]?=some m'→(Rd.read s).1.methods[i]?=some m→∀ q∈m'.maps,Lt.lessOne (Tr.tree (Rd.read s).1.classes) q false m.maps=true:=by
 obtain ⟨r,hr,hall⟩:=N1 h0 h;obtain ⟨k,_,_⟩:=Bj _ h0;have hmp:=Qo h0;have al:=Gs h0 hr;obtain ⟨k',_,_⟩:=Bj _ al.p0;rw [al.rd] at k';refine ⟨r,hr,(Dw _ _ hr).1,fun i m' m hi hm q hq=>?_⟩;obtain ⟨m2,e,hl⟩:=hall i m' hi;rw [hm] at e;cases e;have hmem:=List.mem_of_getElem? hm;have hmem':=List.mem_of_getElem? hi;obtain ⟨z,hz,hle⟩:=hl q hq;have g:=k.mt m hmem;have g':=k'.mt m' hmem';have aq:Ck.argF (Tr.tree (Rd.read s).1.classes) ⟨q.locals,q.stack⟩:=by
  obtain ⟨f1,f2,_⟩:=g'.map q hq;have h120:=g'.bd.code;unfold Cd.frAll at f1 f2;rw [List.all_eq_true] at f1 f2;exact ⟨fun t ht=>(Iq h120 (f1 t ht)).1,fun t ht=>(Iq h120 (f2 t ht)).1⟩
 refine Hz m.maps false (J4 _ _ _ (hmp m hmem)).1 (fun z' hz'=>?_) (.inr ?_)
 ·have e2:z'=z:=by have:=hz'.symm.trans hz;cases this;rfl
  subst e2;rw [Dl k.ok aq (D7 (Fk g hz))];exact Ge.2 hle
 ·show (Ck.mMap m q.place).isSome=true;rw [hz];rfl
theorem Qb {cs:List Rd.Cls}{ms r:List Rd.Mth} (k:Fm.Ok cs ms) (k':Fm.Ok cs r) {f:RFl}{m1 m2:RMV}{x1 x2:Rf.Mth}{bb:Nat}{w:World} (hf:f.ok w) (hl:f.l.map Prod.fst=Rf.given ++ cs) (h1:m1.is x1 w bb) (h2:m2.is x2 w f.bb) (e1:x1.m∈r) (e2:x2.m∈ms)
  (hless:∀ q∈x1.m.maps,Lt.lessOne (Tr.tree cs) q false x2.m.maps=true) :
  Calls Tryz.prog 18 #[f.val,m1.val,m2.val] w fun e w'=>e=.returned (.bool true)∧Below w.heap.size w w':=by
 have g1:=k'.mt _ e1;have g2:=k.mt _ e2;obtain ⟨p1,q1,r1⟩:=h1.mp;obtain ⟨p2,q2,r2⟩:=h2.mp;have n1:p1.length=x1.m.maps.length:=by rw [← q1];simp
 have n2:p2.length=x2.m.maps.length:=by rw [← q2];simp
 have m1':=g1.bd.mp;have m2':=g2.bd.mp;have hF:=RFl.fitsAs hf;have eT:f.T=Tr.tree cs:=(Eu f.l cs hl).1;rw [eT] at hF;exact Sz f.v (Tr.tree cs) m1 m2 p1 p2 bb f.bb w hF (by rw [h1.ml];exact n1.symm) (by rw [h2.ml];exact n2.symm) (by omega) (by omega)
  (fun q hq=>by have:=g1.bd.fr q.1 (by rw [← q1];exact List.mem_map.2 ⟨q,hq,rfl⟩);omega) (fun q hq=>by have:=g2.bd.fr q.1 (by rw [← q2];exact List.mem_map.2 ⟨q,hq,rfl⟩);omega) r1 r2 (by rw [q1,q2];exact hless)
theorem Su (w:World):Calls Tryz.prog 15 #[] w fun e w'=>e=.returned (.bool true)∧Below w.heap.size w w':=by
 have hC:=fun w=>Jb Lt.mapB w (by decide);have hP:=fun w=>J1 Lt.bareB w (by decide);rw [Wt,Yh] at hP;rw [Vr] at hC;generalize (Ck.all Lt.mapB.data.toList).2.1=c1 at *;generalize (Ck.all Lt.mapB.data.toList).2.2=c2 at *;simp only [Lt.mapB,Lt.bareB] at hC hP;have HC:=Ac hC;have HP:=Ac hP;clear hC hP;go_enter Tryz.func15,Tryz.ntmps15;go_wp2_with fail
 refine (Aa HC _).mono ?_;rintro e w1 ⟨rfl,hb1⟩;go_wp2_with fail
 refine (Aa HP _).mono ?_;rintro e w2 ⟨rfl,hb2⟩;have hB2:=QB hb1 hb2;go_wp2;go_ret;exact ⟨by simp,hB2⟩
theorem Tn {s:List UInt8} (h:(Ck.all s).1=0):(Rf.formed s).1=0:=by
 unfold Ck.all Ck.check at h;by_cases h0:(Rf.formed s).1=0
 ·exact h0
 ·rw [if_pos h0] at h;exact h
theorem Vs {s:List UInt8}{cs:List Rd.Cls}{a1 a2:Option Addr}{c1 c2 b:Nat}{l1:List (Rd.Cls × Value)}{l2:List (Rf.Mth × RMthV)}{w:World} (h1:l1.map Prod.fst=Rf.given ++ (Rf.fil s).1) (hcs:RClssIn w b (.slice a1 l1.length c1) l1) (h2:l2.map Prod.fst=(Rf.fil s).2.1) (hms:RMthsIn w b (.slice a2 l2.length c2) l2):RFl.ok ⟨a1,c1,a2,c2,b,l1,l2⟩ w:=by
 have hb1:=Of s;have hb2:=Jm s;have hn1:l1.length=7+(Rf.fil s).1.length:=by have:=congrArg List.length h1;simp [Rf.given] at this;omega
 have hn2:l2.length=(Rf.fil s).2.1.length:=by have:=congrArg List.length h2;simpa using this
 have e1:=hb1.1;have e2:=hb2.1;exact ⟨by simp only;omega,by simp only;omega,by simp only;omega,Zu h1 (p:=fun c=>c.fields.length≤1000) (by
   intro p hp;rcases List.mem_append.1 hp with hp | hp
   ·simp [Rf.given] at hp;rcases hp with rfl | rfl | rfl | rfl | rfl | rfl | rfl <;> simp
   ·exact hb1.2 p hp),hcs,hms⟩
theorem Uv (s:ByteArray) (w:World) (hs:s.size≤maxLen) :
  Calls Tryz.prog 6 #[.string s] w fun e w'=>e=.returned (.bool true)∧Below w.heap.size w w':=by
 have hF:=fun w=>Su w;have HF:=Ac hF;have hC:=fun w=>Jb s w hs;clear hF;by_cases h:(Ck.all s.data.toList).1=0
 ·have h0:=Tn h;obtain ⟨r,hr,hlen,hless⟩:=Sl h0 h;have al:=Gs h0 hr;have hck:=Mr h0 hr;have hp:Ls.prep s.data.toList=(Wr.fil ⟨(Rd.read s.data.toList).1.classes,r⟩,0,0):=by
   unfold Ls.prep;rw [if_neg (fun g=>g h0),hr]
  obtain ⟨P,hP⟩:∃ P:ByteArray,P.data.toList=Wr.fil ⟨(Rd.read s.data.toList).1.classes,r⟩:=⟨⟨(Wr.fil ⟨(Rd.read s.data.toList).1.classes,r⟩).toArray⟩,by simp⟩;rw [← hP] at al hck hp;have hszP:P.size≤15000:=by
   have e:=(Hy _ al.p0).2
   simpa using e
  have hPl:P.size≤maxLen:=Nat.le_trans hszP (by unfold maxLen;omega);obtain ⟨k,c1e,c2e⟩:=Bj _ h0;obtain ⟨k',d1e,d2e⟩:=Bj _ al.p0;have hst:Rf.stripD P=Rf.stripD s:=by
   rw [Og _ al.p0,Og _ h0,al.rd];unfold Rd.Fil.bare;simp only;rw [al.eq]
  rw [al.rd] at k' d1e d2e;simp only at k' d1e d2e;have hPr:=fun w=>J1 s w hs;have hC2:=fun w=>Jb P w hPl;have hF1:=fun w=>Hh s w hs;have hF2:=fun w=>Hh P w hPl;have hS1:=fun w=>Lp s w hs;have hS2:=fun w=>Lp P w hPl;unfold Ia at hF1 hF2;rw [h0] at hF1 hS1;rw [al.p0] at hF2 hS2;rw [hst] at hS2;rw [hp,Yh] at hPr;rw [hck] at hC2;rw [h] at hC;have hnum:(Rf.fil s.data.toList).2.1.length=(Rf.fil P.data.toList).2.1.length:=by
   have e1:=congrArg List.length c2e;have e2:=congrArg List.length d2e;simp only [List.length_map] at e1 e2;omega
  have hok1:=fun a1 c1 a2 c2 b l1 l2 w=>Vs (s:=s.data.toList) (cs:=[]) (a1:=a1) (c1:=c1) (a2:=a2) (c2:=c2) (b:=b) (l1:=l1) (l2:=l2) (w:=w);have hok2:=fun a1 c1 a2 c2 b l1 l2 w=>Vs (s:=P.data.toList) (cs:=[]) (a1:=a1) (c1:=c1) (a2:=a2) (c2:=c2) (b:=b) (l1:=l1) (l2:=l2) (w:=w);have hL6:=(Jm s.data.toList).1;have hle:∀ (f:RFl) (m1 m2:RMV) (i:Nat) (h1:i < (Rf.fil P.data.toList).2.1.length) (h2:i < (Rf.fil s.data.toList).2.1.length) (bb:Nat) (w':World),f.ok w'→f.l.map Prod.fst=Rf.given ++ (Rf.fil s.data.toList).1→m1.is (Rf.fil P.data.toList).2.1[i] w' bb→m2.is (Rf.fil s.data.toList).2.1[i] w' f.bb →
    Calls Tryz.prog 18 #[f.val,m1.val,m2.val] w' fun e w''=>e=.returned (.bool true)∧Below w'.heap.size w' w'':=by
   intro f m1 m2 i h1 h2 bb w' hf hl hm1 hm2;rw [c1e] at hl;have a1:r[i]?=some (Rf.fil P.data.toList).2.1[i].m:=by rw [← d2e,List.getElem?_map,List.getElem?_eq_getElem h1];rfl
   have a2:(Rd.read s.data.toList).1.methods[i]?=some (Rf.fil s.data.toList).2.1[i].m:=by rw [← c2e,List.getElem?_map,List.getElem?_eq_getElem h2];rfl
   exact Qb k k' hf hl hm1 hm2 (List.mem_of_getElem? a1) (List.mem_of_getElem? a2) (hless i _ _ a1 a2)
  clear al hck hp hszP hPl k k' c1e c2e d1e d2e hst hless hlen hr hP h0 h;generalize (Ck.all s.data.toList).2.1=z1 at *;generalize (Ck.all s.data.toList).2.2=z2 at *;generalize (Ck.all P.data.toList).2.1=z3 at *;generalize (Ck.all P.data.toList).2.2=z4 at *;generalize Rf.stripD s=S at *;generalize Rf.fil s.data.toList=F1 at *;generalize Rf.fil P.data.toList=F2 at *;generalize Rf.formed s.data.toList=G1 at *;generalize Rf.formed P.data.toList=G2 at *;have HC:=Ac hC;have HPR:=Ac hPr;have HC2:=Ac hC2;have HF1:=Ac hF1;have HF2:=Ac hF2;have HS1:=Ac hS1;have HS2:=Ac hS2;have HLE:=Ac hle;have HO1:=Ac hok1;have HO2:=Ac hok2;have HNM:=Ac hnum;clear hC hPr hC2 hF1 hF2 hS1 hS2 hle hok1 hok2 hnum;go_enter Tryz.func6,Tryz.ntmps6;go_wp2_with fail
  refine (Aa HF _).mono ?_;rintro e w0 ⟨rfl,hB0⟩;go_wp2_with fail
  refine (Aa HC _).mono ?_;rintro e w1 ⟨rfl,hb1⟩;have hB1:=QB hB0 hb1;go_wp2_with fail
  refine (Aa HPR _).mono ?_;rintro e w2 ⟨rfl,hb2⟩;have hB2:=QB hB1 hb2;clear hb1 hb2 hB0 hB1;go_wp2_with fail
  refine (Aa HC2 _).mono ?_;rintro e w3 ⟨rfl,hb3⟩;have hB3:=QB hB2 hb3;go_wp2_with fail
  refine (Aa HF1 _).mono ?_;rintro e w4 ⟨a1,n1,c1,a2,n2,c2,rfl,hrep,hb4⟩;have hB4:=QB hB3 hb4;obtain ⟨l1,l2,hl1,hcs,hl2,hms⟩:=hrep (by trivial);obtain ⟨xa,xc,hsh⟩:=Ae hcs.1;simp only [Value.slice.injEq] at hsh;obtain ⟨rfl,rfl,rfl⟩:=hsh;obtain ⟨xa,xc,hsh⟩:=Ae hms.1;simp only [Value.slice.injEq] at hsh;obtain ⟨rfl,rfl,rfl⟩:=hsh;have hokA:=Aa HO1 _ _ _ _ _ _ _ _ hl1 hcs hl2 hms;have HNA:=Ac (show l2.length=F1.2.1.length by have:=congrArg List.length hl2;simpa using this);have hA0:Below w4.heap.size w4 (w4.alloc (.cells #[.slice a1 l1.length c1,.slice a2 l2.length c2] 44)):=(Below.refl _ _).alloc (Nat.le_refl _) _;have CA:=Ad w4 (.cells #[.slice a1 l1.length c1,.slice a2 l2.length c2] 44);have hokA1:=hokA.below hA0;have hB4':=hB4.alloc hB4.size (.cells #[.slice a1 l1.length c1,.slice a2 l2.length c2] 44);have HL1:=Ac hl1;have HL2:=Ac hl2;clear hrep hcs hms hokA hb3 hb4 hB2 hB3 hl1 hl2;go_wp2_with fail
  refine (Aa HF2 _).mono ?_;rintro e w5 ⟨b1,o1,d1,b2,o2,d2,rfl,hrep,hb5⟩;have hB5:=hB4'.trans (hb5.mono hB4'.size);obtain ⟨k1,k2,hk1,hcs,hk2,hms⟩:=hrep (by trivial);obtain ⟨xa,xc,hsh⟩:=Ae hcs.1;simp only [Value.slice.injEq] at hsh;obtain ⟨rfl,rfl,rfl⟩:=hsh;obtain ⟨xa,xc,hsh⟩:=Ae hms.1;simp only [Value.slice.injEq] at hsh;obtain ⟨rfl,rfl,rfl⟩:=hsh;have hokB:=Aa HO2 _ _ _ _ _ _ _ _ hk1 hcs hk2 hms;have HNB:=Ac (show k2.length=F2.2.1.length by have:=congrArg List.length hk2;simpa using this);have hBk:Below w5.heap.size w5 (w5.alloc (.cells #[.slice b1 k1.length d1,.slice b2 k2.length d2] 44)):=(Below.refl _ _).alloc (Nat.le_refl _) _;have CB:=Ad w5 (.cells #[.slice b1 k1.length d1,.slice b2 k2.length d2] 44);have CA5:=Af (stay hb5 CA) (.cells #[.slice b1 k1.length d1,.slice b2 k2.length d2] 44);have hokB1:=hokB.below hBk;have hokA2:=(hokA1.below hb5).below hBk;have hB5':=hB5.alloc hB5.size (.cells #[.slice b1 k1.length d1,.slice b2 k2.length d2] 44);have HK2:=Ac hk2;have hnn:k2.length=l2.length:=by rw [Aa HNA,Aa HNB];exact (Aa HNM).symm
  clear hrep hcs hms hokB hb5 hk1 hk2 CA hokA1 hA0 hBk;generalize hw6:w5.alloc (.cells #[.slice b1 k1.length d1,.slice b2 k2.length d2] 44)=w6 at *;have lA:=lt_of_block CA5;have lB:=lt_of_block CB;have hl6:=hokA2.2.2.1;simp only at hl6;have x0:w6.cell? ⟨w4.heap.size,0,none⟩=some (.slice a1 l1.length c1):=Ab CA5 0;have x1:w6.cell? ⟨w4.heap.size,1,none⟩=some (.slice a2 l2.length c2):=Ab CA5 1;have y0:w6.cell? ⟨w5.heap.size,0,none⟩=some (.slice b1 k1.length d1):=Ab CB 0;have y1:w6.cell? ⟨w5.heap.size,1,none⟩=some (.slice b2 k2.length d2):=Ab CB 1;rw [hnn] at y1;have HNN:=Ac hnn;clear hnn;go_wp2_with fail
  refine (Aa HS1 _).mono ?_;rintro e w7 ⟨rfl,hb7⟩;have hB7:=hB5'.trans (hb7.mono hB5'.size);go_wp2_with fail
  refine (Aa HS2 _).mono ?_;rintro e w8 ⟨rfl,hb8⟩;have hB8:=QB hB7 hb8;have CA8:=stay hb8 (stay hb7 CA5);have CB8:=stay hb8 (stay hb7 CB);have hokA8:=(hokA2.below hb7).below hb8;have hokB8:=(hokB1.below hb7).below hb8;clear hb7 hb8 hB7 CA5 CB hokA2 hokB1 x0 x1 y0 y1 lA lB hB5' hw6 hB5 hB4' hB4;go_wp2
  go_loopw [25] (fun v wr=>∃ i:Nat,i≤l2.length∧v=.int .i64 (i:Int)∧Below w.heap.size w wr∧wr.heap[w4.heap.size]?=some (.cells #[.slice a1 l1.length c1,.slice a2 l2.length c2] 44 (0,0))∧wr.heap[w5.heap.size]?=some (.cells #[.slice b1 k1.length d1,.slice b2 k2.length d2] 44 (0,0))∧Hid (RFl.ok ⟨a1,c1,a2,c2,w3.heap.size,l1,l2⟩ wr)∧Hid (RFl.ok ⟨b1,d1,b2,d2,(w4.alloc (.cells #[.slice a1 l1.length c1,.slice a2 l2.length c2] 44)).heap.size,k1,k2⟩ wr))
   (fun v _=>l2.length - (intOf v).toNat)
  case atStart=>exact ⟨0,by omega,rfl,hB8,CA8,CB8,hokA8,hokB8⟩
  case round =>
   clear hB8 CA8 CB8 hokA8 hokB8;obtain ⟨i,hi,rfl,hB,CA,CB,HOA,HOB⟩:=hrel;have hBs:=hB.size;have lA:=lt_of_block CA;have lB:=lt_of_block CB;have x0:wr.cell? ⟨w4.heap.size,0,none⟩=some (.slice a1 l1.length c1):=Ab CA 0;have x1:wr.cell? ⟨w4.heap.size,1,none⟩=some (.slice a2 l2.length c2):=Ab CA 1;have y1:wr.cell? ⟨w5.heap.size,1,none⟩=some (.slice b2 k2.length d2):=Ab CB 1;by_cases hin:i < l2.length
   ·have ib:(i:Int) < (l2.length:Int):=by omega
    have hin2:i < k2.length:=by rw [Aa HNN];exact hin
    obtain ⟨m1,gb,hgb',hgb,hc1,hm1⟩:=RFl.mth (Aa HOB) (k:=i) hin2;obtain ⟨m2,ga,hga',hga,hc2,hm2⟩:=RFl.mth (Aa HOA) (k:=i) hin;simp only at hgb' hga' hm1 hm2;have j1:i < F2.2.1.length:=by rw [← Aa HNB];exact hin2
    have j2:i < F1.2.1.length:=by rw [← Aa HNA];exact hin
    have e1:k2[i].1=F2.2.1[i]:=by
     have h2:(k2.map Prod.fst)[i]?=F2.2.1[i]?:=by rw [Aa HK2]
     simpa [hin2,j1] using h2
    have e2:l2[i].1=F1.2.1[i]:=by
     have h2:(l2.map Prod.fst)[i]?=F1.2.1[i]?:=by rw [Aa HL2]
     simpa [hin,j2] using h2
    rw [e1] at hm1;rw [e2] at hm2;have hlq:=Aa HLE ⟨a1,c1,a2,c2,w3.heap.size,l1,l2⟩ m1 m2 i j1 j2 _ wr.drew ((Aa HOA).below (Below.refl _ _).drew) (Aa HL1) (hm1.below (Below.refl _ _).drew) (hm2.below (Below.refl _ _).drew);obtain ⟨u0,u1,u2,u3,u4,u5,u6,u7,u8,u9,u10,u11⟩:=Ic hc1;obtain ⟨v0,v1,v2,v3,v4,v5,v6,v7,v8,v9,v10,v11⟩:=Ic hc2;obtain ⟨cl,nm,pa,pl,pc,r1,r2,lo,st,code,ha,hl,hc,ma,ml,mc,mAt,fin⟩:=m1;obtain ⟨cl',nm',pa',pl',pc',r1',r2',lo',st',code',ha',hl',hc',ma',ml',mc',mAt',fin'⟩:=m2;simp only [RFl.val,RMV.val] at hlq u0 u1 u2 u3 u4 u5 u6 u7 u8 u9 u10 u11 v0 v1 v2 v3 v4 v5 v6 v7 v8 v9 v10 v11;subst hgb' hga';rw [Aa HNN] at y1;have HLQ:=Ac hlq;have CA9:wr.drew.heap[w4.heap.size]?=_:=CA;have CB9:wr.drew.heap[w5.heap.size]?=_:=CB;clear hlq hc1 hc2 hm1 hm2 e1 e2 j1 j2 hin2;go_wp2
    go_region_held3 (fun w'=>w'.cell? ⟨w4.heap.size,0,none⟩=some (.slice a1 l1.length c1)∧w'.cell? ⟨w4.heap.size,1,none⟩=some (.slice (some ⟨ga,0,none⟩) l2.length c2)∧w'.cell? ⟨w5.heap.size,1,none⟩=some (.slice (some ⟨gb,0,none⟩) l2.length d2)∧w'.cell? ⟨gb,i * 12,none⟩=some (.int .i64 cl)∧w'.cell? ⟨gb,i * 12+1,none⟩=some (.int .i64 nm)∧w'.cell? ⟨gb,i * 12+2,none⟩=some (.slice pa pl pc)∧w'.cell? ⟨gb,i * 12+3,none⟩=some (.int .i64 r1)∧w'.cell? ⟨gb,i * 12+4,none⟩=some (.int .i64 r2)∧w'.cell? ⟨gb,i * 12+5,none⟩=some (.int .i64 lo)∧w'.cell? ⟨gb,i * 12+6,none⟩=some (.int .i64 st)∧w'.cell? ⟨gb,i * 12+7,none⟩=some (.string code)∧w'.cell? ⟨gb,i * 12+8,none⟩=some (.slice ha hl hc)∧w'.cell? ⟨gb,i * 12+9,none⟩=some (.slice ma ml mc)∧w'.cell? ⟨gb,i * 12+10,none⟩=some (.int .i64 mAt)∧w'.cell? ⟨gb,i * 12+11,none⟩=some (.int .i64 fin)∧w'.cell? ⟨ga,i * 12,none⟩=some (.int .i64 cl')∧w'.cell? ⟨ga,i * 12+1,none⟩=some (.int .i64 nm')∧w'.cell? ⟨ga,i * 12+2,none⟩=some (.slice pa' pl' pc')∧w'.cell? ⟨ga,i * 12+3,none⟩=some (.int .i64 r1')∧w'.cell? ⟨ga,i * 12+4,none⟩=some (.int .i64 r2')∧w'.cell? ⟨ga,i * 12+5,none⟩=some (.int .i64 lo')∧w'.cell? ⟨ga,i * 12+6,none⟩=some (.int .i64 st')∧w'.cell? ⟨ga,i * 12+7,none⟩=some (.string code')∧w'.cell? ⟨ga,i * 12+8,none⟩=some (.slice ha' hl' hc')∧w'.cell? ⟨ga,i * 12+9,none⟩=some (.slice ma' ml' mc')∧w'.cell? ⟨ga,i * 12+10,none⟩=some (.int .i64 mAt')∧w'.cell? ⟨ga,i * 12+11,none⟩=some (.int .i64 fin'))
     (first | exact ⟨x0,x1,y1,u0,u1,u2,u3,u4,u5,u6,u7,u8,u9,u10,u11,v0,v1,v2,v3,v4,v5,v6,v7,v8,v9,v10,v11⟩ | exact ⟨(hb9.cell lA).trans x0,(hb9.cell lA).trans x1,(hb9.cell lB).trans y1,(hb9.cell hgb).trans u0,(hb9.cell hgb).trans u1,(hb9.cell hgb).trans u2,(hb9.cell hgb).trans u3,(hb9.cell hgb).trans u4,(hb9.cell hgb).trans u5,(hb9.cell hgb).trans u6,(hb9.cell hgb).trans u7,(hb9.cell hgb).trans u8,(hb9.cell hgb).trans u9,(hb9.cell hgb).trans u10,(hb9.cell hgb).trans u11,(hb9.cell hga).trans v0,(hb9.cell hga).trans v1,(hb9.cell hga).trans v2,(hb9.cell hga).trans v3,(hb9.cell hga).trans v4,(hb9.cell hga).trans v5,(hb9.cell hga).trans v6,(hb9.cell hga).trans v7,(hb9.cell hga).trans v8,(hb9.cell hga).trans v9,(hb9.cell hga).trans v10,(hb9.cell hga).trans v11⟩)
     (first | (go_at_call 18;refine (Aa HLQ).mono ?_;rintro e w9 ⟨rfl,hb9⟩))
    have hBn:=hB.drew.trans (hb9.mono hBs);have CAn:=stay hb9 CA9;have CBn:=stay hb9 CB9;have HOAn:=Ac (((Aa HOA).below (Below.refl _ _).drew).below hb9);have HOBn:=Ac (((Aa HOB).below (Below.refl _ _).drew).below hb9);clear HLQ hb9 CA9 CB9 u0 u1 u2 u3 u4 u5 u6 u7 u8 u9 u10 u11 v0 v1 v2 v3 v4 v5 v6 v7 v8 v9 v10 v11;go_wp2
    go_roundw
    case rel=>exact ⟨i+1,by omega,by go_num,hBn,CAn,CBn,HOAn,HOBn⟩
    case measure=>simp [intOf];omega
   ·have ib:¬ (i:Int) < (l2.length:Int):=by omega
    go_wp2;go_ret;exact ⟨rfl,hB⟩
 ·have h':((Ck.all s.data.toList).1 != 0)=true:=by simpa using h
  generalize (Ck.all s.data.toList).1=z1 at *;generalize (Ck.all s.data.toList).2.1=z2 at *;generalize (Ck.all s.data.toList).2.2=z3 at *;have HC:=Ac hC;clear hC h;go_enter Tryz.func6,Tryz.ntmps6;go_wp2_with fail
  refine (Aa HF _).mono ?_;rintro e w0 ⟨rfl,hB0⟩;go_wp2_with fail
  refine (Aa HC _).mono ?_;rintro e w1 ⟨rfl,hb1⟩;have hB1:=QB hB0 hb1;go_wp2;go_ret;exact ⟨rfl,hB1⟩
end Go.Proofs.YtcefiamkoincoaaGreat
