/- a part of the proof in YtcefiamkoincoaaGreatStableProof -/
import Derived.Test.YtcefiamkoincoaaGreatPk22
set_option maxRecDepth 100000
set_option maxHeartbeats 40000000
namespace Go.Proofs.YtcefiamkoincoaaGreat
open Go.RowKit
theorem Tp {T c:List Int}{t:Int × Int} (h:Ck.tyOk T (Ck.isN c) t):Cd.framed T c t.1 t.2=true:=by
 obtain ⟨h,h4⟩:=h;unfold Cd.framed;rcases h with ⟨a,b⟩ | ⟨a,b⟩ | ⟨a,b⟩ | ⟨a,b⟩ | ⟨a,b⟩
 ·rw [if_pos (.inl a),b];rfl
 ·rw [if_pos (.inr (.inl a)),b];rfl
 ·rw [if_pos (.inr (.inr a)),b];rfl
 ·rw [if_neg (by omega),if_pos a];exact Dx.2 b
 ·rw [if_neg (by omega),if_neg (by omega),if_pos a];obtain ⟨h1,h2⟩:=h4 a;rw [h1,h2];rfl
theorem Sl {T c:List Int} (hT:T.length≤255) (hc:c.length≤255) {t:Int × Int} (h:Ck.tyOk T (Ck.isN c) t):TyB t:=by
 obtain ⟨h,h4⟩:=h;rcases h with ⟨a,b⟩ | ⟨a,b⟩ | ⟨a,b⟩ | ⟨a,b⟩ | ⟨a,b⟩
 ·exact ⟨⟨by omega,by omega⟩,⟨by omega,by omega⟩⟩
 ·exact ⟨⟨by omega,by omega⟩,⟨by omega,by omega⟩⟩
 ·exact ⟨⟨by omega,by omega⟩,⟨by omega,by omega⟩⟩
 ·exact ⟨⟨by omega,by omega⟩,⟨by omega,by omega⟩⟩
 ·have:=Eh (h4 a).1;exact ⟨⟨by omega,by omega⟩,⟨by omega,by omega⟩⟩
theorem Nd {T c:List Int}{l:List (Int × Int)} (h:∀ t∈l,Ck.tyOk T (Ck.isN c) t):Cd.frAll T c l=true:=by
 unfold Cd.frAll;rw [List.all_eq_true];exact fun t ht=>Tp (h t ht)
theorem He {T c:List Int}:∀ (l:List Ls.Sp) (k i:Nat) (last:Int),last < (k:Int)→(∀ j p,l[j]?=some p→p.wa=true→Cd.begB c ((k+j:Nat):Int)=true∧Cd.frAll T c p.fr.locals=true∧Cd.frAll T c p.fr.stack=true)→Cd.mapsBad T c i last (Ls.mapsOf k l) < 0
 | [],_,_,_,_,_=>by simp [Ls.mapsOf,Cd.mapsBad]
 | p :: r,k,i,last,hl,h=>by
  have hr:∀ j p',r[j]?=some p'→p'.wa=true→Cd.begB c ((k+1+j:Nat):Int)=true∧Cd.frAll T c p'.fr.locals=true∧Cd.frAll T c p'.fr.stack=true:=fun j p' h1 h2=>by
   have:=h (j+1) p' (by simpa using h1) h2
   rwa [show k+(j+1)=k+1+j by omega] at this
  unfold Ls.mapsOf;by_cases hw:p.wa=true
  ·obtain ⟨h1,h2,h3⟩:=h 0 p rfl hw;rw [if_pos hw,Cd.mapsBad];simp only;rw [if_neg (by rw [show ((k:Nat):Int)=((k+0:Nat):Int) by omega,h1];simp),if_neg (by omega),if_neg (by rw [h2];simp),if_neg (by rw [h3];simp)];exact He r (k+1) (i+1) _ (by omega) hr
  ·rw [if_neg hw];exact He r (k+1) i last (by omega) hr
theorem Km:∀ (l:List Ls.Sp) (k:Nat),(∀ q∈Ls.mapsOf k l,(k:Int)≤q.place)∧(Ls.mapsOf k l).Pairwise (fun a b=>a.place < b.place)
 | [],_=>by simp [Ls.mapsOf]
 | p :: r,k=>by
  obtain ⟨h1,h2⟩:=Km r (k+1);unfold Ls.mapsOf;by_cases hw:p.wa=true
  ·rw [if_pos hw];refine ⟨fun q hq=>?_,List.pairwise_cons.2 ⟨fun q hq=>?_,h2⟩⟩
   ·rcases List.mem_cons.1 hq with rfl | hq
    ·exact Int.le_refl _
    ·have:=h1 q hq;omega
   ·have:=h1 q hq;show (k:Int) < q.place;omega
  ·rw [if_neg hw];exact ⟨fun q hq=>by have:=h1 q hq;omega,h2⟩
theorem My {α:Type} [BEq α] [LawfulBEq α]:∀ (l r:List α),l.Nodup→(∀ x∈l,x∈r)→l.length≤r.length
 | [],_,_,_=>Nat.zero_le _
 | x :: l,r,hn,h=>by
  have hx:=h x (by simp);obtain ⟨h1,h2⟩:=List.nodup_cons.1 hn;have:=My l (r.erase x) h2 (fun y hy=>(List.mem_erase_of_ne (fun e=>h1 (by rw [← e];exact hy))).2 (h y (by simp [hy])));have e:=List.length_erase_of_mem hx;have:0 < r.length:=List.length_pos_of_mem hx;simp only [List.length_cons];omega
theorem Me (c:List Int):∀ (k p:Nat),(∀ q∈Cd.starts c k p,q+Cd.wd (c.getD q 0)≤c.length)→p≤c.length→2 * ((Cd.starts c k p).filter (fun q=>Ck.jumps (c.getD q 0))).length+p≤c.length
 | 0,p,_,hp=>by simp [Cd.starts];exact hp
 | k+1,p,h,hp=>by
  unfold Cd.starts at h ⊢;by_cases hl:p < c.length
  ·rw [if_pos hl] at h ⊢;have hw:=h p (by simp);have hb:=Cd.wd_bd (c.getD p 0);have ih:=Me c k (p+Cd.wd (c.getD p 0)) (fun q hq=>h q (List.mem_cons_of_mem _ hq)) hw;rw [List.filter_cons];by_cases hj:Ck.jumps (c.getD p 0)=true
   ·have h2:Cd.wd (c.getD p 0)=2:=by
     generalize c.getD p 0=op at *;unfold Ck.jumps at hj;have hop:op=11∨op=12∨op=13∨op=14:=by simpa using hj
     unfold Cd.wd;rw [if_pos (by omega)]
    rw [if_pos hj,List.length_cons];omega
   ·rw [if_neg hj];omega
  ·rw [if_neg hl]
   simpa using hp
theorem Tk {cs:List Rd.Cls}{ms:List Rd.Mth} (k:Fm.Ok cs ms) {m:Rd.Mth} (hm:m∈ms) (hc:0 < m.code.length) {mp:List Rd.Mp} (h:Ls.mapsFor cs ms m=some mp) :
  mp.length≤64∧(∀ q∈mp,MpB m.locals m.stack q)∧Cd.mapsBad (Tr.tree cs) m.code 0 (-1) mp < 0:=by
 have g:=k.mt m hm;have gE:=Dc k hm hc;obtain ⟨hL,hA⟩:=Ds k hm;obtain ⟨f1,f2⟩:=Je k hm hc h;obtain ⟨s1,s2,s3,_⟩:=Di gE hL hA;have hTl:=Bj cs;have hl6:=k.l6;have h120:=g.bd.code;have hlo:=g.rd.lo;unfold Ls.mapsFor at h;by_cases hh:(Ls.state cs ms m).hop=true
 ·rw [if_pos hh] at h;cases h
 rw [if_neg hh] at h;cases h;have hh':(Ls.state cs ms m).hop=false:=by simpa using hh
 obtain ⟨sol,inps,aim⟩:=s3 hh';have want:∀ q,((Ls.state cs ms m).at q).wa=true→((Ls.state cs ms m).at q).st=true∧Ck.P (Tr.tree cs) m ((Ls.state cs ms m).at q).fr:=fun q hq=>Do gE hL hA hh' hq;have at_eq:∀ (j:Nat) p,(Ls.state cs ms m).sp[j]?=some p→(Ls.state cs ms m).at j=p:=fun j p hj=>by unfold Ls.S.at;rw [List.getD_eq_getElem?_getD,hj];rfl
 refine ⟨?_,fun q hq=>?_,?_⟩
 ·have hn:((Ls.mapsOf 0 (Ls.state cs ms m).sp).map Rd.Mp.place).Nodup:=by
   have:=(Km (Ls.state cs ms m).sp 0).2;refine List.pairwise_map.2 (this.imp ?_);intro a b hab e;omega
  have hsub:∀ x∈(Ls.mapsOf 0 (Ls.state cs ms m).sp).map Rd.Mp.place,x∈m.handlers.map Rd.Hnd.target ++ ((Cd.places m.code).filter (fun q=>Ck.jumps (m.code.getD q 0))).map (fun p:Nat=>Cd.atI m.code ((p:Int)+1)):=by
   intro x hx;obtain ⟨q,hq,rfl⟩:=List.mem_map.1 hx;obtain ⟨i,p,e1,e2,rfl⟩:=Ff _ _ _ hq;have e3:=at_eq i p e1;obtain ⟨p',hp',hF,ha⟩:=(aim i).1 (by show ((Ls.state cs ms m).at i).wa=true;rw [e3];exact e2);simp only [Nat.zero_add];rcases ha with ⟨h',hh2,hcov,et⟩ | ⟨hj,et⟩
   ·refine List.mem_append.2 (.inl (List.mem_map.2 ⟨h',hh2,?_⟩));have:=(gE.hnd h' hh2).1;omega
   ·refine List.mem_append.2 (.inr (List.mem_map.2 ⟨p',List.mem_filter.2 ⟨hp',hj⟩,?_⟩));have h0:0≤Cd.atI m.code ((p':Int)+1):=(gE.tgt p' hp' hj).1;have et':(Cd.atI m.code ((p':Int)+1)).toNat=i:=et;omega
  have hle:=My _ _ hn hsub;have hf:=Me m.code m.code.length 0 (fun q hq=>(Cq g.unread q hq).2) (Nat.zero_le _);have h4:=g.bd.hs;change 2 * ((Cd.places m.code).filter (fun q=>Ck.jumps (m.code.getD q 0))).length+0≤m.code.length at hf;simp only [List.length_append,List.length_map] at hle;omega
 ·obtain ⟨q0,q1,hP⟩:=f2 q hq;have l1:=hP.lo;have l2:=hP.hi;simp only at l1 l2;exact ⟨⟨q0,by omega⟩,by omega,l2,fun t ht=>Sl (by omega) (by omega) (hP.tl t ht),fun t ht=>Sl (by omega) (by omega) (hP.ts t ht)⟩
 ·refine He _ 0 0 (-1) (by omega) (fun j p e1 e2=>?_);have e3:=at_eq j p e1;obtain ⟨w1,w2⟩:=want j (by rw [e3];exact e2);rw [e3] at w1 w2;have hps:j∈Cd.places m.code:=inps j (by
   have:(Ls.state cs ms m).F j=some p.fr:=Bv.2 ⟨by rw [e3];exact w1,by rw [e3]⟩;show (Ls.state cs ms m).F j ≠ none;rw [this];simp)
  refine ⟨?_,Nd w2.tl,Nd w2.ts⟩;rw [Nat.zero_add];unfold Cd.begB;rw [List.any_eq_true];exact ⟨j,hps,by simp⟩
theorem Jg {FM FM':Rd.Mth→Option (List Rd.Mp)}:∀ (r ms:List Rd.Mth) (k:Nat),r.map Rd.Mth.bare=ms.map Rd.Mth.bare→(∀ m'∈r,∀ m∈ms,m.bare=m'.bare→FM' m'=FM m)→Ls.filled FM' r=Ls.filled FM ms∧Ls.which FM' k r=Ls.which FM k ms
 | [],[],_,_,_=>⟨rfl,rfl⟩
 | [],_ :: _,_,h,_=>by simp at h
 | _ :: _,[],_,h,_=>by simp at h
 | m' :: r,m :: ms,k,h,hf=>by
  simp only [List.map_cons,List.cons.injEq] at h;have e:=hf m' (by simp) m (by simp) h.1.symm;obtain ⟨i1,i2⟩:=Jg r ms (k+1) h.2 (fun x hx y hy=>hf x (by simp [hx]) y (by simp [hy]));have ew:∀ mp,m'.withMaps mp=m.withMaps mp:=fun mp=>by
   have:m'.bare.withMaps mp=m.bare.withMaps mp:=by rw [h.1]
   exact this
  unfold Ls.filled Ls.which;rw [e,i1,i2];refine ⟨?_,rfl⟩;cases FM m with
  | none=>rfl
  | some mp=>simp only [ew]
theorem Jn {FM:Rd.Mth→Option (List Rd.Mp)}:∀ (ms r:List Rd.Mth),Ls.filled FM ms=some r→r.map Rd.Mth.bare=ms.map Rd.Mth.bare
 | [],r,h=>by cases h;rfl
 | m :: ms,r,h=>by
  unfold Ls.filled at h;cases hf:FM m with
  | none=>rw [hf] at h;cases h
  | some mp =>
   rw [hf] at h;simp only at h;cases hr:Ls.filled FM ms with
   | none=>rw [hr] at h;cases h
   | some r' =>
    rw [hr] at h;cases h;simp only [List.map_cons,Jn ms r' hr];rfl
structure Alike (s p:List UInt8) (r:List Rd.Mth):Prop where
 s0:(Rf.formed s).1=0
 rd:Rd.read p=(⟨(Rd.read s).1.classes,r⟩,0)
 p0:(Rf.formed p).1=0
 eq:r.map Rd.Mth.bare=(Rd.read s).1.methods.map Rd.Mth.bare
theorem Alike.mapsFor {s p:List UInt8}{r:List Rd.Mth} (h:Alike s p r) {m' m:Rd.Mth} (h':m'∈r) (hm:m∈(Rd.read s).1.methods) (e:m.bare=m'.bare):Ls.mapsFor (Rd.read s).1.classes r m'=Ls.mapsFor (Rd.read s).1.classes (Rd.read s).1.methods m:=by
 obtain ⟨k,_,_⟩:=Bk _ h.s0;obtain ⟨k',_,_⟩:=Bk _ h.p0;have hcs:=Dy _ (Cg h.s0);have hcp:=Dy _ (Cg h.p0);rw [h.rd] at k' hcp;rw [In k hm (hcs m hm),In k' h' (hcp m' h')];unfold Lr.for;rw [N2 h.eq e]
theorem Alike.prep {s p:List UInt8}{r:List Rd.Mth} (h:Alike s p r):Ls.prep p=Ls.prep s:=by
 unfold Ls.prep;rw [if_neg (fun g=>g h.p0),if_neg (fun g=>g h.s0),h.rd];simp only;obtain ⟨e1,e2⟩:=Jg (FM:=Ls.mapsFor (Rd.read s).1.classes (Rd.read s).1.methods) (FM':=Ls.mapsFor (Rd.read s).1.classes r) r (Rd.read s).1.methods 0 h.eq (fun m' h' m hm e=>h.mapsFor h' hm e);rw [e1,e2]
theorem Rw {s:List UInt8} (h:(Rf.formed s).1=0):Alike s (Wr.fil (Rd.Fil.bare (Rd.read s).1)) ((Rd.read s).1.methods.map Rd.Mth.bare):=by
 have e:((Rd.read s).1.methods.map Rd.Mth.bare).map Rd.Mth.bare=(Rd.read s).1.methods.map Rd.Mth.bare:=by rw [List.map_map];rfl
 obtain ⟨h1,h2⟩:=H8 h e (fun m hm=>by
  obtain ⟨m0,_,rfl⟩:=List.mem_map.1 hm;exact ⟨Nat.zero_le _,fun q hq=>by simp [Rd.Mth.bare] at hq,by simp [Rd.Mth.bare,Cd.mapsBad]⟩)
 exact ⟨h,h1,h2,e⟩
theorem H6 {s:List UInt8} (h:(Rf.formed s).1=0) {r:List Rd.Mth} (hr:Ls.filled (Ls.mapsFor (Rd.read s).1.classes (Rd.read s).1.methods) (Rd.read s).1.methods=some r):Alike s (Wr.fil ⟨(Rd.read s).1.classes,r⟩) r:=by
 have e:=Jn _ _ hr;obtain ⟨k,_,_⟩:=Bk _ h;have hcs:=Dy _ (Cg h);obtain ⟨h1,h2⟩:=H8 h e (fun m hm=>by
  obtain ⟨m0,h0,mp,hmp,rfl⟩:=(Ec _ _ hr).2 m hm;exact Tk k h0 (hcs m0 h0) hmp)
 exact ⟨h,h1,h2,e⟩
theorem Of:∀ (l:List Ls.Sp) (k i:Nat) (p:Ls.Sp),l[i]?=some p→p.wa=true→Ck.mapAt ((k+i:Nat):Int) (Ls.mapsOf k l)=some p.fr
 | [],_,_,_,h,_=>by simp at h
 | x :: r,k,0,p,h,hw=>by
  simp only [List.getElem?_cons_zero,Option.some.injEq] at h;subst h;unfold Ls.mapsOf;rw [if_pos hw,Ck.mapAt]
  simp
 | x :: r,k,i+1,p,h,hw=>by
  have ih:=Of r (k+1) i p (by simpa using h) hw;rw [show k+1+i=k+(i+1) by omega] at ih;unfold Ls.mapsOf
  split
  ·rw [Ck.mapAt,if_neg (by simp only;omega)];exact ih
  ·exact ih
theorem Jt:∀ (l:List Ls.Sp) (k q:Nat) (z:Ck.Fr),Ck.mapAt (q:Int) (Ls.mapsOf k l)=some z→∃ i p,l[i]?=some p∧q=k+i∧p.wa=true∧p.fr=z
 | [],_,_,_,h=>by simp [Ls.mapsOf,Ck.mapAt] at h
 | x :: r,k,q,z,h=>by
  unfold Ls.mapsOf at h;by_cases hw:x.wa=true
  ·rw [if_pos hw,Ck.mapAt] at h;by_cases e:(k:Int)=(q:Int)
   ·rw [if_pos e] at h;exact ⟨0,x,rfl,by omega,hw,Option.some.inj h⟩
   ·rw [if_neg e] at h;obtain ⟨i,p,h1,h2,h3⟩:=Jt r (k+1) q z h;exact ⟨i+1,p,by simpa using h1,by omega,h3⟩
  ·rw [if_neg hw] at h;obtain ⟨i,p,h1,h2,h3⟩:=Jt r (k+1) q z h;exact ⟨i+1,p,by simpa using h1,by omega,h3⟩
theorem Ji {CR:Rd.Mth→Int × Int}:∀ (l:List Rd.Mth) (k:Nat),(Ck.firstOf CR k l).1=0↔∀ m∈l,(CR m).1=0
 | [],_=>by simp [Ck.firstOf]
 | m :: r,k=>by
  unfold Ck.firstOf;by_cases h:(CR m).1=0
  ·rw [if_neg (fun g=>g h),Ji r (k+1)];simp [h]
  ·rw [if_pos h]
   constructor
   ·intro g;exact absurd g h
   ·intro g;exact absurd (g m (by simp)) h
theorem V8 {s:List UInt8} (h:(Rf.formed s).1=0):(Ck.all s).1=0↔∀ m∈(Rd.read s).1.methods,(Ck.mChecked (Rd.read s).1.classes (Rd.read s).1.methods m).1=0:=by
 unfold Ck.all Ck.check;rw [if_neg (fun g=>g h)];exact Ji _ _
theorem La {s:List UInt8} (h:(Rf.formed s).1=0) {r:List Rd.Mth} (hr:Ls.filled (Ls.mapsFor (Rd.read s).1.classes (Rd.read s).1.methods) (Rd.read s).1.methods=some r):(Ck.all (Wr.fil ⟨(Rd.read s).1.classes,r⟩)).1=0:=by
 have al:=H6 h hr;rw [V8 al.p0,al.rd];intro m' hm';simp only at hm';obtain ⟨m,hm,mp,hmp,rfl⟩:=(Ec _ _ hr).2 m' hm';obtain ⟨k,_,_⟩:=Bk _ h;obtain ⟨k',_,_⟩:=Bk _ al.p0;rw [al.rd] at k';have hc:=Dy _ (Cg h) m hm;have gE:=Dc k hm hc;obtain ⟨hL,hA⟩:=Ds k hm;have eE:Ls.env (Rd.read s).1.classes r (m.withMaps mp)=Ls.env (Rd.read s).1.classes (Rd.read s).1.methods m:=N2 al.eq rfl;unfold Ls.mapsFor at hmp;by_cases hh:(Ls.state (Rd.read s).1.classes (Rd.read s).1.methods m).hop=true
 ·rw [if_pos hh] at hmp;cases hmp
 rw [if_neg hh] at hmp;cases hmp;have hh':(Ls.state (Rd.read s).1.classes (Rd.read s).1.methods m).hop=false:=by simpa using hh
 obtain ⟨_,_,s3,_⟩:=Di gE hL hA;obtain ⟨sol,_,aim⟩:=s3 hh';have at_eq:∀ (j:Nat) p,(Ls.state (Rd.read s).1.classes (Rd.read s).1.methods m).sp[j]?=some p→(Ls.state (Rd.read s).1.classes (Rd.read s).1.methods m).at j=p:=fun j p hj=>by unfold Ls.S.at;rw [List.getD_eq_getElem?_getD,hj];rfl
 refine Ph k' hm' hc (F:=(Ls.state (Rd.read s).1.classes (Rd.read s).1.methods m).F) (by rw [eE];exact sol) (fun q z hz=>?_) (fun p hp hne q ha=>?_)
 ·obtain ⟨i,x,h1,h2,h3,h4⟩:=Jt _ _ _ _ hz;have e3:=at_eq i x h1;have hw:=Do gE hL hA hh' (q:=i) (by show ((Ls.state (Rd.read s).1.classes (Rd.read s).1.methods m).at i).wa=true;rw [e3];exact h3);have hst:((Ls.state (Rd.read s).1.classes (Rd.read s).1.methods m).at i).st=true:=hw.1;rw [h2,Nat.zero_add];exact Bv.2 ⟨hst,by rw [e3];exact h4⟩
 ·rw [eE] at ha;have hw:((Ls.state (Rd.read s).1.classes (Rd.read s).1.methods m).at q).wa=true:=(aim q).2 ⟨p,hp,hne,ha⟩;have hst:=(Do gE hL hA hh' (q:=q) hw).1;have hlt:q < (Ls.state (Rd.read s).1.classes (Rd.read s).1.methods m).sp.length:=Wv hst;have hg:=List.getElem?_eq_getElem hlt;have e3:=at_eq q _ hg;have:=Of _ 0 q _ hg (by rw [← e3];exact hw);rw [Nat.zero_add] at this;exact ⟨_,this⟩
theorem Yj (s:List UInt8) (i L H:Int) (hi:0≤i) (hL:0≤L) (h:0≤(Rf.mps s i L H).2):i+1≤(Rf.mps s i L H).2:=by
 unfold Rf.mps at h ⊢;by_cases h1:Rf.cnt s i 0 64 < 0
 ·rw [if_pos h1] at h;simp at h
 ·rw [if_neg h1] at h ⊢;exact Po (Rf.mp s L H) (fun j hj hjj=>by
   unfold Rf.mp at hjj ⊢;by_cases h2:Rf.cnt s (j+1+2 * L) 0 H < 0
   ·rw [if_pos h2] at hjj;simp at hjj
   ·rw [if_neg h2];simp only;omega) _ (i+1) (by omega) h
theorem X9 (s:List UInt8) (i:Int) (_hi:0≤i) (h:0≤(Rf.mth s i).2):(Rf.mth s i).1.mapsAt+1≤(Rf.mth s i).1.fin:=by
 unfold Rf.mth at h ⊢;dsimp only at h ⊢;have n1:¬ (0:Int)≤-1:=by omega
 by_cases h1:Rf.cnt s (i+2) 0 4 < 0
 ·rw [if_pos h1] at h;exact absurd h n1
 rw [if_neg h1] at h ⊢;by_cases h2:Rf.cnt s (i+3+2 * Rf.cnt s (i+2) 0 4+2) 0 8 < 0
 ·rw [if_pos h2] at h;exact absurd h n1
 rw [if_neg h2] at h ⊢;by_cases h3:Rf.cnt s (i+3+2 * Rf.cnt s (i+2) 0 4+3) 0 8 < 0
 ·rw [if_pos h3] at h;exact absurd h n1
 rw [if_neg h3] at h ⊢;by_cases h4:Rf.cnt s (i+3+2 * Rf.cnt s (i+2) 0 4+4) 1 120 < 0
 ·rw [if_pos h4] at h;exact absurd h n1
 rw [if_neg h4] at h ⊢;by_cases h5:(s.length:Int) < i+3+2 * Rf.cnt s (i+2) 0 4+5+Rf.cnt s (i+3+2 * Rf.cnt s (i+2) 0 4+4) 1 120
 ·rw [if_pos h5] at h;exact absurd h n1
 rw [if_neg h5] at h ⊢;by_cases h6:(Rf.hnds s (i+3+2 * Rf.cnt s (i+2) 0 4+5+Rf.cnt s (i+3+2 * Rf.cnt s (i+2) 0 4+4) 1 120)).2 < 0
 ·rw [if_pos h6] at h;exact absurd h n1
 rw [if_neg h6] at h ⊢;simp only at h ⊢;exact Yj s _ _ _ (by omega) (by omega) h
theorem Yc (s:List UInt8) (n:Nat) (i:Int) (hi:0≤i) (h:0≤(Rf.rep (Rf.mth s) n i).2):∀ x∈(Rf.rep (Rf.mth s) n i).1,x.mapsAt+1≤x.fin:=by
 induction n with
 | zero=>simp [Rf.rep]
 | succ k ih =>
  unfold Rf.rep at h ⊢;by_cases h1:(Rf.rep (Rf.mth s) k i).2 < 0
  ·rw [if_pos h1] at h;simp at h
  ·rw [if_neg h1] at h ⊢;by_cases h2:(Rf.mth s (Rf.rep (Rf.mth s) k i).2).2 < 0
   ·rw [if_pos h2] at h;simp at h
   ·rw [if_neg h2] at h ⊢;simp only at h ⊢;intro x hx;rcases List.mem_append.1 hx with hx | hx
    ·exact ih (by omega) x hx
    ·rw [List.mem_singleton.1 hx];exact X9 s _ (by omega) h
theorem Yl (s:List UInt8) (h:(Rf.fil s).2.2=(s.length:Int)):∀ x∈(Rf.fil s).2.1,x.mapsAt+1≤x.fin:=by
 unfold Rf.fil at h ⊢;have n1:¬ (-1:Int)=(s.length:Int):=by omega
 by_cases h1:Rf.at' s 0 ≠ 83
 ·rw [if_pos h1] at h;exact absurd h n1
 rw [if_neg h1] at h ⊢;by_cases h2:Rf.at' s 1 ≠ 77
 ·rw [if_pos h2] at h;exact absurd h n1
 rw [if_neg h2] at h ⊢;by_cases h3:Rf.cnt s 2 0 6 < 0
 ·rw [if_pos h3] at h;exact absurd h n1
 rw [if_neg h3] at h ⊢;dsimp only at h ⊢;by_cases h4:(Rf.rep (Rf.cls s) (Rf.cnt s 2 0 6).toNat 3).2 < 0
 ·rw [if_pos h4] at h;exact absurd h n1
 rw [if_neg h4] at h ⊢;by_cases h5:Rf.cnt s (Rf.rep (Rf.cls s) (Rf.cnt s 2 0 6).toNat 3).2 1 6 < 0
 ·rw [if_pos h5] at h;exact absurd h n1
 rw [if_neg h5] at h ⊢;by_cases h6:(Rf.rep (Rf.mth s) (Rf.cnt s (Rf.rep (Rf.cls s) (Rf.cnt s 2 0 6).toNat 3).2 1 6).toNat ((Rf.rep (Rf.cls s) (Rf.cnt s 2 0 6).toNat 3).2+1)).2 < 0
 ·rw [if_pos h6] at h;exact absurd h n1
 rw [if_neg h6] at h ⊢;simp only at h ⊢;exact Yc s _ _ (by omega) (by omega)
theorem Nk (s:ByteArray):∀ (ms:List Rf.Mth) (out:ByteArray) (i j:Int),0≤i→i≤j→Rf.chain (s.size:Int) j ms→(∀ x∈ms,x.mapsAt+1≤x.fin)→((Rf.strip s out i ms).size:Int)≤(out.size:Int)+((s.size:Int) - i)
 | [],out,i,j,h0,h1,hc,_=>by
  rw [Rf.chain] at hc;rw [Rf.strip,ByteArray.size_append,ByteArray.size_extract];omega
 | x :: r,out,i,j,h0,h1,hc,hx=>by
  obtain ⟨c1,c2,c3⟩:=hc;have g:=hx x (by simp);have c4:=Nv c3;have ih:=Nk s r ((out ++ s.extract i.toNat x.mapsAt.toNat) ++ ⟨#[0]⟩) x.fin x.fin (by omega) (Int.le_refl _) c3 (fun y hy=>hx y (by simp [hy]));rw [Rf.strip];have e:(((out ++ s.extract i.toNat x.mapsAt.toNat) ++ ⟨#[0]⟩).size:Int)≤(out.size:Int)+(x.mapsAt - i)+1:=by
   rw [ByteArray.size_append,ByteArray.size_append,ByteArray.size_extract];have:(ByteArray.mk #[0]).size=1:=rfl;omega
  omega
theorem P4 (s:ByteArray) (h:(Rf.formed s.data.toList).1=0):(Wr.fil (Rd.Fil.bare (Rd.read s.data.toList).1)).length≤s.size:=by
 obtain ⟨hf,hl⟩:=Hs _ h;obtain ⟨i',h0,hch⟩:=Ms _ hf;simp only [Array.length_toList,ByteArray.size_data] at hch;have:=Nk s _ ⟨#[]⟩ 0 i' (by omega) h0 hch (Yl _ hf);have e:=Eg s h;unfold Rf.stripD at e;rw [if_neg (fun g=>g h)] at e;rw [e] at this;have e2:(⟨(Wr.fil (Rd.Fil.bare (Rd.read s.data.toList).1)).toArray⟩:ByteArray).size=(Wr.fil (Rd.Fil.bare (Rd.read s.data.toList).1)).length:=by show Array.size _=_;simp
 have e3:(ByteArray.mk #[]).size=0:=rfl;omega
structure Lt.Stb (s S P:ByteArray) (e k:Int):Prop where
 s1:Rf.stripD s=S
 p1:Ls.prep s.data.toList=(P.data.toList,e,k)
 f2:(Rf.formed S.data.toList).1=0
 p2:Ls.prep S.data.toList=(P.data.toList,e,k)
 s2:Rf.stripD S=S
 ne:S.size ≠ 0
 le:S.size≤s.size
 sz:P.size≤15000
 e0:e=0∨(e=10∧P=⟨#[]⟩)
 p3:e=0→∃ k',Ls.prep P.data.toList=(P.data.toList,0,k')
 s3:e=0→Rf.stripD P=S∧(Rf.formed P.data.toList).1=0
 c3:e=0→(Ck.all P.data.toList).1=0
theorem Od (s:ByteArray) (h:(Rf.formed s.data.toList).1=0):∃ S P e k,Lt.Stb s S P e k:=by
 have al:=Rw h;have hB:=Eg s h;have hsz:(⟨(Wr.fil (Rd.Fil.bare (Rd.read s.data.toList).1)).toArray⟩:ByteArray).size=(Wr.fil (Rd.Fil.bare (Rd.read s.data.toList).1)).length:=by show Array.size _=_;simp
 have hbb:∀ (f:Rd.Fil),Rd.Fil.bare (Rd.Fil.bare f)=Rd.Fil.bare f:=fun f=>by unfold Rd.Fil.bare;simp only [List.map_map];rfl
 have hrd:(Rd.read (Wr.fil (Rd.Fil.bare (Rd.read s.data.toList).1))).1=Rd.Fil.bare (Rd.read s.data.toList).1:=by rw [al.rd];rfl
 have hs2:Rf.stripD ⟨(Wr.fil (Rd.Fil.bare (Rd.read s.data.toList).1)).toArray⟩=⟨(Wr.fil (Rd.Fil.bare (Rd.read s.data.toList).1)).toArray⟩:=by
  rw [Eg _ (by simpa using al.p0)];simp only;rw [hrd,hbb]
 have hne:(Wr.fil (Rd.Fil.bare (Rd.read s.data.toList).1)).length ≠ 0:=by unfold Wr.fil Wr.front;simp
 cases hfl:Ls.filled (Ls.mapsFor (Rd.read s.data.toList).1.classes (Rd.read s.data.toList).1.methods) (Rd.read s.data.toList).1.methods with
 | none =>
  have hp:Ls.prep s.data.toList=([],10,Ls.which (Ls.mapsFor (Rd.read s.data.toList).1.classes (Rd.read s.data.toList).1.methods) 0 (Rd.read s.data.toList).1.methods):=by
   unfold Ls.prep;rw [if_neg (fun g=>g h),hfl]
  exact ⟨_,⟨#[]⟩,_,_,hB,hp,al.p0,al.prep.trans hp,hs2,by rw [hsz];exact hne,by rw [hsz];exact P4 s h,Nat.zero_le _,.inr ⟨rfl,rfl⟩,fun g=>by omega,fun g=>by omega,fun g=>by omega⟩
 | some r =>
  have hp:Ls.prep s.data.toList=(Wr.fil ⟨(Rd.read s.data.toList).1.classes,r⟩,0,0):=by
   unfold Ls.prep;rw [if_neg (fun g=>g h),hfl]
  have al2:=H6 h hfl;have hs3:Rf.stripD ⟨(Wr.fil ⟨(Rd.read s.data.toList).1.classes,r⟩).toArray⟩=⟨(Wr.fil (Rd.Fil.bare (Rd.read s.data.toList).1)).toArray⟩:=by
   rw [Eg _ (by simpa using al2.p0)];simp only;rw [al2.rd];unfold Rd.Fil.bare;simp only;rw [al2.eq]
  have hsz2:(⟨(Wr.fil ⟨(Rd.read s.data.toList).1.classes,r⟩).toArray⟩:ByteArray).size≤15000:=by
   have e:=(Hs _ al2.p0).2;show Array.size _≤_
   simpa using e
  exact ⟨_,⟨(Wr.fil ⟨(Rd.read s.data.toList).1.classes,r⟩).toArray⟩,0,0,hB,hp,al.p0,al.prep.trans hp,hs2,by rw [hsz];exact hne,by rw [hsz];exact P4 s h,hsz2,.inl rfl,fun _=>⟨0,al2.prep.trans hp⟩,fun _=>⟨hs3,al2.p0⟩,fun _=>La h hfl⟩
def Lt.bareB:ByteArray:=⟨#[83,77,0,1,255,0,0,0,0,1,2,19,24,3,0,2,0,25,2,0,0,1,8,5,3,0,12,18,11,3,22,0,0]⟩
def Lt.mapB:ByteArray:=⟨#[83,77,0,1,255,0,0,0,0,1,2,19,24,3,0,2,0,25,2,0,0,1,8,5,3,0,12,18,11,3,22,0,2,3,1,0,0,18,1,0,0]⟩
theorem Oj:(Rf.formed Lt.mapB.data.toList).1=0:=by decide +kernel
theorem Tn:(Ck.all Lt.mapB.data.toList).1=0:=by decide +kernel
theorem Wi:Ls.prep Lt.bareB.data.toList=(Lt.mapB.data.toList,0,0):=by decide +kernel
theorem Tm:Rf.stripD Lt.mapB=Lt.bareB:=by
 rw [Eg _ Oj];apply Ug
 decide +kernel
theorem M7 (b:ByteArray):(⟨b.data.toList.toArray⟩:ByteArray)=b:=by cases b;simp
theorem Qt (w:World):Calls Tryz.prog 8 #[] w fun e w'=>e=.returned (.bool true)∧Below w.heap.size w w':=by
 have hC:=fun w=>Md Lt.mapB w (by decide);have hP:=fun w=>Ev Lt.bareB w (by decide);have hS:=fun w=>Ge Lt.mapB w (by decide);rw [Wi,M7] at hP;rw [Tm,Oj] at hS;rw [Tn] at hC;generalize (Ck.all Lt.mapB.data.toList).2.1=c1 at *;generalize (Ck.all Lt.mapB.data.toList).2.2=c2 at *;simp only [Lt.mapB,Lt.bareB] at hC hP hS;have HC:=Ac hC;have HP:=Ac hP;have HS:=Ac hS;clear hC hP hS;go_enter Tryz.func8,Tryz.ntmps8;go_wp2_with fail
 refine (Aa HC _).mono ?_;rintro e w1 ⟨rfl,hb1⟩;go_wp2_with fail
 refine (Aa HP _).mono ?_;rintro e w2 ⟨rfl,hb2⟩;have hB2:=Bon hb1 hb2;go_wp2_with fail
 refine (Aa HS _).mono ?_;rintro e w3 ⟨rfl,hb3⟩;have hB3:=Bon hB2 hb3;go_wp2;go_ret;exact ⟨by simp,hB3⟩
theorem Qe (s:ByteArray) (w:World) (hs:s.size≤maxLen) :
  Calls Tryz.prog 4 #[.string s] w fun e w'=>e=.returned (.bool true)∧Below w.heap.size w w':=by
 have hP:=fun w=>Ev s w hs;have hS:=fun w=>Ge s w hs;have hF:=fun w=>Qt w;have HF:=Ac hF;clear hF;by_cases h0:(Rf.formed s.data.toList).1=0
 ·obtain ⟨S,P,e,k,st⟩:=Od s h0;have hl:S.size≤maxLen:=Nat.le_trans st.le hs;have hP2:=fun w=>Ev S w hl;have hS2:=fun w=>Ge S w hl;have hlP:P.size≤maxLen:=Nat.le_trans st.sz (by unfold maxLen;omega);have hP3:=fun w=>Ev P w hlP;have hS3:=fun w=>Ge P w hlP;have hC3:=fun w=>Md P w hlP;rw [st.p1,M7] at hP;rw [st.p2,M7] at hP2;rw [st.s1,h0] at hS;rw [st.s2,st.f2] at hS2;simp only at hP hP2;have hne:=st.ne;have hle:=st.le;have e0:=st.e0;have p3:=st.p3;have s3:=st.s3;have c3:=st.c3;have g1:S.toList.isEmpty=false:=by
   rw [ByteArray.toList_eq];cases hl:S.data.toList with
   | nil=>exact absurd (by rw [← ByteArray.size_data,← Array.length_toList,hl];rfl) hne
   | cons _ _=>rfl
  have g2:¬ (s.size:Int) < (S.size:Int):=by omega
  have HP:=Ac hP;have HS:=Ac hS;have HP2:=Ac hP2;have HS2:=Ac hS2;have HP3:=Ac hP3;have HS3:=Ac hS3;have HC3:=Ac hC3;clear hP hS hP2 hS2 hP3 hS3 hC3 st hne hle;rcases e0 with rfl | ⟨rfl,rfl⟩
  ·obtain ⟨k',q3⟩:=p3 rfl;obtain ⟨q4,q5⟩:=s3 rfl;have q6:=c3 rfl;have HP3':Hid (∀ w,Calls Tryz.prog 9 #[.string P] w fun e w'=>e=.returned (.tuple #[.string P,.int .i64 0,.int .i64 k'])∧Below w.heap.size w w'):=by
    have:=Aa HP3;rw [q3,M7] at this;exact this
   have HS3':Hid (∀ w,Calls Tryz.prog 10 #[.string P] w fun e w'=>e=.returned (.tuple #[.string S,.int .i64 0])∧Below w.heap.size w w'):=by
    have:=Aa HS3;rw [q4,q5] at this;exact this
   have HC3':Hid (∀ w,Calls Tryz.prog 11 #[.string P] w fun e w'=>∃ c1 c2,e=.returned (.tuple #[.int .i64 0,.int .i64 c1,.int .i64 c2])∧Below w.heap.size w w'):=by
    intro w;refine (Aa HC3 w).mono ?_;rintro e w' ⟨rfl,hb⟩;rw [q6];exact ⟨_,_,rfl,hb⟩
   clear p3 s3 c3 q3 q4 q5 q6 HP3 HS3 HC3 h0;go_enter Tryz.func4,Tryz.ntmps4;go_wp2_with fail
   refine (Aa HF _).mono ?_;rintro e w0 ⟨rfl,hB0⟩;go_wp2_with fail
   refine (Aa HP _).mono ?_;rintro e w1 ⟨rfl,hb1⟩;have hB1:=Bon hB0 hb1;go_wp2_with fail
   refine (Aa HS _).mono ?_;rintro e w2 ⟨rfl,hb2⟩;have hB2:=Bon hB1 hb2;clear hb1 hb2 hB0 hB1;go_wp2_with fail
   refine (Aa HP2 _).mono ?_;rintro e w3 ⟨rfl,hb3⟩;have hB3:=Bon hB2 hb3;go_wp2_with fail
   refine (Aa HS2 _).mono ?_;rintro e w4 ⟨rfl,hb4⟩;have hB4:=Bon hB3 hb4;clear hb3 hb4 hB2 hB3;go_wp2_with fail
   refine (Aa HP3' _).mono ?_;rintro e w5 ⟨rfl,hb5⟩;have hB5:=Bon hB4 hb5;go_wp2_with fail
   refine (Aa HS3' _).mono ?_;rintro e w6 ⟨rfl,hb6⟩;have hB6:=Bon hB5 hb6;go_wp2_with fail
   refine (Aa HC3' _).mono ?_;rintro e w7 ⟨c1,c2,rfl,hb7⟩;have hB7:=Bon hB6 hb7;go_wp2;go_ret;exact ⟨by simp,hB7⟩
  ·clear p3 s3 c3 HP3 HS3 HC3 h0;go_enter Tryz.func4,Tryz.ntmps4;go_wp2_with fail
   refine (Aa HF _).mono ?_;rintro e w0 ⟨rfl,hB0⟩;go_wp2_with fail
   refine (Aa HP _).mono ?_;rintro e w1 ⟨rfl,hb1⟩;have hB1:=Bon hB0 hb1;go_wp2_with fail
   refine (Aa HS _).mono ?_;rintro e w2 ⟨rfl,hb2⟩;have hB2:=Bon hB1 hb2;clear hb1 hb2 hB0 hB1;go_wp2_with fail
   refine (Aa HP2 _).mono ?_;rintro e w3 ⟨rfl,hb3⟩;have hB3:=Bon hB2 hb3;go_wp2_with fail
   refine (Aa HS2 _).mono ?_;rintro e w4 ⟨rfl,hb4⟩;have hB4:=Bon hB3 hb4;go_wp2;go_ret;exact ⟨by simp,hB4⟩
 ·have e1:Ls.prep s.data.toList=([],(Rf.formed s.data.toList).1,(Rf.formed s.data.toList).2.1):=by unfold Ls.prep;rw [if_pos h0]
  have e2:Rf.stripD s=⟨#[]⟩:=by unfold Rf.stripD;rw [if_pos h0]
  rw [e1] at hP;rw [e2] at hS;have h0':((Rf.formed s.data.toList).1 != 0)=true:=by simpa using h0
  generalize (Rf.formed s.data.toList).1=f1 at *;generalize (Rf.formed s.data.toList).2.1=f2 at *;have HP:=Ac hP;have HS:=Ac hS;clear hP hS e1 e2 h0;go_enter Tryz.func4,Tryz.ntmps4;go_wp2_with fail
  refine (Aa HF _).mono ?_;rintro e w0 ⟨rfl,hB0⟩;go_wp2_with fail
  refine (Aa HP _).mono ?_;rintro e w1 ⟨rfl,hb1⟩;have hB1:=Bon hB0 hb1;go_wp2_with fail
  refine (Aa HS _).mono ?_;rintro e w2 ⟨rfl,hb2⟩;have hB2:=Bon hB1 hb2;go_wp2;go_ret;exact ⟨by simp,hB2⟩
end Go.Proofs.YtcefiamkoincoaaGreat
