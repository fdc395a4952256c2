/- a part of the proof -/
import Derived.Deep.RegionHeld3
import Derived.Test.YtcefiamkoincoaaGreatPk02
set_option maxRecDepth 100000
set_option maxHeartbeats 40000000
set_option linter.unusedVariables false
set_option linter.unusedSimpArgs false
namespace Go.Proofs.YtcefiamkoincoaaGreat.Rf
theorem Lb (s:List UInt8) (p:Nat):(Rd.ty s ⟨p,true⟩).2.bad=true:=by
 unfold Rd.ty;obtain⟨q,hq⟩:=Ar _ (Bk s p);simp only;rw[hq];exact Bk s q
theorem U9 {s:List UInt8}{i:Int} (h0:0≤i) (h1:i≤(s.length:Int)):Lnk id s.length (Rd.ty s ⟨i.toNat,false⟩) (ty s i):=by
 unfold Rd.ty ty;rcases D7 h0 h1 with ⟨_,a1,a2,a3⟩ | ⟨b0,b1⟩
 ·simp only at a1 a2 a3;rw[a2,a3];rcases D7 (s:=s) (i:=i+1) (by omega) a1 with ⟨_,c1,c2,c3⟩ | ⟨d0,d1⟩
  ·simp only at c1 c2 c3
   left
   exact⟨by simp only;omega,by simp only;omega,by simp only[c2,id_eq],by simp only[c3];rw[show i+1+1=i+2 by omega]⟩
  ·simp only at d0
   right
   exact⟨.inr (by simp only;omega),d1⟩
 ·simp only at b0;obtain⟨q,hq⟩:=Ar _ b1
  right
  refine⟨.inr (by simp only;omega),?_⟩;simp only;rw[hq];exact Bk s q
theorem rep_step {α:Type}{f:Int→α × Int}{k:Nat}{i j j':Int}{l:List α}{x:α} (h:rep f k i=(l,j)) (hj:0≤j) (hf:f j=(x,j')) (hj':0≤j'):rep f (k+1) i=(l++[x],j'):=by
 unfold rep;rw[h];show (if j<0 then ([],-1) else if (f j).2<0 then ([],-1) else (l++[(f j).1],(f j).2))=_
 rw[if_neg (by omega),hf];exact if_neg (by simp only;omega)
theorem Yn (s:List UInt8) (k:Nat) (i:Int) (h0:0≤i):rep (ty s) k i=(tys s i k,i+2*(k:Int)):=by
 induction k with
 | zero=>simp[rep,tys]
 | succ k ih =>
  rw[rep_step ih (by omega) rfl (by omega)];refine Prod.ext rfl ?_;simp only;omega
theorem Cs (s:List UInt8) (k p:Nat):(Rd.tys s k ⟨p,true⟩).2.bad=true:=Di (Lb s) k p
theorem Ip {s:List UInt8}{i:Int} (k:Nat) (h0:0≤i) (h1:i≤(s.length:Int)):Lnk id s.length (Rd.tys s k ⟨i.toNat,false⟩) (tys s i k,i+2*(k:Int)):=by
 have h:=Fv (g:=id) (fun i a b=>U9 (s:=s) a b) (Lb s) (fun i hi=>.inr (by simp only[ty];omega)) k i h0 h1;rw[Yn s k i h0]at h;unfold Rd.tys
 simpa[Lnk] using h
theorem Qs (s:List UInt8) (p:Nat):(Rd.cls s ⟨p,true⟩).2.bad=true:=by
 unfold Rd.cls;obtain⟨q,hq⟩:=Ar _ (Bk s p);obtain⟨q2,hq2⟩:=Ar _ (Bu s 0 4 q);simp only;rw[hq,hq2];exact Cs s _ q2
theorem Xx (s:List UInt8) (i:Int) (h:(s.length:Int)<i):(cls s i).2<0:=by
 unfold cls;rw[Cm (by omega) (by omega),if_pos (by omega)]
 decide
theorem Yd {s:List UInt8}{i:Int} (h0:0≤i) (h1:i≤(s.length:Int)):Lnk id s.length (Rd.cls s ⟨i.toNat,false⟩) (cls s i):=by
 unfold Rd.cls cls;rcases D7 h0 h1 with ⟨_,a1,a2,a3⟩ | ⟨b0,b1⟩
 ·simp only at a1 a2 a3;simp only;rw[a2,a3];rcases Dy (s:=s) (i:=i+1) (a:=0) (b:=4) (by omega) a1 (by omega) with ⟨c0,c1,c2⟩ | ⟨d0,d1⟩
  ·rw[if_neg (by omega),c2];simp only;rcases Ip (s:=s) (i:=i+1+1) (cnt s (i+1) 0 4).toNat (by omega) (by omega) with ⟨_,e1,e2,e3⟩ | ⟨f0,f1⟩
   ·simp only at e1 e2 e3
    left
    rw[show i+1+1=i+2 by omega]at *;refine⟨by simp only;omega,by simp only;omega,?_,?_⟩
    ·simp only[e2,id_eq]
    ·rw[e3];simp only;congr 2;omega
   ·simp only at f0
    right
    exact⟨.inr (by simp only;omega),f1⟩
  ·rw[if_pos d0]
   right
   obtain⟨q,hq⟩:=Ar _ d1;simp only;rw[hq];exact⟨.inl (by decide),Cs s _ q⟩
 ·simp only at b0;rw[Cm (by omega) (by omega),if_pos (by omega)]
  right
  obtain⟨q,hq⟩:=Ar _ b1;obtain⟨q2,hq2⟩:=Ar _ (Bu s 0 4 q);simp only;rw[hq,hq2];exact⟨.inl (by decide),Cs s _ q2⟩
theorem V3 (s:List UInt8) (k:Nat) (i:Int) (h0:0≤i):rep (fun i=>(at' s i,i+1)) k i=(codeTo s i k,i+(k:Int)):=by
 induction k with
 | zero=>simp[rep,codeTo]
 | succ k ih =>
  rw[rep_step ih (by omega) rfl (by omega)];refine Prod.ext rfl ?_;simp only;omega
theorem Wv {s:List UInt8}{i:Int} (k:Nat) (h0:0≤i) (h1:i≤(s.length:Int)):Lnk id s.length (Rd.rep (Rd.nx s) k ⟨i.toNat,false⟩) (codeTo s i k,i+(k:Int)):=by
 have h:=Fv (g:=id) (F:=fun i=>(at' s i,i+1)) (fun i a b=>D7 (s:=s) a b) (Bk s) (fun i hi=>.inr (by simp only;omega)) k i h0 h1;rw[V3 s k i h0]at h
 simpa[Lnk] using h
theorem Lq (s:List UInt8) (p:Nat):(Rd.hnd s ⟨p,true⟩).2.bad=true:=by
 unfold Rd.hnd;obtain⟨q,hq⟩:=Ar _ (Bk s p);obtain⟨q2,hq2⟩:=Ar _ (Bk s q);obtain⟨q3,hq3⟩:=Ar _ (Bk s q2);simp only;rw[hq,hq2,hq3];exact Bk s q3
theorem Xr {s:List UInt8}{i:Int} (h0:0≤i) (h1:i≤(s.length:Int)):Lnk id s.length (Rd.hnd s ⟨i.toNat,false⟩) (hndAt s i,i+4):=by
 by_cases h:i+4≤(s.length:Int)
 ·left
  unfold Rd.hnd hndAt;simp only;rw[Hv h0 (by omega),Hv (by omega) (by omega),Hv (by omega) (by omega),Hv (by omega) (by omega)];refine⟨by omega,h,?_,?_⟩
  ·simp only[id_eq,show i+1+1=i+2 by omega,show i+2+1=i+3 by omega]
  ·simp only;congr 2;omega
 ·right
  refine⟨.inr (by simp only;omega),?_⟩;unfold Rd.hnd;simp only;rcases D7 h0 h1 with ⟨_,a1,_,a3⟩ | ⟨_,b1⟩
  ·simp only at a1 a3;rw[a3];rcases D7 (s:=s) (i:=i+1) (by omega) a1 with ⟨_,c1,_,c3⟩ | ⟨_,d1⟩
   ·simp only at c1 c3;rw[c3];rcases D7 (s:=s) (i:=i+1+1) (by omega) c1 with ⟨_,e1,_,e3⟩ | ⟨_,f1⟩
    ·simp only at e1 e3;rw[e3,Hm (by omega)]
    ·obtain⟨q,hq⟩:=Ar _ f1;rw[hq];exact Bk s q
   ·obtain⟨q,hq⟩:=Ar _ d1;obtain⟨q2,hq2⟩:=Ar _ (Bk s q);rw[hq,hq2];exact Bk s q2
  ·obtain⟨q,hq⟩:=Ar _ b1;obtain⟨q2,hq2⟩:=Ar _ (Bk s q);obtain⟨q3,hq3⟩:=Ar _ (Bk s q2);rw[hq,hq2,hq3];exact Bk s q3
theorem Xp (s:List UInt8) (k:Nat) (i:Int) (h0:0≤i):rep (fun i=>(hndAt s i,i+4)) k (i+1)=(hndTo s i k,i+1+4*(k:Int)):=by
 induction k with
 | zero=>simp[rep,hndTo]
 | succ k ih =>
  rw[rep_step ih (by omega) rfl (by omega)];refine Prod.ext rfl ?_;simp only;omega
theorem Oe (s:List UInt8) (p:Nat):(Rd.hnds s ⟨p,true⟩).2.bad=true:=by
 unfold Rd.hnds;obtain⟨q,hq⟩:=Ar _ (Bu s 0 4 p);simp only;rw[hq];exact Di (Lq s) _ q
theorem Xb {s:List UInt8}{i:Int} (h0:0≤i) (h1:i≤(s.length:Int)):Lnk id s.length (Rd.hnds s ⟨i.toNat,false⟩) (hnds s i):=by
 unfold Rd.hnds hnds;rcases Dy (s:=s) (i:=i) (a:=0) (b:=4) h0 h1 (by omega) with ⟨c0,c1,c2⟩ | ⟨d0,d1⟩
 ·rw[if_neg (by omega),c2];simp only;have h:=Fv (g:=id) (F:=fun i=>(hndAt s i,i+4)) (fun i a b=>Xr (s:=s) a b) (Lq s) (fun i hi=>.inr (by simp only;omega)) (cnt s i 0 4).toNat (i+1) (by omega) (by omega);rw[Xp s _ i h0]at h;rcases h with ⟨_,e1,e2,e3⟩ | ⟨f0,f1⟩
  ·simp only at e1 e2 e3
   left
   rw[if_neg (by omega)];refine⟨by simp only;omega,by simp only;omega,?_,?_⟩
   ·simp only[e2,id_eq,List.map_id_fun]
   ·rw[e3];simp only;congr 2;omega
  ·simp only at f0
   right
   rw[if_pos (by omega)];exact⟨.inl (by decide),f1⟩
 ·rw[if_pos d0]
  right
  obtain⟨q,hq⟩:=Ar _ d1;simp only;rw[hq];exact⟨.inl (by decide),Di (Lq s) _ q⟩
theorem N2 (s:List UInt8) (L H:Int) (p:Nat):(Rd.mp s L H ⟨p,true⟩).2.bad=true:=by
 unfold Rd.mp;obtain⟨q,hq⟩:=Ar _ (Bk s p);obtain⟨q2,hq2⟩:=Ar _ (Cs s L.toNat q);obtain⟨q3,hq3⟩:=Ar _ (Bu s 0 H q2);simp only;rw[hq,hq2,hq3];exact Cs s _ q3
theorem Y4 {s:List UInt8}{L H i:Int} (hL:0≤L) (h0:0≤i) (h1:i≤(s.length:Int)):Lnk id s.length (Rd.mp s L H ⟨i.toNat,false⟩) (mp s L H i):=by
 unfold Rd.mp mp;rcases D7 h0 h1 with ⟨_,a1,a2,a3⟩ | ⟨b0,b1⟩
 ·simp only at a1 a2 a3;simp only;rw[a2,a3];rcases Ip (s:=s) (i:=i+1) L.toNat (by omega) a1 with ⟨_,e1,e2,e3⟩ | ⟨f0,f1⟩
  ·simp only at e1 e2 e3;rw[e2,e3];have el:i+1+2*((L.toNat:Nat):Int)=i+1+2*L:=by omega
   rw[el]at e1 ⊢;rcases Dy (s:=s) (i:=i+1+2*L) (a:=0) (b:=H) (by omega) e1 (by omega) with ⟨c0,c1,c2⟩ | ⟨d0,d1⟩
   ·rw[if_neg (by omega),c2];simp only;rcases Ip (s:=s) (i:=i+1+2*L+1) (cnt s (i+1+2*L) 0 H).toNat (by omega) (by omega) with ⟨_,g1,g2,g3⟩ | ⟨k0,k1⟩
    ·simp only at g1 g2 g3
     left
     have er:i+1+2*L+1=i+2+2*L:=by omega
     rw[er]at g1 g2 g3 ⊢;refine⟨by simp only;omega,by simp only;omega,?_,?_⟩
     ·simp only[g2,id_eq]
     ·rw[g3];simp only;congr 2;omega
    ·simp only at k0
     right
     exact⟨.inr (by simp only;omega),k1⟩
   ·rw[if_pos d0]
    right
    obtain⟨q,hq⟩:=Ar _ d1;simp only;rw[hq];exact⟨.inl (by decide),Cs s _ q⟩
  ·simp only at f0;rw[Cm (by omega) (by omega),if_pos (by omega)]
   right
   obtain⟨q,hq⟩:=Ar _ f1;obtain⟨q2,hq2⟩:=Ar _ (Bu s 0 H q);simp only;rw[hq,hq2];exact⟨.inl (by decide),Cs s _ q2⟩
 ·simp only at b0;rw[Cm (by omega) (by omega),if_pos (by omega)]
  right
  obtain⟨q,hq⟩:=Ar _ b1;obtain⟨q1,hq1⟩:=Ar _ (Cs s L.toNat q);obtain⟨q2,hq2⟩:=Ar _ (Bu s 0 H q1);simp only;rw[hq,hq1,hq2];exact⟨.inl (by decide),Cs s _ q2⟩
theorem Qm (s:List UInt8) (L H:Int) (p:Nat):(Rd.mps s L H ⟨p,true⟩).2.bad=true:=by
 unfold Rd.mps;obtain⟨q,hq⟩:=Ar _ (Bu s 0 64 p);simp only;rw[hq];exact Di (N2 s L H) _ q
theorem Xn {s:List UInt8}{L H i:Int} (hL:0≤L) (h0:0≤i) (h1:i≤(s.length:Int)):Lnk id s.length (Rd.mps s L H ⟨i.toNat,false⟩) (mps s i L H):=by
 unfold Rd.mps mps;rcases Dy (s:=s) (i:=i) (a:=0) (b:=64) h0 h1 (by omega) with ⟨c0,c1,c2⟩ | ⟨d0,d1⟩
 ·rw[if_neg (by omega),c2];simp only;have h:=Fv (g:=id) (fun i a b=>Y4 (s:=s) (H:=H) hL a b) (N2 s L H) (fun i hi=>.inl (by unfold mp;rw[Cm (by omega) (by omega),if_pos (by omega)];decide)) (cnt s i 0 64).toNat (i+1) (by omega) (by omega)
  simpa[Lnk] using h
 ·rw[if_pos d0]
  right
  obtain⟨q,hq⟩:=Ar _ d1;simp only;rw[hq];exact⟨.inl (by decide),Di (N2 s L H) _ q⟩
theorem Qh (s:List UInt8) (p:Nat):(Rd.mth s ⟨p,true⟩).2.bad=true:=by
 unfold Rd.mth;obtain⟨q1,h1⟩:=Ar _ (Bk s p);obtain⟨q2,h2⟩:=Ar _ (Bk s q1);obtain⟨q3,h3⟩:=Ar _ (Bu s 0 4 q2);obtain⟨q5,h5⟩:=Ar _ (Cs s (Rd.cn s 0 4 ⟨q2,true⟩).1.toNat q3);obtain⟨q6,h6⟩:=Ar _ (Lb s q5);obtain⟨q7,h7⟩:=Ar _ (Bu s 0 8 q6);obtain⟨q8,h8⟩:=Ar _ (Bu s 0 8 q7);obtain⟨q9,h9⟩:=Ar _ (show (Rd.codes s ⟨q8,true⟩).2.bad=true by
  unfold Rd.codes;obtain⟨q,hq⟩:=Ar _ (Bu s 1 120 q8);simp only;rw[hq];exact Di (Bk s) _ q)
 obtain⟨q10,h10⟩:=Ar _ (Oe s q9);simp only;rw[h1,h2,h3,h5,h6,h7,h8,h9,h10];exact Qm s _ _ q10
theorem Us (s:List UInt8) (p:Nat):(Rd.codes s ⟨p,true⟩).2.bad=true:=by
 unfold Rd.codes;obtain⟨q,hq⟩:=Ar _ (Bu s 1 120 p);simp only;rw[hq];exact Di (Bk s) _ q
def g10 (s:List UInt8) (l h:Int) (t:Rd.St):Rd.St:=(Rd.mps s l h t).2
def g9 (s:List UInt8) (l h:Int) (t:Rd.St):Rd.St:=g10 s l h (Rd.hnds s t).2
def g8 (s:List UInt8) (l h:Int) (t:Rd.St):Rd.St:=g9 s l h (Rd.codes s t).2
def g7 (s:List UInt8) (l:Int) (t:Rd.St):Rd.St:=g8 s l (Rd.cn s 0 8 t).1 (Rd.cn s 0 8 t).2
def g6 (s:List UInt8) (t:Rd.St):Rd.St:=g7 s (Rd.cn s 0 8 t).1 (Rd.cn s 0 8 t).2
def g5 (s:List UInt8) (t:Rd.St):Rd.St:=g6 s (Rd.ty s t).2
def g4 (s:List UInt8) (p:Int) (t:Rd.St):Rd.St:=g5 s (Rd.tys s p.toNat t).2
def g3 (s:List UInt8) (t:Rd.St):Rd.St:=g4 s (Rd.cn s 0 4 t).1 (Rd.cn s 0 4 t).2
def g2 (s:List UInt8) (t:Rd.St):Rd.St:=g3 s (Rd.nx s t).2
theorem Rj (s:List UInt8) (t:Rd.St):(Rd.mth s t).2=g2 s (Rd.nx s t).2:=by
 simp only[Rd.mth,g2,g3,g4,g5,g6,g7,g8,g9,g10]
theorem Qj {s:List UInt8}{l h:Int}{t:Rd.St} (ht:t.bad=true):(g10 s l h t).bad=true:=by
 obtain⟨p,rfl⟩:=Ar t ht;exact Qm s l h p
theorem Ou {s:List UInt8}{l h:Int}{t:Rd.St} (ht:t.bad=true):(g9 s l h t).bad=true:=by
 obtain⟨p,rfl⟩:=Ar t ht;exact Qj (Oe s p)
theorem Uy {s:List UInt8}{l h:Int}{t:Rd.St} (ht:t.bad=true):(g8 s l h t).bad=true:=by
 obtain⟨p,rfl⟩:=Ar t ht;exact Ou (Us s p)
theorem Sx {s:List UInt8}{l:Int}{t:Rd.St} (ht:t.bad=true):(g7 s l t).bad=true:=by
 obtain⟨p,rfl⟩:=Ar t ht;exact Uy (Bu s 0 8 p)
theorem Uh {s:List UInt8}{t:Rd.St} (ht:t.bad=true):(g6 s t).bad=true:=by
 obtain⟨p,rfl⟩:=Ar t ht;exact Sx (Bu s 0 8 p)
theorem Tz {s:List UInt8}{t:Rd.St} (ht:t.bad=true):(g5 s t).bad=true:=by
 obtain⟨p,rfl⟩:=Ar t ht;exact Uh (Lb s p)
theorem Vd {s:List UInt8}{p:Int}{t:Rd.St} (ht:t.bad=true):(g4 s p t).bad=true:=by
 obtain⟨q,rfl⟩:=Ar t ht;exact Tz (Cs s _ q)
theorem Tl {s:List UInt8}{t:Rd.St} (ht:t.bad=true):(g3 s t).bad=true:=by
 obtain⟨p,rfl⟩:=Ar t ht;exact Vd (Bu s 0 4 p)
theorem Y7 {s:List UInt8}{t:Rd.St} (ht:t.bad=true):(g2 s t).bad=true:=by
 obtain⟨p,rfl⟩:=Ar t ht;exact Tl (Bk s p)
theorem hnds_le (s:List UInt8) (i:Int):(hnds s i).2≤(s.length:Int):=by
 unfold hnds
 split
 ·simp only;omega
 ·split
  ·simp only;omega
  ·simp only;omega
theorem Yg {s:List UInt8}{i:Int} (h0:0≤i) (h1:i≤(s.length:Int)):Lnk Mth.m s.length (Rd.mth s ⟨i.toNat,false⟩) (mth s i):=by
 -- where the document's reader has nothing, it is enough that the program's is bad
 have no:∀ x:Mth × Int,x.2<0→(Rd.mth s ⟨i.toNat,false⟩).2.bad=true→Lnk Mth.m s.length (Rd.mth s ⟨i.toNat,false⟩) x:=fun x a b=>.inr ⟨.inl a,b⟩;rcases D7 h0 h1 with ⟨_,a1,a2,a3⟩ | ⟨b0,b1⟩
 rotate_left
 ·simp only at b0;refine no _ ?_ (Y7 b1);unfold mth;simp only;rw[Cm (by omega) (by omega),if_pos (by omega)]
  decide
 simp only at a1 a2 a3;rcases D7 (s:=s) (i:=i+1) (by omega) a1 with ⟨_,b1,b2,b3⟩ | ⟨c0,c1⟩
 rotate_left
 ·simp only at c0;refine no _ ?_ ?_
  ·unfold mth;simp only;rw[Cm (by omega) (by omega),if_pos (by omega)]
   decide
  ·rw[Rj,a3];exact Tl c1
 simp only at b1 b2 b3;rw[show i+1+1=i+2 by omega]at b1 b3;rcases Dy (s:=s) (i:=i+2) (a:=0) (b:=4) (by omega) b1 (by omega) with ⟨c0,c1,c2⟩ | ⟨d0,d1⟩
 rotate_left
 ·refine no _ ?_ ?_
  ·unfold mth;simp only;rw[if_pos d0]
   decide
  ·rw[Rj,a3];show (g3 s (Rd.nx s _).2).bad=true;rw[b3];exact Vd d1
 rw[show i+2+1=i+3 by omega]at c2;have e2:(Rd.mth s ⟨i.toNat,false⟩).2=g4 s (cnt s (i+2) 0 4) ⟨(i+3).toNat,false⟩:=by
  rw[Rj,a3];show g3 s (Rd.nx s _).2=_;rw[b3];show g4 s (Rd.cn s 0 4 _).1 (Rd.cn s 0 4 _).2=_;rw[c2]
 have cb:=cnt_bd s (i+2) 0 4 (by omega)
 -- the parameters
 rcases Ip (s:=s) (i:=i+3) (cnt s (i+2) 0 4).toNat (by omega) (by omega) with ⟨_,d1,d2,d3⟩|⟨d0,d1⟩
 rotate_left
 ·simp only at d0;refine no _ ?_ ?_
  ·unfold mth;simp only;rw[if_neg (by omega),Cm (i:=i+3+2*cnt s (i+2) 0 4+2) (by omega) (by omega),if_pos (by omega)]
   decide
  ·rw[e2];exact Tz d1
 simp only at d1 d2 d3;rw[show i+3+2*(((cnt s (i+2) 0 4).toNat:Nat):Int)=i+3+2*cnt s (i+2) 0 4 by omega]at d1 d3;have e3:(Rd.mth s ⟨i.toNat,false⟩).2=g5 s ⟨(i+3+2*cnt s (i+2) 0 4).toNat,false⟩:=by
  rw[e2];show g5 s (Rd.tys s _ _).2=_;rw[d3]
 generalize hj:i+3+2*cnt s (i+2) 0 4=j at *;have j0:0≤j:=by omega
 rcases U9 (s:=s) (i:=j) j0 d1 with ⟨_,f1,f2,f3⟩|⟨f0,f1⟩
 rotate_left
 ·simp only[ty]at f0;refine no _ ?_ ?_
  ·unfold mth;simp only;rw[if_neg (by omega),hj,Cm (i:=j+2) (by omega) (by omega),if_pos (by omega)]
   decide
  ·rw[e3];exact Uh f1
 simp only[ty]at f1 f2 f3;have e4:(Rd.mth s ⟨i.toNat,false⟩).2=g6 s ⟨(j+2).toNat,false⟩:=by
  rw[e3];show g6 s (Rd.ty s _).2=_;rw[f3]
 rcases Dy (s:=s) (i:=j+2) (a:=0) (b:=8) (by omega) f1 (by omega) with ⟨l0,l1,l2⟩|⟨l0,l1⟩
 rotate_left
 ·refine no _ ?_ ?_
  ·unfold mth;simp only;rw[if_neg (by omega),hj,if_pos l0]
   decide
  ·rw[e4];exact Sx l1
 rw[show j+2+1=j+3 by omega]at l2;rcases Dy (s:=s) (i:=j+3) (a:=0) (b:=8) (by omega) (by omega) (by omega) with ⟨k0,k1,k2⟩ | ⟨k0,k1⟩
 rotate_left
 ·refine no _ ?_ ?_
  ·unfold mth;simp only;rw[if_neg (by omega),hj,if_neg (by omega),if_pos k0]
   decide
  ·rw[e4];show (g7 s (Rd.cn s 0 8 _).1 (Rd.cn s 0 8 _).2).bad=true;rw[l2];exact Uy k1
 rw[show j+3+1=j+4 by omega]at k2;have e5:(Rd.mth s ⟨i.toNat,false⟩).2=g8 s (cnt s (j+2) 0 8) (cnt s (j+3) 0 8) ⟨(j+4).toNat,false⟩:=by
  rw[e4];show g7 s (Rd.cn s 0 8 _).1 (Rd.cn s 0 8 _).2=_;rw[l2];show g8 s _ (Rd.cn s 0 8 _).1 (Rd.cn s 0 8 _).2=_;rw[k2]
 rcases Dy (s:=s) (i:=j+4) (a:=1) (b:=120) (by omega) (by omega) (by omega) with ⟨n0,n1,n2⟩|⟨n0,n1⟩
 rotate_left
 ·refine no _ ?_ ?_
  ·unfold mth;simp only;rw[if_neg (by omega),hj,if_neg (by omega),if_neg (by omega),if_pos n0]
   decide
  ·rw[e5];refine Ou ?_;unfold Rd.codes;obtain⟨q,hq⟩:=Ar _ n1;simp only;rw[hq];exact Di (Bk s) _ q
 rw[show j+4+1=j+5 by omega]at n2;rcases Wv (s:=s) (i:=j+5) (cnt s (j+4) 1 120).toNat (by omega) (by omega) with ⟨_,o1,o2,o3⟩ | ⟨o0,o1⟩
 rotate_left
 ·simp only at o0;refine no _ ?_ ?_
  ·unfold mth;simp only;rw[if_neg (by omega),hj,if_neg (by omega),if_neg (by omega),if_neg (by omega),if_pos (by omega)]
   decide
  ·rw[e5];refine Ou ?_;unfold Rd.codes;simp only;rw[n2];exact o1
 simp only at o1 o2 o3;rw[show j+5+(((cnt s (j+4) 1 120).toNat:Nat):Int)=j+5+cnt s (j+4) 1 120 by omega]at o1 o3;have hcode:Rd.codes s ⟨(j+4).toNat,false⟩=(codeTo s (j+5) (cnt s (j+4) 1 120).toNat,⟨(j+5+cnt s (j+4) 1 120).toNat,false⟩):=by
  unfold Rd.codes;simp only;rw[n2];exact Prod.ext o2 o3
 rcases Xb (s:=s) (i:=j+5+cnt s (j+4) 1 120) (by omega) o1 with ⟨p0,p1,p2,p3⟩|⟨p0,p1⟩
 rotate_left
 ·have hle:=hnds_le s (j+5+cnt s (j+4) 1 120);refine no _ ?_ ?_
  ·unfold mth;simp only;rw[if_neg (by omega),hj,if_neg (by omega),if_neg (by omega),if_neg (by omega),if_neg (by omega),if_pos (by omega)]
   decide
  ·rw[e5];show (g9 s _ _ (Rd.codes s _).2).bad=true;rw[hcode];exact Qj p1
 have hm:=Xn (s:=s) (L:=cnt s (j+2) 0 8) (H:=cnt s (j+3) 0 8) l0 p0 p1;have e6:(Rd.mth s ⟨i.toNat,false⟩).2=(Rd.mps s (cnt s (j+2) 0 8) (cnt s (j+3) 0 8) ⟨(hnds s (j+5+cnt s (j+4) 1 120)).2.toNat,false⟩).2:=by
  rw[e5];show g9 s _ _ (Rd.codes s _).2=_;rw[hcode];show g10 s _ _ (Rd.hnds s _).2=_;simp only;rw[p3];rfl
 have hx:mth s i=(⟨⟨at' s i,at' s (i+1),tys s (i+3) (cnt s (i+2) 0 4).toNat,(at' s j,at' s (j+1)),cnt s (j+2) 0 8,cnt s (j+3) 0 8,codeTo s (j+5) (cnt s (j+4) 1 120).toNat,(hnds s (j+5+cnt s (j+4) 1 120)).1,(mps s (hnds s (j+5+cnt s (j+4) 1 120)).2 (cnt s (j+2) 0 8) (cnt s (j+3) 0 8)).1⟩,(hnds s (j+5+cnt s (j+4) 1 120)).2,(mps s (hnds s (j+5+cnt s (j+4) 1 120)).2 (cnt s (j+2) 0 8) (cnt s (j+3) 0 8)).2⟩,(mps s (hnds s (j+5+cnt s (j+4) 1 120)).2 (cnt s (j+2) 0 8) (cnt s (j+3) 0 8)).2):=by
  unfold mth;simp only;rw[if_neg (by omega),hj,if_neg (by omega),if_neg (by omega),if_neg (by omega),if_neg (by omega),if_neg (by omega)]
 rw[hx];rcases hm with ⟨m0,m1,m2,m3⟩ | ⟨m0,m1⟩
 ·left
  refine⟨m0,m1,?_,by rw[e6];exact m3⟩;have A:Rd.nx s ⟨i.toNat,false⟩=(at' s i,⟨(i+1).toNat,false⟩):=Prod.ext a2 a3;have B:Rd.nx s ⟨(i+1).toNat,false⟩=(at' s (i+1),⟨(i+2).toNat,false⟩):=Prod.ext b2 b3;have D:Rd.tys s (cnt s (i+2) 0 4).toNat ⟨(i+3).toNat,false⟩=(tys s (i+3) (cnt s (i+2) 0 4).toNat,⟨j.toNat,false⟩):=Prod.ext d2 d3;have E:Rd.ty s ⟨j.toNat,false⟩=((at' s j,at' s (j+1)),⟨(j+2).toNat,false⟩):=Prod.ext f2 f3;have P:Rd.hnds s ⟨(j+5+cnt s (j+4) 1 120).toNat,false⟩=((hnds s (j+5+cnt s (j+4) 1 120)).1,⟨(hnds s (j+5+cnt s (j+4) 1 120)).2.toNat,false⟩):=Prod.ext p2 p3;simp only[Rd.mth,A,B,c2,D,E,l2,k2,hcode,P];simp only[id_eq]at m2;rw[m2]
 ·right
  exact⟨m0,by rw[e6];exact m1⟩
theorem Xo (s:List UInt8) (i:Int) (h:(s.length:Int)<i):(mth s i).2<0:=by
 unfold mth;simp only;rw[Cm (by omega) (by omega),if_pos (by omega)]
 decide
theorem Yy (s:List UInt8) (b:Int) (p:Nat):(Rd.ex s b ⟨p,true⟩).bad=true:=by
 unfold Rd.ex
 split
 ·exact Bk s p
 ·rfl
theorem Tc {s:List UInt8}{i b:Int} (h0:0≤i) (h1:i≤(s.length:Int)) (hb:0≤b) :
  (at' s i=b∧i<(s.length:Int)∧Rd.ex s b ⟨i.toNat,false⟩=⟨(i+1).toNat,false⟩)∨(at' s i≠b∧(Rd.ex s b ⟨i.toNat,false⟩).bad=true):=by
 unfold Rd.ex;by_cases h:i<(s.length:Int)
 ·rw[Hv h0 h];by_cases e:at' s i=b
  ·left;rw[if_pos e];exact⟨e,h,rfl⟩
  ·right;rw[if_neg e];exact⟨e,rfl⟩
 ·right
  rw[Hm (by omega),at_out (by omega)];refine⟨by omega,?_⟩
  split<;>rfl
theorem fil_same (s:List UInt8) :
  ((Rd.fil s ⟨0,false⟩).2.bad=false∧(Rd.fil s ⟨0,false⟩).2.pos=s.length↔(fil s).2.2=(s.length:Int)) ∧
  ((fil s).2.2=(s.length:Int)→(Rd.fil s ⟨0,false⟩).1.classes=(fil s).1∧(Rd.fil s ⟨0,false⟩).1.methods=(fil s).2.1.map Mth.m):=by
 -- the stages of the program's reader
 have stg:(Rd.fil s ⟨0,false⟩).2=(Rd.rep (Rd.mth s) (Rd.cn s 1 6 (Rd.rep (Rd.cls s) (Rd.cn s 0 6 (Rd.ex s 77 (Rd.ex s 83 ⟨0,false⟩))).1.toNat (Rd.cn s 0 6 (Rd.ex s 77 (Rd.ex s 83 ⟨0,false⟩))).2).2).1.toNat
   (Rd.cn s 1 6 (Rd.rep (Rd.cls s) (Rd.cn s 0 6 (Rd.ex s 77 (Rd.ex s 83 ⟨0,false⟩))).1.toNat (Rd.cn s 0 6 (Rd.ex s 77 (Rd.ex s 83 ⟨0,false⟩))).2).2).2).2:=by simp only[Rd.fil]
 have hb4:∀ (k:Nat) (t:Rd.St),t.bad=true→(Rd.rep (Rd.mth s) k t).2.bad=true:=fun k t ht=>by
  obtain⟨p,rfl⟩:=Ar t ht;exact Di (Qh s) k p
 have hb3:∀ (t:Rd.St),t.bad=true→(Rd.rep (Rd.mth s) (Rd.cn s 1 6 t).1.toNat (Rd.cn s 1 6 t).2).2.bad=true:=fun t ht=>by
  obtain⟨p,rfl⟩:=Ar t ht;exact hb4 _ _ (Bu s 1 6 p)
 have hb2:∀ (k:Nat) (t:Rd.St),t.bad=true→(Rd.rep (Rd.cls s) k t).2.bad=true:=fun k t ht=>by
  obtain⟨p,rfl⟩:=Ar t ht;exact Di (Qs s) k p
 have no:(Rd.fil s ⟨0,false⟩).2.bad=true→(fil s).2.2≠(s.length:Int) →
   ((Rd.fil s ⟨0,false⟩).2.bad=false∧(Rd.fil s ⟨0,false⟩).2.pos=s.length↔(fil s).2.2=(s.length:Int)) ∧
   ((fil s).2.2=(s.length:Int)→(Rd.fil s ⟨0,false⟩).1.classes=(fil s).1∧(Rd.fil s ⟨0,false⟩).1.methods=(fil s).2.1.map Mth.m):=by
  intro a b;refine⟨⟨fun h=>?_,fun h=>absurd h b⟩,fun h=>absurd h b⟩;rw[a]at h;exact absurd h.1 (by simp)
 rcases Tc (s:=s) (i:=0) (b:=83) (by omega) (by omega) (by omega) with ⟨a1,a2,a3⟩|⟨a1,a2⟩
 rotate_left
 ·refine no ?_ ?_
  ·rw[stg];refine hb3 _ (hb2 _ _ ?_);have h1:(Rd.ex s 83 ⟨0,false⟩).bad=true:=a2;obtain⟨p,hp⟩:=Ar _ h1;rw[hp];obtain⟨q,hq⟩:=Ar _ (Yy s 77 p);rw[hq];exact Bu s 0 6 q
  ·unfold fil;rw[if_pos a1];simp only;omega
 have x1:Rd.ex s 83 ⟨0,false⟩=⟨(0+1:Int).toNat,false⟩:=a3;rcases Tc (s:=s) (i:=0+1) (b:=77) (by omega) (by omega) (by omega) with ⟨b1,b2,b3⟩ | ⟨b1,b2⟩
 rotate_left
 ·refine no ?_ ?_
  ·rw[stg,x1];refine hb3 _ (hb2 _ _ ?_);obtain⟨q,hq⟩:=Ar _ b2;rw[hq];exact Bu s 0 6 q
  ·unfold fil;rw[if_neg (by omega),if_pos (show at' s 1≠77 from b1)];simp only;omega
 rcases Dy (s:=s) (i:=0+1+1) (a:=0) (b:=6) (by omega) (by omega) (by omega) with ⟨c0,c1,c2⟩|⟨c0,c1⟩
 rotate_left
 ·refine no ?_ ?_
  ·rw[stg,x1,b3];exact hb3 _ (hb2 _ _ c1)
  ·unfold fil;rw[if_neg (by omega),if_neg (show ¬ at' s 1≠77 from fun h=>h b1),if_pos (show cnt s 2 0 6<0 from c0)];simp only;omega
 have c0':0≤cnt s 2 0 6:=c0;have hc:=Fv (g:=id) (fun i a b=>Yd (s:=s) a b) (Qs s) (fun i hi=>.inl (Xx s i hi)) (cnt s 2 0 6).toNat 3 (by omega) (by omega);rcases hc with ⟨d0,d1,d2,d3⟩ | ⟨d0,d1⟩
 rotate_left
 ·refine no ?_ ?_
  ·rw[stg,x1,b3,c2];exact hb3 _ d1
  ·unfold fil;rw[if_neg (by omega),if_neg (show ¬ at' s 1≠77 from fun h=>h b1),if_neg (show ¬ cnt s 2 0 6<0 by omega)];simp only
   split
   ·simp only;omega
   ·rw[Cm (by omega) (by omega),if_pos (by omega)];simp only;omega
 have d2':(Rd.rep (Rd.cls s) (cnt s 2 0 6).toNat ⟨(3:Int).toNat,false⟩).1=(rep (cls s) (cnt s 2 0 6).toNat 3).1:=by simpa using d2
 rcases Dy (s:=s) (i:=(rep (cls s) (cnt s 2 0 6).toNat 3).2) (a:=1) (b:=6) d0 d1 (by omega) with ⟨e0,e1,e2⟩|⟨e0,e1⟩
 rotate_left
 ·refine no ?_ ?_
  ·rw[stg,x1,b3,c2];show (Rd.rep (Rd.mth s) (Rd.cn s 1 6 (Rd.rep (Rd.cls s) (cnt s 2 0 6).toNat ⟨(3:Int).toNat,false⟩).2).1.toNat (Rd.cn s 1 6 (Rd.rep (Rd.cls s) (cnt s 2 0 6).toNat ⟨(3:Int).toNat,false⟩).2).2).2.bad=true;rw[d3];exact hb4 _ _ e1
  ·unfold fil;rw[if_neg (by omega),if_neg (show ¬ at' s 1≠77 from fun h=>h b1),if_neg (show ¬ cnt s 2 0 6<0 by omega)];simp only;rw[if_neg (by omega),if_pos e0];simp only;omega
 have hm:=Fv (g:=Mth.m) (fun i a b=>Yg (s:=s) a b) (Qh s) (fun i hi=>.inl (Xo s i hi)) (cnt s (rep (cls s) (cnt s 2 0 6).toNat 3).2 1 6).toNat ((rep (cls s) (cnt s 2 0 6).toNat 3).2+1) (by omega) (by omega);have stg2:(Rd.fil s ⟨0,false⟩).2=(Rd.rep (Rd.mth s) (cnt s (rep (cls s) (cnt s 2 0 6).toNat 3).2 1 6).toNat ⟨((rep (cls s) (cnt s 2 0 6).toNat 3).2+1).toNat,false⟩).2:=by
  rw[stg,x1,b3,c2];show (Rd.rep (Rd.mth s) (Rd.cn s 1 6 (Rd.rep (Rd.cls s) (cnt s 2 0 6).toNat ⟨(3:Int).toNat,false⟩).2).1.toNat (Rd.cn s 1 6 (Rd.rep (Rd.cls s) (cnt s 2 0 6).toNat ⟨(3:Int).toNat,false⟩).2).2).2=_;rw[d3,e2]
 have hfil:∀ ms:List Mth × Int,rep (mth s) (cnt s (rep (cls s) (cnt s 2 0 6).toNat 3).2 1 6).toNat ((rep (cls s) (cnt s 2 0 6).toNat 3).2+1)=ms→fil s=if ms.2<0 then ([],[],-1) else ((rep (cls s) (cnt s 2 0 6).toNat 3).1,ms.1,ms.2):=by
  intro ms hms;unfold fil;rw[if_neg (by omega),if_neg (show ¬ at' s 1≠77 from fun h=>h b1),if_neg (show ¬ cnt s 2 0 6<0 by omega)];simp only;rw[if_neg (by omega),if_neg (by omega),hms]
 have hf:=hfil _ rfl;generalize hms:rep (mth s) (cnt s (rep (cls s) (cnt s 2 0 6).toNat 3).2 1 6).toNat ((rep (cls s) (cnt s 2 0 6).toNat 3).2+1)=ms at *;rcases hm with ⟨m0,m1,m2,m3⟩ | ⟨m0,m1⟩
 ·rw[if_neg (by omega)]at hf;rw[hf,stg2,m3];refine⟨⟨fun h=>?_,fun h=>?_⟩,fun _=>⟨?_,?_⟩⟩
  ·simp only at h ⊢;omega
  ·simp only at h ⊢;exact⟨trivial,by omega⟩
  ·have h2:(Rd.fil s ⟨0,false⟩).1.classes=(Rd.rep (Rd.cls s) (Rd.cn s 0 6 (Rd.ex s 77 (Rd.ex s 83 ⟨0,false⟩))).1.toNat (Rd.cn s 0 6 (Rd.ex s 77 (Rd.ex s 83 ⟨0,false⟩))).2).1:=by simp only[Rd.fil]
   rw[h2,x1,b3,c2];exact d2'
  ·have h2:(Rd.fil s ⟨0,false⟩).1.methods=(Rd.rep (Rd.mth s) (Rd.cn s 1 6 (Rd.rep (Rd.cls s) (Rd.cn s 0 6 (Rd.ex s 77 (Rd.ex s 83 ⟨0,false⟩))).1.toNat (Rd.cn s 0 6 (Rd.ex s 77 (Rd.ex s 83 ⟨0,false⟩))).2).2).1.toNat
     (Rd.cn s 1 6 (Rd.rep (Rd.cls s) (Rd.cn s 0 6 (Rd.ex s 77 (Rd.ex s 83 ⟨0,false⟩))).1.toNat (Rd.cn s 0 6 (Rd.ex s 77 (Rd.ex s 83 ⟨0,false⟩))).2).2).2).1:=by simp only[Rd.fil]
   rw[h2,x1,b3,c2];show (Rd.rep (Rd.mth s) (Rd.cn s 1 6 (Rd.rep (Rd.cls s) (cnt s 2 0 6).toNat ⟨(3:Int).toNat,false⟩).2).1.toNat (Rd.cn s 1 6 (Rd.rep (Rd.cls s) (cnt s 2 0 6).toNat ⟨(3:Int).toNat,false⟩).2).2).1=_;rw[d3,e2];exact m2
 ·refine no (by rw[stg2];exact m1) ?_;rw[hf]
  split
  ·simp only;omega
  ·simp only;omega
end Go.Proofs.YtcefiamkoincoaaGreat.Rf
namespace Go.Proofs.YtcefiamkoincoaaGreat
open Go.RowKit
def RHndsAt (w:World) (b:Nat) (v:Value) (l:List Rd.Hnd):Prop:=w.ownsRow b 116 4 v l.length (Bb l)
theorem RHndsAt.kp {e:Option TypeId}{b:Nat}{v:Value}{l:List Rd.Hnd}{w w':World} (h:RHndsAt w b v l) (hk:Kp e b w w') (hne:some 116≠e):RHndsAt w' b v l:=Av h hk hne
theorem RHndsAt.mono {b b':Nat}{v:Value}{l:List Rd.Hnd}{w:World} (h:RHndsAt w b v l) (hb:b'≤b):RHndsAt w b' v l:=Ba h hb
def RClssIn (w:World) (b:Nat) (v:Value) (l:List (Rd.Cls × Value)):Prop :=
 w.ownsRow b 167 2 v l.length (By l)∧∀ p∈l,TysAt w b p.2 p.1.fields
theorem RClssIn.kp {b:Nat}{v:Value}{l:List (Rd.Cls × Value)}{w w':World} (h:RClssIn w b v l) {e:Option TypeId} (hk:Kp e b w w') (hne:some 167≠e) (hne2:some 39≠e):RClssIn w' b v l :=
 ⟨Av h.1 hk hne,fun p hp=>(h.2 p hp).kp hk hne2⟩
theorem RClssIn.mono {b b':Nat}{v:Value}{l:List (Rd.Cls × Value)}{w:World} (h:RClssIn w b v l) (hb:b'≤b):RClssIn w b' v l:=⟨Ba h.1 hb,fun p hp=>(h.2 p hp).mono hb⟩
def RMpsIn (w:World) (b:Nat) (v:Value) (l:List (Rd.Mp × Value × Value)):Prop :=
 w.ownsRow b 82 3 v l.length (Co l)∧∀ p∈l,TysAt w b p.2.1 p.1.locals∧TysAt w b p.2.2 p.1.stack
theorem RMpsIn.kp {b:Nat}{v:Value}{l:List (Rd.Mp × Value × Value)}{w w':World} (h:RMpsIn w b v l) {e:Option TypeId} (hk:Kp e b w w') (hne:some 82≠e) (hne2:some 39≠e):RMpsIn w' b v l :=
 ⟨Av h.1 hk hne,fun p hp=>⟨(h.2 p hp).1.kp hk hne2,(h.2 p hp).2.kp hk hne2⟩⟩
theorem RMpsIn.mono {b b':Nat}{v:Value}{l:List (Rd.Mp × Value × Value)}{w:World} (h:RMpsIn w b v l) (hb:b'≤b):RMpsIn w b' v l:=⟨Ba h.1 hb,fun p hp=>⟨(h.2 p hp).1.mono hb,(h.2 p hp).2.mono hb⟩⟩
def Uk (w:World) (b:Nat) (v:Value) (ms:List Rd.Mp):Prop:=∃ l,l.map Prod.fst=ms∧RMpsIn w b v l
structure RMthV where
 params:Value
 code:ByteArray
 handlers:Value
 maps:Value
def Cy (x:Rf.Mth) (u:RMthV):List Value :=
 [.int .i64 x.m.cl,.int .i64 x.m.name,u.params,.int .i64 x.m.result.1,.int .i64 x.m.result.2,.int .i64 x.m.locals,.int .i64 x.m.stack,.string u.code,u.handlers,u.maps,.int .i64 x.mapsAt,.int .i64 x.fin]
def RMthIn (w:World) (b:Nat) (x:Rf.Mth) (u:RMthV):Prop :=
 TysAt w b u.params x.m.params∧u.code.data.toList.map (fun c=>(c.toNat:Int))=x.m.code∧RHndsAt w b u.handlers x.m.handlers∧Uk w b u.maps x.m.maps
theorem RMthIn.kp {b:Nat}{x:Rf.Mth}{u:RMthV}{w w':World} (h:RMthIn w b x u) {e:Option TypeId} (hk:Kp e b w w') (h1:some 39≠e) (h3:some 116≠e) (h4:some 82≠e):RMthIn w' b x u:=by
 obtain⟨a,c,d,l,hl,f⟩:=h;exact⟨a.kp hk h1,c,d.kp hk h3,l,hl,f.kp hk h4 h1⟩
theorem RMthIn.mono {b b':Nat}{x:Rf.Mth}{u:RMthV}{w:World} (h:RMthIn w b x u) (hb:b'≤b):RMthIn w b' x u:=by
 obtain⟨a,c,d,l,hl,f⟩:=h;exact⟨a.mono hb,c,d.mono hb,l,hl,f.mono hb⟩
def Eb (l:List (Rf.Mth × RMthV)):List Value:=l.flatMap fun x=>Cy x.1 x.2
theorem M5 (l:List (Rf.Mth × RMthV)) (x:Rf.Mth × RMthV):Eb (l++[x])=Eb l++Cy x.1 x.2:=by simp[Eb]
def RMthsIn (w:World) (b:Nat) (v:Value) (l:List (Rf.Mth × RMthV)):Prop :=
 w.ownsRow b 52 12 v l.length (Eb l)∧∀ p∈l,RMthIn w b p.1 p.2
theorem RMthsIn.kp {b:Nat}{v:Value}{l:List (Rf.Mth × RMthV)}{w w':World} (h:RMthsIn w b v l) {e:Option TypeId} (hk:Kp e b w w') (h0:some 52≠e) (h1:some 39≠e) (h3:some 116≠e) (h4:some 82≠e):RMthsIn w' b v l :=
 ⟨Av h.1 hk h0,fun p hp=>(h.2 p hp).kp hk h1 h3 h4⟩
theorem RMthsIn.mono {b b':Nat}{v:Value}{l:List (Rf.Mth × RMthV)}{w:World} (h:RMthsIn w b v l) (hb:b'≤b):RMthsIn w b' v l:=⟨Ba h.1 hb,fun p hp=>(h.2 p hp).mono hb⟩
theorem Fl {s:ByteArray}{i:Nat} (h:i<s.size):Rf.at' s.data.toList (i:Int)=(s[i].toNat:Int):=by
 have h':i<s.data.toList.length:=by simpa using h
 have e:s.data.toList[i]?.getD 0=s[i]:=by rw[List.getElem?_eq_getElem h'];rfl
 unfold Rf.at';rw[if_neg (by omega),if_neg (by omega),Int.toNat_natCast,e]
theorem Bc (s:ByteArray) (i:Int) (w:World) (_hs:s.size≤maxLen) :
  Calls Tryz.prog 89 #[.string s,.int .i64 i] w fun e w'=>e=.returned (.int .i64 (Rf.at' s.data.toList i))∧w=w':=by
 have hl:s.data.toList.length=s.size:=by simp
 by_cases h0:i<0
 ·have e:Rf.at' s.data.toList i = -1:=by unfold Rf.at';rw[if_pos h0]
  rw[e];go_enter Tryz.func89,Tryz.ntmps89;go_wp2;go_ret;exact⟨rfl,rfl⟩
 ·by_cases h1:(s.size:Int)≤i
  ·rw[Rf.at_out (by omega)];go_enter Tryz.func89,Tryz.ntmps89;go_wp2;go_ret;exact⟨rfl,rfl⟩
  ·obtain⟨k,rfl⟩:=Int.eq_ofNat_of_zero_le (show 0≤i by omega);have hk:k<s.size:=by omega
   rw[Fl hk];go_enter Tryz.func89,Tryz.ntmps89;go_wp2;go_ret;exact⟨Qt (Im _),rfl⟩
theorem Aq (s:ByteArray) (i least most:Int) (w:World) (hs:s.size≤maxLen) :
  Calls Tryz.prog 90 #[.string s,.int .i64 i,.int .i64 least,.int .i64 most] w fun e w'=>e=.returned (.int .i64 (Rf.cnt s.data.toList i least most))∧w=w':=by
 unfold Rf.cnt;generalize hr:Rf.at' s.data.toList i=r;have HR:=Ac hr;clear hr;by_cases h1:r<least
 ·rw[if_pos h1];go_enter Tryz.func90,Tryz.ntmps90;go_wp2_with (go_at_call 89;refine(Bc s i _ hs).mono ?_;rw[Aa HR];rintro e w1 ⟨rfl,rfl⟩)
  go_ret;exact⟨rfl,rfl⟩
 ·rw[if_neg h1];by_cases h2:most<r
  ·rw[if_pos h2];go_enter Tryz.func90,Tryz.ntmps90;go_wp2_with (go_at_call 89;refine(Bc s i _ hs).mono ?_;rw[Aa HR];rintro e w1 ⟨rfl,rfl⟩)
   go_ret;exact⟨rfl,rfl⟩
  ·rw[if_neg h2];go_enter Tryz.func90,Tryz.ntmps90;go_wp2_with (go_at_call 89;refine(Bc s i _ hs).mono ?_;rw[Aa HR];rintro e w1 ⟨rfl,rfl⟩)
   go_ret;exact⟨rfl,rfl⟩
theorem Bv (s:List UInt8) (i:Int) (n:Nat):(Rf.tys s i n).length=n:=by
 induction n with
 | zero=>rfl
 | succ k ih=>simp[Rf.tys,ih]
theorem Bm (s:ByteArray) (i n:Int) (w:World) (hs:s.size≤maxLen) (hi0:0≤i) (hi1:i≤1000000) (hn0:0≤n) (hn1:n≤255) :
  Calls Tryz.prog 134 #[.string s,.int .i64 i,.int .i64 n] w fun e w' =>
   ∃ a c,e=.returned (.slice a n.toNat c)∧TysAt w' w.heap.size (.slice a n.toNat c) (Rf.tys s.data.toList i n.toNat)∧Below w.heap.size w w':=by
 obtain⟨i0,hi,hz0,hz1,hz2⟩:=info_parts Tryz.infoType;go_enter Tryz.func134,Tryz.ntmps134;go_wp2
 go_loopw [7,8] (fun v j wr=>∃ k:Nat,(k:Int)≤n∧j=.int .i64 k∧wr.ownsRow w.heap.size 39 2 v k (Am (Rf.tys s.data.toList i k))∧Below w.heap.size w wr)
  (fun _ j _=>n.toNat-(intOf j).toNat)
 case atStart=>exact⟨0,by omega,rfl,World.ownsRow_nil _ _ _ _,Below.refl _ _⟩
 case round =>
  obtain⟨k,hk,rfl,hown,hbl⟩:=hrel;have hsz:=hbl.size;by_cases hkn:(k:Int)<n
  ·generalize hp:Rf.tys s.data.toList i k=p at *;generalize ha:Rf.at' s.data.toList (i+2*(k:Int))=x at *;generalize hb:Rf.at' s.data.toList (i+2*(k:Int)+1)=y at *;have HE:Hid (Rf.tys s.data.toList i (k+1)=p++[(x,y)]):=by unfold Hid;rw[Rf.tys,hp,ha,hb]
   have HA:=Ac ha;have HB:=Ac hb;clear hp ha hb;go_wp2_with fail
   refine(Bc s (i+2*(k:Int)) _ hs).mono ?_;rw[Aa HA];rintro e w1 ⟨rfl,rfl⟩;go_wp2_with fail
   refine(Bc s (i+2*(k:Int)+1) _ hs).mono ?_;rw[Aa HB];rintro e w1 ⟨rfl,rfl⟩;go_wp2_with (at_builtin;refine wpList_append_own _ rfl _ _ 48 rfl w.heap.size 39 i0 _ 2 16 Tryz.underlying48 hi hz0 hz1 hz2 rfl (by decide) _ _ _ rfl (hown.alloc _) ⟨wr.heap.size,0,none⟩ 1 1 [.int .i64 x,.int .i64 y] rfl rfl ?c1 ?c2 ?c3 ?c4 ?c5 ?_)
   case c1=>exact Au _ _ _ _ rfl
   case c2=>intro u hu;simp at hu;rcases hu with rfl | rfl<;>rfl
   case c3=>unfold maxLen;omega
   case c4=>omega
   case c5=>simp;omega
   intro v' w2 hown2 hgrow _;have hown3:w2.ownsRow w.heap.size 39 2 v' (k+1) (Am (Rf.tys s.data.toList i (k+1))):=by
    rw[Aa HE,Dh];exact hown2
   have hbl2:=(hbl.alloc hsz (O7 x y)).grown hgrow (by simp;omega) (fun j hj=>(hown.lt j hj).1);clear hgrow hown hown2 hbl;go_wp2
   go_roundw
   case rel=>exact⟨k+1,by omega,by go_num,hown3,hbl2⟩
   case measure=>simp[intOf];omega
  ·obtain rfl:k=n.toNat:=by omega
   obtain⟨va,vc,rfl⟩:=Af hown;go_wp2;go_ret;refine⟨_,_,rfl,?_,hbl⟩;unfold TysAt;rw[Bv];exact hown
theorem La (s:ByteArray) (i:Int) (w:World) (hs:s.size≤maxLen) (hi0:0≤i) (hi1:i≤100000) :
  Calls Tryz.prog 91 #[.string s,.int .i64 i] w fun e w' =>
   ∃ x a n c,e=.returned (.tuple #[.agg #[.int .i64 x,.slice a n c],.int .i64 (Rf.cls s.data.toList i).2]) ∧
    (0≤(Rf.cls s.data.toList i).2→x=(Rf.cls s.data.toList i).1.above∧TysAt w' w.heap.size (.slice a n c) (Rf.cls s.data.toList i).1.fields)∧Below w.heap.size w w':=by
 unfold Rf.cls;generalize hr:Rf.cnt s.data.toList (i+1) 0 4=r;have hb:=Rf.cnt_bd s.data.toList (i+1) 0 4 (by omega);rw[hr]at hb;obtain⟨hb0,hb1⟩:=hb;have HR:=Ac hr;clear hr;by_cases h0:r<0
 ·rw[if_pos h0];go_enter Tryz.func91,Tryz.ntmps91;go_wp2_with fail
  refine(Aq s (i+1) 0 4 _ hs).mono ?_;rw[Aa HR];rintro e w1 ⟨rfl,rfl⟩;go_wp2_with fail
  refine bodyPost_ret (v:=.tuple #[.agg #[.int .i64 0,.slice none 0 0],.int .i64 (-1)]) (by simp[results,Tryz.results91,go_sem]) rfl ?_;exact⟨0,none,0,0,rfl,fun h=>absurd h (by decide),QN _⟩
 ·rw[if_neg h0];generalize hx:Rf.at' s.data.toList i=x;have HX:=Ac hx;clear hx;go_enter Tryz.func91,Tryz.ntmps91;go_wp2_with fail
  refine(Aq s (i+1) 0 4 _ hs).mono ?_;rw[Aa HR];rintro e w1 ⟨rfl,rfl⟩;go_wp2_with fail
  refine(Bc s i _ hs).mono ?_;rw[Aa HX];rintro e w1 ⟨rfl,rfl⟩;go_wp2_with fail
  refine(Bm s (i+2) r _ hs (by omega) (by omega) (by omega) (by omega)).mono ?_;rintro e w1 ⟨a,c,rfl,ht,hb1⟩;have hC:=(hb1.block w.heap.size (by simp)).trans (Ad w _);obtain⟨y0,y1⟩:=cl2 hC;obtain⟨f0,f1⟩:=fr2 hC;simp at y0 y1;have hB:Below w.heap.size w w1:=(QN _).trans (hb1.mono (by simp));go_wp2_with fail
  refine bodyPost_ret (v:=.tuple #[.agg #[.int .i64 x,.slice a r.toNat c],.int .i64 (i+2+2*r)]) (by simp[results,Tryz.results91,go_sem,y0,y1]) rfl ?_;refine⟨_,_,_,_,rfl,fun _=>⟨rfl,?_⟩,(hB.setCell (by simp) _).setCell (by simp) _⟩;exact Ba (ownsRow_setCell_below (ownsRow_setCell_below ht (by simp) _) (by simp) _) (by simp)
theorem Tryz.infoRMap:(Tryz.prog.info? 82).map (fun i=>(i.zero,i.size,i.bytes))=some (some (.agg #[.int .i64 0,.slice none 0 0,.slice none 0 0]),3,56):=by kernel_rfl
theorem Jv {α:Type}{f:Int→α × Int}{k:Nat}{i:Int} (h0:0≤(Rf.rep f k i).2) (h:(f (Rf.rep f k i).2).2<0) (m:Nat) (hm:k<m):(Rf.rep f m i)=([],-1):=by
 have h1:Rf.rep f (k+1) i=([],-1):=by
  unfold Rf.rep;rw[if_neg (by omega),if_pos h]
 have:∀ n,Rf.rep f (k+1+n) i=([],-1):=by
  intro n
  induction n with
  | zero=>exact h1
  | succ j ih =>
   rw[show k+1+(j+1)=(k+1+j)+1 by omega];unfold Rf.rep;rw[ih,if_pos (by simp)]
 obtain⟨n,rfl⟩:∃ n,m=k+1+n:=⟨m-(k+1),by omega⟩;exact this n
theorem Xm {s:List UInt8}{L H i:Int} (h:0≤(Rf.mp s L H i).2) (hH:H≤8) (hL:L≤8) (hL0:0≤L):(Rf.mp s L H i).2≤i+34∧i≤(Rf.mp s L H i).2:=by
 unfold Rf.mp at h ⊢
 split
 ·rename_i c;rw[if_pos c]at h;simp at h
 ·rename_i c;by_cases hh:-1≤H
  ·have:=Rf.cnt_bd s (i+1+2*L) 0 H hh;simp only;omega
  ·exfalso
   unfold Rf.cnt at c;have:=Rf.at_bd s (i+1+2*L)
   split at c
   ·omega
   ·split at c<;>omega
theorem Uo (s:ByteArray) (i L H:Int) (w:World) (hs:s.size≤maxLen) (hi0:0≤i) (hi1:i≤100000) (hL0:0≤L) (hL1:L≤8) (hH0:0≤H) (hH1:H≤8) :
  Calls Tryz.prog 136 #[.string s,.int .i64 i,.int .i64 L,.int .i64 H] w fun e w' =>
   ∃ a n c l,e=.returned (.tuple #[.slice a n c,.int .i64 (Rf.mps s.data.toList i L H).2])∧l.map Prod.fst=(Rf.mps s.data.toList i L H).1∧RMpsIn w' w.heap.size (.slice a n c) l∧Below w.heap.size w w':=by
 obtain⟨i0,hi,hz0,hz1,hz2⟩:=info_parts Tryz.infoRMap;unfold Rf.mps;generalize hr:Rf.cnt s.data.toList i 0 64=r;have hb:=Rf.cnt_bd s.data.toList i 0 64 (by omega);rw[hr]at hb;obtain⟨hb0,hb1⟩:=hb;have HR:=Ac hr;clear hr;by_cases h0:r<0
 ·rw[if_pos h0];go_enter Tryz.func136,Tryz.ntmps136;go_wp2_with fail
  refine(Aq s i 0 64 _ hs).mono ?_;rw[Aa HR];rintro e w1 ⟨rfl,rfl⟩;go_wp2;go_ret2;exact⟨none,0,0,[],rfl,rfl,⟨World.ownsRow_nil _ _ _ _,by simp⟩,Below.refl _ _⟩
 ·rw[if_neg h0];generalize hz:Rf.rep (Rf.mp s.data.toList L H) r.toNat (i+1)=z;have HZ:=Ac hz;clear hz;go_enter Tryz.func136,Tryz.ntmps136;go_wp2_with fail
  refine(Aq s i 0 64 _ hs).mono ?_;rw[Aa HR];rintro e w1 ⟨rfl,rfl⟩;go_wp2
  go_loopw [1,11,12] (fun p v j wr=>∃ (k:Nat) (q:Int) (l:List (Rd.Mp × Value × Value)),(k:Int)≤r∧j=.int .i64 k∧p=.int .i64 q∧l.length=k∧0≤q∧q≤i+1+34*(k:Int)∧Hid (Rf.rep (Rf.mp s.data.toList L H) k (i+1)=(l.map Prod.fst,q)) ∧
    RMpsIn wr w.heap.size v l∧Below w.heap.size w wr)
   (fun _ _ j _=>r.toNat-(intOf j).toNat)
  case atStart=>exact⟨0,_,[],by omega,rfl,rfl,rfl,by omega,by omega,rfl,⟨World.ownsRow_nil _ _ _ _,by simp⟩,Below.refl _ _⟩
  case round =>
   obtain⟨k,q,l,hk,rfl,rfl,hlen,hq0,hq1,HQ,hms,hbl⟩:=hrel;have hsz:=hbl.size;by_cases hkn:(k:Int)<r
   ·generalize hx:Rf.at' s.data.toList q=x;generalize hh:Rf.cnt s.data.toList (q+1+2*L) 0 H=h;have hbh:=Rf.cnt_bd s.data.toList (q+1+2*L) 0 H (by omega);rw[hh]at hbh;obtain⟨hh0,hh1⟩:=hbh;by_cases hneg:h<0
    ·have hz:z=([],-1):=by
      rw[← Aa HZ];refine Jv (k:=k) ?_ ?_ _ (by omega)
      ·rw[Aa HQ];exact hq0
      ·rw[Aa HQ];unfold Rf.mp;rw[hh,if_pos hneg]
       decide
     have HZ2:=Ac hz;have HX:=Ac hx;have HH:=Ac hh;clear hz hx hh hlen;go_wp2_with fail
     refine(Bc s q _ hs).mono ?_;rw[Aa HX];rintro e w1 ⟨rfl,rfl⟩;go_wp2_with fail
     refine(Aq s (q+1+2*L) 0 H _ hs).mono ?_;rw[Aa HH];rintro e w1 ⟨rfl,rfl⟩;go_wp2;go_ret2;exact⟨none,0,0,[],by rw[Aa HZ2];rfl,by rw[Aa HZ2];rfl,⟨World.ownsRow_nil _ _ _ _,by simp⟩,hbl⟩
    ·generalize hq2:Rf.tys s.data.toList (q+1) L.toNat=q2;generalize hq4:Rf.tys s.data.toList (q+2+2*L) h.toNat=q4;have hmp:Rf.mp s.data.toList L H q=(⟨x,q2,q4⟩,q+2+2*L+2*h):=by
      unfold Rf.mp;rw[hh,if_neg hneg,hx,hq2,hq4]
     have HE:Hid (Rf.rep (Rf.mp s.data.toList L H) (k+1) (i+1)=(l.map Prod.fst++[⟨x,q2,q4⟩],q+2+2*L+2*h)):=Rf.rep_step (Aa HQ) hq0 hmp (by omega);have HX:=Ac hx;have HH:=Ac hh;have HQ2:=Ac hq2;have HQ4:=Ac hq4;have HLen:=Ac hlen;clear hx hh hq2 hq4 hmp hlen;go_wp2_with fail
     refine(Bc s q _ hs).mono ?_;rw[Aa HX];rintro e w1 ⟨rfl,rfl⟩;go_wp2_with fail
     refine(Aq s (q+1+2*L) 0 H _ hs).mono ?_;rw[Aa HH];rintro e w1 ⟨rfl,rfl⟩;go_wp2_with fail
     refine(Bm s (q+1) L _ hs (by omega) (by omega) hL0 (by omega)).mono ?_;rw[Aa HQ2];rintro e w1 ⟨a1,c1,rfl,ht1,hb1⟩;have hB1:=hbl.trans (hb1.mono hsz);have hs1:=hB1.size;go_wp2_with fail
     refine(Bm s (q+2+2*L) h _ hs (by omega) (by omega) (by omega) (by omega)).mono ?_;rw[Aa HQ4];rintro e w2 ⟨a2,c2,rfl,ht2,hb2⟩;have hB2:=hB1.trans (hb2.mono hs1);have hs2:=hB2.size;have T1:=(ht1.mono hsz).kp (Kp.of_below (e:=none) hb2) (by decide);have T2:=ht2.mono hs1;have hms2:=(hms.kp (Kp.of_below (e:=none) hb1) (by decide) (by decide)).kp (Kp.of_below (e:=none) hb2) (by decide) (by decide);have HMs:=Ac hms2.2;have hown:=hms2.1;clear ht1 ht2 hms hms2 hbl hB1 hb1 hb2;go_wp2_with (at_builtin;refine wpList_append_own _ rfl _ _ 50 rfl w.heap.size 82 i0 _ 3 56 Tryz.underlying50 hi hz0 hz1 hz2 rfl (by decide) _ _ _ rfl (hown.alloc _) ⟨w2.heap.size,0,none⟩ 1 1 [.int .i64 x,.slice a1 L.toNat c1,.slice a2 h.toNat c2] rfl rfl ?c1 ?c2 ?c3 ?c4 ?c5 ?_)
     case c1=>exact Au _ _ _ _ rfl
     case c2=>intro u hu;simp at hu;rcases hu with rfl | rfl | rfl<;>rfl
     case c3=>have:=Aa HLen;unfold maxLen;omega
     case c4=>have:=Aa HLen;omega
     case c5=>simp;omega
     intro v' w3 hown2 hgrow _;have hbl3:=(hB2.alloc hs2 (O9 x a1 L.toNat c1 a2 h.toNat c2)).grown hgrow (by simp;omega) (fun j hj=>(hown.lt j hj).1);have hK:=(Kp.alloc (e:=some 82) (b:=w.heap.size) _ _).trans (Kp.of_grown hgrow (hown.alloc _));have hms3:RMpsIn w3 w.heap.size v' (l++[(⟨x,q2,q4⟩,.slice a1 L.toNat c1,.slice a2 h.toNat c2)]):=by
      refine⟨?_,?_⟩
      ·rw[Gx,List.length_append];exact hown2
      ·intro p hp;rw[List.mem_append]at hp;rcases hp with hp | hp
       ·exact⟨(Aa HMs p hp).1.kp hK (by decide),(Aa HMs p hp).2.kp hK (by decide)⟩
       ·simp only[List.mem_singleton]at hp;subst hp;exact⟨T1.kp hK (by decide),T2.kp hK (by decide)⟩
     clear hgrow hown hown2 hK T1 T2 hB2;go_wp2
     go_roundw
     case rel=>exact⟨k+1,_,_,by omega,by go_num,rfl,by rw[List.length_append,Aa HLen];rfl,by omega,by omega,by unfold Hid;rw[Aa HE,List.map_append];rfl,hms3,hbl3⟩
     case measure=>simp[intOf];omega
   ·obtain rfl:k=r.toNat:=by omega
    have hz:z=(l.map Prod.fst,q):=by rw[← Aa HZ];exact Aa HQ
    have HZ2:=Ac hz;clear hz hlen;obtain⟨va,vc,rfl⟩:=Af hms.1;go_wp2;go_ret2;exact⟨_,_,_,by rw[Aa HZ2];rfl,l,by rw[Aa HZ2],hms,hbl⟩
theorem Kf {P:Program}{ops:Array Oper}{o:Oper}{a:Act}{w:World}{K:Act→World→Prop}{Q:Exit→Act→World→Prop}{E:Prop}
  (hg:o.guard=none) (s x:Operand) (t:TypeId) (hop:o.op=Op.call { callee:=Callee.builtin Builtin.append,args:=#[s,x],argTypes:=#[t,t] })
  (base:Nat) (e:TypeId) (i:TypeInfo) (z:Value) (size bytes:Nat) (h1:P.underlying t=some (.slice e)) (h2:P.info? e=some i) (h3:i.zero=some z) (h4:i.size=size) (h5:i.bytes=bytes) (h6:z.cells.size=size) (h7:0<size)
  (v:Value) (n:Nat) (xs:List Value) (hs:a.eval s=v) (hown:w.ownsRow base e size v n xs)
  (ad:Addr) (m c:Nat) (news:List Value) (hx:a.eval x=.slice (some ad) m c) (hn:news.length=m*size) (hc:∀ j u,news[j]?=some u→w.cell? (ad.add j)=some u) (h1c:∀ u∈news,u.oneCell'=true)
  (b1:n+m≤maxLen) (b2:(n+m)*bytes≤140737488355328) (b3:base≤w.heap.size)
  (hK:∀ v' w',w'.ownsRow base e size v' (n+m) (xs++news)→w.grownBy w' v.ownBlock→K (a.put o.dst v') w') :
  if Region.wanted o (yielded ops a.tmps)=true then Oper.wp P o a w K Q else E:=by
 have hw:Region.wanted o (yielded ops a.tmps)=true:=by simp[Region.wanted,hg]
 rw[if_pos hw];obtain⟨v',w',hrun,r1,r2,_⟩:=run_append_own (P:=P) w base t o.type e i z size bytes h1 h2 h3 h4 h5 h6 h7 v n xs hown ad m c news hn hc h1c b1 b2 b3;unfold Oper.wp;simp[execOp,hop,resolve,invoke,builtin,hs,hx,hrun,Result.andThen];exact hK v' w' r1 r2
theorem Tryz.infoRHandler:(Tryz.prog.info? 116).map (fun i=>(i.zero,i.size,i.bytes))=some (some (.agg #[.int .i64 0,.int .i64 0,.int .i64 0,.int .i64 0]),4,32):=by kernel_rfl
theorem Id (s:List UInt8) (i:Int) (n:Nat):(Rf.hndTo s i n).length=n:=by
 induction n with
 | zero=>rfl
 | succ k ih=>simp[Rf.hndTo,ih]
theorem Bd (n:Int) (h0:-9223372036854775808≤n) (h1:n≤9223372036854775807):IntKind.i64.wrap n=n:=by
 rw[Go.IntWalk.i64_left,Go.IntWalk.wrap64_in _ ⟨h0,h1⟩]
theorem Lz (s:ByteArray) (i:Int) (w:World) (hs:s.size≤maxLen) (hi0:0≤i) (hi1:i≤100000) :
  Calls Tryz.prog 135 #[.string s,.int .i64 i] w fun e w' =>
   ∃ a n c,e=.returned (.tuple #[.slice a n c,.int .i64 (Rf.hnds s.data.toList i).2])∧RHndsAt w' w.heap.size (.slice a n c) (Rf.hnds s.data.toList i).1∧Below w.heap.size w w':=by
 obtain⟨i0,hi,hz0,hz1,hz2⟩:=info_parts Tryz.infoRHandler;have hlen:s.data.toList.length=s.size:=by simp
 unfold Rf.hnds;rw[hlen];generalize hr:Rf.cnt s.data.toList i 0 4=r;have hb:=Rf.cnt_bd s.data.toList i 0 4 (by omega);rw[hr]at hb;obtain⟨hb0,hb1⟩:=hb;have HR:=Ac hr;clear hr;by_cases h0:r<0
 ·rw[if_pos h0];go_enter Tryz.func135,Tryz.ntmps135;go_wp2_with fail
  refine(Aq s i 0 4 _ hs).mono ?_;rw[Aa HR];rintro e w1 ⟨rfl,rfl⟩;go_wp2;go_ret2;exact⟨none,0,0,rfl,World.ownsRow_nil _ _ _ _,Below.refl _ _⟩
 ·rw[if_neg h0];by_cases h1:(s.size:Int)<i+1+4*r
  ·rw[if_pos h1];go_enter Tryz.func135,Tryz.ntmps135;go_wp2_with fail
   refine(Aq s i 0 4 _ hs).mono ?_;rw[Aa HR];rintro e w1 ⟨rfl,rfl⟩;go_wp2;go_ret2;exact⟨none,0,0,rfl,World.ownsRow_nil _ _ _ _,Below.refl _ _⟩
  ·rw[if_neg h1];unfold RHndsAt;dsimp only;rw[Id];have d0:decide (r<0)=false:=by simp;omega
   have d1:decide ((s.size:Int)<i+1+4*r)=false:=by simp;omega
   go_enter Tryz.func135,Tryz.ntmps135;go_wp2_with fail
   refine(Aq s i 0 4 _ hs).mono ?_;rw[Aa HR];rintro e w1 ⟨rfl,rfl⟩;go_wp2
   go_loopw [7,8] (fun v j wr=>∃ k:Nat,(k:Int)≤r∧j=.int .i64 k∧wr.ownsRow w.heap.size 116 4 v k (Bb (Rf.hndTo s.data.toList i k))∧Below w.heap.size w wr)
    (fun _ j _=>r.toNat-(intOf j).toNat)
   case atStart=>exact⟨0,by omega,rfl,World.ownsRow_nil _ _ _ _,Below.refl _ _⟩
   case round =>
    obtain⟨k,hk,rfl,hown,hbl⟩:=hrel;have hsz:=hbl.size;by_cases hkn:(k:Int)<r
    ·obtain⟨q,hq⟩:=Int.eq_ofNat_of_zero_le (show 0≤i+1+4*(k:Int) by omega);have q3:q+3<s.size:=by omega
     have q2:q+2<s.size:=by omega
     have q1:q+1<s.size:=by omega
     have q0:q<s.size:=by omega
     have z3:(q:Int)+3<(s.size:Int):=by omega
     have z2:(q:Int)+2<(s.size:Int):=by omega
     have z1:(q:Int)+1<(s.size:Int):=by omega
     have HE:Hid (Bb (Rf.hndTo s.data.toList i (k+1))=Bb (Rf.hndTo s.data.toList i k)++[.int .i64 (s[q].toNat:Int),.int .i64 (s[q+1].toNat:Int),.int .i64 (s[q+2].toNat:Int),.int .i64 (s[q+3].toNat:Int)]):=by
      unfold Hid;rw[Rf.hndTo,I8,hq];unfold Rf.hndAt;have a1:Rf.at' s.data.toList ((q:Int)+1)=_:=Fl (i:=q+1) q1;have a2:Rf.at' s.data.toList ((q:Int)+2)=_:=Fl (i:=q+2) q2;have a3:Rf.at' s.data.toList ((q:Int)+3)=_:=Fl (i:=q+3) q3;rw[Fl q0,a1,a2,a3]
     have hw1:IntKind.i64.wrap ((q:Int)+1)=(q:Int)+1:=Bd _ (by omega) (by omega);have hw2:IntKind.i64.wrap ((q:Int)+2)=(q:Int)+2:=Bd _ (by omega) (by omega);have hw3:IntKind.i64.wrap ((q:Int)+3)=(q:Int)+3:=Bd _ (by omega) (by omega);have hwb:∀ c:UInt8,IntKind.i64.wrap (c.toNat:Int)=(c.toNat:Int):=fun c=>Bd _ (by omega) (by have:=c.toNat_lt;omega);have y1:0≤(q:Int)+1:=by omega
     have y2:0≤(q:Int)+2:=by omega
     have y3:0≤(q:Int)+3:=by omega
     have e1:((q:Int)+1).toNat=q+1:=by omega
     have e2:((q:Int)+2).toNat=q+2:=by omega
     have e3:((q:Int)+3).toNat=q+3:=by omega
     go_wp2
     go_region_held3 (fun _=>True) (exact trivial) ((refine Kf (by rfl) _ _ _ (by rfl) w.heap.size 116 i0 _ 4 32 Tryz.underlying49 hi hz0 hz1 hz2 rfl (by omega) _ _ _ (by rfl) ((hown.alloc _).drew) ⟨wr.heap.size,0,none⟩ 1 1 [.int .i64 (s[q].toNat:Int),.int .i64 (s[q+1].toNat:Int),.int .i64 (s[q+2].toNat:Int),.int .i64 (s[q+3].toNat:Int)] (by rfl) (by rfl) (Au wr _ _ _ rfl) (by simp[Value.oneCell']) (by unfold maxLen;omega) (by omega) (by simp;omega) ?_;intro v' w2 hown2 hgrow))
     all_goals
      have hown3:w2.ownsRow w.heap.size 116 4 v' (k+1) (Bb (Rf.hndTo s.data.toList i (k+1))):=by rw[Aa HE];exact hown2
      have hbl2:=((hbl.alloc hsz _).drew).grown hgrow (by simp;omega) (fun j hj=>(hown.lt j hj).1);clear hgrow hown2;go_wp2
      go_roundw
      case rel=>exact⟨k+1,by omega,by go_num,hown3,hbl2⟩
      case measure=>simp[intOf];omega
    ·obtain rfl:k=r.toNat:=by omega
     obtain⟨va,vc,rfl⟩:=Af hown;go_wp2;go_ret2;exact⟨_,_,_,rfl,hown,hbl⟩
end Go.Proofs.YtcefiamkoincoaaGreat
