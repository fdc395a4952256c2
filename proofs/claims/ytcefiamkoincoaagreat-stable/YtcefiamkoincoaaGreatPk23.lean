/- a part of the proof in YtcefiamkoincoaaGreatStableProof -/
import Derived.Test.YtcefiamkoincoaaGreatPk22
set_option maxRecDepth 100000
set_option maxHeartbeats 40000000
set_option linter.unusedVariables false
set_option linter.unusedSimpArgs false
namespace Go.Proofs.YtcefiamkoincoaaGreat
open Go.RowKit
theorem X9 (s:List UInt8) (i L H:Int) (hi:0≤i) (hL:0≤L) (h:0≤(Rf.mps s i L H).2):i+1≤(Rf.mps s i L H).2:=by
 unfold Rf.mps at h ⊢;by_cases h1:Rf.cnt s i 0 64 < 0
 ·rw [if_pos h1] at h;simp at h
 ·rw [if_neg h1] at h ⊢;exact P4 (Rf.mp s L H) (fun j hj hjj=>by
   unfold Rf.mp at hjj ⊢;by_cases h2:Rf.cnt s (j+1+2 * L) 0 H < 0
   ·rw [if_pos h2] at hjj;simp at hjj
   ·rw [if_neg h2];simp only;omega) _ (i+1) (by omega) h
theorem Yo (s:List UInt8) (i:Int) (_hi:0≤i) (h:0≤(Rf.mth s i).2):(Rf.mth s i).1.mapsAt+1≤(Rf.mth s i).1.fin:=by
 unfold Rf.mth at h ⊢;dsimp only at h ⊢;have n1:¬ (0:Int)≤-1:=by omega
 by_cases h1:Rf.cnt s (i+2) 0 4 < 0
 ·rw [if_pos h1] at h;exact absurd h n1
 rw [if_neg h1] at h ⊢;by_cases h2:Rf.cnt s (i+3+2 * Rf.cnt s (i+2) 0 4+2) 0 8 < 0
 ·rw [if_pos h2] at h;exact absurd h n1
 rw [if_neg h2] at h ⊢;by_cases h3:Rf.cnt s (i+3+2 * Rf.cnt s (i+2) 0 4+3) 0 8 < 0
 ·rw [if_pos h3] at h;exact absurd h n1
 rw [if_neg h3] at h ⊢;by_cases h4:Rf.cnt s (i+3+2 * Rf.cnt s (i+2) 0 4+4) 1 120 < 0
 ·rw [if_pos h4] at h;exact absurd h n1
 rw [if_neg h4] at h ⊢;by_cases h5:(s.length:Int) < i+3+2 * Rf.cnt s (i+2) 0 4+5+Rf.cnt s (i+3+2 * Rf.cnt s (i+2) 0 4+4) 1 120
 ·rw [if_pos h5] at h;exact absurd h n1
 rw [if_neg h5] at h ⊢;by_cases h6:(Rf.hnds s (i+3+2 * Rf.cnt s (i+2) 0 4+5+Rf.cnt s (i+3+2 * Rf.cnt s (i+2) 0 4+4) 1 120)).2 < 0
 ·rw [if_pos h6] at h;exact absurd h n1
 rw [if_neg h6] at h ⊢;simp only at h ⊢;exact X9 s _ _ _ (by omega) (by omega) h
theorem Yg (s:List UInt8) (n:Nat) (i:Int) (hi:0≤i) (h:0≤(Rf.rep (Rf.mth s) n i).2):∀ x∈(Rf.rep (Rf.mth s) n i).1,x.mapsAt+1≤x.fin:=by
 induction n with
 | zero=>simp [Rf.rep]
 | succ k ih =>
  unfold Rf.rep at h ⊢;by_cases h1:(Rf.rep (Rf.mth s) k i).2 < 0
  ·rw [if_pos h1] at h;simp at h
  ·rw [if_neg h1] at h ⊢;by_cases h2:(Rf.mth s (Rf.rep (Rf.mth s) k i).2).2 < 0
   ·rw [if_pos h2] at h;simp at h
   ·rw [if_neg h2] at h ⊢;simp only at h ⊢;intro x hx;rcases List.mem_append.1 hx with hx | hx
    ·exact ih (by omega) x hx
    ·rw [List.mem_singleton.1 hx];exact Yo s _ (by omega) h
theorem Yv (s:List UInt8) (h:(Rf.fil s).2.2=(s.length:Int)):∀ x∈(Rf.fil s).2.1,x.mapsAt+1≤x.fin:=by
 unfold Rf.fil at h ⊢;have n1:¬ (-1:Int)=(s.length:Int):=by omega
 by_cases h1:Rf.at' s 0 ≠ 83
 ·rw [if_pos h1] at h;exact absurd h n1
 rw [if_neg h1] at h ⊢;by_cases h2:Rf.at' s 1 ≠ 77
 ·rw [if_pos h2] at h;exact absurd h n1
 rw [if_neg h2] at h ⊢;by_cases h3:Rf.cnt s 2 0 6 < 0
 ·rw [if_pos h3] at h;exact absurd h n1
 rw [if_neg h3] at h ⊢;dsimp only at h ⊢;by_cases h4:(Rf.rep (Rf.cls s) (Rf.cnt s 2 0 6).toNat 3).2 < 0
 ·rw [if_pos h4] at h;exact absurd h n1
 rw [if_neg h4] at h ⊢;by_cases h5:Rf.cnt s (Rf.rep (Rf.cls s) (Rf.cnt s 2 0 6).toNat 3).2 1 6 < 0
 ·rw [if_pos h5] at h;exact absurd h n1
 rw [if_neg h5] at h ⊢;by_cases h6:(Rf.rep (Rf.mth s) (Rf.cnt s (Rf.rep (Rf.cls s) (Rf.cnt s 2 0 6).toNat 3).2 1 6).toNat ((Rf.rep (Rf.cls s) (Rf.cnt s 2 0 6).toNat 3).2+1)).2 < 0
 ·rw [if_pos h6] at h;exact absurd h n1
 rw [if_neg h6] at h ⊢;simp only at h ⊢;exact Yg s _ _ (by omega) (by omega)
theorem M8 (s:ByteArray):∀ (ms:List Rf.Mth) (out:ByteArray) (i j:Int),0≤i→i≤j→Rf.chain (s.size:Int) j ms→(∀ x∈ms,x.mapsAt+1≤x.fin)→((Rf.strip s out i ms).size:Int)≤(out.size:Int)+((s.size:Int) - i)
 | [],out,i,j,h0,h1,hc,_=>by
  rw [Rf.chain] at hc;rw [Rf.strip,ByteArray.size_append,ByteArray.size_extract];omega
 | x :: r,out,i,j,h0,h1,hc,hx=>by
  obtain ⟨c1,c2,c3⟩:=hc;have g:=hx x (by simp);have c4:=Ni c3;have ih:=M8 s r ((out ++ s.extract i.toNat x.mapsAt.toNat) ++ ⟨#[0]⟩) x.fin x.fin (by omega) (Int.le_refl _) c3 (fun y hy=>hx y (by simp [hy]));rw [Rf.strip];have e:(((out ++ s.extract i.toNat x.mapsAt.toNat) ++ ⟨#[0]⟩).size:Int)≤(out.size:Int)+(x.mapsAt - i)+1:=by
   rw [ByteArray.size_append,ByteArray.size_append,ByteArray.size_extract];have:(ByteArray.mk #[0]).size=1:=rfl;omega
  omega
theorem Pn (s:ByteArray) (h:(Rf.formed s.data.toList).1=0):(Wr.fil (Rd.Fil.bare (Rd.read s.data.toList).1)).length≤s.size:=by
 obtain ⟨hf,hl⟩:=Hs _ h;obtain ⟨i',h0,hch⟩:=Mf _ hf;simp only [Array.length_toList,ByteArray.size_data] at hch;have:=M8 s _ ⟨#[]⟩ 0 i' (by omega) h0 hch (Yv _ hf);have e:=Em s h;unfold Rf.stripD at e;rw [if_neg (fun g=>g h)] at e;rw [e] at this;have e2:(⟨(Wr.fil (Rd.Fil.bare (Rd.read s.data.toList).1)).toArray⟩:ByteArray).size=(Wr.fil (Rd.Fil.bare (Rd.read s.data.toList).1)).length:=by show Array.size _=_;simp
 have e3:(ByteArray.mk #[]).size=0:=rfl;omega
structure Lt.Stb (s S P:ByteArray) (e k:Int):Prop where
 s1:Rf.stripD s=S
 p1:Ls.prep s.data.toList=(P.data.toList,e,k)
 f2:(Rf.formed S.data.toList).1=0
 p2:Ls.prep S.data.toList=(P.data.toList,e,k)
 s2:Rf.stripD S=S
 ne:S.size ≠ 0
 le:S.size≤s.size
 sz:P.size≤15000
 e0:e=0∨(e=10∧P=⟨#[]⟩)
 p3:e=0→∃ k',Ls.prep P.data.toList=(P.data.toList,0,k')
 s3:e=0→Rf.stripD P=S∧(Rf.formed P.data.toList).1=0
 c3:e=0→(Ck.all P.data.toList).1=0
theorem N4 (s:ByteArray) (h:(Rf.formed s.data.toList).1=0):∃ S P e k,Lt.Stb s S P e k:=by
 have al:=R9 h;have hB:=Em s h;have hsz:(⟨(Wr.fil (Rd.Fil.bare (Rd.read s.data.toList).1)).toArray⟩:ByteArray).size=(Wr.fil (Rd.Fil.bare (Rd.read s.data.toList).1)).length:=by show Array.size _=_;simp
 have hbb:∀ (f:Rd.Fil),Rd.Fil.bare (Rd.Fil.bare f)=Rd.Fil.bare f:=fun f=>by unfold Rd.Fil.bare;simp only [List.map_map];rfl
 have hrd:(Rd.read (Wr.fil (Rd.Fil.bare (Rd.read s.data.toList).1))).1=Rd.Fil.bare (Rd.read s.data.toList).1:=by rw [al.rd];rfl
 have hs2:Rf.stripD ⟨(Wr.fil (Rd.Fil.bare (Rd.read s.data.toList).1)).toArray⟩=⟨(Wr.fil (Rd.Fil.bare (Rd.read s.data.toList).1)).toArray⟩:=by
  rw [Em _ (by simpa using al.p0)];simp only;rw [hrd,hbb]
 have hne:(Wr.fil (Rd.Fil.bare (Rd.read s.data.toList).1)).length ≠ 0:=by unfold Wr.fil Wr.front;simp
 cases hfl:Ls.filled (Ls.mapsFor (Rd.read s.data.toList).1.classes (Rd.read s.data.toList).1.methods) (Rd.read s.data.toList).1.methods with
 | none =>
  have hp:Ls.prep s.data.toList=([],10,Ls.which (Ls.mapsFor (Rd.read s.data.toList).1.classes (Rd.read s.data.toList).1.methods) 0 (Rd.read s.data.toList).1.methods):=by
   unfold Ls.prep;rw [if_neg (fun g=>g h),hfl]
  exact ⟨_,⟨#[]⟩,_,_,hB,hp,al.p0,al.prep.trans hp,hs2,by rw [hsz];exact hne,by rw [hsz];exact Pn s h,Nat.zero_le _,.inr ⟨rfl,rfl⟩,fun g=>by omega,fun g=>by omega,fun g=>by omega⟩
 | some r =>
  have hp:Ls.prep s.data.toList=(Wr.fil ⟨(Rd.read s.data.toList).1.classes,r⟩,0,0):=by
   unfold Ls.prep;rw [if_neg (fun g=>g h),hfl]
  have al2:=If h hfl;have hs3:Rf.stripD ⟨(Wr.fil ⟨(Rd.read s.data.toList).1.classes,r⟩).toArray⟩=⟨(Wr.fil (Rd.Fil.bare (Rd.read s.data.toList).1)).toArray⟩:=by
   rw [Em _ (by simpa using al2.p0)];simp only;rw [al2.rd];unfold Rd.Fil.bare;simp only;rw [al2.eq]
  have hsz2:(⟨(Wr.fil ⟨(Rd.read s.data.toList).1.classes,r⟩).toArray⟩:ByteArray).size≤15000:=by
   have e:=(Hs _ al2.p0).2;show Array.size _≤_
   simpa using e
  exact ⟨_,⟨(Wr.fil ⟨(Rd.read s.data.toList).1.classes,r⟩).toArray⟩,0,0,hB,hp,al.p0,al.prep.trans hp,hs2,by rw [hsz];exact hne,by rw [hsz];exact Pn s h,hsz2,.inl rfl,fun _=>⟨0,al2.prep.trans hp⟩,fun _=>⟨hs3,al2.p0⟩,fun _=>Lk h hfl⟩
def Lt.bareB:ByteArray:=⟨#[83,77,0,1,255,0,0,0,0,1,2,19,24,3,0,2,0,25,2,0,0,1,8,5,3,0,12,18,11,3,22,0,0]⟩
def Lt.mapB:ByteArray:=⟨#[83,77,0,1,255,0,0,0,0,1,2,19,24,3,0,2,0,25,2,0,0,1,8,5,3,0,12,18,11,3,22,0,2,3,1,0,0,18,1,0,0]⟩
theorem N8:(Rf.formed Lt.mapB.data.toList).1=0:=by decide +kernel
theorem Sm:(Ck.all Lt.mapB.data.toList).1=0:=by decide +kernel
theorem V7:Ls.prep Lt.bareB.data.toList=(Lt.mapB.data.toList,0,0):=by decide +kernel
theorem Tq:Rf.stripD Lt.mapB=Lt.bareB:=by
 rw [Em _ N8];apply Va
 decide +kernel
theorem M7 (b:ByteArray):(⟨b.data.toList.toArray⟩:ByteArray)=b:=by cases b;simp
theorem Sa (w:World):Calls Tryz.prog 8 #[] w fun e w'=>e=.returned (.bool true)∧Below w.heap.size w w':=by
 have hC:=fun w=>Lo Lt.mapB w (by decide);have hP:=fun w=>Ev Lt.bareB w (by decide);have hS:=fun w=>Gg Lt.mapB w (by decide);rw [V7,M7] at hP;rw [Tq,N8] at hS;rw [Sm] at hC;generalize (Ck.all Lt.mapB.data.toList).2.1=c1 at *;generalize (Ck.all Lt.mapB.data.toList).2.2=c2 at *;simp only [Lt.mapB,Lt.bareB] at hC hP hS;have HC:=Ac hC;have HP:=Ac hP;have HS:=Ac hS;clear hC hP hS;go_enter Tryz.func8,Tryz.ntmps8;go_wp2_with fail
 refine (Aa HC _).mono ?_;rintro e w1 ⟨rfl,hb1⟩;go_wp2_with fail
 refine (Aa HP _).mono ?_;rintro e w2 ⟨rfl,hb2⟩;have hB2:=Bon hb1 hb2;go_wp2_with fail
 refine (Aa HS _).mono ?_;rintro e w3 ⟨rfl,hb3⟩;have hB3:=Bon hB2 hb3;go_wp2;go_ret;exact ⟨by simp,hB3⟩
theorem Rt (s:ByteArray) (w:World) (hs:s.size≤maxLen) :
  Calls Tryz.prog 4 #[.string s] w fun e w'=>e=.returned (.bool true)∧Below w.heap.size w w':=by
 have hP:=fun w=>Ev s w hs;have hS:=fun w=>Gg s w hs;have hF:=fun w=>Sa w;have HF:=Ac hF;clear hF;by_cases h0:(Rf.formed s.data.toList).1=0
 ·obtain ⟨S,P,e,k,st⟩:=N4 s h0;have hl:S.size≤maxLen:=Nat.le_trans st.le hs;have hP2:=fun w=>Ev S w hl;have hS2:=fun w=>Gg S w hl;have hlP:P.size≤maxLen:=Nat.le_trans st.sz (by unfold maxLen;omega);have hP3:=fun w=>Ev P w hlP;have hS3:=fun w=>Gg P w hlP;have hC3:=fun w=>Lo P w hlP;rw [st.p1,M7] at hP;rw [st.p2,M7] at hP2;rw [st.s1,h0] at hS;rw [st.s2,st.f2] at hS2;simp only at hP hP2;have hne:=st.ne;have hle:=st.le;have e0:=st.e0;have p3:=st.p3;have s3:=st.s3;have c3:=st.c3;have g1:S.toList.isEmpty=false:=by
   rw [ByteArray.toList_eq];cases hl:S.data.toList with
   | nil=>exact absurd (by rw [← ByteArray.size_data,← Array.length_toList,hl];rfl) hne
   | cons _ _=>rfl
  have g2:¬ (s.size:Int) < (S.size:Int):=by omega
  have HP:=Ac hP;have HS:=Ac hS;have HP2:=Ac hP2;have HS2:=Ac hS2;have HP3:=Ac hP3;have HS3:=Ac hS3;have HC3:=Ac hC3;clear hP hS hP2 hS2 hP3 hS3 hC3 st hne hle;rcases e0 with rfl | ⟨rfl,rfl⟩
  ·obtain ⟨k',q3⟩:=p3 rfl;obtain ⟨q4,q5⟩:=s3 rfl;have q6:=c3 rfl;have HP3':Hid (∀ w,Calls Tryz.prog 9 #[.string P] w fun e w'=>e=.returned (.tuple #[.string P,.int .i64 0,.int .i64 k'])∧Below w.heap.size w w'):=by
    have:=Aa HP3;rw [q3,M7] at this;exact this
   have HS3':Hid (∀ w,Calls Tryz.prog 10 #[.string P] w fun e w'=>e=.returned (.tuple #[.string S,.int .i64 0])∧Below w.heap.size w w'):=by
    have:=Aa HS3;rw [q4,q5] at this;exact this
   have HC3':Hid (∀ w,Calls Tryz.prog 11 #[.string P] w fun e w'=>∃ c1 c2,e=.returned (.tuple #[.int .i64 0,.int .i64 c1,.int .i64 c2])∧Below w.heap.size w w'):=by
    intro w;refine (Aa HC3 w).mono ?_;rintro e w' ⟨rfl,hb⟩;rw [q6];exact ⟨_,_,rfl,hb⟩
   clear p3 s3 c3 q3 q4 q5 q6 HP3 HS3 HC3 h0;go_enter Tryz.func4,Tryz.ntmps4;go_wp2_with fail
   refine (Aa HF _).mono ?_;rintro e w0 ⟨rfl,hB0⟩;go_wp2_with fail
   refine (Aa HP _).mono ?_;rintro e w1 ⟨rfl,hb1⟩;have hB1:=Bon hB0 hb1;go_wp2_with fail
   refine (Aa HS _).mono ?_;rintro e w2 ⟨rfl,hb2⟩;have hB2:=Bon hB1 hb2;clear hb1 hb2 hB0 hB1;go_wp2_with fail
   refine (Aa HP2 _).mono ?_;rintro e w3 ⟨rfl,hb3⟩;have hB3:=Bon hB2 hb3;go_wp2_with fail
   refine (Aa HS2 _).mono ?_;rintro e w4 ⟨rfl,hb4⟩;have hB4:=Bon hB3 hb4;clear hb3 hb4 hB2 hB3;go_wp2_with fail
   refine (Aa HP3' _).mono ?_;rintro e w5 ⟨rfl,hb5⟩;have hB5:=Bon hB4 hb5;go_wp2_with fail
   refine (Aa HS3' _).mono ?_;rintro e w6 ⟨rfl,hb6⟩;have hB6:=Bon hB5 hb6;go_wp2_with fail
   refine (Aa HC3' _).mono ?_;rintro e w7 ⟨c1,c2,rfl,hb7⟩;have hB7:=Bon hB6 hb7;go_wp2;go_ret;exact ⟨by simp,hB7⟩
  ·clear p3 s3 c3 HP3 HS3 HC3 h0;go_enter Tryz.func4,Tryz.ntmps4;go_wp2_with fail
   refine (Aa HF _).mono ?_;rintro e w0 ⟨rfl,hB0⟩;go_wp2_with fail
   refine (Aa HP _).mono ?_;rintro e w1 ⟨rfl,hb1⟩;have hB1:=Bon hB0 hb1;go_wp2_with fail
   refine (Aa HS _).mono ?_;rintro e w2 ⟨rfl,hb2⟩;have hB2:=Bon hB1 hb2;clear hb1 hb2 hB0 hB1;go_wp2_with fail
   refine (Aa HP2 _).mono ?_;rintro e w3 ⟨rfl,hb3⟩;have hB3:=Bon hB2 hb3;go_wp2_with fail
   refine (Aa HS2 _).mono ?_;rintro e w4 ⟨rfl,hb4⟩;have hB4:=Bon hB3 hb4;go_wp2;go_ret;exact ⟨by simp,hB4⟩
 ·have e1:Ls.prep s.data.toList=([],(Rf.formed s.data.toList).1,(Rf.formed s.data.toList).2.1):=by unfold Ls.prep;rw [if_pos h0]
  have e2:Rf.stripD s=⟨#[]⟩:=by unfold Rf.stripD;rw [if_pos h0]
  rw [e1] at hP;rw [e2] at hS;have h0':((Rf.formed s.data.toList).1 != 0)=true:=by simpa using h0
  generalize (Rf.formed s.data.toList).1=f1 at *;generalize (Rf.formed s.data.toList).2.1=f2 at *;have HP:=Ac hP;have HS:=Ac hS;clear hP hS e1 e2 h0;go_enter Tryz.func4,Tryz.ntmps4;go_wp2_with fail
  refine (Aa HF _).mono ?_;rintro e w0 ⟨rfl,hB0⟩;go_wp2_with fail
  refine (Aa HP _).mono ?_;rintro e w1 ⟨rfl,hb1⟩;have hB1:=Bon hB0 hb1;go_wp2_with fail
  refine (Aa HS _).mono ?_;rintro e w2 ⟨rfl,hb2⟩;have hB2:=Bon hB1 hb2;go_wp2;go_ret;exact ⟨by simp,hB2⟩
end Go.Proofs.YtcefiamkoincoaaGreat
