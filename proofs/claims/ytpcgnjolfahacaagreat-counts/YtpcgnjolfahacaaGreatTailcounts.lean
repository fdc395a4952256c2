/- a part of the proof of counts -/
import Derived.Deep.Cut
import Derived.Deep.RegionHeld3
import Derived.Test.YtpcgnjolfahacaaGreatPk26
set_option maxRecDepth 100000
set_option maxHeartbeats 40000000
set_option linter.unusedVariables false
set_option linter.unusedSimpArgs false
namespace Go.Proofs.YtpcgnjolfahacaaGreat
open Go.RowKit
def Co.L:List UInt8:=[83,77,0,1,255,0,0,0,0,1,2,19,24,3,0,2,0,25,2,0,0,1,8,5,3,0,12,18,11,3,22,0,0]
def Co.P:List UInt8:=[83,77,0,1,255,0,0,0,0,1,2,19,24,3,0,2,0,25,2,0,0,1,8,5,3,0,12,18,11,3,22,0,2,3,1,0,0,18,1,0,0]
theorem Aem:Aig Co.L=(8,0,14):=by decide +kernel
theorem Afk:Ai2 Co.L=(Co.P,0,0):=by decide +kernel
theorem Te:Aig Co.P=(0,0,0):=by decide +kernel
def Co.E (n:Int):Mc.E:=Mc.env (Rd.read Co.P).1.classes (Rd.read Co.P).1.methods [n] 0 1
def Co.S (pos next:Nat) (x a b:Int) (h rd:Nat) (out:List Int) (steps:Nat):Mc.S :=
 ⟨rd,[(2,[]),(3,[]),(4,[]),(5,[]),(6,[])],⟨0,pos,next,[x,0,0,0,0,0,0,0],[a,b,0,0,0,0,0,0],h⟩,[],false,out,0,0,steps⟩
def Co.v (n:Int):Int:=Mc.w32 (Mc.w32 n-Mc.w32 1)
theorem Ac5 {n:Int} (h0:1≤n) (h1:n≤300):Co.v n=n-1:=by unfold Co.v Mc.w32;omega
theorem Ag9 (n:Int):Mc.step (Co.E n) (Mc.start 0)=Co.S 0 1 0 n 0 1 1 [] 1:=by kernel_rfl
theorem Agz (n:Int):Mc.step (Co.E n) (Co.S 0 1 0 n 0 1 1 [] 1)=Co.S 1 3 n n 0 0 1 [] 2:=by kernel_rfl
theorem Agx (m x a b:Int) (p s:Nat) (o:List Int):Mc.step (Co.E m) (Co.S p 3 x a b 0 1 o s)=Co.S 3 5 x x b 1 1 o (s+1):=by kernel_rfl
theorem Agv (m x a b:Int) (p s:Nat) (o:List Int):Mc.step (Co.E m) (Co.S p 5 x a b 1 1 o s)=Co.S 5 6 x a b 0 1 (o++[a]) (s+1):=by kernel_rfl
theorem Agp (m x a b:Int) (p s:Nat) (o:List Int):Mc.step (Co.E m) (Co.S p 6 x a b 0 1 o s)=Co.S 6 8 x x b 1 1 o (s+1):=by kernel_rfl
theorem Ahd (m x a b:Int) (p s:Nat) (o:List Int):Mc.step (Co.E m) (Co.S p 8 x a b 1 1 o s)=Co.S 8 10 x a 1 2 1 o (s+1):=by kernel_rfl
theorem Agw (m x a:Int) (p s:Nat) (o:List Int):Mc.step (Co.E m) (Co.S p 10 x a 1 2 1 o s)=Co.S 10 11 x (Co.v a) 1 1 1 o (s+1):=by kernel_rfl
theorem Ag1 (m x a b:Int) (p s:Nat) (o:List Int):Mc.step (Co.E m) (Co.S p 11 x a b 1 1 o s)=Co.S 11 12 x a a 2 1 o (s+1):=by kernel_rfl
theorem Ag4 (m x a b:Int) (p s:Nat) (o:List Int):Mc.step (Co.E m) (Co.S p 12 x a b 2 1 o s)=Co.S 12 14 b a b 1 1 o (s+1):=by kernel_rfl
theorem Ad3 (m x a b:Int) (p s:Nat) (o:List Int):Mc.step (Co.E m) (Co.S p 14 x a b 1 1 o s)=(⟨1,[(2,[]),(3,[]),(4,[]),(5,[]),(6,[])],if a=0 then ⟨0,14,18,[x,0,0,0,0,0,0,0],[a,b,0,0,0,0,0,0],0⟩ else ⟨0,14,16,[x,0,0,0,0,0,0,0],[a,b,0,0,0,0,0,0],0⟩,[],false,o,0,0,s+1⟩:Mc.S):=by kernel_rfl
theorem Ahb (m x a b:Int) (p s:Nat) (o:List Int):Mc.step (Co.E m) (Co.S p 16 x a b 0 1 o s)=Co.S 16 3 x a b 0 1 o (s+1):=by kernel_rfl
theorem Afx (m x a b:Int) (p s:Nat) (o:List Int):Mc.step (Co.E m) (Co.S p 18 x a b 0 1 o s)=(Co.S 18 19 x a b 0 1 o (s+1)).fin 0 0:=by kernel_rfl
theorem Aad (m x b:Int) (p s:Nat) (o:List Int):Mc.step (Co.E m) (Co.S p 14 x 0 b 1 1 o s)=Co.S 14 18 x 0 b 0 1 o (s+1):=by rw[Ad3];rfl
theorem Agc (m x a b:Int) (p s:Nat) (o:List Int) (h:a≠0):Mc.step (Co.E m) (Co.S p 14 x a b 1 1 o s)=Co.S 14 16 x a b 0 1 o (s+1):=by rw[Ad3,if_neg h];rfl
theorem Ca {fuel s:Nat} (p nx:Nat) (x a b:Int) (h rd:Nat) (o:List Int) (hs:s<fuel):(Co.S p nx x a b h rd o s).steps<fuel:=hs
theorem Ml (m x a b:Int) (p s fuel k:Nat) (o:List Int) (hf:s+7≤fuel):Mc.loop (Co.E m) fuel (k+7) (Co.S p 3 x a b 0 1 o s)=Mc.loop (Co.E m) fuel k (Co.S 12 14 (Co.v x) (Co.v x) (Co.v x) 1 1 (o++[x]) (s+7)):=by
 rw[Ch rfl (Ca _ _ _ _ _ _ _ _ (by omega)),Agx,Ch rfl (Ca _ _ _ _ _ _ _ _ (by omega)),Agv,Ch rfl (Ca _ _ _ _ _ _ _ _ (by omega)),Agp,Ch rfl (Ca _ _ _ _ _ _ _ _ (by omega)),Ahd,
  Ch rfl (Ca _ _ _ _ _ _ _ _ (by omega)),Agw,Ch rfl (Ca _ _ _ _ _ _ _ _ (by omega)),Ag1,Ch rfl (Ca _ _ _ _ _ _ _ _ (by omega)),Ag4]
def Co.down:Nat→List Int
 | 0=>[]
 | n+1=>((n+1:Nat):Int)::Co.down n
theorem Sm (m:Int) (n:Nat) (a b:Int) (p s fuel k:Nat) (o:List Int) (h1:n+1≤299) (hf:s+9≤fuel) :
  Mc.loop (Co.E m) fuel (k+9) (Co.S p 3 ((n+2:Nat):Int) a b 0 1 o s)=Mc.loop (Co.E m) fuel k (Co.S 16 3 ((n+1:Nat):Int) ((n+1:Nat):Int) ((n+1:Nat):Int) 0 1 (o++[((n+2:Nat):Int)]) (s+9)):=by
 rw[show k+9=k+2+7 by omega,Ml _ _ _ _ _ _ _ _ _ (by omega),Ac5 (by omega) (by omega),show ((n+2:Nat):Int)-1=((n+1:Nat):Int) by omega,
  Ch rfl (Ca _ _ _ _ _ _ _ _ (by omega)),Agc _ _ _ _ _ _ _ (by omega),Ch rfl (Ca _ _ _ _ _ _ _ _ (by omega)),Ahb]
theorem Agj (m a b:Int) (p s fuel k:Nat) (o:List Int) (hf:s+9≤fuel):Mc.loop (Co.E m) fuel (k+9) (Co.S p 3 1 a b 0 1 o s)=(Co.S 18 19 0 0 0 0 1 (o++[1]) (s+9)).fin 0 0:=by
 rw[show k+9=k+2+7 by omega,Ml _ _ _ _ _ _ _ _ _ (by omega),Ac5 (by omega) (by omega),show (1:Int)-1=0 from rfl,
  Ch rfl (Ca _ _ _ _ _ _ _ _ (by omega)),Aad,Ch rfl (Ca _ _ _ _ _ _ _ _ (by omega)),Afx,Aag rfl]
theorem Afr (m a b:Int) (p s fuel k:Nat) (o:List Int) (hf:fuel=s+8):Mc.loop (Co.E m) fuel (k+9) (Co.S p 3 1 a b 0 1 o s)=(Co.S 14 18 0 0 0 0 1 (o++[1]) (s+8)).fin 1 0:=by
 rw[show k+9=k+2+7 by omega,Ml _ _ _ _ _ _ _ _ _ (by omega),Ac5 (by omega) (by omega),show (1:Int)-1=0 from rfl,
  Ch rfl (Ca _ _ _ _ _ _ _ _ (by omega)),Aad,Acz rfl (by show fuel≤s+7+1;omega)]
theorem Afw (m:Int):∀ (n:Nat) (a b:Int) (p s fuel k:Nat) (o:List Int),n≤299→s+9*(n+1)≤fuel →
  Mc.resOf (Mc.loop (Co.E m) fuel (k+9*(n+1)) (Co.S p 3 ((n+1:Nat):Int) a b 0 1 o s))=⟨o++Co.down (n+1),0,0,((s+9*(n+1):Nat):Int),0⟩:=by
 intro n
 induction n with
 | zero =>
  intro a b p s fuel k o _ hf;rw[show k+9*(0+1)=k+9 by omega,show ((0+1:Nat):Int)=1 from rfl,Agj _ _ _ _ _ _ _ _ (by omega)];rfl
 | succ n ih =>
  intro a b p s fuel k o hn hf;rw[show k+9*(n+1+1)=k+9*(n+1)+9 by omega,Sm _ _ _ _ _ _ _ _ _ (by omega) (by omega),ih _ _ _ _ _ _ _ (by omega) (by omega),show s+9+9*(n+1)=s+9*(n+1+1) by omega,List.append_assoc];rfl
theorem Agf (m:Int):∀ (n:Nat) (a b:Int) (p s fuel k:Nat) (o:List Int),n≤299→s+9*(n+1)=fuel+1 →
  Mc.resOf (Mc.loop (Co.E m) fuel (k+9*(n+1)) (Co.S p 3 ((n+1:Nat):Int) a b 0 1 o s))=⟨o++Co.down (n+1),1,0,(fuel:Int),0⟩:=by
 intro n
 induction n with
 | zero =>
  intro a b p s fuel k o _ hf;rw[show k+9*(0+1)=k+9 by omega,show ((0+1:Nat):Int)=1 from rfl,Afr _ _ _ _ _ _ _ _ (by omega),show fuel=s+8 by omega];rfl
 | succ n ih =>
  intro a b p s fuel k o hn hf;rw[show k+9*(n+1+1)=k+9*(n+1)+9 by omega,Sm _ _ _ _ _ _ _ _ _ (by omega) (by omega),ih _ _ _ _ _ _ _ (by omega) (by omega),List.append_assoc];rfl
theorem Rq (m:Int) (fuel k:Nat) (hf:2≤fuel):Mc.loop (Co.E m) fuel (k+2) (Mc.start 0)=Mc.loop (Co.E m) fuel k (Co.S 1 3 m m 0 0 1 [] 2):=by
 rw[Ch rfl (show 0<fuel by omega),Ag9,Ch rfl (Ca _ _ _ _ _ _ _ _ (by omega)),Agz]
theorem Acr:Mc.hasEntry (Rd.read Co.P).1.methods 0=true:=by decide +kernel
theorem Sh (n f:Int) (h0:1≤n) (h1:n≤300) (h2:0≤f) (h3:f≤3000):Mc.startErr (Rd.read Co.P).1.methods 0 [n] 0 1 f=0:=by
 have hi:Mc.insOk [n]=true:=by
  unfold Mc.insOk Mc.inAll Mc.inAll;rw[if_neg (by simp),if_neg (by omega),if_neg (by omega)]
 unfold Mc.startErr;rw[Acr,hi]
 simp
 omega
theorem Ae9 (n:Nat) (h0:1≤n) (h1:n≤300):Mc.runOf Co.P 0 [(n:Int)] 0 1 (2+9*(n:Int))=⟨Co.down n,0,0,2+9*(n:Int),0⟩∧Mc.runOf Co.P 0 [(n:Int)] 0 1 (2+9*(n:Int)-1)=⟨Co.down n,1,0,2+9*(n:Int)-1,0⟩:=by
 obtain⟨j,rfl⟩:∃ j,n=j+1:=⟨n-1,by omega⟩;unfold Mc.runOf;rw[if_neg (by rw[Te];simp),if_neg (by rw[Sh _ _ (by omega) (by omega) (by omega) (by omega)];simp),if_neg (by rw[Te];simp),if_neg (by rw[Sh _ _ (by omega) (by omega) (by omega) (by omega)];simp)]
 constructor
 ·have e:(2+9*((j+1:Nat):Int)).toNat=2+9*(j+1):=by omega
  have h:=Afw ((j+1:Nat):Int) j ((j+1:Nat):Int) 0 1 2 (2+9*(j+1)) 2 [] (by omega) (by omega);rw[e];unfold Mc.run;show Mc.resOf (Mc.loop (Co.E ((j+1:Nat):Int)) _ (2+9*(j+1)+2) (Mc.start 0))=_;rw[Rq _ _ _ (by omega),h]
  simp
 ·have e:(2+9*((j+1:Nat):Int)-1).toNat=1+9*(j+1):=by omega
  have h:=Agf ((j+1:Nat):Int) j ((j+1:Nat):Int) 0 1 2 (1+9*(j+1)) 1 [] (by omega) (by omega);rw[e];unfold Mc.run;show Mc.resOf (Mc.loop (Co.E ((j+1:Nat):Int)) _ (1+9*(j+1)+2) (Mc.start 0))=_;rw[Rq _ _ _ (by omega),h]
  simp
  omega
theorem Ae3 {b:ByteArray}{l:List UInt8} (h:Kr.Is b l) (n:Nat):Kr.Is (b.extract 0 n) (l.take n):=by
 unfold Kr.Is at *;rw[← h];simp[ByteArray.data_extract]
theorem Aev (l s:Int) (c hs:ByteArray) (C K:List UInt8) (w:World) (i3:Kr.Is c C) (i4:Kr.Is hs K) (h3:0≤l) (h4:l≤255) (h5:0≤s) (h6:s≤255) (h7:C.length≤255) (h8:K.length≤255) :
  Calls Tryz.prog 31 #[.int .i64 l,.int .i64 s,.string c,.string hs] w fun e w'=>∃ b,e=.returned (.string b)∧Kr.Is b (Kl.file 0 [] 1 (Kl.method [255,0,0] [0,0] l s C K))∧b.size≤30000∧Below w.heap.size w w':=by
 have H1:=Ac (fun w=>Bb ⟨#[255,0,0]⟩ ⟨#[0,0]⟩ l s c hs [255,0,0] [0,0] C K w rfl rfl i3 i4 (by simp) (by simp) h3 h4 h5 h6 h7 h8);go_enter Tryz.func31,Tryz.ntmps31;go_wp2_with fail
 refine(Aa H1 _).mono ?_;rintro e w1 ⟨b1,rfl,i1,z1,hb1⟩;go_wp2_with fail
 refine(Fx 0 1 ⟨#[]⟩ _ [] _ _ rfl i1 (by omega) (by omega) (by omega) (by omega) (by show 0≤10000;omega) (by omega)).mono ?_;rintro e w2 ⟨b2,rfl,i2,z2,hb2⟩;go_wp2;go_ret;exact⟨_,rfl,i2,z2,QB hb1 hb2⟩
theorem Xq (c:Int) (w:World) (hc0:-9223372036854775808≤c) (hc1:c≤9223372036854775807) :
  Calls Tryz.prog 7 #[.int .i64 c] w fun e w'=>e=.returned (.bool true)∧Below w.heap.size w w':=by
 have K1:=Ac (fun w=>Gm c 300 w hc0 hc1 (by omega) (by omega));have p1:=Fd c 300 (by omega);generalize Kr.pk c 300=x at *;obtain⟨j,rfl⟩:=Int.eq_ofNat_of_zero_le p1.1;clear hc0 hc1;have hj:j<300:=by omega
 clear p1;obtain⟨n,hn⟩:∃ n,n=j+1:=⟨_,rfl⟩;have en:1+(j:Int)=(n:Int):=by omega
 have hn1:1≤n:=by omega
 have hn2:n≤300:=by omega
 have HC:Hid (∀ s w,Kr.Is s Co.L→s.size≤maxLen→Calls Tryz.prog 20 #[.string s] w fun e w'=>e=.returned (.tuple #[.int .i64 8,.int .i64 0,.int .i64 14])∧Below w.heap.size w w'):=fun s w i hs=>by
  have:=Jo s w hs
  rwa [i,Aem]at this
 have hQ:=Ae9 n hn1 hn2;rw[← en]at hQ;have HQ:=Ac hQ;have EN:=Ac en;clear hQ en;have HN:Hid (∀ (v:Int) w',0≤v→v≤255→Below w.heap.size w w'→Calls Tryz.prog 34 #[.int .i64 v] w' fun e w''=>e=.returned (.string ⟨#[v.toNat.toUInt8]⟩)∧Below w.heap.size w w''):=fun v w' h0 h1 hB=>by
  have:=Dn v w' h0 h1;exact this.mono fun e w'' h=>⟨h.1,hB.trans (h.2.mono hB.size)⟩
 obtain⟨i0,hi,hz0,hz1,hz2⟩:=info_parts Tryz.infoInt;have hB0:=Below.refl w.heap.size w;go_enter Tryz.func7,Tryz.ntmps7;go_wp2_with fail
 refine(Aa K1 _).mono ?_;rintro e u1 ⟨rfl,rfl⟩;clear K1;go_wp2_with fail
 refine(An _ _ (by omega) (by omega)).mono ?_;rintro e w1 ⟨b1,rfl,i1,z1,hb1⟩;have hB1:=QB hB0 hb1;clear hb1 hB0;go_wp2_with fail
 refine(An _ _ (by omega) (by omega)).mono ?_;rintro e w2 ⟨b2,rfl,i2,z2,hb2⟩;have hB2:=QB hB1 hb2;clear hb2 hB1;go_wp2_with fail
 refine(An _ _ (by omega) (by omega)).mono ?_;rintro e w3 ⟨b3,rfl,i3,z3,hb3⟩;have hB3:=QB hB2 hb3;clear hb3 hB2;go_wp2_with fail
 refine(An _ _ (by omega) (by omega)).mono ?_;rintro e w4 ⟨b4,rfl,i4,z4,hb4⟩;have hB4:=QB hB3 hb4;clear hb4 hB3;go_wp2_with fail
 refine(An _ _ (by omega) (by omega)).mono ?_;rintro e w5 ⟨b5,rfl,i5,z5,hb5⟩;have hB5:=QB hB4 hb5;clear hb5 hB4;go_wp2_with fail
 refine(An _ _ (by omega) (by omega)).mono ?_;rintro e w6 ⟨b6,rfl,i6,z6,hb6⟩;have hB6:=QB hB5 hb6;clear hb6 hB5;go_wp2_with fail
 refine(An _ _ (by omega) (by omega)).mono ?_;rintro e w7 ⟨b7,rfl,i7,z7,hb7⟩;have hB7:=QB hB6 hb7;clear hb7 hB6;go_wp2_with fail
 refine(Aev _ _ _ _ _ _ _ (Ad (Ad (Ad (Ad (Ad (Ad (Ad (Ad (Ad (Ad (Ad (Ad (Ad (Ad (Ad (Ad (Ad (Ag _) (i1)) (Ag _)) (i2)) (Ag _)) (Ag _)) (i3)) (Ag _)) (i4)) (Ag _)) (Ag _)) (Ag _)) (i5)) (Ag _)) (i6)) (Ag _)) (i7)) (Ag _)) (Ag _) (by omega) (by omega) (by omega) (by omega) (Nat.le_of_ble_eq_true rfl) (Nat.le_of_ble_eq_true rfl)).mono ?_;rintro e w8 ⟨b8,rfl,i8,z8,hb8⟩;have hB8:=QB hB7 hb8;clear hb8 hB7;clear i1 z1 i2 z2 i3 z3 i4 z4 i5 z5 i6 z6 i7 z7;have iS:Kr.Is b8 Co.L:=i8;have zS:b8.size=33:=Bj iS;clear i8 z8;go_wp2_with fail
 refine(Aa HC _ _ iS (by unfold maxLen;omega)).mono ?_;rintro e w9 ⟨rfl,hb9⟩;have hB9:=QB hB8 hb9;clear hb9 hB8;go_wp2_with fail
 refine(Jn _ Co.L Co.P _ (by unfold maxLen;omega) (by show 41≤maxLen;unfold maxLen;omega) iS Afk Te).mono ?_;rintro e w10 ⟨b10,rfl,iP,zP,hb10⟩;have hB10:=QB hB9 hb10;clear hb10 hB9;have e32:(b8.extract 0 32).size=32:=by rw[ByteArray.size_extract,zS];rfl
 have hBd:=hB10.drew;have wr32:IntKind.i64.wrap 32=32:=Afu 32 (by omega) (by omega)
 go_upto_region 6 with fail
 go_cut [11] from 57 (fun s11 wx=>∃ q,s11=.string q∧Kr.Is q Co.P∧Below w.heap.size w wx)
 case first =>
  go_wp2
  go_region_held3 (fun _=>True) (exact trivial) (first | (go_at_call 34;refine(Aa HN _ _ (by omega) (by omega) (by assumption)).mono ?_;rintro e w7 ⟨rfl,hb7⟩))
  all_goals
   go_wp2
   go_meet
   case rel=>exact⟨_,rfl,Ad (Ad (Ad (Ad (Ad (Ad (Ad (Ae3 iS 32) (Ag _)) (Ag _)) (Ag _)) (Ag _)) (Ag _)) (Ag _)) (Ag _),hb7⟩
 case rest =>
  obtain⟨q,rfl,iQ,hBq⟩:=hcut;have hpq:b10=q:=Ad2 iP iQ;subst hpq;clear iQ iS zS e32 hBd hB10 HN HC;go_wp2
  go_loopw [12,13] (fun v vi wr=>∃ (i:Nat) (l:List Int),i≤n∧vi=.int .i64 (i:Int)∧l.length+i=n∧Hid (l++Co.down i=Co.down n)∧IntsAt wr w.heap.size v l∧Below w.heap.size w wr)
   (fun _ i _=>(intOf i).toNat)
  case atStart=>exact⟨n,[],by omega,congrArg (Value.int .i64) (Aa EN),by simp,rfl,World.ownsRow_nil _ _ _ _,hBq⟩
  case round =>
   clear hBq;obtain⟨i,l,hin,rfl,hl,HL,hown,hB⟩:=hrel;obtain⟨va,vc,rfl⟩:=Ah hown;have hsz:=hB.size;rcases Nat.eq_zero_or_pos i with rfl | hip
   ·have hll:l=Co.down n:=by have:=Aa HL;simpa[Co.down] using this
    have hR:IntR wr va l:=IntR.of_ints hown;have hq:=Aa HQ;rw[← hll]at hq;clear HL HQ hown hll;have C0:=Ae wr (O4 (1+(j:Int)));have hB1:=hB.alloc hB.size (O4 (1+(j:Int)));have hR1:=hR.below ((Below.refl wr.heap.size wr).alloc (Nat.le_refl _) (O4 (1+(j:Int))));go_wp2_with fail
    refine(Fe _ Co.P [1+(j:Int)] l _ _ _ _ _ _ _ va _ vc _ zP iP (by show 1≤maxLen;unfold maxLen;omega) ?_ hR1 (by omega) hq.1).mono ?_
    ·intro i hi;refine⟨_,0,rfl,lt_of_block C0,?_⟩;have:i=0:=by simp at hi;omega
     subst this;exact(Ab C0 0).trans rfl
    ·rintro e w21 ⟨rfl,hb21⟩;have hB21:=QB hB1 hb21;have hR2:=(hR1.below hb21).below ((Below.refl w21.heap.size w21).alloc (Nat.le_refl _) (O4 (1+(j:Int))));have D0:=Ae w21 (O4 (1+(j:Int)));have hB22:=hB21.alloc hB21.size (O4 (1+(j:Int)));clear C0 hB1 hB hR hR1 hb21;go_wp2_with fail
     refine(Fe _ Co.P [1+(j:Int)] l _ _ _ _ _ _ _ va _ vc _ zP iP (by show 1≤maxLen;unfold maxLen;omega) ?_ hR2 (by omega) hq.2).mono ?_
     ·intro i hi;refine⟨_,0,rfl,lt_of_block D0,?_⟩;have:i=0:=by simp at hi;omega
      subst this;exact(Ab D0 0).trans rfl
     ·rintro e w23 ⟨rfl,hb23⟩;have hB23:=QB hB22 hb23;go_wp2;go_ret;exact⟨by simp,hB23⟩
   ·obtain⟨i,rfl⟩:∃ k,i=k+1:=⟨i-1,by omega⟩;have kp:(0:Int)<((i+1:Nat):Int):=by omega
    go_wp2_with (at_builtin;refine wpList_append_own _ rfl _ _ 26 rfl w.heap.size 3 i0 _ 1 8 Tryz.underlying26 hi hz0 hz1 hz2 rfl (by decide) _ _ _ rfl (hown.alloc _) ⟨wr.heap.size,0,none⟩ 1 1 [.int .i64 ((i+1:Nat):Int)] rfl rfl ?c1 ?c2 ?c3 ?c4 ?c5 ?_)
    case c1=>exact Ay _ _ _ _ rfl
    case c2=>intro u hu;simp at hu;subst hu;rfl
    case c3=>unfold maxLen;omega
    case c4=>omega
    case c5=>simp;omega
    intro v' w2 hown2 hgrow _;obtain⟨va',vc',rfl⟩:=Ah hown2;have hown3:IntsAt w2 w.heap.size (.slice va' (l.length+1) vc') (l++[((i+1:Nat):Int)]):=by simpa[IntsAt] using hown2
    have hB2:=(hB.alloc hsz (O4 ((i+1:Nat):Int))).grown hgrow (by simp;omega) (fun j hj=>(hown.lt j hj).1);have HL2:Hid (l++[((i+1:Nat):Int)]++Co.down i=Co.down n):=by have:=Aa HL;unfold Hid;simpa[Co.down] using this
    clear hgrow hown hown2 hB HL;go_wp2
    go_roundw
    case rel=>exact⟨i,l++[((i+1:Nat):Int)],by omega,congrArg (Value.int .i64) (by omega),by simp;omega,HL2,by simpa using hown3,hB2⟩
    case measure=>simp[intOf]<;>omega
end Go.Proofs.YtpcgnjolfahacaaGreat
