/- a part of the proof of rooms -/
import Derived.Test.YtpcgnjolfahacaaGreatPk26
set_option maxRecDepth 100000
set_option maxHeartbeats 40000000
set_option linter.unusedVariables false
set_option linter.unusedSimpArgs false
namespace Go.Proofs.YtpcgnjolfahacaaGreat
open Go.RowKit
def Rm.deepL (k:Nat):List UInt8:=[83,77,0,2,255,0,0,0,0,0,1,5,20,1,22,4,22,1,0,2,3,k.toUInt8,0,255,0,0,0,0,0,1,6,0,1,25,20,1,22,0,0]
def Rm.fullL (k:Nat):List UInt8:=[83,77,1,0,0,1,255,0,0,0,0,0,1,7,15,7,4,11,0,4,22,1,0,3,5,k.toUInt8,0]
def Rm.deepP (k:Nat):List UInt8:=[83,77,0,2,255,0,0,0,0,0,1,5,20,1,22,4,22,1,0,2,3,k.toUInt8,1,3,1,3,k.toUInt8,255,0,0,0,0,0,1,6,0,1,25,20,1,22,0,0]
def Rm.fullP (k:Nat):List UInt8:=[83,77,1,0,0,1,255,0,0,0,0,0,1,7,15,7,4,11,0,4,22,1,0,3,5,k.toUInt8,2,0,0,5,1,3,k.toUInt8]
theorem W8:((List.range 6).all fun j=>decide (Ai2 (Rm.deepL (j+1))=(Rm.deepP (j+1),0,0))&&decide (Aig (Rm.deepP (j+1))=(0,0,0)))=true:=by decide +kernel
theorem Xu:((List.range 6).all fun j=>decide (Ai2 (Rm.fullL (j+1))=(Rm.fullP (j+1),0,0))&&decide (Aig (Rm.fullP (j+1))=(0,0,0)))=true:=by decide +kernel
def Rm.deepR (k d:Nat):Mc.Res:=if k=1∨k=6 then ⟨List.replicate (d-1) 1,0,0,1+3*((d:Int)-1)+2,0⟩ else ⟨List.replicate (d-1) 1,2,6,1+3*((d:Int)-1),0⟩
def Rm.fullR (k h:Nat):Mc.Res:=if k=1∨k=5 then ⟨[],0,0,3*(h:Int)+1+2,0⟩ else ⟨[],2,5,3*(h:Int)+1,0⟩
theorem Ym:((List.range 6).all fun j=>(List.range 12).all fun d=>@decide (Rm.run (Rm.deepP (j+1)) 0 ((d+1:Nat):Int) 100=Rm.deepR (j+1) (d+1)) (Mc.Res.dec _ _))=true:=by decide +kernel
theorem Abc:((List.range 6).all fun j=>(List.range 31).all fun h=>@decide (Rm.run (Rm.fullP (j+1)) (h:Int) 1 200=Rm.fullR (j+1) h) (Mc.Res.dec _ _))=true:=by decide +kernel
theorem Ad1 {b:ByteArray}{l m:List UInt8} (h:Kr.Is b l) (e:l=m):Kr.Is b m:=e ▸ h
theorem H8 {o o':List Int}{a b s s':Int} (h:o=o') (hs:s=s'):(⟨o,a,b,s,0⟩:Mc.Res)=⟨o',a,b,s',0⟩:=by rw[h,hs]
theorem Nf (k:Nat) (hk1:1≤k) (hk2:k≤6):Ai2 (Rm.deepL k)=(Rm.deepP k,0,0)∧Aig (Rm.deepP k)=(0,0,0):=by
 obtain⟨j,rfl⟩:∃ j,k=j+1:=⟨k-1,by omega⟩;have h:=Aj W8 (show j<6 by omega)
 simpa only [Bool.and_eq_true,decide_eq_true_eq] using h
theorem Ns (k:Nat) (hk1:1≤k) (hk2:k≤6):Ai2 (Rm.fullL k)=(Rm.fullP k,0,0)∧Aig (Rm.fullP k)=(0,0,0):=by
 obtain⟨j,rfl⟩:∃ j,k=j+1:=⟨k-1,by omega⟩;have h:=Aj Xu (show j<6 by omega)
 simpa only [Bool.and_eq_true,decide_eq_true_eq] using h
theorem Abq (k d:Nat) (hk1:1≤k) (hk2:k≤6) (hd1:1≤d) (hd2:d≤12):Mc.runOf (Rm.deepP k) 0 [] 0 (d:Int) 100=Rm.deepR k d:=by
 rw[Tc (Nf k hk1 hk2).2];obtain⟨j,rfl⟩:∃ j,k=j+1:=⟨k-1,by omega⟩;obtain⟨i,rfl⟩:∃ i,d=i+1:=⟨d-1,by omega⟩;have h2:=Aj (Aj Ym (show j<6 by omega)) (show i<12 by omega)
 simpa only [decide_eq_true_eq] using h2
theorem Abl (k h:Nat) (hk1:1≤k) (hk2:k≤6) (hh:h≤30):Mc.runOf (Rm.fullP k) 0 [] (h:Int) 1 200=Rm.fullR k h:=by
 rw[Tc (Ns k hk1 hk2).2];obtain⟨j,rfl⟩:∃ j,k=j+1:=⟨k-1,by omega⟩;have h2:=Aj (Aj Abc (show j<6 by omega)) (show h<31 by omega)
 simpa only [decide_eq_true_eq] using h2
theorem Abt (d k:Nat) (w:World) (hd1:1≤d) (hd2:d≤12) (hk1:1≤k) (hk2:k≤6) :
  Calls Tryz.prog 38 #[.int .i64 (d:Int),.int .i64 (k:Int)] w fun e w'=>e=.returned (.bool true)∧Below w.heap.size w w':=by
 obtain⟨i0,hi,hz0,hz1,hz2⟩:=info_parts Tryz.infoInt;have hB0:=Below.refl w.heap.size w;have HR:=Ac (fun (_:Unit)=>Nf k hk1 hk2);have HRn:=Ac (fun (_:Unit)=>Abq k d hk1 hk2 hd1 hd2);go_enter Tryz.func38,Tryz.ntmps38;go_wp2_with fail
 refine(An _ _ (by omega) (by omega)).mono ?_;rintro e w1 ⟨b1,rfl,i1,z1,hb1⟩;have hB1:=QB hB0 hb1;clear hb1 hB0;go_wp2_with fail
 refine(An _ _ (by omega) (by omega)).mono ?_;rintro e w2 ⟨b2,rfl,i2,z2,hb2⟩;have hB2:=QB hB1 hb2;clear hb2 hB1;go_wp2_with fail
 refine(An _ _ (by omega) (by omega)).mono ?_;rintro e w3 ⟨b3,rfl,i3,z3,hb3⟩;have hB3:=QB hB2 hb3;clear hb3 hB2;go_wp2_with fail
 refine(An _ _ (by omega) (by omega)).mono ?_;rintro e w4 ⟨b4,rfl,i4,z4,hb4⟩;have hB4:=QB hB3 hb4;clear hb4 hB3;go_wp2_with fail
 refine(An _ _ (by omega) (by omega)).mono ?_;rintro e w5 ⟨b5,rfl,i5,z5,hb5⟩;have hB5:=QB hB4 hb5;clear hb5 hB4;go_wp2_with fail
 refine(Bb _ _ _ _ _ _ _ _ _ _ _ (Ag _) (Ag _) (Ad (Ad (Ad (Ad (Ag _) (i1)) (Ag _)) (Ag _)) (Ag _)) (Ad (Ad (Ad (i2) (i3)) (i4)) (i5)) (Nat.le_of_ble_eq_true rfl) (Nat.le_of_ble_eq_true rfl) (by omega) (by omega) (by omega) (by omega) (Nat.le_of_ble_eq_true rfl) (Nat.le_of_ble_eq_true rfl)).mono ?_;rintro e w6 ⟨b6,rfl,i6,z6,hb6⟩;have hB6:=QB hB5 hb6;clear hb6 hB5;clear i1 z1 i2 z2 i3 z3 i4 z4 i5 z5;go_wp2_with fail
 refine(An _ _ (by omega) (by omega)).mono ?_;rintro e w7 ⟨b7,rfl,i7,z7,hb7⟩;have hB7:=QB hB6 hb7;clear hb7 hB6;go_wp2_with fail
 refine(An _ _ (by omega) (by omega)).mono ?_;rintro e w8 ⟨b8,rfl,i8,z8,hb8⟩;have hB8:=QB hB7 hb8;clear hb8 hB7;go_wp2_with fail
 refine(Bb _ _ _ _ _ _ _ _ _ _ _ (Ag _) (Ag _) (Ad (Ad (Ad (Ad (Ad (Ag _) (i7)) (Ag _)) (Ag _)) (i8)) (Ag _)) (Ag _) (Nat.le_of_ble_eq_true rfl) (Nat.le_of_ble_eq_true rfl) (by omega) (by omega) (by omega) (by omega) (Nat.le_of_ble_eq_true rfl) (Nat.le_of_ble_eq_true rfl)).mono ?_;rintro e w9 ⟨b9,rfl,i9,z9,hb9⟩;have hB9:=QB hB8 hb9;clear hb9 hB8;clear i7 z7 i8 z8;go_wp2_with fail
 refine(Fx _ _ _ _ _ _ _ (Ag _) (Ad (i6) (i9)) (by omega) (by omega) (by omega) (by omega) (by first | omega | (simp only[ByteArray.size_append];first | omega | (simp only[ByteArray.size,List.size_toArray,List.length_cons,List.length_nil];omega)) | exact Nat.le_of_ble_eq_true rfl) (by first | omega | (simp only[ByteArray.size_append];omega))).mono ?_
 rintro e w10 ⟨b10,rfl,i10,z10,hb10⟩;have hB10:=QB hB9 hb10;clear hb10 hB9;go_wp2_with fail
 refine(Jn _ (Rm.deepL k) (Rm.deepP k) _ (by unfold maxLen;omega) (by show 43≤maxLen;unfold maxLen;omega) (Ad1 i10 (by kernel_rfl)) (Aa HR ()).1 (Aa HR ()).2).mono ?_;rintro e w11 ⟨b11,rfl,i11,z11,hb11⟩;have hB11:=QB hB10 hb11;clear hb11 hB10;go_wp2
 go_loopw [10,11] (fun v i wr=>∃ (l:List Int),l.length+1≤d∧Hid (l=List.replicate l.length 1)∧i=.int .i64 ((l.length+1:Nat):Int)∧IntsAt wr w.heap.size v l∧Below w.heap.size w wr)
  (fun _ i _=>d-(intOf i).toNat)
 case atStart=>exact⟨[],by simp;omega,rfl,rfl,World.ownsRow_nil _ _ _ _,hB11⟩
 case round =>
  clear hB11;obtain⟨l,hm,HL,rfl,hown,hB⟩:=hrel;obtain⟨va,vc,rfl⟩:=Ah hown;have hsz:=hB.size;by_cases hmd:l.length+1<d
  ·have kb:((l.length+1:Nat):Int)<(d:Int):=by omega
   go_wp2_with (at_builtin;refine wpList_append_own _ rfl _ _ 26 rfl w.heap.size 3 i0 _ 1 8 Tryz.underlying26 hi hz0 hz1 hz2 rfl (by decide) _ _ _ rfl (hown.alloc _) ⟨wr.heap.size,0,none⟩ 1 1 [.int .i64 1] rfl rfl ?c1 ?c2 ?c3 ?c4 ?c5 ?_)
   case c1=>exact Ay _ _ _ _ rfl
   case c2=>intro u hu;simp at hu;subst hu;rfl
   case c3=>unfold maxLen;omega
   case c4=>omega
   case c5=>simp;omega
   intro v' w2 hown2 hgrow _;obtain⟨va',vc',rfl⟩:=Ah hown2;have hown3:IntsAt w2 w.heap.size (.slice va' (l.length+1) vc') (l++[1]):=by simpa[IntsAt] using hown2
   have hB2:=(hB.alloc hsz (O4 1)).grown hgrow (by simp;omega) (fun j hj=>(hown.lt j hj).1);have HL2:Hid (l++[1]=List.replicate (l++[1]).length 1):=by unfold Hid;have:=Aa HL;rw[List.length_append,List.length_cons,List.length_nil,List.replicate_succ',← this]
   clear hgrow hown hown2 hB HL;go_wp2
   go_roundw
   case rel=>exact⟨l++[1],by simp;omega,HL2,congrArg (Value.int .i64) (by simp),by simpa using hown3,hB2⟩
   case measure=>simp[intOf];omega
  ·have hR:IntR wr va l:=IntR.of_ints hown;have kb:¬ ((l.length+1:Nat):Int)<(d:Int):=by omega
   obtain rfl:d=l.length+1:=by omega
   have hrn:=Aa HRn ();unfold Rm.deepR at hrn;have hlq:List.replicate (l.length+1-1) 1=l:=(Aa HL).symm;clear HL hown HRn HR;by_cases h1:k=1
   ·have q1:((k:Int)==1)=true:=by subst h1;rfl
    rw[if_pos (.inl h1)]at hrn;go_wp2_with fail
    refine(Fe _ (Rm.deepP k) [] l _ _ _ _ _ _ none va 0 vc _ z11 i11 (by simp) (IntR.nil _ _) hR (by first | omega | simp) (hrn.trans (H8 hlq (by omega)))).mono ?_
    rintro e w99 ⟨rfl,hb99⟩;go_wp2;go_ret;exact⟨rfl,QB hB hb99⟩
   ·have q1:((k:Int)==1)=false:=by simp;omega
    by_cases h6:k=6
    ·have q6:((k:Int)==6)=true:=by subst h6;rfl
     rw[if_pos (.inr h6)]at hrn;go_wp2_with fail
     refine(Fe _ (Rm.deepP k) [] l _ _ _ _ _ _ none va 0 vc _ z11 i11 (by simp) (IntR.nil _ _) hR (by first | omega | simp) (hrn.trans (H8 hlq (by omega)))).mono ?_
     rintro e w99 ⟨rfl,hb99⟩;go_wp2;go_ret;exact⟨rfl,QB hB hb99⟩
    ·have q6:((k:Int)==6)=false:=by simp;omega
     rw[if_neg (by omega)]at hrn;go_wp2_with fail
     refine(Fe _ (Rm.deepP k) [] l _ _ _ _ _ _ none va 0 vc _ z11 i11 (by simp) (IntR.nil _ _) hR (by first | omega | simp) (hrn.trans (H8 hlq (by omega)))).mono ?_
     rintro e w99 ⟨rfl,hb99⟩;go_wp2;go_ret;exact⟨rfl,QB hB hb99⟩
theorem Zb (h k:Nat) (w:World) (hh:h≤30) (hk1:1≤k) (hk2:k≤6) :
  Calls Tryz.prog 39 #[.int .i64 (h:Int),.int .i64 (k:Int)] w fun e w'=>e=.returned (.bool true)∧Below w.heap.size w w':=by
 have hB0:=Below.refl w.heap.size w;have HR:=Ac (fun (_:Unit)=>Ns k hk1 hk2);have HRn:=Ac (fun (_:Unit)=>Abl k h hk1 hk2 hh);go_enter Tryz.func39,Tryz.ntmps39;go_wp2_with fail
 refine(An _ _ (by omega) (by omega)).mono ?_;rintro e w1 ⟨b1,rfl,i1,z1,hb1⟩;have hB1:=QB hB0 hb1;clear hb1 hB0;go_wp2_with fail
 refine(An _ _ (by omega) (by omega)).mono ?_;rintro e w2 ⟨b2,rfl,i2,z2,hb2⟩;have hB2:=QB hB1 hb2;clear hb2 hB1;go_wp2_with fail
 refine(An _ _ (by omega) (by omega)).mono ?_;rintro e w3 ⟨b3,rfl,i3,z3,hb3⟩;have hB3:=QB hB2 hb3;clear hb3 hB2;go_wp2_with fail
 refine(An _ _ (by omega) (by omega)).mono ?_;rintro e w4 ⟨b4,rfl,i4,z4,hb4⟩;have hB4:=QB hB3 hb4;clear hb4 hB3;go_wp2_with fail
 refine(An _ _ (by omega) (by omega)).mono ?_;rintro e w5 ⟨b5,rfl,i5,z5,hb5⟩;have hB5:=QB hB4 hb5;clear hb5 hB4;go_wp2_with fail
 refine(An _ _ (by omega) (by omega)).mono ?_;rintro e w6 ⟨b6,rfl,i6,z6,hb6⟩;have hB6:=QB hB5 hb6;clear hb6 hB5;go_wp2_with fail
 refine(Bb _ _ _ _ _ _ _ _ _ _ _ (Ag _) (Ag _) (Ad (Ad (Ad (Ad (Ad (Ad (Ag _) (i1)) (Ag _)) (Ag _)) (i2)) (Ag _)) (Ag _)) (Ad (Ad (Ad (i3) (i4)) (i5)) (i6)) (Nat.le_of_ble_eq_true rfl) (Nat.le_of_ble_eq_true rfl) (by omega) (by omega) (by omega) (by omega) (Nat.le_of_ble_eq_true rfl) (Nat.le_of_ble_eq_true rfl)).mono ?_;rintro e w7 ⟨b7,rfl,i7,z7,hb7⟩;have hB7:=QB hB6 hb7;clear hb7 hB6;go_wp2_with fail
 refine(An _ _ (by omega) (by omega)).mono ?_;rintro e w8 ⟨b8,rfl,i8,z8,hb8⟩;have hB8:=QB hB7 hb8;clear hb8 hB7;go_wp2_with fail
 refine(An _ _ (by omega) (by omega)).mono ?_;rintro e w9 ⟨b9,rfl,i9,z9,hb9⟩;have hB9:=QB hB8 hb9;clear hb9 hB8;go_wp2_with fail
 refine(Fx _ _ _ _ _ _ _ (Ad (i8) (i9)) (i7) (by omega) (by omega) (by omega) (by omega) (by first | omega | (simp only[ByteArray.size_append];first | omega | (simp only[ByteArray.size,List.size_toArray,List.length_cons,List.length_nil];omega)) | exact Nat.le_of_ble_eq_true rfl) (by first | omega | (simp only[ByteArray.size_append];omega))).mono ?_
 rintro e w10 ⟨b10,rfl,i10,z10,hb10⟩;have hB10:=QB hB9 hb10;clear hb10 hB9;clear i8 z8 i9 z9;go_wp2_with fail
 refine(Jn _ (Rm.fullL k) (Rm.fullP k) _ (by unfold maxLen;omega) (by show 33≤maxLen;unfold maxLen;omega) (Ad1 i10 (by kernel_rfl)) (Aa HR ()).1 (Aa HR ()).2).mono ?_;rintro e w11 ⟨b11,rfl,i11,z11,hb11⟩;have hB11:=QB hB10 hb11;clear hb11 hB10;have hrn:=Aa HRn ();unfold Rm.fullR at hrn;clear HR HRn;by_cases h1:k=1
 ·have q1:((k:Int)==1)=true:=by subst h1;rfl
  rw[if_pos (.inl h1)]at hrn;go_wp2_with fail
  refine(Fe _ (Rm.fullP k) [] [] _ _ _ _ _ _ none none 0 0 _ z11 i11 (by simp) (IntR.nil _ _) (IntR.nil _ _) (by first | omega | simp) (hrn.trans (H8 rfl (by omega)))).mono ?_
  rintro e w99 ⟨rfl,hb99⟩;go_wp2;go_ret;exact⟨rfl,QB hB11 hb99⟩
 ·have q1:((k:Int)==1)=false:=by simp;omega
  by_cases h6:k=5
  ·have q6:((k:Int)==5)=true:=by subst h6;rfl
   rw[if_pos (.inr h6)]at hrn;go_wp2_with fail
   refine(Fe _ (Rm.fullP k) [] [] _ _ _ _ _ _ none none 0 0 _ z11 i11 (by simp) (IntR.nil _ _) (IntR.nil _ _) (by first | omega | simp) (hrn.trans (H8 rfl (by omega)))).mono ?_
   rintro e w99 ⟨rfl,hb99⟩;go_wp2;go_ret;exact⟨rfl,QB hB11 hb99⟩
  ·have q6:((k:Int)==5)=false:=by simp;omega
   rw[if_neg (by omega)]at hrn;go_wp2_with fail
   refine(Fe _ (Rm.fullP k) [] [] _ _ _ _ _ _ none none 0 0 _ z11 i11 (by simp) (IntR.nil _ _) (IntR.nil _ _) (by first | omega | simp) (hrn.trans (H8 rfl (by omega)))).mono ?_
   rintro e w99 ⟨rfl,hb99⟩;go_wp2;go_ret;exact⟨rfl,QB hB11 hb99⟩
theorem Abr (c d h:Int) (w:World) (hc0:-9223372036854775808≤c) (hc1:c≤9223372036854775807) (hd0:-9223372036854775808≤d) (hd1:d≤9223372036854775807) (hh0:-9223372036854775808≤h) (hh1:h≤9223372036854775807) :
  Calls Tryz.prog 10 #[.int .i64 c,.int .i64 d,.int .i64 h] w fun e w'=>e=.returned (.bool true)∧Below w.heap.size w w':=by
 have K1:=Ac (fun w=>Gm c 6 w hc0 hc1 (by omega) (by omega));have K2:=Ac (fun w=>Gm d 12 w hd0 hd1 (by omega) (by omega));have K3:=Ac (fun w=>Gm h 31 w hh0 hh1 (by omega) (by omega));have p1:=Fd c 6 (by omega);have p2:=Fd d 12 (by omega);have p3:=Fd h 31 (by omega);clear hc0 hc1 hd0 hd1 hh0 hh1;generalize Kr.pk c 6=x at *;generalize Kr.pk d 12=y at *;generalize Kr.pk h 31=z at *;obtain⟨a,rfl⟩:=Int.eq_ofNat_of_zero_le p1.1;obtain⟨b,rfl⟩:=Int.eq_ofNat_of_zero_le p2.1;obtain⟨g,rfl⟩:=Int.eq_ofNat_of_zero_le p3.1;have e1:((1+a:Nat):Int)=1+(a:Int):=by omega
 have e2:((1+b:Nat):Int)=1+(b:Int):=by omega
 have HD:Hid (∀ w,Calls Tryz.prog 38 #[.int .i64 (1+(b:Int)),.int .i64 (1+(a:Int))] w fun e w'=>e=.returned (.bool true)∧Below w.heap.size w w'):=fun w=>by
  have:=Abt (1+b) (1+a) w (by omega) (by omega) (by omega) (by omega)
  rwa [e1,e2]at this
 have HF:Hid (∀ w,Calls Tryz.prog 39 #[.int .i64 (g:Int),.int .i64 (1+(a:Int))] w fun e w'=>e=.returned (.bool true)∧Below w.heap.size w w'):=fun w=>by
  have:=Zb g (1+a) w (by omega) (by omega) (by omega)
  rwa [e1]at this
 clear e1 e2;go_enter Tryz.func10,Tryz.ntmps10;go_wp2_with fail
 refine(Aa K1 _).mono ?_;rintro e w1 ⟨rfl,rfl⟩;go_wp2_with fail
 refine(Aa K2 _).mono ?_;rintro e w2 ⟨rfl,rfl⟩;go_wp2_with fail
 refine(Aa HD _).mono ?_;rintro e w3 ⟨rfl,hb3⟩;go_wp2_with fail
 refine(Aa K3 _).mono ?_;rintro e w4 ⟨rfl,rfl⟩;go_wp2_with fail
 refine(Aa HF _).mono ?_;rintro e w5 ⟨rfl,hb5⟩;go_wp2;go_ret;exact⟨rfl,QB hb3 hb5⟩
end Go.Proofs.YtpcgnjolfahacaaGreat
