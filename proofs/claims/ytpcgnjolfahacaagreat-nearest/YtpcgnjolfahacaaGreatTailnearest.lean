/- a part of the proof of nearest -/
import Derived.Test.YtpcgnjolfahacaaGreatPk26
set_option maxRecDepth 100000
set_option maxHeartbeats 40000000
set_option linter.unusedVariables false
set_option linter.unusedSimpArgs false
namespace Go.Proofs.YtpcgnjolfahacaaGreat
open Go.RowKit
def Ne.meth (own:Nat):List UInt8:=Kl.method [own.toUInt8,9,0] [0,0] 1 1 [0,own.toUInt8,25,22] []
def Ne.main (r:Nat):List UInt8:=Kl.method [255,0,0] [0,0] 0 2 [15,(7+r).toUInt8,5,16,(7+r).toUInt8,21,1,22] []
structure Ne.St where
 cl:List UInt8
 ms:List UInt8
 k:Nat
 want:Nat
 bits:Nat
def Ne.step (r i:Nat) (x:Ne.St):Ne.St :=
 if x.bits / 2 % 2=1 then ⟨x.cl++[(6+i).toUInt8]++[0],x.ms++Ne.meth (7+i),x.k+1,if i≤r then 7+i else x.want,x.bits / 2⟩
 else ⟨x.cl++[(6+i).toUInt8]++[0],x.ms,x.k,x.want,x.bits / 2⟩
def Ne.st (r bits:Nat):Nat→Ne.St
 | 0=>⟨[0,0],Ne.main r++Ne.meth 7,2,7,bits⟩
 | j+1=>Ne.step r (j+1) (Ne.st r bits j)
def Ne.file (j r bits:Nat):List UInt8:=Kl.file (1+(j:Int)) (Ne.st r bits j).cl ((Ne.st r bits j).k:Int) (Ne.st r bits j).ms
def Ne.good (j r q:Nat):Bool:=(fun s=>decide (Ai2 s=(s,0,0))&&@decide (Rm.run s 1 2 8=⟨[((Ne.st r (2*q) j).want:Int)],0,0,8,0⟩) (Mc.Res.dec _ _)) (Ne.file j r (2*q))
theorem Aga:((List.range 5).all fun m=>(List.range 5).all fun r=>(List.range 32).all fun b=>decide ((Ne.st r b m).ms.length≤150)&&(decide ((Ne.st r b m).cl.length≤20)&&decide ((Ne.st r b m).k≤6∧(Ne.st r b m).want≤11∧(Ne.st r b m).bits≤31)))=true:=by decide +kernel
theorem Ag8 {m r b:Nat} (hm:m<5) (hr:r<5) (hb:b<32):(Ne.st r b m).ms.length≤150∧(Ne.st r b m).cl.length≤20∧(Ne.st r b m).k≤6∧(Ne.st r b m).want≤11∧(Ne.st r b m).bits≤31:=by
 have h:=Aj (Aj (Aj Aga hm) hr) hb
 simpa only [Bool.and_eq_true,decide_eq_true_eq] using h
theorem Ac0:((List.range 5).all fun j=>(List.range 5).all fun r=>(List.range 16).all fun q=>decide (Ne.file j r (2*q+1)=Ne.file j r (2*q))&&decide ((Ne.st r (2*q+1) j).want=(Ne.st r (2*q) j).want))=true:=by decide +kernel
theorem Zg:((List.range 16).all fun q=>Ne.good 0 0 q)=true:=by decide +kernel
theorem Zi:((List.range 16).all fun q=>Ne.good 1 0 q)=true:=by decide +kernel
theorem Zh:((List.range 16).all fun q=>Ne.good 1 1 q)=true:=by decide +kernel
theorem Aaz:((List.range 16).all fun q=>Ne.good 2 0 q)=true:=by decide +kernel
theorem Yv:((List.range 16).all fun q=>Ne.good 2 1 q)=true:=by decide +kernel
theorem Aal:((List.range 16).all fun q=>Ne.good 2 2 q)=true:=by decide +kernel
theorem Y4:((List.range 16).all fun q=>Ne.good 3 0 q)=true:=by decide +kernel
theorem Ab2:((List.range 16).all fun q=>Ne.good 3 1 q)=true:=by decide +kernel
theorem Aak:((List.range 16).all fun q=>Ne.good 3 2 q)=true:=by decide +kernel
theorem Abd:((List.range 16).all fun q=>Ne.good 3 3 q)=true:=by decide +kernel
theorem Abk:((List.range 16).all fun q=>Ne.good 4 0 q)=true:=by decide +kernel
theorem Aan:((List.range 16).all fun q=>Ne.good 4 1 q)=true:=by decide +kernel
theorem Z4:((List.range 16).all fun q=>Ne.good 4 2 q)=true:=by decide +kernel
theorem Zz:((List.range 16).all fun q=>Ne.good 4 3 q)=true:=by decide +kernel
theorem Abb:((List.range 16).all fun q=>Ne.good 4 4 q)=true:=by decide +kernel
theorem Ael (j r q:Nat) (hj:j<5) (hr:r≤j) (hq:q<16):Ne.good j r q=true:=by
 match j,r,hj,hr with
 | 0,0,_,_=>exact Aj Zg hq
 | 1,0,_,_=>exact Aj Zi hq
 | 1,1,_,_=>exact Aj Zh hq
 | 2,0,_,_=>exact Aj Aaz hq
 | 2,1,_,_=>exact Aj Yv hq
 | 2,2,_,_=>exact Aj Aal hq
 | 3,0,_,_=>exact Aj Y4 hq
 | 3,1,_,_=>exact Aj Ab2 hq
 | 3,2,_,_=>exact Aj Aak hq
 | 3,3,_,_=>exact Aj Abd hq
 | 4,0,_,_=>exact Aj Abk hq
 | 4,1,_,_=>exact Aj Aan hq
 | 4,2,_,_=>exact Aj Z4 hq
 | 4,3,_,_=>exact Aj Zz hq
 | 4,4,_,_=>exact Aj Abb hq
theorem Afd (j r b:Nat) (hj:j<5) (hr:r≤j) (hb:b<32):∃ q,q<16∧Ne.file j r b=Ne.file j r (2*q)∧(Ne.st r b j).want=(Ne.st r (2*q) j).want:=by
 refine⟨b / 2,by omega,?_⟩;rcases(by omega:b=2*(b / 2)∨b=2*(b / 2)+1) with h | h
 ·exact⟨by rw[← h],by rw[← h]⟩
 ·have e:=Aj (Aj (Aj Ac0 hj) (show r<5 by omega)) (show b / 2<16 by omega);simp only[Bool.and_eq_true,decide_eq_true_eq]at e;rw[← h]at e;exact e
theorem Acp (j r b:Nat) (hj:j<5) (hr:r≤j) (hb:b<32):Ai2 (Ne.file j r b)=(Ne.file j r b,0,0)∧Aig (Ne.file j r b)=(0,0,0)∧Mc.runOf (Ne.file j r b) 0 [] 1 2 8=⟨[((Ne.st r b j).want:Int)],0,0,8,0⟩:=by
 obtain⟨q,hq,e1,e2⟩:=Afd j r b hj hr hb;rw[e1,e2];have h:=Ael j r q hj hr hq;simp only[Ne.good,Bool.and_eq_true,decide_eq_true_eq]at h;have hc:=Jg h.1;exact⟨h.1,hc,by rw[Tc hc];exact h.2⟩
theorem Mf {r b m k want bits:Nat}{cl ms:List UInt8} (h:Ne.st r b m=⟨cl,ms,k,want,bits⟩) (hb:bits / 2 % 2=1):Ne.st r b (m+1)=⟨cl++[(6+(m+1)).toUInt8]++[0],ms++Ne.meth (7+(m+1)),k+1,if m+1≤r then 7+(m+1) else want,bits / 2⟩:=by
 show Ne.step r (m+1) (Ne.st r b m)=_;rw[h];unfold Ne.step;rw[if_pos hb]
theorem Sl {r b m k want bits:Nat}{cl ms:List UInt8} (h:Ne.st r b m=⟨cl,ms,k,want,bits⟩) (hb:¬ bits / 2 % 2=1):Ne.st r b (m+1)=⟨cl++[(6+(m+1)).toUInt8]++[0],ms,k,want,bits / 2⟩:=by
 show Ne.step r (m+1) (Ne.st r b m)=_;rw[h];unfold Ne.step;rw[if_neg hb]
theorem Ts (c mask d:Int) (w:World) (hc0:-9223372036854775808≤c) (hc1:c≤9223372036854775807) (hm0:-9223372036854775808≤mask) (hm1:mask≤9223372036854775807) (hd0:-9223372036854775808≤d) (hd1:d≤9223372036854775807) :
  Calls Tryz.prog 9 #[.int .i64 c,.int .i64 mask,.int .i64 d] w fun e w'=>e=.returned (.bool true)∧Below w.heap.size w w':=by
 have K1:=Ac (fun w=>Gm c 5 w hc0 hc1 (by omega) (by omega));have p1:=Fd c 5 (by omega);generalize Kr.pk c 5=x at *;obtain⟨j,rfl⟩:=Int.eq_ofNat_of_zero_le p1.1;have K2:=Ac (fun w=>Gm d (1+(j:Int)) w hd0 hd1 (by omega) (by omega));have K3:=Ac (fun w=>Gm mask 32 w hm0 hm1 (by omega) (by omega));have p2:=Fd d (1+(j:Int)) (by omega);have p3:=Fd mask 32 (by omega);generalize Kr.pk d (1+(j:Int))=y at *;generalize Kr.pk mask 32=z at *;obtain⟨r,rfl⟩:=Int.eq_ofNat_of_zero_le p2.1;obtain⟨b,rfl⟩:=Int.eq_ofNat_of_zero_le p3.1;clear hc0 hc1 hd0 hd1 hm0 hm1;have hj:j<5:=by omega
 have hr:r≤j:=by omega
 have hb:b<32:=by omega
 clear p1 p2 p3;have HP:=Ac (Acp j r b hj hr hb);have HB:=Ac (fun m (hm:m<5)=>Ag8 (m:=m) hm (show r<5 by omega) hb);have hB0:=Below.refl w.heap.size w;go_enter Tryz.func9,Tryz.ntmps9;go_wp2_with fail
 refine(Aa K1 _).mono ?_;rintro e u1 ⟨rfl,rfl⟩;go_wp2_with fail
 refine(Aa K2 _).mono ?_;rintro e u2 ⟨rfl,rfl⟩;go_wp2_with fail
 refine(Aa K3 _).mono ?_;rintro e u3 ⟨rfl,rfl⟩;clear K1 K2 K3;go_wp2_with fail
 refine(An _ _ (by omega) (by omega)).mono ?_;rintro e w1 ⟨b1,rfl,i1,z1,hb1⟩;have hB1:=QB hB0 hb1;clear hb1 hB0;go_wp2_with fail
 refine(An _ _ (by omega) (by omega)).mono ?_;rintro e w2 ⟨b2,rfl,i2,z2,hb2⟩;have hB2:=QB hB1 hb2;clear hb2 hB1;go_wp2_with fail
 refine(An _ _ (by omega) (by omega)).mono ?_;rintro e w3 ⟨b3,rfl,i3,z3,hb3⟩;have hB3:=QB hB2 hb3;clear hb3 hB2;go_wp2_with fail
 refine(An _ _ (by omega) (by omega)).mono ?_;rintro e w4 ⟨b4,rfl,i4,z4,hb4⟩;have hB4:=QB hB3 hb4;clear hb4 hB3;go_wp2_with fail
 refine(An _ _ (by omega) (by omega)).mono ?_;rintro e w5 ⟨b5,rfl,i5,z5,hb5⟩;have hB5:=QB hB4 hb5;clear hb5 hB4;go_wp2_with fail
 refine(Bb _ _ _ _ _ _ _ _ _ _ _ (Ag _) (Ag _) (Ad (Ad (Ad (Ad (Ad (Ad (Ad (Ag _) (i3)) (Ag _)) (Ag _)) (i4)) (Ag _)) (i5)) (Ag _)) (Ag _) (Nat.le_of_ble_eq_true rfl) (Nat.le_of_ble_eq_true rfl) (by omega) (by omega) (by omega) (by omega) (Nat.le_of_ble_eq_true rfl) (Nat.le_of_ble_eq_true rfl)).mono ?_;rintro e w6 ⟨b6,rfl,i6,z6,hb6⟩;have hB6:=QB hB5 hb6;clear hb6 hB5;clear i3 z3 i4 z4 i5 z5;go_wp2_with fail
 refine(An _ _ (by omega) (by omega)).mono ?_;rintro e w7 ⟨b7,rfl,i7,z7,hb7⟩;have hB7:=QB hB6 hb7;clear hb7 hB6;go_wp2_with fail
 refine(An _ _ (by omega) (by omega)).mono ?_;rintro e w8 ⟨b8,rfl,i8,z8,hb8⟩;have hB8:=QB hB7 hb8;clear hb8 hB7;go_wp2_with fail
 refine(An _ _ (by omega) (by omega)).mono ?_;rintro e w9 ⟨b9,rfl,i9,z9,hb9⟩;have hB9:=QB hB8 hb9;clear hb9 hB8;go_wp2_with fail
 refine(An _ _ (by omega) (by omega)).mono ?_;rintro e w10 ⟨b10,rfl,i10,z10,hb10⟩;have hB10:=QB hB9 hb10;clear hb10 hB9;go_wp2_with fail
 refine(Bb _ _ _ _ _ _ _ _ _ _ _ (Ad (Ad (i7) (i8)) (i9)) (Ag _) (Ad (Ad (Ad (Ag _) (i10)) (Ag _)) (Ag _)) (Ag _) (Nat.le_of_ble_eq_true rfl) (Nat.le_of_ble_eq_true rfl) (by omega) (by omega) (by omega) (by omega) (Nat.le_of_ble_eq_true rfl) (Nat.le_of_ble_eq_true rfl)).mono ?_;rintro e w11 ⟨b11,rfl,i11,z11,hb11⟩;have hB11:=QB hB10 hb11;clear hb11 hB10;clear i7 z7 i8 z8 i9 z9 i10 z10;go_wp2
 go_loopw [9,10,14,15,16,17] (fun vb vc vm vk vw vi wr=>∃ (m k want bits:Nat) (cl ms:List UInt8) (bc bm:ByteArray),m≤j∧Hid (Ne.st r b m=⟨cl,ms,k,want,bits⟩)∧vb=.int .i64 (bits:Int)∧vc=.string bc∧Kr.Is bc cl∧bc.size≤20∧vm=.string bm∧Kr.Is bm ms∧bm.size≤150∧vk=.int .i64 (k:Int)∧vw=.int .i64 (want:Int)∧vi=.int .i64 ((m+1:Nat):Int)∧k≤6∧want≤11∧bits≤31∧Below w.heap.size w wr)
  (fun _ _ _ _ _ i _=>j+1-(intOf i).toNat)
 case atStart =>
  refine⟨0,2,7,b,_,_,_,_,by omega,rfl,rfl,rfl,Ad (i1) (i2),by simp only[ByteArray.size_append];omega,rfl,Ad i6 i11,?_,rfl,rfl,rfl,by omega,by omega,by omega,hB11⟩;have:=Bj (Ad i6 i11);rw[this];exact Nat.le_of_ble_eq_true rfl
 case round =>
  clear hB11 i1 i2 z1 z2 i6 i11 z6 z11;obtain⟨m,k,want,bits,cl,ms,bc,bm,hm,HS,rfl,rfl,ic,zc,rfl,im,zm,rfl,rfl,rfl,hk6,hw,hbt,hB0⟩:=hrel;by_cases hmj:m<j
  ·have q1:(bits:Int).tdiv 2=((bits / 2:Nat):Int):=rfl;have q2:((bits / 2:Nat):Int).tmod 2=((bits / 2 % 2:Nat):Int):=rfl;have hb':=Aa HB (m+1) (by omega);by_cases hbb:bits / 2 % 2=1
   ·have qb:(((bits / 2 % 2:Nat):Int)==1)=true:=by simp;omega
    go_wp2_with fail
    refine(An _ _ (by omega) (by omega)).mono ?_;rintro e w1 ⟨b1,rfl,i1,z1,hb1⟩;have hB1:=QB hB0 hb1;clear hb1 hB0;go_wp2_with fail
    refine(An _ _ (by omega) (by omega)).mono ?_;rintro e w2 ⟨b2,rfl,i2,z2,hb2⟩;have hB2:=QB hB1 hb2;clear hb2 hB1;rw[show (7+((m:Int)+1)-1).toNat=6+(m+1) by omega]at i1;rw[Mf (Aa HS) hbb]at hb';simp only at hb';go_wp2_with fail
    refine(An _ _ (by omega) (by omega)).mono ?_;rintro e w3 ⟨b3,rfl,i3,z3,hb3⟩;have hB3:=QB hB2 hb3;clear hb3 hB2;go_wp2_with fail
    refine(An _ _ (by omega) (by omega)).mono ?_;rintro e w4 ⟨b4,rfl,i4,z4,hb4⟩;have hB4:=QB hB3 hb4;clear hb4 hB3;go_wp2_with fail
    refine(An _ _ (by omega) (by omega)).mono ?_;rintro e w5 ⟨b5,rfl,i5,z5,hb5⟩;have hB5:=QB hB4 hb5;clear hb5 hB4;go_wp2_with fail
    refine(An _ _ (by omega) (by omega)).mono ?_;rintro e w6 ⟨b6,rfl,i6,z6,hb6⟩;have hB6:=QB hB5 hb6;clear hb6 hB5;rw[show (7+((m:Int)+1)).toNat=7+(m+1) by omega]at i3 i6;go_wp2_with fail
    refine(Bb _ _ _ _ _ _ _ _ _ _ _ (Ad (Ad (i3) (i4)) (i5)) (Ag _) (Ad (Ad (Ad (Ag _) (i6)) (Ag _)) (Ag _)) (Ag _) (Nat.le_of_ble_eq_true rfl) (Nat.le_of_ble_eq_true rfl) (by omega) (by omega) (by omega) (by omega) (Nat.le_of_ble_eq_true rfl) (Nat.le_of_ble_eq_true rfl)).mono ?_;rintro e w7 ⟨b7,rfl,i7,z7,hb7⟩;have hB7:=QB hB6 hb7;clear hb7 hB6;clear i3 z3 i4 z4 i5 z5 i6 z6;have zz:=Bj (Ad im i7);have zy:=Bj (Ad (Ad ic i1) i2);by_cases hmr:m+1≤r
    ·have qr:((m+1:Nat):Int)≤(r:Int):=by omega
     go_wp2
     go_roundw
     case rel=>exact⟨m+1,k+1,7+(m+1),bits / 2,_,_,_,_,by omega,by unfold Hid;rw[Mf (Aa HS) hbb,if_pos hmr];rfl,rfl,rfl,Ad (Ad ic i1) i2,by rw[zy];exact hb'.2.1,rfl,Ad im i7,by rw[zz];exact hb'.1,by go_num,by go_num,by go_num,by omega,by omega,by omega,hB7⟩
     case measure=>simp[intOf];omega
    ·have qr:¬ ((m+1:Nat):Int)≤(r:Int):=by omega
     go_wp2
     go_roundw
     case rel=>exact⟨m+1,k+1,want,bits / 2,_,_,_,_,by omega,by unfold Hid;rw[Mf (Aa HS) hbb,if_neg hmr];rfl,rfl,rfl,Ad (Ad ic i1) i2,by rw[zy];exact hb'.2.1,rfl,Ad im i7,by rw[zz];exact hb'.1,by go_num,rfl,by go_num,by omega,by omega,by omega,hB7⟩
     case measure=>simp[intOf];omega
   ·have qb:(((bits / 2 % 2:Nat):Int)==1)=false:=by simp;omega
    go_wp2_with fail
    refine(An _ _ (by omega) (by omega)).mono ?_;rintro e w1 ⟨b1,rfl,i1,z1,hb1⟩;have hB1:=QB hB0 hb1;clear hb1 hB0;go_wp2_with fail
    refine(An _ _ (by omega) (by omega)).mono ?_;rintro e w2 ⟨b2,rfl,i2,z2,hb2⟩;have hB2:=QB hB1 hb2;clear hb2 hB1;rw[show (7+((m:Int)+1)-1).toNat=6+(m+1) by omega]at i1;rw[Sl (Aa HS) hbb]at hb';simp only at hb';have zy:=Bj (Ad (Ad ic i1) i2);go_wp2
    go_roundw
    case rel=>exact⟨m+1,k,want,bits / 2,_,_,_,_,by omega,by unfold Hid;rw[Sl (Aa HS) hbb];rfl,rfl,rfl,Ad (Ad ic i1) i2,by rw[zy];exact hb'.2.1,rfl,im,zm,rfl,rfl,by go_num,by omega,by omega,by omega,hB2⟩
    case measure=>simp[intOf];omega
  ·obtain rfl:m=j:=by omega
   have hS:=Aa HS;have hfile:Ne.file m r b=Kl.file (1+(m:Int)) cl (k:Int) ms:=by unfold Ne.file;rw[hS]
   have hp:=Aa HP;rw[hfile,hS]at hp;have HP':=Ac hp;clear hp HP hS HS hfile HB;go_wp2_with fail
   refine(Fx _ _ _ _ _ _ _ (ic) (im) (by omega) (by omega) (by omega) (by omega) (by first | omega | (simp only[ByteArray.size_append];first | omega | (simp only[ByteArray.size,List.size_toArray,List.length_cons,List.length_nil];omega)) | exact Nat.le_of_ble_eq_true rfl) (by first | omega | (simp only[ByteArray.size_append];omega))).mono ?_
   rintro e w1 ⟨b1,rfl,i1,z1,hb1⟩;have hB1:=QB hB0 hb1;clear hb1 hB0;go_wp2_with fail
   refine(Jn _ _ _ _ (by unfold maxLen;omega) (by have:=Bj i1;unfold maxLen;omega) i1 (Aa HP').1 (Aa HP').2.1).mono ?_;rintro e w2 ⟨b2,rfl,i2,z2,hb2⟩;have hB2:=QB hB1 hb2;clear hb2 hB1;have hps:b2=b1:=Ad2 i2 i1;subst hps;clear i2 z2;have C0:=Ae w2 (O4 (want:Int));have hB3:=hB2.alloc hB2.size (O4 (want:Int));go_wp2_with fail
   refine(Fe _ _ [] [(want:Int)] _ _ _ _ _ _ none _ 0 _ _ (by unfold maxLen;omega) i1 (by simp) (IntR.nil _ _) ?_ (by simp) (Aa HP').2.2).mono ?_
   ·intro i hi;refine⟨_,0,rfl,lt_of_block C0,?_⟩;have:i=0:=by simp at hi;omega
    subst this;exact(Ab C0 0).trans rfl
   ·rintro e w4 ⟨rfl,hb4⟩;have hB4:=QB hB3 hb4;go_wp2;go_ret;exact⟨by simp,hB4⟩
end Go.Proofs.YtpcgnjolfahacaaGreat
