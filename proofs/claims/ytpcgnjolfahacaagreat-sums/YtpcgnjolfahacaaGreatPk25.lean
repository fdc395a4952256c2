/- a part of the proofs -/
import Derived.Test.YtpcgnjolfahacaaGreatPk24
set_option maxRecDepth 100000
set_option maxHeartbeats 40000000
set_option linter.unusedVariables false
set_option linter.unusedSimpArgs false
namespace Go.Proofs.YtpcgnjolfahacaaGreat
open Go.RowKit
def Kr.nb (n:Int):ByteArray:=⟨#[n.toNat.toUInt8]⟩
theorem D8 (n:Int):(Kr.nb n).size=1:=rfl
def Kr.method (hd rs:ByteArray) (l s:Int) (c hs:ByteArray):ByteArray :=
 hd++rs++(Kr.nb l++Kr.nb s++Kr.nb (c.size:Int))++c++Kr.nb ((hs.size:Int) / 4)++hs++Kr.nb 0
def Kr.file (n:Int) (cl:ByteArray) (k:Int) (m:ByteArray):ByteArray:=⟨#[83,77]⟩++Kr.nb n++cl++Kr.nb k++m
theorem Rr (hd rs:ByteArray) (l s:Int) (c hs:ByteArray):(Kr.method hd rs l s c hs).size=hd.size+rs.size+c.size+hs.size+5:=by
 simp only[Kr.method,ByteArray.size_append,D8];omega
theorem Vt (n:Int) (cl:ByteArray) (k:Int) (m:ByteArray):(Kr.file n cl k m).size=cl.size+m.size+4:=by
 have h:(⟨#[83,77]⟩:ByteArray).size=2:=rfl;simp only[Kr.file,ByteArray.size_append,D8,h];omega
theorem Dr (n:Int) (w:World) (h0:0≤n) (h1:n≤255) :
  Calls Tryz.prog 34 #[.int .i64 n] w fun e w'=>e=.returned (.string (Kr.nb n))∧Below w.heap.size w w':=by
 have hk:(convert 120 9 (.slice (some ⟨w.heap.size,0,none⟩) 1 1)).run Tryz.prog (w.alloc (O14 n))=.ok (.string ⟨#[n.toNat.toUInt8]⟩) (w.alloc (O14 n)):=by
  refine run_convert_bytes_back (P:=Tryz.prog) _ _ _ 5 _ 1 [n.toNat.toUInt8] Tryz.underlying120 Tryz.underlying5 Tryz.underlying9 ?_;intro j hj;have hj0:j=0:=by simp at hj;omega
  subst hj0;have h2:=Ar w [.int .u8 n] 5 w.heap.size rfl 0 (.int .u8 n) rfl;rw[h2]
  simp
  omega
 go_enter Tryz.func34,Tryz.ntmps34;go_wp2;go_ret;exact⟨rfl,QN _⟩
theorem Tw (hd rs:ByteArray) (l s:Int) (c hs:ByteArray) (w:World) (h1:hd.size≤1000) (h2:rs.size≤1000) (h3:0≤l) (h4:l≤255) (h5:0≤s) (h6:s≤255) (h7:c.size≤255) (h8:hs.size≤255) :
  Calls Tryz.prog 36 #[.string hd,.string rs,.int .i64 l,.int .i64 s,.string c,.string hs] w fun e w'=>e=.returned (.string (Kr.method hd rs l s c hs))∧Below w.heap.size w w':=by
 have q1:(0:Int)≤(c.size:Int)∧(c.size:Int)≤255:=⟨by omega,by omega⟩;have q2:(0:Int)≤(hs.size:Int) / 4∧(hs.size:Int) / 4≤255:=⟨by omega,by omega⟩;have i1:=D8 l;have i2:=D8 s;have i3:=D8 (c.size:Int);have i4:=D8 ((hs.size:Int) / 4);have i5:=D8 0;have N1:=Ac (fun w=>Dr l w h3 h4);have N2:=Ac (fun w=>Dr s w h5 h6);have N3:=Ac (fun w=>Dr (c.size:Int) w q1.1 q1.2);have N4:=Ac (fun w=>Dr ((hs.size:Int) / 4) w q2.1 q2.2);have N5:=Ac (fun w=>Dr 0 w (by omega) (by omega));unfold Kr.method;have hd4:(hs.size:Int).tdiv 4=(hs.size:Int) / 4:=Int.tdiv_eq_ediv_of_nonneg (by omega);generalize Kr.nb l=b1 at *;generalize Kr.nb s=b2 at *;generalize Kr.nb (c.size:Int)=b3 at *;generalize Kr.nb ((hs.size:Int) / 4)=b4 at *;generalize Kr.nb 0=b5 at *;go_enter Tryz.func36,Tryz.ntmps36;go_wp2_with fail
 refine(Aa N1 _).mono ?_;rintro e w1 ⟨rfl,hb1⟩;go_wp2_with fail
 refine(Aa N2 _).mono ?_;rintro e w2 ⟨rfl,hb2⟩;have hB2:=QB hb1 hb2;go_wp2_with fail
 refine(Aa N3 _).mono ?_;rintro e w3 ⟨rfl,hb3⟩;have hB3:=QB hB2 hb3;clear hb1 hb2 hb3 hB2;go_wp2_with fail
 refine(Aa N4 _).mono ?_;rintro e w4 ⟨rfl,hb4⟩;have hB4:=QB hB3 hb4;go_wp2_with fail
 refine(Aa N5 _).mono ?_;rintro e w5 ⟨rfl,hb5⟩;have hB5:=QB hB4 hb5;go_wp2;go_ret;exact⟨rfl,hB5⟩
theorem X3 (n k:Int) (cl m:ByteArray) (w:World) (h0:0≤n) (h1:n≤255) (h2:0≤k) (h3:k≤255) (hc:cl.size≤10000) (hm:m.size≤10000) :
  Calls Tryz.prog 37 #[.int .i64 n,.string cl,.int .i64 k,.string m] w fun e w'=>e=.returned (.string (Kr.file n cl k m))∧Below w.heap.size w w':=by
 have i1:=D8 n;have i2:=D8 k;have N1:=Ac (fun w=>Dr n w h0 h1);have N2:=Ac (fun w=>Dr k w h2 h3);unfold Kr.file;generalize Kr.nb n=b1 at *;generalize Kr.nb k=b2 at *;go_enter Tryz.func37,Tryz.ntmps37;go_wp2_with fail
 refine(Aa N1 _).mono ?_;rintro e w1 ⟨rfl,hb1⟩;go_wp2_with fail
 refine(Aa N2 _).mono ?_;rintro e w2 ⟨rfl,hb2⟩;go_wp2;go_ret;exact⟨rfl,QB hb1 hb2⟩
theorem Vy (s p:ByteArray) (w:World) (hs:s.size≤maxLen) (hp:p.size≤maxLen) (hP:Ai1 s.data.toList=(p.data.toList,0,0)) (hC:Agu p.data.toList=(0,0,0)) :
  Calls Tryz.prog 32 #[.string s] w fun e w'=>e=.returned (.tuple #[.string p,.bool true])∧Below w.heap.size w w':=by
 have h1:=fun w=>Sy s w hs;have h2:=fun w=>Zk p w hp;rw[hP,Ae3]at h1;rw[hC]at h2;have H1:=Ac h1;have H2:=Ac h2;clear h1 h2 hP hC;go_enter Tryz.func32,Tryz.ntmps32;go_wp2_with fail
 refine(Aa H1 _).mono ?_;rintro e w1 ⟨rfl,hb1⟩;go_wp2_with fail
 refine(Aa H2 _).mono ?_;rintro e w2 ⟨rfl,hb2⟩;go_wp2;go_ret2;exact⟨rfl,QB hb1 hb2⟩
def Kr.Is (b:ByteArray) (l:List UInt8):Prop:=b.data.toList=l
theorem Zd (a:Array UInt8):Kr.Is ⟨a⟩ a.toList:=rfl
theorem D7 {b:ByteArray}{l:List UInt8} (h:Kr.Is b l):b.size=l.length:=by rw[← h,Array.length_toList];rfl
theorem Ch {a b:ByteArray}{l m:List UInt8} (h:Kr.Is a l) (k:Kr.Is b m):Kr.Is (a++b) (l++m):=by
 unfold Kr.Is at *;rw[← h,← k,ByteArray.data_append,Array.toList_append]
theorem Hp (n:Int):Kr.Is (Kr.nb n) [n.toNat.toUInt8]:=rfl
theorem Ae4 {b c:ByteArray}{l:List UInt8} (h:Kr.Is b l) (k:Kr.Is c l):b=c:=by
 unfold Kr.Is at *;have:b.data=c.data:=Array.toList_inj.1 (h.trans k.symm);cases b;cases c;simp_all
def Kl.method (hd rs:List UInt8) (l s:Int) (c hs:List UInt8):List UInt8 :=
 hd++rs++([l.toNat.toUInt8]++[s.toNat.toUInt8]++[c.length.toUInt8])++c++[(hs.length / 4).toUInt8]++hs++[0]
def Kl.file (n:Int) (cl:List UInt8) (k:Int) (m:List UInt8):List UInt8:=[83,77]++[n.toNat.toUInt8]++cl++[k.toNat.toUInt8]++m
theorem Zt {hd rs c hs:ByteArray}{H R C K:List UInt8} (l s:Int) (h1:Kr.Is hd H) (h2:Kr.Is rs R) (h3:Kr.Is c C) (h4:Kr.Is hs K):Kr.Is (Kr.method hd rs l s c hs) (Kl.method H R l s C K):=by
 have e1:Kr.Is (Kr.nb (c.size:Int)) [C.length.toUInt8]:=by rw[D7 h3];exact Hp _
 have e2:Kr.Is (Kr.nb ((hs.size:Int) / 4)) [(K.length / 4).toUInt8]:=by
  rw[D7 h4];have:((K.length:Int) / 4).toNat=K.length / 4:=by omega
  have e:=Hp ((K.length:Int) / 4);rw[this]at e;exact e
 exact Ch (Ch (Ch (Ch (Ch (Ch h1 h2) (Ch (Ch (Hp l) (Hp s)) e1)) h3) e2) h4) (Hp 0)
theorem Adv {cl m:ByteArray}{C M:List UInt8} (n k:Int) (h1:Kr.Is cl C) (h2:Kr.Is m M):Kr.Is (Kr.file n cl k m) (Kl.file n C k M) :=
 Ch (Ch (Ch (Ch (Zd #[83,77]) (Hp n)) h1) (Hp k)) h2
theorem Ae9 (n:Int) (w:World) (h0:0≤n) (h1:n≤255) :
  Calls Tryz.prog 34 #[.int .i64 n] w fun e w'=>∃ b,e=.returned (.string b)∧Kr.Is b [n.toNat.toUInt8]∧b.size=1∧Below w.heap.size w w' :=
 (Dr n w h0 h1).mono fun _ _ h=>⟨_,h.1,Hp n,rfl,h.2⟩
theorem Acq (hd rs:ByteArray) (l s:Int) (c hs:ByteArray) (H R C K:List UInt8) (w:World) (i1:Kr.Is hd H) (i2:Kr.Is rs R) (i3:Kr.Is c C) (i4:Kr.Is hs K) (h1:H.length≤100) (h2:R.length≤100) (h3:0≤l) (h4:l≤255) (h5:0≤s) (h6:s≤255) (h7:C.length≤255) (h8:K.length≤255) :
  Calls Tryz.prog 36 #[.string hd,.string rs,.int .i64 l,.int .i64 s,.string c,.string hs] w fun e w'=>∃ b,e=.returned (.string b)∧Kr.Is b (Kl.method H R l s C K)∧b.size≤1000∧Below w.heap.size w w':=by
 have z1:=D7 i1;have z2:=D7 i2;have z3:=D7 i3;have z4:=D7 i4;refine(Tw hd rs l s c hs w (by omega) (by omega) h3 h4 h5 h6 (by omega) (by omega)).mono fun _ _ h=>⟨_,h.1,Zt l s i1 i2 i3 i4,?_,h.2⟩;rw[Rr];omega
theorem Aey (n k:Int) (cl m:ByteArray) (C M:List UInt8) (w:World) (i1:Kr.Is cl C) (i2:Kr.Is m M) (h0:0≤n) (h1:n≤255) (h2:0≤k) (h3:k≤255) (hc:cl.size≤10000) (hm:m.size≤10000) :
  Calls Tryz.prog 37 #[.int .i64 n,.string cl,.int .i64 k,.string m] w fun e w'=>∃ b,e=.returned (.string b)∧Kr.Is b (Kl.file n C k M)∧b.size≤30000∧Below w.heap.size w w':=by
 refine(X3 n k cl m w h0 h1 h2 h3 hc hm).mono fun _ _ h=>⟨_,h.1,Adv n k i1 i2,?_,h.2⟩;rw[Vt];omega
theorem Aet (s:ByteArray) (S P:List UInt8) (w:World) (hs:s.size≤maxLen) (hp:P.length≤maxLen) (i:Kr.Is s S) (hP:Ai1 S=(P,0,0)) (hC:Agu P=(0,0,0)) :
  Calls Tryz.prog 32 #[.string s] w fun e w'=>∃ b,e=.returned (.tuple #[.string b,.bool true])∧Kr.Is b P∧b.size≤maxLen∧Below w.heap.size w w':=by
 have hz:(⟨P.toArray⟩:ByteArray).size≤maxLen:=by simpa[ByteArray.size] using hp
 refine(Vy s ⟨P.toArray⟩ w hs hz (by rw[i];exact hP) hC).mono fun _ _ h=>⟨_,h.1,rfl,hz,h.2⟩
theorem Ae5 (s:ByteArray) (S:List UInt8) (ins out:List Int) (h d f st va sp:Int) (ia oa:Option Addr) (ic oc:Nat) (w:World) (hs:s.size≤maxLen) (i:Kr.Is s S) (hl:ins.length≤maxLen) (hi:IntR w ia ins) (ho:IntR w oa out) (hol:out.length≤100000)
  (hQ:Mc.runOf S 0 ins h d f=⟨out,st,va,sp,0⟩) :
  Calls Tryz.prog 33 #[.string s,.slice ia ins.length ic,.int .i64 h,.int .i64 d,.int .i64 f,.slice oa out.length oc,.int .i64 st,.int .i64 va,.int .i64 sp] w fun e w'=>e=.returned (.bool true)∧Below w.heap.size w w' :=
 Xx s ins out h d f st va sp ia oa ic oc w hs hl hi ho hol (by rw[i];exact hQ)
theorem Uf {E:Mc.E}{fuel k:Nat}{S:Mc.S} (h1:S.ended=false) (h2:S.steps<fuel):Mc.loop E fuel (k+1) S=Mc.loop E fuel k (Mc.step E S):=by
 rw[Mc.loop,if_neg (by simp[h1]),if_neg (by omega)]
theorem Xh {E:Mc.E}{fuel k:Nat}{S:Mc.S} (h:S.ended=true):Mc.loop E fuel k S=S:=by
 cases k with
 | zero=>rfl
 | succ k=>rw[Mc.loop,if_pos h]
theorem Ab9 (c n:Int) (w:World) (hc0:-9223372036854775808≤c) (hc1:c≤9223372036854775807) (hn:0<n) (hn1:n≤1000000) :
  Calls Tryz.prog 16 #[.int .i64 c,.int .i64 n] w fun e w'=>e=.returned (.int .i64 (Kr.pk c n))∧w=w' :=
 (Yo c n w hc0 hc1 hn hn1).mono fun _ _ h=>⟨h.1,h.2.symm⟩
def Sm.enc1 (x:Nat × Nat):List Int:=if x.1=0 then [0,(x.2:Int)] else [(x.1:Int)]
def Sm.enc (l:List (Nat × Nat)):List Int:=l.flatMap Sm.enc1
def Sm.okI (x:Nat × Nat):Prop:=(x.1=0∨5≤x.1∧x.1≤10∨x.1=22∨x.1=24∨x.1=25)∧x.2≤255
theorem Y4 {x:Nat × Nat} (h:Sm.okI x):(Sm.enc1 x).length=Cd.wd (x.1:Int):=by
 unfold Sm.enc1 Cd.wd;obtain⟨h,_⟩:=h;by_cases e:x.1=0
 ·rw[if_pos e,if_pos (.inl (by omega))];rfl
 ·rw[if_neg e,if_neg (by omega)];rfl
theorem Cc (a b:List (Nat × Nat)):Sm.enc (a++b)=Sm.enc a++Sm.enc b:=List.flatMap_append
theorem Bk (x:Nat × Nat) (b:List (Nat × Nat)):Sm.enc (x::b)=Sm.enc1 x++Sm.enc b:=List.flatMap_cons
theorem Gm (x:Nat × Nat):1≤(Sm.enc1 x).length:=by unfold Sm.enc1;split<;>simp
theorem Hc (A:List (Nat × Nat)) (x:Nat × Nat) (B:List (Nat × Nat)):(Sm.enc (A++x::B)).getD (Sm.enc A).length 0=(x.1:Int):=by
 rw[Cc,Bk,List.getD_eq_getElem?_getD,List.getElem?_append_right (Nat.le_refl _),Nat.sub_self];unfold Sm.enc1;by_cases e:x.1=0
 ·rw[if_pos e,e];rfl
 ·rw[if_neg e];rfl
theorem Acl (A:List (Nat × Nat)) (x:Nat × Nat) (B:List (Nat × Nat)) (e:x.1=0):(Sm.enc (A++x::B)).getD ((Sm.enc A).length+1) 0=(x.2:Int):=by
 rw[Cc,Bk,List.getD_eq_getElem?_getD,List.getElem?_append_right (by omega),show (Sm.enc A).length+1-(Sm.enc A).length=1 by omega];unfold Sm.enc1;rw[if_pos e];rfl
theorem Fj (A:List (Nat × Nat)) (x:Nat × Nat) (B:List (Nat × Nat)) (h:Sm.okI x):(Sm.enc A).length+Cd.wd (x.1:Int)=(Sm.enc (A++[x])).length∧(Sm.enc (A++x::B)).length=(Sm.enc (A++[x])).length+(Sm.enc B).length:=by
 rw[Cc,Cc,Bk,Bk,← Y4 h];simp only[List.length_append,show Sm.enc []=[] from rfl,List.length_nil];omega
theorem Oo {L:List (Nat × Nat)} (hL:∀ x∈L,Sm.okI x):∀ (k:Nat) (A B:List (Nat × Nat)),L=A++B→∀ p∈Cd.starts (Sm.enc L) k (Sm.enc A).length,∃ A' x B',L=A' ++ x::B'∧p=(Sm.enc A').length
 | 0,A,B,e,p,h=>by simp[Cd.starts]at h
 | k+1,A,B,e,p,h=>by
  unfold Cd.starts at h;by_cases hp:(Sm.enc A).length<(Sm.enc L).length
  ·rw[if_pos hp]at h;cases B with
   | nil=>rw[e,List.append_nil]at hp;omega
   | cons x B =>
    rcases List.mem_cons.1 h with h|h
    ·exact⟨A,x,B,e,h⟩
    ·have hx:=hL x (by rw[e];simp);have h1:(Sm.enc L).getD (Sm.enc A).length 0=(x.1:Int):=by rw[e];exact Hc A x B
     rw[h1,(Fj A x B hx).1]at h;exact Oo hL k (A++[x]) B (by rw[e];simp) p h
  ·rw[if_neg hp]at h;simp at h
theorem Ht {L:List (Nat × Nat)} (hL:∀ x∈L,Sm.okI x) {p:Nat} (h:p∈Cd.places (Sm.enc L)):∃ A x B,L=A++x::B∧p=(Sm.enc A).length:=Oo hL _ [] L rfl p h
theorem Ml {f:Nat→Bool}:∀ {l:List Nat},(∀ p∈l,f p=false)→Cd.first f l = -1
 | [],_=>rfl
 | p::r,h=>by
  rw[Cd.first,if_neg (by rw[h p (by simp)];simp)]
  exact Ml fun q hq=>h q (by simp[hq])
theorem Kk {f:Cd.Ins→Bool}:∀ {l:List Cd.Ins},(∀ p∈l,f p=false)→Ag4 f l = -1
 | [],_=>rfl
 | p::r,h=>by
  rw[Ag4,if_neg (by rw[h p (by simp)];simp)];exact Kk fun q hq=>h q (by simp[hq])
theorem X9 {L:List (Nat × Nat)} (hL:∀ x∈L,Sm.okI x):Cd.unread (Sm.enc L) = -1:=Ml fun p hp=>by
 obtain⟨A,x,B,rfl,rfl⟩:=Ht hL hp;have hx:=hL x (by simp);have n:=Fj A x B hx;have h1:=hx.1;unfold Cd.noRead;rw[Hc,n.1,n.2]
 simp
 omega
def Sm.m (L:List (Nat × Nat)):Rd.Mth:=⟨255,0,[],(0,0),0,8,Sm.enc L,[],[]⟩
theorem Ac9 {L:List (Nat × Nat)} (hL:∀ x∈L,Sm.okI x) (T:List Int) (nf:Int) (ow:List Int):Ah0 T nf ow (Sm.m L)=(0,0):=by
 have e:Ag4 (Ahv T nf ow (Sm.m L).locals (Cd.insts (Sm.m L).code)) (Cd.insts (Sm.m L).code) = -1:=Kk fun y hy=>by
  obtain⟨p,hp,rfl⟩:=List.mem_map.1 hy;have hp':p∈Cd.places (Sm.enc L):=hp;obtain⟨A,x,B,e,rfl⟩:=Ht hL hp';have hx:=(hL x (by rw[e];simp)).1;have ho:(Cd.insAt (Sm.m L).code (Sm.enc A).length).op=(x.1:Int):=by
   show (Sm.enc L).getD _ 0=_;rw[e];exact Hc A x B
  unfold Ahv Cd.argP;rw[ho,if_neg (by omega),if_neg (by omega),if_neg (by omega),if_neg (by omega),if_neg (by omega),if_neg (by omega)];rfl
 unfold Ah0;rw[show Cd.unread (Sm.m L).code = -1 from X9 hL,if_neg (by omega),e,if_neg (by omega)];rfl
def Sm.f (L:List (Nat × Nat)):Rd.Fil:=⟨[],[Sm.m L]⟩
theorem Aav {L:List (Nat × Nat)} (hL:∀ x∈L,Sm.okI x) (h1:L≠[]) (h2:(Sm.enc L).length≤120):FilB (Sm.f L):=by
 refine⟨by simp[Sm.f],fun c hc=>by simp[Sm.f]at hc,by simp[Sm.f],by simp[Sm.f],fun m hm=>?_⟩;obtain rfl:m=Sm.m L:=by simpa[Sm.f] using hm
 refine⟨⟨by simp[Sm.m],by simp[Sm.m]⟩,⟨by simp[Sm.m],by simp[Sm.m]⟩,by simp[Sm.m],fun t ht=>by simp[Sm.m]at ht,⟨⟨by simp[Sm.m],by simp[Sm.m]⟩,⟨by simp[Sm.m],by simp[Sm.m]⟩⟩,⟨by simp[Sm.m],by simp[Sm.m]⟩,⟨by simp[Sm.m],by simp[Sm.m]⟩,?_,h2,?_,by simp[Sm.m],fun t ht=>by simp[Sm.m]at ht,by simp[Sm.m],fun t ht=>by simp[Sm.m]at ht⟩
 ·cases L with
  | nil=>exact absurd rfl h1
  | cons x L =>
   show 1≤(Sm.enc (x::L)).length;rw[Bk,List.length_append];have:=Gm x;omega
 ·intro b hb;obtain⟨x,hx,hb⟩:=List.mem_flatMap.1 (show b∈L.flatMap Sm.enc1 from hb);obtain⟨a1,a2⟩:=hL x hx;unfold Sm.enc1 at hb;by_cases e:x.1=0
  ·rw[if_pos e]at hb;simp at hb;rcases hb with rfl | rfl
   ·exact⟨by omega,by omega⟩
   ·exact⟨by omega,by omega⟩
  ·rw[if_neg e]at hb;simp at hb;subst hb;exact⟨by omega,by omega⟩
theorem Kc {L:List (Nat × Nat)} (hL:∀ x∈L,Sm.okI x) (h1:L≠[]) (h2:(Sm.enc L).length≤120):Rd.read (Agd (Sm.f L))=(Sm.f L,0):=Ada (Aav hL h1 h2) (Xa (Aav hL h1 h2))
theorem Pb {L:List (Nat × Nat)} (hL:∀ x∈L,Sm.okI x) (h1:L≠[]) (h2:(Sm.enc L).length≤120):Rf.formed (Agd (Sm.f L))=(0,0,0):=by
 rw[← Cf];unfold Aga;rw[Kc hL h1 h2,if_neg (by simp)];unfold Ahz;rw[if_neg (show ¬ (Tr.inCl (Tr.tree (Sm.f L).classes) 0 (Sm.f L).classes).1≠0 from fun h=>h rfl)];unfold Ajn;rw[show Ag7 (Tr.tree (Sm.f L).classes) (Sm.f L).methods 0 (Sm.f L).methods = -1 from rfl,if_neg (by omega)];show Agh _ _ _ 0 [Sm.m L]=_;unfold Agh;rw[Ac9 hL,if_neg (by simp)];rfl
def Sm.h1 (op h:Nat):Nat:=if op=0∨op=5∨op=24 then h+1 else if 7≤op∧op≤10∨op=25 then h-1 else h
def Sm.ht:Nat→List (Nat × Nat)→Nat
 | h,[]=>h
 | h,x::l=>Sm.ht (Sm.h1 x.1 h) l
theorem Uk (l:List (Nat × Nat)) (x:Nat × Nat):∀ h,Sm.ht h (l++[x])=Sm.h1 x.1 (Sm.ht h l):=by
 induction l with
 | nil=>intro h;rfl
 | cons y l ih=>intro h;exact ih _
def Sm.need (op h:Nat):Prop:=h≤8∧(op=0∨op=24→h<8)∧(op=5→1≤h∧h<8)∧(6≤op∧op≤10→2≤h)∧(op=25→1≤h)
def Sm.fr (h:Nat):Afb:=⟨[],List.replicate h (1,0)⟩
def Sm.F:List (Nat × Nat)→Nat→Nat→Option Afb
 | [],_,_=>none
 | x::l,h,p=>if p=0 then some (Sm.fr h) else if p<(Sm.enc1 x).length then none else Sm.F l (Sm.h1 x.1 h) (p-(Sm.enc1 x).length)
theorem Qq:∀ (A:List (Nat × Nat)) (h:Nat) (x:Nat × Nat) (B:List (Nat × Nat)),Sm.F (A++x::B) h (Sm.enc A).length=some (Sm.fr (Sm.ht h A))
 | [],h,x,B=>by show Sm.F (x::B) h 0=_;rw[Sm.F,if_pos rfl];rfl
 | y::A,h,x,B=>by
  have:=Gm y;rw[List.cons_append,Bk,List.length_append,Sm.F,if_neg (by omega),if_neg (by omega),show (Sm.enc1 y).length+(Sm.enc A).length-(Sm.enc1 y).length=(Sm.enc A).length by omega];exact Qq A _ x B
theorem Ur:∀ (L:List (Nat × Nat)) (h p:Nat) (y:Afb),(∀ A x B,L=A++x::B→Sm.ht h A≤8)→Sm.F L h p=some y→∃ k,k≤8∧y=Sm.fr k
 | [],_,_,_,_,e=>by simp[Sm.F]at e
 | x::l,h,p,y,hh,e=>by
  rw[Sm.F]at e;by_cases h0:p=0
  ·rw[if_pos h0]at e;cases e;exact⟨h,hh [] x l rfl,rfl⟩
  rw[if_neg h0]at e;by_cases h3:p<(Sm.enc1 x).length
  ·rw[if_pos h3]at e;cases e
  rw[if_neg h3]at e;exact Ur l _ _ y (fun A z B e=>hh (x::A) z B (by rw[e];rfl)) e
theorem Abo {x:Nat × Nat}{h:Nat} (hx:Sm.okI x) (hn:Sm.need x.1 h) (F:List Rf.Fld) (ms:List Rd.Mth) (want:Int→List (Int × Int)) (arg:Int→Int) (p n:Int) :
  Aiz (Tr.tree []) F ms want arg (0,0) p (x.1:Int) n (Sm.fr h)=some (Sm.fr (Sm.h1 x.1 h)):=by
 obtain⟨op,v⟩:=x;obtain⟨hx,_⟩:=hx;obtain⟨n0,n1,n2,n3,n4⟩:=hn;simp only at hx n1 n2 n3 n4 ⊢;have two:2≤h→Age (Tr.tree []) (Sm.fr h).stack [(1,0),(1,0)]=true:=fun h2=>by
  unfold Age;rw[if_neg (by simp[Sm.fr];omega)];simp only[Sm.fr,List.length_replicate,List.length_cons,List.length_nil,List.drop_replicate];rw[show h-(h-(0+1+1))=2 by omega];rfl
 have one:1≤h→Age (Tr.tree []) (Sm.fr h).stack [(1,0)]=true:=fun h2=>by
  unfold Age;rw[if_neg (by simp[Sm.fr];omega)];simp only[Sm.fr,List.length_replicate,List.length_cons,List.length_nil,List.drop_replicate];rw[show h-(h-(0+1))=1 by omega];rfl
 have nil:Age (Tr.tree []) (Sm.fr h).stack []=true:=by
  unfold Age;rw[if_neg (by simp)];simp only[Sm.fr,List.length_replicate,List.length_nil,List.drop_replicate];rw[show h-(h-0)=0 by omega];rfl
 have up:∀ k,List.replicate k ((1,0):Int × Int)++[(1,0)]=List.replicate (k+1) (1,0):=fun k=>(List.replicate_succ' ..).symm;have arith:2≤h→some (⟨(Sm.fr h).locals,(Sm.fr h).stack.take ((Sm.fr h).stack.length-2)++[(1,0)]⟩:Afb)=some (Sm.fr (h-1)):=fun h2=>by
  simp only[Sm.fr,List.length_replicate,List.take_replicate];rw[up,show min (h-2) h+1=h-1 by omega]
 rcases hx with rfl|⟨a,b⟩|rfl|rfl|rfl
 ·show (if Age (Tr.tree []) (Sm.fr h).stack []=false then none else some (⟨(Sm.fr h).locals,(Sm.fr h).stack.take ((Sm.fr h).stack.length-0)++[(1,0)]⟩:Afb))=some (Sm.fr (h+1))
  rw[nil,if_neg (by simp)];simp only[Sm.fr,List.length_replicate,List.take_replicate];rw[up,show min (h-0) h+1=h+1 by omega]
 ·obtain rfl|rfl|rfl|rfl|rfl|rfl:op=5∨op=6∨op=7∨op=8∨op=9∨op=10:=by omega
  ·show (if (Sm.fr h).stack.length<1 then none else some (⟨(Sm.fr h).locals,(Sm.fr h).stack++(Sm.fr h).stack.drop ((Sm.fr h).stack.length-1)⟩:Afb))=some (Sm.fr (h+1))
   have:=(n2 rfl).1;rw[if_neg (by simp[Sm.fr];omega)];simp only[Sm.fr,List.length_replicate,List.drop_replicate];rw[show h-(h-1)=1 by omega,show List.replicate 1 ((1,0):Int × Int)=[(1,0)] from rfl,up]
  ·show (if (Sm.fr h).stack.length<2 then none else some (⟨(Sm.fr h).locals,(Sm.fr h).stack.take ((Sm.fr h).stack.length-2)++[(Sm.fr h).stack.getD ((Sm.fr h).stack.length-1) (0,0),(Sm.fr h).stack.getD ((Sm.fr h).stack.length-2) (0,0)]⟩:Afb))=some (Sm.fr h)
   have:=n3 ⟨by omega,by omega⟩;rw[if_neg (by simp[Sm.fr];omega)];have g1:(Sm.fr h).stack.getD ((Sm.fr h).stack.length-1) (0,0)=(1,0):=by
    simp only[Sm.fr,List.length_replicate,List.getD_eq_getElem?_getD];rw[List.getElem?_replicate,if_pos (by omega)];rfl
   have g2:(Sm.fr h).stack.getD ((Sm.fr h).stack.length-2) (0,0)=(1,0):=by
    simp only[Sm.fr,List.length_replicate,List.getD_eq_getElem?_getD];rw[List.getElem?_replicate,if_pos (by omega)];rfl
   rw[g1,g2];simp only[Sm.fr,List.length_replicate,List.take_replicate];rw[show ([(1,0),(1,0)]:List (Int × Int))=[(1,0)]++[(1,0)] from rfl,← List.append_assoc,up,up,show min (h-2) h+1+1=h by omega]
  all_goals
   have h2:=n3 ⟨by omega,by omega⟩;show (if Age (Tr.tree []) (Sm.fr h).stack [(1,0),(1,0)]=false then none else some (⟨(Sm.fr h).locals,(Sm.fr h).stack.take ((Sm.fr h).stack.length-2)++[(1,0)]⟩:Afb))=some (Sm.fr (h-1))
   rw[two h2,if_neg (by simp)];exact arith h2
 ·show (if Age (Tr.tree []) (Sm.fr h).stack []=false then none else some (⟨(Sm.fr h).locals,(Sm.fr h).stack.take ((Sm.fr h).stack.length-0)++[]⟩:Afb))=some (Sm.fr h)
  rw[nil,if_neg (by simp)];simp[Sm.fr]
 ·show (if Age (Tr.tree []) (Sm.fr h).stack []=false then none else some (⟨(Sm.fr h).locals,(Sm.fr h).stack.take ((Sm.fr h).stack.length-0)++[(1,0)]⟩:Afb))=some (Sm.fr (h+1))
  rw[nil,if_neg (by simp)];simp only[Sm.fr,List.length_replicate,List.take_replicate];rw[up,show min (h-0) h+1=h+1 by omega]
 ·show (if Age (Tr.tree []) (Sm.fr h).stack [(1,0)]=false then none else some (⟨(Sm.fr h).locals,(Sm.fr h).stack.take ((Sm.fr h).stack.length-1)++[]⟩:Afb))=some (Sm.fr (h-1))
  have:=n4 rfl;rw[one this,if_neg (by simp)];simp only[Sm.fr,List.length_replicate,List.take_replicate,List.append_nil];rw[show min (h-1) h=h-1 by omega]
structure Sm.Ok (L:List (Nat × Nat)):Prop where
 ok:∀ x∈L,Sm.okI x
 len:(Sm.enc L).length≤120
 need:∀ A x B,L=A++x::B→Sm.need x.1 (Sm.ht 0 A)∧(x.1≠22→B≠[])
 ne:L≠[]
theorem Adq {L:List (Nat × Nat)} (k:Sm.Ok L) {A B:List (Nat × Nat)}{x:Nat × Nat} (e:L=A++x::B):Agj [] [Sm.m L] (Sm.m L) (Sm.enc A).length (Sm.fr (Sm.ht 0 A))=some (Sm.fr (Sm.h1 x.1 (Sm.ht 0 A))):=by
 have hn:=(k.need A x B e).1;have hx:=k.ok x (by rw[e];simp);unfold Agj;rw[show (Sm.m L).code.getD (Sm.enc A).length 0=(x.1:Int) by show (Sm.enc L).getD _ 0=_;rw[e];exact Hc A x B,show (Sm.m L).result=(0,0) from rfl,Abo hx hn];show (if ((Sm.fr (Sm.h1 x.1 (Sm.ht 0 A))).stack.length:Int)≤8 then some (Sm.fr (Sm.h1 x.1 (Sm.ht 0 A))) else none)=_
 rw[if_pos];simp only[Sm.fr,List.length_replicate];obtain⟨a0,a1,a2,a3,a4⟩:=hn;unfold Sm.h1
 split
 ·omega
 ·split<;>omega
theorem Xm (x:Afb):Afu (Tr.tree []) x x:=Afu.refl _ x
theorem Aei {L:List (Nat × Nat)} (k:Sm.Ok L):Ait (Afq [] [Sm.m L] (Sm.m L)) (Sm.F L 0):=by
 have hh:∀ A x B,L=A++x::B→Sm.ht 0 A≤8:=fun A x B e=>(k.need A x B e).1.1;refine⟨fun p y e=>?_,?_,fun p hp y e=>?_⟩
 ·obtain⟨j,hj,rfl⟩:=Ur L 0 p y hh e;refine⟨rfl,by show ((List.replicate j ((1,0):Int × Int)).length:Int)≤8;simp;omega,fun t ht=>by simp[Sm.fr]at ht,fun t ht=>?_⟩;have ht':t∈List.replicate j ((1,0):Int × Int):=ht;obtain⟨_,rfl⟩:=List.mem_replicate.1 ht';exact⟨.inr (.inl ⟨rfl,rfl⟩),fun h=>absurd h (by decide)⟩
 ·cases L with
  | nil=>exact absurd rfl k.ne
  | cons x l=>exact⟨Sm.fr 0,Qq [] 0 x l,Xm _⟩
 ·have hp':p∈Cd.places (Sm.enc L):=hp;obtain⟨A,x,B,eL,rfl⟩:=Ht k.ok hp';have hF:Sm.F L 0 (Sm.enc A).length=some (Sm.fr (Sm.ht 0 A)):=by
   have:=Qq A 0 x B
   rwa [← eL]at this
  rw[hF]at e;cases e;have hr:=Adq k eL;have hx:=k.ok x (by rw[eL];simp);have hop:(Afq [] [Sm.m L] (Sm.m L)).op (Sm.enc A).length=(x.1:Int):=by show (Sm.enc L).getD _ 0=_;rw[eL];exact Hc A x B
  refine⟨⟨_,hr⟩,fun q y a hg=>?_⟩;cases hg using Ah2.el with
  | hnd h hm _=>simp[Afq,Sm.m]at hm
  | jmp _ _ hj =>
   rw[hop]at hj;have:=hx.1;simp[Afx]at hj;omega
  | nxt _ hy hg =>
   have hy':some (Sm.fr (Sm.h1 x.1 (Sm.ht 0 A)))=some y:=hr.symm.trans hy;cases hy';rw[hop]at hg;have h22:x.1≠22:=by
    intro e;rw[e]at hg;simp[Af5]at hg
   have hB:=(k.need A x B eL).2 h22;have hn:(Afq [] [Sm.m L] (Sm.m L)).nx (Sm.enc A).length=((Sm.enc (A++[x])).length:Int):=by
    unfold Afj.nx;rw[hop];have:=(Fj A x B hx).1;omega
   cases B with
   | nil=>exact absurd rfl hB
   | cons z B =>
    have e2:L=(A++[x])++z::B:=by rw[eL];simp
    have hF2:Sm.F L 0 (Sm.enc (A++[x])).length=some (Sm.fr (Sm.ht 0 (A++[x]))):=by
     have:=Qq (A++[x]) 0 z B
     rwa [← e2]at this
    rw[Uk]at hF2;have hl:(Sm.enc L).length=(Sm.enc (A++[x])).length+(Sm.enc (z::B)).length:=by rw[eL];exact(Fj A x (z::B) hx).2
    have hz:=Gm z;have hzl:(Sm.enc (z::B)).length=(Sm.enc1 z).length+(Sm.enc B).length:=by rw[Bk,List.length_append]
    have h8:=hh _ _ _ e2;rw[Uk]at h8;rw[hn];refine⟨by omega,by show _<((Sm.enc L).length:Int);omega,by show ((List.replicate (Sm.h1 x.1 (Sm.ht 0 A)) ((1,0):Int × Int)).length:Int)≤8;simp;omega,⟨_,by rw[Int.toNat_natCast];exact hF2,Xm _⟩,fun h=>by cases h⟩
theorem Qt {L:List (Nat × Nat)} (k:Sm.Ok L):Agu (Agd (Sm.f L))=(0,0,0):=by
 have hf:=Pb k.ok k.ne k.len;have hf0:(Rf.formed (Agd (Sm.f L))).1=0:=by rw[hf]
 have hr:=Kc k.ok k.ne k.len;obtain⟨g,_,_⟩:=Cu _ hf0;rw[hr]at g;have hm:Sm.m L∈(Sm.f L).methods:=by simp[Sm.f]
 have hz:=Tj (cs:=[]) (ms:=[Sm.m L]) g (m:=Sm.m L) hm (Aav k.ok k.ne k.len |>.mb _ hm).c1 (Aei k) (fun q z h=>by simp[Afv,Sm.m,Ag8]at h) (fun p hp _ q ha=>by
  rcases ha with ⟨h,hh,_⟩|⟨hj,_⟩
  ·simp[Afq,Sm.m]at hh
  ·have hp':p∈Cd.places (Sm.enc L):=hp;obtain⟨A,x,B,eL,rfl⟩:=Ht k.ok hp';have hx:=(k.ok x (by rw[eL];simp)).1;have hop:(Afq [] [Sm.m L] (Sm.m L)).op (Sm.enc A).length=(x.1:Int):=by show (Sm.enc L).getD _ 0=_;rw[eL];exact Hc A x B
   rw[hop]at hj;simp[Afx]at hj;omega)
 unfold Agu Ajb;rw[if_neg (fun g=>g hf0),hr];show Agx (Agw [] [Sm.m L]) 0 [Sm.m L]=_;rw[Agx,if_neg (fun g=>g hz)];rfl
theorem Aci {L:List (Nat × Nat)} (k:Sm.Ok L):Ai1 (Agd (Sm.f L))=(Agd (Sm.f L),0,0):=by
 have hf:=Pb k.ok k.ne k.len;have hf0:(Rf.formed (Agd (Sm.f L))).1=0:=by rw[hf]
 have hr:=Kc k.ok k.ne k.len;obtain⟨r,h1,h2⟩:=Qh hf0 (by rw[Qt k]);unfold Ai1;rw[if_neg (fun g=>g hf0),h1];rw[hr]at h1 h2 ⊢;obtain⟨h3,h4⟩:=Gf _ _ h1;have e:r=[Sm.m L]:=by
  cases r with
  | nil=>simp[Sm.f]at h3
  | cons y r =>
   cases r with
   | cons z r=>simp[Sm.f]at h3
   | nil =>
    obtain⟨m,hm,mp,_,rfl⟩:=h4 y (by simp);obtain rfl:m=Sm.m L:=by simpa[Sm.f] using hm
    obtain⟨m0,e0,hq⟩:=h2 0 _ rfl;obtain rfl:Sm.m L=m0:=by simpa[Sm.f] using e0
    cases mp with
    | nil=>rfl
    | cons q mp =>
     obtain⟨z,hz,_⟩:=hq q (by simp[Rd.Mth.withMaps]);simp[Afv,Sm.m,Ag8]at hz
 rw[e];rfl
structure Sm.St where
 stk:List Int
 rd:Nat
 out:List Int
def Sm.Ex (ins:List Int) (i0:Nat × Nat) (i1:Sm.St) (i2:Sm.St):Prop:=∀ (P:Nat × Nat→Sm.St→Sm.St→Prop),(∀ (s:List Int) (r:Nat) (o:List Int) (v:Nat),s.length<8→v≤255→P (0,v) ⟨s,r,o⟩ ⟨s++[Mc.signed (v:Int)],r,o⟩)→(∀ (s:List Int) (r:Nat) (o:List Int),s.length<8→P (24,0) ⟨s,r,o⟩ ⟨s++[ins.getD r 0],if r<ins.length then r+1 else r,o⟩)→(∀ (s:List Int) (r:Nat) (o:List Int) (k:Nat) (a b z:Int),s.length+2≤8→7≤k→k≤10→Mc.reckoned (k:Int) a b=some z→P (k,0) ⟨s++[a]++[b],r,o⟩ ⟨s++[z],r,o⟩)→(∀ (s:List Int) (r:Nat) (o:List Int) (a:Int),s.length+1<8→P (5,0) ⟨s++[a],r,o⟩ ⟨s++[a]++[a],r,o⟩)→(∀ (s:List Int) (r:Nat) (o:List Int) (a b:Int),s.length+2≤8→P (6,0) ⟨s++[a]++[b],r,o⟩ ⟨s++[b]++[a],r,o⟩)→(∀ (s:List Int) (r:Nat) (o:List Int) (a:Int),s.length+1≤8→P (25,0) ⟨s++[a],r,o⟩ ⟨s,r,o++[a]⟩)→P i0 i1 i2
theorem Sm.Ex.const {ins:List Int} (s:List Int) (r:Nat) (o:List Int) (v:Nat) (q0:s.length<8) (q1:v≤255):Sm.Ex ins (0,v) ⟨s,r,o⟩ ⟨s++[Mc.signed (v:Int)],r,o⟩:=fun P c0 c1 c2 c3 c4 c5=>c0 s r o v q0 q1
theorem Sm.Ex.inp {ins:List Int} (s:List Int) (r:Nat) (o:List Int) (q0:s.length<8):Sm.Ex ins (24,0) ⟨s,r,o⟩ ⟨s++[ins.getD r 0],if r<ins.length then r+1 else r,o⟩:=fun P c0 c1 c2 c3 c4 c5=>c1 s r o q0
theorem Sm.Ex.arith {ins:List Int} (s:List Int) (r:Nat) (o:List Int) (k:Nat) (a b z:Int) (q0:s.length+2≤8) (q1:7≤k) (q2:k≤10) (q3:Mc.reckoned (k:Int) a b=some z):Sm.Ex ins (k,0) ⟨s++[a]++[b],r,o⟩ ⟨s++[z],r,o⟩:=fun P c0 c1 c2 c3 c4 c5=>c2 s r o k a b z q0 q1 q2 q3
theorem Sm.Ex.dup {ins:List Int} (s:List Int) (r:Nat) (o:List Int) (a:Int) (q0:s.length+1<8):Sm.Ex ins (5,0) ⟨s++[a],r,o⟩ ⟨s++[a]++[a],r,o⟩:=fun P c0 c1 c2 c3 c4 c5=>c3 s r o a q0
theorem Sm.Ex.swap {ins:List Int} (s:List Int) (r:Nat) (o:List Int) (a b:Int) (q0:s.length+2≤8):Sm.Ex ins (6,0) ⟨s++[a]++[b],r,o⟩ ⟨s++[b]++[a],r,o⟩:=fun P c0 c1 c2 c3 c4 c5=>c4 s r o a b q0
theorem Sm.Ex.out {ins:List Int} (s:List Int) (r:Nat) (o:List Int) (a:Int) (q0:s.length+1≤8):Sm.Ex ins (25,0) ⟨s++[a],r,o⟩ ⟨s,r,o++[a]⟩:=fun P c0 c1 c2 c3 c4 c5=>c5 s r o a q0
theorem Sm.Ex.el {ins:List Int}{M:(i0:Nat × Nat)→(i1:Sm.St)→(i2:Sm.St)→Sm.Ex ins i0 i1 i2→Prop} (const:∀ (s:List Int) (r:Nat) (o:List Int) (v:Nat) (q0:s.length<8) (q1:v≤255),M (0,v) ⟨s,r,o⟩ ⟨s++[Mc.signed (v:Int)],r,o⟩ (Sm.Ex.const s r o v q0 q1)) (inp:∀ (s:List Int) (r:Nat) (o:List Int) (q0:s.length<8),M (24,0) ⟨s,r,o⟩ ⟨s++[ins.getD r 0],if r<ins.length then r+1 else r,o⟩ (Sm.Ex.inp s r o q0)) (arith:∀ (s:List Int) (r:Nat) (o:List Int) (k:Nat) (a b z:Int) (q0:s.length+2≤8) (q1:7≤k) (q2:k≤10) (q3:Mc.reckoned (k:Int) a b=some z),M (k,0) ⟨s++[a]++[b],r,o⟩ ⟨s++[z],r,o⟩ (Sm.Ex.arith s r o k a b z q0 q1 q2 q3)) (dup:∀ (s:List Int) (r:Nat) (o:List Int) (a:Int) (q0:s.length+1<8),M (5,0) ⟨s++[a],r,o⟩ ⟨s++[a]++[a],r,o⟩ (Sm.Ex.dup s r o a q0)) (swap:∀ (s:List Int) (r:Nat) (o:List Int) (a b:Int) (q0:s.length+2≤8),M (6,0) ⟨s++[a]++[b],r,o⟩ ⟨s++[b]++[a],r,o⟩ (Sm.Ex.swap s r o a b q0)) (out:∀ (s:List Int) (r:Nat) (o:List Int) (a:Int) (q0:s.length+1≤8),M (25,0) ⟨s++[a],r,o⟩ ⟨s,r,o++[a]⟩ (Sm.Ex.out s r o a q0)) {i0:Nat × Nat}{i1:Sm.St}{i2:Sm.St} (h:Sm.Ex ins i0 i1 i2):M i0 i1 i2 h :=
 (h (fun i0 i1 i2=>∃ k:Sm.Ex ins i0 i1 i2,M i0 i1 i2 k) (fun s r o v q0 q1=>⟨Sm.Ex.const s r o v q0 q1,const s r o v q0 q1⟩) (fun s r o q0=>⟨Sm.Ex.inp s r o q0,inp s r o q0⟩) (fun s r o k a b z q0 q1 q2 q3=>⟨Sm.Ex.arith s r o k a b z q0 q1 q2 q3,arith s r o k a b z q0 q1 q2 q3⟩) (fun s r o a q0=>⟨Sm.Ex.dup s r o a q0,dup s r o a q0⟩) (fun s r o a b q0=>⟨Sm.Ex.swap s r o a b q0,swap s r o a b q0⟩) (fun s r o a q0=>⟨Sm.Ex.out s r o a q0,out s r o a q0⟩)).elim fun _ m=>m
def Sm.Run (ins:List Int) (i0:List (Nat × Nat)) (i1:Sm.St) (i2:Sm.St):Prop:=∀ (P:List (Nat × Nat)→Sm.St→Sm.St→Prop),(∀ (s:Sm.St),P [] s s)→(∀ {x:Nat × Nat}{l:List (Nat × Nat)}{s s' s'':Sm.St},Sm.Ex ins x s s'→P l s' s''→P (x::l) s s'')→P i0 i1 i2
theorem Sm.Run.nil {ins:List Int} (s:Sm.St):Sm.Run ins [] s s:=fun P c0 c1=>c0 s
theorem Sm.Run.cons {ins:List Int}{x:Nat × Nat}{l:List (Nat × Nat)}{s s' s'':Sm.St} (q0:Sm.Ex ins x s s') (q1:Sm.Run ins l s' s''):Sm.Run ins (x::l) s s'':=fun P c0 c1=>c1 q0 (q1 P c0 c1)
theorem Sm.Run.el {ins:List Int}{M:(i0:List (Nat × Nat))→(i1:Sm.St)→(i2:Sm.St)→Sm.Run ins i0 i1 i2→Prop} (nil:∀ (s:Sm.St),M [] s s (Sm.Run.nil s)) (cons:∀ {x:Nat × Nat}{l:List (Nat × Nat)}{s s' s'':Sm.St} (q0:Sm.Ex ins x s s') (q1:Sm.Run ins l s' s''),M l s' s'' q1→M (x::l) s s'' (Sm.Run.cons q0 q1)) {i0:List (Nat × Nat)}{i1:Sm.St}{i2:Sm.St} (h:Sm.Run ins i0 i1 i2):M i0 i1 i2 h :=
 (h (fun i0 i1 i2=>∃ k:Sm.Run ins i0 i1 i2,M i0 i1 i2 k) (fun s=>⟨Sm.Run.nil s,nil s⟩) (fun q0 ⟨q1,mq1⟩=>⟨Sm.Run.cons q0 q1,cons q0 q1 mq1⟩)).elim fun _ m=>m
theorem Sm.Run.snoc {ins:List Int}{x:Nat × Nat}{l:List (Nat × Nat)}{s s' s'':Sm.St} (h:Sm.Run ins l s s') (k:Sm.Ex ins x s' s''):Sm.Run ins (l++[x]) s s'':=by
 induction h using Sm.Run.el with
 | nil s=>exact .cons k (.nil _)
 | cons e _ ih=>exact .cons e (ih k)
theorem Sm.Run.split {ins:List Int}{A B:List (Nat × Nat)}:∀ {s s':Sm.St},Sm.Run ins (A++B) s s'→∃ t,Sm.Run ins A s t∧Sm.Run ins B t s':=by
 induction A with
 | nil=>intro s s' h;exact⟨s,.nil _,h⟩
 | cons x A ih =>
  intro s s' h;cases h using Sm.Run.el with
  | cons e h =>
   obtain⟨t,h1,h2⟩:=ih h;exact⟨t,.cons e h1,h2⟩
theorem Qo {ins:List Int}{x:Nat × Nat}{s s':Sm.St} (h:Sm.Ex ins x s s'):Sm.okI x∧Sm.need x.1 s.stk.length∧s'.stk.length=Sm.h1 x.1 s.stk.length∧s'.stk.length≤8∧x.1≠22:=by
 cases h using Sm.Ex.el with
 | const s r o v h hv=>exact⟨⟨.inl rfl,hv⟩,⟨Nat.le_of_lt h,fun _=>h,fun e=>by simp at e,fun e=>by simp at e,fun e=>by simp at e⟩,by simp[Sm.h1],by simp;omega,by simp⟩
 | inp s r o h=>exact⟨⟨.inr (.inr (.inr (.inl rfl))),by simp⟩,⟨Nat.le_of_lt h,fun _=>h,fun e=>by simp at e,fun e=>by simp at e,fun e=>by simp at e⟩,by simp[Sm.h1],by simp;omega,by simp⟩
 | arith s r o k a b z h h1 h2 _ =>
  refine⟨⟨.inr (.inl ⟨by simp;omega,h2⟩),by simp⟩,⟨by simp;omega,fun e=>by simp at e;omega,fun e=>by simp at e;omega,fun _=>by simp,fun e=>by simp at e;omega⟩,?_,by simp;omega,by simp;omega⟩;simp only[Sm.h1,List.length_append,List.length_cons,List.length_nil];rw[if_neg (by omega),if_pos (by omega)];omega
 | dup s r o a h=>exact⟨⟨.inr (.inl ⟨by simp,by simp⟩),by simp⟩,⟨by simp;omega,fun e=>by simp at e,fun _=>⟨by simp,by simp;omega⟩,fun e=>by simp at e,fun e=>by simp at e⟩,by simp[Sm.h1],by simp;omega,by simp⟩
 | swap s r o a b h=>exact⟨⟨.inr (.inl ⟨by simp,by simp⟩),by simp⟩,⟨by simp;omega,fun e=>by simp at e,fun e=>by simp at e,fun _=>by simp,fun e=>by simp at e⟩,by simp[Sm.h1],by simp;omega,by simp⟩
 | out s r o a h=>exact⟨⟨.inr (.inr (.inr (.inr rfl))),by simp⟩,⟨by simp;omega,fun e=>by simp at e,fun e=>by simp at e,fun e=>by simp at e,fun _=>by simp⟩,by simp[Sm.h1],by simp;omega,by simp⟩
theorem W6 {ins:List Int}{A:List (Nat × Nat)}{s s':Sm.St} (h:Sm.Run ins A s s'):Sm.ht s.stk.length A=s'.stk.length∧∀ x∈A,Sm.okI x∧x.1≠22:=by
 induction h using Sm.Run.el with
 | nil s=>exact⟨rfl,fun x hx=>by simp at hx⟩
 | cons e _ ih =>
  have k:=Qo e;refine⟨?_,fun y hy=>?_⟩
  ·rw[Sm.ht,← k.2.2.1];exact ih.1
  ·rcases List.mem_cons.1 hy with rfl|hy
   ·exact⟨k.1,k.2.2.2.2⟩
   ·exact ih.2 y hy
theorem Ye {ins:List Int}{L:List (Nat × Nat)}{s':Sm.St} (h:Sm.Run ins L ⟨[],0,[]⟩ s') (h8:s'.stk.length≤8) (hl:(Sm.enc L).length≤119):Sm.Ok (L++[(22,0)]):=by
 obtain⟨e1,e2⟩:=W6 h;refine⟨fun x hx=>?_,?_,fun A x B e=>?_,by simp⟩
 ·rcases List.mem_append.1 hx with hx|hx
  ·exact(e2 x hx).1
  ·obtain rfl:x=(22,0):=by simpa using hx
   exact⟨.inr (.inr (.inl rfl)),by simp⟩
 ·rw[Cc,List.length_append];show (Sm.enc L).length+1≤120;omega
 ·rcases List.eq_nil_or_concat B with rfl|⟨B',z,rfl⟩
  ·obtain⟨rfl,hx⟩:=List.append_inj' e rfl;obtain rfl:(22,0)=x:=by simpa using hx
   have e1':Sm.ht 0 L=s'.stk.length:=e1;refine⟨⟨by omega,fun e=>by simp at e,fun e=>by simp at e,fun e=>by simp at e,fun e=>by simp at e⟩,fun h=>absurd rfl h⟩
  ·have e':L++[(22,0)]=(A++x::B')++[z]:=by rw[e];simp
   obtain⟨rfl,_⟩:=List.append_inj' e' rfl;obtain⟨t,r1,r2⟩:=h.split;cases r2 using Sm.Run.el with
   | cons ex _ =>
    have k:=Qo ex;have:=(W6 r1).1;have e3:Sm.ht 0 A=t.stk.length:=this;rw[e3];exact⟨k.2.1,fun _=>by simp⟩
structure Sm.R (st s:List Int):Prop where
 l8:st.length=8
 tk:st.take s.length=s
theorem Sm.R.push {st s:List Int} (h:Sm.R st s) (v:Int) (hl:s.length<8):Sm.R (st.set s.length v) (s++[v]):=by
 refine⟨by rw[List.length_set,h.l8],?_⟩;rw[List.length_append,List.length_cons,List.length_nil,Nat.zero_add];have h8:=h.l8;rw[List.take_add_one,List.take_set_of_le (Nat.le_refl _),h.tk,List.getElem?_set_self (by omega)];rfl
theorem Sm.R.pop {st s:List Int}{a:Int} (h:Sm.R st (s++[a])):Sm.R st s∧st.getD s.length 0=a:=by
 have e:=h.tk;rw[List.length_append,List.length_cons,List.length_nil,Nat.zero_add,List.take_add_one]at e;have hl:s.length<st.length:=by
  have:=congrArg List.length h.tk;simp at this;omega
 rw[List.getElem?_eq_getElem hl]at e;obtain⟨e1,e2⟩:=List.append_inj' e rfl;refine⟨⟨h.l8,e1⟩,?_⟩;rw[List.getD_eq_getElem?_getD,List.getElem?_eq_getElem hl]
 simpa using e2
theorem Ga (m:Int) (p n:Nat) (lo st:List Int) (h:Nat):Mc.pop ⟨m,p,n,lo,st,h+1⟩=(st.getD h 0,⟨m,p,n,lo,st,h⟩):=by
 unfold Mc.pop;rw[if_neg (by simp)];rfl
theorem Eo (v m:Int) (p n:Nat) (lo st:List Int) (h:Nat) (hh:h<8):Mc.push v ⟨m,p,n,lo,st,h⟩=⟨m,p,n,lo,st.set h v,h+1⟩:=by
 unfold Mc.push;rw[if_neg (by simp;omega)]
def Sm.E (L:List (Nat × Nat)) (ins:List Int):Mc.E:=Mc.env [] [Sm.m L] ins 0 1
def Sm.S (st:List Int) (pos next h rd:Nat) (out:List Int) (steps:Nat):Mc.S:=⟨rd,[(2,[]),(3,[]),(4,[]),(5,[]),(6,[])],⟨0,pos,next,Mc.zeros,st,h⟩,[],false,out,0,0,steps⟩
theorem Ad9 {L A B:List (Nat × Nat)}{x:Nat × Nat} (hx:Sm.okI x) (e:L=A++x::B) (ins st:List Int) (pos h:Nat):Mc.one (Sm.E L ins) ⟨0,pos,(Sm.enc A).length,Mc.zeros,st,h⟩=⟨((Sm.enc A).length:Int),(x.1:Int),if x.1=0 then (x.2:Int) else 0⟩:=by
 show Cd.orZero (Cd.one (Sm.enc L) (Sm.enc A).length)=_;have n:=Fj A x B hx;have w:=Cd.wd_bd (x.1:Int);have ho:(Sm.enc L).getD (Sm.enc A).length 0=(x.1:Int):=by rw[e];exact Hc A x B
 have hl:(Sm.enc L).length=(Sm.enc (A++[x])).length+(Sm.enc B).length:=by rw[e];exact n.2
 have h1:=hx.1;unfold Cd.one Cd.insAt;rw[ho,if_pos ⟨by omega,by omega,by omega⟩];show (⟨_,_,_⟩:Cd.Ins)=_;by_cases h0:x.1=0
 ·rw[if_pos (by rw[h0];rfl),if_pos h0,e,Acl A x B h0]
 ·rw[if_neg (by rw[← Y4 hx];unfold Sm.enc1;rw[if_neg h0];simp),if_neg h0]
theorem Sj {L A B:List (Nat × Nat)}{x:Nat × Nat} (hx:Sm.okI x) (e:L=A++x::B) (ins st:List Int) (pos h rd k:Nat) (out:List Int) :
  Mc.step (Sm.E L ins) (Sm.S st pos (Sm.enc A).length h rd out k)=Mc.act (Sm.E L ins) (x.1:Int) (if x.1=0 then (x.2:Int) else 0) (Sm.S st (Sm.enc A).length (Sm.enc (A++[x])).length h rd out (k+1)):=by
 have o:=Ad9 hx e ins st pos h;unfold Mc.step Mc.begun;rw[show (Sm.S st pos (Sm.enc A).length h rd out k).now=⟨0,pos,(Sm.enc A).length,Mc.zeros,st,h⟩ from rfl,o];simp only;rw[Int.toNat_natCast,(Fj A x B hx).1];rfl
theorem Ac4 {ins:List Int}{L A B:List (Nat × Nat)}{x:Nat × Nat}{s s':Sm.St} (h:Sm.Ex ins x s s') (e:L=A++x::B) (st:List Int) (hR:Sm.R st s.stk) (pos k:Nat) :
  ∃ st',Sm.R st' s'.stk∧Mc.step (Sm.E L ins) (Sm.S st pos (Sm.enc A).length s.stk.length s.rd s.out k)=Sm.S st' (Sm.enc A).length (Sm.enc (A++[x])).length s'.stk.length s'.rd s'.out (k+1):=by
 have hk:=Qo h;rw[Sj hk.1 e];generalize (Sm.enc A).length=p1;generalize (Sm.enc (A++[x])).length=p2;cases h using Sm.Ex.el with
 | const s r o v h hv =>
  refine⟨_,hR.push _ h,?_⟩;show (Sm.S st p1 p2 s.length r o (k+1)).withNow (Mc.push (Mc.signed (v:Int)) ⟨0,p1,p2,Mc.zeros,st,s.length⟩)=_;rw[Eo _ _ _ _ _ _ _ h,List.length_append];rfl
 | inp s r o h =>
  refine⟨_,hR.push _ h,?_⟩;show (if r<ins.length then (Sm.S st p1 p2 s.length (r+1) o (k+1)).withNow (Mc.push (ins.getD r 0) ⟨0,p1,p2,Mc.zeros,st,s.length⟩) else (Sm.S st p1 p2 s.length r o (k+1)).withNow (Mc.push 0 ⟨0,p1,p2,Mc.zeros,st,s.length⟩))=_
  rw[Eo _ _ _ _ _ _ _ h,Eo _ _ _ _ _ _ _ h,List.length_append];by_cases hr:r<ins.length
  ·rw[if_pos hr];simp only;rw[if_pos hr];rfl
  ·rw[if_neg hr];simp only;rw[if_neg hr,show ins.getD r 0=0 by rw[List.getD_eq_getElem?_getD,List.getElem?_eq_none (by omega)];rfl];rfl
 | arith s r o j a b z h h1 h2 hz =>
  obtain⟨R1,e1⟩:=hR.pop;obtain⟨R2,e2⟩:=R1.pop;refine⟨_,R2.push z (by omega),?_⟩;have hl:(s++[a]++[b]).length=s.length+1+1:=by simp
  have hl1:(s++[a]).length=s.length+1:=by simp
  rw[hl1]at e1;have hact:Mc.act (Sm.E L ins) (j:Int) (if (j,0).1=0 then (((j,0):Nat × Nat).2:Int) else 0) (Sm.S st p1 p2 (s.length+1+1) r o (k+1))=Mc.reckon (Sm.E L ins) (j:Int) (Sm.S st p1 p2 (s.length+1+1) r o (k+1)):=by
   unfold Mc.act;rw[if_neg (by omega),if_pos (by omega)]
  simp only[hl];rw[hact];have t1:(Sm.S st p1 p2 (s.length+1+1) r o (k+1)).popped=Sm.S st p1 p2 (s.length+1) r o (k+1):=by unfold Mc.S.popped;rw[show (Sm.S st p1 p2 (s.length+1+1) r o (k+1)).now=⟨0,p1,p2,Mc.zeros,st,s.length+1+1⟩ from rfl,Ga];rfl
  have t2:(Sm.S st p1 p2 (s.length+1) r o (k+1)).popped=Sm.S st p1 p2 s.length r o (k+1):=by unfold Mc.S.popped;rw[show (Sm.S st p1 p2 (s.length+1) r o (k+1)).now=⟨0,p1,p2,Mc.zeros,st,s.length+1⟩ from rfl,Ga];rfl
  have u1:(Sm.S st p1 p2 (s.length+1+1) r o (k+1)).top=b:=by unfold Mc.S.top;rw[show (Sm.S st p1 p2 (s.length+1+1) r o (k+1)).now=⟨0,p1,p2,Mc.zeros,st,s.length+1+1⟩ from rfl,Ga];exact e1
  have u2:(Sm.S st p1 p2 (s.length+1) r o (k+1)).top=a:=by unfold Mc.S.top;rw[show (Sm.S st p1 p2 (s.length+1) r o (k+1)).now=⟨0,p1,p2,Mc.zeros,st,s.length+1⟩ from rfl,Ga];exact e2
  unfold Mc.reckon;rw[t1,u1,u2,t2,hz];simp only;unfold Mc.S.push;rw[show (Sm.S st p1 p2 s.length r o (k+1)).now=⟨0,p1,p2,Mc.zeros,st,s.length⟩ from rfl,Eo _ _ _ _ _ _ _ (by omega),List.length_append];rfl
 | dup s r o a h =>
  obtain⟨R1,e1⟩:=hR.pop;have R2:=R1.push a (by omega);have R3:=R2.push a (by simp;omega);refine⟨_,R3,?_⟩;have hl1:(s++[a]).length=s.length+1:=by simp
  have hl2:(s++[a]++[a]).length=s.length+1+1:=by simp
  simp only[hl1,hl2];show (Sm.S st p1 p2 (s.length+1) r o (k+1)).withNow (Mc.push (Mc.pop ⟨0,p1,p2,Mc.zeros,st,s.length+1⟩).1 (Mc.push (Mc.pop ⟨0,p1,p2,Mc.zeros,st,s.length+1⟩).1 (Mc.pop ⟨0,p1,p2,Mc.zeros,st,s.length+1⟩).2))=_;rw[Ga];simp only;rw[e1,Eo a 0 p1 p2 Mc.zeros st s.length (by omega),Eo a 0 p1 p2 Mc.zeros (st.set s.length a) (s.length+1) (by omega)];rfl
 | swap s r o a b h =>
  obtain⟨R1,e1⟩:=hR.pop;obtain⟨R2,e2⟩:=R1.pop;have R3:=R2.push b (by omega);have R4:=R3.push a (by simp;omega);refine⟨_,R4,?_⟩;have hl:(s++[a]++[b]).length=s.length+1+1:=by simp
  have hl1:(s++[a]).length=s.length+1:=by simp
  have hl2:(s++[b]++[a]).length=s.length+1+1:=by simp
  have hl3:(s++[b]).length=s.length+1:=by simp
  rw[hl1]at e1;simp only[hl,hl2,hl3];show (Sm.S st p1 p2 (s.length+1+1) r o (k+1)).withNow (Mc.push (Mc.pop (Mc.pop ⟨0,p1,p2,Mc.zeros,st,s.length+1+1⟩).2).1 (Mc.push (Mc.pop ⟨0,p1,p2,Mc.zeros,st,s.length+1+1⟩).1 (Mc.pop (Mc.pop ⟨0,p1,p2,Mc.zeros,st,s.length+1+1⟩).2).2))=_;rw[Ga];simp only;rw[Ga];simp only;rw[e1,e2,Eo b 0 p1 p2 Mc.zeros st s.length (by omega),Eo a 0 p1 p2 Mc.zeros (st.set s.length b) (s.length+1) (by omega)];rfl
 | out s r o a h =>
  obtain⟨R1,e1⟩:=hR.pop;refine⟨_,R1,?_⟩;have hl1:(s++[a]).length=s.length+1:=by simp
  simp only[hl1];show (⟨r,[(2,[]),(3,[]),(4,[]),(5,[]),(6,[])],(Mc.pop ⟨0,p1,p2,Mc.zeros,st,s.length+1⟩).2,[],false,o++[(Mc.pop ⟨0,p1,p2,Mc.zeros,st,s.length+1⟩).1],0,0,k+1⟩:Mc.S)=_;rw[Ga,e1];rfl
theorem Acu {ins:List Int}{L C:List (Nat × Nat)}:∀ {B:List (Nat × Nat)}{s s':Sm.St},Sm.Run ins B s s'→∀ (A:List (Nat × Nat)) (st:List Int) (pos k fuel n:Nat),L=A++(B++C)→Sm.R st s.stk→k+B.length≤fuel →
  ∃ st' pos',Sm.R st' s'.stk∧Mc.loop (Sm.E L ins) fuel (n+B.length) (Sm.S st pos (Sm.enc A).length s.stk.length s.rd s.out k)=Mc.loop (Sm.E L ins) fuel n (Sm.S st' pos' (Sm.enc (A++B)).length s'.stk.length s'.rd s'.out (k+B.length)):=by
 intro B s s' h
 induction h using Sm.Run.el with
 | nil s =>
  intro A st pos k fuel n e hR _;refine⟨st,pos,hR,?_⟩;rw[List.append_nil];rfl
 | cons ex _ ih =>
  rename_i x l s s1 s2 _;intro A st pos k fuel n e hR hf;obtain⟨st1,R1,e1⟩:=Ac4 ex (B:=l++C) e st hR pos k;obtain⟨st2,p2,R2,e2⟩:=ih (A++[x]) st1 (Sm.enc A).length (k+1) fuel n (by rw[e];simp) R1 (by simp at hf;omega);refine⟨st2,p2,R2,?_⟩;rw[List.length_cons,show n+(l.length+1)=(n+l.length)+1 by omega,Uf rfl (show k<fuel by simp at hf;omega),e1,e2,List.append_assoc,show k+1+l.length=k+(l.length+1) by omega];rfl
theorem Abc {L:List (Nat × Nat)}{ins:List Int}{f:Int} (h0:0≤f) (h1:f≤3000) (hi:Mc.insOk ins=true):Mc.startErr [Sm.m L] 0 ins 0 1 f=0:=by
 unfold Mc.startErr;rw[show Mc.hasEntry [Sm.m L] 0=true from rfl,hi]
 simp
 omega
theorem Ad7 {ins:List Int}{L:List (Nat × Nat)}{rd:Nat}{out:List Int} (h:Sm.Run ins L ⟨[],0,[]⟩ ⟨[],rd,out⟩) (hl:(Sm.enc L).length≤119) (hi:Mc.insOk ins=true) :
  Mc.runOf (Agd (Sm.f (L++[(22,0)]))) 0 ins 0 1 ((L.length+1:Nat):Int)=⟨out,0,0,((L.length+1:Nat):Int),0⟩:=by
 have k:=Ye h (by simp) hl;have hle:L.length≤119:=by
  have:L.length≤(Sm.enc L).length:=by
   clear h hl k
   induction L with
   | nil=>simp
   | cons x l ih =>
    rw[Bk,List.length_append,List.length_cons];have:=Gm x;omega
  omega
 unfold Mc.runOf;rw[Qt k,Kc k.ok k.ne k.len,if_neg (by simp)];rw[if_neg (by rw[show (Sm.f (L++[(22,0)])).methods=[Sm.m (L++[(22,0)])] from rfl,Abc (by omega) (by omega) hi];simp)];show Mc.resOf (Mc.run (Sm.E (L++[(22,0)]) ins) _ 0)=_;unfold Mc.run;rw[Int.toNat_natCast];obtain⟨st,p,R,e⟩:=Acu (L:=L++[(22,0)]) (C:=[(22,0)]) h [] Mc.zeros 0 0 (L.length+1) 3 rfl ⟨rfl,rfl⟩ (by omega);rw[show L.length+1+2=3+L.length by omega];have e0:Mc.start 0=Sm.S Mc.zeros 0 (Sm.enc []).length ([]:List Int).length 0 [] 0:=rfl;rw[e0,e,Uf rfl (show 0+L.length<L.length+1 by omega)];simp only[List.nil_append];rw[Sj (B:=[]) (x:=(22,0)) ⟨.inr (.inr (.inl rfl)),by simp⟩ rfl];have ea:Mc.act (Sm.E (L++[(22,0)]) ins) (((22,0):Nat × Nat).1:Int) (if ((22,0):Nat × Nat).1=0 then (((22,0):Nat × Nat).2:Int) else 0) (Sm.S st (Sm.enc L).length (Sm.enc (L++[(22,0)])).length ([]:List Int).length rd out (0+L.length+1))=(Sm.S st (Sm.enc L).length (Sm.enc (L++[(22,0)])).length ([]:List Int).length rd out (0+L.length+1)).fin 0 0:=rfl
 rw[ea,Xh rfl,show 0+L.length+1=L.length+1 by omega];rfl
structure Sm.Fr (w0:World) (B b1:Nat) (ins:List Int) (ia:Option Addr) (cs:List Value) (w:World):Prop where
 blk:w.heap[B]?=some (.cells cs.toArray 57 (0,0))
 inp:∀ i,i<ins.length→∃ g o,ia=some ⟨g,o,none⟩∧g<b1∧g≠B∧w.cell? ⟨g,o+i,none⟩=some (.int .i64 (ins.getD i 0))
 lt:B<b1
 sz:b1≤w.heap.size
 old:w0.heap.size≤B
 bel:Below w0.heap.size w0 w
theorem Sm.Fr.below {w0:World}{B b1:Nat}{ins:List Int}{ia:Option Addr}{cs:List Value}{w w':World} (h:Sm.Fr w0 B b1 ins ia cs w) (hb:Below w.heap.size w w'):Sm.Fr w0 B b1 ins ia cs w':=by
 refine⟨stay hb h.blk,fun i hi=>?_,h.lt,Nat.le_trans h.sz hb.size,h.old,h.bel.trans (hb.mono h.bel.size)⟩;obtain⟨g,o,e,h1,h2,h3⟩:=h.inp i hi;exact⟨g,o,e,h1,h2,by rw[hb.cell (p:=⟨g,o+i,none⟩) (Nat.lt_of_lt_of_le h1 h.sz)];exact h3⟩
theorem Sm.Fr.put {w0:World}{B b1:Nat}{ins:List Int}{ia:Option Addr}{cs:List Value}{w:World} (h:Sm.Fr w0 B b1 ins ia cs w) (j:Nat) (u:Value):Sm.Fr w0 B b1 ins ia (cs.set j u) (w.setCell ⟨B,j,none⟩ u):=by
 refine⟨?_,fun i hi=>?_,h.lt,by simpa[World.setCell] using h.sz,h.old,h.bel.setCell h.old u⟩
 ·have:=Al (i:=j) h.blk u;rw[this]
  simp
 ·obtain⟨g,o,e,h1,h2,h3⟩:=h.inp i hi;refine⟨g,o,e,h1,h2,?_⟩;rw[← h3];exact World.cell?_of_block (a:=⟨g,o+i,none⟩) (Below.heap_setCell _ _ _ _ h2)
theorem Sm.Fr.grow {w0:World}{B b1:Nat}{ins:List Int}{ia:Option Addr}{cs:List Value}{w w':World}{row:Option Nat} (h:Sm.Fr w0 B b1 ins ia cs w) (hg:w.grownBy w' row) (hr:∀ k,row=some k→b1≤k):Sm.Fr w0 B b1 ins ia cs w':=by
 have hlt:=h.lt;have hsz:=h.sz;have key:∀ k,k<b1→w'.heap[k]?=w.heap[k]?:=fun k hk=>World.grownBy.block hg k (by omega) (fun e=>by have:=hr k e.symm;omega);refine⟨(key B hlt).trans h.blk,fun i hi=>?_,hlt,Nat.le_trans hsz (World.grownBy.size hg),h.old,h.bel.grown hg h.bel.size (fun k e=>by have:=hr k e;have:=h.old;omega)⟩;obtain⟨g,o,e,h1,h2,h3⟩:=h.inp i hi;refine⟨g,o,e,h1,h2,?_⟩;rw[← h3];exact World.cell?_of_block (a:=⟨g,o+i,none⟩) (key g h1)
theorem Sm.Fr.other {w0:World}{B b1:Nat}{ins:List Int}{ia:Option Addr}{cs:List Value}{w:World} (h:Sm.Fr w0 B b1 ins ia cs w) {g:Nat} (hg:b1≤g) (j:Nat) (u:Value):Sm.Fr w0 B b1 ins ia cs (w.setCell ⟨g,j,none⟩ u) :=
 h.grow (Ln w ⟨g,j,none⟩ u) (fun k e=>by simp at e;omega)
def Sm.cells (c:ByteArray) (va:Option Addr) (n vc:Nat) (ia:Option Addr) (m ic:Nat) (rd st:Int):List Value:=[.string c,.slice va n vc,.slice ia m ic,.int .i64 rd,.int .i64 st]
structure Sm.At (w0:World) (B b1:Nat) (ins:List Int) (ia:Option Addr) (ic:Nat) (c:ByteArray) (stk:List Int) (va:Option Addr) (vc:Nat) (rd:Nat) (st:Nat) (w:World):Prop where
 fr:Sm.Fr w0 B b1 ins ia (Sm.cells c va stk.length vc ia ins.length ic rd st) w
 row:IntsAt w b1 (.slice va stk.length vc) stk
theorem Sm.At.below {w0:World}{B b1:Nat}{ins stk:List Int}{ia va:Option Addr}{ic vc rd st:Nat}{c:ByteArray}{w w':World} (h:Sm.At w0 B b1 ins ia ic c stk va vc rd st w) (hb:Below w.heap.size w w'):Sm.At w0 B b1 ins ia ic c stk va vc rd st w' :=
 ⟨h.fr.below hb,Am (e:=none) h.row (Kp.of_below hb) (by simp)⟩
theorem Sm.At.drewN {w0:World}{B b1:Nat}{ins stk:List Int}{ia va:Option Addr}{ic vc rd st:Nat}{c:ByteArray}{w:World} (h:Sm.At w0 B b1 ins ia ic c stk va vc rd st w) (n:Nat):Sm.At w0 B b1 ins ia ic c stk va vc rd st (w.drewN n) :=
 h.below ⟨rfl,rfl,rfl,Nat.le_refl _,fun _ _=>rfl⟩
theorem Sm.At.put {w0:World}{B b1:Nat}{ins stk:List Int}{ia va:Option Addr}{ic vc rd st:Nat}{c:ByteArray}{w:World} (h:Sm.At w0 B b1 ins ia ic c stk va vc rd st w) (j:Nat) (u:Value):IntsAt (w.setCell ⟨B,j,none⟩ u) b1 (.slice va stk.length vc) stk :=
 Am (e:=none) h.row (Kp.set_lo h.fr.lt u) (by simp)
theorem Sm.At.code {w0:World}{B b1:Nat}{ins stk:List Int}{ia va:Option Addr}{ic vc rd st:Nat}{c:ByteArray}{w:World} (h:Sm.At w0 B b1 ins ia ic c stk va vc rd st w) (c':ByteArray):Sm.At w0 B b1 ins ia ic c' stk va vc rd st (w.setCell ⟨B,0,none⟩ (.string c')):=⟨h.fr.put 0 _,h.put 0 _⟩
theorem Sm.At.read {w0:World}{B b1:Nat}{ins stk:List Int}{ia va:Option Addr}{ic vc rd st:Nat}{c:ByteArray}{w:World} (h:Sm.At w0 B b1 ins ia ic c stk va vc rd st w) (v:Int) (r':Nat) (e:v=(r':Int)):Sm.At w0 B b1 ins ia ic c stk va vc r' st (w.setCell ⟨B,3,none⟩ (.int .i64 v)):=by subst e;exact⟨h.fr.put 3 _,h.put 3 _⟩
theorem Sm.At.steps {w0:World}{B b1:Nat}{ins stk:List Int}{ia va:Option Addr}{ic vc rd st:Nat}{c:ByteArray}{w:World} (h:Sm.At w0 B b1 ins ia ic c stk va vc rd st w) (v:Int) (s':Nat) (e:v=(s':Int)):Sm.At w0 B b1 ins ia ic c stk va vc rd s' (w.setCell ⟨B,4,none⟩ (.int .i64 v)):=by subst e;exact⟨h.fr.put 4 _,h.put 4 _⟩
theorem Sm.At.cell {w0:World}{B b1:Nat}{ins stk:List Int}{ia va:Option Addr}{ic vc rd st:Nat}{c:ByteArray}{w:World} (h:Sm.At w0 B b1 ins ia ic c stk va vc rd st w) :
  w.cell? ⟨B,0,none⟩=some (.string c)∧w.cell? ⟨B,1,none⟩=some (.slice va stk.length vc)∧w.cell? ⟨B,2,none⟩=some (.slice ia ins.length ic)∧w.cell? ⟨B,3,none⟩=some (.int .i64 (rd:Int))∧w.cell? ⟨B,4,none⟩=some (.int .i64 (st:Int)) :=
 ⟨(Ab h.fr.blk 0).trans rfl,(Ab h.fr.blk 1).trans rfl,(Ab h.fr.blk 2).trans rfl,(Ab h.fr.blk 3).trans rfl,(Ab h.fr.blk 4).trans rfl⟩
theorem Sm.At.free {w0:World}{B b1:Nat}{ins stk:List Int}{ia va:Option Addr}{ic vc rd st:Nat}{c:ByteArray}{w:World} (h:Sm.At w0 B b1 ins ia ic c stk va vc rd st w) (j:Nat):w.frozen? ⟨B,j,none⟩=false:=Ag h.fr.blk j
theorem Adu (v:Int):∀ t,v.tmod 4294967296=t→(t > 2147483647→t-4294967296=Mc.w32 v)∧(t < -2147483648→t+4294967296=Mc.w32 v)∧(t≤2147483647→-2147483648≤t→t=Mc.w32 v)∧-4294967296<t∧t<4294967296:=by
 intro t ht;have h1:=Int.mul_tdiv_add_tmod v 4294967296;have h2:-4294967296<v.tmod 4294967296∧v.tmod 4294967296<4294967296:=by
  refine⟨?_,Int.tmod_lt_of_pos v (by omega)⟩;have:=Int.lt_tmod_of_pos v (show (0:Int)<4294967296 by omega);omega
 rw[ht]at h1 h2;unfold Mc.w32;refine⟨fun h=>by omega,fun h=>by omega,fun h h'=>by omega,h2.1,h2.2⟩
theorem Eb (v:Int) (w:World):Calls Tryz.prog 26 #[.int .i64 v] w fun e w'=>e=.returned (.int .i64 (Mc.w32 v))∧w=w':=by
 obtain⟨t,ht⟩:∃ t,v.tmod 4294967296=t:=⟨_,rfl⟩;obtain⟨h1,h2,h3,h4,h5⟩:=Adu v t ht;by_cases c1:t > 2147483647
 ·rw[← h1 c1];clear h1 h2 h3;go_enter Tryz.func26,Tryz.ntmps26;go_wp2;go_ret;exact⟨rfl,rfl⟩
 ·by_cases c2:t < -2147483648
  ·rw[← h2 c2];clear h1 h2 h3;go_enter Tryz.func26,Tryz.ntmps26;go_wp2;go_ret;exact⟨rfl,rfl⟩
  ·rw[← h3 (by omega) (by omega)];clear h1 h2 h3;go_enter Tryz.func26,Tryz.ntmps26;go_wp2;go_ret;exact⟨rfl,rfl⟩
theorem Cp {w0:World}{B b1:Nat}{ins stk:List Int}{ia va:Option Addr}{ic vc rd st:Nat}{c:ByteArray} (x:ByteArray) (w:World) (h:Sm.At w0 B b1 ins ia ic c stk va vc rd st w) (hc:c.size≤1000) (hx:x.size≤1000) (hs:st≤100000) :
  Calls Tryz.prog 30 #[.pointer (some ⟨B,0,none⟩),.string x] w fun e w'=>e=.returned (.tuple #[])∧Sm.At w0 B b1 ins ia ic (c++x) stk va vc rd (st+1) w':=by
 obtain⟨c0,_,_,_,c4⟩:=h.cell;have f0:=h.free 0;have h1:=h.code (c++x);have H2:=Ac (h1.steps ((st:Int)+1) (st+1) (by omega));obtain⟨_,_,_,_,d4⟩:=h1.cell;have f4:=h1.free 4;clear h h1;go_enter Tryz.func30,Tryz.ntmps30;go_wp2
 go_end0
 exact⟨rfl,Aa H2⟩
def Sm.Next (w0:World) (B b1:Nat) (ins:List Int) (ia:Option Addr) (ic:Nat) (c:ByteArray) (stk:List Int) (rd st:Nat) (w':World):Prop :=
 (∃ va vc,Sm.At w0 B b1 ins ia ic c stk va vc rd st w') ∨
 ∃ (x:Nat × Nat) (b:ByteArray) (stk':List Int) (va:Option Addr) (vc rd':Nat),Kr.Is b ((Sm.enc1 x).map Afe)∧(∀ o,Sm.Ex ins x ⟨stk,rd,o⟩ ⟨stk',rd',o⟩)∧Sm.At w0 B b1 ins ia ic (c++b) stk' va vc rd' (st+1) w'
theorem Yl (v:Nat) (h:v≤255):Afe (v:Int)=v.toUInt8:=by
 unfold Afe;rw[show ((v:Int) % 256).toNat=v by omega]
theorem Sm.At.pushed {w0:World}{B b1:Nat}{ins stk:List Int}{ia va va':Option Addr}{ic vc vc' rd st:Nat}{c:ByteArray}{w w2:World}{x:Int} (h:Sm.At w0 B b1 ins ia ic c stk va vc rd st w)
  (hown:w2.ownsRow b1 3 1 (.slice va' (stk.length+1) vc') (stk.length+1) (stk.map (Value.int .i64)++[.int .i64 x])) (hg:(w.alloc (O4 x)).grownBy w2 (Value.slice va stk.length vc).ownBlock) :
  Sm.Fr w0 B b1 ins ia (Sm.cells c va stk.length vc ia ins.length ic rd st) w2∧Sm.At w0 B b1 ins ia ic c (stk++[x]) va' vc' rd st (w2.setCell ⟨B,1,none⟩ (.slice va' (stk.length+1) vc')):=by
 have h1:=h.below ((Below.refl w.heap.size w).alloc (Nat.le_refl _) (O4 x));have h2:=h1.fr.grow hg (fun k e=>(h1.row.lt k e).1);refine⟨h2,?_,?_⟩
 ·have:=h2.put 1 (.slice va' (stk.length+1) vc')
  simpa[Sm.cells] using this
 ·have:IntsAt w2 b1 (.slice va' (stk++[x]).length vc') (stk++[x]):=by simpa[IntsAt] using hown
  have k:=Am (e:=none) this (Kp.set_lo (i:=1) h.fr.lt (.slice va' (stk.length+1) vc')) (by simp);exact k
theorem Vj {w0:World}{B b1:Nat}{ins stk:List Int}{ia va:Option Addr}{ic vc rd st:Nat}{c:ByteArray} (k v:Nat) (w:World) (h:Sm.At w0 B b1 ins ia ic c stk va vc rd st w) (hc:c.size≤900) (hs:st≤1000) (hl:stk.length<8) (hk:k<2) (hv:v≤255) :
  Calls Tryz.prog 27 #[.pointer (some ⟨B,0,none⟩),.int .i64 (k:Int),.int .i64 (v:Int)] w fun e w'=>e=.returned (.tuple #[])∧Sm.Next w0 B b1 ins ia ic c stk rd st w':=by
 obtain⟨_,c1,_,_,_⟩:=h.cell;obtain⟨i0,hi,hz0,hz1,hz2⟩:=info_parts Tryz.infoInt;have hl':¬ (8:Int)≤(stk.length:Int):=by omega
 have hk':(k:Int)<2:=by omega
 have H:=Ac h;clear h;go_enter Tryz.func27,Tryz.ntmps27;go_wp2_with fail
 refine(Ae9 (v:Int) _ (by omega) (by omega)).mono ?_;rintro e w1 ⟨b,rfl,ib,zb,hb1⟩;have h1:=(Aa H).below hb1;have z0:(⟨#[0]⟩:ByteArray).size=1:=rfl;have hW:=Cp (⟨#[0]⟩++b) w1 h1 (by omega) (by rw[ByteArray.size_append];omega) (by omega);have HW:=Ac hW;clear H h1 hW hb1 c1;go_wp2_with fail
 refine(Aa HW).mono ?_;rintro e w2 ⟨rfl,h2⟩;obtain⟨_,c1,_,_,_⟩:=h2.cell;have hrow:=h2.row;have hsz:=h2.fr.sz;have H2:=Ac h2;clear h2 HW;have is0:Kr.Is (⟨#[0]⟩++b) ((Sm.enc1 (0,v)).map Afe):=by
  have e:(Sm.enc1 (0,v)).map Afe=[0]++[(v:Int).toNat.toUInt8]:=by
   show [Afe 0,Afe (v:Int)]=_;rw[Yl v hv];rfl
  rw[e];exact Ch (Zd #[0]) ib
 by_cases h7:127<v
 ·have h7':(127:Int)<(v:Int):=by omega
  have es:(v:Int)-256=Mc.signed (v:Int):=by unfold Mc.signed;rw[if_pos h7']
  have HE:=Ac (fun (_:Unit)=>es);clear es;go_wp2_with (at_builtin;refine wpList_append_own _ rfl _ _ 26 rfl b1 3 i0 _ 1 8 Tryz.underlying26 hi hz0 hz1 hz2 rfl (by decide) _ _ _ rfl (hrow.alloc _) ⟨w2.heap.size,0,none⟩ 1 1 [.int .i64 ((v:Int)-256)] rfl rfl ?c1 ?c2 ?c3 ?c4 ?c5 ?_)
  case c1=>exact Ar _ _ _ _ (by first | rfl | simp[World.setCell,World.drewN])
  case c2=>intro u hu;simp at hu;subst hu;rfl
  case c3=>unfold maxLen;omega
  case c4=>omega
  case c5=>simp;omega
  intro v' w9 hown2 hgrow _;obtain⟨va',vc',rfl⟩:=Ae hown2;obtain⟨hF,hA⟩:=(Aa H2).pushed hown2 hgrow;have d1:=(Ab hF.blk 1).trans (show _=some (.slice va stk.length vc) from rfl);have f1:=Ag hF.blk 1;have HA:=Ac hA;clear hgrow hown2 hF hA hrow H2 c1;go_wp2
  go_end0
  have ex:=fun o=>Sm.Ex.const (ins:=ins) stk rd o v hl hv;rw[← Aa HE ()]at ex;exact⟨rfl,.inr ⟨(0,v),_,_,_,_,_,is0,ex,Aa HA⟩⟩
 ·have h7':¬ (127:Int)<(v:Int):=by omega
  have es:(v:Int)=Mc.signed (v:Int):=by unfold Mc.signed;rw[if_neg h7']
  have HE:=Ac (fun (_:Unit)=>es);clear es;go_wp2_with (at_builtin;refine wpList_append_own _ rfl _ _ 26 rfl b1 3 i0 _ 1 8 Tryz.underlying26 hi hz0 hz1 hz2 rfl (by decide) _ _ _ rfl (hrow.alloc _) ⟨w2.heap.size,0,none⟩ 1 1 [.int .i64 (v:Int)] rfl rfl ?c1 ?c2 ?c3 ?c4 ?c5 ?_)
  case c1=>exact Ar _ _ _ _ (by first | rfl | simp[World.setCell,World.drewN])
  case c2=>intro u hu;simp at hu;subst hu;rfl
  case c3=>unfold maxLen;omega
  case c4=>omega
  case c5=>simp;omega
  intro v' w9 hown2 hgrow _;obtain⟨va',vc',rfl⟩:=Ae hown2;obtain⟨hF,hA⟩:=(Aa H2).pushed hown2 hgrow;have d1:=(Ab hF.blk 1).trans (show _=some (.slice va stk.length vc) from rfl);have f1:=Ag hF.blk 1;have HA:=Ac hA;clear hgrow hown2 hF hA hrow H2 c1;go_wp2
  go_end0
  have ex:=fun o=>Sm.Ex.const (ins:=ins) stk rd o v hl hv;rw[← Aa HE ()]at ex;exact⟨rfl,.inr ⟨(0,v),_,_,_,_,_,is0,ex,Aa HA⟩⟩
theorem Acf {w0:World}{B b1:Nat}{ins stk:List Int}{ia va:Option Addr}{ic vc rd st:Nat}{c:ByteArray} (k v:Nat) (w:World) (h:Sm.At w0 B b1 ins ia ic c stk va vc rd st w) (hc:c.size≤900) (hs:st≤1000) (hl:stk.length<8) (hk:¬ k<2) (hil:ins.length≤1000) (hrd:rd≤1000) :
  Calls Tryz.prog 27 #[.pointer (some ⟨B,0,none⟩),.int .i64 (k:Int),.int .i64 (v:Int)] w fun e w'=>e=.returned (.tuple #[])∧Sm.Next w0 B b1 ins ia ic c stk rd st w':=by
 obtain⟨_,c1,_,_,_⟩:=h.cell;obtain⟨i0,hi,hz0,hz1,hz2⟩:=info_parts Tryz.infoInt;have hl':¬ (8:Int)≤(stk.length:Int):=by omega
 have hk':¬ (k:Int)<2:=by omega
 have z0:(⟨#[24]⟩:ByteArray).size=1:=rfl;have HW:=Ac (Cp ⟨#[24]⟩ w h (by omega) (by omega) (by omega));have is0:Kr.Is ⟨#[24]⟩ ((Sm.enc1 (24,0)).map Afe):=rfl;clear h;by_cases hr:rd<ins.length
 ·have ex:=fun o=>Sm.Ex.inp (ins:=ins) stk rd o hl;rw[if_pos hr]at ex;have EX:=Ac ex;clear ex;go_enter Tryz.func27,Tryz.ntmps27;go_wp2_with fail
  refine(Aa HW).mono ?_;rintro e w2 ⟨rfl,h2⟩;clear c1;obtain⟨_,_,c2,c3,_⟩:=h2.cell;obtain⟨g,o,hg,hgb,_,hcell⟩:=h2.fr.inp rd hr;have hr':(rd:Int)<(ins.length:Int):=by omega
  have d0:decide ((0:Int)≤(rd:Int))=true:=by simp
  have d1:decide ((rd:Int)<(ins.length:Int))=true:=by simpa using hr
  have d2:decide (rd<ins.length)=true:=by simpa using hr
  generalize ins.getD rd 0=y at *;have h3:∀ n,Sm.At w0 B b1 ins ia ic (c++⟨#[24]⟩) stk va vc (rd+1) (st+1) ((w2.drewN n).setCell ⟨B,3,none⟩ (.int .i64 ((rd:Int)+1))):=fun n=>(h2.drewN n).read _ (rd+1) (by omega);have f3:∀ n,(w2.drewN n).frozen? ⟨B,3,none⟩=false:=fun n=>(h2.drewN n).free 3;have H3:=Ac h3;have F3:=Ac f3;have f3':=h2.free 3;have hsz:=h2.fr.sz;obtain⟨_,c1,_,_,_⟩:=h2.cell;subst hg;clear h2 HW h3 f3;go_wp2
  go_quiet (fail)
  go_wp2
  go_quiet (fail)
  go_wp2_with (at_builtin;refine wpList_append_own _ rfl _ _ 26 rfl b1 3 i0 _ 1 8 Tryz.underlying26 hi hz0 hz1 hz2 rfl (by decide) _ _ _ rfl ((Aa H3 _).row.alloc _) _ 1 1 [.int .i64 y] rfl rfl ?c1 ?c2 ?c3 ?c4 ?c5 ?_)
  case c1=>exact Ar _ _ _ _ (by first | rfl | simp[World.setCell,World.drewN])
  case c2=>intro u hu;simp at hu;subst hu;rfl
  case c3=>unfold maxLen;omega
  case c4=>omega
  case c5=>simp[World.setCell,World.drewN];omega
  intro v' w9 hown2 hgrow _;obtain⟨va',vc',rfl⟩:=Ae hown2;obtain⟨hF,hA⟩:=(Aa H3 _).pushed hown2 hgrow;have e1:=(Ab hF.blk 1).trans (show _=some (.slice va stk.length vc) from rfl);have f1:=Ag hF.blk 1;have HA:=Ac hA;clear hgrow hown2 hF hA;go_wp2
  go_end0
  exact⟨rfl,.inr ⟨(24,0),_,_,_,_,_,is0,Aa EX,Aa HA⟩⟩
 ·have ex:=fun o=>Sm.Ex.inp (ins:=ins) stk rd o hl;rw[if_neg hr,show ins.getD rd 0=0 by rw[List.getD_eq_getElem?_getD,List.getElem?_eq_none (by omega)];rfl]at ex;have EX:=Ac ex;clear ex;go_enter Tryz.func27,Tryz.ntmps27;go_wp2_with fail
  refine(Aa HW).mono ?_;rintro e w2 ⟨rfl,h2⟩;clear c1;obtain⟨_,c1,c2,c3,_⟩:=h2.cell;have hr':¬ (rd:Int)<(ins.length:Int):=by omega
  have d0:decide ((0:Int)≤(rd:Int))=true:=by simp
  have d1:decide ((rd:Int)<(ins.length:Int))=false:=by simpa using hr
  have d2:decide (rd<ins.length)=false:=by simpa using hr
  have H3:=Ac (fun n=>h2.drewN n);have hsz:=h2.fr.sz;clear h2 HW;go_wp2
  go_quiet (fail)
  go_wp2_with (at_builtin;refine wpList_append_own _ rfl _ _ 26 rfl b1 3 i0 _ 1 8 Tryz.underlying26 hi hz0 hz1 hz2 rfl (by decide) _ _ _ rfl ((Aa H3 _).row.alloc _) _ 1 1 [.int .i64 0] rfl rfl ?c1 ?c2 ?c3 ?c4 ?c5 ?_)
  case c1=>exact Ar _ _ _ _ (by first | rfl | simp[World.setCell,World.drewN])
  case c2=>intro u hu;simp at hu;subst hu;rfl
  case c3=>unfold maxLen;omega
  case c4=>omega
  case c5=>simp[World.setCell,World.drewN];omega
  intro v' w9 hown2 hgrow _;obtain⟨va',vc',rfl⟩:=Ae hown2;obtain⟨hF,hA⟩:=(Aa H3 _).pushed hown2 hgrow;have e1:=(Ab hF.blk 1).trans (show _=some (.slice va stk.length vc) from rfl);have f1:=Ag hF.blk 1;have HA:=Ac hA;clear hgrow hown2 hF hA;go_wp2
  go_end0
  exact⟨rfl,.inr ⟨(24,0),_,_,_,_,_,is0,Aa EX,Aa HA⟩⟩
theorem Wc {w0:World}{B b1:Nat}{ins stk:List Int}{ia va:Option Addr}{ic vc rd st:Nat}{c:ByteArray} (k v:Nat) (w:World) (h:Sm.At w0 B b1 ins ia ic c stk va vc rd st w) (hc:c.size≤900) (hs:st≤1000) (hv:v≤255) (hil:ins.length≤1000) (hrd:rd≤1000) :
  Calls Tryz.prog 27 #[.pointer (some ⟨B,0,none⟩),.int .i64 (k:Int),.int .i64 (v:Int)] w fun e w'=>e=.returned (.tuple #[])∧Sm.Next w0 B b1 ins ia ic c stk rd st w':=by
 by_cases hl:stk.length<8
 ·by_cases hk:k<2
  ·exact Vj k v w h hc hs hl hk hv
  ·exact Acf k v w h hc hs hl hk hil hrd
 ·obtain⟨_,c1,_,_,_⟩:=h.cell;have hl':(8:Int)≤(stk.length:Int):=by omega
  have H:=Ac h;clear h;go_enter Tryz.func27,Tryz.ntmps27;go_wp2;refine bodyPost_ret (results_none rfl _ _ _) rfl ?_;exact⟨rfl,.inl ⟨_,_,Aa H⟩⟩
end Go.Proofs.YtpcgnjolfahacaaGreat
