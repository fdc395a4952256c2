/- a part of the proofs -/
import Derived.Deep.Slices
import Derived.Deep.Strs
import Derived.WalkKit
import Derived.ProofKit
import Derived.OpenShut
import Derived.ShutString
import Derived.ChangeOld
import Derived.ChangeSlices
import Derived.Below
import Derived.Lib.SmallJoins
import Derived.Test.YtpcgnjolfahacaaGreatPk25
set_option maxRecDepth 100000
set_option maxHeartbeats 40000000
set_option linter.unusedVariables false
set_option linter.unusedSimpArgs false
namespace Go.Proofs.YtpcgnjolfahacaaGreat
open Go.RowKit
def Kr.nb (n:Int):ByteArray:=⟨#[n.toNat.toUInt8]⟩
theorem Ec (n:Int):(Kr.nb n).size=1:=rfl
def Kr.method (hd rs:ByteArray) (l s:Int) (c hs:ByteArray):ByteArray :=
 hd++rs++(Kr.nb l++Kr.nb s++Kr.nb (c.size:Int))++c++Kr.nb ((hs.size:Int) / 4)++hs++Kr.nb 0
def Kr.file (n:Int) (cl:ByteArray) (k:Int) (m:ByteArray):ByteArray:=⟨#[83,77]⟩++Kr.nb n++cl++Kr.nb k++m
theorem Rn (hd rs:ByteArray) (l s:Int) (c hs:ByteArray):(Kr.method hd rs l s c hs).size=hd.size+rs.size+c.size+hs.size+5:=by
 simp only[Kr.method,ByteArray.size_append,Ec];omega
theorem X7 (n:Int) (cl:ByteArray) (k:Int) (m:ByteArray):(Kr.file n cl k m).size=cl.size+m.size+4:=by
 have h:(⟨#[83,77]⟩:ByteArray).size=2:=rfl;simp only[Kr.file,ByteArray.size_append,Ec,h];omega
theorem Dn (n:Int) (w:World) (h0:0≤n) (h1:n≤255) :
  Calls Tryz.prog 34 #[.int .i64 n] w fun e w'=>e=.returned (.string (Kr.nb n))∧Below w.heap.size w w':=by
 have hk:(convert 120 9 (.slice (some ⟨w.heap.size,0,none⟩) 1 1)).run Tryz.prog (w.alloc (O14 n))=.ok (.string ⟨#[n.toNat.toUInt8]⟩) (w.alloc (O14 n)):=by
  refine run_convert_bytes_back (P:=Tryz.prog) _ _ _ 5 _ 1 [n.toNat.toUInt8] Tryz.underlying120 Tryz.underlying5 Tryz.underlying9 ?_;intro j hj;have hj0:j=0:=by simp at hj;omega
  subst hj0;have h2:=Ay w [.int .u8 n] 5 w.heap.size rfl 0 (.int .u8 n) rfl;rw[h2]
  simp
  omega
 go_enter Tryz.func34,Tryz.ntmps34;go_wp2;go_ret;exact⟨rfl,QN _⟩
theorem Uu (hd rs:ByteArray) (l s:Int) (c hs:ByteArray) (w:World) (h1:hd.size≤1000) (h2:rs.size≤1000) (h3:0≤l) (h4:l≤255) (h5:0≤s) (h6:s≤255) (h7:c.size≤255) (h8:hs.size≤255) :
  Calls Tryz.prog 36 #[.string hd,.string rs,.int .i64 l,.int .i64 s,.string c,.string hs] w fun e w'=>e=.returned (.string (Kr.method hd rs l s c hs))∧Below w.heap.size w w':=by
 have q1:(0:Int)≤(c.size:Int)∧(c.size:Int)≤255:=⟨by omega,by omega⟩;have q2:(0:Int)≤(hs.size:Int) / 4∧(hs.size:Int) / 4≤255:=⟨by omega,by omega⟩;have i1:=Ec l;have i2:=Ec s;have i3:=Ec (c.size:Int);have i4:=Ec ((hs.size:Int) / 4);have i5:=Ec 0;have N1:=Ac (fun w=>Dn l w h3 h4);have N2:=Ac (fun w=>Dn s w h5 h6);have N3:=Ac (fun w=>Dn (c.size:Int) w q1.1 q1.2);have N4:=Ac (fun w=>Dn ((hs.size:Int) / 4) w q2.1 q2.2);have N5:=Ac (fun w=>Dn 0 w (by omega) (by omega));unfold Kr.method;have hd4:(hs.size:Int).tdiv 4=(hs.size:Int) / 4:=Int.tdiv_eq_ediv_of_nonneg (by omega);generalize Kr.nb l=b1 at *;generalize Kr.nb s=b2 at *;generalize Kr.nb (c.size:Int)=b3 at *;generalize Kr.nb ((hs.size:Int) / 4)=b4 at *;generalize Kr.nb 0=b5 at *;go_enter Tryz.func36,Tryz.ntmps36;go_wp2_with fail
 refine(Aa N1 _).mono ?_;rintro e w1 ⟨rfl,hb1⟩;go_wp2_with fail
 refine(Aa N2 _).mono ?_;rintro e w2 ⟨rfl,hb2⟩;have hB2:=QB hb1 hb2;go_wp2_with fail
 refine(Aa N3 _).mono ?_;rintro e w3 ⟨rfl,hb3⟩;have hB3:=QB hB2 hb3;clear hb1 hb2 hb3 hB2;go_wp2_with fail
 refine(Aa N4 _).mono ?_;rintro e w4 ⟨rfl,hb4⟩;have hB4:=QB hB3 hb4;go_wp2_with fail
 refine(Aa N5 _).mono ?_;rintro e w5 ⟨rfl,hb5⟩;have hB5:=QB hB4 hb5;go_wp2;go_ret;exact⟨rfl,hB5⟩
theorem Aa6 (n k:Int) (cl m:ByteArray) (w:World) (h0:0≤n) (h1:n≤255) (h2:0≤k) (h3:k≤255) (hc:cl.size≤10000) (hm:m.size≤10000) :
  Calls Tryz.prog 37 #[.int .i64 n,.string cl,.int .i64 k,.string m] w fun e w'=>e=.returned (.string (Kr.file n cl k m))∧Below w.heap.size w w':=by
 have i1:=Ec n;have i2:=Ec k;have N1:=Ac (fun w=>Dn n w h0 h1);have N2:=Ac (fun w=>Dn k w h2 h3);unfold Kr.file;generalize Kr.nb n=b1 at *;generalize Kr.nb k=b2 at *;go_enter Tryz.func37,Tryz.ntmps37;go_wp2_with fail
 refine(Aa N1 _).mono ?_;rintro e w1 ⟨rfl,hb1⟩;go_wp2_with fail
 refine(Aa N2 _).mono ?_;rintro e w2 ⟨rfl,hb2⟩;go_wp2;go_ret;exact⟨rfl,QB hb1 hb2⟩
theorem X8 (s p:ByteArray) (w:World) (hs:s.size≤maxLen) (hp:p.size≤maxLen) (hP:Ai2 s.data.toList=(p.data.toList,0,0)) (hC:Aig p.data.toList=(0,0,0)) :
  Calls Tryz.prog 32 #[.string s] w fun e w'=>e=.returned (.tuple #[.string p,.bool true])∧Below w.heap.size w w':=by
 have h1:=fun w=>Kj s w hs;have h2:=fun w=>Jo p w hp;rw[hP,Ag5]at h1;rw[hC]at h2;have H1:=Ac h1;have H2:=Ac h2;clear h1 h2 hP hC;go_enter Tryz.func32,Tryz.ntmps32;go_wp2_with fail
 refine(Aa H1 _).mono ?_;rintro e w1 ⟨rfl,hb1⟩;go_wp2_with fail
 refine(Aa H2 _).mono ?_;rintro e w2 ⟨rfl,hb2⟩;go_wp2;go_ret2;exact⟨rfl,QB hb1 hb2⟩
def Kr.Is (b:ByteArray) (l:List UInt8):Prop:=b.data.toList=l
theorem Ag (a:Array UInt8):Kr.Is ⟨a⟩ a.toList:=rfl
theorem Bj {b:ByteArray}{l:List UInt8} (h:Kr.Is b l):b.size=l.length:=by rw[← h,Array.length_toList];rfl
theorem Ad {a b:ByteArray}{l m:List UInt8} (h:Kr.Is a l) (k:Kr.Is b m):Kr.Is (a++b) (l++m):=by
 unfold Kr.Is at *;rw[← h,← k,ByteArray.data_append,Array.toList_append]
theorem Hy (n:Int):Kr.Is (Kr.nb n) [n.toNat.toUInt8]:=rfl
theorem Ad2 {b c:ByteArray}{l:List UInt8} (h:Kr.Is b l) (k:Kr.Is c l):b=c:=by
 unfold Kr.Is at *;have:b.data=c.data:=Array.toList_inj.1 (h.trans k.symm);cases b;cases c;simp_all
def Kl.method (hd rs:List UInt8) (l s:Int) (c hs:List UInt8):List UInt8 :=
 hd++rs++([l.toNat.toUInt8]++[s.toNat.toUInt8]++[c.length.toUInt8])++c++[(hs.length / 4).toUInt8]++hs++[0]
def Kl.file (n:Int) (cl:List UInt8) (k:Int) (m:List UInt8):List UInt8:=[83,77]++[n.toNat.toUInt8]++cl++[k.toNat.toUInt8]++m
theorem Abg {hd rs c hs:ByteArray}{H R C K:List UInt8} (l s:Int) (h1:Kr.Is hd H) (h2:Kr.Is rs R) (h3:Kr.Is c C) (h4:Kr.Is hs K):Kr.Is (Kr.method hd rs l s c hs) (Kl.method H R l s C K):=by
 have e1:Kr.Is (Kr.nb (c.size:Int)) [C.length.toUInt8]:=by rw[Bj h3];exact Hy _
 have e2:Kr.Is (Kr.nb ((hs.size:Int) / 4)) [(K.length / 4).toUInt8]:=by
  rw[Bj h4];have:((K.length:Int) / 4).toNat=K.length / 4:=by omega
  have e:=Hy ((K.length:Int) / 4);rw[this]at e;exact e
 exact Ad (Ad (Ad (Ad (Ad (Ad h1 h2) (Ad (Ad (Hy l) (Hy s)) e1)) h3) e2) h4) (Hy 0)
theorem Afn {cl m:ByteArray}{C M:List UInt8} (n k:Int) (h1:Kr.Is cl C) (h2:Kr.Is m M):Kr.Is (Kr.file n cl k m) (Kl.file n C k M) :=
 Ad (Ad (Ad (Ad (Ag #[83,77]) (Hy n)) h1) (Hy k)) h2
theorem An (n:Int) (w:World) (h0:0≤n) (h1:n≤255) :
  Calls Tryz.prog 34 #[.int .i64 n] w fun e w'=>∃ b,e=.returned (.string b)∧Kr.Is b [n.toNat.toUInt8]∧b.size=1∧Below w.heap.size w w' :=
 (Dn n w h0 h1).mono fun _ _ h=>⟨_,h.1,Hy n,rfl,h.2⟩
theorem Bb (hd rs:ByteArray) (l s:Int) (c hs:ByteArray) (H R C K:List UInt8) (w:World) (i1:Kr.Is hd H) (i2:Kr.Is rs R) (i3:Kr.Is c C) (i4:Kr.Is hs K) (h1:H.length≤100) (h2:R.length≤100) (h3:0≤l) (h4:l≤255) (h5:0≤s) (h6:s≤255) (h7:C.length≤255) (h8:K.length≤255) :
  Calls Tryz.prog 36 #[.string hd,.string rs,.int .i64 l,.int .i64 s,.string c,.string hs] w fun e w'=>∃ b,e=.returned (.string b)∧Kr.Is b (Kl.method H R l s C K)∧b.size≤1000∧Below w.heap.size w w':=by
 have z1:=Bj i1;have z2:=Bj i2;have z3:=Bj i3;have z4:=Bj i4;refine(Uu hd rs l s c hs w (by omega) (by omega) h3 h4 h5 h6 (by omega) (by omega)).mono fun _ _ h=>⟨_,h.1,Abg l s i1 i2 i3 i4,?_,h.2⟩;rw[Rn];omega
theorem Fx (n k:Int) (cl m:ByteArray) (C M:List UInt8) (w:World) (i1:Kr.Is cl C) (i2:Kr.Is m M) (h0:0≤n) (h1:n≤255) (h2:0≤k) (h3:k≤255) (hc:cl.size≤10000) (hm:m.size≤10000) :
  Calls Tryz.prog 37 #[.int .i64 n,.string cl,.int .i64 k,.string m] w fun e w'=>∃ b,e=.returned (.string b)∧Kr.Is b (Kl.file n C k M)∧b.size≤30000∧Below w.heap.size w w':=by
 refine(Aa6 n k cl m w h0 h1 h2 h3 hc hm).mono fun _ _ h=>⟨_,h.1,Afn n k i1 i2,?_,h.2⟩;rw[X7];omega
theorem Jn (s:ByteArray) (S P:List UInt8) (w:World) (hs:s.size≤maxLen) (hp:P.length≤maxLen) (i:Kr.Is s S) (hP:Ai2 S=(P,0,0)) (hC:Aig P=(0,0,0)) :
  Calls Tryz.prog 32 #[.string s] w fun e w'=>∃ b,e=.returned (.tuple #[.string b,.bool true])∧Kr.Is b P∧b.size≤maxLen∧Below w.heap.size w w':=by
 have hz:(⟨P.toArray⟩:ByteArray).size≤maxLen:=by simpa[ByteArray.size] using hp
 refine(X8 s ⟨P.toArray⟩ w hs hz (by rw[i];exact hP) hC).mono fun _ _ h=>⟨_,h.1,rfl,hz,h.2⟩
theorem Fe (s:ByteArray) (S:List UInt8) (ins out:List Int) (h d f st va sp:Int) (ia oa:Option Addr) (ic oc:Nat) (w:World) (hs:s.size≤maxLen) (i:Kr.Is s S) (hl:ins.length≤maxLen) (hi:IntR w ia ins) (ho:IntR w oa out) (hol:out.length≤100000)
  (hQ:Mc.runOf S 0 ins h d f=⟨out,st,va,sp,0⟩) :
  Calls Tryz.prog 33 #[.string s,.slice ia ins.length ic,.int .i64 h,.int .i64 d,.int .i64 f,.slice oa out.length oc,.int .i64 st,.int .i64 va,.int .i64 sp] w fun e w'=>e=.returned (.bool true)∧Below w.heap.size w w' :=
 Abj s ins out h d f st va sp ia oa ic oc w hs hl hi ho hol (by rw[i];exact hQ)
theorem Aj {n:Nat}{p:Nat→Bool} (h:(List.range n).all p=true) {j:Nat} (hj:j<n):p j=true:=List.all_eq_true.1 h j (List.mem_range.2 hj)
def Rm.run (s:List UInt8) (h d f:Int):Mc.Res :=
 if Mc.startErr (Rd.read s).1.methods 0 [] h d f≠0 then ⟨[],0,0,0,Mc.startErr (Rd.read s).1.methods 0 [] h d f⟩
 else Mc.resOf (Mc.run (Mc.env (Rd.read s).1.classes (Rd.read s).1.methods [] h d) f.toNat 0)
theorem Tc {s:List UInt8} (hs:Aig s=(0,0,0)) (h d f:Int):Mc.runOf s 0 [] h d f=Rm.run s h d f:=by
 unfold Mc.runOf Rm.run;rw[if_neg (by rw[hs];simp)]
theorem Ch {E:Mc.E}{fuel k:Nat}{S:Mc.S} (h1:S.ended=false) (h2:S.steps<fuel):Mc.loop E fuel (k+1) S=Mc.loop E fuel k (Mc.step E S):=by
 rw[Mc.loop,if_neg (by simp[h1]),if_neg (by omega)]
theorem Aag {E:Mc.E}{fuel k:Nat}{S:Mc.S} (h:S.ended=true):Mc.loop E fuel k S=S:=by
 cases k with
 | zero=>rfl
 | succ k=>rw[Mc.loop,if_pos h]
theorem Acz {E:Mc.E}{fuel k:Nat}{S:Mc.S} (h1:S.ended=false) (h2:fuel≤S.steps):Mc.loop E fuel (k+1) S=S.fin 1 0:=by
 rw[Mc.loop,if_neg (by simp[h1]),if_pos h2]
theorem Jg {s P:List UInt8} (hp:Ai2 s=(P,0,0)):Aig P=(0,0,0):=by
 unfold Ai2 at hp;by_cases h0:(Rf.formed s).1≠0
 ·rw[if_pos h0]at hp;simp only[Prod.mk.injEq]at hp;exact absurd hp.2.1 h0
 rw[if_neg h0]at hp;have h0':(Rf.formed s).1=0:=by simpa using h0
 cases hr:Ahy (Ahu (Rd.read s).1.classes (Rd.read s).1.methods) (Rd.read s).1.methods with
 | none=>rw[hr]at hp;simp at hp
 | some r =>
  rw[hr]at hp;simp only[Prod.mk.injEq,and_true]at hp;have al:=Gz h0' hr;have hz:=Ob h0' hr;rw[hp]at al hz;have hz':=(Rx al.p0).1 hz;have key:∀ (CR:Rd.Mth→Int × Int) (l:List Rd.Mth) (k:Nat),(∀ m∈l,(CR m).1=0)→Aja CR k l=(0,0,0):=by
   intro CR l
   induction l with
   | nil=>intro k _;rfl
   | cons m l ih =>
    intro k h;rw[Aja,if_neg (fun g=>g (h m (by simp)))];exact ih _ fun x hx=>h x (by simp[hx])
  unfold Aig Alc;rw[if_neg (fun g=>g al.p0)];exact key _ _ _ hz'
def Kr.quick (s:List UInt8):Int × Int × Int:=Aju (Aib s) (Aie (Ajk (Rd.read s).1.classes (Rd.read s).1.methods) 0 (Rd.read s).1.methods)
theorem Aa7 (s:List UInt8):Aig s=Kr.quick s:=(Iz s).symm
theorem Gm (c n:Int) (w:World) (hc0:-9223372036854775808≤c) (hc1:c≤9223372036854775807) (hn:0<n) (hn1:n≤1000000) :
  Calls Tryz.prog 16 #[.int .i64 c,.int .i64 n] w fun e w'=>e=.returned (.int .i64 (Kr.pk c n))∧w=w' :=
 (Ze c n w hc0 hc1 hn hn1).mono fun _ _ h=>⟨h.1,h.2.symm⟩
end Go.Proofs.YtpcgnjolfahacaaGreat
