/- a part of the proof -/
import Derived.Deep.Slices
import Derived.Deep.Strs
import Derived.WalkKit
import Derived.ProofKit
import Derived.OpenShut
import Derived.ShutString
import Derived.ChangeOld
import Derived.Below
import Derived.Lib.SmallJoins
import Derived.Laws.AppendOwnNone
import Derived.Test.YtcefiamkoincoaaGreatPk05
set_option maxRecDepth 100000
set_option maxHeartbeats 40000000
set_option linter.unusedVariables false
set_option linter.unusedSimpArgs false
namespace Go.Proofs.YtcefiamkoincoaaGreat
open Go.RowKit
def Rf.classed (s:List UInt8):Int × Int :=
 if 15000<s.length then (1,0)
 else if (Rf.fil s).2.2≠(s.length:Int) then (2,0)
 else if 0≤Tr.badOf (Tr.inCl (Tr.tree (Rf.fil s).1) 0 (Rf.fil s).1) then (3,Tr.badOf (Tr.inCl (Tr.tree (Rf.fil s).1) 0 (Rf.fil s).1))
 else (0,0)
theorem Cu (l:List (Rd.Cls × Value)) (cs:List Rd.Cls) (h:l.map Prod.fst=Rf.given++cs):Al l=Tr.tree cs∧(l.map Prod.fst).drop 7=cs∧l.length=7+cs.length:=by
 refine⟨?_,?_,?_⟩
 ·unfold Al Tr.tree;rw[h,List.map_append];rfl
 ·rw[h];rfl
 ·have:=congrArg List.length h;simp[Rf.given]at this;omega
theorem Sn (s:List UInt8) (i:Int):(Rf.cls s i).1.fields.length≤1000:=by
 unfold Rf.cls
 split
 ·simp
 ·simp only;rw[Bv];have:=Rf.cnt_bd s (i+1) 0 4 (by omega);omega
theorem N4 (s:List UInt8):(Rf.fil s).1.length≤6∧∀ c∈(Rf.fil s).1,c.fields.length≤1000:=by
 have rl:∀ k:Nat,(Rf.rep (Rf.cls s) k 3).1.length≤k∧∀ c∈(Rf.rep (Rf.cls s) k 3).1,c.fields.length≤1000:=by
  intro k
  induction k with
  | zero=>simp[Rf.rep]
  | succ j ih =>
   unfold Rf.rep
   split
   ·simp
   ·split
    ·simp
    ·refine⟨by simp;exact ih.1,?_⟩;intro c hc;simp only[List.mem_append,List.mem_singleton]at hc;rcases hc with hc | hc
     ·exact ih.2 c hc
     ·rw[hc];exact Sn s _
 unfold Rf.fil
 split
 ·simp
 ·split
  ·simp
  ·split
   ·simp
   ·simp only;have hb:=Rf.cnt_bd s 2 0 6 (by omega);have:=rl (Rf.cnt s 2 0 6).toNat
    split
    ·simp
    ·split
     ·simp
     ·split
      ·simp
      ·exact⟨by simp only;omega,this.2⟩
def Ec (s:List UInt8) (w:World) (e:Ending) (w':World):Prop :=
 ∃ a1 n1 c1 a2 n2 c2,e=.returned (.tuple #[.agg #[.slice a1 n1 c1,.slice a2 n2 c2],.int .i64 (Rf.classed s).1,.int .i64 (Rf.classed s).2]) ∧
  ((Rf.classed s).1=0→∃ l1 l2,l1.map Prod.fst=Rf.given++(Rf.fil s).1∧RClssIn w' w.heap.size (.slice a1 n1 c1) l1∧l2.map Prod.fst=(Rf.fil s).2.1∧RMthsIn w' w.heap.size (.slice a2 n2 c2) l2)∧Below w.heap.size w w'
theorem N6 (s:ByteArray) (w:World) (_hs:s.size≤maxLen) :
  Calls Tryz.prog 29 #[.string s] w fun e w'=>Ec s.data.toList w e w':=by
 have hlen:s.data.toList.length=s.size:=by simp
 by_cases h1:15000<s.size
 ·have hcl:Rf.classed s.data.toList=(1,0):=by unfold Rf.classed;rw[if_pos (by omega)]
  unfold Ec;rw[hcl];have h1':(15000:Int)<(s.size:Int):=by omega
  go_enter Tryz.func29,Tryz.ntmps29;go_wp2;refine bodyPost_ret (v:=.tuple #[.agg #[.slice none 0 0,.slice none 0 0],.int .i64 1,.int .i64 0]) (by simp[results,Tryz.results29,go_sem]) rfl ?_;exact⟨none,0,0,none,0,0,rfl,fun h=>absurd h (by decide),QN _⟩
 ·have h1':¬ (15000:Int)<(s.size:Int):=by omega
  have hsz:s.size≤15000:=by omega
  have HR:=Ac (fun w=>Tm s w hsz);have HFB:=Ac (N4 s.data.toList);by_cases h2:(Rf.fil s.data.toList).2.2=(s.data.toList.length:Int)
  ·have h2':((Rf.fil s.data.toList).2.2==(s.data.toList.length:Int))=true:=by rw[beq_iff_eq];exact h2
   have H2:=Ac h2';have H2b:=Ac h2;generalize hbd:Tr.badOf (Tr.inCl (Tr.tree (Rf.fil s.data.toList).1) 0 (Rf.fil s.data.toList).1)=bd;have HBD:=Ac hbd;by_cases h3:0≤bd
   ·have hcl:Rf.classed s.data.toList=(3,bd):=by unfold Rf.classed;rw[if_neg (by omega),if_neg (fun h=>h h2),hbd,if_pos h3]
    unfold Ec;rw[hcl];clear h2' h2 hlen hbd hcl;go_enter Tryz.func29,Tryz.ntmps29;go_wp2_with fail
    refine(Aa HR _).mono ?_;unfold Cw;rw[Aa H2];rintro e w1 ⟨a1,n1,c1,a2,n2,c2,rfl,hdat,hb1⟩;obtain⟨l1,l2,hm1,hc1,hm2,hc2⟩:=hdat (Aa H2b);obtain⟨q1,q2,q3⟩:=Cu l1 _ hm1;obtain⟨xa,xc,hsh⟩:=Af hc1.1;simp only[Value.slice.injEq]at hsh;obtain⟨rfl,hn1,rfl⟩:=hsh;subst hn1;have C1:=stay hb1 (Ad w _);have hB1:=((Below.refl w.heap.size w).alloc (Nat.le_refl _) _).trans (hb1.mono (by simp));have lt1:=lt_of_block C1;have s1:=hB1.size;have hl13:l1.length≤13:=by rw[q3];have:=(Aa HFB).1;omega
    have hl7:7≤l1.length:=by rw[q3];omega
    have hfl:∀ p∈l1,p.1.fields.length≤1000:=by
     intro p hp;have hmem:p.1∈l1.map Prod.fst:=List.mem_map_of_mem hp;rw[hm1,List.mem_append]at hmem;rcases hmem with hmem | hmem
     ·simp[Rf.given]at hmem;rcases hmem with h | h | h<;>simp[h]
     ·exact(Aa HFB).2 _ hmem
    have HFL:=Ac hfl;have HM1:=Ac hm1;have HM2:=Ac hm2;have HQ1:=Ac q1;have HQ2:=Ac q2;clear hfl hm1 hm2 q1 q2 q3 hdat;go_wp2_with fail
    refine(Ng a1 a2 c1 n2 c2 _ l1 _ hl13 hl7 (Aa HFL) (hc1.kp (Kp.alloc (e:=none) _ _) (by decide) (by decide))).mono ?_;rw[Aa HQ1,Aa HQ2,Aa HBD];rintro e w2 ⟨rfl,hb2⟩;have D1:=stay hb2 (Aj C1 _);have D2:=stay hb2 (Ad w1 _);have hB2:=(hB1.alloc s1 _).trans (hb2.mono (by simp;omega));have s2:=hB2.size;obtain⟨d0,d1⟩:=cl2 D2;obtain⟨z0,z1⟩:=cl2 D1;obtain⟨g0,g1⟩:=fr2 D1;simp at d0 d1 z0 z1;go_wp2_with fail
    refine bodyPost_ret (v:=.tuple #[.agg #[.slice none 0 0,.slice none 0 0],.int .i64 3,.int .i64 bd]) (by simp[results,Tryz.results29,go_sem,z0,z1]) rfl ?_;exact⟨none,0,0,none,0,0,rfl,fun h=>absurd h (by decide),by repeat (first | refine Below.setCell ?_ (by simp) _ | exact hB2)⟩
   ·have hcl:Rf.classed s.data.toList=(0,0):=by unfold Rf.classed;rw[if_neg (by omega),if_neg (fun h=>h h2),hbd,if_neg h3]
    unfold Ec;rw[hcl];clear h2' h2 hlen hbd hcl;go_enter Tryz.func29,Tryz.ntmps29;go_wp2_with fail
    refine(Aa HR _).mono ?_;unfold Cw;rw[Aa H2];rintro e w1 ⟨a1,n1,c1,a2,n2,c2,rfl,hdat,hb1⟩;obtain⟨l1,l2,hm1,hc1,hm2,hc2⟩:=hdat (Aa H2b);obtain⟨q1,q2,q3⟩:=Cu l1 _ hm1;obtain⟨xa,xc,hsh⟩:=Af hc1.1;simp only[Value.slice.injEq]at hsh;obtain⟨rfl,hn1,rfl⟩:=hsh;subst hn1;have C1:=stay hb1 (Ad w _);have hB1:=((Below.refl w.heap.size w).alloc (Nat.le_refl _) _).trans (hb1.mono (by simp));have lt1:=lt_of_block C1;have s1:=hB1.size;have hl13:l1.length≤13:=by rw[q3];have:=(Aa HFB).1;omega
    have hl7:7≤l1.length:=by rw[q3];omega
    have hfl:∀ p∈l1,p.1.fields.length≤1000:=by
     intro p hp;have hmem:p.1∈l1.map Prod.fst:=List.mem_map_of_mem hp;rw[hm1,List.mem_append]at hmem;rcases hmem with hmem | hmem
     ·simp[Rf.given]at hmem;rcases hmem with h | h | h<;>simp[h]
     ·exact(Aa HFB).2 _ hmem
    have HFL:=Ac hfl;have HM1:=Ac hm1;have HM2:=Ac hm2;have HQ1:=Ac q1;have HQ2:=Ac q2;clear hfl hm1 hm2 q1 q2 q3 hdat;go_wp2_with fail
    refine(Ng a1 a2 c1 n2 c2 _ l1 _ hl13 hl7 (Aa HFL) (hc1.kp (Kp.alloc (e:=none) _ _) (by decide) (by decide))).mono ?_;rw[Aa HQ1,Aa HQ2,Aa HBD];rintro e w2 ⟨rfl,hb2⟩;have D1:=stay hb2 (Aj C1 _);have D2:=stay hb2 (Ad w1 _);have hB2:=(hB1.alloc s1 _).trans (hb2.mono (by simp;omega));have s2:=hB2.size;obtain⟨d0,d1⟩:=cl2 D2;obtain⟨z0,z1⟩:=cl2 D1;obtain⟨g0,g1⟩:=fr2 D1;simp at d0 d1 z0 z1;go_wp2_with fail
    refine bodyPost_ret (v:=.tuple #[.agg #[.slice a1 l1.length c1,.slice a2 n2 c2],.int .i64 0,.int .i64 0]) (by simp[results,Tryz.results29,go_sem,z0,z1]) rfl ?_;have k0:=(Kp.alloc (e:=some 44) (b:=w.heap.size) w1 (O11 a1 l1.length c1 a2 n2 c2)).trans (Kp.of_below hb2);have k1:=(k0.trans (Kp.set (i:=0) D1 (.slice a1 l1.length c1))).trans (Kp.set (i:=1) (Ai (i:=0) D1 (.slice a1 l1.length c1)) (.slice a2 n2 c2));exact⟨a1,l1.length,c1,a2,n2,c2,rfl,fun _=>⟨l1,l2,Aa HM1,(hc1.mono (by simp)).kp k1 (by decide) (by decide),Aa HM2,(hc2.mono (by simp)).kp k1 (by decide) (by decide) (by decide) (by decide)⟩,by repeat (first | refine Below.setCell ?_ (by simp) _ | exact hB2)⟩
  ·have hcl:Rf.classed s.data.toList=(2,0):=by unfold Rf.classed;rw[if_neg (by omega),if_pos h2]
   have h2':((Rf.fil s.data.toList).2.2==(s.data.toList.length:Int))=false:=by rw[beq_eq_false_iff_ne];exact h2
   have H2:=Ac h2';unfold Ec;rw[hcl];clear h2' h2 hlen hcl;go_enter Tryz.func29,Tryz.ntmps29;go_wp2_with fail
   refine(Aa HR _).mono ?_;unfold Cw;rw[Aa H2];rintro e w1 ⟨a1,n1,c1,a2,n2,c2,rfl,_,hb1⟩;have C1:=stay hb1 (Ad w _);have hB1:=((Below.refl w.heap.size w).alloc (Nat.le_refl _) _).trans (hb1.mono (by simp));have lt1:=lt_of_block C1;obtain⟨z0,z1⟩:=cl2 C1;obtain⟨g0,g1⟩:=fr2 C1;simp at z0 z1;have s1:=hB1.size;go_wp2_with fail
   refine bodyPost_ret (v:=.tuple #[.agg #[.slice none 0 0,.slice none 0 0],.int .i64 2,.int .i64 0]) (by simp[results,Tryz.results29,go_sem,z0,z1,lt1]) rfl ?_;exact⟨none,0,0,none,0,0,rfl,fun h=>absurd h (by decide),by repeat (first | refine Below.alloc ?_ (by simp;omega) _ | refine Below.setCell ?_ (by simp) _ | exact hB1)⟩
theorem J6 (s:List UInt8):(Rd.read s).2=(if 15000<s.length then 1 else if (Rf.fil s).2.2≠(s.length:Int) then 2 else 0) ∧
  ((Rd.read s).2=0→(Rd.read s).1.classes=(Rf.fil s).1∧(Rd.read s).1.methods=(Rf.fil s).2.1.map Rf.Mth.m):=by
 obtain⟨h1,h2⟩:=Rf.fil_same s;unfold Rd.read;by_cases hl:15000<s.length
 ·rw[if_pos hl,if_pos hl];exact⟨rfl,fun h=>absurd h (by decide)⟩
 ·rw[if_neg hl,if_neg hl];by_cases hf:(Rf.fil s).2.2=(s.length:Int)
  ·obtain⟨b,p⟩:=h1.2 hf;rw[if_neg (by rw[b,p];simp),if_neg (fun h=>h hf)];exact⟨rfl,fun _=>h2 hf⟩
  ·rw[if_pos hf];have hn:(Rd.fil s ⟨0,false⟩).2.bad=true∨(Rd.fil s ⟨0,false⟩).2.pos≠s.length:=by
    rcases Bool.eq_false_or_eq_true (Rd.fil s ⟨0,false⟩).2.bad with hb|hb
    ·exact .inl hb
    ·right
     intro hp;exact hf (h1.1 ⟨hb,hp⟩)
   rw[if_pos hn];exact⟨rfl,fun h=>absurd h (by decide)⟩
theorem N8 (s:List UInt8) (t:Rd.St):0≤(Rd.nx s t).1:=by
 unfold Rd.nx
 split
 ·simp
 ·split
  ·simp
  ·simp only;omega
theorem Ol (s:List UInt8):∀ c∈(Rd.read s).1.classes,0≤c.above:=by
 unfold Rd.read
 split
 ·simp
 ·split
  ·simp
  ·simp only[Rd.fil];refine Eg (fun c:Rd.Cls=>0≤c.above) _ (fun t=>?_) _ _;simp only[Rd.cls];exact N8 s t
theorem X8 (l:List Int) (cs:List Rd.Cls):∀ k:Nat,(Tr.inCl l k cs).1=0→∀ i,i<cs.length→(cs.map Rd.Cls.above).getD i 0<7+(k:Int)+(i:Int):=by
 induction cs with
 | nil=>intro k _ i hi;simp at hi
 | cons c r ih =>
  intro k h i hi;unfold Tr.inCl at h;by_cases h1:7+(k:Int)≤c.above
  ·rw[if_pos h1]at h;simp at h
  ·rw[if_neg h1]at h;by_cases h2:Tr.allPlainB l c.fields=false
   ·rw[if_pos h2]at h;simp at h
   ·rw[if_neg h2]at h;cases i with
    | zero=>simp;omega
    | succ j =>
     have:=ih (k+1) h j (by simpa using hi);simp only[List.map_cons,List.getD_cons_succ];omega
theorem Qk (cs:List Rd.Cls) (h0:∀ c∈cs,0≤c.above) (h:(Tr.inCl (Tr.tree cs) 0 cs).1=0):Tr.Ok (Tr.tree cs):=by
 refine⟨by rw[Cc];omega,rfl,fun i hi hl=>?_⟩;rw[Cc]at hl;by_cases h7:i<7
 ·have:i=1∨i=2∨i=3∨i=4∨i=5∨i=6:=by omega
  rcases this with rfl|rfl|rfl|rfl|rfl|rfl<;>(unfold Tr.tree Tr.given;simp)
 ·obtain⟨j,rfl⟩:∃ j,i=7+j:=⟨i-7,by omega⟩;have hj:j<cs.length:=by omega
  have e:(Tr.tree cs).getD (7+j) 0=(cs.map Rd.Cls.above).getD j 0:=by
   unfold Tr.tree;rw[List.getD_eq_getElem?_getD,List.getD_eq_getElem?_getD,List.getElem?_append_right (by simp[Tr.given])];simp[Tr.given]
  rw[e];have hlt:=X8 _ cs 0 h j hj;refine⟨?_,by omega⟩;have hg:(cs.map Rd.Cls.above).getD j 0=cs[j].above:=by simp[List.getD_eq_getElem?_getD,hj]
  rw[hg];exact h0 _ (List.getElem_mem hj)
theorem Sq (s:List UInt8) (h:(Rf.classed s).1=0):Tr.Ok (Tr.tree (Rf.fil s).1)∧(Rd.read s).1.classes=(Rf.fil s).1:=by
 obtain⟨h1,h2⟩:=J6 s;unfold Rf.classed at h;by_cases hl:15000<s.length
 ·rw[if_pos hl]at h;simp at h
 ·rw[if_neg hl]at h h1;by_cases hf:(Rf.fil s).2.2≠(s.length:Int)
  ·rw[if_pos hf]at h;simp at h
  ·rw[if_neg hf]at h h1;have hc:=(h2 h1).1;refine⟨Qk _ (fun c hc'=>Ol s c (by rw[hc];exact hc')) ?_,hc⟩;by_cases hb:0≤Tr.badOf (Tr.inCl (Tr.tree (Rf.fil s).1) 0 (Rf.fil s).1)
   ·rw[if_pos hb]at h;simp at h
   ·unfold Tr.badOf at hb;by_cases h0:(Tr.inCl (Tr.tree (Rf.fil s).1) 0 (Rf.fil s).1).1=0
    ·exact h0
    ·rw[if_neg h0]at hb
     exfalso
     have gen:∀ (l:List Int) (k:Nat) (cs:List Rd.Cls),0≤(Tr.inCl l k cs).2:=by
      intro l k cs
      induction cs generalizing k with
      | nil=>simp[Tr.inCl]
      | cons c r ih =>
       unfold Tr.inCl
       split
       ·simp only;omega
       ·split
        ·simp only;omega
        ·exact ih _
     exact hb (gen _ _ _)
structure OpD where
 kind:Int
 file:ByteArray
 a1:Int
 a2:Int
 b1:Int
 b2:Int
 entry:Int
 heap:Int
 depth:Int
 fuel:Int
 ia:Option Addr
 il:Nat
 ic:Nat
def OpD.val (o:OpD):Value:=.agg #[.int .i64 o.kind,.string o.file,.int .i64 o.a1,.int .i64 o.a2,.int .i64 o.b1,.int .i64 o.b2,.int .i64 o.entry,.int .i64 o.heap,.int .i64 o.depth,.int .i64 o.fuel,.slice o.ia o.il o.ic]
theorem P8 (B:Nat) (w:World) (hB:w.cell? ⟨B,0,none⟩=some (.slice none 0 0)) :
  Calls Tryz.prog 20 #[.pointer (some ⟨B,0,none⟩)] w fun e w'=>e=.returned (.bool true)∧Below w.heap.size w w':=by
 go_enter Tryz.func20,Tryz.ntmps20;go_wp2
 go_loopw [3] (fun i wr=>i=.int .i64 0∧wr=w) (fun _ _=>0)
 case atStart=>exact⟨rfl,rfl⟩
 case round =>
  obtain⟨rfl,rfl⟩:=hrel;go_wp2;go_ret;exact⟨rfl,Below.refl _ _⟩
def OpsIn (w:World) (a:Option Addr) (len:Nat) (V:Nat→OpD):Prop:=∀ i,i<len→∃ b off,a=some ⟨b,off,none⟩∧b<w.heap.size ∧
 w.cell? ⟨b,off+i*11,none⟩=some (.int .i64 (V i).kind)∧w.cell? ⟨b,off+i*11+1,none⟩=some (.string (V i).file) ∧
 w.cell? ⟨b,off+i*11+2,none⟩=some (.int .i64 (V i).a1)∧w.cell? ⟨b,off+i*11+3,none⟩=some (.int .i64 (V i).a2) ∧
 w.cell? ⟨b,off+i*11+4,none⟩=some (.int .i64 (V i).b1)∧w.cell? ⟨b,off+i*11+5,none⟩=some (.int .i64 (V i).b2) ∧
 w.cell? ⟨b,off+i*11+6,none⟩=some (.int .i64 (V i).entry)∧w.cell? ⟨b,off+i*11+7,none⟩=some (.int .i64 (V i).heap) ∧
 w.cell? ⟨b,off+i*11+8,none⟩=some (.int .i64 (V i).depth)∧w.cell? ⟨b,off+i*11+9,none⟩=some (.int .i64 (V i).fuel) ∧
 w.cell? ⟨b,off+i*11+10,none⟩=some (.slice (V i).ia (V i).il (V i).ic)
theorem OpsIn.below {w w':World}{a:Option Addr}{len:Nat}{V:Nat→OpD} (h:OpsIn w a len V) (hb:Below w.heap.size w w'):OpsIn w' a len V:=by
 intro i hi;obtain⟨b,off,h1,h2,h3⟩:=h i hi;refine⟨b,off,h1,Nat.lt_of_lt_of_le h2 hb.size,?_⟩
 simpa only [hb.cell (p:=⟨b,_,none⟩) h2] using h3
theorem Tk (a:Option Addr) (len cap:Nat) (V:Nat→OpD) (lo hi:Int) (w:World) (hlen:len≤9223372036854775807) (hV:OpsIn w a len V)
  (hp:∀ i,i<len→lo≤(V i).kind→(V i).kind≤hi→∀ (p:Value) (w1:World),Calls Tryz.prog 19 #[p,(V i).val] w1 fun e w2=>e=.returned (.bool true)∧Below w1.heap.size w1 w2) :
  Calls Tryz.prog 7 #[.slice a len cap,.int .i64 lo,.int .i64 hi] w fun e w'=>e=.returned (.int .i64 (-1))∧Below w.heap.size w w':=by
 have HP:=Ac hp;have HV:=Ac hV;clear hp hV;have hB0:Below w.heap.size w (w.alloc (O13 none 0 0)):=QN _;have hx0:=Ad w (O13 none 0 0);go_enter Tryz.func7,Tryz.ntmps7;go_wp2
 go_loopw [8] (fun i wr=>∃ k:Nat,k≤len∧i=.int .i64 k∧Below w.heap.size w wr∧wr.heap[w.heap.size]?=some (O13 none 0 0))
  (fun i _=>len-(intOf i).toNat)
 case atStart=>exact⟨0,by omega,rfl,hB0,hx0⟩
 case round =>
  clear hB0 hx0;obtain⟨k,hk,rfl,hB,hx⟩:=hrel;by_cases hkn:k<len
  ·obtain⟨b,off,rfl,hb,x0,x1,x2,x3,x4,x5,x6,x7,x8,x9,x10⟩:=(Aa HV).below hB k hkn;have hpk:=Aa HP k hkn;have HPK:=Ac hpk;clear hpk HP HV;generalize V k=o at *;obtain⟨kind,s,k1,n1,k2,n2,entry,heap,depth,fuel,ia,il,ic⟩:=o;simp only[OpD.val]at x0 x1 x2 x3 x4 x5 x6 x7 x8 x9 x10 HPK;have mb:(k:Int)<(len:Int):=by omega
   by_cases h1:kind<lo
   ·clear x1 x2 x3 x4 x5 x6 x7 x8 x9 x10 HPK;go_wp2
    go_roundw
    case rel=>exact⟨k+1,by omega,by go_num,hB,hx⟩
    case measure=>simp[intOf];omega
   ·by_cases h2:hi<kind
    ·clear x1 x2 x3 x4 x5 x6 x7 x8 x9 x10 HPK;go_wp2
     go_roundw
     case rel=>exact⟨k+1,by omega,by go_num,hB,hx⟩
     case measure=>simp[intOf];omega
    ·have HC:=Ac (Aa HPK (by omega) (by omega));clear HPK;go_wp2_with fail
     refine(Aa HC _ _).mono ?_;rintro e w2 ⟨rfl,hb2⟩;have hB2:=QB hB hb2;have hx2:=stay hb2 hx;have y0:=Ab hx2 0;simp at y0;clear hb2 hB hx x0 x1 x2 x3 x4 x5 x6 x7 x8 x9 x10 HC;go_wp2_with fail
     refine(P8 w.heap.size w2 y0).mono ?_;rintro e w3 ⟨rfl,hb3⟩;have hB3:=QB hB2 hb3;have hx3:=stay hb3 hx2;clear hb3 hB2 hx2 y0;go_wp2
     go_roundw
     case rel=>exact⟨k+1,by omega,by go_num,hB3,hx3⟩
     case measure=>simp[intOf];omega
  ·go_wp2;go_ret;exact⟨rfl,hB⟩
open Go.ChangeShapes Go.WideShapes Go.ChangeAt Go.RowKit Go.Deep
theorem Tryz.cellsOp:Tryz.prog.cellsOf 58=11:=by kernel_rfl
theorem Tryz.cellsTy:Tryz.prog.cellsOf 39=2:=by kernel_rfl
theorem Tryz.cellsInt:Tryz.prog.cellsOf 3=1:=by kernel_rfl
theorem Tryz.cellsStr:Tryz.prog.cellsOf 9=1:=by kernel_rfl
theorem Tryz.cellsInts:Tryz.prog.cellsOf 34=1:=by kernel_rfl
section
variable {H:Type}{enc:TypeId × Value→H}
def N9 (o:OpD):Prop:=o.file.size≤maxLen
theorem Yi {W:World}{n:Nat}{cs:List Value}{x:DataW H × List MemPlace} (h:DataW.trod enc Tryz.prog W 0 (fun _=>true) true n 58 cs=some x) :
  ∃ o:OpD,N9 o∧cs=[.int .i64 o.kind,.string o.file,.int .i64 o.a1,.int .i64 o.a2,.int .i64 o.b1,.int .i64 o.b2,.int .i64 o.entry,.int .i64 o.heap,.int .i64 o.depth,.int .i64 o.fuel,.slice o.ia o.il o.ic]:=by
 obtain⟨xs,m,_,_,hl,hlen,hf⟩:=DataW.trod_struct Tryz.underlying58 h;rw[Tryz.cellsOp]at hl
 match cs,hl with
 | [c0,c1,c2,c3,c4,c5,c6,c7,c8,c9,c10],_ =>
  match xs,hlen with
  | [y0,y1,y2,y3,y4,y5,y6,y7,y8],_ =>
   have g0:DataW.trod enc Tryz.prog W 0 (fun _=>true) true m 3 [c0]=some y0:=by simpa[Tryz.cellsInt] using hf 0 _ rfl
   have g1:DataW.trod enc Tryz.prog W 0 (fun _=>true) true m 9 [c1]=some y1:=by simpa[Tryz.cellsStr] using hf 1 _ rfl
   have g2:DataW.trod enc Tryz.prog W 0 (fun _=>true) true m 39 [c2,c3]=some y2:=by simpa[Tryz.cellsTy] using hf 2 _ rfl
   have g3:DataW.trod enc Tryz.prog W 0 (fun _=>true) true m 39 [c4,c5]=some y3:=by simpa[Tryz.cellsTy] using hf 3 _ rfl
   have g4:DataW.trod enc Tryz.prog W 0 (fun _=>true) true m 3 [c6]=some y4:=by simpa[Tryz.cellsInt] using hf 4 _ rfl
   have g5:DataW.trod enc Tryz.prog W 0 (fun _=>true) true m 3 [c7]=some y5:=by simpa[Tryz.cellsInt] using hf 5 _ rfl
   have g6:DataW.trod enc Tryz.prog W 0 (fun _=>true) true m 3 [c8]=some y6:=by simpa[Tryz.cellsInt] using hf 6 _ rfl
   have g7:DataW.trod enc Tryz.prog W 0 (fun _=>true) true m 3 [c9]=some y7:=by simpa[Tryz.cellsInt] using hf 7 _ rfl
   have g8:DataW.trod enc Tryz.prog W 0 (fun _=>true) true m 34 [c10]=some y8:=by simpa[Tryz.cellsInts] using hf 8 _ rfl
   obtain⟨kind,e0,_,_⟩:=DataW.trod_int Tryz.underlying3 g0;obtain⟨file,e1,_,hfs⟩:=DataW.trod_string Tryz.underlying9 g1;obtain⟨z0,z1,_,_,_,hz0,hz1⟩:=trod_struct2 Tryz.underlying39 g2;obtain⟨v0,v1,_,_,_,hv0,hv1⟩:=trod_struct2 Tryz.underlying39 g3;simp only[Tryz.cellsInt]at hz0 hz1 hv0 hv1;simp at hz0 hz1 hv0 hv1;obtain⟨a1,e2,_,_⟩:=DataW.trod_int Tryz.underlying3 hz0;obtain⟨a2,e3,_,_⟩:=DataW.trod_int Tryz.underlying3 hz1;obtain⟨b1,e4,_,_⟩:=DataW.trod_int Tryz.underlying3 hv0;obtain⟨b2,e5,_,_⟩:=DataW.trod_int Tryz.underlying3 hv1;obtain⟨entry,e6,_,_⟩:=DataW.trod_int Tryz.underlying3 g4;obtain⟨heap,e7,_,_⟩:=DataW.trod_int Tryz.underlying3 g5;obtain⟨depth,e8,_,_⟩:=DataW.trod_int Tryz.underlying3 g6;obtain⟨fuel,e9,_,_⟩:=DataW.trod_int Tryz.underlying3 g7;obtain⟨ia,il,ic,e10⟩:∃ ia il ic,c10=Value.slice ia il ic:=by
    rcases open_slice Tryz.underlying34 g8 with ⟨hc,_⟩|⟨a,len,cap,_,_,_,_,hc,_⟩
    ·simp at hc;exact⟨_,_,_,hc⟩
    ·simp at hc;exact⟨_,_,_,hc⟩
   simp only[List.cons.injEq,and_true]at e0 e1 e2 e3 e4 e5 e6 e7 e8 e9;subst e0 e1 e2 e3 e4 e5 e6 e7 e8 e9 e10;exact⟨⟨kind,file,a1,a2,b1,b2,entry,heap,depth,fuel,ia,il,ic⟩,hfs,rfl⟩
theorem Oy {W:World}{n:Nat}{c0:Value}{x:DataW H × List MemPlace} (h:DataW.trod enc Tryz.prog W 0 (fun _=>true) true n 22 [c0]=some x) :
  ∃ a len cap V,c0=.slice a len cap∧len≤9223372036854775807∧OpsIn W a len V∧∀ i,i<len→N9 (V i):=by
 rcases open_slice Tryz.underlying22 h with ⟨hc,_⟩|⟨a,len,cap,m,k,D,Pl,hc,_,hl,hm,hmm,_,hall⟩
 ·simp only[List.cons.injEq,and_true]at hc;exact⟨none,0,0,fun _=>⟨0,.empty,0,0,0,0,0,0,0,0,none,0,0⟩,hc,by omega,fun i hi=>by omega,fun i hi=>by omega⟩
 ·simp only[List.cons.injEq,and_true]at hc;simp only[if_true]at hmm;subst hmm;rw[Tryz.cellsOp]at hall
  haveI:Inhabited OpD:=⟨⟨0,.empty,0,0,0,0,0,0,0,0,none,0,0⟩⟩
  obtain⟨V,hV⟩:=choose_lt (α:=OpD) (p:=fun i o=>N9 o∧∀ j,j<11→W.cell? ((a.add (i*11)).add j)=[Value.int .i64 o.kind,.string o.file,.int .i64 o.a1,.int .i64 o.a2,.int .i64 o.b1,.int .i64 o.b2,.int .i64 o.entry,.int .i64 o.heap,.int .i64 o.depth,.int .i64 o.fuel,.slice o.ia o.il o.ic][j]?) (fun i hi=>by
   obtain⟨cs',h1,h2⟩:=hall i hi;obtain⟨o,ho,rfl⟩:=Yi h2;obtain⟨_,_,hcell⟩:=World.cells?_some h1;exact⟨o,ho,hcell⟩)
  refine⟨some a,len,m,V,hc,by unfold maxLen at hm;omega,?_,fun i hi=>(hV i (by omega)).1⟩;intro i hi;obtain⟨b,off,spot⟩:=a;have hcell:=(hV i (by omega)).2;have hc0:=hcell 0 (by omega);have hspot:spot=none:=by simpa[Addr.add] using World.cell?_spot ((hV 0 (by omega)).2 0 (by omega))
  subst hspot;have hadd:∀ j,((⟨b,off,none⟩:Addr).add (i*11)).add j=⟨b,off+i*11+j,none⟩:=fun j=>by simp[Addr.add_lit]
  simp only[hadd]at hcell hc0;refine⟨b,off,rfl,World.block_lt_of_cell? W _ hc0,?_,?_,?_,?_,?_,?_,?_,?_,?_,?_,?_⟩
  ·simpa using hcell 0 (by omega)
  ·simpa using hcell 1 (by omega)
  ·simpa using hcell 2 (by omega)
  ·simpa using hcell 3 (by omega)
  ·simpa using hcell 4 (by omega)
  ·simpa using hcell 5 (by omega)
  ·simpa using hcell 6 (by omega)
  ·simpa using hcell 7 (by omega)
  ·simpa using hcell 8 (by omega)
  ·simpa using hcell 9 (by omega)
  ·simpa using hcell 10 (by omega)
end
end Go.Proofs.YtcefiamkoincoaaGreat
namespace Go.Proofs.YtcefiamkoincoaaGreat.Cd
def wd (op:Int):Nat:=if op=0∨op=2∨op=3∨(11≤op∧op≤21) then 2 else 1
theorem wd_bd (op:Int):1≤wd op∧wd op≤2:=by unfold wd;split<;>omega
def starts (c:List Int):Nat→Nat→List Nat
 | 0,_=>[]
 | k+1,p=>if p<c.length then p::starts c k (p+wd (c.getD p 0)) else []
def places (c:List Int):List Nat:=starts c c.length 0
theorem starts_end {c:List Int}{k p:Nat} (h:c.length≤p):starts c k p=[]:=by
 cases k with
 | zero=>rfl
 | succ j=>unfold starts;rw[if_neg (by omega)]
theorem starts_go {c:List Int}{k p:Nat} (h:p<c.length) (hk:c.length≤p+k):∃ j,k=j+1∧c.length≤(p+wd (c.getD p 0))+j∧starts c k p=p::starts c j (p+wd (c.getD p 0)):=by
 obtain⟨j,rfl⟩:∃ j,k=j+1:=⟨k-1,by omega⟩;have:=wd_bd (c.getD p 0);refine⟨j,rfl,by omega,?_⟩;rw[starts,if_pos h]
def first (f:Nat→Bool):List Nat→Int
 | []=>-1
 | p::r=>if f p=true then (p:Int) else first f r
def begB (c:List Int) (place:Int):Bool:=(places c).any fun p=>(p:Int)==place
def noRead (c:List Int) (p:Nat):Bool:=decide (25<c.getD p 0) || decide (c.length<p+wd (c.getD p 0))
def unread (c:List Int):Int:=first (noRead c) (places c)
end Go.Proofs.YtcefiamkoincoaaGreat.Cd
namespace Go.Proofs.YtcefiamkoincoaaGreat
open Go.RowKit
structure RMV where
 cl:Int
 nm:Int
 pa:Option Addr
 pl:Nat
 pc:Nat
 r1:Int
 r2:Int
 lo:Int
 st:Int
 code:ByteArray
 ha:Option Addr
 hl:Nat
 hc:Nat
 ma:Option Addr
 ml:Nat
 mc:Nat
 mAt:Int
 fin:Int
def RMV.val (m:RMV):Value:=.agg #[.int .i64 m.cl,.int .i64 m.nm,.slice m.pa m.pl m.pc,.int .i64 m.r1,.int .i64 m.r2,.int .i64 m.lo,.int .i64 m.st,.string m.code,.slice m.ha m.hl m.hc,.slice m.ma m.ml m.mc,.int .i64 m.mAt,.int .i64 m.fin]
def RMV.obj (m:RMV):Obj:=.cells #[.int .i64 m.cl,.int .i64 m.nm,.slice m.pa m.pl m.pc,.int .i64 m.r1,.int .i64 m.r2,.int .i64 m.lo,.int .i64 m.st,.string m.code,.slice m.ha m.hl m.hc,.slice m.ma m.ml m.mc,.int .i64 m.mAt,.int .i64 m.fin] 52 (0,0)
def An (s:ByteArray):List Int:=s.data.toList.map fun c=>(c.toNat:Int)
theorem Cq (s:ByteArray):(An s).length=s.size:=by simp[An]
theorem Dx (s:ByteArray) (p:Nat) (h:p<s.size):(An s).getD p 0=(s[p].toNat:Int):=by
 have h':p<s.data.toList.length:=by simpa using h
 simp[An,List.getD_eq_getElem?_getD,h];rfl
theorem V7 (op:Int) (w:World):Calls Tryz.prog 93 #[.int .i64 op] w fun e w'=>e=.returned (.int .i64 (Cd.wd op:Int))∧w'=w:=by
 unfold Cd.wd;by_cases h:op=0∨op=2∨op=3∨(11≤op∧op≤21)
 ·rw[if_pos h];have h':op=0∨op=2∨op=3∨op=11∨op=12∨op=13∨op=14∨op=15∨op=16∨op=17∨op=18∨op=19∨op=20∨op=21:=by omega
  clear h;rcases h' with rfl | rfl | rfl | rfl | rfl | rfl | rfl | rfl | rfl | rfl | rfl | rfl | rfl | rfl
  all_goals
   go_enter Tryz.func93,Tryz.ntmps93;go_wp2;go_ret;exact⟨rfl,rfl⟩
 ·rw[if_neg h];have n0:(op==0)=false:=by simp;omega
  have n2:(op==2)=false:=by simp;omega
  have n3:(op==3)=false:=by simp;omega
  have n11:(op==11)=false:=by simp;omega
  have n12:(op==12)=false:=by simp;omega
  have n13:(op==13)=false:=by simp;omega
  have n14:(op==14)=false:=by simp;omega
  have n15:(op==15)=false:=by simp;omega
  have n16:(op==16)=false:=by simp;omega
  have n17:(op==17)=false:=by simp;omega
  have n18:(op==18)=false:=by simp;omega
  have n19:(op==19)=false:=by simp;omega
  have n20:(op==20)=false:=by simp;omega
  have n21:(op==21)=false:=by simp;omega
  clear h;go_enter Tryz.func93,Tryz.ntmps93;go_wp2;go_ret;exact⟨rfl,rfl⟩
theorem Fg (m:RMV) (p:Nat) (w:World) (hp:p<m.code.size) (hs:m.code.size≤100000) :
  Calls Tryz.prog 55 #[m.val,.int .i64 (p:Int)] w fun e w'=>e=.returned (.int .i64 ((p+Cd.wd ((An m.code).getD p 0):Nat):Int))∧Below w.heap.size w w':=by
 rw[Dx _ _ hp];obtain⟨cl,nm,pa,pl,pc,r1,r2,lo,st,code,ha,hl,hc,ma,ml,mc,mAt,fin⟩:=m;simp only[RMV.val]at hp hs ⊢;have hb:=Cd.wd_bd ((code[p].toNat:Int));generalize hwd:Cd.wd ((code[p].toNat:Int))=d at *;have HWD:=Ac hwd;clear hwd;have hp':(p:Int)<(code.size:Int):=by omega
 have hwb:∀ c:UInt8,IntKind.i64.wrap (c.toNat:Int)=(c.toNat:Int):=fun c=>Bd _ (by omega) (by have:=c.toNat_lt;omega);go_enter Tryz.func55,Tryz.ntmps55;go_wp2_with (go_at_call 93;refine(V7 _ _).mono ?_;rw[Aa HWD];rintro e w1 ⟨rfl,rfl⟩)
 go_ret;exact⟨by simp,QN _⟩
theorem Er (m:RMV) (p:Nat) (w:World) (hp:p<m.code.size) (hs:m.code.size≤100000) :
  Calls Tryz.prog 94 #[m.val,.int .i64 (p:Int)] w fun e w'=>e=.returned (.int .i64 (Rf.at' m.code.data.toList ((p:Int)+1)))∧Below w.heap.size w w':=by
 obtain⟨cl,nm,pa,pl,pc,r1,r2,lo,st,code,ha,hl,hc,ma,ml,mc,mAt,fin⟩:=m;simp only[RMV.val]at hp hs ⊢;generalize hr:Rf.at' code.data.toList ((p:Int)+1)=r;have HR:=Ac hr;clear hr;have hsm:code.size≤maxLen:=by unfold maxLen;omega
 go_enter Tryz.func94,Tryz.ntmps94;go_wp2_with (go_at_call 89;refine(Bc code ((p:Int)+1) _ hsm).mono ?_;rw[Aa HR];rintro e w1 ⟨rfl,rfl⟩)
 go_ret;exact⟨rfl,QN _⟩
theorem Ex (m:RMV) (place:Int) (w:World) (hs:m.code.size≤100000) :
  Calls Tryz.prog 57 #[m.val,.int .i64 place] w fun e w'=>e=.returned (.bool (Cd.begB (An m.code) place))∧Below w.heap.size w w':=by
 have hN:=fun p w hp=>Fg m p w hp hs;have hB0:Below w.heap.size w (w.alloc m.obj):=QN _;have hx0:=Ad w m.obj;unfold Cd.begB Cd.places;generalize hr:(Cd.starts (An m.code) (An m.code).length 0).any (fun p=>(p:Int)==place)=r;have HR:=Ac hr;clear hr;have hl:=Cq m.code;obtain⟨cl,nm,pa,pl,pc,r1,r2,lo,st,code,ha,hl',hc,ma,ml,mc,mAt,fin⟩:=m;simp only[RMV.val,RMV.obj]at hN hB0 hx0 hs hl HR ⊢;have HN:=Ac hN;have HL:=Ac hl;clear hN;go_enter Tryz.func57,Tryz.ntmps57;go_wp2
 go_loopw [5] (fun v wr=>∃ p k:Nat,v=.int .i64 (p:Int)∧(An code).length≤p+k∧p≤200000∧Hid ((Cd.starts (An code) k p).any (fun p=>(p:Int)==place)=r)∧Below w.heap.size w wr ∧
   wr.heap[w.heap.size]?=some (O14 cl nm pa pl pc r1 r2 lo st code ha hl' hc ma ml mc mAt fin))
  (fun v _=>code.size-(intOf v).toNat)
 case atStart=>exact⟨0,_,rfl,by omega,by omega,HR,hB0,hx0⟩
 case round =>
  clear hB0 hx0 HR;obtain⟨p,k,rfl,hk,hp2,HR,hB,hx⟩:=hrel;obtain⟨c0,c1,c2,c3,c4,c5,c6,c7,c8,c9,c10,c11⟩:=Ap hx;simp at c0 c1 c2 c3 c4 c5 c6 c7 c8 c9 c10 c11;have hBs:=hB.size;by_cases hpn:p<code.size
  ·obtain⟨j,rfl,hj,hst⟩:=Cd.starts_go (c:=An code) (k:=k) (p:=p) (by omega) hk;have hr:=Aa HR;rw[hst,List.any_cons]at hr;have hp':(p:Int)<(code.size:Int):=by omega
   by_cases hpl:(p:Int)=place
   ·have hpl':((p:Int)==place)=true:=by simp[hpl]
    have HF:Hid (r=true):=by unfold Hid;rw[← hr,hpl'];rfl
    clear hr hpl hst HR hj;go_wp2;go_ret;exact⟨by rw[Aa HF];rfl,hB⟩
   ·have hpl':((p:Int)==place)=false:=by simp[hpl]
    rw[hpl',Bool.false_or]at hr;have hwd:=Cd.wd_bd ((An code).getD p 0);have hn:=Aa HN p wr hpn;generalize Cd.wd ((An code).getD p 0)=d at *;have HF:=Ac hr;have HNN:=Ac hn;clear hr hpl hst HR hn;go_wp2_with fail
    refine(Aa HNN).mono ?_;rintro e w1 ⟨rfl,hb1⟩;have hB1:=hB.trans (hb1.mono hBs);have hx1:=stay hb1 hx;clear hb1 hx hB c0 c1 c2 c3 c4 c5 c6 c7 c8 c9 c10 c11;go_wp2
    go_roundw
    case rel=>exact⟨p+d,j,rfl,hj,by omega,HF,hB1,hx1⟩
    case measure=>simp[intOf];omega
  ·have hr:=Aa HR;rw[Cd.starts_end (by omega)]at hr;have HF:=Ac hr;have hp':¬ (p:Int)<(code.size:Int):=by omega
   clear hr HR;go_wp2;go_ret;exact⟨by rw[← Aa HF];rfl,hB⟩
theorem Pb (m:RMV) (w:World) (hs:m.code.size≤100000) :
  Calls Tryz.prog 54 #[m.val] w fun e w'=>e=.returned (.int .i64 (Cd.unread (An m.code)))∧Below w.heap.size w w':=by
 have hN:=fun p w hp=>Fg m p w hp hs;have hB0:Below w.heap.size w (w.alloc m.obj):=QN _;have hx0:=Ad w m.obj;unfold Cd.unread Cd.places;generalize hr:Cd.first (Cd.noRead (An m.code)) (Cd.starts (An m.code) (An m.code).length 0)=r
 have HR:=Ac hr;clear hr;have hl:=Cq m.code;obtain⟨cl,nm,pa,pl,pc,r1,r2,lo,st,code,ha,hl',hc,ma,ml,mc,mAt,fin⟩:=m;simp only[RMV.val,RMV.obj]at hN hB0 hx0 hs hl HR ⊢;have HN:=Ac hN;have HL:=Ac hl;clear hN;go_enter Tryz.func54,Tryz.ntmps54;go_wp2
 go_loopw [3] (fun v wr=>∃ p k:Nat,v=.int .i64 (p:Int)∧(An code).length≤p+k∧p≤200000∧Hid (Cd.first (Cd.noRead (An code)) (Cd.starts (An code) k p)=r)∧Below w.heap.size w wr ∧
   wr.heap[w.heap.size]?=some (O14 cl nm pa pl pc r1 r2 lo st code ha hl' hc ma ml mc mAt fin))
  (fun v _=>code.size-(intOf v).toNat)
 case atStart=>exact⟨0,_,rfl,by omega,by omega,HR,hB0,hx0⟩
 case round =>
  clear hB0 hx0 HR;obtain⟨p,k,rfl,hk,hp2,HR,hB,hx⟩:=hrel;obtain⟨c0,c1,c2,c3,c4,c5,c6,c7,c8,c9,c10,c11⟩:=Ap hx;simp at c0 c1 c2 c3 c4 c5 c6 c7 c8 c9 c10 c11;have hBs:=hB.size;by_cases hpn:p<code.size
  ·obtain⟨j,rfl,hj,hst⟩:=Cd.starts_go (c:=An code) (k:=k) (p:=p) (by omega) hk;have hr:=Aa HR;rw[hst,Cd.first]at hr
   have hp':(p:Int)<(code.size:Int):=by omega
   have hwd:=Cd.wd_bd ((An code).getD p 0);have hn:=fun w=>Aa HN p w hpn;have hnr:Cd.noRead (An code) p=(decide (25<code[p].toNat) || decide (code.size<p+Cd.wd ((An code).getD p 0))):=by
    unfold Cd.noRead;rw[Dx code p hpn,hl]
    congr 1
    simp only[decide_eq_decide];omega
   rw[hnr]at hr;generalize Cd.wd ((An code).getD p 0)=d at *;have HNN:=Ac hn;by_cases h1:25<code[p].toNat
   ·have h1':(25:Int)<(code[p].toNat:Int):=by omega
    have HF:Hid ((p:Int)=r):=by unfold Hid;rw[← hr];simp[h1]
    clear hr hst HR hn hnr;go_wp2_with fail
    refine(Aa HNN _).mono ?_;rintro e w1 ⟨rfl,hb1⟩;have hB1:=hB.trans (hb1.mono hBs);have c7':=Ab (stay hb1 hx) 7;simp at c7';clear hb1 hx hB c0 c1 c2 c3 c4 c5 c6 c7 c8 c9 c10 c11;go_wp2;go_ret;exact⟨by rw[← Aa HF];rfl,hB1⟩
   ·have h1':¬ (25:Int)<(code[p].toNat:Int):=by omega
    by_cases h2:code.size<p+d
    ·have h2':(code.size:Int)<((p+d:Nat):Int):=by omega
     have HF:Hid ((p:Int)=r):=by unfold Hid;rw[← hr];simp[h2]
     clear hr hst HR hn hnr;go_wp2_with fail
     refine(Aa HNN _).mono ?_;rintro e w1 ⟨rfl,hb1⟩;have hB1:=hB.trans (hb1.mono hBs);have c7':=Ab (stay hb1 hx) 7;simp at c7';clear hb1 hx hB c0 c1 c2 c3 c4 c5 c6 c7 c8 c9 c10 c11;go_wp2;go_ret;exact⟨by rw[← Aa HF];rfl,hB1⟩
    ·have h2':¬ (code.size:Int)<((p+d:Nat):Int):=by omega
     have HF:Hid (Cd.first (Cd.noRead (An code)) (Cd.starts (An code) j (p+d))=r):=by unfold Hid;rw[← hr];simp[h1,h2]
     clear hr hst HR hn hnr;go_wp2_with fail
     refine(Aa HNN _).mono ?_;rintro e w1 ⟨rfl,hb1⟩;have hB1:=hB.trans (hb1.mono hBs);have hx1:=stay hb1 hx;obtain⟨e0,e1,e2,e3,e4,e5,e6,e7,e8,e9,e10,e11⟩:=Ap hx1;simp at e0 e1 e2 e3 e4 e5 e6 e7 e8 e9 e10 e11;clear hb1 hx hB c0 c1 c2 c3 c4 c5 c6 c7 c8 c9 c10 c11;go_wp2_with fail
     refine(Aa HNN _).mono ?_;rintro e w2 ⟨rfl,hb2⟩;have hB2:=QB hB1 hb2;have hx2:=stay hb2 hx1;clear hb2 hx1 hB1 e0 e1 e2 e3 e4 e5 e6 e7 e8 e9 e10 e11;go_wp2
     go_roundw
     case rel=>exact⟨p+d,j,rfl,hj,by omega,HF,hB2,hx2⟩
     case measure=>simp[intOf];omega
  ·have hr:=Aa HR;rw[Cd.starts_end (by omega)]at hr;have HF:=Ac hr;have hp':¬ (p:Int)<(code.size:Int):=by omega
   clear hr HR;go_wp2;go_ret;exact⟨by rw[← Aa HF];rfl,hB⟩
theorem Fu (l:List (Int × Int)):(Am l).length=l.length*2:=by
 induction l with
 | nil=>rfl
 | cons x r ih=>simp[Am]at ih ⊢;omega
theorem Bs (l r:List (Int × Int)):Am (l++r)=Am l++Am r:=by simp[Am]
theorem Kn (l:List (Int × Int)):∀ u∈Am l,u.oneCell'=true:=by
 intro u hu;simp only[Am,List.mem_flatMap,List.mem_cons,List.not_mem_nil,or_false]at hu;obtain⟨x,_,rfl | rfl⟩:=hu<;>rfl
theorem Rn {w:World}{ops:Array Oper}{rest:List Oper}{o:Oper}{a:Act}{Q:Exit→Act→World→Prop} (hgd:o.guard=none) (s x:Operand)
  (ho:o.op=.call { callee:=.builtin .append,args:=#[s,x],argTypes:=#[48,48] })
  (base bb:Nat) (v:Value) (xs ys:List (Int × Int)) (va:Option Addr) (vl vc:Nat) (hs:a.eval s=v) (hown:w.ownsRow base 39 2 v xs.length (Am xs)) (hx:a.eval x=.slice va vl vc) (hy:TysAt w bb (.slice va vl vc) ys)
  (h1:xs.length+ys.length≤100000) (hbase:base≤w.heap.size)
  (h:∀ v' w',w'.ownsRow base 39 2 v' (xs++ys).length (Am (xs++ys))→w.grownBy w' v.ownBlock→wpList Tryz.prog ops Q rest (a.put o.dst v') w'):wpList Tryz.prog ops Q (o::rest) a w:=by
 obtain⟨i0,hi,hz0,hz1,hz2⟩:=info_parts Tryz.infoType;obtain⟨hl,⟨hv,hn⟩|⟨g,cap,cur,hv,hb,hg,hlen,hm,hsz,htk⟩⟩:=hy
 ·have hy0:ys=[]:=List.eq_nil_of_length_eq_zero hn;subst hy0;refine wpList_append_own_none hgd s x _ ho base 39 i0 2 Tryz.underlying48 hi v _ _ hs hown (hx.trans hv) ?_;exact h v w (by simpa using hown) (World.grownBy.refl _ _)
 ·have hvv:(Value.slice va vl vc)=.slice (some ⟨g,0,none⟩) ys.length cap:=hv;refine wpList_append_own w hgd s x _ ho base 39 i0 _ 2 16 Tryz.underlying48 hi hz0 hz1 hz2 rfl (by omega) v _ _ hs hown ⟨g,0,none⟩ ys.length cap (Am ys) (hx.trans hvv) (Fu ys) ?_ (Kn ys) (by unfold maxLen;omega) (by omega) hbase ?_
  ·intro j u hu;have hj:j<(Am ys).length:=(List.getElem?_eq_some_iff.1 hu).1;rw[Addr.add_lit,Nat.zero_add,Ab hg,← hu,← htk,List.getElem?_take,if_pos (by rw[hl]at hj;exact hj)]
   simp
  ·intro v' w' ho' hg' _;exact h v' w' (by rw[List.length_append,Bs];exact ho') hg'
def Rf.allTo (T:List Int) (cs:List Rd.Cls) (c:Int):Nat→List (Int × Int)
 | 0=>[]
 | d+1=>Rf.allTo T cs c d++(if Tr.rbel T c (d:Int)=true then (cs.getD d ⟨0,[]⟩).fields else [])
def Rf.all (T:List Int) (cs:List Rd.Cls) (c:Nat):List (Int × Int):=Rf.allTo T cs (c:Int) (c+1)
theorem Ic (T:List Int) (cs:List Rd.Cls) (c:Int) (hf:∀ p∈cs,p.fields.length≤1000) (d:Nat):(Rf.allTo T cs c d).length≤1000*d:=by
 induction d with
 | zero=>simp[Rf.allTo]
 | succ k ih =>
  rw[Rf.allTo,List.length_append];have:(cs.getD k ⟨0,[]⟩).fields.length≤1000:=by
   rw[List.getD_eq_getElem?_getD];rcases h:cs[k]? with _ | x
   ·simp
   ·simp;exact hf x (List.mem_of_getElem? h)
  split
  ·omega
  ·rw[List.length_nil];omega
theorem Nn (a1 a2:Option Addr) (c1 n2 c2 bb:Nat) (l:List (Rd.Cls × Value)) (c:Nat) (w:World) (hl:l.length≤13) (hcl:c<l.length) (hfl:∀ p∈l,p.1.fields.length≤1000) (hc:RClssIn w bb (.slice a1 l.length c1) l) :
  Calls Tryz.prog 137 #[.agg #[.slice a1 l.length c1,.slice a2 n2 c2],.int .i64 (c:Int)] w fun e w' =>
   ∃ va vc,e=.returned (.slice va (Rf.all (Al l) (l.map Prod.fst) c).length vc)∧TysAt w' w.heap.size (.slice va (Rf.all (Al l) (l.map Prod.fst) c).length vc) (Rf.all (Al l) (l.map Prod.fst) c)∧Below w.heap.size w w':=by
 have hall:=fun d=>Ic (Al l) (l.map Prod.fst) (c:Int) (by intro p hp;obtain⟨x,hx,rfl⟩:=List.mem_map.1 hp;exact hfl x hx) d;have hB0:Below (w.heap.size+1) (w.alloc (O11 a1 l.length c1 a2 n2 c2)) (w.alloc (O11 a1 l.length c1 a2 n2 c2)):=Below.refl _ _;unfold Rf.all;go_enter Tryz.func137,Tryz.ntmps137;go_wp2
 go_loopw [5,6] (fun v i wr=>∃ d:Nat,d≤c+1∧i=.int .i64 (d:Int)∧wr.ownsRow (w.heap.size+1) 39 2 v (Rf.allTo (Al l) (l.map Prod.fst) (c:Int) d).length (Am (Rf.allTo (Al l) (l.map Prod.fst) (c:Int) d)) ∧
   Below (w.heap.size+1) (w.alloc (O11 a1 l.length c1 a2 n2 c2)) wr)
  (fun _ i _=>c+1-(intOf i).toNat)
 case atStart=>exact⟨0,by omega,rfl,World.ownsRow_nil _ _ _ _,hB0⟩
 case round =>
  clear hB0;obtain⟨d,hd,rfl,hown,hbl⟩:=hrel;obtain⟨va,vc,rfl⟩:=Af hown;have hsz:=hbl.size;simp at hsz;have hB:Below w.heap.size w wr:=(QN _).trans (hbl.mono (by omega));have F0:=(hbl.block w.heap.size (by omega)).trans (Ad w _);obtain⟨x0,x1⟩:=cl2 F0;simp at x0 x1;have hcr:=hc.kp (Kp.of_below (e:=none) hB) (by decide) (by decide);have hlen1:=hall d;by_cases hdn:d≤c
  ·have hdl:d<l.length:=by omega
   have hd1:(d:Int)≤(c:Int):=by omega
   have hd2:(d:Int)<(l.length:Int):=by omega
   have hstep:Rf.allTo (Al l) (l.map Prod.fst) (c:Int) (d+1)=Rf.allTo (Al l) (l.map Prod.fst) (c:Int) d++(if Tr.rbel (Al l) (c:Int) (d:Int)=true then l[d].1.fields else []):=by
    rw[Rf.allTo]
    congr 2
    simp[List.getD_eq_getElem?_getD,hdl]
   obtain⟨g,hg,hglt,_,hcell⟩:=Ao hcr.1 (by omega);obtain⟨e1,e2,e3⟩:=Cv l d hdl;have htd:=hcr.2 _ (List.getElem_mem hdl);have hfd:=hfl _ (List.getElem_mem hdl);obtain⟨ua,uc,hu⟩:=Af htd;rw[hu]at htd;generalize hfs:l[d].1.fields=fs at *;generalize hcur:Rf.allTo (Al l) (l.map Prod.fst) (c:Int) d=cur at *;generalize hb:Tr.rbel (Al l) (c:Int) (d:Int)=b at hstep;have HB:=Ac hb;have HCR:=Ac hcr;have HCE:=Ac hcell;have HE2:Hid ((By l)[d*2+1]?=some (.slice ua fs.length uc)):=by unfold Hid;rw[e2,hu]
   have HE3:=Ac e3;clear hb hcr hcell e1 e2 e3 hu hfs hcur;subst hg;cases b with
   | false =>
    have HS:Hid (Rf.allTo (Al l) (l.map Prod.fst) (c:Int) (d+1)=cur):=by unfold Hid;rw[hstep];simp
    clear hstep;go_wp2_with fail
    refine(Dv (some ⟨g,0,none⟩) a2 c1 n2 c2 bb l (c:Int) (d:Int) wr (by omega) (Aa HCR)).mono ?_;rw[Aa HB];rintro e w1 ⟨rfl,hb1⟩;have hbl1:=hbl.trans (hb1.mono (by omega));have hown1:=Av hown (Kp.of_below (e:=none) hb1) (by decide);clear hb1 hbl hown hB F0 x0 x1 HCR HCE;go_wp2
    go_roundw
    case rel=>exact⟨d+1,by omega,by go_num,by rw[Aa HS];exact hown1,hbl1⟩
    case measure=>simp[intOf];omega
   | true =>
    have HS:Hid (Rf.allTo (Al l) (l.map Prod.fst) (c:Int) (d+1)=cur++fs):=by unfold Hid;rw[hstep];simp
    clear hstep;go_wp2_with fail
    refine(Dv (some ⟨g,0,none⟩) a2 c1 n2 c2 bb l (c:Int) (d:Int) wr (by omega) (Aa HCR)).mono ?_;rw[Aa HB];rintro e w1 ⟨rfl,hb1⟩;have hbl1:=hbl.trans (hb1.mono (by omega));have hown1:=Av hown (Kp.of_below (e:=none) hb1) (by decide);have htd1:=htd.kp (Kp.of_below (e:=none) hb1) (by decide);have F1:=stay hb1 F0;have y0:=Ab F1 0;have z1:w1.cell? ⟨g,d*2+1,none⟩=some (.slice ua fs.length uc):=QC hb1 hglt ((Aa HCE _ (Aa HE3)).trans (Aa HE2));have hs1:=hbl1.size;simp at y0 hs1;have hlc:cur.length+fs.length≤100000:=by omega
    clear hb1 hbl hown hB F0 F1 x0 x1 HCR HCE;go_wp2_with (at_builtin;refine Rn rfl _ _ rfl (w.heap.size+1) bb _ cur fs ua fs.length uc rfl hown1 rfl htd1 hlc (by omega) ?_)
    intro v' w2 hown2 hgrow;have hbl2:=hbl1.grown hgrow (by omega) (fun j hj=>(hown1.lt j hj).1);clear hgrow hown1 hbl1;go_wp2
    go_roundw
    case rel=>exact⟨d+1,by omega,by go_num,by rw[Aa HS,List.length_append];exact hown2,hbl2⟩
    case measure=>simp[intOf];omega
  ·obtain rfl:d=c+1:=by omega
   have hd1:¬ ((c+1:Nat):Int)≤(c:Int):=by omega
   go_wp2;go_ret;exact⟨va,vc,rfl,Ba hown (by omega),hB⟩
theorem Tryz.infoField:(Tryz.prog.info? 231).map (fun i=>(i.zero,i.size,i.bytes))=some (some (.agg #[.int .i64 0,.int .i64 0,.int .i64 0,.int .i64 0]),4,32):=by kernel_rfl
structure Rf.Fld where
 owner:Int
 slot:Int
 t:Int × Int
def D9 (l:List Rf.Fld):List Value:=l.flatMap fun x=>[.int .i64 x.owner,.int .i64 x.slot,.int .i64 x.t.1,.int .i64 x.t.2]
theorem Pr (l:List Rf.Fld) (x:Rf.Fld):D9 (l++[x])=D9 l++[.int .i64 x.owner,.int .i64 x.slot,.int .i64 x.t.1,.int .i64 x.t.2]:=by simp[D9]
def Rf.ownTo (c base:Int) (own:List (Int × Int)):Nat→List Rf.Fld
 | 0=>[]
 | k+1=>Rf.ownTo c base own k++[⟨c,base+(k:Int),own.getD k (0,0)⟩]
def Rf.ownOf (T:List Int) (cs:List Rd.Cls) (c:Nat):List Rf.Fld :=
 Rf.ownTo (c:Int) (((Rf.all T cs c).length:Int)-(((cs.getD c ⟨0,[]⟩).fields.length:Nat):Int)) (cs.getD c ⟨0,[]⟩).fields (cs.getD c ⟨0,[]⟩).fields.length
def Rf.fieldsTo (T:List Int) (cs:List Rd.Cls):Nat→List Rf.Fld
 | 0=>[]
 | j+1=>Rf.fieldsTo T cs j++Rf.ownOf T cs (7+j)
theorem Dp (c base:Int) (own:List (Int × Int)) (k:Nat):(Rf.ownTo c base own k).length=k:=by
 induction k with
 | zero=>rfl
 | succ j ih=>simp[Rf.ownTo,ih]
theorem Oa (T:List Int) (cs:List Rd.Cls) (hf:∀ p∈cs,p.fields.length≤1000) (j:Nat):(Rf.fieldsTo T cs j).length≤1000*j:=by
 induction j with
 | zero=>simp[Rf.fieldsTo]
 | succ k ih =>
  rw[Rf.fieldsTo,List.length_append,Rf.ownOf,Dp];have:(cs.getD (7+k) ⟨0,[]⟩).fields.length≤1000:=by
   rw[List.getD_eq_getElem?_getD];rcases h:cs[7+k]? with _ | x
   ·simp
   ·simp;exact hf x (List.mem_of_getElem? h)
  omega
theorem Gw (a1 a2:Option Addr) (c1 n2 c2 bb:Nat) (l:List (Rd.Cls × Value)) (w:World) (hl:l.length≤13) (hl7:7≤l.length) (hfl:∀ p∈l,p.1.fields.length≤1000) (hc:RClssIn w bb (.slice a1 l.length c1) l) :
  Calls Tryz.prog 95 #[.agg #[.slice a1 l.length c1,.slice a2 n2 c2]] w fun e w' =>
   ∃ va vc,e=.returned (.slice va (Rf.fieldsTo (Al l) (l.map Prod.fst) (l.length-7)).length vc) ∧
    w'.ownsRow w.heap.size 231 4 (.slice va (Rf.fieldsTo (Al l) (l.map Prod.fst) (l.length-7)).length vc) (Rf.fieldsTo (Al l) (l.map Prod.fst) (l.length-7)).length (D9 (Rf.fieldsTo (Al l) (l.map Prod.fst) (l.length-7)))∧Below w.heap.size w w':=by
 have hfm:∀ p∈l.map Prod.fst,p.fields.length≤1000:=by intro p hp;obtain⟨x,hx,rfl⟩:=List.mem_map.1 hp;exact hfl x hx
 have hft:=fun j=>Oa (Al l) (l.map Prod.fst) hfm j;have hat:=fun (c:Nat) d=>Ic (Al l) (l.map Prod.fst) (c:Int) hfm d;obtain⟨i0,hi,hz0,hz1,hz2⟩:=info_parts Tryz.infoField;have hB0:Below (w.heap.size+1) (w.alloc (O11 a1 l.length c1 a2 n2 c2)) (w.alloc (O11 a1 l.length c1 a2 n2 c2)):=Below.refl _ _;go_enter Tryz.func95,Tryz.ntmps95;go_wp2
 go_loopw [3,4] (fun v i wr=>∃ j:Nat,7+j≤l.length∧i=.int .i64 (7+(j:Int))∧wr.ownsRow (w.heap.size+1) 231 4 v (Rf.fieldsTo (Al l) (l.map Prod.fst) j).length (D9 (Rf.fieldsTo (Al l) (l.map Prod.fst) j)) ∧
   Below (w.heap.size+1) (w.alloc (O11 a1 l.length c1 a2 n2 c2)) wr)
  (fun _ i _=>l.length-(intOf i).toNat)
 case atStart=>exact⟨0,by omega,rfl,World.ownsRow_nil _ _ _ _,hB0⟩
 case round =>
  clear hB0;obtain⟨j,hj,rfl,hown,hbl⟩:=hrel;obtain⟨va,vc,rfl⟩:=Af hown;have hsz:=hbl.size;simp at hsz;have hB:Below w.heap.size w wr:=(QN _).trans (hbl.mono (by omega));have F0:=(hbl.block w.heap.size (by omega)).trans (Ad w _);obtain⟨x0,x1⟩:=cl2 F0;simp at x0 x1;by_cases hjn:7+j<l.length
  ·have hcr:=hc.kp (Kp.of_below (e:=none) hB) (by decide) (by decide);have hd2:(7:Int)+(j:Int)<(l.length:Int):=by omega
   obtain⟨g,hg,hglt,_,hcell⟩:=Ao hcr.1 (by omega);obtain⟨e1,e2,e3⟩:=Cv l (7+j) hjn;have y1:=(hcell _ e3).trans e2;have htd:=hcr.2 _ (List.getElem_mem hjn);have hfd:=hfl _ (List.getElem_mem hjn);obtain⟨ua,uc,hu⟩:=Af htd;rw[hu]at htd y1;have hlen1:=hft j;have hlen2:=hat (7+j) (7+j+1);have hstep:Rf.fieldsTo (Al l) (l.map Prod.fst) (j+1)=Rf.fieldsTo (Al l) (l.map Prod.fst) j++Rf.ownTo ((7+j:Nat):Int) (((Rf.all (Al l) (l.map Prod.fst) (7+j)).length:Int)-((l[7+j].1.fields.length:Nat):Int)) l[7+j].1.fields l[7+j].1.fields.length:=by
    rw[Rf.fieldsTo,Rf.ownOf];have:(l.map Prod.fst).getD (7+j) ⟨0,[]⟩=l[7+j].1:=by simp[List.getD_eq_getElem?_getD,hjn]
    rw[this]
   generalize hfs:l[7+j].1.fields=fs at *;generalize hcur:Rf.fieldsTo (Al l) (l.map Prod.fst) j=cur at *;have it:((7:Int)+(j:Int)).toNat=7+j:=by omega
   have kb0:0≤(7:Int)+(j:Int):=by omega
   have HCR:=Ac hcr;have hA:=fun w1 hc1=>Nn a1 a2 c1 n2 c2 bb l (7+j) w1 hl hjn hfl hc1;rw[show ((7+j:Nat):Int)=7+(j:Int) by omega]at hA;have hlen3:(Rf.all (Al l) (l.map Prod.fst) (7+j)).length≤1000*(7+j+1):=hlen2;generalize hal:Rf.all (Al l) (l.map Prod.fst) (7+j)=al at *;have HA:=Ac hA;have HS:=Ac hstep;clear hcr hcell e1 e2 e3 hu hfs hcur hA hal hlen2 hstep;subst hg;go_wp2_with fail
   refine(Aa HA _ (Aa HCR)).mono ?_;rintro e w1 ⟨la,lc,rfl,_,hb1⟩;have hbl1:=hbl.trans (hb1.mono (by omega));have hown1:=Av hown (Kp.of_below (e:=none) hb1) (by decide);have htd1:=htd.kp (Kp.of_below (e:=none) hb1) (by decide);have F1:=stay hb1 F0;clear hb1 hbl hown hB F0 x0 x1 HCR HA htd y1;go_wp2
   rename World=>w1
   go_loopw [3,7] (fun v i wr=>∃ k:Nat,k≤fs.length∧i=.int .i64 (k:Int)∧wr.ownsRow (w.heap.size+1) 231 4 v (cur++Rf.ownTo (7+(j:Int)) ((al.length:Int)-(fs.length:Int)) fs k).length (D9 (cur++Rf.ownTo (7+(j:Int)) ((al.length:Int)-(fs.length:Int)) fs k)) ∧
     TysAt wr bb (.slice ua fs.length uc) fs∧wr.heap[w.heap.size]?=some (O11 (some ⟨g,0,none⟩) l.length c1 a2 n2 c2)∧Below (w.heap.size+1) (w.alloc (O11 (some ⟨g,0,none⟩) l.length c1 a2 n2 c2)) wr)
    (fun _ i _=>fs.length-(intOf i).toNat)
   case atStart=>exact⟨0,by omega,rfl,by simpa[Rf.ownTo] using hown1,htd1,F1,hbl1⟩
   case round =>
    clear hown1 htd1 F1 hbl1;obtain⟨k,hk,rfl,hown,htd,F0,hbl⟩:=hrel;obtain⟨va',vc',rfl⟩:=Af hown;have hsz2:=hbl.size;simp at hsz2;have hol:(Rf.ownTo (7+(j:Int)) ((al.length:Int)-(fs.length:Int)) fs k).length=k:=Dp _ _ _ _;by_cases hkn:k<fs.length
    ·obtain⟨g2,hg2,hg2lt,_,hcell2⟩:=Ao htd (by omega);obtain⟨t1,t2,t3⟩:=Az fs k hkn;have u0:=(hcell2 (k*2) (by omega)).trans t1;have u1:=(hcell2 (k*2+1) (by omega)).trans t2;have hst:Rf.ownTo (7+(j:Int)) ((al.length:Int)-(fs.length:Int)) fs (k+1)=Rf.ownTo (7+(j:Int)) ((al.length:Int)-(fs.length:Int)) fs k++[⟨7+(j:Int),(al.length:Int)-(fs.length:Int)+(k:Int),(fs[k].1,fs[k].2)⟩]:=by
      rw[Rf.ownTo];simp[List.getD_eq_getElem?_getD,hkn]
     generalize hf1:fs[k].1=f1 at *;generalize hf2:fs[k].2=f2 at *;have HST:=Ac hst;have hkb:(k:Int)<(fs.length:Int):=by omega
     have hlx:(cur++Rf.ownTo (7+(j:Int)) ((al.length:Int)-(fs.length:Int)) fs k).length≤20000:=by rw[List.length_append,hol];omega
     generalize hxs:cur++Rf.ownTo (7+(j:Int)) ((al.length:Int)-(fs.length:Int)) fs k=xs at *;have HXS:=Ac hxs;clear hst hcell2 t1 t2 t3 hf1 hf2 hxs hol;subst hg2;go_wp2_with (at_builtin;refine wpList_append_own _ rfl _ _ 172 rfl (w.heap.size+1) 231 i0 _ 4 32 Tryz.underlying172 hi hz0 hz1 hz2 rfl (by decide) _ _ _ rfl (hown.alloc _) ⟨wr.heap.size,0,none⟩ 1 1 [.int .i64 (7+(j:Int)),.int .i64 ((al.length:Int)-(fs.length:Int)+(k:Int)),.int .i64 f1,.int .i64 f2] rfl rfl ?c1 ?c2 ?c3 ?c4 ?c5 ?_)
     case c1=>exact Au _ _ _ _ rfl
     case c2=>intro u hu;simp at hu;rcases hu with rfl | rfl | rfl | rfl<;>rfl
     case c3=>unfold maxLen;omega
     case c4=>omega
     case c5=>simp;omega
     intro v' w2 hown2 hgrow _;have hK:=(Kp.alloc (e:=some 231) (b:=0) wr (O15 (7+(j:Int)) ((al.length:Int)-(fs.length:Int)+(k:Int)) f1 f2)).trans (Kp.of_grown hgrow (hown.alloc _));have htd2:=htd.kp (e:=some 231) (fun q cs t hq hc ht=>hK q cs t (Nat.zero_le _) hc ht) (by decide);have F2:=hK _ _ _ (Nat.zero_le _) F0 (by decide);have hbl2:=(hbl.alloc (by omega) _).grown hgrow (by simp;omega) (fun j hj=>(hown.lt j hj).1);have hown3:w2.ownsRow (w.heap.size+1) 231 4 v' (cur++Rf.ownTo (7+(j:Int)) ((al.length:Int)-(fs.length:Int)) fs (k+1)).length (D9 (cur++Rf.ownTo (7+(j:Int)) ((al.length:Int)-(fs.length:Int)) fs (k+1))):=by
      rw[Aa HST,← List.append_assoc,Aa HXS,Pr,List.length_append];exact hown2
     clear hgrow hown hown2 hbl htd F0 hK;go_wp2
     go_roundw
     case rel=>exact⟨k+1,by omega,by go_num,hown3,htd2,F2,hbl2⟩
     case measure=>simp[intOf];omega
    ·obtain rfl:k=fs.length:=by omega
     have HF:Hid (Rf.fieldsTo (Al l) (l.map Prod.fst) (j+1)=cur++Rf.ownTo (7+(j:Int)) ((al.length:Int)-(fs.length:Int)) fs fs.length):=by
      unfold Hid;rw[Aa HS,show ((7+j:Nat):Int)=7+(j:Int) by omega]
     clear HS hol;go_wp2
     go_roundw
     case rel=>exact⟨j+1,by omega,by go_num,by rw[Aa HF];exact hown,hbl⟩
     case measure=>simp[intOf];omega
  ·obtain rfl:j=l.length-7:=by omega
   have hd2:¬ (7:Int)+((l.length-7:Nat):Int)<(l.length:Int):=by omega
   go_wp2;go_ret;exact⟨va,vc,rfl,Ba hown (by omega),hB⟩
end Go.Proofs.YtcefiamkoincoaaGreat
